/-
  Layer 12: what the instructions make of a state, and the law's instruction: contracts.
-/
import Derived.Test.YtbaiokfjoglmiaaDoorCsL0
import Derived.Test.YtbaiokfjoglmiaaDoorCsE1
import Derived.Test.YtbaiokfjoglmiaaDoorCsE2
import Derived.Test.YtbaiokfjoglmiaaDoorCsE3
namespace Go.Proofs.YtbaiokfjoglmiaaDoor.Ex
open Go Go.RowKit
set_option maxHeartbeats 0
set_option maxRecDepth 1000000
set_option linter.unusedVariables false
theorem cs_nil {P : Int × Int → Prop} : ∀ c ∈ ([] : Cs), P c := fun _ h => by cases h
theorem cs_one {x y : Bool} (h : x = y) : ∀ c ∈ ([(b2i x, b2i y)] : Cs), c.1 = c.2 := oneC h
theorem inB_in {a : Int} (h : inB a = true) : 0 ≤ a ∧ a < 18446744073709551616 := of_decide_eq_true h
theorem inU_of {a : Int} (h : 0 ≤ a ∧ a < 18446744073709551616) : (inU a).1 = (inU a).2 := by
  unfold inU
  rw [decide_eq_true h]
  rfl
theorem rg_in {rs : List Int} (h : rs.all inB = true) (i : Nat) : 0 ≤ rs.getD i 0 ∧ rs.getD i 0 < 18446744073709551616 := by
  rw [List.getD_eq_getElem?_getD]
  cases hh : rs[i]? with
  | none => exact ⟨by decide, by decide⟩
  | some v => exact inB_in (List.all_eq_true.1 h v (List.mem_of_getElem? hh))
theorem low_in {wi : Bool} {v : Int} (h : 0 ≤ v ∧ v < 18446744073709551616) : 0 ≤ lowS wi v ∧ lowS wi v < 18446744073709551616 := by
  cases wi with
  | true => exact h
  | false => exact wr_in _
theorem exV_ok {x : In} (h : vP x.k x.al 0 0 x.wi false x.ds x.sr 0 0 x.im = true) : ∀ c ∈ exV x, c.1 = c.2 := by
  refine cs_one (y := false) ?_
  rw [h]; rfl
theorem exS_ok {x : In} (h : 0 ≤ x.sr ∧ x.sr < 16) : ∀ c ∈ exS x, c.1 = c.2 := by
  intro c hc
  simp only [exS, List.mem_cons, List.not_mem_nil, or_false] at hc
  rcases hc with rfl | rfl
  · simp only [decide_eq_true h.1, decide_eq_true h.2]; rfl
  · simp only [decide_eq_true (show 0 + x.sr.toNat * 1 < 16 by omega)]; rfl
theorem exU_ok {x : In} {b : Int} (hr : x.rs.all inB = true) (hb : 0 ≤ b ∧ b < 18446744073709551616) : ∀ c ∈ exU x b, c.1 = c.2 := by
  intro c hc
  simp only [exU, List.mem_cons, List.not_mem_nil, or_false] at hc
  rcases hc with rfl | rfl
  · exact inU_of (rg_in hr _)
  · exact inU_of hb
theorem exD_ok {x : In} (hr : x.rs.all inB = true) (hd : x.dv = false) : ∀ c ∈ exD x, c.1 = c.2 := by
  have h1 : 0 ≤ x.dh ∧ x.dh < 18446744073709551616 := low_in (rg_in hr _)
  have h2 : 0 ≤ x.dy ∧ x.dy < 18446744073709551616 := low_in (rg_in hr _)
  have h3 : ¬ x.dy ≤ x.dh := of_decide_eq_false hd
  unfold exD
  intro c hc
  rcases List.mem_cons.1 hc with rfl | hc
  · simp only [decide_eq_false h3]; rfl
  · cases hw : x.wi with
    | true =>
      rw [hw] at hc
      obtain rfl := List.mem_singleton.1 hc
      simp only [decide_eq_true (show 0 ≤ x.dh ∧ x.dh < x.dy ∧ x.dy < 18446744073709551616 by omega)]; rfl
    | false =>
      rw [hw] at hc
      simp only [cond_false, List.mem_cons, List.not_mem_nil, or_false] at hc
      rcases hc with rfl | rfl <;> (simp only [decide_eq_false (show ¬ x.dy = 0 by omega)]; rfl)
theorem okK_cases {k : Int} (h : okK k = true) : k = 1 ∨ k = 2 ∨ k = 3 ∨ k = 4 ∨ k = 5 ∨ k = 6 ∨ k = 7 ∨ k = 8 ∨ k = 9 ∨ k = 10 ∨ k = 11 ∨ k = 12 ∨ k = 21 := by
  simp only [okK, Bool.or_eq_true, beq_iff_eq] at h
  omega
theorem al_cases {a : Int} (h : aluOk a = true) : a = 0 ∨ a = 1 ∨ a = 4 ∨ a = 5 ∨ a = 6 ∨ a = 7 := by
  simp only [aluOk, Bool.or_eq_true, beq_iff_eq] at h
  omega
theorem regS_in {n : Int} (h : regS n = true) : 0 ≤ n ∧ n < 16 := by
  simp only [regS, Bool.and_eq_true, decide_eq_true_eq] at h
  omega
theorem ex_ret {x : In} {r0 r1 r2 r3 r4 r5 r6 r7 r8 r9 r10 r11 r12 r13 r14 r15 : Int} {z s c o : Bool} {pc : Int} (h : exRun false x r0 r1 r2 r3 r4 r5 r6 r7 r8 r9 r10 r11 r12 r13 r14 r15 z s c o pc = exAns x r0 r1 r2 r3 r4 r5 r6 r7 r8 r9 r10 r11 r12 r13 r14 r15 z s c o pc) (he : ∀ p ∈ exC x, p.1 = p.2) (w : World) (hL : Laid h12 w) : Calls Tryd.prog 21 ⟨exArg x r0 r1 r2 r3 r4 r5 r6 r7 r8 r9 r10 r11 r12 r13 r14 r15 z s c o pc⟩ w fun e w' => e = .returned (.tuple ⟨[x.st r0 r1 r2 r3 r4 r5 r6 r7 r8 r9 r10 r11 r12 r13 r14 r15 z s c o pc, .int .i64 0]⟩) ∧ Gr w w' :=
  reckonI_ok noNG (guard_ok exHook_ok) (exOrc false) 100000 300 h12 rfl rfl h he w hL
theorem c_exec (x : In) (r0 r1 r2 r3 r4 r5 r6 r7 r8 r9 r10 r11 r12 r13 r14 r15 : Int) (z s c o : Bool) (pc : Int) (hrs : x.rs = rsL r0 r1 r2 r3 r4 r5 r6 r7 r8 r9 r10 r11 r12 r13 r14 r15) (hok : x.ok = true) (w : World) (hL : Laid h12 w) : Calls Tryd.prog 21 ⟨exArg x r0 r1 r2 r3 r4 r5 r6 r7 r8 r9 r10 r11 r12 r13 r14 r15 z s c o pc⟩ w fun e w' => e = .returned (.tuple ⟨[x.st r0 r1 r2 r3 r4 r5 r6 r7 r8 r9 r10 r11 r12 r13 r14 r15 z s c o pc, .int .i64 0]⟩) ∧ Gr w w' := by
  obtain ⟨k, al, wi, ds, sr, im, rs⟩ := x
  simp only at hrs
  subst hrs
  simp only [In.ok, Bool.and_eq_true] at hok
  obtain ⟨hv, hk, hd, hr⟩ := hok
  have V := exV_ok (x := ⟨k, al, wi, ds, sr, im, rsL r0 r1 r2 r3 r4 r5 r6 r7 r8 r9 r10 r11 r12 r13 r14 r15⟩) hv
  rcases okK_cases hk with rfl | rfl | rfl | rfl | rfl | rfl | rfl | rfl | rfl | rfl | rfl | rfl | rfl
  · have hv2 : vP1 al 0 0 wi false ds sr 0 0 im = true := hv
    simp only [vP1, Bool.and_eq_true] at hv2
    obtain ⟨_, ⟨hds, hsr⟩, hx⟩ := hv2
    have hds := regS_in hds
    have hsr := regS_in hsr
    have hm := dsL_mem hds.1 hds.2
    exact ex_ret (List.map_inj_left.1 (ex_k1 al wi sr im r0 r1 r2 r3 r4 r5 r6 r7 r8 r9 r10 r11 r12 r13 r14 r15 z s c o pc) ds hm) (allC V (exS_ok hsr)) w hL
  · have hv2 : vP2 al 0 0 wi false ds sr 0 0 im = true := hv
    simp only [vP2, Bool.and_eq_true] at hv2
    obtain ⟨_, ⟨hds, hsr⟩, hx⟩ := hv2
    have hds := regS_in hds
    have hsr := regS_in hsr
    have hm := dsL_mem hds.1 hds.2
    exact ex_ret (List.map_inj_left.1 (ex_k2 al wi sr im r0 r1 r2 r3 r4 r5 r6 r7 r8 r9 r10 r11 r12 r13 r14 r15 z s c o pc) ds hm) (allC V (cs_nil)) w hL
  · have hv2 : vP3 al 0 0 wi false ds sr 0 0 im = true := hv
    simp only [vP3, Bool.and_eq_true] at hv2
    obtain ⟨_, ⟨hds, hsr⟩, hx⟩ := hv2
    have hds := regS_in hds
    have hsr := regS_in hsr
    have hm := dsL_mem hds.1 hds.2
    exact ex_ret (List.map_inj_left.1 (ex_k3 al wi sr im r0 r1 r2 r3 r4 r5 r6 r7 r8 r9 r10 r11 r12 r13 r14 r15 z s c o pc) ds hm) (allC V (cs_nil)) w hL
  · have hv2 : vP4 al 0 0 wi false ds sr 0 0 im = true := hv
    simp only [vP4, Bool.and_eq_true] at hv2
    obtain ⟨_, ⟨hds, hsr⟩, hx⟩ := hv2
    have hds := regS_in hds
    have hsr := regS_in hsr
    have hm := dsL_mem hds.1 hds.2
    rcases al_cases hx.1 with rfl | rfl | rfl | rfl | rfl | rfl
    · cases wi with
      | true => exact ex_ret (List.map_inj_left.1 (ex_k4_0t sr im r0 r1 r2 r3 r4 r5 r6 r7 r8 r9 r10 r11 r12 r13 r14 r15 z s c o pc) ds hm) (allC V (exS_ok hsr)) w hL
      | false => exact ex_ret (List.map_inj_left.1 (ex_k4_0f sr im r0 r1 r2 r3 r4 r5 r6 r7 r8 r9 r10 r11 r12 r13 r14 r15 z s c o pc) ds hm) (allC V (exS_ok hsr)) w hL
    · cases wi with
      | true => exact ex_ret (List.map_inj_left.1 (ex_k4_1t sr im r0 r1 r2 r3 r4 r5 r6 r7 r8 r9 r10 r11 r12 r13 r14 r15 z s c o pc) ds hm) (allC V (exS_ok hsr)) w hL
      | false => exact ex_ret (List.map_inj_left.1 (ex_k4_1f sr im r0 r1 r2 r3 r4 r5 r6 r7 r8 r9 r10 r11 r12 r13 r14 r15 z s c o pc) ds hm) (allC V (exS_ok hsr)) w hL
    · cases wi with
      | true => exact ex_ret (List.map_inj_left.1 (ex_k4_4t sr im r0 r1 r2 r3 r4 r5 r6 r7 r8 r9 r10 r11 r12 r13 r14 r15 z s c o pc) ds hm) (allC V (exS_ok hsr)) w hL
      | false => exact ex_ret (List.map_inj_left.1 (ex_k4_4f sr im r0 r1 r2 r3 r4 r5 r6 r7 r8 r9 r10 r11 r12 r13 r14 r15 z s c o pc) ds hm) (allC V (exS_ok hsr)) w hL
    · cases wi with
      | true => exact ex_ret (List.map_inj_left.1 (ex_k4_5t sr im r0 r1 r2 r3 r4 r5 r6 r7 r8 r9 r10 r11 r12 r13 r14 r15 z s c o pc) ds hm) (allC V (exS_ok hsr)) w hL
      | false => exact ex_ret (List.map_inj_left.1 (ex_k4_5f sr im r0 r1 r2 r3 r4 r5 r6 r7 r8 r9 r10 r11 r12 r13 r14 r15 z s c o pc) ds hm) (allC V (exS_ok hsr)) w hL
    · cases wi with
      | true => exact ex_ret (List.map_inj_left.1 (ex_k4_6t sr im r0 r1 r2 r3 r4 r5 r6 r7 r8 r9 r10 r11 r12 r13 r14 r15 z s c o pc) ds hm) (allC V (exS_ok hsr)) w hL
      | false => exact ex_ret (List.map_inj_left.1 (ex_k4_6f sr im r0 r1 r2 r3 r4 r5 r6 r7 r8 r9 r10 r11 r12 r13 r14 r15 z s c o pc) ds hm) (allC V (exS_ok hsr)) w hL
    · cases wi with
      | true => exact ex_ret (List.map_inj_left.1 (ex_k4_7t sr im r0 r1 r2 r3 r4 r5 r6 r7 r8 r9 r10 r11 r12 r13 r14 r15 z s c o pc) ds hm) (allC V (exS_ok hsr)) w hL
      | false => exact ex_ret (List.map_inj_left.1 (ex_k4_7f sr im r0 r1 r2 r3 r4 r5 r6 r7 r8 r9 r10 r11 r12 r13 r14 r15 z s c o pc) ds hm) (allC V (exS_ok hsr)) w hL
  · have hv2 : vP5 al 0 0 wi false ds sr 0 0 im = true := hv
    simp only [vP5, Bool.and_eq_true] at hv2
    obtain ⟨_, ⟨hds, hsr⟩, hx⟩ := hv2
    have hds := regS_in hds
    have hsr := regS_in hsr
    have hm := dsL_mem hds.1 hds.2
    rcases al_cases hx.1 with rfl | rfl | rfl | rfl | rfl | rfl
    · cases wi with
      | true => exact ex_ret (List.map_inj_left.1 (ex_k5_0t sr im r0 r1 r2 r3 r4 r5 r6 r7 r8 r9 r10 r11 r12 r13 r14 r15 z s c o pc) ds hm) (allC V (cs_nil)) w hL
      | false => exact ex_ret (List.map_inj_left.1 (ex_k5_0f sr im r0 r1 r2 r3 r4 r5 r6 r7 r8 r9 r10 r11 r12 r13 r14 r15 z s c o pc) ds hm) (allC V (cs_nil)) w hL
    · cases wi with
      | true => exact ex_ret (List.map_inj_left.1 (ex_k5_1t sr im r0 r1 r2 r3 r4 r5 r6 r7 r8 r9 r10 r11 r12 r13 r14 r15 z s c o pc) ds hm) (allC V (cs_nil)) w hL
      | false => exact ex_ret (List.map_inj_left.1 (ex_k5_1f sr im r0 r1 r2 r3 r4 r5 r6 r7 r8 r9 r10 r11 r12 r13 r14 r15 z s c o pc) ds hm) (allC V (cs_nil)) w hL
    · cases wi with
      | true => exact ex_ret (List.map_inj_left.1 (ex_k5_4t sr im r0 r1 r2 r3 r4 r5 r6 r7 r8 r9 r10 r11 r12 r13 r14 r15 z s c o pc) ds hm) (allC V (cs_nil)) w hL
      | false => exact ex_ret (List.map_inj_left.1 (ex_k5_4f sr im r0 r1 r2 r3 r4 r5 r6 r7 r8 r9 r10 r11 r12 r13 r14 r15 z s c o pc) ds hm) (allC V (cs_nil)) w hL
    · cases wi with
      | true => exact ex_ret (List.map_inj_left.1 (ex_k5_5t sr im r0 r1 r2 r3 r4 r5 r6 r7 r8 r9 r10 r11 r12 r13 r14 r15 z s c o pc) ds hm) (allC V (cs_nil)) w hL
      | false => exact ex_ret (List.map_inj_left.1 (ex_k5_5f sr im r0 r1 r2 r3 r4 r5 r6 r7 r8 r9 r10 r11 r12 r13 r14 r15 z s c o pc) ds hm) (allC V (cs_nil)) w hL
    · cases wi with
      | true => exact ex_ret (List.map_inj_left.1 (ex_k5_6t sr im r0 r1 r2 r3 r4 r5 r6 r7 r8 r9 r10 r11 r12 r13 r14 r15 z s c o pc) ds hm) (allC V (cs_nil)) w hL
      | false => exact ex_ret (List.map_inj_left.1 (ex_k5_6f sr im r0 r1 r2 r3 r4 r5 r6 r7 r8 r9 r10 r11 r12 r13 r14 r15 z s c o pc) ds hm) (allC V (cs_nil)) w hL
    · cases wi with
      | true => exact ex_ret (List.map_inj_left.1 (ex_k5_7t sr im r0 r1 r2 r3 r4 r5 r6 r7 r8 r9 r10 r11 r12 r13 r14 r15 z s c o pc) ds hm) (allC V (cs_nil)) w hL
      | false => exact ex_ret (List.map_inj_left.1 (ex_k5_7f sr im r0 r1 r2 r3 r4 r5 r6 r7 r8 r9 r10 r11 r12 r13 r14 r15 z s c o pc) ds hm) (allC V (cs_nil)) w hL
  · have hv2 : vP6 al 0 0 wi false ds sr 0 0 im = true := hv
    simp only [vP6, Bool.and_eq_true] at hv2
    obtain ⟨_, ⟨hds, hsr⟩, hx⟩ := hv2
    have hds := regS_in hds
    have hsr := regS_in hsr
    have hm := dsL_mem hds.1 hds.2
    cases wi with
    | true => exact ex_ret (List.map_inj_left.1 (ex_k6t al sr im r0 r1 r2 r3 r4 r5 r6 r7 r8 r9 r10 r11 r12 r13 r14 r15 z s c o pc) ds hm) (allC V (exS_ok hsr)) w hL
    | false => exact ex_ret (List.map_inj_left.1 (ex_k6f al sr im r0 r1 r2 r3 r4 r5 r6 r7 r8 r9 r10 r11 r12 r13 r14 r15 z s c o pc) ds hm) (allC V (exS_ok hsr)) w hL
  · have hv2 : vP7 al 0 0 wi false ds sr 0 0 im = true := hv
    simp only [vP7, Bool.and_eq_true] at hv2
    obtain ⟨_, ⟨hds, hsr⟩, hx⟩ := hv2
    have hds := regS_in hds
    have hsr := regS_in hsr
    have hm := dsL_mem hds.1 hds.2
    cases wi with
    | true => exact ex_ret (List.map_inj_left.1 (ex_k7t al sr im r0 r1 r2 r3 r4 r5 r6 r7 r8 r9 r10 r11 r12 r13 r14 r15 z s c o pc) ds hm) (allC V (cs_nil)) w hL
    | false => exact ex_ret (List.map_inj_left.1 (ex_k7f al sr im r0 r1 r2 r3 r4 r5 r6 r7 r8 r9 r10 r11 r12 r13 r14 r15 z s c o pc) ds hm) (allC V (cs_nil)) w hL
  · have hv2 : vP8 al 0 0 wi false ds sr 0 0 im = true := hv
    simp only [vP8, Bool.and_eq_true] at hv2
    obtain ⟨_, ⟨hds, hsr⟩, hx⟩ := hv2
    have hds := regS_in hds
    have hsr := regS_in hsr
    have hm := dsL_mem hds.1 hds.2
    cases wi with
    | true => exact ex_ret (List.map_inj_left.1 (ex_k8t al sr im r0 r1 r2 r3 r4 r5 r6 r7 r8 r9 r10 r11 r12 r13 r14 r15 z s c o pc) ds hm) (allC V (cs_nil)) w hL
    | false => exact ex_ret (List.map_inj_left.1 (ex_k8f al sr im r0 r1 r2 r3 r4 r5 r6 r7 r8 r9 r10 r11 r12 r13 r14 r15 z s c o pc) ds hm) (allC V (cs_nil)) w hL
  · have hv2 : vP9 al 0 0 wi false ds sr 0 0 im = true := hv
    simp only [vP9, Bool.and_eq_true] at hv2
    obtain ⟨_, ⟨hds, hsr⟩, hx⟩ := hv2
    have hds := regS_in hds
    have hsr := regS_in hsr
    have hm := dsL_mem hds.1 hds.2
    cases wi with
    | true => exact ex_ret (List.map_inj_left.1 (ex_k9t al sr im r0 r1 r2 r3 r4 r5 r6 r7 r8 r9 r10 r11 r12 r13 r14 r15 z s c o pc) ds hm) (allC V (exD_ok hr (by simpa using hd))) w hL
    | false => exact ex_ret (List.map_inj_left.1 (ex_k9f al sr im r0 r1 r2 r3 r4 r5 r6 r7 r8 r9 r10 r11 r12 r13 r14 r15 z s c o pc) ds hm) (allC V (exD_ok hr (by simpa using hd))) w hL
  · have hv2 : vP10 al 0 0 wi false ds sr 0 0 im = true := hv
    simp only [vP10, Bool.and_eq_true] at hv2
    obtain ⟨_, ⟨hds, hsr⟩, hx⟩ := hv2
    have hds := regS_in hds
    have hsr := regS_in hsr
    have hm := dsL_mem hds.1 hds.2
    exact ex_ret (List.map_inj_left.1 (ex_k10 al wi sr im r0 r1 r2 r3 r4 r5 r6 r7 r8 r9 r10 r11 r12 r13 r14 r15 z s c o pc) ds hm) (allC V (exS_ok hsr)) w hL
  · have hv2 : vP11 al 0 0 wi false ds sr 0 0 im = true := hv
    simp only [vP11, Bool.and_eq_true] at hv2
    obtain ⟨_, ⟨hds, hsr⟩, hx⟩ := hv2
    have hds := regS_in hds
    have hsr := regS_in hsr
    have hm := dsL_mem hds.1 hds.2
    exact ex_ret (List.map_inj_left.1 (ex_k11 al wi sr im r0 r1 r2 r3 r4 r5 r6 r7 r8 r9 r10 r11 r12 r13 r14 r15 z s c o pc) ds hm) (allC V (exU_ok hr (wr_in _))) w hL
  · have hv2 : vP12 al 0 0 wi false ds sr 0 0 im = true := hv
    simp only [vP12, Bool.and_eq_true] at hv2
    obtain ⟨_, ⟨hds, hsr⟩, hx⟩ := hv2
    have hds := regS_in hds
    have hsr := regS_in hsr
    have hm := dsL_mem hds.1 hds.2
    exact ex_ret (List.map_inj_left.1 (ex_k12 al wi sr im r0 r1 r2 r3 r4 r5 r6 r7 r8 r9 r10 r11 r12 r13 r14 r15 z s c o pc) ds hm) (allC V (exU_ok hr (rg_in hr 1))) w hL
  · have hv2 : vP21 al 0 0 wi false ds sr 0 0 im = true := hv
    simp only [vP21, Bool.and_eq_true] at hv2
    obtain ⟨_, ⟨hds, hsr⟩, hx⟩ := hv2
    have hds := regS_in hds
    have hsr := regS_in hsr
    have hm := dsL_mem hds.1 hds.2
    exact ex_ret (List.map_inj_left.1 (ex_k21 al wi sr im r0 r1 r2 r3 r4 r5 r6 r7 r8 r9 r10 r11 r12 r13 r14 r15 z s c o pc) ds hm) (allC V (cs_nil)) w hL
theorem okHook_ok : HookOk Tryd.prog okHook := by
  intro f args h v cs hv hc wb k s w H
  unfold okHook at hv
  split at hv
  · rename_i hf
    simp only [Bool.and_eq_true] at hf
    obtain rfl := Nat.eq_of_beq_eq_true hf.1
    split at hv
    · rename_i k al co si wi sh ds sr dp re im r0 r1 r2 r3 r4 r5 r6 r7 r8 r9 r10 r11 r12 r13 r14 r15 z s c o pc
      cases hv
      have e1 : co = 0 := hc (co, 0) (by simp)
      have e2 : si = 0 := hc (si, 0) (by simp)
      have e3 : sh = false := b2i_inj (b := false) (hc (b2i sh, 0) (by simp))
      have e4 : dp = 0 := hc (dp, 0) (by simp)
      have e5 : re = 0 := hc (re, 0) (by simp)
      have e6 : In.ok (⟨k, al, wi, ds, sr, im, rsL r0 r1 r2 r3 r4 r5 r6 r7 r8 r9 r10 r11 r12 r13 r14 r15⟩ : In) = true := b2i_inj (b := true) (hc (b2i (In.ok (⟨k, al, wi, ds, sr, im, rsL r0 r1 r2 r3 r4 r5 r6 r7 r8 r9 r10 r11 r12 r13 r14 r15⟩ : In)), 1) (by simp))
      subst e1; subst e2; subst e3; subst e4; subst e5
      exact c_exec (⟨k, al, wi, ds, sr, im, rsL r0 r1 r2 r3 r4 r5 r6 r7 r8 r9 r10 r11 r12 r13 r14 r15⟩ : In) r0 r1 r2 r3 r4 r5 r6 r7 r8 r9 r10 r11 r12 r13 r14 r15 z s c o pc rfl e6 w (H.laid hf.2 rfl)
    · cases hv
  · cases hv
theorem tm_in (a n : Int) (hn : 0 < n) : -n < Int.tmod a n ∧ Int.tmod a n < n := by
  rcases Int.le_total 0 a with h | h
  · rw [Int.tmod_eq_emod_of_nonneg h]
    have h1 := Int.emod_nonneg a (show n ≠ 0 by omega)
    have h2 := Int.emod_lt_of_pos a hn
    omega
  · have e : Int.tmod a n = -Int.tmod (-a) n := by rw [Int.neg_tmod, Int.neg_neg]
    rw [e, Int.tmod_eq_emod_of_nonneg (show 0 ≤ -a by omega)]
    have h1 := Int.emod_nonneg (-a) (show n ≠ 0 by omega)
    have h2 := Int.emod_lt_of_pos (-a) hn
    omega
theorem ix6_in (al : Int) : 0 ≤ ix6 al ∧ ix6 al < 6 := by
  have e : ix6 al = (Int.tmod al 6 + 6) % 6 := by
    unfold ix6
    have h1 := (tm_in al 6 (by decide)).2
    have h2 := (tm_in al 6 (by decide)).1
    rw [wi (by omega) (by omega), Int.tmod_eq_emod_of_nonneg (by omega)]
  rw [e]
  omega
theorem ix3_in (al : Int) : 0 ≤ ix3 al ∧ ix3 al < 3 := by
  have e : ix3 al = (Int.tmod al 3 + 3) % 3 := by
    unfold ix3
    have h1 := (tm_in al 3 (by decide)).2
    have h2 := (tm_in al 3 (by decide)).1
    rw [wi (by omega) (by omega), Int.tmod_eq_emod_of_nonneg (by omega)]
  rw [e]
  omega
theorem set6 (al : Int) : ∀ c ∈ ([(b2i (decide (0 ≤ ix6 al) && (decide (ix6 al < 6) && decide ((ix6 al).toNat < 6))), 1)] : Cs), c.1 = c.2 := by
  have h := ix6_in al
  exact cs_one (y := true) (by simp only [decide_eq_true h.1, decide_eq_true h.2, decide_eq_true (show (ix6 al).toNat < 6 by omega)]; rfl)
theorem set3 (al : Int) : ∀ c ∈ ([(b2i (decide (0 ≤ ix3 al) && (decide (ix3 al < 3) && decide ((ix3 al).toNat < 3))), 1)] : Cs), c.1 = c.2 := by
  have h := ix3_in al
  exact cs_one (y := true) (by simp only [decide_eq_true h.1, decide_eq_true h.2, decide_eq_true (show (ix3 al).toNat < 3 by omega)]; rfl)
theorem setHook_ok : HookOk Tryd.prog setHook := by
  intro f args h v cs hv hc wb kk s w H
  unfold setHook at hv
  split at hv
  · rename_i hf
    obtain rfl := Nat.eq_of_beq_eq_true hf
    split at hv
    · rename_i k al co si wi sh ds sr dp re im
      cases hv
      have e : okK k = true := b2i_inj (b := true) (hc (b2i (okK k), 1) (by simp))
      rcases okK_cases e with rfl | rfl | rfl | rfl | rfl | rfl | rfl | rfl | rfl | rfl | rfl | rfl | rfl
      · exact reckonI_ok noNG (noGuard _) (setOrc false) 100000 300 [] rfl rfl (st_1 al co si wi sh ds sr dp re im) (cs_nil) w (Laid.nil w)
      · exact reckonI_ok noNG (noGuard _) (setOrc false) 100000 300 [] rfl rfl (st_2 al co si wi sh ds sr dp re im) (cs_nil) w (Laid.nil w)
      · exact reckonI_ok noNG (noGuard _) (setOrc false) 100000 300 [] rfl rfl (st_3 al co si wi sh ds sr dp re im) (cs_nil) w (Laid.nil w)
      · exact reckonI_ok noNG (noGuard _) (setOrc false) 100000 300 [] rfl rfl (st_4 al co si wi sh ds sr dp re im) (set6 al) w (Laid.nil w)
      · exact reckonI_ok noNG (noGuard _) (setOrc false) 100000 300 [] rfl rfl (st_5 al co si wi sh ds sr dp re im) (set6 al) w (Laid.nil w)
      · exact reckonI_ok noNG (noGuard _) (setOrc false) 100000 300 [] rfl rfl (st_6 al co si wi sh ds sr dp re im) (cs_nil) w (Laid.nil w)
      · exact reckonI_ok noNG (noGuard _) (setOrc false) 100000 300 [] rfl rfl (st_7 al co si wi sh ds sr dp re im) (cs_nil) w (Laid.nil w)
      · exact reckonI_ok noNG (noGuard _) (setOrc false) 100000 300 [] rfl rfl (st_8 al co si wi sh ds sr dp re im) (cs_nil) w (Laid.nil w)
      · exact reckonI_ok noNG (noGuard _) (setOrc false) 100000 300 [] rfl rfl (st_9 al co si wi sh ds sr dp re im) (cs_nil) w (Laid.nil w)
      · exact reckonI_ok noNG (noGuard _) (setOrc false) 100000 300 [] rfl rfl (st_10 al co si wi sh ds sr dp re im) (cs_nil) w (Laid.nil w)
      · cases wi with
        | true => exact reckonI_ok noNG (noGuard _) (setOrc false) 100000 300 [] rfl rfl (st_11t al co si sh ds sr dp re im) (set3 al) w (Laid.nil w)
        | false => exact reckonI_ok noNG (noGuard _) (setOrc false) 100000 300 [] rfl rfl (st_11f al co si sh ds sr dp re im) (set3 al) w (Laid.nil w)
      · exact reckonI_ok noNG (noGuard _) (setOrc false) 100000 300 [] rfl rfl (st_12 al co si wi sh ds sr dp re im) (set3 al) w (Laid.nil w)
      · exact reckonI_ok noNG (noGuard _) (setOrc false) 100000 300 [] rfl rfl (st_21 al co si wi sh ds sr dp re im) (cs_nil) w (Laid.nil w)
    · cases hv
  · cases hv
theorem laHook_ok : HookOk Tryd.prog laHook := orHook_ok setHook_ok (orHook_ok okHook_ok doneHook_ok)
end Go.Proofs.YtbaiokfjoglmiaaDoor.Ex
