/-
  Layer 12: the law CpuStays.
-/
import Derived.Test.YtbaiokfjoglmiaaDoorCsM
import Derived.Test.YtbaiokfjoglmiaaDoorCsO
import Derived.Test.YtbaiokfjoglmiaaDoorCsL1
import Derived.Test.YtbaiokfjoglmiaaDoorCsL2
import Derived.Test.YtbaiokfjoglmiaaDoorCsL3
import Derived.Test.YtbaiokfjoglmiaaDoorCsL4
import Derived.Test.YtbaiokfjoglmiaaDoorCsL5
import Derived.Test.YtbaiokfjoglmiaaDoorCsL6
import Derived.Test.YtbaiokfjoglmiaaDoorCsL7
import Derived.Test.YtbaiokfjoglmiaaDoorCsL8
namespace Go.Proofs.YtbaiokfjoglmiaaDoor.Ex
open Go Go.RowKit
set_option maxHeartbeats 0
set_option maxRecDepth 1000000
set_option linter.unusedVariables false
theorem pick {P Q : Int → Option (Value × List Int)} (ha : dsA.map P = dsA.map Q) (hb : dsB.map P = dsB.map Q) {d : Int} (h : 0 ≤ d ∧ d < 16) : P d = Q d := by
  by_cases e : d < 8
  · exact List.map_inj_left.1 ha d (by simp only [dsA, List.mem_cons, List.not_mem_nil, or_false]; omega)
  · exact List.map_inj_left.1 hb d (by simp only [dsB, List.mem_cons, List.not_mem_nil, or_false]; omega)
theorem lY_ok {cl : Cl} (hc : cl.p8 = false ∨ cl.p9 = false) {d : Int} (h : d ∈ dsL) : LoopYOk Tryd.prog (lY cl.p8 cl.p9 d) := by
  cases h8 : cl.p8 with
  | true =>
    rcases hc with e | e
    · rw [h8] at e; cases e
    · rw [e]; exact lY_8 h
  | false =>
    cases h9 : cl.p9 with
    | true => exact lY_9 h
    | false => exact lY_n h
theorem fin {cl : Cl} {d : Int} {k al co si : Int} {wi sh : Bool} {ds sr dp re im r0 r1 r2 r3 r4 r5 r6 r7 r8 r9 r10 r11 r12 r13 r14 r15 : Int} {z s c o : Bool} {pc : Int} (h : laRun2 cl d k al co si wi sh ds sr dp re im r0 r1 r2 r3 r4 r5 r6 r7 r8 r9 r10 r11 r12 r13 r14 r15 z s c o pc = laAns cl d k al wi ds sr im r0 r1 r2 r3 r4 r5 r6 r7 r8 r9 r10 r11 r12 r13 r14 r15 z s c o pc) (hc : cl.p8 = false ∨ cl.p9 = false) (hd : 0 ≤ d ∧ d < 16)
    (he : ∀ p ∈ laC cl d k (seI k al wi ds sr im r0 r1 r2 r3 r4 r5 r6 r7 r8 r9 r10 r11 r12 r13 r14 r15) r0 r1 r2 r3 r4 r5 r6 r7 r8 r9 r10 r11 r12 r13 r14 r15 z s c o pc, p.1 = p.2) (w : World) (hL : Laid h12 w) : Calls Tryd.prog 12 #[.agg ⟨xA k al co si wi sh ds sr dp re im⟩, stA r0 r1 r2 r3 r4 r5 r6 r7 r8 r9 r10 r11 r12 r13 r14 r15 z s c o pc] w fun e w' => e = .returned (.bool true) ∧ Gr w w' :=
  reckonP_ok noNG (lift_ok (guard_ok laHook_ok)) (loopYHook_low _) (loopYHook_ok (fun e hm => by
    obtain rfl := List.mem_singleton.1 hm
    exact lY_ok hc (dsL_mem hd.1 hd.2))) (laOrc cl d) 100000 300 h12 rfl rfl h he w hL
theorem zz {y : In} (h : y.ff = false) (z : Bool) : (y.z z == z) = true := by unfold In.z; rw [h]; exact beq_self_eq_true z
theorem ss {y : In} (h : y.ff = false) (z : Bool) : (y.s z == z) = true := by unfold In.s; rw [h]; exact beq_self_eq_true z
theorem cc {y : In} (h : y.ff = false) (z : Bool) : (y.c z == z) = true := by unfold In.c; rw [h]; exact beq_self_eq_true z
theorem oo {y : In} (h : y.ff = false) (z : Bool) : (y.o z == z) = true := by unfold In.o; rw [h]; exact beq_self_eq_true z
theorem vP_rng {k al co si : Int} {wi sh : Bool} {ds sr dp re im : Int} (h : vP k al co si wi sh ds sr dp re im = true) : 1 ≤ k ∧ k ≤ 21 := by
  by_cases e : 1 ≤ k ∧ k ≤ 21
  · exact e
  · exfalso
    have ne : ∀ n : Int, 1 ≤ n → n ≤ 21 → ¬ k = n := fun n h1 h2 h3 => e (by omega)
    have : vP k al co si wi sh ds sr dp re im = false := by
      simp only [vP, if_neg (ne 1 (by decide) (by decide)), if_neg (ne 2 (by decide) (by decide)), if_neg (ne 3 (by decide) (by decide)), if_neg (ne 4 (by decide) (by decide)), if_neg (ne 5 (by decide) (by decide)), if_neg (ne 6 (by decide) (by decide)), if_neg (ne 7 (by decide) (by decide)), if_neg (ne 8 (by decide) (by decide)), if_neg (ne 9 (by decide) (by decide)), if_neg (ne 10 (by decide) (by decide)), if_neg (ne 11 (by decide) (by decide)), if_neg (ne 12 (by decide) (by decide)), if_neg (ne 13 (by decide) (by decide)), if_neg (ne 14 (by decide) (by decide)), if_neg (ne 15 (by decide) (by decide)), if_neg (ne 16 (by decide) (by decide)), if_neg (ne 17 (by decide) (by decide)), if_neg (ne 18 (by decide) (by decide)), if_neg (ne 19 (by decide) (by decide)), if_neg (ne 20 (by decide) (by decide)), if_neg (ne 21 (by decide) (by decide))]
    rw [this] at h
    cases h
theorem bad_any {k al co si : Int} {wi sh : Bool} {ds sr dp re im : Int} (hk : okK k = false) : badB k al co si wi sh ds sr dp re im = true := by
  unfold badB
  cases hv : vP k al co si wi sh ds sr dp re im with
  | false => rfl
  | true =>
    have hr := vP_rng hv
    simp only [okK, Bool.or_eq_false_iff, beq_eq_false_iff_ne] at hk
    rw [decide_eq_true (show 13 ≤ k by omega), decide_eq_true (show k ≤ 20 by omega)]
    rfl
theorem stays_A (k al co si : Int) (wi sh : Bool) (ds sr dp re im r0 r1 r2 r3 r4 r5 r6 r7 r8 r9 r10 r11 r12 r13 r14 r15 : Int) (z s c o : Bool) (pc : Int) (hk : okK k = false) (w : World) (hL : Laid h12 w) : Calls Tryd.prog 12 #[.agg ⟨xA k al co si wi sh ds sr dp re im⟩, stA r0 r1 r2 r3 r4 r5 r6 r7 r8 r9 r10 r11 r12 r13 r14 r15 z s c o pc] w fun e w' => e = .returned (.bool true) ∧ Gr w w' := by
  refine reckonI_ok noNG (guard_ok hkA_ok) noOrc 100000 300 h12 rfl rfl (la_A k al co si wi sh ds sr dp re im r0 r1 r2 r3 r4 r5 r6 r7 r8 r9 r10 r11 r12 r13 r14 r15 z s c o pc) ?_ w hL
  have hb := bad_any (al := al) (co := co) (si := si) (wi := wi) (sh := sh) (ds := ds) (sr := sr) (dp := dp) (re := re) (im := im) hk
  simp only [okK, Bool.or_eq_false_iff] at hk
  obtain ⟨k1, k2, k3, k4, k5, k6, k7, k8, k9, k10, k11, k12, k21⟩ := hk
  exact consB (y := false) k1 (consB (y := false) k6 (consB (y := false) k10 (consB (y := false) k4 (consB (y := false) k5 (consB (y := false) k2 (consB (y := false) k3 (consB (y := false) k7 (consB (y := false) k8 (consB (y := false) k9 (consB (y := false) k11 (consB (y := false) k12 (consB (y := false) k21 (consB (y := true) hb cs_nil)))))))))))))
theorem stays_B (k al co si : Int) (wi sh : Bool) (ds sr dp re im r0 r1 r2 r3 r4 r5 r6 r7 r8 r9 r10 r11 r12 r13 r14 r15 : Int) (z s c o : Bool) (pc : Int) (hk : okK k = true) (hD : (k == 9 && (seI k al wi ds sr im r0 r1 r2 r3 r4 r5 r6 r7 r8 r9 r10 r11 r12 r13 r14 r15).dv) = true) (w : World) (hL : Laid h12 w) : Calls Tryd.prog 12 #[.agg ⟨xA k al co si wi sh ds sr dp re im⟩, stA r0 r1 r2 r3 r4 r5 r6 r7 r8 r9 r10 r11 r12 r13 r14 r15 z s c o pc] w fun e w' => e = .returned (.bool true) ∧ Gr w w' := by
  refine reckonI_ok noNG (guard_ok hkB_ok) noOrc 100000 300 h12 rfl rfl (la_B k al co si wi sh ds sr dp re im r0 r1 r2 r3 r4 r5 r6 r7 r8 r9 r10 r11 r12 r13 r14 r15 z s c o pc) ?_ w hL
  refine consB (y := true) hk (cons_ok rfl (cons_ok rfl (cons_ok rfl (cons_ok rfl (cons_ok rfl (consB (y := true) ?_ cs_nil))))))
  unfold In.okD
  rw [Bool.and_eq_true]
  exact ⟨set_ok k al wi ds sr im hk, hD⟩
theorem stays_1 (al co si : Int) (wi sh : Bool) (ds sr dp re im r0 r1 r2 r3 r4 r5 r6 r7 r8 r9 r10 r11 r12 r13 r14 r15 : Int) (z s c o : Bool) (pc : Int) (hr : (rsL r0 r1 r2 r3 r4 r5 r6 r7 r8 r9 r10 r11 r12 r13 r14 r15).all inB = true) (hD : ((1 : Int) == 9 && (seI 1 al wi ds sr im r0 r1 r2 r3 r4 r5 r6 r7 r8 r9 r10 r11 r12 r13 r14 r15).dv) = false) (w : World) (hL : Laid h12 w) : Calls Tryd.prog 12 #[.agg ⟨xA 1 al co si wi sh ds sr dp re im⟩, stA r0 r1 r2 r3 r4 r5 r6 r7 r8 r9 r10 r11 r12 r13 r14 r15 z s c o pc] w fun e w' => e = .returned (.bool true) ∧ Gr w w' := by
  have hk : okK 1 = true := rfl
  have hd := sDs_in 1 ds
  have hy : In.ok (seI 1 al wi ds sr im r0 r1 r2 r3 r4 r5 r6 r7 r8 r9 r10 r11 r12 r13 r14 r15) = true := by
    unfold In.ok
    rw [Bool.and_eq_true, Bool.and_eq_true, Bool.and_eq_true]
    exact ⟨set_ok 1 al wi ds sr im hk, hk, by rw [show (!((seI 1 al wi ds sr im r0 r1 r2 r3 r4 r5 r6 r7 r8 r9 r10 r11 r12 r13 r14 r15).k == 9 && (seI 1 al wi ds sr im r0 r1 r2 r3 r4 r5 r6 r7 r8 r9 r10 r11 r12 r13 r14 r15).dv)) = !((1 : Int) == 9 && (seI 1 al wi ds sr im r0 r1 r2 r3 r4 r5 r6 r7 r8 r9 r10 r11 r12 r13 r14 r15).dv) from rfl, hD]; rfl, hr⟩
  cases h7 : ((seI 1 al wi ds sr im r0 r1 r2 r3 r4 r5 r6 r7 r8 r9 r10 r11 r12 r13 r14 r15).al == 7) with
  | false =>
    cases hW : (seI 1 al wi ds sr im r0 r1 r2 r3 r4 r5 r6 r7 r8 r9 r10 r11 r12 r13 r14 r15).wi with
    | false =>
      exact fin (cl := ⟨false, false, false, false, false, false, true, true, true, true, false, false, false⟩) (d := sDs 1 ds) (pick (la_4a 1 al co si wi sh ds sr dp re im r0 r1 r2 r3 r4 r5 r6 r7 r8 r9 r10 r11 r12 r13 r14 r15 z s c o pc) (la_4b 1 al co si wi sh ds sr dp re im r0 r1 r2 r3 r4 r5 r6 r7 r8 r9 r10 r11 r12 r13 r14 r15 z s c o pc) hd) (.inl rfl) hd (laC_ok hk hy rfl rfl rfl rfl rfl rfl rfl (zz rfl z) (fun _ => ss rfl s) (fun _ _ => cc rfl c) (fun _ _ _ => oo rfl o) rfl (fun _ _ => h7) hW (fun h => absurd h (by decide)) (fun _ _ _ => one_low rfl rfl rfl hW rfl) (fun _ h => absurd h (by decide))) w hL
    | true =>
      exact fin (cl := ⟨false, false, false, false, false, false, true, true, true, true, false, false, true⟩) (d := sDs 1 ds) (pick (la_5a 1 al co si wi sh ds sr dp re im r0 r1 r2 r3 r4 r5 r6 r7 r8 r9 r10 r11 r12 r13 r14 r15 z s c o pc) (la_5b 1 al co si wi sh ds sr dp re im r0 r1 r2 r3 r4 r5 r6 r7 r8 r9 r10 r11 r12 r13 r14 r15 z s c o pc) hd) (.inl rfl) hd (laC_ok hk hy rfl rfl rfl rfl rfl rfl rfl (zz rfl z) (fun _ => ss rfl s) (fun _ _ => cc rfl c) (fun _ _ _ => oo rfl o) rfl (fun _ _ => h7) hW (fun h => absurd h (by decide)) (fun h _ _ => absurd h (by decide)) (fun _ h => absurd h (by decide))) w hL
  | true =>
    cases hW : (seI 1 al wi ds sr im r0 r1 r2 r3 r4 r5 r6 r7 r8 r9 r10 r11 r12 r13 r14 r15).wi with
    | false =>
      exact fin (cl := ⟨false, false, false, false, false, false, true, true, true, true, false, true, false⟩) (d := sDs 1 ds) (pick (la_6a 1 al co si wi sh ds sr dp re im r0 r1 r2 r3 r4 r5 r6 r7 r8 r9 r10 r11 r12 r13 r14 r15 z s c o pc) (la_6b 1 al co si wi sh ds sr dp re im r0 r1 r2 r3 r4 r5 r6 r7 r8 r9 r10 r11 r12 r13 r14 r15 z s c o pc) hd) (.inl rfl) hd (laC_ok hk hy rfl rfl rfl rfl rfl rfl rfl (zz rfl z) (fun _ => ss rfl s) (fun _ _ => cc rfl c) (fun _ _ _ => oo rfl o) rfl (fun _ _ => h7) hW (fun h => absurd h (by decide)) (fun _ _ _ => one_low rfl rfl rfl hW rfl) (fun _ h => absurd h (by decide))) w hL
    | true =>
      exact fin (cl := ⟨false, false, false, false, false, false, true, true, true, true, false, true, true⟩) (d := sDs 1 ds) (pick (la_7a 1 al co si wi sh ds sr dp re im r0 r1 r2 r3 r4 r5 r6 r7 r8 r9 r10 r11 r12 r13 r14 r15 z s c o pc) (la_7b 1 al co si wi sh ds sr dp re im r0 r1 r2 r3 r4 r5 r6 r7 r8 r9 r10 r11 r12 r13 r14 r15 z s c o pc) hd) (.inl rfl) hd (laC_ok hk hy rfl rfl rfl rfl rfl rfl rfl (zz rfl z) (fun _ => ss rfl s) (fun _ _ => cc rfl c) (fun _ _ _ => oo rfl o) rfl (fun _ _ => h7) hW (fun h => absurd h (by decide)) (fun h _ _ => absurd h (by decide)) (fun _ h => absurd h (by decide))) w hL
theorem stays_2 (al co si : Int) (wi sh : Bool) (ds sr dp re im r0 r1 r2 r3 r4 r5 r6 r7 r8 r9 r10 r11 r12 r13 r14 r15 : Int) (z s c o : Bool) (pc : Int) (hr : (rsL r0 r1 r2 r3 r4 r5 r6 r7 r8 r9 r10 r11 r12 r13 r14 r15).all inB = true) (hD : ((2 : Int) == 9 && (seI 2 al wi ds sr im r0 r1 r2 r3 r4 r5 r6 r7 r8 r9 r10 r11 r12 r13 r14 r15).dv) = false) (w : World) (hL : Laid h12 w) : Calls Tryd.prog 12 #[.agg ⟨xA 2 al co si wi sh ds sr dp re im⟩, stA r0 r1 r2 r3 r4 r5 r6 r7 r8 r9 r10 r11 r12 r13 r14 r15 z s c o pc] w fun e w' => e = .returned (.bool true) ∧ Gr w w' := by
  have hk : okK 2 = true := rfl
  have hd := sDs_in 2 ds
  have hy : In.ok (seI 2 al wi ds sr im r0 r1 r2 r3 r4 r5 r6 r7 r8 r9 r10 r11 r12 r13 r14 r15) = true := by
    unfold In.ok
    rw [Bool.and_eq_true, Bool.and_eq_true, Bool.and_eq_true]
    exact ⟨set_ok 2 al wi ds sr im hk, hk, by rw [show (!((seI 2 al wi ds sr im r0 r1 r2 r3 r4 r5 r6 r7 r8 r9 r10 r11 r12 r13 r14 r15).k == 9 && (seI 2 al wi ds sr im r0 r1 r2 r3 r4 r5 r6 r7 r8 r9 r10 r11 r12 r13 r14 r15).dv)) = !((2 : Int) == 9 && (seI 2 al wi ds sr im r0 r1 r2 r3 r4 r5 r6 r7 r8 r9 r10 r11 r12 r13 r14 r15).dv) from rfl, hD]; rfl, hr⟩
  cases h7 : ((seI 2 al wi ds sr im r0 r1 r2 r3 r4 r5 r6 r7 r8 r9 r10 r11 r12 r13 r14 r15).al == 7) with
  | false =>
    cases hW : (seI 2 al wi ds sr im r0 r1 r2 r3 r4 r5 r6 r7 r8 r9 r10 r11 r12 r13 r14 r15).wi with
    | false =>
      exact fin (cl := ⟨false, false, false, false, false, false, true, true, true, true, false, false, false⟩) (d := sDs 2 ds) (pick (la_4a 2 al co si wi sh ds sr dp re im r0 r1 r2 r3 r4 r5 r6 r7 r8 r9 r10 r11 r12 r13 r14 r15 z s c o pc) (la_4b 2 al co si wi sh ds sr dp re im r0 r1 r2 r3 r4 r5 r6 r7 r8 r9 r10 r11 r12 r13 r14 r15 z s c o pc) hd) (.inl rfl) hd (laC_ok hk hy rfl rfl rfl rfl rfl rfl rfl (zz rfl z) (fun _ => ss rfl s) (fun _ _ => cc rfl c) (fun _ _ _ => oo rfl o) rfl (fun _ _ => h7) hW (fun h => absurd h (by decide)) (fun _ _ _ => one_low rfl rfl rfl hW rfl) (fun _ h => absurd h (by decide))) w hL
    | true =>
      exact fin (cl := ⟨false, false, false, false, false, false, true, true, true, true, false, false, true⟩) (d := sDs 2 ds) (pick (la_5a 2 al co si wi sh ds sr dp re im r0 r1 r2 r3 r4 r5 r6 r7 r8 r9 r10 r11 r12 r13 r14 r15 z s c o pc) (la_5b 2 al co si wi sh ds sr dp re im r0 r1 r2 r3 r4 r5 r6 r7 r8 r9 r10 r11 r12 r13 r14 r15 z s c o pc) hd) (.inl rfl) hd (laC_ok hk hy rfl rfl rfl rfl rfl rfl rfl (zz rfl z) (fun _ => ss rfl s) (fun _ _ => cc rfl c) (fun _ _ _ => oo rfl o) rfl (fun _ _ => h7) hW (fun h => absurd h (by decide)) (fun h _ _ => absurd h (by decide)) (fun _ h => absurd h (by decide))) w hL
  | true =>
    cases hW : (seI 2 al wi ds sr im r0 r1 r2 r3 r4 r5 r6 r7 r8 r9 r10 r11 r12 r13 r14 r15).wi with
    | false =>
      exact fin (cl := ⟨false, false, false, false, false, false, true, true, true, true, false, true, false⟩) (d := sDs 2 ds) (pick (la_6a 2 al co si wi sh ds sr dp re im r0 r1 r2 r3 r4 r5 r6 r7 r8 r9 r10 r11 r12 r13 r14 r15 z s c o pc) (la_6b 2 al co si wi sh ds sr dp re im r0 r1 r2 r3 r4 r5 r6 r7 r8 r9 r10 r11 r12 r13 r14 r15 z s c o pc) hd) (.inl rfl) hd (laC_ok hk hy rfl rfl rfl rfl rfl rfl rfl (zz rfl z) (fun _ => ss rfl s) (fun _ _ => cc rfl c) (fun _ _ _ => oo rfl o) rfl (fun _ _ => h7) hW (fun h => absurd h (by decide)) (fun _ _ _ => one_low rfl rfl rfl hW rfl) (fun _ h => absurd h (by decide))) w hL
    | true =>
      exact fin (cl := ⟨false, false, false, false, false, false, true, true, true, true, false, true, true⟩) (d := sDs 2 ds) (pick (la_7a 2 al co si wi sh ds sr dp re im r0 r1 r2 r3 r4 r5 r6 r7 r8 r9 r10 r11 r12 r13 r14 r15 z s c o pc) (la_7b 2 al co si wi sh ds sr dp re im r0 r1 r2 r3 r4 r5 r6 r7 r8 r9 r10 r11 r12 r13 r14 r15 z s c o pc) hd) (.inl rfl) hd (laC_ok hk hy rfl rfl rfl rfl rfl rfl rfl (zz rfl z) (fun _ => ss rfl s) (fun _ _ => cc rfl c) (fun _ _ _ => oo rfl o) rfl (fun _ _ => h7) hW (fun h => absurd h (by decide)) (fun h _ _ => absurd h (by decide)) (fun _ h => absurd h (by decide))) w hL
theorem stays_3 (al co si : Int) (wi sh : Bool) (ds sr dp re im r0 r1 r2 r3 r4 r5 r6 r7 r8 r9 r10 r11 r12 r13 r14 r15 : Int) (z s c o : Bool) (pc : Int) (hr : (rsL r0 r1 r2 r3 r4 r5 r6 r7 r8 r9 r10 r11 r12 r13 r14 r15).all inB = true) (hD : ((3 : Int) == 9 && (seI 3 al wi ds sr im r0 r1 r2 r3 r4 r5 r6 r7 r8 r9 r10 r11 r12 r13 r14 r15).dv) = false) (w : World) (hL : Laid h12 w) : Calls Tryd.prog 12 #[.agg ⟨xA 3 al co si wi sh ds sr dp re im⟩, stA r0 r1 r2 r3 r4 r5 r6 r7 r8 r9 r10 r11 r12 r13 r14 r15 z s c o pc] w fun e w' => e = .returned (.bool true) ∧ Gr w w' := by
  have hk : okK 3 = true := rfl
  have hd := sDs_in 3 ds
  have hy : In.ok (seI 3 al wi ds sr im r0 r1 r2 r3 r4 r5 r6 r7 r8 r9 r10 r11 r12 r13 r14 r15) = true := by
    unfold In.ok
    rw [Bool.and_eq_true, Bool.and_eq_true, Bool.and_eq_true]
    exact ⟨set_ok 3 al wi ds sr im hk, hk, by rw [show (!((seI 3 al wi ds sr im r0 r1 r2 r3 r4 r5 r6 r7 r8 r9 r10 r11 r12 r13 r14 r15).k == 9 && (seI 3 al wi ds sr im r0 r1 r2 r3 r4 r5 r6 r7 r8 r9 r10 r11 r12 r13 r14 r15).dv)) = !((3 : Int) == 9 && (seI 3 al wi ds sr im r0 r1 r2 r3 r4 r5 r6 r7 r8 r9 r10 r11 r12 r13 r14 r15).dv) from rfl, hD]; rfl, hr⟩
  cases h7 : ((seI 3 al wi ds sr im r0 r1 r2 r3 r4 r5 r6 r7 r8 r9 r10 r11 r12 r13 r14 r15).al == 7) with
  | false =>
    cases hW : (seI 3 al wi ds sr im r0 r1 r2 r3 r4 r5 r6 r7 r8 r9 r10 r11 r12 r13 r14 r15).wi with
    | false =>
      exact fin (cl := ⟨false, false, false, false, false, false, true, true, true, true, false, false, false⟩) (d := sDs 3 ds) (pick (la_4a 3 al co si wi sh ds sr dp re im r0 r1 r2 r3 r4 r5 r6 r7 r8 r9 r10 r11 r12 r13 r14 r15 z s c o pc) (la_4b 3 al co si wi sh ds sr dp re im r0 r1 r2 r3 r4 r5 r6 r7 r8 r9 r10 r11 r12 r13 r14 r15 z s c o pc) hd) (.inl rfl) hd (laC_ok hk hy rfl rfl rfl rfl rfl rfl rfl (zz rfl z) (fun _ => ss rfl s) (fun _ _ => cc rfl c) (fun _ _ _ => oo rfl o) rfl (fun _ _ => h7) hW (fun h => absurd h (by decide)) (fun _ _ _ => one_low rfl rfl rfl hW rfl) (fun _ h => absurd h (by decide))) w hL
    | true =>
      exact fin (cl := ⟨false, false, false, false, false, false, true, true, true, true, false, false, true⟩) (d := sDs 3 ds) (pick (la_5a 3 al co si wi sh ds sr dp re im r0 r1 r2 r3 r4 r5 r6 r7 r8 r9 r10 r11 r12 r13 r14 r15 z s c o pc) (la_5b 3 al co si wi sh ds sr dp re im r0 r1 r2 r3 r4 r5 r6 r7 r8 r9 r10 r11 r12 r13 r14 r15 z s c o pc) hd) (.inl rfl) hd (laC_ok hk hy rfl rfl rfl rfl rfl rfl rfl (zz rfl z) (fun _ => ss rfl s) (fun _ _ => cc rfl c) (fun _ _ _ => oo rfl o) rfl (fun _ _ => h7) hW (fun h => absurd h (by decide)) (fun h _ _ => absurd h (by decide)) (fun _ h => absurd h (by decide))) w hL
  | true =>
    cases hW : (seI 3 al wi ds sr im r0 r1 r2 r3 r4 r5 r6 r7 r8 r9 r10 r11 r12 r13 r14 r15).wi with
    | false =>
      exact fin (cl := ⟨false, false, false, false, false, false, true, true, true, true, false, true, false⟩) (d := sDs 3 ds) (pick (la_6a 3 al co si wi sh ds sr dp re im r0 r1 r2 r3 r4 r5 r6 r7 r8 r9 r10 r11 r12 r13 r14 r15 z s c o pc) (la_6b 3 al co si wi sh ds sr dp re im r0 r1 r2 r3 r4 r5 r6 r7 r8 r9 r10 r11 r12 r13 r14 r15 z s c o pc) hd) (.inl rfl) hd (laC_ok hk hy rfl rfl rfl rfl rfl rfl rfl (zz rfl z) (fun _ => ss rfl s) (fun _ _ => cc rfl c) (fun _ _ _ => oo rfl o) rfl (fun _ _ => h7) hW (fun h => absurd h (by decide)) (fun _ _ _ => one_low rfl rfl rfl hW rfl) (fun _ h => absurd h (by decide))) w hL
    | true =>
      exact fin (cl := ⟨false, false, false, false, false, false, true, true, true, true, false, true, true⟩) (d := sDs 3 ds) (pick (la_7a 3 al co si wi sh ds sr dp re im r0 r1 r2 r3 r4 r5 r6 r7 r8 r9 r10 r11 r12 r13 r14 r15 z s c o pc) (la_7b 3 al co si wi sh ds sr dp re im r0 r1 r2 r3 r4 r5 r6 r7 r8 r9 r10 r11 r12 r13 r14 r15 z s c o pc) hd) (.inl rfl) hd (laC_ok hk hy rfl rfl rfl rfl rfl rfl rfl (zz rfl z) (fun _ => ss rfl s) (fun _ _ => cc rfl c) (fun _ _ _ => oo rfl o) rfl (fun _ _ => h7) hW (fun h => absurd h (by decide)) (fun h _ _ => absurd h (by decide)) (fun _ h => absurd h (by decide))) w hL
theorem stays_4 (al co si : Int) (wi sh : Bool) (ds sr dp re im r0 r1 r2 r3 r4 r5 r6 r7 r8 r9 r10 r11 r12 r13 r14 r15 : Int) (z s c o : Bool) (pc : Int) (hr : (rsL r0 r1 r2 r3 r4 r5 r6 r7 r8 r9 r10 r11 r12 r13 r14 r15).all inB = true) (hD : ((4 : Int) == 9 && (seI 4 al wi ds sr im r0 r1 r2 r3 r4 r5 r6 r7 r8 r9 r10 r11 r12 r13 r14 r15).dv) = false) (w : World) (hL : Laid h12 w) : Calls Tryd.prog 12 #[.agg ⟨xA 4 al co si wi sh ds sr dp re im⟩, stA r0 r1 r2 r3 r4 r5 r6 r7 r8 r9 r10 r11 r12 r13 r14 r15 z s c o pc] w fun e w' => e = .returned (.bool true) ∧ Gr w w' := by
  have hk : okK 4 = true := rfl
  have hd := sDs_in 4 ds
  have hy : In.ok (seI 4 al wi ds sr im r0 r1 r2 r3 r4 r5 r6 r7 r8 r9 r10 r11 r12 r13 r14 r15) = true := by
    unfold In.ok
    rw [Bool.and_eq_true, Bool.and_eq_true, Bool.and_eq_true]
    exact ⟨set_ok 4 al wi ds sr im hk, hk, by rw [show (!((seI 4 al wi ds sr im r0 r1 r2 r3 r4 r5 r6 r7 r8 r9 r10 r11 r12 r13 r14 r15).k == 9 && (seI 4 al wi ds sr im r0 r1 r2 r3 r4 r5 r6 r7 r8 r9 r10 r11 r12 r13 r14 r15).dv)) = !((4 : Int) == 9 && (seI 4 al wi ds sr im r0 r1 r2 r3 r4 r5 r6 r7 r8 r9 r10 r11 r12 r13 r14 r15).dv) from rfl, hD]; rfl, hr⟩
  cases h7 : ((seI 4 al wi ds sr im r0 r1 r2 r3 r4 r5 r6 r7 r8 r9 r10 r11 r12 r13 r14 r15).al == 7) with
  | false =>
    cases hb1 : ((seI 4 al wi ds sr im r0 r1 r2 r3 r4 r5 r6 r7 r8 r9 r10 r11 r12 r13 r14 r15).z z == z) with
    | false =>
      cases hW : (seI 4 al wi ds sr im r0 r1 r2 r3 r4 r5 r6 r7 r8 r9 r10 r11 r12 r13 r14 r15).wi with
      | false =>
        exact fin (cl := ⟨false, false, true, false, false, false, false, false, false, false, false, false, false⟩) (d := sDs 4 ds) (pick (la_9a 4 al co si wi sh ds sr dp re im r0 r1 r2 r3 r4 r5 r6 r7 r8 r9 r10 r11 r12 r13 r14 r15 z s c o pc) (la_9b 4 al co si wi sh ds sr dp re im r0 r1 r2 r3 r4 r5 r6 r7 r8 r9 r10 r11 r12 r13 r14 r15 z s c o pc) hd) (.inl rfl) hd (laC_ok hk hy rfl rfl rfl rfl rfl rfl rfl hb1 (fun h => absurd h (by decide)) (fun h _ => absurd h (by decide)) (fun h _ _ => absurd h (by decide)) rfl (fun _ _ => h7) hW (fun h => absurd h (by decide)) (fun _ _ _ => one_low rfl rfl (by unfold In.wr; rw [h7]; rfl) hW rfl) (fun _ h => absurd h (by decide))) w hL
      | true =>
        exact fin (cl := ⟨false, false, true, false, false, false, false, false, false, false, false, false, true⟩) (d := sDs 4 ds) (pick (la_10a 4 al co si wi sh ds sr dp re im r0 r1 r2 r3 r4 r5 r6 r7 r8 r9 r10 r11 r12 r13 r14 r15 z s c o pc) (la_10b 4 al co si wi sh ds sr dp re im r0 r1 r2 r3 r4 r5 r6 r7 r8 r9 r10 r11 r12 r13 r14 r15 z s c o pc) hd) (.inl rfl) hd (laC_ok hk hy rfl rfl rfl rfl rfl rfl rfl hb1 (fun h => absurd h (by decide)) (fun h _ => absurd h (by decide)) (fun h _ _ => absurd h (by decide)) rfl (fun _ _ => h7) hW (fun h => absurd h (by decide)) (fun h _ _ => absurd h (by decide)) (fun _ h => absurd h (by decide))) w hL
    | true =>
      cases hb2 : ((seI 4 al wi ds sr im r0 r1 r2 r3 r4 r5 r6 r7 r8 r9 r10 r11 r12 r13 r14 r15).s s == s) with
      | false =>
        cases hW : (seI 4 al wi ds sr im r0 r1 r2 r3 r4 r5 r6 r7 r8 r9 r10 r11 r12 r13 r14 r15).wi with
        | false =>
          exact fin (cl := ⟨false, false, true, false, false, false, true, false, false, false, false, false, false⟩) (d := sDs 4 ds) (pick (la_11a 4 al co si wi sh ds sr dp re im r0 r1 r2 r3 r4 r5 r6 r7 r8 r9 r10 r11 r12 r13 r14 r15 z s c o pc) (la_11b 4 al co si wi sh ds sr dp re im r0 r1 r2 r3 r4 r5 r6 r7 r8 r9 r10 r11 r12 r13 r14 r15 z s c o pc) hd) (.inl rfl) hd (laC_ok hk hy rfl rfl rfl rfl rfl rfl rfl hb1 (fun _ => hb2) (fun _ h => absurd h (by decide)) (fun _ h _ => absurd h (by decide)) rfl (fun _ _ => h7) hW (fun h => absurd h (by decide)) (fun _ _ _ => one_low rfl rfl (by unfold In.wr; rw [h7]; rfl) hW rfl) (fun _ h => absurd h (by decide))) w hL
        | true =>
          exact fin (cl := ⟨false, false, true, false, false, false, true, false, false, false, false, false, true⟩) (d := sDs 4 ds) (pick (la_12a 4 al co si wi sh ds sr dp re im r0 r1 r2 r3 r4 r5 r6 r7 r8 r9 r10 r11 r12 r13 r14 r15 z s c o pc) (la_12b 4 al co si wi sh ds sr dp re im r0 r1 r2 r3 r4 r5 r6 r7 r8 r9 r10 r11 r12 r13 r14 r15 z s c o pc) hd) (.inl rfl) hd (laC_ok hk hy rfl rfl rfl rfl rfl rfl rfl hb1 (fun _ => hb2) (fun _ h => absurd h (by decide)) (fun _ h _ => absurd h (by decide)) rfl (fun _ _ => h7) hW (fun h => absurd h (by decide)) (fun h _ _ => absurd h (by decide)) (fun _ h => absurd h (by decide))) w hL
      | true =>
        cases hb3 : ((seI 4 al wi ds sr im r0 r1 r2 r3 r4 r5 r6 r7 r8 r9 r10 r11 r12 r13 r14 r15).c c == c) with
        | false =>
          cases hW : (seI 4 al wi ds sr im r0 r1 r2 r3 r4 r5 r6 r7 r8 r9 r10 r11 r12 r13 r14 r15).wi with
          | false =>
            exact fin (cl := ⟨false, false, true, false, false, false, true, true, false, false, false, false, false⟩) (d := sDs 4 ds) (pick (la_13a 4 al co si wi sh ds sr dp re im r0 r1 r2 r3 r4 r5 r6 r7 r8 r9 r10 r11 r12 r13 r14 r15 z s c o pc) (la_13b 4 al co si wi sh ds sr dp re im r0 r1 r2 r3 r4 r5 r6 r7 r8 r9 r10 r11 r12 r13 r14 r15 z s c o pc) hd) (.inl rfl) hd (laC_ok hk hy rfl rfl rfl rfl rfl rfl rfl hb1 (fun _ => hb2) (fun _ _ => hb3) (fun _ _ h => absurd h (by decide)) rfl (fun _ _ => h7) hW (fun h => absurd h (by decide)) (fun _ _ _ => one_low rfl rfl (by unfold In.wr; rw [h7]; rfl) hW rfl) (fun _ h => absurd h (by decide))) w hL
          | true =>
            exact fin (cl := ⟨false, false, true, false, false, false, true, true, false, false, false, false, true⟩) (d := sDs 4 ds) (pick (la_14a 4 al co si wi sh ds sr dp re im r0 r1 r2 r3 r4 r5 r6 r7 r8 r9 r10 r11 r12 r13 r14 r15 z s c o pc) (la_14b 4 al co si wi sh ds sr dp re im r0 r1 r2 r3 r4 r5 r6 r7 r8 r9 r10 r11 r12 r13 r14 r15 z s c o pc) hd) (.inl rfl) hd (laC_ok hk hy rfl rfl rfl rfl rfl rfl rfl hb1 (fun _ => hb2) (fun _ _ => hb3) (fun _ _ h => absurd h (by decide)) rfl (fun _ _ => h7) hW (fun h => absurd h (by decide)) (fun h _ _ => absurd h (by decide)) (fun _ h => absurd h (by decide))) w hL
        | true =>
          cases hb4 : ((seI 4 al wi ds sr im r0 r1 r2 r3 r4 r5 r6 r7 r8 r9 r10 r11 r12 r13 r14 r15).o o == o) with
          | false =>
            cases hW : (seI 4 al wi ds sr im r0 r1 r2 r3 r4 r5 r6 r7 r8 r9 r10 r11 r12 r13 r14 r15).wi with
            | false =>
              exact fin (cl := ⟨false, false, true, false, false, false, true, true, true, false, false, false, false⟩) (d := sDs 4 ds) (pick (la_15a 4 al co si wi sh ds sr dp re im r0 r1 r2 r3 r4 r5 r6 r7 r8 r9 r10 r11 r12 r13 r14 r15 z s c o pc) (la_15b 4 al co si wi sh ds sr dp re im r0 r1 r2 r3 r4 r5 r6 r7 r8 r9 r10 r11 r12 r13 r14 r15 z s c o pc) hd) (.inl rfl) hd (laC_ok hk hy rfl rfl rfl rfl rfl rfl rfl hb1 (fun _ => hb2) (fun _ _ => hb3) (fun _ _ _ => hb4) rfl (fun _ _ => h7) hW (fun h => absurd h (by decide)) (fun _ _ _ => one_low rfl rfl (by unfold In.wr; rw [h7]; rfl) hW rfl) (fun _ h => absurd h (by decide))) w hL
            | true =>
              exact fin (cl := ⟨false, false, true, false, false, false, true, true, true, false, false, false, true⟩) (d := sDs 4 ds) (pick (la_16a 4 al co si wi sh ds sr dp re im r0 r1 r2 r3 r4 r5 r6 r7 r8 r9 r10 r11 r12 r13 r14 r15 z s c o pc) (la_16b 4 al co si wi sh ds sr dp re im r0 r1 r2 r3 r4 r5 r6 r7 r8 r9 r10 r11 r12 r13 r14 r15 z s c o pc) hd) (.inl rfl) hd (laC_ok hk hy rfl rfl rfl rfl rfl rfl rfl hb1 (fun _ => hb2) (fun _ _ => hb3) (fun _ _ _ => hb4) rfl (fun _ _ => h7) hW (fun h => absurd h (by decide)) (fun h _ _ => absurd h (by decide)) (fun _ h => absurd h (by decide))) w hL
          | true =>
            cases hW : (seI 4 al wi ds sr im r0 r1 r2 r3 r4 r5 r6 r7 r8 r9 r10 r11 r12 r13 r14 r15).wi with
            | false =>
              exact fin (cl := ⟨false, false, true, false, false, false, true, true, true, true, false, false, false⟩) (d := sDs 4 ds) (pick (la_17a 4 al co si wi sh ds sr dp re im r0 r1 r2 r3 r4 r5 r6 r7 r8 r9 r10 r11 r12 r13 r14 r15 z s c o pc) (la_17b 4 al co si wi sh ds sr dp re im r0 r1 r2 r3 r4 r5 r6 r7 r8 r9 r10 r11 r12 r13 r14 r15 z s c o pc) hd) (.inl rfl) hd (laC_ok hk hy rfl rfl rfl rfl rfl rfl rfl hb1 (fun _ => hb2) (fun _ _ => hb3) (fun _ _ _ => hb4) rfl (fun _ _ => h7) hW (fun h => absurd h (by decide)) (fun _ _ _ => one_low rfl rfl (by unfold In.wr; rw [h7]; rfl) hW rfl) (fun _ h => absurd h (by decide))) w hL
            | true =>
              exact fin (cl := ⟨false, false, true, false, false, false, true, true, true, true, false, false, true⟩) (d := sDs 4 ds) (pick (la_18a 4 al co si wi sh ds sr dp re im r0 r1 r2 r3 r4 r5 r6 r7 r8 r9 r10 r11 r12 r13 r14 r15 z s c o pc) (la_18b 4 al co si wi sh ds sr dp re im r0 r1 r2 r3 r4 r5 r6 r7 r8 r9 r10 r11 r12 r13 r14 r15 z s c o pc) hd) (.inl rfl) hd (laC_ok hk hy rfl rfl rfl rfl rfl rfl rfl hb1 (fun _ => hb2) (fun _ _ => hb3) (fun _ _ _ => hb4) rfl (fun _ _ => h7) hW (fun h => absurd h (by decide)) (fun h _ _ => absurd h (by decide)) (fun _ h => absurd h (by decide))) w hL
  | true =>
    cases hb1 : ((seI 4 al wi ds sr im r0 r1 r2 r3 r4 r5 r6 r7 r8 r9 r10 r11 r12 r13 r14 r15).z z == z) with
    | false =>
      cases hW : (seI 4 al wi ds sr im r0 r1 r2 r3 r4 r5 r6 r7 r8 r9 r10 r11 r12 r13 r14 r15).wi with
      | false =>
        exact fin (cl := ⟨false, false, true, false, false, false, false, false, false, false, false, true, false⟩) (d := sDs 4 ds) (pick (la_19a 4 al co si wi sh ds sr dp re im r0 r1 r2 r3 r4 r5 r6 r7 r8 r9 r10 r11 r12 r13 r14 r15 z s c o pc) (la_19b 4 al co si wi sh ds sr dp re im r0 r1 r2 r3 r4 r5 r6 r7 r8 r9 r10 r11 r12 r13 r14 r15 z s c o pc) hd) (.inl rfl) hd (laC_ok hk hy rfl rfl rfl rfl rfl rfl rfl hb1 (fun h => absurd h (by decide)) (fun h _ => absurd h (by decide)) (fun h _ _ => absurd h (by decide)) rfl (fun _ _ => h7) hW (fun _ => ⟨by unfold In.wr; rw [h7]; rfl, rfl⟩) (fun _ h _ => absurd h (by decide)) (fun _ h => absurd h (by decide))) w hL
      | true =>
        exact fin (cl := ⟨false, false, true, false, false, false, false, false, false, false, false, true, true⟩) (d := sDs 4 ds) (pick (la_20a 4 al co si wi sh ds sr dp re im r0 r1 r2 r3 r4 r5 r6 r7 r8 r9 r10 r11 r12 r13 r14 r15 z s c o pc) (la_20b 4 al co si wi sh ds sr dp re im r0 r1 r2 r3 r4 r5 r6 r7 r8 r9 r10 r11 r12 r13 r14 r15 z s c o pc) hd) (.inl rfl) hd (laC_ok hk hy rfl rfl rfl rfl rfl rfl rfl hb1 (fun h => absurd h (by decide)) (fun h _ => absurd h (by decide)) (fun h _ _ => absurd h (by decide)) rfl (fun _ _ => h7) hW (fun _ => ⟨by unfold In.wr; rw [h7]; rfl, rfl⟩) (fun _ h _ => absurd h (by decide)) (fun _ h => absurd h (by decide))) w hL
    | true =>
      cases hb2 : ((seI 4 al wi ds sr im r0 r1 r2 r3 r4 r5 r6 r7 r8 r9 r10 r11 r12 r13 r14 r15).s s == s) with
      | false =>
        cases hW : (seI 4 al wi ds sr im r0 r1 r2 r3 r4 r5 r6 r7 r8 r9 r10 r11 r12 r13 r14 r15).wi with
        | false =>
          exact fin (cl := ⟨false, false, true, false, false, false, true, false, false, false, false, true, false⟩) (d := sDs 4 ds) (pick (la_21a 4 al co si wi sh ds sr dp re im r0 r1 r2 r3 r4 r5 r6 r7 r8 r9 r10 r11 r12 r13 r14 r15 z s c o pc) (la_21b 4 al co si wi sh ds sr dp re im r0 r1 r2 r3 r4 r5 r6 r7 r8 r9 r10 r11 r12 r13 r14 r15 z s c o pc) hd) (.inl rfl) hd (laC_ok hk hy rfl rfl rfl rfl rfl rfl rfl hb1 (fun _ => hb2) (fun _ h => absurd h (by decide)) (fun _ h _ => absurd h (by decide)) rfl (fun _ _ => h7) hW (fun _ => ⟨by unfold In.wr; rw [h7]; rfl, rfl⟩) (fun _ h _ => absurd h (by decide)) (fun _ h => absurd h (by decide))) w hL
        | true =>
          exact fin (cl := ⟨false, false, true, false, false, false, true, false, false, false, false, true, true⟩) (d := sDs 4 ds) (pick (la_22a 4 al co si wi sh ds sr dp re im r0 r1 r2 r3 r4 r5 r6 r7 r8 r9 r10 r11 r12 r13 r14 r15 z s c o pc) (la_22b 4 al co si wi sh ds sr dp re im r0 r1 r2 r3 r4 r5 r6 r7 r8 r9 r10 r11 r12 r13 r14 r15 z s c o pc) hd) (.inl rfl) hd (laC_ok hk hy rfl rfl rfl rfl rfl rfl rfl hb1 (fun _ => hb2) (fun _ h => absurd h (by decide)) (fun _ h _ => absurd h (by decide)) rfl (fun _ _ => h7) hW (fun _ => ⟨by unfold In.wr; rw [h7]; rfl, rfl⟩) (fun _ h _ => absurd h (by decide)) (fun _ h => absurd h (by decide))) w hL
      | true =>
        cases hb3 : ((seI 4 al wi ds sr im r0 r1 r2 r3 r4 r5 r6 r7 r8 r9 r10 r11 r12 r13 r14 r15).c c == c) with
        | false =>
          cases hW : (seI 4 al wi ds sr im r0 r1 r2 r3 r4 r5 r6 r7 r8 r9 r10 r11 r12 r13 r14 r15).wi with
          | false =>
            exact fin (cl := ⟨false, false, true, false, false, false, true, true, false, false, false, true, false⟩) (d := sDs 4 ds) (pick (la_23a 4 al co si wi sh ds sr dp re im r0 r1 r2 r3 r4 r5 r6 r7 r8 r9 r10 r11 r12 r13 r14 r15 z s c o pc) (la_23b 4 al co si wi sh ds sr dp re im r0 r1 r2 r3 r4 r5 r6 r7 r8 r9 r10 r11 r12 r13 r14 r15 z s c o pc) hd) (.inl rfl) hd (laC_ok hk hy rfl rfl rfl rfl rfl rfl rfl hb1 (fun _ => hb2) (fun _ _ => hb3) (fun _ _ h => absurd h (by decide)) rfl (fun _ _ => h7) hW (fun _ => ⟨by unfold In.wr; rw [h7]; rfl, rfl⟩) (fun _ h _ => absurd h (by decide)) (fun _ h => absurd h (by decide))) w hL
          | true =>
            exact fin (cl := ⟨false, false, true, false, false, false, true, true, false, false, false, true, true⟩) (d := sDs 4 ds) (pick (la_24a 4 al co si wi sh ds sr dp re im r0 r1 r2 r3 r4 r5 r6 r7 r8 r9 r10 r11 r12 r13 r14 r15 z s c o pc) (la_24b 4 al co si wi sh ds sr dp re im r0 r1 r2 r3 r4 r5 r6 r7 r8 r9 r10 r11 r12 r13 r14 r15 z s c o pc) hd) (.inl rfl) hd (laC_ok hk hy rfl rfl rfl rfl rfl rfl rfl hb1 (fun _ => hb2) (fun _ _ => hb3) (fun _ _ h => absurd h (by decide)) rfl (fun _ _ => h7) hW (fun _ => ⟨by unfold In.wr; rw [h7]; rfl, rfl⟩) (fun _ h _ => absurd h (by decide)) (fun _ h => absurd h (by decide))) w hL
        | true =>
          cases hb4 : ((seI 4 al wi ds sr im r0 r1 r2 r3 r4 r5 r6 r7 r8 r9 r10 r11 r12 r13 r14 r15).o o == o) with
          | false =>
            cases hW : (seI 4 al wi ds sr im r0 r1 r2 r3 r4 r5 r6 r7 r8 r9 r10 r11 r12 r13 r14 r15).wi with
            | false =>
              exact fin (cl := ⟨false, false, true, false, false, false, true, true, true, false, false, true, false⟩) (d := sDs 4 ds) (pick (la_25a 4 al co si wi sh ds sr dp re im r0 r1 r2 r3 r4 r5 r6 r7 r8 r9 r10 r11 r12 r13 r14 r15 z s c o pc) (la_25b 4 al co si wi sh ds sr dp re im r0 r1 r2 r3 r4 r5 r6 r7 r8 r9 r10 r11 r12 r13 r14 r15 z s c o pc) hd) (.inl rfl) hd (laC_ok hk hy rfl rfl rfl rfl rfl rfl rfl hb1 (fun _ => hb2) (fun _ _ => hb3) (fun _ _ _ => hb4) rfl (fun _ _ => h7) hW (fun _ => ⟨by unfold In.wr; rw [h7]; rfl, rfl⟩) (fun _ h _ => absurd h (by decide)) (fun _ h => absurd h (by decide))) w hL
            | true =>
              exact fin (cl := ⟨false, false, true, false, false, false, true, true, true, false, false, true, true⟩) (d := sDs 4 ds) (pick (la_26a 4 al co si wi sh ds sr dp re im r0 r1 r2 r3 r4 r5 r6 r7 r8 r9 r10 r11 r12 r13 r14 r15 z s c o pc) (la_26b 4 al co si wi sh ds sr dp re im r0 r1 r2 r3 r4 r5 r6 r7 r8 r9 r10 r11 r12 r13 r14 r15 z s c o pc) hd) (.inl rfl) hd (laC_ok hk hy rfl rfl rfl rfl rfl rfl rfl hb1 (fun _ => hb2) (fun _ _ => hb3) (fun _ _ _ => hb4) rfl (fun _ _ => h7) hW (fun _ => ⟨by unfold In.wr; rw [h7]; rfl, rfl⟩) (fun _ h _ => absurd h (by decide)) (fun _ h => absurd h (by decide))) w hL
          | true =>
            cases hW : (seI 4 al wi ds sr im r0 r1 r2 r3 r4 r5 r6 r7 r8 r9 r10 r11 r12 r13 r14 r15).wi with
            | false =>
              exact fin (cl := ⟨false, false, true, false, false, false, true, true, true, true, false, true, false⟩) (d := sDs 4 ds) (pick (la_27a 4 al co si wi sh ds sr dp re im r0 r1 r2 r3 r4 r5 r6 r7 r8 r9 r10 r11 r12 r13 r14 r15 z s c o pc) (la_27b 4 al co si wi sh ds sr dp re im r0 r1 r2 r3 r4 r5 r6 r7 r8 r9 r10 r11 r12 r13 r14 r15 z s c o pc) hd) (.inl rfl) hd (laC_ok hk hy rfl rfl rfl rfl rfl rfl rfl hb1 (fun _ => hb2) (fun _ _ => hb3) (fun _ _ _ => hb4) rfl (fun _ _ => h7) hW (fun _ => ⟨by unfold In.wr; rw [h7]; rfl, rfl⟩) (fun _ h _ => absurd h (by decide)) (fun _ h => absurd h (by decide))) w hL
            | true =>
              exact fin (cl := ⟨false, false, true, false, false, false, true, true, true, true, false, true, true⟩) (d := sDs 4 ds) (pick (la_28a 4 al co si wi sh ds sr dp re im r0 r1 r2 r3 r4 r5 r6 r7 r8 r9 r10 r11 r12 r13 r14 r15 z s c o pc) (la_28b 4 al co si wi sh ds sr dp re im r0 r1 r2 r3 r4 r5 r6 r7 r8 r9 r10 r11 r12 r13 r14 r15 z s c o pc) hd) (.inl rfl) hd (laC_ok hk hy rfl rfl rfl rfl rfl rfl rfl hb1 (fun _ => hb2) (fun _ _ => hb3) (fun _ _ _ => hb4) rfl (fun _ _ => h7) hW (fun _ => ⟨by unfold In.wr; rw [h7]; rfl, rfl⟩) (fun _ h _ => absurd h (by decide)) (fun _ h => absurd h (by decide))) w hL
theorem stays_5 (al co si : Int) (wi sh : Bool) (ds sr dp re im r0 r1 r2 r3 r4 r5 r6 r7 r8 r9 r10 r11 r12 r13 r14 r15 : Int) (z s c o : Bool) (pc : Int) (hr : (rsL r0 r1 r2 r3 r4 r5 r6 r7 r8 r9 r10 r11 r12 r13 r14 r15).all inB = true) (hD : ((5 : Int) == 9 && (seI 5 al wi ds sr im r0 r1 r2 r3 r4 r5 r6 r7 r8 r9 r10 r11 r12 r13 r14 r15).dv) = false) (w : World) (hL : Laid h12 w) : Calls Tryd.prog 12 #[.agg ⟨xA 5 al co si wi sh ds sr dp re im⟩, stA r0 r1 r2 r3 r4 r5 r6 r7 r8 r9 r10 r11 r12 r13 r14 r15 z s c o pc] w fun e w' => e = .returned (.bool true) ∧ Gr w w' := by
  have hk : okK 5 = true := rfl
  have hd := sDs_in 5 ds
  have hy : In.ok (seI 5 al wi ds sr im r0 r1 r2 r3 r4 r5 r6 r7 r8 r9 r10 r11 r12 r13 r14 r15) = true := by
    unfold In.ok
    rw [Bool.and_eq_true, Bool.and_eq_true, Bool.and_eq_true]
    exact ⟨set_ok 5 al wi ds sr im hk, hk, by rw [show (!((seI 5 al wi ds sr im r0 r1 r2 r3 r4 r5 r6 r7 r8 r9 r10 r11 r12 r13 r14 r15).k == 9 && (seI 5 al wi ds sr im r0 r1 r2 r3 r4 r5 r6 r7 r8 r9 r10 r11 r12 r13 r14 r15).dv)) = !((5 : Int) == 9 && (seI 5 al wi ds sr im r0 r1 r2 r3 r4 r5 r6 r7 r8 r9 r10 r11 r12 r13 r14 r15).dv) from rfl, hD]; rfl, hr⟩
  cases h7 : ((seI 5 al wi ds sr im r0 r1 r2 r3 r4 r5 r6 r7 r8 r9 r10 r11 r12 r13 r14 r15).al == 7) with
  | false =>
    cases hb1 : ((seI 5 al wi ds sr im r0 r1 r2 r3 r4 r5 r6 r7 r8 r9 r10 r11 r12 r13 r14 r15).z z == z) with
    | false =>
      cases hW : (seI 5 al wi ds sr im r0 r1 r2 r3 r4 r5 r6 r7 r8 r9 r10 r11 r12 r13 r14 r15).wi with
      | false =>
        exact fin (cl := ⟨false, false, false, true, false, false, false, false, false, false, false, false, false⟩) (d := sDs 5 ds) (pick (la_29a 5 al co si wi sh ds sr dp re im r0 r1 r2 r3 r4 r5 r6 r7 r8 r9 r10 r11 r12 r13 r14 r15 z s c o pc) (la_29b 5 al co si wi sh ds sr dp re im r0 r1 r2 r3 r4 r5 r6 r7 r8 r9 r10 r11 r12 r13 r14 r15 z s c o pc) hd) (.inl rfl) hd (laC_ok hk hy rfl rfl rfl rfl rfl rfl rfl hb1 (fun h => absurd h (by decide)) (fun h _ => absurd h (by decide)) (fun h _ _ => absurd h (by decide)) rfl (fun _ _ => h7) hW (fun h => absurd h (by decide)) (fun _ _ _ => one_low rfl rfl (by unfold In.wr; rw [h7]; rfl) hW rfl) (fun _ h => absurd h (by decide))) w hL
      | true =>
        exact fin (cl := ⟨false, false, false, true, false, false, false, false, false, false, false, false, true⟩) (d := sDs 5 ds) (pick (la_30a 5 al co si wi sh ds sr dp re im r0 r1 r2 r3 r4 r5 r6 r7 r8 r9 r10 r11 r12 r13 r14 r15 z s c o pc) (la_30b 5 al co si wi sh ds sr dp re im r0 r1 r2 r3 r4 r5 r6 r7 r8 r9 r10 r11 r12 r13 r14 r15 z s c o pc) hd) (.inl rfl) hd (laC_ok hk hy rfl rfl rfl rfl rfl rfl rfl hb1 (fun h => absurd h (by decide)) (fun h _ => absurd h (by decide)) (fun h _ _ => absurd h (by decide)) rfl (fun _ _ => h7) hW (fun h => absurd h (by decide)) (fun h _ _ => absurd h (by decide)) (fun _ h => absurd h (by decide))) w hL
    | true =>
      cases hb2 : ((seI 5 al wi ds sr im r0 r1 r2 r3 r4 r5 r6 r7 r8 r9 r10 r11 r12 r13 r14 r15).s s == s) with
      | false =>
        cases hW : (seI 5 al wi ds sr im r0 r1 r2 r3 r4 r5 r6 r7 r8 r9 r10 r11 r12 r13 r14 r15).wi with
        | false =>
          exact fin (cl := ⟨false, false, false, true, false, false, true, false, false, false, false, false, false⟩) (d := sDs 5 ds) (pick (la_31a 5 al co si wi sh ds sr dp re im r0 r1 r2 r3 r4 r5 r6 r7 r8 r9 r10 r11 r12 r13 r14 r15 z s c o pc) (la_31b 5 al co si wi sh ds sr dp re im r0 r1 r2 r3 r4 r5 r6 r7 r8 r9 r10 r11 r12 r13 r14 r15 z s c o pc) hd) (.inl rfl) hd (laC_ok hk hy rfl rfl rfl rfl rfl rfl rfl hb1 (fun _ => hb2) (fun _ h => absurd h (by decide)) (fun _ h _ => absurd h (by decide)) rfl (fun _ _ => h7) hW (fun h => absurd h (by decide)) (fun _ _ _ => one_low rfl rfl (by unfold In.wr; rw [h7]; rfl) hW rfl) (fun _ h => absurd h (by decide))) w hL
        | true =>
          exact fin (cl := ⟨false, false, false, true, false, false, true, false, false, false, false, false, true⟩) (d := sDs 5 ds) (pick (la_32a 5 al co si wi sh ds sr dp re im r0 r1 r2 r3 r4 r5 r6 r7 r8 r9 r10 r11 r12 r13 r14 r15 z s c o pc) (la_32b 5 al co si wi sh ds sr dp re im r0 r1 r2 r3 r4 r5 r6 r7 r8 r9 r10 r11 r12 r13 r14 r15 z s c o pc) hd) (.inl rfl) hd (laC_ok hk hy rfl rfl rfl rfl rfl rfl rfl hb1 (fun _ => hb2) (fun _ h => absurd h (by decide)) (fun _ h _ => absurd h (by decide)) rfl (fun _ _ => h7) hW (fun h => absurd h (by decide)) (fun h _ _ => absurd h (by decide)) (fun _ h => absurd h (by decide))) w hL
      | true =>
        cases hb3 : ((seI 5 al wi ds sr im r0 r1 r2 r3 r4 r5 r6 r7 r8 r9 r10 r11 r12 r13 r14 r15).c c == c) with
        | false =>
          cases hW : (seI 5 al wi ds sr im r0 r1 r2 r3 r4 r5 r6 r7 r8 r9 r10 r11 r12 r13 r14 r15).wi with
          | false =>
            exact fin (cl := ⟨false, false, false, true, false, false, true, true, false, false, false, false, false⟩) (d := sDs 5 ds) (pick (la_33a 5 al co si wi sh ds sr dp re im r0 r1 r2 r3 r4 r5 r6 r7 r8 r9 r10 r11 r12 r13 r14 r15 z s c o pc) (la_33b 5 al co si wi sh ds sr dp re im r0 r1 r2 r3 r4 r5 r6 r7 r8 r9 r10 r11 r12 r13 r14 r15 z s c o pc) hd) (.inl rfl) hd (laC_ok hk hy rfl rfl rfl rfl rfl rfl rfl hb1 (fun _ => hb2) (fun _ _ => hb3) (fun _ _ h => absurd h (by decide)) rfl (fun _ _ => h7) hW (fun h => absurd h (by decide)) (fun _ _ _ => one_low rfl rfl (by unfold In.wr; rw [h7]; rfl) hW rfl) (fun _ h => absurd h (by decide))) w hL
          | true =>
            exact fin (cl := ⟨false, false, false, true, false, false, true, true, false, false, false, false, true⟩) (d := sDs 5 ds) (pick (la_34a 5 al co si wi sh ds sr dp re im r0 r1 r2 r3 r4 r5 r6 r7 r8 r9 r10 r11 r12 r13 r14 r15 z s c o pc) (la_34b 5 al co si wi sh ds sr dp re im r0 r1 r2 r3 r4 r5 r6 r7 r8 r9 r10 r11 r12 r13 r14 r15 z s c o pc) hd) (.inl rfl) hd (laC_ok hk hy rfl rfl rfl rfl rfl rfl rfl hb1 (fun _ => hb2) (fun _ _ => hb3) (fun _ _ h => absurd h (by decide)) rfl (fun _ _ => h7) hW (fun h => absurd h (by decide)) (fun h _ _ => absurd h (by decide)) (fun _ h => absurd h (by decide))) w hL
        | true =>
          cases hb4 : ((seI 5 al wi ds sr im r0 r1 r2 r3 r4 r5 r6 r7 r8 r9 r10 r11 r12 r13 r14 r15).o o == o) with
          | false =>
            cases hW : (seI 5 al wi ds sr im r0 r1 r2 r3 r4 r5 r6 r7 r8 r9 r10 r11 r12 r13 r14 r15).wi with
            | false =>
              exact fin (cl := ⟨false, false, false, true, false, false, true, true, true, false, false, false, false⟩) (d := sDs 5 ds) (pick (la_35a 5 al co si wi sh ds sr dp re im r0 r1 r2 r3 r4 r5 r6 r7 r8 r9 r10 r11 r12 r13 r14 r15 z s c o pc) (la_35b 5 al co si wi sh ds sr dp re im r0 r1 r2 r3 r4 r5 r6 r7 r8 r9 r10 r11 r12 r13 r14 r15 z s c o pc) hd) (.inl rfl) hd (laC_ok hk hy rfl rfl rfl rfl rfl rfl rfl hb1 (fun _ => hb2) (fun _ _ => hb3) (fun _ _ _ => hb4) rfl (fun _ _ => h7) hW (fun h => absurd h (by decide)) (fun _ _ _ => one_low rfl rfl (by unfold In.wr; rw [h7]; rfl) hW rfl) (fun _ h => absurd h (by decide))) w hL
            | true =>
              exact fin (cl := ⟨false, false, false, true, false, false, true, true, true, false, false, false, true⟩) (d := sDs 5 ds) (pick (la_36a 5 al co si wi sh ds sr dp re im r0 r1 r2 r3 r4 r5 r6 r7 r8 r9 r10 r11 r12 r13 r14 r15 z s c o pc) (la_36b 5 al co si wi sh ds sr dp re im r0 r1 r2 r3 r4 r5 r6 r7 r8 r9 r10 r11 r12 r13 r14 r15 z s c o pc) hd) (.inl rfl) hd (laC_ok hk hy rfl rfl rfl rfl rfl rfl rfl hb1 (fun _ => hb2) (fun _ _ => hb3) (fun _ _ _ => hb4) rfl (fun _ _ => h7) hW (fun h => absurd h (by decide)) (fun h _ _ => absurd h (by decide)) (fun _ h => absurd h (by decide))) w hL
          | true =>
            cases hW : (seI 5 al wi ds sr im r0 r1 r2 r3 r4 r5 r6 r7 r8 r9 r10 r11 r12 r13 r14 r15).wi with
            | false =>
              exact fin (cl := ⟨false, false, false, true, false, false, true, true, true, true, false, false, false⟩) (d := sDs 5 ds) (pick (la_37a 5 al co si wi sh ds sr dp re im r0 r1 r2 r3 r4 r5 r6 r7 r8 r9 r10 r11 r12 r13 r14 r15 z s c o pc) (la_37b 5 al co si wi sh ds sr dp re im r0 r1 r2 r3 r4 r5 r6 r7 r8 r9 r10 r11 r12 r13 r14 r15 z s c o pc) hd) (.inl rfl) hd (laC_ok hk hy rfl rfl rfl rfl rfl rfl rfl hb1 (fun _ => hb2) (fun _ _ => hb3) (fun _ _ _ => hb4) rfl (fun _ _ => h7) hW (fun h => absurd h (by decide)) (fun _ _ _ => one_low rfl rfl (by unfold In.wr; rw [h7]; rfl) hW rfl) (fun _ h => absurd h (by decide))) w hL
            | true =>
              exact fin (cl := ⟨false, false, false, true, false, false, true, true, true, true, false, false, true⟩) (d := sDs 5 ds) (pick (la_38a 5 al co si wi sh ds sr dp re im r0 r1 r2 r3 r4 r5 r6 r7 r8 r9 r10 r11 r12 r13 r14 r15 z s c o pc) (la_38b 5 al co si wi sh ds sr dp re im r0 r1 r2 r3 r4 r5 r6 r7 r8 r9 r10 r11 r12 r13 r14 r15 z s c o pc) hd) (.inl rfl) hd (laC_ok hk hy rfl rfl rfl rfl rfl rfl rfl hb1 (fun _ => hb2) (fun _ _ => hb3) (fun _ _ _ => hb4) rfl (fun _ _ => h7) hW (fun h => absurd h (by decide)) (fun h _ _ => absurd h (by decide)) (fun _ h => absurd h (by decide))) w hL
  | true =>
    cases hb1 : ((seI 5 al wi ds sr im r0 r1 r2 r3 r4 r5 r6 r7 r8 r9 r10 r11 r12 r13 r14 r15).z z == z) with
    | false =>
      cases hW : (seI 5 al wi ds sr im r0 r1 r2 r3 r4 r5 r6 r7 r8 r9 r10 r11 r12 r13 r14 r15).wi with
      | false =>
        exact fin (cl := ⟨false, false, false, true, false, false, false, false, false, false, false, true, false⟩) (d := sDs 5 ds) (pick (la_39a 5 al co si wi sh ds sr dp re im r0 r1 r2 r3 r4 r5 r6 r7 r8 r9 r10 r11 r12 r13 r14 r15 z s c o pc) (la_39b 5 al co si wi sh ds sr dp re im r0 r1 r2 r3 r4 r5 r6 r7 r8 r9 r10 r11 r12 r13 r14 r15 z s c o pc) hd) (.inl rfl) hd (laC_ok hk hy rfl rfl rfl rfl rfl rfl rfl hb1 (fun h => absurd h (by decide)) (fun h _ => absurd h (by decide)) (fun h _ _ => absurd h (by decide)) rfl (fun _ _ => h7) hW (fun _ => ⟨by unfold In.wr; rw [h7]; rfl, rfl⟩) (fun _ h _ => absurd h (by decide)) (fun _ h => absurd h (by decide))) w hL
      | true =>
        exact fin (cl := ⟨false, false, false, true, false, false, false, false, false, false, false, true, true⟩) (d := sDs 5 ds) (pick (la_40a 5 al co si wi sh ds sr dp re im r0 r1 r2 r3 r4 r5 r6 r7 r8 r9 r10 r11 r12 r13 r14 r15 z s c o pc) (la_40b 5 al co si wi sh ds sr dp re im r0 r1 r2 r3 r4 r5 r6 r7 r8 r9 r10 r11 r12 r13 r14 r15 z s c o pc) hd) (.inl rfl) hd (laC_ok hk hy rfl rfl rfl rfl rfl rfl rfl hb1 (fun h => absurd h (by decide)) (fun h _ => absurd h (by decide)) (fun h _ _ => absurd h (by decide)) rfl (fun _ _ => h7) hW (fun _ => ⟨by unfold In.wr; rw [h7]; rfl, rfl⟩) (fun _ h _ => absurd h (by decide)) (fun _ h => absurd h (by decide))) w hL
    | true =>
      cases hb2 : ((seI 5 al wi ds sr im r0 r1 r2 r3 r4 r5 r6 r7 r8 r9 r10 r11 r12 r13 r14 r15).s s == s) with
      | false =>
        cases hW : (seI 5 al wi ds sr im r0 r1 r2 r3 r4 r5 r6 r7 r8 r9 r10 r11 r12 r13 r14 r15).wi with
        | false =>
          exact fin (cl := ⟨false, false, false, true, false, false, true, false, false, false, false, true, false⟩) (d := sDs 5 ds) (pick (la_41a 5 al co si wi sh ds sr dp re im r0 r1 r2 r3 r4 r5 r6 r7 r8 r9 r10 r11 r12 r13 r14 r15 z s c o pc) (la_41b 5 al co si wi sh ds sr dp re im r0 r1 r2 r3 r4 r5 r6 r7 r8 r9 r10 r11 r12 r13 r14 r15 z s c o pc) hd) (.inl rfl) hd (laC_ok hk hy rfl rfl rfl rfl rfl rfl rfl hb1 (fun _ => hb2) (fun _ h => absurd h (by decide)) (fun _ h _ => absurd h (by decide)) rfl (fun _ _ => h7) hW (fun _ => ⟨by unfold In.wr; rw [h7]; rfl, rfl⟩) (fun _ h _ => absurd h (by decide)) (fun _ h => absurd h (by decide))) w hL
        | true =>
          exact fin (cl := ⟨false, false, false, true, false, false, true, false, false, false, false, true, true⟩) (d := sDs 5 ds) (pick (la_42a 5 al co si wi sh ds sr dp re im r0 r1 r2 r3 r4 r5 r6 r7 r8 r9 r10 r11 r12 r13 r14 r15 z s c o pc) (la_42b 5 al co si wi sh ds sr dp re im r0 r1 r2 r3 r4 r5 r6 r7 r8 r9 r10 r11 r12 r13 r14 r15 z s c o pc) hd) (.inl rfl) hd (laC_ok hk hy rfl rfl rfl rfl rfl rfl rfl hb1 (fun _ => hb2) (fun _ h => absurd h (by decide)) (fun _ h _ => absurd h (by decide)) rfl (fun _ _ => h7) hW (fun _ => ⟨by unfold In.wr; rw [h7]; rfl, rfl⟩) (fun _ h _ => absurd h (by decide)) (fun _ h => absurd h (by decide))) w hL
      | true =>
        cases hb3 : ((seI 5 al wi ds sr im r0 r1 r2 r3 r4 r5 r6 r7 r8 r9 r10 r11 r12 r13 r14 r15).c c == c) with
        | false =>
          cases hW : (seI 5 al wi ds sr im r0 r1 r2 r3 r4 r5 r6 r7 r8 r9 r10 r11 r12 r13 r14 r15).wi with
          | false =>
            exact fin (cl := ⟨false, false, false, true, false, false, true, true, false, false, false, true, false⟩) (d := sDs 5 ds) (pick (la_43a 5 al co si wi sh ds sr dp re im r0 r1 r2 r3 r4 r5 r6 r7 r8 r9 r10 r11 r12 r13 r14 r15 z s c o pc) (la_43b 5 al co si wi sh ds sr dp re im r0 r1 r2 r3 r4 r5 r6 r7 r8 r9 r10 r11 r12 r13 r14 r15 z s c o pc) hd) (.inl rfl) hd (laC_ok hk hy rfl rfl rfl rfl rfl rfl rfl hb1 (fun _ => hb2) (fun _ _ => hb3) (fun _ _ h => absurd h (by decide)) rfl (fun _ _ => h7) hW (fun _ => ⟨by unfold In.wr; rw [h7]; rfl, rfl⟩) (fun _ h _ => absurd h (by decide)) (fun _ h => absurd h (by decide))) w hL
          | true =>
            exact fin (cl := ⟨false, false, false, true, false, false, true, true, false, false, false, true, true⟩) (d := sDs 5 ds) (pick (la_44a 5 al co si wi sh ds sr dp re im r0 r1 r2 r3 r4 r5 r6 r7 r8 r9 r10 r11 r12 r13 r14 r15 z s c o pc) (la_44b 5 al co si wi sh ds sr dp re im r0 r1 r2 r3 r4 r5 r6 r7 r8 r9 r10 r11 r12 r13 r14 r15 z s c o pc) hd) (.inl rfl) hd (laC_ok hk hy rfl rfl rfl rfl rfl rfl rfl hb1 (fun _ => hb2) (fun _ _ => hb3) (fun _ _ h => absurd h (by decide)) rfl (fun _ _ => h7) hW (fun _ => ⟨by unfold In.wr; rw [h7]; rfl, rfl⟩) (fun _ h _ => absurd h (by decide)) (fun _ h => absurd h (by decide))) w hL
        | true =>
          cases hb4 : ((seI 5 al wi ds sr im r0 r1 r2 r3 r4 r5 r6 r7 r8 r9 r10 r11 r12 r13 r14 r15).o o == o) with
          | false =>
            cases hW : (seI 5 al wi ds sr im r0 r1 r2 r3 r4 r5 r6 r7 r8 r9 r10 r11 r12 r13 r14 r15).wi with
            | false =>
              exact fin (cl := ⟨false, false, false, true, false, false, true, true, true, false, false, true, false⟩) (d := sDs 5 ds) (pick (la_45a 5 al co si wi sh ds sr dp re im r0 r1 r2 r3 r4 r5 r6 r7 r8 r9 r10 r11 r12 r13 r14 r15 z s c o pc) (la_45b 5 al co si wi sh ds sr dp re im r0 r1 r2 r3 r4 r5 r6 r7 r8 r9 r10 r11 r12 r13 r14 r15 z s c o pc) hd) (.inl rfl) hd (laC_ok hk hy rfl rfl rfl rfl rfl rfl rfl hb1 (fun _ => hb2) (fun _ _ => hb3) (fun _ _ _ => hb4) rfl (fun _ _ => h7) hW (fun _ => ⟨by unfold In.wr; rw [h7]; rfl, rfl⟩) (fun _ h _ => absurd h (by decide)) (fun _ h => absurd h (by decide))) w hL
            | true =>
              exact fin (cl := ⟨false, false, false, true, false, false, true, true, true, false, false, true, true⟩) (d := sDs 5 ds) (pick (la_46a 5 al co si wi sh ds sr dp re im r0 r1 r2 r3 r4 r5 r6 r7 r8 r9 r10 r11 r12 r13 r14 r15 z s c o pc) (la_46b 5 al co si wi sh ds sr dp re im r0 r1 r2 r3 r4 r5 r6 r7 r8 r9 r10 r11 r12 r13 r14 r15 z s c o pc) hd) (.inl rfl) hd (laC_ok hk hy rfl rfl rfl rfl rfl rfl rfl hb1 (fun _ => hb2) (fun _ _ => hb3) (fun _ _ _ => hb4) rfl (fun _ _ => h7) hW (fun _ => ⟨by unfold In.wr; rw [h7]; rfl, rfl⟩) (fun _ h _ => absurd h (by decide)) (fun _ h => absurd h (by decide))) w hL
          | true =>
            cases hW : (seI 5 al wi ds sr im r0 r1 r2 r3 r4 r5 r6 r7 r8 r9 r10 r11 r12 r13 r14 r15).wi with
            | false =>
              exact fin (cl := ⟨false, false, false, true, false, false, true, true, true, true, false, true, false⟩) (d := sDs 5 ds) (pick (la_47a 5 al co si wi sh ds sr dp re im r0 r1 r2 r3 r4 r5 r6 r7 r8 r9 r10 r11 r12 r13 r14 r15 z s c o pc) (la_47b 5 al co si wi sh ds sr dp re im r0 r1 r2 r3 r4 r5 r6 r7 r8 r9 r10 r11 r12 r13 r14 r15 z s c o pc) hd) (.inl rfl) hd (laC_ok hk hy rfl rfl rfl rfl rfl rfl rfl hb1 (fun _ => hb2) (fun _ _ => hb3) (fun _ _ _ => hb4) rfl (fun _ _ => h7) hW (fun _ => ⟨by unfold In.wr; rw [h7]; rfl, rfl⟩) (fun _ h _ => absurd h (by decide)) (fun _ h => absurd h (by decide))) w hL
            | true =>
              exact fin (cl := ⟨false, false, false, true, false, false, true, true, true, true, false, true, true⟩) (d := sDs 5 ds) (pick (la_48a 5 al co si wi sh ds sr dp re im r0 r1 r2 r3 r4 r5 r6 r7 r8 r9 r10 r11 r12 r13 r14 r15 z s c o pc) (la_48b 5 al co si wi sh ds sr dp re im r0 r1 r2 r3 r4 r5 r6 r7 r8 r9 r10 r11 r12 r13 r14 r15 z s c o pc) hd) (.inl rfl) hd (laC_ok hk hy rfl rfl rfl rfl rfl rfl rfl hb1 (fun _ => hb2) (fun _ _ => hb3) (fun _ _ _ => hb4) rfl (fun _ _ => h7) hW (fun _ => ⟨by unfold In.wr; rw [h7]; rfl, rfl⟩) (fun _ h _ => absurd h (by decide)) (fun _ h => absurd h (by decide))) w hL
theorem stays_6 (al co si : Int) (wi sh : Bool) (ds sr dp re im r0 r1 r2 r3 r4 r5 r6 r7 r8 r9 r10 r11 r12 r13 r14 r15 : Int) (z s c o : Bool) (pc : Int) (hr : (rsL r0 r1 r2 r3 r4 r5 r6 r7 r8 r9 r10 r11 r12 r13 r14 r15).all inB = true) (hD : ((6 : Int) == 9 && (seI 6 al wi ds sr im r0 r1 r2 r3 r4 r5 r6 r7 r8 r9 r10 r11 r12 r13 r14 r15).dv) = false) (w : World) (hL : Laid h12 w) : Calls Tryd.prog 12 #[.agg ⟨xA 6 al co si wi sh ds sr dp re im⟩, stA r0 r1 r2 r3 r4 r5 r6 r7 r8 r9 r10 r11 r12 r13 r14 r15 z s c o pc] w fun e w' => e = .returned (.bool true) ∧ Gr w w' := by
  have hk : okK 6 = true := rfl
  have hd := sDs_in 6 ds
  have hy : In.ok (seI 6 al wi ds sr im r0 r1 r2 r3 r4 r5 r6 r7 r8 r9 r10 r11 r12 r13 r14 r15) = true := by
    unfold In.ok
    rw [Bool.and_eq_true, Bool.and_eq_true, Bool.and_eq_true]
    exact ⟨set_ok 6 al wi ds sr im hk, hk, by rw [show (!((seI 6 al wi ds sr im r0 r1 r2 r3 r4 r5 r6 r7 r8 r9 r10 r11 r12 r13 r14 r15).k == 9 && (seI 6 al wi ds sr im r0 r1 r2 r3 r4 r5 r6 r7 r8 r9 r10 r11 r12 r13 r14 r15).dv)) = !((6 : Int) == 9 && (seI 6 al wi ds sr im r0 r1 r2 r3 r4 r5 r6 r7 r8 r9 r10 r11 r12 r13 r14 r15).dv) from rfl, hD]; rfl, hr⟩
  cases hb1 : ((seI 6 al wi ds sr im r0 r1 r2 r3 r4 r5 r6 r7 r8 r9 r10 r11 r12 r13 r14 r15).z z == z) with
  | false =>
    cases hW : (seI 6 al wi ds sr im r0 r1 r2 r3 r4 r5 r6 r7 r8 r9 r10 r11 r12 r13 r14 r15).wi with
    | false =>
      exact fin (cl := ⟨false, false, false, false, true, false, false, false, false, false, false, false, false⟩) (d := sDs 6 ds) (pick (la_49a 6 al co si wi sh ds sr dp re im r0 r1 r2 r3 r4 r5 r6 r7 r8 r9 r10 r11 r12 r13 r14 r15 z s c o pc) (la_49b 6 al co si wi sh ds sr dp re im r0 r1 r2 r3 r4 r5 r6 r7 r8 r9 r10 r11 r12 r13 r14 r15 z s c o pc) hd) (.inl rfl) hd (laC_ok hk hy rfl rfl rfl rfl rfl rfl rfl hb1 (fun h => absurd h (by decide)) (fun h _ => absurd h (by decide)) (fun h _ _ => absurd h (by decide)) rfl (fun h _ => absurd h (by decide)) hW (fun _ => ⟨rfl, rfl⟩) (fun _ h _ => absurd h (by decide)) (fun _ h => absurd h (by decide))) w hL
    | true =>
      exact fin (cl := ⟨false, false, false, false, true, false, false, false, false, false, false, false, true⟩) (d := sDs 6 ds) (pick (la_50a 6 al co si wi sh ds sr dp re im r0 r1 r2 r3 r4 r5 r6 r7 r8 r9 r10 r11 r12 r13 r14 r15 z s c o pc) (la_50b 6 al co si wi sh ds sr dp re im r0 r1 r2 r3 r4 r5 r6 r7 r8 r9 r10 r11 r12 r13 r14 r15 z s c o pc) hd) (.inl rfl) hd (laC_ok hk hy rfl rfl rfl rfl rfl rfl rfl hb1 (fun h => absurd h (by decide)) (fun h _ => absurd h (by decide)) (fun h _ _ => absurd h (by decide)) rfl (fun h _ => absurd h (by decide)) hW (fun _ => ⟨rfl, rfl⟩) (fun _ h _ => absurd h (by decide)) (fun _ h => absurd h (by decide))) w hL
  | true =>
    cases hb2 : ((seI 6 al wi ds sr im r0 r1 r2 r3 r4 r5 r6 r7 r8 r9 r10 r11 r12 r13 r14 r15).s s == s) with
    | false =>
      cases hW : (seI 6 al wi ds sr im r0 r1 r2 r3 r4 r5 r6 r7 r8 r9 r10 r11 r12 r13 r14 r15).wi with
      | false =>
        exact fin (cl := ⟨false, false, false, false, true, false, true, false, false, false, false, false, false⟩) (d := sDs 6 ds) (pick (la_51a 6 al co si wi sh ds sr dp re im r0 r1 r2 r3 r4 r5 r6 r7 r8 r9 r10 r11 r12 r13 r14 r15 z s c o pc) (la_51b 6 al co si wi sh ds sr dp re im r0 r1 r2 r3 r4 r5 r6 r7 r8 r9 r10 r11 r12 r13 r14 r15 z s c o pc) hd) (.inl rfl) hd (laC_ok hk hy rfl rfl rfl rfl rfl rfl rfl hb1 (fun _ => hb2) (fun _ h => absurd h (by decide)) (fun _ h _ => absurd h (by decide)) rfl (fun h _ => absurd h (by decide)) hW (fun _ => ⟨rfl, rfl⟩) (fun _ h _ => absurd h (by decide)) (fun _ h => absurd h (by decide))) w hL
      | true =>
        exact fin (cl := ⟨false, false, false, false, true, false, true, false, false, false, false, false, true⟩) (d := sDs 6 ds) (pick (la_52a 6 al co si wi sh ds sr dp re im r0 r1 r2 r3 r4 r5 r6 r7 r8 r9 r10 r11 r12 r13 r14 r15 z s c o pc) (la_52b 6 al co si wi sh ds sr dp re im r0 r1 r2 r3 r4 r5 r6 r7 r8 r9 r10 r11 r12 r13 r14 r15 z s c o pc) hd) (.inl rfl) hd (laC_ok hk hy rfl rfl rfl rfl rfl rfl rfl hb1 (fun _ => hb2) (fun _ h => absurd h (by decide)) (fun _ h _ => absurd h (by decide)) rfl (fun h _ => absurd h (by decide)) hW (fun _ => ⟨rfl, rfl⟩) (fun _ h _ => absurd h (by decide)) (fun _ h => absurd h (by decide))) w hL
    | true =>
      cases hb3 : ((seI 6 al wi ds sr im r0 r1 r2 r3 r4 r5 r6 r7 r8 r9 r10 r11 r12 r13 r14 r15).c c == c) with
      | false =>
        cases hW : (seI 6 al wi ds sr im r0 r1 r2 r3 r4 r5 r6 r7 r8 r9 r10 r11 r12 r13 r14 r15).wi with
        | false =>
          exact fin (cl := ⟨false, false, false, false, true, false, true, true, false, false, false, false, false⟩) (d := sDs 6 ds) (pick (la_53a 6 al co si wi sh ds sr dp re im r0 r1 r2 r3 r4 r5 r6 r7 r8 r9 r10 r11 r12 r13 r14 r15 z s c o pc) (la_53b 6 al co si wi sh ds sr dp re im r0 r1 r2 r3 r4 r5 r6 r7 r8 r9 r10 r11 r12 r13 r14 r15 z s c o pc) hd) (.inl rfl) hd (laC_ok hk hy rfl rfl rfl rfl rfl rfl rfl hb1 (fun _ => hb2) (fun _ _ => hb3) (fun _ _ h => absurd h (by decide)) rfl (fun h _ => absurd h (by decide)) hW (fun _ => ⟨rfl, rfl⟩) (fun _ h _ => absurd h (by decide)) (fun _ h => absurd h (by decide))) w hL
        | true =>
          exact fin (cl := ⟨false, false, false, false, true, false, true, true, false, false, false, false, true⟩) (d := sDs 6 ds) (pick (la_54a 6 al co si wi sh ds sr dp re im r0 r1 r2 r3 r4 r5 r6 r7 r8 r9 r10 r11 r12 r13 r14 r15 z s c o pc) (la_54b 6 al co si wi sh ds sr dp re im r0 r1 r2 r3 r4 r5 r6 r7 r8 r9 r10 r11 r12 r13 r14 r15 z s c o pc) hd) (.inl rfl) hd (laC_ok hk hy rfl rfl rfl rfl rfl rfl rfl hb1 (fun _ => hb2) (fun _ _ => hb3) (fun _ _ h => absurd h (by decide)) rfl (fun h _ => absurd h (by decide)) hW (fun _ => ⟨rfl, rfl⟩) (fun _ h _ => absurd h (by decide)) (fun _ h => absurd h (by decide))) w hL
      | true =>
        cases hb4 : ((seI 6 al wi ds sr im r0 r1 r2 r3 r4 r5 r6 r7 r8 r9 r10 r11 r12 r13 r14 r15).o o == o) with
        | false =>
          cases hW : (seI 6 al wi ds sr im r0 r1 r2 r3 r4 r5 r6 r7 r8 r9 r10 r11 r12 r13 r14 r15).wi with
          | false =>
            exact fin (cl := ⟨false, false, false, false, true, false, true, true, true, false, false, false, false⟩) (d := sDs 6 ds) (pick (la_55a 6 al co si wi sh ds sr dp re im r0 r1 r2 r3 r4 r5 r6 r7 r8 r9 r10 r11 r12 r13 r14 r15 z s c o pc) (la_55b 6 al co si wi sh ds sr dp re im r0 r1 r2 r3 r4 r5 r6 r7 r8 r9 r10 r11 r12 r13 r14 r15 z s c o pc) hd) (.inl rfl) hd (laC_ok hk hy rfl rfl rfl rfl rfl rfl rfl hb1 (fun _ => hb2) (fun _ _ => hb3) (fun _ _ _ => hb4) rfl (fun h _ => absurd h (by decide)) hW (fun _ => ⟨rfl, rfl⟩) (fun _ h _ => absurd h (by decide)) (fun _ h => absurd h (by decide))) w hL
          | true =>
            exact fin (cl := ⟨false, false, false, false, true, false, true, true, true, false, false, false, true⟩) (d := sDs 6 ds) (pick (la_56a 6 al co si wi sh ds sr dp re im r0 r1 r2 r3 r4 r5 r6 r7 r8 r9 r10 r11 r12 r13 r14 r15 z s c o pc) (la_56b 6 al co si wi sh ds sr dp re im r0 r1 r2 r3 r4 r5 r6 r7 r8 r9 r10 r11 r12 r13 r14 r15 z s c o pc) hd) (.inl rfl) hd (laC_ok hk hy rfl rfl rfl rfl rfl rfl rfl hb1 (fun _ => hb2) (fun _ _ => hb3) (fun _ _ _ => hb4) rfl (fun h _ => absurd h (by decide)) hW (fun _ => ⟨rfl, rfl⟩) (fun _ h _ => absurd h (by decide)) (fun _ h => absurd h (by decide))) w hL
        | true =>
          cases hW : (seI 6 al wi ds sr im r0 r1 r2 r3 r4 r5 r6 r7 r8 r9 r10 r11 r12 r13 r14 r15).wi with
          | false =>
            exact fin (cl := ⟨false, false, false, false, true, false, true, true, true, true, false, false, false⟩) (d := sDs 6 ds) (pick (la_57a 6 al co si wi sh ds sr dp re im r0 r1 r2 r3 r4 r5 r6 r7 r8 r9 r10 r11 r12 r13 r14 r15 z s c o pc) (la_57b 6 al co si wi sh ds sr dp re im r0 r1 r2 r3 r4 r5 r6 r7 r8 r9 r10 r11 r12 r13 r14 r15 z s c o pc) hd) (.inl rfl) hd (laC_ok hk hy rfl rfl rfl rfl rfl rfl rfl hb1 (fun _ => hb2) (fun _ _ => hb3) (fun _ _ _ => hb4) rfl (fun h _ => absurd h (by decide)) hW (fun _ => ⟨rfl, rfl⟩) (fun _ h _ => absurd h (by decide)) (fun _ h => absurd h (by decide))) w hL
          | true =>
            exact fin (cl := ⟨false, false, false, false, true, false, true, true, true, true, false, false, true⟩) (d := sDs 6 ds) (pick (la_58a 6 al co si wi sh ds sr dp re im r0 r1 r2 r3 r4 r5 r6 r7 r8 r9 r10 r11 r12 r13 r14 r15 z s c o pc) (la_58b 6 al co si wi sh ds sr dp re im r0 r1 r2 r3 r4 r5 r6 r7 r8 r9 r10 r11 r12 r13 r14 r15 z s c o pc) hd) (.inl rfl) hd (laC_ok hk hy rfl rfl rfl rfl rfl rfl rfl hb1 (fun _ => hb2) (fun _ _ => hb3) (fun _ _ _ => hb4) rfl (fun h _ => absurd h (by decide)) hW (fun _ => ⟨rfl, rfl⟩) (fun _ h _ => absurd h (by decide)) (fun _ h => absurd h (by decide))) w hL
theorem stays_7 (al co si : Int) (wi sh : Bool) (ds sr dp re im r0 r1 r2 r3 r4 r5 r6 r7 r8 r9 r10 r11 r12 r13 r14 r15 : Int) (z s c o : Bool) (pc : Int) (hr : (rsL r0 r1 r2 r3 r4 r5 r6 r7 r8 r9 r10 r11 r12 r13 r14 r15).all inB = true) (hD : ((7 : Int) == 9 && (seI 7 al wi ds sr im r0 r1 r2 r3 r4 r5 r6 r7 r8 r9 r10 r11 r12 r13 r14 r15).dv) = false) (w : World) (hL : Laid h12 w) : Calls Tryd.prog 12 #[.agg ⟨xA 7 al co si wi sh ds sr dp re im⟩, stA r0 r1 r2 r3 r4 r5 r6 r7 r8 r9 r10 r11 r12 r13 r14 r15 z s c o pc] w fun e w' => e = .returned (.bool true) ∧ Gr w w' := by
  have hk : okK 7 = true := rfl
  have hd := sDs_in 7 ds
  have hy : In.ok (seI 7 al wi ds sr im r0 r1 r2 r3 r4 r5 r6 r7 r8 r9 r10 r11 r12 r13 r14 r15) = true := by
    unfold In.ok
    rw [Bool.and_eq_true, Bool.and_eq_true, Bool.and_eq_true]
    exact ⟨set_ok 7 al wi ds sr im hk, hk, by rw [show (!((seI 7 al wi ds sr im r0 r1 r2 r3 r4 r5 r6 r7 r8 r9 r10 r11 r12 r13 r14 r15).k == 9 && (seI 7 al wi ds sr im r0 r1 r2 r3 r4 r5 r6 r7 r8 r9 r10 r11 r12 r13 r14 r15).dv)) = !((7 : Int) == 9 && (seI 7 al wi ds sr im r0 r1 r2 r3 r4 r5 r6 r7 r8 r9 r10 r11 r12 r13 r14 r15).dv) from rfl, hD]; rfl, hr⟩
  cases hb1 : ((seI 7 al wi ds sr im r0 r1 r2 r3 r4 r5 r6 r7 r8 r9 r10 r11 r12 r13 r14 r15).z z == z) with
  | false =>
    cases hW : (seI 7 al wi ds sr im r0 r1 r2 r3 r4 r5 r6 r7 r8 r9 r10 r11 r12 r13 r14 r15).wi with
    | false =>
      exact fin (cl := ⟨false, false, false, false, false, true, false, false, false, false, false, false, false⟩) (d := sDs 7 ds) (pick (la_59a 7 al co si wi sh ds sr dp re im r0 r1 r2 r3 r4 r5 r6 r7 r8 r9 r10 r11 r12 r13 r14 r15 z s c o pc) (la_59b 7 al co si wi sh ds sr dp re im r0 r1 r2 r3 r4 r5 r6 r7 r8 r9 r10 r11 r12 r13 r14 r15 z s c o pc) hd) (.inl rfl) hd (laC_ok hk hy rfl rfl rfl rfl rfl rfl rfl hb1 (fun h => absurd h (by decide)) (fun h _ => absurd h (by decide)) (fun h _ _ => absurd h (by decide)) rfl (fun _ _ => rfl) hW (fun h => absurd h (by decide)) (fun _ _ _ => one_low rfl rfl rfl hW rfl) (fun _ h => absurd h (by decide))) w hL
    | true =>
      exact fin (cl := ⟨false, false, false, false, false, true, false, false, false, false, false, false, true⟩) (d := sDs 7 ds) (pick (la_60a 7 al co si wi sh ds sr dp re im r0 r1 r2 r3 r4 r5 r6 r7 r8 r9 r10 r11 r12 r13 r14 r15 z s c o pc) (la_60b 7 al co si wi sh ds sr dp re im r0 r1 r2 r3 r4 r5 r6 r7 r8 r9 r10 r11 r12 r13 r14 r15 z s c o pc) hd) (.inl rfl) hd (laC_ok hk hy rfl rfl rfl rfl rfl rfl rfl hb1 (fun h => absurd h (by decide)) (fun h _ => absurd h (by decide)) (fun h _ _ => absurd h (by decide)) rfl (fun _ _ => rfl) hW (fun h => absurd h (by decide)) (fun h _ _ => absurd h (by decide)) (fun _ h => absurd h (by decide))) w hL
  | true =>
    cases hb2 : ((seI 7 al wi ds sr im r0 r1 r2 r3 r4 r5 r6 r7 r8 r9 r10 r11 r12 r13 r14 r15).s s == s) with
    | false =>
      cases hW : (seI 7 al wi ds sr im r0 r1 r2 r3 r4 r5 r6 r7 r8 r9 r10 r11 r12 r13 r14 r15).wi with
      | false =>
        exact fin (cl := ⟨false, false, false, false, false, true, true, false, false, false, false, false, false⟩) (d := sDs 7 ds) (pick (la_61a 7 al co si wi sh ds sr dp re im r0 r1 r2 r3 r4 r5 r6 r7 r8 r9 r10 r11 r12 r13 r14 r15 z s c o pc) (la_61b 7 al co si wi sh ds sr dp re im r0 r1 r2 r3 r4 r5 r6 r7 r8 r9 r10 r11 r12 r13 r14 r15 z s c o pc) hd) (.inl rfl) hd (laC_ok hk hy rfl rfl rfl rfl rfl rfl rfl hb1 (fun _ => hb2) (fun _ h => absurd h (by decide)) (fun _ h _ => absurd h (by decide)) rfl (fun _ _ => rfl) hW (fun h => absurd h (by decide)) (fun _ _ _ => one_low rfl rfl rfl hW rfl) (fun _ h => absurd h (by decide))) w hL
      | true =>
        exact fin (cl := ⟨false, false, false, false, false, true, true, false, false, false, false, false, true⟩) (d := sDs 7 ds) (pick (la_62a 7 al co si wi sh ds sr dp re im r0 r1 r2 r3 r4 r5 r6 r7 r8 r9 r10 r11 r12 r13 r14 r15 z s c o pc) (la_62b 7 al co si wi sh ds sr dp re im r0 r1 r2 r3 r4 r5 r6 r7 r8 r9 r10 r11 r12 r13 r14 r15 z s c o pc) hd) (.inl rfl) hd (laC_ok hk hy rfl rfl rfl rfl rfl rfl rfl hb1 (fun _ => hb2) (fun _ h => absurd h (by decide)) (fun _ h _ => absurd h (by decide)) rfl (fun _ _ => rfl) hW (fun h => absurd h (by decide)) (fun h _ _ => absurd h (by decide)) (fun _ h => absurd h (by decide))) w hL
    | true =>
      cases hb3 : ((seI 7 al wi ds sr im r0 r1 r2 r3 r4 r5 r6 r7 r8 r9 r10 r11 r12 r13 r14 r15).c c == c) with
      | false =>
        cases hW : (seI 7 al wi ds sr im r0 r1 r2 r3 r4 r5 r6 r7 r8 r9 r10 r11 r12 r13 r14 r15).wi with
        | false =>
          exact fin (cl := ⟨false, false, false, false, false, true, true, true, false, false, false, false, false⟩) (d := sDs 7 ds) (pick (la_63a 7 al co si wi sh ds sr dp re im r0 r1 r2 r3 r4 r5 r6 r7 r8 r9 r10 r11 r12 r13 r14 r15 z s c o pc) (la_63b 7 al co si wi sh ds sr dp re im r0 r1 r2 r3 r4 r5 r6 r7 r8 r9 r10 r11 r12 r13 r14 r15 z s c o pc) hd) (.inl rfl) hd (laC_ok hk hy rfl rfl rfl rfl rfl rfl rfl hb1 (fun _ => hb2) (fun _ _ => hb3) (fun _ _ h => absurd h (by decide)) rfl (fun _ _ => rfl) hW (fun h => absurd h (by decide)) (fun _ _ _ => one_low rfl rfl rfl hW rfl) (fun _ h => absurd h (by decide))) w hL
        | true =>
          exact fin (cl := ⟨false, false, false, false, false, true, true, true, false, false, false, false, true⟩) (d := sDs 7 ds) (pick (la_64a 7 al co si wi sh ds sr dp re im r0 r1 r2 r3 r4 r5 r6 r7 r8 r9 r10 r11 r12 r13 r14 r15 z s c o pc) (la_64b 7 al co si wi sh ds sr dp re im r0 r1 r2 r3 r4 r5 r6 r7 r8 r9 r10 r11 r12 r13 r14 r15 z s c o pc) hd) (.inl rfl) hd (laC_ok hk hy rfl rfl rfl rfl rfl rfl rfl hb1 (fun _ => hb2) (fun _ _ => hb3) (fun _ _ h => absurd h (by decide)) rfl (fun _ _ => rfl) hW (fun h => absurd h (by decide)) (fun h _ _ => absurd h (by decide)) (fun _ h => absurd h (by decide))) w hL
      | true =>
        cases hb4 : ((seI 7 al wi ds sr im r0 r1 r2 r3 r4 r5 r6 r7 r8 r9 r10 r11 r12 r13 r14 r15).o o == o) with
        | false =>
          cases hW : (seI 7 al wi ds sr im r0 r1 r2 r3 r4 r5 r6 r7 r8 r9 r10 r11 r12 r13 r14 r15).wi with
          | false =>
            exact fin (cl := ⟨false, false, false, false, false, true, true, true, true, false, false, false, false⟩) (d := sDs 7 ds) (pick (la_65a 7 al co si wi sh ds sr dp re im r0 r1 r2 r3 r4 r5 r6 r7 r8 r9 r10 r11 r12 r13 r14 r15 z s c o pc) (la_65b 7 al co si wi sh ds sr dp re im r0 r1 r2 r3 r4 r5 r6 r7 r8 r9 r10 r11 r12 r13 r14 r15 z s c o pc) hd) (.inl rfl) hd (laC_ok hk hy rfl rfl rfl rfl rfl rfl rfl hb1 (fun _ => hb2) (fun _ _ => hb3) (fun _ _ _ => hb4) rfl (fun _ _ => rfl) hW (fun h => absurd h (by decide)) (fun _ _ _ => one_low rfl rfl rfl hW rfl) (fun _ h => absurd h (by decide))) w hL
          | true =>
            exact fin (cl := ⟨false, false, false, false, false, true, true, true, true, false, false, false, true⟩) (d := sDs 7 ds) (pick (la_66a 7 al co si wi sh ds sr dp re im r0 r1 r2 r3 r4 r5 r6 r7 r8 r9 r10 r11 r12 r13 r14 r15 z s c o pc) (la_66b 7 al co si wi sh ds sr dp re im r0 r1 r2 r3 r4 r5 r6 r7 r8 r9 r10 r11 r12 r13 r14 r15 z s c o pc) hd) (.inl rfl) hd (laC_ok hk hy rfl rfl rfl rfl rfl rfl rfl hb1 (fun _ => hb2) (fun _ _ => hb3) (fun _ _ _ => hb4) rfl (fun _ _ => rfl) hW (fun h => absurd h (by decide)) (fun h _ _ => absurd h (by decide)) (fun _ h => absurd h (by decide))) w hL
        | true =>
          cases hW : (seI 7 al wi ds sr im r0 r1 r2 r3 r4 r5 r6 r7 r8 r9 r10 r11 r12 r13 r14 r15).wi with
          | false =>
            exact fin (cl := ⟨false, false, false, false, false, true, true, true, true, true, false, false, false⟩) (d := sDs 7 ds) (pick (la_67a 7 al co si wi sh ds sr dp re im r0 r1 r2 r3 r4 r5 r6 r7 r8 r9 r10 r11 r12 r13 r14 r15 z s c o pc) (la_67b 7 al co si wi sh ds sr dp re im r0 r1 r2 r3 r4 r5 r6 r7 r8 r9 r10 r11 r12 r13 r14 r15 z s c o pc) hd) (.inl rfl) hd (laC_ok hk hy rfl rfl rfl rfl rfl rfl rfl hb1 (fun _ => hb2) (fun _ _ => hb3) (fun _ _ _ => hb4) rfl (fun _ _ => rfl) hW (fun h => absurd h (by decide)) (fun _ _ _ => one_low rfl rfl rfl hW rfl) (fun _ h => absurd h (by decide))) w hL
          | true =>
            exact fin (cl := ⟨false, false, false, false, false, true, true, true, true, true, false, false, true⟩) (d := sDs 7 ds) (pick (la_68a 7 al co si wi sh ds sr dp re im r0 r1 r2 r3 r4 r5 r6 r7 r8 r9 r10 r11 r12 r13 r14 r15 z s c o pc) (la_68b 7 al co si wi sh ds sr dp re im r0 r1 r2 r3 r4 r5 r6 r7 r8 r9 r10 r11 r12 r13 r14 r15 z s c o pc) hd) (.inl rfl) hd (laC_ok hk hy rfl rfl rfl rfl rfl rfl rfl hb1 (fun _ => hb2) (fun _ _ => hb3) (fun _ _ _ => hb4) rfl (fun _ _ => rfl) hW (fun h => absurd h (by decide)) (fun h _ _ => absurd h (by decide)) (fun _ h => absurd h (by decide))) w hL
theorem stays_8 (al co si : Int) (wi sh : Bool) (ds sr dp re im r0 r1 r2 r3 r4 r5 r6 r7 r8 r9 r10 r11 r12 r13 r14 r15 : Int) (z s c o : Bool) (pc : Int) (hr : (rsL r0 r1 r2 r3 r4 r5 r6 r7 r8 r9 r10 r11 r12 r13 r14 r15).all inB = true) (hD : ((8 : Int) == 9 && (seI 8 al wi ds sr im r0 r1 r2 r3 r4 r5 r6 r7 r8 r9 r10 r11 r12 r13 r14 r15).dv) = false) (w : World) (hL : Laid h12 w) : Calls Tryd.prog 12 #[.agg ⟨xA 8 al co si wi sh ds sr dp re im⟩, stA r0 r1 r2 r3 r4 r5 r6 r7 r8 r9 r10 r11 r12 r13 r14 r15 z s c o pc] w fun e w' => e = .returned (.bool true) ∧ Gr w w' := by
  have hk : okK 8 = true := rfl
  have hd := sDs_in 8 ds
  have hy : In.ok (seI 8 al wi ds sr im r0 r1 r2 r3 r4 r5 r6 r7 r8 r9 r10 r11 r12 r13 r14 r15) = true := by
    unfold In.ok
    rw [Bool.and_eq_true, Bool.and_eq_true, Bool.and_eq_true]
    exact ⟨set_ok 8 al wi ds sr im hk, hk, by rw [show (!((seI 8 al wi ds sr im r0 r1 r2 r3 r4 r5 r6 r7 r8 r9 r10 r11 r12 r13 r14 r15).k == 9 && (seI 8 al wi ds sr im r0 r1 r2 r3 r4 r5 r6 r7 r8 r9 r10 r11 r12 r13 r14 r15).dv)) = !((8 : Int) == 9 && (seI 8 al wi ds sr im r0 r1 r2 r3 r4 r5 r6 r7 r8 r9 r10 r11 r12 r13 r14 r15).dv) from rfl, hD]; rfl, hr⟩
  cases hW : (seI 8 al wi ds sr im r0 r1 r2 r3 r4 r5 r6 r7 r8 r9 r10 r11 r12 r13 r14 r15).wi with
  | false =>
    exact fin (cl := ⟨true, false, false, false, false, false, true, true, true, true, false, false, false⟩) (d := sDs 8 ds) (pick (la_0a 8 al co si wi sh ds sr dp re im r0 r1 r2 r3 r4 r5 r6 r7 r8 r9 r10 r11 r12 r13 r14 r15 z s c o pc) (la_0b 8 al co si wi sh ds sr dp re im r0 r1 r2 r3 r4 r5 r6 r7 r8 r9 r10 r11 r12 r13 r14 r15 z s c o pc) hd) (.inr rfl) hd (laC_ok hk hy rfl rfl rfl rfl rfl rfl rfl (zz rfl z) (fun _ => ss rfl s) (fun _ _ => cc rfl c) (fun _ _ _ => oo rfl o) rfl (fun _ _ => rfl) hW (fun h => absurd h (by decide)) (fun _ _ h => absurd h (by decide)) (fun _ _ => pair_low rfl hW hD)) w hL
  | true =>
    exact fin (cl := ⟨true, false, false, false, false, false, true, true, true, true, false, false, true⟩) (d := sDs 8 ds) (pick (la_1a 8 al co si wi sh ds sr dp re im r0 r1 r2 r3 r4 r5 r6 r7 r8 r9 r10 r11 r12 r13 r14 r15 z s c o pc) (la_1b 8 al co si wi sh ds sr dp re im r0 r1 r2 r3 r4 r5 r6 r7 r8 r9 r10 r11 r12 r13 r14 r15 z s c o pc) hd) (.inr rfl) hd (laC_ok hk hy rfl rfl rfl rfl rfl rfl rfl (zz rfl z) (fun _ => ss rfl s) (fun _ _ => cc rfl c) (fun _ _ _ => oo rfl o) rfl (fun _ _ => rfl) hW (fun h => absurd h (by decide)) (fun _ _ h => absurd h (by decide)) (fun h _ => absurd h (by decide))) w hL
theorem stays_9 (al co si : Int) (wi sh : Bool) (ds sr dp re im r0 r1 r2 r3 r4 r5 r6 r7 r8 r9 r10 r11 r12 r13 r14 r15 : Int) (z s c o : Bool) (pc : Int) (hr : (rsL r0 r1 r2 r3 r4 r5 r6 r7 r8 r9 r10 r11 r12 r13 r14 r15).all inB = true) (hD : ((9 : Int) == 9 && (seI 9 al wi ds sr im r0 r1 r2 r3 r4 r5 r6 r7 r8 r9 r10 r11 r12 r13 r14 r15).dv) = false) (w : World) (hL : Laid h12 w) : Calls Tryd.prog 12 #[.agg ⟨xA 9 al co si wi sh ds sr dp re im⟩, stA r0 r1 r2 r3 r4 r5 r6 r7 r8 r9 r10 r11 r12 r13 r14 r15 z s c o pc] w fun e w' => e = .returned (.bool true) ∧ Gr w w' := by
  have hk : okK 9 = true := rfl
  have hd := sDs_in 9 ds
  have hy : In.ok (seI 9 al wi ds sr im r0 r1 r2 r3 r4 r5 r6 r7 r8 r9 r10 r11 r12 r13 r14 r15) = true := by
    unfold In.ok
    rw [Bool.and_eq_true, Bool.and_eq_true, Bool.and_eq_true]
    exact ⟨set_ok 9 al wi ds sr im hk, hk, by rw [show (!((seI 9 al wi ds sr im r0 r1 r2 r3 r4 r5 r6 r7 r8 r9 r10 r11 r12 r13 r14 r15).k == 9 && (seI 9 al wi ds sr im r0 r1 r2 r3 r4 r5 r6 r7 r8 r9 r10 r11 r12 r13 r14 r15).dv)) = !((9 : Int) == 9 && (seI 9 al wi ds sr im r0 r1 r2 r3 r4 r5 r6 r7 r8 r9 r10 r11 r12 r13 r14 r15).dv) from rfl, hD]; rfl, hr⟩
  cases hW : (seI 9 al wi ds sr im r0 r1 r2 r3 r4 r5 r6 r7 r8 r9 r10 r11 r12 r13 r14 r15).wi with
  | false =>
    exact fin (cl := ⟨false, true, false, false, false, false, true, true, true, true, false, false, false⟩) (d := sDs 9 ds) (pick (la_2a 9 al co si wi sh ds sr dp re im r0 r1 r2 r3 r4 r5 r6 r7 r8 r9 r10 r11 r12 r13 r14 r15 z s c o pc) (la_2b 9 al co si wi sh ds sr dp re im r0 r1 r2 r3 r4 r5 r6 r7 r8 r9 r10 r11 r12 r13 r14 r15 z s c o pc) hd) (.inl rfl) hd (laC_ok hk hy rfl rfl rfl rfl rfl rfl rfl (zz rfl z) (fun _ => ss rfl s) (fun _ _ => cc rfl c) (fun _ _ _ => oo rfl o) rfl (fun _ _ => rfl) hW (fun h => absurd h (by decide)) (fun _ _ h => absurd h (by decide)) (fun _ _ => pair_low rfl hW hD)) w hL
  | true =>
    exact fin (cl := ⟨false, true, false, false, false, false, true, true, true, true, false, false, true⟩) (d := sDs 9 ds) (pick (la_3a 9 al co si wi sh ds sr dp re im r0 r1 r2 r3 r4 r5 r6 r7 r8 r9 r10 r11 r12 r13 r14 r15 z s c o pc) (la_3b 9 al co si wi sh ds sr dp re im r0 r1 r2 r3 r4 r5 r6 r7 r8 r9 r10 r11 r12 r13 r14 r15 z s c o pc) hd) (.inl rfl) hd (laC_ok hk hy rfl rfl rfl rfl rfl rfl rfl (zz rfl z) (fun _ => ss rfl s) (fun _ _ => cc rfl c) (fun _ _ _ => oo rfl o) rfl (fun _ _ => rfl) hW (fun h => absurd h (by decide)) (fun _ _ h => absurd h (by decide)) (fun h _ => absurd h (by decide))) w hL
theorem stays_10 (al co si : Int) (wi sh : Bool) (ds sr dp re im r0 r1 r2 r3 r4 r5 r6 r7 r8 r9 r10 r11 r12 r13 r14 r15 : Int) (z s c o : Bool) (pc : Int) (hr : (rsL r0 r1 r2 r3 r4 r5 r6 r7 r8 r9 r10 r11 r12 r13 r14 r15).all inB = true) (hD : ((10 : Int) == 9 && (seI 10 al wi ds sr im r0 r1 r2 r3 r4 r5 r6 r7 r8 r9 r10 r11 r12 r13 r14 r15).dv) = false) (w : World) (hL : Laid h12 w) : Calls Tryd.prog 12 #[.agg ⟨xA 10 al co si wi sh ds sr dp re im⟩, stA r0 r1 r2 r3 r4 r5 r6 r7 r8 r9 r10 r11 r12 r13 r14 r15 z s c o pc] w fun e w' => e = .returned (.bool true) ∧ Gr w w' := by
  have hk : okK 10 = true := rfl
  have hd := sDs_in 10 ds
  have hy : In.ok (seI 10 al wi ds sr im r0 r1 r2 r3 r4 r5 r6 r7 r8 r9 r10 r11 r12 r13 r14 r15) = true := by
    unfold In.ok
    rw [Bool.and_eq_true, Bool.and_eq_true, Bool.and_eq_true]
    exact ⟨set_ok 10 al wi ds sr im hk, hk, by rw [show (!((seI 10 al wi ds sr im r0 r1 r2 r3 r4 r5 r6 r7 r8 r9 r10 r11 r12 r13 r14 r15).k == 9 && (seI 10 al wi ds sr im r0 r1 r2 r3 r4 r5 r6 r7 r8 r9 r10 r11 r12 r13 r14 r15).dv)) = !((10 : Int) == 9 && (seI 10 al wi ds sr im r0 r1 r2 r3 r4 r5 r6 r7 r8 r9 r10 r11 r12 r13 r14 r15).dv) from rfl, hD]; rfl, hr⟩
  cases h7 : ((seI 10 al wi ds sr im r0 r1 r2 r3 r4 r5 r6 r7 r8 r9 r10 r11 r12 r13 r14 r15).al == 7) with
  | false =>
    cases hW : (seI 10 al wi ds sr im r0 r1 r2 r3 r4 r5 r6 r7 r8 r9 r10 r11 r12 r13 r14 r15).wi with
    | false =>
      exact fin (cl := ⟨false, false, false, false, false, false, true, true, true, true, false, false, false⟩) (d := sDs 10 ds) (pick (la_4a 10 al co si wi sh ds sr dp re im r0 r1 r2 r3 r4 r5 r6 r7 r8 r9 r10 r11 r12 r13 r14 r15 z s c o pc) (la_4b 10 al co si wi sh ds sr dp re im r0 r1 r2 r3 r4 r5 r6 r7 r8 r9 r10 r11 r12 r13 r14 r15 z s c o pc) hd) (.inl rfl) hd (laC_ok hk hy rfl rfl rfl rfl rfl rfl rfl (zz rfl z) (fun _ => ss rfl s) (fun _ _ => cc rfl c) (fun _ _ _ => oo rfl o) rfl (fun _ _ => h7) hW (fun h => absurd h (by decide)) (fun _ _ _ => one_low rfl rfl rfl hW rfl) (fun _ h => absurd h (by decide))) w hL
    | true =>
      exact fin (cl := ⟨false, false, false, false, false, false, true, true, true, true, false, false, true⟩) (d := sDs 10 ds) (pick (la_5a 10 al co si wi sh ds sr dp re im r0 r1 r2 r3 r4 r5 r6 r7 r8 r9 r10 r11 r12 r13 r14 r15 z s c o pc) (la_5b 10 al co si wi sh ds sr dp re im r0 r1 r2 r3 r4 r5 r6 r7 r8 r9 r10 r11 r12 r13 r14 r15 z s c o pc) hd) (.inl rfl) hd (laC_ok hk hy rfl rfl rfl rfl rfl rfl rfl (zz rfl z) (fun _ => ss rfl s) (fun _ _ => cc rfl c) (fun _ _ _ => oo rfl o) rfl (fun _ _ => h7) hW (fun h => absurd h (by decide)) (fun h _ _ => absurd h (by decide)) (fun _ h => absurd h (by decide))) w hL
  | true =>
    cases hW : (seI 10 al wi ds sr im r0 r1 r2 r3 r4 r5 r6 r7 r8 r9 r10 r11 r12 r13 r14 r15).wi with
    | false =>
      exact fin (cl := ⟨false, false, false, false, false, false, true, true, true, true, false, true, false⟩) (d := sDs 10 ds) (pick (la_6a 10 al co si wi sh ds sr dp re im r0 r1 r2 r3 r4 r5 r6 r7 r8 r9 r10 r11 r12 r13 r14 r15 z s c o pc) (la_6b 10 al co si wi sh ds sr dp re im r0 r1 r2 r3 r4 r5 r6 r7 r8 r9 r10 r11 r12 r13 r14 r15 z s c o pc) hd) (.inl rfl) hd (laC_ok hk hy rfl rfl rfl rfl rfl rfl rfl (zz rfl z) (fun _ => ss rfl s) (fun _ _ => cc rfl c) (fun _ _ _ => oo rfl o) rfl (fun _ _ => h7) hW (fun h => absurd h (by decide)) (fun _ _ _ => one_low rfl rfl rfl hW rfl) (fun _ h => absurd h (by decide))) w hL
    | true =>
      exact fin (cl := ⟨false, false, false, false, false, false, true, true, true, true, false, true, true⟩) (d := sDs 10 ds) (pick (la_7a 10 al co si wi sh ds sr dp re im r0 r1 r2 r3 r4 r5 r6 r7 r8 r9 r10 r11 r12 r13 r14 r15 z s c o pc) (la_7b 10 al co si wi sh ds sr dp re im r0 r1 r2 r3 r4 r5 r6 r7 r8 r9 r10 r11 r12 r13 r14 r15 z s c o pc) hd) (.inl rfl) hd (laC_ok hk hy rfl rfl rfl rfl rfl rfl rfl (zz rfl z) (fun _ => ss rfl s) (fun _ _ => cc rfl c) (fun _ _ _ => oo rfl o) rfl (fun _ _ => h7) hW (fun h => absurd h (by decide)) (fun h _ _ => absurd h (by decide)) (fun _ h => absurd h (by decide))) w hL
theorem stays_11 (al co si : Int) (wi sh : Bool) (ds sr dp re im r0 r1 r2 r3 r4 r5 r6 r7 r8 r9 r10 r11 r12 r13 r14 r15 : Int) (z s c o : Bool) (pc : Int) (hr : (rsL r0 r1 r2 r3 r4 r5 r6 r7 r8 r9 r10 r11 r12 r13 r14 r15).all inB = true) (hD : ((11 : Int) == 9 && (seI 11 al wi ds sr im r0 r1 r2 r3 r4 r5 r6 r7 r8 r9 r10 r11 r12 r13 r14 r15).dv) = false) (w : World) (hL : Laid h12 w) : Calls Tryd.prog 12 #[.agg ⟨xA 11 al co si wi sh ds sr dp re im⟩, stA r0 r1 r2 r3 r4 r5 r6 r7 r8 r9 r10 r11 r12 r13 r14 r15 z s c o pc] w fun e w' => e = .returned (.bool true) ∧ Gr w w' := by
  have hk : okK 11 = true := rfl
  have hd := sDs_in 11 ds
  have hy : In.ok (seI 11 al wi ds sr im r0 r1 r2 r3 r4 r5 r6 r7 r8 r9 r10 r11 r12 r13 r14 r15) = true := by
    unfold In.ok
    rw [Bool.and_eq_true, Bool.and_eq_true, Bool.and_eq_true]
    exact ⟨set_ok 11 al wi ds sr im hk, hk, by rw [show (!((seI 11 al wi ds sr im r0 r1 r2 r3 r4 r5 r6 r7 r8 r9 r10 r11 r12 r13 r14 r15).k == 9 && (seI 11 al wi ds sr im r0 r1 r2 r3 r4 r5 r6 r7 r8 r9 r10 r11 r12 r13 r14 r15).dv)) = !((11 : Int) == 9 && (seI 11 al wi ds sr im r0 r1 r2 r3 r4 r5 r6 r7 r8 r9 r10 r11 r12 r13 r14 r15).dv) from rfl, hD]; rfl, hr⟩
  cases h7 : ((seI 11 al wi ds sr im r0 r1 r2 r3 r4 r5 r6 r7 r8 r9 r10 r11 r12 r13 r14 r15).al == 7) with
  | false =>
    cases hW : (seI 11 al wi ds sr im r0 r1 r2 r3 r4 r5 r6 r7 r8 r9 r10 r11 r12 r13 r14 r15).wi with
    | false =>
      exact fin (cl := ⟨false, false, false, false, false, false, true, true, true, true, false, false, false⟩) (d := sDs 11 ds) (pick (la_4a 11 al co si wi sh ds sr dp re im r0 r1 r2 r3 r4 r5 r6 r7 r8 r9 r10 r11 r12 r13 r14 r15 z s c o pc) (la_4b 11 al co si wi sh ds sr dp re im r0 r1 r2 r3 r4 r5 r6 r7 r8 r9 r10 r11 r12 r13 r14 r15 z s c o pc) hd) (.inl rfl) hd (laC_ok hk hy rfl rfl rfl rfl rfl rfl rfl (zz rfl z) (fun _ => ss rfl s) (fun _ _ => cc rfl c) (fun _ _ _ => oo rfl o) rfl (fun _ _ => h7) hW (fun h => absurd h (by decide)) (fun _ _ _ => one_low rfl rfl rfl hW rfl) (fun _ h => absurd h (by decide))) w hL
    | true =>
      exact fin (cl := ⟨false, false, false, false, false, false, true, true, true, true, false, false, true⟩) (d := sDs 11 ds) (pick (la_5a 11 al co si wi sh ds sr dp re im r0 r1 r2 r3 r4 r5 r6 r7 r8 r9 r10 r11 r12 r13 r14 r15 z s c o pc) (la_5b 11 al co si wi sh ds sr dp re im r0 r1 r2 r3 r4 r5 r6 r7 r8 r9 r10 r11 r12 r13 r14 r15 z s c o pc) hd) (.inl rfl) hd (laC_ok hk hy rfl rfl rfl rfl rfl rfl rfl (zz rfl z) (fun _ => ss rfl s) (fun _ _ => cc rfl c) (fun _ _ _ => oo rfl o) rfl (fun _ _ => h7) hW (fun h => absurd h (by decide)) (fun h _ _ => absurd h (by decide)) (fun _ h => absurd h (by decide))) w hL
  | true =>
    cases hW : (seI 11 al wi ds sr im r0 r1 r2 r3 r4 r5 r6 r7 r8 r9 r10 r11 r12 r13 r14 r15).wi with
    | false =>
      exact fin (cl := ⟨false, false, false, false, false, false, true, true, true, true, false, true, false⟩) (d := sDs 11 ds) (pick (la_6a 11 al co si wi sh ds sr dp re im r0 r1 r2 r3 r4 r5 r6 r7 r8 r9 r10 r11 r12 r13 r14 r15 z s c o pc) (la_6b 11 al co si wi sh ds sr dp re im r0 r1 r2 r3 r4 r5 r6 r7 r8 r9 r10 r11 r12 r13 r14 r15 z s c o pc) hd) (.inl rfl) hd (laC_ok hk hy rfl rfl rfl rfl rfl rfl rfl (zz rfl z) (fun _ => ss rfl s) (fun _ _ => cc rfl c) (fun _ _ _ => oo rfl o) rfl (fun _ _ => h7) hW (fun h => absurd h (by decide)) (fun _ _ _ => one_low rfl rfl rfl hW rfl) (fun _ h => absurd h (by decide))) w hL
    | true =>
      exact fin (cl := ⟨false, false, false, false, false, false, true, true, true, true, false, true, true⟩) (d := sDs 11 ds) (pick (la_7a 11 al co si wi sh ds sr dp re im r0 r1 r2 r3 r4 r5 r6 r7 r8 r9 r10 r11 r12 r13 r14 r15 z s c o pc) (la_7b 11 al co si wi sh ds sr dp re im r0 r1 r2 r3 r4 r5 r6 r7 r8 r9 r10 r11 r12 r13 r14 r15 z s c o pc) hd) (.inl rfl) hd (laC_ok hk hy rfl rfl rfl rfl rfl rfl rfl (zz rfl z) (fun _ => ss rfl s) (fun _ _ => cc rfl c) (fun _ _ _ => oo rfl o) rfl (fun _ _ => h7) hW (fun h => absurd h (by decide)) (fun h _ _ => absurd h (by decide)) (fun _ h => absurd h (by decide))) w hL
theorem stays_12 (al co si : Int) (wi sh : Bool) (ds sr dp re im r0 r1 r2 r3 r4 r5 r6 r7 r8 r9 r10 r11 r12 r13 r14 r15 : Int) (z s c o : Bool) (pc : Int) (hr : (rsL r0 r1 r2 r3 r4 r5 r6 r7 r8 r9 r10 r11 r12 r13 r14 r15).all inB = true) (hD : ((12 : Int) == 9 && (seI 12 al wi ds sr im r0 r1 r2 r3 r4 r5 r6 r7 r8 r9 r10 r11 r12 r13 r14 r15).dv) = false) (w : World) (hL : Laid h12 w) : Calls Tryd.prog 12 #[.agg ⟨xA 12 al co si wi sh ds sr dp re im⟩, stA r0 r1 r2 r3 r4 r5 r6 r7 r8 r9 r10 r11 r12 r13 r14 r15 z s c o pc] w fun e w' => e = .returned (.bool true) ∧ Gr w w' := by
  have hk : okK 12 = true := rfl
  have hd := sDs_in 12 ds
  have hy : In.ok (seI 12 al wi ds sr im r0 r1 r2 r3 r4 r5 r6 r7 r8 r9 r10 r11 r12 r13 r14 r15) = true := by
    unfold In.ok
    rw [Bool.and_eq_true, Bool.and_eq_true, Bool.and_eq_true]
    exact ⟨set_ok 12 al wi ds sr im hk, hk, by rw [show (!((seI 12 al wi ds sr im r0 r1 r2 r3 r4 r5 r6 r7 r8 r9 r10 r11 r12 r13 r14 r15).k == 9 && (seI 12 al wi ds sr im r0 r1 r2 r3 r4 r5 r6 r7 r8 r9 r10 r11 r12 r13 r14 r15).dv)) = !((12 : Int) == 9 && (seI 12 al wi ds sr im r0 r1 r2 r3 r4 r5 r6 r7 r8 r9 r10 r11 r12 r13 r14 r15).dv) from rfl, hD]; rfl, hr⟩
  cases h7 : ((seI 12 al wi ds sr im r0 r1 r2 r3 r4 r5 r6 r7 r8 r9 r10 r11 r12 r13 r14 r15).al == 7) with
  | false =>
    cases hW : (seI 12 al wi ds sr im r0 r1 r2 r3 r4 r5 r6 r7 r8 r9 r10 r11 r12 r13 r14 r15).wi with
    | false =>
      exact fin (cl := ⟨false, false, false, false, false, false, true, true, true, true, false, false, false⟩) (d := sDs 12 ds) (pick (la_4a 12 al co si wi sh ds sr dp re im r0 r1 r2 r3 r4 r5 r6 r7 r8 r9 r10 r11 r12 r13 r14 r15 z s c o pc) (la_4b 12 al co si wi sh ds sr dp re im r0 r1 r2 r3 r4 r5 r6 r7 r8 r9 r10 r11 r12 r13 r14 r15 z s c o pc) hd) (.inl rfl) hd (laC_ok hk hy rfl rfl rfl rfl rfl rfl rfl (zz rfl z) (fun _ => ss rfl s) (fun _ _ => cc rfl c) (fun _ _ _ => oo rfl o) rfl (fun _ _ => h7) hW (fun h => absurd h (by decide)) (fun _ _ _ => one_low rfl rfl rfl hW rfl) (fun _ h => absurd h (by decide))) w hL
    | true =>
      exact fin (cl := ⟨false, false, false, false, false, false, true, true, true, true, false, false, true⟩) (d := sDs 12 ds) (pick (la_5a 12 al co si wi sh ds sr dp re im r0 r1 r2 r3 r4 r5 r6 r7 r8 r9 r10 r11 r12 r13 r14 r15 z s c o pc) (la_5b 12 al co si wi sh ds sr dp re im r0 r1 r2 r3 r4 r5 r6 r7 r8 r9 r10 r11 r12 r13 r14 r15 z s c o pc) hd) (.inl rfl) hd (laC_ok hk hy rfl rfl rfl rfl rfl rfl rfl (zz rfl z) (fun _ => ss rfl s) (fun _ _ => cc rfl c) (fun _ _ _ => oo rfl o) rfl (fun _ _ => h7) hW (fun h => absurd h (by decide)) (fun h _ _ => absurd h (by decide)) (fun _ h => absurd h (by decide))) w hL
  | true =>
    cases hW : (seI 12 al wi ds sr im r0 r1 r2 r3 r4 r5 r6 r7 r8 r9 r10 r11 r12 r13 r14 r15).wi with
    | false =>
      exact fin (cl := ⟨false, false, false, false, false, false, true, true, true, true, false, true, false⟩) (d := sDs 12 ds) (pick (la_6a 12 al co si wi sh ds sr dp re im r0 r1 r2 r3 r4 r5 r6 r7 r8 r9 r10 r11 r12 r13 r14 r15 z s c o pc) (la_6b 12 al co si wi sh ds sr dp re im r0 r1 r2 r3 r4 r5 r6 r7 r8 r9 r10 r11 r12 r13 r14 r15 z s c o pc) hd) (.inl rfl) hd (laC_ok hk hy rfl rfl rfl rfl rfl rfl rfl (zz rfl z) (fun _ => ss rfl s) (fun _ _ => cc rfl c) (fun _ _ _ => oo rfl o) rfl (fun _ _ => h7) hW (fun h => absurd h (by decide)) (fun _ _ _ => one_low rfl rfl rfl hW rfl) (fun _ h => absurd h (by decide))) w hL
    | true =>
      exact fin (cl := ⟨false, false, false, false, false, false, true, true, true, true, false, true, true⟩) (d := sDs 12 ds) (pick (la_7a 12 al co si wi sh ds sr dp re im r0 r1 r2 r3 r4 r5 r6 r7 r8 r9 r10 r11 r12 r13 r14 r15 z s c o pc) (la_7b 12 al co si wi sh ds sr dp re im r0 r1 r2 r3 r4 r5 r6 r7 r8 r9 r10 r11 r12 r13 r14 r15 z s c o pc) hd) (.inl rfl) hd (laC_ok hk hy rfl rfl rfl rfl rfl rfl rfl (zz rfl z) (fun _ => ss rfl s) (fun _ _ => cc rfl c) (fun _ _ _ => oo rfl o) rfl (fun _ _ => h7) hW (fun h => absurd h (by decide)) (fun h _ _ => absurd h (by decide)) (fun _ h => absurd h (by decide))) w hL
theorem stays_21 (al co si : Int) (wi sh : Bool) (ds sr dp re im r0 r1 r2 r3 r4 r5 r6 r7 r8 r9 r10 r11 r12 r13 r14 r15 : Int) (z s c o : Bool) (pc : Int) (hr : (rsL r0 r1 r2 r3 r4 r5 r6 r7 r8 r9 r10 r11 r12 r13 r14 r15).all inB = true) (hD : ((21 : Int) == 9 && (seI 21 al wi ds sr im r0 r1 r2 r3 r4 r5 r6 r7 r8 r9 r10 r11 r12 r13 r14 r15).dv) = false) (w : World) (hL : Laid h12 w) : Calls Tryd.prog 12 #[.agg ⟨xA 21 al co si wi sh ds sr dp re im⟩, stA r0 r1 r2 r3 r4 r5 r6 r7 r8 r9 r10 r11 r12 r13 r14 r15 z s c o pc] w fun e w' => e = .returned (.bool true) ∧ Gr w w' := by
  have hk : okK 21 = true := rfl
  have hd := sDs_in 21 ds
  have hy : In.ok (seI 21 al wi ds sr im r0 r1 r2 r3 r4 r5 r6 r7 r8 r9 r10 r11 r12 r13 r14 r15) = true := by
    unfold In.ok
    rw [Bool.and_eq_true, Bool.and_eq_true, Bool.and_eq_true]
    exact ⟨set_ok 21 al wi ds sr im hk, hk, by rw [show (!((seI 21 al wi ds sr im r0 r1 r2 r3 r4 r5 r6 r7 r8 r9 r10 r11 r12 r13 r14 r15).k == 9 && (seI 21 al wi ds sr im r0 r1 r2 r3 r4 r5 r6 r7 r8 r9 r10 r11 r12 r13 r14 r15).dv)) = !((21 : Int) == 9 && (seI 21 al wi ds sr im r0 r1 r2 r3 r4 r5 r6 r7 r8 r9 r10 r11 r12 r13 r14 r15).dv) from rfl, hD]; rfl, hr⟩
  have hW : (seI 21 al wi ds sr im r0 r1 r2 r3 r4 r5 r6 r7 r8 r9 r10 r11 r12 r13 r14 r15).wi = false := rfl
  exact fin (cl := ⟨false, false, false, false, false, false, true, true, true, true, true, false, false⟩) (d := sDs 21 ds) (pick (la_8a 21 al co si wi sh ds sr dp re im r0 r1 r2 r3 r4 r5 r6 r7 r8 r9 r10 r11 r12 r13 r14 r15 z s c o pc) (la_8b 21 al co si wi sh ds sr dp re im r0 r1 r2 r3 r4 r5 r6 r7 r8 r9 r10 r11 r12 r13 r14 r15 z s c o pc) hd) (.inl rfl) hd (laC_ok hk hy rfl rfl rfl rfl rfl rfl rfl (zz rfl z) (fun _ => ss rfl s) (fun _ _ => cc rfl c) (fun _ _ _ => oo rfl o) rfl (fun _ h => absurd h (by decide)) hW (fun _ => ⟨rfl, rfl⟩) (fun _ h _ => absurd h (by decide)) (fun _ h => absurd h (by decide))) w hL
theorem cpuStays_walk (k al co si : Int) (wi sh : Bool) (ds sr dp re im r0 r1 r2 r3 r4 r5 r6 r7 r8 r9 r10 r11 r12 r13 r14 r15 : Int) (z s c o : Bool) (pc : Int) (hr : (rsL r0 r1 r2 r3 r4 r5 r6 r7 r8 r9 r10 r11 r12 r13 r14 r15).all inB = true) (w : World) (hT : TabAt w) : Calls Tryd.prog 12 #[.agg ⟨xA k al co si wi sh ds sr dp re im⟩, stA r0 r1 r2 r3 r4 r5 r6 r7 r8 r9 r10 r11 r12 r13 r14 r15 z s c o pc] w fun e w' => e = .returned (.bool true) ∧ Gr w w' := by
  have hL := laid_of_tab hT
  cases hk : okK k with
  | false => exact stays_A k al co si wi sh ds sr dp re im r0 r1 r2 r3 r4 r5 r6 r7 r8 r9 r10 r11 r12 r13 r14 r15 z s c o pc hk w hL
  | true =>
    cases hD : (k == 9 && (seI k al wi ds sr im r0 r1 r2 r3 r4 r5 r6 r7 r8 r9 r10 r11 r12 r13 r14 r15).dv) with
    | true => exact stays_B k al co si wi sh ds sr dp re im r0 r1 r2 r3 r4 r5 r6 r7 r8 r9 r10 r11 r12 r13 r14 r15 z s c o pc hk hD w hL
    | false =>
      rcases okK_cases hk with rfl | rfl | rfl | rfl | rfl | rfl | rfl | rfl | rfl | rfl | rfl | rfl | rfl
      · exact stays_1 al co si wi sh ds sr dp re im r0 r1 r2 r3 r4 r5 r6 r7 r8 r9 r10 r11 r12 r13 r14 r15 z s c o pc hr hD w hL
      · exact stays_2 al co si wi sh ds sr dp re im r0 r1 r2 r3 r4 r5 r6 r7 r8 r9 r10 r11 r12 r13 r14 r15 z s c o pc hr hD w hL
      · exact stays_3 al co si wi sh ds sr dp re im r0 r1 r2 r3 r4 r5 r6 r7 r8 r9 r10 r11 r12 r13 r14 r15 z s c o pc hr hD w hL
      · exact stays_4 al co si wi sh ds sr dp re im r0 r1 r2 r3 r4 r5 r6 r7 r8 r9 r10 r11 r12 r13 r14 r15 z s c o pc hr hD w hL
      · exact stays_5 al co si wi sh ds sr dp re im r0 r1 r2 r3 r4 r5 r6 r7 r8 r9 r10 r11 r12 r13 r14 r15 z s c o pc hr hD w hL
      · exact stays_6 al co si wi sh ds sr dp re im r0 r1 r2 r3 r4 r5 r6 r7 r8 r9 r10 r11 r12 r13 r14 r15 z s c o pc hr hD w hL
      · exact stays_7 al co si wi sh ds sr dp re im r0 r1 r2 r3 r4 r5 r6 r7 r8 r9 r10 r11 r12 r13 r14 r15 z s c o pc hr hD w hL
      · exact stays_8 al co si wi sh ds sr dp re im r0 r1 r2 r3 r4 r5 r6 r7 r8 r9 r10 r11 r12 r13 r14 r15 z s c o pc hr hD w hL
      · exact stays_9 al co si wi sh ds sr dp re im r0 r1 r2 r3 r4 r5 r6 r7 r8 r9 r10 r11 r12 r13 r14 r15 z s c o pc hr hD w hL
      · exact stays_10 al co si wi sh ds sr dp re im r0 r1 r2 r3 r4 r5 r6 r7 r8 r9 r10 r11 r12 r13 r14 r15 z s c o pc hr hD w hL
      · exact stays_11 al co si wi sh ds sr dp re im r0 r1 r2 r3 r4 r5 r6 r7 r8 r9 r10 r11 r12 r13 r14 r15 z s c o pc hr hD w hL
      · exact stays_12 al co si wi sh ds sr dp re im r0 r1 r2 r3 r4 r5 r6 r7 r8 r9 r10 r11 r12 r13 r14 r15 z s c o pc hr hD w hL
      · exact stays_21 al co si wi sh ds sr dp re im r0 r1 r2 r3 r4 r5 r6 r7 r8 r9 r10 r11 r12 r13 r14 r15 z s c o pc hr hD w hL
end Go.Proofs.YtbaiokfjoglmiaaDoor.Ex
