/-
  Layer 12: what is refused.
-/
import Derived.Test.YtbaiokfjoglmiaaDoorCsX
namespace Go.Proofs.YtbaiokfjoglmiaaDoor.Ex
open Go Go.RowKit
set_option maxHeartbeats 0
set_option maxRecDepth 1000000
set_option linter.unusedVariables false
def zrS : Value := .tuple ⟨[stA 0 0 0 0 0 0 0 0 0 0 0 0 0 0 0 0 false false false false 0, .int .i64 2]⟩
def zrD : Value := .tuple ⟨[stA 0 0 0 0 0 0 0 0 0 0 0 0 0 0 0 0 false false false false 0, .int .i64 120]⟩
def bdOrc (b : Bool) : Orc := fun f t _ => if Nat.beq f 21 && Nat.beq t 8 then some (.bool b) else none
theorem bd_0 (k al co si : Int) (wi sh : Bool) (ds sr dp re im r0 r1 r2 r3 r4 r5 r6 r7 r8 r9 r10 r11 r12 r13 r14 r15 : Int) (z s c o : Bool) (pc : Int) : reckonGI Tryd.prog (guardH exHook) (bdOrc true) 100000 300 h12 21 [.agg ⟨xA k al co si wi sh ds sr dp re im⟩, stA r0 r1 r2 r3 r4 r5 r6 r7 r8 r9 r10 r11 r12 r13 r14 r15 z s c o pc] = some (zrS, inter [(b2i (!vP k al co si wi sh ds sr dp re im), 1)]) := by kernel_rfl
theorem bd_13 (al co si : Int) (wi sh : Bool) (ds sr dp re im r0 r1 r2 r3 r4 r5 r6 r7 r8 r9 r10 r11 r12 r13 r14 r15 : Int) (z s c o : Bool) (pc : Int) : reckonGI Tryd.prog (guardH exHook) (bdOrc false) 100000 300 h12 21 [.agg ⟨xA 13 al co si wi sh ds sr dp re im⟩, stA r0 r1 r2 r3 r4 r5 r6 r7 r8 r9 r10 r11 r12 r13 r14 r15 z s c o pc] = some (zrS, inter [(b2i (!vP 13 al co si wi sh ds sr dp re im), 0)]) := by kernel_rfl
theorem bd_14 (al co si : Int) (wi sh : Bool) (ds sr dp re im r0 r1 r2 r3 r4 r5 r6 r7 r8 r9 r10 r11 r12 r13 r14 r15 : Int) (z s c o : Bool) (pc : Int) : reckonGI Tryd.prog (guardH exHook) (bdOrc false) 100000 300 h12 21 [.agg ⟨xA 14 al co si wi sh ds sr dp re im⟩, stA r0 r1 r2 r3 r4 r5 r6 r7 r8 r9 r10 r11 r12 r13 r14 r15 z s c o pc] = some (zrS, inter [(b2i (!vP 14 al co si wi sh ds sr dp re im), 0)]) := by kernel_rfl
theorem bd_15 (al co si : Int) (wi sh : Bool) (ds sr dp re im r0 r1 r2 r3 r4 r5 r6 r7 r8 r9 r10 r11 r12 r13 r14 r15 : Int) (z s c o : Bool) (pc : Int) : reckonGI Tryd.prog (guardH exHook) (bdOrc false) 100000 300 h12 21 [.agg ⟨xA 15 al co si wi sh ds sr dp re im⟩, stA r0 r1 r2 r3 r4 r5 r6 r7 r8 r9 r10 r11 r12 r13 r14 r15 z s c o pc] = some (zrS, inter [(b2i (!vP 15 al co si wi sh ds sr dp re im), 0)]) := by kernel_rfl
theorem bd_16 (al co si : Int) (wi sh : Bool) (ds sr dp re im r0 r1 r2 r3 r4 r5 r6 r7 r8 r9 r10 r11 r12 r13 r14 r15 : Int) (z s c o : Bool) (pc : Int) : reckonGI Tryd.prog (guardH exHook) (bdOrc false) 100000 300 h12 21 [.agg ⟨xA 16 al co si wi sh ds sr dp re im⟩, stA r0 r1 r2 r3 r4 r5 r6 r7 r8 r9 r10 r11 r12 r13 r14 r15 z s c o pc] = some (zrS, inter [(b2i (!vP 16 al co si wi sh ds sr dp re im), 0)]) := by kernel_rfl
theorem bd_17 (al co si : Int) (wi sh : Bool) (ds sr dp re im r0 r1 r2 r3 r4 r5 r6 r7 r8 r9 r10 r11 r12 r13 r14 r15 : Int) (z s c o : Bool) (pc : Int) : reckonGI Tryd.prog (guardH exHook) (bdOrc false) 100000 300 h12 21 [.agg ⟨xA 17 al co si wi sh ds sr dp re im⟩, stA r0 r1 r2 r3 r4 r5 r6 r7 r8 r9 r10 r11 r12 r13 r14 r15 z s c o pc] = some (zrS, inter [(b2i (!vP 17 al co si wi sh ds sr dp re im), 0)]) := by kernel_rfl
theorem bd_18 (al co si : Int) (wi sh : Bool) (ds sr dp re im r0 r1 r2 r3 r4 r5 r6 r7 r8 r9 r10 r11 r12 r13 r14 r15 : Int) (z s c o : Bool) (pc : Int) : reckonGI Tryd.prog (guardH exHook) (bdOrc false) 100000 300 h12 21 [.agg ⟨xA 18 al co si wi sh ds sr dp re im⟩, stA r0 r1 r2 r3 r4 r5 r6 r7 r8 r9 r10 r11 r12 r13 r14 r15 z s c o pc] = some (zrS, inter [(b2i (!vP 18 al co si wi sh ds sr dp re im), 0)]) := by kernel_rfl
theorem bd_19 (al co si : Int) (wi sh : Bool) (ds sr dp re im r0 r1 r2 r3 r4 r5 r6 r7 r8 r9 r10 r11 r12 r13 r14 r15 : Int) (z s c o : Bool) (pc : Int) : reckonGI Tryd.prog (guardH exHook) (bdOrc false) 100000 300 h12 21 [.agg ⟨xA 19 al co si wi sh ds sr dp re im⟩, stA r0 r1 r2 r3 r4 r5 r6 r7 r8 r9 r10 r11 r12 r13 r14 r15 z s c o pc] = some (zrS, inter [(b2i (!vP 19 al co si wi sh ds sr dp re im), 0)]) := by kernel_rfl
theorem bd_20 (al co si : Int) (wi sh : Bool) (ds sr dp re im r0 r1 r2 r3 r4 r5 r6 r7 r8 r9 r10 r11 r12 r13 r14 r15 : Int) (z s c o : Bool) (pc : Int) : reckonGI Tryd.prog (guardH exHook) (bdOrc false) 100000 300 h12 21 [.agg ⟨xA 20 al co si wi sh ds sr dp re im⟩, stA r0 r1 r2 r3 r4 r5 r6 r7 r8 r9 r10 r11 r12 r13 r14 r15 z s c o pc] = some (zrS, inter [(b2i (!vP 20 al co si wi sh ds sr dp re im), 0)]) := by kernel_rfl
theorem bd_dt (al sr im r0 r1 r2 r3 r4 r5 r6 r7 r8 r9 r10 r11 r12 r13 r14 r15 : Int) (z s c o : Bool) (pc : Int) : dsL.map (fun d => exRun true ⟨9, al, true, d, sr, im, rsL r0 r1 r2 r3 r4 r5 r6 r7 r8 r9 r10 r11 r12 r13 r14 r15⟩ r0 r1 r2 r3 r4 r5 r6 r7 r8 r9 r10 r11 r12 r13 r14 r15 z s c o pc) = dsL.map (fun d => some (zrD, inter (exV ⟨9, al, true, d, sr, im, rsL r0 r1 r2 r3 r4 r5 r6 r7 r8 r9 r10 r11 r12 r13 r14 r15⟩ ++ [(b2i (In.dv ⟨9, al, true, d, sr, im, rsL r0 r1 r2 r3 r4 r5 r6 r7 r8 r9 r10 r11 r12 r13 r14 r15⟩), 1)]))) := by kernel_rfl
theorem bd_df (al sr im r0 r1 r2 r3 r4 r5 r6 r7 r8 r9 r10 r11 r12 r13 r14 r15 : Int) (z s c o : Bool) (pc : Int) : dsL.map (fun d => exRun true ⟨9, al, false, d, sr, im, rsL r0 r1 r2 r3 r4 r5 r6 r7 r8 r9 r10 r11 r12 r13 r14 r15⟩ r0 r1 r2 r3 r4 r5 r6 r7 r8 r9 r10 r11 r12 r13 r14 r15 z s c o pc) = dsL.map (fun d => some (zrD, inter (exV ⟨9, al, false, d, sr, im, rsL r0 r1 r2 r3 r4 r5 r6 r7 r8 r9 r10 r11 r12 r13 r14 r15⟩ ++ [(b2i (In.dv ⟨9, al, false, d, sr, im, rsL r0 r1 r2 r3 r4 r5 r6 r7 r8 r9 r10 r11 r12 r13 r14 r15⟩), 1)]))) := by kernel_rfl
def badB (k al co si : Int) (wi sh : Bool) (ds sr dp re im : Int) : Bool := !vP k al co si wi sh ds sr dp re im || (decide (13 ≤ k) && decide (k ≤ 20))
def badHook : Hook := fun f args h =>
  if Nat.beq f 21 && hasG h12 h then
    match args with
    | [.agg ⟨[.int .i64 k, .int .i64 al, .int .i64 co, .int .i64 si, .bool wi, .bool sh, .int .i64 ds, .int .i64 sr, .int .i32 dp, .int .i32 re, .int .i64 im]⟩, .agg ⟨[.int .u64 r0, .int .u64 r1, .int .u64 r2, .int .u64 r3, .int .u64 r4, .int .u64 r5, .int .u64 r6, .int .u64 r7, .int .u64 r8, .int .u64 r9, .int .u64 r10, .int .u64 r11, .int .u64 r12, .int .u64 r13, .int .u64 r14, .int .u64 r15, .bool z, .bool s, .bool c, .bool o, .int .u64 pc]⟩] => some (zrS, [(b2i (badB k al co si wi sh ds sr dp re im), 1)])
    | _ => none
  else none
theorem badHook_ok : HookOk Tryd.prog badHook := by
  intro f args h v cs hv hc wb kk ss w H
  unfold badHook at hv
  split at hv
  · rename_i hf
    simp only [Bool.and_eq_true] at hf
    obtain rfl := Nat.eq_of_beq_eq_true hf.1
    have hL := H.laid hf.2 rfl
    split at hv
    · rename_i k al co si wi sh ds sr dp re im r0 r1 r2 r3 r4 r5 r6 r7 r8 r9 r10 r11 r12 r13 r14 r15 z s c o pc
      cases hv
      have e : badB k al co si wi sh ds sr dp re im = true := b2i_inj (b := true) (hc _ (List.mem_singleton.2 rfl))
      cases hv2 : vP k al co si wi sh ds sr dp re im with
      | false => exact reckonI_ok noNG (guard_ok exHook_ok) (bdOrc true) 100000 300 h12 rfl rfl (bd_0 k al co si wi sh ds sr dp re im r0 r1 r2 r3 r4 r5 r6 r7 r8 r9 r10 r11 r12 r13 r14 r15 z s c o pc) (cs_one (y := true) (by rw [hv2]; rfl)) w hL
      | true =>
        have h3 : 13 ≤ k ∧ k ≤ 20 := by
          simp only [badB, hv2, Bool.not_true, Bool.false_or, Bool.and_eq_true, decide_eq_true_eq] at e
          exact e
        have hp : ∀ c ∈ ([(b2i (!vP k al co si wi sh ds sr dp re im), 0)] : Cs), c.1 = c.2 := cs_one (y := false) (by rw [hv2]; rfl)
        rcases (show k = 13 ∨ k = 14 ∨ k = 15 ∨ k = 16 ∨ k = 17 ∨ k = 18 ∨ k = 19 ∨ k = 20 by omega) with rfl | rfl | rfl | rfl | rfl | rfl | rfl | rfl
        · exact reckonI_ok noNG (guard_ok exHook_ok) (bdOrc false) 100000 300 h12 rfl rfl (bd_13 al co si wi sh ds sr dp re im r0 r1 r2 r3 r4 r5 r6 r7 r8 r9 r10 r11 r12 r13 r14 r15 z s c o pc) hp w hL
        · exact reckonI_ok noNG (guard_ok exHook_ok) (bdOrc false) 100000 300 h12 rfl rfl (bd_14 al co si wi sh ds sr dp re im r0 r1 r2 r3 r4 r5 r6 r7 r8 r9 r10 r11 r12 r13 r14 r15 z s c o pc) hp w hL
        · exact reckonI_ok noNG (guard_ok exHook_ok) (bdOrc false) 100000 300 h12 rfl rfl (bd_15 al co si wi sh ds sr dp re im r0 r1 r2 r3 r4 r5 r6 r7 r8 r9 r10 r11 r12 r13 r14 r15 z s c o pc) hp w hL
        · exact reckonI_ok noNG (guard_ok exHook_ok) (bdOrc false) 100000 300 h12 rfl rfl (bd_16 al co si wi sh ds sr dp re im r0 r1 r2 r3 r4 r5 r6 r7 r8 r9 r10 r11 r12 r13 r14 r15 z s c o pc) hp w hL
        · exact reckonI_ok noNG (guard_ok exHook_ok) (bdOrc false) 100000 300 h12 rfl rfl (bd_17 al co si wi sh ds sr dp re im r0 r1 r2 r3 r4 r5 r6 r7 r8 r9 r10 r11 r12 r13 r14 r15 z s c o pc) hp w hL
        · exact reckonI_ok noNG (guard_ok exHook_ok) (bdOrc false) 100000 300 h12 rfl rfl (bd_18 al co si wi sh ds sr dp re im r0 r1 r2 r3 r4 r5 r6 r7 r8 r9 r10 r11 r12 r13 r14 r15 z s c o pc) hp w hL
        · exact reckonI_ok noNG (guard_ok exHook_ok) (bdOrc false) 100000 300 h12 rfl rfl (bd_19 al co si wi sh ds sr dp re im r0 r1 r2 r3 r4 r5 r6 r7 r8 r9 r10 r11 r12 r13 r14 r15 z s c o pc) hp w hL
        · exact reckonI_ok noNG (guard_ok exHook_ok) (bdOrc false) 100000 300 h12 rfl rfl (bd_20 al co si wi sh ds sr dp re im r0 r1 r2 r3 r4 r5 r6 r7 r8 r9 r10 r11 r12 r13 r14 r15 z s c o pc) hp w hL
    · cases hv
  · cases hv
def In.okD (x : In) : Bool := vP x.k x.al 0 0 x.wi false x.ds x.sr 0 0 x.im && (x.k == 9 && x.dv)
def dvzHook : Hook := fun f args h =>
  if Nat.beq f 21 && hasG h12 h then
    match args with
    | [.agg ⟨[.int .i64 k, .int .i64 al, .int .i64 co, .int .i64 si, .bool wi, .bool sh, .int .i64 ds, .int .i64 sr, .int .i32 dp, .int .i32 re, .int .i64 im]⟩, .agg ⟨[.int .u64 r0, .int .u64 r1, .int .u64 r2, .int .u64 r3, .int .u64 r4, .int .u64 r5, .int .u64 r6, .int .u64 r7, .int .u64 r8, .int .u64 r9, .int .u64 r10, .int .u64 r11, .int .u64 r12, .int .u64 r13, .int .u64 r14, .int .u64 r15, .bool z, .bool s, .bool c, .bool o, .int .u64 pc]⟩] => some (zrD, [(co, 0), (si, 0), (b2i sh, 0), (dp, 0), (re, 0), (b2i (In.okD (⟨k, al, wi, ds, sr, im, rsL r0 r1 r2 r3 r4 r5 r6 r7 r8 r9 r10 r11 r12 r13 r14 r15⟩ : In)), 1)])
    | _ => none
  else none
theorem dvzHook_ok : HookOk Tryd.prog dvzHook := by
  intro f args h v cs hv hc wb kk ss w H
  unfold dvzHook at hv
  split at hv
  · rename_i hf
    simp only [Bool.and_eq_true] at hf
    obtain rfl := Nat.eq_of_beq_eq_true hf.1
    have hL := H.laid hf.2 rfl
    split at hv
    · rename_i k al co si wi sh ds sr dp re im r0 r1 r2 r3 r4 r5 r6 r7 r8 r9 r10 r11 r12 r13 r14 r15 z s c o pc
      cases hv
      have e1 : co = 0 := hc (co, 0) (by simp)
      have e2 : si = 0 := hc (si, 0) (by simp)
      have e3 : sh = false := b2i_inj (b := false) (hc (b2i sh, 0) (by simp))
      have e4 : dp = 0 := hc (dp, 0) (by simp)
      have e5 : re = 0 := hc (re, 0) (by simp)
      have e6 : In.okD (⟨k, al, wi, ds, sr, im, rsL r0 r1 r2 r3 r4 r5 r6 r7 r8 r9 r10 r11 r12 r13 r14 r15⟩ : In) = true := b2i_inj (b := true) (hc (b2i (In.okD (⟨k, al, wi, ds, sr, im, rsL r0 r1 r2 r3 r4 r5 r6 r7 r8 r9 r10 r11 r12 r13 r14 r15⟩ : In)), 1) (by simp))
      subst e1; subst e2; subst e3; subst e4; subst e5
      simp only [In.okD, Bool.and_eq_true, beq_iff_eq] at e6
      obtain ⟨hv, rfl, hd⟩ := e6
      have V := exV_ok (x := ⟨9, al, wi, ds, sr, im, rsL r0 r1 r2 r3 r4 r5 r6 r7 r8 r9 r10 r11 r12 r13 r14 r15⟩) hv
      have hv2 : vP9 al 0 0 wi false ds sr 0 0 im = true := hv
      simp only [vP9, Bool.and_eq_true] at hv2
      obtain ⟨_, ⟨hds, hsr⟩, hx⟩ := hv2
      have hds := regS_in hds
      have hm := dsL_mem hds.1 hds.2
      cases wi with
      | true => exact reckonI_ok noNG (guard_ok exHook_ok) (exOrc true) 100000 300 h12 rfl rfl (List.map_inj_left.1 (bd_dt al sr im r0 r1 r2 r3 r4 r5 r6 r7 r8 r9 r10 r11 r12 r13 r14 r15 z s c o pc) ds hm) (allC V (cs_one (y := true) hd)) w hL
      | false => exact reckonI_ok noNG (guard_ok exHook_ok) (exOrc true) 100000 300 h12 rfl rfl (List.map_inj_left.1 (bd_df al sr im r0 r1 r2 r3 r4 r5 r6 r7 r8 r9 r10 r11 r12 r13 r14 r15 z s c o pc) ds hm) (allC V (cs_one (y := true) hd)) w hL
    · cases hv
  · cases hv
def setXHook : Hook := fun f args _ =>
  if Nat.beq f 23 then
    match args with
    | [.agg ⟨[.int .i64 k, .int .i64 al, .int .i64 co, .int .i64 si, .bool wi, .bool sh, .int .i64 ds, .int .i64 sr, .int .i32 dp, .int .i32 re, .int .i64 im]⟩] => some (.agg ⟨[.int .i64 k, .int .i64 al, .int .i64 co, .int .i64 si, .bool wi, .bool sh, .int .i64 ds, .int .i64 sr, .int .i32 dp, .int .i32 re, .int .i64 im]⟩, [(b2i (k == 1), 0), (b2i (k == 6), 0), (b2i (k == 10), 0), (b2i (k == 4), 0), (b2i (k == 5), 0), (b2i (k == 2), 0), (b2i (k == 3), 0), (b2i (k == 7), 0), (b2i (k == 8), 0), (b2i (k == 9), 0), (b2i (k == 11), 0), (b2i (k == 12), 0), (b2i (k == 21), 0)])
    | _ => none
  else none
theorem setXHook_ok : HookOk Tryd.prog setXHook := by
  intro f args h v cs hv hc wb kk ss w H
  unfold setXHook at hv
  split at hv
  · rename_i hf
    obtain rfl := Nat.eq_of_beq_eq_true hf
    split at hv
    · rename_i k al co si wi sh ds sr dp re im
      cases hv
      exact reckonI_ok noNG (noGuard _) (setOrc true) 100000 300 [] rfl rfl (st_x k al co si wi sh ds sr dp re im) hc w (Laid.nil w)
    · cases hv
  · cases hv
def hkA : Hook := orHook setXHook (orHook badHook doneHook)
theorem hkA_ok : HookOk Tryd.prog hkA := orHook_ok setXHook_ok (orHook_ok badHook_ok doneHook_ok)
def hkB : Hook := orHook setHook (orHook dvzHook doneHook)
theorem hkB_ok : HookOk Tryd.prog hkB := orHook_ok setHook_ok (orHook_ok dvzHook_ok doneHook_ok)
theorem la_A (k al co si : Int) (wi sh : Bool) (ds sr dp re im r0 r1 r2 r3 r4 r5 r6 r7 r8 r9 r10 r11 r12 r13 r14 r15 : Int) (z s c o : Bool) (pc : Int) : reckonGI Tryd.prog (guardH hkA) noOrc 100000 300 h12 12 [.agg ⟨xA k al co si wi sh ds sr dp re im⟩, stA r0 r1 r2 r3 r4 r5 r6 r7 r8 r9 r10 r11 r12 r13 r14 r15 z s c o pc] = some (.bool true, inter [(b2i (k == 1), 0), (b2i (k == 6), 0), (b2i (k == 10), 0), (b2i (k == 4), 0), (b2i (k == 5), 0), (b2i (k == 2), 0), (b2i (k == 3), 0), (b2i (k == 7), 0), (b2i (k == 8), 0), (b2i (k == 9), 0), (b2i (k == 11), 0), (b2i (k == 12), 0), (b2i (k == 21), 0), (b2i (badB k al co si wi sh ds sr dp re im), 1)]) := by kernel_rfl
theorem la_B (k al co si : Int) (wi sh : Bool) (ds sr dp re im r0 r1 r2 r3 r4 r5 r6 r7 r8 r9 r10 r11 r12 r13 r14 r15 : Int) (z s c o : Bool) (pc : Int) : reckonGI Tryd.prog (guardH hkB) noOrc 100000 300 h12 12 [.agg ⟨xA k al co si wi sh ds sr dp re im⟩, stA r0 r1 r2 r3 r4 r5 r6 r7 r8 r9 r10 r11 r12 r13 r14 r15 z s c o pc] = some (.bool true, inter [(b2i (okK k), 1), (0, 0), (0, 0), (0, 0), (0, 0), (0, 0), (b2i (In.okD (seI k al wi ds sr im r0 r1 r2 r3 r4 r5 r6 r7 r8 r9 r10 r11 r12 r13 r14 r15)), 1)]) := by kernel_rfl
end Go.Proofs.YtbaiokfjoglmiaaDoor.Ex
