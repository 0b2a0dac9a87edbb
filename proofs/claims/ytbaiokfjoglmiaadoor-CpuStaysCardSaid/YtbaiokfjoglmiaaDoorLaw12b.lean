/-
  Layer 12: whether a condition holds, the program's answer and the document's; the law CpuTaken.
-/
import Derived.Test.YtbaiokfjoglmiaaDoorLaw12a
import Derived.Test.YtbaiokfjoglmiaaDoorPackC
namespace Go.Proofs.YtbaiokfjoglmiaaDoor.Ex
open Go Go.RowKit
/-- Whether a condition holds of flags. -/
def takenS (k : Int) (z s c o : Bool) : Bool :=
  if k = 2 then c else if k = 3 then !c else if k = 4 then z else if k = 5 then !z else if k = 6 then c || z else if k = 7 then !(c || z)
  else if k = 12 then s != o else if k = 13 then !(s != o) else if k = 14 then z || (s != o) else if k = 15 then !(z || (s != o)) else false
/-- A state, as an argument. -/
def stA (r0 r1 r2 r3 r4 r5 r6 r7 r8 r9 r10 r11 r12 r13 r14 r15 : Int) (z s c o : Bool) (pc : Int) : Value := .agg ⟨[.int .u64 r0, .int .u64 r1, .int .u64 r2, .int .u64 r3, .int .u64 r4, .int .u64 r5, .int .u64 r6, .int .u64 r7, .int .u64 r8, .int .u64 r9, .int .u64 r10, .int .u64 r11, .int .u64 r12, .int .u64 r13, .int .u64 r14, .int .u64 r15, .bool z, .bool s, .bool c, .bool o, .int .u64 pc]⟩
def tkOrc : Orc := fun f t _ =>
  if Nat.beq f 25 && (Nat.beq t 7 || Nat.beq t 11 || Nat.beq t 15 || Nat.beq t 23 || Nat.beq t 30 || Nat.beq t 41 || Nat.beq t 42 || Nat.beq t 43 || Nat.beq t 44 || Nat.beq t 45) then some (.bool false)
  else if Nat.beq f 26 && (Nat.beq t 13 || Nat.beq t 17 || Nat.beq t 22 || Nat.beq t 26 || Nat.beq t 31 || Nat.beq t 39 || Nat.beq t 49 || Nat.beq t 52 || Nat.beq t 56 || Nat.beq t 63) then some (.bool false)
  else none
set_option maxHeartbeats 0 in
set_option maxRecDepth 1000000 in
theorem taken_any (k r0 r1 r2 r3 r4 r5 r6 r7 r8 r9 r10 r11 r12 r13 r14 r15 : Int) (z s c o : Bool) (pc : Int) (w : World) : Calls Tryd.prog 25 #[.int .i64 k, stA r0 r1 r2 r3 r4 r5 r6 r7 r8 r9 r10 r11 r12 r13 r14 r15 z s c o pc] w fun e w' => e = .returned (.bool (takenS k z s c o)) ∧ Gr w w' := by
  by_cases h2 : k = 2
  · subst h2
    exact reckonG_ok noNG (noHook_ok _) 100000 300 [] rfl rfl (by kernel_rfl) w (Laid.nil w)
  by_cases h3 : k = 3
  · subst h3
    exact reckonG_ok noNG (noHook_ok _) 100000 300 [] rfl rfl (by kernel_rfl) w (Laid.nil w)
  by_cases h4 : k = 4
  · subst h4
    exact reckonG_ok noNG (noHook_ok _) 100000 300 [] rfl rfl (by kernel_rfl) w (Laid.nil w)
  by_cases h5 : k = 5
  · subst h5
    exact reckonG_ok noNG (noHook_ok _) 100000 300 [] rfl rfl (by kernel_rfl) w (Laid.nil w)
  by_cases h6 : k = 6
  · subst h6
    cases c <;> exact reckonG_ok noNG (noHook_ok _) 100000 300 [] rfl rfl (by kernel_rfl) w (Laid.nil w)
  by_cases h7 : k = 7
  · subst h7
    cases c <;> exact reckonG_ok noNG (noHook_ok _) 100000 300 [] rfl rfl (by kernel_rfl) w (Laid.nil w)
  by_cases h12 : k = 12
  · subst h12
    cases s <;> cases o <;> exact reckonG_ok noNG (noHook_ok _) 100000 300 [] rfl rfl (by kernel_rfl) w (Laid.nil w)
  by_cases h13 : k = 13
  · subst h13
    cases s <;> cases o <;> exact reckonG_ok noNG (noHook_ok _) 100000 300 [] rfl rfl (by kernel_rfl) w (Laid.nil w)
  by_cases h14 : k = 14
  · subst h14
    cases z <;> cases s <;> cases o <;> exact reckonG_ok noNG (noHook_ok _) 100000 300 [] rfl rfl (by kernel_rfl) w (Laid.nil w)
  by_cases h15 : k = 15
  · subst h15
    cases z <;> cases s <;> cases o <;> exact reckonG_ok noNG (noHook_ok _) 100000 300 [] rfl rfl (by kernel_rfl) w (Laid.nil w)
  have e : takenS k z s c o = false := by simp [takenS, h2, h3, h4, h5, h6, h7, h12, h13, h14, h15]
  rw [e]
  refine reckonT_ok noNG (noHook_ok _) tkOrc 100000 300 [] (cs := [(b2i (decide (k = 2)), 0), (b2i (decide (k = 4)), 0), (b2i (decide (k = 6)), 0), (b2i (decide (k = 12)), 0), (b2i (decide (k = 14)), 0), (b2i (decide (k = 3)), 0), (b2i (decide (k = 5)), 0), (b2i (decide (k = 7)), 0), (b2i (decide (k = 13)), 0), (b2i (decide (k = 15)), 0)]) rfl rfl (by kernel_rfl) ?_ w (Laid.nil w)
  simp [b2i, h2, h3, h4, h5, h6, h7, h12, h13, h14, h15]
set_option maxHeartbeats 0 in
set_option maxRecDepth 1000000 in
theorem refTaken_any (k r0 r1 r2 r3 r4 r5 r6 r7 r8 r9 r10 r11 r12 r13 r14 r15 : Int) (z s c o : Bool) (pc : Int) (w : World) : Calls Tryd.prog 26 #[.int .i64 k, stA r0 r1 r2 r3 r4 r5 r6 r7 r8 r9 r10 r11 r12 r13 r14 r15 z s c o pc] w fun e w' => e = .returned (.bool (takenS k z s c o)) ∧ Gr w w' := by
  by_cases h2 : k = 2
  · subst h2
    exact reckonG_ok noNG (noHook_ok _) 100000 300 [] rfl rfl (by kernel_rfl) w (Laid.nil w)
  by_cases h3 : k = 3
  · subst h3
    exact reckonG_ok noNG (noHook_ok _) 100000 300 [] rfl rfl (by kernel_rfl) w (Laid.nil w)
  by_cases h4 : k = 4
  · subst h4
    exact reckonG_ok noNG (noHook_ok _) 100000 300 [] rfl rfl (by kernel_rfl) w (Laid.nil w)
  by_cases h5 : k = 5
  · subst h5
    exact reckonG_ok noNG (noHook_ok _) 100000 300 [] rfl rfl (by kernel_rfl) w (Laid.nil w)
  by_cases h6 : k = 6
  · subst h6
    cases c <;> exact reckonG_ok noNG (noHook_ok _) 100000 300 [] rfl rfl (by kernel_rfl) w (Laid.nil w)
  by_cases h7 : k = 7
  · subst h7
    cases c <;> exact reckonG_ok noNG (noHook_ok _) 100000 300 [] rfl rfl (by kernel_rfl) w (Laid.nil w)
  by_cases h12 : k = 12
  · subst h12
    cases s <;> cases o <;> exact reckonG_ok noNG (noHook_ok _) 100000 300 [] rfl rfl (by kernel_rfl) w (Laid.nil w)
  by_cases h13 : k = 13
  · subst h13
    cases s <;> cases o <;> exact reckonG_ok noNG (noHook_ok _) 100000 300 [] rfl rfl (by kernel_rfl) w (Laid.nil w)
  by_cases h14 : k = 14
  · subst h14
    cases z <;> cases s <;> cases o <;> exact reckonG_ok noNG (noHook_ok _) 100000 300 [] rfl rfl (by kernel_rfl) w (Laid.nil w)
  by_cases h15 : k = 15
  · subst h15
    cases z <;> cases s <;> cases o <;> exact reckonG_ok noNG (noHook_ok _) 100000 300 [] rfl rfl (by kernel_rfl) w (Laid.nil w)
  have e : takenS k z s c o = false := by simp [takenS, h2, h3, h4, h5, h6, h7, h12, h13, h14, h15]
  rw [e]
  refine reckonT_ok noNG (noHook_ok _) tkOrc 100000 300 [] (cs := [(b2i (decide (k = 2)), 0), (b2i (decide (k = 3)), 0), (b2i (decide (k = 4)), 0), (b2i (decide (k = 5)), 0), (b2i (decide (k = 6)), 0), (b2i (decide (k = 7)), 0), (b2i (decide (k = 12)), 0), (b2i (decide (k = 13)), 0), (b2i (decide (k = 14)), 0), (b2i (decide (k = 15)), 0)]) rfl rfl (by kernel_rfl) ?_ w (Laid.nil w)
  simp [b2i, h2, h3, h4, h5, h6, h7, h12, h13, h14, h15]
/-- Whether a condition holds, told by its contract. -/
def takenHook : Hook := fun f args _ =>
  if Nat.beq f 25 || Nat.beq f 26 then
    match args with
    | [.int .i64 k, .agg ⟨[.int .u64 _, .int .u64 _, .int .u64 _, .int .u64 _, .int .u64 _, .int .u64 _, .int .u64 _, .int .u64 _, .int .u64 _, .int .u64 _, .int .u64 _, .int .u64 _, .int .u64 _, .int .u64 _, .int .u64 _, .int .u64 _, .bool z, .bool s, .bool c, .bool o, .int .u64 _]⟩] => some (.bool (takenS k z s c o), [])
    | _ => none
  else none
theorem takenHook_ok : HookOk Tryd.prog takenHook := by
  intro f args h v cs hv _ wb k s w H
  unfold takenHook at hv
  split at hv
  · rename_i hc
    simp only [Bool.or_eq_true] at hc
    split at hv
    · cases hv
      rcases hc with hc | hc
      · obtain rfl := Nat.eq_of_beq_eq_true hc
        exact taken_any _ _ _ _ _ _ _ _ _ _ _ _ _ _ _ _ _ _ _ _ _ _ w
      · obtain rfl := Nat.eq_of_beq_eq_true hc
        exact refTaken_any _ _ _ _ _ _ _ _ _ _ _ _ _ _ _ _ _ _ _ _ _ _ w
    · cases hv
  · cases hv
/-- The chapter's examples, told by their contract. -/
def doneHook : Hook := fun f args h => if Nat.beq f 24 && hasG h12 h && args.isEmpty then some (.bool true, []) else none
theorem doneHook_ok : HookOk Tryd.prog doneHook := by
  intro f args h v cs hv _ wb k s w H
  unfold doneHook at hv
  split at hv
  · rename_i hc
    cases hv
    simp only [Bool.and_eq_true] at hc
    obtain rfl := Nat.eq_of_beq_eq_true hc.1.1
    obtain rfl : args = [] := by simpa using hc.2
    exact done_any w (H.laid hc.1.2 rfl)
  · cases hv
def lawTkOrc : Orc := fun f t _ => if Nat.beq f 9 then (if Nat.beq t 16 then some (.bool false) else if Nat.beq t 23 then some (.bool true) else none) else none
set_option maxHeartbeats 0 in
set_option maxRecDepth 1000000 in
theorem cpuTaken_walk (k r0 r1 r2 r3 r4 r5 r6 r7 r8 r9 r10 r11 r12 r13 r14 r15 : Int) (z s c o : Bool) (pc : Int) (w : World) (hT : TabAt w) : Calls Tryd.prog 9 #[.int .i64 k, stA r0 r1 r2 r3 r4 r5 r6 r7 r8 r9 r10 r11 r12 r13 r14 r15 z s c o pc] w fun e w' => e = .returned (.bool true) ∧ Gr w w' := by
  refine reckonT_ok noNG (hk := orHook takenHook doneHook) (orHook_ok takenHook_ok doneHook_ok) lawTkOrc 100000 300 h12
    (cs := [(b2i (takenS (-1) z s c o != takenS (-1) z s c o), 0), (b2i (takenS (0) z s c o != takenS (0) z s c o), 0), (b2i (takenS (1) z s c o != takenS (1) z s c o), 0), (b2i (takenS (2) z s c o != takenS (2) z s c o), 0), (b2i (takenS (3) z s c o != takenS (3) z s c o), 0), (b2i (takenS (4) z s c o != takenS (4) z s c o), 0), (b2i (takenS (5) z s c o != takenS (5) z s c o), 0), (b2i (takenS (6) z s c o != takenS (6) z s c o), 0), (b2i (takenS (7) z s c o != takenS (7) z s c o), 0), (b2i (takenS (8) z s c o != takenS (8) z s c o), 0), (b2i (takenS (9) z s c o != takenS (9) z s c o), 0), (b2i (takenS (10) z s c o != takenS (10) z s c o), 0), (b2i (takenS (11) z s c o != takenS (11) z s c o), 0), (b2i (takenS (12) z s c o != takenS (12) z s c o), 0), (b2i (takenS (13) z s c o != takenS (13) z s c o), 0), (b2i (takenS (14) z s c o != takenS (14) z s c o), 0), (b2i (takenS (15) z s c o != takenS (15) z s c o), 0), (b2i (takenS (16) z s c o != takenS (16) z s c o), 0), (b2i (takenS (17) z s c o != takenS (17) z s c o), 0), (b2i (takenS k z s c o == takenS k z s c o), 1)]) rfl rfl (by kernel_rfl) ?_ w (laid_of_tab hT)
  simp [b2i]
end Go.Proofs.YtbaiokfjoglmiaaDoor.Ex
