/-
  Layer 10: a program that reckons with two numbers, of 64 bits.
-/
import Derived.Test.YthhgfjnnconocaaGreatDoorLaw10s1a
import Derived.Test.YthhgfjnnconocaaGreatDoorLaw10s1b
namespace Go.Proofs.YthhgfjnnconocaaGreatDoor.Ex
open Go Go.RowKit
set_option maxHeartbeats 0
set_option maxRecDepth 1000000
set_option linter.unusedVariables false
noncomputable def pw_E : CallW := ⟨8, pw_A, pw_pH, fun ρ => pvM true ((ρ 12) - 15) (ρ 8) (ρ 9) (ρ 10) (ρ 11), fun ρ => [inU (cst (ρ 9) (ρ 8)), inU (cst (ρ 11) (ρ 10)), (b2i (op12 ((ρ 12) - 15)), 1)]⟩
theorem pw_ok : CallWOk Tryz.prog pw_E := by
  intro ρ hc
  have h1 := hc (inU (cst (ρ 9) (ρ 8))) (by simp [pw_E])
  have h2 := hc (inU (cst (ρ 11) (ρ 10))) (by simp [pw_E])
  have eA : pw_A.map (inst ρ 4) = pw_A := by kernel_rfl
  show CallAt Tryz.prog 8 (pw_A.map (inst ρ 4)) (pw_pH.map (instO ρ)) (pvM true ((ρ 12) - 15) (ρ 8) (ρ 9) (ρ 10) (ρ 11))
  rw [eA]
  have h3 : op12 (ρ 12 - 15) = true := b2i_inj (b := true) (hc (b2i (op12 (ρ 12 - 15)), 1) (by simp [pw_E]))
  have hop : ρ 12 = 15 + (ρ 12 - 15) := by omega
  have hρ : ρ = setR 12 (15 + (ρ 12 - 15)) ρ := by
    funext j
    unfold setR
    cases hj : Nat.beq j 12 with
    | true => rw [Nat.eq_of_beq_eq_true hj]; exact hop
    | false => rfl
  have key := mem12 (P := fun y => CallAt Tryz.prog 8 pw_A (pw_pH.map (instO (setR 12 (15 + y) ρ))) (pvM true (y) (ρ 8) (ρ 9) (ρ 10) (ρ 11))) (ρ 12 - 15) h3 (pw_0 ρ h1 h2) (pw_1 ρ h1 h2) (pw_2 ρ h1 h2) (pw_3 ρ h1 h2) (pw_4 ρ h1 h2) (pw_5 ρ h1 h2) (pw_6 ρ h1 h2) (pw_7 ρ h1 h2) (pw_8 ρ h1 h2) (pw_9 ρ h1 h2) (pw_10 ρ h1 h2) (pw_11 ρ h1 h2)
  rw [← hρ] at key
  exact key
end Go.Proofs.YthhgfjnnconocaaGreatDoor.Ex
