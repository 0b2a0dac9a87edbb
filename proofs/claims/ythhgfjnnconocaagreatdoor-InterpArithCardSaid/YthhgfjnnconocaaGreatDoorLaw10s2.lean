/-
  Layer 10: a program that reckons with two numbers, of 32 bits.
-/
import Derived.Test.YthhgfjnnconocaaGreatDoorLaw10s2a
import Derived.Test.YthhgfjnnconocaaGreatDoorLaw10s2b
namespace Go.Proofs.YthhgfjnnconocaaGreatDoor.Ex
open Go Go.RowKit
set_option maxHeartbeats 0
set_option maxRecDepth 1000000
set_option linter.unusedVariables false
noncomputable def pn_E : CallW := ⟨8, pn_A, pn_pH, fun ρ => pvM false ((ρ 36) - 12) (ρ 32) (ρ 33) (ρ 34) (ρ 35), fun ρ => [inU (cst (ρ 33) (ρ 32)), inU (cst (ρ 35) (ρ 34)), (b2i (op12 ((ρ 36) - 12)), 1)]⟩
theorem pn_ok : CallWOk Tryz.prog pn_E := by
  intro ρ hc
  have h1 := hc (inU (cst (ρ 33) (ρ 32))) (by simp [pn_E])
  have h2 := hc (inU (cst (ρ 35) (ρ 34))) (by simp [pn_E])
  have eA : pn_A.map (inst ρ 4) = pn_A := by kernel_rfl
  show CallAt Tryz.prog 8 (pn_A.map (inst ρ 4)) (pn_pH.map (instO ρ)) (pvM false ((ρ 36) - 12) (ρ 32) (ρ 33) (ρ 34) (ρ 35))
  rw [eA]
  have h3 : op12 (ρ 36 - 12) = true := b2i_inj (b := true) (hc (b2i (op12 (ρ 36 - 12)), 1) (by simp [pn_E]))
  have hop : ρ 36 = 12 + (ρ 36 - 12) := by omega
  have hρ : ρ = setR 36 (12 + (ρ 36 - 12)) ρ := by
    funext j
    unfold setR
    cases hj : Nat.beq j 36 with
    | true => rw [Nat.eq_of_beq_eq_true hj]; exact hop
    | false => rfl
  have key := mem12 (P := fun y => CallAt Tryz.prog 8 pn_A (pn_pH.map (instO (setR 36 (12 + y) ρ))) (pvM false (y) (ρ 32) (ρ 33) (ρ 34) (ρ 35))) (ρ 36 - 12) h3 (pn_0 ρ h1 h2) (pn_1 ρ h1 h2) (pn_2 ρ h1 h2) (pn_3 ρ h1 h2) (pn_4 ρ h1 h2) (pn_5 ρ h1 h2) (pn_6 ρ h1 h2) (pn_7 ρ h1 h2) (pn_8 ρ h1 h2) (pn_9 ρ h1 h2) (pn_10 ρ h1 h2) (pn_11 ρ h1 h2)
  rw [← hρ] at key
  exact key
end Go.Proofs.YthhgfjnnconocaaGreatDoor.Ex
