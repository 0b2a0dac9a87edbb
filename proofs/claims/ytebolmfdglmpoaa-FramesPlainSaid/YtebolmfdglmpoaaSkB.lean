/-
  The chapter's examples (begun), reckoned.
-/
import Derived.Test.YtebolmfdglmpoaaSk1
namespace Go.Proofs.Ytebolmfdglmpoaa.Ex
open Go Go.RowKit
set_option maxHeartbeats 0
set_option maxRecDepth 1000000
set_option linter.unusedVariables false
set_option linter.unusedSectionVars false
theorem runBegun : (reckonPI Try.prog nh3 noOrc noLoop 100000 300 [] 17 []).map (fun r => (r.1, eqs r.2)) = some (.bool true, true) := by kernel_rfl
theorem cBegun (w : World) : Calls Try.prog 17 #[] w fun e w' => e = .returned (.bool true) ∧ Gr w w' := by
  obtain ⟨cs, h1, h2⟩ := closedP runBegun
  exact rq nh3_ok noOrc rfl rfl h2 h1 w
def hkBegun : Hook := fun f args _ => if Nat.beq f 17 then (match args with | [] => some (.bool true, []) | _ => none) else none
theorem hkBegun_ok : HookOk Try.prog hkBegun := by
  intro f args h v cs hv hc wb k s w H
  unfold hkBegun at hv
  split at hv
  · rename_i hf
    obtain rfl := Nat.eq_of_beq_eq_true hf
    split at hv
    · cases hv
      exact cBegun w
    · cases hv
  · cases hv
end Go.Proofs.Ytebolmfdglmpoaa.Ex
