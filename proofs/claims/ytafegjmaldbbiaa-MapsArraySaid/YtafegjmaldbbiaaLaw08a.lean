/-
  Layer 8: the chapter's example, reckoned.
-/
import Derived.Test.YtafegjmaldbbiaaRepHook
import Derived.Test.YtafegjmaldbbiaaNoNG
import Derived.Test.YtafegjmaldbbiaaProg
namespace Go.Proofs.Ytafegjmaldbbiaa.Ex
open Go Go.RowKit
set_option maxHeartbeats 0 in
set_option maxRecDepth 1000000 in
theorem kept_any (w : World) : Calls Try.prog 6 #[] w fun e w' => e = .returned (.bool true) ∧ Gr w w' :=
  reckonH_ok noNG repHook_ok 100000 300 rfl rfl (by kernel_rfl) w
def keptHook : Hook := fun f args _ => if Nat.beq f 6 && args.isEmpty then some (.bool true, []) else none
theorem keptHook_ok : HookOk Try.prog keptHook := by
  intro f args h v cs hv _ wb k s w _
  unfold keptHook at hv
  split at hv
  · rename_i hc
    cases hv
    simp only [Bool.and_eq_true] at hc
    obtain rfl := Nat.eq_of_beq_eq_true hc.1
    obtain rfl : args = [] := by simpa using hc.2
    exact kept_any w
  · cases hv
end Go.Proofs.Ytafegjmaldbbiaa.Ex
