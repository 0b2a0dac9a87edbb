/-
  Layer 10: the law InterpStack returns true: what goes() comes to put in.
-/
import Derived.Test.YthhgfjnnconocaaGreatDoorIs11
import Derived.Test.YthhgfjnnconocaaGreatDoorLaw10f
namespace Go.Proofs.YthhgfjnnconocaaGreatDoor.Ex
set_option maxRecDepth 20000

open Go Go.RowKit
set_option maxHeartbeats 0
set_option maxRecDepth 1000000
set_option linter.unusedVariables false
set_option linter.unusedSectionVars false
theorem goesHk_ok : HookOk Tryz.prog goesHk := goesHook_ok
theorem interpStack_law (a b c : Int) (h0 : (Lit.int .u8 a).wf = true) (h1 : (Lit.int .u64 b).wf = true) (h2 : (Lit.int .u8 c).wf = true) (w : World) (hL : TabAt w) : Calls Tryz.prog 5 #[.int .u8 a, .int .u64 b, .int .u8 c] w fun e w' => e = .returned (.bool true) ∧ Gr w w' := by
  simp [Lit.wf, IntKind.min, IntKind.max, IntKind.signed, IntKind.bits] at h0 h1 h2
  exact is_any goesHk_ok (by omega) (by omega) (by omega) (by omega) (by omega) (by omega) w hL
end Go.Proofs.YthhgfjnnconocaaGreatDoor.Ex
