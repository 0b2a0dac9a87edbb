/-
  Layer 10: the chapter's examples, one by one.
-/
import Derived.Test.YthhgfjnnconocaaGreatDoorPackE
import Derived.Test.YthhgfjnnconocaaGreatDoorLp
namespace Go.Proofs.YthhgfjnnconocaaGreatDoor.Ex
set_option maxRecDepth 20000

open Go Go.RowKit
set_option maxHeartbeats 0 in
set_option maxRecDepth 1000000 in
theorem ranTab_10 (w : World) (hL : Laid h10 w) : Calls Tryz.prog 16 ⟨[.string ⟨#[106, 97, 32, 45, 49]⟩, .int .u64 0, .int .i64 0, .int .i64 100]⟩ w fun e w' => e = .returned (.bool true) ∧ Gr w w' :=
  reckon3_any noNG (orHook3_ok new10Hook_ok (orHook3_ok lpHook_ok (lift_ok (guard_ok repHook_ok)))) mOrc 100000 300 h10 rfl rfl (by kernel_rfl) w hL
end Go.Proofs.YthhgfjnnconocaaGreatDoor.Ex
