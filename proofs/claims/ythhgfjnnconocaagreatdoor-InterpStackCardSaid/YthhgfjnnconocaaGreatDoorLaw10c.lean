/-
  Layer 10: the chapter's examples, one by one.
-/
import Derived.Test.YthhgfjnnconocaaGreatDoorPackE
import Derived.Test.YthhgfjnnconocaaGreatDoorLp
namespace Go.Proofs.YthhgfjnnconocaaGreatDoor.Ex
set_option maxRecDepth 20000

open Go Go.RowKit
set_option maxHeartbeats 0 in
set_option maxRecDepth 1000000 in
theorem ranTab_4 (w : World) (hL : Laid h10 w) : Calls Tryz.prog 16 ⟨[.string ⟨#[108, 100, 120, 56, 32, 114, 50, 32, 114, 49, 32, 48, 10, 108, 100, 120, 49, 32, 114, 48, 32, 114, 50, 32, 49, 10, 101, 120, 105, 116]⟩, .int .u64 113, .int .i64 3, .int .i64 0]⟩ w fun e w' => e = .returned (.bool true) ∧ Gr w w' :=
  reckon3_any noNG (orHook3_ok new10Hook_ok (orHook3_ok lpHook_ok (lift_ok (guard_ok repHook_ok)))) mOrc 100000 300 h10 rfl rfl (by kernel_rfl) w hL
set_option maxHeartbeats 0 in
set_option maxRecDepth 1000000 in
theorem ranTab_5 (w : World) (hL : Laid h10 w) : Calls Tryz.prog 16 ⟨[.string ⟨#[108, 100, 120, 49, 32, 114, 48, 32, 114, 49, 32, 48, 10, 101, 120, 105, 116]⟩, .int .u64 0, .int .i64 0, .int .i64 102]⟩ w fun e w' => e = .returned (.bool true) ∧ Gr w w' :=
  reckon3_any noNG (orHook3_ok new10Hook_ok (orHook3_ok lpHook_ok (lift_ok (guard_ok repHook_ok)))) mOrc 100000 300 h10 rfl rfl (by kernel_rfl) w hL
set_option maxHeartbeats 0 in
set_option maxRecDepth 1000000 in
theorem ranTab_6 (w : World) (hL : Laid h10 w) : Calls Tryz.prog 16 ⟨[.string ⟨#[108, 100, 120, 56, 32, 114, 48, 32, 114, 49, 48, 32, 45, 56, 10, 101, 120, 105, 116]⟩, .int .u64 0, .int .i64 0, .int .i64 101]⟩ w fun e w' => e = .returned (.bool true) ∧ Gr w w' :=
  reckon3_any noNG (orHook3_ok new10Hook_ok (orHook3_ok lpHook_ok (lift_ok (guard_ok repHook_ok)))) mOrc 100000 300 h10 rfl rfl (by kernel_rfl) w hL
end Go.Proofs.YthhgfjnnconocaaGreatDoor.Ex
