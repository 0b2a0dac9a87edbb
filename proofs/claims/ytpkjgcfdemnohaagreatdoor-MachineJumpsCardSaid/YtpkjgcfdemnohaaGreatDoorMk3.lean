/-
  Layer 13: the chapter's examples, one by one.
-/
import Derived.Test.YtpkjgcfdemnohaaGreatDoorMk1
import Derived.Test.YtpkjgcfdemnohaaGreatDoorPackC
namespace Go.Proofs.YtpkjgcfdemnohaaGreatDoor.Ex
open Go Go.RowKit
def cm3 : SlCall := ⟨[.int .u64 0, .int .i64 0, .int .i64 70], [.int .i64 13, .int .i64 0, .int .i64 0, .int .i64 3, .bool false, .bool false, .int .i64 0, .int .i64 3, .int .i32 0, .int .i32 0, .int .i64 0, .int .i64 19, .int .i64 0, .int .i64 0, .int .i64 0, .bool false, .bool false, .int .i64 0, .int .i64 0, .int .i32 0, .int .i32 0, .int .i64 0], 2, .bool true⟩
set_option maxHeartbeats 0 in
set_option maxRecDepth 1000000 in
theorem cm3_ok : SlOk Tryz.prog h14 33 cm3 := reckonSl_ok noNG (guard_ok tabHook_ok) 100000 300 h14 (cs := [(1, 1), (1, 1)]) rfl (by kernel_rfl) rfl
def cm4 : SlCall := ⟨[.int .u64 0, .int .i64 0, .int .i64 100], [.int .i64 15, .int .i64 0, .int .i64 0, .int .i64 0, .bool false, .bool true, .int .i64 0, .int .i64 0, .int .i32 0, .int .i32 (-2), .int .i64 0], 1, .bool true⟩
set_option maxHeartbeats 0 in
set_option maxRecDepth 1000000 in
theorem cm4_ok : SlOk Tryz.prog h14 33 cm4 := reckonSl_ok noNG (guard_ok tabHook_ok) 100000 300 h14 (cs := [(1, 1), (1, 1)]) rfl (by kernel_rfl) rfl
def cm5 : SlCall := ⟨[.int .u64 5, .int .i64 2, .int .i64 0], [.int .i64 20, .int .i64 0, .int .i64 0, .int .i64 0, .bool false, .bool false, .int .i64 0, .int .i64 0, .int .i32 0, .int .i32 4194306, .int .i64 0, .int .i64 19, .int .i64 0, .int .i64 0, .int .i64 0, .bool false, .bool false, .int .i64 0, .int .i64 0, .int .i32 0, .int .i32 0, .int .i64 0], 2, .bool true⟩
set_option maxHeartbeats 0 in
set_option maxRecDepth 1000000 in
theorem cm5_ok : SlOk Tryz.prog h14 33 cm5 := reckonSl_ok noNG (guard_ok tabHook_ok) 100000 300 h14 (cs := [(1, 1), (1, 1)]) rfl (by kernel_rfl) rfl
set_option maxHeartbeats 0 in
set_option maxRecDepth 1000000 in
theorem cf0_ok (w : World) (hL : Laid h14 w) : Calls Tryz.prog 33 ⟨[.int .u64 0, .int .i64 0, .int .i64 110, .slice none 0 0]⟩ w fun e w' => e = .returned (.bool true) ∧ Gr w w' :=
  reckonG_ok noNG tabHook_ok 100000 300 h14 rfl rfl (by kernel_rfl) w hL
end Go.Proofs.YtpkjgcfdemnohaaGreatDoor.Ex
