/-
  Layer 13: the chapter's examples, one by one.
-/
import Derived.Test.YtpkjgcfdemnohaaGreatDoorMk1
import Derived.Test.YtpkjgcfdemnohaaGreatDoorPackC
namespace Go.Proofs.YtpkjgcfdemnohaaGreatDoor.Ex
open Go Go.RowKit
def cm0 : SlCall := ⟨[.int .u64 7, .int .i64 2, .int .i64 0], [.int .i64 2, .int .i64 0, .int .i64 0, .int .i64 0, .bool true, .bool false, .int .i64 0, .int .i64 0, .int .i32 0, .int .i32 0, .int .i64 7, .int .i64 19, .int .i64 0, .int .i64 0, .int .i64 0, .bool false, .bool false, .int .i64 0, .int .i64 0, .int .i32 0, .int .i32 0, .int .i64 0], 2, .bool true⟩
set_option maxHeartbeats 0 in
set_option maxRecDepth 1000000 in
theorem cm0_ok : SlOk Tryz.prog h14 33 cm0 := reckonSl_ok noNG (guard_ok tabHook_ok) 100000 300 h14 (cs := [(1, 1), (1, 1)]) rfl (by kernel_rfl) rfl
def cm1 : SlCall := ⟨[.int .u64 0, .int .i64 3, .int .i64 0], [.int .i64 17, .int .i64 0, .int .i64 0, .int .i64 0, .bool false, .bool false, .int .i64 3, .int .i64 0, .int .i32 0, .int .i32 0, .int .i64 0, .int .i64 18, .int .i64 0, .int .i64 0, .int .i64 0, .bool false, .bool false, .int .i64 0, .int .i64 0, .int .i32 0, .int .i32 0, .int .i64 0, .int .i64 19, .int .i64 0, .int .i64 0, .int .i64 0, .bool false, .bool false, .int .i64 0, .int .i64 0, .int .i32 0, .int .i32 0, .int .i64 0], 3, .bool true⟩
set_option maxHeartbeats 0 in
set_option maxRecDepth 1000000 in
theorem cm1_ok : SlOk Tryz.prog h14 33 cm1 := reckonSl_ok noNG (guard_ok tabHook_ok) 100000 300 h14 (cs := [(1, 1), (1, 1)]) rfl (by kernel_rfl) rfl
def cm2 : SlCall := ⟨[.int .u64 0, .int .i64 0, .int .i64 110], [.int .i64 17, .int .i64 0, .int .i64 0, .int .i64 0, .bool false, .bool false, .int .i64 0, .int .i64 0, .int .i32 0, .int .i32 0, .int .i64 0, .int .i64 19, .int .i64 0, .int .i64 0, .int .i64 0, .bool false, .bool false, .int .i64 0, .int .i64 0, .int .i32 0, .int .i32 0, .int .i64 0], 2, .bool true⟩
set_option maxHeartbeats 0 in
set_option maxRecDepth 1000000 in
theorem cm2_ok : SlOk Tryz.prog h14 33 cm2 := reckonSl_ok noNG (guard_ok tabHook_ok) 100000 300 h14 (cs := [(1, 1), (1, 1)]) rfl (by kernel_rfl) rfl
end Go.Proofs.YtpkjgcfdemnohaaGreatDoor.Ex
