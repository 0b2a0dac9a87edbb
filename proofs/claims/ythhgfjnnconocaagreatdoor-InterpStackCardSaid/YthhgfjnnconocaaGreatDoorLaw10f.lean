/-
  Layer 10: the chapter's examples together.
-/
import Derived.Test.YthhgfjnnconocaaGreatDoorLaw10b
import Derived.Test.YthhgfjnnconocaaGreatDoorLaw10c
import Derived.Test.YthhgfjnnconocaaGreatDoorLaw10d
import Derived.Test.YthhgfjnnconocaaGreatDoorLaw10e
namespace Go.Proofs.YthhgfjnnconocaaGreatDoor.Ex
set_option maxRecDepth 20000

open Go Go.RowKit
def ranTab : Tab := [
  ([.string ⟨#[109, 111, 118, 54, 52, 32, 114, 48, 32, 55, 10, 97, 100, 100, 54, 52, 32, 114, 48, 32, 45, 50, 10, 101, 120, 105, 116]⟩, .int .u64 5, .int .i64 3, .int .i64 0], .bool true),
  ([.string ⟨#[101, 120, 105, 116]⟩, .int .u64 0, .int .i64 0, .int .i64 101], .bool true),
  ([.string ⟨#[109, 111, 118, 54, 52, 32, 114, 48, 32, 114, 49, 10, 101, 120, 105, 116]⟩, .int .u64 0, .int .i64 0, .int .i64 102], .bool true),
  ([.string ⟨#[109, 111, 118, 54, 52, 32, 114, 48, 32, 114, 49, 10, 115, 117, 98, 54, 52, 32, 114, 48, 32, 114, 49, 48, 10, 101, 120, 105, 116]⟩, .int .u64 18446744073709485568, .int .i64 3, .int .i64 0], .bool true),
  ([.string ⟨#[108, 100, 120, 56, 32, 114, 50, 32, 114, 49, 32, 48, 10, 108, 100, 120, 49, 32, 114, 48, 32, 114, 50, 32, 49, 10, 101, 120, 105, 116]⟩, .int .u64 113, .int .i64 3, .int .i64 0], .bool true),
  ([.string ⟨#[108, 100, 120, 49, 32, 114, 48, 32, 114, 49, 32, 48, 10, 101, 120, 105, 116]⟩, .int .u64 0, .int .i64 0, .int .i64 102], .bool true),
  ([.string ⟨#[108, 100, 120, 56, 32, 114, 48, 32, 114, 49, 48, 32, 45, 56, 10, 101, 120, 105, 116]⟩, .int .u64 0, .int .i64 0, .int .i64 101], .bool true),
  ([.string ⟨#[108, 100, 120, 56, 32, 114, 48, 32, 114, 49, 48, 32, 48, 10, 101, 120, 105, 116]⟩, .int .u64 0, .int .i64 0, .int .i64 70], .bool true),
  ([.string ⟨#[115, 116, 120, 56, 32, 114, 49, 48, 32, 45, 56, 32, 114, 49, 10, 108, 100, 120, 56, 32, 114, 50, 32, 114, 49, 48, 32, 45, 56, 10, 108, 100, 120, 56, 32, 114, 48, 32, 114, 50, 32, 49, 54, 10, 101, 120, 105, 116]⟩, .int .u64 9, .int .i64 4, .int .i64 0], .bool true),
  ([.string ⟨#[115, 116, 56, 32, 114, 49, 32, 48, 32, 53, 10, 101, 120, 105, 116]⟩, .int .u64 0, .int .i64 0, .int .i64 71], .bool true),
  ([.string ⟨#[106, 97, 32, 45, 49]⟩, .int .u64 0, .int .i64 0, .int .i64 100], .bool true)]
theorem ranTab_ok : TabOk Tryz.prog h10 16 ranTab :=
  ⟨ranTab_0, ranTab_1, ranTab_2, ranTab_3, ranTab_4, ranTab_5, ranTab_6, ranTab_7, ranTab_8, ranTab_9, ranTab_10, trivial⟩
def ranHook : Hook := orHook (memoHook h10 16 ranTab) repHook
theorem ranHook_ok : HookOk Tryz.prog ranHook := orHook_ok (memoHook_ok rfl ranTab_ok) repHook_ok
set_option maxHeartbeats 0 in
set_option maxRecDepth 1000000 in
theorem goes_any (w : World) (hL : Laid h10 w) : Calls Tryz.prog 7 #[] w fun e w' => e = .returned (.bool true) ∧ Gr w w' :=
  reckonG_ok noNG ranHook_ok 100000 300 h10 rfl rfl (by kernel_rfl) w hL
def goesHook : Hook := orHook (memoHook h10 7 [([], .bool true)]) repHook
theorem goesHook_ok : HookOk Tryz.prog goesHook := orHook_ok (memoHook_ok rfl ⟨fun w hL => goes_any w hL, trivial⟩) repHook_ok
end Go.Proofs.YthhgfjnnconocaaGreatDoor.Ex
