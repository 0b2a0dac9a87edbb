/-
  Layer 13: the chapter's examples together.
-/
import Derived.Test.YtpkjgcfdemnohaaGreatDoorMk2
import Derived.Test.YtpkjgcfdemnohaaGreatDoorMk3
namespace Go.Proofs.YtpkjgcfdemnohaaGreatDoor.Ex
open Go Go.RowKit
def cmTab : List SlCall := [cm0, cm1, cm2, cm3, cm4, cm5]
theorem cmTab_ok : ∀ e ∈ cmTab, SlOk Tryz.prog h14 33 e := by
  intro e he
  simp only [cmTab, List.mem_cons, List.not_mem_nil, or_false] at he
  rcases he with rfl | rfl | rfl | rfl | rfl | rfl
  · exact cm0_ok
  · exact cm1_ok
  · exact cm2_ok
  · exact cm3_ok
  · exact cm4_ok
  · exact cm5_ok
def cfTab : Tab := [([.int .u64 0, .int .i64 0, .int .i64 110, .slice none 0 0], .bool true)]
theorem cfTab_ok : TabOk Tryz.prog h14 33 cfTab := ⟨cf0_ok, trivial⟩
def comesHook : Hook := orHook (slHook h14 33 cmTab) (guardH (memoHook h14 33 cfTab))
theorem comesHook_ok : HookOk2 Tryz.prog comesHook := orHook2_ok (slHook_ok rfl rfl cmTab_ok) (guard_ok (memoHook_ok rfl cfTab_ok))
set_option maxHeartbeats 0 in
set_option maxRecDepth 1000000 in
theorem runs_any (w : World) (hL : Laid h14 w) : Calls Tryz.prog 13 #[] w fun e w' => e = .returned (.bool true) ∧ Gr w w' :=
  reckonX_ok noNG comesHook_ok 100000 300 h14 rfl rfl (by kernel_rfl) w hL
def runsHook : Hook := memoHook h14 13 [([], .bool true)]
theorem runsHook_ok : HookOk Tryz.prog runsHook := memoHook_ok rfl ⟨fun w hL => runs_any w hL, trivial⟩
end Go.Proofs.YtpkjgcfdemnohaaGreatDoor.Ex
