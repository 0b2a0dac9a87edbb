/-
  Texts' programs, as the document reads them: a table.
-/
import Derived.Test.YthhgfjnnconocaaGreatDoorLp0
import Derived.Test.YthhgfjnnconocaaGreatDoorLp1
import Derived.Test.YthhgfjnnconocaaGreatDoorLp2
import Derived.Test.YthhgfjnnconocaaGreatDoorLp3
import Derived.Test.YthhgfjnnconocaaGreatDoorLp4
import Derived.Test.YthhgfjnnconocaaGreatDoorLp5
import Derived.Test.YthhgfjnnconocaaGreatDoorLp6
import Derived.Test.YthhgfjnnconocaaGreatDoorLp7
import Derived.Test.YthhgfjnnconocaaGreatDoorLp8
import Derived.Test.YthhgfjnnconocaaGreatDoorLp9
import Derived.Test.YthhgfjnnconocaaGreatDoorLp10
namespace Go.Proofs.YthhgfjnnconocaaGreatDoor.Ex
set_option maxRecDepth 20000

open Go Go.RowKit
set_option maxHeartbeats 0
set_option maxRecDepth 1000000
set_option linter.unusedVariables false
def lpTab : List LayCall := [lp0, lp1, lp2, lp3, lp4, lp5, lp6, lp7, lp8, lp9, lp10]
theorem lpTab_ok : ∀ e ∈ lpTab, e.args.all flat = true ∧ LayOk Tryz.prog e := by
  intro e he
  simp only [lpTab, List.mem_cons, List.not_mem_nil, or_false] at he
  rcases he with rfl | rfl | rfl | rfl | rfl | rfl | rfl | rfl | rfl | rfl | rfl
  · exact ⟨rfl, lp0_ok⟩
  · exact ⟨rfl, lp1_ok⟩
  · exact ⟨rfl, lp2_ok⟩
  · exact ⟨rfl, lp3_ok⟩
  · exact ⟨rfl, lp4_ok⟩
  · exact ⟨rfl, lp5_ok⟩
  · exact ⟨rfl, lp6_ok⟩
  · exact ⟨rfl, lp7_ok⟩
  · exact ⟨rfl, lp8_ok⟩
  · exact ⟨rfl, lp9_ok⟩
  · exact ⟨rfl, lp10_ok⟩
def lpHook : Hook3 := layHook eqML lpTab
theorem lpHook_ok : HookOk3 Tryz.prog lpHook := layHook_ok (fun _ _ h => eqML_ok h) lpTab_ok
end Go.Proofs.YthhgfjnnconocaaGreatDoor.Ex
