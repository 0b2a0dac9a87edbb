/-
  The law HelpersDraws with no draw at all; a place whose room is told of its elements.
-/
import Derived.Test.YtbjiicjmlbocdaaDoorHdR
namespace Go.Proofs.YtbjiicjmlbocdaaDoor.Ex
open Go Go.RowKit
set_option maxHeartbeats 0
set_option maxRecDepth 1000000
set_option linter.unusedVariables false
set_option linter.unusedSectionVars false
theorem hd_z0 : (reckonQI Tryd.prog hd3 (fun _ _ _ => none) noLoop 100000 300 (h09 ++ [dead]) 3 [.slice (some ⟨1, 0, none⟩) 0 0, .int .u8 0]).map (fun r => (r.1, eqs r.2)) = some (.bool true, true) := by kernel_rfl
theorem hd_z1 : (reckonQI Tryd.prog hd3 (fun _ _ _ => none) noLoop 100000 300 (h09 ++ [dead]) 3 [.slice (some ⟨1, 0, none⟩) 0 0, .int .u8 1]).map (fun r => (r.1, eqs r.2)) = some (.bool true, true) := by kernel_rfl
end Go.Proofs.YtbjiicjmlbocdaaDoor.Ex
