/-
  The law HelpersDraws with no draw at all; a place whose room is told of its elements.
-/
import Derived.Test.YtbjiicjmlbocdaaDoorHdR
namespace Go.Proofs.YtbjiicjmlbocdaaDoor.Ex
open Go Go.RowKit
set_option maxHeartbeats 0
set_option maxRecDepth 1000000
set_option linter.unusedVariables false
set_option linter.unusedSectionVars false
theorem hd_n0 : (reckonQI Tryd.prog hd3 (fun _ _ _ => none) noLoop 100000 300 h09 3 [.slice none 0 0, .int .u8 0]).map (fun r => (r.1, eqs r.2)) = some (.bool true, true) := by kernel_rfl
theorem hd_n1 : (reckonQI Tryd.prog hd3 (fun _ _ _ => none) noLoop 100000 300 h09 3 [.slice none 0 0, .int .u8 1]).map (fun r => (r.1, eqs r.2)) = some (.bool true, true) := by kernel_rfl
theorem hd_n2 : (reckonQI Tryd.prog hd3 (fun _ _ _ => none) noLoop 100000 300 h09 3 [.slice none 0 0, .int .u8 2]).map (fun r => (r.1, eqs r.2)) = some (.bool true, true) := by kernel_rfl
def nxS0 : Cs := [(1, 1), (1, 1)]
def nxS1 : Cs := []
def nxS2 : Cs := []
def nxS3 : Cs := []
noncomputable def nxP (a : Int) : Cs := nxS0 ++ ((b2i ((0 : Int) == wi a), 0) :: (nxS1 ++ ((b2i ((1 : Int) == wi a), 0) :: (nxS2 ++ ((b2i ((2 : Int) == wi a), 0) :: nxS3)))))
theorem nxP_ok {a : Int} (h : 3 ≤ a) (h2 : a < 256) : AE (nxP a) := by
  unfold nxP
  rw [wi_id (x := a) (by omega) (by omega)]
  exact AE.app (eqs_ok (by kernel_rfl)) (AE.cons (bf (beq_eq_false_iff_ne.2 (by omega))) (AE.app (eqs_ok (by kernel_rfl)) (AE.cons (bf (beq_eq_false_iff_ne.2 (by omega))) (AE.app (eqs_ok (by kernel_rfl)) (AE.cons (bf (beq_eq_false_iff_ne.2 (by omega))) (eqs_ok (by kernel_rfl)))))))
theorem hd_nx (a : Int) : reckonQI Tryd.prog hd3 hdN noLoop 100000 300 h09 3 [.slice none 0 0, .int .u8 a] = some (.bool true, inter (nxP a)) := by kernel_rfl
end Go.Proofs.YtbjiicjmlbocdaaDoor.Ex
