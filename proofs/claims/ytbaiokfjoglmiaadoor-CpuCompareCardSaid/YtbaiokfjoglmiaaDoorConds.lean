/-
  The table of conditions (conds.table) and the contract of conds.Holds.
-/
import Derived.Test.YtbaiokfjoglmiaaDoorMapLit
import Derived.Test.YtbaiokfjoglmiaaDoorAlu
namespace Go.Proofs.YtbaiokfjoglmiaaDoor
open Go.RowKit

/-- The table's first k entries. -/
def tabE (k : Nat) : Array MapEntry := ([⟨.int .u8 0, .agg #[.bool true, .bool true, .bool true, .bool false, .bool false], 0⟩, ⟨.int .u8 16, .agg #[.bool false, .bool true, .bool false, .bool false, .bool false], 1⟩, ⟨.int .u8 80, .agg #[.bool true, .bool false, .bool true, .bool false, .bool false], 2⟩, ⟨.int .u8 32, .agg #[.bool false, .bool false, .bool true, .bool false, .bool false], 3⟩, ⟨.int .u8 48, .agg #[.bool false, .bool true, .bool true, .bool false, .bool false], 4⟩, ⟨.int .u8 160, .agg #[.bool true, .bool false, .bool false, .bool false, .bool false], 5⟩, ⟨.int .u8 176, .agg #[.bool true, .bool true, .bool false, .bool false, .bool false], 6⟩, ⟨.int .u8 96, .agg #[.bool false, .bool false, .bool true, .bool false, .bool true], 7⟩, ⟨.int .u8 112, .agg #[.bool false, .bool true, .bool true, .bool false, .bool true], 8⟩, ⟨.int .u8 192, .agg #[.bool true, .bool false, .bool false, .bool false, .bool true], 9⟩, ⟨.int .u8 208, .agg #[.bool true, .bool true, .bool false, .bool false, .bool true], 10⟩, ⟨.int .u8 64, .agg #[.bool false, .bool false, .bool false, .bool true, .bool false], 11⟩].take k).toArray

attribute [local go_sem] u64_wrap u8_wrap

set_option maxRecDepth 100000 in
set_option maxHeartbeats 1000000 in
theorem table_any (w : World) : Calls Tryd.prog 71 #[] w fun e w' => e = .returned (.map (some w.heap.size)) ∧ w' = w.alloc (.map (tabE 12) 12) := by
  have hmm := @run_makeMap Tryd.prog
  have ez : (#[] : Array MapEntry) = tabE 0 := rfl
  have f0 := run_insert_new (P := Tryd.prog) Tryd.underlying110 Tryd.underlying5 w (tabE 0) 0 0 (.agg #[.bool true, .bool true, .bool true, .bool false, .bool false]) rfl
  rw [show (tabE 0).push ⟨.int .u8 0, .agg #[.bool true, .bool true, .bool true, .bool false, .bool false], 0⟩ = tabE 1 from rfl] at f0
  have f1 := run_insert_new (P := Tryd.prog) Tryd.underlying110 Tryd.underlying5 w (tabE 1) 1 16 (.agg #[.bool false, .bool true, .bool false, .bool false, .bool false]) rfl
  rw [show (tabE 1).push ⟨.int .u8 16, .agg #[.bool false, .bool true, .bool false, .bool false, .bool false], 1⟩ = tabE 2 from rfl] at f1
  have f2 := run_insert_new (P := Tryd.prog) Tryd.underlying110 Tryd.underlying5 w (tabE 2) 2 80 (.agg #[.bool true, .bool false, .bool true, .bool false, .bool false]) rfl
  rw [show (tabE 2).push ⟨.int .u8 80, .agg #[.bool true, .bool false, .bool true, .bool false, .bool false], 2⟩ = tabE 3 from rfl] at f2
  have f3 := run_insert_new (P := Tryd.prog) Tryd.underlying110 Tryd.underlying5 w (tabE 3) 3 32 (.agg #[.bool false, .bool false, .bool true, .bool false, .bool false]) rfl
  rw [show (tabE 3).push ⟨.int .u8 32, .agg #[.bool false, .bool false, .bool true, .bool false, .bool false], 3⟩ = tabE 4 from rfl] at f3
  have f4 := run_insert_new (P := Tryd.prog) Tryd.underlying110 Tryd.underlying5 w (tabE 4) 4 48 (.agg #[.bool false, .bool true, .bool true, .bool false, .bool false]) rfl
  rw [show (tabE 4).push ⟨.int .u8 48, .agg #[.bool false, .bool true, .bool true, .bool false, .bool false], 4⟩ = tabE 5 from rfl] at f4
  have f5 := run_insert_new (P := Tryd.prog) Tryd.underlying110 Tryd.underlying5 w (tabE 5) 5 160 (.agg #[.bool true, .bool false, .bool false, .bool false, .bool false]) rfl
  rw [show (tabE 5).push ⟨.int .u8 160, .agg #[.bool true, .bool false, .bool false, .bool false, .bool false], 5⟩ = tabE 6 from rfl] at f5
  have f6 := run_insert_new (P := Tryd.prog) Tryd.underlying110 Tryd.underlying5 w (tabE 6) 6 176 (.agg #[.bool true, .bool true, .bool false, .bool false, .bool false]) rfl
  rw [show (tabE 6).push ⟨.int .u8 176, .agg #[.bool true, .bool true, .bool false, .bool false, .bool false], 6⟩ = tabE 7 from rfl] at f6
  have f7 := run_insert_new (P := Tryd.prog) Tryd.underlying110 Tryd.underlying5 w (tabE 7) 7 96 (.agg #[.bool false, .bool false, .bool true, .bool false, .bool true]) rfl
  rw [show (tabE 7).push ⟨.int .u8 96, .agg #[.bool false, .bool false, .bool true, .bool false, .bool true], 7⟩ = tabE 8 from rfl] at f7
  have f8 := run_insert_new (P := Tryd.prog) Tryd.underlying110 Tryd.underlying5 w (tabE 8) 8 112 (.agg #[.bool false, .bool true, .bool true, .bool false, .bool true]) rfl
  rw [show (tabE 8).push ⟨.int .u8 112, .agg #[.bool false, .bool true, .bool true, .bool false, .bool true], 8⟩ = tabE 9 from rfl] at f8
  have f9 := run_insert_new (P := Tryd.prog) Tryd.underlying110 Tryd.underlying5 w (tabE 9) 9 192 (.agg #[.bool true, .bool false, .bool false, .bool false, .bool true]) rfl
  rw [show (tabE 9).push ⟨.int .u8 192, .agg #[.bool true, .bool false, .bool false, .bool false, .bool true], 9⟩ = tabE 10 from rfl] at f9
  have f10 := run_insert_new (P := Tryd.prog) Tryd.underlying110 Tryd.underlying5 w (tabE 10) 10 208 (.agg #[.bool true, .bool true, .bool false, .bool false, .bool true]) rfl
  rw [show (tabE 10).push ⟨.int .u8 208, .agg #[.bool true, .bool true, .bool false, .bool false, .bool true], 10⟩ = tabE 11 from rfl] at f10
  have f11 := run_insert_new (P := Tryd.prog) Tryd.underlying110 Tryd.underlying5 w (tabE 11) 11 64 (.agg #[.bool false, .bool false, .bool false, .bool true, .bool false]) rfl
  rw [show (tabE 11).push ⟨.int .u8 64, .agg #[.bool false, .bool false, .bool false, .bool true, .bool false], 11⟩ = tabE 12 from rfl] at f11
  go_enter Tryd.func71, Tryd.ntmps71
  go_wp2
  go_ret
  exact ⟨rfl, rfl⟩
end Go.Proofs.YtbaiokfjoglmiaaDoor
