/-
  Layer 13: the law MachineJumps: which of its instructions may be, and their bytes.
-/
import Derived.Test.YtpkjgcfdemnohaaGreatDoorMj7
namespace Go.Proofs.YtpkjgcfdemnohaaGreatDoor.Ex
open Go Go.RowKit
set_option linter.unusedVariables false
set_option maxHeartbeats 0
set_option maxRecDepth 1000000
theorem vJ0 (w : World) (hL : Laid h14 w) : Calls Tryz.prog 49 ⟨[.agg ⟨xB 2 0 0 0 true false 0 0 0 0 1⟩]⟩ w fun e w' => e = .returned (.bool true) ∧ Gr w w' :=
  reckonX_ok noNG (guard_ok hkN_ok) 100000 300 h14 rfl rfl (by kernel_rfl) w hL
theorem vJ1 (w : World) (hL : Laid h14 w) : Calls Tryz.prog 49 ⟨[.agg ⟨xB 4 7 0 0 true false 1 2 0 0 0⟩]⟩ w fun e w' => e = .returned (.bool true) ∧ Gr w w' :=
  reckonX_ok noNG (guard_ok hkN_ok) 100000 300 h14 rfl rfl (by kernel_rfl) w hL
theorem vJ2 (w : World) (hL : Laid h14 w) : Calls Tryz.prog 49 ⟨[.agg ⟨xB 2 0 0 0 true false 0 0 0 0 0⟩]⟩ w fun e w' => e = .returned (.bool true) ∧ Gr w w' :=
  reckonX_ok noNG (guard_ok hkN_ok) 100000 300 h14 rfl rfl (by kernel_rfl) w hL
theorem vJ3 (w : World) (hL : Laid h14 w) : Calls Tryz.prog 49 ⟨[.agg ⟨xB 19 0 0 0 false false 0 0 0 0 0⟩]⟩ w fun e w' => e = .returned (.bool true) ∧ Gr w w' :=
  reckonX_ok noNG (guard_ok hkN_ok) 100000 300 h14 rfl rfl (by kernel_rfl) w hL
theorem vJ4 (w : World) (hL : Laid h14 w) : Calls Tryz.prog 49 ⟨[.agg ⟨xB 16 0 2 0 false true 0 0 0 7 0⟩]⟩ w fun e w' => e = .returned (.bool true) ∧ Gr w w' :=
  reckonX_ok noNG (guard_ok hkN_ok) 100000 300 h14 rfl rfl (by kernel_rfl) w hL
theorem vJ5 (w : World) (hL : Laid h14 w) : Calls Tryz.prog 49 ⟨[.agg ⟨xB 16 0 2 0 false false 0 0 0 7 0⟩]⟩ w fun e w' => e = .returned (.bool true) ∧ Gr w w' :=
  reckonX_ok noNG (guard_ok hkN_ok) 100000 300 h14 rfl rfl (by kernel_rfl) w hL
theorem vJ6 (w : World) (hL : Laid h14 w) : Calls Tryz.prog 49 ⟨[.agg ⟨xB 16 0 3 0 false true 0 0 0 7 0⟩]⟩ w fun e w' => e = .returned (.bool true) ∧ Gr w w' :=
  reckonX_ok noNG (guard_ok hkN_ok) 100000 300 h14 rfl rfl (by kernel_rfl) w hL
theorem vJ7 (w : World) (hL : Laid h14 w) : Calls Tryz.prog 49 ⟨[.agg ⟨xB 16 0 3 0 false false 0 0 0 7 0⟩]⟩ w fun e w' => e = .returned (.bool true) ∧ Gr w w' :=
  reckonX_ok noNG (guard_ok hkN_ok) 100000 300 h14 rfl rfl (by kernel_rfl) w hL
theorem vJ8 (w : World) (hL : Laid h14 w) : Calls Tryz.prog 49 ⟨[.agg ⟨xB 16 0 4 0 false true 0 0 0 7 0⟩]⟩ w fun e w' => e = .returned (.bool true) ∧ Gr w w' :=
  reckonX_ok noNG (guard_ok hkN_ok) 100000 300 h14 rfl rfl (by kernel_rfl) w hL
theorem vJ9 (w : World) (hL : Laid h14 w) : Calls Tryz.prog 49 ⟨[.agg ⟨xB 16 0 4 0 false false 0 0 0 7 0⟩]⟩ w fun e w' => e = .returned (.bool true) ∧ Gr w w' :=
  reckonX_ok noNG (guard_ok hkN_ok) 100000 300 h14 rfl rfl (by kernel_rfl) w hL
theorem vJ10 (w : World) (hL : Laid h14 w) : Calls Tryz.prog 49 ⟨[.agg ⟨xB 16 0 5 0 false true 0 0 0 7 0⟩]⟩ w fun e w' => e = .returned (.bool true) ∧ Gr w w' :=
  reckonX_ok noNG (guard_ok hkN_ok) 100000 300 h14 rfl rfl (by kernel_rfl) w hL
theorem vJ11 (w : World) (hL : Laid h14 w) : Calls Tryz.prog 49 ⟨[.agg ⟨xB 16 0 5 0 false false 0 0 0 7 0⟩]⟩ w fun e w' => e = .returned (.bool true) ∧ Gr w w' :=
  reckonX_ok noNG (guard_ok hkN_ok) 100000 300 h14 rfl rfl (by kernel_rfl) w hL
theorem vJ12 (w : World) (hL : Laid h14 w) : Calls Tryz.prog 49 ⟨[.agg ⟨xB 16 0 6 0 false true 0 0 0 7 0⟩]⟩ w fun e w' => e = .returned (.bool true) ∧ Gr w w' :=
  reckonX_ok noNG (guard_ok hkN_ok) 100000 300 h14 rfl rfl (by kernel_rfl) w hL
theorem vJ13 (w : World) (hL : Laid h14 w) : Calls Tryz.prog 49 ⟨[.agg ⟨xB 16 0 6 0 false false 0 0 0 7 0⟩]⟩ w fun e w' => e = .returned (.bool true) ∧ Gr w w' :=
  reckonX_ok noNG (guard_ok hkN_ok) 100000 300 h14 rfl rfl (by kernel_rfl) w hL
theorem vJ14 (w : World) (hL : Laid h14 w) : Calls Tryz.prog 49 ⟨[.agg ⟨xB 16 0 7 0 false true 0 0 0 7 0⟩]⟩ w fun e w' => e = .returned (.bool true) ∧ Gr w w' :=
  reckonX_ok noNG (guard_ok hkN_ok) 100000 300 h14 rfl rfl (by kernel_rfl) w hL
theorem vJ15 (w : World) (hL : Laid h14 w) : Calls Tryz.prog 49 ⟨[.agg ⟨xB 16 0 7 0 false false 0 0 0 7 0⟩]⟩ w fun e w' => e = .returned (.bool true) ∧ Gr w w' :=
  reckonX_ok noNG (guard_ok hkN_ok) 100000 300 h14 rfl rfl (by kernel_rfl) w hL
theorem vJ16 (w : World) (hL : Laid h14 w) : Calls Tryz.prog 49 ⟨[.agg ⟨xB 16 0 12 0 false true 0 0 0 7 0⟩]⟩ w fun e w' => e = .returned (.bool true) ∧ Gr w w' :=
  reckonX_ok noNG (guard_ok hkN_ok) 100000 300 h14 rfl rfl (by kernel_rfl) w hL
theorem vJ17 (w : World) (hL : Laid h14 w) : Calls Tryz.prog 49 ⟨[.agg ⟨xB 16 0 12 0 false false 0 0 0 7 0⟩]⟩ w fun e w' => e = .returned (.bool true) ∧ Gr w w' :=
  reckonX_ok noNG (guard_ok hkN_ok) 100000 300 h14 rfl rfl (by kernel_rfl) w hL
theorem vJ18 (w : World) (hL : Laid h14 w) : Calls Tryz.prog 49 ⟨[.agg ⟨xB 16 0 13 0 false true 0 0 0 7 0⟩]⟩ w fun e w' => e = .returned (.bool true) ∧ Gr w w' :=
  reckonX_ok noNG (guard_ok hkN_ok) 100000 300 h14 rfl rfl (by kernel_rfl) w hL
theorem vJ19 (w : World) (hL : Laid h14 w) : Calls Tryz.prog 49 ⟨[.agg ⟨xB 16 0 13 0 false false 0 0 0 7 0⟩]⟩ w fun e w' => e = .returned (.bool true) ∧ Gr w w' :=
  reckonX_ok noNG (guard_ok hkN_ok) 100000 300 h14 rfl rfl (by kernel_rfl) w hL
theorem vJ20 (w : World) (hL : Laid h14 w) : Calls Tryz.prog 49 ⟨[.agg ⟨xB 16 0 14 0 false true 0 0 0 7 0⟩]⟩ w fun e w' => e = .returned (.bool true) ∧ Gr w w' :=
  reckonX_ok noNG (guard_ok hkN_ok) 100000 300 h14 rfl rfl (by kernel_rfl) w hL
theorem vJ21 (w : World) (hL : Laid h14 w) : Calls Tryz.prog 49 ⟨[.agg ⟨xB 16 0 14 0 false false 0 0 0 7 0⟩]⟩ w fun e w' => e = .returned (.bool true) ∧ Gr w w' :=
  reckonX_ok noNG (guard_ok hkN_ok) 100000 300 h14 rfl rfl (by kernel_rfl) w hL
theorem vJ22 (w : World) (hL : Laid h14 w) : Calls Tryz.prog 49 ⟨[.agg ⟨xB 16 0 15 0 false true 0 0 0 7 0⟩]⟩ w fun e w' => e = .returned (.bool true) ∧ Gr w w' :=
  reckonX_ok noNG (guard_ok hkN_ok) 100000 300 h14 rfl rfl (by kernel_rfl) w hL
theorem vJ23 (w : World) (hL : Laid h14 w) : Calls Tryz.prog 49 ⟨[.agg ⟨xB 16 0 15 0 false false 0 0 0 7 0⟩]⟩ w fun e w' => e = .returned (.bool true) ∧ Gr w w' :=
  reckonX_ok noNG (guard_ok hkN_ok) 100000 300 h14 rfl rfl (by kernel_rfl) w hL
def vJTab : Tab := [([.agg ⟨xB 2 0 0 0 true false 0 0 0 0 1⟩], .bool true), ([.agg ⟨xB 4 7 0 0 true false 1 2 0 0 0⟩], .bool true), ([.agg ⟨xB 2 0 0 0 true false 0 0 0 0 0⟩], .bool true), ([.agg ⟨xB 19 0 0 0 false false 0 0 0 0 0⟩], .bool true), ([.agg ⟨xB 16 0 2 0 false true 0 0 0 7 0⟩], .bool true), ([.agg ⟨xB 16 0 2 0 false false 0 0 0 7 0⟩], .bool true), ([.agg ⟨xB 16 0 3 0 false true 0 0 0 7 0⟩], .bool true), ([.agg ⟨xB 16 0 3 0 false false 0 0 0 7 0⟩], .bool true), ([.agg ⟨xB 16 0 4 0 false true 0 0 0 7 0⟩], .bool true), ([.agg ⟨xB 16 0 4 0 false false 0 0 0 7 0⟩], .bool true), ([.agg ⟨xB 16 0 5 0 false true 0 0 0 7 0⟩], .bool true), ([.agg ⟨xB 16 0 5 0 false false 0 0 0 7 0⟩], .bool true), ([.agg ⟨xB 16 0 6 0 false true 0 0 0 7 0⟩], .bool true), ([.agg ⟨xB 16 0 6 0 false false 0 0 0 7 0⟩], .bool true), ([.agg ⟨xB 16 0 7 0 false true 0 0 0 7 0⟩], .bool true), ([.agg ⟨xB 16 0 7 0 false false 0 0 0 7 0⟩], .bool true), ([.agg ⟨xB 16 0 12 0 false true 0 0 0 7 0⟩], .bool true), ([.agg ⟨xB 16 0 12 0 false false 0 0 0 7 0⟩], .bool true), ([.agg ⟨xB 16 0 13 0 false true 0 0 0 7 0⟩], .bool true), ([.agg ⟨xB 16 0 13 0 false false 0 0 0 7 0⟩], .bool true), ([.agg ⟨xB 16 0 14 0 false true 0 0 0 7 0⟩], .bool true), ([.agg ⟨xB 16 0 14 0 false false 0 0 0 7 0⟩], .bool true), ([.agg ⟨xB 16 0 15 0 false true 0 0 0 7 0⟩], .bool true), ([.agg ⟨xB 16 0 15 0 false false 0 0 0 7 0⟩], .bool true)]
theorem vJTab_ok : TabOk Tryz.prog h14 49 vJTab := ⟨vJ0, vJ1, vJ2, vJ3, vJ4, vJ5, vJ6, vJ7, vJ8, vJ9, vJ10, vJ11, vJ12, vJ13, vJ14, vJ15, vJ16, vJ17, vJ18, vJ19, vJ20, vJ21, vJ22, vJ23, trivial⟩
theorem eJ0 (w : World) (hL : Laid h14 w) : Calls Tryz.prog 47 ⟨[.agg ⟨xB 2 0 0 0 true false 0 0 0 0 1⟩]⟩ w fun e w' => e = .returned (.tuple ⟨[.string ⟨⟨[72, 199, 192, 1, 0, 0, 0]⟩⟩, .int .i64 0]⟩) ∧ Gr w w' :=
  reckonX_ok noNG (guard_ok hkN_ok) 100000 300 h14 rfl rfl (by kernel_rfl) w hL
theorem eJ1 (w : World) (hL : Laid h14 w) : Calls Tryz.prog 47 ⟨[.agg ⟨xB 4 7 0 0 true false 1 2 0 0 0⟩]⟩ w fun e w' => e = .returned (.tuple ⟨[.string ⟨⟨[72, 57, 209]⟩⟩, .int .i64 0]⟩) ∧ Gr w w' :=
  reckonX_ok noNG (guard_ok hkN_ok) 100000 300 h14 rfl rfl (by kernel_rfl) w hL
theorem eJ2 (w : World) (hL : Laid h14 w) : Calls Tryz.prog 47 ⟨[.agg ⟨xB 2 0 0 0 true false 0 0 0 0 0⟩]⟩ w fun e w' => e = .returned (.tuple ⟨[.string ⟨⟨[72, 199, 192, 0, 0, 0, 0]⟩⟩, .int .i64 0]⟩) ∧ Gr w w' :=
  reckonX_ok noNG (guard_ok hkN_ok) 100000 300 h14 rfl rfl (by kernel_rfl) w hL
theorem eJ3 (w : World) (hL : Laid h14 w) : Calls Tryz.prog 47 ⟨[.agg ⟨xB 19 0 0 0 false false 0 0 0 0 0⟩]⟩ w fun e w' => e = .returned (.tuple ⟨[.string ⟨⟨[195]⟩⟩, .int .i64 0]⟩) ∧ Gr w w' :=
  reckonX_ok noNG (guard_ok hkN_ok) 100000 300 h14 rfl rfl (by kernel_rfl) w hL
theorem eJ4 (w : World) (hL : Laid h14 w) : Calls Tryz.prog 47 ⟨[.agg ⟨xB 16 0 2 0 false true 0 0 0 7 0⟩]⟩ w fun e w' => e = .returned (.tuple ⟨[.string ⟨⟨[114, 7]⟩⟩, .int .i64 0]⟩) ∧ Gr w w' :=
  reckonX_ok noNG (guard_ok hkN_ok) 100000 300 h14 rfl rfl (by kernel_rfl) w hL
theorem eJ5 (w : World) (hL : Laid h14 w) : Calls Tryz.prog 47 ⟨[.agg ⟨xB 16 0 2 0 false false 0 0 0 7 0⟩]⟩ w fun e w' => e = .returned (.tuple ⟨[.string ⟨⟨[15, 130, 7, 0, 0, 0]⟩⟩, .int .i64 0]⟩) ∧ Gr w w' :=
  reckonX_ok noNG (guard_ok hkN_ok) 100000 300 h14 rfl rfl (by kernel_rfl) w hL
theorem eJ6 (w : World) (hL : Laid h14 w) : Calls Tryz.prog 47 ⟨[.agg ⟨xB 16 0 3 0 false true 0 0 0 7 0⟩]⟩ w fun e w' => e = .returned (.tuple ⟨[.string ⟨⟨[115, 7]⟩⟩, .int .i64 0]⟩) ∧ Gr w w' :=
  reckonX_ok noNG (guard_ok hkN_ok) 100000 300 h14 rfl rfl (by kernel_rfl) w hL
theorem eJ7 (w : World) (hL : Laid h14 w) : Calls Tryz.prog 47 ⟨[.agg ⟨xB 16 0 3 0 false false 0 0 0 7 0⟩]⟩ w fun e w' => e = .returned (.tuple ⟨[.string ⟨⟨[15, 131, 7, 0, 0, 0]⟩⟩, .int .i64 0]⟩) ∧ Gr w w' :=
  reckonX_ok noNG (guard_ok hkN_ok) 100000 300 h14 rfl rfl (by kernel_rfl) w hL
theorem eJ8 (w : World) (hL : Laid h14 w) : Calls Tryz.prog 47 ⟨[.agg ⟨xB 16 0 4 0 false true 0 0 0 7 0⟩]⟩ w fun e w' => e = .returned (.tuple ⟨[.string ⟨⟨[116, 7]⟩⟩, .int .i64 0]⟩) ∧ Gr w w' :=
  reckonX_ok noNG (guard_ok hkN_ok) 100000 300 h14 rfl rfl (by kernel_rfl) w hL
theorem eJ9 (w : World) (hL : Laid h14 w) : Calls Tryz.prog 47 ⟨[.agg ⟨xB 16 0 4 0 false false 0 0 0 7 0⟩]⟩ w fun e w' => e = .returned (.tuple ⟨[.string ⟨⟨[15, 132, 7, 0, 0, 0]⟩⟩, .int .i64 0]⟩) ∧ Gr w w' :=
  reckonX_ok noNG (guard_ok hkN_ok) 100000 300 h14 rfl rfl (by kernel_rfl) w hL
theorem eJ10 (w : World) (hL : Laid h14 w) : Calls Tryz.prog 47 ⟨[.agg ⟨xB 16 0 5 0 false true 0 0 0 7 0⟩]⟩ w fun e w' => e = .returned (.tuple ⟨[.string ⟨⟨[117, 7]⟩⟩, .int .i64 0]⟩) ∧ Gr w w' :=
  reckonX_ok noNG (guard_ok hkN_ok) 100000 300 h14 rfl rfl (by kernel_rfl) w hL
theorem eJ11 (w : World) (hL : Laid h14 w) : Calls Tryz.prog 47 ⟨[.agg ⟨xB 16 0 5 0 false false 0 0 0 7 0⟩]⟩ w fun e w' => e = .returned (.tuple ⟨[.string ⟨⟨[15, 133, 7, 0, 0, 0]⟩⟩, .int .i64 0]⟩) ∧ Gr w w' :=
  reckonX_ok noNG (guard_ok hkN_ok) 100000 300 h14 rfl rfl (by kernel_rfl) w hL
theorem eJ12 (w : World) (hL : Laid h14 w) : Calls Tryz.prog 47 ⟨[.agg ⟨xB 16 0 6 0 false true 0 0 0 7 0⟩]⟩ w fun e w' => e = .returned (.tuple ⟨[.string ⟨⟨[118, 7]⟩⟩, .int .i64 0]⟩) ∧ Gr w w' :=
  reckonX_ok noNG (guard_ok hkN_ok) 100000 300 h14 rfl rfl (by kernel_rfl) w hL
theorem eJ13 (w : World) (hL : Laid h14 w) : Calls Tryz.prog 47 ⟨[.agg ⟨xB 16 0 6 0 false false 0 0 0 7 0⟩]⟩ w fun e w' => e = .returned (.tuple ⟨[.string ⟨⟨[15, 134, 7, 0, 0, 0]⟩⟩, .int .i64 0]⟩) ∧ Gr w w' :=
  reckonX_ok noNG (guard_ok hkN_ok) 100000 300 h14 rfl rfl (by kernel_rfl) w hL
theorem eJ14 (w : World) (hL : Laid h14 w) : Calls Tryz.prog 47 ⟨[.agg ⟨xB 16 0 7 0 false true 0 0 0 7 0⟩]⟩ w fun e w' => e = .returned (.tuple ⟨[.string ⟨⟨[119, 7]⟩⟩, .int .i64 0]⟩) ∧ Gr w w' :=
  reckonX_ok noNG (guard_ok hkN_ok) 100000 300 h14 rfl rfl (by kernel_rfl) w hL
theorem eJ15 (w : World) (hL : Laid h14 w) : Calls Tryz.prog 47 ⟨[.agg ⟨xB 16 0 7 0 false false 0 0 0 7 0⟩]⟩ w fun e w' => e = .returned (.tuple ⟨[.string ⟨⟨[15, 135, 7, 0, 0, 0]⟩⟩, .int .i64 0]⟩) ∧ Gr w w' :=
  reckonX_ok noNG (guard_ok hkN_ok) 100000 300 h14 rfl rfl (by kernel_rfl) w hL
theorem eJ16 (w : World) (hL : Laid h14 w) : Calls Tryz.prog 47 ⟨[.agg ⟨xB 16 0 12 0 false true 0 0 0 7 0⟩]⟩ w fun e w' => e = .returned (.tuple ⟨[.string ⟨⟨[124, 7]⟩⟩, .int .i64 0]⟩) ∧ Gr w w' :=
  reckonX_ok noNG (guard_ok hkN_ok) 100000 300 h14 rfl rfl (by kernel_rfl) w hL
theorem eJ17 (w : World) (hL : Laid h14 w) : Calls Tryz.prog 47 ⟨[.agg ⟨xB 16 0 12 0 false false 0 0 0 7 0⟩]⟩ w fun e w' => e = .returned (.tuple ⟨[.string ⟨⟨[15, 140, 7, 0, 0, 0]⟩⟩, .int .i64 0]⟩) ∧ Gr w w' :=
  reckonX_ok noNG (guard_ok hkN_ok) 100000 300 h14 rfl rfl (by kernel_rfl) w hL
theorem eJ18 (w : World) (hL : Laid h14 w) : Calls Tryz.prog 47 ⟨[.agg ⟨xB 16 0 13 0 false true 0 0 0 7 0⟩]⟩ w fun e w' => e = .returned (.tuple ⟨[.string ⟨⟨[125, 7]⟩⟩, .int .i64 0]⟩) ∧ Gr w w' :=
  reckonX_ok noNG (guard_ok hkN_ok) 100000 300 h14 rfl rfl (by kernel_rfl) w hL
theorem eJ19 (w : World) (hL : Laid h14 w) : Calls Tryz.prog 47 ⟨[.agg ⟨xB 16 0 13 0 false false 0 0 0 7 0⟩]⟩ w fun e w' => e = .returned (.tuple ⟨[.string ⟨⟨[15, 141, 7, 0, 0, 0]⟩⟩, .int .i64 0]⟩) ∧ Gr w w' :=
  reckonX_ok noNG (guard_ok hkN_ok) 100000 300 h14 rfl rfl (by kernel_rfl) w hL
theorem eJ20 (w : World) (hL : Laid h14 w) : Calls Tryz.prog 47 ⟨[.agg ⟨xB 16 0 14 0 false true 0 0 0 7 0⟩]⟩ w fun e w' => e = .returned (.tuple ⟨[.string ⟨⟨[126, 7]⟩⟩, .int .i64 0]⟩) ∧ Gr w w' :=
  reckonX_ok noNG (guard_ok hkN_ok) 100000 300 h14 rfl rfl (by kernel_rfl) w hL
theorem eJ21 (w : World) (hL : Laid h14 w) : Calls Tryz.prog 47 ⟨[.agg ⟨xB 16 0 14 0 false false 0 0 0 7 0⟩]⟩ w fun e w' => e = .returned (.tuple ⟨[.string ⟨⟨[15, 142, 7, 0, 0, 0]⟩⟩, .int .i64 0]⟩) ∧ Gr w w' :=
  reckonX_ok noNG (guard_ok hkN_ok) 100000 300 h14 rfl rfl (by kernel_rfl) w hL
theorem eJ22 (w : World) (hL : Laid h14 w) : Calls Tryz.prog 47 ⟨[.agg ⟨xB 16 0 15 0 false true 0 0 0 7 0⟩]⟩ w fun e w' => e = .returned (.tuple ⟨[.string ⟨⟨[127, 7]⟩⟩, .int .i64 0]⟩) ∧ Gr w w' :=
  reckonX_ok noNG (guard_ok hkN_ok) 100000 300 h14 rfl rfl (by kernel_rfl) w hL
theorem eJ23 (w : World) (hL : Laid h14 w) : Calls Tryz.prog 47 ⟨[.agg ⟨xB 16 0 15 0 false false 0 0 0 7 0⟩]⟩ w fun e w' => e = .returned (.tuple ⟨[.string ⟨⟨[15, 143, 7, 0, 0, 0]⟩⟩, .int .i64 0]⟩) ∧ Gr w w' :=
  reckonX_ok noNG (guard_ok hkN_ok) 100000 300 h14 rfl rfl (by kernel_rfl) w hL
def eJTab : Tab := [([.agg ⟨xB 2 0 0 0 true false 0 0 0 0 1⟩], .tuple ⟨[.string ⟨⟨[72, 199, 192, 1, 0, 0, 0]⟩⟩, .int .i64 0]⟩), ([.agg ⟨xB 4 7 0 0 true false 1 2 0 0 0⟩], .tuple ⟨[.string ⟨⟨[72, 57, 209]⟩⟩, .int .i64 0]⟩), ([.agg ⟨xB 2 0 0 0 true false 0 0 0 0 0⟩], .tuple ⟨[.string ⟨⟨[72, 199, 192, 0, 0, 0, 0]⟩⟩, .int .i64 0]⟩), ([.agg ⟨xB 19 0 0 0 false false 0 0 0 0 0⟩], .tuple ⟨[.string ⟨⟨[195]⟩⟩, .int .i64 0]⟩), ([.agg ⟨xB 16 0 2 0 false true 0 0 0 7 0⟩], .tuple ⟨[.string ⟨⟨[114, 7]⟩⟩, .int .i64 0]⟩), ([.agg ⟨xB 16 0 2 0 false false 0 0 0 7 0⟩], .tuple ⟨[.string ⟨⟨[15, 130, 7, 0, 0, 0]⟩⟩, .int .i64 0]⟩), ([.agg ⟨xB 16 0 3 0 false true 0 0 0 7 0⟩], .tuple ⟨[.string ⟨⟨[115, 7]⟩⟩, .int .i64 0]⟩), ([.agg ⟨xB 16 0 3 0 false false 0 0 0 7 0⟩], .tuple ⟨[.string ⟨⟨[15, 131, 7, 0, 0, 0]⟩⟩, .int .i64 0]⟩), ([.agg ⟨xB 16 0 4 0 false true 0 0 0 7 0⟩], .tuple ⟨[.string ⟨⟨[116, 7]⟩⟩, .int .i64 0]⟩), ([.agg ⟨xB 16 0 4 0 false false 0 0 0 7 0⟩], .tuple ⟨[.string ⟨⟨[15, 132, 7, 0, 0, 0]⟩⟩, .int .i64 0]⟩), ([.agg ⟨xB 16 0 5 0 false true 0 0 0 7 0⟩], .tuple ⟨[.string ⟨⟨[117, 7]⟩⟩, .int .i64 0]⟩), ([.agg ⟨xB 16 0 5 0 false false 0 0 0 7 0⟩], .tuple ⟨[.string ⟨⟨[15, 133, 7, 0, 0, 0]⟩⟩, .int .i64 0]⟩), ([.agg ⟨xB 16 0 6 0 false true 0 0 0 7 0⟩], .tuple ⟨[.string ⟨⟨[118, 7]⟩⟩, .int .i64 0]⟩), ([.agg ⟨xB 16 0 6 0 false false 0 0 0 7 0⟩], .tuple ⟨[.string ⟨⟨[15, 134, 7, 0, 0, 0]⟩⟩, .int .i64 0]⟩), ([.agg ⟨xB 16 0 7 0 false true 0 0 0 7 0⟩], .tuple ⟨[.string ⟨⟨[119, 7]⟩⟩, .int .i64 0]⟩), ([.agg ⟨xB 16 0 7 0 false false 0 0 0 7 0⟩], .tuple ⟨[.string ⟨⟨[15, 135, 7, 0, 0, 0]⟩⟩, .int .i64 0]⟩), ([.agg ⟨xB 16 0 12 0 false true 0 0 0 7 0⟩], .tuple ⟨[.string ⟨⟨[124, 7]⟩⟩, .int .i64 0]⟩), ([.agg ⟨xB 16 0 12 0 false false 0 0 0 7 0⟩], .tuple ⟨[.string ⟨⟨[15, 140, 7, 0, 0, 0]⟩⟩, .int .i64 0]⟩), ([.agg ⟨xB 16 0 13 0 false true 0 0 0 7 0⟩], .tuple ⟨[.string ⟨⟨[125, 7]⟩⟩, .int .i64 0]⟩), ([.agg ⟨xB 16 0 13 0 false false 0 0 0 7 0⟩], .tuple ⟨[.string ⟨⟨[15, 141, 7, 0, 0, 0]⟩⟩, .int .i64 0]⟩), ([.agg ⟨xB 16 0 14 0 false true 0 0 0 7 0⟩], .tuple ⟨[.string ⟨⟨[126, 7]⟩⟩, .int .i64 0]⟩), ([.agg ⟨xB 16 0 14 0 false false 0 0 0 7 0⟩], .tuple ⟨[.string ⟨⟨[15, 142, 7, 0, 0, 0]⟩⟩, .int .i64 0]⟩), ([.agg ⟨xB 16 0 15 0 false true 0 0 0 7 0⟩], .tuple ⟨[.string ⟨⟨[127, 7]⟩⟩, .int .i64 0]⟩), ([.agg ⟨xB 16 0 15 0 false false 0 0 0 7 0⟩], .tuple ⟨[.string ⟨⟨[15, 143, 7, 0, 0, 0]⟩⟩, .int .i64 0]⟩)]
theorem eJTab_ok : TabOk Tryz.prog h14 47 eJTab := ⟨eJ0, eJ1, eJ2, eJ3, eJ4, eJ5, eJ6, eJ7, eJ8, eJ9, eJ10, eJ11, eJ12, eJ13, eJ14, eJ15, eJ16, eJ17, eJ18, eJ19, eJ20, eJ21, eJ22, eJ23, trivial⟩
theorem vJ_abs (d m : Int) (hd : d = 1 ∨ d = 2) (w : World) (hL : Laid h14 w) : Calls Tryz.prog 49 ⟨[.agg ⟨xB 3 0 0 0 true false d 0 0 0 m⟩]⟩ w fun e w' => e = .returned (.bool true) ∧ Gr w w' := by
  rcases hd with rfl | rfl
  · exact lf14 hkN_ok (jOrc m) (cs := [(b2i (eqD (xB 3 0 0 0 true false 1 0 0 0 m) (xB 3 0 0 0 true false 1 0 0 0 m)), 1)]) (by kernel_rfl) (by kernel_rfl) (by kernel_rfl) (fun p hp => by rw [eqD_xB, List.mem_singleton] at hp; subst hp; rfl) w hL
  · exact lf14 hkN_ok (jOrc m) (cs := [(b2i (eqD (xB 3 0 0 0 true false 2 0 0 0 m) (xB 3 0 0 0 true false 2 0 0 0 m)), 1)]) (by kernel_rfl) (by kernel_rfl) (by kernel_rfl) (fun p hp => by rw [eqD_xB, List.mem_singleton] at hp; subst hp; rfl) w hL
/-- An instruction that lays a number of eight bytes into one of two registers may be. -/
def hkVa : Hook := fun f args h =>
  if Nat.beq f 49 then
    match args with
    | [.agg ⟨[.int .i64 k, .int .i64 al, .int .i64 co, .int .i64 si, .bool wi, .bool sh, .int .i64 d, .int .i64 sr, .int .i32 dp, .int .i32 re, .int .i64 m]⟩] =>
      if (k == 3 && (al == 0 && (co == 0 && (si == 0 && (wi && (!sh && ((d == 1 || d == 2) && (sr == 0 && (dp == 0 && re == 0))))))))) && hasG h14 h then some (.bool true, []) else none
    | _ => none
  else none
theorem hkVa_ok : HookOk Tryz.prog hkVa := by
  intro f args h v cs hv hc wb k s w H
  unfold hkVa at hv
  split at hv
  · rename_i hf
    obtain rfl := Nat.eq_of_beq_eq_true hf
    split at hv
    · split at hv
      · rename_i hl
        cases hv
        simp only [Bool.and_eq_true, beq_iff_eq, Bool.or_eq_true, Bool.not_eq_true'] at hl
        obtain ⟨⟨rfl, rfl, rfl, rfl, rfl, rfl, hd, rfl, rfl, rfl⟩, hg⟩ := hl
        exact vJ_abs _ _ hd w (H.laid hg (show _ = true from rfl))
      · cases hv
    · cases hv
  · cases hv
def hkVE : Hook := orHook hkVa (orHook (memoHook h14 49 vJTab) (orHook hkEncR (memoHook h14 47 eJTab)))
theorem hkVE_ok : HookOk Tryz.prog hkVE := orHook_ok hkVa_ok (orHook_ok (memoHook_ok rfl vJTab_ok) (orHook_ok hkEncR_ok (memoHook_ok rfl eJTab_ok)))
end Go.Proofs.YtpkjgcfdemnohaaGreatDoor.Ex
