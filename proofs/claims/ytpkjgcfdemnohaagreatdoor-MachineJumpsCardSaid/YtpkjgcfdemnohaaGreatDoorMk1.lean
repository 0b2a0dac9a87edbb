/-
  Layer 13: what is asked often in its examples, reckoned once.
-/
import Derived.Test.YtpkjgcfdemnohaaGreatDoorPackC
namespace Go.Proofs.YtpkjgcfdemnohaaGreatDoor.Ex
open Go Go.RowKit
set_option linter.unusedVariables false
def rencTab : Tab := [
  ([.agg ⟨[.int .i64 2, .int .i64 0, .int .i64 0, .int .i64 0, .bool true, .bool false, .int .i64 0, .int .i64 0, .int .i32 0, .int .i32 0, .int .i64 7]⟩], .tuple ⟨[.string ⟨#[72, 199, 192, 7, 0, 0, 0]⟩, .int .i64 0]⟩),
  ([.agg ⟨[.int .i64 19, .int .i64 0, .int .i64 0, .int .i64 0, .bool false, .bool false, .int .i64 0, .int .i64 0, .int .i32 0, .int .i32 0, .int .i64 0]⟩], .tuple ⟨[.string ⟨#[195]⟩, .int .i64 0]⟩),
  ([.agg ⟨[.int .i64 17, .int .i64 0, .int .i64 0, .int .i64 0, .bool false, .bool false, .int .i64 3, .int .i64 0, .int .i32 0, .int .i32 0, .int .i64 0]⟩], .tuple ⟨[.string ⟨#[83]⟩, .int .i64 0]⟩),
  ([.agg ⟨[.int .i64 18, .int .i64 0, .int .i64 0, .int .i64 0, .bool false, .bool false, .int .i64 0, .int .i64 0, .int .i32 0, .int .i32 0, .int .i64 0]⟩], .tuple ⟨[.string ⟨#[88]⟩, .int .i64 0]⟩),
  ([.agg ⟨[.int .i64 17, .int .i64 0, .int .i64 0, .int .i64 0, .bool false, .bool false, .int .i64 0, .int .i64 0, .int .i32 0, .int .i32 0, .int .i64 0]⟩], .tuple ⟨[.string ⟨#[80]⟩, .int .i64 0]⟩),
  ([.agg ⟨[.int .i64 13, .int .i64 0, .int .i64 0, .int .i64 8, .bool true, .bool false, .int .i64 0, .int .i64 3, .int .i32 0, .int .i32 0, .int .i64 0]⟩], .tuple ⟨[.string ⟨#[72, 139, 131, 0, 0, 0, 0]⟩, .int .i64 0]⟩),
  ([.agg ⟨[.int .i64 15, .int .i64 0, .int .i64 0, .int .i64 0, .bool false, .bool true, .int .i64 0, .int .i64 0, .int .i32 0, .int .i32 (-2), .int .i64 0]⟩], .tuple ⟨[.string ⟨#[235, 254]⟩, .int .i64 0]⟩),
  ([.agg ⟨[.int .i64 20, .int .i64 0, .int .i64 0, .int .i64 0, .bool false, .bool false, .int .i64 0, .int .i64 0, .int .i32 0, .int .i32 4194306, .int .i64 0]⟩], .tuple ⟨[.string ⟨#[232, 2, 0, 64, 0]⟩, .int .i64 0]⟩)]
set_option maxHeartbeats 0 in
set_option maxRecDepth 1000000 in
theorem rencTab_0 (w : World) (hL : Laid h14 w) : Calls Tryz.prog 47 ⟨[.agg ⟨[.int .i64 2, .int .i64 0, .int .i64 0, .int .i64 0, .bool true, .bool false, .int .i64 0, .int .i64 0, .int .i32 0, .int .i32 0, .int .i64 7]⟩]⟩ w fun e w' => e = .returned (.tuple ⟨[.string ⟨#[72, 199, 192, 7, 0, 0, 0]⟩, .int .i64 0]⟩) ∧ Gr w w' :=
  reckonG_ok noNG (noHook_ok _) 100000 300 h14 rfl rfl (by kernel_rfl) w hL
set_option maxHeartbeats 0 in
set_option maxRecDepth 1000000 in
theorem rencTab_1 (w : World) (hL : Laid h14 w) : Calls Tryz.prog 47 ⟨[.agg ⟨[.int .i64 19, .int .i64 0, .int .i64 0, .int .i64 0, .bool false, .bool false, .int .i64 0, .int .i64 0, .int .i32 0, .int .i32 0, .int .i64 0]⟩]⟩ w fun e w' => e = .returned (.tuple ⟨[.string ⟨#[195]⟩, .int .i64 0]⟩) ∧ Gr w w' :=
  reckonG_ok noNG (noHook_ok _) 100000 300 h14 rfl rfl (by kernel_rfl) w hL
set_option maxHeartbeats 0 in
set_option maxRecDepth 1000000 in
theorem rencTab_2 (w : World) (hL : Laid h14 w) : Calls Tryz.prog 47 ⟨[.agg ⟨[.int .i64 17, .int .i64 0, .int .i64 0, .int .i64 0, .bool false, .bool false, .int .i64 3, .int .i64 0, .int .i32 0, .int .i32 0, .int .i64 0]⟩]⟩ w fun e w' => e = .returned (.tuple ⟨[.string ⟨#[83]⟩, .int .i64 0]⟩) ∧ Gr w w' :=
  reckonG_ok noNG (noHook_ok _) 100000 300 h14 rfl rfl (by kernel_rfl) w hL
set_option maxHeartbeats 0 in
set_option maxRecDepth 1000000 in
theorem rencTab_3 (w : World) (hL : Laid h14 w) : Calls Tryz.prog 47 ⟨[.agg ⟨[.int .i64 18, .int .i64 0, .int .i64 0, .int .i64 0, .bool false, .bool false, .int .i64 0, .int .i64 0, .int .i32 0, .int .i32 0, .int .i64 0]⟩]⟩ w fun e w' => e = .returned (.tuple ⟨[.string ⟨#[88]⟩, .int .i64 0]⟩) ∧ Gr w w' :=
  reckonG_ok noNG (noHook_ok _) 100000 300 h14 rfl rfl (by kernel_rfl) w hL
set_option maxHeartbeats 0 in
set_option maxRecDepth 1000000 in
theorem rencTab_4 (w : World) (hL : Laid h14 w) : Calls Tryz.prog 47 ⟨[.agg ⟨[.int .i64 17, .int .i64 0, .int .i64 0, .int .i64 0, .bool false, .bool false, .int .i64 0, .int .i64 0, .int .i32 0, .int .i32 0, .int .i64 0]⟩]⟩ w fun e w' => e = .returned (.tuple ⟨[.string ⟨#[80]⟩, .int .i64 0]⟩) ∧ Gr w w' :=
  reckonG_ok noNG (noHook_ok _) 100000 300 h14 rfl rfl (by kernel_rfl) w hL
set_option maxHeartbeats 0 in
set_option maxRecDepth 1000000 in
theorem rencTab_5 (w : World) (hL : Laid h14 w) : Calls Tryz.prog 47 ⟨[.agg ⟨[.int .i64 13, .int .i64 0, .int .i64 0, .int .i64 8, .bool true, .bool false, .int .i64 0, .int .i64 3, .int .i32 0, .int .i32 0, .int .i64 0]⟩]⟩ w fun e w' => e = .returned (.tuple ⟨[.string ⟨#[72, 139, 131, 0, 0, 0, 0]⟩, .int .i64 0]⟩) ∧ Gr w w' :=
  reckonG_ok noNG (noHook_ok _) 100000 300 h14 rfl rfl (by kernel_rfl) w hL
set_option maxHeartbeats 0 in
set_option maxRecDepth 1000000 in
theorem rencTab_6 (w : World) (hL : Laid h14 w) : Calls Tryz.prog 47 ⟨[.agg ⟨[.int .i64 15, .int .i64 0, .int .i64 0, .int .i64 0, .bool false, .bool true, .int .i64 0, .int .i64 0, .int .i32 0, .int .i32 (-2), .int .i64 0]⟩]⟩ w fun e w' => e = .returned (.tuple ⟨[.string ⟨#[235, 254]⟩, .int .i64 0]⟩) ∧ Gr w w' :=
  reckonG_ok noNG (noHook_ok _) 100000 300 h14 rfl rfl (by kernel_rfl) w hL
set_option maxHeartbeats 0 in
set_option maxRecDepth 1000000 in
theorem rencTab_7 (w : World) (hL : Laid h14 w) : Calls Tryz.prog 47 ⟨[.agg ⟨[.int .i64 20, .int .i64 0, .int .i64 0, .int .i64 0, .bool false, .bool false, .int .i64 0, .int .i64 0, .int .i32 0, .int .i32 4194306, .int .i64 0]⟩]⟩ w fun e w' => e = .returned (.tuple ⟨[.string ⟨#[232, 2, 0, 64, 0]⟩, .int .i64 0]⟩) ∧ Gr w w' :=
  reckonG_ok noNG (noHook_ok _) 100000 300 h14 rfl rfl (by kernel_rfl) w hL
theorem rencTab_ok : TabOk Tryz.prog h14 47 rencTab :=
  ⟨rencTab_0, rencTab_1, rencTab_2, rencTab_3, rencTab_4, rencTab_5, rencTab_6, rencTab_7, trivial⟩
def valTab : Tab := [
  ([.agg ⟨[.int .i64 2, .int .i64 0, .int .i64 0, .int .i64 0, .bool true, .bool false, .int .i64 0, .int .i64 0, .int .i32 0, .int .i32 0, .int .i64 7]⟩], .bool true),
  ([.agg ⟨[.int .i64 19, .int .i64 0, .int .i64 0, .int .i64 0, .bool false, .bool false, .int .i64 0, .int .i64 0, .int .i32 0, .int .i32 0, .int .i64 0]⟩], .bool true),
  ([.agg ⟨[.int .i64 17, .int .i64 0, .int .i64 0, .int .i64 0, .bool false, .bool false, .int .i64 3, .int .i64 0, .int .i32 0, .int .i32 0, .int .i64 0]⟩], .bool true),
  ([.agg ⟨[.int .i64 18, .int .i64 0, .int .i64 0, .int .i64 0, .bool false, .bool false, .int .i64 0, .int .i64 0, .int .i32 0, .int .i32 0, .int .i64 0]⟩], .bool true),
  ([.agg ⟨[.int .i64 17, .int .i64 0, .int .i64 0, .int .i64 0, .bool false, .bool false, .int .i64 0, .int .i64 0, .int .i32 0, .int .i32 0, .int .i64 0]⟩], .bool true),
  ([.agg ⟨[.int .i64 13, .int .i64 0, .int .i64 0, .int .i64 8, .bool true, .bool false, .int .i64 0, .int .i64 3, .int .i32 0, .int .i32 0, .int .i64 0]⟩], .bool true),
  ([.agg ⟨[.int .i64 15, .int .i64 0, .int .i64 0, .int .i64 0, .bool false, .bool true, .int .i64 0, .int .i64 0, .int .i32 0, .int .i32 (-2), .int .i64 0]⟩], .bool true),
  ([.agg ⟨[.int .i64 20, .int .i64 0, .int .i64 0, .int .i64 0, .bool false, .bool false, .int .i64 0, .int .i64 0, .int .i32 0, .int .i32 4194306, .int .i64 0]⟩], .bool true)]
set_option maxHeartbeats 0 in
set_option maxRecDepth 1000000 in
theorem valTab_0 (w : World) (hL : Laid h14 w) : Calls Tryz.prog 49 ⟨[.agg ⟨[.int .i64 2, .int .i64 0, .int .i64 0, .int .i64 0, .bool true, .bool false, .int .i64 0, .int .i64 0, .int .i32 0, .int .i32 0, .int .i64 7]⟩]⟩ w fun e w' => e = .returned (.bool true) ∧ Gr w w' :=
  reckonG_ok noNG (noHook_ok _) 100000 300 h14 rfl rfl (by kernel_rfl) w hL
set_option maxHeartbeats 0 in
set_option maxRecDepth 1000000 in
theorem valTab_1 (w : World) (hL : Laid h14 w) : Calls Tryz.prog 49 ⟨[.agg ⟨[.int .i64 19, .int .i64 0, .int .i64 0, .int .i64 0, .bool false, .bool false, .int .i64 0, .int .i64 0, .int .i32 0, .int .i32 0, .int .i64 0]⟩]⟩ w fun e w' => e = .returned (.bool true) ∧ Gr w w' :=
  reckonG_ok noNG (noHook_ok _) 100000 300 h14 rfl rfl (by kernel_rfl) w hL
set_option maxHeartbeats 0 in
set_option maxRecDepth 1000000 in
theorem valTab_2 (w : World) (hL : Laid h14 w) : Calls Tryz.prog 49 ⟨[.agg ⟨[.int .i64 17, .int .i64 0, .int .i64 0, .int .i64 0, .bool false, .bool false, .int .i64 3, .int .i64 0, .int .i32 0, .int .i32 0, .int .i64 0]⟩]⟩ w fun e w' => e = .returned (.bool true) ∧ Gr w w' :=
  reckonG_ok noNG (noHook_ok _) 100000 300 h14 rfl rfl (by kernel_rfl) w hL
set_option maxHeartbeats 0 in
set_option maxRecDepth 1000000 in
theorem valTab_3 (w : World) (hL : Laid h14 w) : Calls Tryz.prog 49 ⟨[.agg ⟨[.int .i64 18, .int .i64 0, .int .i64 0, .int .i64 0, .bool false, .bool false, .int .i64 0, .int .i64 0, .int .i32 0, .int .i32 0, .int .i64 0]⟩]⟩ w fun e w' => e = .returned (.bool true) ∧ Gr w w' :=
  reckonG_ok noNG (noHook_ok _) 100000 300 h14 rfl rfl (by kernel_rfl) w hL
set_option maxHeartbeats 0 in
set_option maxRecDepth 1000000 in
theorem valTab_4 (w : World) (hL : Laid h14 w) : Calls Tryz.prog 49 ⟨[.agg ⟨[.int .i64 17, .int .i64 0, .int .i64 0, .int .i64 0, .bool false, .bool false, .int .i64 0, .int .i64 0, .int .i32 0, .int .i32 0, .int .i64 0]⟩]⟩ w fun e w' => e = .returned (.bool true) ∧ Gr w w' :=
  reckonG_ok noNG (noHook_ok _) 100000 300 h14 rfl rfl (by kernel_rfl) w hL
set_option maxHeartbeats 0 in
set_option maxRecDepth 1000000 in
theorem valTab_5 (w : World) (hL : Laid h14 w) : Calls Tryz.prog 49 ⟨[.agg ⟨[.int .i64 13, .int .i64 0, .int .i64 0, .int .i64 8, .bool true, .bool false, .int .i64 0, .int .i64 3, .int .i32 0, .int .i32 0, .int .i64 0]⟩]⟩ w fun e w' => e = .returned (.bool true) ∧ Gr w w' :=
  reckonG_ok noNG (noHook_ok _) 100000 300 h14 rfl rfl (by kernel_rfl) w hL
set_option maxHeartbeats 0 in
set_option maxRecDepth 1000000 in
theorem valTab_6 (w : World) (hL : Laid h14 w) : Calls Tryz.prog 49 ⟨[.agg ⟨[.int .i64 15, .int .i64 0, .int .i64 0, .int .i64 0, .bool false, .bool true, .int .i64 0, .int .i64 0, .int .i32 0, .int .i32 (-2), .int .i64 0]⟩]⟩ w fun e w' => e = .returned (.bool true) ∧ Gr w w' :=
  reckonG_ok noNG (noHook_ok _) 100000 300 h14 rfl rfl (by kernel_rfl) w hL
set_option maxHeartbeats 0 in
set_option maxRecDepth 1000000 in
theorem valTab_7 (w : World) (hL : Laid h14 w) : Calls Tryz.prog 49 ⟨[.agg ⟨[.int .i64 20, .int .i64 0, .int .i64 0, .int .i64 0, .bool false, .bool false, .int .i64 0, .int .i64 0, .int .i32 0, .int .i32 4194306, .int .i64 0]⟩]⟩ w fun e w' => e = .returned (.bool true) ∧ Gr w w' :=
  reckonG_ok noNG (noHook_ok _) 100000 300 h14 rfl rfl (by kernel_rfl) w hL
theorem valTab_ok : TabOk Tryz.prog h14 49 valTab :=
  ⟨valTab_0, valTab_1, valTab_2, valTab_3, valTab_4, valTab_5, valTab_6, valTab_7, trivial⟩
def putTab : Tab := [
  ([.agg ⟨[.int .i64 2, .int .i64 0, .int .i64 0, .int .i64 0, .bool true, .bool false, .int .i64 0, .int .i64 0, .int .i32 0, .int .i32 0, .int .i64 7]⟩], .agg ⟨[.int .i64 2, .int .i64 0, .int .i64 0, .int .i64 0, .bool true, .bool false, .int .i64 0, .int .i64 0, .int .i32 0, .int .i32 0, .int .i64 7]⟩),
  ([.agg ⟨[.int .i64 19, .int .i64 0, .int .i64 0, .int .i64 0, .bool false, .bool false, .int .i64 0, .int .i64 0, .int .i32 0, .int .i32 0, .int .i64 0]⟩], .agg ⟨[.int .i64 19, .int .i64 0, .int .i64 0, .int .i64 0, .bool false, .bool false, .int .i64 0, .int .i64 0, .int .i32 0, .int .i32 0, .int .i64 0]⟩),
  ([.agg ⟨[.int .i64 17, .int .i64 0, .int .i64 0, .int .i64 0, .bool false, .bool false, .int .i64 3, .int .i64 0, .int .i32 0, .int .i32 0, .int .i64 0]⟩], .agg ⟨[.int .i64 17, .int .i64 0, .int .i64 0, .int .i64 0, .bool false, .bool false, .int .i64 3, .int .i64 0, .int .i32 0, .int .i32 0, .int .i64 0]⟩),
  ([.agg ⟨[.int .i64 18, .int .i64 0, .int .i64 0, .int .i64 0, .bool false, .bool false, .int .i64 0, .int .i64 0, .int .i32 0, .int .i32 0, .int .i64 0]⟩], .agg ⟨[.int .i64 18, .int .i64 0, .int .i64 0, .int .i64 0, .bool false, .bool false, .int .i64 0, .int .i64 0, .int .i32 0, .int .i32 0, .int .i64 0]⟩),
  ([.agg ⟨[.int .i64 17, .int .i64 0, .int .i64 0, .int .i64 0, .bool false, .bool false, .int .i64 0, .int .i64 0, .int .i32 0, .int .i32 0, .int .i64 0]⟩], .agg ⟨[.int .i64 17, .int .i64 0, .int .i64 0, .int .i64 0, .bool false, .bool false, .int .i64 0, .int .i64 0, .int .i32 0, .int .i32 0, .int .i64 0]⟩),
  ([.agg ⟨[.int .i64 13, .int .i64 0, .int .i64 0, .int .i64 3, .bool false, .bool false, .int .i64 0, .int .i64 3, .int .i32 0, .int .i32 0, .int .i64 0]⟩], .agg ⟨[.int .i64 13, .int .i64 0, .int .i64 0, .int .i64 8, .bool true, .bool false, .int .i64 0, .int .i64 3, .int .i32 0, .int .i32 0, .int .i64 0]⟩),
  ([.agg ⟨[.int .i64 15, .int .i64 0, .int .i64 0, .int .i64 0, .bool false, .bool true, .int .i64 0, .int .i64 0, .int .i32 0, .int .i32 (-2), .int .i64 0]⟩], .agg ⟨[.int .i64 15, .int .i64 0, .int .i64 0, .int .i64 0, .bool false, .bool true, .int .i64 0, .int .i64 0, .int .i32 0, .int .i32 (-2), .int .i64 0]⟩),
  ([.agg ⟨[.int .i64 20, .int .i64 0, .int .i64 0, .int .i64 0, .bool false, .bool false, .int .i64 0, .int .i64 0, .int .i32 0, .int .i32 4194306, .int .i64 0]⟩], .agg ⟨[.int .i64 20, .int .i64 0, .int .i64 0, .int .i64 0, .bool false, .bool false, .int .i64 0, .int .i64 0, .int .i32 0, .int .i32 4194306, .int .i64 0]⟩)]
set_option maxHeartbeats 0 in
set_option maxRecDepth 1000000 in
theorem putTab_0 (w : World) (hL : Laid h14 w) : Calls Tryz.prog 48 ⟨[.agg ⟨[.int .i64 2, .int .i64 0, .int .i64 0, .int .i64 0, .bool true, .bool false, .int .i64 0, .int .i64 0, .int .i32 0, .int .i32 0, .int .i64 7]⟩]⟩ w fun e w' => e = .returned (.agg ⟨[.int .i64 2, .int .i64 0, .int .i64 0, .int .i64 0, .bool true, .bool false, .int .i64 0, .int .i64 0, .int .i32 0, .int .i32 0, .int .i64 7]⟩) ∧ Gr w w' :=
  reckonG_ok noNG (noHook_ok _) 100000 300 h14 rfl rfl (by kernel_rfl) w hL
set_option maxHeartbeats 0 in
set_option maxRecDepth 1000000 in
theorem putTab_1 (w : World) (hL : Laid h14 w) : Calls Tryz.prog 48 ⟨[.agg ⟨[.int .i64 19, .int .i64 0, .int .i64 0, .int .i64 0, .bool false, .bool false, .int .i64 0, .int .i64 0, .int .i32 0, .int .i32 0, .int .i64 0]⟩]⟩ w fun e w' => e = .returned (.agg ⟨[.int .i64 19, .int .i64 0, .int .i64 0, .int .i64 0, .bool false, .bool false, .int .i64 0, .int .i64 0, .int .i32 0, .int .i32 0, .int .i64 0]⟩) ∧ Gr w w' :=
  reckonG_ok noNG (noHook_ok _) 100000 300 h14 rfl rfl (by kernel_rfl) w hL
set_option maxHeartbeats 0 in
set_option maxRecDepth 1000000 in
theorem putTab_2 (w : World) (hL : Laid h14 w) : Calls Tryz.prog 48 ⟨[.agg ⟨[.int .i64 17, .int .i64 0, .int .i64 0, .int .i64 0, .bool false, .bool false, .int .i64 3, .int .i64 0, .int .i32 0, .int .i32 0, .int .i64 0]⟩]⟩ w fun e w' => e = .returned (.agg ⟨[.int .i64 17, .int .i64 0, .int .i64 0, .int .i64 0, .bool false, .bool false, .int .i64 3, .int .i64 0, .int .i32 0, .int .i32 0, .int .i64 0]⟩) ∧ Gr w w' :=
  reckonG_ok noNG (noHook_ok _) 100000 300 h14 rfl rfl (by kernel_rfl) w hL
set_option maxHeartbeats 0 in
set_option maxRecDepth 1000000 in
theorem putTab_3 (w : World) (hL : Laid h14 w) : Calls Tryz.prog 48 ⟨[.agg ⟨[.int .i64 18, .int .i64 0, .int .i64 0, .int .i64 0, .bool false, .bool false, .int .i64 0, .int .i64 0, .int .i32 0, .int .i32 0, .int .i64 0]⟩]⟩ w fun e w' => e = .returned (.agg ⟨[.int .i64 18, .int .i64 0, .int .i64 0, .int .i64 0, .bool false, .bool false, .int .i64 0, .int .i64 0, .int .i32 0, .int .i32 0, .int .i64 0]⟩) ∧ Gr w w' :=
  reckonG_ok noNG (noHook_ok _) 100000 300 h14 rfl rfl (by kernel_rfl) w hL
set_option maxHeartbeats 0 in
set_option maxRecDepth 1000000 in
theorem putTab_4 (w : World) (hL : Laid h14 w) : Calls Tryz.prog 48 ⟨[.agg ⟨[.int .i64 17, .int .i64 0, .int .i64 0, .int .i64 0, .bool false, .bool false, .int .i64 0, .int .i64 0, .int .i32 0, .int .i32 0, .int .i64 0]⟩]⟩ w fun e w' => e = .returned (.agg ⟨[.int .i64 17, .int .i64 0, .int .i64 0, .int .i64 0, .bool false, .bool false, .int .i64 0, .int .i64 0, .int .i32 0, .int .i32 0, .int .i64 0]⟩) ∧ Gr w w' :=
  reckonG_ok noNG (noHook_ok _) 100000 300 h14 rfl rfl (by kernel_rfl) w hL
set_option maxHeartbeats 0 in
set_option maxRecDepth 1000000 in
theorem putTab_5 (w : World) (hL : Laid h14 w) : Calls Tryz.prog 48 ⟨[.agg ⟨[.int .i64 13, .int .i64 0, .int .i64 0, .int .i64 3, .bool false, .bool false, .int .i64 0, .int .i64 3, .int .i32 0, .int .i32 0, .int .i64 0]⟩]⟩ w fun e w' => e = .returned (.agg ⟨[.int .i64 13, .int .i64 0, .int .i64 0, .int .i64 8, .bool true, .bool false, .int .i64 0, .int .i64 3, .int .i32 0, .int .i32 0, .int .i64 0]⟩) ∧ Gr w w' :=
  reckonG_ok noNG (noHook_ok _) 100000 300 h14 rfl rfl (by kernel_rfl) w hL
set_option maxHeartbeats 0 in
set_option maxRecDepth 1000000 in
theorem putTab_6 (w : World) (hL : Laid h14 w) : Calls Tryz.prog 48 ⟨[.agg ⟨[.int .i64 15, .int .i64 0, .int .i64 0, .int .i64 0, .bool false, .bool true, .int .i64 0, .int .i64 0, .int .i32 0, .int .i32 (-2), .int .i64 0]⟩]⟩ w fun e w' => e = .returned (.agg ⟨[.int .i64 15, .int .i64 0, .int .i64 0, .int .i64 0, .bool false, .bool true, .int .i64 0, .int .i64 0, .int .i32 0, .int .i32 (-2), .int .i64 0]⟩) ∧ Gr w w' :=
  reckonG_ok noNG (noHook_ok _) 100000 300 h14 rfl rfl (by kernel_rfl) w hL
set_option maxHeartbeats 0 in
set_option maxRecDepth 1000000 in
theorem putTab_7 (w : World) (hL : Laid h14 w) : Calls Tryz.prog 48 ⟨[.agg ⟨[.int .i64 20, .int .i64 0, .int .i64 0, .int .i64 0, .bool false, .bool false, .int .i64 0, .int .i64 0, .int .i32 0, .int .i32 4194306, .int .i64 0]⟩]⟩ w fun e w' => e = .returned (.agg ⟨[.int .i64 20, .int .i64 0, .int .i64 0, .int .i64 0, .bool false, .bool false, .int .i64 0, .int .i64 0, .int .i32 0, .int .i32 4194306, .int .i64 0]⟩) ∧ Gr w w' :=
  reckonG_ok noNG (noHook_ok _) 100000 300 h14 rfl rfl (by kernel_rfl) w hL
theorem putTab_ok : TabOk Tryz.prog h14 48 putTab :=
  ⟨putTab_0, putTab_1, putTab_2, putTab_3, putTab_4, putTab_5, putTab_6, putTab_7, trivial⟩
def wrdTab : Tab := [
  ([.int .u64 196608], .string ⟨#[0, 0, 3, 0, 0, 0, 0, 0]⟩),
  ([.int .u64 0], .string ⟨#[0, 0, 0, 0, 0, 0, 0, 0]⟩)]
set_option maxHeartbeats 0 in
set_option maxRecDepth 1000000 in
theorem wrdTab_0 (w : World) (hL : Laid h14 w) : Calls Tryz.prog 76 ⟨[.int .u64 196608]⟩ w fun e w' => e = .returned (.string ⟨#[0, 0, 3, 0, 0, 0, 0, 0]⟩) ∧ Gr w w' :=
  reckonG_ok noNG (noHook_ok _) 100000 300 h14 rfl rfl (by kernel_rfl) w hL
set_option maxHeartbeats 0 in
set_option maxRecDepth 1000000 in
theorem wrdTab_1 (w : World) (hL : Laid h14 w) : Calls Tryz.prog 76 ⟨[.int .u64 0]⟩ w fun e w' => e = .returned (.string ⟨#[0, 0, 0, 0, 0, 0, 0, 0]⟩) ∧ Gr w w' :=
  reckonG_ok noNG (noHook_ok _) 100000 300 h14 rfl rfl (by kernel_rfl) w hL
theorem wrdTab_ok : TabOk Tryz.prog h14 76 wrdTab :=
  ⟨wrdTab_0, wrdTab_1, trivial⟩
def exeTab : Tab := [
  ([.agg ⟨[.int .i64 2, .int .i64 0, .int .i64 0, .int .i64 0, .bool true, .bool false, .int .i64 0, .int .i64 0, .int .i32 0, .int .i32 0, .int .i64 7]⟩, .agg ⟨[.int .u64 0, .int .u64 0, .int .u64 0, .int .u64 0, .int .u64 262264, .int .u64 0, .int .u64 0, .int .u64 0, .int .u64 0, .int .u64 0, .int .u64 0, .int .u64 0, .int .u64 0, .int .u64 0, .int .u64 0, .int .u64 0, .bool false, .bool false, .bool false, .bool false, .int .u64 4194311]⟩], .tuple ⟨[.agg ⟨[.int .u64 7, .int .u64 0, .int .u64 0, .int .u64 0, .int .u64 262264, .int .u64 0, .int .u64 0, .int .u64 0, .int .u64 0, .int .u64 0, .int .u64 0, .int .u64 0, .int .u64 0, .int .u64 0, .int .u64 0, .int .u64 0, .bool false, .bool false, .bool false, .bool false, .int .u64 4194311]⟩, .int .i64 0]⟩)]
set_option maxHeartbeats 0 in
set_option maxRecDepth 1000000 in
theorem exeTab_0 (w : World) (hL : Laid h14 w) : Calls Tryz.prog 17 ⟨[.agg ⟨[.int .i64 2, .int .i64 0, .int .i64 0, .int .i64 0, .bool true, .bool false, .int .i64 0, .int .i64 0, .int .i32 0, .int .i32 0, .int .i64 7]⟩, .agg ⟨[.int .u64 0, .int .u64 0, .int .u64 0, .int .u64 0, .int .u64 262264, .int .u64 0, .int .u64 0, .int .u64 0, .int .u64 0, .int .u64 0, .int .u64 0, .int .u64 0, .int .u64 0, .int .u64 0, .int .u64 0, .int .u64 0, .bool false, .bool false, .bool false, .bool false, .int .u64 4194311]⟩]⟩ w fun e w' => e = .returned (.tuple ⟨[.agg ⟨[.int .u64 7, .int .u64 0, .int .u64 0, .int .u64 0, .int .u64 262264, .int .u64 0, .int .u64 0, .int .u64 0, .int .u64 0, .int .u64 0, .int .u64 0, .int .u64 0, .int .u64 0, .int .u64 0, .int .u64 0, .int .u64 0, .bool false, .bool false, .bool false, .bool false, .int .u64 4194311]⟩, .int .i64 0]⟩) ∧ Gr w w' :=
  reckonG_ok noNG (noHook_ok _) 100000 300 h14 rfl rfl (by kernel_rfl) w hL
theorem exeTab_ok : TabOk Tryz.prog h14 17 exeTab :=
  ⟨exeTab_0, trivial⟩
def fetTab : Tab := [
  ([.string ⟨#[72, 199, 192, 7, 0, 0, 0, 195]⟩, .int .u64 4194304], .tuple ⟨[.agg ⟨[.int .i64 2, .int .i64 0, .int .i64 0, .int .i64 0, .bool true, .bool false, .int .i64 0, .int .i64 0, .int .i32 0, .int .i32 0, .int .i64 7]⟩, .int .u64 4194311, .int .i64 0]⟩),
  ([.string ⟨#[72, 199, 192, 7, 0, 0, 0, 195]⟩, .int .u64 4194311], .tuple ⟨[.agg ⟨[.int .i64 19, .int .i64 0, .int .i64 0, .int .i64 0, .bool false, .bool false, .int .i64 0, .int .i64 0, .int .i32 0, .int .i32 0, .int .i64 0]⟩, .int .u64 4194312, .int .i64 0]⟩),
  ([.string ⟨#[83, 88, 195]⟩, .int .u64 4194304], .tuple ⟨[.agg ⟨[.int .i64 17, .int .i64 0, .int .i64 0, .int .i64 0, .bool false, .bool false, .int .i64 3, .int .i64 0, .int .i32 0, .int .i32 0, .int .i64 0]⟩, .int .u64 4194305, .int .i64 0]⟩),
  ([.string ⟨#[83, 88, 195]⟩, .int .u64 4194305], .tuple ⟨[.agg ⟨[.int .i64 18, .int .i64 0, .int .i64 0, .int .i64 0, .bool false, .bool false, .int .i64 0, .int .i64 0, .int .i32 0, .int .i32 0, .int .i64 0]⟩, .int .u64 4194306, .int .i64 0]⟩),
  ([.string ⟨#[83, 88, 195]⟩, .int .u64 4194306], .tuple ⟨[.agg ⟨[.int .i64 19, .int .i64 0, .int .i64 0, .int .i64 0, .bool false, .bool false, .int .i64 0, .int .i64 0, .int .i32 0, .int .i32 0, .int .i64 0]⟩, .int .u64 4194307, .int .i64 0]⟩),
  ([.string ⟨#[80, 195]⟩, .int .u64 4194304], .tuple ⟨[.agg ⟨[.int .i64 17, .int .i64 0, .int .i64 0, .int .i64 0, .bool false, .bool false, .int .i64 0, .int .i64 0, .int .i32 0, .int .i32 0, .int .i64 0]⟩, .int .u64 4194305, .int .i64 0]⟩),
  ([.string ⟨#[80, 195]⟩, .int .u64 4194305], .tuple ⟨[.agg ⟨[.int .i64 19, .int .i64 0, .int .i64 0, .int .i64 0, .bool false, .bool false, .int .i64 0, .int .i64 0, .int .i32 0, .int .i32 0, .int .i64 0]⟩, .int .u64 4194306, .int .i64 0]⟩),
  ([.string ⟨#[80, 195]⟩, .int .u64 0], .tuple ⟨[.agg ⟨[.int .i64 0, .int .i64 0, .int .i64 0, .int .i64 0, .bool false, .bool false, .int .i64 0, .int .i64 0, .int .i32 0, .int .i32 0, .int .i64 0]⟩, .int .u64 0, .int .i64 110]⟩),
  ([.string ⟨#[72, 139, 131, 0, 0, 0, 0, 195]⟩, .int .u64 4194304], .tuple ⟨[.agg ⟨[.int .i64 13, .int .i64 0, .int .i64 0, .int .i64 8, .bool true, .bool false, .int .i64 0, .int .i64 3, .int .i32 0, .int .i32 0, .int .i64 0]⟩, .int .u64 4194311, .int .i64 0]⟩),
  ([.string ⟨#[235, 254]⟩, .int .u64 4194304], .tuple ⟨[.agg ⟨[.int .i64 15, .int .i64 0, .int .i64 0, .int .i64 0, .bool false, .bool true, .int .i64 0, .int .i64 0, .int .i32 0, .int .i32 (-2), .int .i64 0]⟩, .int .u64 4194306, .int .i64 0]⟩),
  ([.string ⟨#[]⟩, .int .u64 4194304], .tuple ⟨[.agg ⟨[.int .i64 0, .int .i64 0, .int .i64 0, .int .i64 0, .bool false, .bool false, .int .i64 0, .int .i64 0, .int .i32 0, .int .i32 0, .int .i64 0]⟩, .int .u64 0, .int .i64 110]⟩),
  ([.string ⟨#[232, 2, 0, 64, 0, 195]⟩, .int .u64 4194304], .tuple ⟨[.agg ⟨[.int .i64 20, .int .i64 0, .int .i64 0, .int .i64 0, .bool false, .bool false, .int .i64 0, .int .i64 0, .int .i32 0, .int .i32 4194306, .int .i64 0]⟩, .int .u64 4194309, .int .i64 0]⟩),
  ([.string ⟨#[232, 2, 0, 64, 0, 195]⟩, .int .u64 4194309], .tuple ⟨[.agg ⟨[.int .i64 19, .int .i64 0, .int .i64 0, .int .i64 0, .bool false, .bool false, .int .i64 0, .int .i64 0, .int .i32 0, .int .i32 0, .int .i64 0]⟩, .int .u64 4194310, .int .i64 0]⟩)]
set_option maxHeartbeats 0 in
set_option maxRecDepth 1000000 in
theorem fetTab_0 (w : World) (hL : Laid h14 w) : Calls Tryz.prog 59 ⟨[.string ⟨#[72, 199, 192, 7, 0, 0, 0, 195]⟩, .int .u64 4194304]⟩ w fun e w' => e = .returned (.tuple ⟨[.agg ⟨[.int .i64 2, .int .i64 0, .int .i64 0, .int .i64 0, .bool true, .bool false, .int .i64 0, .int .i64 0, .int .i32 0, .int .i32 0, .int .i64 7]⟩, .int .u64 4194311, .int .i64 0]⟩) ∧ Gr w w' :=
  reckonG_ok noNG (noHook_ok _) 100000 300 h14 rfl rfl (by kernel_rfl) w hL
set_option maxHeartbeats 0 in
set_option maxRecDepth 1000000 in
theorem fetTab_1 (w : World) (hL : Laid h14 w) : Calls Tryz.prog 59 ⟨[.string ⟨#[72, 199, 192, 7, 0, 0, 0, 195]⟩, .int .u64 4194311]⟩ w fun e w' => e = .returned (.tuple ⟨[.agg ⟨[.int .i64 19, .int .i64 0, .int .i64 0, .int .i64 0, .bool false, .bool false, .int .i64 0, .int .i64 0, .int .i32 0, .int .i32 0, .int .i64 0]⟩, .int .u64 4194312, .int .i64 0]⟩) ∧ Gr w w' :=
  reckonG_ok noNG (noHook_ok _) 100000 300 h14 rfl rfl (by kernel_rfl) w hL
set_option maxHeartbeats 0 in
set_option maxRecDepth 1000000 in
theorem fetTab_2 (w : World) (hL : Laid h14 w) : Calls Tryz.prog 59 ⟨[.string ⟨#[83, 88, 195]⟩, .int .u64 4194304]⟩ w fun e w' => e = .returned (.tuple ⟨[.agg ⟨[.int .i64 17, .int .i64 0, .int .i64 0, .int .i64 0, .bool false, .bool false, .int .i64 3, .int .i64 0, .int .i32 0, .int .i32 0, .int .i64 0]⟩, .int .u64 4194305, .int .i64 0]⟩) ∧ Gr w w' :=
  reckonG_ok noNG (noHook_ok _) 100000 300 h14 rfl rfl (by kernel_rfl) w hL
set_option maxHeartbeats 0 in
set_option maxRecDepth 1000000 in
theorem fetTab_3 (w : World) (hL : Laid h14 w) : Calls Tryz.prog 59 ⟨[.string ⟨#[83, 88, 195]⟩, .int .u64 4194305]⟩ w fun e w' => e = .returned (.tuple ⟨[.agg ⟨[.int .i64 18, .int .i64 0, .int .i64 0, .int .i64 0, .bool false, .bool false, .int .i64 0, .int .i64 0, .int .i32 0, .int .i32 0, .int .i64 0]⟩, .int .u64 4194306, .int .i64 0]⟩) ∧ Gr w w' :=
  reckonG_ok noNG (noHook_ok _) 100000 300 h14 rfl rfl (by kernel_rfl) w hL
set_option maxHeartbeats 0 in
set_option maxRecDepth 1000000 in
theorem fetTab_4 (w : World) (hL : Laid h14 w) : Calls Tryz.prog 59 ⟨[.string ⟨#[83, 88, 195]⟩, .int .u64 4194306]⟩ w fun e w' => e = .returned (.tuple ⟨[.agg ⟨[.int .i64 19, .int .i64 0, .int .i64 0, .int .i64 0, .bool false, .bool false, .int .i64 0, .int .i64 0, .int .i32 0, .int .i32 0, .int .i64 0]⟩, .int .u64 4194307, .int .i64 0]⟩) ∧ Gr w w' :=
  reckonG_ok noNG (noHook_ok _) 100000 300 h14 rfl rfl (by kernel_rfl) w hL
set_option maxHeartbeats 0 in
set_option maxRecDepth 1000000 in
theorem fetTab_5 (w : World) (hL : Laid h14 w) : Calls Tryz.prog 59 ⟨[.string ⟨#[80, 195]⟩, .int .u64 4194304]⟩ w fun e w' => e = .returned (.tuple ⟨[.agg ⟨[.int .i64 17, .int .i64 0, .int .i64 0, .int .i64 0, .bool false, .bool false, .int .i64 0, .int .i64 0, .int .i32 0, .int .i32 0, .int .i64 0]⟩, .int .u64 4194305, .int .i64 0]⟩) ∧ Gr w w' :=
  reckonG_ok noNG (noHook_ok _) 100000 300 h14 rfl rfl (by kernel_rfl) w hL
set_option maxHeartbeats 0 in
set_option maxRecDepth 1000000 in
theorem fetTab_6 (w : World) (hL : Laid h14 w) : Calls Tryz.prog 59 ⟨[.string ⟨#[80, 195]⟩, .int .u64 4194305]⟩ w fun e w' => e = .returned (.tuple ⟨[.agg ⟨[.int .i64 19, .int .i64 0, .int .i64 0, .int .i64 0, .bool false, .bool false, .int .i64 0, .int .i64 0, .int .i32 0, .int .i32 0, .int .i64 0]⟩, .int .u64 4194306, .int .i64 0]⟩) ∧ Gr w w' :=
  reckonG_ok noNG (noHook_ok _) 100000 300 h14 rfl rfl (by kernel_rfl) w hL
set_option maxHeartbeats 0 in
set_option maxRecDepth 1000000 in
theorem fetTab_7 (w : World) (hL : Laid h14 w) : Calls Tryz.prog 59 ⟨[.string ⟨#[80, 195]⟩, .int .u64 0]⟩ w fun e w' => e = .returned (.tuple ⟨[.agg ⟨[.int .i64 0, .int .i64 0, .int .i64 0, .int .i64 0, .bool false, .bool false, .int .i64 0, .int .i64 0, .int .i32 0, .int .i32 0, .int .i64 0]⟩, .int .u64 0, .int .i64 110]⟩) ∧ Gr w w' :=
  reckonG_ok noNG (noHook_ok _) 100000 300 h14 rfl rfl (by kernel_rfl) w hL
set_option maxHeartbeats 0 in
set_option maxRecDepth 1000000 in
theorem fetTab_8 (w : World) (hL : Laid h14 w) : Calls Tryz.prog 59 ⟨[.string ⟨#[72, 139, 131, 0, 0, 0, 0, 195]⟩, .int .u64 4194304]⟩ w fun e w' => e = .returned (.tuple ⟨[.agg ⟨[.int .i64 13, .int .i64 0, .int .i64 0, .int .i64 8, .bool true, .bool false, .int .i64 0, .int .i64 3, .int .i32 0, .int .i32 0, .int .i64 0]⟩, .int .u64 4194311, .int .i64 0]⟩) ∧ Gr w w' :=
  reckonG_ok noNG (noHook_ok _) 100000 300 h14 rfl rfl (by kernel_rfl) w hL
set_option maxHeartbeats 0 in
set_option maxRecDepth 1000000 in
theorem fetTab_9 (w : World) (hL : Laid h14 w) : Calls Tryz.prog 59 ⟨[.string ⟨#[235, 254]⟩, .int .u64 4194304]⟩ w fun e w' => e = .returned (.tuple ⟨[.agg ⟨[.int .i64 15, .int .i64 0, .int .i64 0, .int .i64 0, .bool false, .bool true, .int .i64 0, .int .i64 0, .int .i32 0, .int .i32 (-2), .int .i64 0]⟩, .int .u64 4194306, .int .i64 0]⟩) ∧ Gr w w' :=
  reckonG_ok noNG (noHook_ok _) 100000 300 h14 rfl rfl (by kernel_rfl) w hL
set_option maxHeartbeats 0 in
set_option maxRecDepth 1000000 in
theorem fetTab_10 (w : World) (hL : Laid h14 w) : Calls Tryz.prog 59 ⟨[.string ⟨#[]⟩, .int .u64 4194304]⟩ w fun e w' => e = .returned (.tuple ⟨[.agg ⟨[.int .i64 0, .int .i64 0, .int .i64 0, .int .i64 0, .bool false, .bool false, .int .i64 0, .int .i64 0, .int .i32 0, .int .i32 0, .int .i64 0]⟩, .int .u64 0, .int .i64 110]⟩) ∧ Gr w w' :=
  reckonG_ok noNG (noHook_ok _) 100000 300 h14 rfl rfl (by kernel_rfl) w hL
set_option maxHeartbeats 0 in
set_option maxRecDepth 1000000 in
theorem fetTab_11 (w : World) (hL : Laid h14 w) : Calls Tryz.prog 59 ⟨[.string ⟨#[232, 2, 0, 64, 0, 195]⟩, .int .u64 4194304]⟩ w fun e w' => e = .returned (.tuple ⟨[.agg ⟨[.int .i64 20, .int .i64 0, .int .i64 0, .int .i64 0, .bool false, .bool false, .int .i64 0, .int .i64 0, .int .i32 0, .int .i32 4194306, .int .i64 0]⟩, .int .u64 4194309, .int .i64 0]⟩) ∧ Gr w w' :=
  reckonG_ok noNG (noHook_ok _) 100000 300 h14 rfl rfl (by kernel_rfl) w hL
set_option maxHeartbeats 0 in
set_option maxRecDepth 1000000 in
theorem fetTab_12 (w : World) (hL : Laid h14 w) : Calls Tryz.prog 59 ⟨[.string ⟨#[232, 2, 0, 64, 0, 195]⟩, .int .u64 4194309]⟩ w fun e w' => e = .returned (.tuple ⟨[.agg ⟨[.int .i64 19, .int .i64 0, .int .i64 0, .int .i64 0, .bool false, .bool false, .int .i64 0, .int .i64 0, .int .i32 0, .int .i32 0, .int .i64 0]⟩, .int .u64 4194310, .int .i64 0]⟩) ∧ Gr w w' :=
  reckonG_ok noNG (noHook_ok _) 100000 300 h14 rfl rfl (by kernel_rfl) w hL
theorem fetTab_ok : TabOk Tryz.prog h14 59 fetTab :=
  ⟨fetTab_0, fetTab_1, fetTab_2, fetTab_3, fetTab_4, fetTab_5, fetTab_6, fetTab_7, fetTab_8, fetTab_9, fetTab_10, fetTab_11, fetTab_12, trivial⟩
def tabHook : Hook := orHook (memoHook h14 47 rencTab) (orHook (memoHook h14 49 valTab) (orHook (memoHook h14 48 putTab) (orHook (memoHook h14 76 wrdTab) (orHook (memoHook h14 17 exeTab) (orHook (memoHook h14 59 fetTab) repHook)))))
theorem tabHook_ok : HookOk Tryz.prog tabHook := orHook_ok (memoHook_ok rfl rencTab_ok) (orHook_ok (memoHook_ok rfl valTab_ok) (orHook_ok (memoHook_ok rfl putTab_ok) (orHook_ok (memoHook_ok rfl wrdTab_ok) (orHook_ok (memoHook_ok rfl exeTab_ok) (orHook_ok (memoHook_ok rfl fetTab_ok) repHook_ok)))))
end Go.Proofs.YtpkjgcfdemnohaaGreatDoor.Ex
