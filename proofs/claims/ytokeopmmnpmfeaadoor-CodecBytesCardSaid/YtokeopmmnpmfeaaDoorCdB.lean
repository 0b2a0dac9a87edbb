/-
  Layer 11: the chapter's examples, reckoned.
-/
import Derived.Test.YtokeopmmnpmfeaaDoorPackC
namespace Go.Proofs.YtokeopmmnpmfeaaDoor.Ex
set_option maxRecDepth 20000

open Go Go.RowKit
set_option linter.unusedVariables false
set_option linter.unusedSimpArgs false
set_option maxHeartbeats 0
set_option maxRecDepth 1000000
/-- A hook of one function: others are not looked at. -/
def onlyH (g : FuncId) (hk : Hook) : Hook := fun f args h => if Nat.beq f g then hk f args h else none
theorem only_ok {P : Program} {g : FuncId} {hk : Hook} (hh : HookOk2 P hk) : HookOk2 P (onlyH g hk) := by
  intro f args h v cs hv
  unfold onlyH at hv
  split at hv
  · exact hh f args h v cs hv
  · cases hv
theorem nh_ok : HookOk2 Tryd.prog (guardH noHook) := guard_ok (noHook_ok _)
def tbfirewalllaw11is : Tab := [
  ([.string ⟨#[72, 137, 216]⟩, .agg ⟨[.int .i64 1, .int .i64 0, .int .i64 0, .int .i64 0, .bool true, .bool false, .int .i64 0, .int .i64 3, .int .i32 0, .int .i32 0, .int .i64 0]⟩], .bool true),
  ([.string ⟨#[65, 137, 192]⟩, .agg ⟨[.int .i64 1, .int .i64 0, .int .i64 0, .int .i64 0, .bool false, .bool false, .int .i64 8, .int .i64 0, .int .i32 0, .int .i32 0, .int .i64 0]⟩], .bool true),
  ([.string ⟨#[72, 129, 196, 248, 255, 255, 255]⟩, .agg ⟨[.int .i64 5, .int .i64 0, .int .i64 0, .int .i64 0, .bool true, .bool false, .int .i64 4, .int .i64 0, .int .i32 0, .int .i32 0, .int .i64 (-8)]⟩], .bool true),
  ([.string ⟨#[15, 182, 132, 36, 4, 0, 0, 0]⟩, .agg ⟨[.int .i64 13, .int .i64 0, .int .i64 0, .int .i64 1, .bool false, .bool false, .int .i64 0, .int .i64 4, .int .i32 4, .int .i32 0, .int .i64 0]⟩], .bool true),
  ([.string ⟨#[77, 139, 140, 36, 0, 0, 0, 0]⟩, .agg ⟨[.int .i64 13, .int .i64 0, .int .i64 0, .int .i64 8, .bool true, .bool false, .int .i64 9, .int .i64 12, .int .i32 0, .int .i32 0, .int .i64 0]⟩], .bool true),
  ([.string ⟨#[64, 136, 183, 0, 0, 0, 0]⟩, .agg ⟨[.int .i64 14, .int .i64 0, .int .i64 0, .int .i64 1, .bool false, .bool false, .int .i64 7, .int .i64 6, .int .i32 0, .int .i32 0, .int .i64 0]⟩], .bool true),
  ([.string ⟨#[102, 68, 137, 135, 0, 0, 0, 0]⟩, .agg ⟨[.int .i64 14, .int .i64 0, .int .i64 0, .int .i64 2, .bool false, .bool false, .int .i64 7, .int .i64 8, .int .i32 0, .int .i32 0, .int .i64 0]⟩], .bool true),
  ([.string ⟨#[116, 254]⟩, .agg ⟨[.int .i64 16, .int .i64 0, .int .i64 4, .int .i64 0, .bool false, .bool true, .int .i64 0, .int .i64 0, .int .i32 0, .int .i32 (-2), .int .i64 0]⟩], .bool true),
  ([.string ⟨#[233, 0, 1, 0, 0]⟩, .agg ⟨[.int .i64 15, .int .i64 0, .int .i64 0, .int .i64 0, .bool false, .bool false, .int .i64 0, .int .i64 0, .int .i32 0, .int .i32 256, .int .i64 0]⟩], .bool true),
  ([.string ⟨#[65, 84]⟩, .agg ⟨[.int .i64 17, .int .i64 0, .int .i64 0, .int .i64 0, .bool false, .bool false, .int .i64 12, .int .i64 0, .int .i32 0, .int .i32 0, .int .i64 0]⟩], .bool true),
  ([.string ⟨#[15, 174, 232]⟩, .agg ⟨[.int .i64 21, .int .i64 0, .int .i64 0, .int .i64 0, .bool false, .bool false, .int .i64 0, .int .i64 0, .int .i32 0, .int .i32 0, .int .i64 0]⟩], .bool true)]
set_option maxHeartbeats 0 in
set_option maxRecDepth 1000000 in
theorem tbfirewalllaw11is_0 (w : World) (hL : Laid h12 w) : Calls Tryd.prog 7 ⟨[.string ⟨#[72, 137, 216]⟩, .agg ⟨[.int .i64 1, .int .i64 0, .int .i64 0, .int .i64 0, .bool true, .bool false, .int .i64 0, .int .i64 3, .int .i32 0, .int .i32 0, .int .i64 0]⟩]⟩ w fun e w' => e = .returned (.bool true) ∧ Gr w w' :=
  reckonX_ok noNG nh_ok 100000 300 h12 rfl rfl (by kernel_rfl) w hL
set_option maxHeartbeats 0 in
set_option maxRecDepth 1000000 in
theorem tbfirewalllaw11is_1 (w : World) (hL : Laid h12 w) : Calls Tryd.prog 7 ⟨[.string ⟨#[65, 137, 192]⟩, .agg ⟨[.int .i64 1, .int .i64 0, .int .i64 0, .int .i64 0, .bool false, .bool false, .int .i64 8, .int .i64 0, .int .i32 0, .int .i32 0, .int .i64 0]⟩]⟩ w fun e w' => e = .returned (.bool true) ∧ Gr w w' :=
  reckonX_ok noNG nh_ok 100000 300 h12 rfl rfl (by kernel_rfl) w hL
set_option maxHeartbeats 0 in
set_option maxRecDepth 1000000 in
theorem tbfirewalllaw11is_2 (w : World) (hL : Laid h12 w) : Calls Tryd.prog 7 ⟨[.string ⟨#[72, 129, 196, 248, 255, 255, 255]⟩, .agg ⟨[.int .i64 5, .int .i64 0, .int .i64 0, .int .i64 0, .bool true, .bool false, .int .i64 4, .int .i64 0, .int .i32 0, .int .i32 0, .int .i64 (-8)]⟩]⟩ w fun e w' => e = .returned (.bool true) ∧ Gr w w' :=
  reckonX_ok noNG nh_ok 100000 300 h12 rfl rfl (by kernel_rfl) w hL
set_option maxHeartbeats 0 in
set_option maxRecDepth 1000000 in
theorem tbfirewalllaw11is_3 (w : World) (hL : Laid h12 w) : Calls Tryd.prog 7 ⟨[.string ⟨#[15, 182, 132, 36, 4, 0, 0, 0]⟩, .agg ⟨[.int .i64 13, .int .i64 0, .int .i64 0, .int .i64 1, .bool false, .bool false, .int .i64 0, .int .i64 4, .int .i32 4, .int .i32 0, .int .i64 0]⟩]⟩ w fun e w' => e = .returned (.bool true) ∧ Gr w w' :=
  reckonX_ok noNG nh_ok 100000 300 h12 rfl rfl (by kernel_rfl) w hL
set_option maxHeartbeats 0 in
set_option maxRecDepth 1000000 in
theorem tbfirewalllaw11is_4 (w : World) (hL : Laid h12 w) : Calls Tryd.prog 7 ⟨[.string ⟨#[77, 139, 140, 36, 0, 0, 0, 0]⟩, .agg ⟨[.int .i64 13, .int .i64 0, .int .i64 0, .int .i64 8, .bool true, .bool false, .int .i64 9, .int .i64 12, .int .i32 0, .int .i32 0, .int .i64 0]⟩]⟩ w fun e w' => e = .returned (.bool true) ∧ Gr w w' :=
  reckonX_ok noNG nh_ok 100000 300 h12 rfl rfl (by kernel_rfl) w hL
set_option maxHeartbeats 0 in
set_option maxRecDepth 1000000 in
theorem tbfirewalllaw11is_5 (w : World) (hL : Laid h12 w) : Calls Tryd.prog 7 ⟨[.string ⟨#[64, 136, 183, 0, 0, 0, 0]⟩, .agg ⟨[.int .i64 14, .int .i64 0, .int .i64 0, .int .i64 1, .bool false, .bool false, .int .i64 7, .int .i64 6, .int .i32 0, .int .i32 0, .int .i64 0]⟩]⟩ w fun e w' => e = .returned (.bool true) ∧ Gr w w' :=
  reckonX_ok noNG nh_ok 100000 300 h12 rfl rfl (by kernel_rfl) w hL
set_option maxHeartbeats 0 in
set_option maxRecDepth 1000000 in
theorem tbfirewalllaw11is_6 (w : World) (hL : Laid h12 w) : Calls Tryd.prog 7 ⟨[.string ⟨#[102, 68, 137, 135, 0, 0, 0, 0]⟩, .agg ⟨[.int .i64 14, .int .i64 0, .int .i64 0, .int .i64 2, .bool false, .bool false, .int .i64 7, .int .i64 8, .int .i32 0, .int .i32 0, .int .i64 0]⟩]⟩ w fun e w' => e = .returned (.bool true) ∧ Gr w w' :=
  reckonX_ok noNG nh_ok 100000 300 h12 rfl rfl (by kernel_rfl) w hL
set_option maxHeartbeats 0 in
set_option maxRecDepth 1000000 in
theorem tbfirewalllaw11is_7 (w : World) (hL : Laid h12 w) : Calls Tryd.prog 7 ⟨[.string ⟨#[116, 254]⟩, .agg ⟨[.int .i64 16, .int .i64 0, .int .i64 4, .int .i64 0, .bool false, .bool true, .int .i64 0, .int .i64 0, .int .i32 0, .int .i32 (-2), .int .i64 0]⟩]⟩ w fun e w' => e = .returned (.bool true) ∧ Gr w w' :=
  reckonX_ok noNG nh_ok 100000 300 h12 rfl rfl (by kernel_rfl) w hL
set_option maxHeartbeats 0 in
set_option maxRecDepth 1000000 in
theorem tbfirewalllaw11is_8 (w : World) (hL : Laid h12 w) : Calls Tryd.prog 7 ⟨[.string ⟨#[233, 0, 1, 0, 0]⟩, .agg ⟨[.int .i64 15, .int .i64 0, .int .i64 0, .int .i64 0, .bool false, .bool false, .int .i64 0, .int .i64 0, .int .i32 0, .int .i32 256, .int .i64 0]⟩]⟩ w fun e w' => e = .returned (.bool true) ∧ Gr w w' :=
  reckonX_ok noNG nh_ok 100000 300 h12 rfl rfl (by kernel_rfl) w hL
set_option maxHeartbeats 0 in
set_option maxRecDepth 1000000 in
theorem tbfirewalllaw11is_9 (w : World) (hL : Laid h12 w) : Calls Tryd.prog 7 ⟨[.string ⟨#[65, 84]⟩, .agg ⟨[.int .i64 17, .int .i64 0, .int .i64 0, .int .i64 0, .bool false, .bool false, .int .i64 12, .int .i64 0, .int .i32 0, .int .i32 0, .int .i64 0]⟩]⟩ w fun e w' => e = .returned (.bool true) ∧ Gr w w' :=
  reckonX_ok noNG nh_ok 100000 300 h12 rfl rfl (by kernel_rfl) w hL
set_option maxHeartbeats 0 in
set_option maxRecDepth 1000000 in
theorem tbfirewalllaw11is_10 (w : World) (hL : Laid h12 w) : Calls Tryd.prog 7 ⟨[.string ⟨#[15, 174, 232]⟩, .agg ⟨[.int .i64 21, .int .i64 0, .int .i64 0, .int .i64 0, .bool false, .bool false, .int .i64 0, .int .i64 0, .int .i32 0, .int .i32 0, .int .i64 0]⟩]⟩ w fun e w' => e = .returned (.bool true) ∧ Gr w w' :=
  reckonX_ok noNG nh_ok 100000 300 h12 rfl rfl (by kernel_rfl) w hL
theorem tbfirewalllaw11is_tab : TabOk Tryd.prog h12 7 tbfirewalllaw11is :=
  ⟨tbfirewalllaw11is_0, tbfirewalllaw11is_1, tbfirewalllaw11is_2, tbfirewalllaw11is_3, tbfirewalllaw11is_4, tbfirewalllaw11is_5, tbfirewalllaw11is_6, tbfirewalllaw11is_7, tbfirewalllaw11is_8, tbfirewalllaw11is_9, tbfirewalllaw11is_10, trivial⟩
def tbfirewalllaw11is_hk : Hook := onlyH 7 (guardH (memoHook h12 7 tbfirewalllaw11is))
theorem tbfirewalllaw11is_hk_ok : HookOk2 Tryd.prog tbfirewalllaw11is_hk := only_ok (guard_ok (memoHook_ok rfl tbfirewalllaw11is_tab))
def tbfirewalllaw11no : Tab := [
  ([.string ⟨#[72, 195]⟩], .bool true),
  ([.string ⟨#[64, 137, 216]⟩], .bool true),
  ([.string ⟨#[72, 139, 0]⟩], .bool true)]
set_option maxHeartbeats 0 in
set_option maxRecDepth 1000000 in
theorem tbfirewalllaw11no_0 (w : World) (hL : Laid h12 w) : Calls Tryd.prog 8 ⟨[.string ⟨#[72, 195]⟩]⟩ w fun e w' => e = .returned (.bool true) ∧ Gr w w' :=
  reckonX_ok noNG nh_ok 100000 300 h12 rfl rfl (by kernel_rfl) w hL
set_option maxHeartbeats 0 in
set_option maxRecDepth 1000000 in
theorem tbfirewalllaw11no_1 (w : World) (hL : Laid h12 w) : Calls Tryd.prog 8 ⟨[.string ⟨#[64, 137, 216]⟩]⟩ w fun e w' => e = .returned (.bool true) ∧ Gr w w' :=
  reckonX_ok noNG nh_ok 100000 300 h12 rfl rfl (by kernel_rfl) w hL
set_option maxHeartbeats 0 in
set_option maxRecDepth 1000000 in
theorem tbfirewalllaw11no_2 (w : World) (hL : Laid h12 w) : Calls Tryd.prog 8 ⟨[.string ⟨#[72, 139, 0]⟩]⟩ w fun e w' => e = .returned (.bool true) ∧ Gr w w' :=
  reckonX_ok noNG nh_ok 100000 300 h12 rfl rfl (by kernel_rfl) w hL
theorem tbfirewalllaw11no_tab : TabOk Tryd.prog h12 8 tbfirewalllaw11no :=
  ⟨tbfirewalllaw11no_0, tbfirewalllaw11no_1, tbfirewalllaw11no_2, trivial⟩
def tbfirewalllaw11no_hk : Hook := onlyH 8 (guardH (memoHook h12 8 tbfirewalllaw11no))
theorem tbfirewalllaw11no_hk_ok : HookOk2 Tryd.prog tbfirewalllaw11no_hk := only_ok (guard_ok (memoHook_ok rfl tbfirewalllaw11no_tab))
def hkCd : Hook := orHook tbfirewalllaw11is_hk (orHook tbfirewalllaw11no_hk ((guardH noHook)))
theorem hkCd_ok : HookOk2 Tryd.prog hkCd := orHook2_ok tbfirewalllaw11is_hk_ok (orHook2_ok tbfirewalllaw11no_hk_ok ((guard_ok (noHook_ok _))))
theorem coded_any (w : World) (hL : Laid h12 w) : Calls Tryd.prog 4 #[] w fun e w' => e = .returned (.bool true) ∧ Gr w w' :=
  reckonX_ok noNG hkCd_ok 100000 300 h12 rfl rfl (by kernel_rfl) w hL
def codedHook : Hook := memoHook h12 4 [([], .bool true)]
theorem codedHook_ok : HookOk Tryd.prog codedHook := memoHook_ok rfl ⟨fun w hL => coded_any w hL, trivial⟩
end Go.Proofs.YtokeopmmnpmfeaaDoor.Ex
