/-
  Contracts of the document's Power, Low and Sign (package firewallref01), for a seat that has neither Num.
-/
import Derived.Test.YtchjneodjaakdaaNumsMath
import Derived.Test.YtchjneodjaakdaaProg
import Derived.Handy
namespace Go.Proofs.Ytchjneodjaakdaa
open Go.RowKit

theorem ret64 {a b : BitVec 64} (h : a = b) : Ending.returned (.int .u64 (N a)) = .returned (.int .u64 (N b)) := by rw [h]
theorem ret0 {b : BitVec 64} (h : 0 = b) : Ending.returned (.int .u64 0) = .returned (.int .u64 (N b)) := by rw [← h]; rfl

attribute [local go_sem] u64_wrap u8_wrap BitVec.ofInt_add BitVec.ofInt_mul ofInt_sub' ofInt_N ofInt_Nw ofInt_Z wrap64_N mul_shl1 u64_and u64_or N_tmod N_emod

set_option maxHeartbeats 400000 in
theorem refPower_N (b : Int) (w : World) (h1 : -9223372036854775808 ≤ b) (h2 : b ≤ 64) :
    Calls Try.prog 76 #[.int .i64 b] w fun e w' => e = .returned (.int .u64 (N (1#64 <<< b.toNat))) ∧ w = w' := by
  go_enter Try.func76, Try.ntmps76
  go_wp2
  go_loop [3, 4] (fun v i => ∃ k : Nat, k ≤ b.toNat ∧ i = .int .i64 k ∧ v = .int .u64 (N (1#64 <<< k))) (fun _ i => 64 - (intOf i).toNat)
  case atStart => exact ⟨0, by omega, rfl, rfl⟩
  case round =>
    obtain ⟨k, hk, rfl, rfl⟩ := hrel
    by_cases hlt : (k : Int) < b
    · go_wp2
      go_round
      case rel => exact ⟨k + 1, by omega, by go_num, by rw [shl_succ]⟩
      case measure => simp [intOf]; omega
    · go_wp2
      go_ret
      exact ⟨ret64 (by rw [show k = b.toNat by omega]), rfl⟩

set_option maxHeartbeats 400000 in
theorem refLow_N (v : BitVec 64) (b : Int) (w : World) (h1 : -9223372036854775808 ≤ b) (h2 : b ≤ 9223372036854775807) :
    Calls Try.prog 75 #[.int .u64 (N v), .int .i64 b] w fun e w' => e = .returned (.int .u64 (N (lowS v b))) ∧ w = w' := by
  by_cases hb : 64 ≤ b
  · go_enter Try.func75, Try.ntmps75
    go_wp2_with fail
    go_ret
    exact ⟨ret64 (by unfold lowS; rw [if_neg (by omega), if_pos hb]), rfl⟩
  · by_cases h0 : b ≤ 0
    · go_enter Try.func75, Try.ntmps75
      go_wp2_with fail
      go_ret
      exact ⟨ret0 (by unfold lowS; rw [if_pos h0]), rfl⟩
    · have hne := shl1_ne b (by omega) (by omega)
      go_enter Try.func75, Try.ntmps75
      go_wp2_with (go_at_call 76; refine (refPower_N _ _ (by omega) (by omega)).mono ?_; rintro e w' ⟨rfl, rfl⟩)
      go_ret
      exact ⟨ret64 (low_of_mod v b (by omega) (by omega)), rfl⟩

set_option maxHeartbeats 400000 in
theorem refSign_N (v : BitVec 64) (b : Int) (w : World) (h1 : -9223372036854775808 ≤ b) (h2 : b ≤ 9223372036854775807) :
    Calls Try.prog 77 #[.int .u64 (N v), .int .i64 b] w fun e w' => e = .returned (.int .u64 (N (signS v b))) ∧ w = w' := by
  by_cases h0 : b ≤ 0
  · go_enter Try.func77, Try.ntmps77
    go_wp2_with (first | (go_at_call 76; refine (refPower_N _ _ (by omega) (by omega)).mono ?_; rintro e w' ⟨rfl, rfl⟩) | (go_at_call 75; refine (refLow_N _ _ _ (by omega) (by omega)).mono ?_; rintro e w' ⟨rfl, rfl⟩))
    go_ret
    exact ⟨ret64 (sign_le0 v b h0), rfl⟩
  · by_cases hb : 64 ≤ b
    · go_enter Try.func77, Try.ntmps77
      go_wp2_with (first | (go_at_call 76; refine (refPower_N _ _ (by omega) (by omega)).mono ?_; rintro e w' ⟨rfl, rfl⟩) | (go_at_call 75; refine (refLow_N _ _ _ (by omega) (by omega)).mono ?_; rintro e w' ⟨rfl, rfl⟩))
      go_ret
      exact ⟨ret64 (sign_ge64 v b hb), rfl⟩
    · go_enter Try.func77, Try.ntmps77
      go_wp2_with (first | (go_at_call 76; refine (refPower_N _ _ (by omega) (by omega)).mono ?_; rintro e w' ⟨rfl, rfl⟩) | (go_at_call 75; refine (refLow_N _ _ _ (by omega) (by omega)).mono ?_; rintro e w' ⟨rfl, rfl⟩))
      · rename_i h
        go_ret
        exact ⟨ret64 (sign_plain v b (by omega) (by omega) (by omega)), rfl⟩
      · rename_i h
        go_ret
        exact ⟨ret64 (sign_minus v b (by omega) (by omega) (by omega)), rfl⟩
end Go.Proofs.Ytchjneodjaakdaa
