/-
  Contracts of the document's answers for package nums.
-/
import Derived.Test.YthmebodklbhljaaDoorNumsN
namespace Go.Proofs.YthmebodklbhljaaDoor
open Go.RowKit

attribute [local go_sem] u64_wrap u8_wrap BitVec.ofInt_add BitVec.ofInt_mul ofInt_sub' ofInt_N ofInt_Nw ofInt_Z wrap64_N mul_shl1 u64_and u64_or N_tmod N_emod

set_option maxHeartbeats 400000 in
theorem refPower_N (b : Int) (w : World) (h1 : -9223372036854775808 ≤ b) (h2 : b ≤ 64) :
    Calls Tryd.prog 71 #[.int .i64 b] w fun e w' => e = .returned (.int .u64 (N (1#64 <<< b.toNat))) ∧ w = w' := by
  go_enter Tryd.func71, Tryd.ntmps71
  go_wp2
  go_loop [3, 4] (fun v i => ∃ k : Nat, k ≤ b.toNat ∧ i = .int .i64 k ∧ v = .int .u64 (N (1#64 <<< k))) (fun _ i => 64 - (intOf i).toNat)
  case atStart => exact ⟨0, by omega, rfl, rfl⟩
  case round =>
    obtain ⟨k, hk, rfl, rfl⟩ := hrel
    by_cases hlt : (k : Int) < b
    · go_wp2
      go_round
      case rel => exact ⟨k + 1, by omega, by go_num, by rw [shl_succ]⟩
      case measure => simp [intOf]; omega
    · go_wp2
      go_ret
      exact ⟨ret64 (by rw [show k = b.toNat by omega]), rfl⟩

set_option maxHeartbeats 400000 in
theorem refLow_N (v : BitVec 64) (b : Int) (w : World) (h1 : -9223372036854775808 ≤ b) (h2 : b ≤ 9223372036854775807) :
    Calls Tryd.prog 70 #[.int .u64 (N v), .int .i64 b] w fun e w' => e = .returned (.int .u64 (N (lowS v b))) ∧ w = w' := by
  by_cases hb : 64 ≤ b
  · go_enter Tryd.func70, Tryd.ntmps70
    go_wp2_with fail
    go_ret
    exact ⟨ret64 (by unfold lowS; rw [if_neg (by omega), if_pos hb]), rfl⟩
  · by_cases h0 : b ≤ 0
    · go_enter Tryd.func70, Tryd.ntmps70
      go_wp2_with fail
      go_ret
      exact ⟨ret0 (by unfold lowS; rw [if_pos h0]), rfl⟩
    · have hne := shl1_ne b (by omega) (by omega)
      go_enter Tryd.func70, Tryd.ntmps70
      go_wp2_with (go_at_call 71; refine (refPower_N _ _ (by omega) (by omega)).mono ?_; rintro e w' ⟨rfl, rfl⟩)
      go_ret
      exact ⟨ret64 (low_of_mod v b (by omega) (by omega)), rfl⟩

set_option maxHeartbeats 400000 in
theorem refSign_N (v : BitVec 64) (b : Int) (w : World) (h1 : -9223372036854775808 ≤ b) (h2 : b ≤ 9223372036854775807) :
    Calls Tryd.prog 49 #[.int .u64 (N v), .int .i64 b] w fun e w' => e = .returned (.int .u64 (N (signS v b))) ∧ w = w' := by
  by_cases h0 : b ≤ 0
  · go_enter Tryd.func49, Tryd.ntmps49
    go_wp2_with (first | (go_at_call 71; refine (refPower_N _ _ (by omega) (by omega)).mono ?_; rintro e w' ⟨rfl, rfl⟩) | (go_at_call 70; refine (refLow_N _ _ _ (by omega) (by omega)).mono ?_; rintro e w' ⟨rfl, rfl⟩))
    go_ret
    exact ⟨ret64 (sign_le0 v b h0), rfl⟩
  · by_cases hb : 64 ≤ b
    · go_enter Tryd.func49, Tryd.ntmps49
      go_wp2_with (first | (go_at_call 71; refine (refPower_N _ _ (by omega) (by omega)).mono ?_; rintro e w' ⟨rfl, rfl⟩) | (go_at_call 70; refine (refLow_N _ _ _ (by omega) (by omega)).mono ?_; rintro e w' ⟨rfl, rfl⟩))
      go_ret
      exact ⟨ret64 (sign_ge64 v b hb), rfl⟩
    · go_enter Tryd.func49, Tryd.ntmps49
      go_wp2_with (first | (go_at_call 71; refine (refPower_N _ _ (by omega) (by omega)).mono ?_; rintro e w' ⟨rfl, rfl⟩) | (go_at_call 70; refine (refLow_N _ _ _ (by omega) (by omega)).mono ?_; rintro e w' ⟨rfl, rfl⟩))
      · rename_i h
        go_ret
        exact ⟨ret64 (sign_plain v b (by omega) (by omega) (by omega)), rfl⟩
      · rename_i h
        go_ret
        exact ⟨ret64 (sign_minus v b (by omega) (by omega) (by omega)), rfl⟩

set_option maxHeartbeats 400000 in
theorem refNum_any (s : ByteArray) (w : World) (hs : s.size ≤ maxLen) :
    Calls Tryd.prog 50 #[.string s] w fun e w' => e = .returned (.int .u64 (N (numS s))) ∧ w = w' := by
  unfold maxLen at hs
  obtain ⟨m, hm⟩ : ∃ m : Nat, min (s.size : Int) 8 = m := ⟨min s.size 8, by omega⟩
  have hm8 : m ≤ 8 := by omega
  have hms : m ≤ s.size := by omega
  have hfin : numH (byteAt s) 0 m = numS s := by rw [numF_numH, numS_eq s m (by omega)]
  go_enter Tryd.func50, Tryd.ntmps50
  go_wp2
  clear hm
  go_loop [3, 4] (fun v i => ∃ j : Nat, j ≤ m ∧ i = .int .i64 ((j : Int) - 1) ∧ v = .int .u64 (N (numH (byteAt s) j (m - j)))) (fun _ i => (intOf i + 1).toNat)
  case atStart => exact ⟨m, by omega, rfl, by rw [Nat.sub_self]; rfl⟩
  case round =>
    obtain ⟨j, hj, rfl, rfl⟩ := hrel
    rcases j with _ | q
    · go_wp2
      go_ret
      exact ⟨ret64 rfl, rfl⟩
    · have hq : q < s.size := by omega
      rw [show (((q + 1 : Nat) : Int) - 1) = (q : Int) by omega]
      go_wp2
      go_round
      case rel => exact ⟨q, by omega, rfl, by rw [byteAt_get s q hq, numH_step, show m - (q + 1) + 1 = m - q by omega]⟩
      case measure => simp [intOf]
end Go.Proofs.YthmebodklbhljaaDoor
