/-
  The walks of the laws of layer 1.
-/
import Derived.Test.YtdlbapenkhljcaaTold
import Derived.Test.YtdlbapenkhljcaaNumsMath2
import Derived.Test.YtdlbapenkhljcaaNumsRef
import Derived.Test.YtdlbapenkhljcaaBytesRef
namespace Go.Proofs.Ytdlbapenkhljcaa
open Go.RowKit
attribute [local go_sem] u64_wrap u8_wrap BitVec.ofInt_add BitVec.ofInt_mul ofInt_sub' ofInt_N ofInt_Nw ofInt_Z wrap64_N N_shr

set_option maxRecDepth 100000 in
set_option maxHeartbeats 1000000 in
theorem numsParts_walk (v : BitVec 64) (b : Int) (w : World) (h1 : -9223372036854775808 ≤ b) (h2 : b ≤ 9223372036854775807) :
    Calls Try.prog 4 #[.int .u64 (N v), .int .i64 b] w fun e w' => e = .returned (.bool true) ∧ Grown w w' := by
  go_enter Try.func4, Try.ntmps4
  go_wp2
  go_loopw [5] (fun i wr => ∃ k : Nat, k ≤ 68 ∧ i = .int .i64 ((k : Int) - 1) ∧ w = wr) (fun i _ => (67 - intOf i).toNat)
  case atStart => exact ⟨0, by omega, rfl, rfl⟩
  case round =>
    obtain ⟨k, hk, rfl, rfl⟩ := hrel
    by_cases hlt : (k : Int) - 1 < 67
    · go_wp2_with (first | (go_at_call 21; refine (low_N _ _ _ (by omega) (by omega)).mono ?_; rintro e w' ⟨rfl, rfl⟩) | (go_at_call 23; refine (sign_N _ _ _ (by omega) (by omega)).mono ?_; rintro e w' ⟨rfl, rfl⟩) | (go_at_call 22; refine (refLow_N _ _ _ (by omega) (by omega)).mono ?_; rintro e w' ⟨rfl, rfl⟩) | (go_at_call 24; refine (refSign_N _ _ _ (by omega) (by omega)).mono ?_; rintro e w' ⟨rfl, rfl⟩))
      go_roundw
      case rel => exact ⟨k + 1, by omega, by congr 1; omega, by trivial⟩
      case measure => simp [intOf]; omega
    · go_wp2_with (first | (go_at_call 21; refine (low_N _ _ _ (by omega) (by omega)).mono ?_; rintro e w' ⟨rfl, rfl⟩) | (go_at_call 23; refine (sign_N _ _ _ (by omega) (by omega)).mono ?_; rintro e w' ⟨rfl, rfl⟩) | (go_at_call 22; refine (refLow_N _ _ _ (by omega) (by omega)).mono ?_; rintro e w' ⟨rfl, rfl⟩) | (go_at_call 24; refine (refSign_N _ _ _ (by omega) (by omega)).mono ?_; rintro e w' ⟨rfl, rfl⟩) | (go_at_call 16; refine (told_any _).mono ?_; rintro e w' ⟨rfl, hg⟩))
      go_ret
      exact ⟨rfl, by assumption⟩

set_option maxRecDepth 100000 in
set_option maxHeartbeats 1000000 in
theorem numsSign_walk (v : BitVec 64) (b : BitVec 8) (w : World) :
    Calls Try.prog 6 #[.int .u64 (N v), .int .u8 (N b)] w fun e w' => e = .returned (.bool true) ∧ Grown w w' := by
  have b0 := N_nonneg b
  have b1 : N b < 256 := N_lt b
  obtain ⟨m, hm⟩ : ∃ m : Nat, N b % 64 = m := ⟨(N b % 64).toNat, by omega⟩
  have hm0 : m < 64 := by omega
  have e1 := low_low v (1 + m)
  have e2 := sign_sign v (1 + m) (by omega) (by omega)
  have e3 := low_sign v (1 + m) (by omega)
  have e4 := sign_low v (1 + m) (by omega) (by omega)
  have e5 : bytesS v 8 = bytesN v 8 := rfl
  have e6 := num_bytes8 v
  have e7 := sign_neg v (1 + m) (by omega) (by omega)
  have e8 := shr_bit v m
  rw [show (1 + (m : Int)).toNat - 1 = m by omega] at e7
  cases h : v.getLsbD m
  · have e9 : signS v (1 + m) = lowS v (1 + m) := sign_eq_low v (1 + m) (by omega) (by omega) (by rw [show (1 + (m : Int)).toNat - 1 = m by omega]; exact h)
    have e7' : decide (Z (lowS v (1 + m)) < 0) = false := by rw [← e9]; simp [h] at e7; simp; omega
    have e8' : ((N (v >>> m)).tmod 2 == 1) = false := by simp [h] at e8; simpa using e8
    clear e7 e8 h
    go_enter Try.func6, Try.ntmps6
    go_wp2_with (first | (go_at_call 21; refine (low_N _ _ _ (by omega) (by omega)).mono ?_; rintro e w' ⟨rfl, rfl⟩) | (go_at_call 23; refine (sign_N _ _ _ (by omega) (by omega)).mono ?_; rintro e w' ⟨rfl, rfl⟩) | (go_at_call 17; refine (bytes_any _ _ _).mono ?_; rintro e w' ⟨rfl, hg⟩) | (go_at_call 19; refine (num_any _ _ (by rw [bytesN_size]; decide)).mono ?_; rintro e w' ⟨rfl, rfl⟩)  | (go_at_call 16; refine (told_any _).mono ?_; rintro e w' ⟨rfl, hg⟩))
    go_ret
    exact ⟨rfl, by repeat (first | exact Grown.refl _ | refine Grown.trans' ?_ (by assumption))⟩
  · have e7' : Z (signS v (1 + m)) < 0 := e7.2 h
    have e8' : ((N (v >>> m)).tmod 2 == 1) = true := by simpa using e8.2 h
    clear e7 e8 h
    go_enter Try.func6, Try.ntmps6
    go_wp2_with (first | (go_at_call 21; refine (low_N _ _ _ (by omega) (by omega)).mono ?_; rintro e w' ⟨rfl, rfl⟩) | (go_at_call 23; refine (sign_N _ _ _ (by omega) (by omega)).mono ?_; rintro e w' ⟨rfl, rfl⟩) | (go_at_call 17; refine (bytes_any _ _ _).mono ?_; rintro e w' ⟨rfl, hg⟩) | (go_at_call 19; refine (num_any _ _ (by rw [bytesN_size]; decide)).mono ?_; rintro e w' ⟨rfl, rfl⟩)  | (go_at_call 16; refine (told_any _).mono ?_; rintro e w' ⟨rfl, hg⟩))
    go_ret
    exact ⟨rfl, by repeat (first | exact Grown.refl _ | refine Grown.trans' ?_ (by assumption))⟩

set_option maxRecDepth 100000 in
set_option maxHeartbeats 1000000 in
theorem numsTell_walk (s : ByteArray) (v : BitVec 64) (b : Int) (w : World) (hs : s.size ≤ maxLen) :
    Calls Try.prog 3 #[.string s, .int .u64 (N v), .int .i64 b] w fun e w' => e = .returned (.bool true) ∧ Grown w w' := by
  by_cases hbig : 1000 < s.size
  · go_enter Try.func3, Try.ntmps3
    go_wp2_with (go_at_call 16; refine (told_any _).mono ?_; rintro e w' ⟨rfl, hg⟩)
    go_ret
    exact ⟨rfl, by assumption⟩
  · go_enter Try.func3, Try.ntmps3
    go_wp2
    go_loopw [7] (fun i wr => ∃ k : Nat, k ≤ 11 ∧ i = .int .i64 ((k : Int) - 1) ∧ Grown w wr) (fun i _ => (10 - intOf i).toNat)
    case atStart => exact ⟨0, by omega, rfl, Grown.refl _⟩
    case round =>
      obtain ⟨k, hk, rfl, hgr⟩ := hrel
      by_cases hlt : (k : Int) - 1 < 10
      · go_wp2_with (first | (go_at_call 17; refine (bytes_any _ _ _).mono ?_; rintro e w' ⟨rfl, hg⟩) | (go_at_call 18; refine (refBytes_any _ _ _).mono ?_; rintro e w' ⟨rfl, hg⟩))
        go_roundw
        case rel => exact ⟨k + 1, by omega, by congr 1; omega, by repeat (first | assumption | refine Grown.trans' ?_ (by assumption))⟩
        case measure => simp [intOf]; omega
      · go_wp2_with (first | (go_at_call 17; refine (bytes_any _ _ _).mono ?_; rintro e w' ⟨rfl, hg⟩) | (go_at_call 18; refine (refBytes_any _ _ _).mono ?_; rintro e w' ⟨rfl, hg⟩) | (go_at_call 19; refine (num_any _ _ (by assumption)).mono ?_; rintro e w' ⟨rfl, rfl⟩) | (go_at_call 20; refine (refNum_any _ _ (by assumption)).mono ?_; rintro e w' ⟨rfl, rfl⟩) | (go_at_call 16; refine (told_any _).mono ?_; rintro e w' ⟨rfl, hg⟩))
        go_ret
        exact ⟨rfl, by repeat (first | assumption | refine Grown.trans' ?_ (by assumption))⟩

set_option maxRecDepth 100000 in
set_option maxHeartbeats 1000000 in
theorem numsBack_walk (v : BitVec 64) (s b : ByteArray) (w : World) (hs : s.size ≤ maxLen) (_hb : b.size ≤ maxLen) :
    Calls Try.prog 5 #[.int .u64 (N v), .string s, .string b] w fun e w' => e = .returned (.bool true) ∧ Grown w w' := by
  go_enter Try.func5, Try.ntmps5
  go_wp2
  go_loopw [7] (fun i wr => ∃ k : Nat, k ≤ 9 ∧ i = .int .i64 (k : Int) ∧ Grown w wr) (fun i _ => (9 - intOf i).toNat)
  case atStart => exact ⟨0, by omega, rfl, Grown.refl _⟩
  case round =>
    obtain ⟨k, hk, rfl, hgr⟩ := hrel
    by_cases hlt : k ≤ 8
    · have e1 := num_bytesS v k hlt
      have e2 := bytesS_size v k hlt
      have e3 : (bytesS v k).size ≤ maxLen := by rw [e2]; unfold maxLen; omega
      go_wp2_with (first | (go_at_call 21; refine (low_N _ _ _ (by omega) (by omega)).mono ?_; rintro e w' ⟨rfl, rfl⟩) | (go_at_call 17; refine (bytes_any _ _ _).mono ?_; rintro e w' ⟨rfl, hg⟩) | (go_at_call 19; refine (num_any _ _ (by assumption)).mono ?_; rintro e w' ⟨rfl, rfl⟩)  | (go_at_call 16; refine (told_any _).mono ?_; rintro e w' ⟨rfl, hg⟩))
      go_roundw
      case rel => exact ⟨k + 1, by omega, by go_num, by repeat (first | assumption | refine Grown.trans' ?_ (by assumption))⟩
      case measure => simp [intOf]; omega
    · by_cases hbig : 8 < s.size
      · go_wp2_with (first | (go_at_call 21; refine (low_N _ _ _ (by omega) (by omega)).mono ?_; rintro e w' ⟨rfl, rfl⟩) | (go_at_call 17; refine (bytes_any _ _ _).mono ?_; rintro e w' ⟨rfl, hg⟩) | (go_at_call 19; refine (num_any _ _ (by assumption)).mono ?_; rintro e w' ⟨rfl, rfl⟩)  | (go_at_call 16; refine (told_any _).mono ?_; rintro e w' ⟨rfl, hg⟩))
        go_ret
        exact ⟨rfl, by repeat (first | assumption | refine Grown.trans' ?_ (by assumption))⟩
      · by_cases hbig2 : 100 < b.size
        · go_wp2_with (first | (go_at_call 21; refine (low_N _ _ _ (by omega) (by omega)).mono ?_; rintro e w' ⟨rfl, rfl⟩) | (go_at_call 17; refine (bytes_any _ _ _).mono ?_; rintro e w' ⟨rfl, hg⟩) | (go_at_call 19; refine (num_any _ _ (by assumption)).mono ?_; rintro e w' ⟨rfl, rfl⟩)  | (go_at_call 16; refine (told_any _).mono ?_; rintro e w' ⟨rfl, hg⟩))
          go_ret
          exact ⟨rfl, by repeat (first | assumption | refine Grown.trans' ?_ (by assumption))⟩
        · have e1 := bytes_num s (by omega)
          have e0 : bytesS v 8 = bytesN v 8 := rfl
          have e2 := num_behind v b
          have e4 : (bytesN v 8).size = 8 := bytesN_size v 8
          have e3 : (bytesN v 8 ++ b).size ≤ maxLen := by rw [ByteArray.size_append, bytesN_size]; unfold maxLen; omega
          go_wp2_with (first | (go_at_call 21; refine (low_N _ _ _ (by omega) (by omega)).mono ?_; rintro e w' ⟨rfl, rfl⟩) | (go_at_call 17; refine (bytes_any _ _ _).mono ?_; rintro e w' ⟨rfl, hg⟩) | (go_at_call 19; refine (num_any _ _ (by assumption)).mono ?_; rintro e w' ⟨rfl, rfl⟩)  | (go_at_call 16; refine (told_any _).mono ?_; rintro e w' ⟨rfl, hg⟩))
          go_ret
          exact ⟨rfl, by repeat (first | assumption | refine Grown.trans' ?_ (by assumption))⟩
end Go.Proofs.Ytdlbapenkhljcaa
