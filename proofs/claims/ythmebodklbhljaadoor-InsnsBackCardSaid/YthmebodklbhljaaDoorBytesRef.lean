/-
  The contract of the document's answer for nums.Bytes.
-/
import Derived.Test.YthmebodklbhljaaDoorBytes
namespace Go.Proofs.YthmebodklbhljaaDoor
open Go.RowKit

attribute [local go_sem] u64_wrap u8_wrap BitVec.ofInt_add BitVec.ofInt_mul ofInt_sub' ofInt_N ofInt_Nw ofInt_Z wrap64_N mul_shl1 u64_and u64_or N_tmod N_emod ofInt8_tmod256 N_tdiv256

theorem retS {a b : ByteArray} (h : a = b) : Ending.returned (.string a) = .returned (.string b) := by rw [h]
theorem one_lit (w : World) (T : TypeId) (c : BitVec 8) : Lib.Bytes (w.alloc (.cells #[.int .u8 (N c)] T)) w.heap.size 0 ⟨#[UInt8.ofBitVec c]⟩ := by
  intro i hi
  have h0 : i = 0 := by
    have : (ByteArray.mk #[UInt8.ofBitVec c]).size = 1 := rfl
    omega
  subst h0
  have e : (ByteArray.mk #[UInt8.ofBitVec c])[0] = UInt8.ofBitVec c := rfl
  rw [e]
  simp [go_sem, N]

theorem bytesN_snoc (v : BitVec 64) (k : Nat) : bytesN v k ++ ⟨#[UInt8.ofBitVec (byteOf v k)]⟩ = bytesN v (k + 1) := by
  apply ByteArray.ext
  simp [bytesN, List.range_succ]
set_option maxHeartbeats 400000 in
set_option maxRecDepth 100000 in
theorem refBytes_in (v : BitVec 64) (n : Nat) (hn : n ≤ 8) (w : World) :
    Calls Tryd.prog 52 #[.int .u64 (N v), .int .i64 n] w fun e w' => e = .returned (.string (bytesN v n)) ∧ Grown w w' := by
  go_enter Tryd.func52, Tryd.ntmps52
  go_wp2
  go_loopw [0, 5, 6] (fun x s i wr => ∃ k : Nat, k ≤ n ∧ i = .int .i64 k ∧ x = .int .u64 (N (v >>> (8 * k))) ∧ s = .string (bytesN v k) ∧ Grown w wr) (fun _ _ i _ => 8 - (intOf i).toNat)
  case atStart => exact ⟨0, by omega, rfl, by simp, rfl, Grown.refl _⟩
  case round =>
    obtain ⟨k, hk, rfl, rfl, rfl, hg⟩ := hrel
    by_cases hlt : k < n
    · have hsz : (bytesN v k).size ≤ 8 := by rw [bytesN_size]; omega
      go_wp2
      rw [conv_bytes _ _ ⟨#[UInt8.ofBitVec ((v >>> (8 * k)).setWidth 8)]⟩ 1 1 rfl (one_lit _ _ _)]
      go_wp2
      go_roundw
      case rel => exact ⟨k + 1, by omega, by go_num, by rw [← BitVec.shiftRight_add, show 8 * k + 8 = 8 * (k + 1) by omega], congrArg Value.string (bytesN_snoc v k), by go_grown⟩
      case measure => simp [intOf]; omega
    · go_wp2
      go_ret
      exact ⟨retS (by rw [show k = n by omega]), hg⟩
set_option maxHeartbeats 400000 in
theorem refBytes_out (v : BitVec 64) (n : Int) (hn : n < 0 ∨ 8 < n) (w : World) :
    Calls Tryd.prog 52 #[.int .u64 (N v), .int .i64 n] w fun e w' => e = .returned (.string ⟨#[]⟩) ∧ Grown w w' := by
  by_cases h0 : n < 0
  · clear hn
    go_enter Tryd.func52, Tryd.ntmps52
    go_wp2
    go_ret
    exact ⟨rfl, by go_grown⟩
  · have h8 : 8 < n := by omega
    clear hn
    go_enter Tryd.func52, Tryd.ntmps52
    go_wp2
    go_ret
    exact ⟨rfl, by go_grown⟩

theorem refBytes_any (v : BitVec 64) (n : Int) (w : World) :
    Calls Tryd.prog 52 #[.int .u64 (N v), .int .i64 n] w fun e w' => e = .returned (.string (bytesS v n)) ∧ Grown w w' := by
  unfold bytesS
  by_cases h : n < 0 ∨ 8 < n
  · rw [if_pos h]; exact refBytes_out v n h w
  · rw [if_neg h]
    obtain ⟨k, rfl⟩ := Int.eq_ofNat_of_zero_le (show 0 ≤ n by omega)
    rw [Int.toNat_natCast]
    exact refBytes_in v k (by omega) w
end Go.Proofs.YthmebodklbhljaaDoor
