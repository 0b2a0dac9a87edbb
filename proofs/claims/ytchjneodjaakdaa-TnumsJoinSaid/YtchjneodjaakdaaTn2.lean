/-
  Contracts of package tnums, second part: shifts, lowest bits, what has numbers.
-/
import Derived.Test.YtchjneodjaakdaaTn
import Derived.Test.YtchjneodjaakdaaShelf
namespace Go.Proofs.Ytchjneodjaakdaa
open Go.RowKit

theorem i64_wrap_N (v : BitVec 64) : IntKind.i64.wrap (N v) = Z v := by
  rw [← wrap64_N]; unfold wrap64; rw [IntKind.wrap_i64]
attribute [local go_sem] i64_wrap_N u64_wrap BitVec.ofInt_add BitVec.ofInt_mul ofInt_sub' ofInt_N ofInt_Nw ofInt_Z ofInt_pow ofInt_shl mul_shl1 wrap64_N N_shr Z_shr u64_and u64_or u64_xor u64_andNot

def tLsh (av am : W64) (n : Nat) : W64 × W64 := tOf (av <<< n) (am <<< n)
def tRsh (av am : W64) (n : Nat) : W64 × W64 := tOf (av >>> n) (am >>> n)
def tArsh (av am : W64) (n : Nat) : W64 × W64 := tOf (av.sshiftRight n) (am.sshiftRight n)
def tLow (av am : W64) (b : Int) : W64 × W64 := if b < 1 then (0#64, 0#64) else if 64 ≤ b then (av, am) else tOf (av &&& (1#64 <<< b.toNat - 1#64)) (am &&& (1#64 <<< b.toNat - 1#64))
def tRange (lo hi : W64) : W64 × W64 := tOf lo (1#64 <<< min (Lib.bitLen (lo.toNat ^^^ hi.toNat)) 64 - 1#64)
theorem and63 (x : Int) : ∃ m : Nat, bits .and .i64 x 63 = m ∧ m < 64 ∧ m = (BitVec.ofInt 64 x &&& 63#64).toNat := by
  refine ⟨(BitVec.ofInt 64 x &&& 63#64).toNat, ?_, ?_, rfl⟩
  · show IntKind.i64.wrap (((BitVec.ofInt 64 x &&& BitVec.ofInt 64 63).toNat : Nat) : Int) = _
    have h : (BitVec.ofInt 64 x &&& BitVec.ofInt 64 63).toNat ≤ 63 := by
      rw [BitVec.toNat_and]; exact Nat.and_le_right
    rw [IntKind.wrap_i64]
    show _ = (((BitVec.ofInt 64 x &&& BitVec.ofInt 64 63).toNat : Nat) : Int)
    omega
  · rw [BitVec.toNat_and]
    exact Nat.lt_of_le_of_lt Nat.and_le_right (by decide)

set_option maxHeartbeats 1000000 in
theorem tn_lsh (av am : W64) (x : Int) (m : Nat) (hx : bits .and .i64 x 63 = m) (hm : m < 64) (w : World) : Calls Try.prog 21 #[.agg #[.int .u64 (N av), .int .u64 (N am)], .int .i64 x] w fun e w' => e = .returned (.agg #[.int .u64 (N (tLsh av am m).1), .int .u64 (N (tLsh av am m).2)]) ∧ Grown w w' := by
  go_enter Try.func21, Try.ntmps21
  go_wp2
  go_region_with (go_at_call 51; refine (tn_ofX _ _ _).mono ?_; rintro e w' ⟨rfl, rfl⟩)
  all_goals
    go_wp2
    go_returns
    exact ⟨rfl, by go_grown⟩

set_option maxHeartbeats 1000000 in
theorem tn_rsh (av am : W64) (x : Int) (m : Nat) (hx : bits .and .i64 x 63 = m) (hm : m < 64) (w : World) : Calls Try.prog 22 #[.agg #[.int .u64 (N av), .int .u64 (N am)], .int .i64 x] w fun e w' => e = .returned (.agg #[.int .u64 (N (tRsh av am m).1), .int .u64 (N (tRsh av am m).2)]) ∧ Grown w w' := by
  go_enter Try.func22, Try.ntmps22
  go_wp2
  go_region_with (go_at_call 51; refine (tn_ofX _ _ _).mono ?_; rintro e w' ⟨rfl, rfl⟩)
  all_goals
    go_wp2
    go_returns
    exact ⟨rfl, by go_grown⟩

set_option maxHeartbeats 1000000 in
theorem tn_arsh (av am : W64) (x : Int) (m : Nat) (hx : bits .and .i64 x 63 = m) (hm : m < 64) (w : World) : Calls Try.prog 23 #[.agg #[.int .u64 (N av), .int .u64 (N am)], .int .i64 x] w fun e w' => e = .returned (.agg #[.int .u64 (N (tArsh av am m).1), .int .u64 (N (tArsh av am m).2)]) ∧ Grown w w' := by
  go_enter Try.func23, Try.ntmps23
  go_wp2
  go_region_with (go_at_call 51; refine (tn_ofX _ _ _).mono ?_; rintro e w' ⟨rfl, rfl⟩)
  all_goals
    go_wp2
    go_returns
    exact ⟨rfl, by go_grown⟩

set_option maxHeartbeats 1000000 in
theorem tn_low (av am : W64) (b : Int) (h1 : -9223372036854775808 ≤ b) (h2 : b ≤ 9223372036854775807) (w : World) : Calls Try.prog 24 #[.agg #[.int .u64 (N av), .int .u64 (N am)], .int .i64 b] w fun e w' => e = .returned (.agg #[.int .u64 (N (tLow av am b).1), .int .u64 (N (tLow av am b).2)]) ∧ Grown w w' := by
  unfold tLow
  by_cases h0 : b < 1
  · rw [if_pos h0]
    go_enter Try.func24, Try.ntmps24
    go_wp2
    go_returns
    exact ⟨rfl, by go_grown⟩
  · rw [if_neg h0]
    by_cases h3 : 64 ≤ b
    · rw [if_pos h3]
      go_enter Try.func24, Try.ntmps24
      go_wp2
      go_returns
      exact ⟨rfl, by go_grown⟩
    · rw [if_neg h3]
      go_enter Try.func24, Try.ntmps24
      go_wp2
      go_returns
      exact ⟨rfl, by go_grown⟩

set_option maxHeartbeats 1000000 in
theorem tn_range (lo hi : W64) (w : World) : Calls Try.prog 27 #[.int .u64 (N lo), .int .u64 (N hi)] w fun e w' => e = .returned (.agg #[.int .u64 (N (tRange lo hi).1), .int .u64 (N (tRange lo hi).2)]) ∧ Grown w w' := by
  have hN : (N (lo ^^^ hi)).toNat = (lo ^^^ hi).toNat := by unfold N; simp
  unfold tRange
  go_enter Try.func27, Try.ntmps27
  go_wp2_with (first | (go_at_call 55; refine (Try.bits_Len64 _ _ (N_nonneg _) (by have := N_lt (lo ^^^ hi); omega)).mono ?_; rintro e w' ⟨rfl, rfl⟩) | go_in)
  go_returns
  exact ⟨rfl, by go_grown⟩

set_option maxHeartbeats 1000000 in
theorem tn_both (av am bv bm : W64) (w : World) : Calls Try.prog 29 #[.agg #[.int .u64 (N av), .int .u64 (N am)], .agg #[.int .u64 (N bv), .int .u64 (N bm)]] w fun e w' => e = .returned (if (N ((av ^^^ bv) &&& ~~~am &&& ~~~bm) == 0) = true then .tuple #[.agg #[.int .u64 (N (tOf (av ||| bv) (am &&& bm)).1), .int .u64 (N (tOf (av ||| bv) (am &&& bm)).2)], .bool true] else .tuple #[.agg #[.int .u64 0, .int .u64 0], .bool false]) ∧ Grown w w' := by
  by_cases h : N ((av ^^^ bv) &&& ~~~am &&& ~~~bm) = 0
  · rw [if_pos (by rw [h]; rfl)]
    go_enter Try.func29, Try.ntmps29
    go_wp2
    go_returns
    exact ⟨rfl, by go_grown⟩
  · rw [if_neg (by simpa using h)]
    have h1 : (N ((av ^^^ bv) &&& ~~~am &&& ~~~bm) != 0) = true := by simpa using h
    clear h
    go_enter Try.func29, Try.ntmps29
    go_wp2
    go_returns
    exact ⟨rfl, by go_grown⟩

set_option maxHeartbeats 1000000 in
theorem tn_in (av am bv bm : W64) (w : World) : Calls Try.prog 30 #[.agg #[.int .u64 (N av), .int .u64 (N am)], .agg #[.int .u64 (N bv), .int .u64 (N bm)]] w fun e w' => e = .returned (.bool ((N (bm &&& ~~~am) == 0) && (N (bv &&& ~~~am) == N av))) ∧ Grown w w' := by
  cases h : (N (bm &&& ~~~am) == 0)
  all_goals
    go_enter Try.func30, Try.ntmps30
    go_wp2
    go_returns
    exact ⟨rfl, by go_grown⟩

set_option maxHeartbeats 1000000 in
theorem tn_has (av am v : W64) (w : World) : Calls Try.prog 52 #[.agg #[.int .u64 (N av), .int .u64 (N am)], .int .u64 (N v)] w fun e w' => e = .returned (.bool (N (v &&& ~~~am) == N av)) ∧ Grown w w' := by
  go_enter Try.func52, Try.ntmps52
  go_wp2
  go_returns
  exact ⟨rfl, by go_grown⟩

set_option maxHeartbeats 1000000 in
theorem tn_valid (av am : W64) (w : World) : Calls Try.prog 25 #[.agg #[.int .u64 (N av), .int .u64 (N am)]] w fun e w' => e = .returned (.bool (N (av &&& am) == 0)) ∧ Grown w w' := by
  go_enter Try.func25, Try.ntmps25
  go_wp2
  go_returns
  exact ⟨rfl, by go_grown⟩

set_option maxHeartbeats 1000000 in
theorem tn_const (x : Int) (w : World) : Calls Try.prog 13 #[.int .u64 x] w fun e w' => e = .returned (.agg #[.int .u64 x, .int .u64 0]) ∧ Grown w w' := by
  go_enter Try.func13, Try.ntmps13
  go_wp2
  go_returns
  exact ⟨rfl, by go_grown⟩

set_option maxHeartbeats 1000000 in
theorem tn_anyT (w : World) : Calls Try.prog 53 #[] w fun e w' => e = .returned (.agg #[.int .u64 0, .int .u64 18446744073709551615]) ∧ Grown w w' := by
  go_enter Try.func53, Try.ntmps53
  go_wp2
  go_returns
  exact ⟨rfl, by go_grown⟩
end Go.Proofs.Ytchjneodjaakdaa
