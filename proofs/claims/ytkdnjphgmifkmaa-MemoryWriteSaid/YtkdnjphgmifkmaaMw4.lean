/-
  The law MemoryWrite: its numbers and its texts.
-/
import Derived.Test.YtkdnjphgmifkmaaMw2
namespace Go.Proofs.Ytkdnjphgmifkmaa.Ex
open Go Go.RowKit
set_option maxHeartbeats 400000
set_option linter.unusedVariables false
theorem wr64' (x : Int) : wu x = x % 18446744073709551616 := by simp [wu, IntKind.wrap, IntKind.signed, IntKind.bits]
theorem wu_id {x : Int} (h1 : 0 ≤ x) (h2 : x < 18446744073709551616) : wu x = x := by rw [wr64']; omega
theorem wi_id {x : Int} (h1 : 0 ≤ x) (h2 : x < 9223372036854775808) : wi x = x := by
  have e : x % 2 ^ 64 = x := by omega
  simp only [wi, IntKind.wrap, IntKind.signed, IntKind.bits, e]
  rw [if_neg]
  simp only [Bool.true_and, decide_eq_true_eq]
  omega
theorem nW_eq {x : Int} (h1 : 0 ≤ x) (h2 : x < 18446744073709551616) : nW x = 18446744073709551615 - x := by
  have e : (BitVec.ofInt 64 (if IntKind.u64.signed = true then -1 else IntKind.u64.max) : BitVec 64) = BitVec.allOnes 64 := by decide
  unfold nW
  rw [e, BitVec.xor_comm, BitVec.xor_allOnes, BitVec.toNat_not, BitVec.toNat_ofInt, wr64']
  omega
theorem mAt_eq {s n ad : Int} (hn : 1 ≤ n) (hn8 : n ≤ 8) (hs : 8 ≤ s) (hs3 : s ≤ 300) (ha : 0 ≤ ad) : ∃ t : Nat, mAt s n ad = t ∧ (t : Int) + n ≤ s := by
  have e : wu (wi (wi (s - n) + 1)) = s - n + 1 := by rw [wi_id (x := s - n) (by omega) (by omega), wi_id (by omega) (by omega), wu_id (by omega) (by omega)]
  have h1 : 0 ≤ Int.tmod ad (s - n + 1) := Int.tmod_nonneg _ ha
  have h2 : Int.tmod ad (s - n + 1) < s - n + 1 := Int.tmod_lt_of_pos _ (by omega)
  refine ⟨(Int.tmod ad (s - n + 1)).toNat, ?_, by omega⟩
  unfold mAt
  rw [e, wi_id h1 (by omega)]
  omega
theorem mwC_back (M : List UInt8) : (mwC M).map u8Of = M := by
  unfold mwC
  rw [List.map_map]
  conv => rhs; rw [← List.map_id M]
  apply List.map_congr_left
  intro c _
  simp [u8Of]
theorem mwC_len (M : List UInt8) : (mwC M).length = M.length := by simp [mwC]
theorem mwC_u8 (M : List UInt8) : (mwC M).all isU8 = true := List.all_eq_true.2 fun v hv => by obtain ⟨c, _, rfl⟩ := List.mem_map.1 hv; rfl
theorem mwC_scal (M : List UInt8) : (mwC M).all scal = true := List.all_eq_true.2 fun v hv => by obtain ⟨c, _, rfl⟩ := List.mem_map.1 hv; rfl
theorem mwC_one (M : List UInt8) : (mwC M).all (·.oneCell') = true := oneCell_u8 M
theorem mwK_eq (L : List UInt8) : mwK L = mwC L := by
  unfold mwK
  rw [List.drop_zero, List.take_of_length_le]
  rw [mwC_len]; exact Nat.le_refl _
theorem mTx_eq (M : List UInt8) (o u : Int) : mTx (mwC M) o u = ⟨⟨(M.drop o.toNat).take (u.toNat - o.toNat)⟩⟩ := by
  unfold mTx
  rw [List.map_take, List.map_drop, mwC_back]
  simp
theorem mSp_eq (L : List UInt8) (t : Nat) (vv n : Int) : mSp L t vv n = mwC (L.take t ++ (bytesS (BitVec.ofInt 64 vv) n).data.toList ++ L.drop (t + (bytesS (BitVec.ofInt 64 vv) n).data.toList.length)) := by
  simp [mSp, splice, mwC, List.map_append, List.map_take, List.map_drop]
end Go.Proofs.Ytkdnjphgmifkmaa.Ex
