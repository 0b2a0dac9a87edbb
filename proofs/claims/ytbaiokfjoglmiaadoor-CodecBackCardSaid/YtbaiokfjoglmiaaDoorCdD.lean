/-
  Layer 11: instructions that are cut to such as may be.
-/
import Derived.Test.YtbaiokfjoglmiaaDoorCd9
namespace Go.Proofs.YtbaiokfjoglmiaaDoor.Ex
open Go Go.RowKit
set_option linter.unusedVariables false
set_option linter.unusedSimpArgs false
set_option maxHeartbeats 0
set_option maxRecDepth 1000000
def kE (k : Int) : Int := IntKind.i64.wrap (1 + Int.tmod (IntKind.i64.wrap (Int.tmod k 21 + 21)) 21)
def ixE (n a : Int) : Int := Int.tmod (IntKind.i64.wrap (Int.tmod a n + n)) n
def anE (c x : Int) : Int := IntKind.i64.wrap ((BitVec.ofInt IntKind.i64.bits x &&& BitVec.ofInt IntKind.i64.bits c).toNat : Int)
def woE (x : Int) : Int := IntKind.i64.wrap (IntKind.i32.wrap x)
def shE (x : Int) : Int := IntKind.i32.wrap (IntKind.i8.wrap x)
def cutOrc (K i : Int) (s : Nat) : Orc := fun f t _ =>
  if Nat.beq f 20 then (if Nat.beq t 12 then some (.int .i64 K) else if Nat.beq t s then some (.int .i64 i) else none) else none
theorem i64_wrap (x : Int) : IntKind.i64.wrap x = if x % 18446744073709551616 ≥ 9223372036854775808 then x % 18446744073709551616 - 18446744073709551616 else x % 18446744073709551616 := by
  simp [IntKind.wrap, IntKind.signed, IntKind.bits]
theorem tm_bd (x n : Int) (h : 0 < n) : -n < Int.tmod x n ∧ Int.tmod x n < n := by
  have h1 := Int.lt_tmod_of_pos x h
  have h2 := Int.tmod_lt_of_pos x h
  exact ⟨h1, h2⟩
theorem ix_bd (n a : Int) (h : 0 < n) (h2 : n < 1000) : 0 ≤ ixE n a ∧ ixE n a < n := by
  have h1 := tm_bd a n h
  unfold ixE
  rw [wr64 (by omega) (by omega)]
  exact ⟨Int.tmod_nonneg _ (by omega), Int.tmod_lt_of_pos _ h⟩
theorem kE_bd (k : Int) : 1 ≤ kE k ∧ kE k ≤ 21 := by
  have h := ix_bd 21 k (by decide) (by decide)
  unfold kE
  rw [show Int.tmod (IntKind.i64.wrap (Int.tmod k 21 + 21)) 21 = ixE 21 k from rfl, wr64 (by omega) (by omega)]
  omega
theorem an_bd (n : Nat) (c x : Int) (hc : (BitVec.ofInt 64 c).toNat < n) (hn : n < 1000) : 0 ≤ anE c x ∧ anE c x < n := by
  have h : (BitVec.ofInt 64 x &&& BitVec.ofInt 64 c).toNat < n := by
    rw [BitVec.toNat_and]
    exact Nat.lt_of_le_of_lt Nat.and_le_right hc
  unfold anE
  have e : IntKind.i64.bits = 64 := rfl
  rw [e, wr64 (by omega) (by omega)]
  omega
theorem an15 (x : Int) : regS (anE 15 x) = true := by
  have h := an_bd 16 15 x (by decide) (by decide)
  simp only [regS, Bool.and_eq_true, decide_eq_true_eq]
  omega
theorem wo_eq (x : Int) : (woE x == IntKind.i64.wrap (IntKind.i32.wrap (woE x))) = true := by
  have h : -2147483648 ≤ IntKind.i32.wrap x ∧ IntKind.i32.wrap x < 2147483648 := by
    rw [show IntKind.i32.wrap x = if x % 4294967296 ≥ 2147483648 then x % 4294967296 - 4294967296 else x % 4294967296 by simp [IntKind.wrap, IntKind.signed, IntKind.bits]]
    split <;> omega
  unfold woE
  rw [wr64 (x := IntKind.i32.wrap x) (by omega) (by omega), beq_iff_eq]
  have e : ∀ y : Int, -2147483648 ≤ y → y < 2147483648 → IntKind.i32.wrap y = y := fun y h1 h2 => by
    rw [show IntKind.i32.wrap y = if y % 4294967296 ≥ 2147483648 then y % 4294967296 - 4294967296 else y % 4294967296 by simp [IntKind.wrap, IntKind.signed, IntKind.bits]]
    split <;> omega
  rw [e _ h.1 h.2, wr64 (by omega) (by omega)]
theorem sh_eq (x : Int) : (shE x == IntKind.i32.wrap (IntKind.i8.wrap (shE x))) = true := by
  have w8 : ∀ y : Int, IntKind.i8.wrap y = if y % 256 ≥ 128 then y % 256 - 256 else y % 256 := fun y => by simp [IntKind.wrap, IntKind.signed, IntKind.bits]
  have w32 : ∀ y : Int, IntKind.i32.wrap y = if y % 4294967296 ≥ 2147483648 then y % 4294967296 - 4294967296 else y % 4294967296 := fun y => by simp [IntKind.wrap, IntKind.signed, IntKind.bits]
  unfold shE
  rw [beq_iff_eq]
  have h : -128 ≤ IntKind.i8.wrap x ∧ IntKind.i8.wrap x < 128 := by rw [w8]; split <;> omega
  generalize IntKind.i8.wrap x = y at h
  have e : IntKind.i32.wrap y = y := by rw [w32]; split <;> omega
  rw [e, w8, w32]
  split <;> split <;> omega
theorem cut1_0 (k : Int) (al co si : Int) (wi sh : Bool) (ds sr dp re im : Int) : Lf [] 20 [.agg ⟨(xA k al co si wi sh ds sr dp re im)⟩] (.agg ⟨(xA 1 0 0 0 wi false (anE 15 ds) (anE 15 sr) 0 0 0)⟩) [(kE k, 1)] := lf hkZ_ok (cutOrc 1 0 99999) (by kernel_rfl) (by kernel_rfl) (by kernel_rfl)
theorem cut2_0 (k : Int) (al co si : Int) (wi sh : Bool) (ds sr dp re im : Int) : Lf [] 20 [.agg ⟨(xA k al co si wi sh ds sr dp re im)⟩] (.agg ⟨(xA 2 0 0 0 true false (anE 15 ds) 0 0 0 (woE im))⟩) [(kE k, 2)] := lf hkZ_ok (cutOrc 2 0 99999) (by kernel_rfl) (by kernel_rfl) (by kernel_rfl)
theorem cut3_0 (k : Int) (al co si : Int) (wi sh : Bool) (ds sr dp re im : Int) : Lf [] 20 [.agg ⟨(xA k al co si wi sh ds sr dp re im)⟩] (.agg ⟨(xA 3 0 0 0 true false (anE 15 ds) 0 0 0 im)⟩) [(kE k, 3)] := lf hkZ_ok (cutOrc 3 0 99999) (by kernel_rfl) (by kernel_rfl) (by kernel_rfl)
theorem cut4_0 (k : Int) (al co si : Int) (wi sh : Bool) (ds sr dp re im : Int) : Lf [] 20 [.agg ⟨(xA k al co si wi sh ds sr dp re im)⟩] (.agg ⟨(xA 4 0 0 0 wi false (anE 15 ds) (anE 15 sr) 0 0 0)⟩) [(kE k, 4), (ixE 6 al, 0)] := lf hkZ_ok (cutOrc 4 0 44) (by kernel_rfl) (by kernel_rfl) (by kernel_rfl)
theorem cut4_1 (k : Int) (al co si : Int) (wi sh : Bool) (ds sr dp re im : Int) : Lf [] 20 [.agg ⟨(xA k al co si wi sh ds sr dp re im)⟩] (.agg ⟨(xA 4 1 0 0 wi false (anE 15 ds) (anE 15 sr) 0 0 0)⟩) [(kE k, 4), (ixE 6 al, 1)] := lf hkZ_ok (cutOrc 4 1 44) (by kernel_rfl) (by kernel_rfl) (by kernel_rfl)
theorem cut4_2 (k : Int) (al co si : Int) (wi sh : Bool) (ds sr dp re im : Int) : Lf [] 20 [.agg ⟨(xA k al co si wi sh ds sr dp re im)⟩] (.agg ⟨(xA 4 4 0 0 wi false (anE 15 ds) (anE 15 sr) 0 0 0)⟩) [(kE k, 4), (ixE 6 al, 2)] := lf hkZ_ok (cutOrc 4 2 44) (by kernel_rfl) (by kernel_rfl) (by kernel_rfl)
theorem cut4_3 (k : Int) (al co si : Int) (wi sh : Bool) (ds sr dp re im : Int) : Lf [] 20 [.agg ⟨(xA k al co si wi sh ds sr dp re im)⟩] (.agg ⟨(xA 4 5 0 0 wi false (anE 15 ds) (anE 15 sr) 0 0 0)⟩) [(kE k, 4), (ixE 6 al, 3)] := lf hkZ_ok (cutOrc 4 3 44) (by kernel_rfl) (by kernel_rfl) (by kernel_rfl)
theorem cut4_4 (k : Int) (al co si : Int) (wi sh : Bool) (ds sr dp re im : Int) : Lf [] 20 [.agg ⟨(xA k al co si wi sh ds sr dp re im)⟩] (.agg ⟨(xA 4 6 0 0 wi false (anE 15 ds) (anE 15 sr) 0 0 0)⟩) [(kE k, 4), (ixE 6 al, 4)] := lf hkZ_ok (cutOrc 4 4 44) (by kernel_rfl) (by kernel_rfl) (by kernel_rfl)
theorem cut4_5 (k : Int) (al co si : Int) (wi sh : Bool) (ds sr dp re im : Int) : Lf [] 20 [.agg ⟨(xA k al co si wi sh ds sr dp re im)⟩] (.agg ⟨(xA 4 7 0 0 wi false (anE 15 ds) (anE 15 sr) 0 0 0)⟩) [(kE k, 4), (ixE 6 al, 5)] := lf hkZ_ok (cutOrc 4 5 44) (by kernel_rfl) (by kernel_rfl) (by kernel_rfl)
theorem cut5_0 (k : Int) (al co si : Int) (wi sh : Bool) (ds sr dp re im : Int) : Lf [] 20 [.agg ⟨(xA k al co si wi sh ds sr dp re im)⟩] (.agg ⟨(xA 5 0 0 0 wi false (anE 15 ds) 0 0 0 (woE im))⟩) [(kE k, 5), (ixE 6 al, 0)] := lf hkZ_ok (cutOrc 5 0 61) (by kernel_rfl) (by kernel_rfl) (by kernel_rfl)
theorem cut5_1 (k : Int) (al co si : Int) (wi sh : Bool) (ds sr dp re im : Int) : Lf [] 20 [.agg ⟨(xA k al co si wi sh ds sr dp re im)⟩] (.agg ⟨(xA 5 1 0 0 wi false (anE 15 ds) 0 0 0 (woE im))⟩) [(kE k, 5), (ixE 6 al, 1)] := lf hkZ_ok (cutOrc 5 1 61) (by kernel_rfl) (by kernel_rfl) (by kernel_rfl)
theorem cut5_2 (k : Int) (al co si : Int) (wi sh : Bool) (ds sr dp re im : Int) : Lf [] 20 [.agg ⟨(xA k al co si wi sh ds sr dp re im)⟩] (.agg ⟨(xA 5 4 0 0 wi false (anE 15 ds) 0 0 0 (woE im))⟩) [(kE k, 5), (ixE 6 al, 2)] := lf hkZ_ok (cutOrc 5 2 61) (by kernel_rfl) (by kernel_rfl) (by kernel_rfl)
theorem cut5_3 (k : Int) (al co si : Int) (wi sh : Bool) (ds sr dp re im : Int) : Lf [] 20 [.agg ⟨(xA k al co si wi sh ds sr dp re im)⟩] (.agg ⟨(xA 5 5 0 0 wi false (anE 15 ds) 0 0 0 (woE im))⟩) [(kE k, 5), (ixE 6 al, 3)] := lf hkZ_ok (cutOrc 5 3 61) (by kernel_rfl) (by kernel_rfl) (by kernel_rfl)
theorem cut5_4 (k : Int) (al co si : Int) (wi sh : Bool) (ds sr dp re im : Int) : Lf [] 20 [.agg ⟨(xA k al co si wi sh ds sr dp re im)⟩] (.agg ⟨(xA 5 6 0 0 wi false (anE 15 ds) 0 0 0 (woE im))⟩) [(kE k, 5), (ixE 6 al, 4)] := lf hkZ_ok (cutOrc 5 4 61) (by kernel_rfl) (by kernel_rfl) (by kernel_rfl)
theorem cut5_5 (k : Int) (al co si : Int) (wi sh : Bool) (ds sr dp re im : Int) : Lf [] 20 [.agg ⟨(xA k al co si wi sh ds sr dp re im)⟩] (.agg ⟨(xA 5 7 0 0 wi false (anE 15 ds) 0 0 0 (woE im))⟩) [(kE k, 5), (ixE 6 al, 5)] := lf hkZ_ok (cutOrc 5 5 61) (by kernel_rfl) (by kernel_rfl) (by kernel_rfl)
theorem cut6_0 (k : Int) (al co si : Int) (wi sh : Bool) (ds sr dp re im : Int) : Lf [] 20 [.agg ⟨(xA k al co si wi sh ds sr dp re im)⟩] (.agg ⟨(xA 6 0 0 0 wi false (anE 15 ds) (anE 15 sr) 0 0 0)⟩) [(kE k, 6)] := lf hkZ_ok (cutOrc 6 0 99999) (by kernel_rfl) (by kernel_rfl) (by kernel_rfl)
theorem cut7_0 (k : Int) (al co si : Int) (wi sh : Bool) (ds sr dp re im : Int) : Lf [] 20 [.agg ⟨(xA k al co si wi sh ds sr dp re im)⟩] (.agg ⟨(xA 7 0 0 0 wi false (anE 15 ds) 0 0 0 0)⟩) [(kE k, 7)] := lf hkZ_ok (cutOrc 7 0 99999) (by kernel_rfl) (by kernel_rfl) (by kernel_rfl)
theorem cut8_0 (k : Int) (al co si : Int) (wi sh : Bool) (ds sr dp re im : Int) : Lf [] 20 [.agg ⟨(xA k al co si wi sh ds sr dp re im)⟩] (.agg ⟨(xA 8 0 0 0 wi false (anE 15 ds) 0 0 0 0)⟩) [(kE k, 8)] := lf hkZ_ok (cutOrc 8 0 99999) (by kernel_rfl) (by kernel_rfl) (by kernel_rfl)
theorem cut9_0 (k : Int) (al co si : Int) (wi sh : Bool) (ds sr dp re im : Int) : Lf [] 20 [.agg ⟨(xA k al co si wi sh ds sr dp re im)⟩] (.agg ⟨(xA 9 0 0 0 wi false (anE 15 ds) 0 0 0 0)⟩) [(kE k, 9)] := lf hkZ_ok (cutOrc 9 0 99999) (by kernel_rfl) (by kernel_rfl) (by kernel_rfl)
theorem cut10_0 (k : Int) (al co si : Int) (wi sh : Bool) (ds sr dp re im : Int) : Lf [] 20 [.agg ⟨(xA k al co si wi sh ds sr dp re im)⟩] (.agg ⟨(xA 10 0 0 0 wi false (anE 15 ds) (anE 15 sr) 0 0 0)⟩) [(kE k, 10)] := lf hkZ_ok (cutOrc 10 0 99999) (by kernel_rfl) (by kernel_rfl) (by kernel_rfl)
theorem cut11_0 (k : Int) (al co si : Int) (wi sh : Bool) (ds sr dp re im : Int) : Lf [] 20 [.agg ⟨(xA k al co si wi sh ds sr dp re im)⟩] (.agg ⟨(xA 11 4 0 0 wi false (anE 15 ds) 0 0 0 (anE 31 im))⟩) [(kE k, 11), (ixE 3 al, 0)] := lf hkZ_ok (cutOrc 11 0 102) (by kernel_rfl) (by kernel_rfl) (by kernel_rfl)
theorem cut11_1 (k : Int) (al co si : Int) (wi sh : Bool) (ds sr dp re im : Int) : Lf [] 20 [.agg ⟨(xA k al co si wi sh ds sr dp re im)⟩] (.agg ⟨(xA 11 5 0 0 wi false (anE 15 ds) 0 0 0 (anE 31 im))⟩) [(kE k, 11), (ixE 3 al, 1)] := lf hkZ_ok (cutOrc 11 1 102) (by kernel_rfl) (by kernel_rfl) (by kernel_rfl)
theorem cut11_2 (k : Int) (al co si : Int) (wi sh : Bool) (ds sr dp re im : Int) : Lf [] 20 [.agg ⟨(xA k al co si wi sh ds sr dp re im)⟩] (.agg ⟨(xA 11 7 0 0 wi false (anE 15 ds) 0 0 0 (anE 31 im))⟩) [(kE k, 11), (ixE 3 al, 2)] := lf hkZ_ok (cutOrc 11 2 102) (by kernel_rfl) (by kernel_rfl) (by kernel_rfl)
theorem cut12_0 (k : Int) (al co si : Int) (wi sh : Bool) (ds sr dp re im : Int) : Lf [] 20 [.agg ⟨(xA k al co si wi sh ds sr dp re im)⟩] (.agg ⟨(xA 12 4 0 0 wi false (anE 15 ds) 0 0 0 0)⟩) [(kE k, 12), (ixE 3 al, 0)] := lf hkZ_ok (cutOrc 12 0 121) (by kernel_rfl) (by kernel_rfl) (by kernel_rfl)
theorem cut12_1 (k : Int) (al co si : Int) (wi sh : Bool) (ds sr dp re im : Int) : Lf [] 20 [.agg ⟨(xA k al co si wi sh ds sr dp re im)⟩] (.agg ⟨(xA 12 5 0 0 wi false (anE 15 ds) 0 0 0 0)⟩) [(kE k, 12), (ixE 3 al, 1)] := lf hkZ_ok (cutOrc 12 1 121) (by kernel_rfl) (by kernel_rfl) (by kernel_rfl)
theorem cut12_2 (k : Int) (al co si : Int) (wi sh : Bool) (ds sr dp re im : Int) : Lf [] 20 [.agg ⟨(xA k al co si wi sh ds sr dp re im)⟩] (.agg ⟨(xA 12 7 0 0 wi false (anE 15 ds) 0 0 0 0)⟩) [(kE k, 12), (ixE 3 al, 2)] := lf hkZ_ok (cutOrc 12 2 121) (by kernel_rfl) (by kernel_rfl) (by kernel_rfl)
theorem cut13_0 (k : Int) (al co si : Int) (wi sh : Bool) (ds sr dp re im : Int) : Lf [] 20 [.agg ⟨(xA k al co si wi sh ds sr dp re im)⟩] (.agg ⟨(xA 13 0 0 1 false false (anE 15 ds) (anE 15 sr) dp 0 0)⟩) [(kE k, 13), (anE 3 si, 0)] := lf hkZ_ok (cutOrc 13 0 134) (by kernel_rfl) (by kernel_rfl) (by kernel_rfl)
theorem cut13_1 (k : Int) (al co si : Int) (wi sh : Bool) (ds sr dp re im : Int) : Lf [] 20 [.agg ⟨(xA k al co si wi sh ds sr dp re im)⟩] (.agg ⟨(xA 13 0 0 2 false false (anE 15 ds) (anE 15 sr) dp 0 0)⟩) [(kE k, 13), (anE 3 si, 1)] := lf hkZ_ok (cutOrc 13 1 134) (by kernel_rfl) (by kernel_rfl) (by kernel_rfl)
theorem cut13_2 (k : Int) (al co si : Int) (wi sh : Bool) (ds sr dp re im : Int) : Lf [] 20 [.agg ⟨(xA k al co si wi sh ds sr dp re im)⟩] (.agg ⟨(xA 13 0 0 4 false false (anE 15 ds) (anE 15 sr) dp 0 0)⟩) [(kE k, 13), (anE 3 si, 2)] := lf hkZ_ok (cutOrc 13 2 134) (by kernel_rfl) (by kernel_rfl) (by kernel_rfl)
theorem cut13_3 (k : Int) (al co si : Int) (wi sh : Bool) (ds sr dp re im : Int) : Lf [] 20 [.agg ⟨(xA k al co si wi sh ds sr dp re im)⟩] (.agg ⟨(xA 13 0 0 8 true false (anE 15 ds) (anE 15 sr) dp 0 0)⟩) [(kE k, 13), (anE 3 si, 3)] := lf hkZ_ok (cutOrc 13 3 134) (by kernel_rfl) (by kernel_rfl) (by kernel_rfl)
theorem cut14_0 (k : Int) (al co si : Int) (wi sh : Bool) (ds sr dp re im : Int) : Lf [] 20 [.agg ⟨(xA k al co si wi sh ds sr dp re im)⟩] (.agg ⟨(xA 14 0 0 1 false false (anE 15 ds) (anE 15 sr) dp 0 0)⟩) [(kE k, 14), (anE 3 si, 0)] := lf hkZ_ok (cutOrc 14 0 134) (by kernel_rfl) (by kernel_rfl) (by kernel_rfl)
theorem cut14_1 (k : Int) (al co si : Int) (wi sh : Bool) (ds sr dp re im : Int) : Lf [] 20 [.agg ⟨(xA k al co si wi sh ds sr dp re im)⟩] (.agg ⟨(xA 14 0 0 2 false false (anE 15 ds) (anE 15 sr) dp 0 0)⟩) [(kE k, 14), (anE 3 si, 1)] := lf hkZ_ok (cutOrc 14 1 134) (by kernel_rfl) (by kernel_rfl) (by kernel_rfl)
theorem cut14_2 (k : Int) (al co si : Int) (wi sh : Bool) (ds sr dp re im : Int) : Lf [] 20 [.agg ⟨(xA k al co si wi sh ds sr dp re im)⟩] (.agg ⟨(xA 14 0 0 4 false false (anE 15 ds) (anE 15 sr) dp 0 0)⟩) [(kE k, 14), (anE 3 si, 2)] := lf hkZ_ok (cutOrc 14 2 134) (by kernel_rfl) (by kernel_rfl) (by kernel_rfl)
theorem cut14_3 (k : Int) (al co si : Int) (wi sh : Bool) (ds sr dp re im : Int) : Lf [] 20 [.agg ⟨(xA k al co si wi sh ds sr dp re im)⟩] (.agg ⟨(xA 14 0 0 8 true false (anE 15 ds) (anE 15 sr) dp 0 0)⟩) [(kE k, 14), (anE 3 si, 3)] := lf hkZ_ok (cutOrc 14 3 134) (by kernel_rfl) (by kernel_rfl) (by kernel_rfl)
theorem cut15_0_1 (k : Int) (al co si : Int) (wi : Bool) (ds sr dp re im : Int) : Lf [] 20 [.agg ⟨(xA k al co si wi true ds sr dp re im)⟩] (.agg ⟨(xA 15 0 0 0 false true 0 0 0 (shE re) 0)⟩) [(kE k, 15)] := lf hkZ_ok (cutOrc 15 0 99999) (by kernel_rfl) (by kernel_rfl) (by kernel_rfl)
theorem cut15_0_0 (k : Int) (al co si : Int) (wi : Bool) (ds sr dp re im : Int) : Lf [] 20 [.agg ⟨(xA k al co si wi false ds sr dp re im)⟩] (.agg ⟨(xA 15 0 0 0 false false 0 0 0 re 0)⟩) [(kE k, 15)] := lf hkZ_ok (cutOrc 15 0 99999) (by kernel_rfl) (by kernel_rfl) (by kernel_rfl)
theorem cut16_0_1 (k : Int) (al co si : Int) (wi : Bool) (ds sr dp re im : Int) : Lf [] 20 [.agg ⟨(xA k al co si wi true ds sr dp re im)⟩] (.agg ⟨(xA 16 0 2 0 false true 0 0 0 (shE re) 0)⟩) [(kE k, 16), (ixE 10 co, 0)] := lf hkZ_ok (cutOrc 16 0 178) (by kernel_rfl) (by kernel_rfl) (by kernel_rfl)
theorem cut16_1_1 (k : Int) (al co si : Int) (wi : Bool) (ds sr dp re im : Int) : Lf [] 20 [.agg ⟨(xA k al co si wi true ds sr dp re im)⟩] (.agg ⟨(xA 16 0 3 0 false true 0 0 0 (shE re) 0)⟩) [(kE k, 16), (ixE 10 co, 1)] := lf hkZ_ok (cutOrc 16 1 178) (by kernel_rfl) (by kernel_rfl) (by kernel_rfl)
theorem cut16_2_1 (k : Int) (al co si : Int) (wi : Bool) (ds sr dp re im : Int) : Lf [] 20 [.agg ⟨(xA k al co si wi true ds sr dp re im)⟩] (.agg ⟨(xA 16 0 4 0 false true 0 0 0 (shE re) 0)⟩) [(kE k, 16), (ixE 10 co, 2)] := lf hkZ_ok (cutOrc 16 2 178) (by kernel_rfl) (by kernel_rfl) (by kernel_rfl)
theorem cut16_3_1 (k : Int) (al co si : Int) (wi : Bool) (ds sr dp re im : Int) : Lf [] 20 [.agg ⟨(xA k al co si wi true ds sr dp re im)⟩] (.agg ⟨(xA 16 0 5 0 false true 0 0 0 (shE re) 0)⟩) [(kE k, 16), (ixE 10 co, 3)] := lf hkZ_ok (cutOrc 16 3 178) (by kernel_rfl) (by kernel_rfl) (by kernel_rfl)
theorem cut16_4_1 (k : Int) (al co si : Int) (wi : Bool) (ds sr dp re im : Int) : Lf [] 20 [.agg ⟨(xA k al co si wi true ds sr dp re im)⟩] (.agg ⟨(xA 16 0 6 0 false true 0 0 0 (shE re) 0)⟩) [(kE k, 16), (ixE 10 co, 4)] := lf hkZ_ok (cutOrc 16 4 178) (by kernel_rfl) (by kernel_rfl) (by kernel_rfl)
theorem cut16_5_1 (k : Int) (al co si : Int) (wi : Bool) (ds sr dp re im : Int) : Lf [] 20 [.agg ⟨(xA k al co si wi true ds sr dp re im)⟩] (.agg ⟨(xA 16 0 7 0 false true 0 0 0 (shE re) 0)⟩) [(kE k, 16), (ixE 10 co, 5)] := lf hkZ_ok (cutOrc 16 5 178) (by kernel_rfl) (by kernel_rfl) (by kernel_rfl)
theorem cut16_6_1 (k : Int) (al co si : Int) (wi : Bool) (ds sr dp re im : Int) : Lf [] 20 [.agg ⟨(xA k al co si wi true ds sr dp re im)⟩] (.agg ⟨(xA 16 0 12 0 false true 0 0 0 (shE re) 0)⟩) [(kE k, 16), (ixE 10 co, 6)] := lf hkZ_ok (cutOrc 16 6 178) (by kernel_rfl) (by kernel_rfl) (by kernel_rfl)
theorem cut16_7_1 (k : Int) (al co si : Int) (wi : Bool) (ds sr dp re im : Int) : Lf [] 20 [.agg ⟨(xA k al co si wi true ds sr dp re im)⟩] (.agg ⟨(xA 16 0 13 0 false true 0 0 0 (shE re) 0)⟩) [(kE k, 16), (ixE 10 co, 7)] := lf hkZ_ok (cutOrc 16 7 178) (by kernel_rfl) (by kernel_rfl) (by kernel_rfl)
theorem cut16_8_1 (k : Int) (al co si : Int) (wi : Bool) (ds sr dp re im : Int) : Lf [] 20 [.agg ⟨(xA k al co si wi true ds sr dp re im)⟩] (.agg ⟨(xA 16 0 14 0 false true 0 0 0 (shE re) 0)⟩) [(kE k, 16), (ixE 10 co, 8)] := lf hkZ_ok (cutOrc 16 8 178) (by kernel_rfl) (by kernel_rfl) (by kernel_rfl)
theorem cut16_9_1 (k : Int) (al co si : Int) (wi : Bool) (ds sr dp re im : Int) : Lf [] 20 [.agg ⟨(xA k al co si wi true ds sr dp re im)⟩] (.agg ⟨(xA 16 0 15 0 false true 0 0 0 (shE re) 0)⟩) [(kE k, 16), (ixE 10 co, 9)] := lf hkZ_ok (cutOrc 16 9 178) (by kernel_rfl) (by kernel_rfl) (by kernel_rfl)
theorem cut16_0_0 (k : Int) (al co si : Int) (wi : Bool) (ds sr dp re im : Int) : Lf [] 20 [.agg ⟨(xA k al co si wi false ds sr dp re im)⟩] (.agg ⟨(xA 16 0 2 0 false false 0 0 0 re 0)⟩) [(kE k, 16), (ixE 10 co, 0)] := lf hkZ_ok (cutOrc 16 0 178) (by kernel_rfl) (by kernel_rfl) (by kernel_rfl)
theorem cut16_1_0 (k : Int) (al co si : Int) (wi : Bool) (ds sr dp re im : Int) : Lf [] 20 [.agg ⟨(xA k al co si wi false ds sr dp re im)⟩] (.agg ⟨(xA 16 0 3 0 false false 0 0 0 re 0)⟩) [(kE k, 16), (ixE 10 co, 1)] := lf hkZ_ok (cutOrc 16 1 178) (by kernel_rfl) (by kernel_rfl) (by kernel_rfl)
theorem cut16_2_0 (k : Int) (al co si : Int) (wi : Bool) (ds sr dp re im : Int) : Lf [] 20 [.agg ⟨(xA k al co si wi false ds sr dp re im)⟩] (.agg ⟨(xA 16 0 4 0 false false 0 0 0 re 0)⟩) [(kE k, 16), (ixE 10 co, 2)] := lf hkZ_ok (cutOrc 16 2 178) (by kernel_rfl) (by kernel_rfl) (by kernel_rfl)
theorem cut16_3_0 (k : Int) (al co si : Int) (wi : Bool) (ds sr dp re im : Int) : Lf [] 20 [.agg ⟨(xA k al co si wi false ds sr dp re im)⟩] (.agg ⟨(xA 16 0 5 0 false false 0 0 0 re 0)⟩) [(kE k, 16), (ixE 10 co, 3)] := lf hkZ_ok (cutOrc 16 3 178) (by kernel_rfl) (by kernel_rfl) (by kernel_rfl)
theorem cut16_4_0 (k : Int) (al co si : Int) (wi : Bool) (ds sr dp re im : Int) : Lf [] 20 [.agg ⟨(xA k al co si wi false ds sr dp re im)⟩] (.agg ⟨(xA 16 0 6 0 false false 0 0 0 re 0)⟩) [(kE k, 16), (ixE 10 co, 4)] := lf hkZ_ok (cutOrc 16 4 178) (by kernel_rfl) (by kernel_rfl) (by kernel_rfl)
theorem cut16_5_0 (k : Int) (al co si : Int) (wi : Bool) (ds sr dp re im : Int) : Lf [] 20 [.agg ⟨(xA k al co si wi false ds sr dp re im)⟩] (.agg ⟨(xA 16 0 7 0 false false 0 0 0 re 0)⟩) [(kE k, 16), (ixE 10 co, 5)] := lf hkZ_ok (cutOrc 16 5 178) (by kernel_rfl) (by kernel_rfl) (by kernel_rfl)
theorem cut16_6_0 (k : Int) (al co si : Int) (wi : Bool) (ds sr dp re im : Int) : Lf [] 20 [.agg ⟨(xA k al co si wi false ds sr dp re im)⟩] (.agg ⟨(xA 16 0 12 0 false false 0 0 0 re 0)⟩) [(kE k, 16), (ixE 10 co, 6)] := lf hkZ_ok (cutOrc 16 6 178) (by kernel_rfl) (by kernel_rfl) (by kernel_rfl)
theorem cut16_7_0 (k : Int) (al co si : Int) (wi : Bool) (ds sr dp re im : Int) : Lf [] 20 [.agg ⟨(xA k al co si wi false ds sr dp re im)⟩] (.agg ⟨(xA 16 0 13 0 false false 0 0 0 re 0)⟩) [(kE k, 16), (ixE 10 co, 7)] := lf hkZ_ok (cutOrc 16 7 178) (by kernel_rfl) (by kernel_rfl) (by kernel_rfl)
theorem cut16_8_0 (k : Int) (al co si : Int) (wi : Bool) (ds sr dp re im : Int) : Lf [] 20 [.agg ⟨(xA k al co si wi false ds sr dp re im)⟩] (.agg ⟨(xA 16 0 14 0 false false 0 0 0 re 0)⟩) [(kE k, 16), (ixE 10 co, 8)] := lf hkZ_ok (cutOrc 16 8 178) (by kernel_rfl) (by kernel_rfl) (by kernel_rfl)
theorem cut16_9_0 (k : Int) (al co si : Int) (wi : Bool) (ds sr dp re im : Int) : Lf [] 20 [.agg ⟨(xA k al co si wi false ds sr dp re im)⟩] (.agg ⟨(xA 16 0 15 0 false false 0 0 0 re 0)⟩) [(kE k, 16), (ixE 10 co, 9)] := lf hkZ_ok (cutOrc 16 9 178) (by kernel_rfl) (by kernel_rfl) (by kernel_rfl)
theorem cut17_0 (k : Int) (al co si : Int) (wi sh : Bool) (ds sr dp re im : Int) : Lf [] 20 [.agg ⟨(xA k al co si wi sh ds sr dp re im)⟩] (.agg ⟨(xA 17 0 0 0 false false (anE 15 ds) 0 0 0 0)⟩) [(kE k, 17)] := lf hkZ_ok (cutOrc 17 0 99999) (by kernel_rfl) (by kernel_rfl) (by kernel_rfl)
theorem cut18_0 (k : Int) (al co si : Int) (wi sh : Bool) (ds sr dp re im : Int) : Lf [] 20 [.agg ⟨(xA k al co si wi sh ds sr dp re im)⟩] (.agg ⟨(xA 18 0 0 0 false false (anE 15 ds) 0 0 0 0)⟩) [(kE k, 18)] := lf hkZ_ok (cutOrc 18 0 99999) (by kernel_rfl) (by kernel_rfl) (by kernel_rfl)
theorem cut19_0 (k : Int) (al co si : Int) (wi sh : Bool) (ds sr dp re im : Int) : Lf [] 20 [.agg ⟨(xA k al co si wi sh ds sr dp re im)⟩] (.agg ⟨(xA 19 0 0 0 false false 0 0 0 0 0)⟩) [(kE k, 19)] := lf hkZ_ok (cutOrc 19 0 99999) (by kernel_rfl) (by kernel_rfl) (by kernel_rfl)
theorem cut20_0_1 (k : Int) (al co si : Int) (wi : Bool) (ds sr dp re im : Int) : Lf [] 20 [.agg ⟨(xA k al co si wi true ds sr dp re im)⟩] (.agg ⟨(xA 20 0 0 0 false false 0 0 0 re 0)⟩) [(kE k, 20)] := lf hkZ_ok (cutOrc 20 0 99999) (by kernel_rfl) (by kernel_rfl) (by kernel_rfl)
theorem cut20_0_0 (k : Int) (al co si : Int) (wi : Bool) (ds sr dp re im : Int) : Lf [] 20 [.agg ⟨(xA k al co si wi false ds sr dp re im)⟩] (.agg ⟨(xA 20 0 0 0 false false 0 0 0 re 0)⟩) [(kE k, 20)] := lf hkZ_ok (cutOrc 20 0 99999) (by kernel_rfl) (by kernel_rfl) (by kernel_rfl)
theorem cut21_0 (k : Int) (al co si : Int) (wi sh : Bool) (ds sr dp re im : Int) : Lf [] 20 [.agg ⟨(xA k al co si wi sh ds sr dp re im)⟩] (.agg ⟨(xA 21 0 0 0 false false 0 0 0 0 0)⟩) [(kE k, 21)] := lf hkZ_ok (cutOrc 21 0 99999) (by kernel_rfl) (by kernel_rfl) (by kernel_rfl)
end Go.Proofs.YtbaiokfjoglmiaaDoor.Ex
