/-
  Layer 10: the law InterpArith: its tests, one by one.
-/
import Derived.Test.YthhgfjnnconocaaGreatDoorLaw10t0
namespace Go.Proofs.YthhgfjnnconocaaGreatDoor.Ex
open Go Go.RowKit
set_option maxHeartbeats 0
set_option maxRecDepth 1000000
set_option linter.unusedVariables false
theorem u32_mod (x : Int) : IntKind.u32.wrap x = x % 4294967296 := by
  simp only [IntKind.wrap, IntKind.bits, IntKind.signed]
  simp
theorem u64_mod (x : Int) : IntKind.u64.wrap x = x % 18446744073709551616 := by
  simp only [IntKind.wrap, IntKind.bits, IntKind.signed]
  simp
theorem u32_i32 (x : Int) : IntKind.u32.wrap (IntKind.i32.wrap x) = IntKind.u32.wrap x := by
  simp only [u32_mod]
  simp only [IntKind.wrap, IntKind.bits, IntKind.signed]
  simp
  omega
theorem cst_eq (a h : Int) (h0 : 0 ≤ a) (h1 : a < 18446744073709551616) (hh : h % 4294967296 = a / 4294967296) : cst (IntKind.i32.wrap (IntKind.u32.wrap h)) (IntKind.i32.wrap (IntKind.u32.wrap a)) = a := by
  have e1 : IntKind.u64.wrap (IntKind.u32.wrap (IntKind.i32.wrap (IntKind.u32.wrap h))) = a / 4294967296 := by
    rw [u32_i32, u32_mod, u32_mod, u64_mod]
    omega
  have e2 : IntKind.u64.wrap (IntKind.u32.wrap (IntKind.i32.wrap (IntKind.u32.wrap a))) = a % 4294967296 := by
    rw [u32_i32, u32_mod, u32_mod, u64_mod]
    omega
  unfold cst
  rw [e1, e2]
  obtain ⟨n, rfl⟩ := Int.eq_ofNat_of_zero_le h0
  have e3 : (2 : Int) ^ min (Int.toNat 32) IntKind.u64.bits = 4294967296 := by decide
  have e4 : IntKind.u64.wrap ((n : Int) / 4294967296 * 4294967296) = ((n / 4294967296 * 4294967296 : Nat) : Int) := by
    rw [u64_mod]
    omega
  have e5 : (n : Int) % 4294967296 = ((n % 4294967296 : Nat) : Int) := by omega
  rw [e3, e4, e5]
  have e6 : ∀ x y : Nat, (BitVec.ofInt IntKind.u64.bits (x : Int) ||| BitVec.ofInt IntKind.u64.bits (y : Int)).toNat = (BitVec.ofNat 64 x ||| BitVec.ofNat 64 y).toNat := fun x y => by
    show (BitVec.ofInt 64 (x : Int) ||| BitVec.ofInt 64 (y : Int)).toNat = _
    rw [BitVec.ofInt_natCast, BitVec.ofInt_natCast]
  rw [e6, BitVec.toNat_or, BitVec.toNat_ofNat, BitVec.toNat_ofNat]
  have hn : n < 18446744073709551616 := by omega
  rw [Nat.mod_eq_of_lt (a := n / 4294967296 * 4294967296) (by omega), Nat.mod_eq_of_lt (a := n % 4294967296) (by omega)]
  have e7 : n / 4294967296 * 4294967296 = (n / 4294967296) <<< 32 := by rw [Nat.shiftLeft_eq]
  rw [e7, ← Nat.shiftLeft_add_eq_or_of_lt (by omega : n % 4294967296 < 2 ^ 32), Nat.shiftLeft_eq, u64_mod]
  omega
def loH (a : Int) : Int := IntKind.i32.wrap (IntKind.u32.wrap a)
def hiH (a : Int) : Int := IntKind.i32.wrap (IntKind.u32.wrap (a.fdiv (2 ^ min (Int.toNat 32) IntKind.u64.bits)))
theorem cst_A (a : Int) (h0 : 0 ≤ a) (h1 : a < 18446744073709551616) : cst (hiH a) (loH a) = a := by
  unfold hiH loH
  have e3 : (2 : Int) ^ min (Int.toNat 32) IntKind.u64.bits = 4294967296 := by decide
  rw [e3]
  refine cst_eq a _ h0 h1 ?_
  rw [Int.fdiv_eq_ediv_of_nonneg _ (by omega)]
  omega
def or1 (c x : Int) : Int := IntKind.u8.wrap ((BitVec.ofInt IntKind.u8.bits c ||| BitVec.ofInt IntKind.u8.bits x).toNat : Int)
def or2 (c x : Int) : Int := or1 (or1 c x) 8
/-- The tests of a pass, where the operation takes both numbers. -/
def passP (h W : Bool) (c1 bp c2 bq op a b cc k cd : Int) : Cs :=
  [(IntKind.u8.wrap (op.tmod 13 * 16), cc), (or2 c1 cc, cc + bp), (b2i (cc == 128), b2i false), inU (cst (hiH a) (loH a)), inU (cst (hiH b) (loH b)), (b2i (op12 (cc + bp - bp)), 1), inU a, inU b,
    (b2i (N (aluS 176 true (BitVec.ofInt 64 0) (BitVec.ofInt 64 (N (aluS (cc + bp - bp) W (aX (cc + bp - bp) (cst (hiH a) (loH a))) (BitVec.ofInt 64 (cst (hiH b) (loH b))))))) != N (aluS cc W (BitVec.ofInt 64 a) (BitVec.ofInt 64 b))), b2i false),
    (op.tmod 11, k), (b2i (decide (0 ≤ k) && (decide (k < ((11 : Nat) : Int)) && decide (k.toNat < codes11.length))), 1), (codes11.getD k.toNat 0, cd), (or2 c2 cd, cd + bq),
    inU (cst (hiH a) (loH a)), inU (cst (hiH b) (loH b)), (b2i (condS (cd + bq - bq) W (BitVec.ofInt 64 (cst (hiH a) (loH a))) (BitVec.ofInt 64 (cst (hiH b) (loH b)))), b2i h), (b2i (op11 (cd + bq - bq)), 1),
    inU a, inU b, (b2i (condS cd W (BitVec.ofInt 64 a) (BitVec.ofInt 64 b)), b2i h)]
/-- The same, of the negative. -/
def passN (h W : Bool) (c1 bp cN c2 bq op a b cc k cd : Int) : Cs :=
  [(IntKind.u8.wrap (op.tmod 13 * 16), cc), (or2 c1 cc, cc + bp), (b2i (cc == 128), b2i true), (or1 c1 cc, cN), inU (cst (hiH a) (loH a)), inU (cst (hiH b) (loH b)), inU a, inU b,
    (b2i (N (aluS 176 true (BitVec.ofInt 64 0) (BitVec.ofInt 64 (N (aluS 128 W (BitVec.ofInt 64 (cst (hiH a) (loH a))) (BitVec.ofInt 64 0))))) != N (aluS cc W (BitVec.ofInt 64 a) (BitVec.ofInt 64 b))), b2i false),
    (op.tmod 11, k), (b2i (decide (0 ≤ k) && (decide (k < ((11 : Nat) : Int)) && decide (k.toNat < codes11.length))), 1), (codes11.getD k.toNat 0, cd), (or2 c2 cd, cd + bq),
    inU (cst (hiH a) (loH a)), inU (cst (hiH b) (loH b)), (b2i (condS (cd + bq - bq) W (BitVec.ofInt 64 (cst (hiH a) (loH a))) (BitVec.ofInt 64 (cst (hiH b) (loH b)))), b2i h), (b2i (op11 (cd + bq - bq)), 1),
    inU a, inU b, (b2i (condS cd W (BitVec.ofInt 64 a) (BitVec.ofInt 64 b)), b2i h)]
theorem mov_is (v : BitVec 64) : N (aluS 176 true (BitVec.ofInt 64 0) (BitVec.ofInt 64 (N v))) = N v := by
  rw [ofInt_N]
  rfl
theorem neg_is (W : Bool) (a b c : BitVec 64) : aluS 128 W a b = aluS 128 W a c := by
  cases W <;> rfl
theorem b2i_ne {x y : Int} (h : x = y) : b2i (x != y) = b2i false := by
  subst h
  simp
section
variable {h W : Bool} {c1 bp cN c2 bq op a b cc k cd : Int}
theorem passP_ok (g0 : IntKind.u8.wrap (op.tmod 13 * 16) = cc) (g1 : or2 c1 cc = cc + bp) (g2 : (cc == 128) = false) (hA : cst (hiH a) (loH a) = a) (hB : cst (hiH b) (loH b) = b) (ua : (inU a).1 = (inU a).2) (ub : (inU b).1 = (inU b).2) (g12 : op12 cc = true)
    (k1 : op.tmod 11 = k) (k2 : (decide (0 ≤ k) && (decide (k < ((11 : Nat) : Int)) && decide (k.toNat < codes11.length))) = true) (k3 : codes11.getD k.toNat 0 = cd) (k4 : or2 c2 cd = cd + bq) (g11 : op11 cd = true) (hc : condS cd W (BitVec.ofInt 64 a) (BitVec.ofInt 64 b) = h) : ∀ c ∈ passP h W c1 bp c2 bq op a b cc k cd, c.1 = c.2 := by
  have e1 : cc + bp - bp = cc := by omega
  have e2 : cd + bq - bq = cd := by omega
  intro c hm
  simp only [passP, hA, hB, e1, e2, List.mem_cons, List.not_mem_nil, or_false] at hm
  rcases hm with rfl | rfl | rfl | rfl | rfl | rfl | rfl | rfl | rfl | rfl | rfl | rfl | rfl | rfl | rfl | rfl | rfl | rfl | rfl | rfl
  · exact g0
  · exact g1
  · exact congrArg b2i g2
  · exact ua
  · exact ub
  · exact congrArg b2i g12
  · exact ua
  · exact ub
  · exact b2i_ne ((mov_is _).trans (aX_is _ _ _ _))
  · exact k1
  · exact congrArg b2i k2
  · exact k3
  · exact k4
  · exact ua
  · exact ub
  · exact congrArg b2i hc
  · exact congrArg b2i g11
  · exact ua
  · exact ub
  · exact congrArg b2i hc
theorem passN_ok (g0 : IntKind.u8.wrap (op.tmod 13 * 16) = cc) (g1 : or2 c1 cc = cc + bp) (g2 : cc = 128) (gN : or1 c1 cc = cN) (hA : cst (hiH a) (loH a) = a) (hB : cst (hiH b) (loH b) = b) (ua : (inU a).1 = (inU a).2) (ub : (inU b).1 = (inU b).2)
    (k1 : op.tmod 11 = k) (k2 : (decide (0 ≤ k) && (decide (k < ((11 : Nat) : Int)) && decide (k.toNat < codes11.length))) = true) (k3 : codes11.getD k.toNat 0 = cd) (k4 : or2 c2 cd = cd + bq) (g11 : op11 cd = true) (hc : condS cd W (BitVec.ofInt 64 a) (BitVec.ofInt 64 b) = h) : ∀ c ∈ passN h W c1 bp cN c2 bq op a b cc k cd, c.1 = c.2 := by
  have e2 : cd + bq - bq = cd := by omega
  intro c hm
  simp only [passN, hA, hB, e2, List.mem_cons, List.not_mem_nil, or_false] at hm
  rcases hm with rfl | rfl | rfl | rfl | rfl | rfl | rfl | rfl | rfl | rfl | rfl | rfl | rfl | rfl | rfl | rfl | rfl | rfl | rfl | rfl
  · exact g0
  · exact g1
  · rw [g2]; rfl
  · exact gN
  · exact ua
  · exact ub
  · exact ua
  · exact ub
  · refine b2i_ne ((mov_is _).trans ?_)
    rw [g2, neg_is W _ (BitVec.ofInt 64 0) (BitVec.ofInt 64 b)]
  · exact k1
  · exact congrArg b2i k2
  · exact k3
  · exact k4
  · exact ua
  · exact ub
  · exact congrArg b2i hc
  · exact congrArg b2i g11
  · exact ua
  · exact ub
  · exact congrArg b2i hc
end
def chk13 (n : Nat) : Bool := (IntKind.u8.wrap ((n : Int) * 16) == (n : Int) * 16) && ((or2 7 ((n : Int) * 16) == (n : Int) * 16 + 15) && ((or2 4 ((n : Int) * 16) == (n : Int) * 16 + 12) && (bif ((n : Int) * 16 == 128) then (or1 7 ((n : Int) * 16) == 135) && (or1 4 ((n : Int) * 16) == 132) else op12 ((n : Int) * 16))))
theorem chk13_all : (List.range 13).all chk13 = true := by kernel_rfl
def chk11 (n : Nat) : Bool := decide (n < codes11.length) && ((or2 5 (codes11.getD n 0) == codes11.getD n 0 + 13) && ((or2 6 (codes11.getD n 0) == codes11.getD n 0 + 14) && op11 (codes11.getD n 0)))
theorem chk11_all : (List.range 11).all chk11 = true := by kernel_rfl
end Go.Proofs.YthhgfjnnconocaaGreatDoor.Ex
