/-
  Layer 11: the bytes of an instruction are read as it by the document, whatever stands behind them: plain mathematics.
-/
import Derived.Test.YtokeopmmnpmfeaaDoorPackF
namespace Go.Proofs.YtokeopmmnpmfeaaDoor.Ex
set_option maxRecDepth 20000

open Go Go.RowKit
set_option maxHeartbeats 0
set_option maxRecDepth 1000000
set_option linter.unusedVariables false
set_option linter.unusedSectionVars false
def nL4 (a b c d : UInt8) : Int := nR4 (bf [a, b, c, d]) 0
def nL1 (a : UInt8) : Int := nR1 (bf [a]) 0
def nL8 (a b c d e f g h : UInt8) : Int := nR8 (bf [a, b, c, d, e, f, g, h]) 0
theorem leB_cons (u : UInt8) (l : List UInt8) : ∀ (n j : Nat), leB (bf (u :: l)) (j + 1) n = leB (bf l) j n
  | 0, _ => rfl
  | n + 1, j => by
    unfold leB
    rw [leB_cons u l n (j + 1)]
    rfl
theorem le_byR : ∀ (n m : Nat), m < 18446744073709551616 → leB (bf (byR (m : Int) n)) 0 n = ((m % 256 ^ n : Nat) : Int)
  | 0, m, _ => by
    unfold leB
    rw [Nat.pow_zero, Nat.mod_one]
    rfl
  | n + 1, m, h => by
    have e1 : Int.tmod (m : Int) 256 = ((m % 256 : Nat) : Int) := by rw [Int.tmod_eq_emod_of_nonneg (by omega)]; omega
    have e2 : Int.tdiv (m : Int) 256 = ((m / 256 : Nat) : Int) := by rw [Int.tdiv_eq_ediv_of_nonneg (by omega)]; omega
    have e3 : IntKind.u64.wrap ((m / 256 : Nat) : Int) = ((m / 256 : Nat) : Int) := wu0 (by omega) (by omega)
    have e4 : IntKind.u8.wrap ((m % 256 : Nat) : Int) = ((m % 256 : Nat) : Int) := by
      simp [IntKind.wrap, IntKind.signed, IntKind.bits]
    have hb : byR (m : Int) (n + 1) = UInt8.ofNat (m % 256) :: byR ((m / 256 : Nat) : Int) n := by
      conv => lhs; unfold byR
      rw [e1, e2, e3, e4, Int.toNat_natCast]
    rw [hb]
    have hs : leB (bf (UInt8.ofNat (m % 256) :: byR ((m / 256 : Nat) : Int) n)) 0 (n + 1) = bf (UInt8.ofNat (m % 256) :: byR ((m / 256 : Nat) : Int) n) 0 + 256 * leB (bf (UInt8.ofNat (m % 256) :: byR ((m / 256 : Nat) : Int) n)) (0 + 1) n := rfl
    rw [hs, leB_cons, le_byR n (m / 256) (by omega)]
    have h0 : bf (UInt8.ofNat (m % 256) :: byR ((m / 256 : Nat) : Int) n) 0 = ((m % 256 : Nat) : Int) := by
      show (((UInt8.ofNat (m % 256)).toNat : Nat) : Int) = _
      rw [UInt8.toNat_ofNat_of_lt' (by show m % 256 < 256; omega)]
    rw [h0, Nat.pow_succ, Nat.mul_comm (256 ^ n) 256, Nat.mod_mul]
    omega
theorem le_imm (x : Int) (n : Nat) : leB (bf (immR x n)) 0 n = (((x % 18446744073709551616).toNat % 256 ^ n : Nat) : Int) := by
  have e : IntKind.u64.wrap x = (((x % 18446744073709551616).toNat : Nat) : Int) := by
    simp [IntKind.wrap, IntKind.signed, IntKind.bits]
    omega
  unfold immR
  rw [e]
  exact le_byR n _ (by omega)
theorem u4 {x : Int} {a b c d : UInt8} (e : immR x 4 = [a, b, c, d]) (h : -2147483648 ≤ x ∧ x ≤ 2147483647) : nL4 a b c d = x := by
  have hl := le_imm x 4
  rw [e, show (256 ^ 4 : Nat) = 4294967296 from by decide] at hl
  unfold nL4 nR4
  rw [hl]
  by_cases g : (((x % 18446744073709551616).toNat % 4294967296 : Nat) : Int) < 2147483648
  · rw [decide_eq_true g, cond_true]; omega
  · rw [decide_eq_false g, cond_false]; omega
theorem u1 {x : Int} {a : UInt8} (e : immR x 1 = [a]) (h : -128 ≤ x ∧ x ≤ 127) : nL1 a = x := by
  have hl := le_imm x 1
  rw [e, show (256 ^ 1 : Nat) = 256 from by decide] at hl
  unfold nL1 nR1
  rw [hl]
  by_cases g : (((x % 18446744073709551616).toNat % 256 : Nat) : Int) < 128
  · rw [decide_eq_true g, cond_true]; omega
  · rw [decide_eq_false g, cond_false]; omega
theorem u8 {x : Int} {a b c d f g h i : UInt8} (e : immR x 8 = [a, b, c, d, f, g, h, i]) (hr : -9223372036854775808 ≤ x ∧ x ≤ 9223372036854775807) : nL8 a b c d f g h i = x := by
  have hl := le_imm x 8
  rw [e, show (256 ^ 8 : Nat) = 18446744073709551616 from by decide] at hl
  unfold nL8 nR8
  rw [hl]
  by_cases g : (((x % 18446744073709551616).toNat % 18446744073709551616 : Nat) : Int) < 9223372036854775808
  · rw [decide_eq_true g, cond_true]; omega
  · rw [decide_eq_false g, cond_false]; omega
theorem rr1 (t : List UInt8) : ∀ wi : Bool, rg2.map (fun p => readR (bf (encS1 0 0 0 wi false p.1 p.2 0 0 0 ++ t))) = rg2.map (fun p => (⟨1, 0, 0, 0, wi, false, p.1, p.2, 0, 0, 0⟩ : XX)) := by
  intro wi
  cases wi <;> kernel_rfl
theorem rr6 (t : List UInt8) : ∀ wi : Bool, rg2.map (fun p => readR (bf (encS6 0 0 0 wi false p.1 p.2 0 0 0 ++ t))) = rg2.map (fun p => (⟨6, 0, 0, 0, wi, false, p.1, p.2, 0, 0, 0⟩ : XX)) := by
  intro wi
  cases wi <;> kernel_rfl
theorem rr4 (t : List UInt8) (al : Int) (h : aluOk al = true) : ∀ wi : Bool, rg2.map (fun p => readR (bf (encS4 al 0 0 wi false p.1 p.2 0 0 0 ++ t))) = rg2.map (fun p => (⟨4, al, 0, 0, wi, false, p.1, p.2, 0, 0, 0⟩ : XX)) := by
  simp only [aluOk, Bool.or_eq_true, beq_iff_eq] at h
  rcases h with rfl | rfl | rfl | rfl | rfl | rfl <;> intro wi <;> cases wi <;> kernel_rfl
theorem rr10 (t : List UInt8) : ∀ wi : Bool, rg2.map (fun p => readR (bf (encS10 0 0 0 wi false p.1 p.2 0 0 0 ++ t))) = rg2.map (fun p => (⟨10, 0, 0, 0, wi, false, p.1, p.2, 0, 0, 0⟩ : XX)) := by
  intro wi
  cases wi <;> kernel_rfl
theorem rr7 (t : List UInt8) : ∀ wi : Bool, rg.map (fun d => readR (bf (encS7 0 0 0 wi false d 0 0 0 0 ++ t))) = rg.map (fun d => (⟨7, 0, 0, 0, wi, false, d, 0, 0, 0, 0⟩ : XX)) := by
  intro wi
  cases wi <;> kernel_rfl
theorem rr8 (t : List UInt8) : ∀ wi : Bool, rg.map (fun d => readR (bf (encS8 0 0 0 wi false d 0 0 0 0 ++ t))) = rg.map (fun d => (⟨8, 0, 0, 0, wi, false, d, 0, 0, 0, 0⟩ : XX)) := by
  intro wi
  cases wi <;> kernel_rfl
theorem rr9 (t : List UInt8) : ∀ wi : Bool, rg.map (fun d => readR (bf (encS9 0 0 0 wi false d 0 0 0 0 ++ t))) = rg.map (fun d => (⟨9, 0, 0, 0, wi, false, d, 0, 0, 0, 0⟩ : XX)) := by
  intro wi
  cases wi <;> kernel_rfl
theorem rr17 (t : List UInt8) : rg.map (fun d => readR (bf (encS17 0 0 0 false false d 0 0 0 0 ++ t))) = rg.map (fun d => (⟨17, 0, 0, 0, false, false, d, 0, 0, 0, 0⟩ : XX)) := by kernel_rfl
theorem rr18 (t : List UInt8) : rg.map (fun d => readR (bf (encS18 0 0 0 false false d 0 0 0 0 ++ t))) = rg.map (fun d => (⟨18, 0, 0, 0, false, false, d, 0, 0, 0, 0⟩ : XX)) := by kernel_rfl
theorem rr19 (t : List UInt8) : readR (bf (encS19 0 0 0 false false 0 0 0 0 0 ++ t)) = (⟨19, 0, 0, 0, false, false, 0, 0, 0, 0, 0⟩ : XX) := by kernel_rfl
theorem rr21 (t : List UInt8) : readR (bf (encS21 0 0 0 false false 0 0 0 0 0 ++ t)) = (⟨21, 0, 0, 0, false, false, 0, 0, 0, 0, 0⟩ : XX) := by kernel_rfl
theorem rr12 (t : List UInt8) (al : Int) (h : shOk al = true) : ∀ wi : Bool, rg.map (fun d => readR (bf (encS12 al 0 0 wi false d 0 0 0 0 ++ t))) = rg.map (fun d => (⟨12, al, 0, 0, wi, false, d, 0, 0, 0, 0⟩ : XX)) := by
  simp only [shOk, Bool.or_eq_true, beq_iff_eq] at h
  rcases h with rfl | rfl | rfl <;> intro wi <;> cases wi <;> kernel_rfl
theorem rr2 (e0 e1 e2 e3 : UInt8) (t : List UInt8) : rg.map (fun d => readR (bf ((rexS true 0 (Int.tdiv d 8) false ++ [199, modR 192 0 d] ++ [e0, e1, e2, e3]) ++ t))) = rg.map (fun d => (⟨2, 0, 0, 0, true, false, d, 0, 0, 0, nL4 e0 e1 e2 e3⟩ : XX)) := by kernel_rfl
theorem rr3 (e0 e1 e2 e3 e4 e5 e6 e7 : UInt8) (t : List UInt8) : rg.map (fun d => readR (bf ((rexS true 0 (Int.tdiv d 8) false ++ [codR 184 d] ++ [e0, e1, e2, e3, e4, e5, e6, e7]) ++ t))) = rg.map (fun d => (⟨3, 0, 0, 0, true, false, d, 0, 0, 0, nL8 e0 e1 e2 e3 e4 e5 e6 e7⟩ : XX)) := by kernel_rfl
theorem rr5 (e0 e1 e2 e3 : UInt8) (t : List UInt8) (al : Int) (h : aluOk al = true) : ∀ wi : Bool, rg.map (fun d => readR (bf ((rexS wi 0 (Int.tdiv d 8) false ++ [129, modR 192 al d] ++ [e0, e1, e2, e3]) ++ t))) = rg.map (fun d => (⟨5, al, 0, 0, wi, false, d, 0, 0, 0, nL4 e0 e1 e2 e3⟩ : XX)) := by
  simp only [aluOk, Bool.or_eq_true, beq_iff_eq] at h
  rcases h with rfl | rfl | rfl | rfl | rfl | rfl <;> intro wi <;> cases wi <;> kernel_rfl
theorem rr11 (e0 : UInt8) (t : List UInt8) (al : Int) (h : shOk al = true) : ∀ wi : Bool, rg.map (fun d => readR (bf ((rexS wi 0 (Int.tdiv d 8) false ++ [193, modR 192 al d] ++ [e0]) ++ t))) = rg.map (fun d => (⟨11, al, 0, 0, wi, false, d, 0, 0, 0, nL1 e0⟩ : XX)) := by
  simp only [shOk, Bool.or_eq_true, beq_iff_eq] at h
  rcases h with rfl | rfl | rfl <;> intro wi <;> cases wi <;> kernel_rfl
theorem rr13 (e0 e1 e2 e3 : UInt8) (t : List UInt8) (si : Int) (h : szOk si = true) : rg2.map (fun p => readR (bf ((rexS (si == 8) (Int.tdiv p.1 8) (Int.tdiv p.2 8) false ++ (if si == 1 then [15, 182] else if si == 2 then [15, 183] else [139]) ++ [modR 128 p.1 p.2] ++ (if Int.tmod p.2 8 == 4 then [36] else []) ++ [e0, e1, e2, e3]) ++ t))) = rg2.map (fun p => (⟨13, 0, 0, si, (si == 8), false, p.1, p.2, IntKind.i32.wrap (nL4 e0 e1 e2 e3), 0, 0⟩ : XX)) := by
  simp only [szOk, Bool.or_eq_true, beq_iff_eq] at h
  rcases h with rfl | rfl | rfl | rfl <;> kernel_rfl
theorem rr14 (e0 e1 e2 e3 : UInt8) (t : List UInt8) (si : Int) (h : szOk si = true) : rg2.map (fun p => readR (bf (((if si == 2 then [102] else []) ++ rexS (si == 8) (Int.tdiv p.2 8) (Int.tdiv p.1 8) (si == 1) ++ (if si == 1 then [136] else [137]) ++ [modR 128 p.2 p.1] ++ (if Int.tmod p.1 8 == 4 then [36] else []) ++ [e0, e1, e2, e3]) ++ t))) = rg2.map (fun p => (⟨14, 0, 0, si, (si == 8), false, p.1, p.2, IntKind.i32.wrap (nL4 e0 e1 e2 e3), 0, 0⟩ : XX)) := by
  simp only [szOk, Bool.or_eq_true, beq_iff_eq] at h
  rcases h with rfl | rfl | rfl | rfl <;> kernel_rfl
theorem rr15 (e0 e1 e2 e3 : UInt8) (t : List UInt8) : readR (bf (([233] ++ [e0, e1, e2, e3]) ++ t)) = (⟨15, 0, 0, 0, false, false, 0, 0, 0, IntKind.i32.wrap (nL4 e0 e1 e2 e3), 0⟩ : XX) := by kernel_rfl
theorem rr20 (e0 e1 e2 e3 : UInt8) (t : List UInt8) : readR (bf (([232] ++ [e0, e1, e2, e3]) ++ t)) = (⟨20, 0, 0, 0, false, false, 0, 0, 0, IntKind.i32.wrap (nL4 e0 e1 e2 e3), 0⟩ : XX) := by kernel_rfl
theorem rr15s (e0 : UInt8) (t : List UInt8) : readR (bf (([235] ++ [e0]) ++ t)) = (⟨15, 0, 0, 0, false, true, 0, 0, 0, IntKind.i32.wrap (nL1 e0), 0⟩ : XX) := by kernel_rfl
theorem rr16 (e0 e1 e2 e3 : UInt8) (t : List UInt8) : ccs.map (fun co => readR (bf (([15, cndR 128 co] ++ [e0, e1, e2, e3]) ++ t))) = ccs.map (fun co => (⟨16, 0, co, 0, false, false, 0, 0, 0, IntKind.i32.wrap (nL4 e0 e1 e2 e3), 0⟩ : XX)) := by kernel_rfl
theorem rr16s (e0 : UInt8) (t : List UInt8) : ccs.map (fun co => readR (bf (([cndR 112 co] ++ [e0]) ++ t))) = ccs.map (fun co => (⟨16, 0, co, 0, false, true, 0, 0, 0, IntKind.i32.wrap (nL1 e0), 0⟩ : XX)) := by kernel_rfl
end Go.Proofs.YtokeopmmnpmfeaaDoor.Ex
