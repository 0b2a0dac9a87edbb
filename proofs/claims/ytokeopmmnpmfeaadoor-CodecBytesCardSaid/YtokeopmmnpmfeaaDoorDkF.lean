/-
  Layer 11: the bytes of an instruction are read as it, whatever stands behind them: plain mathematics.
-/
import Derived.Test.YtokeopmmnpmfeaaDoorPackE
namespace Go.Proofs.YtokeopmmnpmfeaaDoor.Ex
set_option maxRecDepth 20000

open Go Go.RowKit
set_option linter.unusedVariables false
set_option maxHeartbeats 0
set_option maxRecDepth 1000000
def bf (l : List UInt8) (j : Nat) : Int := ((l.getD j 0).toNat : Int)
def iv (c : UInt8) : Int := (c.toNat : Int)
theorem ubD_iv (c : UInt8) : ubD (iv c) = c := by simp [ubD, iv]
theorem ubD_map (l : List UInt8) : (l.map iv).map ubD = l := by
  rw [List.map_map, show ubD ∘ iv = id from funext ubD_iv, List.map_id]
theorem byD (n : Nat) (h : n < 18446744073709551616) (i : Nat) : UInt8.ofNat (n / 256 ^ i % 256) = UInt8.ofBitVec (byteOf (BitVec.ofNat 64 n) i) := by
  apply UInt8.toNat_inj.1
  rw [UInt8.toNat_ofNat', UInt8.toNat_ofBitVec]
  unfold byteOf
  simp only [BitVec.toNat_setWidth, BitVec.toNat_ushiftRight, BitVec.toNat_ofNat, Nat.shiftRight_eq_div_pow]
  rw [Nat.mod_eq_of_lt (show n < 2 ^ 64 from h), Nat.pow_mul, show (2 : Nat) ^ 8 = 256 from rfl, Nat.mod_mod]
theorem byR_go (k : Nat) : ∀ (n : Nat), n < 18446744073709551616 → byR (n : Int) k = (List.range k).map fun i => UInt8.ofNat (n / 256 ^ i % 256) := by
  induction k with
  | zero => intro n _; rfl
  | succ k ih =>
    intro n h
    have e1 : Int.tmod (n : Int) 256 = ((n % 256 : Nat) : Int) := by
      rw [Int.tmod_eq_emod_of_nonneg (by omega)]; rfl
    have e2 : Int.tdiv (n : Int) 256 = ((n / 256 : Nat) : Int) := by
      rw [Int.tdiv_eq_ediv_of_nonneg (by omega)]; rfl
    have e3 : IntKind.u8.wrap ((n % 256 : Nat) : Int) = ((n % 256 : Nat) : Int) := by
      simp only [IntKind.wrap, IntKind.bits, IntKind.signed]; simp <;> omega
    have e4 : IntKind.u64.wrap ((n / 256 : Nat) : Int) = ((n / 256 : Nat) : Int) := by
      rw [IntKind.wrap_u64]; omega
    rw [byR, e1, e2, e3, e4, ih _ (by omega), List.range_succ_eq_map, List.map_cons, List.map_map]
    congr 1
    · have e5 : ((n % 256 : Nat) : Int).toNat = n % 256 := Int.toNat_natCast _
      rw [e5, Nat.pow_zero, Nat.div_one]
    · apply List.map_congr_left
      intro i _
      simp only [Function.comp]
      rw [Nat.pow_succ, Nat.mul_comm, Nat.div_div_eq_div_mul, Nat.mul_comm]
theorem byR_bytes (n k : Nat) (h : n < 18446744073709551616) : byR (n : Int) k = (bytesN (BitVec.ofNat 64 n) k).data.toList := by
  rw [byR_go k n h, bytesN_list]
  exact List.map_congr_left fun i _ => byD n h i
theorem u64_bdD (x : Int) : 0 ≤ IntKind.u64.wrap x ∧ IntKind.u64.wrap x < 18446744073709551616 := by
  rw [IntKind.wrap_u64]
  omega
theorem nm_imm (x : Int) (k : Nat) (hk : k ≤ 8) : nmV ((immR x k).map iv) = N (lowS (BitVec.ofInt 64 x) (8 * k : Nat)) := by
  have h := u64_bdD x
  obtain ⟨m, hm⟩ := Int.eq_ofNat_of_zero_le h.1
  have hlt : m < 18446744073709551616 := by omega
  have e : immR x k = (bytesN (BitVec.ofNat 64 m) k).data.toList := by
    unfold immR
    rw [hm, byR_bytes m k hlt]
  have e2 : BitVec.ofNat 64 m = BitVec.ofInt 64 x := by
    apply BitVec.eq_of_toNat_eq
    rw [BitVec.toNat_ofNat, BitVec.toNat_ofInt]
    rw [IntKind.wrap_u64] at hm
    omega
  unfold nmV
  rw [ubD_map, e]
  have e3 : (⟨⟨(bytesN (BitVec.ofNat 64 m) k).data.toList⟩⟩ : ByteArray) = bytesN (BitVec.ofNat 64 m) k := rfl
  rw [e3, num_bytes _ _ hk, e2]
theorem sgn32 (y : BitVec 64) (h : y.toNat < 4294967296) : ((y <<< 32).sshiftRight 32).toInt = if y.toNat < 2147483648 then (y.toNat : Int) else (y.toNat : Int) - 4294967296 := by
  rw [BitVec.toInt_sshiftRight, BitVec.toInt_eq_toNat_cond, BitVec.toNat_shiftLeft, Nat.shiftLeft_eq, Int.shiftRight_eq_div_pow]
  rw [show y.toNat * 2 ^ 32 % 2 ^ 64 = y.toNat * 4294967296 by omega]
  split <;> split <;> omega
theorem sgn8 (y : BitVec 64) (h : y.toNat < 256) : ((y <<< 56).sshiftRight 56).toInt = if y.toNat < 128 then (y.toNat : Int) else (y.toNat : Int) - 256 := by
  rw [BitVec.toInt_sshiftRight, BitVec.toInt_eq_toNat_cond, BitVec.toNat_shiftLeft, Nat.shiftLeft_eq, Int.shiftRight_eq_div_pow]
  rw [show y.toNat * 2 ^ 56 % 2 ^ 64 = y.toNat * 72057594037927936 by omega]
  split <;> split <;> omega
theorem i64_N (v : BitVec 64) : IntKind.i64.wrap (N v) = v.toInt := by
  have := v.isLt
  rw [BitVec.toInt_eq_toNat_cond]
  simp only [IntKind.wrap, IntKind.bits, IntKind.signed, N]
  simp
  split <;> omega
theorem ofInt_Nv (v : BitVec 64) : BitVec.ofInt 64 (N v) = v := by
  apply BitVec.eq_of_toNat_eq
  have := v.isLt
  rw [BitVec.toNat_ofInt]
  unfold N
  omega
theorem sg4 (x : Int) (h1 : -2147483648 ≤ x) (h2 : x ≤ 2147483647) : sgV 32 ((immR x 4).map iv) = x := by
  unfold sgV
  rw [nm_imm x 4 (by omega), ofInt_Nv, i64_N]
  have hn : (lowS (BitVec.ofInt 64 x) ((8 * 4 : Nat) : Int)).toNat = (BitVec.ofInt 64 x).toNat % 2 ^ 32 := low_toNat _ _ (by omega) (by omega)
  have e : signS (lowS (BitVec.ofInt 64 x) ((8 * 4 : Nat) : Int)) 32 = ((lowS (BitVec.ofInt 64 x) ((8 * 4 : Nat) : Int)) <<< 32).sshiftRight 32 := by
    unfold signS
    rw [if_neg (by decide), if_neg (by decide)]
    rfl
  rw [e, sgn32 _ (by rw [hn]; omega), hn, BitVec.toNat_ofInt]
  split <;> omega
theorem sg1 (x : Int) (h1 : -128 ≤ x) (h2 : x ≤ 127) : sgV 8 ((immR x 1).map iv) = x := by
  unfold sgV
  rw [nm_imm x 1 (by omega), ofInt_Nv, i64_N]
  have hn : (lowS (BitVec.ofInt 64 x) ((8 * 1 : Nat) : Int)).toNat = (BitVec.ofInt 64 x).toNat % 2 ^ 8 := low_toNat _ _ (by omega) (by omega)
  have e : signS (lowS (BitVec.ofInt 64 x) ((8 * 1 : Nat) : Int)) 8 = ((lowS (BitVec.ofInt 64 x) ((8 * 1 : Nat) : Int)) <<< 56).sshiftRight 56 := by
    unfold signS
    rw [if_neg (by decide), if_neg (by decide)]
    rfl
  rw [e, sgn8 _ (by rw [hn]; omega), hn, BitVec.toNat_ofInt]
  split <;> omega
theorem sg8 (x : Int) (h1 : -9223372036854775808 ≤ x) (h2 : x ≤ 9223372036854775807) : sgV 64 ((immR x 8).map iv) = x := by
  unfold sgV
  rw [nm_imm x 8 (by omega), ofInt_Nv, i64_N]
  have e0 : lowS (BitVec.ofInt 64 x) ((8 * 8 : Nat) : Int) = BitVec.ofInt 64 x := by
    unfold lowS
    rw [if_neg (by decide), if_pos (by decide)]
  have e : signS (BitVec.ofInt 64 x) 64 = BitVec.ofInt 64 x := by
    unfold signS
    rw [if_neg (by decide), if_pos (by decide)]
  rw [e0, e, BitVec.toInt_ofInt]
  exact Int.bmod_eq_of_le (by omega) (by omega)
theorem i32_id (x : Int) (h1 : -2147483648 ≤ x) (h2 : x ≤ 2147483647) : IntKind.i32.wrap x = x := by
  simp only [IntKind.wrap, IntKind.bits, IntKind.signed]
  simp
  omega
def rg : List Int := [0, 1, 2, 3, 4, 5, 6, 7, 8, 9, 10, 11, 12, 13, 14, 15]
theorem rg_mem {n : Int} (h : regS n = true) : n ∈ rg := by
  simp only [regS, Bool.and_eq_true, decide_eq_true_eq] at h
  simp only [rg, List.mem_cons, List.not_mem_nil, or_false]
  omega
def rg2 : List (Int × Int) := rg.flatMap fun d => rg.map fun s => (d, s)
theorem rg2_mem {d s : Int} (hd : d ∈ rg) (hs : s ∈ rg) : (d, s) ∈ rg2 := List.mem_flatMap.2 ⟨d, hd, List.mem_map.2 ⟨s, hs, rfl⟩⟩
theorem rd1 (t : List UInt8) : ∀ wi : Bool, rg2.map (fun p => readB (bf (encS1 0 0 0 wi false p.1 p.2 0 0 0 ++ t))) = rg2.map (fun p => (⟨1, 0, 0, 0, wi, false, p.1, p.2, 0, 0, 0⟩ : XX)) := by
  intro wi
  cases wi <;> kernel_rfl
theorem rd6 (t : List UInt8) : ∀ wi : Bool, rg2.map (fun p => readB (bf (encS6 0 0 0 wi false p.1 p.2 0 0 0 ++ t))) = rg2.map (fun p => (⟨6, 0, 0, 0, wi, false, p.1, p.2, 0, 0, 0⟩ : XX)) := by
  intro wi
  cases wi <;> kernel_rfl
theorem rd4 (t : List UInt8) (al : Int) (h : aluOk al = true) : ∀ wi : Bool, rg2.map (fun p => readB (bf (encS4 al 0 0 wi false p.1 p.2 0 0 0 ++ t))) = rg2.map (fun p => (⟨4, al, 0, 0, wi, false, p.1, p.2, 0, 0, 0⟩ : XX)) := by
  simp only [aluOk, Bool.or_eq_true, beq_iff_eq] at h
  rcases h with rfl | rfl | rfl | rfl | rfl | rfl <;> intro wi <;> cases wi <;> kernel_rfl
theorem rd10 (t : List UInt8) : ∀ wi : Bool, rg2.map (fun p => readB (bf (encS10 0 0 0 wi false p.1 p.2 0 0 0 ++ t))) = rg2.map (fun p => (⟨10, 0, 0, 0, wi, false, p.1, p.2, 0, 0, 0⟩ : XX)) := by
  intro wi
  cases wi <;> kernel_rfl
theorem rd7 (t : List UInt8) : ∀ wi : Bool, rg.map (fun d => readB (bf (encS7 0 0 0 wi false d 0 0 0 0 ++ t))) = rg.map (fun d => (⟨7, 0, 0, 0, wi, false, d, 0, 0, 0, 0⟩ : XX)) := by
  intro wi
  cases wi <;> kernel_rfl
theorem rd8 (t : List UInt8) : ∀ wi : Bool, rg.map (fun d => readB (bf (encS8 0 0 0 wi false d 0 0 0 0 ++ t))) = rg.map (fun d => (⟨8, 0, 0, 0, wi, false, d, 0, 0, 0, 0⟩ : XX)) := by
  intro wi
  cases wi <;> kernel_rfl
theorem rd9 (t : List UInt8) : ∀ wi : Bool, rg.map (fun d => readB (bf (encS9 0 0 0 wi false d 0 0 0 0 ++ t))) = rg.map (fun d => (⟨9, 0, 0, 0, wi, false, d, 0, 0, 0, 0⟩ : XX)) := by
  intro wi
  cases wi <;> kernel_rfl
theorem rd17 (t : List UInt8) : rg.map (fun d => readB (bf (encS17 0 0 0 false false d 0 0 0 0 ++ t))) = rg.map (fun d => (⟨17, 0, 0, 0, false, false, d, 0, 0, 0, 0⟩ : XX)) := by kernel_rfl
theorem rd18 (t : List UInt8) : rg.map (fun d => readB (bf (encS18 0 0 0 false false d 0 0 0 0 ++ t))) = rg.map (fun d => (⟨18, 0, 0, 0, false, false, d, 0, 0, 0, 0⟩ : XX)) := by kernel_rfl
theorem rd19 (t : List UInt8) : readB (bf (encS19 0 0 0 false false 0 0 0 0 0 ++ t)) = (⟨19, 0, 0, 0, false, false, 0, 0, 0, 0, 0⟩ : XX) := by kernel_rfl
theorem rd21 (t : List UInt8) : readB (bf (encS21 0 0 0 false false 0 0 0 0 0 ++ t)) = (⟨21, 0, 0, 0, false, false, 0, 0, 0, 0, 0⟩ : XX) := by kernel_rfl
theorem rd12 (t : List UInt8) (al : Int) (h : shOk al = true) : ∀ wi : Bool, rg.map (fun d => readB (bf (encS12 al 0 0 wi false d 0 0 0 0 ++ t))) = rg.map (fun d => (⟨12, al, 0, 0, wi, false, d, 0, 0, 0, 0⟩ : XX)) := by
  simp only [shOk, Bool.or_eq_true, beq_iff_eq] at h
  rcases h with rfl | rfl | rfl <;> intro wi <;> cases wi <;> kernel_rfl
theorem rd2 (e0 e1 e2 e3 : UInt8) (t : List UInt8) : rg.map (fun d => readB (bf ((rexS true 0 (Int.tdiv d 8) false ++ [199, modR 192 0 d] ++ [e0, e1, e2, e3]) ++ t))) = rg.map (fun d => (⟨2, 0, 0, 0, true, false, d, 0, 0, 0, sgV 32 [iv e0, iv e1, iv e2, iv e3]⟩ : XX)) := by kernel_rfl
theorem rd3 (e0 e1 e2 e3 e4 e5 e6 e7 : UInt8) (t : List UInt8) : rg.map (fun d => readB (bf ((rexS true 0 (Int.tdiv d 8) false ++ [codR 184 d] ++ [e0, e1, e2, e3, e4, e5, e6, e7]) ++ t))) = rg.map (fun d => (⟨3, 0, 0, 0, true, false, d, 0, 0, 0, sgV 64 [iv e0, iv e1, iv e2, iv e3, iv e4, iv e5, iv e6, iv e7]⟩ : XX)) := by kernel_rfl
theorem rd5 (e0 e1 e2 e3 : UInt8) (t : List UInt8) (al : Int) (h : aluOk al = true) : ∀ wi : Bool, rg.map (fun d => readB (bf ((rexS wi 0 (Int.tdiv d 8) false ++ [129, modR 192 al d] ++ [e0, e1, e2, e3]) ++ t))) = rg.map (fun d => (⟨5, al, 0, 0, wi, false, d, 0, 0, 0, sgV 32 [iv e0, iv e1, iv e2, iv e3]⟩ : XX)) := by
  simp only [aluOk, Bool.or_eq_true, beq_iff_eq] at h
  rcases h with rfl | rfl | rfl | rfl | rfl | rfl <;> intro wi <;> cases wi <;> kernel_rfl
theorem rd11 (e0 : UInt8) (t : List UInt8) (al : Int) (h : shOk al = true) : ∀ wi : Bool, rg.map (fun d => readB (bf ((rexS wi 0 (Int.tdiv d 8) false ++ [193, modR 192 al d] ++ [e0]) ++ t))) = rg.map (fun d => (⟨11, al, 0, 0, wi, false, d, 0, 0, 0, sgV 8 [iv e0]⟩ : XX)) := by
  simp only [shOk, Bool.or_eq_true, beq_iff_eq] at h
  rcases h with rfl | rfl | rfl <;> intro wi <;> cases wi <;> kernel_rfl
theorem rd13 (e0 e1 e2 e3 : UInt8) (t : List UInt8) (si : Int) (h : szOk si = true) : rg2.map (fun p => readB (bf ((rexS (si == 8) (Int.tdiv p.1 8) (Int.tdiv p.2 8) false ++ (if si == 1 then [15, 182] else if si == 2 then [15, 183] else [139]) ++ [modR 128 p.1 p.2] ++ (if Int.tmod p.2 8 == 4 then [36] else []) ++ [e0, e1, e2, e3]) ++ t))) = rg2.map (fun p => (⟨13, 0, 0, si, (si == 8), false, p.1, p.2, IntKind.i32.wrap (sgV 32 [iv e0, iv e1, iv e2, iv e3]), 0, 0⟩ : XX)) := by
  simp only [szOk, Bool.or_eq_true, beq_iff_eq] at h
  rcases h with rfl | rfl | rfl | rfl <;> kernel_rfl
theorem rd14 (e0 e1 e2 e3 : UInt8) (t : List UInt8) (si : Int) (h : szOk si = true) : rg2.map (fun p => readB (bf (((if si == 2 then [102] else []) ++ rexS (si == 8) (Int.tdiv p.2 8) (Int.tdiv p.1 8) (si == 1) ++ (if si == 1 then [136] else [137]) ++ [modR 128 p.2 p.1] ++ (if Int.tmod p.1 8 == 4 then [36] else []) ++ [e0, e1, e2, e3]) ++ t))) = rg2.map (fun p => (⟨14, 0, 0, si, (si == 8), false, p.1, p.2, IntKind.i32.wrap (sgV 32 [iv e0, iv e1, iv e2, iv e3]), 0, 0⟩ : XX)) := by
  simp only [szOk, Bool.or_eq_true, beq_iff_eq] at h
  rcases h with rfl | rfl | rfl | rfl <;> kernel_rfl
theorem rd15 (e0 e1 e2 e3 : UInt8) (t : List UInt8) : readB (bf (([233] ++ [e0, e1, e2, e3]) ++ t)) = (⟨15, 0, 0, 0, false, false, 0, 0, 0, IntKind.i32.wrap (sgV 32 [iv e0, iv e1, iv e2, iv e3]), 0⟩ : XX) := by kernel_rfl
theorem rd20 (e0 e1 e2 e3 : UInt8) (t : List UInt8) : readB (bf (([232] ++ [e0, e1, e2, e3]) ++ t)) = (⟨20, 0, 0, 0, false, false, 0, 0, 0, IntKind.i32.wrap (sgV 32 [iv e0, iv e1, iv e2, iv e3]), 0⟩ : XX) := by kernel_rfl
theorem rd15s (e0 : UInt8) (t : List UInt8) : readB (bf (([235] ++ [e0]) ++ t)) = (⟨15, 0, 0, 0, false, true, 0, 0, 0, IntKind.i32.wrap (sgV 8 [iv e0]), 0⟩ : XX) := by kernel_rfl
def ccs : List Int := [2, 3, 4, 5, 6, 7, 12, 13, 14, 15]
theorem cc_mem {n : Int} (h : ccOk n = true) : n ∈ ccs := by
  simp only [ccOk, Bool.or_eq_true, Bool.and_eq_true, decide_eq_true_eq] at h
  simp only [ccs, List.mem_cons, List.not_mem_nil, or_false]
  omega
theorem rd16 (e0 e1 e2 e3 : UInt8) (t : List UInt8) : ccs.map (fun co => readB (bf (([15, cndR 128 co] ++ [e0, e1, e2, e3]) ++ t))) = ccs.map (fun co => (⟨16, 0, co, 0, false, false, 0, 0, 0, IntKind.i32.wrap (sgV 32 [iv e0, iv e1, iv e2, iv e3]), 0⟩ : XX)) := by kernel_rfl
theorem rd16s (e0 : UInt8) (t : List UInt8) : ccs.map (fun co => readB (bf (([cndR 112 co] ++ [e0]) ++ t))) = ccs.map (fun co => (⟨16, 0, co, 0, false, true, 0, 0, 0, IntKind.i32.wrap (sgV 8 [iv e0]), 0⟩ : XX)) := by kernel_rfl
end Go.Proofs.YtokeopmmnpmfeaaDoor.Ex
