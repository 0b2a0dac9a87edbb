/-
  Layer 13: the law MachineJumps: the mathematics of a number's bytes.
-/
import Derived.Test.YtpkjgcfdemnohaaGreatDoorMj5
namespace Go.Proofs.YtpkjgcfdemnohaaGreatDoor.Ex
open Go Go.RowKit
set_option linter.unusedVariables false
theorem wrap_two (x : Int) (h0 : 0 ≤ x) (h1 : x < 18446744073709551616) : IntKind.u64.wrap (IntKind.i64.wrap x) = x := by
  simp only [IntKind.wrap, IntKind.bits, IntKind.signed]
  simp
  omega
theorem rb_id (b : UInt8) : rb b = b := by
  unfold rb
  simp
theorem rb_map (l : List UInt8) : l.map rb = l := by
  rw [show rb = id from funext rb_id, List.map_id]
theorem byB (n : Nat) (h : n < 18446744073709551616) (i : Nat) : UInt8.ofNat (n / 256 ^ i % 256) = UInt8.ofBitVec (byteOf (BitVec.ofNat 64 n) i) := by
  apply UInt8.toNat_inj.1
  rw [UInt8.toNat_ofNat', UInt8.toNat_ofBitVec]
  unfold byteOf
  simp only [BitVec.toNat_setWidth, BitVec.toNat_ushiftRight, BitVec.toNat_ofNat, Nat.shiftRight_eq_div_pow]
  rw [Nat.mod_eq_of_lt (show n < 2 ^ 64 from h), Nat.pow_mul, show (2 : Nat) ^ 8 = 256 from rfl, Nat.mod_mod]
theorem byW_go (k : Nat) : ∀ (n : Nat), n < 18446744073709551616 → byW (n : Int) k = (List.range k).map fun i => UInt8.ofNat (n / 256 ^ i % 256) := by
  induction k with
  | zero => intro n _; rfl
  | succ k ih =>
    intro n h
    have e1 : Int.tmod (n : Int) 256 = ((n % 256 : Nat) : Int) := by
      rw [Int.tmod_eq_emod_of_nonneg (by omega)]; rfl
    have e2 : Int.tdiv (n : Int) 256 = ((n / 256 : Nat) : Int) := by
      rw [Int.tdiv_eq_ediv_of_nonneg (by omega)]; rfl
    have e3 : IntKind.u8.wrap ((n % 256 : Nat) : Int) = ((n % 256 : Nat) : Int) := by
      simp only [IntKind.wrap, IntKind.bits, IntKind.signed]; simp <;> omega
    have e4 : IntKind.u64.wrap ((n / 256 : Nat) : Int) = ((n / 256 : Nat) : Int) := by
      rw [IntKind.wrap_u64]; omega
    rw [byW, e1, e2, e3, e4, ih _ (by omega), List.range_succ_eq_map, List.map_cons, List.map_map]
    congr 1
    · have e5 : ((n % 256 : Nat) : Int).toNat = n % 256 := Int.toNat_natCast _
      rw [e5, Nat.pow_zero, Nat.div_one]
    · apply List.map_congr_left
      intro i _
      simp only [Function.comp]
      rw [Nat.pow_succ, Nat.mul_comm, Nat.div_div_eq_div_mul, Nat.mul_comm]
theorem byW_8 (n : Nat) (h : n < 18446744073709551616) : byW (n : Int) 8 = (bytesN (BitVec.ofNat 64 n) 8).data.toList := by
  rw [byW_go 8 n h, bytesN_list]
  exact List.map_congr_left fun i _ => byB n h i
theorem num_byW (x : Int) (h0 : 0 ≤ x) (h1 : x < 18446744073709551616) : N (numS ⟨⟨(byW x 8).map rb⟩⟩) = x := by
  obtain ⟨n, rfl⟩ := Int.eq_ofNat_of_zero_le h0
  have h : n < 18446744073709551616 := by omega
  have e : (byW (n : Int) 8).map rb = (bytesN (BitVec.ofNat 64 n) 8).data.toList := by rw [rb_map, byW_8 n h]
  have e2 : (⟨⟨(byW (n : Int) 8).map rb⟩⟩ : ByteArray) = bytesN (BitVec.ofNat 64 n) 8 := by rw [e]
  rw [e2, num_bytes8]
  simp [N]
  omega
theorem by8_eq (x : Int) (h0 : 0 ≤ x) (h1 : x < 18446744073709551616) : by8 x = byW x 8 := by
  obtain ⟨n, rfl⟩ := Int.eq_ofNat_of_zero_le h0
  have h : n < 18446744073709551616 := by omega
  rw [byW_go 8 n h]
  have e : ∀ (p : Nat) (q : Int), q = ((256 ^ p : Nat) : Int) → UInt8.ofNat (IntKind.u8.wrap (Int.fdiv (n : Int) q)).toNat = UInt8.ofNat (n / 256 ^ p % 256) := by
    intro p q hq
    have e1 : Int.fdiv (n : Int) ((256 ^ p : Nat) : Int) = ((n / 256 ^ p : Nat) : Int) := by
      rw [Int.fdiv_eq_ediv_of_nonneg _ (Int.natCast_nonneg _)]; rfl
    have e3 : IntKind.u8.wrap ((n / 256 ^ p : Nat) : Int) = ((n / 256 ^ p % 256 : Nat) : Int) := by
      simp only [IntKind.wrap, IntKind.bits, IntKind.signed]; simp
    rw [hq, e1, e3]
    rfl
  unfold by8
  rw [e 0 _ (by decide), e 1 _ (by decide), e 2 _ (by decide), e 3 _ (by decide), e 4 _ (by decide), e 5 _ (by decide), e 6 _ (by decide), e 7 _ (by decide)]
  rfl
theorem eqD_xB (d m : Int) : eqD (xB 3 0 0 0 true false d 0 0 0 m) (xB 3 0 0 0 true false d 0 0 0 m) = true := by
  simp [xB, eqD, eqW]
/-- What is asked of a number's bytes as they are decoded holds. -/
theorem cAbs_ok (n0 : Int) (h0 : 0 ≤ n0) (h1 : n0 < 18446744073709551616) (d : Int) (op : UInt8) : ∀ c ∈ cAbs (IntKind.i64.wrap n0) d (byW (IntKind.u64.wrap (IntKind.i64.wrap n0)) 8) op, c.1 = c.2 := by
  have e := wrap_two n0 h0 h1
  have hm : IntKind.i64.wrap (N (numS ⟨⟨(byW (IntKind.u64.wrap (IntKind.i64.wrap n0)) 8).map rb⟩⟩)) = IntKind.i64.wrap n0 := by
    rw [e, num_byW n0 h0 h1]
  intro c hc
  unfold cAbs at hc
  simp only [List.mem_cons, List.not_mem_nil, or_false] at hc
  rcases hc with rfl | rfl | rfl
  · exact hm
  · rw [eqD_xB]
    rfl
  · rw [rb_map, e, by8_eq n0 h0 h1]
    simp [b2i]
end Go.Proofs.YtpkjgcfdemnohaaGreatDoor.Ex
