/-
  What is encoded is decoded, what is decoded is encoded: the mathematics.
-/
import Derived.Test.YthmebodklbhljaaDoorDecRef
import Derived.Test.YthmebodklbhljaaDoorEnc
import Derived.Test.YthmebodklbhljaaDoorEncRef
import Derived.Test.YthmebodklbhljaaDoorNumsMath2
namespace Go.Proofs.YthmebodklbhljaaDoor
open Go.RowKit

def eight (c0 c1 c2 c3 c4 c5 c6 c7 : UInt8) : ByteArray := ⟨#[c0, c1, c2, c3, c4, c5, c6, c7]⟩
theorem eight_of {t : ByteArray} (h : t.size = 8) : ∃ c0 c1 c2 c3 c4 c5 c6 c7, t = eight c0 c1 c2 c3 c4 c5 c6 c7 := by
  obtain ⟨⟨l⟩⟩ := t
  match l, h with
  | [c0, c1, c2, c3, c4, c5, c6, c7], _ => exact ⟨c0, c1, c2, c3, c4, c5, c6, c7, rfl⟩
theorem ext_ba {a b : ByteArray} (h : a.data.toList = b.data.toList) : a = b := by
  cases a; cases b
  congr 1
  exact Array.toList_inj.1 h
theorem eight24 (c0 c1 c2 c3 c4 c5 c6 c7 : UInt8) : (eight c0 c1 c2 c3 c4 c5 c6 c7).extract 2 4 = ⟨#[c2, c3]⟩ := ext_ba (by simp [eight])
theorem eight48 (c0 c1 c2 c3 c4 c5 c6 c7 : UInt8) : (eight c0 c1 c2 c3 c4 c5 c6 c7).extract 4 8 = ⟨#[c4, c5, c6, c7]⟩ := ext_ba (by simp [eight])
theorem bytesN2 (v : BitVec 64) : bytesN v 2 = ⟨#[UInt8.ofBitVec (byteOf v 0), UInt8.ofBitVec (byteOf v 1)]⟩ := rfl
theorem bytesN4 (v : BitVec 64) : bytesN v 4 = ⟨#[UInt8.ofBitVec (byteOf v 0), UInt8.ofBitVec (byteOf v 1), UInt8.ofBitVec (byteOf v 2), UInt8.ofBitVec (byteOf v 3)]⟩ := rfl
theorem enc_eight (op d s : B8) (o : BitVec 16) (m : BitVec 32) : encS op d s o m = eight (UInt8.ofBitVec op) (UInt8.ofBitVec (regsB d s)) (UInt8.ofBitVec (byteOf (o.setWidth 64) 0)) (UInt8.ofBitVec (byteOf (o.setWidth 64) 1)) (UInt8.ofBitVec (byteOf (m.setWidth 64) 0)) (UInt8.ofBitVec (byteOf (m.setWidth 64) 1)) (UInt8.ofBitVec (byteOf (m.setWidth 64) 2)) (UInt8.ofBitVec (byteOf (m.setWidth 64) 3)) := by
  unfold encS
  rw [bytesN2, bytesN4]
  exact ext_ba (by simp [eight])
theorem N_regs (d s : B8) : N (regsB d s) = N s % 16 * 16 + N d % 16 := by
  have h1 := d.isLt
  have h2 := s.isLt
  unfold N regsB
  rw [BitVec.toNat_add, BitVec.toNat_mul, BitVec.toNat_umod, BitVec.toNat_umod]
  have e : (16#8).toNat = 16 := rfl
  rw [e]
  omega
theorem i16Z (a : BitVec 64) : IntKind.i16.wrap (N a) = Z (a.setWidth 16) := by
  unfold N Z
  rw [BitVec.toInt_eq_toNat_cond, BitVec.toNat_setWidth]
  simp [IntKind.wrap, IntKind.bits, IntKind.signed]
  split <;> split <;> omega
theorem i32Z' (a : BitVec 64) : wrap32 (N a) = Z (a.setWidth 32) := by
  unfold N Z wrap32
  rw [BitVec.toInt_eq_toNat_cond, BitVec.toNat_setWidth]
  split <;> omega
theorem low16 (o : BitVec 16) : (lowS (o.setWidth 64) 16).setWidth 16 = o := by
  apply BitVec.eq_of_getLsbD_eq
  intro i hi
  rw [BitVec.getLsbD_setWidth, low_bit, BitVec.getLsbD_setWidth]
  have h1 : i < 64 := by omega
  simp [hi, h1]
  intro _
  omega
theorem low32 (m : BitVec 32) : (lowS (m.setWidth 64) 32).setWidth 32 = m := by
  apply BitVec.eq_of_getLsbD_eq
  intro i hi
  rw [BitVec.getLsbD_setWidth, low_bit, BitVec.getLsbD_setWidth]
  have h1 : i < 64 := by omega
  simp [hi, h1]
  intro _
  omega
theorem dec_enc (op d s : B8) (o : BitVec 16) (m : BitVec 32) : decV (encS op d s o m) = .agg #[.int .u8 (N op), .int .u8 (N (d % 16#8)), .int .u8 (N (s % 16#8)), .int .i16 (Z o), .int .i32 (Z m)] := by
  have e := enc_eight op d s o m
  have r := N_regs d s
  have bd := N_nonneg d
  have bs := N_nonneg s
  have ld := N_lt d
  have ls := N_lt s
  have h0 : decOp (encS op d s o m) = N op := by rw [e]; rfl
  have h1 : decDst (encS op d s o m) = N (d % 16#8) := by
    have : decDst (encS op d s o m) = N (regsB d s) % 16 := by rw [e]; rfl
    rw [this, r, ← N_emod, show N (16#8) = 16 by decide]
    omega
  have h2 : decSrc (encS op d s o m) = N (s % 16#8) := by
    have : decSrc (encS op d s o m) = N (regsB d s) / 16 := by rw [e]; rfl
    rw [this, r, ← N_emod, show N (16#8) = 16 by decide]
    omega
  have h3 : decOff (encS op d s o m) = Z o := by
    unfold decOff
    rw [e, eight24, ← bytesN2, num_bytes _ 2 (by omega), i16Z]
    exact congrArg Z (low16 o)
  have h4 : decImm (encS op d s o m) = Z m := by
    unfold decImm
    rw [e, eight48, ← bytesN4, num_bytes _ 4 (by omega), i32Z']
    exact congrArg Z (low32 m)
  unfold decV
  rw [h0, h1, h2, h3, h4]
theorem enc_size (op d s : B8) (o : BitVec 16) (m : BitVec 32) : (encS op d s o m).size = 8 := by rw [enc_eight]; rfl
theorem set_low16 (v : BitVec 64) : (((v.setWidth 16).setWidth 64 : BitVec 64)).setWidth (8 * 2) = v.setWidth (8 * 2) := by
  apply BitVec.eq_of_getLsbD_eq
  intro i hi
  have h : i < 16 := hi
  rw [BitVec.getLsbD_setWidth, BitVec.getLsbD_setWidth, BitVec.getLsbD_setWidth]
  have h1 : i < 64 := by omega
  simp [h, h1]
theorem set_low32 (v : BitVec 64) : (((v.setWidth 32).setWidth 64 : BitVec 64)).setWidth (8 * 4) = v.setWidth (8 * 4) := by
  apply BitVec.eq_of_getLsbD_eq
  intro i hi
  have h : i < 32 := hi
  rw [BitVec.getLsbD_setWidth, BitVec.getLsbD_setWidth, BitVec.getLsbD_setWidth]
  have h1 : i < 64 := by omega
  simp [h, h1]
theorem bytes_back (e : ByteArray) (k : Nat) (hk : k ≤ 8) (h : e.size = k) : bytesN (numS e) k = e := by
  have := bytes_num e (by omega)
  rw [h] at this
  unfold bytesS at this
  rw [if_neg (by omega)] at this
  simpa using this
/-- What is decoded of eight bytes is an instruction whose bytes they are. -/
theorem enc_dec {t : ByteArray} (h : t.size = 8) : ∃ (op d s : B8) (o : BitVec 16) (m : BitVec 32), decV t = .agg #[.int .u8 (N op), .int .u8 (N d), .int .u8 (N s), .int .i16 (Z o), .int .i32 (Z m)] ∧ encS op d s o m = t := by
  obtain ⟨c0, c1, c2, c3, c4, c5, c6, c7, rfl⟩ := eight_of h
  refine ⟨c0.toBitVec, c1.toBitVec % 16#8, c1.toBitVec / 16#8, (numS (⟨#[c2, c3]⟩ : ByteArray)).setWidth 16, (numS (⟨#[c4, c5, c6, c7]⟩ : ByteArray)).setWidth 32, ?_, ?_⟩
  · unfold decV decOff decImm
    rw [eight24, eight48, i16Z, i32Z']
    have h1 : decDst (eight c0 c1 c2 c3 c4 c5 c6 c7) = N (c1.toBitVec % 16#8) := by rw [← N_emod]; rfl
    have h2 : decSrc (eight c0 c1 c2 c3 c4 c5 c6 c7) = N (c1.toBitVec / 16#8) := by rw [← N_ediv]; rfl
    rw [h1, h2]
    rfl
  · unfold encS
    rw [bytesN_eq _ _ 2 (set_low16 _), bytesN_eq _ _ 4 (set_low32 _), bytes_back _ 2 (by omega) rfl, bytes_back _ 4 (by omega) rfl]
    have r : regsB (c1.toBitVec % 16#8) (c1.toBitVec / 16#8) = c1.toBitVec := by
      apply N_inj
      rw [N_regs, ← N_emod, ← N_ediv, show N (16#8) = 16 by decide]
      have a := N_nonneg c1.toBitVec
      have b := N_lt c1.toBitVec
      omega
    rw [r]
    exact ext_ba (by simp [eight])
end Go.Proofs.YthmebodklbhljaaDoor
