/-
  The walk of the law InsnsBack, whole.
-/
import Derived.Test.YthmebodklbhljaaDoorLaw02f
namespace Go.Proofs.YthmebodklbhljaaDoor
open Go.RowKit

theorem N_mod16 (x : B8) : N (x % 16#8) = N x % 16 := (N_emod x 16#8).symm
theorem mod16_small (x : B8) (h : N x < 16) : x % 16#8 = x := by
  apply N_inj
  rw [N_mod16]
  have := N_nonneg x
  omega
theorem mod16_big (x : B8) (h : ¬ N x < 16) : (N (x % 16#8) == N x) = false := by
  rw [N_mod16]
  have := N_nonneg x
  simp
  omega

theorem insnsBack_walk (op d s : B8) (o : BitVec 16) (m : BitVec 32) (c0 c1 c2 c3 c4 c5 c6 c7 : B8) (w : World) (hT : TabAt w) :
    Calls Tryd.prog 5 #[.agg #[.int .u8 (N op), .int .u8 (N d), .int .u8 (N s), .int .i16 (Z o), .int .i32 (Z m)], .agg #[.int .u8 (N c0), .int .u8 (N c1), .int .u8 (N c2), .int .u8 (N c3), .int .u8 (N c4), .int .u8 (N c5), .int .u8 (N c6), .int .u8 (N c7)]] w fun e w' => e = .returned (.bool true) ∧ Grown w w' := by
  obtain ⟨op2, d2, s2, o2, m2, hv, he2⟩ := enc_dec (t := eight (UInt8.ofBitVec c0) (UInt8.ofBitVec c1) (UInt8.ofBitVec c2) (UInt8.ofBitVec c3) (UInt8.ofBitVec c4) (UInt8.ofBitVec c5) (UInt8.ofBitVec c6) (UInt8.ofBitVec c7)) rfl
  have hd1 := decode_8 (encS op d s o m) (enc_size op d s o m)
  rw [dec_enc] at hd1
  have hd2 := decode_8 (eight (UInt8.ofBitVec c0) (UInt8.ofBitVec c1) (UInt8.ofBitVec c2) (UInt8.ofBitVec c3) (UInt8.ofBitVec c4) (UInt8.ofBitVec c5) (UInt8.ofBitVec c6) (UInt8.ofBitVec c7)) rfl
  rw [hv] at hd2
  refine back_walk op d s (d % 16#8) (s % 16#8) o m op2 d2 s2 o2 m2 c0 c1 c2 c3 c4 c5 c6 c7 (encS op d s o m) _ (decide (N d < 16)) (decide (N s < 16)) rfl rfl (by rw [enc_size]; rfl) hd1 hd2 he2 rfl rfl ?_ w hT
  by_cases h1 : N d < 16
  · by_cases h2 : N s < 16
    · exact .inl ⟨by simp [h1], by simp [h2], mod16_small d h1, mod16_small s h2⟩
    · exact .inr (.inl ⟨by simp [h1], by simp [h2], mod16_small d h1, mod16_big s h2, check_small op _ _ _ _ (.inr (by omega))⟩)
  · exact .inr (.inr ⟨by simp [h1], mod16_big d h1, check_small op _ _ _ _ (.inl (by omega))⟩)
end Go.Proofs.YthmebodklbhljaaDoor
