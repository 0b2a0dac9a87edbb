/-
  The contract of the document's Do (package firewallref05) at 64 bits, for a seat without package alu.
-/
import Derived.Test.YtchjneodjaakdaaLowRef
import Derived.Test.YtchjneodjaakdaaAluRefMath
namespace Go.Proofs.Ytchjneodjaakdaa
open Go.RowKit

attribute [local go_sem] u64_wrap u32_wrap u8_wrap BitVec.ofInt_add BitVec.ofInt_mul ofInt_sub' BitVec.ofInt_neg ofInt_N ofInt_Z wrap64_N mul_shl1 u64_and u64_or u64_xor N_tdiv N_tmod low64

theorem N_lt64 (v : BitVec 64) : N v < 18446744073709551616 := N_lt v
theorem refLow_I (x b : Int) (w : World) (h0 : 0 ≤ x) (h3 : x < 18446744073709551616) (h1 : -9223372036854775808 ≤ b) (h2 : b ≤ 9223372036854775807) :
    Calls Try.prog 75 #[.int .u64 x, .int .i64 b] w fun e w' => e = .returned (.int .u64 (N (lowS (BitVec.ofInt 64 x) b))) ∧ w = w' := by
  have h := refLow_N (BitVec.ofInt 64 x) b w h1 h2
  rwa [N_ofInt x h0 (by simpa using h3)] at h

attribute [local go_sem] N_ofNat
set_option maxRecDepth 100000 in
set_option maxHeartbeats 4000000 in
theorem refDo_64 (x : Int) (a b : BitVec 64) (w : World) :
    Calls Try.prog 46 #[.int .u8 x, .bool true, .int .u64 (N a), .int .u64 (N b)] w fun e w' => e = .returned (.int .u64 (N (aluW x a b))) ∧ w = w' := by
  have hm := tmod64 b
  obtain ⟨m, hmd⟩ : ∃ m, m = b.toNat % 64 := ⟨_, rfl⟩
  rw [← hmd] at hm
  have hml : m < 64 := by omega
  rcases alu_cases x with h | h | h | h | h | h | h | h | h | h | h | h | h | h
  case inl =>
    subst h
    clear hmd
    go_enter Try.func46, Try.ntmps46
    go_wp2_with (first | (go_at_call 75; refine (refLow_I _ _ _ (by first | decide | exact N_nonneg _) (by first | decide | exact N_lt64 _) (by decide) (by decide)).mono ?_; rintro e w' ⟨rfl, rfl⟩) | (go_at_call 76; refine (refPower_N _ _ (by omega) (by omega)).mono ?_; rintro e w' ⟨rfl, rfl⟩) | (go_at_call 77; refine (refSign_N _ _ _ (by omega) (by omega)).mono ?_; rintro e w' ⟨rfl, rfl⟩))
    go_ret
    exact ⟨rfl, rfl⟩
  case inr.inl =>
    subst h
    clear hmd
    go_enter Try.func46, Try.ntmps46
    go_wp2_with (first | (go_at_call 75; refine (refLow_I _ _ _ (by first | decide | exact N_nonneg _) (by first | decide | exact N_lt64 _) (by decide) (by decide)).mono ?_; rintro e w' ⟨rfl, rfl⟩) | (go_at_call 76; refine (refPower_N _ _ (by omega) (by omega)).mono ?_; rintro e w' ⟨rfl, rfl⟩) | (go_at_call 77; refine (refSign_N _ _ _ (by omega) (by omega)).mono ?_; rintro e w' ⟨rfl, rfl⟩))
    go_ret
    exact ⟨rfl, rfl⟩
  case inr.inr.inl =>
    subst h
    clear hmd
    go_enter Try.func46, Try.ntmps46
    go_wp2_with (first | (go_at_call 75; refine (refLow_I _ _ _ (by first | decide | exact N_nonneg _) (by first | decide | exact N_lt64 _) (by decide) (by decide)).mono ?_; rintro e w' ⟨rfl, rfl⟩) | (go_at_call 76; refine (refPower_N _ _ (by omega) (by omega)).mono ?_; rintro e w' ⟨rfl, rfl⟩) | (go_at_call 77; refine (refSign_N _ _ _ (by omega) (by omega)).mono ?_; rintro e w' ⟨rfl, rfl⟩))
    go_ret
    exact ⟨rfl, rfl⟩
  case inr.inr.inr.inl =>
    subst h
    clear hmd
    by_cases hb : N b = 0
    · have hb' : b = 0#64 := N_inj (by rw [hb]; rfl)
      subst hb'
      clear hb
      rw [show aluW 48 a 0#64 = 0#64 by simp [aluW]]
      go_enter Try.func46, Try.ntmps46
      go_wp2_with (first | (go_at_call 75; refine (refLow_I _ _ _ (by first | decide | exact N_nonneg _) (by first | decide | exact N_lt64 _) (by decide) (by decide)).mono ?_; rintro e w' ⟨rfl, rfl⟩) | (go_at_call 76; refine (refPower_N _ _ (by omega) (by omega)).mono ?_; rintro e w' ⟨rfl, rfl⟩) | (go_at_call 77; refine (refSign_N _ _ _ (by omega) (by omega)).mono ?_; rintro e w' ⟨rfl, rfl⟩))
      go_ret
      exact ⟨rfl, rfl⟩
    · have hb0 : 0 < N b := by have := N_nonneg b; omega
      have hb1 : (N b == 0) = false := by simpa using hb
      go_enter Try.func46, Try.ntmps46
      go_wp2_with (first | (go_at_call 75; refine (refLow_I _ _ _ (by first | decide | exact N_nonneg _) (by first | decide | exact N_lt64 _) (by decide) (by decide)).mono ?_; rintro e w' ⟨rfl, rfl⟩) | (go_at_call 76; refine (refPower_N _ _ (by omega) (by omega)).mono ?_; rintro e w' ⟨rfl, rfl⟩) | (go_at_call 77; refine (refSign_N _ _ _ (by omega) (by omega)).mono ?_; rintro e w' ⟨rfl, rfl⟩))
      go_ret
      exact ⟨rfl, rfl⟩
  case inr.inr.inr.inr.inl =>
    subst h
    clear hmd
    by_cases hb : N b = 0
    · have hb' : b = 0#64 := N_inj (by rw [hb]; rfl)
      subst hb'
      clear hb
      rw [show aluW 144 a 0#64 = a by simp [aluW]]
      go_enter Try.func46, Try.ntmps46
      go_wp2_with (first | (go_at_call 75; refine (refLow_I _ _ _ (by first | decide | exact N_nonneg _) (by first | decide | exact N_lt64 _) (by decide) (by decide)).mono ?_; rintro e w' ⟨rfl, rfl⟩) | (go_at_call 76; refine (refPower_N _ _ (by omega) (by omega)).mono ?_; rintro e w' ⟨rfl, rfl⟩) | (go_at_call 77; refine (refSign_N _ _ _ (by omega) (by omega)).mono ?_; rintro e w' ⟨rfl, rfl⟩))
      go_ret
      exact ⟨rfl, rfl⟩
    · have hb0 : 0 < N b := by have := N_nonneg b; omega
      have hb1 : (N b == 0) = false := by simpa using hb
      go_enter Try.func46, Try.ntmps46
      go_wp2_with (first | (go_at_call 75; refine (refLow_I _ _ _ (by first | decide | exact N_nonneg _) (by first | decide | exact N_lt64 _) (by decide) (by decide)).mono ?_; rintro e w' ⟨rfl, rfl⟩) | (go_at_call 76; refine (refPower_N _ _ (by omega) (by omega)).mono ?_; rintro e w' ⟨rfl, rfl⟩) | (go_at_call 77; refine (refSign_N _ _ _ (by omega) (by omega)).mono ?_; rintro e w' ⟨rfl, rfl⟩))
      go_ret
      exact ⟨rfl, rfl⟩
  case inr.inr.inr.inr.inr.inl =>
    subst h
    clear hmd
    go_enter Try.func46, Try.ntmps46
    go_wp2_with (first | (go_at_call 75; refine (refLow_I _ _ _ (by first | decide | exact N_nonneg _) (by first | decide | exact N_lt64 _) (by decide) (by decide)).mono ?_; rintro e w' ⟨rfl, rfl⟩) | (go_at_call 76; refine (refPower_N _ _ (by omega) (by omega)).mono ?_; rintro e w' ⟨rfl, rfl⟩) | (go_at_call 77; refine (refSign_N _ _ _ (by omega) (by omega)).mono ?_; rintro e w' ⟨rfl, rfl⟩))
    go_ret
    exact ⟨rfl, rfl⟩
  case inr.inr.inr.inr.inr.inr.inl =>
    subst h
    clear hmd
    go_enter Try.func46, Try.ntmps46
    go_wp2_with (first | (go_at_call 75; refine (refLow_I _ _ _ (by first | decide | exact N_nonneg _) (by first | decide | exact N_lt64 _) (by decide) (by decide)).mono ?_; rintro e w' ⟨rfl, rfl⟩) | (go_at_call 76; refine (refPower_N _ _ (by omega) (by omega)).mono ?_; rintro e w' ⟨rfl, rfl⟩) | (go_at_call 77; refine (refSign_N _ _ _ (by omega) (by omega)).mono ?_; rintro e w' ⟨rfl, rfl⟩))
    go_ret
    exact ⟨rfl, rfl⟩
  case inr.inr.inr.inr.inr.inr.inr.inl =>
    subst h
    clear hmd
    go_enter Try.func46, Try.ntmps46
    go_wp2_with (first | (go_at_call 75; refine (refLow_I _ _ _ (by first | decide | exact N_nonneg _) (by first | decide | exact N_lt64 _) (by decide) (by decide)).mono ?_; rintro e w' ⟨rfl, rfl⟩) | (go_at_call 76; refine (refPower_N _ _ (by omega) (by omega)).mono ?_; rintro e w' ⟨rfl, rfl⟩) | (go_at_call 77; refine (refSign_N _ _ _ (by omega) (by omega)).mono ?_; rintro e w' ⟨rfl, rfl⟩))
    go_ret
    exact ⟨rfl, rfl⟩
  case inr.inr.inr.inr.inr.inr.inr.inr.inl =>
    subst h
    have e : aluW 96 a b = a <<< m := by rw [hmd]; rfl
    rw [e]
    clear e hmd
    go_enter Try.func46, Try.ntmps46
    go_wp2_with (first | (go_at_call 75; refine (refLow_I _ _ _ (by first | decide | exact N_nonneg _) (by first | decide | exact N_lt64 _) (by decide) (by decide)).mono ?_; rintro e w' ⟨rfl, rfl⟩) | (go_at_call 76; refine (refPower_N _ _ (by omega) (by omega)).mono ?_; rintro e w' ⟨rfl, rfl⟩) | (go_at_call 77; refine (refSign_N _ _ _ (by omega) (by omega)).mono ?_; rintro e w' ⟨rfl, rfl⟩))
    go_ret
    exact ⟨rfl, rfl⟩
  case inr.inr.inr.inr.inr.inr.inr.inr.inr.inl =>
    subst h
    have e : aluW 112 a b = a >>> m := by rw [hmd]; rfl
    rw [e]
    clear e hmd
    have hne := shl1_ne' m hml
    have hdv := div_shl1 a m hml
    go_enter Try.func46, Try.ntmps46
    go_wp2_with (first | (go_at_call 75; refine (refLow_I _ _ _ (by first | decide | exact N_nonneg _) (by first | decide | exact N_lt64 _) (by decide) (by decide)).mono ?_; rintro e w' ⟨rfl, rfl⟩) | (go_at_call 76; refine (refPower_N _ _ (by omega) (by omega)).mono ?_; rintro e w' ⟨rfl, rfl⟩) | (go_at_call 77; refine (refSign_N _ _ _ (by omega) (by omega)).mono ?_; rintro e w' ⟨rfl, rfl⟩))
    go_ret
    exact ⟨rfl, rfl⟩
  case inr.inr.inr.inr.inr.inr.inr.inr.inr.inr.inl =>
    subst h
    have e : aluW 192 a b = a.sshiftRight m := by rw [hmd]; rfl
    rw [e]
    clear e hmd
    have hne := shl1_ne' m hml
    have hdv := div_shl1 a m hml
    have hsr := wide_sar a m hml
    go_enter Try.func46, Try.ntmps46
    go_wp2_with (first | (go_at_call 75; refine (refLow_I _ _ _ (by first | decide | exact N_nonneg _) (by first | decide | exact N_lt64 _) (by decide) (by decide)).mono ?_; rintro e w' ⟨rfl, rfl⟩) | (go_at_call 76; refine (refPower_N _ _ (by omega) (by omega)).mono ?_; rintro e w' ⟨rfl, rfl⟩) | (go_at_call 77; refine (refSign_N _ _ _ (by omega) (by omega)).mono ?_; rintro e w' ⟨rfl, rfl⟩))
    go_ret
    exact ⟨rfl, rfl⟩
  case inr.inr.inr.inr.inr.inr.inr.inr.inr.inr.inr.inl =>
    subst h
    clear hmd
    go_enter Try.func46, Try.ntmps46
    go_wp2_with (first | (go_at_call 75; refine (refLow_I _ _ _ (by first | decide | exact N_nonneg _) (by first | decide | exact N_lt64 _) (by decide) (by decide)).mono ?_; rintro e w' ⟨rfl, rfl⟩) | (go_at_call 76; refine (refPower_N _ _ (by omega) (by omega)).mono ?_; rintro e w' ⟨rfl, rfl⟩) | (go_at_call 77; refine (refSign_N _ _ _ (by omega) (by omega)).mono ?_; rintro e w' ⟨rfl, rfl⟩))
    go_ret
    exact ⟨ret64 (by simp [aluW]), rfl⟩
  case inr.inr.inr.inr.inr.inr.inr.inr.inr.inr.inr.inr.inl =>
    subst h
    clear hmd
    go_enter Try.func46, Try.ntmps46
    go_wp2_with (first | (go_at_call 75; refine (refLow_I _ _ _ (by first | decide | exact N_nonneg _) (by first | decide | exact N_lt64 _) (by decide) (by decide)).mono ?_; rintro e w' ⟨rfl, rfl⟩) | (go_at_call 76; refine (refPower_N _ _ (by omega) (by omega)).mono ?_; rintro e w' ⟨rfl, rfl⟩) | (go_at_call 77; refine (refSign_N _ _ _ (by omega) (by omega)).mono ?_; rintro e w' ⟨rfl, rfl⟩))
    go_ret
    exact ⟨rfl, rfl⟩
  case inr.inr.inr.inr.inr.inr.inr.inr.inr.inr.inr.inr.inr =>
    rw [aluW_none h]
    obtain ⟨h1, h2, h3, h4, h5, h6, h7, h8, h9, h10, h11, h12, h13⟩ := noOp_beq h
    clear h hmd
    have hz : lowS 0#64 64 = 0#64 := by decide
    go_enter Try.func46, Try.ntmps46
    go_wp2_with (first | (go_at_call 75; refine (refLow_I _ _ _ (by first | decide | exact N_nonneg _) (by first | decide | exact N_lt64 _) (by decide) (by decide)).mono ?_; rintro e w' ⟨rfl, rfl⟩) | (go_at_call 76; refine (refPower_N _ _ (by omega) (by omega)).mono ?_; rintro e w' ⟨rfl, rfl⟩) | (go_at_call 77; refine (refSign_N _ _ _ (by omega) (by omega)).mono ?_; rintro e w' ⟨rfl, rfl⟩))
    go_ret
    exact ⟨rfl, rfl⟩
end Go.Proofs.Ytchjneodjaakdaa
