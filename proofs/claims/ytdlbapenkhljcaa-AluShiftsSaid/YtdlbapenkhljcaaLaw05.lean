/-
  The walks of the laws of layer 5.
-/
import Derived.Test.YtdlbapenkhljcaaAluRef
namespace Go.Proofs.Ytdlbapenkhljcaa
open Go.RowKit
attribute [local go_sem] u64_wrap u32_wrap u8_wrap BitVec.ofInt_add BitVec.ofInt_mul ofInt_sub' ofInt_N ofInt_Nw N_ofNat

theorem do_I (x : Int) (wide : Bool) (a b : Int) (w : World) (a0 : 0 ≤ a) (a1 : a < 18446744073709551616) (b0 : 0 ≤ b) (b1 : b < 18446744073709551616) :
    Calls Try.prog 25 #[.int .u8 x, .bool wide, .int .u64 a, .int .u64 b] w fun e w' => e = .returned (.int .u64 (N (aluS x wide (BitVec.ofInt 64 a) (BitVec.ofInt 64 b)))) ∧ Grown w w' := by
  have h := do_any x wide (BitVec.ofInt 64 a) (BitVec.ofInt 64 b) w
  rwa [N_ofInt a a0 (by simpa using a1), N_ofInt b b0 (by simpa using b1)] at h

set_option maxRecDepth 100000 in
set_option maxHeartbeats 1000000 in
theorem reckoned_any (w : World) : Calls Try.prog 27 #[] w fun e w' => e = .returned (.bool true) ∧ Grown w w' := by
  have a1 : aluS 16 true 1#64 2#64 = 18446744073709551615#64 := by decide
  have a2 : aluS 16 false 1#64 2#64 = 4294967295#64 := by decide
  have a3 : aluS 48 true 7#64 2#64 = 3#64 := by decide
  have a4 : aluS 48 true 7#64 0#64 = 0#64 := by decide
  have a5 : aluS 144 true 7#64 2#64 = 1#64 := by decide
  have a6 : aluS 144 true 7#64 0#64 = 7#64 := by decide
  have b1 : aluS 144 false 4294967303#64 4294967296#64 = 7#64 := by decide
  have b2 : aluS 96 true 1#64 65#64 = 2#64 := by decide
  have b3 : aluS 96 false 1#64 33#64 = 2#64 := by decide
  have b4 : aluS 192 true 9223372036854775808#64 63#64 = 18446744073709551615#64 := by decide
  have b5 : aluS 112 true 9223372036854775808#64 63#64 = 1#64 := by decide
  have b6 : aluS 192 false 2147483648#64 31#64 = 4294967295#64 := by decide
  have c1 : aluS 128 false 1#64 9#64 = 4294967295#64 := by decide
  have c2 : aluS 176 false 1#64 4294967305#64 = 9#64 := by decide
  have c3 : aluS 1 true 1#64 1#64 = 0#64 := by decide
  go_enter Try.func27, Try.ntmps27
  go_wp2_with (go_at_call 25; refine (do_I _ _ _ _ _ (by decide) (by decide) (by decide) (by decide)).mono ?_; rintro e w' ⟨rfl, hg⟩)
  go_ret
  exact ⟨rfl, by repeat (first | exact Grown.refl _ | refine Grown.trans' ?_ (by assumption))⟩

set_option maxRecDepth 100000 in
set_option maxHeartbeats 1000000 in
theorem aluTell_walk (x : Int) (a b : BitVec 64) (w : World) :
    Calls Try.prog 7 #[.int .u8 x, .int .u64 (N a), .int .u64 (N b)] w fun e w' => e = .returned (.bool true) ∧ Grown w w' := by
  go_enter Try.func7, Try.ntmps7
  go_wp2
  go_loopw [7] (fun i wr => ∃ k : Nat, k ≤ 272 ∧ i = .int .i64 (k : Int) ∧ Grown w wr) (fun i _ => (256 - intOf i).toNat)
  case atStart => exact ⟨0, by omega, rfl, Grown.refl _⟩
  case round =>
    obtain ⟨k, hk, rfl, hgr⟩ := hrel
    by_cases hlt : k < 256
    · go_wp2_with (first | (go_at_call 25; refine (do_any _ _ _ _ _).mono ?_; rintro e w' ⟨rfl, hg⟩) | (go_at_call 26; refine (refDo_any _ _ _ _ _).mono ?_; rintro e w' ⟨rfl, rfl⟩))
      go_roundw
      case rel => exact ⟨k + 16, by omega, by go_num, by repeat (first | assumption | refine Grown.trans' ?_ (by assumption))⟩
      case measure => simp [intOf]; omega
    · go_wp2_with (first | (go_at_call 25; refine (do_any _ _ _ _ _).mono ?_; rintro e w' ⟨rfl, hg⟩) | (go_at_call 26; refine (refDo_any _ _ _ _ _).mono ?_; rintro e w' ⟨rfl, rfl⟩) | (go_at_call 27; refine (reckoned_any _).mono ?_; rintro e w' ⟨rfl, hg⟩))
      go_ret
      exact ⟨rfl, by repeat (first | assumption | refine Grown.trans' ?_ (by assumption))⟩

theorem back_true (a b : BitVec 64) : aluS 176 true 0#64 a = a ∧ aluS 16 true (aluS 0 true a b) b = a ∧ aluS 160 true (aluS 160 true a b) b = a ∧ aluS 128 true (aluS 128 true a b) b = a ∧ aluS 0 true a (aluS 128 true b 0#64) = aluS 16 true a b := by
  refine ⟨rfl, ?_, ?_, ?_, ?_⟩
  · exact BitVec.add_sub_cancel a b
  · show a ^^^ b ^^^ b = a
    simp [BitVec.xor_assoc]
  · show - - a = a
    simp
  · show a + -b = a - b
    rw [BitVec.sub_eq_add_neg]
theorem back_false (a b : BitVec 64) : aluS 16 false (aluS 0 false a b) b = aluS 176 false 0#64 a ∧ aluS 160 false (aluS 160 false a b) b = aluS 176 false 0#64 a ∧ aluS 128 false (aluS 128 false a b) b = aluS 176 false 0#64 a ∧ aluS 0 false a (aluS 128 false b 0#64) = aluS 16 false a b := by
  generalize hA : a.setWidth 32 = A
  generalize hB : b.setWidth 32 = B
  refine ⟨?_, ?_, ?_, ?_⟩
  · show BitVec.setWidth 64 (BitVec.setWidth 32 (BitVec.setWidth 64 (a.setWidth 32 + b.setWidth 32)) - b.setWidth 32) = BitVec.setWidth 64 (a.setWidth 32)
    rw [half_id, hA, hB, BitVec.add_sub_cancel]
  · show BitVec.setWidth 64 (BitVec.setWidth 32 (BitVec.setWidth 64 (a.setWidth 32 ^^^ b.setWidth 32)) ^^^ b.setWidth 32) = BitVec.setWidth 64 (a.setWidth 32)
    rw [half_id, hA, hB]; simp [BitVec.xor_assoc]
  · show BitVec.setWidth 64 (-BitVec.setWidth 32 (BitVec.setWidth 64 (-a.setWidth 32))) = BitVec.setWidth 64 (a.setWidth 32)
    rw [half_id, hA]; simp
  · show BitVec.setWidth 64 (a.setWidth 32 + BitVec.setWidth 32 (BitVec.setWidth 64 (-b.setWidth 32))) = BitVec.setWidth 64 (a.setWidth 32 - b.setWidth 32)
    rw [half_id, hA, hB, BitVec.sub_eq_add_neg]

set_option maxRecDepth 100000 in
set_option maxHeartbeats 1000000 in
theorem aluBack_walk (a b : BitVec 64) (w : World) :
    Calls Try.prog 8 #[.int .u64 (N a), .int .u64 (N b)] w fun e w' => e = .returned (.bool true) ∧ Grown w w' := by
  obtain ⟨t1, t2, t3, t4, t5⟩ := back_true a b
  obtain ⟨f1, f2, f3, f4⟩ := back_false a b
  have i0 : ∀ w, (Instr.index 33 (.agg #[.bool true, .bool false]) (.int .i64 0)).run Try.prog w = .ok (.bool true) w := fun _ => by kernel_rfl
  have i1 : ∀ w, (Instr.index 33 (.agg #[.bool true, .bool false]) (.int .i64 1)).run Try.prog w = .ok (.bool false) w := fun _ => by kernel_rfl
  go_enter Try.func8, Try.ntmps8
  go_wp2
  refine wp_loop_rounds 3 ?_
  rw [rounds_succ]
  go_wp2_with (first | (go_at_call 25; refine (do_I _ _ _ _ _ (by first | decide | exact N_nonneg _) (by first | decide | exact N_lt64 _) (by first | decide | exact N_nonneg _) (by first | decide | exact N_lt64 _)).mono ?_; rintro e w' ⟨rfl, hg⟩) | (go_at_call 27; refine (reckoned_any _).mono ?_; rintro e w' ⟨rfl, hg⟩))
  rw [rounds_succ]
  go_wp2_with (first | (go_at_call 25; refine (do_I _ _ _ _ _ (by first | decide | exact N_nonneg _) (by first | decide | exact N_lt64 _) (by first | decide | exact N_nonneg _) (by first | decide | exact N_lt64 _)).mono ?_; rintro e w' ⟨rfl, hg⟩) | (go_at_call 27; refine (reckoned_any _).mono ?_; rintro e w' ⟨rfl, hg⟩))
  rw [rounds_succ]
  go_wp2_with (first | (go_at_call 25; refine (do_I _ _ _ _ _ (by first | decide | exact N_nonneg _) (by first | decide | exact N_lt64 _) (by first | decide | exact N_nonneg _) (by first | decide | exact N_lt64 _)).mono ?_; rintro e w' ⟨rfl, hg⟩) | (go_at_call 27; refine (reckoned_any _).mono ?_; rintro e w' ⟨rfl, hg⟩))
  go_ret
  exact ⟨rfl, by repeat (first | exact Grown.refl _ | refine Grown.trans' ?_ (by assumption))⟩
theorem parted_word {k : Nat} (a b : BitVec k) : a / b * b + a % b = a := by
  apply BitVec.eq_of_toNat_eq
  have h := Nat.div_add_mod a.toNat b.toNat
  have ha := a.isLt
  have hm : a.toNat / b.toNat * b.toNat ≤ a.toNat := Nat.div_mul_le_self _ _
  rw [BitVec.toNat_add, BitVec.toNat_mul, BitVec.toNat_udiv, BitVec.toNat_umod, Nat.mod_eq_of_lt (a := a.toNat / b.toNat * b.toNat) (by omega)]
  rw [Nat.mul_comm] at h
  rw [h, Nat.mod_eq_of_lt ha]
theorem N_pos {k : Nat} {b : BitVec k} (h : ¬ b = 0#k) : 0 < N b := by
  have := N_nonneg b
  have : ¬ N b = 0 := fun h0 => h (N_inj (by rw [h0]; rfl))
  omega
theorem N_mod_lt {k : Nat} (a : BitVec k) {b : BitVec k} (h : ¬ b = 0#k) : N (a % b) < N b := by
  have h1 := N_pos h
  unfold N at *
  rw [BitVec.toNat_umod]
  have := Nat.mod_lt a.toNat (show 0 < b.toNat by omega)
  omega
theorem parted_facts (wide : Bool) (a b : BitVec 64) : ∃ x y q r : BitVec 64, aluS 176 wide 0#64 a = x ∧ aluS 176 wide 0#64 b = y ∧ aluS 48 wide a b = q ∧ aluS 144 wide a b = r ∧ q * y + r = x ∧ ((y = 0#64 ∧ q = 0#64 ∧ r = x) ∨ (0 < N y ∧ N r < N y)) := by
  cases wide
  · refine ⟨(a.setWidth 32).setWidth 64, (b.setWidth 32).setWidth 64, (a.setWidth 32 / b.setWidth 32).setWidth 64, (a.setWidth 32 % b.setWidth 32).setWidth 64, rfl, rfl, rfl, rfl, ?_, ?_⟩
    · generalize a.setWidth 32 = A
      generalize b.setWidth 32 = B
      apply BitVec.eq_of_toNat_eq
      have h := Nat.div_add_mod A.toNat B.toNat
      have ha := A.isLt
      have hb := B.isLt
      have hm : A.toNat / B.toNat * B.toNat ≤ A.toNat := Nat.div_mul_le_self _ _
      have hq : A.toNat / B.toNat ≤ A.toNat := Nat.div_le_self _ _
      have hr : A.toNat % B.toNat ≤ A.toNat := Nat.mod_le _ _
      simp only [BitVec.toNat_add, BitVec.toNat_mul, BitVec.toNat_setWidth, BitVec.toNat_udiv, BitVec.toNat_umod]
      rw [Nat.mod_eq_of_lt (a := A.toNat / B.toNat) (b := 2 ^ 64) (by omega), Nat.mod_eq_of_lt (a := B.toNat) (b := 2 ^ 64) (by omega), Nat.mod_eq_of_lt (a := A.toNat % B.toNat) (b := 2 ^ 64) (by omega), Nat.mod_eq_of_lt (a := A.toNat / B.toNat * B.toNat) (b := 2 ^ 64) (by omega)]
      rw [Nat.mul_comm] at h
      rw [h]
    · by_cases h : b.setWidth 32 = 0#32
      · left; rw [h]; simp
      · right; rw [N_set64, N_set64]; exact ⟨N_pos h, N_mod_lt _ h⟩
  · refine ⟨a, b, a / b, a % b, rfl, rfl, rfl, rfl, parted_word a b, ?_⟩
    by_cases h : b = 0#64
    · left; subst h; simp
    · right; exact ⟨N_pos h, N_mod_lt _ h⟩

set_option maxRecDepth 100000 in
set_option maxHeartbeats 2000000 in
theorem aluParted_walk (a b : BitVec 64) (w : World) :
    Calls Try.prog 9 #[.int .u64 (N a), .int .u64 (N b)] w fun e w' => e = .returned (.bool true) ∧ Grown w w' := by
  obtain ⟨x, y, q, r, t1, t2, t3, t4, t5, t6⟩ := parted_facts true a b
  obtain ⟨x', y', q', r', f1, f2, f3, f4, f5, f6⟩ := parted_facts false a b
  have i0 : ∀ w, (Instr.index 33 (.agg #[.bool true, .bool false]) (.int .i64 0)).run Try.prog w = .ok (.bool true) w := fun _ => by kernel_rfl
  have i1 : ∀ w, (Instr.index 33 (.agg #[.bool true, .bool false]) (.int .i64 1)).run Try.prog w = .ok (.bool false) w := fun _ => by kernel_rfl
  rcases t6 with ⟨rfl, rfl, rfl⟩ | ⟨t6, t7⟩ <;> rcases f6 with ⟨rfl, rfl, rfl⟩ | ⟨f6, f7⟩
  all_goals
    go_enter Try.func9, Try.ntmps9
    go_wp2
    refine wp_loop_rounds 3 ?_
    rw [rounds_succ]
    go_wp2_with (first | (go_at_call 25; refine (do_I _ _ _ _ _ (by first | decide | exact N_nonneg _) (by first | decide | exact N_lt64 _) (by first | decide | exact N_nonneg _) (by first | decide | exact N_lt64 _)).mono ?_; rintro e w' ⟨rfl, hg⟩) | (go_at_call 27; refine (reckoned_any _).mono ?_; rintro e w' ⟨rfl, hg⟩))
    rw [rounds_succ]
    go_wp2_with (first | (go_at_call 25; refine (do_I _ _ _ _ _ (by first | decide | exact N_nonneg _) (by first | decide | exact N_lt64 _) (by first | decide | exact N_nonneg _) (by first | decide | exact N_lt64 _)).mono ?_; rintro e w' ⟨rfl, hg⟩) | (go_at_call 27; refine (reckoned_any _).mono ?_; rintro e w' ⟨rfl, hg⟩))
    rw [rounds_succ]
    go_wp2_with (first | (go_at_call 25; refine (do_I _ _ _ _ _ (by first | decide | exact N_nonneg _) (by first | decide | exact N_lt64 _) (by first | decide | exact N_nonneg _) (by first | decide | exact N_lt64 _)).mono ?_; rintro e w' ⟨rfl, hg⟩) | (go_at_call 27; refine (reckoned_any _).mono ?_; rintro e w' ⟨rfl, hg⟩))
    go_ret
    exact ⟨rfl, by repeat (first | exact Grown.refl _ | refine Grown.trans' ?_ (by assumption))⟩
end Go.Proofs.Ytdlbapenkhljcaa
