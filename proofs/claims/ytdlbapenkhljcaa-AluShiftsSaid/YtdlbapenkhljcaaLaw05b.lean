/-
  The walk of the law AluShifts.
-/
import Derived.Test.YtdlbapenkhljcaaLaw05
import Derived.Test.YtdlbapenkhljcaaReg
import Derived.Lib.Hide
namespace Go.Proofs.Ytdlbapenkhljcaa
open Go.RowKit

theorem up_down {w : Nat} (A : BitVec w) (n : Nat) (hn : n < w) : ((A <<< n) >>> n).toNat = A.toNat % 2 ^ (w - n) := by
  rw [BitVec.toNat_ushiftRight, BitVec.toNat_shiftLeft, Nat.shiftLeft_eq, Nat.shiftRight_eq_div_pow]
  have e : 2 ^ w = 2 ^ (w - n) * 2 ^ n := by rw [← Nat.pow_add]; congr 1; omega
  rw [e, Nat.mul_mod_mul_right, Nat.mul_div_cancel _ (Nat.two_pow_pos n)]
theorem down_up {w : Nat} (A : BitVec w) (n : Nat) : ((A >>> n) <<< n).toNat = A.toNat - A.toNat % 2 ^ n := by
  rw [BitVec.toNat_shiftLeft, BitVec.toNat_ushiftRight, Nat.shiftLeft_eq, Nat.shiftRight_eq_div_pow]
  have h := Nat.div_add_mod A.toNat (2 ^ n)
  rw [Nat.mul_comm] at h
  have ha := A.isLt
  rw [Nat.mod_eq_of_lt (by omega)]
  omega
theorem sub_mod_toNat (X : BitVec 64) (n : Nat) (hn : n < 64) : (X - X % (1#64 <<< n)).toNat = X.toNat - X.toNat % 2 ^ n := by
  have h1 : 2 ^ n < 2 ^ 64 := Nat.pow_lt_pow_right (by decide) hn
  have e : (1#64 <<< n).toNat = 2 ^ n := by
    rw [BitVec.toNat_shiftLeft, Nat.shiftLeft_eq, show (1#64).toNat = 1 from rfl, Nat.one_mul, Nat.mod_eq_of_lt h1]
  have h2 : X.toNat % 2 ^ n ≤ X.toNat := Nat.mod_le _ _
  have h3 := X.isLt
  rw [BitVec.toNat_sub, BitVec.toNat_umod, e]
  generalize X.toNat % 2 ^ n = r at *
  omega
theorem mod_toNat (X : BitVec 64) (n : Nat) (hn : n < 64) : (X % (1#64 <<< n)).toNat = X.toNat % 2 ^ n := by
  have h1 : 2 ^ n < 2 ^ 64 := Nat.pow_lt_pow_right (by decide) hn
  have e : (1#64 <<< n).toNat = 2 ^ n := by
    rw [BitVec.toNat_shiftLeft, Nat.shiftLeft_eq, show (1#64).toNat = 1 from rfl, Nat.one_mul, Nat.mod_eq_of_lt h1]
  rw [BitVec.toNat_umod, e]
theorem sar_minus {w : Nat} (A : BitVec w) (n : Nat) (h : A.msb = true) : A.sshiftRight n = 0#w - ((-A - 1#w) >>> n + 1#w) := by
  rw [BitVec.sshiftRight_eq_of_msb_true h]
  have e : -A - 1#w = ~~~A := by rw [BitVec.not_eq_neg_add]
  have e2 : ~~~(~~~A >>> n) = -(~~~A >>> n) - 1#w := BitVec.not_eq_neg_add _
  rw [e, e2]
  generalize ~~~A >>> n = q
  rw [BitVec.zero_sub, BitVec.neg_add, BitVec.sub_eq_add_neg]
theorem msb_shr {w : Nat} (A : BitVec w) (hw : 0 < w) : (A >>> (w - 1)).toNat = if A.msb then 1 else 0 := by
  rw [BitVec.toNat_ushiftRight, Nat.shiftRight_eq_div_pow, BitVec.msb_eq_decide]
  have e : 2 ^ w = 2 * 2 ^ (w - 1) := by rw [← Nat.pow_succ']; congr 1; omega
  have ha := A.isLt
  rw [e] at ha
  have hp := Nat.two_pow_pos (w - 1)
  by_cases h : 2 ^ (w - 1) ≤ A.toNat
  · simp only [h, decide_true, if_true]
    rw [Nat.div_eq_iff hp]
    omega
  · simp only [h, decide_false]
    rw [Nat.div_eq_of_lt (by omega)]
    rfl
theorem cnt64 (n : Nat) (hn : n < 64) : (BitVec.ofNat 64 n).toNat % 64 = n := by simp; omega
theorem cnt64' (n : Nat) (hn : n < 64) : (BitVec.ofNat 64 n + 64#64).toNat % 64 = n := by simp; omega
theorem cnt32 (n : Nat) (hn : n < 32) : ((BitVec.ofNat 64 n).setWidth 32).toNat % 32 = n := by simp; omega
theorem cnt32' (n : Nat) (hn : n < 32) : ((BitVec.ofNat 64 n + 32#64).setWidth 32).toNat % 32 = n := by simp; omega
theorem shifts_true (a : BitVec 64) (n : Nat) (hn : n < 64) : ∃ U D S : BitVec 64,
    aluS 176 true 0#64 a = a ∧ aluS 96 true a (BitVec.ofNat 64 n) = U ∧ aluS 112 true a (BitVec.ofNat 64 n) = D ∧ aluS 192 true a (BitVec.ofNat 64 n) = S ∧
    (n = 0 → U = a ∧ D = a ∧ S = a ∧ a - a % (1#64 <<< n) = a) ∧ (0 < n → aluS 112 true U (BitVec.ofNat 64 n) = a % (1#64 <<< (64 - n))) ∧
    aluS 96 true D (BitVec.ofNat 64 n) = a - a % (1#64 <<< n) ∧
    aluS 96 true a (BitVec.ofNat 64 n + 64#64) = U ∧ aluS 112 true a (BitVec.ofNat 64 n + 64#64) = D ∧ aluS 192 true a (BitVec.ofNat 64 n + 64#64) = S ∧
    ((N (a >>> 63) = 0 ∧ S = D) ∨ (N (a >>> 63) = 1 ∧ aluS 16 true 0#64 (aluS 112 true (aluS 128 true a 0#64 - 1#64) (BitVec.ofNat 64 n) + 1#64) = S)) := by
  have c := cnt64 n hn
  have c' := cnt64' n hn
  have s1 : ∀ v : BitVec 64, aluS 96 true v (BitVec.ofNat 64 n) = v <<< n := fun v => by show v <<< ((BitVec.ofNat 64 n).toNat % 64) = _; rw [c]
  have s2 : ∀ v : BitVec 64, aluS 112 true v (BitVec.ofNat 64 n) = v >>> n := fun v => by show v >>> ((BitVec.ofNat 64 n).toNat % 64) = _; rw [c]
  have s3 : aluS 192 true a (BitVec.ofNat 64 n) = a.sshiftRight n := by show a.sshiftRight ((BitVec.ofNat 64 n).toNat % 64) = _; rw [c]
  refine ⟨a <<< n, a >>> n, a.sshiftRight n, rfl, s1 a, s2 a, s3, ?_, ?_, ?_, ?_, ?_, ?_, ?_⟩
  · rintro rfl; simp
  · intro h0
    rw [s2]
    apply BitVec.eq_of_toNat_eq
    rw [up_down a n hn, mod_toNat a (64 - n) (by omega)]
  · rw [s1]
    apply BitVec.eq_of_toNat_eq
    rw [down_up, sub_mod_toNat a n hn]
  · show a <<< ((BitVec.ofNat 64 n + 64#64).toNat % 64) = _; rw [c']
  · show a >>> ((BitVec.ofNat 64 n + 64#64).toNat % 64) = _; rw [c']
  · show a.sshiftRight ((BitVec.ofNat 64 n + 64#64).toNat % 64) = _; rw [c']
  · have hm := msb_shr a (by decide)
    cases h : a.msb
    · left
      rw [h] at hm
      exact ⟨by unfold N; rw [hm]; rfl, BitVec.sshiftRight_eq_of_msb_false h⟩
    · right
      rw [h] at hm
      refine ⟨by unfold N; rw [hm]; rfl, ?_⟩
      rw [s2]
      exact (sar_minus a n h).symm
theorem shifts_true2 (a : BitVec 64) (n : Nat) (hn : n < 64) : ∃ X U D S : BitVec 64,
    aluS 176 true 0#64 a = X ∧ aluS 96 true a (BitVec.ofNat 64 n) = U ∧ aluS 112 true a (BitVec.ofNat 64 n) = D ∧ aluS 192 true a (BitVec.ofNat 64 n) = S ∧
    (n = 0 → U = X ∧ D = X ∧ S = X ∧ X - X % (1#64 <<< n) = X) ∧ (0 < n → aluS 112 true U (BitVec.ofNat 64 n) = X % (1#64 <<< (64 - n))) ∧
    aluS 96 true D (BitVec.ofNat 64 n) = X - X % (1#64 <<< n) ∧
    aluS 96 true a (BitVec.ofNat 64 n + 64#64) = U ∧ aluS 112 true a (BitVec.ofNat 64 n + 64#64) = D ∧ aluS 192 true a (BitVec.ofNat 64 n + 64#64) = S ∧
    ((N (X >>> 63) = 0 ∧ S = D) ∨ (N (X >>> 63) = 1 ∧ aluS 16 true 0#64 (aluS 112 true (aluS 128 true a 0#64 - 1#64) (BitVec.ofNat 64 n) + 1#64) = S)) := by
  obtain ⟨U, D, S, h⟩ := shifts_true a n hn
  exact ⟨a, U, D, S, h⟩
theorem shifts_false (a : BitVec 64) (n : Nat) (hn : n < 32) : ∃ X U D S : BitVec 64,
    aluS 176 false 0#64 a = X ∧ aluS 96 false a (BitVec.ofNat 64 n) = U ∧ aluS 112 false a (BitVec.ofNat 64 n) = D ∧ aluS 192 false a (BitVec.ofNat 64 n) = S ∧
    (n = 0 → U = X ∧ D = X ∧ S = X ∧ X - X % (1#64 <<< n) = X) ∧ (0 < n → aluS 112 false U (BitVec.ofNat 64 n) = X % (1#64 <<< (32 - n))) ∧
    aluS 96 false D (BitVec.ofNat 64 n) = X - X % (1#64 <<< n) ∧
    aluS 96 false a (BitVec.ofNat 64 n + 32#64) = U ∧ aluS 112 false a (BitVec.ofNat 64 n + 32#64) = D ∧ aluS 192 false a (BitVec.ofNat 64 n + 32#64) = S ∧
    ((N (X >>> 31) = 0 ∧ S = D) ∨ (N (X >>> 31) = 1 ∧ aluS 16 false 0#64 (aluS 112 false (aluS 128 false a 0#64 - 1#64) (BitVec.ofNat 64 n) + 1#64) = S)) := by
  have c := cnt32 n hn
  have c' := cnt32' n hn
  generalize hA : a.setWidth 32 = A
  have s1 : ∀ v : BitVec 64, aluS 96 false v (BitVec.ofNat 64 n) = (v.setWidth 32 <<< n).setWidth 64 := fun v => by show (v.setWidth 32 <<< (((BitVec.ofNat 64 n).setWidth 32).toNat % 32)).setWidth 64 = _; rw [c]
  have s2 : ∀ v : BitVec 64, aluS 112 false v (BitVec.ofNat 64 n) = (v.setWidth 32 >>> n).setWidth 64 := fun v => by show (v.setWidth 32 >>> (((BitVec.ofNat 64 n).setWidth 32).toNat % 32)).setWidth 64 = _; rw [c]
  have s3 : aluS 192 false a (BitVec.ofNat 64 n) = (A.sshiftRight n).setWidth 64 := by show ((a.setWidth 32).sshiftRight (((BitVec.ofNat 64 n).setWidth 32).toNat % 32)).setWidth 64 = _; rw [c, hA]
  have s1a := s1 a
  have s2a := s2 a
  rw [hA] at s1a s2a
  have toN : ∀ v : BitVec 32, (v.setWidth 64).toNat = v.toNat := fun v => by rw [BitVec.toNat_setWidth, Nat.mod_eq_of_lt (by have := v.isLt; omega)]
  refine ⟨A.setWidth 64, (A <<< n).setWidth 64, (A >>> n).setWidth 64, (A.sshiftRight n).setWidth 64, ?_, s1a, s2a, s3, ?_, ?_, ?_, ?_, ?_, ?_, ?_⟩
  · show (a.setWidth 32).setWidth 64 = _; rw [hA]
  · rintro rfl; simp
  · intro h0
    rw [s2, half_id]
    apply BitVec.eq_of_toNat_eq
    rw [toN, up_down A n hn, mod_toNat _ (32 - n) (by omega), toN]
  · rw [s1, half_id]
    apply BitVec.eq_of_toNat_eq
    rw [toN, down_up, sub_mod_toNat _ n (by omega), toN]
  · show ((a.setWidth 32) <<< (((BitVec.ofNat 64 n + 32#64).setWidth 32).toNat % 32)).setWidth 64 = _; rw [c', hA]
  · show ((a.setWidth 32) >>> (((BitVec.ofNat 64 n + 32#64).setWidth 32).toNat % 32)).setWidth 64 = _; rw [c', hA]
  · show ((a.setWidth 32).sshiftRight (((BitVec.ofNat 64 n + 32#64).setWidth 32).toNat % 32)).setWidth 64 = _; rw [c', hA]
  · have hm : ((A.setWidth 64) >>> 31).toNat = if A.msb then 1 else 0 := by
      rw [← msb_shr A (by decide), BitVec.toNat_ushiftRight, BitVec.toNat_ushiftRight, toN]
    cases h : A.msb
    · left
      rw [h] at hm
      exact ⟨by unfold N; rw [hm]; rfl, by rw [BitVec.sshiftRight_eq_of_msb_false h]⟩
    · right
      rw [h] at hm
      refine ⟨by unfold N; rw [hm]; rfl, ?_⟩
      rw [s2]
      show (0#32 - ((BitVec.setWidth 64 ((aluS 128 false a 0#64 - 1#64).setWidth 32 >>> n)) + 1#64).setWidth 32).setWidth 64 = _
      have e1 : (aluS 128 false a 0#64 - 1#64).setWidth 32 = -A - 1#32 := by
        have := half_sub (-A) 1#32
        show ((-(a.setWidth 32)).setWidth 64 - 1#64).setWidth 32 = _
        rw [hA]; exact this
      have e2 : ∀ q : BitVec 32, (q.setWidth 64 + 1#64).setWidth 32 = q + 1#32 := fun q => half_add q 1#32
      rw [e1, e2, sar_minus A n h]
theorem do_n (x : Int) (wide : Bool) (a : BitVec 64) (n : Nat) (hn : n < 64) (w : World) :
    Calls Try.prog 25 #[.int .u8 x, .bool wide, .int .u64 (N a), .int .u64 (n : Int)] w fun e w' => e = .returned (.int .u64 (N (aluS x wide a (BitVec.ofNat 64 n)))) ∧ Grown w w' := by
  have e : (n : Int) = N (BitVec.ofNat 64 n) := by unfold N; simp; omega
  rw [e]
  exact do_any x wide a _ w
theorem do_Z (x : Int) (wide : Bool) (a : BitVec 64) (w : World) :
    Calls Try.prog 25 #[.int .u8 x, .bool wide, .int .u64 0, .int .u64 (N a)] w fun e w' => e = .returned (.int .u64 (N (aluS x wide 0#64 a))) ∧ Grown w w' := do_any x wide 0#64 a w
theorem do_Z2 (x : Int) (wide : Bool) (a : BitVec 64) (w : World) :
    Calls Try.prog 25 #[.int .u8 x, .bool wide, .int .u64 (N a), .int .u64 0] w fun e w' => e = .returned (.int .u64 (N (aluS x wide a 0#64))) ∧ Grown w w' := do_any x wide a 0#64 w

theorem do_eq (x : Int) (wide : Bool) (a b : BitVec 64) (bi : Int) (h : bi = N b) (w : World) :
    Calls Try.prog 25 #[.int .u8 x, .bool wide, .int .u64 (N a), .int .u64 bi] w fun e w' => e = .returned (.int .u64 (N (aluS x wide a b))) ∧ Grown w w' := by
  subst h
  exact do_any x wide a b w
attribute [local go_sem] u64_wrap u8_wrap BitVec.ofInt_add BitVec.ofInt_mul ofInt_sub' ofInt_N ofInt_Nw ofInt_pow ofInt_shl mul_shl1 N_shr N_tmod BitVec.ofInt_natCast u64_and

set_option maxRecDepth 100000 in
set_option maxHeartbeats 8000000 in
theorem aluShifts_walk (a : BitVec 64) (c : BitVec 8) (w : World) :
    Calls Try.prog 11 #[.int .u64 (N a), .int .u8 (N c)] w fun e w' => e = .returned (.bool true) ∧ Grown w w' := by
  have i0 : ∀ w, (Instr.index 33 (.agg #[.bool true, .bool false]) (.int .i64 0)).run Try.prog w = .ok (.bool true) w := fun _ => by kernel_rfl
  have i1 : ∀ w, (Instr.index 33 (.agg #[.bool true, .bool false]) (.int .i64 1)).run Try.prog w = .ok (.bool false) w := fun _ => by kernel_rfl
  go_enter Try.func11, Try.ntmps11
  go_wp2
  go_loopw [15] (fun i wr => ∃ k : Nat, k ≤ 2 ∧ i = .int .i64 (k : Int) ∧ Gw w wr) (fun i _ => (2 - intOf i).toNat)
  case atStart => exact ⟨0, by omega, rfl, Grown.refl _⟩
  case round =>
    obtain ⟨k, hk, rfl, hgr⟩ := hrel
    rcases (by omega : k = 2 ∨ k = 0 ∨ k = 1) with rfl | rfl | rfl
    · go_wp2_with fail
      refine (reckoned_any _).mono ?_
      rintro e w' ⟨rfl, hg⟩
      go_wp2_with fail
      go_ret
      exact ⟨rfl, Gw.trans hgr hg⟩
    obtain ⟨n, hn, hlt⟩ : ∃ n : Nat, (N (c.setWidth 64)).tmod 64 = (n : Int) ∧ n < 64 := ⟨(c.setWidth 64).toNat % 64, by unfold N; rw [Int.tmod_eq_emod_of_nonneg (by omega)]; omega, by omega⟩
    have hl2 : n < 64 := hlt
    obtain ⟨X, U, D, S, f1, f2, f3, f4, f5, f6, f7, f8, f9, f10, f11⟩ := shifts_true2 a n hlt
    have sA : 0 < n → N (64#64 - BitVec.ofNat 64 n) = ((64 - n : Nat) : Int) := fun _ => by unfold N; congr 1; simp; omega
    have nA : 0 < n → ¬ N (1#64 <<< (64 - n)) = 0 := fun _ => shl1_ne' _ (by omega)
    rotate_left
    obtain ⟨n, hn, hlt⟩ : ∃ n : Nat, (N (c.setWidth 64)).tmod 32 = (n : Int) ∧ n < 32 := ⟨(c.setWidth 64).toNat % 32, by unfold N; rw [Int.tmod_eq_emod_of_nonneg (by omega)]; omega, by omega⟩
    have hl2 : n < 64 := by omega
    obtain ⟨X, U, D, S, f1, f2, f3, f4, f5, f6, f7, f8, f9, f10, f11⟩ := shifts_false a n hlt
    have sA : 0 < n → N (32#64 - BitVec.ofNat 64 n) = ((32 - n : Nat) : Int) := fun _ => by unfold N; congr 1; simp; omega
    have nA : 0 < n → ¬ N (1#64 <<< (32 - n)) = 0 := fun _ => shl1_ne' _ (by omega)
    rotate_left
    all_goals
      have nB := shl1_ne' n hl2
      have n63 : N (63#64) = 63 := rfl
      have HN : Hid ((n : Int) = N (BitVec.ofNat 64 n)) := Lib.hid (by unfold N; simp; omega)
      have n31 : N (31#64) = 31 := rfl
      go_wp2_with fail
      refine (do_Z _ _ _ _).mono ?_
      rintro e w1 ⟨rfl, g1⟩
      rw [f1]
      go_wp2_with fail
      refine (do_n _ _ _ n hl2 _).mono ?_
      rintro e w2 ⟨rfl, g2⟩
      rw [f2]
      go_wp2_with fail
      refine (do_n _ _ _ n hl2 _).mono ?_
      rintro e w3 ⟨rfl, g3⟩
      rw [f3]
      go_wp2_with fail
      refine (do_n _ _ _ n hl2 _).mono ?_
      rintro e w4 ⟨rfl, g4⟩
      rw [f4]
      go_wp2_with fail
      have h0 : Gw w w4.drew := Gw.drew (Gw.trans (Gw.trans (Gw.trans (Gw.trans hgr g1) g2) g3) g4)
      clear hgr g1 g2 g3 g4
      rcases Nat.eq_zero_or_pos n with hn0 | hn0
      have q1 : decide ((0 : Int) < (n : Int)) = false := by rw [hn0]; rfl
      have q2 : ((n : Int) == 0) = true := by rw [hn0]; rfl
      have q3 : decide (0 < n) = false := by rw [hn0]; rfl
      have q4 : (n == 0) = true := by rw [hn0]; rfl
      have q5 : decide (n = 0) = true := by rw [hn0]; rfl
      have q6 : decide ((n : Int) = 0) = true := by rw [hn0]; rfl
      obtain ⟨z1, z2, z3, z4⟩ := f5 hn0
      rw [z2, z4] at f7
      clear f5 f6 sA nA hn0
      rotate_left
      have q1 : decide ((0 : Int) < (n : Int)) = true := by rw [decide_eq_true_iff]; omega
      have q2 : ((n : Int) == 0) = false := by rw [beq_eq_false_iff_ne]; omega
      have q3 : decide (0 < n) = true := by rw [decide_eq_true_iff]; omega
      have q4 : (n == 0) = false := by rw [beq_eq_false_iff_ne]; omega
      have q5 : decide (n = 0) = false := by rw [decide_eq_false_iff_not]; omega
      have q6 : decide ((n : Int) = 0) = false := by rw [decide_eq_false_iff_not]; omega
      have z1 := f6 hn0
      have z2 := sA hn0
      have z3 := nA hn0
      clear f5 f6 sA nA hn0
      rotate_left
      all_goals
        as_aux_lemma =>
          refine wp_region_lex (Gw w) (by kernel_rfl) (by kernel_rfl) h0 (fun hNon => ?_)
          simp only [List.append]
          repeat (go_big_quiet_step ((go_at_call 25; exact held_callG _ (do_eq _ _ _ _ _ (by first | exact HN.out | exact rfl) _))))
          refine wpQuiet_nil ?_
          intro w5 hHeld
          clear hNon h0
          have m3 : N X / (9223372036854775808 : Int) = N (X >>> 63) := N_shr X 63
          have m4 : N X / (2147483648 : Int) = N (X >>> 31) := N_shr X 31
          rcases f11 with ⟨m1, m2⟩ | ⟨m1, m2⟩
          · go_wp2_with fail
            go_roundw
            case rel => first | exact ⟨1, by omega, rfl, hHeld⟩ | exact ⟨2, by omega, rfl, hHeld⟩
            case measure => simp [intOf]
          · go_wp2_with fail
            refine (do_Z2 _ _ _ _).mono ?_
            rintro e v1 ⟨rfl, g1⟩
            go_wp2_with fail
            refine (do_n _ _ _ n (by omega) _).mono ?_
            rintro e v2 ⟨rfl, g2⟩
            go_wp2_with fail
            refine (do_Z _ _ _ _).mono ?_
            rintro e v3 ⟨rfl, g3⟩
            go_wp2_with fail
            have hEnd : Gw w v3 := Gw.trans (Gw.trans (Gw.trans hHeld g1) g2) g3
            go_roundw
            case rel => first | exact ⟨1, by omega, rfl, hEnd⟩ | exact ⟨2, by omega, rfl, hEnd⟩
            case measure => simp [intOf]
end Go.Proofs.Ytdlbapenkhljcaa
