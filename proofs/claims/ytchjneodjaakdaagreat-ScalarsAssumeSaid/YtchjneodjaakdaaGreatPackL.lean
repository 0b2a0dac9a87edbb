/-
  Lemmas for the laws of this seat, part L: HoldsMath, AssHas, AssHas2, HoldsRef, Law17f.
-/
import Derived.Test.YtchjneodjaakdaaGreatPackK
section
namespace Go.Proofs.YtchjneodjaakdaaGreat
open Go.RowKit

def hi64 : BitVec 64 := 1#64 <<< 63
def hi32 : BitVec 64 := 1#64 <<< 31
theorem hi64_ne : ¬ N hi64 = 0 := by decide
theorem hi32_ne : ¬ N hi32 = 0 := by decide
theorem refPower64 (w : World) : Calls Tryz.prog 29 #[.int .i64 63] w fun e w' => e = .returned (.int .u64 (N hi64)) ∧ w = w' := refPower_N 63 w (by decide) (by decide)
theorem refPower32 (w : World) : Calls Tryz.prog 29 #[.int .i64 31] w fun e w' => e = .returned (.int .u64 (N hi32)) ∧ w = w' := refPower_N 31 w (by decide) (by decide)
theorem retB {a b : Bool} (h : a = b) : Ending.returned (.bool a) = .returned (.bool b) := by rw [h]

theorem cmpI_lt (x y : Int) : cmpI x y < 0 ↔ x < y := by unfold cmpI; split <;> (try split) <;> omega
theorem cmpI_gt (x y : Int) : 0 < cmpI x y ↔ y < x := by unfold cmpI; split <;> (try split) <;> omega
theorem cmpI_eq (x y : Int) : cmpI x y = 0 ↔ x = y := by unfold cmpI; split <;> (try split) <;> omega
theorem cmpI_le (x y : Int) : cmpI x y ≤ 0 ↔ x ≤ y := by unfold cmpI; split <;> (try split) <;> omega
theorem cmpI_ge (x y : Int) : 0 ≤ cmpI x y ↔ y ≤ x := by unfold cmpI; split <;> (try split) <;> omega
theorem ds_eq (x y : Int) : (x == y) = decide (cmpI x y = 0) := by rw [Bool.eq_iff_iff]; simp [cmpI_eq]
theorem ds_ne (x y : Int) : (x != y) = !decide (cmpI x y = 0) := by rw [Bool.eq_iff_iff]; simp [cmpI_eq]
theorem ds_gt (x y : Int) : decide (y < x) = decide (0 < cmpI x y) := by rw [Bool.eq_iff_iff]; simp [cmpI_gt]
theorem ds_ge (x y : Int) : decide (y ≤ x) = decide (0 ≤ cmpI x y) := by rw [Bool.eq_iff_iff]; simp [cmpI_ge]
theorem ds_lt (x y : Int) : decide (x < y) = decide (cmpI x y < 0) := by rw [Bool.eq_iff_iff]; simp [cmpI_lt]
theorem ds_le (x y : Int) : decide (x ≤ y) = decide (cmpI x y ≤ 0) := by rw [Bool.eq_iff_iff]; simp [cmpI_le]
theorem t_gt (a b : BitVec 64) : decide (0 < N (a &&& b)) = !(a &&& b == 0#64) := by
  rw [← N_and_beq, Bool.eq_iff_iff]
  have := N_nonneg (a &&& b)
  simp; omega

/-- What the document holds against each other for numbers with a sign. -/
def turned (h x : BitVec 64) : BitVec 64 := (x + h) % h + h - x / h * h
theorem turned_nat64 (n : Nat) (hx : n < 18446744073709551616) : (((n + 9223372036854775808) % 18446744073709551616 % 9223372036854775808 + 9223372036854775808) % 18446744073709551616 + (18446744073709551616 - (n / 9223372036854775808 * 9223372036854775808) % 18446744073709551616)) % 18446744073709551616 = if n < 9223372036854775808 then n + 9223372036854775808 else n - 9223372036854775808 := by
  split
  · omega
  · omega
theorem turned_nat32 (n : Nat) (hx : n < 4294967296) : (((n + 2147483648) % 18446744073709551616 % 2147483648 + 2147483648) % 18446744073709551616 + (18446744073709551616 - (n / 2147483648 * 2147483648) % 18446744073709551616)) % 18446744073709551616 = if n < 2147483648 then n + 2147483648 else n - 2147483648 := by
  split
  · omega
  · omega
theorem turned_toNat (h x : BitVec 64) : (turned h x).toNat = (((x.toNat + h.toNat) % 2 ^ 64 % h.toNat + h.toNat) % 2 ^ 64 + (2 ^ 64 - (x.toNat / h.toNat * h.toNat) % 2 ^ 64)) % 2 ^ 64 := by
  unfold turned
  rw [BitVec.toNat_sub, BitVec.toNat_add, BitVec.toNat_mul, BitVec.toNat_udiv, BitVec.toNat_umod, BitVec.toNat_add, Nat.add_comm]
theorem turned64 (x : BitVec 64) : N (turned hi64 (lowS x 64)) = Z (signS (lowS x 64) 64) + 9223372036854775808 := by
  rw [low64, sign64]
  have e : hi64.toNat = 9223372036854775808 := by decide
  have h2 := turned_toNat hi64 x
  rw [e] at h2
  have h3 := turned_nat64 x.toNat x.isLt
  unfold N Z
  rw [BitVec.toInt_eq_toNat_cond, h2]
  generalize x.toNat = n at *
  rw [show (2 : Nat) ^ 64 = 18446744073709551616 from rfl, h3]
  by_cases h : n < 9223372036854775808
  · rw [if_pos h, if_pos (by omega)]; omega
  · rw [if_neg h, if_neg (by omega)]; omega
theorem signS32_Z (x : BitVec 64) : Z (signS (lowS x 32) 32) = if x.toNat % 4294967296 < 2147483648 then ((x.toNat % 4294967296 : Nat) : Int) else ((x.toNat % 4294967296 : Nat) : Int) - 4294967296 := by
  have hl : (lowS x 32).toNat = x.toNat % 4294967296 := low_toNat x 32 (by decide) (by decide)
  have hl2 : lowS (lowS x 32) 32 = lowS x 32 := by rw [low32, low32, half_id]
  unfold Z
  by_cases h : x.toNat % 4294967296 < 2147483648
  · rw [if_pos h, ← sign_plain (lowS x 32) 32 (by decide) (by decide) (by rw [hl2]; unfold N; rw [hl]; show ((x.toNat % 4294967296 : Nat) : Int) < 2147483648; omega), hl2, BitVec.toInt_eq_toNat_cond, hl]
    rw [if_pos (by omega)]
  · rw [if_neg h, ← sign_minus (lowS x 32) 32 (by decide) (by decide) (by rw [hl2]; unfold N; rw [hl]; show ¬ ((x.toNat % 4294967296 : Nat) : Int) < 2147483648; omega), hl2, BitVec.toInt_eq_toNat_cond]
    have e : (1#64 <<< (32 : Int).toNat).toNat = 4294967296 := by decide
    rw [BitVec.toNat_sub, hl, e]
    rw [if_neg (by omega)]
    omega
theorem turned32 (x : BitVec 64) : N (turned hi32 (lowS x 32)) = Z (signS (lowS x 32) 32) + 2147483648 := by
  rw [signS32_Z]
  have hl : (lowS x 32).toNat = x.toNat % 4294967296 := low_toNat x 32 (by decide) (by decide)
  have e : hi32.toNat = 2147483648 := by decide
  have h2 := turned_toNat hi32 (lowS x 32)
  rw [e, hl] at h2
  have h3 := turned_nat32 (x.toNat % 4294967296) (Nat.mod_lt _ (by decide))
  unfold N
  rw [h2]
  generalize x.toNat % 4294967296 = n at *
  rw [show (2 : Nat) ^ 64 = 18446744073709551616 from rfl, h3]
  by_cases h : n < 2147483648
  · rw [if_pos h, if_pos h]; omega
  · rw [if_neg h, if_neg h]; omega
theorem c_gt64 (a b : BitVec 64) : decide (N (turned hi64 (lowS b 64)) < N (turned hi64 (lowS a 64))) = decide (0 < gO true a b) := by
  rw [turned64, turned64, Bool.eq_iff_iff, decide_eq_true_iff, decide_eq_true_iff]
  show _ ↔ 0 < cmpI (Z (signS (lowS a 64) 64)) (Z (signS (lowS b 64) 64))
  rw [cmpI_gt]
  omega
theorem c_ge64 (a b : BitVec 64) : decide (N (turned hi64 (lowS b 64)) ≤ N (turned hi64 (lowS a 64))) = decide (0 ≤ gO true a b) := by
  rw [turned64, turned64, Bool.eq_iff_iff, decide_eq_true_iff, decide_eq_true_iff]
  show _ ↔ 0 ≤ cmpI (Z (signS (lowS a 64) 64)) (Z (signS (lowS b 64) 64))
  rw [cmpI_ge]
  omega
theorem c_lt64 (a b : BitVec 64) : decide (N (turned hi64 (lowS a 64)) < N (turned hi64 (lowS b 64))) = decide (gO true a b < 0) := by
  rw [turned64, turned64, Bool.eq_iff_iff, decide_eq_true_iff, decide_eq_true_iff]
  show _ ↔ cmpI (Z (signS (lowS a 64) 64)) (Z (signS (lowS b 64) 64)) < 0
  rw [cmpI_lt]
  omega
theorem c_le64 (a b : BitVec 64) : decide (N (turned hi64 (lowS a 64)) ≤ N (turned hi64 (lowS b 64))) = decide (gO true a b ≤ 0) := by
  rw [turned64, turned64, Bool.eq_iff_iff, decide_eq_true_iff, decide_eq_true_iff]
  show _ ↔ cmpI (Z (signS (lowS a 64) 64)) (Z (signS (lowS b 64) 64)) ≤ 0
  rw [cmpI_le]
  omega
theorem c_gt32 (a b : BitVec 64) : decide (N (turned hi32 (lowS b 32)) < N (turned hi32 (lowS a 32))) = decide (0 < gO false a b) := by
  rw [turned32, turned32, Bool.eq_iff_iff, decide_eq_true_iff, decide_eq_true_iff]
  show _ ↔ 0 < cmpI (Z (signS (lowS a 32) 32)) (Z (signS (lowS b 32) 32))
  rw [cmpI_gt]
  omega
theorem c_ge32 (a b : BitVec 64) : decide (N (turned hi32 (lowS b 32)) ≤ N (turned hi32 (lowS a 32))) = decide (0 ≤ gO false a b) := by
  rw [turned32, turned32, Bool.eq_iff_iff, decide_eq_true_iff, decide_eq_true_iff]
  show _ ↔ 0 ≤ cmpI (Z (signS (lowS a 32) 32)) (Z (signS (lowS b 32) 32))
  rw [cmpI_ge]
  omega
theorem c_lt32 (a b : BitVec 64) : decide (N (turned hi32 (lowS a 32)) < N (turned hi32 (lowS b 32))) = decide (gO false a b < 0) := by
  rw [turned32, turned32, Bool.eq_iff_iff, decide_eq_true_iff, decide_eq_true_iff]
  show _ ↔ cmpI (Z (signS (lowS a 32) 32)) (Z (signS (lowS b 32) 32)) < 0
  rw [cmpI_lt]
  omega
theorem c_le32 (a b : BitVec 64) : decide (N (turned hi32 (lowS a 32)) ≤ N (turned hi32 (lowS b 32))) = decide (gO false a b ≤ 0) := by
  rw [turned32, turned32, Bool.eq_iff_iff, decide_eq_true_iff, decide_eq_true_iff]
  show _ ↔ cmpI (Z (signS (lowS a 32) 32)) (Z (signS (lowS b 32) 32)) ≤ 0
  rw [cmpI_le]
  omega
end Go.Proofs.YtchjneodjaakdaaGreat
end
section
namespace Go.Proofs.YtchjneodjaakdaaGreat.Ex
open Go Go.RowKit
open Go.Proofs.YtchjneodjaakdaaGreat.Spn (Sp SHas two_forms Z_range)
/-- Both are still there. -/
def Left (r : N3) (v u : BitVec 64) : Prop := r.2.2 = true ∧ HasN r.1 v ∧ HasN r.2.1 u
theorem left_mk {x y : NI} {v u : BitVec 64} (hx : HasN x v) (hy : HasN y u) : Left (x, y, true) v u := ⟨rfl, hx, hy⟩
theorem left_sw {r : N3} {v u : BitVec 64} (h : Left r u v) : Left (sw3 r) v u := ⟨h.1, h.2.2, h.2.1⟩
theorem left_fin {r : N3} {v u : BitVec 64} (h : Left r v u) : Left (finI r) v u := by
  obtain ⟨h0, h1, h2⟩ := h
  obtain ⟨k1, t1⟩ := tight_has' h1
  obtain ⟨k2, t2⟩ := tight_has' h2
  unfold finI
  rw [if_pos h0, if_pos k1, if_pos k2]
  exact ⟨rfl, t1, t2⟩
theorem N_B {x : Int} (h : uB x = true) : N (B x) = x := by
  obtain ⟨h0, h1⟩ := of_decide_eq_true h
  exact N_ofInt x h0 (by simpa using h1)
theorem Z_B {x : Int} (h : zB x = true) : Z (B x) = x := by
  obtain ⟨v, rfl⟩ := zB_eq h
  rw [BZ]
theorem shas_iff {s : SI} (hw : sW s = true) (v : BitVec 64) : SHas (sB s) v ↔ s.lo ≤ N v ∧ N v ≤ s.hi ∧ s.slo ≤ Z v ∧ Z v ≤ s.shi := by
  unfold sW at hw
  simp only [Bool.and_eq_true] at hw
  show N (B s.lo) ≤ N v ∧ N v ≤ N (B s.hi) ∧ Z (B s.slo) ≤ Z v ∧ Z v ≤ Z (B s.shi) ↔ _
  rw [N_B hw.1.1.1, N_B hw.1.1.2, Z_B hw.1.2, Z_B hw.2]
theorem sW_of {a : NI} (h : nW a = true) : sW a.s = true := by
  unfold nW at h
  simp only [Bool.and_eq_true] at h
  exact h.2
theorem wrap_u {x : Int} (h0 : 0 ≤ x) (h1 : x < 18446744073709551616) : IntKind.u64.wrap x = x := by
  rw [u64_wrap]; exact N_ofInt x h0 (by simpa using h1)
theorem wrap_z {x : Int} (h0 : -9223372036854775808 ≤ x) (h1 : x ≤ 9223372036854775807) : IntKind.i64.wrap x = x := by
  have e : IntKind.i64.wrap x = Z (B x) := by
    have := B_i64 x
    have h := Z_B (i64_zB x)
    rw [this] at h; exact h.symm
  rw [e]; exact Z_B (decide_eq_true ⟨h0, h1⟩)
theorem zwrap_N (v : BitVec 64) : IntKind.i64.wrap (N v) = Z v := by
  have := B_i64 (N v)
  have h := Z_B (i64_zB (N v))
  rw [this, BN] at h; exact h.symm
theorem n3_out {r : N3} (h : n3W r = true) : nW r.1 = true ∧ nW r.2.1 = true := by
  unfold n3W at h; simpa only [Bool.and_eq_true] using h
theorem has_iff {a : NI} (hw : nW a = true) (v : BitVec 64) : HasN a v ↔ hasT (tB a.t).1 (tB a.t).2 v ∧ a.s.lo ≤ N v ∧ N v ≤ a.s.hi ∧ a.s.slo ≤ Z v ∧ Z v ≤ a.s.shi := by
  unfold HasN; rw [shas_iff (sW_of hw)]
theorem minI_le (x y : Int) : minI x y = if y < x then y else x := rfl
theorem less_left (s g : Bool) {a b : NI} {v u : BitVec 64} (wa : nW a = true) (wb : nW b = true) (ha : HasN a v) (hb : HasN b u)
    (h : if s then (if g then Z v < Z u else Z v ≤ Z u) else (if g then N v < N u else N v ≤ N u)) : Left (lessI s g a b) v u := by
  obtain ⟨q1, q2⟩ := n3_out (n3_less s g wa wb)
  obtain ⟨a0, a1, a2, a3, a4⟩ := (has_iff wa v).1 ha
  obtain ⟨b0, b1, b2, b3, b4⟩ := (has_iff wb u).1 hb
  have fv := two_forms v
  have fu := two_forms u
  obtain ⟨_, c1, c2, c3, c4⟩ := nW_out wa
  obtain ⟨_, d1, d2, d3, d4⟩ := nW_out wb
  have c1 := of_decide_eq_true c1
  have c2 := of_decide_eq_true c2
  have c3 := of_decide_eq_true c3
  have c4 := of_decide_eq_true c4
  have d1 := of_decide_eq_true d1
  have d2 := of_decide_eq_true d2
  have d3 := of_decide_eq_true d3
  have d4 := of_decide_eq_true d4
  cases s <;> cases g <;> simp only [if_true, if_false, Bool.false_eq_true] at h <;> simp only [lessI] at q1 q2 ⊢
  · have e1 : decide (a.s.lo > b.s.hi) = false := decide_eq_false (by omega)
    simp only [e1, Bool.false_eq_true, if_false] at q1 q2 ⊢
    refine ⟨rfl, (has_iff q1 v).2 ⟨a0, a1, ?_, a3, a4⟩, (has_iff q2 u).2 ⟨b0, ?_, b2, b3, b4⟩⟩
    · show _ ≤ minI _ _
      rw [wrap_u (by omega) (by omega)]; unfold minI; split <;> omega
    · show maxI _ _ ≤ _
      rw [wrap_u (by omega) (by omega)]; unfold maxI; split <;> omega
  · have e1 : decide (a.s.lo > b.s.hi) = false := decide_eq_false (by omega)
    have e2 : decide (a.s.lo ≥ b.s.hi) = false := decide_eq_false (by omega)
    simp only [e1, e2, Bool.false_eq_true, if_false] at q1 q2 ⊢
    refine ⟨rfl, (has_iff q1 v).2 ⟨a0, a1, ?_, a3, a4⟩, (has_iff q2 u).2 ⟨b0, ?_, b2, b3, b4⟩⟩
    · show _ ≤ minI _ _
      rw [decU, wrap_u (by omega) (by omega)]; unfold minI; split <;> omega
    · show maxI _ _ ≤ _
      rw [incU, wrap_u (by omega) (by omega)]; unfold maxI; split <;> omega
  · have e1 : decide (a.s.slo > b.s.shi) = false := decide_eq_false (by omega)
    simp only [e1, Bool.false_eq_true, if_false] at q1 q2 ⊢
    refine ⟨rfl, (has_iff q1 v).2 ⟨a0, a1, a2, a3, ?_⟩, (has_iff q2 u).2 ⟨b0, b1, b2, ?_, b4⟩⟩
    · show _ ≤ minI _ _
      rw [wrap_z (by omega) (by omega)]; unfold minI; split <;> omega
    · show maxI _ _ ≤ _
      rw [wrap_z (by omega) (by omega)]; unfold maxI; split <;> omega
  · have e1 : decide (a.s.slo > b.s.shi) = false := decide_eq_false (by omega)
    have e2 : decide (a.s.slo ≥ b.s.shi) = false := decide_eq_false (by omega)
    simp only [e1, e2, Bool.false_eq_true, if_false] at q1 q2 ⊢
    refine ⟨rfl, (has_iff q1 v).2 ⟨a0, a1, a2, a3, ?_⟩, (has_iff q2 u).2 ⟨b0, b1, b2, ?_, b4⟩⟩
    · show _ ≤ minI _ _
      rw [decZ, wrap_z (by omega) (by omega)]; unfold minI; split <;> omega
    · show maxI _ _ ≤ _
      rw [incZ, wrap_z (by omega) (by omega)]; unfold maxI; split <;> omega
theorem N_ne {v u : BitVec 64} (h : v ≠ u) : N v ≠ N u := fun e => h (BitVec.eq_of_toNat_eq (by unfold N at e; omega))
theorem without_has {a : NI} {v u : BitVec 64} (wa : nW a = true) (ha : HasN a u) (hn : u ≠ v) : HasN (withoutI a (N v)) u := by
  have q := nW_without wa (N v)
  obtain ⟨a0, a1, a2, a3, a4⟩ := (has_iff wa u).1 ha
  have n1 := N_ne hn
  have fv := two_forms v
  have fu := two_forms u
  refine (has_iff q u).2 ⟨a0, ?_, ?_, ?_, ?_⟩
  · show (if a.s.lo == N v then incU a.s.lo else a.s.lo) ≤ _
    split
    · rename_i h; have h := beq_iff_eq.1 h
      rw [incU, wrap_u (by omega) (by omega)]; omega
    · omega
  · show _ ≤ (if a.s.hi == N v then decU a.s.hi else a.s.hi)
    split
    · rename_i h; have h := beq_iff_eq.1 h
      rw [decU, wrap_u (by omega) (by omega)]; omega
    · omega
  · show (if a.s.slo == IntKind.i64.wrap (N v) then incZ a.s.slo else a.s.slo) ≤ _
    rw [zwrap_N]
    split
    · rename_i h; have h := beq_iff_eq.1 h
      rw [incZ, wrap_z (by omega) (by omega)]; omega
    · omega
  · show _ ≤ (if a.s.shi == IntKind.i64.wrap (N v) then decZ a.s.shi else a.s.shi)
    rw [zwrap_N]
    split
    · rename_i h; have h := beq_iff_eq.1 h
      rw [decZ, wrap_z (by omega) (by omega)]; omega
    · omega
theorem differ_left {a b : NI} {v u : BitVec 64} (wa : nW a = true) (wb : nW b = true) (ha : HasN a v) (hb : HasN b u) (h : v ≠ u) : Left (differI a b) v u := by
  unfold differI
  cases ka : oneK a with
  | true =>
    have ea := one_has ka wa ha
    cases kb : oneK b with
    | true =>
      have eb := one_has kb wb hb
      simp only [if_true]
      refine ⟨?_, ha, hb⟩
      show (oneI a != oneI b) = true
      rw [ea, eb]
      exact bne_iff_ne.2 (N_ne h)
    | false =>
      simp only [if_true, Bool.false_eq_true, if_false]
      rw [ea]
      exact ⟨rfl, ha, without_has wb hb (Ne.symm h)⟩
  | false =>
    cases kb : oneK b with
    | true =>
      have eb := one_has kb wb hb
      simp only [if_true, Bool.false_eq_true, if_false]
      rw [eb]
      exact ⟨rfl, without_has wa ha h, hb⟩
    | false =>
      simp only [Bool.false_eq_true, if_false]
      exact ⟨rfl, ha, hb⟩
/-- One bit alone. -/
theorem nat_below {n i j : Nat} (hi : n.testBit i = true) (hj : n.testBit j = true) (hij : i < j) : (n - 1).testBit j = true := by
  have h1 : 2 ^ i ≤ n % 2 ^ j := by
    have : (n % 2 ^ j).testBit i = true := by rw [Nat.testBit_mod_two_pow]; simp [hij, hi]
    exact Nat.ge_two_pow_of_testBit this
  have h2 : 0 < 2 ^ i := Nat.two_pow_pos i
  have h3 : (n - 1) / 2 ^ j = n / 2 ^ j := by
    have e := Nat.div_add_mod n (2 ^ j)
    have l := Nat.mod_lt n (Nat.two_pow_pos j)
    refine Nat.div_eq_of_lt_le ?_ ?_
    · rw [Nat.mul_comm]; omega
    · rw [Nat.add_mul, Nat.mul_comm]; omega
  rw [Nat.testBit_eq_decide_div_mod_eq] at hj ⊢
  rw [h3]; exact hj
theorem lone_bit {m : BitVec 64} (h : m &&& (m - 1#64) = 0#64) {i j : Nat} (hi : m.getLsbD i = true) (hj : m.getLsbD j = true) : i = j := by
  have key : ∀ p q : Nat, m.getLsbD p = true → m.getLsbD q = true → ¬ p < q := fun p q hp hq hpq => by
    have hz : (m &&& (m - 1#64)).getLsbD q = false := by rw [h]; exact BitVec.getLsbD_zero
    rw [BitVec.getLsbD_and, hq, Bool.true_and] at hz
    have h0 : m.toNat ≠ 0 := fun e => by
      have : m.toNat.testBit p = true := hp
      rw [e] at this; simp at this
    have e : (m - 1#64).toNat = m.toNat - 1 := by
      rw [BitVec.toNat_sub]
      have := m.isLt
      show (2 ^ 64 - 1 + m.toNat) % 2 ^ 64 = _
      omega
    have := nat_below (n := m.toNat) hp hq hpq
    rw [← e] at this
    rw [show (m - 1#64).getLsbD q = (m - 1#64).toNat.testBit q from rfl, this] at hz
    cases hz
  have h1 := key i j hi hj
  have h2 := key j i hj hi
  omega
theorem lone_all {m w : BitVec 64} (h : m &&& (m - 1#64) = 0#64) (hs : w &&& m = w) (h0 : w ≠ 0#64) : w = m := by
  have ⟨i, hi⟩ : ∃ i, w.getLsbD i = true := by
    refine Classical.byContradiction fun hn => h0 (BitVec.eq_of_getLsbD_eq fun i _ => ?_)
    rw [BitVec.getLsbD_zero]
    cases hw : w.getLsbD i with
    | false => rfl
    | true => exact (hn ⟨i, hw⟩).elim
  have sub : ∀ j, w.getLsbD j = true → m.getLsbD j = true := fun j hj => by
    rw [← hs, BitVec.getLsbD_and, Bool.and_eq_true] at hj; exact hj.2
  apply BitVec.eq_of_getLsbD_eq
  intro j _
  cases hm : m.getLsbD j with
  | true => rw [← lone_bit h (sub i hi) hm]; exact hi
  | false =>
    cases hw : w.getLsbD j with
    | false => rfl
    | true => rw [sub j hw] at hm; cases hm
theorem orN (x y : BitVec 64) : orI (N x) (N y) = N (x ||| y) := by
  unfold orI
  rw [show IntKind.u64.bits = 64 from rfl, ofInt_N, ofInt_N, u64_wrap, show (((x ||| y).toNat : Nat) : Int) = N (x ||| y) from rfl, ofInt_N]
theorem notN (x : BitVec 64) : notI (N x) = N (~~~x) := by
  unfold notI
  rw [show IntKind.u64.bits = 64 from rfl, ofInt_N, u64_wrap]
  rw [show (BitVec.ofInt 64 18446744073709551615 ^^^ x) = ~~~x from by
    rw [show BitVec.ofInt 64 18446744073709551615 = BitVec.allOnes 64 from by decide, BitVec.allOnes_xor]]
  rw [show (((~~~x).toNat : Nat) : Int) = N (~~~x) from rfl, ofInt_N]
theorem decN (x : BitVec 64) : decU (N x) = N (x - 1#64) := by
  unfold decU
  rw [u64_wrap]
  congr 1
  rw [ofInt_sub', ofInt_N]; rfl
theorem t_parts {a : NI} (h : nW a = true) : ∃ x y : BitVec 64, a.t = ⟨N x, N y⟩ := by
  unfold nW at h
  simp only [Bool.and_eq_true] at h
  obtain ⟨x, y, h1, h2⟩ := tW_eq2 (a := a.t.v) (b := a.t.m) h.1
  exact ⟨x, y, by cases ht : a.t; rw [ht] at h1 h2; simp only at h1 h2; rw [h1, h2]⟩
theorem tB_NN (x y : BitVec 64) : tB ⟨N x, N y⟩ = (x, y) := by unfold tB; simp only [BN]
theorem has_sub {v m x : BitVec 64} (h : hasT v m x) : x &&& (v ||| m) = x := by
  unfold hasT at h
  rw [← h]
  apply BitVec.eq_of_getLsbD_eq
  intro i hi
  simp only [BitVec.getLsbD_and, BitVec.getLsbD_or, BitVec.getLsbD_not, hi, decide_true, Bool.true_and]
  cases x.getLsbD i <;> cases m.getLsbD i <;> rfl
theorem has_low' {v m x : BitVec 64} (h : hasT v m x) : v &&& x = v := by
  unfold hasT at h
  rw [← h]
  apply BitVec.eq_of_getLsbD_eq
  intro i hi
  simp only [BitVec.getLsbD_and, BitVec.getLsbD_not, hi, decide_true, Bool.true_and]
  cases x.getLsbD i <;> cases m.getLsbD i <;> rfl
theorem meet_left {a b : NI} {v u : BitVec 64} (wa : nW a = true) (wb : nW b = true) (ha : HasN a v) (hb : HasN b u) (h : v &&& u ≠ 0#64) : Left (meetI a b) v u := by
  obtain ⟨x, m, ea⟩ := t_parts wa
  obtain ⟨y, n, eb⟩ := t_parts wb
  have hta := ha.1
  have htb := hb.1
  rw [ea, tB_NN] at hta
  rw [eb, tB_NN] at htb
  have em : mayI a b = N ((x ||| m) &&& (y ||| n)) := by
    unfold mayI
    rw [ea, eb]
    simp only
    rw [orN, orN, and_N _ (y ||| n) _ (BN _)]
  have s1 := has_sub hta
  have s2 := has_sub htb
  generalize hM : (x ||| m) &&& (y ||| n) = M at em
  have hs : (v &&& u) &&& M = v &&& u := by
    rw [← hM]
    have : (v &&& u) &&& ((x ||| m) &&& (y ||| n)) = (v &&& (x ||| m)) &&& (u &&& (y ||| n)) := by
      apply BitVec.eq_of_getLsbD_eq
      intro i hi
      simp only [BitVec.getLsbD_and]
      cases v.getLsbD i <;> cases u.getLsbD i <;> cases (x ||| m).getLsbD i <;> cases (y ||| n).getLsbD i <;> rfl
    rw [this, s1, s2]
  have hM0 : M ≠ 0#64 := fun e => h (by rw [← hs, e, BitVec.and_zero])
  have k0 : (mayI a b == 0) = false := by
    rw [em, beq_eq_false_iff_ne]
    intro e
    exact hM0 (BitVec.eq_of_toNat_eq (by unfold N at e; show M.toNat = 0; omega))
  unfold meetI
  rw [k0, if_neg Bool.false_ne_true]
  have em2 : andI (mayI a b) (decU (mayI a b)) = N (M &&& (M - 1#64)) := by rw [em, decN, and_N _ (M - 1#64) _ (BN _)]
  split
  · rename_i hk
    have hk := beq_iff_eq.1 hk
    rw [em2] at hk
    have hz : M &&& (M - 1#64) = 0#64 := BitVec.eq_of_toNat_eq (by unfold N at hk; show _ = 0; omega)
    have hw := lone_all hz hs h
    have set : ∀ z : BitVec 64, z &&& M = M → hasT (tB ⟨mayI a b, notI (mayI a b)⟩).1 (tB ⟨mayI a b, notI (mayI a b)⟩).2 z := fun z hz => by
      rw [em, notN, tB_NN]
      unfold hasT
      rw [BitVec.not_not]; exact hz
    have v1 : v &&& M = M := by
      rw [← hw]
      apply BitVec.eq_of_getLsbD_eq
      intro i hi
      simp only [BitVec.getLsbD_and]
      cases v.getLsbD i <;> cases u.getLsbD i <;> rfl
    have u1 : u &&& M = M := by
      rw [← hw]
      apply BitVec.eq_of_getLsbD_eq
      intro i hi
      simp only [BitVec.getLsbD_and]
      cases v.getLsbD i <;> cases u.getLsbD i <;> rfl
    exact ⟨rfl, ⟨(both_has ha.1 (set v v1)).2, ha.2⟩, ⟨(both_has hb.1 (set u u1)).2, hb.2⟩⟩
  · exact ⟨rfl, ha, hb⟩
theorem part_left {a b : NI} {v u : BitVec 64} (wa : nW a = true) (wb : nW b = true) (ha : HasN a v) (hb : HasN b u) (h : v &&& u = 0#64) : Left (partI a b) v u := by
  obtain ⟨x, m, ea⟩ := t_parts wa
  obtain ⟨y, n, eb⟩ := t_parts wb
  have hta := ha.1
  have htb := hb.1
  rw [ea, tB_NN] at hta
  rw [eb, tB_NN] at htb
  have l1 := has_low' hta
  have l2 := has_low' htb
  have set : ∀ z w t : BitVec 64, w &&& t = w → z &&& t = 0#64 → hasT (tB ⟨0, notI (N w)⟩).1 (tB ⟨0, notI (N w)⟩).2 z := fun z w t hw hz => by
    rw [notN, show (0 : Int) = N 0#64 from rfl, tB_NN]
    unfold hasT
    rw [BitVec.not_not]
    show z &&& w = 0#64
    rw [← hw, BitVec.and_comm w t, ← BitVec.and_assoc, hz, BitVec.zero_and]
  have ba := both_has ha.1 (b := ⟨0, notI b.t.v⟩) (by rw [eb]; exact set v y u l2 h)
  have bb := both_has hb.1 (b := ⟨0, notI a.t.v⟩) (by rw [ea]; exact set u x v l1 (by rw [BitVec.and_comm]; exact h))
  have p1 : partKA a b = true := ba.1
  have p2 : partKB a b = true := bb.1
  unfold partI
  rw [if_pos p1, if_pos p2]
  exact ⟨rfl, ⟨ba.2, ha.2⟩, ⟨bb.2, hb.2⟩⟩
theorem com_has {a b : NI} {v : BitVec 64} (ha : HasN a v) (hb : HasN b v) : comK a b = true ∧ HasN (comI a b) v := by
  obtain ⟨k1, t1⟩ := both_has ha.1 hb.1
  have hs := Spn.tight_has (Spn.common_has ha.2 hb.2)
  have k2 : sBothKI a.s b.s = true := hs.1
  have hn : HasN (comN a b) v := ⟨t1, by show SHas (sB (sBothI a.s b.s)) v; rw [sBothI, sB_sN]; exact hs.2⟩
  obtain ⟨k3, t3⟩ := tight_has' hn
  unfold comK comI
  rw [if_pos k1, if_pos k2, if_pos k1, if_pos k2]
  exact ⟨k3, t3⟩
/-- What holds, the one that JmpSet does not hold among them. -/
def condX (o : Int) (wide : Bool) (v u : BitVec 64) : Bool := if o = 255 then !(condS 64 wide v u) else condS o wide v u
theorem uO_w (v u : BitVec 64) : uO true v u = Go.Proofs.YtchjneodjaakdaaGreat.cmpI (N v) (N u) := by unfold uO bitsI; rw [if_pos rfl, low64, low64]
theorem gO_w (v u : BitVec 64) : gO true v u = Go.Proofs.YtchjneodjaakdaaGreat.cmpI (Z v) (Z u) := by unfold gO bitsI; rw [if_pos rfl, low64, low64, sign64, sign64]
theorem tO_w (v u : BitVec 64) : tO true v u = !(v &&& u == 0#64) := by unfold tO bitsI; rw [if_pos rfl, low64, low64]
theorem cmp_left {o : Int} {a b : NI} {v u : BitVec 64} (ho : isC o = true) (wa : nW a = true) (wb : nW b = true) (ha : HasN a v) (hb : HasN b u) (h : condX o true v u = true) : Left (cmpI o a b) v u := by
  unfold condX condS at h
  rw [uO_w, gO_w, tO_w] at h
  unfold isC at ho
  simp only [Bool.or_eq_true, beq_iff_eq, or_assoc] at ho
  rcases ho with rfl | rfl | rfl | rfl | rfl | rfl | rfl | rfl | rfl | rfl | rfl | rfl
  · have e : v = u := by
      have h : decide (Go.Proofs.YtchjneodjaakdaaGreat.cmpI (N v) (N u) = 0) = true := h
      have := (cmpI_eq _ _).1 (of_decide_eq_true h)
      exact BitVec.eq_of_toNat_eq (by unfold N at this; omega)
    subst e
    obtain ⟨k, t⟩ := com_has ha hb
    exact ⟨k, t, t⟩
  · refine left_fin (differ_left wa wb ha hb fun e => ?_)
    have h : (!decide (Go.Proofs.YtchjneodjaakdaaGreat.cmpI (N v) (N u) = 0)) = true := h
    rw [e, decide_eq_true ((cmpI_eq _ _).2 rfl)] at h
    cases h
  · refine left_fin (meet_left wa wb ha hb fun e => ?_)
    have h : (!(v &&& u == 0#64)) = true := h
    rw [e] at h; cases h
  · refine left_fin (part_left wa wb ha hb ?_)
    have h : (!(!(v &&& u == 0#64))) = true := h
    rw [Bool.not_not] at h
    exact beq_iff_eq.1 h
  · have h : decide (0 < Go.Proofs.YtchjneodjaakdaaGreat.cmpI (N v) (N u)) = true := h
    exact left_fin (left_sw (less_left false true wb wa hb ha ((cmpI_gt _ _).1 (of_decide_eq_true h))))
  · have h : decide (0 ≤ Go.Proofs.YtchjneodjaakdaaGreat.cmpI (N v) (N u)) = true := h
    exact left_fin (left_sw (less_left false false wb wa hb ha ((cmpI_ge _ _).1 (of_decide_eq_true h))))
  · have h : decide (0 < Go.Proofs.YtchjneodjaakdaaGreat.cmpI (Z v) (Z u)) = true := h
    exact left_fin (left_sw (less_left true true wb wa hb ha ((cmpI_gt _ _).1 (of_decide_eq_true h))))
  · have h : decide (0 ≤ Go.Proofs.YtchjneodjaakdaaGreat.cmpI (Z v) (Z u)) = true := h
    exact left_fin (left_sw (less_left true false wb wa hb ha ((cmpI_ge _ _).1 (of_decide_eq_true h))))
  · have h : decide (Go.Proofs.YtchjneodjaakdaaGreat.cmpI (N v) (N u) < 0) = true := h
    exact left_fin (less_left false true wa wb ha hb ((cmpI_lt _ _).1 (of_decide_eq_true h)))
  · have h : decide (Go.Proofs.YtchjneodjaakdaaGreat.cmpI (N v) (N u) ≤ 0) = true := h
    exact left_fin (less_left false false wa wb ha hb ((cmpI_le _ _).1 (of_decide_eq_true h)))
  · have h : decide (Go.Proofs.YtchjneodjaakdaaGreat.cmpI (Z v) (Z u) < 0) = true := h
    exact left_fin (less_left true true wa wb ha hb ((cmpI_lt _ _).1 (of_decide_eq_true h)))
  · have h : decide (Go.Proofs.YtchjneodjaakdaaGreat.cmpI (Z v) (Z u) ≤ 0) = true := h
    exact left_fin (less_left true false wa wb ha hb ((cmpI_le _ _).1 (of_decide_eq_true h)))
end Go.Proofs.YtchjneodjaakdaaGreat.Ex
end
section
namespace Go.Proofs.YtchjneodjaakdaaGreat.Ex
open Go Go.RowKit
open Go.Proofs.YtchjneodjaakdaaGreat.Spn (Sp SHas two_forms halfW)
theorem low_half (v : BitVec 64) : lowS v 32 = v &&& halfW := by rw [low32, half_set]
theorem N_half' (v : BitVec 64) : N (v &&& halfW) = ((v.toNat % 4294967296 : Nat) : Int) := by
  rw [← low_half]
  have := low_toNat v 32 (by decide) (by decide)
  unfold N
  rw [this]; rfl
theorem uO_h (v u : BitVec 64) : uO false v u = uO true (v &&& halfW) (u &&& halfW) := by
  rw [uO_w]; unfold uO bitsI; simp only [Bool.false_eq_true, if_false]; rw [low_half, low_half]
theorem tO_h (v u : BitVec 64) : tO false v u = tO true (v &&& halfW) (u &&& halfW) := by
  rw [tO_w]; unfold tO bitsI; simp only [Bool.false_eq_true, if_false]; rw [low_half, low_half]
theorem gO_h (v u : BitVec 64) : gO false v u = Go.Proofs.YtchjneodjaakdaaGreat.cmpI (Z (signS (lowS v 32) 32)) (Z (signS (lowS u 32) 32)) := by
  unfold gO bitsI; simp only [Bool.false_eq_true, if_false]
theorem sign_small {v : BitVec 64} (h : N (v &&& halfW) ≤ 2147483647) : Z (signS (lowS v 32) 32) = Z (v &&& halfW) := by
  have e := N_half' v
  have f := two_forms (v &&& halfW)
  rw [signS32_Z, if_pos (by omega)]
  omega
theorem shl32 (v : BitVec 64) : v <<< 32 = ((v.setWidth 32).setWidth 64) <<< 32 := by
  apply BitVec.eq_of_toNat_eq
  rw [BitVec.toNat_shiftLeft, BitVec.toNat_shiftLeft, BitVec.toNat_setWidth, BitVec.toNat_setWidth, Nat.shiftLeft_eq, Nat.shiftLeft_eq]
  have := v.isLt
  omega
def extV (v : BitVec 64) : BitVec 64 := (v <<< 32).sshiftRight 32
theorem Z_ext (v : BitVec 64) : Z (extV v) = Z (signS (lowS v 32) 32) := by
  have e : extV v = (v.setWidth 32).signExtend 64 := by
    have h := ext_shift (v.setWidth 32)
    rw [← shl32] at h
    exact h
  rw [e, signS32_Z]
  unfold Z
  rw [BitVec.toInt_signExtend_of_le (by decide), BitVec.toInt_eq_toNat_cond, BitVec.toNat_setWidth]
  have := Nat.mod_lt v.toNat (show 0 < 4294967296 by decide)
  show (if 2 * (v.toNat % 4294967296) < 4294967296 then ((v.toNat % 4294967296 : Nat) : Int) else ((v.toNat % 4294967296 : Nat) : Int) - 4294967296) = _
  split <;> split <;> omega
theorem ext_has' {a : NI} {v : BitVec 64} (h : HasN a v) : HasN (extI a) (extV v) := by
  have h1 := lsh_has' (c := 32#64) (by decide) h
  have h2 := arsh_has' (c := 32#64) (by decide) h1
  rw [show (32#64 : BitVec 64).toNat = 32 from rfl, show N 32#64 = 32 from by decide] at h2
  unfold extI extV
  exact h2
theorem condO_g {o : Int} (ho : isC o = true) (hs : isSg o = false) (u g g' : Int) (t : Bool) : (if o = 255 then !(condO 64 u g t) else condO o u g t) = (if o = 255 then !(condO 64 u g' t) else condO o u g' t) := by
  unfold isC at ho
  simp only [Bool.or_eq_true, beq_iff_eq, or_assoc] at ho
  rcases ho with rfl | rfl | rfl | rfl | rfl | rfl | rfl | rfl | rfl | rfl | rfl | rfl <;> first | (exact absurd hs (by decide)) | rfl
theorem condO_s {o : Int} (ho : isC o = true) (hs : isSg o = true) (u u' g : Int) (t t' : Bool) : (if o = 255 then !(condO 64 u g t) else condO o u g t) = (if o = 255 then !(condO 64 u' g t') else condO o u' g t') := by
  unfold isC at ho
  simp only [Bool.or_eq_true, beq_iff_eq, or_assoc] at ho
  rcases ho with rfl | rfl | rfl | rfl | rfl | rfl | rfl | rfl | rfl | rfl | rfl | rfl <;> first | (exact absurd hs (by decide)) | rfl
theorem condO_no {o : Int} (ho : o = 0 ∨ o = 128 ∨ o = 144 ∨ o = 224 ∨ o = 240) (u u' g g' : Int) (t t' : Bool) : condO o u g t = condO o u' g' t' := by
  rcases ho with rfl | rfl | rfl | rfl | rfl <;> rfl
theorem cond_u {o : Int} (ho : isC o = true) (hs : isSg o = false) (v u : BitVec 64) : condX o false v u = condX o true (v &&& halfW) (u &&& halfW) := by
  unfold condX condS
  rw [uO_h, tO_h]
  exact condO_g ho hs _ _ _ _
theorem cond_g {o : Int} (ho : isC o = true) (hs : isSg o = true) {v u x y : BitVec 64} (hg : gO false v u = gO true x y) : condX o false v u = condX o true x y := by
  unfold condX condS
  rw [hg]
  exact condO_s ho hs _ _ _ _ _
theorem unl_has {x a : NI} {v : BitVec 64} (wa : nW a = true) (hx : HasN x (v &&& halfW)) (ha : HasN a v) : HasN (unlI x a) v := by
  unfold unlI
  split
  · exact ha
  · rename_i h
    have h : ¬ a.s.hi > 4294967295 := fun e => h (decide_eq_true e)
    obtain ⟨_, _, a2, _, _⟩ := (has_iff wa v).1 ha
    have e : v &&& halfW = v := by
      have q := N_half' v
      apply BitVec.eq_of_toNat_eq
      unfold N at q a2
      have : v.toNat % 4294967296 = v.toNat := Nat.mod_eq_of_lt (by omega)
      omega
    rw [e] at hx
    exact hx
theorem hcS_left {o : Int} {a b : NI} {v u : BitVec 64} (wa : nW a = true) (wb : nW b = true) (ha : HasN a v) (hb : HasN b u) (h : Left (hcL o a b) (v &&& halfW) (u &&& halfW)) : Left (hcS o a b) v u := by
  obtain ⟨h0, h1, h2⟩ := h
  unfold hcS okI
  rw [if_pos h0]
  exact ⟨rfl, unl_has wa h1 ha, unl_has wb h2 hb⟩
theorem hcX_left {o : Int} {a b : NI} {v u : BitVec 64} (ho : isC o = true) (hs : isSg o = true) (_ : nW a = true) (_ : nW b = true) (ha : HasN a v) (hb : HasN b u) (h : condX o false v u = true) : Left (hcX o a b) v u := by
  have hg : gO false v u = gO true (extV v) (extV u) := by rw [gO_h, gO_w, Z_ext, Z_ext]
  rw [cond_g ho hs hg] at h
  obtain ⟨h0, _, _⟩ := cmp_left (a := settledI (extI a)) (b := settledI (extI b)) ho (nW_settled (nW_ext a)) (nW_settled (nW_ext b)) (settled_has' (ext_has' ha)) (settled_has' (ext_has' hb)) h
  have h0 : (hcE o a b).2.2 = true := h0
  unfold hcX okI
  rw [if_pos h0]
  exact ⟨rfl, ha, hb⟩
theorem hc_left {o : Int} {a b : NI} {v u : BitVec 64} (ho : isC o = true) (wa : nW a = true) (wb : nW b = true) (ha : HasN a v) (hb : HasN b u) (h : condX o false v u = true) : Left (hcI o a b) v u := by
  have la := low_has' ha
  have lb := low_has' hb
  have wla := nW_lowI a
  have wlb := nW_lowI b
  unfold hcI
  cases hs : isSg o with
  | false =>
    rw [if_neg Bool.false_ne_true]
    rw [cond_u ho hs] at h
    exact hcS_left wa wb ha hb (cmp_left ho wla wlb la lb h)
  | true =>
    rw [if_pos rfl]
    split
    · exact hcX_left ho hs wa wb ha hb h
    · rename_i g1
      split
      · exact hcX_left ho hs wa wb ha hb h
      · rename_i g2
        have g1 : ¬ (lowI a).s.hi > 2147483647 := fun e => g1 (decide_eq_true e)
        have g2 : ¬ (lowI b).s.hi > 2147483647 := fun e => g2 (decide_eq_true e)
        obtain ⟨_, _, a2, _, _⟩ := (has_iff wla _).1 la
        obtain ⟨_, _, b2, _, _⟩ := (has_iff wlb _).1 lb
        have hg : gO false v u = gO true (v &&& halfW) (u &&& halfW) := by rw [gO_h, gO_w, sign_small (by omega), sign_small (by omega)]
        rw [cond_g ho hs hg] at h
        exact hcS_left wa wb ha hb (cmp_left ho wla wlb la lb h)
theorem as_left {o : Int} (wide : Bool) {a b : NI} {v u : BitVec 64} (ho : isC o = true) (wa : nW a = true) (wb : nW b = true) (ha : HasN a v) (hb : HasN b u) (h : condX o wide v u = true) : Left (asK o wide a b) v u := by
  cases wide with
  | true => exact cmp_left ho wa wb ha hb h
  | false => exact hc_left ho wa wb ha hb h
theorem condO_opp {o : Int} (hk : isK o = true) (x g : Int) (t : Bool) (h : condO o x g t = false) : isC (opp o) = true ∧ (if opp o = 255 then !(condO 64 x g t) else condO (opp o) x g t) = true := by
  unfold isK at hk
  simp only [Bool.or_eq_true, beq_iff_eq, or_assoc] at hk
  rcases hk with rfl | rfl | rfl | rfl | rfl | rfl | rfl | rfl | rfl | rfl | rfl
  · refine ⟨rfl, ?_⟩
    have h : decide (x = 0) = false := h
    show (!decide (x = 0)) = true
    rw [h]; rfl
  · refine ⟨rfl, ?_⟩
    have h : (!decide (x = 0)) = false := h
    show decide (x = 0) = true
    simpa using h
  · refine ⟨rfl, ?_⟩
    have h : t = false := h
    show (!t) = true
    rw [h]; rfl
  · refine ⟨rfl, ?_⟩
    have h : decide (0 < x) = false := h
    show decide (x ≤ 0) = true
    have := of_decide_eq_false h
    exact decide_eq_true (by omega)
  · refine ⟨rfl, ?_⟩
    have h : decide (0 ≤ x) = false := h
    show decide (x < 0) = true
    have := of_decide_eq_false h
    exact decide_eq_true (by omega)
  · refine ⟨rfl, ?_⟩
    have h : decide (0 < g) = false := h
    show decide (g ≤ 0) = true
    have := of_decide_eq_false h
    exact decide_eq_true (by omega)
  · refine ⟨rfl, ?_⟩
    have h : decide (0 ≤ g) = false := h
    show decide (g < 0) = true
    have := of_decide_eq_false h
    exact decide_eq_true (by omega)
  · refine ⟨rfl, ?_⟩
    have h : decide (x < 0) = false := h
    show decide (0 ≤ x) = true
    have := of_decide_eq_false h
    exact decide_eq_true (by omega)
  · refine ⟨rfl, ?_⟩
    have h : decide (x ≤ 0) = false := h
    show decide (0 < x) = true
    have := of_decide_eq_false h
    exact decide_eq_true (by omega)
  · refine ⟨rfl, ?_⟩
    have h : decide (g < 0) = false := h
    show decide (0 ≤ g) = true
    have := of_decide_eq_false h
    exact decide_eq_true (by omega)
  · refine ⟨rfl, ?_⟩
    have h : decide (g ≤ 0) = false := h
    show decide (0 < g) = true
    have := of_decide_eq_false h
    exact decide_eq_true (by omega)
/-- The operations that the law asks for: keys, and five that are no conditions. -/
def op16 (x : Int) : Bool := u8B x && (isK x || (x == 0 || x == 128 || x == 144 || x == 224 || x == 240))
theorem k_of {o : Int} (hk : isK o = true) : isC o = true ∧ ¬ o = 255 := by
  unfold isK at hk
  simp only [Bool.or_eq_true, beq_iff_eq, or_assoc] at hk
  rcases hk with rfl | rfl | rfl | rfl | rfl | rfl | rfl | rfl | rfl | rfl | rfl <;> exact ⟨rfl, by decide⟩
theorem asI_left {o : Int} (wide : Bool) {a b : NI} {v u : BitVec 64} (ho : op16 o = true) (ha : HasN a v) (hb : HasN b u) : Left (asI o wide (condI o wide (N v) (N u)) a b) v u := by
  obtain ⟨ka, ta⟩ := tight_has' ha
  obtain ⟨kb, tb⟩ := tight_has' hb
  have wa := nW_tight a
  have wb := nW_tight b
  have ec : condI o wide (N v) (N u) = condS o wide v u := by unfold condI; rw [BN, BN]
  unfold asI
  rw [if_pos ka, if_pos kb, ec]
  unfold asY
  cases hk : isK o with
  | true =>
    rw [if_pos rfl]
    obtain ⟨hc, hn⟩ := k_of hk
    cases hv : condS o wide v u with
    | true =>
      rw [if_pos rfl]
      refine as_left wide hc wa wb ta tb ?_
      unfold condX
      rw [if_neg hn]; exact hv
    | false =>
      rw [if_neg Bool.false_ne_true]
      obtain ⟨h1, h2⟩ := condO_opp hk _ _ _ hv
      exact as_left wide h1 wa wb ta tb h2
  | false =>
    rw [if_neg Bool.false_ne_true]
    have e : (condI o wide 0 0 == condS o wide v u) = true := by
      rw [beq_iff_eq]
      unfold op16 at ho
      rw [hk, Bool.false_or] at ho
      simp only [Bool.and_eq_true, Bool.or_eq_true, beq_iff_eq, or_assoc] at ho
      unfold condI condS
      exact condO_no ho.2 _ _ _ _ _ _
    rw [if_pos e]
    exact ⟨rfl, ta, tb⟩
end Go.Proofs.YtchjneodjaakdaaGreat.Ex
end
section
namespace Go.Proofs.YtchjneodjaakdaaGreat
set_option maxRecDepth 20000
open Go.RowKit

attribute [local go_sem] u64_wrap u8_wrap BitVec.ofInt_add BitVec.ofInt_mul ofInt_sub' ofInt_N u64_and N_tdiv N_tmod

theorem cond_96 (wide : Bool) (a b : BitVec 64) : condS 96 wide a b = decide (0 < gO wide a b) := by unfold condS; generalize gO wide a b = g; rfl
theorem cond_112 (wide : Bool) (a b : BitVec 64) : condS 112 wide a b = decide (0 ≤ gO wide a b) := by unfold condS; generalize gO wide a b = g; rfl
theorem cond_192 (wide : Bool) (a b : BitVec 64) : condS 192 wide a b = decide (gO wide a b < 0) := by unfold condS; generalize gO wide a b = g; rfl
theorem cond_208 (wide : Bool) (a b : BitVec 64) : condS 208 wide a b = decide (gO wide a b ≤ 0) := by unfold condS; generalize gO wide a b = g; rfl

set_option maxRecDepth 100000 in
set_option maxHeartbeats 1000000 in
theorem refHolds64_0 (a b : BitVec 64) (w : World) : Calls Tryz.prog 13 #[.int .u8 0, .bool true, .int .u64 (N a), .int .u64 (N b)] w fun e w' => e = .returned (.bool (condS 0 true a b)) ∧ Grown w w' := by
  have hh := hi64_ne
  go_enter Tryz.func13, Tryz.ntmps13
  go_wp2_with (first | (go_at_call 28; refine (refLow_N _ _ _ (by decide) (by decide)).mono ?_; rintro e w' ⟨rfl, rfl⟩) | (go_at_call 29; refine (refPower64 _).mono ?_; rintro e w' ⟨rfl, rfl⟩))
  go_quiet (fail)
  go_wp2
  go_ret
  exact ⟨retB (rfl), grown_drewN (Grown.refl _) _⟩

set_option maxRecDepth 100000 in
set_option maxHeartbeats 1000000 in
theorem refHolds64_16 (a b : BitVec 64) (w : World) : Calls Tryz.prog 13 #[.int .u8 16, .bool true, .int .u64 (N a), .int .u64 (N b)] w fun e w' => e = .returned (.bool (condS 16 true a b)) ∧ Grown w w' := by
  have hh := hi64_ne
  go_enter Tryz.func13, Tryz.ntmps13
  go_wp2_with (first | (go_at_call 28; refine (refLow_N _ _ _ (by decide) (by decide)).mono ?_; rintro e w' ⟨rfl, rfl⟩) | (go_at_call 29; refine (refPower64 _).mono ?_; rintro e w' ⟨rfl, rfl⟩))
  go_quiet (fail)
  go_wp2
  go_ret
  exact ⟨retB (ds_eq _ _), grown_drewN (Grown.refl _) _⟩

set_option maxRecDepth 100000 in
set_option maxHeartbeats 1000000 in
theorem refHolds64_80 (a b : BitVec 64) (w : World) : Calls Tryz.prog 13 #[.int .u8 80, .bool true, .int .u64 (N a), .int .u64 (N b)] w fun e w' => e = .returned (.bool (condS 80 true a b)) ∧ Grown w w' := by
  have hh := hi64_ne
  go_enter Tryz.func13, Tryz.ntmps13
  go_wp2_with (first | (go_at_call 28; refine (refLow_N _ _ _ (by decide) (by decide)).mono ?_; rintro e w' ⟨rfl, rfl⟩) | (go_at_call 29; refine (refPower64 _).mono ?_; rintro e w' ⟨rfl, rfl⟩))
  go_quiet (fail)
  go_wp2
  go_ret
  exact ⟨retB (ds_ne _ _), grown_drewN (Grown.refl _) _⟩

set_option maxRecDepth 100000 in
set_option maxHeartbeats 1000000 in
theorem refHolds64_32 (a b : BitVec 64) (w : World) : Calls Tryz.prog 13 #[.int .u8 32, .bool true, .int .u64 (N a), .int .u64 (N b)] w fun e w' => e = .returned (.bool (condS 32 true a b)) ∧ Grown w w' := by
  have hh := hi64_ne
  go_enter Tryz.func13, Tryz.ntmps13
  go_wp2_with (first | (go_at_call 28; refine (refLow_N _ _ _ (by decide) (by decide)).mono ?_; rintro e w' ⟨rfl, rfl⟩) | (go_at_call 29; refine (refPower64 _).mono ?_; rintro e w' ⟨rfl, rfl⟩))
  go_quiet (fail)
  go_wp2
  go_ret
  exact ⟨retB (ds_gt _ _), grown_drewN (Grown.refl _) _⟩

set_option maxRecDepth 100000 in
set_option maxHeartbeats 1000000 in
theorem refHolds64_48 (a b : BitVec 64) (w : World) : Calls Tryz.prog 13 #[.int .u8 48, .bool true, .int .u64 (N a), .int .u64 (N b)] w fun e w' => e = .returned (.bool (condS 48 true a b)) ∧ Grown w w' := by
  have hh := hi64_ne
  go_enter Tryz.func13, Tryz.ntmps13
  go_wp2_with (first | (go_at_call 28; refine (refLow_N _ _ _ (by decide) (by decide)).mono ?_; rintro e w' ⟨rfl, rfl⟩) | (go_at_call 29; refine (refPower64 _).mono ?_; rintro e w' ⟨rfl, rfl⟩))
  go_quiet (fail)
  go_wp2
  go_ret
  exact ⟨retB (ds_ge _ _), grown_drewN (Grown.refl _) _⟩

set_option maxRecDepth 100000 in
set_option maxHeartbeats 1000000 in
theorem refHolds64_160 (a b : BitVec 64) (w : World) : Calls Tryz.prog 13 #[.int .u8 160, .bool true, .int .u64 (N a), .int .u64 (N b)] w fun e w' => e = .returned (.bool (condS 160 true a b)) ∧ Grown w w' := by
  have hh := hi64_ne
  go_enter Tryz.func13, Tryz.ntmps13
  go_wp2_with (first | (go_at_call 28; refine (refLow_N _ _ _ (by decide) (by decide)).mono ?_; rintro e w' ⟨rfl, rfl⟩) | (go_at_call 29; refine (refPower64 _).mono ?_; rintro e w' ⟨rfl, rfl⟩))
  go_quiet (fail)
  go_wp2
  go_ret
  exact ⟨retB (ds_lt _ _), grown_drewN (Grown.refl _) _⟩

set_option maxRecDepth 100000 in
set_option maxHeartbeats 1000000 in
theorem refHolds64_176 (a b : BitVec 64) (w : World) : Calls Tryz.prog 13 #[.int .u8 176, .bool true, .int .u64 (N a), .int .u64 (N b)] w fun e w' => e = .returned (.bool (condS 176 true a b)) ∧ Grown w w' := by
  have hh := hi64_ne
  go_enter Tryz.func13, Tryz.ntmps13
  go_wp2_with (first | (go_at_call 28; refine (refLow_N _ _ _ (by decide) (by decide)).mono ?_; rintro e w' ⟨rfl, rfl⟩) | (go_at_call 29; refine (refPower64 _).mono ?_; rintro e w' ⟨rfl, rfl⟩))
  go_quiet (fail)
  go_wp2
  go_ret
  exact ⟨retB (ds_le _ _), grown_drewN (Grown.refl _) _⟩

set_option maxRecDepth 100000 in
set_option maxHeartbeats 1000000 in
theorem refHolds64_96 (a b : BitVec 64) (w : World) : Calls Tryz.prog 13 #[.int .u8 96, .bool true, .int .u64 (N a), .int .u64 (N b)] w fun e w' => e = .returned (.bool (condS 96 true a b)) ∧ Grown w w' := by
  rw [cond_96]
  have hh := hi64_ne
  go_enter Tryz.func13, Tryz.ntmps13
  go_wp2_with (first | (go_at_call 28; refine (refLow_N _ _ _ (by decide) (by decide)).mono ?_; rintro e w' ⟨rfl, rfl⟩) | (go_at_call 29; refine (refPower64 _).mono ?_; rintro e w' ⟨rfl, rfl⟩))
  go_quiet (fail)
  go_wp2
  go_ret
  exact ⟨retB (c_gt64 a b), grown_drewN (Grown.refl _) _⟩

set_option maxRecDepth 100000 in
set_option maxHeartbeats 1000000 in
theorem refHolds64_112 (a b : BitVec 64) (w : World) : Calls Tryz.prog 13 #[.int .u8 112, .bool true, .int .u64 (N a), .int .u64 (N b)] w fun e w' => e = .returned (.bool (condS 112 true a b)) ∧ Grown w w' := by
  rw [cond_112]
  have hh := hi64_ne
  go_enter Tryz.func13, Tryz.ntmps13
  go_wp2_with (first | (go_at_call 28; refine (refLow_N _ _ _ (by decide) (by decide)).mono ?_; rintro e w' ⟨rfl, rfl⟩) | (go_at_call 29; refine (refPower64 _).mono ?_; rintro e w' ⟨rfl, rfl⟩))
  go_quiet (fail)
  go_wp2
  go_ret
  exact ⟨retB (c_ge64 a b), grown_drewN (Grown.refl _) _⟩

set_option maxRecDepth 100000 in
set_option maxHeartbeats 1000000 in
theorem refHolds64_192 (a b : BitVec 64) (w : World) : Calls Tryz.prog 13 #[.int .u8 192, .bool true, .int .u64 (N a), .int .u64 (N b)] w fun e w' => e = .returned (.bool (condS 192 true a b)) ∧ Grown w w' := by
  rw [cond_192]
  have hh := hi64_ne
  go_enter Tryz.func13, Tryz.ntmps13
  go_wp2_with (first | (go_at_call 28; refine (refLow_N _ _ _ (by decide) (by decide)).mono ?_; rintro e w' ⟨rfl, rfl⟩) | (go_at_call 29; refine (refPower64 _).mono ?_; rintro e w' ⟨rfl, rfl⟩))
  go_quiet (fail)
  go_wp2
  go_ret
  exact ⟨retB (c_lt64 a b), grown_drewN (Grown.refl _) _⟩

set_option maxRecDepth 100000 in
set_option maxHeartbeats 1000000 in
theorem refHolds64_208 (a b : BitVec 64) (w : World) : Calls Tryz.prog 13 #[.int .u8 208, .bool true, .int .u64 (N a), .int .u64 (N b)] w fun e w' => e = .returned (.bool (condS 208 true a b)) ∧ Grown w w' := by
  rw [cond_208]
  have hh := hi64_ne
  go_enter Tryz.func13, Tryz.ntmps13
  go_wp2_with (first | (go_at_call 28; refine (refLow_N _ _ _ (by decide) (by decide)).mono ?_; rintro e w' ⟨rfl, rfl⟩) | (go_at_call 29; refine (refPower64 _).mono ?_; rintro e w' ⟨rfl, rfl⟩))
  go_quiet (fail)
  go_wp2
  go_ret
  exact ⟨retB (c_le64 a b), grown_drewN (Grown.refl _) _⟩

set_option maxRecDepth 100000 in
set_option maxHeartbeats 1000000 in
theorem refHolds64_64 (a b : BitVec 64) (w : World) : Calls Tryz.prog 13 #[.int .u8 64, .bool true, .int .u64 (N a), .int .u64 (N b)] w fun e w' => e = .returned (.bool (condS 64 true a b)) ∧ Grown w w' := by
  have hh := hi64_ne
  go_enter Tryz.func13, Tryz.ntmps13
  go_wp2_with (first | (go_at_call 28; refine (refLow_N _ _ _ (by decide) (by decide)).mono ?_; rintro e w' ⟨rfl, rfl⟩) | (go_at_call 29; refine (refPower64 _).mono ?_; rintro e w' ⟨rfl, rfl⟩))
  go_quiet (fail)
  go_wp2
  go_ret
  exact ⟨retB (t_gt _ _), grown_drewN (Grown.refl _) _⟩

set_option maxRecDepth 100000 in
set_option maxHeartbeats 1000000 in
theorem refHolds64_none (x : Int) (hx : NoCond x) (a b : BitVec 64) (w : World) : Calls Tryz.prog 13 #[.int .u8 x, .bool true, .int .u64 (N a), .int .u64 (N b)] w fun e w' => e = .returned (.bool (condS x true a b)) ∧ Grown w w' := by
  have hd : condS x true a b = false := condO_none hx _ _ _
  rw [hd]
  obtain ⟨h1, h2, h3, h4, h5, h6, h7, h8, h9, h10, h11, h12⟩ := hx
  replace h1 := beq_eq_false_iff_ne.2 h1
  replace h2 := beq_eq_false_iff_ne.2 h2
  replace h3 := beq_eq_false_iff_ne.2 h3
  replace h4 := beq_eq_false_iff_ne.2 h4
  replace h5 := beq_eq_false_iff_ne.2 h5
  replace h6 := beq_eq_false_iff_ne.2 h6
  replace h7 := beq_eq_false_iff_ne.2 h7
  replace h8 := beq_eq_false_iff_ne.2 h8
  replace h9 := beq_eq_false_iff_ne.2 h9
  replace h10 := beq_eq_false_iff_ne.2 h10
  replace h11 := beq_eq_false_iff_ne.2 h11
  replace h12 := beq_eq_false_iff_ne.2 h12
  clear hd
  have hh := hi64_ne
  go_enter Tryz.func13, Tryz.ntmps13
  go_wp2_with (first | (go_at_call 28; refine (refLow_N _ _ _ (by decide) (by decide)).mono ?_; rintro e w' ⟨rfl, rfl⟩) | (go_at_call 29; refine (refPower64 _).mono ?_; rintro e w' ⟨rfl, rfl⟩))
  go_quiet (fail)
  go_wp2
  go_ret
  exact ⟨rfl, grown_drewN (Grown.refl _) _⟩

theorem refHolds64 (x : Int) (a b : BitVec 64) (w : World) : Calls Tryz.prog 13 #[.int .u8 x, .bool true, .int .u64 (N a), .int .u64 (N b)] w fun e w' => e = .returned (.bool (condS x true a b)) ∧ Grown w w' := by
  rcases cond_cases x with rfl | rfl | rfl | rfl | rfl | rfl | rfl | rfl | rfl | rfl | rfl | rfl | h
  · exact refHolds64_0 a b w
  · exact refHolds64_16 a b w
  · exact refHolds64_80 a b w
  · exact refHolds64_32 a b w
  · exact refHolds64_48 a b w
  · exact refHolds64_160 a b w
  · exact refHolds64_176 a b w
  · exact refHolds64_96 a b w
  · exact refHolds64_112 a b w
  · exact refHolds64_192 a b w
  · exact refHolds64_208 a b w
  · exact refHolds64_64 a b w
  · exact refHolds64_none x h a b w

set_option maxRecDepth 100000 in
set_option maxHeartbeats 1000000 in
theorem refHolds32_0 (a b : BitVec 64) (w : World) : Calls Tryz.prog 13 #[.int .u8 0, .bool false, .int .u64 (N a), .int .u64 (N b)] w fun e w' => e = .returned (.bool (condS 0 false a b)) ∧ Grown w w' := by
  have hh := hi32_ne
  go_enter Tryz.func13, Tryz.ntmps13
  go_wp2_with (first | (go_at_call 28; refine (refLow_N _ _ _ (by decide) (by decide)).mono ?_; rintro e w' ⟨rfl, rfl⟩) | (go_at_call 29; refine (refPower32 _).mono ?_; rintro e w' ⟨rfl, rfl⟩))
  go_quiet (fail)
  go_wp2
  go_ret
  exact ⟨retB (rfl), grown_drewN (Grown.refl _) _⟩

set_option maxRecDepth 100000 in
set_option maxHeartbeats 1000000 in
theorem refHolds32_16 (a b : BitVec 64) (w : World) : Calls Tryz.prog 13 #[.int .u8 16, .bool false, .int .u64 (N a), .int .u64 (N b)] w fun e w' => e = .returned (.bool (condS 16 false a b)) ∧ Grown w w' := by
  have hh := hi32_ne
  go_enter Tryz.func13, Tryz.ntmps13
  go_wp2_with (first | (go_at_call 28; refine (refLow_N _ _ _ (by decide) (by decide)).mono ?_; rintro e w' ⟨rfl, rfl⟩) | (go_at_call 29; refine (refPower32 _).mono ?_; rintro e w' ⟨rfl, rfl⟩))
  go_quiet (fail)
  go_wp2
  go_ret
  exact ⟨retB (ds_eq _ _), grown_drewN (Grown.refl _) _⟩

set_option maxRecDepth 100000 in
set_option maxHeartbeats 1000000 in
theorem refHolds32_80 (a b : BitVec 64) (w : World) : Calls Tryz.prog 13 #[.int .u8 80, .bool false, .int .u64 (N a), .int .u64 (N b)] w fun e w' => e = .returned (.bool (condS 80 false a b)) ∧ Grown w w' := by
  have hh := hi32_ne
  go_enter Tryz.func13, Tryz.ntmps13
  go_wp2_with (first | (go_at_call 28; refine (refLow_N _ _ _ (by decide) (by decide)).mono ?_; rintro e w' ⟨rfl, rfl⟩) | (go_at_call 29; refine (refPower32 _).mono ?_; rintro e w' ⟨rfl, rfl⟩))
  go_quiet (fail)
  go_wp2
  go_ret
  exact ⟨retB (ds_ne _ _), grown_drewN (Grown.refl _) _⟩

set_option maxRecDepth 100000 in
set_option maxHeartbeats 1000000 in
theorem refHolds32_32 (a b : BitVec 64) (w : World) : Calls Tryz.prog 13 #[.int .u8 32, .bool false, .int .u64 (N a), .int .u64 (N b)] w fun e w' => e = .returned (.bool (condS 32 false a b)) ∧ Grown w w' := by
  have hh := hi32_ne
  go_enter Tryz.func13, Tryz.ntmps13
  go_wp2_with (first | (go_at_call 28; refine (refLow_N _ _ _ (by decide) (by decide)).mono ?_; rintro e w' ⟨rfl, rfl⟩) | (go_at_call 29; refine (refPower32 _).mono ?_; rintro e w' ⟨rfl, rfl⟩))
  go_quiet (fail)
  go_wp2
  go_ret
  exact ⟨retB (ds_gt _ _), grown_drewN (Grown.refl _) _⟩

set_option maxRecDepth 100000 in
set_option maxHeartbeats 1000000 in
theorem refHolds32_48 (a b : BitVec 64) (w : World) : Calls Tryz.prog 13 #[.int .u8 48, .bool false, .int .u64 (N a), .int .u64 (N b)] w fun e w' => e = .returned (.bool (condS 48 false a b)) ∧ Grown w w' := by
  have hh := hi32_ne
  go_enter Tryz.func13, Tryz.ntmps13
  go_wp2_with (first | (go_at_call 28; refine (refLow_N _ _ _ (by decide) (by decide)).mono ?_; rintro e w' ⟨rfl, rfl⟩) | (go_at_call 29; refine (refPower32 _).mono ?_; rintro e w' ⟨rfl, rfl⟩))
  go_quiet (fail)
  go_wp2
  go_ret
  exact ⟨retB (ds_ge _ _), grown_drewN (Grown.refl _) _⟩

set_option maxRecDepth 100000 in
set_option maxHeartbeats 1000000 in
theorem refHolds32_160 (a b : BitVec 64) (w : World) : Calls Tryz.prog 13 #[.int .u8 160, .bool false, .int .u64 (N a), .int .u64 (N b)] w fun e w' => e = .returned (.bool (condS 160 false a b)) ∧ Grown w w' := by
  have hh := hi32_ne
  go_enter Tryz.func13, Tryz.ntmps13
  go_wp2_with (first | (go_at_call 28; refine (refLow_N _ _ _ (by decide) (by decide)).mono ?_; rintro e w' ⟨rfl, rfl⟩) | (go_at_call 29; refine (refPower32 _).mono ?_; rintro e w' ⟨rfl, rfl⟩))
  go_quiet (fail)
  go_wp2
  go_ret
  exact ⟨retB (ds_lt _ _), grown_drewN (Grown.refl _) _⟩

set_option maxRecDepth 100000 in
set_option maxHeartbeats 1000000 in
theorem refHolds32_176 (a b : BitVec 64) (w : World) : Calls Tryz.prog 13 #[.int .u8 176, .bool false, .int .u64 (N a), .int .u64 (N b)] w fun e w' => e = .returned (.bool (condS 176 false a b)) ∧ Grown w w' := by
  have hh := hi32_ne
  go_enter Tryz.func13, Tryz.ntmps13
  go_wp2_with (first | (go_at_call 28; refine (refLow_N _ _ _ (by decide) (by decide)).mono ?_; rintro e w' ⟨rfl, rfl⟩) | (go_at_call 29; refine (refPower32 _).mono ?_; rintro e w' ⟨rfl, rfl⟩))
  go_quiet (fail)
  go_wp2
  go_ret
  exact ⟨retB (ds_le _ _), grown_drewN (Grown.refl _) _⟩

set_option maxRecDepth 100000 in
set_option maxHeartbeats 1000000 in
theorem refHolds32_96 (a b : BitVec 64) (w : World) : Calls Tryz.prog 13 #[.int .u8 96, .bool false, .int .u64 (N a), .int .u64 (N b)] w fun e w' => e = .returned (.bool (condS 96 false a b)) ∧ Grown w w' := by
  rw [cond_96]
  have hh := hi32_ne
  go_enter Tryz.func13, Tryz.ntmps13
  go_wp2_with (first | (go_at_call 28; refine (refLow_N _ _ _ (by decide) (by decide)).mono ?_; rintro e w' ⟨rfl, rfl⟩) | (go_at_call 29; refine (refPower32 _).mono ?_; rintro e w' ⟨rfl, rfl⟩))
  go_quiet (fail)
  go_wp2
  go_ret
  exact ⟨retB (c_gt32 a b), grown_drewN (Grown.refl _) _⟩

set_option maxRecDepth 100000 in
set_option maxHeartbeats 1000000 in
theorem refHolds32_112 (a b : BitVec 64) (w : World) : Calls Tryz.prog 13 #[.int .u8 112, .bool false, .int .u64 (N a), .int .u64 (N b)] w fun e w' => e = .returned (.bool (condS 112 false a b)) ∧ Grown w w' := by
  rw [cond_112]
  have hh := hi32_ne
  go_enter Tryz.func13, Tryz.ntmps13
  go_wp2_with (first | (go_at_call 28; refine (refLow_N _ _ _ (by decide) (by decide)).mono ?_; rintro e w' ⟨rfl, rfl⟩) | (go_at_call 29; refine (refPower32 _).mono ?_; rintro e w' ⟨rfl, rfl⟩))
  go_quiet (fail)
  go_wp2
  go_ret
  exact ⟨retB (c_ge32 a b), grown_drewN (Grown.refl _) _⟩

set_option maxRecDepth 100000 in
set_option maxHeartbeats 1000000 in
theorem refHolds32_192 (a b : BitVec 64) (w : World) : Calls Tryz.prog 13 #[.int .u8 192, .bool false, .int .u64 (N a), .int .u64 (N b)] w fun e w' => e = .returned (.bool (condS 192 false a b)) ∧ Grown w w' := by
  rw [cond_192]
  have hh := hi32_ne
  go_enter Tryz.func13, Tryz.ntmps13
  go_wp2_with (first | (go_at_call 28; refine (refLow_N _ _ _ (by decide) (by decide)).mono ?_; rintro e w' ⟨rfl, rfl⟩) | (go_at_call 29; refine (refPower32 _).mono ?_; rintro e w' ⟨rfl, rfl⟩))
  go_quiet (fail)
  go_wp2
  go_ret
  exact ⟨retB (c_lt32 a b), grown_drewN (Grown.refl _) _⟩

set_option maxRecDepth 100000 in
set_option maxHeartbeats 1000000 in
theorem refHolds32_208 (a b : BitVec 64) (w : World) : Calls Tryz.prog 13 #[.int .u8 208, .bool false, .int .u64 (N a), .int .u64 (N b)] w fun e w' => e = .returned (.bool (condS 208 false a b)) ∧ Grown w w' := by
  rw [cond_208]
  have hh := hi32_ne
  go_enter Tryz.func13, Tryz.ntmps13
  go_wp2_with (first | (go_at_call 28; refine (refLow_N _ _ _ (by decide) (by decide)).mono ?_; rintro e w' ⟨rfl, rfl⟩) | (go_at_call 29; refine (refPower32 _).mono ?_; rintro e w' ⟨rfl, rfl⟩))
  go_quiet (fail)
  go_wp2
  go_ret
  exact ⟨retB (c_le32 a b), grown_drewN (Grown.refl _) _⟩

set_option maxRecDepth 100000 in
set_option maxHeartbeats 1000000 in
theorem refHolds32_64 (a b : BitVec 64) (w : World) : Calls Tryz.prog 13 #[.int .u8 64, .bool false, .int .u64 (N a), .int .u64 (N b)] w fun e w' => e = .returned (.bool (condS 64 false a b)) ∧ Grown w w' := by
  have hh := hi32_ne
  go_enter Tryz.func13, Tryz.ntmps13
  go_wp2_with (first | (go_at_call 28; refine (refLow_N _ _ _ (by decide) (by decide)).mono ?_; rintro e w' ⟨rfl, rfl⟩) | (go_at_call 29; refine (refPower32 _).mono ?_; rintro e w' ⟨rfl, rfl⟩))
  go_quiet (fail)
  go_wp2
  go_ret
  exact ⟨retB (t_gt _ _), grown_drewN (Grown.refl _) _⟩

set_option maxRecDepth 100000 in
set_option maxHeartbeats 1000000 in
theorem refHolds32_none (x : Int) (hx : NoCond x) (a b : BitVec 64) (w : World) : Calls Tryz.prog 13 #[.int .u8 x, .bool false, .int .u64 (N a), .int .u64 (N b)] w fun e w' => e = .returned (.bool (condS x false a b)) ∧ Grown w w' := by
  have hd : condS x false a b = false := condO_none hx _ _ _
  rw [hd]
  obtain ⟨h1, h2, h3, h4, h5, h6, h7, h8, h9, h10, h11, h12⟩ := hx
  replace h1 := beq_eq_false_iff_ne.2 h1
  replace h2 := beq_eq_false_iff_ne.2 h2
  replace h3 := beq_eq_false_iff_ne.2 h3
  replace h4 := beq_eq_false_iff_ne.2 h4
  replace h5 := beq_eq_false_iff_ne.2 h5
  replace h6 := beq_eq_false_iff_ne.2 h6
  replace h7 := beq_eq_false_iff_ne.2 h7
  replace h8 := beq_eq_false_iff_ne.2 h8
  replace h9 := beq_eq_false_iff_ne.2 h9
  replace h10 := beq_eq_false_iff_ne.2 h10
  replace h11 := beq_eq_false_iff_ne.2 h11
  replace h12 := beq_eq_false_iff_ne.2 h12
  clear hd
  have hh := hi32_ne
  go_enter Tryz.func13, Tryz.ntmps13
  go_wp2_with (first | (go_at_call 28; refine (refLow_N _ _ _ (by decide) (by decide)).mono ?_; rintro e w' ⟨rfl, rfl⟩) | (go_at_call 29; refine (refPower32 _).mono ?_; rintro e w' ⟨rfl, rfl⟩))
  go_quiet (fail)
  go_wp2
  go_ret
  exact ⟨rfl, grown_drewN (Grown.refl _) _⟩

theorem refHolds32 (x : Int) (a b : BitVec 64) (w : World) : Calls Tryz.prog 13 #[.int .u8 x, .bool false, .int .u64 (N a), .int .u64 (N b)] w fun e w' => e = .returned (.bool (condS x false a b)) ∧ Grown w w' := by
  rcases cond_cases x with rfl | rfl | rfl | rfl | rfl | rfl | rfl | rfl | rfl | rfl | rfl | rfl | h
  · exact refHolds32_0 a b w
  · exact refHolds32_16 a b w
  · exact refHolds32_80 a b w
  · exact refHolds32_32 a b w
  · exact refHolds32_48 a b w
  · exact refHolds32_160 a b w
  · exact refHolds32_176 a b w
  · exact refHolds32_96 a b w
  · exact refHolds32_112 a b w
  · exact refHolds32_192 a b w
  · exact refHolds32_208 a b w
  · exact refHolds32_64 a b w
  · exact refHolds32_none x h a b w
end Go.Proofs.YtchjneodjaakdaaGreat
end
section
namespace Go.Proofs.YtchjneodjaakdaaGreat.Ex
open Go Go.RowKit
open Go.Proofs.YtchjneodjaakdaaGreat.Sc (firstV firstOk lastV lastOk)
theorem c_r06 (x : Int) (wide : Bool) (a b : Int) (hw : (uB a && uB b) = true) (w : World) : Calls Tryz.prog 13 #[.int .u8 x, .bool wide, .int .u64 a, .int .u64 b] w fun e w' => e = .returned (.bool (condI x wide a b)) ∧ Gr w w' := by
  simp only [Bool.and_eq_true] at hw
  obtain ⟨va, rfl⟩ := uB_eq hw.1
  obtain ⟨vb, rfl⟩ := uB_eq hw.2
  simp only [condI, B, ofInt_N]
  cases wide
  · exact (refHolds32 x va vb w).mono fun e w' h => ⟨h.1, Gr.of_grown h.2⟩
  · exact (refHolds64 x va vb w).mono fun e w' h => ⟨h.1, Gr.of_grown h.2⟩
def hk_r06 : Hook := fun f args _ =>
  if Nat.beq f 13 then
    match args with
    | [.int .u8 a, .bool b, .int .u64 c, .int .u64 d] => some (.bool (condI a b c d), [(b2i (uB c && uB d), 1)])
    | _ => none
  else none
theorem hk_r06_ok : HookOk Tryz.prog hk_r06 := by
  intro f args h v cs hv hc wb k s w H
  unfold hk_r06 at hv
  split at hv
  · rename_i hf
    obtain rfl := Nat.eq_of_beq_eq_true hf
    split at hv
    · rename_i a b c d
      cases hv
      have hw := pair1 hc rfl
      exact c_r06 a b c d hw w
    · cases hv
  · cases hv
theorem c_asT (op : Int) (wide holds : Bool) (a b : NI) (hw : ((u8B op && (nW a && nW b)) && (asI op wide holds a b).2.2) = true) (w : World) : Calls Tryz.prog 14 #[.int .u8 op, .bool wide, .bool holds, VN a, VN b] w fun e w' => e = .returned (.tuple ⟨[VN (asI op wide holds a b).1, VN (asI op wide holds a b).2.1, .bool true]⟩) ∧ Gr w w' := by
  have hh : (u8B op && (nW a && nW b)) = true ∧ (asI op wide holds a b).2.2 = true := by
    revert hw; generalize (asI op wide holds a b).2.2 = z; intro hw; simpa only [Bool.and_eq_true] using hw
  refine ret_eq ?_ (c_as op wide holds a b hh.1 w)
  unfold V3
  rw [hh.2]
def hk_asT : Hook := fun f args _ =>
  if Nat.beq f 14 then
    match args with
    | [.int .u8 a, .bool b, .bool c, .agg ⟨[.int .u64 d0, .int .u64 d1, .int .u64 d2, .int .u64 d3, .int .i64 d4, .int .i64 d5]⟩, .agg ⟨[.int .u64 e0, .int .u64 e1, .int .u64 e2, .int .u64 e3, .int .i64 e4, .int .i64 e5]⟩] => some (.tuple ⟨[VN (asI a b c (⟨⟨d0, d1⟩, ⟨d2, d3, d4, d5⟩⟩ : NI) (⟨⟨e0, e1⟩, ⟨e2, e3, e4, e5⟩⟩ : NI)).1, VN (asI a b c (⟨⟨d0, d1⟩, ⟨d2, d3, d4, d5⟩⟩ : NI) (⟨⟨e0, e1⟩, ⟨e2, e3, e4, e5⟩⟩ : NI)).2.1, .bool true]⟩, [(b2i ((u8B a && (nW (⟨⟨d0, d1⟩, ⟨d2, d3, d4, d5⟩⟩ : NI) && nW (⟨⟨e0, e1⟩, ⟨e2, e3, e4, e5⟩⟩ : NI))) && (asI a b c (⟨⟨d0, d1⟩, ⟨d2, d3, d4, d5⟩⟩ : NI) (⟨⟨e0, e1⟩, ⟨e2, e3, e4, e5⟩⟩ : NI)).2.2), 1)])
    | _ => none
  else none
theorem hk_asT_ok : HookOk Tryz.prog hk_asT := by
  intro f args h v cs hv hc wb k s w H
  unfold hk_asT at hv
  split at hv
  · rename_i hf
    obtain rfl := Nat.eq_of_beq_eq_true hf
    split at hv
    · rename_i a b c d0 d1 d2 d3 d4 d5 e0 e1 e2 e3 e4 e5
      cases hv
      have hw := pair1 hc rfl
      exact c_asT a b c (⟨⟨d0, d1⟩, ⟨d2, d3, d4, d5⟩⟩ : NI) (⟨⟨e0, e1⟩, ⟨e2, e3, e4, e5⟩⟩ : NI) hw w
    · cases hv
  · cases hv
def hkA : Hook := orHook hk_asT (orHook hk_r06 (orHook hk_sums (hkLT)))
theorem hkA_ok : HookOk Tryz.prog hkA := orHook_ok hk_asT_ok (orHook_ok hk_r06_ok (orHook_ok hk_sums_ok (hkLT_ok)))
def op8 (op : Int) : Int := IntKind.u8.wrap (BitVec.ofInt IntKind.u8.bits op &&& BitVec.ofInt IntKind.u8.bits 240).toNat
def saCs (op v0 v1 a0 a1 a2 a3 a4 b0 b1 b2 b3 b4 : Int) : Cs := [(b2i (uB v0 && uB v1), 1), (b2i ((u8B (op8 op) && (nW (madeI v0 a0 a1 a2 a3 a4) && nW (madeI v1 b0 b1 b2 b3 b4))) && (asI (op8 op) true (condI (op8 op) true v0 v1) (madeI v0 a0 a1 a2 a3 a4) (madeI v1 b0 b1 b2 b3 b4)).2.2), 1), (b2i (nW (asI (op8 op) true (condI (op8 op) true v0 v1) (madeI v0 a0 a1 a2 a3 a4) (madeI v1 b0 b1 b2 b3 b4)).1 && (uB v0 && rHasI (asI (op8 op) true (condI (op8 op) true v0 v1) (madeI v0 a0 a1 a2 a3 a4) (madeI v1 b0 b1 b2 b3 b4)).1 v0)), 1), (b2i (nW (asI (op8 op) true (condI (op8 op) true v0 v1) (madeI v0 a0 a1 a2 a3 a4) (madeI v1 b0 b1 b2 b3 b4)).2.1 && (uB v1 && rHasI (asI (op8 op) true (condI (op8 op) true v0 v1) (madeI v0 a0 a1 a2 a3 a4) (madeI v1 b0 b1 b2 b3 b4)).2.1 v1)), 1), (b2i (uB v0 && uB v1), 1), (b2i ((u8B (op8 op) && (nW (madeI v0 a0 a1 a2 a3 a4) && nW (madeI v1 b0 b1 b2 b3 b4))) && (asI (op8 op) false (condI (op8 op) false v0 v1) (madeI v0 a0 a1 a2 a3 a4) (madeI v1 b0 b1 b2 b3 b4)).2.2), 1), (b2i (nW (asI (op8 op) false (condI (op8 op) false v0 v1) (madeI v0 a0 a1 a2 a3 a4) (madeI v1 b0 b1 b2 b3 b4)).1 && (uB v0 && rHasI (asI (op8 op) false (condI (op8 op) false v0 v1) (madeI v0 a0 a1 a2 a3 a4) (madeI v1 b0 b1 b2 b3 b4)).1 v0)), 1), (b2i (nW (asI (op8 op) false (condI (op8 op) false v0 v1) (madeI v0 a0 a1 a2 a3 a4) (madeI v1 b0 b1 b2 b3 b4)).2.1 && (uB v1 && rHasI (asI (op8 op) false (condI (op8 op) false v0 v1) (madeI v0 a0 a1 a2 a3 a4) (madeI v1 b0 b1 b2 b3 b4)).2.1 v1)), 1)]
set_option maxHeartbeats 0 in
set_option maxRecDepth 1000000 in
theorem sa_run (op v0 v1 a0 a1 a2 a3 a4 b0 b1 b2 b3 b4 : Int) (he : (saCs op v0 v1 a0 a1 a2 a3 a4 b0 b1 b2 b3 b4).map (·.1) = (saCs op v0 v1 a0 a1 a2 a3 a4 b0 b1 b2 b3 b4).map (·.2)) (w : World) : Calls Tryz.prog 4 #[.int .u8 op, .agg ⟨[.int .u64 v0, .int .u64 v1]⟩, .agg ⟨[.int .u64 a0, .int .u64 a1, .int .u64 a2, .int .u64 a3, .int .u64 a4, .int .u64 b0, .int .u64 b1, .int .u64 b2, .int .u64 b3, .int .u64 b4]⟩] w fun e w' => e = .returned (.bool true) ∧ Gr w w' :=
  rk hkA_ok noOrc (cs := saCs op v0 v1 a0 a1 a2 a3 a4 b0 b1 b2 b3 b4) rfl (by kernel_rfl) (by kernel_rfl) he w
theorem op8_all : (List.range 256).all (fun n => op16 (IntKind.u8.wrap (BitVec.ofNat 8 n &&& BitVec.ofInt 8 240).toNat)) = true := by kernel_rfl
theorem op8_16 (op : Int) : op16 (op8 op) = true := by
  have h := List.all_eq_true.1 op8_all (BitVec.ofInt 8 op).toNat (List.mem_range.2 (BitVec.isLt _))
  have e : BitVec.ofNat 8 (BitVec.ofInt 8 op).toNat = BitVec.ofInt 8 op := by
    apply BitVec.eq_of_toNat_eq
    rw [BitVec.toNat_ofNat]
    exact Nat.mod_eq_of_lt (BitVec.isLt _)
  rw [e] at h
  exact h
theorem nW_left {r : N3} (h : n3W r = true) : nW r.1 = true ∧ nW r.2.1 = true := n3_out h
theorem n3_okI {r x : N3} (h : n3W x = true) : n3W (okI r x) = true := by unfold okI; split; exact h; exact n3_nil
theorem nW_unl {x a : NI} (hx : nW x = true) (ha : nW a = true) : nW (unlI x a) = true := by unfold unlI; split; exact ha; exact hx
theorem n3_hcS (op : Int) {a b : NI} (ha : nW a = true) (hb : nW b = true) : n3W (hcS op a b) = true := by
  obtain ⟨h1, h2⟩ := n3_out (n3_cmp op (lowI a) (lowI b))
  exact n3_okI (n3_mk (nW_unl h1 ha) (nW_unl h2 hb))
theorem n3_hc (op : Int) {a b : NI} (ha : nW a = true) (hb : nW b = true) : n3W (hcI op a b) = true := by
  unfold hcI
  split
  · split
    · exact n3_okI (n3_mk ha hb)
    · split
      · exact n3_okI (n3_mk ha hb)
      · exact n3_hcS op ha hb
  · exact n3_hcS op ha hb
theorem n3_as (op : Int) (wide holds : Bool) (a b : NI) : n3W (asI op wide holds a b) = true := by
  have ta := nW_tight a
  have tb := nW_tight b
  unfold asI
  split
  · split
    · unfold asY
      split
      · unfold asK
        split
        · exact n3_cmp _ _ _
        · exact n3_hc _ ta tb
      · split
        · exact n3_mk ta tb
        · exact n3_nil
    · exact n3_nil
  · exact n3_nil
theorem sa_walk (op : Int) (v0 v1 a0 a1 a2 a3 a4 b0 b1 b2 b3 b4 : BitVec 64) (w : World) : Calls Tryz.prog 4 #[.int .u8 op, .agg ⟨[.int .u64 (N v0), .int .u64 (N v1)]⟩, .agg ⟨[.int .u64 (N a0), .int .u64 (N a1), .int .u64 (N a2), .int .u64 (N a3), .int .u64 (N a4), .int .u64 (N b0), .int .u64 (N b1), .int .u64 (N b2), .int .u64 (N b3), .int .u64 (N b4)]⟩] w fun e w' => e = .returned (.bool true) ∧ Gr w w' := by
  refine sa_run op (N v0) (N v1) (N a0) (N a1) (N a2) (N a3) (N a4) (N b0) (N b1) (N b2) (N b3) (N b4) ?_ w
  obtain ⟨hA, _⟩ := made_has' v0 a0 a1 a2 a3 a4
  obtain ⟨hB, _⟩ := made_has' v1 b0 b1 b2 b3 b4
  have wA : nW (madeI (N v0) (N a0) (N a1) (N a2) (N a3) (N a4)) = true := nW_made (uB_N a0)
  have wB : nW (madeI (N v1) (N b0) (N b1) (N b2) (N b3) (N b4)) = true := nW_made (uB_N b0)
  unfold saCs
  generalize madeI (N v0) (N a0) (N a1) (N a2) (N a3) (N a4) = A at *
  generalize madeI (N v1) (N b0) (N b1) (N b2) (N b3) (N b4) = Bn at *
  have ho := op8_16 op
  generalize op8 op = o at *
  have hu : u8B o = true := by unfold op16 at ho; rw [Bool.and_eq_true] at ho; exact ho.1
  have h1 : (uB (N v0) && uB (N v1)) = true := by rw [uB_N, uB_N]; rfl
  have L : ∀ wd : Bool, Left (asI o wd (condI o wd (N v0) (N v1)) A Bn) v0 v1 := fun wd => asI_left wd ho hA hB
  have W : ∀ wd : Bool, n3W (asI o wd (condI o wd (N v0) (N v1)) A Bn) = true := fun wd => n3_as _ _ _ _ _
  have h2 : ∀ wd : Bool, ((u8B o && (nW A && nW Bn)) && (asI o wd (condI o wd (N v0) (N v1)) A Bn).2.2) = true := fun wd => by
    have h := (L wd).1
    generalize (asI o wd (condI o wd (N v0) (N v1)) A Bn).2.2 = z at *
    rw [hu, wA, wB, h]; rfl
  have h3 : ∀ wd : Bool, (nW (asI o wd (condI o wd (N v0) (N v1)) A Bn).1 && (uB (N v0) && rHasI (asI o wd (condI o wd (N v0) (N v1)) A Bn).1 (N v0))) = true := fun wd => by
    have h := (rHas_iff _ _).2 (L wd).2.1
    have g := (n3_out (W wd)).1
    generalize (asI o wd (condI o wd (N v0) (N v1)) A Bn).1 = z at *
    rw [g, uB_N, h]; rfl
  have h4 : ∀ wd : Bool, (nW (asI o wd (condI o wd (N v0) (N v1)) A Bn).2.1 && (uB (N v1) && rHasI (asI o wd (condI o wd (N v0) (N v1)) A Bn).2.1 (N v1))) = true := fun wd => by
    have h := (rHas_iff _ _).2 (L wd).2.2
    have g := (n3_out (W wd)).2
    generalize (asI o wd (condI o wd (N v0) (N v1)) A Bn).2.1 = z at *
    rw [g, uB_N, h]; rfl
  exact csT h1 (csT (h2 true) (csT (h3 true) (csT (h4 true) (csT h1 (csT (h2 false) (csT (h3 false) (csT (h4 false) csN)))))))
theorem sa_law (op : Int) (v0 v1 a0 a1 a2 a3 a4 b0 b1 b2 b3 b4 : Int) (w0 : (Lit.int .u64 v0).wf = true) (w1 : (Lit.int .u64 v1).wf = true) (x0 : (Lit.int .u64 a0).wf = true) (x1 : (Lit.int .u64 a1).wf = true) (x2 : (Lit.int .u64 a2).wf = true) (x3 : (Lit.int .u64 a3).wf = true) (x4 : (Lit.int .u64 a4).wf = true) (y0 : (Lit.int .u64 b0).wf = true) (y1 : (Lit.int .u64 b1).wf = true) (y2 : (Lit.int .u64 b2).wf = true) (y3 : (Lit.int .u64 b3).wf = true) (y4 : (Lit.int .u64 b4).wf = true) (w : World) : Calls Tryz.prog 4 #[.int .u8 op, .agg ⟨[.int .u64 v0, .int .u64 v1]⟩, .agg ⟨[.int .u64 a0, .int .u64 a1, .int .u64 a2, .int .u64 a3, .int .u64 a4, .int .u64 b0, .int .u64 b1, .int .u64 b2, .int .u64 b3, .int .u64 b4]⟩] w fun e w' => e = .returned (.bool true) ∧ Gr w w' := by
  obtain ⟨v0, rfl⟩ := wf_N w0
  obtain ⟨v1, rfl⟩ := wf_N w1
  obtain ⟨a0, rfl⟩ := wf_N x0
  obtain ⟨a1, rfl⟩ := wf_N x1
  obtain ⟨a2, rfl⟩ := wf_N x2
  obtain ⟨a3, rfl⟩ := wf_N x3
  obtain ⟨a4, rfl⟩ := wf_N x4
  obtain ⟨b0, rfl⟩ := wf_N y0
  obtain ⟨b1, rfl⟩ := wf_N y1
  obtain ⟨b2, rfl⟩ := wf_N y2
  obtain ⟨b3, rfl⟩ := wf_N y3
  obtain ⟨b4, rfl⟩ := wf_N y4
  exact sa_walk op v0 v1 a0 a1 a2 a3 a4 b0 b1 b2 b3 b4 w
end Go.Proofs.YtchjneodjaakdaaGreat.Ex
end
