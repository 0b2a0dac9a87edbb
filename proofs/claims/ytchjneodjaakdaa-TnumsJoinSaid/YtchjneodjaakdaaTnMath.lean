/-
  What is known of bits, by numbers: sums, differences, products, shifts of numbers that have some bits.
-/
import Derived.Test.YtchjneodjaakdaaTn2
import Derived.Test.YtchjneodjaakdaaTnMul
import Derived.Lib.ItoaNum
namespace Go.Proofs.Ytchjneodjaakdaa
open Go.RowKit

/-- x has the bits that are known: those that are off in m are as in v. -/
def hasT (v m x : W64) : Prop := x &&& ~~~m = v
def okT (v m : W64) : Prop := v &&& m = 0#64

theorem hasT_iff (v m x : W64) : hasT v m x ↔ ∀ i, i < 64 → (x.getLsbD i && !m.getLsbD i) = v.getLsbD i := by
  unfold hasT
  constructor
  · intro h i hi
    rw [← h]; simp [hi]
  · intro h
    apply BitVec.eq_of_getLsbD_eq
    intro i hi
    rw [← h i hi]; simp [hi]
theorem okT_iff (v m : W64) : okT v m ↔ ∀ i, i < 64 → (v.getLsbD i && m.getLsbD i) = false := by
  unfold okT
  constructor
  · intro h i hi
    rw [← BitVec.getLsbD_and, h]; simp
  · intro h
    apply BitVec.eq_of_getLsbD_eq
    intro i hi
    rw [BitVec.getLsbD_and, h i hi]; simp
/-- A number that is made: one of its numbers. -/
theorem has_one (v m y : W64) : hasT (v &&& ~~~m) m ((v &&& ~~~m) ||| (m &&& y)) := by
  rw [hasT_iff]; intro i hi
  simp only [BitVec.getLsbD_and, BitVec.getLsbD_or, BitVec.getLsbD_not, hi, decide_true, Bool.true_and]
  cases v.getLsbD i <;> cases m.getLsbD i <;> simp
theorem ok_made (v m : W64) : okT (v &&& ~~~m) m := by
  rw [okT_iff]; intro i hi
  simp [hi]
theorem ok_of (v m : W64) : okT (tOf v m).1 (tOf v m).2 := ok_made v m
theorem has_of {v m x : W64} (h : ∀ i, i < 64 → m.getLsbD i = false → x.getLsbD i = v.getLsbD i) : hasT (tOf v m).1 (tOf v m).2 x := by
  rw [hasT_iff]; intro i hi
  show _ = (v &&& ~~~m).getLsbD i
  simp only [BitVec.getLsbD_and, BitVec.getLsbD_not, hi, decide_true, Bool.true_and]
  show (x.getLsbD i && !m.getLsbD i) = _
  cases hm : m.getLsbD i
  · rw [h i hi hm]
  · simp

/-- 'a' has no bit that 'b' has not. -/
def sub1 (a b : W64) : Prop := a &&& b = a
theorem sub1_bit {a b : W64} (h : sub1 a b) (i : Nat) : a.getLsbD i = true → b.getLsbD i = true := by
  intro ha
  unfold sub1 at h
  rw [← h] at ha
  simp at ha
  exact ha.2
theorem sub1_of {a b : W64} (h : ∀ i, i < 64 → a.getLsbD i = true → b.getLsbD i = true) : sub1 a b := by
  apply BitVec.eq_of_getLsbD_eq
  intro i hi
  have := h i hi
  rw [BitVec.getLsbD_and]
  cases ha : a.getLsbD i
  · simp
  · simp [this ha]
theorem sub1_mod {a b : W64} (h : sub1 a b) (i : Nat) : a.toNat % 2 ^ i ≤ b.toNat % 2 ^ i := by
  have e : a.toNat = a.toNat &&& b.toNat := by rw [← BitVec.toNat_and, h]
  rw [e, Nat.and_mod_two_pow]
  exact Nat.and_le_right
theorem carry_le {a b a' b' : W64} (ha : sub1 a a') (hb : sub1 b b') (i : Nat) (h : BitVec.carry i a b false = true) : BitVec.carry i a' b' false = true := by
  unfold BitVec.carry at *
  have h1 := sub1_mod ha i
  have h2 := sub1_mod hb i
  simp at *
  omega
theorem add_between {l1 l2 h1 h2 x y : W64} (a1 : sub1 l1 x) (a2 : sub1 x h1) (b1 : sub1 l2 y) (b2 : sub1 y h2) {i : Nat} (hi : i < 64) (e1 : l1.getLsbD i = h1.getLsbD i) (e2 : l2.getLsbD i = h2.getLsbD i)
    (e : (l1 + l2).getLsbD i = (h1 + h2).getLsbD i) : (x + y).getLsbD i = (l1 + l2).getLsbD i := by
  have ex : x.getLsbD i = l1.getLsbD i := by
    have p := sub1_bit a1 i
    have q := sub1_bit a2 i
    rw [← e1] at q
    cases hx : x.getLsbD i <;> cases hl : l1.getLsbD i <;> simp_all
  have ey : y.getLsbD i = l2.getLsbD i := by
    have p := sub1_bit b1 i
    have q := sub1_bit b2 i
    rw [← e2] at q
    cases hx : y.getLsbD i <;> cases hl : l2.getLsbD i <;> simp_all
  rw [BitVec.getLsbD_add hi, BitVec.getLsbD_add hi, ← e1, ← e2] at e
  rw [BitVec.getLsbD_add hi, BitVec.getLsbD_add hi, ex, ey]
  have c1 := carry_le a1 b1 i
  have c2 := carry_le a2 b2 i
  cases p : BitVec.carry i l1 l2 false <;> cases q : BitVec.carry i x y false <;> cases r : BitVec.carry i h1 h2 false <;> simp_all
theorem sub1_has {v m x : W64} (h : hasT v m x) : sub1 v x ∧ sub1 x (v ||| m) := by
  rw [hasT_iff] at h
  constructor <;> (apply sub1_of; intro i hi; have := h i hi)
  · intro hv; rw [hv] at this; simp at this; exact this.1
  · intro hx; rw [hx] at this; simp [← this]
theorem plus_mask {v m : W64} (h : okT v m) : v + m = v ||| m := BitVec.add_eq_or_of_and_eq_zero v m h
theorem sub1_refl (a : W64) : sub1 a a := by unfold sub1; simp
theorem sub1_or (a b : W64) : sub1 a (a ||| b) := by
  apply sub1_of; intro i hi h; simp [h]
theorem sub1_not {a b : W64} (h : sub1 a b) : sub1 (~~~b) (~~~a) := by
  apply sub1_of; intro i hi hb
  have := sub1_bit h i
  simp only [BitVec.getLsbD_not, hi, decide_true, Bool.true_and, Bool.not_eq_true'] at hb ⊢
  cases ha : a.getLsbD i
  · rfl
  · rw [this ha] at hb; cases hb
theorem has_add {av am bv bm x y : W64} (ha : okT av am) (hb : okT bv bm) (hx : hasT av am x) (hy : hasT bv bm y) : hasT (tAdd av am bv bm).1 (tAdd av am bv bm).2 (x + y) := by
  unfold tAdd
  apply has_of
  intro i hi hm
  simp only [BitVec.getLsbD_or, BitVec.getLsbD_xor, Bool.or_eq_false_iff, bne_eq_false_iff_eq] at hm
  obtain ⟨⟨h1, h2⟩, h3⟩ := hm
  have e : av + bv + am + bm = (av ||| am) + (bv ||| bm) := by
    rw [← plus_mask ha, ← plus_mask hb]
    ac_rfl
  rw [e] at h1
  exact add_between (sub1_has hx).1 (sub1_has hx).2 (sub1_has hy).1 (sub1_has hy).2 hi (by simp [h2]) (by simp [h3]) h1
theorem sub_not (x y : W64) : x - y = ~~~(~~~x + y) := by
  apply BitVec.eq_of_toNat_eq
  have hx := x.isLt
  have hy := y.isLt
  rw [BitVec.toNat_sub, BitVec.toNat_not, BitVec.toNat_add, BitVec.toNat_not]
  omega
theorem has_sub {av am bv bm x y : W64} (ha : okT av am) (hb : okT bv bm) (hx : hasT av am x) (hy : hasT bv bm y) : hasT (tSub av am bv bm).1 (tSub av am bv bm).2 (x - y) := by
  unfold tSub
  apply has_of
  intro i hi hm
  simp only [BitVec.getLsbD_or, BitVec.getLsbD_xor, Bool.or_eq_false_iff, bne_eq_false_iff_eq] at hm
  obtain ⟨⟨h1, h2⟩, h3⟩ := hm
  have e1 : av - bv + am = ~~~(~~~(av ||| am) + bv) := by
    rw [← sub_not, ← plus_mask ha]
    rw [BitVec.sub_eq_add_neg, BitVec.sub_eq_add_neg]; ac_rfl
  have e2 : av - bv - bm = ~~~(~~~av + (bv ||| bm)) := by
    rw [← sub_not, ← plus_mask hb]
    rw [BitVec.sub_eq_add_neg, BitVec.sub_eq_add_neg, BitVec.sub_eq_add_neg, BitVec.neg_add, BitVec.sub_eq_add_neg]; ac_rfl
  rw [e1, e2] at h1
  simp only [BitVec.getLsbD_not, hi, decide_true, Bool.true_and] at h1
  have h1' : (~~~(av ||| am) + bv).getLsbD i = (~~~av + (bv ||| bm)).getLsbD i := by
    cases p : (~~~(av ||| am) + bv).getLsbD i <;> cases q : (~~~av + (bv ||| bm)).getLsbD i <;> simp_all
  have hax := sub1_has hx
  have hby := sub1_has hy
  have k1 := add_between (sub1_not hax.2) (sub1_not hax.1) hby.1 hby.2 hi (by simp [h2]) (by simp [h3]) h1'
  have k2 := add_between (sub1_not (sub1_or av am)) (sub1_refl (~~~av)) (sub1_refl bv) (sub1_or bv bm) hi (by simp [h2]) (by simp [h3]) h1'
  rw [sub_not x y, sub_not av bv, BitVec.getLsbD_not, BitVec.getLsbD_not, k1, k2]
theorem has_and {av am bv bm x y : W64} (hx : hasT av am x) (hy : hasT bv bm y) : hasT (tAnd av am bv bm).1 (tAnd av am bv bm).2 (x &&& y) := by
  rw [hasT_iff] at hx hy
  unfold tAnd
  apply has_of
  intro i hi hm
  have h1 := hx i hi
  have h2 := hy i hi
  simp only [BitVec.getLsbD_and, BitVec.getLsbD_or, BitVec.getLsbD_not, hi, decide_true, Bool.true_and] at hm ⊢
  revert h1 h2 hm
  cases x.getLsbD i <;> cases y.getLsbD i <;> cases av.getLsbD i <;> cases bv.getLsbD i <;> cases am.getLsbD i <;> cases bm.getLsbD i <;> simp
theorem has_or {av am bv bm x y : W64} (hx : hasT av am x) (hy : hasT bv bm y) : hasT (tOr av am bv bm).1 (tOr av am bv bm).2 (x ||| y) := by
  rw [hasT_iff] at hx hy
  unfold tOr
  apply has_of
  intro i hi hm
  have h1 := hx i hi
  have h2 := hy i hi
  simp only [BitVec.getLsbD_and, BitVec.getLsbD_or, BitVec.getLsbD_not, hi, decide_true, Bool.true_and] at hm ⊢
  revert h1 h2 hm
  cases x.getLsbD i <;> cases y.getLsbD i <;> cases av.getLsbD i <;> cases bv.getLsbD i <;> cases am.getLsbD i <;> cases bm.getLsbD i <;> simp
theorem has_xor {av am bv bm x y : W64} (hx : hasT av am x) (hy : hasT bv bm y) : hasT (tXor av am bv bm).1 (tXor av am bv bm).2 (x ^^^ y) := by
  rw [hasT_iff] at hx hy
  unfold tXor
  apply has_of
  intro i hi hm
  have h1 := hx i hi
  have h2 := hy i hi
  simp only [BitVec.getLsbD_or, BitVec.getLsbD_xor] at hm ⊢
  revert h1 h2 hm
  cases x.getLsbD i <;> cases y.getLsbD i <;> cases av.getLsbD i <;> cases bv.getLsbD i <;> cases am.getLsbD i <;> cases bm.getLsbD i <;> simp
theorem has_eitherL {av am bv bm x : W64} (hx : hasT av am x) : hasT (tEither av am bv bm).1 (tEither av am bv bm).2 x := by
  rw [hasT_iff] at hx
  unfold tEither
  apply has_of
  intro i hi hm
  have h1 := hx i hi
  simp only [BitVec.getLsbD_or, BitVec.getLsbD_xor] at hm
  revert h1 hm
  cases x.getLsbD i <;> cases av.getLsbD i <;> cases bv.getLsbD i <;> cases am.getLsbD i <;> cases bm.getLsbD i <;> simp
theorem has_eitherR {av am bv bm x : W64} (hx : hasT bv bm x) : hasT (tEither av am bv bm).1 (tEither av am bv bm).2 x := by
  rw [hasT_iff] at hx
  unfold tEither
  apply has_of
  intro i hi hm
  have h1 := hx i hi
  simp only [BitVec.getLsbD_or, BitVec.getLsbD_xor] at hm
  revert h1 hm
  cases x.getLsbD i <;> cases av.getLsbD i <;> cases bv.getLsbD i <;> cases am.getLsbD i <;> cases bm.getLsbD i <;> simp
/-- What both have. -/
theorem both_some {av am bv bm x : W64} (hx : hasT av am x) (hy : hasT bv bm x) : (av ^^^ bv) &&& ~~~am &&& ~~~bm = 0#64 ∧ hasT (tOf (av ||| bv) (am &&& bm)).1 (tOf (av ||| bv) (am &&& bm)).2 x := by
  rw [hasT_iff] at hx hy
  constructor
  · apply BitVec.eq_of_getLsbD_eq
    intro i hi
    have h1 := hx i hi
    have h2 := hy i hi
    simp only [BitVec.getLsbD_and, BitVec.getLsbD_xor, BitVec.getLsbD_not, hi, decide_true, Bool.true_and]
    revert h1 h2
    cases x.getLsbD i <;> cases av.getLsbD i <;> cases bv.getLsbD i <;> cases am.getLsbD i <;> cases bm.getLsbD i <;> simp
  · apply has_of
    intro i hi hm
    have h1 := hx i hi
    have h2 := hy i hi
    simp only [BitVec.getLsbD_and, BitVec.getLsbD_or] at hm ⊢
    revert h1 h2 hm
    cases x.getLsbD i <;> cases av.getLsbD i <;> cases bv.getLsbD i <;> cases am.getLsbD i <;> cases bm.getLsbD i <;> simp
theorem has_lsh {v m x : W64} (h : hasT v m x) (k : Nat) : hasT (tLsh v m k).1 (tLsh v m k).2 (x <<< k) := by
  rw [hasT_iff] at h
  unfold tLsh
  apply has_of
  intro i hi hm
  simp only [BitVec.getLsbD_shiftLeft, hi, decide_true, Bool.true_and] at hm ⊢
  by_cases hk : i < k
  · simp [hk]
  · have h1 := h (i - k) (by omega)
    simp only [hk, decide_false, Bool.not_false, Bool.true_and] at hm ⊢
    rw [hm] at h1
    simpa using h1
theorem has_rsh {v m x : W64} (h : hasT v m x) (k : Nat) : hasT (tRsh v m k).1 (tRsh v m k).2 (x >>> k) := by
  rw [hasT_iff] at h
  unfold tRsh
  apply has_of
  intro i hi hm
  simp only [BitVec.getLsbD_ushiftRight] at hm ⊢
  by_cases hk : k + i < 64
  · have h1 := h (k + i) hk
    rw [hm] at h1
    simpa using h1
  · rw [BitVec.getLsbD_of_ge _ _ (by omega), BitVec.getLsbD_of_ge _ _ (by omega)]
theorem has_arsh {v m x : W64} (h : hasT v m x) (k : Nat) : hasT (tArsh v m k).1 (tArsh v m k).2 (x.sshiftRight k) := by
  rw [hasT_iff] at h
  unfold tArsh
  apply has_of
  intro i hi hm
  have hn : ¬ 64 ≤ i := by omega
  simp only [BitVec.getLsbD_sshiftRight, hn, decide_false, Bool.not_false, Bool.true_and] at hm ⊢
  by_cases hk : k + i < 64
  · have h1 := h (k + i) hk
    simp only [hk, if_true] at hm ⊢
    rw [hm] at h1
    simpa using h1
  · simp only [hk, if_false] at hm ⊢
    have h1 := h 63 (by omega)
    rw [BitVec.msb_eq_getLsbD_last] at hm ⊢
    rw [BitVec.msb_eq_getLsbD_last]
    simp only [Nat.add_one_sub_one] at hm ⊢
    rw [hm] at h1
    simpa using h1
theorem has_low {v m x : W64} (h : hasT v m x) (l : W64) : hasT (tOf (v &&& l) (m &&& l)).1 (tOf (v &&& l) (m &&& l)).2 (x &&& l) := by
  rw [hasT_iff] at h
  apply has_of
  intro i hi hm
  have h1 := h i hi
  simp only [BitVec.getLsbD_and] at hm ⊢
  revert h1 hm
  cases x.getLsbD i <;> cases v.getLsbD i <;> cases m.getLsbD i <;> cases l.getLsbD i <;> simp

/-! Products. -/
theorem bit_set (a : W64) (k : Nat) (hk : k < 64) : N (a &&& 1#64 <<< k) = 0 ↔ a.getLsbD k = false := by
  have e : N (a &&& 1#64 <<< k) = 0 ↔ a &&& 1#64 <<< k = 0#64 := by
    rw [show (0 : Int) = N (0#64) from rfl, N_eq_iff]
  rw [e]
  have tp : 1#64 <<< k = BitVec.twoPow 64 k := by rw [BitVec.twoPow_eq]
  rw [tp]
  constructor
  · intro h
    have := congrArg (fun z : W64 => z.getLsbD k) h
    simpa [BitVec.getLsbD_twoPow, hk] using this
  · intro h
    apply BitVec.eq_of_getLsbD_eq
    intro i hi
    simp only [BitVec.getLsbD_and, BitVec.getLsbD_twoPow, BitVec.getLsbD_zero]
    by_cases hki : k = i
    · subst hki; simp [h]
    · simp [hki]
/-- The lowest k bits. -/
def lowK (a : W64) (k : Nat) : W64 := BitVec.ofNat 64 (a.toNat % 2 ^ k)
theorem lowK_succ (a : W64) (k : Nat) (hk : k < 64) : lowK a (k + 1) = lowK a k + (if a.getLsbD k then 1#64 <<< k else 0#64) := by
  unfold lowK
  apply BitVec.eq_of_toNat_eq
  have hp : 2 ^ k < 2 ^ 64 := Nat.pow_lt_pow_right (by decide) hk
  have e : a.toNat % 2 ^ (k + 1) = a.toNat % 2 ^ k + 2 ^ k * (a.toNat / 2 ^ k % 2) := by
    rw [Nat.pow_succ, Nat.mod_mul]
  have hb : a.getLsbD k = decide (a.toNat / 2 ^ k % 2 = 1) := by
    rw [BitVec.getLsbD, Nat.testBit_eq_decide_div_mod_eq]
  have h1 : (1#64 <<< k).toNat = 2 ^ k := by
    rw [BitVec.toNat_shiftLeft, Nat.shiftLeft_eq, show (1#64).toNat = 1 from rfl, Nat.one_mul, Nat.mod_eq_of_lt hp]
  rw [hb, e]
  rcases Nat.mod_two_eq_zero_or_one (a.toNat / 2 ^ k) with h | h
  · rw [h]; simp
  · rw [h]; simp [h1]
theorem lowK_all (a : W64) : lowK a 64 = a := by
  unfold lowK
  rw [Nat.mod_eq_of_lt a.isLt]; simp
theorem lowK_zero (a : W64) : lowK a 0 = 0#64 := by
  unfold lowK; simp [Nat.mod_one]
theorem has_zero_of {m z : W64} (h : sub1 z m) : hasT (tOf 0#64 m).1 (tOf 0#64 m).2 z := by
  apply has_of
  intro i hi hm
  have := sub1_bit h i
  cases hz : z.getLsbD i
  · simp
  · rw [this hz] at hm; cases hm
theorem sub1_shl {a b : W64} (h : sub1 a b) (k : Nat) : sub1 (a <<< k) (b <<< k) := by
  apply sub1_of; intro i hi ha
  simp only [BitVec.getLsbD_shiftLeft, hi, decide_true, Bool.true_and, Bool.and_eq_true] at ha ⊢
  exact ⟨ha.1, sub1_bit h _ ha.2⟩
theorem ok_mulL (av am bv bm : W64) : ∀ k, okT (tMulL av am bv bm k).1 (tMulL av am bv bm k).2
  | 0 => by show okT 0#64 0#64; unfold okT; simp
  | k + 1 => by
    have ih := ok_mulL av am bv bm k
    rw [tMulL]
    split
    · split
      · exact ih
      · exact ok_of _ _
    · exact ok_of _ _
theorem ok_sub {v m z : W64} (h : okT v m) (hz : sub1 z m) : okT v z := by
  rw [okT_iff] at *
  intro i hi
  have h1 := h i hi
  have h2 := sub1_bit hz i
  cases hv : v.getLsbD i <;> cases hx : z.getLsbD i <;> simp_all
theorem sub1_plus {v m z : W64} (h : okT v m) (hz : sub1 z m) : sub1 (v + z) (v ||| m) := by
  rw [plus_mask (ok_sub h hz)]
  apply sub1_of
  intro i hi hx
  have h2 := sub1_bit hz i
  simp only [BitVec.getLsbD_or, Bool.or_eq_true] at hx ⊢
  rcases hx with hx | hx
  · exact .inl hx
  · exact .inr (h2 hx)
theorem has_parts {v m x : W64} (h : hasT v m x) (ho : okT v m) : ∃ z, sub1 z m ∧ x = v + z := by
  refine ⟨x &&& m, ?_, ?_⟩
  · unfold sub1; rw [BitVec.and_assoc, BitVec.and_self]
  · have hs : sub1 (x &&& m) m := by unfold sub1; rw [BitVec.and_assoc, BitVec.and_self]
    rw [plus_mask (ok_sub ho hs)]
    rw [hasT_iff] at h
    apply BitVec.eq_of_getLsbD_eq
    intro i hi
    have := h i hi
    simp only [BitVec.getLsbD_or, BitVec.getLsbD_and]
    revert this
    cases x.getLsbD i <;> cases v.getLsbD i <;> cases m.getLsbD i <;> simp
theorem has_mulL {av am bv bm xa yb : W64} (ha : okT av am) (hb : okT bv bm) (hxa : sub1 xa am) (hyb : sub1 yb bm) : ∀ k, k ≤ 64 →
    hasT (tMulL av am bv bm k).1 (tMulL av am bv bm k).2 (lowK av k * yb + lowK xa k * (bv + yb))
  | 0, _ => by show hasT 0#64 0#64 _; rw [lowK_zero, lowK_zero]; unfold hasT; simp
  | k + 1, hk => by
    have ih := has_mulL ha hb hxa hyb k (by omega)
    have hok := ok_mulL av am bv bm k
    have hk' : k < 64 := by omega
    rw [tMulL, lowK_succ av k hk', lowK_succ xa k hk']
    have hdis : av.getLsbD k = true → xa.getLsbD k = false := fun h => by
      have h1 := (okT_iff av am).1 ha k hk'
      have h2 := sub1_bit hxa k
      cases hx : xa.getLsbD k
      · rfl
      · rw [h, h2 hx] at h1; cases h1
    split
    · rename_i hA
      have hA' := (bit_set av k hk').1 hA
      split
      · rename_i hB
        have hB' := (bit_set am k hk').1 hB
        have hx : xa.getLsbD k = false := by
          have h2 := sub1_bit hxa k
          cases hx : xa.getLsbD k
          · rfl
          · rw [h2 hx] at hB'; cases hB'
        rw [hA', hx]
        simpa using ih
      · rw [hA']
        have e : (lowK av k + if false = true then 1#64 <<< k else 0#64) * yb + (lowK xa k + if xa.getLsbD k = true then 1#64 <<< k else 0#64) * (bv + yb) = (lowK av k * yb + lowK xa k * (bv + yb)) + (if xa.getLsbD k = true then (bv + yb) <<< k else 0#64) := by
          simp only [Bool.false_eq_true, if_false, BitVec.add_zero]
          split
          · rw [BitVec.add_mul, BitVec.mul_comm (1#64 <<< k), mul_shl1]
            generalize lowK av k * yb = p
            generalize lowK xa k * (bv + yb) = q
            ac_rfl
          · simp
        rw [e]
        refine has_add hok (ok_of _ _) ih (has_zero_of ?_)
        split
        · exact sub1_shl (sub1_plus hb hyb) k
        · unfold sub1; simp
    · rename_i hA
      have hA' : av.getLsbD k = true := by
        cases h : av.getLsbD k
        · exact absurd ((bit_set av k hk').2 h) hA
        · rfl
      rw [hA', hdis hA']
      have e : (lowK av k + if true = true then 1#64 <<< k else 0#64) * yb + (lowK xa k + if false = true then 1#64 <<< k else 0#64) * (bv + yb) = (lowK av k * yb + lowK xa k * (bv + yb)) + yb <<< k := by
        simp only [Bool.false_eq_true, if_false, BitVec.add_zero, if_true]
        rw [BitVec.add_mul, BitVec.mul_comm (1#64 <<< k), mul_shl1]
        generalize lowK av k * yb = p
        generalize lowK xa k * (bv + yb) = q
        generalize yb <<< k = r
        ac_rfl
      rw [e]
      exact has_add hok (ok_of _ _) ih (has_zero_of (sub1_shl hyb k))
theorem has_mul {av am bv bm x y : W64} (ha : okT av am) (hb : okT bv bm) (hx : hasT av am x) (hy : hasT bv bm y) : hasT (tMul av am bv bm).1 (tMul av am bv bm).2 (x * y) := by
  obtain ⟨xa, h1, rfl⟩ := has_parts hx ha
  obtain ⟨yb, h2, rfl⟩ := has_parts hy hb
  have h := has_mulL ha hb h1 h2 64 (by omega)
  rw [lowK_all, lowK_all] at h
  have e : (av + xa) * (bv + yb) = av * bv + (av * yb + xa * (bv + yb)) := by
    rw [BitVec.add_mul, BitVec.mul_add (x := av)]
    generalize av * bv = p
    generalize av * yb = q
    ac_rfl
  rw [e]
  unfold tMul
  refine has_add ?_ (ok_mulL _ _ _ _ 64) ?_ h
  · unfold okT; exact BitVec.and_zero
  · unfold hasT; rw [BitVec.not_zero]; exact BitVec.and_allOnes

/-! Range. -/
theorem bitLen_lt (x : Nat) (h : x < 2 ^ 64) : x < 2 ^ Lib.bitLen x := by
  by_cases h0 : x = 0
  · subst h0; exact Nat.two_pow_pos _
  · exact (Lib.bitLenAux_bounds 64 x h h0).2.2
theorem ones_bit (n i : Nat) (hn : n ≤ 64) (hi : i < 64) : (1#64 <<< n - 1#64).getLsbD i = decide (i < n) := by
  have e : 1#64 <<< n - 1#64 = BitVec.ofNat 64 (2 ^ n - 1) := by
    apply BitVec.eq_of_toNat_eq
    rw [BitVec.toNat_sub, BitVec.toNat_shiftLeft, Nat.shiftLeft_eq, BitVec.toNat_ofNat]
    show (2 ^ 64 - 1 + 1 * 2 ^ n % 2 ^ 64) % 2 ^ 64 = _
    have hp := Nat.two_pow_pos n
    rw [Nat.one_mul]
    by_cases h : n = 64
    · subst h; decide
    · have hp2 : 2 ^ n < 2 ^ 64 := Nat.pow_lt_pow_right (by decide) (by omega)
      rw [Nat.mod_eq_of_lt hp2, BitVec.toNat_ofNat]
      generalize 2 ^ n = q at *
      omega
  rw [e, BitVec.getLsbD_ofNat, Nat.testBit_two_pow_sub_one]
  simp [hi]
theorem has_range {lo hi v : W64} (h1 : N lo ≤ N v) (h2 : N v ≤ N hi) : hasT (tRange lo hi).1 (tRange lo hi).2 v := by
  have hl : (lo.toNat ^^^ hi.toNat) < 2 ^ 64 := Nat.xor_lt_two_pow lo.isLt hi.isLt
  have hn : Lib.bitLen (lo.toNat ^^^ hi.toNat) ≤ 64 := Lib.bitLen_le _ 64 (by omega) hl
  have hb := bitLen_lt _ hl
  unfold tRange
  rw [Nat.min_eq_left hn]
  generalize Lib.bitLen (lo.toNat ^^^ hi.toNat) = n at *
  apply has_of
  intro i hi' hm
  rw [ones_bit n i hn hi', decide_eq_false_iff_not] at hm
  have e : lo.toNat / 2 ^ n = hi.toNat / 2 ^ n := by
    have h4 : (lo.toNat ^^^ hi.toNat) >>> n = 0 := by rw [Nat.shiftRight_eq_div_pow, Nat.div_eq_of_lt hb]
    rw [Nat.shiftRight_xor_distrib] at h4
    have h5 : lo.toNat >>> n = hi.toNat >>> n := by
      have h6 := congrArg (fun z => z ^^^ (hi.toNat >>> n)) h4
      simp only [Nat.xor_assoc, Nat.xor_self, Nat.xor_zero, Nat.zero_xor] at h6
      exact h6
    rw [Nat.shiftRight_eq_div_pow, Nat.shiftRight_eq_div_pow] at h5
    exact h5
  have hv : v.toNat / 2 ^ n = lo.toNat / 2 ^ n := by
    unfold N at h1 h2
    have a1 : lo.toNat / 2 ^ n ≤ v.toNat / 2 ^ n := Nat.div_le_div_right (by omega)
    have a2 : v.toNat / 2 ^ n ≤ hi.toNat / 2 ^ n := Nat.div_le_div_right (by omega)
    omega
  have t : ∀ z : W64, z.getLsbD i = (z.toNat / 2 ^ n).testBit (i - n) := fun z => by
    rw [BitVec.getLsbD, ← Nat.shiftRight_eq_div_pow, Nat.testBit_shiftRight]
    congr 1; omega
  rw [t v, t lo, hv]
end Go.Proofs.Ytchjneodjaakdaa
