/-
  The plain mathematics of package nums: lowest bits, signs, bytes and numbers. No Go in sight.
-/
import Derived.Test.YtbjiicjmlbocdaaBv
namespace Go.Proofs.Ytbjiicjmlbocdaa

def lowS (v : BitVec 64) (b : Int) : BitVec 64 := if b ≤ 0 then 0 else if 64 ≤ b then v else v &&& (1#64 <<< b.toNat - 1#64)
def signS (v : BitVec 64) (b : Int) : BitVec 64 := if b ≤ 0 then 0 else if 64 ≤ b then v else (v <<< (64 - b).toNat).sshiftRight (64 - b).toNat

/-- The number of the first k of some bytes. -/
def numF (f : Nat → BitVec 8) : Nat → BitVec 64
  | 0 => 0#64
  | k + 1 => numF f k ||| ((f k).setWidth 64 <<< (8 * k))
def byteAt (s : ByteArray) (i : Nat) : BitVec 8 := (s.data.toList.getD i 0).toBitVec
def numS (s : ByteArray) : BitVec 64 := numF (byteAt s) (min s.size 8)
theorem numF_succ (f : Nat → BitVec 8) (k : Nat) : numF f (k + 1) = numF f k ||| ((f k).setWidth 64 <<< (8 * k)) := rfl
theorem byteAt_get (s : ByteArray) (k : Nat) (h : k < s.size) : BitVec.ofNat 64 s[k].toNat = (byteAt s k).setWidth 64 := by
  unfold byteAt
  have h' : k < s.data.toList.length := by simpa using h
  rw [List.getD_eq_getElem?_getD, List.getElem?_eq_getElem h']
  rw [← BitVec.ofNat_toNat]; rfl
theorem numS_eq (s : ByteArray) (k : Nat) (h : k = min s.size 8) : numF (byteAt s) k = numS s := by rw [h]; rfl

theorem numF_bit (f : Nat → BitVec 8) (k j : Nat) : (numF f k).getLsbD j = (decide (j < 64) && decide (j < 8 * k) && (f (j / 8)).getLsbD (j % 8)) := by
  induction k with
  | zero => simp [numF]
  | succ k ih =>
    rw [numF_succ, BitVec.getLsbD_or, ih, BitVec.getLsbD_shiftLeft, BitVec.getLsbD_setWidth]
    by_cases h64 : j < 64
    · by_cases h1 : j < 8 * k
      · have h2 : j < 8 * (k + 1) := by omega
        simp [h64, h1, h2]
      · by_cases h2 : j < 8 * (k + 1)
        · have e1 : j / 8 = k := by omega
          have e2 : j - 8 * k = j % 8 := by omega
          have e3 : j % 8 < 64 := by omega
          simp [h64, h1, h2, e1, e2, e3]
        · have e2 : 8 ≤ j - 8 * k := by omega
          simp [h64, h1, h2, BitVec.getLsbD_of_ge _ _ e2]
    · simp [h64]

/-- The number of m bytes from the place 'lo' on, from the highest one. -/
def numH (f : Nat → BitVec 8) (lo : Nat) : Nat → BitVec 64
  | 0 => 0#64
  | m + 1 => numH f (lo + 1) m <<< 8 ||| (f lo).setWidth 64
theorem numH_bit (f : Nat → BitVec 8) (m : Nat) : ∀ lo j, (numH f lo m).getLsbD j = (decide (j < 64) && decide (j < 8 * m) && (f (lo + j / 8)).getLsbD (j % 8)) := by
  induction m with
  | zero => intro lo j; simp [numH]
  | succ m ih =>
    intro lo j
    rw [numH, BitVec.getLsbD_or, BitVec.getLsbD_shiftLeft, ih, BitVec.getLsbD_setWidth]
    by_cases h64 : j < 64
    · by_cases h8 : j < 8
      · have e1 : j / 8 = 0 := by omega
        have e2 : j % 8 = j := by omega
        have e3 : j < 8 * (m + 1) := by omega
        simp [h64, h8, e1, e2, e3]
      · have e1 : lo + 1 + (j - 8) / 8 = lo + j / 8 := by omega
        have e2 : (j - 8) % 8 = j % 8 := by omega
        have e4 : j - 8 < 64 := by omega
        have e5 : (f lo).getLsbD j = false := BitVec.getLsbD_of_ge _ _ (by omega)
        by_cases h3 : j < 8 * (m + 1)
        · have e3 : j - 8 < 8 * m := by omega
          simp [h64, h8, e1, e2, e3, e4, e5, h3]
        · have e3 : ¬ j - 8 < 8 * m := by omega
          simp [h64, h8, e3, e5, h3]
    · simp [h64]
theorem numF_numH (f : Nat → BitVec 8) (m : Nat) : numH f 0 m = numF f m := by
  apply BitVec.eq_of_getLsbD_eq
  intro i hi
  rw [numF_bit, numH_bit, Nat.zero_add]
theorem mul256_add (v : BitVec 64) (c : BitVec 8) : v * 256#64 + c.setWidth 64 = v <<< 8 ||| c.setWidth 64 := by
  have e : v * 256#64 = v <<< 8 := by
    rw [BitVec.shiftLeft_eq_mul_twoPow]; congr 1
  rw [e]
  apply BitVec.add_eq_or_of_and_eq_zero
  apply BitVec.eq_of_getLsbD_eq
  intro i hi
  simp only [BitVec.getLsbD_and, BitVec.getLsbD_shiftLeft, BitVec.getLsbD_setWidth, BitVec.getLsbD_zero]
  by_cases h : i < 8
  · simp [h]
  · simp [BitVec.getLsbD_of_ge c i (by omega)]
theorem numH_step (f : Nat → BitVec 8) (lo m : Nat) : numH f (lo + 1) m * 256#64 + (f lo).setWidth 64 = numH f lo (m + 1) := by
  rw [mul256_add]; rfl

def byteOf (v : BitVec 64) (i : Nat) : BitVec 8 := (v >>> (8 * i)).setWidth 8
def bytesN (v : BitVec 64) (n : Nat) : ByteArray := ⟨((List.range n).map fun i => UInt8.ofBitVec (byteOf v i)).toArray⟩
theorem bytesN_size (v : BitVec 64) (n : Nat) : (bytesN v n).size = n := by
  show (bytesN v n).data.size = n
  simp [bytesN]
theorem bytesN_list (v : BitVec 64) (n : Nat) : (bytesN v n).data.toList = (List.range n).map fun i => UInt8.ofBitVec (byteOf v i) := by simp [bytesN]
theorem bytesN_get (v : BitVec 64) (n i : Nat) (h : i < (bytesN v n).size) : ((bytesN v n)[i].toNat : Int) = N (byteOf v i) := by
  have e : (bytesN v n)[i] = (bytesN v n).data[i]'(by simpa using h) := rfl
  rw [e]
  simp [bytesN, N]
theorem byteAt_bytesN (v : BitVec 64) (n i : Nat) (h : i < n) : byteAt (bytesN v n) i = byteOf v i := by
  unfold byteAt
  rw [bytesN_list, List.getD_eq_getElem?_getD]
  simp [h]

/-- nums.Bytes: the text of a number's n lowest bytes. -/
def bytesS (v : BitVec 64) (n : Int) : ByteArray := if n < 0 ∨ 8 < n then ⟨#[]⟩ else bytesN v n.toNat

theorem low_mod (v : BitVec 64) (b : Nat) : v % (1#64 <<< b) = v &&& (1#64 <<< b - 1#64) ∨ 64 ≤ b := by
  by_cases h : b < 64
  · left
    apply BitVec.eq_of_toNat_eq
    have hp : 2 ^ b < 2 ^ 64 := Nat.pow_lt_pow_right (by decide) h
    have e1 : (1#64 <<< b).toNat = 2 ^ b := by
      rw [BitVec.toNat_shiftLeft]; simp [Nat.shiftLeft_eq]; exact hp
    have hp0 : 0 < 2 ^ b := Nat.two_pow_pos b
    have e2 : (1#64 <<< b - 1#64).toNat = 2 ^ b - 1 := by
      rw [BitVec.toNat_sub, e1]; simp; omega
    rw [BitVec.toNat_umod, BitVec.toNat_and, e1, e2, Nat.and_two_pow_sub_one_eq_mod]
  · right; omega
theorem low_of_mod (v : BitVec 64) (b : Int) (h0 : 0 < b) (h1 : b < 64) : v % (1#64 <<< b.toNat) = lowS v b := by
  unfold lowS
  rw [if_neg (by omega), if_neg (by omega)]
  exact (low_mod v b.toNat).resolve_right (by omega)
theorem low_toNat (v : BitVec 64) (b : Int) (h0 : 0 < b) (h1 : b < 64) : (lowS v b).toNat = v.toNat % 2 ^ b.toNat := by
  rw [← low_of_mod v b h0 h1, BitVec.toNat_umod, BitVec.toNat_shiftLeft]
  have hp : 2 ^ b.toNat < 2 ^ 64 := Nat.pow_lt_pow_right (by decide) (by omega)
  simp only [BitVec.toNat_ofNat, Nat.shiftLeft_eq]
  rw [Nat.mod_eq_of_lt (a := 1) (by decide), Nat.one_mul, Nat.mod_eq_of_lt hp]
theorem low_bit (v : BitVec 64) (b : Int) (i : Nat) : (lowS v b).getLsbD i = (decide ((i : Int) < b) && v.getLsbD i) := by
  by_cases h0 : b ≤ 0
  · unfold lowS; rw [if_pos h0]
    have : ¬ (i : Int) < b := by omega
    simp [this]
  · by_cases h1 : 64 ≤ b
    · unfold lowS; rw [if_neg h0, if_pos h1]
      by_cases hi : i < 64
      · have : (i : Int) < b := by omega
        simp [this]
      · simp [BitVec.getLsbD_of_ge v i (by omega)]
    · have e := low_toNat v b (by omega) (by omega)
      rw [BitVec.getLsbD, e, Nat.testBit_mod_two_pow]
      congr 1
      simp only [decide_eq_decide]; omega
theorem sign_bit (v : BitVec 64) (b : Int) (i : Nat) (hb : 0 < b) (hi : i < 64) : (signS v b).getLsbD i = if (i : Int) < b then v.getLsbD i else v.getLsbD (b.toNat - 1) := by
  unfold signS
  rw [if_neg (by omega)]
  by_cases h1 : 64 ≤ b
  · rw [if_pos h1, if_pos (by omega)]
  · rw [if_neg h1]
    obtain ⟨n, rfl⟩ := Int.eq_ofNat_of_zero_le (show 0 ≤ b by omega)
    generalize hk' : (64 - (n : Int)).toNat = k
    have hk : k + n = 64 := by omega
    clear hk'
    rw [Int.toNat_natCast, BitVec.getLsbD_sshiftRight]
    by_cases h2 : i < n
    · have h3 : k + i < 64 := by omega
      have h4 : ¬ 64 ≤ i := by omega
      have h5 : (i : Int) < n := by omega
      rw [if_pos h3, if_pos h5, BitVec.getLsbD_shiftLeft]
      simp only [h3, h4, show ¬ k + i < k from by omega, Nat.add_sub_cancel_left, decide_false, decide_true, Bool.not_false, Bool.true_and]
    · have h3 : ¬ k + i < 64 := by omega
      have h4 : ¬ 64 ≤ i := by omega
      have h5 : ¬ (i : Int) < n := by omega
      have h6 : ¬ 63 < k := by omega
      have e : 63 - k = n - 1 := by omega
      rw [if_neg h3, if_neg h5, BitVec.msb_eq_getLsbD_last, BitVec.getLsbD_shiftLeft]
      simp only [h4, h6, decide_false, decide_true, Bool.not_false, Bool.true_and, show 64 - 1 < 64 from by decide, show 64 - 1 - k = n - 1 from by omega]
theorem low_lt_iff (v : BitVec 64) (b : Int) (h0 : 0 < b) (h1 : b < 64) : (N (lowS v b) < N (1#64 <<< (b - 1).toNat)) ↔ v.getLsbD (b.toNat - 1) = false := by
  obtain ⟨n, rfl⟩ : ∃ n : Nat, b = (n : Int) + 1 := ⟨(b - 1).toNat, by omega⟩
  have hp : 2 ^ n < 2 ^ 64 := Nat.pow_lt_pow_right (by decide) (by omega)
  have e1 : (1#64 <<< ((n : Int) + 1 - 1).toNat).toNat = 2 ^ n := by
    rw [show ((n : Int) + 1 - 1).toNat = n by omega, BitVec.toNat_shiftLeft]; simp [Nat.shiftLeft_eq]; exact hp
  have e2 := low_toNat v ((n : Int) + 1) h0 h1
  rw [show ((n : Int) + 1).toNat = n + 1 by omega] at e2 ⊢
  unfold N
  rw [e1, e2, Nat.add_sub_cancel, BitVec.getLsbD, Nat.mod_pow_succ]
  have h3 : v.toNat % 2 ^ n < 2 ^ n := Nat.mod_lt _ (Nat.two_pow_pos n)
  rw [Nat.testBit_eq_decide_div_mod_eq]
  have h4 : v.toNat / 2 ^ n % 2 = 0 ∨ v.toNat / 2 ^ n % 2 = 1 := by omega
  rcases h4 with h4 | h4
  · simp [h4]; exact_mod_cast h3
  · simp [h4]; omega
theorem sign_of_low (v : BitVec 64) (b : Int) (h0 : 0 < b) (h1 : b < 64) :
    signS v b = if v.getLsbD (b.toNat - 1) = false then lowS v b else lowS v b - 1#64 <<< b.toNat := by
  have hlow : ∀ i, (lowS v b).getLsbD i = (decide ((i : Int) < b) && v.getLsbD i) := low_bit v b
  split
  · rename_i h
    apply BitVec.eq_of_getLsbD_eq
    intro i hi
    rw [sign_bit v b i h0 hi, hlow i]
    by_cases hib : (i : Int) < b <;> simp only [hib, if_true, if_false, h, decide_true, decide_false, Bool.true_and, Bool.false_and]
  · rename_i h
    have h' : v.getLsbD (b.toNat - 1) = true := by simpa using h
    obtain ⟨n, rfl⟩ := Int.eq_ofNat_of_zero_le (show 0 ≤ b by omega)
    rw [Int.toNat_natCast] at h' ⊢
    have hn : n < 64 := by omega
    have hmask : ∀ i, i < 64 → (~~~(1#64 <<< n - 1#64)).getLsbD i = decide (n ≤ i) := by
      intro i hi
      have hp : 2 ^ n < 2 ^ 64 := Nat.pow_lt_pow_right (by decide) hn
      have e1 : (1#64 <<< n).toNat = 2 ^ n := by
        rw [BitVec.toNat_shiftLeft]; simp [Nat.shiftLeft_eq]; exact hp
      have hp0 : 0 < 2 ^ n := Nat.two_pow_pos n
      have e2 : (1#64 <<< n - 1#64).toNat = 2 ^ n - 1 := by
        rw [BitVec.toNat_sub, e1]; simp; omega
      rw [BitVec.getLsbD_not, BitVec.getLsbD, e2, Nat.testBit_two_pow_sub_one]
      by_cases hni : n ≤ i
      · simp [hi, hni]
      · simp [hi, hni]; omega
    have hneg : -(1#64 <<< n) = ~~~(1#64 <<< n - 1#64) := by
      rw [BitVec.neg_eq_not_add, BitVec.not_sub_one_eq_not_add_one]
    rw [BitVec.sub_eq_add_neg, hneg, BitVec.add_eq_or_of_and_eq_zero]
    · apply BitVec.eq_of_getLsbD_eq
      intro i hi
      rw [sign_bit v _ i h0 hi, BitVec.getLsbD_or, hlow i, hmask i hi, Int.toNat_natCast]
      by_cases hib : i < n
      · have h2 : ¬ n ≤ i := by omega
        simp [hib, h2]
      · have h2 : n ≤ i := by omega
        have h3 : ¬ (i : Int) < n := by omega
        simp [h2, h3, h']
    · apply BitVec.eq_of_getLsbD_eq
      intro i hi
      rw [BitVec.getLsbD_and, hlow i, hmask i hi]
      by_cases hib : i < n
      · have h2 : ¬ n ≤ i := by omega
        simp [h2]
      · simp [hib]
theorem shl1_ne (b : Int) (h0 : 0 ≤ b) (h1 : b < 64) : ¬ N (1#64 <<< b.toNat) = 0 := by
  have hp : 2 ^ b.toNat < 2 ^ 64 := Nat.pow_lt_pow_right (by decide) (by omega)
  have hp0 : 0 < 2 ^ b.toNat := Nat.two_pow_pos _
  unfold N
  rw [BitVec.toNat_shiftLeft]
  simp only [BitVec.toNat_ofNat, Nat.shiftLeft_eq]
  rw [Nat.mod_eq_of_lt (a := 1) (by decide), Nat.one_mul, Nat.mod_eq_of_lt hp]
  omega
/-- What the document's Sign goes by: whether no sign is told on. -/
def plainB (v : BitVec 64) (b : Int) : Bool := decide (N (lowS v b) < N (1#64 <<< (b - 1).toNat))
theorem sign_le0 (v : BitVec 64) (b : Int) (h : b ≤ 0) : lowS v b = signS v b := by unfold lowS signS; rw [if_pos h, if_pos h]
theorem sign_ge64 (v : BitVec 64) (b : Int) (h : 64 ≤ b) : lowS v b = signS v b := by unfold lowS signS; rw [if_neg (show ¬ b ≤ 0 by omega), if_pos h, if_neg (show ¬ b ≤ 0 by omega), if_pos h]
theorem sign_plain (v : BitVec 64) (b : Int) (h0 : 0 < b) (h1 : b < 64) (h : N (lowS v b) < N (1#64 <<< (b.toNat - 1))) : lowS v b = signS v b := by
  rw [show b.toNat - 1 = (b - 1).toNat by omega] at h
  rw [sign_of_low v b h0 h1, if_pos ((low_lt_iff v b h0 h1).1 h)]
theorem sign_minus (v : BitVec 64) (b : Int) (h0 : 0 < b) (h1 : b < 64) (h : ¬ N (lowS v b) < N (1#64 <<< (b.toNat - 1))) : lowS v b - 1#64 <<< b.toNat = signS v b := by
  rw [show b.toNat - 1 = (b - 1).toNat by omega] at h
  rw [sign_of_low v b h0 h1, if_neg (fun h' => h ((low_lt_iff v b h0 h1).2 h'))]
theorem shl_succ (k : Nat) : 1#64 <<< k * 2#64 = 1#64 <<< (k + 1) := by
  apply BitVec.eq_of_toNat_eq
  simp [Nat.shiftLeft_eq, Nat.pow_succ]
end Go.Proofs.Ytbjiicjmlbocdaa
