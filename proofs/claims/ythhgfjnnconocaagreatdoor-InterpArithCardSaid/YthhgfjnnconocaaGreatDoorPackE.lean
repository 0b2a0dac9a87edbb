/-
  Lemmas for the laws of this seat, part E: MapLit, NumsMath, AluMath, Nums, Alu, Conds, Holds, Ex21.
-/
import Derived.Test.YthhgfjnnconocaaGreatDoorPackD
import Derived.MapKept
import Derived.Test.YthhgfjnnconocaaGreatDoorProg
import Derived.Handy
import Derived.Lib.SlBytesRow
import Derived.BigQuiet
section
namespace Go.Proofs.YthhgfjnnconocaaGreatDoor
open Go.RowKit

theorem run_insert_new {P : Program} {T K E : TypeId} {q : IntKind} (hT : P.underlying T = some (.map K E)) (hK : P.underlying K = some (.int q)) (w : World) (es : Array MapEntry) (c : Nat) (x : Int) (v : Value)
    (hn : Instr.findNow (.int q) (.int q x) es.toList 0 = some none) :
    (Instr.mapUpdate T (.map (some w.heap.size)) (.int q x) v).run P (w.alloc (.map es c)) = .ok () (w.alloc (.map (es.push ⟨.int q x, v, c⟩) (c + 1))) := by
  have hb := (MapKept.heap_alloc w (.map es c)).1
  simp [Instr.mapUpdate, run_underlying hT, MapKept.run_getObj_map hb, MapKept.run_checkKey hK (show MapKept.IsKey (.int q) (.int q x) from rfl), MapKept.run_findKey hK hn, MapKept.run_setObj_map _ hb, Result.andThen]
  have hp : ∀ (h : Array Obj) (x y : Obj), (h.push x).setIfInBounds h.size y = h.push y := by
    intro h x y
    apply Array.toList_inj.1
    simp
  show ({ w with heap := (w.heap.push (.map es c)).setIfInBounds w.heap.size (.map (es.push ⟨.int q x, v, c⟩) (c + 1)) } : World) = _
  rw [hp]
  rfl

theorem run_lookup_lit {P : Program} {T K E : TypeId} {q : IntKind} (hT : P.underlying T = some (.map K E)) (hK : P.underlying K = some (.int q)) (w : World) (b : Nat) (es : Array MapEntry) (c : Nat) (x : Int) (i : Nat) (v : Value)
    (hb : w.heap[b]? = some (.map es c)) (hn : Instr.findNow (.int q) (.int q x) es.toList 0 = some (some (i, v))) :
    (Instr.lookup T (.map (some b)) (.int q x) false).run P w = .ok v w := by
  simp [Instr.lookup, run_underlying hT, MapKept.run_getObj_map hb, MapKept.run_checkKey hK (show MapKept.IsKey (.int q) (.int q x) from rfl), MapKept.run_findKey hK hn, Result.andThen]
theorem run_lookup_none {P : Program} {T K E : TypeId} {q : IntKind} (hT : P.underlying T = some (.map K E)) (hK : P.underlying K = some (.int q)) (w : World) (b : Nat) (es : Array MapEntry) (c : Nat) (x : Int) (z : Value)
    (hb : w.heap[b]? = some (.map es c)) (hn : Instr.findNow (.int q) (.int q x) es.toList 0 = some none) (hz : (zeroValue E).run P w = .ok z w) :
    (Instr.lookup T (.map (some b)) (.int q x) false).run P w = .ok z w := by
  simp [Instr.lookup, run_underlying hT, MapKept.run_getObj_map hb, MapKept.run_checkKey hK (show MapKept.IsKey (.int q) (.int q x) from rfl), MapKept.run_findKey hK hn, hz, Result.andThen]
end Go.Proofs.YthhgfjnnconocaaGreatDoor
end
section
namespace Go.Proofs.YthhgfjnnconocaaGreatDoor

def lowS (v : BitVec 64) (b : Int) : BitVec 64 := if b ≤ 0 then 0 else if 64 ≤ b then v else v &&& (1#64 <<< b.toNat - 1#64)
def signS (v : BitVec 64) (b : Int) : BitVec 64 := if b ≤ 0 then 0 else if 64 ≤ b then v else (v <<< (64 - b).toNat).sshiftRight (64 - b).toNat

/-- The number of the first k of some bytes. -/
def numF (f : Nat → BitVec 8) : Nat → BitVec 64
  | 0 => 0#64
  | k + 1 => numF f k ||| ((f k).setWidth 64 <<< (8 * k))
def byteAt (s : ByteArray) (i : Nat) : BitVec 8 := (s.data.toList.getD i 0).toBitVec
def numS (s : ByteArray) : BitVec 64 := numF (byteAt s) (min s.size 8)
theorem numF_succ (f : Nat → BitVec 8) (k : Nat) : numF f (k + 1) = numF f k ||| ((f k).setWidth 64 <<< (8 * k)) := rfl
theorem byteAt_get (s : ByteArray) (k : Nat) (h : k < s.size) : BitVec.ofNat 64 s[k].toNat = (byteAt s k).setWidth 64 := by
  unfold byteAt
  have h' : k < s.data.toList.length := by simpa using h
  rw [List.getD_eq_getElem?_getD, List.getElem?_eq_getElem h']
  rw [← BitVec.ofNat_toNat]; rfl
theorem numS_eq (s : ByteArray) (k : Nat) (h : k = min s.size 8) : numF (byteAt s) k = numS s := by rw [h]; rfl

theorem numF_bit (f : Nat → BitVec 8) (k j : Nat) : (numF f k).getLsbD j = (decide (j < 64) && decide (j < 8 * k) && (f (j / 8)).getLsbD (j % 8)) := by
  induction k with
  | zero => simp [numF]
  | succ k ih =>
    rw [numF_succ, BitVec.getLsbD_or, ih, BitVec.getLsbD_shiftLeft, BitVec.getLsbD_setWidth]
    by_cases h64 : j < 64
    · by_cases h1 : j < 8 * k
      · have h2 : j < 8 * (k + 1) := by omega
        simp [h64, h1, h2]
      · by_cases h2 : j < 8 * (k + 1)
        · have e1 : j / 8 = k := by omega
          have e2 : j - 8 * k = j % 8 := by omega
          have e3 : j % 8 < 64 := by omega
          simp [h64, h1, h2, e1, e2, e3]
        · have e2 : 8 ≤ j - 8 * k := by omega
          simp [h64, h1, h2, BitVec.getLsbD_of_ge _ _ e2]
    · simp [h64]

/-- The number of m bytes from the place 'lo' on, from the highest one. -/
def numH (f : Nat → BitVec 8) (lo : Nat) : Nat → BitVec 64
  | 0 => 0#64
  | m + 1 => numH f (lo + 1) m <<< 8 ||| (f lo).setWidth 64
theorem numH_bit (f : Nat → BitVec 8) (m : Nat) : ∀ lo j, (numH f lo m).getLsbD j = (decide (j < 64) && decide (j < 8 * m) && (f (lo + j / 8)).getLsbD (j % 8)) := by
  induction m with
  | zero => intro lo j; simp [numH]
  | succ m ih =>
    intro lo j
    rw [numH, BitVec.getLsbD_or, BitVec.getLsbD_shiftLeft, ih, BitVec.getLsbD_setWidth]
    by_cases h64 : j < 64
    · by_cases h8 : j < 8
      · have e1 : j / 8 = 0 := by omega
        have e2 : j % 8 = j := by omega
        have e3 : j < 8 * (m + 1) := by omega
        simp [h64, h8, e1, e2, e3]
      · have e1 : lo + 1 + (j - 8) / 8 = lo + j / 8 := by omega
        have e2 : (j - 8) % 8 = j % 8 := by omega
        have e4 : j - 8 < 64 := by omega
        have e5 : (f lo).getLsbD j = false := BitVec.getLsbD_of_ge _ _ (by omega)
        by_cases h3 : j < 8 * (m + 1)
        · have e3 : j - 8 < 8 * m := by omega
          simp [h64, h8, e1, e2, e3, e4, e5, h3]
        · have e3 : ¬ j - 8 < 8 * m := by omega
          simp [h64, h8, e3, e5, h3]
    · simp [h64]
theorem numF_numH (f : Nat → BitVec 8) (m : Nat) : numH f 0 m = numF f m := by
  apply BitVec.eq_of_getLsbD_eq
  intro i hi
  rw [numF_bit, numH_bit, Nat.zero_add]
theorem mul256_add (v : BitVec 64) (c : BitVec 8) : v * 256#64 + c.setWidth 64 = v <<< 8 ||| c.setWidth 64 := by
  have e : v * 256#64 = v <<< 8 := by
    rw [BitVec.shiftLeft_eq_mul_twoPow]; congr 1
  rw [e]
  apply BitVec.add_eq_or_of_and_eq_zero
  apply BitVec.eq_of_getLsbD_eq
  intro i hi
  simp only [BitVec.getLsbD_and, BitVec.getLsbD_shiftLeft, BitVec.getLsbD_setWidth, BitVec.getLsbD_zero]
  by_cases h : i < 8
  · simp [h]
  · simp [BitVec.getLsbD_of_ge c i (by omega)]
theorem numH_step (f : Nat → BitVec 8) (lo m : Nat) : numH f (lo + 1) m * 256#64 + (f lo).setWidth 64 = numH f lo (m + 1) := by
  rw [mul256_add]; rfl

def byteOf (v : BitVec 64) (i : Nat) : BitVec 8 := (v >>> (8 * i)).setWidth 8
def bytesN (v : BitVec 64) (n : Nat) : ByteArray := ⟨((List.range n).map fun i => UInt8.ofBitVec (byteOf v i)).toArray⟩
theorem bytesN_size (v : BitVec 64) (n : Nat) : (bytesN v n).size = n := by
  show (bytesN v n).data.size = n
  simp [bytesN]
theorem bytesN_list (v : BitVec 64) (n : Nat) : (bytesN v n).data.toList = (List.range n).map fun i => UInt8.ofBitVec (byteOf v i) := by simp [bytesN]
theorem bytesN_get (v : BitVec 64) (n i : Nat) (h : i < (bytesN v n).size) : ((bytesN v n)[i].toNat : Int) = N (byteOf v i) := by
  have e : (bytesN v n)[i] = (bytesN v n).data[i]'(by simpa using h) := rfl
  rw [e]
  simp [bytesN, N]
theorem byteAt_bytesN (v : BitVec 64) (n i : Nat) (h : i < n) : byteAt (bytesN v n) i = byteOf v i := by
  unfold byteAt
  rw [bytesN_list, List.getD_eq_getElem?_getD]
  simp [h]

/-- nums.Bytes: the text of a number's n lowest bytes. -/
def bytesS (v : BitVec 64) (n : Int) : ByteArray := if n < 0 ∨ 8 < n then ⟨#[]⟩ else bytesN v n.toNat

theorem low_mod (v : BitVec 64) (b : Nat) : v % (1#64 <<< b) = v &&& (1#64 <<< b - 1#64) ∨ 64 ≤ b := by
  by_cases h : b < 64
  · left
    apply BitVec.eq_of_toNat_eq
    have hp : 2 ^ b < 2 ^ 64 := Nat.pow_lt_pow_right (by decide) h
    have e1 : (1#64 <<< b).toNat = 2 ^ b := by
      rw [BitVec.toNat_shiftLeft]; simp [Nat.shiftLeft_eq]; exact hp
    have hp0 : 0 < 2 ^ b := Nat.two_pow_pos b
    have e2 : (1#64 <<< b - 1#64).toNat = 2 ^ b - 1 := by
      rw [BitVec.toNat_sub, e1]; simp; omega
    rw [BitVec.toNat_umod, BitVec.toNat_and, e1, e2, Nat.and_two_pow_sub_one_eq_mod]
  · right; omega
theorem low_of_mod (v : BitVec 64) (b : Int) (h0 : 0 < b) (h1 : b < 64) : v % (1#64 <<< b.toNat) = lowS v b := by
  unfold lowS
  rw [if_neg (by omega), if_neg (by omega)]
  exact (low_mod v b.toNat).resolve_right (by omega)
theorem low_toNat (v : BitVec 64) (b : Int) (h0 : 0 < b) (h1 : b < 64) : (lowS v b).toNat = v.toNat % 2 ^ b.toNat := by
  rw [← low_of_mod v b h0 h1, BitVec.toNat_umod, BitVec.toNat_shiftLeft]
  have hp : 2 ^ b.toNat < 2 ^ 64 := Nat.pow_lt_pow_right (by decide) (by omega)
  simp only [BitVec.toNat_ofNat, Nat.shiftLeft_eq]
  rw [Nat.mod_eq_of_lt (a := 1) (by decide), Nat.one_mul, Nat.mod_eq_of_lt hp]
theorem low_bit (v : BitVec 64) (b : Int) (i : Nat) : (lowS v b).getLsbD i = (decide ((i : Int) < b) && v.getLsbD i) := by
  by_cases h0 : b ≤ 0
  · unfold lowS; rw [if_pos h0]
    have : ¬ (i : Int) < b := by omega
    simp [this]
  · by_cases h1 : 64 ≤ b
    · unfold lowS; rw [if_neg h0, if_pos h1]
      by_cases hi : i < 64
      · have : (i : Int) < b := by omega
        simp [this]
      · simp [BitVec.getLsbD_of_ge v i (by omega)]
    · have e := low_toNat v b (by omega) (by omega)
      rw [BitVec.getLsbD, e, Nat.testBit_mod_two_pow]
      congr 1
      simp only [decide_eq_decide]; omega
theorem sign_bit (v : BitVec 64) (b : Int) (i : Nat) (hb : 0 < b) (hi : i < 64) : (signS v b).getLsbD i = if (i : Int) < b then v.getLsbD i else v.getLsbD (b.toNat - 1) := by
  unfold signS
  rw [if_neg (by omega)]
  by_cases h1 : 64 ≤ b
  · rw [if_pos h1, if_pos (by omega)]
  · rw [if_neg h1]
    obtain ⟨n, rfl⟩ := Int.eq_ofNat_of_zero_le (show 0 ≤ b by omega)
    generalize hk' : (64 - (n : Int)).toNat = k
    have hk : k + n = 64 := by omega
    clear hk'
    rw [Int.toNat_natCast, BitVec.getLsbD_sshiftRight]
    by_cases h2 : i < n
    · have h3 : k + i < 64 := by omega
      have h4 : ¬ 64 ≤ i := by omega
      have h5 : (i : Int) < n := by omega
      rw [if_pos h3, if_pos h5, BitVec.getLsbD_shiftLeft]
      simp only [h3, h4, show ¬ k + i < k from by omega, Nat.add_sub_cancel_left, decide_false, decide_true, Bool.not_false, Bool.true_and]
    · have h3 : ¬ k + i < 64 := by omega
      have h4 : ¬ 64 ≤ i := by omega
      have h5 : ¬ (i : Int) < n := by omega
      have h6 : ¬ 63 < k := by omega
      have e : 63 - k = n - 1 := by omega
      rw [if_neg h3, if_neg h5, BitVec.msb_eq_getLsbD_last, BitVec.getLsbD_shiftLeft]
      simp only [h4, h6, decide_false, decide_true, Bool.not_false, Bool.true_and, show 64 - 1 < 64 from by decide, show 64 - 1 - k = n - 1 from by omega]
theorem low_lt_iff (v : BitVec 64) (b : Int) (h0 : 0 < b) (h1 : b < 64) : (N (lowS v b) < N (1#64 <<< (b - 1).toNat)) ↔ v.getLsbD (b.toNat - 1) = false := by
  obtain ⟨n, rfl⟩ : ∃ n : Nat, b = (n : Int) + 1 := ⟨(b - 1).toNat, by omega⟩
  have hp : 2 ^ n < 2 ^ 64 := Nat.pow_lt_pow_right (by decide) (by omega)
  have e1 : (1#64 <<< ((n : Int) + 1 - 1).toNat).toNat = 2 ^ n := by
    rw [show ((n : Int) + 1 - 1).toNat = n by omega, BitVec.toNat_shiftLeft]; simp [Nat.shiftLeft_eq]; exact hp
  have e2 := low_toNat v ((n : Int) + 1) h0 h1
  rw [show ((n : Int) + 1).toNat = n + 1 by omega] at e2 ⊢
  unfold N
  rw [e1, e2, Nat.add_sub_cancel, BitVec.getLsbD, Nat.mod_pow_succ]
  have h3 : v.toNat % 2 ^ n < 2 ^ n := Nat.mod_lt _ (Nat.two_pow_pos n)
  rw [Nat.testBit_eq_decide_div_mod_eq]
  have h4 : v.toNat / 2 ^ n % 2 = 0 ∨ v.toNat / 2 ^ n % 2 = 1 := by omega
  rcases h4 with h4 | h4
  · simp [h4]; exact_mod_cast h3
  · simp [h4]; omega
theorem sign_of_low (v : BitVec 64) (b : Int) (h0 : 0 < b) (h1 : b < 64) :
    signS v b = if v.getLsbD (b.toNat - 1) = false then lowS v b else lowS v b - 1#64 <<< b.toNat := by
  have hlow : ∀ i, (lowS v b).getLsbD i = (decide ((i : Int) < b) && v.getLsbD i) := low_bit v b
  split
  · rename_i h
    apply BitVec.eq_of_getLsbD_eq
    intro i hi
    rw [sign_bit v b i h0 hi, hlow i]
    by_cases hib : (i : Int) < b <;> simp only [hib, if_true, if_false, h, decide_true, decide_false, Bool.true_and, Bool.false_and]
  · rename_i h
    have h' : v.getLsbD (b.toNat - 1) = true := by simpa using h
    obtain ⟨n, rfl⟩ := Int.eq_ofNat_of_zero_le (show 0 ≤ b by omega)
    rw [Int.toNat_natCast] at h' ⊢
    have hn : n < 64 := by omega
    have hmask : ∀ i, i < 64 → (~~~(1#64 <<< n - 1#64)).getLsbD i = decide (n ≤ i) := by
      intro i hi
      have hp : 2 ^ n < 2 ^ 64 := Nat.pow_lt_pow_right (by decide) hn
      have e1 : (1#64 <<< n).toNat = 2 ^ n := by
        rw [BitVec.toNat_shiftLeft]; simp [Nat.shiftLeft_eq]; exact hp
      have hp0 : 0 < 2 ^ n := Nat.two_pow_pos n
      have e2 : (1#64 <<< n - 1#64).toNat = 2 ^ n - 1 := by
        rw [BitVec.toNat_sub, e1]; simp; omega
      rw [BitVec.getLsbD_not, BitVec.getLsbD, e2, Nat.testBit_two_pow_sub_one]
      by_cases hni : n ≤ i
      · simp [hi, hni]
      · simp [hi, hni]; omega
    have hneg : -(1#64 <<< n) = ~~~(1#64 <<< n - 1#64) := by
      rw [BitVec.neg_eq_not_add, BitVec.not_sub_one_eq_not_add_one]
    rw [BitVec.sub_eq_add_neg, hneg, BitVec.add_eq_or_of_and_eq_zero]
    · apply BitVec.eq_of_getLsbD_eq
      intro i hi
      rw [sign_bit v _ i h0 hi, BitVec.getLsbD_or, hlow i, hmask i hi, Int.toNat_natCast]
      by_cases hib : i < n
      · have h2 : ¬ n ≤ i := by omega
        simp [hib, h2]
      · have h2 : n ≤ i := by omega
        have h3 : ¬ (i : Int) < n := by omega
        simp [h2, h3, h']
    · apply BitVec.eq_of_getLsbD_eq
      intro i hi
      rw [BitVec.getLsbD_and, hlow i, hmask i hi]
      by_cases hib : i < n
      · have h2 : ¬ n ≤ i := by omega
        simp [h2]
      · simp [hib]
theorem shl1_ne (b : Int) (h0 : 0 ≤ b) (h1 : b < 64) : ¬ N (1#64 <<< b.toNat) = 0 := by
  have hp : 2 ^ b.toNat < 2 ^ 64 := Nat.pow_lt_pow_right (by decide) (by omega)
  have hp0 : 0 < 2 ^ b.toNat := Nat.two_pow_pos _
  unfold N
  rw [BitVec.toNat_shiftLeft]
  simp only [BitVec.toNat_ofNat, Nat.shiftLeft_eq]
  rw [Nat.mod_eq_of_lt (a := 1) (by decide), Nat.one_mul, Nat.mod_eq_of_lt hp]
  omega
/-- What the document's Sign goes by: whether no sign is told on. -/
def plainB (v : BitVec 64) (b : Int) : Bool := decide (N (lowS v b) < N (1#64 <<< (b - 1).toNat))
theorem sign_le0 (v : BitVec 64) (b : Int) (h : b ≤ 0) : lowS v b = signS v b := by unfold lowS signS; rw [if_pos h, if_pos h]
theorem sign_ge64 (v : BitVec 64) (b : Int) (h : 64 ≤ b) : lowS v b = signS v b := by unfold lowS signS; rw [if_neg (show ¬ b ≤ 0 by omega), if_pos h, if_neg (show ¬ b ≤ 0 by omega), if_pos h]
theorem sign_plain (v : BitVec 64) (b : Int) (h0 : 0 < b) (h1 : b < 64) (h : N (lowS v b) < N (1#64 <<< (b.toNat - 1))) : lowS v b = signS v b := by
  rw [show b.toNat - 1 = (b - 1).toNat by omega] at h
  rw [sign_of_low v b h0 h1, if_pos ((low_lt_iff v b h0 h1).1 h)]
theorem sign_minus (v : BitVec 64) (b : Int) (h0 : 0 < b) (h1 : b < 64) (h : ¬ N (lowS v b) < N (1#64 <<< (b.toNat - 1))) : lowS v b - 1#64 <<< b.toNat = signS v b := by
  rw [show b.toNat - 1 = (b - 1).toNat by omega] at h
  rw [sign_of_low v b h0 h1, if_neg (fun h' => h ((low_lt_iff v b h0 h1).2 h'))]
theorem shl_succ (k : Nat) : 1#64 <<< k * 2#64 = 1#64 <<< (k + 1) := by
  apply BitVec.eq_of_toNat_eq
  simp [Nat.shiftLeft_eq, Nat.pow_succ]
end Go.Proofs.YthhgfjnnconocaaGreatDoor
end
section
namespace Go.Proofs.YthhgfjnnconocaaGreatDoor

/-- What arithmetic comes to, of numbers of w bits; x: the operation. -/
def aluW {w : Nat} (x : Int) (a b : BitVec w) : BitVec w :=
  if x = 0 then a + b else if x = 16 then a - b else if x = 32 then a * b else if x = 48 then a / b else if x = 144 then a % b
  else if x = 64 then a ||| b else if x = 80 then a &&& b else if x = 160 then a ^^^ b else if x = 96 then a <<< (b.toNat % w)
  else if x = 112 then a >>> (b.toNat % w) else if x = 192 then a.sshiftRight (b.toNat % w) else if x = 128 then -a else if x = 176 then b else 0#w
def aluS (x : Int) (wide : Bool) (a b : BitVec 64) : BitVec 64 :=
  if wide then aluW x a b else (aluW x (a.setWidth 32) (b.setWidth 32)).setWidth 64

/-- No operation at all. -/
def NoOp (x : Int) : Prop := ¬ x = 0 ∧ ¬ x = 16 ∧ ¬ x = 32 ∧ ¬ x = 48 ∧ ¬ x = 144 ∧ ¬ x = 64 ∧ ¬ x = 80 ∧ ¬ x = 160 ∧ ¬ x = 96 ∧ ¬ x = 112 ∧ ¬ x = 192 ∧ ¬ x = 128 ∧ ¬ x = 176
theorem alu_cases (x : Int) : x = 0 ∨ x = 16 ∨ x = 32 ∨ x = 48 ∨ x = 144 ∨ x = 64 ∨ x = 80 ∨ x = 160 ∨ x = 96 ∨ x = 112 ∨ x = 192 ∨ x = 128 ∨ x = 176 ∨ NoOp x := by
  unfold NoOp; omega
theorem aluW_none {w : Nat} {x : Int} (h : NoOp x) (a b : BitVec w) : aluW x a b = 0#w := by
  obtain ⟨h1, h2, h3, h4, h5, h6, h7, h8, h9, h10, h11, h12, h13⟩ := h
  unfold aluW
  rw [if_neg h1, if_neg h2, if_neg h3, if_neg h4, if_neg h5, if_neg h6, if_neg h7, if_neg h8, if_neg h9, if_neg h10, if_neg h11, if_neg h12, if_neg h13]
/-- The same as the tests of a switch have it. -/
theorem noOp_beq {x : Int} (h : NoOp x) : (x == 0) = false ∧ (x == 16) = false ∧ (x == 32) = false ∧ (x == 48) = false ∧ (x == 144) = false ∧ (x == 64) = false ∧ (x == 80) = false ∧ (x == 160) = false ∧ (x == 96) = false ∧ (x == 112) = false ∧ (x == 192) = false ∧ (x == 128) = false ∧ (x == 176) = false := by
  obtain ⟨h1, h2, h3, h4, h5, h6, h7, h8, h9, h10, h11, h12, h13⟩ := h
  refine ⟨?_, ?_, ?_, ?_, ?_, ?_, ?_, ?_, ?_, ?_, ?_, ?_, ?_⟩ <;> (rw [beq_eq_false_iff_ne]; assumption)

theorem tmod64 (b : BitVec 64) : (N b).tmod 64 = ((b.toNat % 64 : Nat) : Int) := by
  unfold N; rw [Int.tmod_eq_emod_of_nonneg (by omega)]; omega
theorem tmod32 (b : BitVec 32) : (N b).tmod 32 = ((b.toNat % 32 : Nat) : Int) := by
  unfold N; rw [Int.tmod_eq_emod_of_nonneg (by omega)]; omega
theorem sign32 (a : BitVec 32) (k : Nat) : ((signS (a.setWidth 64) 32).sshiftRight k).setWidth 32 = a.sshiftRight k := by
  apply BitVec.eq_of_getLsbD_eq
  intro i hi
  rw [BitVec.getLsbD_setWidth, BitVec.getLsbD_sshiftRight, BitVec.getLsbD_sshiftRight]
  have hs : ∀ j, j < 64 → (signS (a.setWidth 64) 32).getLsbD j = if j < 32 then a.getLsbD j else a.getLsbD 31 := by
    intro j hj
    rw [sign_bit _ 32 j (by decide) hj, BitVec.getLsbD_setWidth, BitVec.getLsbD_setWidth]
    by_cases h : j < 32
    · have h' : (j : Int) < 32 := by omega
      simp only [h, h', if_true, hj, decide_true, Bool.true_and]
    · have h' : ¬ (j : Int) < 32 := by omega
      simp only [h, h', if_false]
      rfl
  rw [BitVec.msb_eq_getLsbD_last, BitVec.msb_eq_getLsbD_last, hs (64 - 1) (by decide)]
  have hi64 : ¬ 64 ≤ i := by omega
  have hi32 : ¬ 32 ≤ i := by omega
  simp only [hi, hi64, hi32, decide_true, decide_false, Bool.not_false, Bool.true_and]
  by_cases h1 : k + i < 64
  · rw [if_pos h1, hs _ h1]
  · rw [if_neg h1, if_neg (show ¬ k + i < 32 by omega)]
    rfl
theorem sext32 (v : BitVec 64) : v.signExtend 32 = v.setWidth 32 := by
  apply BitVec.eq_of_getLsbD_eq
  intro i hi
  rw [BitVec.getLsbD_signExtend, BitVec.getLsbD_setWidth]
  simp only [hi, decide_true, Bool.true_and, show i < 64 by omega, if_true]
theorem low_setWidth (v : BitVec 64) : (lowS v 32).setWidth 32 = v.setWidth 32 := by
  apply BitVec.eq_of_getLsbD_eq
  intro i hi
  rw [BitVec.getLsbD_setWidth, BitVec.getLsbD_setWidth, low_bit]
  have h' : (i : Int) < 32 := by omega
  simp only [h', decide_true, Bool.true_and]
theorem low64 (v : BitVec 64) : lowS v 64 = v := by unfold lowS; rw [if_neg (by decide), if_pos (by decide)]
theorem sign64 (v : BitVec 64) : signS v 64 = v := by unfold signS; rw [if_neg (by decide), if_pos (by decide)]
theorem low32 (v : BitVec 64) : lowS v 32 = (v.setWidth 32).setWidth 64 := by
  apply BitVec.eq_of_toNat_eq
  rw [low_toNat v 32 (by decide) (by decide)]
  simp
  omega
end Go.Proofs.YthhgfjnnconocaaGreatDoor
end
section
namespace Go.Proofs.YthhgfjnnconocaaGreatDoor
open Go.RowKit

attribute [local go_sem] u64_wrap u8_wrap BitVec.ofInt_add BitVec.ofInt_mul ofInt_sub' ofInt_N ofInt_Nw ofInt_Z ofInt_pow ofInt_shl wrap64_N mul_shl1 N_shr Z_shr u64_and u64_or N_div8 N_div16 N_div24 N_div32 N_div40 N_div48 N_div56

theorem ret64 {a b : BitVec 64} (h : a = b) : Ending.returned (.int .u64 (N a)) = .returned (.int .u64 (N b)) := by rw [h]
theorem ret0 {b : BitVec 64} (h : 0 = b) : Ending.returned (.int .u64 0) = .returned (.int .u64 (N b)) := by rw [← h]; rfl

set_option maxHeartbeats 400000 in
theorem low_N (v : BitVec 64) (b : Int) (w : World) (h1 : -9223372036854775808 ≤ b) (h2 : b ≤ 9223372036854775807) :
    Calls Tryz.prog 34 #[.int .u64 (N v), .int .i64 b] w fun e w' => e = .returned (.int .u64 (N (lowS v b))) ∧ w = w' := by
  go_enter Tryz.func34, Tryz.ntmps34
  go_wp2
  · go_ret
    exact ⟨ret0 (by unfold lowS; rw [if_pos ‹_›]), rfl⟩
  · go_ret
    exact ⟨ret64 (by unfold lowS; rw [if_neg (by omega), if_pos ‹_›]), rfl⟩
  · go_ret
    exact ⟨ret64 (by unfold lowS; rw [if_neg (by omega), if_neg (by omega)]), rfl⟩

set_option maxHeartbeats 400000 in
theorem sign_N (v : BitVec 64) (b : Int) (w : World) (h1 : -9223372036854775808 ≤ b) (h2 : b ≤ 9223372036854775807) :
    Calls Tryz.prog 38 #[.int .u64 (N v), .int .i64 b] w fun e w' => e = .returned (.int .u64 (N (signS v b))) ∧ w = w' := by
  go_enter Tryz.func38, Tryz.ntmps38
  go_wp2
  · go_ret
    exact ⟨ret0 (by unfold signS; rw [if_pos ‹_›]), rfl⟩
  · go_ret
    exact ⟨ret64 (by unfold signS; rw [if_neg (by omega), if_pos ‹_›]), rfl⟩
  · go_ret
    exact ⟨ret64 (by unfold signS; rw [if_neg (by omega), if_neg (by omega)]), rfl⟩

set_option maxHeartbeats 400000 in
theorem num_any (s : ByteArray) (w : World) (hs : s.size ≤ maxLen) :
    Calls Tryz.prog 43 #[.string s] w fun e w' => e = .returned (.int .u64 (N (numS s))) ∧ w = w' := by
  unfold maxLen at hs
  go_enter Tryz.func43, Tryz.ntmps43
  go_wp2
  all_goals
    go_loop [3, 8] (fun v i => ∃ k : Nat, k ≤ s.size ∧ k ≤ 8 ∧ i = .int .i64 k ∧ v = .int .u64 (N (numF (byteAt s) k))) (fun _ i => 8 - (intOf i).toNat)
    case atStart => exact ⟨0, by omega, by omega, rfl, rfl⟩
    case round =>
      obtain ⟨k, hk, hk8, rfl, rfl⟩ := hrel
      by_cases hlt : k < s.size ∧ k < 8
      · obtain ⟨ha, hb⟩ := hlt
        go_wp2
        go_round
        case rel => exact ⟨k + 1, by omega, by omega, by go_num, by rw [numF_succ, ← byteAt_get s k ha]⟩
        case measure => simp [intOf]; omega
      · go_wp2
        all_goals
          go_ret
          exact ⟨ret64 (numS_eq s k (by omega)), rfl⟩

end Go.Proofs.YthhgfjnnconocaaGreatDoor
end
section
namespace Go.Proofs.YthhgfjnnconocaaGreatDoor
open Go.RowKit

attribute [local go_sem] u64_wrap u32_wrap u8_wrap BitVec.ofInt_add BitVec.ofInt_mul ofInt_sub' BitVec.ofInt_neg ofInt_N ofInt_Nw ofInt_Z ofInt_pow ofInt_shl wrap64_N mul_shl1 N_shr Z_shr u64_and u64_or u64_xor u32_and u32_or u32_xor N_tdiv N_tmod tmod64 tmod32 sign64 sign32 sext32 low_setWidth

theorem ret32 {a b : BitVec 32} (h : a = b) : Ending.returned (.int .u32 (N a)) = .returned (.int .u32 (N b)) := by rw [h]

attribute [local go_sem] N_ofNat
set_option maxHeartbeats 400000 in
theorem quot64 (a b : BitVec 64) (w : World) : Calls Tryz.prog 65 #[.int .u64 (N a), .int .u64 (N b)] w fun e w' => e = .returned (.int .u64 (N (a / b))) ∧ w = w' := by
  by_cases h : N b = 0
  · have hb : b = 0#64 := N_inj (by rw [h]; rfl)
    subst hb
    clear h
    rw [show a / 0#64 = 0#64 by simp]
    go_enter Tryz.func65, Tryz.ntmps65
    go_wp2
    go_ret
    exact ⟨rfl, rfl⟩
  · have h' : (N b == 0) = false := by simpa using h
    go_enter Tryz.func65, Tryz.ntmps65
    go_wp2
    go_ret
    exact ⟨rfl, rfl⟩
set_option maxHeartbeats 400000 in
theorem rest64 (a b : BitVec 64) (w : World) : Calls Tryz.prog 66 #[.int .u64 (N a), .int .u64 (N b)] w fun e w' => e = .returned (.int .u64 (N (a % b))) ∧ w = w' := by
  by_cases h : N b = 0
  · have hb : b = 0#64 := N_inj (by rw [h]; rfl)
    subst hb
    clear h
    rw [show a % 0#64 = a by simp]
    go_enter Tryz.func66, Tryz.ntmps66
    go_wp2
    go_ret
    exact ⟨rfl, rfl⟩
  · have h' : (N b == 0) = false := by simpa using h
    go_enter Tryz.func66, Tryz.ntmps66
    go_wp2
    go_ret
    exact ⟨rfl, rfl⟩
set_option maxHeartbeats 400000 in
theorem quot32 (a b : BitVec 32) (w : World) : Calls Tryz.prog 67 #[.int .u32 (N a), .int .u32 (N b)] w fun e w' => e = .returned (.int .u32 (N (a / b))) ∧ w = w' := by
  by_cases h : N b = 0
  · have hb : b = 0#32 := N_inj (by rw [h]; rfl)
    subst hb
    clear h
    rw [show a / 0#32 = 0#32 by simp]
    go_enter Tryz.func67, Tryz.ntmps67
    go_wp2
    go_ret
    exact ⟨rfl, rfl⟩
  · have h' : (N b == 0) = false := by simpa using h
    go_enter Tryz.func67, Tryz.ntmps67
    go_wp2
    go_ret
    exact ⟨rfl, rfl⟩
set_option maxHeartbeats 400000 in
theorem rest32 (a b : BitVec 32) (w : World) : Calls Tryz.prog 68 #[.int .u32 (N a), .int .u32 (N b)] w fun e w' => e = .returned (.int .u32 (N (a % b))) ∧ w = w' := by
  by_cases h : N b = 0
  · have hb : b = 0#32 := N_inj (by rw [h]; rfl)
    subst hb
    clear h
    rw [show a % 0#32 = a by simp]
    go_enter Tryz.func68, Tryz.ntmps68
    go_wp2
    go_ret
    exact ⟨rfl, rfl⟩
  · have h' : (N b == 0) = false := by simpa using h
    go_enter Tryz.func68, Tryz.ntmps68
    go_wp2
    go_ret
    exact ⟨rfl, rfl⟩

set_option maxRecDepth 100000 in
set_option maxHeartbeats 4000000 in
theorem do64 (x : Int) (a b : BitVec 64) (w : World) : Calls Tryz.prog 32 #[.int .u8 x, .int .u64 (N a), .int .u64 (N b), .int .i64 64] w fun e w' => e = .returned (.int .u64 (N (aluW x a b))) ∧ Grown w w' := by
  have hm := tmod64 b
  obtain ⟨m, hmd⟩ : ∃ m, m = b.toNat % 64 := ⟨_, rfl⟩
  rw [← hmd] at hm
  have hml : m < 64 := by omega
  rcases alu_cases x with h | h | h | h | h | h | h | h | h | h | h | h | h | h
  case inr.inr.inr.inr.inr.inr.inr.inr.inr.inr.inl =>
    subst h
    have e : aluW 192 a b = a.sshiftRight m := by rw [hmd]; rfl
    rw [e]
    clear e hmd
    go_enter Tryz.func32, Tryz.ntmps32
    go_wp2
    go_quiet ((go_at_call 38; exact Calls.quiet_of_same ((sign_N _ _ _ (by decide) (by decide)).mono fun _ _ ⟨h1, h2⟩ => ⟨h1, h2.symm⟩)))
    go_wp2
    go_ret
    exact ⟨rfl, grown_drewN (Grown.refl _) _⟩
  case inr.inr.inr.inr.inr.inr.inr.inr.inr.inr.inr.inr.inr =>
    rw [aluW_none h]
    obtain ⟨h1, h2, h3, h4, h5, h6, h7, h8, h9, h10, h11, h12, h13⟩ := noOp_beq h
    clear h hm hmd hml
    go_enter Tryz.func32, Tryz.ntmps32
    go_wp2_with (first | (go_at_call 65; refine (quot64 _ _ _).mono ?_; rintro e w' ⟨rfl, rfl⟩) | (go_at_call 66; refine (rest64 _ _ _).mono ?_; rintro e w' ⟨rfl, rfl⟩))
    go_ret
    exact ⟨rfl, Grown.refl _⟩
  case inr.inr.inr.inr.inr.inr.inr.inr.inl =>
    subst h
    have e : aluW 96 a b = a <<< m := by rw [hmd]; rfl
    rw [e]
    clear e hmd
    go_enter Tryz.func32, Tryz.ntmps32
    go_wp2_with (first | (go_at_call 65; refine (quot64 _ _ _).mono ?_; rintro e w' ⟨rfl, rfl⟩) | (go_at_call 66; refine (rest64 _ _ _).mono ?_; rintro e w' ⟨rfl, rfl⟩))
    go_ret
    exact ⟨rfl, Grown.refl _⟩
  case inr.inr.inr.inr.inr.inr.inr.inr.inr.inl =>
    subst h
    have e : aluW 112 a b = a >>> m := by rw [hmd]; rfl
    rw [e]
    clear e hmd
    go_enter Tryz.func32, Tryz.ntmps32
    go_wp2_with (first | (go_at_call 65; refine (quot64 _ _ _).mono ?_; rintro e w' ⟨rfl, rfl⟩) | (go_at_call 66; refine (rest64 _ _ _).mono ?_; rintro e w' ⟨rfl, rfl⟩))
    go_ret
    exact ⟨rfl, Grown.refl _⟩
  all_goals
    subst h
    clear hm hmd hml
    go_enter Tryz.func32, Tryz.ntmps32
    go_wp2_with (first | (go_at_call 65; refine (quot64 _ _ _).mono ?_; rintro e w' ⟨rfl, rfl⟩) | (go_at_call 66; refine (rest64 _ _ _).mono ?_; rintro e w' ⟨rfl, rfl⟩))
    go_ret
    exact ⟨rfl, Grown.refl _⟩

set_option maxRecDepth 100000 in
set_option maxHeartbeats 4000000 in
theorem do32 (x : Int) (a b : BitVec 32) (w : World) : Calls Tryz.prog 33 #[.int .u8 x, .int .u32 (N a), .int .u32 (N b), .int .i64 32] w fun e w' => e = .returned (.int .u32 (N (aluW x a b))) ∧ Grown w w' := by
  have hm := tmod32 b
  obtain ⟨m, hmd⟩ : ∃ m, m = b.toNat % 32 := ⟨_, rfl⟩
  rw [← hmd] at hm
  have hml : m < 32 := by omega
  rcases alu_cases x with h | h | h | h | h | h | h | h | h | h | h | h | h | h
  case inr.inr.inr.inr.inr.inr.inr.inr.inr.inr.inl =>
    subst h
    have e : aluW 192 a b = a.sshiftRight m := by rw [hmd]; rfl
    rw [e]
    clear e hmd
    go_enter Tryz.func33, Tryz.ntmps33
    go_wp2
    go_quiet ((go_at_call 38; exact Calls.quiet_of_same ((sign_N _ _ _ (by decide) (by decide)).mono fun _ _ ⟨h1, h2⟩ => ⟨h1, h2.symm⟩)))
    go_wp2
    go_ret
    exact ⟨rfl, grown_drewN (Grown.refl _) _⟩
  case inr.inr.inr.inr.inr.inr.inr.inr.inr.inr.inr.inr.inr =>
    rw [aluW_none h]
    obtain ⟨h1, h2, h3, h4, h5, h6, h7, h8, h9, h10, h11, h12, h13⟩ := noOp_beq h
    clear h hm hmd hml
    go_enter Tryz.func33, Tryz.ntmps33
    go_wp2_with (first | (go_at_call 67; refine (quot32 _ _ _).mono ?_; rintro e w' ⟨rfl, rfl⟩) | (go_at_call 68; refine (rest32 _ _ _).mono ?_; rintro e w' ⟨rfl, rfl⟩))
    go_ret
    exact ⟨rfl, Grown.refl _⟩
  case inr.inr.inr.inr.inr.inr.inr.inr.inl =>
    subst h
    have e : aluW 96 a b = a <<< m := by rw [hmd]; rfl
    rw [e]
    clear e hmd
    go_enter Tryz.func33, Tryz.ntmps33
    go_wp2_with (first | (go_at_call 67; refine (quot32 _ _ _).mono ?_; rintro e w' ⟨rfl, rfl⟩) | (go_at_call 68; refine (rest32 _ _ _).mono ?_; rintro e w' ⟨rfl, rfl⟩))
    go_ret
    exact ⟨rfl, Grown.refl _⟩
  case inr.inr.inr.inr.inr.inr.inr.inr.inr.inl =>
    subst h
    have e : aluW 112 a b = a >>> m := by rw [hmd]; rfl
    rw [e]
    clear e hmd
    go_enter Tryz.func33, Tryz.ntmps33
    go_wp2_with (first | (go_at_call 67; refine (quot32 _ _ _).mono ?_; rintro e w' ⟨rfl, rfl⟩) | (go_at_call 68; refine (rest32 _ _ _).mono ?_; rintro e w' ⟨rfl, rfl⟩))
    go_ret
    exact ⟨rfl, Grown.refl _⟩
  all_goals
    subst h
    clear hm hmd hml
    go_enter Tryz.func33, Tryz.ntmps33
    go_wp2_with (first | (go_at_call 67; refine (quot32 _ _ _).mono ?_; rintro e w' ⟨rfl, rfl⟩) | (go_at_call 68; refine (rest32 _ _ _).mono ?_; rintro e w' ⟨rfl, rfl⟩))
    go_ret
    exact ⟨rfl, Grown.refl _⟩

set_option maxRecDepth 100000 in
set_option maxHeartbeats 1000000 in
theorem do_any (x : Int) (wide : Bool) (a b : BitVec 64) (w : World) :
    Calls Tryz.prog 10 #[.int .u8 x, .bool wide, .int .u64 (N a), .int .u64 (N b)] w fun e w' => e = .returned (.int .u64 (N (aluS x wide a b))) ∧ Grown w w' := by
  cases wide
  · go_enter Tryz.func10, Tryz.ntmps10
    go_wp2_with (first | (go_at_call 34; refine (low_N _ _ _ (by decide) (by decide)).mono ?_; rintro e w' ⟨rfl, rfl⟩) | (go_at_call 33; refine (do32 _ _ _ _).mono ?_; rintro e w' ⟨rfl, hg⟩))
    go_ret
    exact ⟨rfl, by assumption⟩
  · go_enter Tryz.func10, Tryz.ntmps10
    go_wp2_with (go_at_call 32; refine (do64 _ _ _ _).mono ?_; rintro e w' ⟨rfl, hg⟩)
    go_ret
    exact ⟨rfl, by assumption⟩
end Go.Proofs.YthhgfjnnconocaaGreatDoor
end
section
namespace Go.Proofs.YthhgfjnnconocaaGreatDoor
open Go.RowKit

/-- The table's first k entries. -/
def tabE (k : Nat) : Array MapEntry := ([⟨.int .u8 0, .agg #[.bool true, .bool true, .bool true, .bool false, .bool false], 0⟩, ⟨.int .u8 16, .agg #[.bool false, .bool true, .bool false, .bool false, .bool false], 1⟩, ⟨.int .u8 80, .agg #[.bool true, .bool false, .bool true, .bool false, .bool false], 2⟩, ⟨.int .u8 32, .agg #[.bool false, .bool false, .bool true, .bool false, .bool false], 3⟩, ⟨.int .u8 48, .agg #[.bool false, .bool true, .bool true, .bool false, .bool false], 4⟩, ⟨.int .u8 160, .agg #[.bool true, .bool false, .bool false, .bool false, .bool false], 5⟩, ⟨.int .u8 176, .agg #[.bool true, .bool true, .bool false, .bool false, .bool false], 6⟩, ⟨.int .u8 96, .agg #[.bool false, .bool false, .bool true, .bool false, .bool true], 7⟩, ⟨.int .u8 112, .agg #[.bool false, .bool true, .bool true, .bool false, .bool true], 8⟩, ⟨.int .u8 192, .agg #[.bool true, .bool false, .bool false, .bool false, .bool true], 9⟩, ⟨.int .u8 208, .agg #[.bool true, .bool true, .bool false, .bool false, .bool true], 10⟩, ⟨.int .u8 64, .agg #[.bool false, .bool false, .bool false, .bool true, .bool false], 11⟩].take k).toArray

attribute [local go_sem] u64_wrap u8_wrap

set_option maxRecDepth 100000 in
set_option maxHeartbeats 1000000 in
theorem table_any (w : World) : Calls Tryz.prog 35 #[] w fun e w' => e = .returned (.map (some w.heap.size)) ∧ w' = w.alloc (.map (tabE 12) 12) := by
  have hmm := @run_makeMap Tryz.prog
  have ez : (#[] : Array MapEntry) = tabE 0 := rfl
  have f0 := run_insert_new (P := Tryz.prog) Tryz.underlying95 Tryz.underlying5 w (tabE 0) 0 0 (.agg #[.bool true, .bool true, .bool true, .bool false, .bool false]) rfl
  rw [show (tabE 0).push ⟨.int .u8 0, .agg #[.bool true, .bool true, .bool true, .bool false, .bool false], 0⟩ = tabE 1 from rfl] at f0
  have f1 := run_insert_new (P := Tryz.prog) Tryz.underlying95 Tryz.underlying5 w (tabE 1) 1 16 (.agg #[.bool false, .bool true, .bool false, .bool false, .bool false]) rfl
  rw [show (tabE 1).push ⟨.int .u8 16, .agg #[.bool false, .bool true, .bool false, .bool false, .bool false], 1⟩ = tabE 2 from rfl] at f1
  have f2 := run_insert_new (P := Tryz.prog) Tryz.underlying95 Tryz.underlying5 w (tabE 2) 2 80 (.agg #[.bool true, .bool false, .bool true, .bool false, .bool false]) rfl
  rw [show (tabE 2).push ⟨.int .u8 80, .agg #[.bool true, .bool false, .bool true, .bool false, .bool false], 2⟩ = tabE 3 from rfl] at f2
  have f3 := run_insert_new (P := Tryz.prog) Tryz.underlying95 Tryz.underlying5 w (tabE 3) 3 32 (.agg #[.bool false, .bool false, .bool true, .bool false, .bool false]) rfl
  rw [show (tabE 3).push ⟨.int .u8 32, .agg #[.bool false, .bool false, .bool true, .bool false, .bool false], 3⟩ = tabE 4 from rfl] at f3
  have f4 := run_insert_new (P := Tryz.prog) Tryz.underlying95 Tryz.underlying5 w (tabE 4) 4 48 (.agg #[.bool false, .bool true, .bool true, .bool false, .bool false]) rfl
  rw [show (tabE 4).push ⟨.int .u8 48, .agg #[.bool false, .bool true, .bool true, .bool false, .bool false], 4⟩ = tabE 5 from rfl] at f4
  have f5 := run_insert_new (P := Tryz.prog) Tryz.underlying95 Tryz.underlying5 w (tabE 5) 5 160 (.agg #[.bool true, .bool false, .bool false, .bool false, .bool false]) rfl
  rw [show (tabE 5).push ⟨.int .u8 160, .agg #[.bool true, .bool false, .bool false, .bool false, .bool false], 5⟩ = tabE 6 from rfl] at f5
  have f6 := run_insert_new (P := Tryz.prog) Tryz.underlying95 Tryz.underlying5 w (tabE 6) 6 176 (.agg #[.bool true, .bool true, .bool false, .bool false, .bool false]) rfl
  rw [show (tabE 6).push ⟨.int .u8 176, .agg #[.bool true, .bool true, .bool false, .bool false, .bool false], 6⟩ = tabE 7 from rfl] at f6
  have f7 := run_insert_new (P := Tryz.prog) Tryz.underlying95 Tryz.underlying5 w (tabE 7) 7 96 (.agg #[.bool false, .bool false, .bool true, .bool false, .bool true]) rfl
  rw [show (tabE 7).push ⟨.int .u8 96, .agg #[.bool false, .bool false, .bool true, .bool false, .bool true], 7⟩ = tabE 8 from rfl] at f7
  have f8 := run_insert_new (P := Tryz.prog) Tryz.underlying95 Tryz.underlying5 w (tabE 8) 8 112 (.agg #[.bool false, .bool true, .bool true, .bool false, .bool true]) rfl
  rw [show (tabE 8).push ⟨.int .u8 112, .agg #[.bool false, .bool true, .bool true, .bool false, .bool true], 8⟩ = tabE 9 from rfl] at f8
  have f9 := run_insert_new (P := Tryz.prog) Tryz.underlying95 Tryz.underlying5 w (tabE 9) 9 192 (.agg #[.bool true, .bool false, .bool false, .bool false, .bool true]) rfl
  rw [show (tabE 9).push ⟨.int .u8 192, .agg #[.bool true, .bool false, .bool false, .bool false, .bool true], 9⟩ = tabE 10 from rfl] at f9
  have f10 := run_insert_new (P := Tryz.prog) Tryz.underlying95 Tryz.underlying5 w (tabE 10) 10 208 (.agg #[.bool true, .bool true, .bool false, .bool false, .bool true]) rfl
  rw [show (tabE 10).push ⟨.int .u8 208, .agg #[.bool true, .bool true, .bool false, .bool false, .bool true], 10⟩ = tabE 11 from rfl] at f10
  have f11 := run_insert_new (P := Tryz.prog) Tryz.underlying95 Tryz.underlying5 w (tabE 11) 11 64 (.agg #[.bool false, .bool false, .bool false, .bool true, .bool false]) rfl
  rw [show (tabE 11).push ⟨.int .u8 64, .agg #[.bool false, .bool false, .bool false, .bool true, .bool false], 11⟩ = tabE 12 from rfl] at f11
  go_enter Tryz.func35, Tryz.ntmps35
  go_wp2
  go_ret
  exact ⟨rfl, rfl⟩
end Go.Proofs.YthhgfjnnconocaaGreatDoor
end
section
namespace Go.Proofs.YthhgfjnnconocaaGreatDoor
open Go.RowKit

attribute [local go_sem] u64_wrap u8_wrap wrap64_N ofInt_N u64_and

def cmpI (x y : Int) : Int := if x < y then -1 else if y < x then 1 else 0

set_option maxHeartbeats 400000 in
theorem cmp_u64 (x y : Int) (w : World) : Calls Tryz.prog 36 #[.int .u64 x, .int .u64 y] w fun e w' => e = .returned (.int .i64 (cmpI x y)) ∧ w = w' := by
  have n1 : (x != x) = false := by simp
  have n2 : (y != y) = false := by simp
  unfold cmpI
  by_cases h : x < y
  · rw [if_pos h]
    go_enter Tryz.func36, Tryz.ntmps36
    go_wp2
    go_ret
    exact ⟨rfl, rfl⟩
  · rw [if_neg h]
    by_cases h2 : y < x
    · rw [if_pos h2]
      go_enter Tryz.func36, Tryz.ntmps36
      go_wp2
      go_ret
      exact ⟨rfl, rfl⟩
    · rw [if_neg h2]
      go_enter Tryz.func36, Tryz.ntmps36
      go_wp2
      go_ret
      exact ⟨rfl, rfl⟩

set_option maxHeartbeats 400000 in
theorem cmp_i64 (x y : Int) (w : World) : Calls Tryz.prog 37 #[.int .i64 x, .int .i64 y] w fun e w' => e = .returned (.int .i64 (cmpI x y)) ∧ w = w' := by
  have n1 : (x != x) = false := by simp
  have n2 : (y != y) = false := by simp
  unfold cmpI
  by_cases h : x < y
  · rw [if_pos h]
    go_enter Tryz.func37, Tryz.ntmps37
    go_wp2
    go_ret
    exact ⟨rfl, rfl⟩
  · rw [if_neg h]
    by_cases h2 : y < x
    · rw [if_pos h2]
      go_enter Tryz.func37, Tryz.ntmps37
      go_wp2
      go_ret
      exact ⟨rfl, rfl⟩
    · rw [if_neg h2]
      go_enter Tryz.func37, Tryz.ntmps37
      go_wp2
      go_ret
      exact ⟨rfl, rfl⟩

/-- The numbers that a condition asks of: the lowest bits. -/
def bitsI (wide : Bool) : Int := if wide then 64 else 32
/-- Whether a condition holds; x: which one; u: how two numbers lie to each other; g: how they do with their sign; t: whether a bit is set in both. -/
def condO (x u g : Int) (t : Bool) : Bool :=
  if x = 0 then true else if x = 16 then decide (u = 0) else if x = 80 then !decide (u = 0) else if x = 32 then decide (0 < u) else if x = 48 then decide (0 ≤ u)
  else if x = 160 then decide (u < 0) else if x = 176 then decide (u ≤ 0) else if x = 96 then decide (0 < g) else if x = 112 then decide (0 ≤ g)
  else if x = 192 then decide (g < 0) else if x = 208 then decide (g ≤ 0) else if x = 64 then t else false
def uO (wide : Bool) (a b : BitVec 64) : Int := cmpI (N (lowS a (bitsI wide))) (N (lowS b (bitsI wide)))
def gO (wide : Bool) (a b : BitVec 64) : Int := cmpI (Z (signS (lowS a (bitsI wide)) (bitsI wide))) (Z (signS (lowS b (bitsI wide)) (bitsI wide)))
def tO (wide : Bool) (a b : BitVec 64) : Bool := !(lowS a (bitsI wide) &&& lowS b (bitsI wide) == 0#64)
def condS (x : Int) (wide : Bool) (a b : BitVec 64) : Bool := condO x (uO wide a b) (gO wide a b) (tO wide a b)

theorem cmpI_three (x y : Int) : cmpI x y = -1 ∨ cmpI x y = 0 ∨ cmpI x y = 1 := by
  unfold cmpI
  split
  · left; rfl
  · split
    · right; right; rfl
    · right; left; rfl
/-- No condition at all. -/
def NoCond (x : Int) : Prop := ¬ x = 0 ∧ ¬ x = 16 ∧ ¬ x = 80 ∧ ¬ x = 32 ∧ ¬ x = 48 ∧ ¬ x = 160 ∧ ¬ x = 176 ∧ ¬ x = 96 ∧ ¬ x = 112 ∧ ¬ x = 192 ∧ ¬ x = 208 ∧ ¬ x = 64
theorem cond_cases (x : Int) : x = 0 ∨ x = 16 ∨ x = 80 ∨ x = 32 ∨ x = 48 ∨ x = 160 ∨ x = 176 ∨ x = 96 ∨ x = 112 ∨ x = 192 ∨ x = 208 ∨ x = 64 ∨ NoCond x := by
  unfold NoCond; omega
theorem condO_none {x : Int} (h : NoCond x) (u g : Int) (t : Bool) : condO x u g t = false := by
  obtain ⟨h1, h2, h3, h4, h5, h6, h7, h8, h9, h10, h11, h12⟩ := h
  unfold condO
  rw [if_neg h1, if_neg h2, if_neg h3, if_neg h4, if_neg h5, if_neg h6, if_neg h7, if_neg h8, if_neg h9, if_neg h10, if_neg h11, if_neg h12]
theorem find_none {x : Int} (h : NoCond x) : Instr.findNow (.int .u8) (.int .u8 x) (tabE 12).toList 0 = some none := by
  obtain ⟨h1, h2, h3, h4, h5, h6, h7, h8, h9, h10, h11, h12⟩ := h
  replace h1 := beq_eq_false_iff_ne.2 h1
  replace h2 := beq_eq_false_iff_ne.2 h2
  replace h3 := beq_eq_false_iff_ne.2 h3
  replace h4 := beq_eq_false_iff_ne.2 h4
  replace h5 := beq_eq_false_iff_ne.2 h5
  replace h6 := beq_eq_false_iff_ne.2 h6
  replace h7 := beq_eq_false_iff_ne.2 h7
  replace h8 := beq_eq_false_iff_ne.2 h8
  replace h9 := beq_eq_false_iff_ne.2 h9
  replace h10 := beq_eq_false_iff_ne.2 h10
  replace h11 := beq_eq_false_iff_ne.2 h11
  replace h12 := beq_eq_false_iff_ne.2 h12
  simp [tabE, Instr.findNow, Instr.sameNow, h1, h2, h3, h4, h5, h6, h7, h8, h9, h10, h11, h12]
theorem N_and_beq (a b : BitVec 64) : (N (a &&& b) == 0) = (a &&& b == 0#64) := by
  have : (0 : Int) = N 0#64 := rfl
  rw [this, N_beq]
end Go.Proofs.YthhgfjnnconocaaGreatDoor
end
section
namespace Go.Proofs.YthhgfjnnconocaaGreatDoor.Ex
open Go Go.RowKit
set_option linter.unusedVariables false
/-- A call of such arguments in such a memory comes to a flat value, and writes nothing that was there. -/
structure CallW where
  f : FuncId
  args : List Value
  h : List AO
  v : (Nat → Int) → Value
  cond : (Nat → Int) → Cs
def matchC (e : CallW) (f : FuncId) (args : List Value) (h : List AO) : Option Bs :=
  if Nat.beq f e.f && Nat.beq h.length e.h.length then
    match matchL (matchW 4) e.args args with
    | some a =>
      match matchG e.h h with
      | some b => if freshB (a ++ b) then some (a ++ b) else none
      | none => none
    | none => none
  else none
def callWHook : List CallW → Hook
  | [] => fun _ _ _ => none
  | e :: l => fun f args h =>
    match matchC e f args h with
    | some bs => some (e.v (lookB bs), e.cond (lookB bs))
    | none => callWHook l f args h
def CallAt (P : Program) (f : FuncId) (args : List Value) (h : List AO) (v : Value) : Prop :=
  ∀ (wb : World) (k : Nat) (s : Ren) (w : World) (args' : List Value), HR wb k s h w → LR s args args' → Calls P f ⟨args'⟩ w fun e w' => e = .returned v ∧ Gr w w'
def CallWOk (P : Program) (e : CallW) : Prop := ∀ ρ : Nat → Int, (∀ c ∈ e.cond ρ, c.1 = c.2) → CallAt P e.f (e.args.map (inst ρ 4)) (e.h.map (instO ρ)) (e.v ρ)
theorem callWHook_ok {P : Program} : ∀ {l : List CallW}, (∀ e ∈ l, CallWOk P e) → HookOk2 P (callWHook l)
  | [], _ => by intro f args h v cs hv; cases hv
  | q :: l, hq => by
    intro f args h v cs hv hc wb k s w args' H ha
    unfold callWHook at hv
    split at hv
    · rename_i bs hbs
      cases hv
      unfold matchC at hbs
      split at hbs
      · rename_i hcond
        simp only [Bool.and_eq_true] at hcond
        obtain rfl := Nat.eq_of_beq_eq_true hcond.1
        split at hbs
        · rename_i a1 ha1
          split at hbs
          · rename_i b1 hb1
            split at hbs
            · rename_i hfr
              cases hbs
              have lk := lookB_ok hfr
              have e1 := matchL_ok (matchW_ok 4) ha1 fun b hb => lk b (List.mem_append_left _ hb)
              have e2 := matchG_ok hb1 fun b hb => lk b (List.mem_append_right _ hb)
              exact hq q List.mem_cons_self (lookB (a1 ++ b1)) hc wb k s w args' (by rw [e2]; exact H) (by rw [e1]; exact ha)
            · cases hbs
          · cases hbs
        · cases hbs
      · cases hbs
    · exact callWHook_ok (fun e he => hq e (List.mem_cons_of_mem _ he)) f args h v cs hv hc wb k s w args' H ha
noncomputable def callRun (P : Program) (hk : Hook3) (orc : Orc) (lh : LoopHook) (L f : Nat) (h : List AO) (g : FuncId) (args : List Value) : Option (Value × List Int) :=
  match callA P ⟨exG P (aOp P) (drawE P) hk orc accQ lh L f, hk, fun _ _ => none, accQ⟩ g args h with
  | some (v, _, m) => if flat v && quietB h.length m.1 then some (v, inter m.2) else none
  | none => none
theorem callR_ok {P : Program} (hng : NoNG P) {hk : Hook3} (hhk : HookOk3 P hk) {lh : LoopHook} (hll : LoopLow lh) (hlo : LoopsOk P lh) (orc : Orc) (L f : Nat) {h : List AO} {g : FuncId} {args : List Value} {v : Value} {cs : Cs} (hr : callRun P hk orc lh L f h g args = some (v, inter cs))
    (he : ∀ c ∈ cs, c.1 = c.2) : CallAt P g args h v := by
  intro wb k s w args' H ha
  unfold callRun at hr
  split at hr
  · rename_i v' h' m hc
    split at hr
    · rename_i hq
      simp only [Option.some.injEq, Prod.mk.injEq] at hr
      obtain ⟨rfl, h2⟩ := hr
      have h3 := inter_inj h2
      simp only [Bool.and_eq_true] at hq
      refine (callA_ok (exG_ok accQ_eq hng (aOp_ok P hng) (drawE_ok P) (drawE_low P) hhk hll hlo L f _) hc (wb := w) (k := h.length) (s := s) ⟨quietB_ok hq.2, by rw [h3]; exact he⟩ ha H.here).mono ?_
      rintro e w' ⟨s', u, rfl, _, H', hvr⟩
      rw [hvr.eq_of_flat hq.1]
      exact ⟨rfl, H'.grown⟩
    · cases hr
  · cases hr
end Go.Proofs.YthhgfjnnconocaaGreatDoor.Ex
end
