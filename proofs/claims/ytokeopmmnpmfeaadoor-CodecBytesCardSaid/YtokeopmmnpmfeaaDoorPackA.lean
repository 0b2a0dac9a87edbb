/-
  Lemmas for the laws of this seat, part A: Bv, Grown, Ex1, Ex2, Ex3, Ex4, Ex5, Ex6, Ex5b, Ex3b, Ex3c, Ex3d, Ex3e, Ex3f, Ex3g.
-/
import Derived.WalkKit
import Derived.WalkSpells
import Derived.WalkLawsBesides
import Derived.Handy
import Derived.StillTail
import Derived.Laws.IdiomCopy
import Derived.Laws.IdiomStrings
import Derived.LoopN
import Derived.Scope
import Derived.Laws.StructEq
import Derived.ChangeKeysEq
import Derived.Laws.BytesString
import Derived.MapKept
section
namespace Go.Proofs.YtokeopmmnpmfeaaDoor
set_option maxRecDepth 20000

open Go.RowKit

def N {w : Nat} (v : BitVec w) : Int := (v.toNat : Int)
def Z {w : Nat} (v : BitVec w) : Int := v.toInt

theorem N_nonneg {w : Nat} (v : BitVec w) : 0 ≤ N v := by unfold N; omega
theorem ofInt_N {w : Nat} (v : BitVec w) : BitVec.ofInt w (N v) = v := by
  unfold N; rw [BitVec.ofInt_natCast]; simp
/-! Wraps. -/
theorem N_ofInt_mod (w : Nat) (x : Int) : N (BitVec.ofInt w x) = x % (2 ^ w : Nat) := by
  unfold N
  rw [BitVec.toNat_ofInt]
  have : (0 : Int) ≤ x % (2 ^ w : Nat) := Int.emod_nonneg _ (by have := Nat.two_pow_pos w; omega)
  omega
theorem u64_wrap (x : Int) : IntKind.u64.wrap x = N (BitVec.ofInt 64 x) := by
  rw [N_ofInt_mod]; simp [IntKind.wrap, IntKind.bits, IntKind.signed]
theorem u8_wrap (x : Int) : IntKind.u8.wrap x = N (BitVec.ofInt 8 x) := by
  rw [N_ofInt_mod]; simp [IntKind.wrap, IntKind.bits, IntKind.signed]
theorem ofInt_sub' (w : Nat) (x y : Int) : BitVec.ofInt w (x - y) = BitVec.ofInt w x - BitVec.ofInt w y := by
  apply BitVec.eq_of_toInt_eq
  rw [BitVec.toInt_sub, BitVec.toInt_ofInt, BitVec.toInt_ofInt, BitVec.toInt_ofInt, Int.bmod_sub_bmod, Int.sub_bmod_bmod]
theorem ofInt_Nw (w : Nat) {k : Nat} (v : BitVec k) : BitVec.ofInt w (N v) = v.setWidth w := by
  unfold N; rw [BitVec.ofInt_natCast]; simp
theorem ofInt_Z (w : Nat) {k : Nat} (v : BitVec k) : BitVec.ofInt w (Z v) = v.signExtend w := rfl
theorem wrap64_N (v : BitVec 64) : wrap64 (N v) = Z v := by
  unfold wrap64 N Z
  have := v.isLt
  rw [BitVec.toInt_eq_toNat_cond]
  split <;> omega
/-! Bits. -/
theorem u64_and (x y : Int) : bits .and .u64 x y = N (BitVec.ofInt 64 x &&& BitVec.ofInt 64 y) := by
  show IntKind.u64.wrap (((BitVec.ofInt 64 x &&& BitVec.ofInt 64 y).toNat : Nat) : Int) = _
  rw [u64_wrap, BitVec.ofInt_natCast, BitVec.ofNat_toNat, BitVec.setWidth_eq]
theorem u64_or (x y : Int) : bits .or .u64 x y = N (BitVec.ofInt 64 x ||| BitVec.ofInt 64 y) := by
  show IntKind.u64.wrap (((BitVec.ofInt 64 x ||| BitVec.ofInt 64 y).toNat : Nat) : Int) = _
  rw [u64_wrap, BitVec.ofInt_natCast, BitVec.ofNat_toNat, BitVec.setWidth_eq]
/-! Quotients and shifts. -/
theorem N_shr {w : Nat} (a : BitVec w) (n : Nat) : N a / 2 ^ n = N (a >>> n) := by
  unfold N; rw [BitVec.toNat_ushiftRight, Nat.shiftRight_eq_div_pow]; simp
theorem Z_shr {w : Nat} (a : BitVec w) (n : Nat) : Z a / 2 ^ n = Z (a.sshiftRight n) := by
  unfold Z; rw [BitVec.toInt_sshiftRight, Int.shiftRight_eq_div_pow]; simp
theorem ofInt_shl (w : Nat) (x : Int) (n : Nat) : BitVec.ofInt w (x * 2 ^ n) = BitVec.ofInt w x <<< n := by
  rw [BitVec.ofInt_mul, BitVec.shiftLeft_eq_mul_twoPow]
  congr 1
  have : (2 : Int) ^ n = ((2 ^ n : Nat) : Int) := by simp
  rw [this, BitVec.ofInt_natCast]
  apply BitVec.eq_of_toNat_eq; simp
theorem ofInt_pow (w : Nat) (n : Nat) : BitVec.ofInt w (2 ^ n) = 1#w <<< n := by
  have := ofInt_shl w 1 n
  rw [Int.one_mul] at this; rw [this]; congr 1
theorem mul_shl1 {w : Nat} (v : BitVec w) (n : Nat) : v * 1#w <<< n = v <<< n := by
  rw [BitVec.shiftLeft_eq_mul_twoPow, BitVec.shiftLeft_eq_mul_twoPow]
  rw [BitVec.one_mul]
theorem N_div8 {w : Nat} (v : BitVec w) : N v / (256 : Int) = N (v >>> 8) := N_shr v 8
theorem N_div16 {w : Nat} (v : BitVec w) : N v / (65536 : Int) = N (v >>> 16) := N_shr v 16
theorem N_div24 {w : Nat} (v : BitVec w) : N v / (16777216 : Int) = N (v >>> 24) := N_shr v 24
theorem N_div32 {w : Nat} (v : BitVec w) : N v / (4294967296 : Int) = N (v >>> 32) := N_shr v 32
theorem N_div40 {w : Nat} (v : BitVec w) : N v / (1099511627776 : Int) = N (v >>> 40) := N_shr v 40
theorem N_div48 {w : Nat} (v : BitVec w) : N v / (281474976710656 : Int) = N (v >>> 48) := N_shr v 48
theorem N_div56 {w : Nat} (v : BitVec w) : N v / (72057594037927936 : Int) = N (v >>> 56) := N_shr v 56
end Go.Proofs.YtokeopmmnpmfeaaDoor
end
section
namespace Go.Proofs.YtokeopmmnpmfeaaDoor
set_option maxRecDepth 20000

open Go.RowKit

theorem Grown.trans' {a b c : World} (h1 : Grown a b) (h2 : Grown b c) : Grown a c := by
  exact ⟨World.keptBut_trans h1.1 h2.1, fun x => (h2.2.1 x).trans (h1.2.1 x), Nat.le_trans h1.2.2 h2.2.2⟩
theorem grown_block {W W' : World} (h : Grown W W') {b : Nat} (hb : b < W.heap.size) : W'.heap[b]? = W.heap[b]? := by
  have h1 := h.1.2.2 b hb
  have h2 : b < W'.heap.size := Nat.lt_of_lt_of_le hb h.2.2
  have e1 : W.heap[b]? = some W.heap[b] := Array.getElem?_eq_getElem hb
  have e2 : W'.heap[b]? = some W'.heap[b] := Array.getElem?_eq_getElem h2
  rw [e1, e2] at h1 ⊢
  generalize W.heap[b] = o at *
  generalize W'.heap[b] = o' at *
  cases o <;> cases o' <;> simp_all
  case cells.cells =>
    obtain ⟨rfl, rfl, h5, h6⟩ := h1
    apply Array.ext_getElem?
    exact h6
theorem grown_cell {W W' : World} (h : Grown W W') {a : Addr} (hb : a.block < W.heap.size) : W'.cell? a = W.cell? a := by
  unfold World.cell?
  rw [grown_block h hb]
theorem grown_cellAt {W W' : World} (h : Grown W W') {a : Addr} {v : Value} (hb : a.block < W.heap.size) (hc : W.cell? a = some v) : W'.cell? a = some v := by
  rw [grown_cell h hb]; exact hc
end Go.Proofs.YtokeopmmnpmfeaaDoor
end
section
namespace Go.Proofs.YtokeopmmnpmfeaaDoor.Ex
set_option maxRecDepth 20000

open Go Go.RowKit

/-- New blocks behind, and draws: of what was there nothing turns. -/
def Gr (W w : World) : Prop := (w.os = W.os ∧ w.output = W.output) ∧ (∀ k, k < W.heap.size → w.heap[k]? = W.heap[k]?) ∧ W.heap.size ≤ w.heap.size
theorem Gr.refl (w : World) : Gr w w := ⟨⟨rfl, rfl⟩, fun _ _ => rfl, Nat.le_refl _⟩
theorem Gr.trans' {a b c : World} (h : Gr a b) (g : Gr b c) : Gr a c :=
  ⟨⟨g.1.1.trans h.1.1, g.1.2.trans h.1.2⟩, fun k hk => (g.2.1 k (Nat.lt_of_lt_of_le hk h.2.2)).trans (h.2.1 k hk), Nat.le_trans h.2.2 g.2.2⟩
theorem Gr.drew {a b : World} (h : Gr a b) : Gr a b.drew := h
theorem Gr.allocO {a b : World} (h : Gr a b) (o : Obj) : Gr a (b.alloc o) :=
  ⟨h.1, fun k hk => (Below.heap_alloc b o k (Nat.lt_of_lt_of_le hk h.2.2)).trans (h.2.1 k hk), Nat.le_trans h.2.2 (by simp)⟩
theorem Gr.alloc {a b : World} (h : Gr a b) (cs : Array Value) (T : TypeId) : Gr a (b.alloc (.cells cs T)) := h.allocO _
theorem Gr.setCell {a b : World} (h : Gr a b) {p : Addr} (hp : a.heap.size ≤ p.block) (v : Value) : Gr a (b.setCell p v) :=
  ⟨h.1, fun k hk => (Below.heap_setCell b p v k (by omega)).trans (h.2.1 k hk), by simpa [World.setCell] using h.2.2⟩
theorem gr_cell {W w : World} (g : Gr W w) {a : Addr} (hb : a.block < W.heap.size) : w.cell? a = W.cell? a := World.cell?_of_block (w := W) (g.2.1 _ hb)
theorem gr_frozen {W w : World} (g : Gr W w) {a : Addr} (hb : a.block < W.heap.size) : w.frozen? a = W.frozen? a := World.frozen?_of_block (w := W) (g.2.1 _ hb)
theorem gr_shape {W w : World} (g : Gr W w) {b : Nat} (hb : b < W.heap.size) {x : Option (TypeId × Nat)} (h : W.shape? b = x) : w.shape? b = x := by
  rw [← h]; unfold World.shape?; rw [g.2.1 b hb]
theorem Gr.of_grown {W w : World} (h : Grown W w) : Gr W w := ⟨⟨h.1.1, h.1.2.1⟩, fun _ hk => grown_block h hk, h.2.2⟩

/-! Values that hold no address. -/
def scal : Value → Bool
  | .bool _ => true
  | .int _ _ => true
  | .float _ _ => true
  | .complex _ _ _ => true
  | .string _ => true
  | .pointer none => true
  | .slice none _ _ => true
  | .map none => true
  | .chan none => true
  | .nilFunc => true
  | .nilIface => true
  | .func (.func _) a b => a.toList.isEmpty && b.toList.isEmpty
  | _ => false
def flat1 : Value → Bool
  | .agg cs => cs.toList.all scal
  | v => scal v
def flat : Value → Bool
  | .tuple vs => vs.toList.all flat1
  | .iface _ v => flat1 v
  | v => flat1 v
theorem flat1_of_scal {v : Value} (h : scal v = true) : flat1 v = true := by
  cases v <;> first | exact h | simp [scal] at h
theorem flat_of_flat1 {v : Value} (h : flat1 v = true) : flat v = true := by
  cases v <;> first | exact h | simp [flat1, scal] at h
theorem flat_of_scal {v : Value} (h : scal v = true) : flat v = true := flat_of_flat1 (flat1_of_scal h)

/-! Where a reckoned block lies: its block, its first cell there, how many cells that block has; and of which size the elements are of slices of it whose capacity is not known. -/
structure Pl where
  blk : Nat
  off : Nat
  tot : Nat
  es : Option Nat
abbrev Ren := Nat → Option Pl
def Le (s t : Ren) : Prop := ∀ i p, s i = some p → t i = some p
theorem Le.refl (s : Ren) : Le s s := fun _ _ h => h
theorem Le.trans {a b c : Ren} (h1 : Le a b) (h2 : Le b c) : Le a c := fun i p h => h2 i p (h1 i p h)

def CapOk (p : Pl) (off l c c' : Nat) : Prop :=
  match p.es with
  | none => c' = c
  | some e => 0 < e ∧ p.off + off + c' * e = p.tot ∧ l ≤ c'

inductive VR (s : Ren) : Value → Value → Prop
  | same {v : Value} (h : flat v = true) : VR s v v
  | ptr {a : Addr} {p : Pl} (hs : a.spot = none) (hp : s a.block = some p) : VR s (.pointer (some a)) (.pointer (some ⟨p.blk, p.off + a.off, none⟩))
  | slice {a : Addr} {l c c' : Nat} {p : Pl} (hs : a.spot = none) (hp : s a.block = some p) (hc : CapOk p a.off l c c') :
      VR s (.slice (some a) l c) (.slice (some ⟨p.blk, p.off + a.off, none⟩) l c')
  | agg {xs ys : List Value} (hl : xs.length = ys.length) (h : ∀ (i : Nat) (x y : Value), xs[i]? = some x → ys[i]? = some y → VR s x y) : VR s (.agg ⟨xs⟩) (.agg ⟨ys⟩)
  | tuple {xs ys : List Value} (hl : xs.length = ys.length) (h : ∀ (i : Nat) (x y : Value), xs[i]? = some x → ys[i]? = some y → VR s x y) : VR s (.tuple ⟨xs⟩) (.tuple ⟨ys⟩)
  | func {f : FuncId} {xs ys us vs : List Value} (hl : xs.length = ys.length) (h : ∀ (i : Nat) (x y : Value), xs[i]? = some x → ys[i]? = some y → VR s x y)
      (hl' : us.length = vs.length) (h' : ∀ (i : Nat) (x y : Value), us[i]? = some x → vs[i]? = some y → VR s x y) : VR s (.func (.func f) ⟨xs⟩ ⟨us⟩) (.func (.func f) ⟨ys⟩ ⟨vs⟩)
  | iface {t : TypeId} {x y : Value} (h : VR s x y) : VR s (.iface t x) (.iface t y)
  | map {i : Nat} {p : Pl} (hp : s i = some p) : VR s (.map (some i)) (.map (some p.blk))

def LR (s : Ren) (xs ys : List Value) : Prop := xs.length = ys.length ∧ ∀ (i : Nat) (x y : Value), xs[i]? = some x → ys[i]? = some y → VR s x y

theorem list_eq {xs ys : List Value} (hl : xs.length = ys.length) (h : ∀ (i : Nat) (x y : Value), xs[i]? = some x → ys[i]? = some y → y = x) : ys = xs := by
  apply List.ext_getElem hl.symm
  intro i h1 h2
  exact h i _ _ (List.getElem?_eq_getElem h2) (List.getElem?_eq_getElem h1)
theorem all_get {p : Value → Bool} {xs : List Value} (h : xs.all p = true) {i : Nat} {x : Value} (hx : xs[i]? = some x) : p x = true :=
  List.all_eq_true.1 h x (List.mem_of_getElem? hx)

theorem VR.eq_of_flat {s : Ren} {v v' : Value} (h : VR s v v') : flat v = true → v' = v := by
  induction h with
  | same _ => exact fun _ => rfl
  | ptr _ _ => intro h; simp [Ex.flat, flat1, scal] at h
  | slice _ _ _ => intro h; simp [Ex.flat, flat1, scal] at h
  | agg hl _ ih =>
    intro h
    rw [list_eq hl fun i x y hx hy => ih i x y hx hy (flat_of_scal (all_get (by simpa [Ex.flat, flat1] using h) hx))]
  | tuple hl _ ih =>
    intro h
    rw [list_eq hl fun i x y hx hy => ih i x y hx hy (flat_of_flat1 (all_get (by simpa [Ex.flat] using h) hx))]
  | func hl _ hl' _ _ _ =>
    intro h
    simp [Ex.flat, flat1, scal] at h
    obtain ⟨rfl, rfl⟩ := h
    rw [List.length_eq_zero_iff.1 hl.symm, List.length_eq_zero_iff.1 hl'.symm]
  | iface _ ih => 
    intro h
    rw [ih (flat_of_flat1 (by simpa [Ex.flat] using h))]
  | map _ => intro h; simp [Ex.flat, flat1, scal] at h

theorem VR.mono {s t : Ren} (hle : Le s t) {v v' : Value} (h : VR s v v') : VR t v v' := by
  induction h with
  | same h => exact .same h
  | ptr hs hp => exact .ptr hs (hle _ _ hp)
  | slice hs hp hc => exact .slice hs (hle _ _ hp) hc
  | agg hl _ ih => exact .agg hl ih
  | tuple hl _ ih => exact .tuple hl ih
  | func hl _ hl' _ ih ih' => exact .func hl ih hl' ih'
  | iface _ ih => exact .iface ih
  | map hp => exact .map (hle _ _ hp)
theorem LR.mono {s t : Ren} (hle : Le s t) {xs ys : List Value} (h : LR s xs ys) : LR t xs ys := ⟨h.1, fun i x y hx hy => (h.2 i x y hx hy).mono hle⟩

theorem LR.nil (s : Ren) : LR s [] [] := ⟨rfl, fun _ _ _ h => by simp at h⟩
theorem LR.cons {s : Ren} {x y : Value} {xs ys : List Value} (h : VR s x y) (hs : LR s xs ys) : LR s (x :: xs) (y :: ys) := by
  refine ⟨by simp [hs.1], fun i a b ha hb => ?_⟩
  cases i with
  | zero => simp at ha hb; subst ha hb; exact h
  | succ i => exact hs.2 i a b (by simpa using ha) (by simpa using hb)
theorem LR.get {s : Ren} {xs ys : List Value} (h : LR s xs ys) {i : Nat} {x : Value} (hx : xs[i]? = some x) : ∃ y, ys[i]? = some y ∧ VR s x y := by
  have hi : i < xs.length := (List.getElem?_eq_some_iff.1 hx).1
  have hi' : i < ys.length := h.1 ▸ hi
  exact ⟨ys[i], List.getElem?_eq_getElem hi', h.2 i x _ hx (List.getElem?_eq_getElem hi')⟩
theorem LR.get' {s : Ren} {xs ys : List Value} (h : LR s xs ys) {i : Nat} {y : Value} (hy : ys[i]? = some y) : ∃ x, xs[i]? = some x ∧ VR s x y := by
  have hi' : i < ys.length := (List.getElem?_eq_some_iff.1 hy).1
  have hi : i < xs.length := by rw [h.1]; exact hi'
  exact ⟨xs[i], List.getElem?_eq_getElem hi, h.2 i _ y (List.getElem?_eq_getElem hi) hy⟩
theorem LR.uncons {s : Ren} {x y : Value} {xs ys : List Value} (h : LR s (x :: xs) (y :: ys)) : VR s x y ∧ LR s xs ys :=
  ⟨h.2 0 x y rfl rfl, by have := h.1; simpa using this, fun i a b ha hb => h.2 (i + 1) a b (by simpa using ha) (by simpa using hb)⟩
theorem LR.append {s : Ren} {xs ys us vs : List Value} (h : LR s xs ys) (h' : LR s us vs) : LR s (xs ++ us) (ys ++ vs) := by
  refine ⟨by simp [h.1, h'.1], fun i a b ha hb => ?_⟩
  by_cases hi : i < xs.length
  · rw [List.getElem?_append_left hi] at ha
    rw [List.getElem?_append_left (h.1 ▸ hi)] at hb
    exact h.2 i a b ha hb
  · rw [List.getElem?_append_right (by omega)] at ha
    rw [List.getElem?_append_right (by have := h.1; omega)] at hb
    rw [← h.1] at hb
    exact h'.2 _ a b ha hb
theorem LR.take {s : Ren} {xs ys : List Value} (h : LR s xs ys) (n : Nat) : LR s (xs.take n) (ys.take n) := by
  refine ⟨by simp [h.1], fun i a b ha hb => ?_⟩
  rw [List.getElem?_take] at ha hb
  by_cases hi : i < n
  · rw [if_pos hi] at ha hb
    exact h.2 i a b ha hb
  · rw [if_neg hi] at ha
    cases ha
theorem LR.drop {s : Ren} {xs ys : List Value} (h : LR s xs ys) (n : Nat) : LR s (xs.drop n) (ys.drop n) := by
  refine ⟨by simp [h.1], fun i a b ha hb => ?_⟩
  rw [List.getElem?_drop] at ha hb
  exact h.2 _ a b ha hb
theorem LR.set {s : Ren} {xs ys : List Value} (h : LR s xs ys) {x y : Value} (hv : VR s x y) (n : Nat) : LR s (xs.set n x) (ys.set n y) := by
  refine ⟨by simp [h.1], fun i a b ha hb => ?_⟩
  rw [List.getElem?_set] at ha hb
  by_cases e : n = i
  · subst e
    rw [if_pos rfl] at ha hb
    split at ha
    · split at hb
      · cases ha; cases hb; exact hv
      · simp at hb
    · simp at ha
  · rw [if_neg e] at ha hb
    exact h.2 i a b ha hb
theorem LR.ofFlat {s : Ren} {xs : List Value} (h : xs.all Ex.flat = true) : LR s xs xs := by
  refine ⟨rfl, fun i a b ha hb => ?_⟩
  rw [ha] at hb
  cases hb
  exact .same (all_get h ha)
theorem LR.eq_of_flat {s : Ren} {xs ys : List Value} (h : LR s xs ys) (hf : xs.all Ex.flat = true) : ys = xs :=
  list_eq h.1 fun i x y hx hy => (h.2 i x y hx hy).eq_of_flat (all_get hf hx)
theorem LR.getD {s : Ren} {xs ys : List Value} (h : LR s xs ys) (i : Nat) {d : Value} (hd : Ex.flat d = true) : VR s (xs.getD i d) (ys.getD i d) := by
  cases hx : xs[i]? with
  | none =>
    have hy : ys[i]? = none := by
      rw [List.getElem?_eq_none_iff] at hx ⊢
      rw [← h.1]; exact hx
    simp [List.getD, hx, hy]
    exact .same hd
  | some x =>
    obtain ⟨y, hy, hv⟩ := h.get hx
    simp [List.getD, hx, hy]
    exact hv

/-! What a value of a form is told by. -/
theorem VR.agg_inv {s : Ren} {xs : List Value} {v' : Value} (h : VR s (.agg ⟨xs⟩) v') : ∃ ys, v' = .agg ⟨ys⟩ ∧ LR s xs ys := by
  generalize e : Value.agg ⟨xs⟩ = v at h
  cases h with
  | same hf =>
    subst e
    refine ⟨xs, rfl, LR.ofFlat ?_⟩
    have : xs.all scal = true := by simpa [Ex.flat, flat1] using hf
    exact List.all_eq_true.2 fun x hx => flat_of_scal (List.all_eq_true.1 this x hx)
  | agg hl hh => cases e; exact ⟨_, rfl, hl, hh⟩
  | _ => cases e
theorem VR.tuple_inv {s : Ren} {xs : List Value} {v' : Value} (h : VR s (.tuple ⟨xs⟩) v') : ∃ ys, v' = .tuple ⟨ys⟩ ∧ LR s xs ys := by
  generalize e : Value.tuple ⟨xs⟩ = v at h
  cases h with
  | same hf =>
    subst e
    refine ⟨xs, rfl, LR.ofFlat ?_⟩
    have : xs.all flat1 = true := by simpa [Ex.flat] using hf
    exact List.all_eq_true.2 fun x hx => flat_of_flat1 (List.all_eq_true.1 this x hx)
  | tuple hl hh => cases e; exact ⟨_, rfl, hl, hh⟩
  | _ => cases e
theorem VR.ptr_inv {s : Ren} {a : Addr} {v' : Value} (h : VR s (.pointer (some a)) v') : ∃ p, a.spot = none ∧ s a.block = some p ∧ v' = .pointer (some ⟨p.blk, p.off + a.off, none⟩) := by
  generalize e : Value.pointer (some a) = v at h
  cases h with
  | same hf => subst e; simp [Ex.flat, flat1, scal] at hf
  | ptr hs hp => cases e; exact ⟨_, hs, hp, rfl⟩
  | _ => cases e
theorem VR.slice_inv {s : Ren} {a : Addr} {l c : Nat} {v' : Value} (h : VR s (.slice (some a) l c) v') :
    ∃ p c', a.spot = none ∧ s a.block = some p ∧ CapOk p a.off l c c' ∧ v' = .slice (some ⟨p.blk, p.off + a.off, none⟩) l c' := by
  generalize e : Value.slice (some a) l c = v at h
  cases h with
  | same hf => subst e; simp [Ex.flat, flat1, scal] at hf
  | slice hs hp hc => cases e; exact ⟨_, _, hs, hp, hc, rfl⟩
  | _ => cases e
theorem VR.bool_inv {s : Ren} {b : Bool} {v' : Value} (h : VR s (.bool b) v') : v' = .bool b := h.eq_of_flat rfl
theorem VR.int_inv {s : Ren} {k : IntKind} {n : Int} {v' : Value} (h : VR s (.int k n) v') : v' = .int k n := h.eq_of_flat rfl
theorem VR.string_inv {s : Ren} {b : ByteArray} {v' : Value} (h : VR s (.string b) v') : v' = .string b := h.eq_of_flat rfl
theorem VR.func_inv {s : Ren} {f : FuncId} {xs us : List Value} {v' : Value} (h : VR s (.func (.func f) ⟨xs⟩ ⟨us⟩) v') : ∃ ys vs, v' = .func (.func f) ⟨ys⟩ ⟨vs⟩ ∧ LR s xs ys ∧ LR s us vs := by
  generalize e : Value.func (.func f) ⟨xs⟩ ⟨us⟩ = v at h
  cases h with
  | same hf =>
    subst e
    simp [Ex.flat, flat1, scal] at hf
    obtain ⟨rfl, rfl⟩ := hf
    exact ⟨[], [], rfl, LR.nil s, LR.nil s⟩
  | func hl hh hl' hh' => cases e; exact ⟨_, _, rfl, ⟨hl, hh⟩, ⟨hl', hh'⟩⟩
  | _ => cases e
theorem VR.cells {s : Ren} {v v' : Value} (h : VR s v v') : LR s v.cells.toList v'.cells.toList := by
  cases v with
  | agg cs =>
    obtain ⟨xs⟩ := cs
    obtain ⟨ys, rfl, hl⟩ := h.agg_inv
    exact hl
  | _ =>
    have e : ∀ u : Value, (∀ cs, u ≠ .agg cs) → u.cells.toList = [u] := by
      intro u hu
      cases u <;> first | rfl | exact absurd rfl (hu _)
    rw [e _ (by intro cs h; cases h), e v' (by intro cs he; subst he; cases h)]
    exact LR.cons h (LR.nil s)
theorem VR.one {s : Ren} {v v' : Value} (h : VR s v v') (ho : v.oneCell' = true) : v'.oneCell' = true := by
  cases h with
  | agg _ _ => simp [Value.oneCell'] at ho
  | tuple _ _ => simp [Value.oneCell'] at ho
  | same _ => exact ho
  | _ => rfl
theorem VR.iface_inv {s : Ren} {t : TypeId} {x v' : Value} (h : VR s (.iface t x) v') : ∃ y, v' = .iface t y ∧ (VR s x y) := by
  generalize e : Value.iface t x = v at h
  cases h with
  | same hf => subst e; exact ⟨x, rfl, .same (flat_of_flat1 (by simpa [Ex.flat] using hf))⟩
  | iface h => cases e; exact ⟨_, rfl, h⟩
  | _ => cases e
theorem VR.map_inv {s : Ren} {i : Nat} {v' : Value} (h : VR s (.map (some i)) v') : ∃ p, s i = some p ∧ v' = .map (some p.blk) := by
  generalize e : Value.map (some i) = v at h
  cases h with
  | same hf => subst e; simp [Ex.flat, flat1, scal] at hf
  | map hp => cases e; exact ⟨_, hp, rfl⟩
  | _ => cases e
theorem CapOk.det {p : Pl} {off l c a b : Nat} (h1 : CapOk p off l c a) (h2 : CapOk p off l c b) : a = b := by
  unfold CapOk at h1 h2
  cases he : p.es with
  | none => rw [he] at h1 h2; rw [h1, h2]
  | some e =>
    rw [he] at h1 h2
    simp only at h1 h2
    have : a * e = b * e := by omega
    exact Nat.eq_of_mul_eq_mul_right h1.1 this
/-- A told value is just one. -/
theorem VR.det {s : Ren} {v a b : Value} (h : VR s v a) : VR s v b → a = b := by
  induction h generalizing b with
  | same hf => exact fun h => (h.eq_of_flat hf).symm
  | ptr hs hp =>
    intro h
    obtain ⟨q, _, hq, rfl⟩ := h.ptr_inv
    rw [hp] at hq
    cases hq
    rfl
  | slice hs hp hc =>
    intro h
    obtain ⟨q, c', _, hq, hc', rfl⟩ := h.slice_inv
    rw [hp] at hq
    cases hq
    rw [hc.det hc']
  | @agg xs0 ys0 hl hh ih =>
    intro h
    obtain ⟨ys, rfl, hl'⟩ := h.agg_inv
    rw [list_eq (xs := ys) (ys := ys0) (by rw [← hl, ← hl'.1]) fun i x y hx hy => by
      obtain ⟨u, hu, hux⟩ := hl'.get' hx
      exact ih i u y hu hy hux]
  | @tuple xs0 ys0 hl hh ih =>
    intro h
    obtain ⟨ys, rfl, hl'⟩ := h.tuple_inv
    rw [list_eq (xs := ys) (ys := ys0) (by rw [← hl, ← hl'.1]) fun i x y hx hy => by
      obtain ⟨u, hu, hux⟩ := hl'.get' hx
      exact ih i u y hu hy hux]
  | @func f xs0 ys0 us0 vs0 hl hh hl' hh' ih ih' =>
    intro h
    obtain ⟨ys, vs, rfl, g1, g2⟩ := h.func_inv
    rw [list_eq (xs := ys) (ys := ys0) (by rw [← hl, ← g1.1]) fun i x y hx hy => by
      obtain ⟨u, hu, hux⟩ := g1.get' hx
      exact ih i u y hu hy hux]
    rw [list_eq (xs := vs) (ys := vs0) (by rw [← hl', ← g2.1]) fun i x y hx hy => by
      obtain ⟨u, hu, hux⟩ := g2.get' hx
      exact ih' i u y hu hy hux]
  | iface h ih =>
    intro h
    obtain ⟨y, rfl, hy⟩ := h.iface_inv
    rw [ih hy]
  | map hp =>
    intro h
    obtain ⟨q, hq, rfl⟩ := h.map_inv
    rw [hp] at hq
    cases hq
    rfl
end Go.Proofs.YtokeopmmnpmfeaaDoor.Ex
end
section
namespace Go.Proofs.YtokeopmmnpmfeaaDoor.Ex
set_option maxRecDepth 20000

open Go Go.RowKit

/-- A block of a reckoned run: is it still used; of which size its slices' elements are, if their capacity is not known; its cells. -/
structure AO where
  live : Bool
  es : Option Nat
  cs : List Value

def dead : AO := ⟨false, none, []⟩

/-- The mark of a block that is a package's variable. -/
def GM : Nat := 1000000007
structure BlockAt (s : Ren) (p : Pl) (cs : List Value) (w : World) : Prop where
  fit : p.off + cs.length ≤ p.tot
  all : ∀ o, o < p.tot → (w.cell? ⟨p.blk, o, none⟩).isSome = true
  shp : ∃ T, w.shape? p.blk = some (T, p.tot)
  free : p.es ≠ some GM → ∀ o, p.off ≤ o → o < p.tot → (p.es = none → o < p.off + cs.length) → w.frozen? ⟨p.blk, o, none⟩ = false
  rel : ∀ (o : Nat) (v : Value), cs[o]? = some v → ∃ v', w.cell? ⟨p.blk, p.off + o, none⟩ = some v' ∧ VR s v v'

/-- A map's entries: one value each, key and element. -/
def keyOf (x : Value) : Value :=
  match x with
  | .tuple vs => vs.toList.getD 0 undef
  | _ => undef
def valOf (x : Value) : Value :=
  match x with
  | .tuple vs => vs.toList.getD 1 undef
  | _ => undef
def ents : Nat → List Value → List MapEntry
  | _, [] => []
  | n, x :: r => ⟨keyOf x, valOf x, n⟩ :: ents (n + 1) r
def MapAt (s : Ren) (p : Pl) (cs : List Value) (w : World) : Prop :=
  ∃ cs', LR s cs cs' ∧ w.heap[p.blk]? = some (.map ⟨ents 0 cs'⟩ cs'.length)
/-- A block of which the size of its slices' elements is 0 is a map. -/
def isM (o : AO) : Bool :=
  match o.es with
  | some e => Nat.beq e 0
  | none => false
def isW (o : AO) : Bool :=
  match o.es with
  | some e => !(Nat.beq e 0) && !(Nat.beq e GM)
  | none => true
def ObjAt (s : Ren) (p : Pl) (o : AO) (w : World) : Prop := (isM o = true → MapAt s p o.cs w) ∧ (isM o = false → BlockAt s p o.cs w)
theorem isW_spec {o : AO} (h : isW o = true) : isM o = false ∧ o.es ≠ some GM := by
  unfold isW at h
  unfold isM
  split at h
  · rename_i e he
    simp only [he, Bool.and_eq_true, Bool.not_eq_true'] at h ⊢
    refine ⟨h.1, fun hg => ?_⟩
    cases hg
    have := h.2
    simp at this
  · rename_i he
    simp [he]

/-- A world to go by, and which of its blocks may be written all the same. -/
structure Wb where
  w : World
  x : Nat → Prop
instance : Coe World Wb := ⟨fun w => ⟨w, fun _ => False⟩⟩
def GrB (b : Wb) (w : World) : Prop := (w.os = b.w.os ∧ w.output = b.w.output) ∧ (∀ k, k < b.w.heap.size → ¬b.x k → w.heap[k]? = b.w.heap[k]?) ∧ b.w.heap.size ≤ w.heap.size
theorem GrB.trans {b : Wb} {v w : World} (h : GrB b v) (g : Gr v w) : GrB b w :=
  ⟨⟨g.1.1.trans h.1.1, g.1.2.trans h.1.2⟩, fun k hk hx => (g.2.1 k (Nat.lt_of_lt_of_le hk h.2.2)).trans (h.2.1 k hk hx), Nat.le_trans h.2.2 g.2.2⟩
theorem GrB.gr {w w' : World} (h : GrB (w : Wb) w') : Gr w w' := ⟨h.1, fun k hk => h.2.1 k hk (fun f => f), h.2.2⟩
theorem GrB.refl (w : World) (x : Nat → Prop) : GrB ⟨w, x⟩ w := ⟨⟨rfl, rfl⟩, fun _ _ _ => rfl, Nat.le_refl _⟩
theorem GrB.setCell {a : Wb} {b : World} (h : GrB a b) {p : Addr} (hp : a.w.heap.size ≤ p.block ∨ a.x p.block) (v : Value) : GrB a (b.setCell p v) :=
  ⟨h.1, fun k hk hx => (Below.heap_setCell b p v k (by
    intro e
    subst e
    rcases hp with hp | hp
    · omega
    · exact hx hp)).trans (h.2.1 k hk hx), by simpa [World.setCell] using h.2.2⟩
structure HR (wb : Wb) (k : Nat) (s : Ren) (h : List AO) (w : World) : Prop where
  grown : GrB wb w
  kle : k ≤ h.length
  dom : ∀ i, h.length ≤ i → s i = none
  plc : ∀ i p, s i = some p → (i < k → p.blk < wb.w.heap.size ∧ ¬wb.x p.blk) ∧ (k ≤ i → wb.w.heap.size ≤ p.blk ∨ wb.x p.blk) ∧ p.blk < w.heap.size
  obj : ∀ (i : Nat) (o : AO), h[i]? = some o → o.live = true → ∃ p, s i = some p ∧ p.es = o.es ∧ ObjAt s p o w
  sep : ∀ (i j : Nat) (a b : AO) (p q : Pl), h[i]? = some a → h[j]? = some b → a.live = true → b.live = true → s i = some p → s j = some q → p.blk = q.blk → i = j
  gl : ∀ g p, s g = some p → p.es = some GM → p.blk = g ∧ p.off = 0

/-- What is read of it. -/
def MR (s : Ren) (h : List AO) (w : World) : Prop := ∀ (i : Nat) (o : AO), h[i]? = some o → o.live = true → ∃ p, s i = some p ∧ p.es = o.es ∧ ObjAt s p o w
theorem HR.mr {wb : Wb} {k : Nat} {s : Ren} {h : List AO} {w : World} (H : HR wb k s h w) : MR s h w := H.obj

theorem BlockAt.mono {s t : Ren} (hle : Le s t) {p : Pl} {cs : List Value} {w : World} (h : BlockAt s p cs w) : BlockAt t p cs w :=
  ⟨h.fit, h.all, h.shp, h.free, fun o v hv => let ⟨v', h1, h2⟩ := h.rel o v hv; ⟨v', h1, h2.mono hle⟩⟩
theorem BlockAt.heap {s : Ren} {p : Pl} {cs : List Value} {w w' : World} (h : BlockAt s p cs w) (hh : w'.heap[p.blk]? = w.heap[p.blk]?) : BlockAt s p cs w' where
  fit := h.fit
  all := fun o ho => by rw [World.cell?_of_block (w := w) (a := ⟨p.blk, o, none⟩) hh]; exact h.all o ho
  shp := let ⟨T, hT⟩ := h.shp; ⟨T, by rw [← hT]; unfold World.shape?; rw [hh]⟩
  free := fun hg o h1 h2 h3 => by rw [World.frozen?_of_block (w := w) (a := ⟨p.blk, o, none⟩) hh]; exact h.free hg o h1 h2 h3
  rel := fun o v hv => let ⟨v', h1, h2⟩ := h.rel o v hv; ⟨v', by rw [World.cell?_of_block (w := w) (a := ⟨p.blk, p.off + o, none⟩) hh]; exact h1, h2⟩
theorem ObjAt.heap {s : Ren} {p : Pl} {o : AO} {w w' : World} (h : ObjAt s p o w) (hh : w'.heap[p.blk]? = w.heap[p.blk]?) : ObjAt s p o w' :=
  ⟨fun hm => let ⟨cs', h1, h2⟩ := h.1 hm; ⟨cs', h1, hh.trans h2⟩, fun hm => (h.2 hm).heap hh⟩
theorem ObjAt.mono {s t : Ren} (hle : Le s t) {p : Pl} {o : AO} {w : World} (h : ObjAt s p o w) : ObjAt t p o w :=
  ⟨fun hm => let ⟨cs', h1, h2⟩ := h.1 hm; ⟨cs', h1.mono hle, h2⟩, fun hm => (h.2 hm).mono hle⟩
theorem ObjAt.grown {s : Ren} {p : Pl} {o : AO} {w w' : World} (h : ObjAt s p o w) (hb : p.blk < w.heap.size) (g : Gr w w') : ObjAt s p o w' := h.heap (g.2.1 _ hb)
theorem ObjAt.block {s : Ren} {p : Pl} {o : AO} {w : World} (hm : isM o = false) (h : BlockAt s p o.cs w) : ObjAt s p o w := ⟨fun e => (by rw [hm] at e; cases e), fun _ => h⟩

theorem HR.grow {wb : Wb} {k : Nat} {s : Ren} {h : List AO} {w w' : World} (H : HR wb k s h w) (g : Gr w w') : HR wb k s h w' where
  grown := GrB.trans H.grown g
  kle := H.kle
  dom := H.dom
  plc := fun i p hp => let ⟨a, b, c⟩ := H.plc i p hp; ⟨a, b, Nat.lt_of_lt_of_le c g.2.2⟩
  obj := fun i o ho hl => let ⟨p, hp, he, hb⟩ := H.obj i o ho hl; ⟨p, hp, he, hb.grown (H.plc i p hp).2.2 g⟩
  sep := H.sep
  gl := H.gl
theorem HR.drew {wb : Wb} {k : Nat} {s : Ren} {h : List AO} {w : World} (H : HR wb k s h w) : HR wb k s h w.drew := H.grow (Gr.drew (Gr.refl w))
/-- The same memory, told from here on: nothing that is there is written. -/
theorem HR.here {wb : Wb} {k : Nat} {s : Ren} {h : List AO} {w : World} (H : HR wb k s h w) : HR w h.length s h w where
  grown := GrB.refl w _
  kle := Nat.le_refl _
  dom := H.dom
  plc := fun i p hp => ⟨fun _ => ⟨(H.plc i p hp).2.2, fun f => f⟩, fun hi => (by rw [H.dom i hi] at hp; cases hp), (H.plc i p hp).2.2⟩
  obj := H.obj
  sep := H.sep
  gl := H.gl
theorem HR.above {w0 : World} {k : Nat} {s : Ren} {h : List AO} {w : World} (H : HR w0 k s h w) {i : Nat} {p : Pl} (hp : s i = some p) (hk : k ≤ i) : w0.heap.size ≤ p.blk :=
  ((H.plc i p hp).2.1 hk).elim (fun h => h) (fun f => f.elim)
def upd (s : Ren) (i : Nat) (p : Pl) : Ren := fun j => if j = i then some p else s j
theorem upd_same (s : Ren) (i : Nat) (p : Pl) : upd s i p i = some p := by simp [upd]
theorem upd_other (s : Ren) {i j : Nat} (p : Pl) (h : j ≠ i) : upd s i p j = s j := by simp [upd, h]
theorem Le.upd {s : Ren} {i : Nat} (p : Pl) (h : s i = none) : Le s (upd s i p) := fun j q hq => by
  by_cases e : j = i
  · subst e; rw [h] at hq; cases hq
  · rw [upd_other s p e]; exact hq

/-- A new block, whatever it is. -/
theorem HR.newO {wb : Wb} {k : Nat} {s : Ren} {h : List AO} {w : World} (H : HR wb k s h w) (ao : AO) (ob : Obj) (tot : Nat) (hes : ao.es ≠ some GM)
    (hob : ObjAt (upd s h.length ⟨w.heap.size, 0, tot, ao.es⟩) ⟨w.heap.size, 0, tot, ao.es⟩ ao (w.alloc ob)) :
    HR wb k (upd s h.length ⟨w.heap.size, 0, tot, ao.es⟩) (h ++ [ao]) (w.alloc ob) ∧ Le s (upd s h.length ⟨w.heap.size, 0, tot, ao.es⟩) := by
  have hle := Le.upd (s := s) (i := h.length) ⟨w.heap.size, 0, tot, ao.es⟩ (H.dom _ (Nat.le_refl _))
  have g : Gr w (w.alloc ob) := (Gr.refl w).allocO _
  have hwb : wb.w.heap.size ≤ w.heap.size := H.grown.2.2
  refine ⟨⟨GrB.trans H.grown g, by simp; have := H.kle; omega, fun i hi => ?_, fun i p hp => ?_, fun i o ho hl => ?_, fun i j a b p q hi hj ha hb hp hq e => ?_, fun i p hp hg => ?_⟩, hle⟩
  · simp at hi
    rw [upd_other _ _ (by omega)]
    exact H.dom i (by omega)
  · by_cases e : i = h.length
    · subst e
      rw [upd_same] at hp
      cases hp
      exact ⟨fun hk => absurd H.kle (by omega), fun _ => .inl hwb, by simp⟩
    · rw [upd_other _ _ e] at hp
      obtain ⟨a, b, c⟩ := H.plc i p hp
      exact ⟨a, b, by simp; omega⟩
  · by_cases e : i = h.length
    · subst e
      simp at ho
      subst ho
      exact ⟨_, upd_same _ _ _, rfl, hob⟩
    · have hi : i < h.length := by
        have := (List.getElem?_eq_some_iff.1 ho).1
        simp at this; omega
      rw [List.getElem?_append_left hi] at ho
      obtain ⟨p, hp, he, hb⟩ := H.obj i o ho hl
      exact ⟨p, by rw [upd_other _ _ e]; exact hp, he, (hb.grown (H.plc i p hp).2.2 g).mono hle⟩
  · have old : ∀ (i : Nat) (a : AO) (p : Pl), i ≠ h.length → (h ++ [ao])[i]? = some a → upd s h.length ⟨w.heap.size, 0, tot, ao.es⟩ i = some p → h[i]? = some a ∧ s i = some p ∧ p.blk < w.heap.size := by
      intro i a p e ho hp
      have hi : i < h.length := by
        have := (List.getElem?_eq_some_iff.1 ho).1
        simp at this; omega
      rw [List.getElem?_append_left hi] at ho
      rw [upd_other _ _ e] at hp
      exact ⟨ho, hp, (H.plc i p hp).2.2⟩
    by_cases ei : i = h.length
    · by_cases ej : j = h.length
      · omega
      · subst ei
        rw [upd_same] at hp
        cases hp
        obtain ⟨_, _, h3⟩ := old j b q ej hj hq
        simp at e
        omega
    · obtain ⟨h1, h2, h3⟩ := old i a p ei hi hp
      by_cases ej : j = h.length
      · subst ej
        rw [upd_same] at hq
        cases hq
        simp at e
        omega
      · obtain ⟨h4, h5, _⟩ := old j b q ej hj hq
        exact H.sep i j a b p q h1 h4 ha hb h2 h5 e
  · by_cases e : i = h.length
    · subst e
      rw [upd_same] at hp
      cases hp
      exact absurd hg hes
    · rw [upd_other _ _ e] at hp
      exact H.gl i p hp hg
/-- A new block, of which no cell that there is is frozen. -/
theorem HR.newF {wb : Wb} {k : Nat} {s : Ren} {h : List AO} {w : World} (H : HR wb k s h w) (cs : List Value) (arr : Array Value) (T : TypeId) (es : Option Nat) (hes : isW ⟨true, es, cs⟩ = true) (fz : Nat × Nat) (hfz : ∀ o, o < arr.size → ¬ (fz.1 ≤ o ∧ o < fz.2))
    (hn : cs.length ≤ arr.size) (hr : ∀ (o : Nat) (v : Value), cs[o]? = some v → ∃ v', arr[o]? = some v' ∧ VR s v v') :
    HR wb k (upd s h.length ⟨w.heap.size, 0, arr.size, es⟩) (h ++ [⟨true, es, cs⟩]) (w.alloc (.cells arr T fz)) ∧ Le s (upd s h.length ⟨w.heap.size, 0, arr.size, es⟩) := by
  have hle := Le.upd (s := s) (i := h.length) ⟨w.heap.size, 0, arr.size, es⟩ (H.dom _ (Nat.le_refl _))
  refine H.newO ⟨true, es, cs⟩ (.cells arr T fz) arr.size (isW_spec hes).2 (ObjAt.block (isW_spec hes).1 ⟨by simpa using hn, fun o ho => ?_, ⟨T, ?_⟩, fun _ o h1 h2 _ => ?_, fun o v hv => ?_⟩)
  · have ho' : o < arr.size := ho
    rw [World.cell?_alloc_mark]
    simpa using ho'
  · simp only [World.alloc, World.shape?, Array.getElem?_push_size]
  · rw [show (w.alloc (.cells arr T fz)) = w.alloc (.cells arr T (fz.1, fz.2)) from rfl, World.frozen?_alloc_mark]
    have := hfz o h2
    simp only [Bool.and_eq_false_imp, decide_eq_true_eq, decide_eq_false_iff_not]
    exact fun g1 g2 => this ⟨g1, g2⟩
  · obtain ⟨v', h1, h2⟩ := hr o v hv
    exact ⟨v', by rw [World.cell?_alloc_mark]; simpa using h1, h2.mono hle⟩
theorem HR.new {wb : Wb} {k : Nat} {s : Ren} {h : List AO} {w : World} (H : HR wb k s h w) (cs : List Value) (arr : Array Value) (T : TypeId) (es : Option Nat) (hes : isW ⟨true, es, cs⟩ = true)
    (hn : cs.length ≤ arr.size) (hr : ∀ (o : Nat) (v : Value), cs[o]? = some v → ∃ v', arr[o]? = some v' ∧ VR s v v') :
    HR wb k (upd s h.length ⟨w.heap.size, 0, arr.size, es⟩) (h ++ [⟨true, es, cs⟩]) (w.alloc (.cells arr T)) ∧ Le s (upd s h.length ⟨w.heap.size, 0, arr.size, es⟩) :=
  H.newF cs arr T es hes (0, 0) (fun o _ h => by have := h.2; simp at this) hn hr
theorem HR.new' {wb : Wb} {k : Nat} {s : Ren} {h : List AO} {w : World} (H : HR wb k s h w) {cs cs' : List Value} (T : TypeId) (hr : LR s cs cs') :
    HR wb k (upd s h.length ⟨w.heap.size, 0, cs'.length, none⟩) (h ++ [⟨true, none, cs⟩]) (w.alloc (.cells ⟨cs'⟩ T)) ∧ Le s (upd s h.length ⟨w.heap.size, 0, cs'.length, none⟩) :=
  H.new cs ⟨cs'⟩ T none rfl (by simp [hr.1]) fun o v hv => by simpa using hr.get hv

/-! Reading. -/
def aload (h : List AO) (a : Addr) (n : Nat) : Option (List Value) :=
  match h[a.block]? with
  | some o => if o.live && !isM o && decide (a.off + n ≤ o.cs.length) then some ((o.cs.drop a.off).take n) else none
  | none => none
theorem add_none {b o : Nat} (i : Nat) : (⟨b, o, none⟩ : Addr).add i = ⟨b, o + i, none⟩ := by unfold Addr.add; split <;> simp_all
theorem aload_spec {s : Ren} {h : List AO} {w : World} (H : MR s h w) {a : Addr} {n : Nat} {vs : List Value} (hl : aload h a n = some vs) {p : Pl} (hp : s a.block = some p) :
    vs.length = n ∧ ∃ vs', LR s vs vs' ∧ ∀ (j : Nat) (v : Value), vs'[j]? = some v → w.cell? ((⟨p.blk, p.off + a.off, none⟩ : Addr).add j) = some v := by
  unfold aload at hl
  cases ho : h[a.block]? with
  | none => rw [ho] at hl; cases hl
  | some o =>
    rw [ho] at hl
    simp only at hl
    split at hl
    · rename_i hc
      cases hl
      simp at hc
      obtain ⟨⟨hlive, hnm⟩, hfit⟩ := hc
      obtain ⟨q, hq, _, hb⟩ := H _ _ ho hlive
      rw [hp] at hq
      cases hq
      replace hb := hb.2 hnm
      have hlen : ((o.cs.drop a.off).take n).length = n := by simp; omega
      refine ⟨hlen, ((o.cs.drop a.off).take n).zipIdx.map (fun x => (w.cell? ⟨p.blk, p.off + a.off + x.2, none⟩).getD undef), ⟨by simp, fun i x y hx hy => ?_⟩, fun j v hv => ?_⟩
      · rw [List.getElem?_map, List.getElem?_zipIdx, hx] at hy
        simp at hy
        subst hy
        rw [List.getElem?_take] at hx
        split at hx
        · rw [List.getElem?_drop] at hx
          obtain ⟨v', h1, h2⟩ := hb.rel _ _ hx
          rw [show p.off + a.off + i = p.off + (a.off + i) by omega, h1]
          exact h2
        · cases hx
      · rw [add_none]
        rw [List.getElem?_map, List.getElem?_zipIdx] at hv
        cases hx : ((o.cs.drop a.off).take n)[j]? with
        | none => rw [hx] at hv; simp at hv
        | some x =>
          rw [hx] at hv
          simp at hv
          subst hv
          rw [List.getElem?_take] at hx
          split at hx
          · rw [List.getElem?_drop] at hx
            obtain ⟨v', h1, _⟩ := hb.rel _ _ hx
            rw [show p.off + a.off + j = p.off + (a.off + j) by omega, h1]
            rfl
          · cases hx
    · cases hl

/-! Writing. -/
def splice (cs : List Value) (i : Nat) (vs : List Value) : List Value := cs.take i ++ vs ++ cs.drop (i + vs.length)
theorem splice_length {cs vs : List Value} {i : Nat} (h : i + vs.length ≤ cs.length) : (splice cs i vs).length = cs.length := by
  simp [splice]; omega
theorem splice_get {cs vs : List Value} {i : Nat} (h : i + vs.length ≤ cs.length) (o : Nat) :
    (splice cs i vs)[o]? = if i ≤ o ∧ o < i + vs.length then vs[o - i]? else cs[o]? := by
  unfold splice
  by_cases h1 : o < i
  · rw [if_neg (by omega), List.append_assoc, List.getElem?_append_left (by simp; omega), List.getElem?_take, if_pos h1]
  · by_cases h2 : o < i + vs.length
    · rw [if_pos ⟨by omega, h2⟩, List.append_assoc, List.getElem?_append_right (by simp; omega), List.getElem?_append_left (by simp; omega)]
      congr 1
      simp; omega
    · rw [if_neg (by omega), List.getElem?_append_right (by simp; omega), List.getElem?_drop]
      congr 1
      simp; omega
def astore (h : List AO) (a : Addr) (vs : List Value) : Option (List AO) :=
  match h[a.block]? with
  | some o => if o.live && isW o && decide (a.off + vs.length ≤ o.cs.length) then some (h.set a.block ⟨true, o.es, splice o.cs a.off vs⟩) else none
  | none => none
theorem grown_setCells {wb : Wb} (b : Nat) (hb : wb.w.heap.size ≤ b ∨ wb.x b) : ∀ (vs : List Value) (o : Nat) (w : World), GrB wb w → GrB wb (w.setCells b o vs)
  | [], _, _, g => g
  | v :: r, o, w, g => grown_setCells b hb r (o + 1) _ (GrB.setCell g (by exact hb) v)
theorem size_setCells (b : Nat) : ∀ (vs : List Value) (o : Nat) (w : World), (w.setCells b o vs).heap.size = w.heap.size
  | [], _, _ => rfl
  | v :: r, o, w => by rw [World.setCells, size_setCells b r]; simp
theorem shape_setCell (w : World) (a : Addr) (v : Value) (r : Nat) : (w.setCell a v).shape? r = w.shape? r := by
  simp only [World.setCell, World.shape?, Array.getElem?_modify]
  by_cases hb : a.block = r
  · simp only [hb, if_true]
    cases hh : w.heap[r]? with
    | none => simp
    | some x => cases x <;> simp <;> split <;> simp
  · simp [hb]
theorem shape_setCells (b : Nat) (r : Nat) : ∀ (vs : List Value) (o : Nat) (w : World), (w.setCells b o vs).shape? r = w.shape? r
  | [], _, _ => rfl
  | v :: l, o, w => by rw [World.setCells, shape_setCells b r l, shape_setCell]
theorem heap_setCell (w : World) (a : Addr) (v : Value) {r : Nat} (h : r ≠ a.block) : (w.setCell a v).heap[r]? = w.heap[r]? := by
  simp only [World.setCell, Array.getElem?_modify, if_neg (Ne.symm h)]
theorem heap_setCells (b r : Nat) (h : r ≠ b) : ∀ (vs : List Value) (o : Nat) (w : World), (w.setCells b o vs).heap[r]? = w.heap[r]?
  | [], _, _ => rfl
  | v :: l, o, w => by rw [World.setCells, heap_setCells b r h l, heap_setCell _ _ _ h]
theorem astore_spec {wb : Wb} {k : Nat} {s : Ren} {h h' : List AO} {w : World} (H : HR wb k s h w) {a : Addr} {vs vs' : List Value} (hs : astore h a vs = some h') (hk : k ≤ a.block)
    {p : Pl} (hp : s a.block = some p) (hv : LR s vs vs') :
    (∀ j, j < vs'.length → (w.cell? ⟨p.blk, p.off + a.off + j, none⟩).isSome = true) ∧ (∀ j, j < vs'.length → w.frozen? ⟨p.blk, p.off + a.off + j, none⟩ = false) ∧
    HR wb k s h' (w.setCells p.blk (p.off + a.off) vs') := by
  unfold astore at hs
  cases ho : h[a.block]? with
  | none => rw [ho] at hs; cases hs
  | some o =>
    rw [ho] at hs
    simp only at hs
    split at hs
    · rename_i hc
      cases hs
      simp at hc
      obtain ⟨⟨hlive, hwr⟩, hfit⟩ := hc
      obtain ⟨q, hq, hes, hb⟩ := H.obj _ _ ho hlive
      rw [hp] at hq
      cases hq
      obtain ⟨hnm, hng⟩ := isW_spec hwr
      replace hb := hb.2 hnm
      have hfree := hb.free (by rw [hes]; exact hng)
      have hlen := hv.1
      have hfit2 := hb.fit
      have hal : ∀ j, j < vs'.length → (w.cell? ⟨p.blk, p.off + a.off + j, none⟩).isSome = true := fun j hj => hb.all _ (by omega)
      refine ⟨hal, fun j hj => hfree _ (by omega) (by omega) (fun _ => by omega), ?_⟩
      have hblk : wb.w.heap.size ≤ p.blk ∨ wb.x p.blk := (H.plc _ _ hp).2.1 hk
      refine ⟨grown_setCells _ hblk _ _ _ H.grown, by simpa using H.kle, fun i hi => H.dom i (by simpa using hi), fun i q hq => ?_, fun i x hx hl => ?_, fun i j x y q r hi hj hx hy hq hr e => ?_, H.gl⟩
      · rw [size_setCells]; exact H.plc i q hq
      · rw [List.getElem?_set] at hx
        by_cases ei : a.block = i
        · subst ei
          rw [if_pos rfl, if_pos (List.getElem?_eq_some_iff.1 ho).1] at hx
          cases hx
          refine ⟨p, hp, hes, ObjAt.block hnm ⟨by simp only [splice_length hfit]; exact hfit2, fun o' ho' => ?_, ?_, fun _ o' h1 h2 h3 => ?_, fun o' v hv' => ?_⟩⟩
          · by_cases hin : p.off + a.off ≤ o' ∧ o' < p.off + a.off + vs'.length
            · have := World.cell?_setCells_in p.blk vs' (p.off + a.off) w hal (o' - (p.off + a.off)) (by omega)
              rw [show p.off + a.off + (o' - (p.off + a.off)) = o' by omega] at this
              rw [this]; rfl
            · rw [World.cell?_setCells_out _ _ _ _ _ fun _ _ => by simp; omega]
              exact hb.all o' ho'
          · obtain ⟨T, hT⟩ := hb.shp
            exact ⟨T, by rw [shape_setCells]; exact hT⟩
          · rw [World.frozen?_setCells]; exact hfree o' h1 h2 (by simpa only [splice_length hfit] using h3)
          · simp only at hv'
            rw [splice_get hfit] at hv'
            by_cases hin : a.off ≤ o' ∧ o' < a.off + vs.length
            · rw [if_pos hin] at hv'
              obtain ⟨y, hy, hvy⟩ := hv.get hv'
              have hyl : o' - a.off < vs'.length := (List.getElem?_eq_some_iff.1 hy).1
              have := World.cell?_setCells_in p.blk vs' (p.off + a.off) w hal (o' - a.off) hyl
              rw [show p.off + a.off + (o' - a.off) = p.off + o' by omega] at this
              refine ⟨y, ?_, hvy⟩
              rw [this, ← hy, List.getElem?_eq_getElem hyl]
            · rw [if_neg hin] at hv'
              obtain ⟨y, hy, hvy⟩ := hb.rel o' v hv'
              refine ⟨y, ?_, hvy⟩
              rw [World.cell?_setCells_out _ _ _ _ _ fun _ _ => by simp; omega]
              exact hy
        · rw [if_neg ei] at hx
          obtain ⟨q, hq, he, hbq⟩ := H.obj i x hx hl
          have hne : q.blk ≠ p.blk := fun e => ei (H.sep i a.block x o q p hx ho hl hlive hq hp e).symm
          exact ⟨q, hq, he, hbq.heap (heap_setCells p.blk q.blk hne vs' _ w)⟩
      · have old : ∀ (i : Nat) (x : AO), (h.set a.block ⟨true, o.es, splice o.cs a.off vs⟩)[i]? = some x → x.live = true → ∃ x', h[i]? = some x' ∧ x'.live = true := by
          intro i x hx hl
          rw [List.getElem?_set] at hx
          by_cases ei : a.block = i
          · subst ei; exact ⟨o, ho, hlive⟩
          · rw [if_neg ei] at hx; exact ⟨x, hx, hl⟩
        obtain ⟨x', hx1, hx2⟩ := old i x hi hx
        obtain ⟨y', hy1, hy2⟩ := old j y hj hy
        exact H.sep i j x' y' q r hx1 hy1 hx2 hy2 hq hr e
    · cases hs
end Go.Proofs.YtokeopmmnpmfeaaDoor.Ex
end
section
namespace Go.Proofs.YtokeopmmnpmfeaaDoor.Ex
set_option maxRecDepth 20000

open Go Go.RowKit

abbrev Out := Next × List AO × Option Nat
/-- No function is the one call that the model answers by itself. -/
def NoNG (P : Program) : Prop := ∀ (f : FuncId) (fn : Func), P.funcs[f]? = some fn → ¬ fn.name = "runtime.NumGoroutine"
def noNGB (P : Program) : Bool := P.funcs.toList.all fun fn => fn.name != "runtime.NumGoroutine"
theorem noNG_ok {P : Program} (h : noNGB P = true) : NoNG P := by
  intro f fn hf
  have h1 := List.all_eq_true.1 h fn (List.mem_of_getElem? (by rw [Array.getElem?_toList]; exact hf))
  simpa using h1
def NR (s : Ren) : Next → Next → Prop
  | .value v, .value v' => VR s v v'
  | .skip, .skip => True
  | .enter f xs, .enter g ys => f = g ∧ LR s xs.toList ys.toList
  | _, _ => False
def Okay (P : Program) (wb : Wb) (k : Nat) (s : Ren) (w : World) (x : Sem Next) (r : Out) : Prop :=
  ∃ s' n' w', x.run P w = .ok n' w' ∧ Le s s' ∧ HR wb k s' r.2.1 w' ∧ NR s' r.1 n'
def aval (x : Sem Value) : Sem Next := do pure (.value (← x))
def aunit (x : Sem Unit) : Sem Next := do x; pure .skip
/-- What leaves memory as it is. -/
def Okay0 (P : Program) (s : Ren) (h : List AO) (w : World) (x : Sem Next) (r : Out) : Prop :=
  ∃ n', x.run P w = .ok n' w ∧ NR s r.1 n' ∧ r.2 = (h, none)
theorem Okay0.okay {P : Program} {wb : Wb} {k : Nat} {s : Ren} {h : List AO} {w : World} (H : HR wb k s h w) {x : Sem Next} {r : Out} (hx : Okay0 P s h w x r) : Okay P wb k s w x r := by
  obtain ⟨n', h1, h2, h3⟩ := hx
  exact ⟨s, n', w, h1, Le.refl s, by rw [h3]; exact H, h2⟩
theorem okay0 {P : Program} {s : Ren} {h : List AO} {w : World} {x : Sem Value} {v v' : Value} (hx : x.run P w = .ok v' w) (hv : VR s v v') :
    Okay0 P s h w (aval x) (.value v, h, none) := ⟨.value v', by simp [aval, hx], hv, rfl⟩

section
variable {P : Program} {wb : Wb} {k : Nat} {s : Ren} {h : List AO} {w : World}

/-! Types. -/
theorem run_info {t : TypeId} {i : TypeInfo} (hi : P.info? t = some i) (w : World) : (typeInfo t).run P w = .ok i w := by
  simp [typeInfo, program, hi, Sem.run]
theorem run_under {t : TypeId} {d : TypeDesc} (hi : P.underlying t = some d) (w : World) : (underlying t).run P w = .ok d w := by
  simp [underlying, program, hi, Sem.run]
theorem run_size {t : TypeId} {i : TypeInfo} (hi : P.info? t = some i) (w : World) : (sizeOf t).run P w = .ok i.size w := by
  simp [sizeOf, run_info hi]
theorem run_zero {t : TypeId} {i : TypeInfo} {z : Value} (hi : P.info? t = some i) (hz : i.zero = some z) (w : World) : (zeroValue t).run P w = .ok z w := by
  simp [zeroValue, run_info hi, hz]
def aggD : TypeDesc → Bool
  | .struct _ => true
  | .array _ _ => true
  | _ => false
theorem run_aggD {t : TypeId} {d : TypeDesc} (hi : P.underlying t = some d) (w : World) : (isAgg t).run P w = .ok (aggD d) w := by
  simp only [isAgg, Sem.run_bind, run_under hi, Result.andThen_ok]
  cases d <;> rfl

/-! New blocks. -/
theorem run_newVar (t : TypeId) (v : Value) (w : World) : (newVar t v).run P w = .ok ⟨w.heap.size, 0, none⟩ (w.alloc (.cells v.cells t)) := rfl
/-! Loads and stores. -/
def oLoad (P : Program) (t : TypeId) (x : Value) (h : List AO) : Option Out :=
  match x, P.underlying t, P.info? t with
  | .pointer (some a), some d, some i =>
    if aggD d then
      match aload h a i.size with
      | some vs => some (.value (.agg ⟨vs⟩), h, none)
      | none => none
    else
      match aload h a 1 with
      | some (v :: _) => some (.value v, h, none)
      | _ => none
  | _, _, _ => none
theorem load_ok (H : MR s h w) {t : TypeId} {x x' : Value} (hx : VR s x x') {r : Out} (hr : oLoad P t x h = some r) : Okay0 P s h w (aval (Instr.loadAt t x')) r := by
  unfold oLoad at hr
  split at hr
  · rename_i a d i hd hi
    obtain ⟨p, hs, hp, rfl⟩ := hx.ptr_inv
    split at hr
    · rename_i ha
      split at hr
      · rename_i vs hl
        cases hr
        obtain ⟨hlen, vs', hv, hc⟩ := aload_spec H hl hp
        refine okay0 (v' := .agg ⟨vs'⟩) ?_ (VR.agg hv.1 hv.2)
        have h2 := run_loadCells_list (P := P) w ⟨p.blk, p.off + a.off, none⟩ vs' hc
        rw [← hv.1, hlen] at h2
        simp [Instr.loadAt, Instr.sureAddr, loadVar, run_aggD hd, ha, run_size hi, h2]
      · cases hr
    · rename_i ha
      split at hr
      · rename_i v rest hl
        cases hr
        obtain ⟨hlen, vs', hv, hc⟩ := aload_spec H hl hp
        cases vs' with
        | nil => have := hv.1; simp at this
        | cons v' rest' =>
          refine okay0 (v' := v') ?_ hv.uncons.1
          have h2 := hc 0 v' rfl
          rw [add_none] at h2
          simp only [Nat.add_zero] at h2
          simp [Instr.loadAt, Instr.sureAddr, loadVar, run_aggD hd, ha, h2]
      · cases hr
  · cases hr
def oStore (P : Program) (t : TypeId) (x y : Value) (h : List AO) : Option Out :=
  match x, P.info? t with
  | .pointer (some a), some i =>
    if y.cells.toList.length == i.size && y.cells.toList.all (·.oneCell') then
      match astore h a y.cells.toList with
      | some h' => some (.skip, h', some a.block)
      | none => none
    else none
  | _, _ => none
theorem store_ok (H : HR wb k s h w) {t : TypeId} {x x' y y' : Value} (hx : VR s x x') (hy : VR s y y') {r : Out} (hr : oStore P t x y h = some r) (hk : ∀ i, r.2.2 = some i → k ≤ i) :
    Okay P wb k s w (aunit (Instr.storeAt t x' y')) r := by
  unfold oStore at hr
  split at hr
  · rename_i a i hi
    obtain ⟨p, hs, hp, rfl⟩ := hx.ptr_inv
    split at hr
    · rename_i hc
      simp only [Bool.and_eq_true, beq_iff_eq] at hc
      split at hr
      · rename_i h' hst
        cases hr
        obtain ⟨h1, h2, H'⟩ := astore_spec H hst (hk _ rfl) hp hy.cells
        refine ⟨s, .skip, _, ?_, Le.refl s, H', trivial⟩
        have hone : ∀ v ∈ y'.cells.toList, v.oneCell' = true := by
          intro v hv
          obtain ⟨j, hj⟩ := List.getElem?_of_mem hv
          obtain ⟨u, hu, huv⟩ := hy.cells.get' hj
          exact huv.one (all_get hc.2 hu)
        have h3 := run_storeCells_cells (P := P) p.blk (p.off + a.off) y'.cells.toList 0 w (by simpa using h1) (by simpa using h2) hone
        have hsz : y'.cells.size = i.size := by rw [← hc.1, hy.cells.1]; simp
        simp [aunit, Instr.storeAt, Instr.sureAddr, storeVar, run_size hi, hsz, h3]
      · cases hr
    · cases hr
  · cases hr

/-! Places in memory. -/
theorem vr_add (_ : True) {a : Addr} {p : Pl} (hs : a.spot = none) (hp : s a.block = some p) (n : Nat) :
    VR s (.pointer (some (a.add n))) (.pointer (some ((⟨p.blk, p.off + a.off, none⟩ : Addr).add n))) := by
  have e : a.add n = ⟨a.block, a.off + n, none⟩ := by
    obtain ⟨b, o, sp⟩ := a
    simp at hs
    subst hs
    exact add_none n
  rw [e, add_none, Nat.add_assoc]
  exact VR.ptr (a := ⟨a.block, a.off + n, none⟩) rfl hp
def oFieldAt (P : Program) (t : TypeId) (x : Value) (f : Nat) (h : List AO) : Option Out :=
  match x, P.underlying t with
  | .pointer (some a), some (.struct fs) =>
    match fs[f]? with
    | some fd =>
      match P.info? fd.type with
      | some i => if i.size == 0 then none else some (.value (.pointer (some (a.add fd.offset))), h, none)
      | none => none
    | none => none
  | _, _ => none
theorem fieldAt_ok {t : TypeId} {x x' : Value} {f : Nat} (hx : VR s x x') {r : Out} (hr : oFieldAt P t x f h = some r) : Okay0 P s h w (aval (Instr.fieldAt t x' f)) r := by
  unfold oFieldAt at hr
  split at hr
  · rename_i a fs hu
    obtain ⟨p, hs, hp, rfl⟩ := hx.ptr_inv
    split at hr
    · rename_i fd hf
      split at hr
      · rename_i i hi
        split at hr
        · cases hr
        · rename_i hz
          cases hr
          refine okay0 ?_ (vr_add trivial hs hp fd.offset)
          simp at hz
          simp [Instr.fieldAt, run_under hu, hf, Instr.sureAddr, fieldPlace, run_size hi, hz]
      · cases hr
    · cases hr
  · cases hr
def oIndexAt (P : Program) (t : TypeId) (x ix : Value) (h : List AO) : Option Out :=
  match ix, P.underlying t, x with
  | .int _ i, some (.array len e), .pointer (some a) =>
    match P.info? e with
    | some n => if decide (0 ≤ i) && decide (i < len) then some (.value (.pointer (some (a.add (i.toNat * n.size)))), h, none) else none
    | none => none
  | .int _ i, some (.slice e), .slice (some a) len _ =>
    match P.info? e with
    | some n => if decide (0 ≤ i) && decide (i < len) then some (.value (.pointer (some (a.add (i.toNat * n.size)))), h, none) else none
    | none => none
  | _, _, _ => none
theorem indexAt_ok {t : TypeId} {x x' ix ix' : Value} (hx : VR s x x') (hi : VR s ix ix') {r : Out} (hr : oIndexAt P t x ix h = some r) : Okay0 P s h w (aval (Instr.indexAt t x' ix')) r := by
  unfold oIndexAt at hr
  split at hr
  · rename_i kk i len e a hu
    obtain ⟨p, hs, hp, rfl⟩ := hx.ptr_inv
    rw [hi.int_inv]
    split at hr
    · rename_i n hn
      split at hr
      · rename_i hc
        cases hr
        simp at hc
        refine okay0 ?_ (vr_add trivial hs hp (i.toNat * n.size))
        simp [Instr.indexAt, asIntOf, run_under hu, Instr.sureAddr, hc.1, hc.2, run_size hn]
      · cases hr
    · cases hr
  · rename_i kk i e a len c hu
    obtain ⟨p, c', hs, hp, _, rfl⟩ := hx.slice_inv
    rw [hi.int_inv]
    split at hr
    · rename_i n hn
      split at hr
      · rename_i hc
        cases hr
        simp at hc
        refine okay0 ?_ (vr_add trivial hs hp (i.toNat * n.size))
        simp [Instr.indexAt, asIntOf, run_under hu, hc.1, hc.2, run_size hn]
      · cases hr
    · cases hr
  · cases hr
end
end Go.Proofs.YtokeopmmnpmfeaaDoor.Ex
end
section
namespace Go.Proofs.YtokeopmmnpmfeaaDoor.Ex
set_option maxRecDepth 20000

open Go Go.RowKit

/-- What a computation that touches no memory comes to. -/
def pureRun (P : Program) {α : Type} : Sem α → Option α
  | .pure a => some a
  | .program k => pureRun P (k P)
  | .mark _ k => pureRun P k
  | _ => none
theorem pureRun_ok {P : Program} {α : Type} (x : Sem α) {a : α} (h : pureRun P x = some a) (w : World) : x.run P w = .ok a w := by
  induction x with
  | pure b => simp [pureRun] at h; subst h; rfl
  | program k ih => simp only [Sem.run]; exact ih P (by simpa [pureRun] using h)
  | mark m k ih => simp only [Sem.run]; exact ih (by simpa [pureRun] using h)
  | _ => simp [pureRun] at h

def chooses : Op → Bool
  | .select _ _ => true
  | _ => false
def oPure (P : Program) (ρ : Operand → Value) (o : Oper) (h : List AO) : Option Out :=
  if !chooses o.op && o.op.operands.toList.all (fun x => flat (ρ x)) then
    match pureRun P (execOp ρ o) with
    | some (.value v) => if flat v then some (.value v, h, none) else none
    | some .skip => some (.skip, h, none)
    | _ => none
  else none

section
variable {P : Program} {wb : Wb} {k : Nat} {s : Ren} {h : List AO} {w : World}
theorem pure_ok {ρ ρ' : Operand → Value} {o : Oper} (hρ : ∀ x ∈ o.op.operands, VR s (ρ x) (ρ' x)) {r : Out} (hr : oPure P ρ o h = some r) : Okay0 P s h w (execOp ρ' o) r := by
  unfold oPure at hr
  split at hr
  · rename_i hc
    simp only [Bool.and_eq_true, Bool.not_eq_true'] at hc
    have e : execOp ρ o = execOp ρ' o := execOp_congr o (fun cs b e => by rw [e] at hc; exact absurd hc.1 (by simp [chooses])) fun x hx =>
      ((hρ x hx).eq_of_flat (List.all_eq_true.1 hc.2 x (by simpa using hx))).symm
    rw [← e]
    split at hr
    · rename_i v hv
      split at hr
      · rename_i hf
        cases hr
        exact ⟨_, pureRun_ok _ hv w, VR.same hf, rfl⟩
      · cases hr
    · rename_i hv
      cases hr
      exact ⟨_, pureRun_ok _ hv w, trivial, rfl⟩
    · cases hr
  · cases hr

def oNil (x : Value) (h : List AO) : Option Out :=
  match x with
  | .pointer (some a) => some (.value (.pointer (some a)), h, none)
  | .func (.func f) a b => some (.value (.func (.func f) a b), h, none)
  | _ => none
def nilOp (x : Value) : Sem Next :=
  match x with
  | .pointer none | .nilIface | .nilFunc => runtimePanic .nilDeref
  | .func (.method name) first captured =>
    match (first[0]? : Option Value) with
    | some .nilIface => runtimePanic .nilDeref
    | some (.iface t w) => do
      if (← nilAhead ((← program).types.size + Made.depth) t w name) != some false then
        unsupported (.noEntry "op/nilCheck.the method's receiver behind this interface value is a nil pointer, or cannot be seen to be none, and the arguments act or may panic (ledger 612)")
      pure (.value (.func (.method name) first captured))
    | _ => pure (.value (.func (.method name) first captured))
  | x => pure (.value x)
theorem nil_ok {x x' : Value} (hx : VR s x x') {r : Out} (hr : oNil x h = some r) : Okay0 P s h w (nilOp x') r := by
  unfold oNil at hr
  split at hr
  · cases hr
    obtain ⟨p, _, _, rfl⟩ := hx.ptr_inv
    exact ⟨_, rfl, hx, rfl⟩
  · cases hr
    rename_i f a b
    obtain ⟨a⟩ := a
    obtain ⟨b⟩ := b
    obtain ⟨ys, vs, rfl, _, _⟩ := hx.func_inv
    exact ⟨_, rfl, hx, rfl⟩
  · cases hr

def oPick (c x y : Value) (h : List AO) : Option Out :=
  match c with
  | .bool b => some (.value (if b then x else y), h, none)
  | _ => none
theorem pick_ok {c c' x x' y y' : Value} (hc : VR s c c') (hx : VR s x x') (hy : VR s y y') {r : Out} (hr : oPick c x y h = some r) :
    Okay0 P s h w (do pure (.value (if ← asBool c' then x' else y'))) r := by
  unfold oPick at hr
  split at hr
  · rename_i b
    cases hr
    rw [hc.bool_inv]
    refine ⟨.value (if b then x' else y'), by simp [asBool], ?_, rfl⟩
    cases b
    · exact hy
    · exact hx
  · cases hr

def oExtract (x : Value) (i : Nat) (h : List AO) : Option Out :=
  match x with
  | .tuple vs =>
    match vs.toList[i]? with
    | some v => some (.value v, h, none)
    | none => none
  | _ => none
theorem extract_ok {x x' : Value} (hx : VR s x x') {i : Nat} {r : Out} (hr : oExtract x i h = some r) : Okay0 P s h w (aval (Instr.extract x' i)) r := by
  unfold oExtract at hr
  split at hr
  · rename_i vs
    obtain ⟨vs⟩ := vs
    obtain ⟨ys, rfl, hl⟩ := hx.tuple_inv
    split at hr
    · rename_i v hv
      cases hr
      obtain ⟨y, hy, hvy⟩ := hl.get hv
      refine okay0 ?_ hvy
      simp [Instr.extract, hy]
    · cases hr
  · cases hr

/-! Parts of a value. -/
def oPart (P : Program) (t : TypeId) (cs : List Value) (off : Nat) : Option Value :=
  match P.underlying t, P.info? t with
  | some d, some i => if aggD d then some (.agg ⟨(cs.drop off).take i.size⟩) else cs[off]?
  | _, _ => none
theorem part_ok {t : TypeId} {cs cs' : List Value} (hl : LR s cs cs') {off : Nat} {v : Value} (hr : oPart P t cs off = some v) : ∃ v', (part t ⟨cs'⟩ off).run P w = .ok v' w ∧ VR s v v' := by
  unfold oPart at hr
  split at hr
  · rename_i d i hd hi
    split at hr
    · rename_i ha
      cases hr
      refine ⟨.agg ⟨(cs'.drop off).take i.size⟩, ?_, VR.agg ((hl.drop off).take i.size).1 ((hl.drop off).take i.size).2⟩
      simp [part, run_aggD hd, ha, run_size hi]
    · rename_i ha
      obtain ⟨v', hv', hvr⟩ := hl.get hr
      exact ⟨v', by simp [part, run_aggD hd, ha, hv'], hvr⟩
  · cases hr
def oField (P : Program) (t : TypeId) (x : Value) (f : Nat) (h : List AO) : Option Out :=
  match x, P.underlying t with
  | .agg cs, some (.struct fs) =>
    match fs[f]? with
    | some fd =>
      match oPart P fd.type cs.toList fd.offset with
      | some v => some (.value v, h, none)
      | none => none
    | none => none
  | _, _ => none
theorem field_ok {t : TypeId} {x x' : Value} (hx : VR s x x') {f : Nat} {r : Out} (hr : oField P t x f h = some r) : Okay0 P s h w (aval (Instr.field t x' f)) r := by
  unfold oField at hr
  split at hr
  · rename_i cs fs hu
    obtain ⟨cs⟩ := cs
    obtain ⟨ys, rfl, hl⟩ := hx.agg_inv
    split at hr
    · rename_i fd hf
      split at hr
      · rename_i v hv
        cases hr
        obtain ⟨v', h1, h2⟩ := part_ok (w := w) hl hv
        refine okay0 ?_ h2
        simp [Instr.field, run_under hu, hf, asAgg, h1]
      · cases hr
    · cases hr
  · cases hr
def oIndex (P : Program) (t : TypeId) (x ix : Value) (h : List AO) : Option Out :=
  match ix, P.underlying t, x with
  | .int _ i, some (.array len e), .agg cs =>
    match P.info? e with
    | some n =>
      if decide (0 ≤ i) && decide (i < len) then
        match oPart P e cs.toList (i.toNat * n.size) with
        | some v => some (.value v, h, none)
        | none => none
      else none
    | none => none
  | .int _ i, some .string, .string b =>
    if decide (0 ≤ i) then
      match b.data.toList[i.toNat]? with
      | some c => some (.value (.int .u8 c.toNat), h, none)
      | none => none
    else none
  | _, _, _ => none
theorem bytes_get (b : ByteArray) (i : Nat) : b[i]? = b.data.toList[i]? := by
  by_cases hi : i < b.size
  · rw [getElem?_pos b i hi, List.getElem?_eq_getElem (by simpa using hi)]; rfl
  · rw [getElem?_neg b i hi, List.getElem?_eq_none (by simpa using hi)]
theorem index_ok {t : TypeId} {x x' ix ix' : Value} (hx : VR s x x') (hi : VR s ix ix') {r : Out} (hr : oIndex P t x ix h = some r) : Okay0 P s h w (aval (Instr.index t x' ix')) r := by
  unfold oIndex at hr
  split at hr
  · rename_i kk i len e cs hu
    obtain ⟨cs⟩ := cs
    obtain ⟨ys, rfl, hl⟩ := hx.agg_inv
    rw [hi.int_inv]
    split at hr
    · rename_i n hn
      split at hr
      · rename_i hc
        simp at hc
        split at hr
        · rename_i v hv
          cases hr
          obtain ⟨v', h1, h2⟩ := part_ok (w := w) hl hv
          refine okay0 ?_ h2
          simp [Instr.index, asIntOf, run_under hu, hc.1, hc.2, run_size hn, h1]
        · cases hr
      · cases hr
    · cases hr
  · rename_i kk i b hu
    rw [hi.int_inv, hx.string_inv]
    split at hr
    · rename_i hc
      simp at hc
      split at hr
      · rename_i c hv
        cases hr
        refine okay0 ?_ (VR.same rfl)
        rw [← bytes_get] at hv
        simp [Instr.index, asIntOf, run_under hu, hc, hv]
      · cases hr
    · cases hr
  · cases hr

/-! What is nil. -/
def oEqNil (P : Program) (t : TypeId) (x y : Value) : Option Bool :=
  match P.underlying t, x, y with
  | some (.pointer _), .pointer none, .pointer b => some b.isNone
  | some (.pointer _), .pointer (some _), .pointer none => some false
  | some (.slice _), .slice none _ _, .slice b _ _ => some b.isNone
  | some (.slice _), .slice (some _) _ _, .slice none _ _ => some false
  | some (.map _ _), .map none, .map b => some b.isNone
  | some (.map _ _), .map (some _), .map none => some false
  | _, _, _ => none
end
end Go.Proofs.YtokeopmmnpmfeaaDoor.Ex
end
section
namespace Go.Proofs.YtokeopmmnpmfeaaDoor.Ex
set_option maxRecDepth 20000

open Go Go.RowKit

section
variable {P : Program} {wb : Wb} {k : Nat} {s : Ren} {h : List AO} {w : World}

theorem eqNil_d (d0 : Nat) {t : TypeId} {x x' y y' : Value} (hx : VR s x x') (hy : VR s y y') {b : Bool} (hr : oEqNil P t x y = some b) :
    (Op.equalIn (d0 + 1) t x' y').run P w = .ok b w ∧ ∀ op xo yo, (eqGuard op t xo yo x' y').run P w = .ok () w := by
  unfold oEqNil at hr
  split at hr
  · rename_i d q hu
    cases hr
    rw [hx.eq_of_flat rfl]
    have hq : ∃ q', y' = .pointer q' ∧ q'.isNone = q.isNone := by
      cases q with
      | none => exact ⟨none, hy.eq_of_flat rfl, rfl⟩
      | some a => obtain ⟨p, _, _, rfl⟩ := hy.ptr_inv; exact ⟨_, rfl, rfl⟩
    obtain ⟨q', rfl, hq⟩ := hq
    refine ⟨by simp [Op.equalIn, run_under hu, hq], fun op xo yo => ?_⟩
    unfold eqGuard; cases op <;> simp
  · rename_i d q hu
    cases hr
    obtain ⟨p, _, _, rfl⟩ := hx.ptr_inv
    rw [hy.eq_of_flat rfl]
    refine ⟨by simp [Op.equalIn, run_under hu], fun op xo yo => ?_⟩
    unfold eqGuard; cases op <;> simp
  · rename_i d l c q l' c' hu
    cases hr
    rw [hx.eq_of_flat rfl]
    have hq : ∃ q' m n, y' = .slice q' m n ∧ q'.isNone = q.isNone := by
      cases q with
      | none => exact ⟨none, _, _, hy.eq_of_flat rfl, rfl⟩
      | some a => obtain ⟨p, _, _, _, _, rfl⟩ := hy.slice_inv; exact ⟨_, _, _, rfl, rfl⟩
    obtain ⟨q', m, n, rfl, hq⟩ := hq
    refine ⟨by simp [Op.equalIn, run_under hu, hq], fun op xo yo => ?_⟩
    unfold eqGuard; cases op <;> simp
  · rename_i d q l c l' c' hu
    cases hr
    obtain ⟨p, _, _, _, _, rfl⟩ := hx.slice_inv
    rw [hy.eq_of_flat rfl]
    refine ⟨by simp [Op.equalIn, run_under hu], fun op xo yo => ?_⟩
    unfold eqGuard; cases op <;> simp
  · rename_i d e q hu
    cases hr
    rw [hx.eq_of_flat rfl]
    have hq : ∃ q', y' = .map q' ∧ q'.isNone = q.isNone := by
      cases q with
      | none => exact ⟨none, hy.eq_of_flat rfl, rfl⟩
      | some a => obtain ⟨p, _, rfl⟩ := hy.map_inv; exact ⟨_, rfl, rfl⟩
    obtain ⟨q', rfl, hq⟩ := hq
    refine ⟨by simp [Op.equalIn, run_under hu, hq], fun op xo yo => ?_⟩
    unfold eqGuard; cases op <;> simp
  · rename_i d e q hu
    cases hr
    obtain ⟨p, _, rfl⟩ := hx.map_inv
    rw [hy.eq_of_flat rfl]
    refine ⟨by simp [Op.equalIn, run_under hu], fun op xo yo => ?_⟩
    unfold eqGuard; cases op <;> simp
  · cases hr
theorem eqNil_ok {t : TypeId} {x x' y y' : Value} (hx : VR s x x') (hy : VR s y y') {b : Bool} (hr : oEqNil P t x y = some b) :
    (Op.equal t x' y').run P w = .ok b w ∧ ∀ op xo yo, (eqGuard op t xo yo x' y').run P w = .ok () w := eqNil_d 9999 hx hy hr
def oCmp (P : Program) (op : BinOp) (t : TypeId) (x y : Value) (h : List AO) : Option Out :=
  match op, oEqNil P t x y with
  | .eql, some b => some (.value (.bool b), h, none)
  | .neq, some b => some (.value (.bool (!b)), h, none)
  | _, _ => none
theorem oEqNil_form {t : TypeId} {x y : Value} {b : Bool} (hr : oEqNil P t x y = some b) :
    (∃ p q, x = .pointer p ∧ y = .pointer q) ∨ (∃ p l c q m d, x = .slice p l c ∧ y = .slice q m d) ∨ (∃ p q, x = .map p ∧ y = .map q) := by
  unfold oEqNil at hr
  split at hr
  · exact .inl ⟨_, _, rfl, rfl⟩
  · exact .inl ⟨_, _, rfl, rfl⟩
  · exact .inr (.inl ⟨_, _, _, _, _, _, rfl, rfl⟩)
  · exact .inr (.inl ⟨_, _, _, _, _, _, rfl, rfl⟩)
  · exact .inr (.inr ⟨_, _, rfl, rfl⟩)
  · exact .inr (.inr ⟨_, _, rfl, rfl⟩)
  · cases hr
theorem VR.ptr_form {s : Ren} {p : Option Addr} {v' : Value} (h : VR s (.pointer p) v') : ∃ q, v' = .pointer q := by
  cases p with
  | none => exact ⟨none, h.eq_of_flat rfl⟩
  | some a => obtain ⟨p, _, _, rfl⟩ := h.ptr_inv; exact ⟨_, rfl⟩
theorem VR.slice_form {s : Ren} {p : Option Addr} {l c : Nat} {v' : Value} (h : VR s (.slice p l c) v') : ∃ q c', v' = .slice q l c' := by
  cases p with
  | none => exact ⟨none, _, h.eq_of_flat rfl⟩
  | some a => obtain ⟨p, _, _, _, _, rfl⟩ := h.slice_inv; exact ⟨_, _, rfl⟩
theorem VR.map_form {s : Ren} {p : Option Nat} {v' : Value} (h : VR s (.map p) v') : ∃ q, v' = .map q := by
  cases p with
  | none => exact ⟨none, h.eq_of_flat rfl⟩
  | some a => obtain ⟨p, _, rfl⟩ := h.map_inv; exact ⟨_, rfl⟩
theorem cmp_ok {op : BinOp} {t : TypeId} {x x' y y' : Value} (hx : VR s x x') (hy : VR s y y') {xo yo : Operand} {r : Out} (hr : oCmp P op t x y h = some r) :
    Okay0 P s h w (aval (do eqGuard op t xo yo x' y'; binOp op t x' y')) r := by
  unfold oCmp at hr
  split at hr
  · rename_i b hb
    cases hr
    obtain ⟨h1, h2⟩ := eqNil_ok (w := w) hx hy hb
    refine okay0 (v' := .bool b) ?_ (VR.same rfl)
    have h3 : (binOp .eql t x' y').run P w = .ok (.bool b) w := by
      rcases oEqNil_form hb with ⟨p, q, rfl, rfl⟩ | ⟨p, l, c, q, m, d, rfl, rfl⟩ | ⟨p, q, rfl, rfl⟩
      · obtain ⟨_, rfl⟩ := hx.ptr_form
        obtain ⟨_, rfl⟩ := hy.ptr_form
        simp [binOp, h1]
      · obtain ⟨_, _, rfl⟩ := hx.slice_form
        obtain ⟨_, _, rfl⟩ := hy.slice_form
        simp [binOp, h1]
      · obtain ⟨_, rfl⟩ := hx.map_form
        obtain ⟨_, rfl⟩ := hy.map_form
        simp [binOp, h1]
    simp [h2, h3]
  · rename_i b hb
    cases hr
    obtain ⟨h1, h2⟩ := eqNil_ok (w := w) hx hy hb
    refine okay0 (v' := .bool !b) ?_ (VR.same rfl)
    have h3 : (binOp .neq t x' y').run P w = .ok (.bool !b) w := by
      rcases oEqNil_form hb with ⟨p, q, rfl, rfl⟩ | ⟨p, l, c, q, m, d, rfl, rfl⟩ | ⟨p, q, rfl, rfl⟩
      · obtain ⟨_, rfl⟩ := hx.ptr_form
        obtain ⟨_, rfl⟩ := hy.ptr_form
        simp [binOp, h1]
      · obtain ⟨_, _, rfl⟩ := hx.slice_form
        obtain ⟨_, _, rfl⟩ := hy.slice_form
        simp [binOp, h1]
      · obtain ⟨_, rfl⟩ := hx.map_form
        obtain ⟨_, rfl⟩ := hy.map_form
        simp [binOp, h1]
    simp [h2, h3]
  · cases hr

/-! Calls. -/
def oCall (P : Program) (f : Value) (args : List Value) (h : List AO) : Option Out :=
  match f with
  | .func (.func g) a c =>
    match P.funcs[g]? with
    | some fn => if fn.body.isSome then some (.enter g ⟨a.toList ++ args ++ c.toList⟩, h, none) else none
    | none => none
  | _ => none
theorem call_ok (hng : NoNG P) {ρ ρ' : Operand → Value} {c : Call} {f : Operand} (hc : c.callee = .value f) (type : TypeId) (hf : VR s (ρ f) (ρ' f)) (ha : LR s (c.args.toList.map ρ) (c.args.toList.map ρ')) {r : Out}
    (hr : oCall P (ρ f) (c.args.toList.map ρ) h = some r) : Okay0 P s h w (do let d ← resolve ρ' c type; invoke d.target d.args) r := by
  unfold oCall at hr
  split at hr
  · rename_i g a b hfv
    rw [hfv] at hf
    obtain ⟨a⟩ := a
    obtain ⟨b⟩ := b
    obtain ⟨ys, vs, hf', h1, h2⟩ := hf.func_inv
    split at hr
    · rename_i fn hfn
      split at hr
      · rename_i hcond
        cases hr
        have hb : ¬ fn.body = none := by
          intro e
          rw [e] at hcond
          simp at hcond
        have hn := hng g fn hfn
        refine ⟨.enter g ((⟨ys⟩ : Array Value) ++ c.args.map ρ' ++ (⟨vs⟩ : Array Value)), ?_, ⟨rfl, ?_⟩, rfl⟩
        · simp [resolve, hc, hf', Deferred.ofValue, invoke, callFunc, program, Sem.run, hfn, hn, hb]
        · simp only [Array.toList_append, Array.toList_map]
          rw [List.append_assoc]
          rw [List.append_assoc]
          exact h1.append (ha.append h2)
      · cases hr
    · cases hr
  · cases hr
def oLen (P : Program) (c : Call) (args : List Value) (h : List AO) : Option Out :=
  match c.argTypes[0]?, args with
  | some t, x :: _ =>
    match P.underlying t, x with
    | some (.slice _), .slice (some _) n _ => some (.value (.int .i64 n), h, none)
    | some (.array n _), _ => some (.value (.int .i64 n), h, none)
    | _, _ => none
  | _, _ => none
theorem len_ok {ρ ρ' : Operand → Value} {c : Call} (hc : c.callee = .builtin .len) (type : TypeId) (ha : LR s (c.args.toList.map ρ) (c.args.toList.map ρ')) {r : Out}
    (hr : oLen P c (c.args.toList.map ρ) h = some r) : Okay0 P s h w (do let d ← resolve ρ' c type; invoke d.target d.args) r := by
  unfold oLen at hr
  split at hr
  · rename_i t x rest ht hxs
    obtain ⟨y, hy, hxy⟩ := ha.get (i := 0) (x := x) (by rw [hxs]; rfl)
    have hy0 : (c.args.map ρ')[0]? = some y := by
      rw [← hy, ← Array.toList_map]; exact Array.getElem?_toList.symm
    split at hr
    · rename_i e a n cp hu
      cases hr
      obtain ⟨p, c', _, _, _, rfl⟩ := hxy.slice_inv
      refine ⟨.value (.int .i64 n), ?_, VR.same rfl, rfl⟩
      simp [resolve, hc, invoke, builtin, Builtin.len_, ht, hy0, run_under hu, goInt]
    · rename_i n e hu
      cases hr
      refine ⟨.value (.int .i64 n), ?_, VR.same rfl, rfl⟩
      simp [resolve, hc, invoke, builtin, Builtin.len_, ht, hy0, run_under hu, goInt]
    · cases hr
  · cases hr
end
end Go.Proofs.YtokeopmmnpmfeaaDoor.Ex
end
section
namespace Go.Proofs.YtokeopmmnpmfeaaDoor.Ex
set_option maxRecDepth 20000

open Go Go.RowKit

/-- Numbers that must be the same (behind two orders). -/
abbrev Cs := List (Int × Int)
/-- The lowest block that was written, and what must be the same. -/
abbrev Mk := Option Nat × Cs
structure St where
  t : List Value
  h : List AO
  m : Mk
def lowO (a b : Option Nat) : Option Nat :=
  match a, b with
  | none, b => b
  | some a, none => some a
  | some a, some b => some (min a b)
def low (a b : Mk) : Mk := (lowO a.1 b.1, a.2 ++ b.2)
def BndO (k : Nat) (m : Option Nat) : Prop := ∀ i, m = some i → k ≤ i
def Bnd (k : Nat) (m : Mk) : Prop := BndO k m.1 ∧ ∀ c ∈ m.2, c.1 = c.2
theorem bnd_lowO {k : Nat} {a b : Option Nat} (h : BndO k (lowO a b)) : BndO k a ∧ BndO k b := by
  cases a with
  | none => exact ⟨fun i h => (by cases h), h⟩
  | some a =>
    cases b with
    | none => exact ⟨h, fun i h => (by cases h)⟩
    | some b =>
      have := h _ rfl
      exact ⟨fun i hi => (by cases hi; omega), fun i hi => (by cases hi; omega)⟩
theorem bnd_low {k : Nat} {a b : Mk} (h : Bnd k (low a b)) : Bnd k a ∧ Bnd k b := by
  obtain ⟨h1, h2⟩ := h
  obtain ⟨g1, g2⟩ := bnd_lowO h1
  exact ⟨⟨g1, fun c hc => h2 c (List.mem_append_left _ hc)⟩, ⟨g2, fun c hc => h2 c (List.mem_append_right _ hc)⟩⟩
def lookA (t : List Value) : Operand → Value
  | .tmp i => t.getD i undef
  | .const v => v
  | .func f => .func (.func f) #[] #[]
  | .global g => .pointer (some ⟨g, 0, none⟩)
/-- Is a block a package's variable, at its own place? -/
def isG (h : List AO) (g : Nat) : Bool :=
  match h[g]? with
  | some o => o.live && (match o.es with | some e => Nat.beq e GM | none => false)
  | none => false
def okX (h : List AO) : Operand → Bool
  | .const v => flat v
  | .global g => isG h g
  | _ => true
def GlOk (s : Ren) (h : List AO) : Prop := ∀ g, isG h g = true → ∃ p, s g = some p ∧ p.blk = g ∧ p.off = 0
theorem HR.glob {wb : Wb} {k : Nat} {s : Ren} {h : List AO} {w : World} (H : HR wb k s h w) : GlOk s h := by
  intro g hg
  unfold isG at hg
  cases ho : h[g]? with
  | none => rw [ho] at hg; cases hg
  | some o =>
    rw [ho] at hg
    simp only [Bool.and_eq_true] at hg
    obtain ⟨p, hp, he, _⟩ := H.obj g o ho hg.1
    have h2 := hg.2
    cases hes : o.es with
    | none => rw [hes] at h2; cases h2
    | some e =>
      rw [hes] at h2
      have h3 : e = GM := Nat.eq_of_beq_eq_true h2
      obtain ⟨h4, h5⟩ := H.gl g p hp (by rw [he, hes, h3])
      exact ⟨p, hp, h4, h5⟩
def putA (t : List Value) (d : Option Tmp) (v : Value) : List Value :=
  match d with
  | some d => t.set d v
  | none => t
def yA (ops : Array Oper) (t : List Value) (j : Nat) : Option Bool :=
  match ((ops[j]?).bind (·.dst)).bind (fun d => t[d]?) with
  | some (.bool b) => some b
  | _ => none
def wantedA (ops : Array Oper) (t : List Value) (o : Oper) : Bool :=
  match o.guard with
  | none => true
  | some (j, want) => yA ops t j == some want

structure SR (wb : Wb) (k : Nat) (s : Ren) (x : St) (a : Act) (w : World) : Prop where
  t : LR s x.t a.tmps.toList
  d : a.defers = []
  h : HR wb k s x.h w

theorem eval_ok {s : Ren} {t : List Value} {a : Act} {hp : List AO} (h : LR s t a.tmps.toList) (hgl : GlOk s hp) {x : Operand} (hx : okX hp x = true) : VR s (lookA t x) (a.eval x) := by
  cases x with
  | tmp i =>
    have := h.getD i (d := undef) rfl
    simpa [lookA, Act.eval, List.getD, Array.getD_eq_getD_getElem?] using this
  | const v => exact .same hx
  | func f => exact .same rfl
  | global g =>
    obtain ⟨p, h1, h2, h3⟩ := hgl g hx
    have := VR.ptr (s := s) (a := ⟨g, 0, none⟩) rfl h1
    rw [h2, h3] at this
    exact this
theorem put_ok {s : Ren} {t : List Value} {a : Act} (h : LR s t a.tmps.toList) (d : Option Tmp) {v v' : Value} (hv : VR s v v') : LR s (putA t d v) (a.put d v').tmps.toList := by
  cases d with
  | none => exact h
  | some d => simpa [putA, Act.put] using h.set hv d
theorem vr_bool {s : Ren} {v : Value} {b : Bool} (h : VR s v (.bool b)) : v = .bool b := by
  generalize e : Value.bool b = v' at h
  cases h with
  | same _ => rfl
  | _ => cases e
theorem yielded_ok {s : Ren} (ops : Array Oper) {t : List Value} {a : Act} (h : LR s t a.tmps.toList) (j : Nat) : yielded ops a.tmps j = yA ops t j := by
  unfold yielded yA
  cases hd : (ops[j]?).bind (·.dst) with
  | none => rfl
  | some d =>
    simp only [Option.bind_some]
    cases hv : t[d]? with
    | none =>
      have : a.tmps[d]? = none := by
        rw [List.getElem?_eq_none_iff] at hv
        rw [Array.getElem?_eq_none_iff]
        have := h.1
        simp at this
        omega
      rw [this]
    | some v =>
      obtain ⟨v', hv', hr⟩ := h.get hv
      rw [Array.getElem?_toList] at hv'
      rw [hv']
      by_cases hb : ∃ b, v = .bool b
      · obtain ⟨b, rfl⟩ := hb
        rw [hr.bool_inv]
      · have hb1 : ∀ b, v ≠ .bool b := fun b e => hb ⟨b, e⟩
        have hb2 : ∀ b, v' ≠ .bool b := fun b e => hb ⟨b, vr_bool (e ▸ hr)⟩
        have e1 : ∀ u : Value, (∀ b, u ≠ .bool b) → (match some u with | some (Value.bool b) => some b | _ => none) = none := by
          intro u hu
          cases u <;> first | rfl | exact absurd rfl (hu _)
        exact (e1 v' hb2).trans (e1 v hb1).symm
theorem wanted_ok {s : Ren} {ops : Array Oper} {t : List Value} {a : Act} (h : LR s t a.tmps.toList) (o : Oper) : Region.wanted o (yielded ops a.tmps) = wantedA ops t o := by
  unfold Region.wanted wantedA
  cases o.guard with
  | none => rfl
  | some g => simp only [yielded_ok ops h]

/-- How temporaries are read and laid: as they are (accP), or by the kernel's own recursors (accQ): the same. -/
structure Acc where
  look : List Value → Operand → Value
  put : List Value → Option Tmp → Value → List Value
  same : Option Out → Option Out → Bool
noncomputable def sameC (a b : Option Out) : Bool := @decide (a = b) (Classical.propDecidable _)
theorem sameC_ok {a b : Option Out} (h : sameC a b = true) : a = b := @of_decide_eq_true _ (Classical.propDecidable _) h
noncomputable def accP : Acc := ⟨lookA, putA, sameC⟩
noncomputable def nthQ (l : List Value) : Nat → Value := List.rec (motive := fun _ => Nat → Value) (fun _ => undef) (fun x _ ih n => Nat.rec (motive := fun _ => Value) x (fun m _ => ih m) n) l
noncomputable def setQ (v : Value) (l : List Value) : Nat → List Value := List.rec (motive := fun _ => Nat → List Value) (fun _ => []) (fun x r ih n => Nat.rec (motive := fun _ => List Value) (v :: r) (fun m _ => x :: ih m) n) l
theorem nthQ_eq : ∀ (l : List Value) (n : Nat), nthQ l n = l.getD n undef
  | [], _ => rfl
  | _ :: _, 0 => rfl
  | _ :: l, n + 1 => nthQ_eq l n
theorem setQ_eq (v : Value) : ∀ (l : List Value) (n : Nat), setQ v l n = l.set n v
  | [], _ => rfl
  | _ :: _, 0 => rfl
  | x :: l, n + 1 => congrArg (x :: ·) (setQ_eq v l n)
noncomputable def accQ : Acc := ⟨fun t x => match x with | .tmp i => nthQ t i | .const v => v | .func f => .func (.func f) #[] #[] | .global g => .pointer (some ⟨g, 0, none⟩), fun t d v => match d with | some d => setQ v t d | none => t, sameC⟩
theorem accQ_eq : accQ = accP := by
  unfold accQ accP
  congr 1
  · funext t x
    cases x <;> first | rfl | exact nthQ_eq t _
  · funext t d v
    cases d <;> first | rfl | exact setQ_eq v t _
abbrev OpFn := (Operand → Value) → Oper → List AO → Option Out
def OpOk (P : Program) (op : OpFn) : Prop :=
  ∀ (wb : Wb) (k : Nat) (s : Ren) (h : List AO) (w : World) (ρ ρ' : Operand → Value) (o : Oper) (r : Out), HR wb k s h w → (∀ x ∈ o.op.operands, VR s (ρ x) (ρ' x)) → op ρ o h = some r → BndO k r.2.2 →
    Okay P wb k s w (execOp ρ' o) r
structure Rec where
  run : FuncId → Code → St → Option (Exit × St)
  hook : FuncId → List Value → List AO → Option (Value × List AO × Cs)
  orc : Tmp → List Value → Option Value
  acc : Acc
/-- Calls that are told by a contract. -/
def HookOk (P : Program) (hk : FuncId → List Value → List AO → Option (Value × Cs)) : Prop :=
  ∀ (f : FuncId) (args : List Value) (h : List AO) (v : Value) (cs : Cs), hk f args h = some (v, cs) → (∀ c ∈ cs, c.1 = c.2) → ∀ (wb : Wb) (k : Nat) (s : Ren) (w : World), HR wb k s h w → Calls P f ⟨args⟩ w fun e w' => e = .returned v ∧ Gr w w'
/-- The same, of any arguments, as they are told. -/
def HookOk2 (P : Program) (hk : FuncId → List Value → List AO → Option (Value × Cs)) : Prop :=
  ∀ (f : FuncId) (args : List Value) (h : List AO) (v : Value) (cs : Cs), hk f args h = some (v, cs) → (∀ c ∈ cs, c.1 = c.2) → ∀ (wb : Wb) (k : Nat) (s : Ren) (w : World) (args' : List Value), HR wb k s h w → LR s args args' →
    Calls P f ⟨args'⟩ w fun e w' => e = .returned v ∧ Gr w w'
/-- Calls that are told by a contract and may lay blocks behind those that are there. -/
abbrev Hook3 := FuncId → List Value → List AO → Option (Value × List AO × Cs)
/-- From here on a block's number of elements means: what a call leaves in a block that is there already. -/
def EFF : Nat := 4000000000
def effB (o : AO) : Option Nat :=
  bif o.live then none else match o.es with
  | some e => bif Nat.ble EFF e then some (e - EFF) else none
  | none => none
def setC (h : List AO) (b : Nat) (cs : List Value) : List AO :=
  match h[b]? with
  | some o => h.set b ⟨o.live, o.es, cs⟩
  | none => h
/-- The memory behind a call that is told: what it leaves in blocks, and blocks behind those that are there. -/
def hookH : List AO → List AO → List AO
  | h, [] => h
  | h, o :: new =>
    match effB o with
    | some b => hookH (setC h b o.cs) new
    | none => h ++ o :: new
def effL : List AO → Option Nat
  | [] => none
  | o :: new =>
    match effB o with
    | some b => lowO (some b) (effL new)
    | none => none
def HookOk3 (P : Program) (hk : Hook3) : Prop :=
  ∀ (f : FuncId) (args : List Value) (h : List AO) (v : Value) (new : List AO) (cs : Cs), hk f args h = some (v, new, cs) → (∀ c ∈ cs, c.1 = c.2) → ∀ (wb : Wb) (k : Nat) (s : Ren) (w : World) (args' : List Value), BndO k (effL new) → HR wb k s h w → LR s args args' →
    Calls P f ⟨args'⟩ w fun e w' => ∃ s' v', e = .returned v' ∧ Le s s' ∧ HR wb k s' (hookH h new) w' ∧ VR s' v v'
def liftH (hk : FuncId → List Value → List AO → Option (Value × Cs)) : Hook3 := fun f args h =>
  match hk f args h with
  | some (v, cs) => if flat v then some (v, [], cs) else none
  | none => none
theorem lift_ok {P : Program} {hk : FuncId → List Value → List AO → Option (Value × Cs)} (hh : HookOk2 P hk) : HookOk3 P (liftH hk) := by
  intro f args h v new cs hv hc wb k s w args' hb H ha
  unfold liftH at hv
  split at hv
  · rename_i u cs0 hu
    split at hv
    · rename_i hfl
      cases hv
      refine (hh f args h _ _ hu hc wb k s w args' H ha).mono ?_
      rintro e w' ⟨rfl, hg⟩
      exact ⟨s, _, rfl, Le.refl s, H.grow hg, .same hfl⟩
    · cases hv
  · cases hv
def guardH (hk : FuncId → List Value → List AO → Option (Value × Cs)) : FuncId → List Value → List AO → Option (Value × Cs) := fun f args h => if args.all flat then hk f args h else none
theorem guard_ok {P : Program} {hk : FuncId → List Value → List AO → Option (Value × Cs)} (hh : HookOk P hk) : HookOk2 P (guardH hk) := by
  intro f args h v cs hv hc wb k s w args' H ha
  unfold guardH at hv
  split at hv
  · rename_i hall
    rw [ha.eq_of_flat hall]
    exact hh f args h v cs hv hc wb k s w H
  · cases hv
def Post (wb : Wb) (k : Nat) (s : Ren) (x : St) (e : Exit) : Exit → Act → World → Prop := fun e' a w => e' = e ∧ ∃ s', Le s s' ∧ SR wb k s' x a w
/-- What is run of a function's body, and of its parts, is so of any run. -/
def RunOk (P : Program) (rec : Rec) : Prop :=
  ∃ good : FuncId → Code → Prop, (∀ (f : FuncId) (fn : Func) (c : Code), P.funcs[f]? = some fn → fn.body = some c → good f c) ∧
    ∀ (wb : Wb) (k : Nat) (s : Ren) (g : FuncId) (c : Code) (x x' : St) (e : Exit) (a : Act) (w : World), good g c → rec.run g c x = some (e, x') → Bnd k x'.m → SR wb k s x a w → c.wp P (Post wb k s x' e) a w
def RecOk (P : Program) (rec : Rec) : Prop := RunOk P rec ∧ HookOk3 P rec.hook ∧ NoNG P ∧ rec.acc = accP

/-! Results. -/
def resL (P : Program) (t : List Value) (h : List AO) : List ResultVar → Option (List Value)
  | [] => some []
  | .tmp i :: rs =>
    match resL P t h rs with
    | some vs => some (t.getD i undef :: vs)
    | none => none
  | .cell a ty :: rs =>
    match oLoad P ty (t.getD a undef) h, resL P t h rs with
    | some (.value v, _, _), some vs => some (v :: vs)
    | _, _ => none
def oneOf (vs : List Value) : Value :=
  match vs with
  | [v] => v
  | vs => .tuple ⟨vs⟩
theorem oneOf_ok {s : Ren} {vs vs' : List Value} (h : LR s vs vs') : VR s (oneOf vs) (oneOf vs') := by
  match vs, vs', h with
  | [], [], _ => exact .same rfl
  | [v], [v'], h => exact h.uncons.1
  | a :: b :: c, a' :: b' :: c', h => exact VR.tuple h.1 h.2
  | [], _ :: _, h => have := h.1; simp at this
  | [_], [], h => have := h.1; simp at this
  | [_], _ :: _ :: _, h => have := h.1; simp at this
  | _ :: _ :: _, [], h => have := h.1; simp at this
  | _ :: _ :: _, [_], h => have := h.1; simp at this
def resOp (tmps : Array Value) : ResultVar → Sem Value
  | .tmp t => pure (tmps.getD t undef)
  | .cell a t => do loadVar t (← asAddr (tmps.getD a undef))
theorem resL_ok {P : Program} {wb : Wb} {k : Nat} {s : Ren} {t : List Value} {h : List AO} {tmps : Array Value} {w : World} (ht : LR s t tmps.toList) (H : HR wb k s h w) :
    ∀ (l : List ResultVar) (vs : List Value), resL P t h l = some vs → ∃ vs', (l.mapM (resOp tmps)).run P w = .ok vs' w ∧ LR s vs vs'
  | [], vs, hr => by
    simp [resL] at hr
    subst hr
    exact ⟨[], by simp, LR.nil s⟩
  | .tmp i :: rs, vs, hr => by
    simp only [resL] at hr
    split at hr
    · rename_i vs0 h0
      cases hr
      obtain ⟨vs', h1, h2⟩ := resL_ok ht H rs vs0 h0
      refine ⟨tmps.getD i undef :: vs', ?_, LR.cons ?_ h2⟩
      · simp only [List.mapM_cons, resOp, Sem.run_bind, Sem.run_pure, Result.andThen_ok, h1]
      · have := ht.getD i (d := undef) rfl
        simpa [List.getD, Array.getD_eq_getD_getElem?] using this
    · cases hr
  | .cell ad ty :: rs, vs, hr => by
    simp only [resL] at hr
    split at hr
    · rename_i v h' m' vs0 hl h0
      cases hr
      obtain ⟨vs', h1, h2⟩ := resL_ok ht H rs vs0 h0
      have hx : VR s (t.getD ad undef) (tmps.getD ad undef) := by
        have := ht.getD ad (d := undef) rfl
        simpa [List.getD, Array.getD_eq_getD_getElem?] using this
      have hshape : ∃ q, t.getD ad undef = .pointer (some q) := by
        unfold oLoad at hl
        split at hl
        · rename_i q d i e _ _; exact ⟨q, e⟩
        · cases hl
      obtain ⟨q, hq⟩ := hshape
      rw [hq] at hx
      obtain ⟨p, _, hp, hx'⟩ := hx.ptr_inv
      rw [hq] at hl
      unfold oLoad at hl
      split at hl
      · rename_i q2 d i hqe hd hi
        cases hqe
        split at hl
        · rename_i hag
          split at hl
          · rename_i us hus
            cases hl
            obtain ⟨hlen, us', hv, hc⟩ := aload_spec H.mr hus hp
            have e2 := run_loadCells_list (P := P) w ⟨p.blk, p.off + q.off, none⟩ us' hc
            rw [← hv.1, hlen] at e2
            refine ⟨.agg ⟨us'⟩ :: vs', ?_, LR.cons (VR.agg hv.1 hv.2) h2⟩
            have e3 : (resOp tmps (.cell ad ty)).run P w = .ok (.agg ⟨us'⟩) w := by
              simp only [resOp, Sem.run_bind, hx', asAddr, Sem.run_pure, Result.andThen_ok, loadVar, run_aggD hd, hag, if_true, run_size hi, e2]
            simp only [List.mapM_cons, Sem.run_bind, e3, Result.andThen_ok, h1, Sem.run_pure]
          · cases hl
        · rename_i hag
          split at hl
          · rename_i u rest hus
            cases hl
            obtain ⟨hlen, us', hv, hc⟩ := aload_spec H.mr hus hp
            cases us' with
            | nil => have := hv.1; simp at this
            | cons u' rest' =>
              have e2 := hc 0 u' rfl
              rw [add_none] at e2
              simp only [Nat.add_zero] at e2
              refine ⟨u' :: vs', ?_, LR.cons hv.uncons.1 h2⟩
              have e3 : (resOp tmps (.cell ad ty)).run P w = .ok u' w := by
                simp only [resOp, Sem.run_bind, hx', asAddr, Sem.run_pure, Result.andThen_ok, loadVar, run_aggD hd, hag]
                simp [e2]
              simp only [List.mapM_cons, Sem.run_bind, e3, Result.andThen_ok, h1, Sem.run_pure]
          · cases hl
      · cases hl
    · cases hr
theorem results_ok {P : Program} {wb : Wb} {k : Nat} {s : Ren} {t : List Value} {h : List AO} {tmps : Array Value} {w : World} (ht : LR s t tmps.toList) (H : HR wb k s h w) {fn : Func} {vs : List Value}
    (hr : resL P t h fn.results.toList = some vs) : ∃ v', (results fn tmps).run P w = .ok v' w ∧ VR s (oneOf vs) v' := by
  obtain ⟨vs', h1, h2⟩ := resL_ok (P := P) ht H fn.results.toList vs hr
  refine ⟨oneOf vs', ?_, oneOf_ok h2⟩
  have e : results fn tmps = (do let vs ← fn.results.mapM (resOp tmps); pure (if h : vs.size = 1 then vs[0] else .tuple vs)) := rfl
  rw [e, Array.mapM_eq_mapM_toList]
  simp only [Sem.run_bind, Sem.run_map, h1, Result.andThen_ok, Sem.run_pure]
  congr 1
  match vs' with
  | [] => rfl
  | [_] => rfl
  | _ :: _ :: _ => simp [oneOf]
end Go.Proofs.YtokeopmmnpmfeaaDoor.Ex
end
section
namespace Go.Proofs.YtokeopmmnpmfeaaDoor.Ex
set_option maxRecDepth 20000

open Go Go.RowKit

/-- Kinds of cells. -/
inductive Kc where
  | i (k : IntKind)
  | b
  | s
def Kc.fit : Kc → Value → Bool
  | .i k, .int j _ => k == j
  | .b, .bool _ => true
  | .s, .string _ => true
  | _, _ => false
def fitL : List Kc → List Value → Bool
  | [], [] => true
  | k :: ks, v :: vs => k.fit v && fitL ks vs
  | _, _ => false
def kcF (g : TypeId → Option (List Kc)) (cells : TypeId → Nat) : List Field → Nat → Option (List Kc)
  | [], _ => some []
  | f :: fs, off =>
    match g f.type with
    | some ks =>
      if f.name ≠ "_" ∧ f.offset = off ∧ cells f.type = ks.length then
        match kcF g cells fs (off + ks.length) with
        | some ls => some (ks ++ ls)
        | none => none
      else none
    | none => none
def kcT (P : Program) : Nat → TypeId → Option (List Kc)
  | 0, _ => none
  | f + 1, t =>
    match P.underlying t with
    | some .bool => some [.b]
    | some (.int k) => some [.i k]
    | some .string => some [.s]
    | some (.array n e) =>
      match kcT P f e with
      | some ks => if P.cellsOf e = ks.length then some (List.replicate n ks).flatten else none
      | none => none
    | some (.struct fs) =>
      if P.stoodInHeld t then none else kcF (kcT P f) P.cellsOf fs.toList 0
    | _ => none
/-- One cell is the same as another one, of one kind. -/
def eqW : Value → Value → Bool
  | .int _ a, .int _ b => a == b
  | .bool a, .bool b => a == b
  | .string a, .string b => a.data.toList == b.data.toList
  | _, _ => false
def eqD : List Value → List Value → Bool
  | [], [] => true
  | x :: xs, y :: ys => eqW x y && eqD xs ys
  | _, _ => false
theorem fitL.length : ∀ {ks : List Kc} {vs : List Value}, fitL ks vs = true → vs.length = ks.length
  | [], [], _ => rfl
  | _ :: ks, _ :: vs, h => by
    simp only [fitL, Bool.and_eq_true] at h
    simp [fitL.length h.2]
  | [], _ :: _, h => by cases h
  | _ :: _, [], h => by cases h
theorem fitL.split : ∀ {ks ls : List Kc} {vs : List Value}, fitL (ks ++ ls) vs = true → fitL ks (vs.take ks.length) = true ∧ fitL ls (vs.drop ks.length) = true
  | [], _, _, h => by simpa [fitL] using h
  | _ :: ks, ls, [], h => by cases h
  | k :: ks, ls, v :: vs, h => by
    simp only [List.cons_append, fitL, Bool.and_eq_true] at h
    have := fitL.split h.2
    simp [fitL, h.1, this.1, this.2]
theorem eqD_split : ∀ {n : Nat} {xs ys : List Value}, xs.length = ys.length → eqD xs ys = (eqD (xs.take n) (ys.take n) && eqD (xs.drop n) (ys.drop n))
  | 0, xs, ys, _ => by simp [eqD]
  | n + 1, [], [], _ => by simp [eqD]
  | n + 1, x :: xs, y :: ys, h => by
    have := eqD_split (n := n) (xs := xs) (ys := ys) (by simpa using h)
    simp [eqD, this, Bool.and_assoc]
  | _ + 1, [], _ :: _, h => by simp at h
  | _ + 1, _ :: _, [], h => by simp at h
def asV (P : Program) (t : TypeId) (cs : List Value) : Value :=
  match P.underlying t with
  | some d => if aggD d then .agg ⟨cs⟩ else cs.headD undef
  | none => undef
theorem kcT_info {P : Program} {f : Nat} {t : TypeId} {ks : List Kc} (h : kcT P f t = some ks) : ∃ d i, P.underlying t = some d ∧ P.info? t = some i ∧ (aggD d = false → ks.length = 1) := by
  cases f with
  | zero => cases h
  | succ f =>
    unfold kcT at h
    cases hu : P.underlying t with
    | none => rw [hu] at h; cases h
    | some d =>
      have hi : ∃ i, P.info? t = some i := by
        cases hh : P.info? t with
        | none => simp [Program.underlying, hh] at hu
        | some i => exact ⟨i, rfl⟩
      obtain ⟨i, hi⟩ := hi
      refine ⟨d, i, rfl, hi, fun ha => ?_⟩
      rw [hu] at h
      cases d <;> simp_all [aggD] <;> (subst h; rfl)
theorem part_plain {P : Program} {f : Nat} {t : TypeId} {ks : List Kc} (h : kcT P f t = some ks) (hc : P.cellsOf t = ks.length) {cs : List Value} {off : Nat} (hl : off + ks.length ≤ cs.length) (w : World) :
    (part t ⟨cs⟩ off).run P w = .ok (asV P t ((cs.drop off).take ks.length)) w := by
  obtain ⟨d, i, hu, hi, h1⟩ := kcT_info h
  have hs : i.size = ks.length := by rw [← hc]; simp [Program.cellsOf, hi]
  unfold asV
  rw [hu]
  cases ha : aggD d with
  | true => simp [part, run_aggD hu, ha, run_size hi, hs]
  | false =>
    have h2 := h1 ha
    have hlt : off < cs.length := by omega
    have e : (cs.drop off).take ks.length = [cs[off]] := by
      rw [h2, List.drop_eq_getElem_cons hlt]
      rfl
    rw [e]
    simp [part, run_aggD hu, ha, hlt]
theorem asV_agg {P : Program} {t : TypeId} {d : TypeDesc} (hu : P.underlying t = some d) (ha : aggD d = true) (cs : List Value) : asV P t cs = .agg ⟨cs⟩ := by
  unfold asV; rw [hu]; simp [ha]
theorem asV_one {P : Program} {t : TypeId} {d : TypeDesc} (hu : P.underlying t = some d) (ha : aggD d = false) (v : Value) : asV P t [v] = v := by
  unfold asV; rw [hu]; simp [ha]
def EqT (P : Program) (D : Nat) (t : TypeId) (ks : List Kc) : Prop :=
  ∀ (w : World) (xs ys : List Value), fitL ks xs = true → fitL ks ys = true → (Op.equalIn D t (asV P t xs) (asV P t ys)).run P w = .ok (eqD xs ys) w
theorem eqFields_ok {P : Program} {D f : Nat} (ih : ∀ t ks, kcT P f t = some ks → EqT P D t ks) (xs ys : List Value) (w : World) : ∀ (fs : List Field) (off : Nat) (ks : List Kc), kcF (kcT P f) P.cellsOf fs off = some ks → off ≤ xs.length → off ≤ ys.length →
    fitL ks (xs.drop off) = true → fitL ks (ys.drop off) = true → (Op.eqFields D ⟨xs⟩ ⟨ys⟩ fs).run P w = .ok (eqD (xs.drop off) (ys.drop off)) w
  | [], off, ks, h, _, _, hx, hy => by
    simp only [kcF, Option.some.injEq] at h
    subst h
    have ex : xs.drop off = [] := List.eq_nil_of_length_eq_zero (fitL.length hx)
    have ey : ys.drop off = [] := List.eq_nil_of_length_eq_zero (fitL.length hy)
    rw [ex, ey]
    simp [Op.eqFields, eqD]
  | fd :: fs, off, ks, h, ox, oy, hx, hy => by
    simp only [kcF] at h
    split at h
    · rename_i k1 hk1
      split at h
      · rename_i hc
        obtain ⟨hn, ho, hcells⟩ := hc
        split at h
        · rename_i k2 hk2
          cases h
          obtain ⟨x1, x2⟩ := fitL.split hx
          obtain ⟨y1, y2⟩ := fitL.split hy
          have lx := fitL.length hx
          have ly := fitL.length hy
          simp only [List.length_drop, List.length_append] at lx ly
          rw [List.drop_drop] at x2 y2
          have bx : off + k1.length ≤ xs.length := by omega
          have bY : off + k1.length ≤ ys.length := by omega
          have r := eqFields_ok ih xs ys w fs (off + k1.length) k2 hk2 bx bY x2 y2
          have p1 := part_plain hk1 hcells (cs := xs) (off := off) bx w
          have p2 := part_plain hk1 hcells (cs := ys) (off := off) bY w
          have e := ih fd.type k1 hk1 w _ _ x1 y1
          have sp := eqD_split (n := k1.length) (xs := xs.drop off) (ys := ys.drop off) (by simp; omega)
          rw [List.drop_drop, List.drop_drop] at sp
          simp only [Op.eqFields, ho, hn, ne_eq, not_false_eq_true, if_true, Sem.run_bind, p1, p2, e, Result.andThen_ok, sp]
          cases eqD ((xs.drop off).take k1.length) ((ys.drop off).take k1.length) <;> simp [r]
        · cases h
      · cases h
    · cases h
theorem eqItems_ok {P : Program} {D f : Nat} {e : TypeId} {ks : List Kc} (hk : kcT P f e = some ks) (hc : P.cellsOf e = ks.length) (ih : EqT P D e ks) (xs ys : List Value) (w : World) : ∀ (n j : Nat), j * ks.length ≤ xs.length → j * ks.length ≤ ys.length →
    fitL (List.replicate n ks).flatten (xs.drop (j * ks.length)) = true → fitL (List.replicate n ks).flatten (ys.drop (j * ks.length)) = true →
    (Op.eqItems D e (P.cellsOf e) ⟨xs⟩ ⟨ys⟩ (List.range' j n)).run P w = .ok (eqD (xs.drop (j * ks.length)) (ys.drop (j * ks.length))) w
  | 0, j, _, _, hx, hy => by
    have ex : xs.drop (j * ks.length) = [] := List.eq_nil_of_length_eq_zero (by simpa using fitL.length hx)
    have ey : ys.drop (j * ks.length) = [] := List.eq_nil_of_length_eq_zero (by simpa using fitL.length hy)
    rw [ex, ey]
    simp [Op.eqItems, eqD]
  | n + 1, j, ox, oy, hx, hy => by
    rw [List.replicate_succ, List.flatten_cons] at hx hy
    have lx := fitL.length hx
    have ly := fitL.length hy
    obtain ⟨x1, x2⟩ := fitL.split hx
    obtain ⟨y1, y2⟩ := fitL.split hy
    simp only [List.length_drop, List.length_append] at lx ly
    rw [List.drop_drop, show j * ks.length + ks.length = (j + 1) * ks.length by rw [Nat.add_mul]; omega] at x2 y2
    have bx : j * ks.length + ks.length ≤ xs.length := by omega
    have bY : j * ks.length + ks.length ≤ ys.length := by omega
    have r := eqItems_ok hk hc ih xs ys w n (j + 1) (by rw [Nat.add_mul, Nat.one_mul]; exact bx) (by rw [Nat.add_mul, Nat.one_mul]; exact bY) x2 y2
    have p1 := part_plain hk hc (cs := xs) (off := j * ks.length) bx w
    have p2 := part_plain hk hc (cs := ys) (off := j * ks.length) bY w
    have e1 := ih w _ _ x1 y1
    have sp := eqD_split (n := ks.length) (xs := xs.drop (j * ks.length)) (ys := ys.drop (j * ks.length)) (by simp; omega)
    rw [List.drop_drop, List.drop_drop, show j * ks.length + ks.length = (j + 1) * ks.length by rw [Nat.add_mul]; omega] at sp
    rw [List.range'_succ]
    simp only [Op.eqItems, Sem.run_bind, hc, p1, p2, e1, Result.andThen_ok, sp]
    rw [hc] at r
    cases eqD ((xs.drop (j * ks.length)).take ks.length) ((ys.drop (j * ks.length)).take ks.length) <;> simp [r]
theorem fit_int {k : IntKind} {xs : List Value} (h : fitL [.i k] xs = true) : ∃ a, xs = [.int k a] := by
  cases xs with
  | nil => cases h
  | cons v vs =>
    simp only [fitL, Bool.and_eq_true] at h
    obtain rfl : vs = [] := List.eq_nil_of_length_eq_zero (fitL.length h.2)
    have h1 := h.1
    cases v <;> simp only [Kc.fit, Bool.false_eq_true, beq_iff_eq] at h1
    subst h1
    exact ⟨_, rfl⟩
theorem eqT_ok (P : Program) (D : Nat) : ∀ (f : Nat) (t : TypeId) (ks : List Kc), kcT P f t = some ks → EqT P (D + f) t ks
  | 0, _, _, h => by cases h
  | f + 1, t, ks, h => by
    have ih := eqT_ok P D f
    intro w xs ys hx hy
    have h0 := h
    unfold kcT at h
    cases hu : P.underlying t with
    | none => rw [hu] at h; cases h
    | some d =>
      rw [hu] at h
      cases d
      case bool =>
        cases h
        match xs, ys, hx, hy with
        | [.bool a], [.bool b], _, _ =>
          rw [asV_one hu rfl, asV_one hu rfl]
          show (Op.equalIn (D + f + 1) t (.bool a) (.bool b)).run P w = _
          rw [run_equalIn_bool' w (D + f) t a b hu]
          simp [eqD, eqW]
      case int k =>
        cases h
        obtain ⟨a, rfl⟩ := fit_int hx
        obtain ⟨b, rfl⟩ := fit_int hy
        · rw [asV_one hu rfl, asV_one hu rfl]
          show (Op.equalIn (D + f + 1) t (.int k a) (.int k b)).run P w = _
          rw [run_equalIn_int w (D + f) t k k a b hu]
          simp [eqD, eqW]
      case string =>
        cases h
        match xs, ys, hx, hy with
        | [.string a], [.string b], _, _ =>
          rw [asV_one hu rfl, asV_one hu rfl]
          show (Op.equalIn (D + f + 1) t (.string a) (.string b)).run P w = _
          rw [run_equalIn_string w (D + f) t a b hu]
          simp [eqD, eqW, ByteArray.toList_eq]
      case array n e =>
        simp only at h
        split at h
        · rename_i k1 hk1
          split at h
          · rename_i hc
            cases h
            rw [asV_agg hu rfl, asV_agg hu rfl]
            obtain ⟨_, i, _, hi, _⟩ := kcT_info hk1
            show (Op.equalIn (D + f + 1) t (.agg ⟨xs⟩) (.agg ⟨ys⟩)).run P w = _
            rw [run_equalIn_array w (D + f) _ _ hu hi, List.range_eq_range']
            have := eqItems_ok hk1 hc (ih e k1 hk1) xs ys w n 0 (by simp) (by simp) (by simpa using hx) (by simpa using hy)
            simpa using this
          · cases h
        · cases h
      case struct fs =>
        simp only at h
        split at h
        · cases h
        · rename_i hst
          have hfs : P.fieldsOf t = fs := by simp [Program.fieldsOf, hu]
          rw [asV_agg hu rfl, asV_agg hu rfl]
          show (Op.equalIn (D + f + 1) t (.agg ⟨xs⟩) (.agg ⟨ys⟩)).run P w = _
          rw [run_equalIn_struct w (D + f) t _ _ (by rw [hfs]; exact hu) (by simpa using hst), hfs]
          have := eqFields_ok ih xs ys w fs.toList 0 ks h (Nat.zero_le _) (Nat.zero_le _) (by simpa using hx) (by simpa using hy)
          simpa using this
      all_goals (simp at h)
/-- Two structs, or arrays, of plain data: are they the same? -/
def oEqAgg (P : Program) (t : TypeId) (x y : Value) : Option Bool :=
  match x, y with
  | .agg xs, .agg ys =>
    match P.underlying t with
    | some d =>
      if aggD d && !P.eqGuardType P.depth t then
        match kcT P 10 t with
        | some ks => if fitL ks xs.toList && fitL ks ys.toList then some (eqD xs.toList ys.toList) else none
        | none => none
      else none
    | none => none
  | _, _ => none
theorem oEqAgg_ok {P : Program} {t : TypeId} {x y : Value} {b : Bool} (h : oEqAgg P t x y = some b) (w : World) (op : BinOp) (xo yo : Operand) :
    ∃ xs ys, x = .agg xs ∧ y = .agg ys ∧ (Op.equal t x y).run P w = .ok b w ∧ (eqGuard op t xo yo x y).run P w = .ok () w := by
  unfold oEqAgg at h
  split at h
  · rename_i xs ys
    split at h
    · rename_i d hu
      split at h
      · rename_i hc
        simp only [Bool.and_eq_true, Bool.not_eq_true'] at hc
        split at h
        · rename_i ks hk
          split at h
          · rename_i hf
            cases h
            simp only [Bool.and_eq_true] at hf
            have := eqT_ok P 9990 10 t ks hk w _ _ hf.1 hf.2
            rw [asV_agg hu hc.1, asV_agg hu hc.1] at this
            exact ⟨xs, ys, rfl, rfl, this, run_eqGuard_agg w op t xo yo xs ys hc.2⟩
          · cases h
        · cases h
      · cases h
    · cases h
  · cases h
def kIx : IntKind → Nat
  | .i8 => 0 | .i16 => 1 | .i32 => 2 | .i64 => 3 | .u8 => 4 | .u16 => 5 | .u32 => 6 | .u64 => 7
theorem kIx_inj {a b : IntKind} (h : Nat.beq (kIx a) (kIx b) = true) : a = b := by
  cases a <;> cases b <;> first | rfl | (exact absurd h (by decide))
/-- Two numbers of one kind, by an operator; not shifts. -/
def oFastInt (b : BinOp) (k : IntKind) (a c : Int) : Option Value :=
  match b with
  | .add => some (.int k (k.wrap (a + c)))
  | .sub => some (.int k (k.wrap (a - c)))
  | .mul => some (.int k (k.wrap (a * c)))
  | .quo => if c = 0 then none else some (.int k (k.wrap (a.tdiv c)))
  | .rem => if c = 0 then none else some (.int k (a.tmod c))
  | .and => some (.int k (k.wrap (BitVec.ofInt k.bits a &&& BitVec.ofInt k.bits c).toNat))
  | .or => some (.int k (k.wrap (BitVec.ofInt k.bits a ||| BitVec.ofInt k.bits c).toNat))
  | .xor => some (.int k (k.wrap (BitVec.ofInt k.bits a ^^^ BitVec.ofInt k.bits c).toNat))
  | .andNot => some (.int k (k.wrap (BitVec.ofInt k.bits a &&& ~~~BitVec.ofInt k.bits c).toNat))
  | .eql => some (.bool (a == c))
  | .neq => some (.bool (a != c))
  | .lss => some (.bool (decide (a < c)))
  | .leq => some (.bool (decide (a ≤ c)))
  | .gtr => some (.bool (decide (a > c)))
  | .geq => some (.bool (decide (a ≥ c)))
  | _ => none
theorem oFastInt_ok {P : Program} {b : BinOp} {k : IntKind} {a c : Int} {v : Value} (h : oFastInt b k a c = some v) (t : TypeId) (w : World) : (binOp b t (.int k a) (.int k c)).run P w = .ok v w := by
  cases b <;> simp only [oFastInt] at h
  case quo =>
    split at h
    · cases h
    · rename_i hc; cases h; simp [binOp, Op.intDiv, hc]
  case rem =>
    split at h
    · cases h
    · rename_i hc; cases h; simp [binOp, Op.intDiv, hc]
  all_goals first | (cases h; done) | (cases h; simp [binOp, Op.intArith, Op.intBits, Op.intCmp])
theorem int_guard {P : Program} (b : BinOp) (t : TypeId) (xo yo : Operand) (k j : IntKind) (a c : Int) (w : World) : (eqGuard b t xo yo (.int k a) (.int j c)).run P w = .ok () w := by
  unfold eqGuard; cases b <;> simp
/-- Two strings, compared or put together. -/
def oFastStr (b : BinOp) (a c : ByteArray) : Option Value :=
  match b with
  | .eql => some (.bool (a.data.toList == c.data.toList))
  | .neq => some (.bool !(a.data.toList == c.data.toList))
  | .add => if ((a.size + c.size : Nat) : Int) > IntKind.i64.max then none else some (.string ⟨⟨a.data.toList ++ c.data.toList⟩⟩)
  | _ => none
theorem oFastStr_ok {P : Program} {b : BinOp} {a c : ByteArray} {v : Value} (h : oFastStr b a c = some v) (t : TypeId) (w : World) : (binOp b t (.string a) (.string c)).run P w = .ok v w := by
  cases b <;> simp only [oFastStr] at h
  case add =>
    split at h
    · cases h
    · rename_i hc
      cases h
      have e : (a ++ c : ByteArray) = ⟨⟨a.data.toList ++ c.data.toList⟩⟩ := by
        apply ByteArray.ext
        rw [ByteArray.data_append]
        apply Array.toList_inj.1
        simp
      show (Op.stringOp .add a c).run P w = _
      unfold Op.stringOp
      simp only [hc, if_false, e]
      rfl
  all_goals first | (cases h; done) | (cases h; simp [binOp, Op.stringOp, ByteArray.toList_eq])
theorem str_guard {P : Program} (b : BinOp) (t : TypeId) (xo yo : Operand) (a c : ByteArray) (w : World) : (eqGuard b t xo yo (.string a) (.string c)).run P w = .ok () w := by
  unfold eqGuard; cases b <;> simp
/-- What an operator comes to of numbers of one kind, or of structs and arrays of plain data that are compared. -/
def oFastBin (P : Program) (b : BinOp) (t : TypeId) (x y : Value) (h : List AO) : Option Out :=
  match x, y with
  | .int k a, .int j c =>
    if Nat.beq (kIx k) (kIx j) then
      match oFastInt b k a c with
      | some v => some (.value v, h, none)
      | none => none
    else none
  | .agg xs, .agg ys =>
    match b with
    | .eql =>
      match oEqAgg P t (.agg xs) (.agg ys) with
      | some r => some (.value (.bool r), h, none)
      | none => none
    | .neq =>
      match oEqAgg P t (.agg xs) (.agg ys) with
      | some r => some (.value (.bool !r), h, none)
      | none => none
    | _ => none
  | .string a, .string c =>
    match oFastStr b a c with
    | some v => some (.value v, h, none)
    | none => none
  | _, _ => none
theorem fitL.flat : ∀ {ks : List Kc} {vs : List Value}, fitL ks vs = true → vs.all scal = true
  | [], [], _ => rfl
  | k :: ks, v :: vs, h => by
    simp only [fitL, Bool.and_eq_true] at h
    simp only [List.all_cons, fitL.flat h.2, Bool.and_true]
    cases k <;> cases v <;> simp_all [Kc.fit, scal]
  | [], _ :: _, h => by cases h
  | _ :: _, [], h => by cases h
theorem oEqAgg_flat {P : Program} {t : TypeId} {x y : Value} {b : Bool} (h : oEqAgg P t x y = some b) : flat x = true ∧ flat y = true := by
  unfold oEqAgg at h
  split at h
  · rename_i xs ys
    split at h
    · split at h
      · split at h
        · split at h
          · rename_i hf
            simp only [Bool.and_eq_true] at hf
            exact ⟨by simpa [flat, flat1] using fitL.flat hf.1, by simpa [flat, flat1] using fitL.flat hf.2⟩
          · cases h
        · cases h
      · cases h
    · cases h
  · cases h
theorem fastBin_ok {P : Program} {s : Ren} {h : List AO} {w : World} {b : BinOp} {t : TypeId} {x x' y y' : Value} (hx : VR s x x') (hy : VR s y y') {xo yo : Operand} {r : Out} (hr : oFastBin P b t x y h = some r) :
    Okay0 P s h w (aval (do eqGuard b t xo yo x' y'; binOp b t x' y')) r := by
  unfold oFastBin at hr
  split at hr
  · rename_i k a j c
    rw [hx.eq_of_flat rfl, hy.eq_of_flat rfl]
    split at hr
    · rename_i hk
      obtain rfl := kIx_inj hk
      split at hr
      · rename_i v hv
        cases hr
        refine okay0 (v' := v) ?_ (VR.same ?_)
        · simp [int_guard, oFastInt_ok hv]
        · cases b <;> simp only [oFastInt] at hv
          case quo => split at hv <;> cases hv; rfl
          case rem => split at hv <;> cases hv; rfl
          all_goals first | (cases hv; done) | (cases hv; rfl)
      · cases hr
    · cases hr
  · rename_i xs ys
    split at hr
    · split at hr
      · rename_i q hq
        cases hr
        obtain ⟨f1, f2⟩ := oEqAgg_flat hq
        rw [hx.eq_of_flat f1, hy.eq_of_flat f2]
        obtain ⟨_, _, _, _, e1, e2⟩ := oEqAgg_ok hq w .eql xo yo
        refine okay0 (v' := .bool q) ?_ (VR.same rfl)
        simp [binOp, e1, e2]
      · cases hr
    · split at hr
      · rename_i q hq
        cases hr
        obtain ⟨f1, f2⟩ := oEqAgg_flat hq
        rw [hx.eq_of_flat f1, hy.eq_of_flat f2]
        obtain ⟨_, _, _, _, e1, e2⟩ := oEqAgg_ok hq w .neq xo yo
        refine okay0 (v' := .bool !q) ?_ (VR.same rfl)
        simp [binOp, e1, e2]
      · cases hr
    · cases hr
  · rename_i a c
    rw [hx.eq_of_flat rfl, hy.eq_of_flat rfl]
    split at hr
    · rename_i v hv
      cases hr
      refine okay0 (v' := v) ?_ (VR.same ?_)
      · simp [str_guard, oFastStr_ok hv]
      · cases b <;> simp only [oFastStr] at hv
        case add => split at hv <;> cases hv; rfl
        all_goals first | (cases hv; done) | (cases hv; rfl)
    · cases hr
  · cases hr
/-- A number as one of another kind. -/
def oFastConv (P : Program) (a b : TypeId) (x : Value) (h : List AO) : Option Out :=
  match x with
  | .int _ n =>
    match P.underlying a, P.underlying b with
    | some _, some (.int k) => some (.value (.int k (k.wrap n)), h, none)
    | _, _ => none
  | _ => none
theorem fastConv_ok {P : Program} {s : Ren} {h : List AO} {w : World} {a b : TypeId} {x x' : Value} (hx : VR s x x') {r : Out} (hr : oFastConv P a b x h = some r) : Okay0 P s h w (aval (convert a b x')) r := by
  unfold oFastConv at hr
  split at hr
  · rename_i j n
    rw [hx.eq_of_flat rfl]
    split at hr
    · rename_i d k h1 h2
      cases hr
      refine okay0 (v' := .int k (k.wrap n)) ?_ (VR.same rfl)
      simp [convert, run_under h1, run_under h2, Conv.intToInt]
    · cases hr
  · cases hr
end Go.Proofs.YtokeopmmnpmfeaaDoor.Ex
end
section
namespace Go.Proofs.YtokeopmmnpmfeaaDoor.Ex
set_option maxRecDepth 20000

open Go Go.RowKit

def PR (s : Ren) (xs ys : List (Nat × Value)) : Prop := LR s (xs.map (·.2)) (ys.map (·.2)) ∧ xs.map (·.1) = ys.map (·.1)
theorem fold_ok {s : Ren} (off : Nat) : ∀ (l l' : List Value) (k : Nat) (cs cs' : Array Value), LR s l l' → LR s cs.toList cs'.toList →
    LR s ((l.zipIdx k).foldl (fun cs (c, j) => cs.setIfInBounds (off + j) c) cs).toList ((l'.zipIdx k).foldl (fun cs (c, j) => cs.setIfInBounds (off + j) c) cs').toList
  | [], [], _, _, _, _, h => h
  | x :: l, y :: l', k, cs, cs', hl, h => by
    simp only [List.zipIdx_cons, List.foldl_cons]
    refine fold_ok off l l' (k + 1) _ _ hl.uncons.2 ?_
    simpa using h.set hl.uncons.1 (off + k)
  | [], _ :: _, _, _, _, hl, _ => by have := hl.1; simp at this
  | _ :: _, [], _, _, _, hl, _ => by have := hl.1; simp at this
theorem fill_ok {s : Ren} (place : Nat → Option (Nat × Nat)) : ∀ (ps ps' : List (Nat × Value)) (cs cs' r : Array Value), PR s ps ps' → LR s cs.toList cs'.toList → Instr.fill place cs ps = some r →
    ∃ r', Instr.fill place cs' ps' = some r' ∧ LR s r.toList r'.toList
  | [], [], cs, cs', r, _, h, hr => by
    simp [Instr.fill] at hr
    subst hr
    exact ⟨cs', by simp [Instr.fill], h⟩
  | (i, v) :: ps, (i', v') :: ps', cs, cs', r, hp, h, hr => by
    obtain ⟨h1, h2⟩ := hp
    simp only [List.map_cons, List.cons.injEq] at h1 h2
    obtain ⟨rfl, h2⟩ := h2
    have hv := h1.uncons.1
    have hsz : v'.cells.size = v.cells.size := by have := hv.cells.1; simp at this; omega
    have hcs : cs'.size = cs.size := by have := h.1; simp at this; omega
    simp only [Instr.fill] at hr ⊢
    cases hpl : place i with
    | none => rw [hpl] at hr; cases hr
    | some os =>
      obtain ⟨off, size⟩ := os
      rw [hpl] at hr
      simp only [hsz, hcs] at hr ⊢
      split at hr
      · cases hr
      · rename_i hc
        rw [if_neg hc]
        refine fill_ok place ps ps' _ _ r ⟨h1.uncons.2, h2⟩ ?_ hr
        rw [← Array.foldl_toList, ← Array.foldl_toList, Array.toList_zipIdx, Array.toList_zipIdx]
        exact fold_ok off _ _ 0 cs cs' hv.cells h
  | [], _ :: _, _, _, _, hp, _, _ => by have := hp.2; simp at this
  | _ :: _, [], _, _, _, hp, _, _ => by have := hp.2; simp at this
theorem parts_ok {s : Ren} {ρ ρ' : Operand → Value} {ps : Array (Nat × Operand)} (h : ∀ x ∈ ps.toList.map (·.2), VR s (ρ x) (ρ' x)) :
    PR s (ps.map fun (i, x) => (i, ρ x)).toList (ps.map fun (i, x) => (i, ρ' x)).toList := by
  rw [Array.toList_map, Array.toList_map]
  generalize ps.toList = l at h
  induction l with
  | nil => exact ⟨LR.nil s, rfl⟩
  | cons x l ih =>
    obtain ⟨i, x⟩ := x
    obtain ⟨g1, g2⟩ := ih fun y hy => h y (by simp only [List.map_cons, List.mem_cons]; exact .inr hy)
    exact ⟨LR.cons (h x (by simp)) g1, by simp only [List.map_cons]; rw [g2]⟩

theorem splice_step {cs l : List Value} {x : Value} {o : Nat} (h : o + (l.length + 1) ≤ cs.length) : splice (cs.set o x) (o + 1) l = splice cs o (x :: l) := by
  apply List.ext_getElem?
  intro i
  rw [splice_get (by rw [List.length_set]; omega), splice_get (by simp only [List.length_cons]; omega), List.getElem?_set, List.length_cons]
  by_cases h1 : o = i
  · subst h1
    rw [if_neg (by omega), if_pos rfl, if_pos (by omega), if_pos (by omega), Nat.sub_self]
    rfl
  · by_cases h2 : o + 1 ≤ i ∧ i < o + 1 + l.length
    · rw [if_pos h2, if_pos (by omega), show i - o = (i - (o + 1)) + 1 by omega]
      rfl
    · rw [if_neg h2, if_neg h1, if_neg (by omega)]
theorem foldl_splice (off : Nat) : ∀ (l : List Value) (k : Nat) (cs : Array Value), off + k + l.length ≤ cs.toList.length →
    ((l.zipIdx k).foldl (fun cs (c, j) => cs.setIfInBounds (off + j) c) cs).toList = splice cs.toList (off + k) l
  | [], k, cs, _ => by simp [splice]
  | x :: l, k, cs, h => by
    simp only [List.zipIdx_cons, List.foldl_cons]
    simp only [List.length_cons] at h
    rw [foldl_splice off l (k + 1) _ (by simp only [Array.toList_setIfInBounds, List.length_set]; omega), Array.toList_setIfInBounds]
    exact splice_step (by omega)
/-- The same as fill, over lists. -/
def fillL (place : Nat → Option (Nat × Nat)) (cs : List Value) : List (Nat × Value) → Option (List Value)
  | [] => some cs
  | (i, v) :: rest =>
    match place i with
    | none => none
    | some (off, size) => if Nat.beq v.cells.toList.length size && Nat.ble (off + v.cells.toList.length) cs.length then fillL place (splice cs off v.cells.toList) rest else none
theorem fillL_ok {place : Nat → Option (Nat × Nat)} : ∀ {ps : List (Nat × Value)} {cs : Array Value} {r : List Value}, fillL place cs.toList ps = some r → Instr.fill place cs ps = some ⟨r⟩
  | [], cs, r, h => by simp only [fillL, Option.some.injEq] at h; subst h; rfl
  | (i, v) :: rest, cs, r, h => by
    simp only [fillL] at h
    unfold Instr.fill
    cases hp : place i with
    | none => rw [hp] at h; cases h
    | some os =>
      obtain ⟨off, size⟩ := os
      rw [hp] at h
      simp only at h ⊢
      split at h
      · rename_i hc
        simp only [Bool.and_eq_true] at hc
        have h1 := Nat.eq_of_beq_eq_true hc.1
        have h2 := Nat.le_of_ble_eq_true hc.2
        simp only [Array.length_toList] at h1 h2
        rw [if_neg (by simp only [ne_eq, Bool.or_eq_true, decide_eq_true_eq, not_or]; omega)]
        have e := foldl_splice off v.cells.toList 0 cs (by simp only [Array.length_toList]; omega)
        have e2 : (v.cells.zipIdx.foldl (fun cs (c, j) => cs.setIfInBounds (off + j) c) cs) = ⟨splice cs.toList off v.cells.toList⟩ := by
          apply Array.toList_inj.1
          rw [← Array.foldl_toList, Array.toList_zipIdx]
          exact e
        rw [e2]
        exact fillL_ok h
      · cases h

section
variable {P : Program} {s : Ren} {h : List AO} {w : World}
def placesOf (P : Program) (fs : Array Field) : Option (Array (Nat × Nat)) := pureRun P (fs.mapM fun f => do pure (f.offset, ← sizeOf f.type))
def oBuild (P : Program) (t : TypeId) (ps : Array (Nat × Value)) (h : List AO) : Option Out :=
  match P.info? t, P.underlying t with
  | some i, some (.struct fs) =>
    match i.zero, placesOf P fs with
    | some z, some pl =>
      if flat z then
        match fillL (pl[·]?) z.cells.toList ps.toList with
        | some cs => some (.value (.agg ⟨cs⟩), h, none)
        | none => none
      else none
    | _, _ => none
  | some i, some (.array _ e) =>
    match i.zero, P.info? e with
    | some z, some n =>
      if flat z then
        match fillL (fun i => some (i * n.size, n.size)) z.cells.toList ps.toList with
        | some cs => some (.value (.agg ⟨cs⟩), h, none)
        | none => none
      else none
    | _, _ => none
  | _, _ => none
theorem build_ok {t : TypeId} {ps ps' : Array (Nat × Value)} (hp : PR s ps.toList ps'.toList) {r : Out} (hr : oBuild P t ps h = some r) : Okay0 P s h w (aval (Instr.build t ps')) r := by
  unfold oBuild at hr
  split at hr
  · rename_i i fs hi hu
    split at hr
    · rename_i z pl hz hpl
      split at hr
      · rename_i hf
        split at hr
        · rename_i cs hcs
          cases hr
          obtain ⟨cs', h1, h2⟩ := fill_ok (s := s) _ _ _ _ z.cells _ hp (VR.same hf).cells (fillL_ok hcs)
          refine okay0 (v' := .agg cs') ?_ (VR.agg (xs := cs) (ys := cs'.toList) h2.1 h2.2)
          have h3 := pureRun_ok _ hpl w
          simp only [Instr.build, Sem.run_bind, run_zero hi hz, run_under hu, Result.andThen_ok, h3, h1, Sem.run_pure]
        · cases hr
      · cases hr
    · cases hr
  · rename_i i m e hi hu
    split at hr
    · rename_i z n hz hn
      split at hr
      · rename_i hf
        split at hr
        · rename_i cs hcs
          cases hr
          obtain ⟨cs', h1, h2⟩ := fill_ok (s := s) _ _ _ _ z.cells _ hp (VR.same hf).cells (fillL_ok hcs)
          refine okay0 (v' := .agg cs') ?_ (VR.agg (xs := cs) (ys := cs'.toList) h2.1 h2.2)
          simp only [Instr.build, Sem.run_bind, run_zero hi hz, run_under hu, Result.andThen_ok, run_size hn, h1, Sem.run_pure]
        · cases hr
      · cases hr
    · cases hr
  · cases hr

/-- A literal's new row, or a made one's: its cells, its length, its capacity. -/
def repeatZ (z : Array Value) (n : Nat) : Array Value := ⟨(List.range n).map fun i => z.toList.getD (i % z.toList.length) default⟩
theorem repeatZ_eq (z : Array Value) (n : Nat) : (Array.range n).map (z[· % z.size]!) = repeatZ z n := by
  apply Array.toList_inj.1
  rw [Array.toList_map, Array.toList_range]
  unfold repeatZ
  refine List.map_congr_left fun i _ => ?_
  simp [Array.getElem!_eq_getD, Array.getD_eq_getD_getElem?]
def oRow (P : Program) (t : TypeId) (len : Nat) (ps : Array (Nat × Value)) : Option (List Value × Nat × Nat) :=
  match P.underlying t with
  | some (.slice e) =>
    match P.info? e with
    | some i =>
      if len * i.size ≤ 2 ^ 24 then
        if len * i.size = 0 then
          match Instr.fill (fun j => some (j * i.size, i.size)) #[] ps.toList with
          | some cs => some (cs.toList, len, len)
          | none => none
        else
          match i.zero with
          | some z =>
            if (repeatZ z.cells (len * i.size)).toList.all flat then
              match Instr.fill (fun j => some (j * i.size, i.size)) (repeatZ z.cells (len * i.size)) ps.toList with
              | some cs => some (cs.toList, len, len)
              | none => none
            else none
          | none => none
      else none
    | none => none
  | _ => none
theorem row_ok {t : TypeId} {len : Nat} {ps ps' : Array (Nat × Value)} (hp : PR s ps.toList ps'.toList) {cs : List Value} {l c : Nat} (hr : oRow P t len ps = some (cs, l, c)) (w : World) :
    ∃ (arr : Array Value) (T : TypeId), (Instr.buildSlice t len ps').run P w = .ok (.slice (some ⟨w.heap.size, 0, none⟩) l c) (w.alloc (.cells arr T)) ∧ LR s cs arr.toList := by
  unfold oRow at hr
  split at hr
  · rename_i e hu
    split at hr
    · rename_i i hi
      split at hr
      · rename_i hlim
        split at hr
        · rename_i hz0
          split at hr
          · rename_i r hf
            cases hr
            obtain ⟨r', h1, h2⟩ := fill_ok (s := s) _ _ _ _ #[] _ hp (LR.nil s) hf
            refine ⟨r', e, ?_, h2⟩
            simp only [Instr.buildSlice, Sem.run_bind, run_under hu, Result.andThen_ok, run_size hi]
            rw [if_neg (by omega)]
            have e0 : (Array.range 0).map (fun x => (#[] : Array Value)[x % (#[] : Array Value).size]!) = #[] := by simp
            simp only [hz0, if_true, Sem.run_bind, Sem.run_pure, Result.andThen_ok, e0, h1]
            rfl
          · cases hr
        · rename_i hz0
          split at hr
          · rename_i z hz
            split at hr
            · rename_i hfl
              split at hr
              · rename_i r hf
                cases hr
                obtain ⟨r', h1, h2⟩ := fill_ok (s := s) _ _ _ _ _ _ hp (LR.ofFlat hfl) hf
                refine ⟨r', e, ?_, h2⟩
                rw [← repeatZ_eq] at h1
                simp only [Instr.buildSlice, Sem.run_bind, run_under hu, Result.andThen_ok, run_size hi]
                rw [if_neg (by omega)]
                simp only [hz0, if_false, Sem.run_bind, run_zero hi hz, Sem.run_pure, Result.andThen_ok, h1]
                rfl
              · cases hr
            · cases hr
          · cases hr
      · cases hr
    · cases hr
  · cases hr
end
end Go.Proofs.YtokeopmmnpmfeaaDoor.Ex
end
section
namespace Go.Proofs.YtokeopmmnpmfeaaDoor.Ex
set_option maxRecDepth 20000

open Go Go.RowKit

section
variable {P : Program} {wb : Wb} {k : Nat} {s : Ren} {h : List AO} {w : World}

def oMake (P : Program) (t : TypeId) (len cap : Value) : Option (List Value × Nat × Nat) :=
  match P.underlying t, len, cap with
  | some (.slice e), .int _ l, .int _ c =>
    match P.info? e with
    | some i =>
      if decide (IntKind.i64.wrap l = l) && decide (IntKind.i64.wrap c = c) && decide (0 ≤ l) && decide (l ≤ c) && decide ((i.bytes : Int) * c ≤ 2 ^ 48) then
        if c.toNat * i.size = 0 then some ([], l.toNat, c.toNat)
        else
          match i.zero with
          | some z => if (repeatZ z.cells (c.toNat * i.size)).toList.all flat then some ((repeatZ z.cells (c.toNat * i.size)).toList, l.toNat, c.toNat) else none
          | none => none
      else none
    | none => none
  | _, _, _ => none
theorem run_askRoom (n : Nat) (w : World) : (askRoom n).run P w = .ok () w := by
  unfold askRoom
  split <;> rfl
theorem make_ok {t : TypeId} {len cap len' cap' : Value} (hl : VR s len len') (hc : VR s cap cap') {cs : List Value} {l c : Nat} (hr : oMake P t len cap = some (cs, l, c)) (w : World) :
    ∃ (arr : Array Value) (T : TypeId), (Instr.makeSlice t len' cap').run P w = .ok (.slice (some ⟨w.heap.size, 0, none⟩) l c) (w.alloc (.cells arr T)) ∧ LR s cs arr.toList := by
  unfold oMake at hr
  split at hr
  · rename_i e k1 l1 k2 c1 hu
    rw [hl.int_inv, hc.int_inv]
    split at hr
    · rename_i i hi
      split at hr
      · rename_i hcond
        simp only [Bool.and_eq_true, decide_eq_true_eq] at hcond
        obtain ⟨⟨⟨⟨hwl, hwc⟩, h0⟩, hlc⟩, hb⟩ := hcond
        have hc0 : 0 ≤ c1 := by omega
        have t1 : (decide (c1 < 0) || decide ((i.bytes : Int) * c1 > 2 ^ 48)) = false := by
          simp only [Bool.or_eq_false_iff, decide_eq_false_iff_not]
          exact ⟨by omega, by omega⟩
        have t2 : (decide (l1 < 0)) = false := by simpa using h0
        have t3 : (decide (l1 > c1)) = false := by simpa using hlc
        split at hr
        · rename_i hz0
          cases hr
          refine ⟨#[], e, ?_, LR.nil s⟩
          have e0 : (Array.range 0).map (fun x => (#[] : Array Value)[x % (#[] : Array Value).size]!) = #[] := by simp
          simp only [Instr.makeSlice, asInt, asIntOf, Sem.run_bind, run_under hu, Sem.run_pure, Result.andThen_ok, run_info hi, hwl, hwc, t1, t2, t3, Bool.or_false, Bool.false_eq_true, if_false, run_askRoom, run_size hi, hz0, if_true, e0]
          rfl
        · rename_i hz0
          split at hr
          · rename_i z hz
            split at hr
            · rename_i hfl
              cases hr
              refine ⟨repeatZ z.cells (c1.toNat * i.size), e, ?_, LR.ofFlat hfl⟩
              rw [← repeatZ_eq]
              simp only [Instr.makeSlice, asInt, asIntOf, Sem.run_bind, run_under hu, Sem.run_pure, Result.andThen_ok, run_info hi, hwl, hwc, t1, t2, t3, Bool.or_false, Bool.false_eq_true, if_false, run_askRoom, run_size hi, hz0, run_zero hi hz]
              rfl
            · cases hr
          · cases hr
      · cases hr
    · cases hr
  · cases hr

/-! Parts. -/
def hiA (hi : Option Value) (len cap : Nat) : Option Nat :=
  match hi with
  | none => some len
  | some (.int _ i) => if 0 ≤ i ∧ i ≤ cap then some i.toNat else none
  | _ => none
def loA (lo : Option Value) (h : Nat) : Option Nat :=
  match lo with
  | none => some 0
  | some (.int _ i) => if 0 ≤ i ∧ i ≤ h then some i.toNat else none
  | _ => none
def OR (s : Ren) (a b : Option Value) : Prop :=
  match a, b with
  | none, none => True
  | some x, some y => VR s x y
  | _, _ => False
theorem bounds_ok {b : Bool} {len cap cap' : Nat} {lo lo' hi hi' : Option Value} (hl : OR s lo lo') (hh : OR s hi hi') {l h1 : Nat} (h2 : hiA hi len cap = some h1) (h3 : loA lo h1 = some l) (hcap : hi = none ∨ cap ≤ cap') (w : World) :
    (Instr.sliceBounds b len cap' lo' hi' none).run P w = .ok (l, h1, cap') w := by
  unfold hiA at h2
  unfold loA at h3
  cases hi with
  | none =>
    cases hi' with
    | some _ => exact hh.elim
    | none =>
      cases h2
      cases lo with
      | none =>
        cases lo' with
        | some _ => exact hl.elim
        | none => cases h3; simp [Instr.sliceBounds]
      | some x =>
        cases lo' with
        | none => exact hl.elim
        | some y =>
          cases x <;> simp only at h3 <;> try cases h3
          rename_i kk i
          rw [VR.int_inv hl]
          split at h3
          · rename_i hc; cases h3; simp [Instr.sliceBounds, Instr.sliceBound, asIntOf, hc]
          · cases h3
  | some x =>
    cases hi' with
    | none => exact hh.elim
    | some y =>
      cases x <;> simp only at h2 <;> try cases h2
      rename_i kk i
      rw [VR.int_inv hh]
      split at h2
      · rename_i hc
        cases h2
        have hc' : 0 ≤ i ∧ i ≤ cap' := ⟨hc.1, by rcases hcap with h | h; cases h; omega⟩
        cases lo with
        | none =>
          cases lo' with
          | some _ => exact hl.elim
          | none => cases h3; simp [Instr.sliceBounds, Instr.sliceBound, asIntOf, hc']
        | some x =>
          cases lo' with
          | none => exact hl.elim
          | some y =>
            cases x <;> simp only at h3 <;> try cases h3
            rename_i kk2 j
            rw [VR.int_inv hl]
            split at h3
            · rename_i hc2
              cases h3
              have e1 : ((i.toNat : Nat) : Int) = i := Int.toNat_of_nonneg hc.1
              have e2 : max i 0 = i := by omega
              rw [e1] at hc2
              simp [Instr.sliceBounds, Instr.sliceBound, asIntOf, hc', e2, hc2]
            · cases h3
      · cases h2
def esOf (h : List AO) (b : Nat) : Option (Option Nat) :=
  match h[b]? with
  | some o => if o.live then some o.es else none
  | none => none
theorem esOf_ok (H : MR s h w) {b : Nat} {es : Option Nat} (he : esOf h b = some es) {p : Pl} (hp : s b = some p) : p.es = es := by
  unfold esOf at he
  split at he
  · rename_i o ho
    split at he
    · rename_i hl
      cases he
      obtain ⟨q, hq, h1, _⟩ := H b o ho hl
      rw [hp] at hq
      cases hq
      exact h1
    · cases he
  · cases he
def oSlice (P : Program) (t : TypeId) (x : Value) (lo hi : Option Value) (h : List AO) : Option Out :=
  match P.underlying t, x with
  | some (.array n e), .pointer (some a) =>
    match P.info? e, esOf h a.block, hiA hi n n with
    | some i, some none, some h1 =>
      match loA lo h1 with
      | some l => some (.value (.slice (some (if n = l then a else a.add (l * i.size))) (h1 - l) (n - l)), h, none)
      | none => none
    | _, _, _ => none
  | some (.slice e), .slice (some a) len cap =>
    match P.info? e, esOf h a.block with
    | some i, some none =>
      match hiA hi len cap with
      | some h1 =>
        match loA lo h1 with
        | some l => some (.value (.slice (some (if cap = l then a else a.add (l * i.size))) (h1 - l) (cap - l)), h, none)
        | none => none
      | none => none
    | some i, some (some q) =>
      match hiA hi len len with
      | some h1 =>
        match loA lo h1 with
        | some l => if q = i.size ∧ (l = 0 ∨ l < len) then some (.value (.slice (some (a.add (l * i.size))) (h1 - l) (h1 - l)), h, none) else none
        | none => none
      | none => none
    | _, _ => none
  | _, _ => none
theorem hiA_le {hi : Option Value} {len cap h1 : Nat} (h : hiA hi len cap = some h1) (hlc : len ≤ cap) : h1 ≤ cap := by
  unfold hiA at h
  split at h
  · cases h; exact hlc
  · split at h
    · cases h; omega
    · cases h
  · cases h
theorem loA_le {lo : Option Value} {h1 l : Nat} (h : loA lo h1 = some l) : l ≤ h1 := by
  unfold loA at h
  split at h
  · cases h; omega
  · split at h
    · cases h; omega
    · cases h
  · cases h
theorem add_vr {a : Addr} {p : Pl} (hs : a.spot = none) (n : Nat) : a.add n = ⟨a.block, a.off + n, none⟩ ∧ (⟨p.blk, p.off + a.off, none⟩ : Addr).add n = ⟨p.blk, p.off + (a.off + n), none⟩ := by
  refine ⟨?_, by rw [add_none, Nat.add_assoc]⟩
  obtain ⟨b, o, sp⟩ := a
  simp at hs
  subst hs
  exact add_none n
theorem slice_ok (H : MR s h w) {t : TypeId} {x x' : Value} (hx : VR s x x') {lo lo' hi hi' : Option Value} (hl : OR s lo lo') (hh : OR s hi hi') {r : Out} (hr : oSlice P t x lo hi h = some r) :
    Okay0 P s h w (aval (Instr.sliceAt t x' lo' hi' none)) r := by
  unfold oSlice at hr
  split at hr
  · rename_i n e a hu
    obtain ⟨p, hs, hp, rfl⟩ := hx.ptr_inv
    split at hr
    · rename_i i h1 hi0 hes hhi
      split at hr
      · rename_i l hlo
        cases hr
        have hpe := esOf_ok H hes hp
        have hb := bounds_ok (P := P) (b := false) (cap' := n) hl hh hhi hlo (.inr (Nat.le_refl _)) w
        obtain ⟨e1, e2⟩ := add_vr (p := p) hs (l * i.size)
        by_cases hnl : n = l
        · refine okay0 (v' := .slice (some ⟨p.blk, p.off + a.off, none⟩) (h1 - l) (n - l)) ?_ ?_
          · subst hnl
            simp [Instr.sliceAt, run_under hu, Instr.sureAddr, hb, run_size hi0]
          · rw [if_pos hnl]
            exact VR.slice hs hp (by unfold CapOk; rw [hpe])
        · refine okay0 (v' := .slice (some ⟨p.blk, p.off + (a.off + l * i.size), none⟩) (h1 - l) (n - l)) ?_ ?_
          · simp [Instr.sliceAt, run_under hu, Instr.sureAddr, hb, run_size hi0, hnl, e2]
          · rw [if_neg hnl, e1]
            exact VR.slice (a := ⟨a.block, a.off + l * i.size, none⟩) rfl hp (by unfold CapOk; rw [hpe])
      · cases hr
    · cases hr
  · rename_i e a len cap hu
    obtain ⟨p, c', hs, hp, hcap, rfl⟩ := hx.slice_inv
    split at hr
    · rename_i i hi0 hes
      split at hr
      · rename_i h1 hhi
        split at hr
        · rename_i l hlo
          cases hr
          have hpe := esOf_ok H hes hp
          have hcc : c' = cap := by unfold CapOk at hcap; rw [hpe] at hcap; exact hcap
          subst hcc
          have hb := bounds_ok (P := P) (b := true) (cap' := c') hl hh hhi hlo (.inr (Nat.le_refl _)) w
          obtain ⟨e1, e2⟩ := add_vr (p := p) hs (l * i.size)
          by_cases hnl : c' = l
          · refine okay0 (v' := .slice (some ⟨p.blk, p.off + a.off, none⟩) (h1 - l) (c' - l)) ?_ ?_
            · subst hnl
              simp [Instr.sliceAt, Instr.slice, run_under hu, hb, run_size hi0]
            · rw [if_pos hnl]
              exact VR.slice hs hp (by unfold CapOk; rw [hpe])
          · refine okay0 (v' := .slice (some ⟨p.blk, p.off + (a.off + l * i.size), none⟩) (h1 - l) (c' - l)) ?_ ?_
            · simp [Instr.sliceAt, Instr.slice, run_under hu, hb, run_size hi0, hnl, e2]
            · rw [if_neg hnl, e1]
              exact VR.slice (a := ⟨a.block, a.off + l * i.size, none⟩) rfl hp (by unfold CapOk; rw [hpe])
        · cases hr
      · cases hr
    · rename_i i q hi0 hes
      split at hr
      · rename_i h1 hhi
        split at hr
        · rename_i l hlo
          split at hr
          · rename_i hq
            cases hr
            obtain ⟨rfl, hq⟩ := hq
            have hpe := esOf_ok H hes hp
            unfold CapOk at hcap
            rw [hpe] at hcap
            simp only at hcap
            obtain ⟨hq0, hq1, hq2⟩ := hcap
            have hb := bounds_ok (P := P) (b := true) (cap' := c') hl hh hhi hlo (.inr hq2) w
            have g1 := hiA_le hhi (Nat.le_refl _)
            have g2 := loA_le hlo
            obtain ⟨e1, e2⟩ := add_vr (p := p) hs (l * i.size)
            refine okay0 (v' := .slice (some ⟨p.blk, p.off + (a.off + l * i.size), none⟩) (h1 - l) (c' - l)) ?_ ?_
            · by_cases hnl : c' = l
              · have hl0 : l = 0 := by omega
                subst hl0
                subst hnl
                simp [Instr.sliceAt, Instr.slice, run_under hu, hb, run_size hi0]
              · simp [Instr.sliceAt, Instr.slice, run_under hu, hb, run_size hi0, hnl, e2]
            · rw [e1]
              refine VR.slice (a := ⟨a.block, a.off + l * i.size, none⟩) rfl hp ?_
              unfold CapOk
              rw [hpe]
              refine ⟨hq0, ?_, by omega⟩
              have : l * i.size + (c' - l) * i.size = c' * i.size := by rw [← Nat.add_mul]; congr 1; omega
              simp only
              omega
          · cases hr
        · cases hr
      · cases hr
    · cases hr
  · cases hr
end
end Go.Proofs.YtokeopmmnpmfeaaDoor.Ex
end
section
namespace Go.Proofs.YtokeopmmnpmfeaaDoor.Ex
set_option maxRecDepth 20000

open Go Go.RowKit

theorem growBy_le (n : Nat) : ∀ (r c : Nat), c ≤ 2 * n + 200 → Builtin.growBy n r c ≤ 2 * n + 200
  | 0, c, h => h
  | r + 1, c, h => by
    simp only [Builtin.growBy]
    split
    · exact h
    · exact growBy_le n r _ (by omega)
theorem nextcap_le {n c : Nat} (h : c < n) : Builtin.nextslicecap n c ≤ 2 * n + 200 := by
  unfold Builtin.nextslicecap
  split
  · omega
  · split
    · omega
    · exact growBy_le n 4 c (by omega)

section
variable {P : Program} {wb : Wb} {k : Nat} {s : Ren} {h : List AO} {w : World}

theorem HR.kill (H : HR wb k s h w) (b : Nat) : HR wb k s (h.set b dead) w := by
  have old : ∀ (i : Nat) (o : AO), (h.set b dead)[i]? = some o → o.live = true → h[i]? = some o := by
    intro i o ho hl
    rw [List.getElem?_set] at ho
    split at ho
    · split at ho
      · cases ho; cases hl
      · cases ho
    · exact ho
  exact ⟨H.grown, by simpa using H.kle, fun i hi => H.dom i (by simpa using hi), H.plc, fun i o ho hl => H.obj i o (old i o ho hl) hl,
    fun i j a c p q hi hj ha hc => H.sep i j a c p q (old i a hi ha) (old j c hj hc) ha hc, H.gl⟩
/-- The row goes on in its own spare room: its old block is given up, the new one lies where its slice began. -/
theorem HR.regrow (H : HR wb k s h w) {b off : Nat} {o : AO} (ho : h[b]? = some o) (hlive : o.live = true) (hwr : isW o = true) (hk : k ≤ b) {p : Pl} (hp : s b = some p) (hne : o.es ≠ none) {e : Nat} {old new new' : List Value} {c' : Nat} (hew : isW ⟨true, some e, old ++ new⟩ = true)
    (hold : ∀ (i : Nat) (v : Value), old[i]? = some v → o.cs[off + i]? = some v) (hn : LR s new new') (hfit : p.off + off + c' * e = p.tot) (hlen : old.length + new.length ≤ c' * e) :
    (∀ j, j < new'.length → (w.cell? ⟨p.blk, p.off + off + old.length + j, none⟩).isSome = true) ∧ (∀ j, j < new'.length → w.frozen? ⟨p.blk, p.off + off + old.length + j, none⟩ = false) ∧
    HR wb k (upd s h.length ⟨p.blk, p.off + off, p.tot, some e⟩) (h.set b dead ++ [⟨true, some e, old ++ new⟩]) (w.setCells p.blk (p.off + off + old.length) new') ∧ Le s (upd s h.length ⟨p.blk, p.off + off, p.tot, some e⟩) := by
  obtain ⟨q, hq, hes, hb⟩ := H.obj b o ho hlive
  rw [hp] at hq
  cases hq
  replace hb := hb.2 (isW_spec hwr).1
  have hfree := hb.free (by rw [hes]; exact (isW_spec hwr).2)
  have hlen' := hn.1
  have hal : ∀ j, j < new'.length → (w.cell? ⟨p.blk, p.off + off + old.length + j, none⟩).isSome = true := fun j hj => hb.all _ (by omega)
  have hle := Le.upd (s := s) (i := h.length) ⟨p.blk, p.off + off, p.tot, some e⟩ (H.dom _ (Nat.le_refl _))
  have hblk : wb.w.heap.size ≤ p.blk ∨ wb.x p.blk := (H.plc _ _ hp).2.1 hk
  have hbl : b < h.length := (List.getElem?_eq_some_iff.1 ho).1
  have back : ∀ (i : Nat) (x : AO), i ≠ h.length → (h.set b dead ++ [(⟨true, some e, old ++ new⟩ : AO)])[i]? = some x → x.live = true → h[i]? = some x ∧ i ≠ b := by
    intro i x hi hx hl
    have hil : i < (h.set b dead).length := by
      have := (List.getElem?_eq_some_iff.1 hx).1
      simp at this ⊢; omega
    rw [List.getElem?_append_left hil, List.getElem?_set] at hx
    by_cases hbi : b = i
    · rw [if_pos hbi, if_pos hbl] at hx
      cases hx; cases hl
    · rw [if_neg hbi] at hx
      exact ⟨hx, fun e => hbi e.symm⟩
  refine ⟨hal, fun j hj => hfree _ (by omega) (by omega) (fun h => absurd (hes ▸ h) hne), ⟨grown_setCells _ hblk _ _ _ H.grown, by simp; have := H.kle; omega, fun i hi => ?_, fun i r hr => ?_, fun i x hx hl => ?_, fun i j x y r t hi hj hx hy hr ht heq => ?_, fun i r hr hg => ?_⟩, hle⟩
  · simp at hi
    rw [upd_other _ _ (by omega)]
    exact H.dom i (by omega)
  · rw [size_setCells]
    by_cases ei : i = h.length
    · subst ei
      rw [upd_same] at hr
      cases hr
      exact ⟨fun hlt => absurd H.kle (by omega), fun _ => hblk, (H.plc _ _ hp).2.2⟩
    · rw [upd_other _ _ ei] at hr
      exact H.plc i r hr
  · by_cases ei : i = h.length
    · subst ei
      rw [List.getElem?_append_right (by simp)] at hx
      simp at hx
      subst hx
      refine ⟨_, upd_same _ _ _, rfl, ObjAt.block (isW_spec hew).1 ⟨by simp only [List.length_append]; omega, fun o' ho' => ?_, ?_, fun _ o' h1 h2 _ => ?_, fun o' v hv => ?_⟩⟩
      · by_cases hin : p.off + off + old.length ≤ o' ∧ o' < p.off + off + old.length + new'.length
        · have := World.cell?_setCells_in p.blk new' (p.off + off + old.length) w hal (o' - (p.off + off + old.length)) (by omega)
          rw [show p.off + off + old.length + (o' - (p.off + off + old.length)) = o' by omega] at this
          rw [this]; rfl
        · rw [World.cell?_setCells_out _ _ _ _ _ fun _ _ => by simp; omega]
          exact hb.all o' ho'
      · obtain ⟨T, hT⟩ := hb.shp
        exact ⟨T, by rw [shape_setCells]; exact hT⟩
      · rw [World.frozen?_setCells]; exact hfree o' (by simp only at h1; omega) h2 (fun h => absurd (hes ▸ h) hne)
      · simp only at hv
        by_cases hlt : o' < old.length
        · rw [List.getElem?_append_left hlt] at hv
          obtain ⟨v', g1, g2⟩ := hb.rel _ v (hold o' v hv)
          refine ⟨v', ?_, g2.mono hle⟩
          rw [World.cell?_setCells_out _ _ _ _ _ fun _ _ => by simp; omega]
          rw [show p.off + off + o' = p.off + (off + o') by omega]
          exact g1
        · rw [List.getElem?_append_right (by omega)] at hv
          obtain ⟨y, hy, hvy⟩ := hn.get hv
          have hyl : o' - old.length < new'.length := (List.getElem?_eq_some_iff.1 hy).1
          have := World.cell?_setCells_in p.blk new' (p.off + off + old.length) w hal (o' - old.length) hyl
          rw [show p.off + off + old.length + (o' - old.length) = p.off + off + o' by omega] at this
          refine ⟨y, ?_, hvy.mono hle⟩
          rw [this, ← hy, List.getElem?_eq_getElem hyl]
    · obtain ⟨hx, hib⟩ := back i x ei hx hl
      obtain ⟨r, hr, he, hbr⟩ := H.obj i x hx hl
      have hne : r.blk ≠ p.blk := fun e => hib (H.sep i b x o r p hx ho hl hlive hr hp e)
      exact ⟨r, by rw [upd_other _ _ ei]; exact hr, he, (hbr.heap (heap_setCells p.blk r.blk hne new' _ w)).mono hle⟩
  · by_cases ei : i = h.length
    · by_cases ej : j = h.length
      · omega
      · subst ei
        rw [upd_same] at hr
        cases hr
        obtain ⟨hj', hjb⟩ := back j y ej hj hy
        rw [upd_other _ _ ej] at ht
        exact absurd (H.sep b j o y p t ho hj' hlive hy hp ht heq) (Ne.symm hjb)
    · obtain ⟨hi', hib⟩ := back i x ei hi hx
      rw [upd_other _ _ ei] at hr
      by_cases ej : j = h.length
      · subst ej
        rw [upd_same] at ht
        cases ht
        exact absurd (H.sep i b x o r p hi' ho hx hlive hr hp heq) hib
      · obtain ⟨hj', _⟩ := back j y ej hj hy
        rw [upd_other _ _ ej] at ht
        exact H.sep i j x y r t hi' hj' hx hy hr ht heq
  · by_cases ei : i = h.length
    · subst ei
      rw [upd_same] at hr
      cases hr
      exact absurd hg (isW_spec hew).2
    · rw [upd_other _ _ ei] at hr
      exact H.gl i r hr hg

/-! What is appended. -/
def srcCells (x : Value) (size n : Nat) (h : List AO) : Option (List Value) :=
  match x with
  | .slice (some a) _ _ => match aload h a (n * size) with
    | some cs => some cs
    | none => bif Nat.beq (n * size) 0 then some [] else none
  | .slice none _ _ => some []
  | .string b => some ((b.data.toList.take n).map fun c => Value.int .u8 c.toNat)
  | _ => none
theorem src_ok (H : MR s h w) {x x' : Value} (hx : VR s x x') {size n : Nat} {cs : List Value} (hr : srcCells x size n h = some cs) :
    ∃ cs', (Builtin.firstCells size n x').run P w = .ok ⟨cs'⟩ w ∧ LR s cs cs' := by
  unfold srcCells at hr
  split at hr
  · obtain ⟨p, c', hs, hp, _, rfl⟩ := hx.slice_inv
    split at hr
    · rename_i hr0
      cases hr
      obtain ⟨hlen, vs', hv, hc⟩ := aload_spec H hr0 hp
      have h2 := run_loadCells_list (P := P) w _ vs' hc
      rw [← hv.1, hlen] at h2
      exact ⟨vs', h2, hv⟩
    · cases hz : Nat.beq (n * size) 0 with
      | false => rw [hz] at hr; cases hr
      | true =>
        rw [hz] at hr
        cases hr
        have h0 : n * size = 0 := Nat.eq_of_beq_eq_true hz
        refine ⟨[], ?_, LR.nil s⟩
        have h2 := fun a => run_loadCells_list (P := P) w a [] (fun i v hi => by cases hi)
        rw [show ([] : List Value).length = n * size from h0.symm] at h2
        exact h2 _
  · cases hr
    rw [hx.eq_of_flat rfl]
    exact ⟨[], rfl, LR.nil s⟩
  · cases hr
    rename_i b
    rw [hx.string_inv]
    have e1 : ((b.extract 0 n).data.map fun c => Value.int .u8 c.toNat).toList = (b.data.toList.take n).map fun c => Value.int .u8 c.toNat := by
      rw [Array.toList_map, ByteArray.data_extract, Array.toList_extract]
      simp
    refine ⟨((b.extract 0 n).data.map fun c => Value.int .u8 c.toNat).toList, rfl, ?_⟩
    rw [e1]
    refine LR.ofFlat ?_
    exact List.all_eq_true.2 fun v hv => by
      obtain ⟨c, _, rfl⟩ := List.mem_map.1 hv
      rfl
  · cases hr
def lenA : Value → Option Nat
  | .slice _ n _ => some n
  | .string b => some b.size
  | _ => none
theorem len_of {x x' : Value} (hx : VR s x x') {n : Nat} (hr : lenA x = some n) : (Builtin.lenOf x').run P w = .ok n w := by
  cases x <;> simp only [lenA] at hr <;> try cases hr
  case slice.refl q c =>
    obtain ⟨q', c', rfl⟩ : ∃ q c', x' = .slice q n c' := by
      cases q with
      | none => exact ⟨none, _, hx.eq_of_flat rfl⟩
      | some a => obtain ⟨p, _, _, _, _, rfl⟩ := hx.slice_inv; exact ⟨_, _, rfl⟩
    rfl
  case string.refl b => rw [hx.string_inv]; rfl
def intD : TypeDesc → Bool
  | .int _ => true
  | _ => false
/-- The conditions on the element's type and on how many there are, for a row that is laid anew. -/
def roomB (i : TypeInfo) (need : Nat) : Bool :=
  decide (0 < i.size) && !(Nat.beq i.size GM) && decide ((2 * need + 200) * i.bytes ≤ 2 ^ 48) && decide ((need : Int) ≤ IntKind.i64.max) && (match i.zero with | some z => z.cells.size == i.size && z.cells.toList.length == i.size | none => false)
theorem roomB_w {i : TypeInfo} {need : Nat} (h : roomB i need = true) (cs : List Value) : isW ⟨true, some i.size, cs⟩ = true := by
  simp only [roomB, Bool.and_eq_true, decide_eq_true_eq] at h
  have h0 := h.1.1.1.1
  have h1 := h.1.1.1.2
  unfold isW
  simp only [Bool.and_eq_true]
  refine ⟨?_, h1⟩
  cases hi : i.size with
  | zero => rw [hi] at h0; cases h0
  | succ n => rfl
def oAppend (P : Program) (ts : Array TypeId) (sv xv : Value) (h : List AO) : Option Out :=
  match ts[0]?, ts[1]? with
  | some sT, some xT =>
    match P.underlying sT, P.underlying xT, lenA xv with
    | some (.slice e), some d, some n =>
      match P.info? e with
      | some i =>
        match srcCells xv i.size n h with
        | some new =>
          if intD d = false ∧ new.length = n * i.size ∧ new.all (·.oneCell') = true then
            match sv with
            | .slice none l c =>
              if l = 0 ∧ c = 0 then
                if n = 0 then some (.value (.slice none 0 0), h, none)
                else if roomB i n then some (.value (.slice (some ⟨h.length, 0, none⟩) n n), h ++ [⟨true, some i.size, new⟩], none)
                else none
              else none
            | .slice (some a) l c =>
              match esOf h a.block with
              | some none =>
                if l + n ≤ c then
                  if n = 0 then some (.value (.slice (some a) l c), h, none)
                  else
                    match astore h (a.add (l * i.size)) new with
                    | some h' => some (.value (.slice (some a) (l + n) c), h', some a.block)
                    | none => none
                else
                  match aload h a (l * i.size) with
                  | some old => if roomB i (l + n) then some (.value (.slice (some ⟨h.length, 0, none⟩) (l + n) (l + n)), h ++ [⟨true, some i.size, old ++ new⟩], none) else none
                  | none => none
              | some (some q) =>
                if q = i.size then
                  if n = 0 then some (.value (.slice (some a) l c), h, none)
                  else
                    match aload h a (l * i.size) with
                    | some old => if roomB i (l + n) then some (.value (.slice (some ⟨h.length, 0, none⟩) (l + n) (l + n)), h.set a.block dead ++ [⟨true, some i.size, old ++ new⟩], some a.block) else none
                    | none => none
                else none
              | none => none
            | _ => none
          else none
        | none => none
      | none => none
    | _, _, _ => none
  | _, _ => none
/-- The run of an append that lays a new row. -/
theorem run_append_new {ts : Array TypeId} {ty sT xT e : TypeId} {d : TypeDesc} {i : TypeInfo} (h0 : ts[0]? = some sT) (h1 : ts[1]? = some xT) (hu : P.underlying sT = some (.slice e)) (hd : P.underlying xT = some d) (hid : intD d = false)
    (hi : P.info? e = some i) {base : Option Addr} {l c n : Nat} {x' : Value} (hn : (Builtin.lenOf x').run P w = .ok n w) (hgt : ¬ l + n ≤ c) (hroom : roomB i (l + n) = true) {old new : List Value}
    (hold : (Builtin.firstCells i.size l (.slice base l c)).run P w.drew = .ok ⟨old⟩ w.drew) (hnew : (Builtin.firstCells i.size n x').run P w.drew = .ok ⟨new⟩ w.drew) (hol : old.length = l * i.size) (hnl : new.length = n * i.size) :
    ∃ (arr : Array Value) (c' : Nat), (Builtin.append_ ts ty #[.slice base l c, x']).run P w = .ok (.slice (some ⟨w.heap.size, 0, none⟩) (l + n) c') (w.drew.alloc (.cells arr e)) ∧
      arr.size = c' * i.size ∧ l + n ≤ c' ∧ ∀ (o : Nat) (v : Value), (old ++ new)[o]? = some v → arr[o]? = some v := by
  simp only [roomB, Bool.and_eq_true, decide_eq_true_eq] at hroom
  obtain ⟨⟨⟨⟨hs0, _⟩, hbytes⟩, hmax⟩, hz⟩ := hroom
  cases hzz : i.zero with
  | none => rw [hzz] at hz; cases hz
  | some z =>
    rw [hzz] at hz
    simp only [Bool.and_eq_true, beq_iff_eq] at hz
    have hcap : ¬ (Builtin.nextslicecap (l + n) c * i.bytes > 2 ^ 48) := by
      have h2 := nextcap_le (n := l + n) (c := c) (by omega)
      have h3 := Nat.mul_le_mul_right i.bytes h2
      omega
    let q := Question.appendCap (l + n) c e
    let c' := q.cut (w.tape w.drawn q)
    have hc' : l + n ≤ c' := by
      show l + n ≤ (l + n) + (w.tape w.drawn q) % (2 ^ 63 - (l + n))
      omega
    have hch : (choose q).run P w = .ok c' w.drew := by
      show (Sem.choose q .pure).run P w = _
      simp only [Sem.run]
      rw [if_neg (by simp [q, Question.forced])]
      rfl
    refine ⟨(⟨old⟩ : Array Value) ++ (⟨new⟩ : Array Value) ++ Builtin.zeroCells z.cells (c' - (l + n)), c', ?_, ?_, hc', fun o v hv => ?_⟩
    · have hch' : (choose (.appendCap (l + n) c e)).run P w = .ok c' w.drew := hch
      cases d <;> first
        | (simp only [intD] at hid; cases hid; done)
        | (simp only [Builtin.append_, h0, h1, List.getElem?_toArray, List.getElem?_cons_zero, List.getElem?_cons_succ, Sem.run_bind, run_under hu, Result.andThen_ok, run_size hi, run_under hd, Sem.run_pure, Bool.false_eq_true, if_false, hn]
           rw [if_neg hgt]
           simp only [Sem.run_bind, run_info hi, Result.andThen_ok]
           rw [if_neg (fun hh => by have := hh.1; omega)]
           simp only [Sem.run_bind, run_info hi, Result.andThen_ok]
           rw [if_neg hcap]
           simp only [Sem.run_bind, Sem.run_pure, Result.andThen_ok, hch', run_info hi, run_askRoom, hold, Bool.not_false, if_true, hnew, run_zero hi hzz]
           rfl)
    · have : (Builtin.zeroCells z.cells (c' - (l + n))).size = (c' - (l + n)) * z.cells.size := by simp [Builtin.zeroCells]
      simp only [Array.size_append, this, hz.1]
      show old.length + new.length + _ = _
      rw [hol, hnl, ← Nat.add_mul, ← Nat.add_mul]
      congr 1
      omega
    · have hlt : o < (old ++ new).length := (List.getElem?_eq_some_iff.1 hv).1
      rw [← Array.getElem?_toList, Array.toList_append, Array.toList_append]
      show ((old ++ new) ++ _)[o]? = _
      rw [List.getElem?_append_left hlt]
      exact hv
end
end Go.Proofs.YtokeopmmnpmfeaaDoor.Ex
end
section
namespace Go.Proofs.YtokeopmmnpmfeaaDoor.Ex
set_option maxRecDepth 20000

open Go Go.RowKit

section
variable {P : Program} {wb : Wb} {k : Nat} {s : Ren} {h : List AO} {w : World}

/-- The run of an append that has room. -/
theorem run_append_in {ts : Array TypeId} {ty sT xT e : TypeId} {d : TypeDesc} {i : TypeInfo} (h0 : ts[0]? = some sT) (h1 : ts[1]? = some xT) (hu : P.underlying sT = some (.slice e)) (hd : P.underlying xT = some d) (hid : intD d = false)
    (hi : P.info? e = some i) {base : Option Addr} {l c n : Nat} {x' : Value} (hn : (Builtin.lenOf x').run P w = .ok n w) (hle : l + n ≤ c) {new : List Value}
    (hnew : (Builtin.firstCells i.size n x').run P w = .ok ⟨new⟩ w) {w' : World} (hst : (match base with | some a => storeCells (a.add (l * i.size)) new | none => pure ()).run P w = .ok () w') :
    (Builtin.append_ ts ty #[.slice base l c, x']).run P w = .ok (.slice base (l + n) c) w' := by
  cases d <;> first
    | (simp only [intD] at hid; cases hid; done)
    | (simp only [Builtin.append_, h0, h1, List.getElem?_toArray, List.getElem?_cons_zero, List.getElem?_cons_succ, Sem.run_bind, run_under hu, Result.andThen_ok, run_size hi, run_under hd, Sem.run_pure, Bool.false_eq_true, if_false, hn]
       rw [if_pos hle]
       cases base with
       | none =>
         simp only [Sem.run_pure, Result.ok.injEq, true_and] at hst
         subst hst
         simp only [Sem.run_bind, Bool.not_false, if_true, hnew, Result.andThen_ok, Sem.run_pure]
       | some a =>
         simp only [Sem.run_bind, Bool.not_false, if_true, hnew, Result.andThen_ok, hst, Sem.run_pure])
theorem append_new (H : HR wb k s h w) {es : Nat} (he : 0 < es) {cs : List Value} (hw : isW ⟨true, some es, cs⟩ = true) {arr : Array Value} {T : TypeId} {c' need : Nat} {cs' : List Value} (hr : LR s cs cs') (hsz : arr.size = c' * es) (hc : need ≤ c') (hl : cs.length = need * es)
    (hget : ∀ (o : Nat) (v : Value), cs'[o]? = some v → arr[o]? = some v) :
    ∃ s', Le s s' ∧ HR wb k s' (h ++ [⟨true, some es, cs⟩]) (w.drew.alloc (.cells arr T)) ∧ VR s' (.slice (some ⟨h.length, 0, none⟩) need need) (.slice (some ⟨w.heap.size, 0, none⟩) need c') := by
  obtain ⟨H', hle⟩ := H.drew.new cs arr T (some es) hw (by rw [hl, hsz]; exact Nat.mul_le_mul_right _ hc) (fun o v hv => by
    obtain ⟨y, hy, hvy⟩ := hr.get hv
    exact ⟨y, hget o y hy, hvy⟩)
  refine ⟨_, hle, H', ?_⟩
  exact VR.slice (a := ⟨h.length, 0, none⟩) rfl (upd_same _ _ _) (by unfold CapOk; exact ⟨he, by simp only [Nat.zero_add]; rw [hsz], hc⟩)
theorem okay_val {s' : Ren} {x : Sem Value} {v v' : Value} {w' : World} {h' : List AO} {m : Option Nat} (hx : x.run P w = .ok v' w') (g1 : Le s s') (g2 : HR wb k s' h' w') (g3 : VR s' v v') : Okay P wb k s w (aval x) (.value v, h', m) :=
  ⟨s', .value v', w', by simp only [aval, Sem.run_bind, hx, Result.andThen_ok, Sem.run_pure], g1, g2, g3⟩
theorem append_ok (H : HR wb k s h w) {ts : Array TypeId} {ty : TypeId} {sv sv' xv xv' : Value} (hs : VR s sv sv') (hx : VR s xv xv') {r : Out} (hr : oAppend P ts sv xv h = some r) (hk : ∀ i, r.2.2 = some i → k ≤ i) :
    Okay P wb k s w (aval (Builtin.append_ ts ty #[sv', xv'])) r := by
  unfold oAppend at hr
  split at hr
  · rename_i sT xT h0 h1
    split at hr
    · rename_i e d n hu hd hlen
      split at hr
      · rename_i i hi
        split at hr
        · rename_i new hsrc
          split at hr
          · rename_i hc
            obtain ⟨hid, hnl, hone⟩ := hc
            obtain ⟨new', hnew, hnr⟩ := src_ok (P := P) H.mr hx hsrc
            obtain ⟨new2, hnew2, hnr2⟩ := src_ok (P := P) H.drew.mr hx hsrc
            have hnn := len_of (P := P) (w := w) hx hlen
            have hnl' : new'.length = n * i.size := by rw [← hnr.1]; exact hnl
            have hnl2 : new2.length = n * i.size := by rw [← hnr2.1]; exact hnl
            split at hr
            · -- nil
              rename_i l c
              rw [hs.eq_of_flat rfl]
              split at hr
              · rename_i hlc
                obtain ⟨rfl, rfl⟩ := hlc
                split at hr
                · rename_i hn0
                  cases hr
                  subst hn0
                  have := run_append_in (P := P) (ty := ty) h0 h1 hu hd hid hi (base := none) (l := 0) (c := 0) hnn (Nat.le_refl _) hnew (w' := w) rfl
                  exact (okay0 this (VR.same rfl)).okay H
                · rename_i hn0
                  split at hr
                  · rename_i hroom
                    cases hr
                    obtain ⟨arr, c', e1, e2, e3, e4⟩ := run_append_new (P := P) (ty := ty) (w := w) h0 h1 hu hd hid hi (base := none) (l := 0) (c := 0) hnn (by omega) (by rw [Nat.zero_add]; exact hroom) (old := []) rfl hnew2 (by simp) hnl2
                    have hr0 := hroom
                    simp only [roomB, Bool.and_eq_true, decide_eq_true_eq] at hr0
                    rw [Nat.zero_add] at e1 e3
                    obtain ⟨s', g1, g2, g3⟩ := append_new H hr0.1.1.1.1 (roomB_w hroom _) (T := e) hnr2 e2 e3 hnl (fun o v hv => e4 o v (by simpa using hv))
                    exact okay_val e1 g1 g2 g3
                  · cases hr
              · cases hr
            · -- a row
              rename_i a l c
              obtain ⟨p, c0, hsp, hp, hcap, rfl⟩ := hs.slice_inv
              split at hr
              · -- of known room
                rename_i hes
                have hpe := esOf_ok H.mr hes hp
                have hcc : c0 = c := by unfold CapOk at hcap; rw [hpe] at hcap; exact hcap
                subst hcc
                obtain ⟨a1, a2⟩ := add_vr (p := p) hsp (l * i.size)
                split at hr
                · rename_i hle
                  split at hr
                  · rename_i hn0
                    cases hr
                    subst hn0
                    have hz : new' = [] := List.length_eq_zero_iff.1 (by rw [hnl']; simp)
                    subst hz
                    have := run_append_in (P := P) (ty := ty) h0 h1 hu hd hid hi (base := some ⟨p.blk, p.off + a.off, none⟩) (l := l) (c := c0) hnn hle hnew (w' := w) rfl
                    exact (okay0 this hs).okay H
                  · split at hr
                    · rename_i h' hst
                      cases hr
                      obtain ⟨g1, g2, H'⟩ := astore_spec H hst (by rw [a1]; exact hk _ rfl) (by rw [a1]; exact hp) hnr
                      rw [a1] at g1 g2 H'
                      simp only at g1 g2 H'
                      have hone' : ∀ v ∈ new', v.oneCell' = true := by
                        intro v hv
                        obtain ⟨j, hj⟩ := List.getElem?_of_mem hv
                        obtain ⟨u, hu, huv⟩ := hnr.get' hj
                        exact huv.one (all_get hone hu)
                      have h3 := run_storeCells_cells (P := P) p.blk (p.off + (a.off + l * i.size)) new' 0 w (by simpa using g1) (by simpa using g2) hone'
                      rw [← a2] at h3
                      have := run_append_in (P := P) (ty := ty) h0 h1 hu hd hid hi (base := some ⟨p.blk, p.off + a.off, none⟩) (l := l) (c := c0) hnn hle hnew h3
                      refine okay_val this (Le.refl s) (by simpa using H') ?_
                      exact VR.slice hsp hp (by unfold CapOk; rw [hpe])
                    · cases hr
                · rename_i hgt
                  split at hr
                  · rename_i old hold
                    split at hr
                    · rename_i hroom
                      cases hr
                      obtain ⟨hol, old', hor, hoc⟩ := aload_spec H.drew.mr hold hp
                      have ho2 := run_loadCells_list (P := P) w.drew ⟨p.blk, p.off + a.off, none⟩ old' hoc
                      rw [← hor.1, hol] at ho2
                      obtain ⟨arr, c', e1, e2, e3, e4⟩ := run_append_new (P := P) (ty := ty) (w := w) h0 h1 hu hd hid hi (base := some ⟨p.blk, p.off + a.off, none⟩) (l := l) (c := c0) hnn hgt hroom (old := old') ho2 hnew2 (by rw [← hor.1]; exact hol) hnl2
                      have hr0 := hroom
                      simp only [roomB, Bool.and_eq_true, decide_eq_true_eq] at hr0
                      obtain ⟨s', g1, g2, g3⟩ := append_new H hr0.1.1.1.1 (roomB_w hroom _) (T := e) (hor.append hnr2) e2 e3 (by rw [List.length_append, hol, hnl, ← Nat.add_mul]) e4
                      exact okay_val e1 g1 g2 g3
                    · cases hr
                  · cases hr
              · -- of room that is not known
                rename_i q hes
                have hpe := esOf_ok H.mr hes hp
                have hcap2 := hcap
                unfold CapOk at hcap2
                rw [hpe] at hcap2
                simp only at hcap2
                obtain ⟨hq0, hq1, hq2⟩ := hcap2
                split at hr
                · rename_i hq
                  subst hq
                  split at hr
                  · rename_i hn0
                    cases hr
                    subst hn0
                    have hz : new' = [] := List.length_eq_zero_iff.1 (by rw [hnl']; simp)
                    subst hz
                    have := run_append_in (P := P) (ty := ty) h0 h1 hu hd hid hi (base := some ⟨p.blk, p.off + a.off, none⟩) (l := l) (c := c0) hnn hq2 hnew (w' := w) rfl
                    exact (okay0 this hs).okay H
                  · split at hr
                    · rename_i old hold
                      split at hr
                      · rename_i hroom
                        cases hr
                        have hkb : k ≤ a.block := hk _ rfl
                        have hob : ∃ o, h[a.block]? = some o ∧ o.live = true ∧ isM o = false ∧ ∀ (j : Nat) (v : Value), old[j]? = some v → o.cs[a.off + j]? = some v := by
                          unfold aload at hold
                          split at hold
                          · rename_i o ho
                            split at hold
                            · rename_i hcc
                              cases hold
                              simp at hcc
                              refine ⟨o, ho, hcc.1.1, hcc.1.2, fun j v hv => ?_⟩
                              rw [List.getElem?_take] at hv
                              split at hv
                              · rwa [List.getElem?_drop] at hv
                              · cases hv
                            · cases hold
                          · cases hold
                        obtain ⟨o, ho, hlive, hnm, hsub⟩ := hob
                        have hoe : o.es = some i.size := by
                          have h1 := hes
                          unfold esOf at h1
                          rw [ho] at h1
                          simp only [hlive, if_true] at h1
                          exact Option.some.inj h1
                        have how : isW o = true := by
                          have h1 := roomB_w hroom []
                          unfold isW at h1 ⊢
                          rw [hoe]
                          exact h1
                        obtain ⟨hol, old', hor, hoc⟩ := aload_spec H.drew.mr hold hp
                        by_cases hin : l + n ≤ c0
                        · obtain ⟨g1, g2, H', hle⟩ := H.regrow ho hlive how hkb hp (by rw [hoe]; exact fun h => by cases h) (e := i.size) (old := old) (new := new) (c' := c0) (roomB_w hroom _) hsub hnr hq1 (by rw [hol, hnl, ← Nat.add_mul]; exact Nat.mul_le_mul_right _ hin)
                          have hone' : ∀ v ∈ new', v.oneCell' = true := by
                            intro v hv
                            obtain ⟨j, hj⟩ := List.getElem?_of_mem hv
                            obtain ⟨u, hu, huv⟩ := hnr.get' hj
                            exact huv.one (all_get hone hu)
                          rw [hol] at g1 g2 H'
                          have h3 := run_storeCells_cells (P := P) p.blk (p.off + a.off + l * i.size) new' 0 w (by simpa using g1) (by simpa using g2) hone'
                          have h4 : (storeCells ((⟨p.blk, p.off + a.off, none⟩ : Addr).add (l * i.size)) new').run P w = .ok () (w.setCells p.blk (p.off + a.off + l * i.size) new') := by
                            rw [add_none]; simpa using h3
                          have := run_append_in (P := P) (ty := ty) h0 h1 hu hd hid hi (base := some ⟨p.blk, p.off + a.off, none⟩) (l := l) (c := c0) hnn hin hnew h4
                          refine okay_val this hle H' ?_
                          exact VR.slice (a := ⟨h.length, 0, none⟩) (p := ⟨p.blk, p.off + a.off, p.tot, some i.size⟩) rfl (upd_same _ _ _) (by unfold CapOk; exact ⟨hq0, by simp only [Nat.add_zero]; exact hq1, hin⟩)
                        · have ho2 := run_loadCells_list (P := P) w.drew ⟨p.blk, p.off + a.off, none⟩ old' hoc
                          rw [← hor.1, hol] at ho2
                          obtain ⟨arr, c', e1, e2, e3, e4⟩ := run_append_new (P := P) (ty := ty) (w := w) h0 h1 hu hd hid hi (base := some ⟨p.blk, p.off + a.off, none⟩) (l := l) (c := c0) hnn hin hroom (old := old') ho2 hnew2 (by rw [← hor.1]; exact hol) hnl2
                          obtain ⟨s', g1, g2, g3⟩ := append_new (H.kill a.block) hq0 (roomB_w hroom _) (T := e) (hor.append hnr2) e2 e3 (by rw [List.length_append, hol, hnl, ← Nat.add_mul]) e4
                          simp only [List.length_set] at g3
                          exact okay_val e1 g1 g2 g3
                      · cases hr
                    · cases hr
                · cases hr
              · cases hr
            · cases hr
          · cases hr
        · cases hr
      · cases hr
    · cases hr
  · cases hr
end
end Go.Proofs.YtokeopmmnpmfeaaDoor.Ex
end
section
namespace Go.Proofs.YtokeopmmnpmfeaaDoor.Ex
set_option maxRecDepth 20000

open Go Go.RowKit

section
variable {P : Program} {wb : Wb} {k : Nat} {s : Ren} {h : List AO} {w : World}
def oCopy (P : Program) (ts : Array TypeId) (dv xv : Value) (h : List AO) : Option Out :=
  match ts[0]?, dv, lenA xv with
  | some dT, .slice (some a) dl _, some n =>
    match P.underlying dT with
    | some (.slice e) =>
      match P.info? e with
      | some i =>
        match srcCells xv i.size (Nat.min n dl) h with
        | some new =>
          if new.length = Nat.min n dl * i.size ∧ new.all (·.oneCell') = true then
            match astore h a new with
            | some h' => some (.value (.int .i64 (Nat.min n dl)), h', some a.block)
            | none => none
          else none
        | none => none
      | none => none
    | _ => none
  | _, _, _ => none
theorem copy_ok (H : HR wb k s h w) {ts : Array TypeId} {ty : TypeId} {dv dv' xv xv' : Value} (hs : VR s dv dv') (hx : VR s xv xv') {r : Out} (hr : oCopy P ts dv xv h = some r) (hk : ∀ i, r.2.2 = some i → k ≤ i) :
    Okay P wb k s w (aval (Builtin.copy_ ts ty #[dv', xv'])) r := by
  unfold oCopy at hr
  split at hr
  · rename_i dT a dl c n h0 hlen
    obtain ⟨p, c0, hsp, hp, _, rfl⟩ := hs.slice_inv
    split at hr
    · rename_i e hu
      split at hr
      · rename_i i hi
        split at hr
        · rename_i new hsrc
          split at hr
          · rename_i hc
            split at hr
            · rename_i h' hst
              cases hr
              obtain ⟨new', hnew, hnr⟩ := src_ok (P := P) H.mr hx hsrc
              have hnn := len_of (P := P) (w := w) hx hlen
              obtain ⟨g1, g2, H'⟩ := astore_spec H hst (hk _ rfl) hp hnr
              have hone' : ∀ v ∈ new', v.oneCell' = true := by
                intro v hv
                obtain ⟨j, hj⟩ := List.getElem?_of_mem hv
                obtain ⟨u, hu, huv⟩ := hnr.get' hj
                exact huv.one (all_get hc.2 hu)
              have h3 := run_storeCells_cells (P := P) p.blk (p.off + a.off) new' 0 w (by simpa using g1) (by simpa using g2) hone'
              refine okay_val (v' := .int .i64 (Nat.min n dl)) (w' := w.setCells p.blk (p.off + a.off) new') ?_ (Le.refl s) H' (VR.same rfl)
              simp only [Builtin.copy_, h0, List.getElem?_toArray, List.getElem?_cons_zero, List.getElem?_cons_succ, Sem.run_bind, run_under hu, Result.andThen_ok, hnn, run_size hi, hnew]
              have h4 : (storeCells ⟨p.blk, p.off + a.off, none⟩ new').run P w = .ok () (w.setCells p.blk (p.off + a.off) new') := by simpa using h3
              simp only [h4, Result.andThen_ok, Sem.run_pure, goInt]
            · cases hr
          · cases hr
        · cases hr
      · cases hr
    · cases hr
  · cases hr

def nsOf : List Value → Option (List Int)
  | [] => some []
  | .int .u8 n :: r =>
    match nsOf r with
    | some ns => some (n :: ns)
    | none => none
  | _ => none
theorem nsOf_ok : ∀ {l : List Value} {ns : List Int}, nsOf l = some ns → l = ns.map (Value.int .u8)
  | [], ns, h => by simp [nsOf] at h; subst h; rfl
  | v :: l, ns, h => by
    unfold nsOf at h
    split at h
    · rename_i heq; cases heq
    · rename_i n r heq
      cases heq
      split at h
      · rename_i ns' hns
        cases h
        rw [nsOf_ok hns]; rfl
      · cases h
    · cases h
theorem fold_push : ∀ (ns : List Int) (r : ByteArray), (ns.foldl (fun r n => r.push (UInt8.ofNat n.toNat)) r).data.toList = r.data.toList ++ ns.map fun n => UInt8.ofNat n.toNat
  | [], r => by simp
  | n :: ns, r => by
    simp only [List.foldl_cons, fold_push ns, List.map_cons]
    simp [ByteArray.push]
theorem fold_bytes (ns : List Int) : ns.foldl (fun r n => r.push (UInt8.ofNat n.toNat)) ByteArray.empty = ⟨⟨ns.map fun n => UInt8.ofNat n.toNat⟩⟩ := by
  apply ByteArray.ext
  apply Array.toList_inj.1
  rw [fold_push]
  rfl
def oToStr (P : Program) (src dst : TypeId) (x : Value) (h : List AO) : Option Out :=
  match P.underlying src, P.underlying dst, x with
  | some (.slice e), some .string, .slice (some a) l _ =>
    match P.underlying e with
    | some (.int .u8) =>
      match aload h a l with
      | some vs =>
        match nsOf vs with
        | some ns => some (.value (.string ⟨⟨ns.map fun n => UInt8.ofNat n.toNat⟩⟩), h, none)
        | none => none
      | none => none
    | _ => none
  | _, _, _ => none
theorem toStr_ok (H : MR s h w) {src dst : TypeId} {x x' : Value} (hx : VR s x x') {r : Out} (hr : oToStr P src dst x h = some r) : Okay0 P s h w (aval (convert src dst x')) r := by
  unfold oToStr at hr
  split at hr
  · rename_i e a l c hsu hdu
    obtain ⟨p, c', hsp, hp, _, rfl⟩ := hx.slice_inv
    split at hr
    · rename_i heu
      split at hr
      · rename_i vs hvs
        split at hr
        · rename_i ns hns
          cases hr
          obtain ⟨hlen, vs', hv, hc⟩ := aload_spec H hvs hp
          have hvv : vs' = vs := hv.eq_of_flat (by rw [nsOf_ok hns]; exact List.all_eq_true.2 fun v hv => by obtain ⟨n, _, rfl⟩ := List.mem_map.1 hv; rfl)
          subst hvv
          have h2 := run_loadCells_list (P := P) w ⟨p.blk, p.off + a.off, none⟩ vs' hc
          rw [hlen] at h2
          rw [← fold_bytes]
          have h3 := run_bytesToString (P := P) w ⟨p.blk, p.off + a.off, none⟩ l c' ns (by rw [h2, nsOf_ok hns])
          refine okay0 ?_ (VR.same rfl)
          simp only [convert, Sem.run_bind, run_under hsu, run_under hdu, Result.andThen_ok, run_under heu, h3]
        · cases hr
      · cases hr
    · cases hr
  · cases hr

/-! A string made bytes: their capacity is not known. -/
def oFromStr (P : Program) (src dst : TypeId) (x : Value) (h : List AO) : Option Out :=
  match P.underlying src, P.underlying dst, x with
  | some .string, some (.slice e), .string b =>
    match P.underlying e with
    | some (.int .u8) =>
      some (.value (.slice (some ⟨h.length, 0, none⟩) b.size b.size), h ++ [⟨true, some 1, b.data.toList.map fun c => Value.int .u8 c.toNat⟩], none)
    | _ => none
  | _, _, _ => none
theorem fromStr_ok (H : HR wb k s h w) {src dst : TypeId} {x x' : Value} (hx : VR s x x') {r : Out} (hr : oFromStr P src dst x h = some r) : Okay P wb k s w (aval (convert src dst x')) r := by
  unfold oFromStr at hr
  split at hr
  · rename_i e b hsu hdu
    rw [hx.string_inv]
    split at hr
    · rename_i heu
      cases hr
      let q := Question.appendCap b.size 0 e
      let c := q.cut (w.tape w.drawn q)
      have hc : b.size ≤ c := by
        show b.size ≤ b.size + (w.tape w.drawn q) % (2 ^ 63 - b.size)
        omega
      have hch : (choose (.appendCap b.size 0 e)).run P w = .ok c w.drew := by
        show (Sem.choose q .pure).run P w = _
        simp only [Sem.run]
        rw [if_neg (by simp [q, Question.forced])]
        rfl
      let cells : Array Value := b.data.map fun c => Value.int .u8 c.toNat
      let arr : Array Value := cells ++ Array.replicate (c - b.size) (.int .u8 0)
      have hbs : cells.size = b.size := by simp [cells]
      have hsz : arr.size = c := by simp only [arr, Array.size_append, hbs, Array.size_replicate]; omega
      have hcl : (b.data.toList.map fun c => Value.int .u8 c.toNat) = cells.toList := (Array.toList_map ..).symm
      have hflat : cells.toList.all flat = true := by
        simp only [cells, Array.toList_map]
        exact List.all_eq_true.2 fun v hv => by obtain ⟨n, _, rfl⟩ := List.mem_map.1 hv; rfl
      obtain ⟨H', hle⟩ := H.drew.newF cells.toList arr e (some 1) rfl (arr.size, arr.size + 1) (fun o ho hh => by have := hh.1; omega) (by simp only [arr, Array.size_append, Array.length_toList]; omega) (fun o v hv => by
        refine ⟨v, ?_, .same (all_get hflat hv)⟩
        rw [← Array.getElem?_toList]
        simp only [arr, Array.toList_append]
        rw [List.getElem?_append_left (List.getElem?_eq_some_iff.1 hv).1]
        exact hv)
      refine okay_val (v' := .slice (some ⟨w.heap.size, 0, none⟩) b.size c) (w' := w.drew.alloc (.cells arr e (arr.size, arr.size + 1))) ?_ hle (by rw [hcl]; exact H') ?_
      · have hfr : (w.drew.alloc (.cells arr e)).freeze ⟨w.heap.size, arr.size, none⟩ 1 = w.drew.alloc (.cells arr e (arr.size, arr.size + 1)) := by
          have e1 : (w.drew.alloc (.cells arr e)).heap = w.heap.push (.cells arr e) := rfl
          unfold World.freeze
          rw [if_neg (by omega)]
          show ({ (w.drew.alloc (.cells arr e)) with heap := _ } : World) = _
          rw [e1]
          have e2 : ∀ (f : Obj → Obj) (o : Obj), (w.heap.push o).modify w.heap.size f = w.heap.push (f o) := by
            intro f o
            apply Array.ext_getElem?
            intro j
            rw [Array.getElem?_modify]
            by_cases ej : w.heap.size = j
            · subst ej; simp
            · rw [if_neg ej, Array.getElem?_push, Array.getElem?_push, if_neg (Ne.symm ej), if_neg (Ne.symm ej)]
          rw [e2]
          rfl
        have hsh : (w.drew.alloc (.cells arr e)).shape? w.heap.size = some (e, arr.size) := by
          show World.shape? (w.alloc (.cells arr e)) w.heap.size = _
          simp only [World.alloc, World.shape?, Array.getElem?_push_size]
        have hmk : (markStringish ⟨w.heap.size, 0, none⟩).run P (w.drew.alloc (.cells arr e)) = .ok () (w.drew.alloc (.cells arr e (arr.size, arr.size + 1))) := by
          rw [← hfr]
          simp only [markStringish, shape, freeze, Sem.run_bind, Sem.run, hsh, Result.andThen_ok]
        simp only [convert, Conv.stringToBytes, Sem.run_bind, run_under hsu, run_under hdu, run_under heu, Result.andThen_ok, hch]
        have hnr : (newRow e arr).run P w.drew = .ok ⟨w.heap.size, 0, none⟩ (w.drew.alloc (.cells arr e)) := rfl
        have := hnr
        simp only [arr, cells] at hnr hmk ⊢
        simp only [hnr, Result.andThen_ok, hmk, Sem.run_pure]
      · exact VR.slice (a := ⟨h.length, 0, none⟩) rfl (upd_same _ _ _) (by unfold CapOk; exact ⟨by omega, by simp only [Nat.zero_add, Nat.mul_one, Nat.add_zero]; exact hsz.symm, hc⟩)
    · cases hr
  · cases hr

/-! Closures. -/
def oFunc (fn : Fn) (a b : List Value) (h : List AO) : Option Out :=
  match fn with
  | .func f => some (.value (.func (.func f) ⟨a⟩ ⟨b⟩), h, none)
  | _ => none
theorem func_ok {ρ ρ' : Operand → Value} {fn : Fn} {a b : Array Operand} (ha : LR s (a.toList.map ρ) (a.toList.map ρ')) (hb : LR s (b.toList.map ρ) (b.toList.map ρ')) {r : Out} (hr : oFunc fn (a.toList.map ρ) (b.toList.map ρ) h = some r) :
    Okay0 P s h w (aval (Instr.makeFunc fn (a.map ρ') (b.map ρ'))) r := by
  unfold oFunc at hr
  split at hr
  · rename_i f
    cases hr
    refine okay0 (v' := .func (.func f) (a.map ρ') (b.map ρ')) rfl ?_
    have e1 : a.map ρ' = ⟨a.toList.map ρ'⟩ := Array.ext' (by rw [Array.toList_map])
    have e2 : b.map ρ' = ⟨b.toList.map ρ'⟩ := Array.ext' (by rw [Array.toList_map])
    rw [e1, e2]
    exact VR.func ha.1 ha.2 hb.1 hb.2
  · cases hr
end
end Go.Proofs.YtokeopmmnpmfeaaDoor.Ex
end
section
namespace Go.Proofs.YtokeopmmnpmfeaaDoor.Ex
set_option maxRecDepth 20000

open Go Go.RowKit

/-! Entries. -/
theorem VR.keyOf {s : Ren} {x y : Value} (h : VR s x y) : VR s (keyOf x) (keyOf y) := by
  cases x with
  | tuple vs =>
    obtain ⟨xs⟩ := vs
    obtain ⟨ys, rfl, hl⟩ := h.tuple_inv
    exact hl.getD 0 rfl
  | _ =>
    cases h with
    | same _ => exact .same rfl
    | _ => exact .same rfl
theorem VR.valOf {s : Ren} {x y : Value} (h : VR s x y) : VR s (valOf x) (valOf y) := by
  cases x with
  | tuple vs =>
    obtain ⟨xs⟩ := vs
    obtain ⟨ys, rfl, hl⟩ := h.tuple_inv
    exact hl.getD 1 rfl
  | _ =>
    cases h with
    | same _ => exact .same rfl
    | _ => exact .same rfl
theorem ents_length : ∀ (n : Nat) (l : List Value), (ents n l).length = l.length
  | _, [] => rfl
  | n, x :: r => by simp [ents, ents_length (n + 1) r]
theorem ents_append : ∀ (n : Nat) (l r : List Value), ents n (l ++ r) = ents n l ++ ents (n + l.length) r
  | n, [], r => by simp [ents]
  | n, x :: l, r => by
    simp only [List.cons_append, ents, ents_append (n + 1) l r, List.length_cons]
    rw [show n + 1 + l.length = n + (l.length + 1) by omega]
theorem ents_get : ∀ (n : Nat) (l : List Value) (i : Nat), (ents n l)[i]? = (l[i]?).map fun x => ⟨keyOf x, valOf x, n + i⟩
  | _, [], i => by simp [ents]
  | n, x :: l, 0 => by simp [ents]
  | n, x :: l, i + 1 => by
    simp only [ents, List.getElem?_cons_succ, ents_get (n + 1) l i]
    rw [show n + 1 + i = n + (i + 1) by omega]
/-- A key of a kind whose values are held against each other at once. -/
def keyB : TypeDesc → Value → Bool
  | .bool, .bool _ => true
  | .int k, .int k' _ => if k' = k then true else false
  | .string, .string _ => true
  | _, _ => false
theorem keyB_spec {d : TypeDesc} {v : Value} (h : keyB d v = true) : MapKept.IsKey d v ∧ flat v = true := by
  unfold keyB at h
  split at h
  · exact ⟨trivial, rfl⟩
  · split at h
    · rename_i e; exact ⟨e, rfl⟩
    · cases h
  · exact ⟨trivial, rfl⟩
  · cases h
theorem sameNow_rel {s : Ren} {d : TypeDesc} {k x y : Value} (h : VR s x y) {b : Bool} (hs : Instr.sameNow d k x = some b) : Instr.sameNow d k y = some b ∧ (flat k = true → b = true → MapKept.IsKey d k → y = k) := by
  have hf : flat x = true := by
    cases d <;> cases k <;> cases x <;> first | rfl | (simp [Instr.sameNow] at hs)
  have hxy := h.eq_of_flat hf
  subst hxy
  refine ⟨hs, fun _ hb hk => ?_⟩
  subst hb
  cases d <;> cases k <;> cases y <;> simp_all [Instr.sameNow, MapKept.IsKey, MapKept.bytes_beq]
theorem find_rel {s : Ren} {d : TypeDesc} {k : Value} : ∀ {xs ys : List Value}, LR s xs ys → ∀ (n m i : Nat) {r : Option (Nat × Value)}, Instr.findNow d k (ents n xs) i = some r →
    ∃ r', Instr.findNow d k (ents m ys) i = some r' ∧ (match r, r' with
      | none, none => True
      | some (j, v), some (j', v') => j = j' ∧ VR s v v' ∧ i ≤ j ∧ j - i < xs.length ∧ (MapKept.IsKey d k → flat k = true → ((ys[j - i]?).map keyOf) = some k)
      | _, _ => False)
  | [], [], _, n, m, i, r, h => by
    simp only [ents, Instr.findNow, Option.some.injEq] at h
    subst h
    exact ⟨none, rfl, trivial⟩
  | [], _ :: _, h, _, _, _, _, _ => by have := h.1; simp at this
  | _ :: _, [], h, _, _, _, _, _ => by have := h.1; simp at this
  | x :: xs, y :: ys, hl, n, m, i, r, h => by
    simp only [ents, Instr.findNow] at h ⊢
    have hk := hl.uncons.1.keyOf
    cases hs : Instr.sameNow d k (keyOf x) with
    | none => rw [hs] at h; cases h
    | some b =>
      rw [hs] at h
      obtain ⟨h1, h2⟩ := sameNow_rel hk hs
      rw [h1]
      cases b with
      | true =>
        simp only [Option.some.injEq] at h
        subst h
        refine ⟨_, rfl, rfl, hl.uncons.1.valOf, Nat.le_refl _, by simp, fun g1 g2 => ?_⟩
        simp [h2 g2 rfl g1]
      | false =>
        obtain ⟨r', e1, e2⟩ := find_rel hl.uncons.2 (n + 1) (m + 1) (i + 1) h
        refine ⟨r', e1, ?_⟩
        cases r with
        | none => cases r' with
          | none => trivial
          | some _ => exact e2.elim
        | some jv =>
          cases r' with
          | none => exact e2.elim
          | some jv' =>
            obtain ⟨j, v⟩ := jv
            obtain ⟨j', v'⟩ := jv'
            obtain ⟨g1, g2, g3, g4, g5⟩ := e2
            refine ⟨g1, g2, by omega, by simp; omega, fun q1 q2 => ?_⟩
            have := g5 q1 q2
            rw [show j - i = (j - (i + 1)) + 1 by omega]
            simpa using this

section
variable {P : Program} {wb : Wb} {k : Nat} {s : Ren} {h : List AO} {w : World}

/-- What a map has. -/
def mapCells (x : Value) (h : List AO) : Option (List Value) :=
  match x with
  | .map none => some []
  | .map (some r) =>
    match h[r]? with
    | some o => if o.live && isM o then some o.cs else none
    | none => none
  | _ => none
theorem mapCells_ok (H : MR s h w) {x x' : Value} (hx : VR s x x') {cs : List Value} (hr : mapCells x h = some cs) :
    (x' = .map none ∧ cs = []) ∨ ∃ b cs', x' = .map (some b) ∧ LR s cs cs' ∧ w.heap[b]? = some (.map ⟨ents 0 cs'⟩ cs'.length) := by
  unfold mapCells at hr
  split at hr
  · cases hr; exact .inl ⟨hx.eq_of_flat rfl, rfl⟩
  · rename_i r
    obtain ⟨p, hp, rfl⟩ := hx.map_inv
    split at hr
    · rename_i o ho
      split at hr
      · rename_i hc
        cases hr
        simp only [Bool.and_eq_true] at hc
        obtain ⟨q, hq, _, hb⟩ := H r o ho hc.1
        rw [hp] at hq
        cases hq
        obtain ⟨cs', h1, h2⟩ := hb.1 hc.2
        exact .inr ⟨_, cs', rfl, h1, h2⟩
      · cases hr
    · cases hr
  · cases hr

def okPair (ok b : Bool) (v : Value) : Value := if ok then .tuple ⟨[v, .bool b]⟩ else v
theorem okPair_ok {v v' : Value} (h : VR s v v') (ok b : Bool) : VR s (okPair ok b v) (okPair ok b v') := by
  unfold okPair
  cases ok with
  | false => exact h
  | true =>
    have := LR.cons h (LR.cons (.same (s := s) (v := .bool b) rfl) (LR.nil s))
    exact VR.tuple this.1 this.2
def Has (w : World) (x : Value) (es : Array MapEntry) : Prop := (x = .map none ∧ es = #[]) ∨ ∃ b c, x = .map (some b) ∧ w.heap[b]? = some (.map es c)
theorem run_lookup_in {t kt et : TypeId} (hu : P.underlying t = some (.map kt et)) {d : TypeDesc} (hd : P.underlying kt = some d) {x ix : Value} (hk : MapKept.IsKey d ix) {es : Array MapEntry} (hx : Has w x es) {j : Nat} {v : Value}
    (hf : (Instr.findKey kt ix es.toList).run P w = .ok (some (j, v)) w) (ok : Bool) : (Instr.lookup t x ix ok).run P w = .ok (okPair ok true v) w := by
  have hck := MapKept.run_checkKey (w := w) hd hk es.isEmpty 9999
  rcases hx with ⟨rfl, rfl⟩ | ⟨b, c, rfl, hb⟩
  · simp only [Instr.lookup, Sem.run_bind, run_under hu, Result.andThen_ok, hck, hf, Sem.run_pure, okPair]
  · simp only [Instr.lookup, Sem.run_bind, run_under hu, Result.andThen_ok, MapKept.run_getObj_map hb, hck, hf, Sem.run_pure, okPair]
theorem run_lookup_out {t kt et : TypeId} (hu : P.underlying t = some (.map kt et)) {d : TypeDesc} (hd : P.underlying kt = some d) {x ix : Value} (hk : MapKept.IsKey d ix) {es : Array MapEntry} (hx : Has w x es) {z : Value}
    (hf : (Instr.findKey kt ix es.toList).run P w = .ok none w) (hz : (zeroValue et).run P w = .ok z w) (ok : Bool) : (Instr.lookup t x ix ok).run P w = .ok (okPair ok false z) w := by
  have hck := MapKept.run_checkKey (w := w) hd hk es.isEmpty 9999
  rcases hx with ⟨rfl, rfl⟩ | ⟨b, c, rfl, hb⟩
  · simp only [Instr.lookup, Sem.run_bind, run_under hu, Result.andThen_ok, hck, hf, hz, Sem.run_pure, okPair]
  · simp only [Instr.lookup, Sem.run_bind, run_under hu, Result.andThen_ok, MapKept.run_getObj_map hb, hck, hf, hz, Sem.run_pure, okPair]
def oLookup (P : Program) (t : TypeId) (x ix : Value) (ok : Bool) (h : List AO) : Option Out :=
  match P.underlying t with
  | some (.map kt et) =>
    match P.underlying kt, mapCells x h with
    | some d, some cs =>
      if keyB d ix then
        match Instr.findNow d ix (ents 0 cs) 0 with
        | some (some (_, v)) => some (.value (okPair ok true v), h, none)
        | some none =>
          match P.info? et with
          | some i =>
            match i.zero with
            | some z => if flat z then some (.value (okPair ok false z), h, none) else none
            | none => none
          | none => none
        | none => none
      else none
    | _, _ => none
  | _ => none
theorem lookup_ok (H : MR s h w) {t : TypeId} {x x' ix ix' : Value} (hx : VR s x x') (hi : VR s ix ix') {ok : Bool} {r : Out} (hr : oLookup P t x ix ok h = some r) : Okay0 P s h w (aval (Instr.lookup t x' ix' ok)) r := by
  unfold oLookup at hr
  split at hr
  · rename_i kt et hu
    split at hr
    · rename_i d cs hd hcs
      split at hr
      · rename_i hkb
        obtain ⟨hk, hkf⟩ := keyB_spec hkb
        rw [hi.eq_of_flat hkf]
        have base : ∃ es : Array MapEntry, ∃ ys, LR s cs ys ∧ es.toList = ents 0 ys ∧ Has w x' es := by
          rcases mapCells_ok H hx hcs with ⟨rfl, rfl⟩ | ⟨b, cs', rfl, h1, h2⟩
          · exact ⟨#[], [], LR.nil s, rfl, .inl ⟨rfl, rfl⟩⟩
          · exact ⟨⟨ents 0 cs'⟩, cs', h1, rfl, .inr ⟨b, _, rfl, h2⟩⟩
        obtain ⟨es, ys, hl, he, hrun⟩ := base
        cases hf : Instr.findNow d ix (ents 0 cs) 0 with
        | none => rw [hf] at hr; cases hr
        | some q =>
          rw [hf] at hr
          obtain ⟨q', hq', hrel⟩ := find_rel hl 0 0 0 hf
          have hfk : (Instr.findKey kt ix es.toList).run P w = .ok q' w := MapKept.run_findKey hd (by rw [he]; exact hq')
          cases q with
          | none =>
            cases q' with
            | some _ => exact hrel.elim
            | none =>
              simp only at hr
              split at hr
              · rename_i i hinf
                split at hr
                · rename_i z hz
                  split at hr
                  · rename_i hzf
                    cases hr
                    refine okay0 (v' := okPair ok false z) ?_ (okPair_ok (.same hzf) ok false)
                    exact run_lookup_out hu hd hk hrun hfk (run_zero hinf hz w) ok
                  · cases hr
                · cases hr
              · cases hr
          | some jv =>
            cases q' with
            | none => exact hrel.elim
            | some jv' =>
              obtain ⟨j, v⟩ := jv
              obtain ⟨j', v'⟩ := jv'
              cases hr
              refine okay0 (v' := okPair ok true v') ?_ (okPair_ok hrel.2.1 ok true)
              exact run_lookup_in hu hd hk hrun hfk ok
      · cases hr
    · cases hr
  · cases hr

/-! New maps, and what is laid in them. -/
def oMakeMap (t : Option Value) (h : List AO) : Option Out :=
  match t with
  | none => some (.value (.map (some h.length)), h ++ [⟨true, some 0, []⟩], none)
  | some _ => none
theorem makeMap_ok (H : HR wb k s h w) {t : TypeId} {x x' : Option Value} (hx : OR s x x') {r : Out} (hr : oMakeMap x h = some r) : Okay P wb k s w (aval (Instr.makeMap t x')) r := by
  unfold oMakeMap at hr
  split at hr
  · cases hr
    cases x' with
    | some _ => exact hx.elim
    | none =>
      obtain ⟨H', hle⟩ := H.newO ⟨true, some 0, []⟩ (.map #[] 0) 0 (by simp [GM]) ⟨fun _ => ⟨[], LR.nil _, (MapKept.heap_alloc w _).1⟩, fun hm => by simp [isM] at hm⟩
      refine ⟨_, .value (.map (some w.heap.size)), w.alloc (.map #[] 0), ?_, hle, H', ?_⟩
      · simp [aval, Instr.makeMap, newObj, Sem.run]
      · exact VR.map (upd_same _ _ _)
  · cases hr
/-- A map's block anew. -/
theorem HR.setMap (H : HR wb k s h w) {b : Nat} {o : AO} (ho : h[b]? = some o) (hlive : o.live = true) (hm : isM o = true) (hk : k ≤ b) {p : Pl} (hp : s b = some p) {cs cs' : List Value} (hl : LR s cs cs') :
    HR wb k s (h.set b ⟨true, some 0, cs⟩) { w with heap := w.heap.setIfInBounds p.blk (.map ⟨ents 0 cs'⟩ cs'.length) } := by
  obtain ⟨q, hq, he, hb⟩ := H.obj b o ho hlive
  rw [hp] at hq
  cases hq
  have hes : o.es = some 0 := by
    unfold isM at hm
    split at hm
    · rename_i e h1; rw [h1, Nat.eq_of_beq_eq_true hm]
    · cases hm
  have hbl : b < h.length := (List.getElem?_eq_some_iff.1 ho).1
  have hblk : wb.w.heap.size ≤ p.blk ∨ wb.x p.blk := (H.plc _ _ hp).2.1 hk
  obtain ⟨cs0, _, hold⟩ := hb.1 hm
  have hset := MapKept.heap_set (o' := Obj.map ⟨ents 0 cs'⟩ cs'.length) hold
  have live : ∀ (i : Nat) (x : AO), (h.set b ⟨true, some 0, cs⟩)[i]? = some x → x.live = true → ∃ x', h[i]? = some x' ∧ x'.live = true := by
    intro i x hx hl
    rw [List.getElem?_set] at hx
    by_cases ei : b = i
    · subst ei; exact ⟨o, ho, hlive⟩
    · rw [if_neg ei] at hx; exact ⟨x, hx, hl⟩
  refine ⟨⟨H.grown.1, fun i hi hx => (hset.2 i (by intro e; subst e; exact hblk.elim (fun h => by omega) hx)).trans (H.grown.2.1 i hi hx), by simpa using H.grown.2.2⟩, by simpa using H.kle, fun i hi => H.dom i (by simpa using hi), fun i q hq => ?_, fun i x hx hlx => ?_, fun i j x y q r hi hj hx hy hq hr e => ?_, H.gl⟩
  · obtain ⟨a, b, c⟩ := H.plc i q hq
    exact ⟨a, b, by simpa using c⟩
  · rw [List.getElem?_set] at hx
    by_cases ei : b = i
    · subst ei
      rw [if_pos rfl, if_pos hbl] at hx
      cases hx
      exact ⟨p, hp, by rw [he, hes], ⟨fun _ => ⟨cs', hl, hset.1⟩, fun hm => by simp [isM] at hm⟩⟩
    · rw [if_neg ei] at hx
      obtain ⟨q, hq, heq, hbq⟩ := H.obj i x hx hlx
      have hne : q.blk ≠ p.blk := fun e => ei (H.sep i b x o q p hx ho hlx hlive hq hp e).symm
      exact ⟨q, hq, heq, hbq.heap (hset.2 _ hne)⟩
  · obtain ⟨x', hx1, hx2⟩ := live i x hi hx
    obtain ⟨y', hy1, hy2⟩ := live j y hj hy
    exact H.sep i j x' y' q r hx1 hy1 hx2 hy2 hq hr e
def oMapUpdate (P : Program) (t : TypeId) (m key v : Value) (h : List AO) : Option Out :=
  match P.underlying t, m with
  | some (.map kt _), .map (some r) =>
    match P.underlying kt, h[r]? with
    | some d, some o =>
      if o.live && isM o && keyB d key then
        match Instr.findNow d key (ents 0 o.cs) 0 with
        | some (some (i, _)) => some (.skip, h.set r ⟨true, some 0, o.cs.set i (.tuple ⟨[key, v]⟩)⟩, some r)
        | some none => some (.skip, h.set r ⟨true, some 0, o.cs ++ [.tuple ⟨[key, v]⟩]⟩, some r)
        | none => none
      else none
    | _, _ => none
  | _, _ => none
theorem vr_pair {s : Ren} {a a' b b' : Value} (h : VR s a a') (g : VR s b b') : VR s (.tuple ⟨[a, b]⟩) (.tuple ⟨[a', b']⟩) := by
  have := LR.cons h (LR.cons g (LR.nil s))
  exact VR.tuple this.1 this.2
theorem ents_set (n : Nat) (l : List Value) (i : Nat) (key v : Value) (hk : (l[i]?).map keyOf = some key) :
    (⟨ents n l⟩ : Array MapEntry).modify i (fun e => { e with key := key, val := v }) = ⟨ents n (l.set i (.tuple ⟨[key, v]⟩))⟩ := by
  apply Array.ext_getElem?
  intro j
  have e1 : ∀ (l : List Value) (q : Nat), (⟨ents n l⟩ : Array MapEntry)[q]? = (ents n l)[q]? := fun l q => by simp
  rw [Array.getElem?_modify, e1, e1, ents_get, ents_get, List.getElem?_set]
  by_cases hij : i = j
  · subst hij
    cases hl : l[i]? with
    | none => rw [hl] at hk; cases hk
    | some x =>
      rw [if_pos rfl, if_pos rfl, if_pos (List.getElem?_eq_some_iff.1 hl).1]
      rfl
  · rw [if_neg hij, if_neg hij]
theorem mapUpdate_ok (H : HR wb k s h w) {t : TypeId} {m m' key key' v v' : Value} (hm : VR s m m') (hkey : VR s key key') (hv : VR s v v') {r : Out} (hr : oMapUpdate P t m key v h = some r) (hk : ∀ i, r.2.2 = some i → k ≤ i) :
    Okay P wb k s w (aunit (Instr.mapUpdate t m' key' v')) r := by
  unfold oMapUpdate at hr
  split at hr
  · rename_i kt et b hu
    obtain ⟨p, hp, rfl⟩ := hm.map_inv
    split at hr
    · rename_i d o hd ho
      split at hr
      · rename_i hc
        simp only [Bool.and_eq_true] at hc
        obtain ⟨⟨hlive, hmm⟩, hkb⟩ := hc
        obtain ⟨hik, hkf⟩ := keyB_spec hkb
        rw [hkey.eq_of_flat hkf]
        obtain ⟨q, hq, _, hb⟩ := H.obj b o ho hlive
        rw [hp] at hq
        cases hq
        obtain ⟨ys, hl, hw⟩ := hb.1 hmm
        cases hf : Instr.findNow d key (ents 0 o.cs) 0 with
        | none => rw [hf] at hr; cases hr
        | some q =>
          rw [hf] at hr
          obtain ⟨q', hq', hrel⟩ := find_rel hl 0 0 0 hf
          have hfk : (Instr.findKey kt key (ents 0 ys)).run P w = .ok q' w := MapKept.run_findKey hd hq'
          have hck := fun e => MapKept.run_checkKey (P := P) (w := w) hd hik e 9999
          cases q with
          | none =>
            cases q' with
            | some _ => exact hrel.elim
            | none =>
              cases hr
              have H' := H.setMap ho hlive hmm (hk _ rfl) hp (hl.append (LR.cons (vr_pair (.same hkf) hv) (LR.nil s)))
              refine ⟨s, .skip, _, ?_, Le.refl s, H', trivial⟩
              have e1 : (⟨ents 0 ys⟩ : Array MapEntry).push { key, val := v', born := ys.length } = ⟨ents 0 (ys ++ [.tuple ⟨[key, v']⟩])⟩ := by
                apply Array.toList_inj.1
                rw [Array.toList_push, ents_append, Nat.zero_add]
                rfl
              simp only [aunit, Instr.mapUpdate, Sem.run_bind, run_under hu, Result.andThen_ok, MapKept.run_getObj_map hw, hck, hfk, MapKept.run_setObj_map _ hw, e1, List.length_append, List.length_singleton, Sem.run_pure]
          | some jv =>
            cases q' with
            | none => exact hrel.elim
            | some jv' =>
              obtain ⟨j, u⟩ := jv
              obtain ⟨j', u'⟩ := jv'
              obtain ⟨rfl, _, _, hlt, hkk⟩ := hrel
              have hky := hkk hik hkf
              simp only [Nat.sub_zero] at hlt hky
              cases hr
              have H' := H.setMap ho hlive hmm (hk _ rfl) hp (hl.set (vr_pair (.same hkf) hv) j)
              refine ⟨s, .skip, _, ?_, Le.refl s, H', trivial⟩
              have e1 := ents_set 0 ys j key v' hky
              have e2 : (((⟨ents 0 ys⟩ : Array MapEntry)[j]?).map (·.key)).getD key = key := by
                have : (⟨ents 0 ys⟩ : Array MapEntry)[j]? = (ents 0 ys)[j]? := by simp
                rw [this, ents_get]
                cases hy : ys[j]? with
                | none => rw [hy] at hky; cases hky
                | some y => rw [hy] at hky; simpa using hky
              simp only [aunit, Instr.mapUpdate, Sem.run_bind, run_under hu, Result.andThen_ok, MapKept.run_getObj_map hw, hck, hfk, e2, MapKept.run_keyThatStays hik, MapKept.run_setObj_map _ hw, e1, List.length_set, Sem.run_pure]
      · cases hr
    · cases hr
  · cases hr

/-! How many entries there are. -/
def oLenMap (P : Program) (c : Call) (args : List Value) (h : List AO) : Option Out :=
  match c.argTypes[0]?, args with
  | some t, x :: _ =>
    match P.underlying t, mapCells x h with
    | some (.map _ _), some cs => some (.value (.int .i64 cs.length), h, none)
    | _, _ => none
  | _, _ => none
theorem lenMap_ok (H : MR s h w) {ρ ρ' : Operand → Value} {c : Call} (hc : c.callee = .builtin .len) (type : TypeId) (ha : LR s (c.args.toList.map ρ) (c.args.toList.map ρ')) {r : Out}
    (hr : oLenMap P c (c.args.toList.map ρ) h = some r) : Okay0 P s h w (do let d ← resolve ρ' c type; invoke d.target d.args) r := by
  unfold oLenMap at hr
  split at hr
  · rename_i t x rest ht hxs
    obtain ⟨y, hy, hxy⟩ := ha.get (i := 0) (x := x) (by rw [hxs]; rfl)
    have hy0 : (c.args.map ρ')[0]? = some y := by
      rw [← hy, ← Array.toList_map]; exact Array.getElem?_toList.symm
    split at hr
    · rename_i kt et cs hu hcs
      cases hr
      refine ⟨.value (.int .i64 cs.length), ?_, VR.same rfl, rfl⟩
      rcases mapCells_ok H hxy hcs with ⟨rfl, rfl⟩ | ⟨b, cs', rfl, h1, h2⟩
      · simp [resolve, hc, invoke, builtin, Builtin.len_, ht, hy0, run_under hu, goInt]
      · simp [resolve, hc, invoke, builtin, Builtin.len_, ht, hy0, run_under hu, goInt, MapKept.run_getObj_map h2, ents_length, h1.1]
    · cases hr
  · cases hr

/-! Interface values. -/
def ifaceD : TypeDesc → Bool
  | .interface _ => true
  | _ => false
def oIface (P : Program) (t : TypeId) (x : Value) (h : List AO) : Option Out :=
  match P.underlying t with
  | some d => if ifaceD d then none else some (.value (.iface t x), h, none)
  | none => none
theorem iface_ok {t : TypeId} {x x' : Value} (hx : VR s x x') {r : Out} (hr : oIface P t x h = some r) : Okay0 P s h w (aval (Instr.makeInterface t x')) r := by
  unfold oIface at hr
  split at hr
  · rename_i d hu
    split at hr
    · cases hr
    · rename_i hd
      cases hr
      refine okay0 (v' := .iface t x') ?_ (VR.iface hx)
      cases d <;> first | exact absurd rfl hd | (simp only [Instr.makeInterface, Sem.run_bind, run_under hu, Result.andThen_ok, Sem.run_pure])
  · cases hr
def oAssert (P : Program) (x : Value) (t : TypeId) (ok : Bool) (h : List AO) : Option Out :=
  match P.underlying t, x with
  | some d, .iface u v =>
    if ifaceD d then none
    else if u = t then some (.value (okPair ok true v), h, none)
    else if ok then
      match P.info? t with
      | some i =>
        match i.zero with
        | some z => if flat z then some (.value (okPair true false z), h, none) else none
        | none => none
      | none => none
    else none
  | _, _ => none
theorem assert_ok {x x' : Value} (hx : VR s x x') {xt t : TypeId} {ok : Bool} {r : Out} (hr : oAssert P x t ok h = some r) : Okay0 P s h w (aval (Instr.typeAssert x' xt t ok)) r := by
  unfold oAssert at hr
  split at hr
  · rename_i d u v hu
    obtain ⟨v', rfl, hv⟩ := hx.iface_inv
    split at hr
    · cases hr
    · rename_i hd
      split at hr
      · rename_i hut
        cases hr
        refine okay0 (v' := okPair ok true v') ?_ (okPair_ok hv ok true)
        cases d <;> first | exact absurd rfl hd | (simp only [Instr.typeAssert, Sem.run_bind, run_under hu, Result.andThen_ok, hut, if_true, Sem.run_pure, okPair])
      · rename_i hut
        split at hr
        · rename_i hok
          split at hr
          · rename_i i hi
            split at hr
            · rename_i z hz
              split at hr
              · rename_i hzf
                cases hr
                refine okay0 (v' := okPair true false z) ?_ (okPair_ok (.same hzf) true false)
                cases d <;> first | exact absurd rfl hd | (simp only [Instr.typeAssert, Sem.run_bind, run_under hu, Result.andThen_ok, hut, if_false, hok, if_true, run_zero hi hz, Sem.run_pure, okPair])
              · cases hr
            · cases hr
          · cases hr
        · cases hr
  · cases hr

/-! Calls of a method behind an interface value. -/
def ptrD : TypeDesc → Bool
  | .pointer _ => true
  | _ => false
def oInvoke (P : Program) (recv : Value) (name : String) (args : List Value) (h : List AO) : Option Out :=
  match recv with
  | .iface t v =>
    match P.info? t, P.underlying t with
    | some i, some d =>
      match i.methods.find? (·.name == name) with
      | some m =>
        if m.path.toList.isEmpty then
          match m.func with
          | some (f, pr) =>
            if pr == ptrD d then
              match P.funcs[f]? with
              | some fn => if fn.body.isSome then some (.enter f ⟨v :: args⟩, h, none) else none
              | none => none
            else none
          | none => none
        else none
      | none => none
    | _, _ => none
  | _ => none
theorem invoke_ok (hng : NoNG P) {ρ ρ' : Operand → Value} {c : Call} {x : Operand} {name : String} (hc : c.callee = .invoke x name) (type : TypeId) (hx : VR s (ρ x) (ρ' x)) (ha : LR s (c.args.toList.map ρ) (c.args.toList.map ρ')) {r : Out}
    (hr : oInvoke P (ρ x) name (c.args.toList.map ρ) h = some r) : Okay0 P s h w (do let d ← resolve ρ' c type; invoke d.target d.args) r := by
  unfold oInvoke at hr
  split at hr
  · rename_i t v hxv
    rw [hxv] at hx
    obtain ⟨v', hx', hv⟩ := hx.iface_inv
    split at hr
    · rename_i i d hi hu
      split at hr
      · rename_i m hm
        split at hr
        · rename_i hpe
          split at hr
          · rename_i f pr hfn
            split at hr
            · rename_i hpr
              split at hr
              · rename_i fn hfun
                split at hr
                · rename_i hcond
                  cases hr
                  have hb : ¬ fn.body = none := by
                    intro e
                    rw [e] at hcond
                    simp at hcond
                  have hn := hng f fn hfun
                  have hpath : m.path.toList = [] := by simpa using hpe
                  have hprd : pr = ptrD d := by simpa using hpr
                  have hmeth : ∀ fuel, (method (fuel + 1) t v' name).run P w = .ok (f, v') w := by
                    intro fuel
                    unfold method
                    simp only [Sem.run_bind, run_info hi, Result.andThen_ok, hm, hpath, follow, Sem.run_pure, hfn]
                    subst hprd
                    cases d <;> simp only [ptrD, receiverAt, Sem.run_bind, run_under hu, Result.andThen_ok, Place.get, Sem.run_pure]
                  refine ⟨.enter f ⟨v' :: c.args.toList.map ρ'⟩, ?_, ⟨rfl, LR.cons hv ha⟩, rfl⟩
                  have hdep : ∃ n, P.types.size + Made.depth = n + 1 := ⟨P.types.size + 99, by simp [Made.depth]⟩
                  obtain ⟨n, hn1⟩ := hdep
                  have e0 : (#[ρ' x] ++ c.args.map ρ')[0]? = some (.iface t v') := by
                    rw [hx', Array.getElem?_append]; rfl
                  have e1 : (#[ρ' x] ++ c.args.map ρ').extract 1 (#[ρ' x] ++ c.args.map ρ').size = c.args.map ρ' := by
                    apply Array.toList_inj.1
                    simp
                    exact List.take_of_length_le (by simp)
                  have e2 : #[v'] ++ c.args.map ρ' = ⟨v' :: c.args.toList.map ρ'⟩ := by
                    apply Array.toList_inj.1
                    simp
                  simp only [resolve, hc, Sem.run_bind, Sem.run_pure, Result.andThen_ok, invoke, e0, e1, callMethod, program, Sem.run, hn1, hmeth, callFunc, hfun, e2]
                  simp [hn, hb]
                · cases hr
              · cases hr
            · cases hr
          · cases hr
        · cases hr
      · cases hr
    · cases hr
  · cases hr

/-! The empty end of a row whose capacity is not known: where it lies is not known, and nothing is read of it. -/
theorem HR.newDead (H : HR wb k s h w) {b : Nat} (hk : k ≤ b) {p p' : Pl} (hp : s b = some p) (hblk : p'.blk = p.blk) (hes : p'.es ≠ some GM) :
    HR wb k (upd s h.length p') (h ++ [dead]) w ∧ Le s (upd s h.length p') := by
  have hle := Le.upd (s := s) (i := h.length) p' (H.dom _ (Nat.le_refl _))
  have old : ∀ (i : Nat) (o : AO), (h ++ [dead])[i]? = some o → o.live = true → h[i]? = some o ∧ i ≠ h.length := by
    intro i o ho hl
    by_cases hi : i < h.length
    · rw [List.getElem?_append_left hi] at ho
      exact ⟨ho, by omega⟩
    · rw [List.getElem?_append_right (by omega)] at ho
      have h1 := List.mem_of_getElem? ho
      simp at h1
      subst h1
      cases hl
  refine ⟨⟨H.grown, by simp; have := H.kle; omega, fun i hi => ?_, fun i q hq => ?_, fun i o ho hl => ?_, fun i j x y q r hi hj hx hy hq hr e => ?_, fun i q hq hg => ?_⟩, hle⟩
  · simp at hi
    rw [upd_other _ _ (by omega)]
    exact H.dom i (by omega)
  · by_cases e : i = h.length
    · subst e
      rw [upd_same] at hq
      cases hq
      rw [hblk]
      exact ⟨fun hlt => absurd H.kle (by omega), fun _ => (H.plc _ _ hp).2.1 hk, (H.plc _ _ hp).2.2⟩
    · rw [upd_other _ _ e] at hq
      exact H.plc i q hq
  · obtain ⟨h1, h2⟩ := old i o ho hl
    obtain ⟨q, hq, he, hb⟩ := H.obj i o h1 hl
    exact ⟨q, by rw [upd_other _ _ h2]; exact hq, he, hb.mono hle⟩
  · obtain ⟨h1, h2⟩ := old i x hi hx
    obtain ⟨h3, h4⟩ := old j y hj hy
    rw [upd_other _ _ h2] at hq
    rw [upd_other _ _ h4] at hr
    exact H.sep i j x y q r h1 h3 hx hy hq hr e
  · by_cases e : i = h.length
    · subst e
      rw [upd_same] at hq
      cases hq
      exact absurd hg hes
    · rw [upd_other _ _ e] at hq
      exact H.gl i q hq hg
def oSliceEnd (P : Program) (t : TypeId) (x : Value) (lo hi : Option Value) (h : List AO) : Option Out :=
  match P.underlying t, x with
  | some (.slice e), .slice (some a) len _ =>
    match P.info? e, esOf h a.block with
    | some i, some (some q) =>
      match hiA hi len len with
      | some h1 =>
        match loA lo h1 with
        | some l => if q = i.size ∧ l = len ∧ Nat.beq q GM = false then some (.value (.slice (some ⟨h.length, 0, none⟩) 0 0), h ++ [dead], some a.block) else none
        | none => none
      | none => none
    | _, _ => none
  | _, _ => none
theorem sliceEnd_ok (H : HR wb k s h w) {t : TypeId} {x x' : Value} (hx : VR s x x') {lo lo' hi hi' : Option Value} (hl : OR s lo lo') (hh : OR s hi hi') {r : Out} (hr : oSliceEnd P t x lo hi h = some r) (hk : ∀ i, r.2.2 = some i → k ≤ i) :
    Okay P wb k s w (aval (Instr.sliceAt t x' lo' hi' none)) r := by
  unfold oSliceEnd at hr
  split at hr
  · rename_i e a len cap hu
    obtain ⟨p, c', hs, hp, hcap, rfl⟩ := hx.slice_inv
    split at hr
    · rename_i i q hi0 hes
      split at hr
      · rename_i h1 hhi
        split at hr
        · rename_i l hlo
          split at hr
          · rename_i hq
            cases hr
            obtain ⟨rfl, rfl, hgm⟩ := hq
            have hpe := esOf_ok H.mr hes hp
            unfold CapOk at hcap
            rw [hpe] at hcap
            simp only at hcap
            obtain ⟨hq0, hq1, hq2⟩ := hcap
            have hb := bounds_ok (P := P) (b := true) (cap' := c') hl hh hhi hlo (.inr hq2) w
            have g1 := hiA_le hhi (Nat.le_refl _)
            have g2 := loA_le hlo
            obtain rfl : h1 = l := by omega
            obtain ⟨e1, e2⟩ := add_vr (p := p) hs (h1 * i.size)
            have hgn : i.size ≠ GM := fun h => by rw [h] at hgm; simp at hgm
            obtain ⟨H', hle⟩ := H.newDead (hk _ rfl) hp (p' := ⟨p.blk, if c' = h1 then p.off + a.off else p.off + (a.off + h1 * i.size), (if c' = h1 then p.off + a.off else p.off + (a.off + h1 * i.size)) + (c' - h1) * i.size, some i.size⟩) rfl (by simpa using hgn)
            refine okay_val (v' := .slice (some ⟨p.blk, if c' = h1 then p.off + a.off else p.off + (a.off + h1 * i.size), none⟩) 0 (c' - h1)) ?_ hle H' ?_
            · by_cases hnl : c' = h1
              · subst hnl
                simp [Instr.sliceAt, Instr.slice, run_under hu, hb, run_size hi0]
              · simp [Instr.sliceAt, Instr.slice, run_under hu, hb, run_size hi0, hnl, e2]
            · have := VR.slice (s := upd s h.length ⟨p.blk, if c' = h1 then p.off + a.off else p.off + (a.off + h1 * i.size), (if c' = h1 then p.off + a.off else p.off + (a.off + h1 * i.size)) + (c' - h1) * i.size, some i.size⟩) (a := ⟨h.length, 0, none⟩) (l := 0) (c := 0) (c' := c' - h1) rfl (upd_same _ _ _) (by unfold CapOk; exact ⟨hq0, by simp, by omega⟩)
              simpa using this
          · cases hr
        · cases hr
      · cases hr
    · cases hr
  · cases hr
end
end Go.Proofs.YtokeopmmnpmfeaaDoor.Ex
end
