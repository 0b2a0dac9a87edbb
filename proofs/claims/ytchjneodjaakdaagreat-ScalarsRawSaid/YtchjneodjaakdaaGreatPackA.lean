/-
  Lemmas for the laws of this seat, part A: Bv, Grown, Ex1, Ex2, Ex3, Ex4, Ex5, Ex6, Ex5b, Ex7, Ex8, Ex3b.
-/
import Derived.WalkKit
import Derived.WalkSpells
import Derived.WalkLawsBesides
import Derived.Handy
import Derived.StillTail
import Derived.Laws.IdiomCopy
import Derived.Laws.IdiomStrings
import Derived.LoopN
import Derived.Scope
import Derived.Laws.StructEq
import Derived.ChangeKeysEq
section
namespace Go.Proofs.YtchjneodjaakdaaGreat
open Go.RowKit

def N {w : Nat} (v : BitVec w) : Int := (v.toNat : Int)
def Z {w : Nat} (v : BitVec w) : Int := v.toInt

theorem N_nonneg {w : Nat} (v : BitVec w) : 0 ≤ N v := by unfold N; omega
theorem N_lt {w : Nat} (v : BitVec w) : N v < 2 ^ w := by
  unfold N; exact_mod_cast v.isLt
theorem N_inj {w : Nat} {a b : BitVec w} (h : N a = N b) : a = b := BitVec.eq_of_toNat_eq (by unfold N at h; omega)
theorem N_eq_iff {w : Nat} (a b : BitVec w) : N a = N b ↔ a = b := ⟨N_inj, fun h => by rw [h]⟩
theorem N_beq {w : Nat} (a b : BitVec w) : (N a == N b) = (a == b) := by
  rw [Bool.eq_iff_iff]; simp [N_eq_iff]
theorem ofInt_N {w : Nat} (v : BitVec w) : BitVec.ofInt w (N v) = v := by
  unfold N; rw [BitVec.ofInt_natCast]; simp
theorem N_ofInt {w : Nat} (x : Int) (h0 : 0 ≤ x) (h1 : x < 2 ^ w) : N (BitVec.ofInt w x) = x := by
  unfold N
  obtain ⟨n, rfl⟩ := Int.eq_ofNat_of_zero_le h0
  have h1' : n < 2 ^ w := by exact_mod_cast h1
  rw [BitVec.ofInt_natCast, BitVec.toNat_ofNat, Nat.mod_eq_of_lt h1']

theorem N_ofNat (w n : Nat) : N (BitVec.ofNat w n) = ((n % 2 ^ w : Nat) : Int) := by unfold N; simp

/-! Wraps. -/
theorem N_ofInt_mod (w : Nat) (x : Int) : N (BitVec.ofInt w x) = x % (2 ^ w : Nat) := by
  unfold N
  rw [BitVec.toNat_ofInt]
  have : (0 : Int) ≤ x % (2 ^ w : Nat) := Int.emod_nonneg _ (by have := Nat.two_pow_pos w; omega)
  omega
theorem u64_wrap (x : Int) : IntKind.u64.wrap x = N (BitVec.ofInt 64 x) := by
  rw [N_ofInt_mod]; simp [IntKind.wrap, IntKind.bits, IntKind.signed]
theorem u32_wrap (x : Int) : IntKind.u32.wrap x = N (BitVec.ofInt 32 x) := by
  rw [N_ofInt_mod]; simp [IntKind.wrap, IntKind.bits, IntKind.signed]
theorem u16_wrap (x : Int) : IntKind.u16.wrap x = N (BitVec.ofInt 16 x) := by
  rw [N_ofInt_mod]; simp [IntKind.wrap, IntKind.bits, IntKind.signed]
theorem u8_wrap (x : Int) : IntKind.u8.wrap x = N (BitVec.ofInt 8 x) := by
  rw [N_ofInt_mod]; simp [IntKind.wrap, IntKind.bits, IntKind.signed]
theorem ofInt_sub' (w : Nat) (x y : Int) : BitVec.ofInt w (x - y) = BitVec.ofInt w x - BitVec.ofInt w y := by
  apply BitVec.eq_of_toInt_eq
  rw [BitVec.toInt_sub, BitVec.toInt_ofInt, BitVec.toInt_ofInt, BitVec.toInt_ofInt, Int.bmod_sub_bmod, Int.sub_bmod_bmod]
theorem ofInt_Nw (w : Nat) {k : Nat} (v : BitVec k) : BitVec.ofInt w (N v) = v.setWidth w := by
  unfold N; rw [BitVec.ofInt_natCast]; simp
theorem ofInt_Z (w : Nat) {k : Nat} (v : BitVec k) : BitVec.ofInt w (Z v) = v.signExtend w := rfl
theorem wrap64_N (v : BitVec 64) : wrap64 (N v) = Z v := by
  unfold wrap64 N Z
  have := v.isLt
  rw [BitVec.toInt_eq_toNat_cond]
  split <;> omega
theorem Z_ofInt (x : Int) : Z (BitVec.ofInt 64 x) = wrap64 x := by
  unfold wrap64 Z
  rw [BitVec.toInt_ofInt]
  simp [Int.bmod_def]
  omega
theorem wrap64_small {k : Nat} (v : BitVec k) (h : k < 64) : wrap64 (N v) = N v := by
  have h1 := N_lt v
  have h0 := N_nonneg v
  have h2 : (2 : Int) ^ k ≤ 2 ^ 63 := by exact_mod_cast Nat.pow_le_pow_right (n := 2) (by decide) (show k ≤ 63 by omega)
  unfold wrap64
  omega

/-! Bits. -/
theorem u64_and (x y : Int) : bits .and .u64 x y = N (BitVec.ofInt 64 x &&& BitVec.ofInt 64 y) := by
  show IntKind.u64.wrap (((BitVec.ofInt 64 x &&& BitVec.ofInt 64 y).toNat : Nat) : Int) = _
  rw [u64_wrap, BitVec.ofInt_natCast, BitVec.ofNat_toNat, BitVec.setWidth_eq]
theorem u64_or (x y : Int) : bits .or .u64 x y = N (BitVec.ofInt 64 x ||| BitVec.ofInt 64 y) := by
  show IntKind.u64.wrap (((BitVec.ofInt 64 x ||| BitVec.ofInt 64 y).toNat : Nat) : Int) = _
  rw [u64_wrap, BitVec.ofInt_natCast, BitVec.ofNat_toNat, BitVec.setWidth_eq]
theorem u64_xor (x y : Int) : bits .xor .u64 x y = N (BitVec.ofInt 64 x ^^^ BitVec.ofInt 64 y) := by
  show IntKind.u64.wrap (((BitVec.ofInt 64 x ^^^ BitVec.ofInt 64 y).toNat : Nat) : Int) = _
  rw [u64_wrap, BitVec.ofInt_natCast, BitVec.ofNat_toNat, BitVec.setWidth_eq]
theorem u64_andNot (x y : Int) : bits .andNot .u64 x y = N (BitVec.ofInt 64 x &&& ~~~BitVec.ofInt 64 y) := by
  show IntKind.u64.wrap (((BitVec.ofInt 64 x &&& ~~~BitVec.ofInt 64 y).toNat : Nat) : Int) = _
  rw [u64_wrap, BitVec.ofInt_natCast, BitVec.ofNat_toNat, BitVec.setWidth_eq]
theorem u32_and (x y : Int) : bits .and .u32 x y = N (BitVec.ofInt 32 x &&& BitVec.ofInt 32 y) := by
  show IntKind.u32.wrap (((BitVec.ofInt 32 x &&& BitVec.ofInt 32 y).toNat : Nat) : Int) = _
  rw [u32_wrap, BitVec.ofInt_natCast, BitVec.ofNat_toNat, BitVec.setWidth_eq]
theorem u32_or (x y : Int) : bits .or .u32 x y = N (BitVec.ofInt 32 x ||| BitVec.ofInt 32 y) := by
  show IntKind.u32.wrap (((BitVec.ofInt 32 x ||| BitVec.ofInt 32 y).toNat : Nat) : Int) = _
  rw [u32_wrap, BitVec.ofInt_natCast, BitVec.ofNat_toNat, BitVec.setWidth_eq]
theorem u32_xor (x y : Int) : bits .xor .u32 x y = N (BitVec.ofInt 32 x ^^^ BitVec.ofInt 32 y) := by
  show IntKind.u32.wrap (((BitVec.ofInt 32 x ^^^ BitVec.ofInt 32 y).toNat : Nat) : Int) = _
  rw [u32_wrap, BitVec.ofInt_natCast, BitVec.ofNat_toNat, BitVec.setWidth_eq]
theorem u8_and (x y : Int) : bits .and .u8 x y = N (BitVec.ofInt 8 x &&& BitVec.ofInt 8 y) := by
  show IntKind.u8.wrap (((BitVec.ofInt 8 x &&& BitVec.ofInt 8 y).toNat : Nat) : Int) = _
  rw [u8_wrap, BitVec.ofInt_natCast, BitVec.ofNat_toNat, BitVec.setWidth_eq]
theorem u8_or (x y : Int) : bits .or .u8 x y = N (BitVec.ofInt 8 x ||| BitVec.ofInt 8 y) := by
  show IntKind.u8.wrap (((BitVec.ofInt 8 x ||| BitVec.ofInt 8 y).toNat : Nat) : Int) = _
  rw [u8_wrap, BitVec.ofInt_natCast, BitVec.ofNat_toNat, BitVec.setWidth_eq]

/-! Quotients and shifts. -/
theorem N_tdiv {w : Nat} (a b : BitVec w) : (N a).tdiv (N b) = N (a / b) := by
  unfold N; rw [BitVec.toNat_udiv, Int.natCast_ediv, Int.tdiv_eq_ediv_of_nonneg (by omega)]
theorem N_ediv {w : Nat} (a b : BitVec w) : N a / N b = N (a / b) := by
  unfold N; rw [BitVec.toNat_udiv, Int.natCast_ediv]
theorem N_tmod {w : Nat} (a b : BitVec w) : (N a).tmod (N b) = N (a % b) := by
  unfold N; rw [BitVec.toNat_umod, Int.natCast_emod, Int.tmod_eq_emod_of_nonneg (by omega)]
theorem N_emod {w : Nat} (a b : BitVec w) : N a % N b = N (a % b) := by
  unfold N; rw [BitVec.toNat_umod, Int.natCast_emod]
theorem N_shr {w : Nat} (a : BitVec w) (n : Nat) : N a / 2 ^ n = N (a >>> n) := by
  unfold N; rw [BitVec.toNat_ushiftRight, Nat.shiftRight_eq_div_pow]; simp
theorem Z_shr {w : Nat} (a : BitVec w) (n : Nat) : Z a / 2 ^ n = Z (a.sshiftRight n) := by
  unfold Z; rw [BitVec.toInt_sshiftRight, Int.shiftRight_eq_div_pow]; simp
theorem ofInt_shl (w : Nat) (x : Int) (n : Nat) : BitVec.ofInt w (x * 2 ^ n) = BitVec.ofInt w x <<< n := by
  rw [BitVec.ofInt_mul, BitVec.shiftLeft_eq_mul_twoPow]
  congr 1
  have : (2 : Int) ^ n = ((2 ^ n : Nat) : Int) := by simp
  rw [this, BitVec.ofInt_natCast]
  apply BitVec.eq_of_toNat_eq; simp
theorem ofInt_pow (w : Nat) (n : Nat) : BitVec.ofInt w (2 ^ n) = 1#w <<< n := by
  have := ofInt_shl w 1 n
  rw [Int.one_mul] at this; rw [this]; congr 1
theorem mul_shl1 {w : Nat} (v : BitVec w) (n : Nat) : v * 1#w <<< n = v <<< n := by
  rw [BitVec.shiftLeft_eq_mul_twoPow, BitVec.shiftLeft_eq_mul_twoPow]
  rw [BitVec.one_mul]
theorem N_div8 {w : Nat} (v : BitVec w) : N v / (256 : Int) = N (v >>> 8) := N_shr v 8
theorem N_div16 {w : Nat} (v : BitVec w) : N v / (65536 : Int) = N (v >>> 16) := N_shr v 16
theorem N_div24 {w : Nat} (v : BitVec w) : N v / (16777216 : Int) = N (v >>> 24) := N_shr v 24
theorem N_div32 {w : Nat} (v : BitVec w) : N v / (4294967296 : Int) = N (v >>> 32) := N_shr v 32
theorem N_div40 {w : Nat} (v : BitVec w) : N v / (1099511627776 : Int) = N (v >>> 40) := N_shr v 40
theorem N_div48 {w : Nat} (v : BitVec w) : N v / (281474976710656 : Int) = N (v >>> 48) := N_shr v 48
theorem N_div56 {w : Nat} (v : BitVec w) : N v / (72057594037927936 : Int) = N (v >>> 56) := N_shr v 56
theorem ofInt8_tmod256 (x : BitVec 64) : BitVec.ofInt 8 ((N x).tmod 256) = x.setWidth 8 := by
  have e : (N x).tmod 256 = ((x.toNat % 256 : Nat) : Int) := by
    unfold N; rw [Int.tmod_eq_emod_of_nonneg (by omega)]; omega
  rw [e, BitVec.ofInt_natCast]
  apply BitVec.eq_of_toNat_eq
  simp
theorem N_tdiv256 (x : BitVec 64) : (N x).tdiv 256 = N (x >>> 8) := by
  have e : (N x).tdiv 256 = N x / (256 : Int) := by
    unfold N; rw [Int.tdiv_eq_ediv_of_nonneg (by omega)]
  rw [e, N_div8]

end Go.Proofs.YtchjneodjaakdaaGreat
end
section
namespace Go.Proofs.YtchjneodjaakdaaGreat
open Go.RowKit

theorem Grown.trans' {a b c : World} (h1 : Grown a b) (h2 : Grown b c) : Grown a c := by
  exact ⟨World.keptBut_trans h1.1 h2.1, fun x => (h2.2.1 x).trans (h1.2.1 x), Nat.le_trans h1.2.2 h2.2.2⟩
theorem grown_drewN {a b : World} (h : Grown a b) (n : Nat) : Grown a (b.drewN n) := by
  induction n with
  | zero => exact h
  | succ n ih => exact ih.drew
theorem grown_block {W W' : World} (h : Grown W W') {b : Nat} (hb : b < W.heap.size) : W'.heap[b]? = W.heap[b]? := by
  have h1 := h.1.2.2 b hb
  have h2 : b < W'.heap.size := Nat.lt_of_lt_of_le hb h.2.2
  have e1 : W.heap[b]? = some W.heap[b] := Array.getElem?_eq_getElem hb
  have e2 : W'.heap[b]? = some W'.heap[b] := Array.getElem?_eq_getElem h2
  rw [e1, e2] at h1 ⊢
  generalize W.heap[b] = o at *
  generalize W'.heap[b] = o' at *
  cases o <;> cases o' <;> simp_all
  case cells.cells =>
    obtain ⟨rfl, rfl, h5, h6⟩ := h1
    apply Array.ext_getElem?
    exact h6
theorem grown_cell {W W' : World} (h : Grown W W') {a : Addr} (hb : a.block < W.heap.size) : W'.cell? a = W.cell? a := by
  unfold World.cell?
  rw [grown_block h hb]
theorem grown_cellAt {W W' : World} (h : Grown W W') {a : Addr} {v : Value} (hb : a.block < W.heap.size) (hc : W.cell? a = some v) : W'.cell? a = some v := by
  rw [grown_cell h hb]; exact hc
end Go.Proofs.YtchjneodjaakdaaGreat
end
section
namespace Go.Proofs.YtchjneodjaakdaaGreat.Ex
open Go Go.RowKit

/-- New blocks behind, and draws: of what was there nothing turns. -/
def Gr (W w : World) : Prop := (w.os = W.os ∧ w.output = W.output) ∧ (∀ k, k < W.heap.size → w.heap[k]? = W.heap[k]?) ∧ W.heap.size ≤ w.heap.size
theorem Gr.refl (w : World) : Gr w w := ⟨⟨rfl, rfl⟩, fun _ _ => rfl, Nat.le_refl _⟩
theorem Gr.trans' {a b c : World} (h : Gr a b) (g : Gr b c) : Gr a c :=
  ⟨⟨g.1.1.trans h.1.1, g.1.2.trans h.1.2⟩, fun k hk => (g.2.1 k (Nat.lt_of_lt_of_le hk h.2.2)).trans (h.2.1 k hk), Nat.le_trans h.2.2 g.2.2⟩
theorem Gr.drew {a b : World} (h : Gr a b) : Gr a b.drew := h
theorem Gr.allocO {a b : World} (h : Gr a b) (o : Obj) : Gr a (b.alloc o) :=
  ⟨h.1, fun k hk => (Below.heap_alloc b o k (Nat.lt_of_lt_of_le hk h.2.2)).trans (h.2.1 k hk), Nat.le_trans h.2.2 (by simp)⟩
theorem Gr.alloc {a b : World} (h : Gr a b) (cs : Array Value) (T : TypeId) : Gr a (b.alloc (.cells cs T)) := h.allocO _
theorem Gr.setCell {a b : World} (h : Gr a b) {p : Addr} (hp : a.heap.size ≤ p.block) (v : Value) : Gr a (b.setCell p v) :=
  ⟨h.1, fun k hk => (Below.heap_setCell b p v k (by omega)).trans (h.2.1 k hk), by simpa [World.setCell] using h.2.2⟩
theorem gr_cell {W w : World} (g : Gr W w) {a : Addr} (hb : a.block < W.heap.size) : w.cell? a = W.cell? a := World.cell?_of_block (w := W) (g.2.1 _ hb)
theorem gr_frozen {W w : World} (g : Gr W w) {a : Addr} (hb : a.block < W.heap.size) : w.frozen? a = W.frozen? a := World.frozen?_of_block (w := W) (g.2.1 _ hb)
theorem gr_shape {W w : World} (g : Gr W w) {b : Nat} (hb : b < W.heap.size) {x : Option (TypeId × Nat)} (h : W.shape? b = x) : w.shape? b = x := by
  rw [← h]; unfold World.shape?; rw [g.2.1 b hb]
theorem Gr.of_grown {W w : World} (h : Grown W w) : Gr W w := ⟨⟨h.1.1, h.1.2.1⟩, fun _ hk => grown_block h hk, h.2.2⟩

/-! Values that hold no address. -/
def scal : Value → Bool
  | .bool _ => true
  | .int _ _ => true
  | .float _ _ => true
  | .complex _ _ _ => true
  | .string _ => true
  | .pointer none => true
  | .slice none _ _ => true
  | .map none => true
  | .chan none => true
  | .nilFunc => true
  | .nilIface => true
  | .func (.func _) a b => a.toList.isEmpty && b.toList.isEmpty
  | _ => false
def flat1 : Value → Bool
  | .agg cs => cs.toList.all scal
  | v => scal v
def flat : Value → Bool
  | .tuple vs => vs.toList.all flat1
  | .iface _ v => flat1 v
  | v => flat1 v
theorem flat1_of_scal {v : Value} (h : scal v = true) : flat1 v = true := by
  cases v <;> first | exact h | simp [scal] at h
theorem flat_of_flat1 {v : Value} (h : flat1 v = true) : flat v = true := by
  cases v <;> first | exact h | simp [flat1, scal] at h
theorem flat_of_scal {v : Value} (h : scal v = true) : flat v = true := flat_of_flat1 (flat1_of_scal h)

/-! Where a reckoned block lies: its block, its first cell there, how many cells that block has; and of which size the elements are of slices of it whose capacity is not known. -/
structure Pl where
  blk : Nat
  off : Nat
  tot : Nat
  es : Option Nat
abbrev Ren := Nat → Option Pl
def Le (s t : Ren) : Prop := ∀ i p, s i = some p → t i = some p
theorem Le.refl (s : Ren) : Le s s := fun _ _ h => h
theorem Le.trans {a b c : Ren} (h1 : Le a b) (h2 : Le b c) : Le a c := fun i p h => h2 i p (h1 i p h)

def CapOk (p : Pl) (off l c c' : Nat) : Prop :=
  match p.es with
  | none => c' = c
  | some e => 0 < e ∧ p.off + off + c' * e = p.tot ∧ l ≤ c'

inductive VR (s : Ren) : Value → Value → Prop
  | same {v : Value} (h : flat v = true) : VR s v v
  | ptr {a : Addr} {p : Pl} (hs : a.spot = none) (hp : s a.block = some p) : VR s (.pointer (some a)) (.pointer (some ⟨p.blk, p.off + a.off, none⟩))
  | slice {a : Addr} {l c c' : Nat} {p : Pl} (hs : a.spot = none) (hp : s a.block = some p) (hc : CapOk p a.off l c c') :
      VR s (.slice (some a) l c) (.slice (some ⟨p.blk, p.off + a.off, none⟩) l c')
  | agg {xs ys : List Value} (hl : xs.length = ys.length) (h : ∀ (i : Nat) (x y : Value), xs[i]? = some x → ys[i]? = some y → VR s x y) : VR s (.agg ⟨xs⟩) (.agg ⟨ys⟩)
  | tuple {xs ys : List Value} (hl : xs.length = ys.length) (h : ∀ (i : Nat) (x y : Value), xs[i]? = some x → ys[i]? = some y → VR s x y) : VR s (.tuple ⟨xs⟩) (.tuple ⟨ys⟩)
  | func {f : FuncId} {xs ys us vs : List Value} (hl : xs.length = ys.length) (h : ∀ (i : Nat) (x y : Value), xs[i]? = some x → ys[i]? = some y → VR s x y)
      (hl' : us.length = vs.length) (h' : ∀ (i : Nat) (x y : Value), us[i]? = some x → vs[i]? = some y → VR s x y) : VR s (.func (.func f) ⟨xs⟩ ⟨us⟩) (.func (.func f) ⟨ys⟩ ⟨vs⟩)
  | iface {t : TypeId} {x y : Value} (h : VR s x y) : VR s (.iface t x) (.iface t y)
  | map {i : Nat} {p : Pl} (hp : s i = some p) : VR s (.map (some i)) (.map (some p.blk))

def LR (s : Ren) (xs ys : List Value) : Prop := xs.length = ys.length ∧ ∀ (i : Nat) (x y : Value), xs[i]? = some x → ys[i]? = some y → VR s x y

theorem list_eq {xs ys : List Value} (hl : xs.length = ys.length) (h : ∀ (i : Nat) (x y : Value), xs[i]? = some x → ys[i]? = some y → y = x) : ys = xs := by
  apply List.ext_getElem hl.symm
  intro i h1 h2
  exact h i _ _ (List.getElem?_eq_getElem h2) (List.getElem?_eq_getElem h1)
theorem all_get {p : Value → Bool} {xs : List Value} (h : xs.all p = true) {i : Nat} {x : Value} (hx : xs[i]? = some x) : p x = true :=
  List.all_eq_true.1 h x (List.mem_of_getElem? hx)

theorem VR.eq_of_flat {s : Ren} {v v' : Value} (h : VR s v v') : flat v = true → v' = v := by
  induction h with
  | same _ => exact fun _ => rfl
  | ptr _ _ => intro h; simp [Ex.flat, flat1, scal] at h
  | slice _ _ _ => intro h; simp [Ex.flat, flat1, scal] at h
  | agg hl _ ih =>
    intro h
    rw [list_eq hl fun i x y hx hy => ih i x y hx hy (flat_of_scal (all_get (by simpa [Ex.flat, flat1] using h) hx))]
  | tuple hl _ ih =>
    intro h
    rw [list_eq hl fun i x y hx hy => ih i x y hx hy (flat_of_flat1 (all_get (by simpa [Ex.flat] using h) hx))]
  | func hl _ hl' _ _ _ =>
    intro h
    simp [Ex.flat, flat1, scal] at h
    obtain ⟨rfl, rfl⟩ := h
    rw [List.length_eq_zero_iff.1 hl.symm, List.length_eq_zero_iff.1 hl'.symm]
  | iface _ ih => 
    intro h
    rw [ih (flat_of_flat1 (by simpa [Ex.flat] using h))]
  | map _ => intro h; simp [Ex.flat, flat1, scal] at h

theorem VR.mono {s t : Ren} (hle : Le s t) {v v' : Value} (h : VR s v v') : VR t v v' := by
  induction h with
  | same h => exact .same h
  | ptr hs hp => exact .ptr hs (hle _ _ hp)
  | slice hs hp hc => exact .slice hs (hle _ _ hp) hc
  | agg hl _ ih => exact .agg hl ih
  | tuple hl _ ih => exact .tuple hl ih
  | func hl _ hl' _ ih ih' => exact .func hl ih hl' ih'
  | iface _ ih => exact .iface ih
  | map hp => exact .map (hle _ _ hp)
theorem LR.mono {s t : Ren} (hle : Le s t) {xs ys : List Value} (h : LR s xs ys) : LR t xs ys := ⟨h.1, fun i x y hx hy => (h.2 i x y hx hy).mono hle⟩

theorem LR.nil (s : Ren) : LR s [] [] := ⟨rfl, fun _ _ _ h => by simp at h⟩
theorem LR.cons {s : Ren} {x y : Value} {xs ys : List Value} (h : VR s x y) (hs : LR s xs ys) : LR s (x :: xs) (y :: ys) := by
  refine ⟨by simp [hs.1], fun i a b ha hb => ?_⟩
  cases i with
  | zero => simp at ha hb; subst ha hb; exact h
  | succ i => exact hs.2 i a b (by simpa using ha) (by simpa using hb)
theorem LR.get {s : Ren} {xs ys : List Value} (h : LR s xs ys) {i : Nat} {x : Value} (hx : xs[i]? = some x) : ∃ y, ys[i]? = some y ∧ VR s x y := by
  have hi : i < xs.length := (List.getElem?_eq_some_iff.1 hx).1
  have hi' : i < ys.length := h.1 ▸ hi
  exact ⟨ys[i], List.getElem?_eq_getElem hi', h.2 i x _ hx (List.getElem?_eq_getElem hi')⟩
theorem LR.get' {s : Ren} {xs ys : List Value} (h : LR s xs ys) {i : Nat} {y : Value} (hy : ys[i]? = some y) : ∃ x, xs[i]? = some x ∧ VR s x y := by
  have hi' : i < ys.length := (List.getElem?_eq_some_iff.1 hy).1
  have hi : i < xs.length := by rw [h.1]; exact hi'
  exact ⟨xs[i], List.getElem?_eq_getElem hi, h.2 i _ y (List.getElem?_eq_getElem hi) hy⟩
theorem LR.uncons {s : Ren} {x y : Value} {xs ys : List Value} (h : LR s (x :: xs) (y :: ys)) : VR s x y ∧ LR s xs ys :=
  ⟨h.2 0 x y rfl rfl, by have := h.1; simpa using this, fun i a b ha hb => h.2 (i + 1) a b (by simpa using ha) (by simpa using hb)⟩
theorem LR.append {s : Ren} {xs ys us vs : List Value} (h : LR s xs ys) (h' : LR s us vs) : LR s (xs ++ us) (ys ++ vs) := by
  refine ⟨by simp [h.1, h'.1], fun i a b ha hb => ?_⟩
  by_cases hi : i < xs.length
  · rw [List.getElem?_append_left hi] at ha
    rw [List.getElem?_append_left (h.1 ▸ hi)] at hb
    exact h.2 i a b ha hb
  · rw [List.getElem?_append_right (by omega)] at ha
    rw [List.getElem?_append_right (by have := h.1; omega)] at hb
    rw [← h.1] at hb
    exact h'.2 _ a b ha hb
theorem LR.take {s : Ren} {xs ys : List Value} (h : LR s xs ys) (n : Nat) : LR s (xs.take n) (ys.take n) := by
  refine ⟨by simp [h.1], fun i a b ha hb => ?_⟩
  rw [List.getElem?_take] at ha hb
  by_cases hi : i < n
  · rw [if_pos hi] at ha hb
    exact h.2 i a b ha hb
  · rw [if_neg hi] at ha
    cases ha
theorem LR.drop {s : Ren} {xs ys : List Value} (h : LR s xs ys) (n : Nat) : LR s (xs.drop n) (ys.drop n) := by
  refine ⟨by simp [h.1], fun i a b ha hb => ?_⟩
  rw [List.getElem?_drop] at ha hb
  exact h.2 _ a b ha hb
theorem LR.set {s : Ren} {xs ys : List Value} (h : LR s xs ys) {x y : Value} (hv : VR s x y) (n : Nat) : LR s (xs.set n x) (ys.set n y) := by
  refine ⟨by simp [h.1], fun i a b ha hb => ?_⟩
  rw [List.getElem?_set] at ha hb
  by_cases e : n = i
  · subst e
    rw [if_pos rfl] at ha hb
    split at ha
    · split at hb
      · cases ha; cases hb; exact hv
      · simp at hb
    · simp at ha
  · rw [if_neg e] at ha hb
    exact h.2 i a b ha hb
theorem LR.ofFlat {s : Ren} {xs : List Value} (h : xs.all Ex.flat = true) : LR s xs xs := by
  refine ⟨rfl, fun i a b ha hb => ?_⟩
  rw [ha] at hb
  cases hb
  exact .same (all_get h ha)
theorem LR.eq_of_flat {s : Ren} {xs ys : List Value} (h : LR s xs ys) (hf : xs.all Ex.flat = true) : ys = xs :=
  list_eq h.1 fun i x y hx hy => (h.2 i x y hx hy).eq_of_flat (all_get hf hx)
theorem LR.getD {s : Ren} {xs ys : List Value} (h : LR s xs ys) (i : Nat) {d : Value} (hd : Ex.flat d = true) : VR s (xs.getD i d) (ys.getD i d) := by
  cases hx : xs[i]? with
  | none =>
    have hy : ys[i]? = none := by
      rw [List.getElem?_eq_none_iff] at hx ⊢
      rw [← h.1]; exact hx
    simp [List.getD, hx, hy]
    exact .same hd
  | some x =>
    obtain ⟨y, hy, hv⟩ := h.get hx
    simp [List.getD, hx, hy]
    exact hv

/-! What a value of a form is told by. -/
theorem VR.agg_inv {s : Ren} {xs : List Value} {v' : Value} (h : VR s (.agg ⟨xs⟩) v') : ∃ ys, v' = .agg ⟨ys⟩ ∧ LR s xs ys := by
  generalize e : Value.agg ⟨xs⟩ = v at h
  cases h with
  | same hf =>
    subst e
    refine ⟨xs, rfl, LR.ofFlat ?_⟩
    have : xs.all scal = true := by simpa [Ex.flat, flat1] using hf
    exact List.all_eq_true.2 fun x hx => flat_of_scal (List.all_eq_true.1 this x hx)
  | agg hl hh => cases e; exact ⟨_, rfl, hl, hh⟩
  | _ => cases e
theorem VR.tuple_inv {s : Ren} {xs : List Value} {v' : Value} (h : VR s (.tuple ⟨xs⟩) v') : ∃ ys, v' = .tuple ⟨ys⟩ ∧ LR s xs ys := by
  generalize e : Value.tuple ⟨xs⟩ = v at h
  cases h with
  | same hf =>
    subst e
    refine ⟨xs, rfl, LR.ofFlat ?_⟩
    have : xs.all flat1 = true := by simpa [Ex.flat] using hf
    exact List.all_eq_true.2 fun x hx => flat_of_flat1 (List.all_eq_true.1 this x hx)
  | tuple hl hh => cases e; exact ⟨_, rfl, hl, hh⟩
  | _ => cases e
theorem VR.ptr_inv {s : Ren} {a : Addr} {v' : Value} (h : VR s (.pointer (some a)) v') : ∃ p, a.spot = none ∧ s a.block = some p ∧ v' = .pointer (some ⟨p.blk, p.off + a.off, none⟩) := by
  generalize e : Value.pointer (some a) = v at h
  cases h with
  | same hf => subst e; simp [Ex.flat, flat1, scal] at hf
  | ptr hs hp => cases e; exact ⟨_, hs, hp, rfl⟩
  | _ => cases e
theorem VR.slice_inv {s : Ren} {a : Addr} {l c : Nat} {v' : Value} (h : VR s (.slice (some a) l c) v') :
    ∃ p c', a.spot = none ∧ s a.block = some p ∧ CapOk p a.off l c c' ∧ v' = .slice (some ⟨p.blk, p.off + a.off, none⟩) l c' := by
  generalize e : Value.slice (some a) l c = v at h
  cases h with
  | same hf => subst e; simp [Ex.flat, flat1, scal] at hf
  | slice hs hp hc => cases e; exact ⟨_, _, hs, hp, hc, rfl⟩
  | _ => cases e
theorem VR.bool_inv {s : Ren} {b : Bool} {v' : Value} (h : VR s (.bool b) v') : v' = .bool b := h.eq_of_flat rfl
theorem VR.int_inv {s : Ren} {k : IntKind} {n : Int} {v' : Value} (h : VR s (.int k n) v') : v' = .int k n := h.eq_of_flat rfl
theorem VR.string_inv {s : Ren} {b : ByteArray} {v' : Value} (h : VR s (.string b) v') : v' = .string b := h.eq_of_flat rfl
theorem VR.func_inv {s : Ren} {f : FuncId} {xs us : List Value} {v' : Value} (h : VR s (.func (.func f) ⟨xs⟩ ⟨us⟩) v') : ∃ ys vs, v' = .func (.func f) ⟨ys⟩ ⟨vs⟩ ∧ LR s xs ys ∧ LR s us vs := by
  generalize e : Value.func (.func f) ⟨xs⟩ ⟨us⟩ = v at h
  cases h with
  | same hf =>
    subst e
    simp [Ex.flat, flat1, scal] at hf
    obtain ⟨rfl, rfl⟩ := hf
    exact ⟨[], [], rfl, LR.nil s, LR.nil s⟩
  | func hl hh hl' hh' => cases e; exact ⟨_, _, rfl, ⟨hl, hh⟩, ⟨hl', hh'⟩⟩
  | _ => cases e
theorem VR.cells {s : Ren} {v v' : Value} (h : VR s v v') : LR s v.cells.toList v'.cells.toList := by
  cases v with
  | agg cs =>
    obtain ⟨xs⟩ := cs
    obtain ⟨ys, rfl, hl⟩ := h.agg_inv
    exact hl
  | _ =>
    have e : ∀ u : Value, (∀ cs, u ≠ .agg cs) → u.cells.toList = [u] := by
      intro u hu
      cases u <;> first | rfl | exact absurd rfl (hu _)
    rw [e _ (by intro cs h; cases h), e v' (by intro cs he; subst he; cases h)]
    exact LR.cons h (LR.nil s)
theorem VR.one {s : Ren} {v v' : Value} (h : VR s v v') (ho : v.oneCell' = true) : v'.oneCell' = true := by
  cases h with
  | agg _ _ => simp [Value.oneCell'] at ho
  | tuple _ _ => simp [Value.oneCell'] at ho
  | same _ => exact ho
  | _ => rfl
theorem VR.iface_inv {s : Ren} {t : TypeId} {x v' : Value} (h : VR s (.iface t x) v') : ∃ y, v' = .iface t y ∧ (VR s x y) := by
  generalize e : Value.iface t x = v at h
  cases h with
  | same hf => subst e; exact ⟨x, rfl, .same (flat_of_flat1 (by simpa [Ex.flat] using hf))⟩
  | iface h => cases e; exact ⟨_, rfl, h⟩
  | _ => cases e
theorem VR.map_inv {s : Ren} {i : Nat} {v' : Value} (h : VR s (.map (some i)) v') : ∃ p, s i = some p ∧ v' = .map (some p.blk) := by
  generalize e : Value.map (some i) = v at h
  cases h with
  | same hf => subst e; simp [Ex.flat, flat1, scal] at hf
  | map hp => cases e; exact ⟨_, hp, rfl⟩
  | _ => cases e
theorem CapOk.det {p : Pl} {off l c a b : Nat} (h1 : CapOk p off l c a) (h2 : CapOk p off l c b) : a = b := by
  unfold CapOk at h1 h2
  cases he : p.es with
  | none => rw [he] at h1 h2; rw [h1, h2]
  | some e =>
    rw [he] at h1 h2
    simp only at h1 h2
    have : a * e = b * e := by omega
    exact Nat.eq_of_mul_eq_mul_right h1.1 this
/-- A told value is just one. -/
theorem VR.det {s : Ren} {v a b : Value} (h : VR s v a) : VR s v b → a = b := by
  induction h generalizing b with
  | same hf => exact fun h => (h.eq_of_flat hf).symm
  | ptr hs hp =>
    intro h
    obtain ⟨q, _, hq, rfl⟩ := h.ptr_inv
    rw [hp] at hq
    cases hq
    rfl
  | slice hs hp hc =>
    intro h
    obtain ⟨q, c', _, hq, hc', rfl⟩ := h.slice_inv
    rw [hp] at hq
    cases hq
    rw [hc.det hc']
  | @agg xs0 ys0 hl hh ih =>
    intro h
    obtain ⟨ys, rfl, hl'⟩ := h.agg_inv
    rw [list_eq (xs := ys) (ys := ys0) (by rw [← hl, ← hl'.1]) fun i x y hx hy => by
      obtain ⟨u, hu, hux⟩ := hl'.get' hx
      exact ih i u y hu hy hux]
  | @tuple xs0 ys0 hl hh ih =>
    intro h
    obtain ⟨ys, rfl, hl'⟩ := h.tuple_inv
    rw [list_eq (xs := ys) (ys := ys0) (by rw [← hl, ← hl'.1]) fun i x y hx hy => by
      obtain ⟨u, hu, hux⟩ := hl'.get' hx
      exact ih i u y hu hy hux]
  | @func f xs0 ys0 us0 vs0 hl hh hl' hh' ih ih' =>
    intro h
    obtain ⟨ys, vs, rfl, g1, g2⟩ := h.func_inv
    rw [list_eq (xs := ys) (ys := ys0) (by rw [← hl, ← g1.1]) fun i x y hx hy => by
      obtain ⟨u, hu, hux⟩ := g1.get' hx
      exact ih i u y hu hy hux]
    rw [list_eq (xs := vs) (ys := vs0) (by rw [← hl', ← g2.1]) fun i x y hx hy => by
      obtain ⟨u, hu, hux⟩ := g2.get' hx
      exact ih' i u y hu hy hux]
  | iface h ih =>
    intro h
    obtain ⟨y, rfl, hy⟩ := h.iface_inv
    rw [ih hy]
  | map hp =>
    intro h
    obtain ⟨q, hq, rfl⟩ := h.map_inv
    rw [hp] at hq
    cases hq
    rfl
end Go.Proofs.YtchjneodjaakdaaGreat.Ex
end
section
namespace Go.Proofs.YtchjneodjaakdaaGreat.Ex
open Go Go.RowKit

/-- A block of a reckoned run: is it still used; of which size its slices' elements are, if their capacity is not known; its cells. -/
structure AO where
  live : Bool
  es : Option Nat
  cs : List Value

def dead : AO := ⟨false, none, []⟩

/-- The mark of a block that is a package's variable. -/
def GM : Nat := 1000000007
structure BlockAt (s : Ren) (p : Pl) (cs : List Value) (w : World) : Prop where
  fit : p.off + cs.length ≤ p.tot
  all : ∀ o, o < p.tot → (w.cell? ⟨p.blk, o, none⟩).isSome = true
  shp : ∃ T, w.shape? p.blk = some (T, p.tot)
  free : p.es ≠ some GM → ∀ o, p.off ≤ o → o < p.tot → w.frozen? ⟨p.blk, o, none⟩ = false
  rel : ∀ (o : Nat) (v : Value), cs[o]? = some v → ∃ v', w.cell? ⟨p.blk, p.off + o, none⟩ = some v' ∧ VR s v v'

/-- A map's entries: one value each, key and element. -/
def keyOf (x : Value) : Value :=
  match x with
  | .tuple vs => vs.toList.getD 0 undef
  | _ => undef
def valOf (x : Value) : Value :=
  match x with
  | .tuple vs => vs.toList.getD 1 undef
  | _ => undef
def ents : Nat → List Value → List MapEntry
  | _, [] => []
  | n, x :: r => ⟨keyOf x, valOf x, n⟩ :: ents (n + 1) r
def MapAt (s : Ren) (p : Pl) (cs : List Value) (w : World) : Prop :=
  ∃ cs', LR s cs cs' ∧ w.heap[p.blk]? = some (.map ⟨ents 0 cs'⟩ cs'.length)
/-- A block of which the size of its slices' elements is 0 is a map. -/
def isM (o : AO) : Bool :=
  match o.es with
  | some e => Nat.beq e 0
  | none => false
def isW (o : AO) : Bool :=
  match o.es with
  | some e => !(Nat.beq e 0) && !(Nat.beq e GM)
  | none => true
def ObjAt (s : Ren) (p : Pl) (o : AO) (w : World) : Prop := (isM o = true → MapAt s p o.cs w) ∧ (isM o = false → BlockAt s p o.cs w)
theorem isW_spec {o : AO} (h : isW o = true) : isM o = false ∧ o.es ≠ some GM := by
  unfold isW at h
  unfold isM
  split at h
  · rename_i e he
    simp only [he, Bool.and_eq_true, Bool.not_eq_true'] at h ⊢
    refine ⟨h.1, fun hg => ?_⟩
    cases hg
    have := h.2
    simp at this
  · rename_i he
    simp [he]

structure HR (wb : World) (k : Nat) (s : Ren) (h : List AO) (w : World) : Prop where
  grown : Gr wb w
  kle : k ≤ h.length
  dom : ∀ i, h.length ≤ i → s i = none
  plc : ∀ i p, s i = some p → (i < k → p.blk < wb.heap.size) ∧ (k ≤ i → wb.heap.size ≤ p.blk) ∧ p.blk < w.heap.size
  obj : ∀ (i : Nat) (o : AO), h[i]? = some o → o.live = true → ∃ p, s i = some p ∧ p.es = o.es ∧ ObjAt s p o w
  sep : ∀ (i j : Nat) (a b : AO) (p q : Pl), h[i]? = some a → h[j]? = some b → a.live = true → b.live = true → s i = some p → s j = some q → p.blk = q.blk → i = j
  gl : ∀ g p, s g = some p → p.es = some GM → p.blk = g ∧ p.off = 0

/-- What is read of it. -/
def MR (s : Ren) (h : List AO) (w : World) : Prop := ∀ (i : Nat) (o : AO), h[i]? = some o → o.live = true → ∃ p, s i = some p ∧ p.es = o.es ∧ ObjAt s p o w
theorem HR.mr {wb : World} {k : Nat} {s : Ren} {h : List AO} {w : World} (H : HR wb k s h w) : MR s h w := H.obj

theorem BlockAt.mono {s t : Ren} (hle : Le s t) {p : Pl} {cs : List Value} {w : World} (h : BlockAt s p cs w) : BlockAt t p cs w :=
  ⟨h.fit, h.all, h.shp, h.free, fun o v hv => let ⟨v', h1, h2⟩ := h.rel o v hv; ⟨v', h1, h2.mono hle⟩⟩
theorem BlockAt.heap {s : Ren} {p : Pl} {cs : List Value} {w w' : World} (h : BlockAt s p cs w) (hh : w'.heap[p.blk]? = w.heap[p.blk]?) : BlockAt s p cs w' where
  fit := h.fit
  all := fun o ho => by rw [World.cell?_of_block (w := w) (a := ⟨p.blk, o, none⟩) hh]; exact h.all o ho
  shp := let ⟨T, hT⟩ := h.shp; ⟨T, by rw [← hT]; unfold World.shape?; rw [hh]⟩
  free := fun hg o h1 h2 => by rw [World.frozen?_of_block (w := w) (a := ⟨p.blk, o, none⟩) hh]; exact h.free hg o h1 h2
  rel := fun o v hv => let ⟨v', h1, h2⟩ := h.rel o v hv; ⟨v', by rw [World.cell?_of_block (w := w) (a := ⟨p.blk, p.off + o, none⟩) hh]; exact h1, h2⟩
theorem ObjAt.heap {s : Ren} {p : Pl} {o : AO} {w w' : World} (h : ObjAt s p o w) (hh : w'.heap[p.blk]? = w.heap[p.blk]?) : ObjAt s p o w' :=
  ⟨fun hm => let ⟨cs', h1, h2⟩ := h.1 hm; ⟨cs', h1, hh.trans h2⟩, fun hm => (h.2 hm).heap hh⟩
theorem ObjAt.mono {s t : Ren} (hle : Le s t) {p : Pl} {o : AO} {w : World} (h : ObjAt s p o w) : ObjAt t p o w :=
  ⟨fun hm => let ⟨cs', h1, h2⟩ := h.1 hm; ⟨cs', h1.mono hle, h2⟩, fun hm => (h.2 hm).mono hle⟩
theorem ObjAt.grown {s : Ren} {p : Pl} {o : AO} {w w' : World} (h : ObjAt s p o w) (hb : p.blk < w.heap.size) (g : Gr w w') : ObjAt s p o w' := h.heap (g.2.1 _ hb)
theorem ObjAt.block {s : Ren} {p : Pl} {o : AO} {w : World} (hm : isM o = false) (h : BlockAt s p o.cs w) : ObjAt s p o w := ⟨fun e => (by rw [hm] at e; cases e), fun _ => h⟩

theorem HR.grow {wb : World} {k : Nat} {s : Ren} {h : List AO} {w w' : World} (H : HR wb k s h w) (g : Gr w w') : HR wb k s h w' where
  grown := Gr.trans' H.grown g
  kle := H.kle
  dom := H.dom
  plc := fun i p hp => let ⟨a, b, c⟩ := H.plc i p hp; ⟨a, b, Nat.lt_of_lt_of_le c g.2.2⟩
  obj := fun i o ho hl => let ⟨p, hp, he, hb⟩ := H.obj i o ho hl; ⟨p, hp, he, hb.grown (H.plc i p hp).2.2 g⟩
  sep := H.sep
  gl := H.gl
theorem HR.drew {wb : World} {k : Nat} {s : Ren} {h : List AO} {w : World} (H : HR wb k s h w) : HR wb k s h w.drew := H.grow (Gr.drew (Gr.refl w))
/-- The same memory, told from here on: nothing that is there is written. -/
theorem HR.here {wb : World} {k : Nat} {s : Ren} {h : List AO} {w : World} (H : HR wb k s h w) : HR w h.length s h w where
  grown := Gr.refl w
  kle := Nat.le_refl _
  dom := H.dom
  plc := fun i p hp => ⟨fun _ => (H.plc i p hp).2.2, fun hi => (by rw [H.dom i hi] at hp; cases hp), (H.plc i p hp).2.2⟩
  obj := H.obj
  sep := H.sep
  gl := H.gl
theorem HR.init (w : World) : HR w 0 (fun _ => none) [] w where
  grown := Gr.refl w
  kle := Nat.le_refl _
  dom := fun _ _ => rfl
  plc := fun i p hp => by cases hp
  obj := fun i o ho => by simp at ho
  sep := fun i j a b p q hi => by simp at hi
  gl := fun g p hp => by cases hp

def upd (s : Ren) (i : Nat) (p : Pl) : Ren := fun j => if j = i then some p else s j
theorem upd_same (s : Ren) (i : Nat) (p : Pl) : upd s i p i = some p := by simp [upd]
theorem upd_other (s : Ren) {i j : Nat} (p : Pl) (h : j ≠ i) : upd s i p j = s j := by simp [upd, h]
theorem Le.upd {s : Ren} {i : Nat} (p : Pl) (h : s i = none) : Le s (upd s i p) := fun j q hq => by
  by_cases e : j = i
  · subst e; rw [h] at hq; cases hq
  · rw [upd_other s p e]; exact hq

/-- A new block, whatever it is. -/
theorem HR.newO {wb : World} {k : Nat} {s : Ren} {h : List AO} {w : World} (H : HR wb k s h w) (ao : AO) (ob : Obj) (tot : Nat) (hes : ao.es ≠ some GM)
    (hob : ObjAt (upd s h.length ⟨w.heap.size, 0, tot, ao.es⟩) ⟨w.heap.size, 0, tot, ao.es⟩ ao (w.alloc ob)) :
    HR wb k (upd s h.length ⟨w.heap.size, 0, tot, ao.es⟩) (h ++ [ao]) (w.alloc ob) ∧ Le s (upd s h.length ⟨w.heap.size, 0, tot, ao.es⟩) := by
  have hle := Le.upd (s := s) (i := h.length) ⟨w.heap.size, 0, tot, ao.es⟩ (H.dom _ (Nat.le_refl _))
  have g : Gr w (w.alloc ob) := (Gr.refl w).allocO _
  have hwb : wb.heap.size ≤ w.heap.size := H.grown.2.2
  refine ⟨⟨Gr.trans' H.grown g, by simp; have := H.kle; omega, fun i hi => ?_, fun i p hp => ?_, fun i o ho hl => ?_, fun i j a b p q hi hj ha hb hp hq e => ?_, fun i p hp hg => ?_⟩, hle⟩
  · simp at hi
    rw [upd_other _ _ (by omega)]
    exact H.dom i (by omega)
  · by_cases e : i = h.length
    · subst e
      rw [upd_same] at hp
      cases hp
      exact ⟨fun hk => absurd H.kle (by omega), fun _ => hwb, by simp⟩
    · rw [upd_other _ _ e] at hp
      obtain ⟨a, b, c⟩ := H.plc i p hp
      exact ⟨a, b, by simp; omega⟩
  · by_cases e : i = h.length
    · subst e
      simp at ho
      subst ho
      exact ⟨_, upd_same _ _ _, rfl, hob⟩
    · have hi : i < h.length := by
        have := (List.getElem?_eq_some_iff.1 ho).1
        simp at this; omega
      rw [List.getElem?_append_left hi] at ho
      obtain ⟨p, hp, he, hb⟩ := H.obj i o ho hl
      exact ⟨p, by rw [upd_other _ _ e]; exact hp, he, (hb.grown (H.plc i p hp).2.2 g).mono hle⟩
  · have old : ∀ (i : Nat) (a : AO) (p : Pl), i ≠ h.length → (h ++ [ao])[i]? = some a → upd s h.length ⟨w.heap.size, 0, tot, ao.es⟩ i = some p → h[i]? = some a ∧ s i = some p ∧ p.blk < w.heap.size := by
      intro i a p e ho hp
      have hi : i < h.length := by
        have := (List.getElem?_eq_some_iff.1 ho).1
        simp at this; omega
      rw [List.getElem?_append_left hi] at ho
      rw [upd_other _ _ e] at hp
      exact ⟨ho, hp, (H.plc i p hp).2.2⟩
    by_cases ei : i = h.length
    · by_cases ej : j = h.length
      · omega
      · subst ei
        rw [upd_same] at hp
        cases hp
        obtain ⟨_, _, h3⟩ := old j b q ej hj hq
        simp at e
        omega
    · obtain ⟨h1, h2, h3⟩ := old i a p ei hi hp
      by_cases ej : j = h.length
      · subst ej
        rw [upd_same] at hq
        cases hq
        simp at e
        omega
      · obtain ⟨h4, h5, _⟩ := old j b q ej hj hq
        exact H.sep i j a b p q h1 h4 ha hb h2 h5 e
  · by_cases e : i = h.length
    · subst e
      rw [upd_same] at hp
      cases hp
      exact absurd hg hes
    · rw [upd_other _ _ e] at hp
      exact H.gl i p hp hg
/-- A new block, of which no cell that there is is frozen. -/
theorem HR.newF {wb : World} {k : Nat} {s : Ren} {h : List AO} {w : World} (H : HR wb k s h w) (cs : List Value) (arr : Array Value) (T : TypeId) (es : Option Nat) (hes : isW ⟨true, es, cs⟩ = true) (fz : Nat × Nat) (hfz : ∀ o, o < arr.size → ¬ (fz.1 ≤ o ∧ o < fz.2))
    (hn : cs.length ≤ arr.size) (hr : ∀ (o : Nat) (v : Value), cs[o]? = some v → ∃ v', arr[o]? = some v' ∧ VR s v v') :
    HR wb k (upd s h.length ⟨w.heap.size, 0, arr.size, es⟩) (h ++ [⟨true, es, cs⟩]) (w.alloc (.cells arr T fz)) ∧ Le s (upd s h.length ⟨w.heap.size, 0, arr.size, es⟩) := by
  have hle := Le.upd (s := s) (i := h.length) ⟨w.heap.size, 0, arr.size, es⟩ (H.dom _ (Nat.le_refl _))
  refine H.newO ⟨true, es, cs⟩ (.cells arr T fz) arr.size (isW_spec hes).2 (ObjAt.block (isW_spec hes).1 ⟨by simpa using hn, fun o ho => ?_, ⟨T, ?_⟩, fun _ o h1 h2 => ?_, fun o v hv => ?_⟩)
  · have ho' : o < arr.size := ho
    rw [World.cell?_alloc_mark]
    simpa using ho'
  · simp only [World.alloc, World.shape?, Array.getElem?_push_size]
  · rw [show (w.alloc (.cells arr T fz)) = w.alloc (.cells arr T (fz.1, fz.2)) from rfl, World.frozen?_alloc_mark]
    have := hfz o h2
    simp only [Bool.and_eq_false_imp, decide_eq_true_eq, decide_eq_false_iff_not]
    exact fun g1 g2 => this ⟨g1, g2⟩
  · obtain ⟨v', h1, h2⟩ := hr o v hv
    exact ⟨v', by rw [World.cell?_alloc_mark]; simpa using h1, h2.mono hle⟩
theorem HR.new {wb : World} {k : Nat} {s : Ren} {h : List AO} {w : World} (H : HR wb k s h w) (cs : List Value) (arr : Array Value) (T : TypeId) (es : Option Nat) (hes : isW ⟨true, es, cs⟩ = true)
    (hn : cs.length ≤ arr.size) (hr : ∀ (o : Nat) (v : Value), cs[o]? = some v → ∃ v', arr[o]? = some v' ∧ VR s v v') :
    HR wb k (upd s h.length ⟨w.heap.size, 0, arr.size, es⟩) (h ++ [⟨true, es, cs⟩]) (w.alloc (.cells arr T)) ∧ Le s (upd s h.length ⟨w.heap.size, 0, arr.size, es⟩) :=
  H.newF cs arr T es hes (0, 0) (fun o _ h => by have := h.2; simp at this) hn hr
theorem HR.new' {wb : World} {k : Nat} {s : Ren} {h : List AO} {w : World} (H : HR wb k s h w) {cs cs' : List Value} (T : TypeId) (hr : LR s cs cs') :
    HR wb k (upd s h.length ⟨w.heap.size, 0, cs'.length, none⟩) (h ++ [⟨true, none, cs⟩]) (w.alloc (.cells ⟨cs'⟩ T)) ∧ Le s (upd s h.length ⟨w.heap.size, 0, cs'.length, none⟩) :=
  H.new cs ⟨cs'⟩ T none rfl (by simp [hr.1]) fun o v hv => by simpa using hr.get hv

/-! Reading. -/
def aload (h : List AO) (a : Addr) (n : Nat) : Option (List Value) :=
  match h[a.block]? with
  | some o => if o.live && !isM o && decide (a.off + n ≤ o.cs.length) then some ((o.cs.drop a.off).take n) else none
  | none => none
theorem add_none {b o : Nat} (i : Nat) : (⟨b, o, none⟩ : Addr).add i = ⟨b, o + i, none⟩ := by unfold Addr.add; split <;> simp_all
theorem aload_spec {s : Ren} {h : List AO} {w : World} (H : MR s h w) {a : Addr} {n : Nat} {vs : List Value} (hl : aload h a n = some vs) {p : Pl} (hp : s a.block = some p) :
    vs.length = n ∧ ∃ vs', LR s vs vs' ∧ ∀ (j : Nat) (v : Value), vs'[j]? = some v → w.cell? ((⟨p.blk, p.off + a.off, none⟩ : Addr).add j) = some v := by
  unfold aload at hl
  cases ho : h[a.block]? with
  | none => rw [ho] at hl; cases hl
  | some o =>
    rw [ho] at hl
    simp only at hl
    split at hl
    · rename_i hc
      cases hl
      simp at hc
      obtain ⟨⟨hlive, hnm⟩, hfit⟩ := hc
      obtain ⟨q, hq, _, hb⟩ := H _ _ ho hlive
      rw [hp] at hq
      cases hq
      replace hb := hb.2 hnm
      have hlen : ((o.cs.drop a.off).take n).length = n := by simp; omega
      refine ⟨hlen, ((o.cs.drop a.off).take n).zipIdx.map (fun x => (w.cell? ⟨p.blk, p.off + a.off + x.2, none⟩).getD undef), ⟨by simp, fun i x y hx hy => ?_⟩, fun j v hv => ?_⟩
      · rw [List.getElem?_map, List.getElem?_zipIdx, hx] at hy
        simp at hy
        subst hy
        rw [List.getElem?_take] at hx
        split at hx
        · rw [List.getElem?_drop] at hx
          obtain ⟨v', h1, h2⟩ := hb.rel _ _ hx
          rw [show p.off + a.off + i = p.off + (a.off + i) by omega, h1]
          exact h2
        · cases hx
      · rw [add_none]
        rw [List.getElem?_map, List.getElem?_zipIdx] at hv
        cases hx : ((o.cs.drop a.off).take n)[j]? with
        | none => rw [hx] at hv; simp at hv
        | some x =>
          rw [hx] at hv
          simp at hv
          subst hv
          rw [List.getElem?_take] at hx
          split at hx
          · rw [List.getElem?_drop] at hx
            obtain ⟨v', h1, _⟩ := hb.rel _ _ hx
            rw [show p.off + a.off + j = p.off + (a.off + j) by omega, h1]
            rfl
          · cases hx
    · cases hl

/-! Writing. -/
def splice (cs : List Value) (i : Nat) (vs : List Value) : List Value := cs.take i ++ vs ++ cs.drop (i + vs.length)
theorem splice_length {cs vs : List Value} {i : Nat} (h : i + vs.length ≤ cs.length) : (splice cs i vs).length = cs.length := by
  simp [splice]; omega
theorem splice_get {cs vs : List Value} {i : Nat} (h : i + vs.length ≤ cs.length) (o : Nat) :
    (splice cs i vs)[o]? = if i ≤ o ∧ o < i + vs.length then vs[o - i]? else cs[o]? := by
  unfold splice
  by_cases h1 : o < i
  · rw [if_neg (by omega), List.append_assoc, List.getElem?_append_left (by simp; omega), List.getElem?_take, if_pos h1]
  · by_cases h2 : o < i + vs.length
    · rw [if_pos ⟨by omega, h2⟩, List.append_assoc, List.getElem?_append_right (by simp; omega), List.getElem?_append_left (by simp; omega)]
      congr 1
      simp; omega
    · rw [if_neg (by omega), List.getElem?_append_right (by simp; omega), List.getElem?_drop]
      congr 1
      simp; omega
def astore (h : List AO) (a : Addr) (vs : List Value) : Option (List AO) :=
  match h[a.block]? with
  | some o => if o.live && isW o && decide (a.off + vs.length ≤ o.cs.length) then some (h.set a.block ⟨true, o.es, splice o.cs a.off vs⟩) else none
  | none => none
theorem grown_setCells {wb : World} (b : Nat) (hb : wb.heap.size ≤ b) : ∀ (vs : List Value) (o : Nat) (w : World), Gr wb w → Gr wb (w.setCells b o vs)
  | [], _, _, g => g
  | v :: r, o, w, g => grown_setCells b hb r (o + 1) _ (Gr.setCell g (by exact hb) v)
theorem size_setCells (b : Nat) : ∀ (vs : List Value) (o : Nat) (w : World), (w.setCells b o vs).heap.size = w.heap.size
  | [], _, _ => rfl
  | v :: r, o, w => by rw [World.setCells, size_setCells b r]; simp
theorem shape_setCell (w : World) (a : Addr) (v : Value) (r : Nat) : (w.setCell a v).shape? r = w.shape? r := by
  simp only [World.setCell, World.shape?, Array.getElem?_modify]
  by_cases hb : a.block = r
  · simp only [hb, if_true]
    cases hh : w.heap[r]? with
    | none => simp
    | some x => cases x <;> simp <;> split <;> simp
  · simp [hb]
theorem shape_setCells (b : Nat) (r : Nat) : ∀ (vs : List Value) (o : Nat) (w : World), (w.setCells b o vs).shape? r = w.shape? r
  | [], _, _ => rfl
  | v :: l, o, w => by rw [World.setCells, shape_setCells b r l, shape_setCell]
theorem heap_setCell (w : World) (a : Addr) (v : Value) {r : Nat} (h : r ≠ a.block) : (w.setCell a v).heap[r]? = w.heap[r]? := by
  simp only [World.setCell, Array.getElem?_modify, if_neg (Ne.symm h)]
theorem heap_setCells (b r : Nat) (h : r ≠ b) : ∀ (vs : List Value) (o : Nat) (w : World), (w.setCells b o vs).heap[r]? = w.heap[r]?
  | [], _, _ => rfl
  | v :: l, o, w => by rw [World.setCells, heap_setCells b r h l, heap_setCell _ _ _ h]
theorem astore_spec {wb : World} {k : Nat} {s : Ren} {h h' : List AO} {w : World} (H : HR wb k s h w) {a : Addr} {vs vs' : List Value} (hs : astore h a vs = some h') (hk : k ≤ a.block)
    {p : Pl} (hp : s a.block = some p) (hv : LR s vs vs') :
    (∀ j, j < vs'.length → (w.cell? ⟨p.blk, p.off + a.off + j, none⟩).isSome = true) ∧ (∀ j, j < vs'.length → w.frozen? ⟨p.blk, p.off + a.off + j, none⟩ = false) ∧
    HR wb k s h' (w.setCells p.blk (p.off + a.off) vs') := by
  unfold astore at hs
  cases ho : h[a.block]? with
  | none => rw [ho] at hs; cases hs
  | some o =>
    rw [ho] at hs
    simp only at hs
    split at hs
    · rename_i hc
      cases hs
      simp at hc
      obtain ⟨⟨hlive, hwr⟩, hfit⟩ := hc
      obtain ⟨q, hq, hes, hb⟩ := H.obj _ _ ho hlive
      rw [hp] at hq
      cases hq
      obtain ⟨hnm, hng⟩ := isW_spec hwr
      replace hb := hb.2 hnm
      have hfree := hb.free (by rw [hes]; exact hng)
      have hlen := hv.1
      have hfit2 := hb.fit
      have hal : ∀ j, j < vs'.length → (w.cell? ⟨p.blk, p.off + a.off + j, none⟩).isSome = true := fun j hj => hb.all _ (by omega)
      refine ⟨hal, fun j hj => hfree _ (by omega) (by omega), ?_⟩
      have hblk : wb.heap.size ≤ p.blk := (H.plc _ _ hp).2.1 hk
      refine ⟨grown_setCells _ hblk _ _ _ H.grown, by simpa using H.kle, fun i hi => H.dom i (by simpa using hi), fun i q hq => ?_, fun i x hx hl => ?_, fun i j x y q r hi hj hx hy hq hr e => ?_, H.gl⟩
      · rw [size_setCells]; exact H.plc i q hq
      · rw [List.getElem?_set] at hx
        by_cases ei : a.block = i
        · subst ei
          rw [if_pos rfl, if_pos (List.getElem?_eq_some_iff.1 ho).1] at hx
          cases hx
          refine ⟨p, hp, hes, ObjAt.block hnm ⟨by simp only [splice_length hfit]; exact hfit2, fun o' ho' => ?_, ?_, fun _ o' h1 h2 => ?_, fun o' v hv' => ?_⟩⟩
          · by_cases hin : p.off + a.off ≤ o' ∧ o' < p.off + a.off + vs'.length
            · have := World.cell?_setCells_in p.blk vs' (p.off + a.off) w hal (o' - (p.off + a.off)) (by omega)
              rw [show p.off + a.off + (o' - (p.off + a.off)) = o' by omega] at this
              rw [this]; rfl
            · rw [World.cell?_setCells_out _ _ _ _ _ fun _ _ => by simp; omega]
              exact hb.all o' ho'
          · obtain ⟨T, hT⟩ := hb.shp
            exact ⟨T, by rw [shape_setCells]; exact hT⟩
          · rw [World.frozen?_setCells]; exact hfree o' h1 h2
          · simp only at hv'
            rw [splice_get hfit] at hv'
            by_cases hin : a.off ≤ o' ∧ o' < a.off + vs.length
            · rw [if_pos hin] at hv'
              obtain ⟨y, hy, hvy⟩ := hv.get hv'
              have hyl : o' - a.off < vs'.length := (List.getElem?_eq_some_iff.1 hy).1
              have := World.cell?_setCells_in p.blk vs' (p.off + a.off) w hal (o' - a.off) hyl
              rw [show p.off + a.off + (o' - a.off) = p.off + o' by omega] at this
              refine ⟨y, ?_, hvy⟩
              rw [this, ← hy, List.getElem?_eq_getElem hyl]
            · rw [if_neg hin] at hv'
              obtain ⟨y, hy, hvy⟩ := hb.rel o' v hv'
              refine ⟨y, ?_, hvy⟩
              rw [World.cell?_setCells_out _ _ _ _ _ fun _ _ => by simp; omega]
              exact hy
        · rw [if_neg ei] at hx
          obtain ⟨q, hq, he, hbq⟩ := H.obj i x hx hl
          have hne : q.blk ≠ p.blk := fun e => ei (H.sep i a.block x o q p hx ho hl hlive hq hp e).symm
          exact ⟨q, hq, he, hbq.heap (heap_setCells p.blk q.blk hne vs' _ w)⟩
      · have old : ∀ (i : Nat) (x : AO), (h.set a.block ⟨true, o.es, splice o.cs a.off vs⟩)[i]? = some x → x.live = true → ∃ x', h[i]? = some x' ∧ x'.live = true := by
          intro i x hx hl
          rw [List.getElem?_set] at hx
          by_cases ei : a.block = i
          · subst ei; exact ⟨o, ho, hlive⟩
          · rw [if_neg ei] at hx; exact ⟨x, hx, hl⟩
        obtain ⟨x', hx1, hx2⟩ := old i x hi hx
        obtain ⟨y', hy1, hy2⟩ := old j y hj hy
        exact H.sep i j x' y' q r hx1 hy1 hx2 hy2 hq hr e
    · cases hs
end Go.Proofs.YtchjneodjaakdaaGreat.Ex
end
section
namespace Go.Proofs.YtchjneodjaakdaaGreat.Ex
open Go Go.RowKit

abbrev Out := Next × List AO × Option Nat
/-- No function is the one call that the model answers by itself. -/
def NoNG (P : Program) : Prop := ∀ (f : FuncId) (fn : Func), P.funcs[f]? = some fn → ¬ fn.name = "runtime.NumGoroutine"
def noNGB (P : Program) : Bool := P.funcs.toList.all fun fn => fn.name != "runtime.NumGoroutine"
theorem noNG_ok {P : Program} (h : noNGB P = true) : NoNG P := by
  intro f fn hf
  have h1 := List.all_eq_true.1 h fn (List.mem_of_getElem? (by rw [Array.getElem?_toList]; exact hf))
  simpa using h1
def NR (s : Ren) : Next → Next → Prop
  | .value v, .value v' => VR s v v'
  | .skip, .skip => True
  | .enter f xs, .enter g ys => f = g ∧ LR s xs.toList ys.toList
  | _, _ => False
def Okay (P : Program) (wb : World) (k : Nat) (s : Ren) (w : World) (x : Sem Next) (r : Out) : Prop :=
  ∃ s' n' w', x.run P w = .ok n' w' ∧ Le s s' ∧ HR wb k s' r.2.1 w' ∧ NR s' r.1 n'
def aval (x : Sem Value) : Sem Next := do pure (.value (← x))
def aunit (x : Sem Unit) : Sem Next := do x; pure .skip
/-- What leaves memory as it is. -/
def Okay0 (P : Program) (s : Ren) (h : List AO) (w : World) (x : Sem Next) (r : Out) : Prop :=
  ∃ n', x.run P w = .ok n' w ∧ NR s r.1 n' ∧ r.2 = (h, none)
theorem Okay0.okay {P : Program} {wb : World} {k : Nat} {s : Ren} {h : List AO} {w : World} (H : HR wb k s h w) {x : Sem Next} {r : Out} (hx : Okay0 P s h w x r) : Okay P wb k s w x r := by
  obtain ⟨n', h1, h2, h3⟩ := hx
  exact ⟨s, n', w, h1, Le.refl s, by rw [h3]; exact H, h2⟩
theorem okay0 {P : Program} {s : Ren} {h : List AO} {w : World} {x : Sem Value} {v v' : Value} (hx : x.run P w = .ok v' w) (hv : VR s v v') :
    Okay0 P s h w (aval x) (.value v, h, none) := ⟨.value v', by simp [aval, hx], hv, rfl⟩

section
variable {P : Program} {wb : World} {k : Nat} {s : Ren} {h : List AO} {w : World}

/-! Types. -/
theorem run_info {t : TypeId} {i : TypeInfo} (hi : P.info? t = some i) (w : World) : (typeInfo t).run P w = .ok i w := by
  simp [typeInfo, program, hi, Sem.run]
theorem run_under {t : TypeId} {d : TypeDesc} (hi : P.underlying t = some d) (w : World) : (underlying t).run P w = .ok d w := by
  simp [underlying, program, hi, Sem.run]
theorem run_size {t : TypeId} {i : TypeInfo} (hi : P.info? t = some i) (w : World) : (sizeOf t).run P w = .ok i.size w := by
  simp [sizeOf, run_info hi]
theorem run_zero {t : TypeId} {i : TypeInfo} {z : Value} (hi : P.info? t = some i) (hz : i.zero = some z) (w : World) : (zeroValue t).run P w = .ok z w := by
  simp [zeroValue, run_info hi, hz]
def aggD : TypeDesc → Bool
  | .struct _ => true
  | .array _ _ => true
  | _ => false
theorem run_aggD {t : TypeId} {d : TypeDesc} (hi : P.underlying t = some d) (w : World) : (isAgg t).run P w = .ok (aggD d) w := by
  simp only [isAgg, Sem.run_bind, run_under hi, Result.andThen_ok]
  cases d <;> rfl

/-! New blocks. -/
def oNew (v : Value) (h : List AO) : Out := (.value (.pointer (some ⟨h.length, 0, none⟩)), h ++ [⟨true, none, v.cells.toList⟩], none)
theorem run_newVar (t : TypeId) (v : Value) (w : World) : (newVar t v).run P w = .ok ⟨w.heap.size, 0, none⟩ (w.alloc (.cells v.cells t)) := rfl
theorem box_ok (H : HR wb k s h w) (t : TypeId) {v v' : Value} (hv : VR s v v') : Okay P wb k s w (aval (Instr.box t v')) (oNew v h) := by
  obtain ⟨H', hle⟩ := H.new' t hv.cells
  refine ⟨_, .value (.pointer (some ⟨w.heap.size, 0, none⟩)), w.alloc (.cells v'.cells t), ?_, hle, H', ?_⟩
  · simp [aval, Instr.box, run_newVar]
  · exact VR.ptr (a := ⟨h.length, 0, none⟩) rfl (upd_same _ _ _)
def oAlloc (P : Program) (t : TypeId) (h : List AO) : Option Out :=
  match P.info? t with
  | some i =>
    match i.zero with
    | some z => if flat z then some (oNew z h) else none
    | none => none
  | none => none
theorem alloc_ok (H : HR wb k s h w) {t : TypeId} {r : Out} (hr : oAlloc P t h = some r) : Okay P wb k s w (aval (Instr.alloc t true (.tuple #[]))) r := by
  unfold oAlloc at hr
  split at hr
  · rename_i i hi
    split at hr
    · rename_i z hz
      split at hr
      · rename_i hf
        cases hr
        obtain ⟨H', hle⟩ := H.new' t (VR.same (s := s) hf).cells
        refine ⟨_, .value (.pointer (some ⟨w.heap.size, 0, none⟩)), w.alloc (.cells z.cells t), ?_, hle, H', ?_⟩
        · simp [aval, Instr.alloc, run_zero hi hz, run_newVar]
        · exact VR.ptr (a := ⟨h.length, 0, none⟩) rfl (upd_same _ _ _)
      · cases hr
    · cases hr
  · cases hr

/-! Loads and stores. -/
def oLoad (P : Program) (t : TypeId) (x : Value) (h : List AO) : Option Out :=
  match x, P.underlying t, P.info? t with
  | .pointer (some a), some d, some i =>
    if aggD d then
      match aload h a i.size with
      | some vs => some (.value (.agg ⟨vs⟩), h, none)
      | none => none
    else
      match aload h a 1 with
      | some (v :: _) => some (.value v, h, none)
      | _ => none
  | _, _, _ => none
theorem load_ok (H : MR s h w) {t : TypeId} {x x' : Value} (hx : VR s x x') {r : Out} (hr : oLoad P t x h = some r) : Okay0 P s h w (aval (Instr.loadAt t x')) r := by
  unfold oLoad at hr
  split at hr
  · rename_i a d i hd hi
    obtain ⟨p, hs, hp, rfl⟩ := hx.ptr_inv
    split at hr
    · rename_i ha
      split at hr
      · rename_i vs hl
        cases hr
        obtain ⟨hlen, vs', hv, hc⟩ := aload_spec H hl hp
        refine okay0 (v' := .agg ⟨vs'⟩) ?_ (VR.agg hv.1 hv.2)
        have h2 := run_loadCells_list (P := P) w ⟨p.blk, p.off + a.off, none⟩ vs' hc
        rw [← hv.1, hlen] at h2
        simp [Instr.loadAt, Instr.sureAddr, loadVar, run_aggD hd, ha, run_size hi, h2]
      · cases hr
    · rename_i ha
      split at hr
      · rename_i v rest hl
        cases hr
        obtain ⟨hlen, vs', hv, hc⟩ := aload_spec H hl hp
        cases vs' with
        | nil => have := hv.1; simp at this
        | cons v' rest' =>
          refine okay0 (v' := v') ?_ hv.uncons.1
          have h2 := hc 0 v' rfl
          rw [add_none] at h2
          simp only [Nat.add_zero] at h2
          simp [Instr.loadAt, Instr.sureAddr, loadVar, run_aggD hd, ha, h2]
      · cases hr
  · cases hr
def oStore (P : Program) (t : TypeId) (x y : Value) (h : List AO) : Option Out :=
  match x, P.info? t with
  | .pointer (some a), some i =>
    if y.cells.toList.length == i.size && y.cells.toList.all (·.oneCell') then
      match astore h a y.cells.toList with
      | some h' => some (.skip, h', some a.block)
      | none => none
    else none
  | _, _ => none
theorem store_ok (H : HR wb k s h w) {t : TypeId} {x x' y y' : Value} (hx : VR s x x') (hy : VR s y y') {r : Out} (hr : oStore P t x y h = some r) (hk : ∀ i, r.2.2 = some i → k ≤ i) :
    Okay P wb k s w (aunit (Instr.storeAt t x' y')) r := by
  unfold oStore at hr
  split at hr
  · rename_i a i hi
    obtain ⟨p, hs, hp, rfl⟩ := hx.ptr_inv
    split at hr
    · rename_i hc
      simp only [Bool.and_eq_true, beq_iff_eq] at hc
      split at hr
      · rename_i h' hst
        cases hr
        obtain ⟨h1, h2, H'⟩ := astore_spec H hst (hk _ rfl) hp hy.cells
        refine ⟨s, .skip, _, ?_, Le.refl s, H', trivial⟩
        have hone : ∀ v ∈ y'.cells.toList, v.oneCell' = true := by
          intro v hv
          obtain ⟨j, hj⟩ := List.getElem?_of_mem hv
          obtain ⟨u, hu, huv⟩ := hy.cells.get' hj
          exact huv.one (all_get hc.2 hu)
        have h3 := run_storeCells_cells (P := P) p.blk (p.off + a.off) y'.cells.toList 0 w (by simpa using h1) (by simpa using h2) hone
        have hsz : y'.cells.size = i.size := by rw [← hc.1, hy.cells.1]; simp
        simp [aunit, Instr.storeAt, Instr.sureAddr, storeVar, run_size hi, hsz, h3]
      · cases hr
    · cases hr
  · cases hr

/-! Places in memory. -/
theorem vr_add (_ : True) {a : Addr} {p : Pl} (hs : a.spot = none) (hp : s a.block = some p) (n : Nat) :
    VR s (.pointer (some (a.add n))) (.pointer (some ((⟨p.blk, p.off + a.off, none⟩ : Addr).add n))) := by
  have e : a.add n = ⟨a.block, a.off + n, none⟩ := by
    obtain ⟨b, o, sp⟩ := a
    simp at hs
    subst hs
    exact add_none n
  rw [e, add_none, Nat.add_assoc]
  exact VR.ptr (a := ⟨a.block, a.off + n, none⟩) rfl hp
def oFieldAt (P : Program) (t : TypeId) (x : Value) (f : Nat) (h : List AO) : Option Out :=
  match x, P.underlying t with
  | .pointer (some a), some (.struct fs) =>
    match fs[f]? with
    | some fd =>
      match P.info? fd.type with
      | some i => if i.size == 0 then none else some (.value (.pointer (some (a.add fd.offset))), h, none)
      | none => none
    | none => none
  | _, _ => none
theorem fieldAt_ok {t : TypeId} {x x' : Value} {f : Nat} (hx : VR s x x') {r : Out} (hr : oFieldAt P t x f h = some r) : Okay0 P s h w (aval (Instr.fieldAt t x' f)) r := by
  unfold oFieldAt at hr
  split at hr
  · rename_i a fs hu
    obtain ⟨p, hs, hp, rfl⟩ := hx.ptr_inv
    split at hr
    · rename_i fd hf
      split at hr
      · rename_i i hi
        split at hr
        · cases hr
        · rename_i hz
          cases hr
          refine okay0 ?_ (vr_add trivial hs hp fd.offset)
          simp at hz
          simp [Instr.fieldAt, run_under hu, hf, Instr.sureAddr, fieldPlace, run_size hi, hz]
      · cases hr
    · cases hr
  · cases hr
def oIndexAt (P : Program) (t : TypeId) (x ix : Value) (h : List AO) : Option Out :=
  match ix, P.underlying t, x with
  | .int _ i, some (.array len e), .pointer (some a) =>
    match P.info? e with
    | some n => if decide (0 ≤ i) && decide (i < len) then some (.value (.pointer (some (a.add (i.toNat * n.size)))), h, none) else none
    | none => none
  | .int _ i, some (.slice e), .slice (some a) len _ =>
    match P.info? e with
    | some n => if decide (0 ≤ i) && decide (i < len) then some (.value (.pointer (some (a.add (i.toNat * n.size)))), h, none) else none
    | none => none
  | _, _, _ => none
theorem indexAt_ok {t : TypeId} {x x' ix ix' : Value} (hx : VR s x x') (hi : VR s ix ix') {r : Out} (hr : oIndexAt P t x ix h = some r) : Okay0 P s h w (aval (Instr.indexAt t x' ix')) r := by
  unfold oIndexAt at hr
  split at hr
  · rename_i kk i len e a hu
    obtain ⟨p, hs, hp, rfl⟩ := hx.ptr_inv
    rw [hi.int_inv]
    split at hr
    · rename_i n hn
      split at hr
      · rename_i hc
        cases hr
        simp at hc
        refine okay0 ?_ (vr_add trivial hs hp (i.toNat * n.size))
        simp [Instr.indexAt, asIntOf, run_under hu, Instr.sureAddr, hc.1, hc.2, run_size hn]
      · cases hr
    · cases hr
  · rename_i kk i e a len c hu
    obtain ⟨p, c', hs, hp, _, rfl⟩ := hx.slice_inv
    rw [hi.int_inv]
    split at hr
    · rename_i n hn
      split at hr
      · rename_i hc
        cases hr
        simp at hc
        refine okay0 ?_ (vr_add trivial hs hp (i.toNat * n.size))
        simp [Instr.indexAt, asIntOf, run_under hu, hc.1, hc.2, run_size hn]
      · cases hr
    · cases hr
  · cases hr
end
end Go.Proofs.YtchjneodjaakdaaGreat.Ex
end
section
namespace Go.Proofs.YtchjneodjaakdaaGreat.Ex
open Go Go.RowKit

/-- What a computation that touches no memory comes to. -/
def pureRun (P : Program) {α : Type} : Sem α → Option α
  | .pure a => some a
  | .program k => pureRun P (k P)
  | .mark _ k => pureRun P k
  | _ => none
theorem pureRun_ok {P : Program} {α : Type} (x : Sem α) {a : α} (h : pureRun P x = some a) (w : World) : x.run P w = .ok a w := by
  induction x with
  | pure b => simp [pureRun] at h; subst h; rfl
  | program k ih => simp only [Sem.run]; exact ih P (by simpa [pureRun] using h)
  | mark m k ih => simp only [Sem.run]; exact ih (by simpa [pureRun] using h)
  | _ => simp [pureRun] at h

def chooses : Op → Bool
  | .select _ _ => true
  | _ => false
def oPure (P : Program) (ρ : Operand → Value) (o : Oper) (h : List AO) : Option Out :=
  if !chooses o.op && o.op.operands.toList.all (fun x => flat (ρ x)) then
    match pureRun P (execOp ρ o) with
    | some (.value v) => if flat v then some (.value v, h, none) else none
    | some .skip => some (.skip, h, none)
    | _ => none
  else none

section
variable {P : Program} {wb : World} {k : Nat} {s : Ren} {h : List AO} {w : World}
theorem pure_ok {ρ ρ' : Operand → Value} {o : Oper} (hρ : ∀ x ∈ o.op.operands, VR s (ρ x) (ρ' x)) {r : Out} (hr : oPure P ρ o h = some r) : Okay0 P s h w (execOp ρ' o) r := by
  unfold oPure at hr
  split at hr
  · rename_i hc
    simp only [Bool.and_eq_true, Bool.not_eq_true'] at hc
    have e : execOp ρ o = execOp ρ' o := execOp_congr o (fun cs b e => by rw [e] at hc; exact absurd hc.1 (by simp [chooses])) fun x hx =>
      ((hρ x hx).eq_of_flat (List.all_eq_true.1 hc.2 x (by simpa using hx))).symm
    rw [← e]
    split at hr
    · rename_i v hv
      split at hr
      · rename_i hf
        cases hr
        exact ⟨_, pureRun_ok _ hv w, VR.same hf, rfl⟩
      · cases hr
    · rename_i hv
      cases hr
      exact ⟨_, pureRun_ok _ hv w, trivial, rfl⟩
    · cases hr
  · cases hr

def oNil (x : Value) (h : List AO) : Option Out :=
  match x with
  | .pointer (some a) => some (.value (.pointer (some a)), h, none)
  | .func (.func f) a b => some (.value (.func (.func f) a b), h, none)
  | _ => none
def nilOp (x : Value) : Sem Next :=
  match x with
  | .pointer none | .nilIface | .nilFunc => runtimePanic .nilDeref
  | .func (.method name) first captured =>
    match (first[0]? : Option Value) with
    | some .nilIface => runtimePanic .nilDeref
    | some (.iface t w) => do
      if (← nilAhead ((← program).types.size + Made.depth) t w name) != some false then
        unsupported (.noEntry "op/nilCheck.the method's receiver behind this interface value is a nil pointer, or cannot be seen to be none, and the arguments act or may panic (ledger 612)")
      pure (.value (.func (.method name) first captured))
    | _ => pure (.value (.func (.method name) first captured))
  | x => pure (.value x)
theorem nil_ok {x x' : Value} (hx : VR s x x') {r : Out} (hr : oNil x h = some r) : Okay0 P s h w (nilOp x') r := by
  unfold oNil at hr
  split at hr
  · cases hr
    obtain ⟨p, _, _, rfl⟩ := hx.ptr_inv
    exact ⟨_, rfl, hx, rfl⟩
  · cases hr
    rename_i f a b
    obtain ⟨a⟩ := a
    obtain ⟨b⟩ := b
    obtain ⟨ys, vs, rfl, _, _⟩ := hx.func_inv
    exact ⟨_, rfl, hx, rfl⟩
  · cases hr

def oPick (c x y : Value) (h : List AO) : Option Out :=
  match c with
  | .bool b => some (.value (if b then x else y), h, none)
  | _ => none
theorem pick_ok {c c' x x' y y' : Value} (hc : VR s c c') (hx : VR s x x') (hy : VR s y y') {r : Out} (hr : oPick c x y h = some r) :
    Okay0 P s h w (do pure (.value (if ← asBool c' then x' else y'))) r := by
  unfold oPick at hr
  split at hr
  · rename_i b
    cases hr
    rw [hc.bool_inv]
    refine ⟨.value (if b then x' else y'), by simp [asBool], ?_, rfl⟩
    cases b
    · exact hy
    · exact hx
  · cases hr

def oExtract (x : Value) (i : Nat) (h : List AO) : Option Out :=
  match x with
  | .tuple vs =>
    match vs.toList[i]? with
    | some v => some (.value v, h, none)
    | none => none
  | _ => none
theorem extract_ok {x x' : Value} (hx : VR s x x') {i : Nat} {r : Out} (hr : oExtract x i h = some r) : Okay0 P s h w (aval (Instr.extract x' i)) r := by
  unfold oExtract at hr
  split at hr
  · rename_i vs
    obtain ⟨vs⟩ := vs
    obtain ⟨ys, rfl, hl⟩ := hx.tuple_inv
    split at hr
    · rename_i v hv
      cases hr
      obtain ⟨y, hy, hvy⟩ := hl.get hv
      refine okay0 ?_ hvy
      simp [Instr.extract, hy]
    · cases hr
  · cases hr

/-! Parts of a value. -/
def oPart (P : Program) (t : TypeId) (cs : List Value) (off : Nat) : Option Value :=
  match P.underlying t, P.info? t with
  | some d, some i => if aggD d then some (.agg ⟨(cs.drop off).take i.size⟩) else cs[off]?
  | _, _ => none
theorem part_ok {t : TypeId} {cs cs' : List Value} (hl : LR s cs cs') {off : Nat} {v : Value} (hr : oPart P t cs off = some v) : ∃ v', (part t ⟨cs'⟩ off).run P w = .ok v' w ∧ VR s v v' := by
  unfold oPart at hr
  split at hr
  · rename_i d i hd hi
    split at hr
    · rename_i ha
      cases hr
      refine ⟨.agg ⟨(cs'.drop off).take i.size⟩, ?_, VR.agg ((hl.drop off).take i.size).1 ((hl.drop off).take i.size).2⟩
      simp [part, run_aggD hd, ha, run_size hi]
    · rename_i ha
      obtain ⟨v', hv', hvr⟩ := hl.get hr
      exact ⟨v', by simp [part, run_aggD hd, ha, hv'], hvr⟩
  · cases hr
def oField (P : Program) (t : TypeId) (x : Value) (f : Nat) (h : List AO) : Option Out :=
  match x, P.underlying t with
  | .agg cs, some (.struct fs) =>
    match fs[f]? with
    | some fd =>
      match oPart P fd.type cs.toList fd.offset with
      | some v => some (.value v, h, none)
      | none => none
    | none => none
  | _, _ => none
theorem field_ok {t : TypeId} {x x' : Value} (hx : VR s x x') {f : Nat} {r : Out} (hr : oField P t x f h = some r) : Okay0 P s h w (aval (Instr.field t x' f)) r := by
  unfold oField at hr
  split at hr
  · rename_i cs fs hu
    obtain ⟨cs⟩ := cs
    obtain ⟨ys, rfl, hl⟩ := hx.agg_inv
    split at hr
    · rename_i fd hf
      split at hr
      · rename_i v hv
        cases hr
        obtain ⟨v', h1, h2⟩ := part_ok (w := w) hl hv
        refine okay0 ?_ h2
        simp [Instr.field, run_under hu, hf, asAgg, h1]
      · cases hr
    · cases hr
  · cases hr
def oIndex (P : Program) (t : TypeId) (x ix : Value) (h : List AO) : Option Out :=
  match ix, P.underlying t, x with
  | .int _ i, some (.array len e), .agg cs =>
    match P.info? e with
    | some n =>
      if decide (0 ≤ i) && decide (i < len) then
        match oPart P e cs.toList (i.toNat * n.size) with
        | some v => some (.value v, h, none)
        | none => none
      else none
    | none => none
  | .int _ i, some .string, .string b =>
    if decide (0 ≤ i) then
      match b.data.toList[i.toNat]? with
      | some c => some (.value (.int .u8 c.toNat), h, none)
      | none => none
    else none
  | _, _, _ => none
theorem bytes_get (b : ByteArray) (i : Nat) : b[i]? = b.data.toList[i]? := by
  by_cases hi : i < b.size
  · rw [getElem?_pos b i hi, List.getElem?_eq_getElem (by simpa using hi)]; rfl
  · rw [getElem?_neg b i hi, List.getElem?_eq_none (by simpa using hi)]
theorem index_ok {t : TypeId} {x x' ix ix' : Value} (hx : VR s x x') (hi : VR s ix ix') {r : Out} (hr : oIndex P t x ix h = some r) : Okay0 P s h w (aval (Instr.index t x' ix')) r := by
  unfold oIndex at hr
  split at hr
  · rename_i kk i len e cs hu
    obtain ⟨cs⟩ := cs
    obtain ⟨ys, rfl, hl⟩ := hx.agg_inv
    rw [hi.int_inv]
    split at hr
    · rename_i n hn
      split at hr
      · rename_i hc
        simp at hc
        split at hr
        · rename_i v hv
          cases hr
          obtain ⟨v', h1, h2⟩ := part_ok (w := w) hl hv
          refine okay0 ?_ h2
          simp [Instr.index, asIntOf, run_under hu, hc.1, hc.2, run_size hn, h1]
        · cases hr
      · cases hr
    · cases hr
  · rename_i kk i b hu
    rw [hi.int_inv, hx.string_inv]
    split at hr
    · rename_i hc
      simp at hc
      split at hr
      · rename_i c hv
        cases hr
        refine okay0 ?_ (VR.same rfl)
        rw [← bytes_get] at hv
        simp [Instr.index, asIntOf, run_under hu, hc, hv]
      · cases hr
    · cases hr
  · cases hr

/-! What is nil. -/
def oEqNil (P : Program) (t : TypeId) (x y : Value) : Option Bool :=
  match P.underlying t, x, y with
  | some (.pointer _), .pointer none, .pointer b => some b.isNone
  | some (.pointer _), .pointer (some _), .pointer none => some false
  | some (.slice _), .slice none _ _, .slice b _ _ => some b.isNone
  | some (.slice _), .slice (some _) _ _, .slice none _ _ => some false
  | _, _, _ => none
end
end Go.Proofs.YtchjneodjaakdaaGreat.Ex
end
section
namespace Go.Proofs.YtchjneodjaakdaaGreat.Ex
open Go Go.RowKit

section
variable {P : Program} {wb : World} {k : Nat} {s : Ren} {h : List AO} {w : World}

theorem eqNil_d (d0 : Nat) {t : TypeId} {x x' y y' : Value} (hx : VR s x x') (hy : VR s y y') {b : Bool} (hr : oEqNil P t x y = some b) :
    (Op.equalIn (d0 + 1) t x' y').run P w = .ok b w ∧ ∀ op xo yo, (eqGuard op t xo yo x' y').run P w = .ok () w := by
  unfold oEqNil at hr
  split at hr
  · rename_i d q hu
    cases hr
    rw [hx.eq_of_flat rfl]
    have hq : ∃ q', y' = .pointer q' ∧ q'.isNone = q.isNone := by
      cases q with
      | none => exact ⟨none, hy.eq_of_flat rfl, rfl⟩
      | some a => obtain ⟨p, _, _, rfl⟩ := hy.ptr_inv; exact ⟨_, rfl, rfl⟩
    obtain ⟨q', rfl, hq⟩ := hq
    refine ⟨by simp [Op.equalIn, run_under hu, hq], fun op xo yo => ?_⟩
    unfold eqGuard; cases op <;> simp
  · rename_i d q hu
    cases hr
    obtain ⟨p, _, _, rfl⟩ := hx.ptr_inv
    rw [hy.eq_of_flat rfl]
    refine ⟨by simp [Op.equalIn, run_under hu], fun op xo yo => ?_⟩
    unfold eqGuard; cases op <;> simp
  · rename_i d l c q l' c' hu
    cases hr
    rw [hx.eq_of_flat rfl]
    have hq : ∃ q' m n, y' = .slice q' m n ∧ q'.isNone = q.isNone := by
      cases q with
      | none => exact ⟨none, _, _, hy.eq_of_flat rfl, rfl⟩
      | some a => obtain ⟨p, _, _, _, _, rfl⟩ := hy.slice_inv; exact ⟨_, _, _, rfl, rfl⟩
    obtain ⟨q', m, n, rfl, hq⟩ := hq
    refine ⟨by simp [Op.equalIn, run_under hu, hq], fun op xo yo => ?_⟩
    unfold eqGuard; cases op <;> simp
  · rename_i d q l c l' c' hu
    cases hr
    obtain ⟨p, _, _, _, _, rfl⟩ := hx.slice_inv
    rw [hy.eq_of_flat rfl]
    refine ⟨by simp [Op.equalIn, run_under hu], fun op xo yo => ?_⟩
    unfold eqGuard; cases op <;> simp
  · cases hr
theorem eqNil_ok {t : TypeId} {x x' y y' : Value} (hx : VR s x x') (hy : VR s y y') {b : Bool} (hr : oEqNil P t x y = some b) :
    (Op.equal t x' y').run P w = .ok b w ∧ ∀ op xo yo, (eqGuard op t xo yo x' y').run P w = .ok () w := eqNil_d 9999 hx hy hr
def oCmp (P : Program) (op : BinOp) (t : TypeId) (x y : Value) (h : List AO) : Option Out :=
  match op, oEqNil P t x y with
  | .eql, some b => some (.value (.bool b), h, none)
  | .neq, some b => some (.value (.bool (!b)), h, none)
  | _, _ => none
theorem oEqNil_form {t : TypeId} {x y : Value} {b : Bool} (hr : oEqNil P t x y = some b) :
    (∃ p q, x = .pointer p ∧ y = .pointer q) ∨ (∃ p l c q m d, x = .slice p l c ∧ y = .slice q m d) := by
  unfold oEqNil at hr
  split at hr
  · exact .inl ⟨_, _, rfl, rfl⟩
  · exact .inl ⟨_, _, rfl, rfl⟩
  · exact .inr ⟨_, _, _, _, _, _, rfl, rfl⟩
  · exact .inr ⟨_, _, _, _, _, _, rfl, rfl⟩
  · cases hr
theorem VR.ptr_form {s : Ren} {p : Option Addr} {v' : Value} (h : VR s (.pointer p) v') : ∃ q, v' = .pointer q := by
  cases p with
  | none => exact ⟨none, h.eq_of_flat rfl⟩
  | some a => obtain ⟨p, _, _, rfl⟩ := h.ptr_inv; exact ⟨_, rfl⟩
theorem VR.slice_form {s : Ren} {p : Option Addr} {l c : Nat} {v' : Value} (h : VR s (.slice p l c) v') : ∃ q c', v' = .slice q l c' := by
  cases p with
  | none => exact ⟨none, _, h.eq_of_flat rfl⟩
  | some a => obtain ⟨p, _, _, _, _, rfl⟩ := h.slice_inv; exact ⟨_, _, rfl⟩
theorem cmp_ok {op : BinOp} {t : TypeId} {x x' y y' : Value} (hx : VR s x x') (hy : VR s y y') {xo yo : Operand} {r : Out} (hr : oCmp P op t x y h = some r) :
    Okay0 P s h w (aval (do eqGuard op t xo yo x' y'; binOp op t x' y')) r := by
  unfold oCmp at hr
  split at hr
  · rename_i b hb
    cases hr
    obtain ⟨h1, h2⟩ := eqNil_ok (w := w) hx hy hb
    refine okay0 (v' := .bool b) ?_ (VR.same rfl)
    have h3 : (binOp .eql t x' y').run P w = .ok (.bool b) w := by
      rcases oEqNil_form hb with ⟨p, q, rfl, rfl⟩ | ⟨p, l, c, q, m, d, rfl, rfl⟩
      · obtain ⟨_, rfl⟩ := hx.ptr_form
        obtain ⟨_, rfl⟩ := hy.ptr_form
        simp [binOp, h1]
      · obtain ⟨_, _, rfl⟩ := hx.slice_form
        obtain ⟨_, _, rfl⟩ := hy.slice_form
        simp [binOp, h1]
    simp [h2, h3]
  · rename_i b hb
    cases hr
    obtain ⟨h1, h2⟩ := eqNil_ok (w := w) hx hy hb
    refine okay0 (v' := .bool !b) ?_ (VR.same rfl)
    have h3 : (binOp .neq t x' y').run P w = .ok (.bool !b) w := by
      rcases oEqNil_form hb with ⟨p, q, rfl, rfl⟩ | ⟨p, l, c, q, m, d, rfl, rfl⟩
      · obtain ⟨_, rfl⟩ := hx.ptr_form
        obtain ⟨_, rfl⟩ := hy.ptr_form
        simp [binOp, h1]
      · obtain ⟨_, _, rfl⟩ := hx.slice_form
        obtain ⟨_, _, rfl⟩ := hy.slice_form
        simp [binOp, h1]
    simp [h2, h3]
  · cases hr

/-! Calls. -/
def oCall (P : Program) (f : Value) (args : List Value) (h : List AO) : Option Out :=
  match f with
  | .func (.func g) a c =>
    match P.funcs[g]? with
    | some fn => if fn.body.isSome then some (.enter g ⟨a.toList ++ args ++ c.toList⟩, h, none) else none
    | none => none
  | _ => none
theorem call_ok (hng : NoNG P) {ρ ρ' : Operand → Value} {c : Call} {f : Operand} (hc : c.callee = .value f) (type : TypeId) (hf : VR s (ρ f) (ρ' f)) (ha : LR s (c.args.toList.map ρ) (c.args.toList.map ρ')) {r : Out}
    (hr : oCall P (ρ f) (c.args.toList.map ρ) h = some r) : Okay0 P s h w (do let d ← resolve ρ' c type; invoke d.target d.args) r := by
  unfold oCall at hr
  split at hr
  · rename_i g a b hfv
    rw [hfv] at hf
    obtain ⟨a⟩ := a
    obtain ⟨b⟩ := b
    obtain ⟨ys, vs, hf', h1, h2⟩ := hf.func_inv
    split at hr
    · rename_i fn hfn
      split at hr
      · rename_i hcond
        cases hr
        have hb : ¬ fn.body = none := by
          intro e
          rw [e] at hcond
          simp at hcond
        have hn := hng g fn hfn
        refine ⟨.enter g ((⟨ys⟩ : Array Value) ++ c.args.map ρ' ++ (⟨vs⟩ : Array Value)), ?_, ⟨rfl, ?_⟩, rfl⟩
        · simp [resolve, hc, hf', Deferred.ofValue, invoke, callFunc, program, Sem.run, hfn, hn, hb]
        · simp only [Array.toList_append, Array.toList_map]
          rw [List.append_assoc]
          rw [List.append_assoc]
          exact h1.append (ha.append h2)
      · cases hr
    · cases hr
  · cases hr
def oLen (P : Program) (c : Call) (args : List Value) (h : List AO) : Option Out :=
  match c.argTypes[0]?, args with
  | some t, x :: _ =>
    match P.underlying t, x with
    | some (.slice _), .slice (some _) n _ => some (.value (.int .i64 n), h, none)
    | some (.array n _), _ => some (.value (.int .i64 n), h, none)
    | _, _ => none
  | _, _ => none
theorem len_ok {ρ ρ' : Operand → Value} {c : Call} (hc : c.callee = .builtin .len) (type : TypeId) (ha : LR s (c.args.toList.map ρ) (c.args.toList.map ρ')) {r : Out}
    (hr : oLen P c (c.args.toList.map ρ) h = some r) : Okay0 P s h w (do let d ← resolve ρ' c type; invoke d.target d.args) r := by
  unfold oLen at hr
  split at hr
  · rename_i t x rest ht hxs
    obtain ⟨y, hy, hxy⟩ := ha.get (i := 0) (x := x) (by rw [hxs]; rfl)
    have hy0 : (c.args.map ρ')[0]? = some y := by
      rw [← hy, ← Array.toList_map]; exact Array.getElem?_toList.symm
    split at hr
    · rename_i e a n cp hu
      cases hr
      obtain ⟨p, c', _, _, _, rfl⟩ := hxy.slice_inv
      refine ⟨.value (.int .i64 n), ?_, VR.same rfl, rfl⟩
      simp [resolve, hc, invoke, builtin, Builtin.len_, ht, hy0, run_under hu, goInt]
    · rename_i n e hu
      cases hr
      refine ⟨.value (.int .i64 n), ?_, VR.same rfl, rfl⟩
      simp [resolve, hc, invoke, builtin, Builtin.len_, ht, hy0, run_under hu, goInt]
    · cases hr
  · cases hr
end
end Go.Proofs.YtchjneodjaakdaaGreat.Ex
end
section
namespace Go.Proofs.YtchjneodjaakdaaGreat.Ex
open Go Go.RowKit

/-- Numbers that must be the same (behind two orders). -/
abbrev Cs := List (Int × Int)
/-- The lowest block that was written, and what must be the same. -/
abbrev Mk := Option Nat × Cs
structure St where
  t : List Value
  h : List AO
  m : Mk
def lowO (a b : Option Nat) : Option Nat :=
  match a, b with
  | none, b => b
  | some a, none => some a
  | some a, some b => some (min a b)
def low (a b : Mk) : Mk := (lowO a.1 b.1, a.2 ++ b.2)
def BndO (k : Nat) (m : Option Nat) : Prop := ∀ i, m = some i → k ≤ i
def Bnd (k : Nat) (m : Mk) : Prop := BndO k m.1 ∧ ∀ c ∈ m.2, c.1 = c.2
theorem bnd_lowO {k : Nat} {a b : Option Nat} (h : BndO k (lowO a b)) : BndO k a ∧ BndO k b := by
  cases a with
  | none => exact ⟨fun i h => (by cases h), h⟩
  | some a =>
    cases b with
    | none => exact ⟨h, fun i h => (by cases h)⟩
    | some b =>
      have := h _ rfl
      exact ⟨fun i hi => (by cases hi; omega), fun i hi => (by cases hi; omega)⟩
theorem bnd_low {k : Nat} {a b : Mk} (h : Bnd k (low a b)) : Bnd k a ∧ Bnd k b := by
  obtain ⟨h1, h2⟩ := h
  obtain ⟨g1, g2⟩ := bnd_lowO h1
  exact ⟨⟨g1, fun c hc => h2 c (List.mem_append_left _ hc)⟩, ⟨g2, fun c hc => h2 c (List.mem_append_right _ hc)⟩⟩
def lookA (t : List Value) : Operand → Value
  | .tmp i => t.getD i undef
  | .const v => v
  | .func f => .func (.func f) #[] #[]
  | .global g => .pointer (some ⟨g, 0, none⟩)
/-- Is a block a package's variable, at its own place? -/
def isG (h : List AO) (g : Nat) : Bool :=
  match h[g]? with
  | some o => o.live && (match o.es with | some e => Nat.beq e GM | none => false)
  | none => false
def okX (h : List AO) : Operand → Bool
  | .const v => flat v
  | .global g => isG h g
  | _ => true
def GlOk (s : Ren) (h : List AO) : Prop := ∀ g, isG h g = true → ∃ p, s g = some p ∧ p.blk = g ∧ p.off = 0
theorem HR.glob {wb : World} {k : Nat} {s : Ren} {h : List AO} {w : World} (H : HR wb k s h w) : GlOk s h := by
  intro g hg
  unfold isG at hg
  cases ho : h[g]? with
  | none => rw [ho] at hg; cases hg
  | some o =>
    rw [ho] at hg
    simp only [Bool.and_eq_true] at hg
    obtain ⟨p, hp, he, _⟩ := H.obj g o ho hg.1
    have h2 := hg.2
    cases hes : o.es with
    | none => rw [hes] at h2; cases h2
    | some e =>
      rw [hes] at h2
      have h3 : e = GM := Nat.eq_of_beq_eq_true h2
      obtain ⟨h4, h5⟩ := H.gl g p hp (by rw [he, hes, h3])
      exact ⟨p, hp, h4, h5⟩
def putA (t : List Value) (d : Option Tmp) (v : Value) : List Value :=
  match d with
  | some d => t.set d v
  | none => t
def yA (ops : Array Oper) (t : List Value) (j : Nat) : Option Bool :=
  match ((ops[j]?).bind (·.dst)).bind (fun d => t[d]?) with
  | some (.bool b) => some b
  | _ => none
def wantedA (ops : Array Oper) (t : List Value) (o : Oper) : Bool :=
  match o.guard with
  | none => true
  | some (j, want) => yA ops t j == some want

structure SR (wb : World) (k : Nat) (s : Ren) (x : St) (a : Act) (w : World) : Prop where
  t : LR s x.t a.tmps.toList
  d : a.defers = []
  h : HR wb k s x.h w

theorem eval_ok {s : Ren} {t : List Value} {a : Act} {hp : List AO} (h : LR s t a.tmps.toList) (hgl : GlOk s hp) {x : Operand} (hx : okX hp x = true) : VR s (lookA t x) (a.eval x) := by
  cases x with
  | tmp i =>
    have := h.getD i (d := undef) rfl
    simpa [lookA, Act.eval, List.getD, Array.getD_eq_getD_getElem?] using this
  | const v => exact .same hx
  | func f => exact .same rfl
  | global g =>
    obtain ⟨p, h1, h2, h3⟩ := hgl g hx
    have := VR.ptr (s := s) (a := ⟨g, 0, none⟩) rfl h1
    rw [h2, h3] at this
    exact this
theorem put_ok {s : Ren} {t : List Value} {a : Act} (h : LR s t a.tmps.toList) (d : Option Tmp) {v v' : Value} (hv : VR s v v') : LR s (putA t d v) (a.put d v').tmps.toList := by
  cases d with
  | none => exact h
  | some d => simpa [putA, Act.put] using h.set hv d
theorem vr_bool {s : Ren} {v : Value} {b : Bool} (h : VR s v (.bool b)) : v = .bool b := by
  generalize e : Value.bool b = v' at h
  cases h with
  | same _ => rfl
  | _ => cases e
theorem yielded_ok {s : Ren} (ops : Array Oper) {t : List Value} {a : Act} (h : LR s t a.tmps.toList) (j : Nat) : yielded ops a.tmps j = yA ops t j := by
  unfold yielded yA
  cases hd : (ops[j]?).bind (·.dst) with
  | none => rfl
  | some d =>
    simp only [Option.bind_some]
    cases hv : t[d]? with
    | none =>
      have : a.tmps[d]? = none := by
        rw [List.getElem?_eq_none_iff] at hv
        rw [Array.getElem?_eq_none_iff]
        have := h.1
        simp at this
        omega
      rw [this]
    | some v =>
      obtain ⟨v', hv', hr⟩ := h.get hv
      rw [Array.getElem?_toList] at hv'
      rw [hv']
      by_cases hb : ∃ b, v = .bool b
      · obtain ⟨b, rfl⟩ := hb
        rw [hr.bool_inv]
      · have hb1 : ∀ b, v ≠ .bool b := fun b e => hb ⟨b, e⟩
        have hb2 : ∀ b, v' ≠ .bool b := fun b e => hb ⟨b, vr_bool (e ▸ hr)⟩
        have e1 : ∀ u : Value, (∀ b, u ≠ .bool b) → (match some u with | some (Value.bool b) => some b | _ => none) = none := by
          intro u hu
          cases u <;> first | rfl | exact absurd rfl (hu _)
        exact (e1 v' hb2).trans (e1 v hb1).symm
theorem wanted_ok {s : Ren} {ops : Array Oper} {t : List Value} {a : Act} (h : LR s t a.tmps.toList) (o : Oper) : Region.wanted o (yielded ops a.tmps) = wantedA ops t o := by
  unfold Region.wanted wantedA
  cases o.guard with
  | none => rfl
  | some g => simp only [yielded_ok ops h]

/-- How temporaries are read and laid: as they are (accP), or by the kernel's own recursors (accQ): the same. -/
structure Acc where
  look : List Value → Operand → Value
  put : List Value → Option Tmp → Value → List Value
def accP : Acc := ⟨lookA, putA⟩
noncomputable def nthQ (l : List Value) : Nat → Value := List.rec (motive := fun _ => Nat → Value) (fun _ => undef) (fun x _ ih n => Nat.rec (motive := fun _ => Value) x (fun m _ => ih m) n) l
noncomputable def setQ (v : Value) (l : List Value) : Nat → List Value := List.rec (motive := fun _ => Nat → List Value) (fun _ => []) (fun x r ih n => Nat.rec (motive := fun _ => List Value) (v :: r) (fun m _ => x :: ih m) n) l
theorem nthQ_eq : ∀ (l : List Value) (n : Nat), nthQ l n = l.getD n undef
  | [], _ => rfl
  | _ :: _, 0 => rfl
  | _ :: l, n + 1 => nthQ_eq l n
theorem setQ_eq (v : Value) : ∀ (l : List Value) (n : Nat), setQ v l n = l.set n v
  | [], _ => rfl
  | _ :: _, 0 => rfl
  | x :: l, n + 1 => congrArg (x :: ·) (setQ_eq v l n)
noncomputable def accQ : Acc := ⟨fun t x => match x with | .tmp i => nthQ t i | .const v => v | .func f => .func (.func f) #[] #[] | .global g => .pointer (some ⟨g, 0, none⟩), fun t d v => match d with | some d => setQ v t d | none => t⟩
theorem accQ_eq : accQ = accP := by
  unfold accQ accP
  congr 1
  · funext t x
    cases x <;> first | rfl | exact nthQ_eq t _
  · funext t d v
    cases d <;> first | rfl | exact setQ_eq v t _
abbrev OpFn := (Operand → Value) → Oper → List AO → Option Out
def OpOk (P : Program) (op : OpFn) : Prop :=
  ∀ (wb : World) (k : Nat) (s : Ren) (h : List AO) (w : World) (ρ ρ' : Operand → Value) (o : Oper) (r : Out), HR wb k s h w → (∀ x ∈ o.op.operands, VR s (ρ x) (ρ' x)) → op ρ o h = some r → BndO k r.2.2 →
    Okay P wb k s w (execOp ρ' o) r
structure Rec where
  run : FuncId → Code → St → Option (Exit × St)
  hook : FuncId → List Value → List AO → Option (Value × Cs)
  orc : Tmp → List Value → Option Value
  acc : Acc
/-- Calls that are told by a contract. -/
def HookOk (P : Program) (hk : FuncId → List Value → List AO → Option (Value × Cs)) : Prop :=
  ∀ (f : FuncId) (args : List Value) (h : List AO) (v : Value) (cs : Cs), hk f args h = some (v, cs) → (∀ c ∈ cs, c.1 = c.2) → ∀ (wb : World) (k : Nat) (s : Ren) (w : World), HR wb k s h w → Calls P f ⟨args⟩ w fun e w' => e = .returned v ∧ Gr w w'
/-- The same, of any arguments, as they are told. -/
def HookOk2 (P : Program) (hk : FuncId → List Value → List AO → Option (Value × Cs)) : Prop :=
  ∀ (f : FuncId) (args : List Value) (h : List AO) (v : Value) (cs : Cs), hk f args h = some (v, cs) → (∀ c ∈ cs, c.1 = c.2) → ∀ (wb : World) (k : Nat) (s : Ren) (w : World) (args' : List Value), HR wb k s h w → LR s args args' →
    Calls P f ⟨args'⟩ w fun e w' => e = .returned v ∧ Gr w w'
def guardH (hk : FuncId → List Value → List AO → Option (Value × Cs)) : FuncId → List Value → List AO → Option (Value × Cs) := fun f args h => if args.all flat then hk f args h else none
theorem guard_ok {P : Program} {hk : FuncId → List Value → List AO → Option (Value × Cs)} (hh : HookOk P hk) : HookOk2 P (guardH hk) := by
  intro f args h v cs hv hc wb k s w args' H ha
  unfold guardH at hv
  split at hv
  · rename_i hall
    rw [ha.eq_of_flat hall]
    exact hh f args h v cs hv hc wb k s w H
  · cases hv
def Post (wb : World) (k : Nat) (s : Ren) (x : St) (e : Exit) : Exit → Act → World → Prop := fun e' a w => e' = e ∧ ∃ s', Le s s' ∧ SR wb k s' x a w
def RecOk (P : Program) (rec : Rec) : Prop :=
  (∀ (wb : World) (k : Nat) (s : Ren) (g : FuncId) (c : Code) (x x' : St) (e : Exit) (a : Act) (w : World), rec.run g c x = some (e, x') → Bnd k x'.m → SR wb k s x a w → c.wp P (Post wb k s x' e) a w) ∧ HookOk2 P rec.hook ∧ NoNG P ∧ rec.acc = accP

/-! Results. -/
def resL (P : Program) (t : List Value) (h : List AO) : List ResultVar → Option (List Value)
  | [] => some []
  | .tmp i :: rs =>
    match resL P t h rs with
    | some vs => some (t.getD i undef :: vs)
    | none => none
  | .cell a ty :: rs =>
    match oLoad P ty (t.getD a undef) h, resL P t h rs with
    | some (.value v, _, _), some vs => some (v :: vs)
    | _, _ => none
def oneOf (vs : List Value) : Value :=
  match vs with
  | [v] => v
  | vs => .tuple ⟨vs⟩
theorem oneOf_ok {s : Ren} {vs vs' : List Value} (h : LR s vs vs') : VR s (oneOf vs) (oneOf vs') := by
  match vs, vs', h with
  | [], [], _ => exact .same rfl
  | [v], [v'], h => exact h.uncons.1
  | a :: b :: c, a' :: b' :: c', h => exact VR.tuple h.1 h.2
  | [], _ :: _, h => have := h.1; simp at this
  | [_], [], h => have := h.1; simp at this
  | [_], _ :: _ :: _, h => have := h.1; simp at this
  | _ :: _ :: _, [], h => have := h.1; simp at this
  | _ :: _ :: _, [_], h => have := h.1; simp at this
def resOp (tmps : Array Value) : ResultVar → Sem Value
  | .tmp t => pure (tmps.getD t undef)
  | .cell a t => do loadVar t (← asAddr (tmps.getD a undef))
theorem resL_ok {P : Program} {wb : World} {k : Nat} {s : Ren} {t : List Value} {h : List AO} {tmps : Array Value} {w : World} (ht : LR s t tmps.toList) (H : HR wb k s h w) :
    ∀ (l : List ResultVar) (vs : List Value), resL P t h l = some vs → ∃ vs', (l.mapM (resOp tmps)).run P w = .ok vs' w ∧ LR s vs vs'
  | [], vs, hr => by
    simp [resL] at hr
    subst hr
    exact ⟨[], by simp, LR.nil s⟩
  | .tmp i :: rs, vs, hr => by
    simp only [resL] at hr
    split at hr
    · rename_i vs0 h0
      cases hr
      obtain ⟨vs', h1, h2⟩ := resL_ok ht H rs vs0 h0
      refine ⟨tmps.getD i undef :: vs', ?_, LR.cons ?_ h2⟩
      · simp only [List.mapM_cons, resOp, Sem.run_bind, Sem.run_pure, Result.andThen_ok, h1]
      · have := ht.getD i (d := undef) rfl
        simpa [List.getD, Array.getD_eq_getD_getElem?] using this
    · cases hr
  | .cell ad ty :: rs, vs, hr => by
    simp only [resL] at hr
    split at hr
    · rename_i v h' m' vs0 hl h0
      cases hr
      obtain ⟨vs', h1, h2⟩ := resL_ok ht H rs vs0 h0
      have hx : VR s (t.getD ad undef) (tmps.getD ad undef) := by
        have := ht.getD ad (d := undef) rfl
        simpa [List.getD, Array.getD_eq_getD_getElem?] using this
      have hshape : ∃ q, t.getD ad undef = .pointer (some q) := by
        unfold oLoad at hl
        split at hl
        · rename_i q d i e _ _; exact ⟨q, e⟩
        · cases hl
      obtain ⟨q, hq⟩ := hshape
      rw [hq] at hx
      obtain ⟨p, _, hp, hx'⟩ := hx.ptr_inv
      rw [hq] at hl
      unfold oLoad at hl
      split at hl
      · rename_i q2 d i hqe hd hi
        cases hqe
        split at hl
        · rename_i hag
          split at hl
          · rename_i us hus
            cases hl
            obtain ⟨hlen, us', hv, hc⟩ := aload_spec H.mr hus hp
            have e2 := run_loadCells_list (P := P) w ⟨p.blk, p.off + q.off, none⟩ us' hc
            rw [← hv.1, hlen] at e2
            refine ⟨.agg ⟨us'⟩ :: vs', ?_, LR.cons (VR.agg hv.1 hv.2) h2⟩
            have e3 : (resOp tmps (.cell ad ty)).run P w = .ok (.agg ⟨us'⟩) w := by
              simp only [resOp, Sem.run_bind, hx', asAddr, Sem.run_pure, Result.andThen_ok, loadVar, run_aggD hd, hag, if_true, run_size hi, e2]
            simp only [List.mapM_cons, Sem.run_bind, e3, Result.andThen_ok, h1, Sem.run_pure]
          · cases hl
        · rename_i hag
          split at hl
          · rename_i u rest hus
            cases hl
            obtain ⟨hlen, us', hv, hc⟩ := aload_spec H.mr hus hp
            cases us' with
            | nil => have := hv.1; simp at this
            | cons u' rest' =>
              have e2 := hc 0 u' rfl
              rw [add_none] at e2
              simp only [Nat.add_zero] at e2
              refine ⟨u' :: vs', ?_, LR.cons hv.uncons.1 h2⟩
              have e3 : (resOp tmps (.cell ad ty)).run P w = .ok u' w := by
                simp only [resOp, Sem.run_bind, hx', asAddr, Sem.run_pure, Result.andThen_ok, loadVar, run_aggD hd, hag]
                simp [e2]
              simp only [List.mapM_cons, Sem.run_bind, e3, Result.andThen_ok, h1, Sem.run_pure]
          · cases hl
      · cases hl
    · cases hr
theorem results_ok {P : Program} {wb : World} {k : Nat} {s : Ren} {t : List Value} {h : List AO} {tmps : Array Value} {w : World} (ht : LR s t tmps.toList) (H : HR wb k s h w) {fn : Func} {vs : List Value}
    (hr : resL P t h fn.results.toList = some vs) : ∃ v', (results fn tmps).run P w = .ok v' w ∧ VR s (oneOf vs) v' := by
  obtain ⟨vs', h1, h2⟩ := resL_ok (P := P) ht H fn.results.toList vs hr
  refine ⟨oneOf vs', ?_, oneOf_ok h2⟩
  have e : results fn tmps = (do let vs ← fn.results.mapM (resOp tmps); pure (if h : vs.size = 1 then vs[0] else .tuple vs)) := rfl
  rw [e, Array.mapM_eq_mapM_toList]
  simp only [Sem.run_bind, Sem.run_map, h1, Result.andThen_ok, Sem.run_pure]
  congr 1
  match vs' with
  | [] => rfl
  | [_] => rfl
  | _ :: _ :: _ => simp [oneOf]
end Go.Proofs.YtchjneodjaakdaaGreat.Ex
end
section
namespace Go.Proofs.YtchjneodjaakdaaGreat.Ex
open Go Go.RowKit

/-- Kinds of cells. -/
inductive Kc where
  | i (k : IntKind)
  | b
  | s
def Kc.fit : Kc → Value → Bool
  | .i k, .int j _ => k == j
  | .b, .bool _ => true
  | .s, .string _ => true
  | _, _ => false
def fitL : List Kc → List Value → Bool
  | [], [] => true
  | k :: ks, v :: vs => k.fit v && fitL ks vs
  | _, _ => false
def kcF (g : TypeId → Option (List Kc)) (cells : TypeId → Nat) : List Field → Nat → Option (List Kc)
  | [], _ => some []
  | f :: fs, off =>
    match g f.type with
    | some ks =>
      if f.name ≠ "_" ∧ f.offset = off ∧ cells f.type = ks.length then
        match kcF g cells fs (off + ks.length) with
        | some ls => some (ks ++ ls)
        | none => none
      else none
    | none => none
def kcT (P : Program) : Nat → TypeId → Option (List Kc)
  | 0, _ => none
  | f + 1, t =>
    match P.underlying t with
    | some .bool => some [.b]
    | some (.int k) => some [.i k]
    | some .string => some [.s]
    | some (.array n e) =>
      match kcT P f e with
      | some ks => if P.cellsOf e = ks.length then some (List.replicate n ks).flatten else none
      | none => none
    | some (.struct fs) =>
      if P.stoodInHeld t then none else kcF (kcT P f) P.cellsOf fs.toList 0
    | _ => none
/-- One cell is the same as another one, of one kind. -/
def eqW : Value → Value → Bool
  | .int _ a, .int _ b => a == b
  | .bool a, .bool b => a == b
  | .string a, .string b => a.data.toList == b.data.toList
  | _, _ => false
def eqD : List Value → List Value → Bool
  | [], [] => true
  | x :: xs, y :: ys => eqW x y && eqD xs ys
  | _, _ => false
theorem fitL.length : ∀ {ks : List Kc} {vs : List Value}, fitL ks vs = true → vs.length = ks.length
  | [], [], _ => rfl
  | _ :: ks, _ :: vs, h => by
    simp only [fitL, Bool.and_eq_true] at h
    simp [fitL.length h.2]
  | [], _ :: _, h => by cases h
  | _ :: _, [], h => by cases h
theorem fitL.split : ∀ {ks ls : List Kc} {vs : List Value}, fitL (ks ++ ls) vs = true → fitL ks (vs.take ks.length) = true ∧ fitL ls (vs.drop ks.length) = true
  | [], _, _, h => by simpa [fitL] using h
  | _ :: ks, ls, [], h => by cases h
  | k :: ks, ls, v :: vs, h => by
    simp only [List.cons_append, fitL, Bool.and_eq_true] at h
    have := fitL.split h.2
    simp [fitL, h.1, this.1, this.2]
theorem eqD_split : ∀ {n : Nat} {xs ys : List Value}, xs.length = ys.length → eqD xs ys = (eqD (xs.take n) (ys.take n) && eqD (xs.drop n) (ys.drop n))
  | 0, xs, ys, _ => by simp [eqD]
  | n + 1, [], [], _ => by simp [eqD]
  | n + 1, x :: xs, y :: ys, h => by
    have := eqD_split (n := n) (xs := xs) (ys := ys) (by simpa using h)
    simp [eqD, this, Bool.and_assoc]
  | _ + 1, [], _ :: _, h => by simp at h
  | _ + 1, _ :: _, [], h => by simp at h
def asV (P : Program) (t : TypeId) (cs : List Value) : Value :=
  match P.underlying t with
  | some d => if aggD d then .agg ⟨cs⟩ else cs.headD undef
  | none => undef
theorem kcT_info {P : Program} {f : Nat} {t : TypeId} {ks : List Kc} (h : kcT P f t = some ks) : ∃ d i, P.underlying t = some d ∧ P.info? t = some i ∧ (aggD d = false → ks.length = 1) := by
  cases f with
  | zero => cases h
  | succ f =>
    unfold kcT at h
    cases hu : P.underlying t with
    | none => rw [hu] at h; cases h
    | some d =>
      have hi : ∃ i, P.info? t = some i := by
        cases hh : P.info? t with
        | none => simp [Program.underlying, hh] at hu
        | some i => exact ⟨i, rfl⟩
      obtain ⟨i, hi⟩ := hi
      refine ⟨d, i, rfl, hi, fun ha => ?_⟩
      rw [hu] at h
      cases d <;> simp_all [aggD] <;> (subst h; rfl)
theorem part_plain {P : Program} {f : Nat} {t : TypeId} {ks : List Kc} (h : kcT P f t = some ks) (hc : P.cellsOf t = ks.length) {cs : List Value} {off : Nat} (hl : off + ks.length ≤ cs.length) (w : World) :
    (part t ⟨cs⟩ off).run P w = .ok (asV P t ((cs.drop off).take ks.length)) w := by
  obtain ⟨d, i, hu, hi, h1⟩ := kcT_info h
  have hs : i.size = ks.length := by rw [← hc]; simp [Program.cellsOf, hi]
  unfold asV
  rw [hu]
  cases ha : aggD d with
  | true => simp [part, run_aggD hu, ha, run_size hi, hs]
  | false =>
    have h2 := h1 ha
    have hlt : off < cs.length := by omega
    have e : (cs.drop off).take ks.length = [cs[off]] := by
      rw [h2, List.drop_eq_getElem_cons hlt]
      rfl
    rw [e]
    simp [part, run_aggD hu, ha, hlt]
theorem asV_agg {P : Program} {t : TypeId} {d : TypeDesc} (hu : P.underlying t = some d) (ha : aggD d = true) (cs : List Value) : asV P t cs = .agg ⟨cs⟩ := by
  unfold asV; rw [hu]; simp [ha]
theorem asV_one {P : Program} {t : TypeId} {d : TypeDesc} (hu : P.underlying t = some d) (ha : aggD d = false) (v : Value) : asV P t [v] = v := by
  unfold asV; rw [hu]; simp [ha]
def EqT (P : Program) (D : Nat) (t : TypeId) (ks : List Kc) : Prop :=
  ∀ (w : World) (xs ys : List Value), fitL ks xs = true → fitL ks ys = true → (Op.equalIn D t (asV P t xs) (asV P t ys)).run P w = .ok (eqD xs ys) w
theorem eqFields_ok {P : Program} {D f : Nat} (ih : ∀ t ks, kcT P f t = some ks → EqT P D t ks) (xs ys : List Value) (w : World) : ∀ (fs : List Field) (off : Nat) (ks : List Kc), kcF (kcT P f) P.cellsOf fs off = some ks → off ≤ xs.length → off ≤ ys.length →
    fitL ks (xs.drop off) = true → fitL ks (ys.drop off) = true → (Op.eqFields D ⟨xs⟩ ⟨ys⟩ fs).run P w = .ok (eqD (xs.drop off) (ys.drop off)) w
  | [], off, ks, h, _, _, hx, hy => by
    simp only [kcF, Option.some.injEq] at h
    subst h
    have ex : xs.drop off = [] := List.eq_nil_of_length_eq_zero (fitL.length hx)
    have ey : ys.drop off = [] := List.eq_nil_of_length_eq_zero (fitL.length hy)
    rw [ex, ey]
    simp [Op.eqFields, eqD]
  | fd :: fs, off, ks, h, ox, oy, hx, hy => by
    simp only [kcF] at h
    split at h
    · rename_i k1 hk1
      split at h
      · rename_i hc
        obtain ⟨hn, ho, hcells⟩ := hc
        split at h
        · rename_i k2 hk2
          cases h
          obtain ⟨x1, x2⟩ := fitL.split hx
          obtain ⟨y1, y2⟩ := fitL.split hy
          have lx := fitL.length hx
          have ly := fitL.length hy
          simp only [List.length_drop, List.length_append] at lx ly
          rw [List.drop_drop] at x2 y2
          have bx : off + k1.length ≤ xs.length := by omega
          have bY : off + k1.length ≤ ys.length := by omega
          have r := eqFields_ok ih xs ys w fs (off + k1.length) k2 hk2 bx bY x2 y2
          have p1 := part_plain hk1 hcells (cs := xs) (off := off) bx w
          have p2 := part_plain hk1 hcells (cs := ys) (off := off) bY w
          have e := ih fd.type k1 hk1 w _ _ x1 y1
          have sp := eqD_split (n := k1.length) (xs := xs.drop off) (ys := ys.drop off) (by simp; omega)
          rw [List.drop_drop, List.drop_drop] at sp
          simp only [Op.eqFields, ho, hn, ne_eq, not_false_eq_true, if_true, Sem.run_bind, p1, p2, e, Result.andThen_ok, sp]
          cases eqD ((xs.drop off).take k1.length) ((ys.drop off).take k1.length) <;> simp [r]
        · cases h
      · cases h
    · cases h
theorem eqItems_ok {P : Program} {D f : Nat} {e : TypeId} {ks : List Kc} (hk : kcT P f e = some ks) (hc : P.cellsOf e = ks.length) (ih : EqT P D e ks) (xs ys : List Value) (w : World) : ∀ (n j : Nat), j * ks.length ≤ xs.length → j * ks.length ≤ ys.length →
    fitL (List.replicate n ks).flatten (xs.drop (j * ks.length)) = true → fitL (List.replicate n ks).flatten (ys.drop (j * ks.length)) = true →
    (Op.eqItems D e (P.cellsOf e) ⟨xs⟩ ⟨ys⟩ (List.range' j n)).run P w = .ok (eqD (xs.drop (j * ks.length)) (ys.drop (j * ks.length))) w
  | 0, j, _, _, hx, hy => by
    have ex : xs.drop (j * ks.length) = [] := List.eq_nil_of_length_eq_zero (by simpa using fitL.length hx)
    have ey : ys.drop (j * ks.length) = [] := List.eq_nil_of_length_eq_zero (by simpa using fitL.length hy)
    rw [ex, ey]
    simp [Op.eqItems, eqD]
  | n + 1, j, ox, oy, hx, hy => by
    rw [List.replicate_succ, List.flatten_cons] at hx hy
    have lx := fitL.length hx
    have ly := fitL.length hy
    obtain ⟨x1, x2⟩ := fitL.split hx
    obtain ⟨y1, y2⟩ := fitL.split hy
    simp only [List.length_drop, List.length_append] at lx ly
    rw [List.drop_drop, show j * ks.length + ks.length = (j + 1) * ks.length by rw [Nat.add_mul]; omega] at x2 y2
    have bx : j * ks.length + ks.length ≤ xs.length := by omega
    have bY : j * ks.length + ks.length ≤ ys.length := by omega
    have r := eqItems_ok hk hc ih xs ys w n (j + 1) (by rw [Nat.add_mul, Nat.one_mul]; exact bx) (by rw [Nat.add_mul, Nat.one_mul]; exact bY) x2 y2
    have p1 := part_plain hk hc (cs := xs) (off := j * ks.length) bx w
    have p2 := part_plain hk hc (cs := ys) (off := j * ks.length) bY w
    have e1 := ih w _ _ x1 y1
    have sp := eqD_split (n := ks.length) (xs := xs.drop (j * ks.length)) (ys := ys.drop (j * ks.length)) (by simp; omega)
    rw [List.drop_drop, List.drop_drop, show j * ks.length + ks.length = (j + 1) * ks.length by rw [Nat.add_mul]; omega] at sp
    rw [List.range'_succ]
    simp only [Op.eqItems, Sem.run_bind, hc, p1, p2, e1, Result.andThen_ok, sp]
    rw [hc] at r
    cases eqD ((xs.drop (j * ks.length)).take ks.length) ((ys.drop (j * ks.length)).take ks.length) <;> simp [r]
theorem fit_int {k : IntKind} {xs : List Value} (h : fitL [.i k] xs = true) : ∃ a, xs = [.int k a] := by
  cases xs with
  | nil => cases h
  | cons v vs =>
    simp only [fitL, Bool.and_eq_true] at h
    obtain rfl : vs = [] := List.eq_nil_of_length_eq_zero (fitL.length h.2)
    have h1 := h.1
    cases v <;> simp only [Kc.fit, Bool.false_eq_true, beq_iff_eq] at h1
    subst h1
    exact ⟨_, rfl⟩
theorem eqT_ok (P : Program) (D : Nat) : ∀ (f : Nat) (t : TypeId) (ks : List Kc), kcT P f t = some ks → EqT P (D + f) t ks
  | 0, _, _, h => by cases h
  | f + 1, t, ks, h => by
    have ih := eqT_ok P D f
    intro w xs ys hx hy
    have h0 := h
    unfold kcT at h
    cases hu : P.underlying t with
    | none => rw [hu] at h; cases h
    | some d =>
      rw [hu] at h
      cases d
      case bool =>
        cases h
        match xs, ys, hx, hy with
        | [.bool a], [.bool b], _, _ =>
          rw [asV_one hu rfl, asV_one hu rfl]
          show (Op.equalIn (D + f + 1) t (.bool a) (.bool b)).run P w = _
          rw [run_equalIn_bool' w (D + f) t a b hu]
          simp [eqD, eqW]
      case int k =>
        cases h
        obtain ⟨a, rfl⟩ := fit_int hx
        obtain ⟨b, rfl⟩ := fit_int hy
        · rw [asV_one hu rfl, asV_one hu rfl]
          show (Op.equalIn (D + f + 1) t (.int k a) (.int k b)).run P w = _
          rw [run_equalIn_int w (D + f) t k k a b hu]
          simp [eqD, eqW]
      case string =>
        cases h
        match xs, ys, hx, hy with
        | [.string a], [.string b], _, _ =>
          rw [asV_one hu rfl, asV_one hu rfl]
          show (Op.equalIn (D + f + 1) t (.string a) (.string b)).run P w = _
          rw [run_equalIn_string w (D + f) t a b hu]
          simp [eqD, eqW, ByteArray.toList_eq]
      case array n e =>
        simp only at h
        split at h
        · rename_i k1 hk1
          split at h
          · rename_i hc
            cases h
            rw [asV_agg hu rfl, asV_agg hu rfl]
            obtain ⟨_, i, _, hi, _⟩ := kcT_info hk1
            show (Op.equalIn (D + f + 1) t (.agg ⟨xs⟩) (.agg ⟨ys⟩)).run P w = _
            rw [run_equalIn_array w (D + f) _ _ hu hi, List.range_eq_range']
            have := eqItems_ok hk1 hc (ih e k1 hk1) xs ys w n 0 (by simp) (by simp) (by simpa using hx) (by simpa using hy)
            simpa using this
          · cases h
        · cases h
      case struct fs =>
        simp only at h
        split at h
        · cases h
        · rename_i hst
          have hfs : P.fieldsOf t = fs := by simp [Program.fieldsOf, hu]
          rw [asV_agg hu rfl, asV_agg hu rfl]
          show (Op.equalIn (D + f + 1) t (.agg ⟨xs⟩) (.agg ⟨ys⟩)).run P w = _
          rw [run_equalIn_struct w (D + f) t _ _ (by rw [hfs]; exact hu) (by simpa using hst), hfs]
          have := eqFields_ok ih xs ys w fs.toList 0 ks h (Nat.zero_le _) (Nat.zero_le _) (by simpa using hx) (by simpa using hy)
          simpa using this
      all_goals (simp at h)
/-- Two structs, or arrays, of plain data: are they the same? -/
def oEqAgg (P : Program) (t : TypeId) (x y : Value) : Option Bool :=
  match x, y with
  | .agg xs, .agg ys =>
    match P.underlying t with
    | some d =>
      if aggD d && !P.eqGuardType P.depth t then
        match kcT P 10 t with
        | some ks => if fitL ks xs.toList && fitL ks ys.toList then some (eqD xs.toList ys.toList) else none
        | none => none
      else none
    | none => none
  | _, _ => none
theorem oEqAgg_ok {P : Program} {t : TypeId} {x y : Value} {b : Bool} (h : oEqAgg P t x y = some b) (w : World) (op : BinOp) (xo yo : Operand) :
    ∃ xs ys, x = .agg xs ∧ y = .agg ys ∧ (Op.equal t x y).run P w = .ok b w ∧ (eqGuard op t xo yo x y).run P w = .ok () w := by
  unfold oEqAgg at h
  split at h
  · rename_i xs ys
    split at h
    · rename_i d hu
      split at h
      · rename_i hc
        simp only [Bool.and_eq_true, Bool.not_eq_true'] at hc
        split at h
        · rename_i ks hk
          split at h
          · rename_i hf
            cases h
            simp only [Bool.and_eq_true] at hf
            have := eqT_ok P 9990 10 t ks hk w _ _ hf.1 hf.2
            rw [asV_agg hu hc.1, asV_agg hu hc.1] at this
            exact ⟨xs, ys, rfl, rfl, this, run_eqGuard_agg w op t xo yo xs ys hc.2⟩
          · cases h
        · cases h
      · cases h
    · cases h
  · cases h
def kIx : IntKind → Nat
  | .i8 => 0 | .i16 => 1 | .i32 => 2 | .i64 => 3 | .u8 => 4 | .u16 => 5 | .u32 => 6 | .u64 => 7
theorem kIx_inj {a b : IntKind} (h : Nat.beq (kIx a) (kIx b) = true) : a = b := by
  cases a <;> cases b <;> first | rfl | (exact absurd h (by decide))
/-- Two numbers of one kind, by an operator; not shifts. -/
def oFastInt (b : BinOp) (k : IntKind) (a c : Int) : Option Value :=
  match b with
  | .add => some (.int k (k.wrap (a + c)))
  | .sub => some (.int k (k.wrap (a - c)))
  | .mul => some (.int k (k.wrap (a * c)))
  | .quo => if c = 0 then none else some (.int k (k.wrap (a.tdiv c)))
  | .rem => if c = 0 then none else some (.int k (a.tmod c))
  | .and => some (.int k (k.wrap (BitVec.ofInt k.bits a &&& BitVec.ofInt k.bits c).toNat))
  | .or => some (.int k (k.wrap (BitVec.ofInt k.bits a ||| BitVec.ofInt k.bits c).toNat))
  | .xor => some (.int k (k.wrap (BitVec.ofInt k.bits a ^^^ BitVec.ofInt k.bits c).toNat))
  | .andNot => some (.int k (k.wrap (BitVec.ofInt k.bits a &&& ~~~BitVec.ofInt k.bits c).toNat))
  | .eql => some (.bool (a == c))
  | .neq => some (.bool (a != c))
  | .lss => some (.bool (decide (a < c)))
  | .leq => some (.bool (decide (a ≤ c)))
  | .gtr => some (.bool (decide (a > c)))
  | .geq => some (.bool (decide (a ≥ c)))
  | _ => none
theorem oFastInt_ok {P : Program} {b : BinOp} {k : IntKind} {a c : Int} {v : Value} (h : oFastInt b k a c = some v) (t : TypeId) (w : World) : (binOp b t (.int k a) (.int k c)).run P w = .ok v w := by
  cases b <;> simp only [oFastInt] at h
  case quo =>
    split at h
    · cases h
    · rename_i hc; cases h; simp [binOp, Op.intDiv, hc]
  case rem =>
    split at h
    · cases h
    · rename_i hc; cases h; simp [binOp, Op.intDiv, hc]
  all_goals first | (cases h; done) | (cases h; simp [binOp, Op.intArith, Op.intBits, Op.intCmp])
theorem int_guard {P : Program} (b : BinOp) (t : TypeId) (xo yo : Operand) (k j : IntKind) (a c : Int) (w : World) : (eqGuard b t xo yo (.int k a) (.int j c)).run P w = .ok () w := by
  unfold eqGuard; cases b <;> simp
/-- Two strings, compared or put together. -/
def oFastStr (b : BinOp) (a c : ByteArray) : Option Value :=
  match b with
  | .eql => some (.bool (a.data.toList == c.data.toList))
  | .neq => some (.bool !(a.data.toList == c.data.toList))
  | .add => if ((a.size + c.size : Nat) : Int) > IntKind.i64.max then none else some (.string ⟨⟨a.data.toList ++ c.data.toList⟩⟩)
  | _ => none
theorem oFastStr_ok {P : Program} {b : BinOp} {a c : ByteArray} {v : Value} (h : oFastStr b a c = some v) (t : TypeId) (w : World) : (binOp b t (.string a) (.string c)).run P w = .ok v w := by
  cases b <;> simp only [oFastStr] at h
  case add =>
    split at h
    · cases h
    · rename_i hc
      cases h
      have e : (a ++ c : ByteArray) = ⟨⟨a.data.toList ++ c.data.toList⟩⟩ := by
        apply ByteArray.ext
        rw [ByteArray.data_append]
        apply Array.toList_inj.1
        simp
      show (Op.stringOp .add a c).run P w = _
      unfold Op.stringOp
      simp only [hc, if_false, e]
      rfl
  all_goals first | (cases h; done) | (cases h; simp [binOp, Op.stringOp, ByteArray.toList_eq])
theorem str_guard {P : Program} (b : BinOp) (t : TypeId) (xo yo : Operand) (a c : ByteArray) (w : World) : (eqGuard b t xo yo (.string a) (.string c)).run P w = .ok () w := by
  unfold eqGuard; cases b <;> simp
/-- What an operator comes to of numbers of one kind, or of structs and arrays of plain data that are compared. -/
def oFastBin (P : Program) (b : BinOp) (t : TypeId) (x y : Value) (h : List AO) : Option Out :=
  match x, y with
  | .int k a, .int j c =>
    if Nat.beq (kIx k) (kIx j) then
      match oFastInt b k a c with
      | some v => some (.value v, h, none)
      | none => none
    else none
  | .agg xs, .agg ys =>
    match b with
    | .eql =>
      match oEqAgg P t (.agg xs) (.agg ys) with
      | some r => some (.value (.bool r), h, none)
      | none => none
    | .neq =>
      match oEqAgg P t (.agg xs) (.agg ys) with
      | some r => some (.value (.bool !r), h, none)
      | none => none
    | _ => none
  | .string a, .string c =>
    match oFastStr b a c with
    | some v => some (.value v, h, none)
    | none => none
  | _, _ => none
theorem fitL.flat : ∀ {ks : List Kc} {vs : List Value}, fitL ks vs = true → vs.all scal = true
  | [], [], _ => rfl
  | k :: ks, v :: vs, h => by
    simp only [fitL, Bool.and_eq_true] at h
    simp only [List.all_cons, fitL.flat h.2, Bool.and_true]
    cases k <;> cases v <;> simp_all [Kc.fit, scal]
  | [], _ :: _, h => by cases h
  | _ :: _, [], h => by cases h
theorem oEqAgg_flat {P : Program} {t : TypeId} {x y : Value} {b : Bool} (h : oEqAgg P t x y = some b) : flat x = true ∧ flat y = true := by
  unfold oEqAgg at h
  split at h
  · rename_i xs ys
    split at h
    · split at h
      · split at h
        · split at h
          · rename_i hf
            simp only [Bool.and_eq_true] at hf
            exact ⟨by simpa [flat, flat1] using fitL.flat hf.1, by simpa [flat, flat1] using fitL.flat hf.2⟩
          · cases h
        · cases h
      · cases h
    · cases h
  · cases h
theorem fastBin_ok {P : Program} {s : Ren} {h : List AO} {w : World} {b : BinOp} {t : TypeId} {x x' y y' : Value} (hx : VR s x x') (hy : VR s y y') {xo yo : Operand} {r : Out} (hr : oFastBin P b t x y h = some r) :
    Okay0 P s h w (aval (do eqGuard b t xo yo x' y'; binOp b t x' y')) r := by
  unfold oFastBin at hr
  split at hr
  · rename_i k a j c
    rw [hx.eq_of_flat rfl, hy.eq_of_flat rfl]
    split at hr
    · rename_i hk
      obtain rfl := kIx_inj hk
      split at hr
      · rename_i v hv
        cases hr
        refine okay0 (v' := v) ?_ (VR.same ?_)
        · simp [int_guard, oFastInt_ok hv]
        · cases b <;> simp only [oFastInt] at hv
          case quo => split at hv <;> cases hv; rfl
          case rem => split at hv <;> cases hv; rfl
          all_goals first | (cases hv; done) | (cases hv; rfl)
      · cases hr
    · cases hr
  · rename_i xs ys
    split at hr
    · split at hr
      · rename_i q hq
        cases hr
        obtain ⟨f1, f2⟩ := oEqAgg_flat hq
        rw [hx.eq_of_flat f1, hy.eq_of_flat f2]
        obtain ⟨_, _, _, _, e1, e2⟩ := oEqAgg_ok hq w .eql xo yo
        refine okay0 (v' := .bool q) ?_ (VR.same rfl)
        simp [binOp, e1, e2]
      · cases hr
    · split at hr
      · rename_i q hq
        cases hr
        obtain ⟨f1, f2⟩ := oEqAgg_flat hq
        rw [hx.eq_of_flat f1, hy.eq_of_flat f2]
        obtain ⟨_, _, _, _, e1, e2⟩ := oEqAgg_ok hq w .neq xo yo
        refine okay0 (v' := .bool !q) ?_ (VR.same rfl)
        simp [binOp, e1, e2]
      · cases hr
    · cases hr
  · rename_i a c
    rw [hx.eq_of_flat rfl, hy.eq_of_flat rfl]
    split at hr
    · rename_i v hv
      cases hr
      refine okay0 (v' := v) ?_ (VR.same ?_)
      · simp [str_guard, oFastStr_ok hv]
      · cases b <;> simp only [oFastStr] at hv
        case add => split at hv <;> cases hv; rfl
        all_goals first | (cases hv; done) | (cases hv; rfl)
    · cases hr
  · cases hr
/-- A number as one of another kind. -/
def oFastConv (P : Program) (a b : TypeId) (x : Value) (h : List AO) : Option Out :=
  match x with
  | .int _ n =>
    match P.underlying a, P.underlying b with
    | some _, some (.int k) => some (.value (.int k (k.wrap n)), h, none)
    | _, _ => none
  | _ => none
theorem fastConv_ok {P : Program} {s : Ren} {h : List AO} {w : World} {a b : TypeId} {x x' : Value} (hx : VR s x x') {r : Out} (hr : oFastConv P a b x h = some r) : Okay0 P s h w (aval (convert a b x')) r := by
  unfold oFastConv at hr
  split at hr
  · rename_i j n
    rw [hx.eq_of_flat rfl]
    split at hr
    · rename_i d k h1 h2
      cases hr
      refine okay0 (v' := .int k (k.wrap n)) ?_ (VR.same rfl)
      simp [convert, run_under h1, run_under h2, Conv.intToInt]
    · cases hr
  · cases hr
end Go.Proofs.YtchjneodjaakdaaGreat.Ex
end
section
namespace Go.Proofs.YtchjneodjaakdaaGreat.Ex
open Go Go.RowKit

def quietB (n : Nat) (m : Option Nat) : Bool :=
  match m with
  | none => true
  | some m => decide (n ≤ m)
theorem quietB_ok {n : Nat} {m : Option Nat} (h : quietB n m = true) : BndO n m := by
  intro i hi
  subst hi
  simpa [quietB] using h
def callA (P : Program) (rec : Rec) (f : FuncId) (args : List Value) (h : List AO) : Option (Value × List AO × Mk) :=
  match rec.hook f args h with
  | some (v, cs) => if flat v then some (v, h, (none, cs)) else none
  | none =>
  match P.funcs[f]? with
  | none => none
  | some fn =>
    match fn.body with
    | none => none
    | some c =>
      match rec.run f c ⟨args ++ List.replicate (fn.ntmps - args.length) undef, h, (none, [])⟩ with
      | some (.normal, x) | some (.ret, x) =>
        match resL P x.t x.h fn.results.toList with
        | some vs =>
          if flat (oneOf vs) && quietB h.length x.m.1 then some (oneOf vs, h, (none, x.m.2))
          else some (oneOf vs, x.h, x.m)
        | none => none
      | _ => none
def b2i : Bool → Int
  | true => 1
  | false => 0
theorem b2i_inj {a b : Bool} (h : b2i a = b2i b) : a = b := by cases a <;> cases b <;> first | rfl | (simp [b2i] at h)
/-- A value that is told: what it must be the same as. -/
def fixV (u : Option Value) (v : Value) : Option (Value × Cs) :=
  match u with
  | none => some (v, [])
  | some .nilFunc => some (v, [])
  | some .nilIface => some (v, [])
  | some (.int j n) =>
    match v with
    | .int k m => if k = j then some (.int j n, [(m, n)]) else none
    | _ => none
  | some (.bool b) =>
    match v with
    | .bool a => some (.bool b, [(b2i a, b2i b)])
    | _ => none
  | _ => none
theorem fixV_ok {u : Option Value} {v v' : Value} {cs : Cs} (h : fixV u v = some (v', cs)) (hc : ∀ c ∈ cs, c.1 = c.2) : v' = v := by
  unfold fixV at h
  split at h
  · cases h; rfl
  · cases h; rfl
  · cases h; rfl
  · split at h
    · split at h
      · rename_i hk
        cases h
        have := hc _ (List.mem_singleton.2 rfl)
        simp only at this
        rw [hk, this]
      · cases h
    · cases h
  · split at h
    · cases h
      have := hc _ (List.mem_singleton.2 rfl)
      rw [b2i_inj this]
    · cases h
  · cases h
/-- A quotient, or what is left, by a number that may not be known: it must not be 0. An oracle says `.nilIface` there. -/
def quoB (u : Option Value) : Bool :=
  match u with
  | some .nilIface => true
  | _ => false
def qOp (ρ : Operand → Value) (o : Oper) : Option (Value × Cs) :=
  match o.op with
  | .binOp b _ x y _ =>
    match ρ x, ρ y with
    | .int k a, .int j c =>
      if Nat.beq (kIx k) (kIx j) then
        match b with
        | .quo => some (.int k (k.wrap (a.tdiv c)), [(b2i (decide (c = 0)), 0)])
        | .rem => some (.int k (a.tmod c), [(b2i (decide (c = 0)), 0)])
        | _ => none
      else none
    | _, _ => none
  | _ => none
theorem qOp_ok {P : Program} {s : Ren} {ρ ρ' : Operand → Value} {o : Oper} {v : Value} {cs : Cs} (hρ : ∀ x ∈ o.op.operands, VR s (ρ x) (ρ' x)) (h : qOp ρ o = some (v, cs)) (hc : ∀ c ∈ cs, c.1 = c.2) (w : World) :
    (execOp ρ' o).run P w = .ok (.value v) w ∧ flat v = true := by
  obtain ⟨dst, op, type, pos, after, guard⟩ := o
  unfold qOp at h
  cases op <;> simp only at h <;> try (cases h; done)
  rename_i b t x y t2
  have hx := hρ x (by simp [Op.operands])
  have hy := hρ y (by simp [Op.operands])
  split at h
  · rename_i k a j c hxa hyc
    rw [hxa] at hx
    rw [hyc] at hy
    have ex := hx.eq_of_flat rfl
    have ey := hy.eq_of_flat rfl
    split at h
    · rename_i hk
      obtain rfl := kIx_inj hk
      split at h
      · cases h
        have h0 : decide (c = 0) = false := b2i_inj (b := false) (hc _ (List.mem_singleton.2 rfl))
        have hne : c ≠ 0 := by simpa using h0
        refine ⟨?_, rfl⟩
        simp [execOp, ex, ey, int_guard, binOp, Op.intDiv, hne]
      · cases h
        have h0 : decide (c = 0) = false := b2i_inj (b := false) (hc _ (List.mem_singleton.2 rfl))
        have hne : c ≠ 0 := by simpa using h0
        refine ⟨?_, rfl⟩
        simp [execOp, ex, ey, int_guard, binOp, Op.intDiv, hne]
      · cases h
    · cases h
  · cases h
def operA (P : Program) (op : OpFn) (rec : Rec) (o : Oper) (x : St) : Option St :=
  if o.op.operands.toList.all (okX x.h) then
    if quoB (o.dst.bind fun d => rec.orc d x.t) then
      match qOp (rec.acc.look x.t) o with
      | some (v, cs) => some ⟨rec.acc.put x.t o.dst v, x.h, low x.m (none, cs)⟩
      | none => none
    else
    match op (rec.acc.look x.t) o x.h with
    | some (.value v, h, m) =>
      match fixV (o.dst.bind fun d => rec.orc d x.t) v with
      | some (v', cs) => some ⟨rec.acc.put x.t o.dst v', h, low x.m (m, cs)⟩
      | none => none
    | some (.skip, h, m) => some ⟨rec.acc.put x.t o.dst undef, h, low x.m (m, [])⟩
    | some (.enter f args, h, m) =>
      match callA P rec f args.toList h with
      | some (v, h', m') => some ⟨rec.acc.put x.t o.dst v, h', low (low x.m (m, [])) m'⟩
      | none => none
    | _ => none
  else none
def seqA (P : Program) (op : OpFn) (rec : Rec) (ops : Array Oper) : List Oper → St → Option St
  | [], x => some x
  | o :: l, x =>
    if wantedA ops x.t o then
      match operA P op rec o x with
      | some x' => seqA P op rec ops l x'
      | none => none
    else seqA P op rec ops l ⟨rec.acc.put x.t o.dst undef, x.h, x.m⟩

section
variable {P : Program} {op : OpFn} {rec : Rec}

def CallPost (wb : World) (k : Nat) (s : Ren) (v : Value) (h : List AO) (e : Ending) (w : World) : Prop :=
  ∃ s' v', e = .returned v' ∧ Le s s' ∧ HR wb k s' h w ∧ VR s' v v'
theorem call_post {fn : Func} {vs : List Value} {x : St} {e : Exit} (he : e = .normal ∨ e = .ret) (hr : resL P x.t x.h fn.results.toList = some vs) {wb : World} {k : Nat} {s : Ren} {R : Ending → World → Prop}
    (hR : ∀ s' v' w', Le s s' → HR wb k s' x.h w' → VR s' (oneOf vs) v' → R (.returned v') w') :
    ∀ e' a' w', Post wb k s x e e' a' w' → bodyPost P fn R e' a' w' := by
  rintro e' a' w' ⟨rfl, s', hle, hsr⟩
  obtain ⟨v', h1, h2⟩ := results_ok (P := P) hsr.t hsr.h hr
  rcases he with rfl | rfl
  · exact ⟨hsr.d, v', h1, hR s' v' w' hle hsr.h h2⟩
  · exact ⟨hsr.d, v', h1, hR s' v' w' hle hsr.h h2⟩
theorem callA_ok (hrec : RecOk P rec) {f : FuncId} {args args' : List Value} {h : List AO} {v : Value} {h' : List AO} {m : Mk} (hr : callA P rec f args h = some (v, h', m)) {wb : World} {k : Nat} {s : Ren} {w : World}
    (hm : Bnd k m) (ha : LR s args args') (H : HR wb k s h w) : Calls P f ⟨args'⟩ w (CallPost wb k s v h') := by
  unfold callA at hr
  split at hr
  · rename_i u cs0 hu
    split at hr
    · rename_i hfl
      cases hr
      refine (hrec.2.1 f args h _ _ hu hm.2 wb k s w args' H ha).mono ?_
      rintro e w' ⟨rfl, hg⟩
      exact ⟨s, _, rfl, Le.refl s, H.grow hg, .same hfl⟩
    · cases hr
  cases hf : P.funcs[f]? with
  | none => rw [hf] at hr; cases hr
  | some fn =>
    rw [hf] at hr
    simp only at hr
    cases hb : fn.body with
    | none => rw [hb] at hr; cases hr
    | some c =>
      rw [hb] at hr
      simp only at hr
      cases hx : rec.run f c ⟨args ++ List.replicate (fn.ntmps - args.length) undef, h, (none, [])⟩ with
      | none => rw [hx] at hr; cases hr
      | some ex =>
        obtain ⟨e, x⟩ := ex
        rw [hx] at hr
        have he : e = .normal ∨ e = .ret := by
          cases e <;> first | exact .inl rfl | exact .inr rfl | cases hr
        have hr2 : (match resL P x.t x.h fn.results.toList with
          | some vs =>
            if flat (oneOf vs) && quietB h.length x.m.1 then some (oneOf vs, h, (none, x.m.2))
            else some (oneOf vs, x.h, x.m)
          | none => none) = some (v, h', m) := by
          rcases he with rfl | rfl
          · exact hr
          · exact hr
        clear hr
        cases hrs : resL P x.t x.h fn.results.toList with
        | none => rw [hrs] at hr2; cases hr2
        | some vs =>
          rw [hrs] at hr2
          simp only at hr2
          refine calls_of_wp hf hb ?_
          have htl : ∀ (wb : World) (k : Nat), HR wb k s h w → SR wb k s ⟨args ++ List.replicate (fn.ntmps - args.length) undef, h, (none, [])⟩ { tmps := (⟨args'⟩ : Array Value) ++ Array.replicate (fn.ntmps - (⟨args'⟩ : Array Value).size) undef, defers := [] } w := by
            intro wb k H
            refine ⟨?_, rfl, H⟩
            have e1 : (⟨args'⟩ : Array Value).size = args.length := by simp [ha.1]
            rw [e1]
            simp only [Array.toList_append, Array.toList_replicate]
            exact ha.append (LR.ofFlat (List.all_eq_true.2 fun u hu => by rw [List.eq_of_mem_replicate hu]; rfl))
          split at hr2
          · rename_i hq
            cases hr2
            simp only [Bool.and_eq_true] at hq
            have hbnd : Bnd h.length x.m := ⟨quietB_ok hq.2, hm.2⟩
            refine Code.wp_mono ?_ (hrec.1 w h.length s f c _ x e _ w hx hbnd (htl w h.length H.here))
            refine call_post he hrs fun s' v' w' _ H' hv => ?_
            rw [hv.eq_of_flat hq.1]
            exact ⟨s, _, rfl, Le.refl s, H.grow H'.grown, .same hq.1⟩
          · cases hr2
            refine Code.wp_mono ?_ (hrec.1 wb k s f c _ x e _ w hx hm (htl wb k H))
            exact call_post he hrs fun s' v' w' hle H' hv => ⟨s', v', rfl, hle, H', hv⟩

theorem operA_low {o : Oper} {x x' : St} (hr : operA P op rec o x = some x') {k : Nat} (hm : Bnd k x'.m) : Bnd k x.m := by
  unfold operA at hr
  split at hr
  · split at hr
    · split at hr
      · cases hr; exact (bnd_low hm).1
      · cases hr
    split at hr
    · split at hr
      · cases hr; exact (bnd_low hm).1
      · cases hr
    · cases hr; exact (bnd_low hm).1
    · split at hr
      · cases hr; exact (bnd_low (bnd_low hm).1).1
      · cases hr
    · cases hr
  · cases hr
theorem operA_ok (hop : OpOk P op) (hrec : RecOk P rec) {o : Oper} {x x' : St} (hr : operA P op rec o x = some x') {wb : World} {k : Nat} {s : Ren} {a : Act} {w : World} (hm : Bnd k x'.m) (H : SR wb k s x a w)
    {next : Act → World → Prop} {Q : Exit → Act → World → Prop} (hn : ∀ s' a' w', Le s s' → SR wb k s' x' a' w' → next a' w') : o.wp P a w next Q := by
  unfold operA at hr
  rw [hrec.2.2.2] at hr
  simp only [accP] at hr
  split at hr
  · rename_i hok
    have hρ : ∀ y ∈ o.op.operands, VR s (lookA x.t y) (a.eval y) := fun y hy => eval_ok H.t H.h.glob (List.all_eq_true.1 hok y (by simpa using hy))
    split at hr
    · split at hr
      · rename_i v cs hq
        cases hr
        obtain ⟨h1, h2⟩ := qOp_ok (P := P) hρ hq (bnd_low hm).2.2 w
        unfold Oper.wp
        rw [h1]
        exact hn s _ w (Le.refl s) ⟨put_ok H.t o.dst (.same h2), by cases hd : o.dst <;> simp [Act.put, H.d], H.h⟩
      · cases hr
    split at hr
    · rename_i v h m ho
      split at hr
      · rename_i v2 cs hfx
        cases hr
        have hv2 := fixV_ok hfx (bnd_low hm).2.2
        subst hv2
        obtain ⟨s', n', w', h1, h2, h3, h4⟩ := hop wb k s x.h w _ _ o _ H.h hρ ho (bnd_low hm).2.1
        unfold Oper.wp
        rw [h1]
        cases n' <;> simp only [NR] at h4
        exact hn s' _ w' h2 ⟨put_ok (H.t.mono h2) o.dst h4, by cases hd : o.dst <;> simp [Act.put, H.d], h3⟩
      · cases hr
    · rename_i h m ho
      cases hr
      obtain ⟨s', n', w', h1, h2, h3, h4⟩ := hop wb k s x.h w _ _ o _ H.h hρ ho (bnd_low hm).2.1
      unfold Oper.wp
      rw [h1]
      cases n' <;> simp only [NR] at h4
      exact hn s' _ w' h2 ⟨put_ok (H.t.mono h2) o.dst (.same rfl), by cases hd : o.dst <;> simp [Act.put, H.d], h3⟩
    · rename_i f args h m ho
      split at hr
      · rename_i v h' m' hc
        cases hr
        obtain ⟨s', n', w', h1, h2, h3, h4⟩ := hop wb k s x.h w _ _ o _ H.h hρ ho (bnd_low (bnd_low hm).1).2.1
        unfold Oper.wp
        rw [h1]
        cases n' <;> simp only [NR] at h4
        rename_i g args'
        obtain ⟨rfl, hargs⟩ := h4
        refine (callA_ok hrec hc (bnd_low hm).2 hargs h3).mono ?_
        rintro e w'' ⟨s'', v', rfl, hle, H'', hv⟩
        exact hn s'' _ w'' (h2.trans hle) ⟨put_ok (H.t.mono (h2.trans hle)) o.dst hv, by cases hd : o.dst <;> simp [Act.put, H.d], H''⟩
      · cases hr
    · cases hr
  · cases hr
theorem seqA_low {ops : Array Oper} : ∀ {l : List Oper} {x x' : St}, seqA P op rec ops l x = some x' → ∀ {k : Nat}, Bnd k x'.m → Bnd k x.m
  | [], x, x', hr, k, hm => by simp [seqA] at hr; subst hr; exact hm
  | o :: l, x, x', hr, k, hm => by
    simp only [seqA] at hr
    split at hr
    · split at hr
      · rename_i x1 h1
        exact operA_low h1 (seqA_low hr hm)
      · cases hr
    · exact seqA_low (x := ⟨rec.acc.put x.t o.dst undef, x.h, x.m⟩) hr hm
theorem seqA_ok (hop : OpOk P op) (hrec : RecOk P rec) {ops : Array Oper} : ∀ {l : List Oper} {x x' : St}, seqA P op rec ops l x = some x' → ∀ {wb : World} {k : Nat} {s : Ren} {a : Act} {w : World}, Bnd k x'.m → SR wb k s x a w →
    ∀ {Q : Exit → Act → World → Prop}, (∀ s' a' w', Le s s' → SR wb k s' x' a' w' → Q .normal a' w') → wpList P ops Q l a w
  | [], x, x', hr, wb, k, s, a, w, hm, H, Q, hQ => by
    simp [seqA] at hr; subst hr
    exact hQ s a w (Le.refl s) H
  | o :: l, x, x', hr, wb, k, s, a, w, hm, H, Q, hQ => by
    simp only [seqA] at hr
    rw [hrec.2.2.2] at hr
    simp only [accP] at hr
    simp only [wpList, wanted_ok H.t]
    split at hr
    · rename_i hw
      rw [if_pos hw]
      split at hr
      · rename_i x1 h1
        left
        refine operA_ok hop hrec h1 (seqA_low hr hm) H fun s' a' w' hle H' => ?_
        exact seqA_ok hop hrec hr hm H' fun s'' a'' w'' hle' H'' => hQ s'' a'' w'' (hle.trans hle') H''
      · cases hr
    · rename_i hw
      rw [if_neg hw]
      refine seqA_ok hop hrec (x := ⟨putA x.t o.dst undef, x.h, x.m⟩) hr hm ⟨put_ok H.t o.dst (.same rfl), by cases hd : o.dst <;> simp [Act.put, H.d], H.h⟩ hQ

/-! Code. -/
abbrev DrawFn := Rec → Array Oper → St → Option St
def DrawOk (P : Program) (dr : DrawFn) : Prop :=
  ∀ (rec : Rec), RecOk P rec → ∀ (ops : Array Oper) (x x' : St), dr rec ops x = some x' → ∀ (wb : World) (k : Nat) (s : Ren) (id : Nat) (a : Act) (w : World), Bnd k x'.m → SR wb k s x a w →
    (Code.region id ops true).wp P (Post wb k s x' .normal) a w
def DrawLow (dr : DrawFn) : Prop := ∀ (rec : Rec) (ops : Array Oper) (x x' : St), dr rec ops x = some x' → ∀ (k : Nat), Bnd k x'.m → Bnd k x.m
def loopN (body : St → Option (Exit × St)) : Nat → St → Option (Exit × St)
  | 0, _ => none
  | n + 1, x =>
    match body x with
    | some (.normal, x') => loopN body n x'
    | r => r
/-- What a number or a test comes to that cannot be reckoned: by the function, the place that it is laid in, and the temporaries then. -/
abbrev Orc := FuncId → Tmp → List Value → Option Value
def noOrc : Orc := fun _ _ _ => none
def ex (P : Program) (op : OpFn) (dr : DrawFn) (hk : FuncId → List Value → List AO → Option (Value × Cs)) (orc : Orc) (ac : Acc) (L : Nat) : Nat → FuncId → Code → St → Option (Exit × St)
  | 0, _, _, _ => none
  | f + 1, fid, c, x =>
    match c with
    | .skip => some (.normal, x)
    | .label _ => some (.normal, x)
    | .region _ ops false =>
      match seqA P op ⟨ex P op dr hk orc ac L f, hk, orc fid, ac⟩ ops ops.toList x with
      | some x' => some (.normal, x')
      | none => none
    | .region _ ops true =>
      match dr ⟨ex P op dr hk orc ac L f, hk, orc fid, ac⟩ ops x with
      | some x' => some (.normal, x')
      | none => none
    | .seq a b =>
      match ex P op dr hk orc ac L f fid a x with
      | some (.normal, x') => ex P op dr hk orc ac L f fid b x'
      | r => r
    | .cond c a b =>
      if okX x.h c then
        match lookA x.t c with
        | .bool true => ex P op dr hk orc ac L f fid a x
        | .bool false => ex P op dr hk orc ac L f fid b x
        | _ => none
      else none
    | .block id c =>
      match ex P op dr hk orc ac L f fid c x with
      | some (.exit i, x') => if i = id then some (.normal, x') else some (.exit i, x')
      | r => r
    | .loop c => loopN (ex P op dr hk orc ac L f fid c) L x
    | .exit id => some (.exit id, x)
    | .ret => some (.ret, x)
    | .scope c =>
      match ex P op dr hk orc ac L f fid c x with
      | some (.goto _, _) => none
      | r => r
    | _ => none
end
end Go.Proofs.YtchjneodjaakdaaGreat.Ex
end
section
namespace Go.Proofs.YtchjneodjaakdaaGreat.Ex
open Go Go.RowKit

section
variable {P : Program} {op : OpFn} {dr : DrawFn} {hk : FuncId → List Value → List AO → Option (Value × Cs)} {orc : Orc} {ac : Acc}

theorem post_le {wb : World} {k : Nat} {s t : Ren} (h : Le s t) {x : St} {e e' : Exit} {a : Act} {w : World} (hp : Post wb k t x e e' a w) : Post wb k s x e e' a w :=
  ⟨hp.1, let ⟨s', h1, h2⟩ := hp.2; ⟨s', h.trans h1, h2⟩⟩
theorem loopN_low {body : St → Option (Exit × St)} {k : Nat} (hl : ∀ (x x' : St) (e : Exit), body x = some (e, x') → Bnd k x'.m → Bnd k x.m) :
    ∀ (n : Nat) (x x' : St) (e : Exit), loopN body n x = some (e, x') → Bnd k x'.m → Bnd k x.m
  | 0, x, x', e, hr, _ => by simp [loopN] at hr
  | n + 1, x, x', e, hr, hm => by
    simp only [loopN] at hr
    split at hr
    · rename_i x1 h1
      exact hl x x1 .normal h1 (loopN_low hl n x1 x' e hr hm)
    · exact hl x x' e hr hm
theorem ex_low (hdl : DrawLow dr) (L : Nat) (k : Nat) : ∀ (f : Nat) (fid : FuncId) (c : Code) (x x' : St) (e : Exit), ex P op dr hk orc ac L f fid c x = some (e, x') → Bnd k x'.m → Bnd k x.m
  | 0, fid, c, x, x', e, hr, _ => by simp [ex] at hr
  | f + 1, fid, c, x, x', e, hr, hm => by
    have ih := ex_low hdl L k f fid
    cases c with
    | skip => simp [ex] at hr; obtain ⟨rfl, rfl⟩ := hr; exact hm
    | label l => simp [ex] at hr; obtain ⟨rfl, rfl⟩ := hr; exact hm
    | exit id => simp [ex] at hr; obtain ⟨rfl, rfl⟩ := hr; exact hm
    | ret => simp [ex] at hr; obtain ⟨rfl, rfl⟩ := hr; exact hm
    | region id ops draw =>
      cases draw with
      | false =>
        simp only [ex] at hr
        split at hr
        · rename_i x1 h1; cases hr; exact seqA_low h1 hm
        · cases hr
      | true =>
        simp only [ex] at hr
        split at hr
        · rename_i x1 h1; cases hr; exact hdl _ ops x _ h1 k hm
        · cases hr
    | seq c1 c2 =>
      simp only [ex] at hr
      split at hr
      · rename_i x1 h1; exact ih c1 x x1 _ h1 (ih c2 x1 x' e hr hm)
      · exact ih c1 x x' e hr hm
    | cond c a b =>
      simp only [ex] at hr
      split at hr
      · split at hr
        · exact ih a x x' e hr hm
        · exact ih b x x' e hr hm
        · cases hr
      · cases hr
    | block id c =>
      simp only [ex] at hr
      split at hr
      · rename_i i x1 h1
        split at hr
        · cases hr; exact ih c x _ _ h1 hm
        · cases hr; exact ih c x _ _ h1 hm
      · exact ih c x x' e hr hm
    | loop c => exact loopN_low (fun x x' e h => ih c x x' e h) L x x' e hr hm
    | scope c =>
      simp only [ex] at hr
      split at hr
      · cases hr
      · exact ih c x x' e hr hm
    | rangeFunc _ _ _ _ => simp [ex] at hr
    | goto _ => simp [ex] at hr
    | refuse _ => simp [ex] at hr

theorem loopN_ok {body : St → Option (Exit × St)} {c : Code}
    (hb : ∀ (wb : World) (k : Nat) (s : Ren) (x x' : St) (e : Exit) (a : Act) (w : World), body x = some (e, x') → Bnd k x'.m → SR wb k s x a w → c.wp P (Post wb k s x' e) a w)
    (wb : World) (k : Nat) (hl : ∀ (x x' : St) (e : Exit), body x = some (e, x') → Bnd k x'.m → Bnd k x.m) :
    ∀ (n : Nat) (x x' : St) (e : Exit), loopN body n x = some (e, x') → Bnd k x'.m → ∀ (s : Ren) (a : Act) (w : World), SR wb k s x a w → Code.rounds P c (Post wb k s x' e) n a w
  | 0, x, x', e, hr, _ => by simp [loopN] at hr
  | n + 1, x, x', e, hr, hm => by
    simp only [loopN] at hr
    split at hr
    · rename_i x1 h1
      have g1 := loopN_low hl n x1 x' e hr hm
      have g2 := loopN_ok hb wb k hl n x1 x' e hr hm
      intro s a w H
      rw [rounds_succ]
      refine Code.wp_mono ?_ (hb wb k s x x1 .normal a w h1 g1 H)
      rintro e' a' w' ⟨rfl, s', hle, H'⟩
      have g3 := g2 s' a' w' H'
      have mono : ∀ (n : Nat) (a : Act) (w : World), Code.rounds P c (Post wb k s' x' e) n a w → Code.rounds P c (Post wb k s x' e) n a w := by
        intro n
        induction n with
        | zero => intro a w h; exact h
        | succ n ih =>
          intro a w h
          rw [rounds_succ] at h ⊢
          refine Code.wp_mono (fun e' a' w' hp => ?_) h
          cases e' <;> first | exact ih _ _ hp | exact post_le hle hp
      exact mono n a' w' g3
    · rename_i r hne
      intro s a w H
      rw [rounds_succ]
      refine Code.wp_mono ?_ (hb wb k s x x' e a w hr hm H)
      rintro e' a' w' ⟨rfl, hp⟩
      have hne' : e' ≠ .normal := by
        intro he
        subst he
        exact hne x' hr
      cases e' <;> first | exact absurd rfl hne' | exact ⟨rfl, hp⟩

theorem ex_ok (hac : ac = accP) (hng : NoNG P) (hop : OpOk P op) (hdr : DrawOk P dr) (hdl : DrawLow dr) (hhk : HookOk2 P hk) (L : Nat) : ∀ (f : Nat), ∀ (g : Tmp → List Value → Option Value), RecOk P ⟨ex P op dr hk orc ac L f, hk, g, ac⟩
  | 0 => fun _ => ⟨by intro wb k s g c x x' e a w hr; simp [ex] at hr, hhk, hng, hac⟩
  | f + 1 => fun _ => by
    have ihr0 := ex_ok hac hng hop hdr hdl hhk L f
    refine ⟨?_, hhk, hng, hac⟩
    intro wb k s fid c x x' e a w hr hm H
    have ihr := ihr0 (orc fid)
    have ih0 := ihr.1
    simp only at hr ih0
    have ih := fun wb k s => ih0 wb k s fid
    have lo := ex_low (P := P) (op := op) (hk := hk) (orc := orc) (ac := ac) hdl L k f fid
    cases c with
    | skip => simp [ex] at hr; obtain ⟨rfl, rfl⟩ := hr; exact wp_skip ⟨rfl, s, Le.refl s, H⟩
    | label l => simp [ex] at hr; obtain ⟨rfl, rfl⟩ := hr; exact wp_label ⟨rfl, s, Le.refl s, H⟩
    | exit id => simp [ex] at hr; obtain ⟨rfl, rfl⟩ := hr; exact wp_exit ⟨rfl, s, Le.refl s, H⟩
    | ret => simp [ex] at hr; obtain ⟨rfl, rfl⟩ := hr; exact wp_ret ⟨rfl, s, Le.refl s, H⟩
    | region id ops draw =>
      cases draw with
      | false =>
        simp only [ex] at hr
        split at hr
        · rename_i x1 h1
          cases hr
          refine wp_region ?_
          have e1 : List.range ops.size = List.range' 0 ops.toList.length := by simp [List.range_eq_range']
          rw [e1, wpOps_eq_wpList ops.toList 0 (fun j => by simp)]
          exact seqA_ok hop ihr h1 hm H fun s' a' w' hle H' => ⟨rfl, s', hle, H'⟩
        · cases hr
      | true =>
        simp only [ex] at hr
        split at hr
        · rename_i x1 h1
          cases hr
          exact hdr _ ihr ops x _ h1 wb k s id a w hm H
        · cases hr
    | seq c1 c2 =>
      simp only [ex] at hr
      split at hr
      · rename_i x1 h1
        have hm1 : Bnd k x1.m := lo c2 x1 x' e hr hm
        refine wp_seq ?_
        refine Code.wp_mono ?_ (ih wb k s c1 x x1 .normal a w h1 hm1 H)
        rintro e' a' w' ⟨rfl, s', hle, H'⟩
        exact Code.wp_mono (fun _ _ _ hp => post_le hle hp) (ih wb k s' c2 x1 x' e a' w' hr hm H')
      · rename_i r hne
        refine wp_seq ?_
        refine Code.wp_mono ?_ (ih wb k s c1 x x' e a w hr hm H)
        rintro e' a' w' ⟨rfl, hp⟩
        cases e' <;> first | exact ⟨rfl, hp⟩ | exact absurd hr (hne _)
    | cond c c1 c2 =>
      simp only [ex] at hr
      split at hr
      · rename_i hok
        have hv := eval_ok H.t H.h.glob hok
        split at hr
        · rename_i hc
          rw [hc] at hv
          exact wp_cond_true hv.bool_inv (ih wb k s c1 x x' e a w hr hm H)
        · rename_i hc
          rw [hc] at hv
          exact wp_cond_false hv.bool_inv (ih wb k s c2 x x' e a w hr hm H)
        · cases hr
      · cases hr
    | block id c =>
      simp only [ex] at hr
      refine wp_block ?_
      split at hr
      · rename_i i x1 h1
        split at hr
        · rename_i hi
          cases hr
          refine Code.wp_mono ?_ (ih wb k s c x _ _ a w h1 hm H)
          rintro e' a' w' ⟨rfl, hp⟩
          simp only [Exit.inBlock, hi, if_true]
          exact ⟨rfl, hp⟩
        · rename_i hi
          cases hr
          refine Code.wp_mono ?_ (ih wb k s c x _ _ a w h1 hm H)
          rintro e' a' w' ⟨rfl, hp⟩
          simp only [Exit.inBlock, hi, if_false]
          exact ⟨rfl, hp⟩
      · rename_i r hne
        refine Code.wp_mono ?_ (ih wb k s c x x' e a w hr hm H)
        rintro e' a' w' ⟨rfl, hp⟩
        cases e' <;> first | exact ⟨rfl, hp⟩ | exact absurd hr (hne _ _)
    | loop c =>
      exact wp_loop_rounds L (loopN_ok (fun wb k s x x' e a w h1 h2 h3 => ih wb k s c x x' e a w h1 h2 h3) wb k (fun x x' e h => lo c x x' e h) L x x' e hr hm s a w H)
    | scope c =>
      simp only [ex] at hr
      refine wp_scope_straight ?_
      split at hr
      · cases hr
      · rename_i r hne
        refine Code.wp_mono ?_ (ih wb k s c x x' e a w hr hm H)
        rintro e' a' w' ⟨rfl, hp⟩
        cases e' <;> first | exact ⟨rfl, hp⟩ | exact absurd hr (hne _ _)
    | rangeFunc _ _ _ _ => simp [ex] at hr
    | goto _ => simp [ex] at hr
    | refuse _ => simp [ex] at hr

/-- A call whose arguments and whose answer hold no address. -/
theorem closed_call (hac : ac = accP) (hng : NoNG P) (hop : OpOk P op) (hdr : DrawOk P dr) (hdl : DrawLow dr) (hhk : HookOk2 P hk) (L f : Nat) {g : FuncId} {args : List Value} {v : Value} {h' : List AO} {m : Mk}
    (ha : args.all flat = true) (hv : flat v = true) {go : Tmp → List Value → Option Value} (hr : callA P ⟨ex P op dr hk orc ac L f, hk, go, ac⟩ g args [] = some (v, h', m)) (hc : ∀ c ∈ m.2, c.1 = c.2) (w : World) :
    Calls P g ⟨args⟩ w fun e w' => e = .returned v ∧ Gr w w' := by
  refine (callA_ok (ex_ok hac hng hop hdr hdl hhk L f go) hr (wb := w) (k := 0) (s := fun _ => none) ⟨fun i _ => Nat.zero_le i, hc⟩ (LR.ofFlat ha) (HR.init w)).mono ?_
  rintro e w' ⟨s', v', rfl, _, H, hvr⟩
  rw [hvr.eq_of_flat hv]
  exact ⟨rfl, H.grown⟩
end
end Go.Proofs.YtchjneodjaakdaaGreat.Ex
end
section
namespace Go.Proofs.YtchjneodjaakdaaGreat.Ex
open Go Go.RowKit

def PR (s : Ren) (xs ys : List (Nat × Value)) : Prop := LR s (xs.map (·.2)) (ys.map (·.2)) ∧ xs.map (·.1) = ys.map (·.1)
theorem fold_ok {s : Ren} (off : Nat) : ∀ (l l' : List Value) (k : Nat) (cs cs' : Array Value), LR s l l' → LR s cs.toList cs'.toList →
    LR s ((l.zipIdx k).foldl (fun cs (c, j) => cs.setIfInBounds (off + j) c) cs).toList ((l'.zipIdx k).foldl (fun cs (c, j) => cs.setIfInBounds (off + j) c) cs').toList
  | [], [], _, _, _, _, h => h
  | x :: l, y :: l', k, cs, cs', hl, h => by
    simp only [List.zipIdx_cons, List.foldl_cons]
    refine fold_ok off l l' (k + 1) _ _ hl.uncons.2 ?_
    simpa using h.set hl.uncons.1 (off + k)
  | [], _ :: _, _, _, _, hl, _ => by have := hl.1; simp at this
  | _ :: _, [], _, _, _, hl, _ => by have := hl.1; simp at this
theorem fill_ok {s : Ren} (place : Nat → Option (Nat × Nat)) : ∀ (ps ps' : List (Nat × Value)) (cs cs' r : Array Value), PR s ps ps' → LR s cs.toList cs'.toList → Instr.fill place cs ps = some r →
    ∃ r', Instr.fill place cs' ps' = some r' ∧ LR s r.toList r'.toList
  | [], [], cs, cs', r, _, h, hr => by
    simp [Instr.fill] at hr
    subst hr
    exact ⟨cs', by simp [Instr.fill], h⟩
  | (i, v) :: ps, (i', v') :: ps', cs, cs', r, hp, h, hr => by
    obtain ⟨h1, h2⟩ := hp
    simp only [List.map_cons, List.cons.injEq] at h1 h2
    obtain ⟨rfl, h2⟩ := h2
    have hv := h1.uncons.1
    have hsz : v'.cells.size = v.cells.size := by have := hv.cells.1; simp at this; omega
    have hcs : cs'.size = cs.size := by have := h.1; simp at this; omega
    simp only [Instr.fill] at hr ⊢
    cases hpl : place i with
    | none => rw [hpl] at hr; cases hr
    | some os =>
      obtain ⟨off, size⟩ := os
      rw [hpl] at hr
      simp only [hsz, hcs] at hr ⊢
      split at hr
      · cases hr
      · rename_i hc
        rw [if_neg hc]
        refine fill_ok place ps ps' _ _ r ⟨h1.uncons.2, h2⟩ ?_ hr
        rw [← Array.foldl_toList, ← Array.foldl_toList, Array.toList_zipIdx, Array.toList_zipIdx]
        exact fold_ok off _ _ 0 cs cs' hv.cells h
  | [], _ :: _, _, _, _, hp, _, _ => by have := hp.2; simp at this
  | _ :: _, [], _, _, _, hp, _, _ => by have := hp.2; simp at this
theorem parts_ok {s : Ren} {ρ ρ' : Operand → Value} {ps : Array (Nat × Operand)} (h : ∀ x ∈ ps.toList.map (·.2), VR s (ρ x) (ρ' x)) :
    PR s (ps.map fun (i, x) => (i, ρ x)).toList (ps.map fun (i, x) => (i, ρ' x)).toList := by
  rw [Array.toList_map, Array.toList_map]
  generalize ps.toList = l at h
  induction l with
  | nil => exact ⟨LR.nil s, rfl⟩
  | cons x l ih =>
    obtain ⟨i, x⟩ := x
    obtain ⟨g1, g2⟩ := ih fun y hy => h y (by simp only [List.map_cons, List.mem_cons]; exact .inr hy)
    exact ⟨LR.cons (h x (by simp)) g1, by simp only [List.map_cons]; rw [g2]⟩

section
variable {P : Program} {s : Ren} {h : List AO} {w : World}
def placesOf (P : Program) (fs : Array Field) : Option (Array (Nat × Nat)) := pureRun P (fs.mapM fun f => do pure (f.offset, ← sizeOf f.type))
def oBuild (P : Program) (t : TypeId) (ps : Array (Nat × Value)) (h : List AO) : Option Out :=
  match P.info? t, P.underlying t with
  | some i, some (.struct fs) =>
    match i.zero, placesOf P fs with
    | some z, some pl =>
      if flat z then
        match Instr.fill (pl[·]?) z.cells ps.toList with
        | some cs => some (.value (.agg cs), h, none)
        | none => none
      else none
    | _, _ => none
  | some i, some (.array _ e) =>
    match i.zero, P.info? e with
    | some z, some n =>
      if flat z then
        match Instr.fill (fun i => some (i * n.size, n.size)) z.cells ps.toList with
        | some cs => some (.value (.agg cs), h, none)
        | none => none
      else none
    | _, _ => none
  | _, _ => none
theorem build_ok {t : TypeId} {ps ps' : Array (Nat × Value)} (hp : PR s ps.toList ps'.toList) {r : Out} (hr : oBuild P t ps h = some r) : Okay0 P s h w (aval (Instr.build t ps')) r := by
  unfold oBuild at hr
  split at hr
  · rename_i i fs hi hu
    split at hr
    · rename_i z pl hz hpl
      split at hr
      · rename_i hf
        split at hr
        · rename_i cs hcs
          cases hr
          obtain ⟨cs', h1, h2⟩ := fill_ok (s := s) _ _ _ _ z.cells _ hp (VR.same hf).cells hcs
          refine okay0 (v' := .agg cs') ?_ (VR.agg (xs := cs.toList) (ys := cs'.toList) h2.1 h2.2)
          have h3 := pureRun_ok _ hpl w
          simp only [Instr.build, Sem.run_bind, run_zero hi hz, run_under hu, Result.andThen_ok, h3, h1, Sem.run_pure]
        · cases hr
      · cases hr
    · cases hr
  · rename_i i m e hi hu
    split at hr
    · rename_i z n hz hn
      split at hr
      · rename_i hf
        split at hr
        · rename_i cs hcs
          cases hr
          obtain ⟨cs', h1, h2⟩ := fill_ok (s := s) _ _ _ _ z.cells _ hp (VR.same hf).cells hcs
          refine okay0 (v' := .agg cs') ?_ (VR.agg (xs := cs.toList) (ys := cs'.toList) h2.1 h2.2)
          simp only [Instr.build, Sem.run_bind, run_zero hi hz, run_under hu, Result.andThen_ok, run_size hn, h1, Sem.run_pure]
        · cases hr
      · cases hr
    · cases hr
  · cases hr

/-- A literal's new row, or a made one's: its cells, its length, its capacity. -/
def repeatZ (z : Array Value) (n : Nat) : Array Value := ⟨(List.range n).map fun i => z.toList.getD (i % z.toList.length) default⟩
theorem repeatZ_eq (z : Array Value) (n : Nat) : (Array.range n).map (z[· % z.size]!) = repeatZ z n := by
  apply Array.toList_inj.1
  rw [Array.toList_map, Array.toList_range]
  unfold repeatZ
  refine List.map_congr_left fun i _ => ?_
  simp [Array.getElem!_eq_getD, Array.getD_eq_getD_getElem?]
def oRow (P : Program) (t : TypeId) (len : Nat) (ps : Array (Nat × Value)) : Option (List Value × Nat × Nat) :=
  match P.underlying t with
  | some (.slice e) =>
    match P.info? e with
    | some i =>
      if len * i.size ≤ 2 ^ 24 then
        if len * i.size = 0 then
          match Instr.fill (fun j => some (j * i.size, i.size)) #[] ps.toList with
          | some cs => some (cs.toList, len, len)
          | none => none
        else
          match i.zero with
          | some z =>
            if (repeatZ z.cells (len * i.size)).toList.all flat then
              match Instr.fill (fun j => some (j * i.size, i.size)) (repeatZ z.cells (len * i.size)) ps.toList with
              | some cs => some (cs.toList, len, len)
              | none => none
            else none
          | none => none
      else none
    | none => none
  | _ => none
theorem row_ok {t : TypeId} {len : Nat} {ps ps' : Array (Nat × Value)} (hp : PR s ps.toList ps'.toList) {cs : List Value} {l c : Nat} (hr : oRow P t len ps = some (cs, l, c)) (w : World) :
    ∃ (arr : Array Value) (T : TypeId), (Instr.buildSlice t len ps').run P w = .ok (.slice (some ⟨w.heap.size, 0, none⟩) l c) (w.alloc (.cells arr T)) ∧ LR s cs arr.toList := by
  unfold oRow at hr
  split at hr
  · rename_i e hu
    split at hr
    · rename_i i hi
      split at hr
      · rename_i hlim
        split at hr
        · rename_i hz0
          split at hr
          · rename_i r hf
            cases hr
            obtain ⟨r', h1, h2⟩ := fill_ok (s := s) _ _ _ _ #[] _ hp (LR.nil s) hf
            refine ⟨r', e, ?_, h2⟩
            simp only [Instr.buildSlice, Sem.run_bind, run_under hu, Result.andThen_ok, run_size hi]
            rw [if_neg (by omega)]
            have e0 : (Array.range 0).map (fun x => (#[] : Array Value)[x % (#[] : Array Value).size]!) = #[] := by simp
            simp only [hz0, if_true, Sem.run_bind, Sem.run_pure, Result.andThen_ok, e0, h1]
            rfl
          · cases hr
        · rename_i hz0
          split at hr
          · rename_i z hz
            split at hr
            · rename_i hfl
              split at hr
              · rename_i r hf
                cases hr
                obtain ⟨r', h1, h2⟩ := fill_ok (s := s) _ _ _ _ _ _ hp (LR.ofFlat hfl) hf
                refine ⟨r', e, ?_, h2⟩
                rw [← repeatZ_eq] at h1
                simp only [Instr.buildSlice, Sem.run_bind, run_under hu, Result.andThen_ok, run_size hi]
                rw [if_neg (by omega)]
                simp only [hz0, if_false, Sem.run_bind, run_zero hi hz, Sem.run_pure, Result.andThen_ok, h1]
                rfl
              · cases hr
            · cases hr
          · cases hr
      · cases hr
    · cases hr
  · cases hr
end
end Go.Proofs.YtchjneodjaakdaaGreat.Ex
end
