/-
  Runs that the kernel reckons, part 1: values and memory of a reckoned run, and how those of any run are told by them.
-/
import Derived.Test.YtafegjmaldbbiaaGrown
import Derived.StillTail
import Derived.Laws.IdiomCopy
namespace Go.Proofs.Ytafegjmaldbbiaa.Ex
open Go Go.RowKit

/-- New blocks behind, and draws: of what was there nothing turns. -/
def Gr (W w : World) : Prop := (w.os = W.os ∧ w.output = W.output) ∧ (∀ k, k < W.heap.size → w.heap[k]? = W.heap[k]?) ∧ W.heap.size ≤ w.heap.size
theorem Gr.refl (w : World) : Gr w w := ⟨⟨rfl, rfl⟩, fun _ _ => rfl, Nat.le_refl _⟩
theorem Gr.trans' {a b c : World} (h : Gr a b) (g : Gr b c) : Gr a c :=
  ⟨⟨g.1.1.trans h.1.1, g.1.2.trans h.1.2⟩, fun k hk => (g.2.1 k (Nat.lt_of_lt_of_le hk h.2.2)).trans (h.2.1 k hk), Nat.le_trans h.2.2 g.2.2⟩
theorem Gr.drew {a b : World} (h : Gr a b) : Gr a b.drew := h
theorem Gr.allocO {a b : World} (h : Gr a b) (o : Obj) : Gr a (b.alloc o) :=
  ⟨h.1, fun k hk => (Below.heap_alloc b o k (Nat.lt_of_lt_of_le hk h.2.2)).trans (h.2.1 k hk), Nat.le_trans h.2.2 (by simp)⟩
theorem Gr.alloc {a b : World} (h : Gr a b) (cs : Array Value) (T : TypeId) : Gr a (b.alloc (.cells cs T)) := h.allocO _
theorem Gr.setCell {a b : World} (h : Gr a b) {p : Addr} (hp : a.heap.size ≤ p.block) (v : Value) : Gr a (b.setCell p v) :=
  ⟨h.1, fun k hk => (Below.heap_setCell b p v k (by omega)).trans (h.2.1 k hk), by simpa [World.setCell] using h.2.2⟩
theorem gr_cell {W w : World} (g : Gr W w) {a : Addr} (hb : a.block < W.heap.size) : w.cell? a = W.cell? a := World.cell?_of_block (w := W) (g.2.1 _ hb)
theorem gr_frozen {W w : World} (g : Gr W w) {a : Addr} (hb : a.block < W.heap.size) : w.frozen? a = W.frozen? a := World.frozen?_of_block (w := W) (g.2.1 _ hb)
theorem gr_shape {W w : World} (g : Gr W w) {b : Nat} (hb : b < W.heap.size) {x : Option (TypeId × Nat)} (h : W.shape? b = x) : w.shape? b = x := by
  rw [← h]; unfold World.shape?; rw [g.2.1 b hb]
theorem Gr.of_grown {W w : World} (h : Grown W w) : Gr W w := ⟨⟨h.1.1, h.1.2.1⟩, fun _ hk => grown_block h hk, h.2.2⟩

/-! Values that hold no address. -/
def scal : Value → Bool
  | .bool _ => true
  | .int _ _ => true
  | .float _ _ => true
  | .complex _ _ _ => true
  | .string _ => true
  | .pointer none => true
  | .slice none _ _ => true
  | .map none => true
  | .chan none => true
  | .nilFunc => true
  | .nilIface => true
  | .func (.func _) a b => a.toList.isEmpty && b.toList.isEmpty
  | _ => false
def flat1 : Value → Bool
  | .agg cs => cs.toList.all scal
  | v => scal v
def flat : Value → Bool
  | .tuple vs => vs.toList.all flat1
  | .iface _ v => flat1 v
  | v => flat1 v
theorem flat1_of_scal {v : Value} (h : scal v = true) : flat1 v = true := by
  cases v <;> first | exact h | simp [scal] at h
theorem flat_of_flat1 {v : Value} (h : flat1 v = true) : flat v = true := by
  cases v <;> first | exact h | simp [flat1, scal] at h
theorem flat_of_scal {v : Value} (h : scal v = true) : flat v = true := flat_of_flat1 (flat1_of_scal h)

/-! Where a reckoned block lies: its block, its first cell there, how many cells that block has; and of which size the elements are of slices of it whose capacity is not known. -/
structure Pl where
  blk : Nat
  off : Nat
  tot : Nat
  es : Option Nat
abbrev Ren := Nat → Option Pl
def Le (s t : Ren) : Prop := ∀ i p, s i = some p → t i = some p
theorem Le.refl (s : Ren) : Le s s := fun _ _ h => h
theorem Le.trans {a b c : Ren} (h1 : Le a b) (h2 : Le b c) : Le a c := fun i p h => h2 i p (h1 i p h)

def CapOk (p : Pl) (off l c c' : Nat) : Prop :=
  match p.es with
  | none => c' = c
  | some e => 0 < e ∧ p.off + off + c' * e = p.tot ∧ l ≤ c'

inductive VR (s : Ren) : Value → Value → Prop
  | same {v : Value} (h : flat v = true) : VR s v v
  | ptr {a : Addr} {p : Pl} (hs : a.spot = none) (hp : s a.block = some p) : VR s (.pointer (some a)) (.pointer (some ⟨p.blk, p.off + a.off, none⟩))
  | slice {a : Addr} {l c c' : Nat} {p : Pl} (hs : a.spot = none) (hp : s a.block = some p) (hc : CapOk p a.off l c c') :
      VR s (.slice (some a) l c) (.slice (some ⟨p.blk, p.off + a.off, none⟩) l c')
  | agg {xs ys : List Value} (hl : xs.length = ys.length) (h : ∀ (i : Nat) (x y : Value), xs[i]? = some x → ys[i]? = some y → VR s x y) : VR s (.agg ⟨xs⟩) (.agg ⟨ys⟩)
  | tuple {xs ys : List Value} (hl : xs.length = ys.length) (h : ∀ (i : Nat) (x y : Value), xs[i]? = some x → ys[i]? = some y → VR s x y) : VR s (.tuple ⟨xs⟩) (.tuple ⟨ys⟩)
  | func {f : FuncId} {xs ys us vs : List Value} (hl : xs.length = ys.length) (h : ∀ (i : Nat) (x y : Value), xs[i]? = some x → ys[i]? = some y → VR s x y)
      (hl' : us.length = vs.length) (h' : ∀ (i : Nat) (x y : Value), us[i]? = some x → vs[i]? = some y → VR s x y) : VR s (.func (.func f) ⟨xs⟩ ⟨us⟩) (.func (.func f) ⟨ys⟩ ⟨vs⟩)
  | iface {t : TypeId} {x y : Value} (h : VR s x y) : VR s (.iface t x) (.iface t y)
  | map {i : Nat} {p : Pl} (hp : s i = some p) : VR s (.map (some i)) (.map (some p.blk))

def LR (s : Ren) (xs ys : List Value) : Prop := xs.length = ys.length ∧ ∀ (i : Nat) (x y : Value), xs[i]? = some x → ys[i]? = some y → VR s x y

theorem list_eq {xs ys : List Value} (hl : xs.length = ys.length) (h : ∀ (i : Nat) (x y : Value), xs[i]? = some x → ys[i]? = some y → y = x) : ys = xs := by
  apply List.ext_getElem hl.symm
  intro i h1 h2
  exact h i _ _ (List.getElem?_eq_getElem h2) (List.getElem?_eq_getElem h1)
theorem all_get {p : Value → Bool} {xs : List Value} (h : xs.all p = true) {i : Nat} {x : Value} (hx : xs[i]? = some x) : p x = true :=
  List.all_eq_true.1 h x (List.mem_of_getElem? hx)

theorem VR.eq_of_flat {s : Ren} {v v' : Value} (h : VR s v v') : flat v = true → v' = v := by
  induction h with
  | same _ => exact fun _ => rfl
  | ptr _ _ => intro h; simp [Ex.flat, flat1, scal] at h
  | slice _ _ _ => intro h; simp [Ex.flat, flat1, scal] at h
  | agg hl _ ih =>
    intro h
    rw [list_eq hl fun i x y hx hy => ih i x y hx hy (flat_of_scal (all_get (by simpa [Ex.flat, flat1] using h) hx))]
  | tuple hl _ ih =>
    intro h
    rw [list_eq hl fun i x y hx hy => ih i x y hx hy (flat_of_flat1 (all_get (by simpa [Ex.flat] using h) hx))]
  | func hl _ hl' _ _ _ =>
    intro h
    simp [Ex.flat, flat1, scal] at h
    obtain ⟨rfl, rfl⟩ := h
    rw [List.length_eq_zero_iff.1 hl.symm, List.length_eq_zero_iff.1 hl'.symm]
  | iface _ ih => 
    intro h
    rw [ih (flat_of_flat1 (by simpa [Ex.flat] using h))]
  | map _ => intro h; simp [Ex.flat, flat1, scal] at h

theorem VR.mono {s t : Ren} (hle : Le s t) {v v' : Value} (h : VR s v v') : VR t v v' := by
  induction h with
  | same h => exact .same h
  | ptr hs hp => exact .ptr hs (hle _ _ hp)
  | slice hs hp hc => exact .slice hs (hle _ _ hp) hc
  | agg hl _ ih => exact .agg hl ih
  | tuple hl _ ih => exact .tuple hl ih
  | func hl _ hl' _ ih ih' => exact .func hl ih hl' ih'
  | iface _ ih => exact .iface ih
  | map hp => exact .map (hle _ _ hp)
theorem LR.mono {s t : Ren} (hle : Le s t) {xs ys : List Value} (h : LR s xs ys) : LR t xs ys := ⟨h.1, fun i x y hx hy => (h.2 i x y hx hy).mono hle⟩

theorem LR.nil (s : Ren) : LR s [] [] := ⟨rfl, fun _ _ _ h => by simp at h⟩
theorem LR.cons {s : Ren} {x y : Value} {xs ys : List Value} (h : VR s x y) (hs : LR s xs ys) : LR s (x :: xs) (y :: ys) := by
  refine ⟨by simp [hs.1], fun i a b ha hb => ?_⟩
  cases i with
  | zero => simp at ha hb; subst ha hb; exact h
  | succ i => exact hs.2 i a b (by simpa using ha) (by simpa using hb)
theorem LR.get {s : Ren} {xs ys : List Value} (h : LR s xs ys) {i : Nat} {x : Value} (hx : xs[i]? = some x) : ∃ y, ys[i]? = some y ∧ VR s x y := by
  have hi : i < xs.length := (List.getElem?_eq_some_iff.1 hx).1
  have hi' : i < ys.length := h.1 ▸ hi
  exact ⟨ys[i], List.getElem?_eq_getElem hi', h.2 i x _ hx (List.getElem?_eq_getElem hi')⟩
theorem LR.get' {s : Ren} {xs ys : List Value} (h : LR s xs ys) {i : Nat} {y : Value} (hy : ys[i]? = some y) : ∃ x, xs[i]? = some x ∧ VR s x y := by
  have hi' : i < ys.length := (List.getElem?_eq_some_iff.1 hy).1
  have hi : i < xs.length := by rw [h.1]; exact hi'
  exact ⟨xs[i], List.getElem?_eq_getElem hi, h.2 i _ y (List.getElem?_eq_getElem hi) hy⟩
theorem LR.uncons {s : Ren} {x y : Value} {xs ys : List Value} (h : LR s (x :: xs) (y :: ys)) : VR s x y ∧ LR s xs ys :=
  ⟨h.2 0 x y rfl rfl, by have := h.1; simpa using this, fun i a b ha hb => h.2 (i + 1) a b (by simpa using ha) (by simpa using hb)⟩
theorem LR.append {s : Ren} {xs ys us vs : List Value} (h : LR s xs ys) (h' : LR s us vs) : LR s (xs ++ us) (ys ++ vs) := by
  refine ⟨by simp [h.1, h'.1], fun i a b ha hb => ?_⟩
  by_cases hi : i < xs.length
  · rw [List.getElem?_append_left hi] at ha
    rw [List.getElem?_append_left (h.1 ▸ hi)] at hb
    exact h.2 i a b ha hb
  · rw [List.getElem?_append_right (by omega)] at ha
    rw [List.getElem?_append_right (by have := h.1; omega)] at hb
    rw [← h.1] at hb
    exact h'.2 _ a b ha hb
theorem LR.take {s : Ren} {xs ys : List Value} (h : LR s xs ys) (n : Nat) : LR s (xs.take n) (ys.take n) := by
  refine ⟨by simp [h.1], fun i a b ha hb => ?_⟩
  rw [List.getElem?_take] at ha hb
  by_cases hi : i < n
  · rw [if_pos hi] at ha hb
    exact h.2 i a b ha hb
  · rw [if_neg hi] at ha
    cases ha
theorem LR.drop {s : Ren} {xs ys : List Value} (h : LR s xs ys) (n : Nat) : LR s (xs.drop n) (ys.drop n) := by
  refine ⟨by simp [h.1], fun i a b ha hb => ?_⟩
  rw [List.getElem?_drop] at ha hb
  exact h.2 _ a b ha hb
theorem LR.set {s : Ren} {xs ys : List Value} (h : LR s xs ys) {x y : Value} (hv : VR s x y) (n : Nat) : LR s (xs.set n x) (ys.set n y) := by
  refine ⟨by simp [h.1], fun i a b ha hb => ?_⟩
  rw [List.getElem?_set] at ha hb
  by_cases e : n = i
  · subst e
    rw [if_pos rfl] at ha hb
    split at ha
    · split at hb
      · cases ha; cases hb; exact hv
      · simp at hb
    · simp at ha
  · rw [if_neg e] at ha hb
    exact h.2 i a b ha hb
theorem LR.ofFlat {s : Ren} {xs : List Value} (h : xs.all Ex.flat = true) : LR s xs xs := by
  refine ⟨rfl, fun i a b ha hb => ?_⟩
  rw [ha] at hb
  cases hb
  exact .same (all_get h ha)
theorem LR.eq_of_flat {s : Ren} {xs ys : List Value} (h : LR s xs ys) (hf : xs.all Ex.flat = true) : ys = xs :=
  list_eq h.1 fun i x y hx hy => (h.2 i x y hx hy).eq_of_flat (all_get hf hx)
theorem LR.getD {s : Ren} {xs ys : List Value} (h : LR s xs ys) (i : Nat) {d : Value} (hd : Ex.flat d = true) : VR s (xs.getD i d) (ys.getD i d) := by
  cases hx : xs[i]? with
  | none =>
    have hy : ys[i]? = none := by
      rw [List.getElem?_eq_none_iff] at hx ⊢
      rw [← h.1]; exact hx
    simp [List.getD, hx, hy]
    exact .same hd
  | some x =>
    obtain ⟨y, hy, hv⟩ := h.get hx
    simp [List.getD, hx, hy]
    exact hv

/-! What a value of a form is told by. -/
theorem VR.agg_inv {s : Ren} {xs : List Value} {v' : Value} (h : VR s (.agg ⟨xs⟩) v') : ∃ ys, v' = .agg ⟨ys⟩ ∧ LR s xs ys := by
  generalize e : Value.agg ⟨xs⟩ = v at h
  cases h with
  | same hf =>
    subst e
    refine ⟨xs, rfl, LR.ofFlat ?_⟩
    have : xs.all scal = true := by simpa [Ex.flat, flat1] using hf
    exact List.all_eq_true.2 fun x hx => flat_of_scal (List.all_eq_true.1 this x hx)
  | agg hl hh => cases e; exact ⟨_, rfl, hl, hh⟩
  | _ => cases e
theorem VR.tuple_inv {s : Ren} {xs : List Value} {v' : Value} (h : VR s (.tuple ⟨xs⟩) v') : ∃ ys, v' = .tuple ⟨ys⟩ ∧ LR s xs ys := by
  generalize e : Value.tuple ⟨xs⟩ = v at h
  cases h with
  | same hf =>
    subst e
    refine ⟨xs, rfl, LR.ofFlat ?_⟩
    have : xs.all flat1 = true := by simpa [Ex.flat] using hf
    exact List.all_eq_true.2 fun x hx => flat_of_flat1 (List.all_eq_true.1 this x hx)
  | tuple hl hh => cases e; exact ⟨_, rfl, hl, hh⟩
  | _ => cases e
theorem VR.ptr_inv {s : Ren} {a : Addr} {v' : Value} (h : VR s (.pointer (some a)) v') : ∃ p, a.spot = none ∧ s a.block = some p ∧ v' = .pointer (some ⟨p.blk, p.off + a.off, none⟩) := by
  generalize e : Value.pointer (some a) = v at h
  cases h with
  | same hf => subst e; simp [Ex.flat, flat1, scal] at hf
  | ptr hs hp => cases e; exact ⟨_, hs, hp, rfl⟩
  | _ => cases e
theorem VR.slice_inv {s : Ren} {a : Addr} {l c : Nat} {v' : Value} (h : VR s (.slice (some a) l c) v') :
    ∃ p c', a.spot = none ∧ s a.block = some p ∧ CapOk p a.off l c c' ∧ v' = .slice (some ⟨p.blk, p.off + a.off, none⟩) l c' := by
  generalize e : Value.slice (some a) l c = v at h
  cases h with
  | same hf => subst e; simp [Ex.flat, flat1, scal] at hf
  | slice hs hp hc => cases e; exact ⟨_, _, hs, hp, hc, rfl⟩
  | _ => cases e
theorem VR.bool_inv {s : Ren} {b : Bool} {v' : Value} (h : VR s (.bool b) v') : v' = .bool b := h.eq_of_flat rfl
theorem VR.int_inv {s : Ren} {k : IntKind} {n : Int} {v' : Value} (h : VR s (.int k n) v') : v' = .int k n := h.eq_of_flat rfl
theorem VR.string_inv {s : Ren} {b : ByteArray} {v' : Value} (h : VR s (.string b) v') : v' = .string b := h.eq_of_flat rfl
theorem VR.func_inv {s : Ren} {f : FuncId} {xs us : List Value} {v' : Value} (h : VR s (.func (.func f) ⟨xs⟩ ⟨us⟩) v') : ∃ ys vs, v' = .func (.func f) ⟨ys⟩ ⟨vs⟩ ∧ LR s xs ys ∧ LR s us vs := by
  generalize e : Value.func (.func f) ⟨xs⟩ ⟨us⟩ = v at h
  cases h with
  | same hf =>
    subst e
    simp [Ex.flat, flat1, scal] at hf
    obtain ⟨rfl, rfl⟩ := hf
    exact ⟨[], [], rfl, LR.nil s, LR.nil s⟩
  | func hl hh hl' hh' => cases e; exact ⟨_, _, rfl, ⟨hl, hh⟩, ⟨hl', hh'⟩⟩
  | _ => cases e
theorem VR.cells {s : Ren} {v v' : Value} (h : VR s v v') : LR s v.cells.toList v'.cells.toList := by
  cases v with
  | agg cs =>
    obtain ⟨xs⟩ := cs
    obtain ⟨ys, rfl, hl⟩ := h.agg_inv
    exact hl
  | _ =>
    have e : ∀ u : Value, (∀ cs, u ≠ .agg cs) → u.cells.toList = [u] := by
      intro u hu
      cases u <;> first | rfl | exact absurd rfl (hu _)
    rw [e _ (by intro cs h; cases h), e v' (by intro cs he; subst he; cases h)]
    exact LR.cons h (LR.nil s)
theorem VR.one {s : Ren} {v v' : Value} (h : VR s v v') (ho : v.oneCell' = true) : v'.oneCell' = true := by
  cases h with
  | agg _ _ => simp [Value.oneCell'] at ho
  | tuple _ _ => simp [Value.oneCell'] at ho
  | same _ => exact ho
  | _ => rfl
theorem VR.iface_inv {s : Ren} {t : TypeId} {x v' : Value} (h : VR s (.iface t x) v') : ∃ y, v' = .iface t y ∧ (VR s x y) := by
  generalize e : Value.iface t x = v at h
  cases h with
  | same hf => subst e; exact ⟨x, rfl, .same (flat_of_flat1 (by simpa [Ex.flat] using hf))⟩
  | iface h => cases e; exact ⟨_, rfl, h⟩
  | _ => cases e
theorem VR.map_inv {s : Ren} {i : Nat} {v' : Value} (h : VR s (.map (some i)) v') : ∃ p, s i = some p ∧ v' = .map (some p.blk) := by
  generalize e : Value.map (some i) = v at h
  cases h with
  | same hf => subst e; simp [Ex.flat, flat1, scal] at hf
  | map hp => cases e; exact ⟨_, hp, rfl⟩
  | _ => cases e
theorem CapOk.det {p : Pl} {off l c a b : Nat} (h1 : CapOk p off l c a) (h2 : CapOk p off l c b) : a = b := by
  unfold CapOk at h1 h2
  cases he : p.es with
  | none => rw [he] at h1 h2; rw [h1, h2]
  | some e =>
    rw [he] at h1 h2
    simp only at h1 h2
    have : a * e = b * e := by omega
    exact Nat.eq_of_mul_eq_mul_right h1.1 this
/-- A told value is just one. -/
theorem VR.det {s : Ren} {v a b : Value} (h : VR s v a) : VR s v b → a = b := by
  induction h generalizing b with
  | same hf => exact fun h => (h.eq_of_flat hf).symm
  | ptr hs hp =>
    intro h
    obtain ⟨q, _, hq, rfl⟩ := h.ptr_inv
    rw [hp] at hq
    cases hq
    rfl
  | slice hs hp hc =>
    intro h
    obtain ⟨q, c', _, hq, hc', rfl⟩ := h.slice_inv
    rw [hp] at hq
    cases hq
    rw [hc.det hc']
  | @agg xs0 ys0 hl hh ih =>
    intro h
    obtain ⟨ys, rfl, hl'⟩ := h.agg_inv
    rw [list_eq (xs := ys) (ys := ys0) (by rw [← hl, ← hl'.1]) fun i x y hx hy => by
      obtain ⟨u, hu, hux⟩ := hl'.get' hx
      exact ih i u y hu hy hux]
  | @tuple xs0 ys0 hl hh ih =>
    intro h
    obtain ⟨ys, rfl, hl'⟩ := h.tuple_inv
    rw [list_eq (xs := ys) (ys := ys0) (by rw [← hl, ← hl'.1]) fun i x y hx hy => by
      obtain ⟨u, hu, hux⟩ := hl'.get' hx
      exact ih i u y hu hy hux]
  | @func f xs0 ys0 us0 vs0 hl hh hl' hh' ih ih' =>
    intro h
    obtain ⟨ys, vs, rfl, g1, g2⟩ := h.func_inv
    rw [list_eq (xs := ys) (ys := ys0) (by rw [← hl, ← g1.1]) fun i x y hx hy => by
      obtain ⟨u, hu, hux⟩ := g1.get' hx
      exact ih i u y hu hy hux]
    rw [list_eq (xs := vs) (ys := vs0) (by rw [← hl', ← g2.1]) fun i x y hx hy => by
      obtain ⟨u, hu, hux⟩ := g2.get' hx
      exact ih' i u y hu hy hux]
  | iface h ih =>
    intro h
    obtain ⟨y, rfl, hy⟩ := h.iface_inv
    rw [ih hy]
  | map hp =>
    intro h
    obtain ⟨q, hq, rfl⟩ := h.map_inv
    rw [hp] at hq
    cases hq
    rfl
end Go.Proofs.Ytafegjmaldbbiaa.Ex
