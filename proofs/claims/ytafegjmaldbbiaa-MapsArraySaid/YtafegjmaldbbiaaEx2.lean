/-
  Runs that the kernel reckons, part 2: memory: what is laid new, read, written, and given up.
-/
import Derived.Test.YtafegjmaldbbiaaEx1
import Derived.Laws.IdiomStrings
namespace Go.Proofs.Ytafegjmaldbbiaa.Ex
open Go Go.RowKit

/-- A block of a reckoned run: is it still used; of which size its slices' elements are, if their capacity is not known; its cells. -/
structure AO where
  live : Bool
  es : Option Nat
  cs : List Value

def dead : AO := ⟨false, none, []⟩

/-- The mark of a block that is a package's variable. -/
def GM : Nat := 1000000007
structure BlockAt (s : Ren) (p : Pl) (cs : List Value) (w : World) : Prop where
  fit : p.off + cs.length ≤ p.tot
  all : ∀ o, o < p.tot → (w.cell? ⟨p.blk, o, none⟩).isSome = true
  shp : ∃ T, w.shape? p.blk = some (T, p.tot)
  free : p.es ≠ some GM → ∀ o, p.off ≤ o → o < p.tot → (p.es = none → o < p.off + cs.length) → w.frozen? ⟨p.blk, o, none⟩ = false
  rel : ∀ (o : Nat) (v : Value), cs[o]? = some v → ∃ v', w.cell? ⟨p.blk, p.off + o, none⟩ = some v' ∧ VR s v v'

/-- A map's entries: one value each, key and element. -/
def keyOf (x : Value) : Value :=
  match x with
  | .tuple vs => vs.toList.getD 0 undef
  | _ => undef
def valOf (x : Value) : Value :=
  match x with
  | .tuple vs => vs.toList.getD 1 undef
  | _ => undef
def ents : Nat → List Value → List MapEntry
  | _, [] => []
  | n, x :: r => ⟨keyOf x, valOf x, n⟩ :: ents (n + 1) r
def MapAt (s : Ren) (p : Pl) (cs : List Value) (w : World) : Prop :=
  ∃ cs', LR s cs cs' ∧ w.heap[p.blk]? = some (.map ⟨ents 0 cs'⟩ cs'.length)
/-- A block of which the size of its slices' elements is 0 is a map. -/
def isM (o : AO) : Bool :=
  match o.es with
  | some e => Nat.beq e 0
  | none => false
def isW (o : AO) : Bool :=
  match o.es with
  | some e => !(Nat.beq e 0) && !(Nat.beq e GM)
  | none => true
def ObjAt (s : Ren) (p : Pl) (o : AO) (w : World) : Prop := (isM o = true → MapAt s p o.cs w) ∧ (isM o = false → BlockAt s p o.cs w)
theorem isW_spec {o : AO} (h : isW o = true) : isM o = false ∧ o.es ≠ some GM := by
  unfold isW at h
  unfold isM
  split at h
  · rename_i e he
    simp only [he, Bool.and_eq_true, Bool.not_eq_true'] at h ⊢
    refine ⟨h.1, fun hg => ?_⟩
    cases hg
    have := h.2
    simp at this
  · rename_i he
    simp [he]

/-- A world to go by, and which of its blocks may be written all the same. -/
structure Wb where
  w : World
  x : Nat → Prop
instance : Coe World Wb := ⟨fun w => ⟨w, fun _ => False⟩⟩
def GrB (b : Wb) (w : World) : Prop := (w.os = b.w.os ∧ w.output = b.w.output) ∧ (∀ k, k < b.w.heap.size → ¬b.x k → w.heap[k]? = b.w.heap[k]?) ∧ b.w.heap.size ≤ w.heap.size
theorem GrB.trans {b : Wb} {v w : World} (h : GrB b v) (g : Gr v w) : GrB b w :=
  ⟨⟨g.1.1.trans h.1.1, g.1.2.trans h.1.2⟩, fun k hk hx => (g.2.1 k (Nat.lt_of_lt_of_le hk h.2.2)).trans (h.2.1 k hk hx), Nat.le_trans h.2.2 g.2.2⟩
theorem GrB.gr {w w' : World} (h : GrB (w : Wb) w') : Gr w w' := ⟨h.1, fun k hk => h.2.1 k hk (fun f => f), h.2.2⟩
theorem GrB.refl (w : World) (x : Nat → Prop) : GrB ⟨w, x⟩ w := ⟨⟨rfl, rfl⟩, fun _ _ _ => rfl, Nat.le_refl _⟩
theorem GrB.setCell {a : Wb} {b : World} (h : GrB a b) {p : Addr} (hp : a.w.heap.size ≤ p.block ∨ a.x p.block) (v : Value) : GrB a (b.setCell p v) :=
  ⟨h.1, fun k hk hx => (Below.heap_setCell b p v k (by
    intro e
    subst e
    rcases hp with hp | hp
    · omega
    · exact hx hp)).trans (h.2.1 k hk hx), by simpa [World.setCell] using h.2.2⟩
structure HR (wb : Wb) (k : Nat) (s : Ren) (h : List AO) (w : World) : Prop where
  grown : GrB wb w
  kle : k ≤ h.length
  dom : ∀ i, h.length ≤ i → s i = none
  plc : ∀ i p, s i = some p → (i < k → p.blk < wb.w.heap.size ∧ ¬wb.x p.blk) ∧ (k ≤ i → wb.w.heap.size ≤ p.blk ∨ wb.x p.blk) ∧ p.blk < w.heap.size
  obj : ∀ (i : Nat) (o : AO), h[i]? = some o → o.live = true → ∃ p, s i = some p ∧ p.es = o.es ∧ ObjAt s p o w
  sep : ∀ (i j : Nat) (a b : AO) (p q : Pl), h[i]? = some a → h[j]? = some b → a.live = true → b.live = true → s i = some p → s j = some q → p.blk = q.blk → i = j
  gl : ∀ g p, s g = some p → p.es = some GM → p.blk = g ∧ p.off = 0

/-- What is read of it. -/
def MR (s : Ren) (h : List AO) (w : World) : Prop := ∀ (i : Nat) (o : AO), h[i]? = some o → o.live = true → ∃ p, s i = some p ∧ p.es = o.es ∧ ObjAt s p o w
theorem HR.mr {wb : Wb} {k : Nat} {s : Ren} {h : List AO} {w : World} (H : HR wb k s h w) : MR s h w := H.obj

theorem BlockAt.mono {s t : Ren} (hle : Le s t) {p : Pl} {cs : List Value} {w : World} (h : BlockAt s p cs w) : BlockAt t p cs w :=
  ⟨h.fit, h.all, h.shp, h.free, fun o v hv => let ⟨v', h1, h2⟩ := h.rel o v hv; ⟨v', h1, h2.mono hle⟩⟩
theorem BlockAt.heap {s : Ren} {p : Pl} {cs : List Value} {w w' : World} (h : BlockAt s p cs w) (hh : w'.heap[p.blk]? = w.heap[p.blk]?) : BlockAt s p cs w' where
  fit := h.fit
  all := fun o ho => by rw [World.cell?_of_block (w := w) (a := ⟨p.blk, o, none⟩) hh]; exact h.all o ho
  shp := let ⟨T, hT⟩ := h.shp; ⟨T, by rw [← hT]; unfold World.shape?; rw [hh]⟩
  free := fun hg o h1 h2 h3 => by rw [World.frozen?_of_block (w := w) (a := ⟨p.blk, o, none⟩) hh]; exact h.free hg o h1 h2 h3
  rel := fun o v hv => let ⟨v', h1, h2⟩ := h.rel o v hv; ⟨v', by rw [World.cell?_of_block (w := w) (a := ⟨p.blk, p.off + o, none⟩) hh]; exact h1, h2⟩
theorem ObjAt.heap {s : Ren} {p : Pl} {o : AO} {w w' : World} (h : ObjAt s p o w) (hh : w'.heap[p.blk]? = w.heap[p.blk]?) : ObjAt s p o w' :=
  ⟨fun hm => let ⟨cs', h1, h2⟩ := h.1 hm; ⟨cs', h1, hh.trans h2⟩, fun hm => (h.2 hm).heap hh⟩
theorem ObjAt.mono {s t : Ren} (hle : Le s t) {p : Pl} {o : AO} {w : World} (h : ObjAt s p o w) : ObjAt t p o w :=
  ⟨fun hm => let ⟨cs', h1, h2⟩ := h.1 hm; ⟨cs', h1.mono hle, h2⟩, fun hm => (h.2 hm).mono hle⟩
theorem ObjAt.grown {s : Ren} {p : Pl} {o : AO} {w w' : World} (h : ObjAt s p o w) (hb : p.blk < w.heap.size) (g : Gr w w') : ObjAt s p o w' := h.heap (g.2.1 _ hb)
theorem ObjAt.block {s : Ren} {p : Pl} {o : AO} {w : World} (hm : isM o = false) (h : BlockAt s p o.cs w) : ObjAt s p o w := ⟨fun e => (by rw [hm] at e; cases e), fun _ => h⟩

theorem HR.grow {wb : Wb} {k : Nat} {s : Ren} {h : List AO} {w w' : World} (H : HR wb k s h w) (g : Gr w w') : HR wb k s h w' where
  grown := GrB.trans H.grown g
  kle := H.kle
  dom := H.dom
  plc := fun i p hp => let ⟨a, b, c⟩ := H.plc i p hp; ⟨a, b, Nat.lt_of_lt_of_le c g.2.2⟩
  obj := fun i o ho hl => let ⟨p, hp, he, hb⟩ := H.obj i o ho hl; ⟨p, hp, he, hb.grown (H.plc i p hp).2.2 g⟩
  sep := H.sep
  gl := H.gl
theorem HR.drew {wb : Wb} {k : Nat} {s : Ren} {h : List AO} {w : World} (H : HR wb k s h w) : HR wb k s h w.drew := H.grow (Gr.drew (Gr.refl w))
/-- The same memory, told from here on: nothing that is there is written. -/
theorem HR.here {wb : Wb} {k : Nat} {s : Ren} {h : List AO} {w : World} (H : HR wb k s h w) : HR w h.length s h w where
  grown := GrB.refl w _
  kle := Nat.le_refl _
  dom := H.dom
  plc := fun i p hp => ⟨fun _ => ⟨(H.plc i p hp).2.2, fun f => f⟩, fun hi => (by rw [H.dom i hi] at hp; cases hp), (H.plc i p hp).2.2⟩
  obj := H.obj
  sep := H.sep
  gl := H.gl
theorem HR.above {w0 : World} {k : Nat} {s : Ren} {h : List AO} {w : World} (H : HR w0 k s h w) {i : Nat} {p : Pl} (hp : s i = some p) (hk : k ≤ i) : w0.heap.size ≤ p.blk :=
  ((H.plc i p hp).2.1 hk).elim (fun h => h) (fun f => f.elim)
theorem HR.init (w : World) : HR w 0 (fun _ => none) [] w where
  grown := GrB.refl w _
  kle := Nat.le_refl _
  dom := fun _ _ => rfl
  plc := fun i p hp => by cases hp
  obj := fun i o ho => by simp at ho
  sep := fun i j a b p q hi => by simp at hi
  gl := fun g p hp => by cases hp

def upd (s : Ren) (i : Nat) (p : Pl) : Ren := fun j => if j = i then some p else s j
theorem upd_same (s : Ren) (i : Nat) (p : Pl) : upd s i p i = some p := by simp [upd]
theorem upd_other (s : Ren) {i j : Nat} (p : Pl) (h : j ≠ i) : upd s i p j = s j := by simp [upd, h]
theorem Le.upd {s : Ren} {i : Nat} (p : Pl) (h : s i = none) : Le s (upd s i p) := fun j q hq => by
  by_cases e : j = i
  · subst e; rw [h] at hq; cases hq
  · rw [upd_other s p e]; exact hq

/-- A new block, whatever it is. -/
theorem HR.newO {wb : Wb} {k : Nat} {s : Ren} {h : List AO} {w : World} (H : HR wb k s h w) (ao : AO) (ob : Obj) (tot : Nat) (hes : ao.es ≠ some GM)
    (hob : ObjAt (upd s h.length ⟨w.heap.size, 0, tot, ao.es⟩) ⟨w.heap.size, 0, tot, ao.es⟩ ao (w.alloc ob)) :
    HR wb k (upd s h.length ⟨w.heap.size, 0, tot, ao.es⟩) (h ++ [ao]) (w.alloc ob) ∧ Le s (upd s h.length ⟨w.heap.size, 0, tot, ao.es⟩) := by
  have hle := Le.upd (s := s) (i := h.length) ⟨w.heap.size, 0, tot, ao.es⟩ (H.dom _ (Nat.le_refl _))
  have g : Gr w (w.alloc ob) := (Gr.refl w).allocO _
  have hwb : wb.w.heap.size ≤ w.heap.size := H.grown.2.2
  refine ⟨⟨GrB.trans H.grown g, by simp; have := H.kle; omega, fun i hi => ?_, fun i p hp => ?_, fun i o ho hl => ?_, fun i j a b p q hi hj ha hb hp hq e => ?_, fun i p hp hg => ?_⟩, hle⟩
  · simp at hi
    rw [upd_other _ _ (by omega)]
    exact H.dom i (by omega)
  · by_cases e : i = h.length
    · subst e
      rw [upd_same] at hp
      cases hp
      exact ⟨fun hk => absurd H.kle (by omega), fun _ => .inl hwb, by simp⟩
    · rw [upd_other _ _ e] at hp
      obtain ⟨a, b, c⟩ := H.plc i p hp
      exact ⟨a, b, by simp; omega⟩
  · by_cases e : i = h.length
    · subst e
      simp at ho
      subst ho
      exact ⟨_, upd_same _ _ _, rfl, hob⟩
    · have hi : i < h.length := by
        have := (List.getElem?_eq_some_iff.1 ho).1
        simp at this; omega
      rw [List.getElem?_append_left hi] at ho
      obtain ⟨p, hp, he, hb⟩ := H.obj i o ho hl
      exact ⟨p, by rw [upd_other _ _ e]; exact hp, he, (hb.grown (H.plc i p hp).2.2 g).mono hle⟩
  · have old : ∀ (i : Nat) (a : AO) (p : Pl), i ≠ h.length → (h ++ [ao])[i]? = some a → upd s h.length ⟨w.heap.size, 0, tot, ao.es⟩ i = some p → h[i]? = some a ∧ s i = some p ∧ p.blk < w.heap.size := by
      intro i a p e ho hp
      have hi : i < h.length := by
        have := (List.getElem?_eq_some_iff.1 ho).1
        simp at this; omega
      rw [List.getElem?_append_left hi] at ho
      rw [upd_other _ _ e] at hp
      exact ⟨ho, hp, (H.plc i p hp).2.2⟩
    by_cases ei : i = h.length
    · by_cases ej : j = h.length
      · omega
      · subst ei
        rw [upd_same] at hp
        cases hp
        obtain ⟨_, _, h3⟩ := old j b q ej hj hq
        simp at e
        omega
    · obtain ⟨h1, h2, h3⟩ := old i a p ei hi hp
      by_cases ej : j = h.length
      · subst ej
        rw [upd_same] at hq
        cases hq
        simp at e
        omega
      · obtain ⟨h4, h5, _⟩ := old j b q ej hj hq
        exact H.sep i j a b p q h1 h4 ha hb h2 h5 e
  · by_cases e : i = h.length
    · subst e
      rw [upd_same] at hp
      cases hp
      exact absurd hg hes
    · rw [upd_other _ _ e] at hp
      exact H.gl i p hp hg
/-- A new block, of which no cell that there is is frozen. -/
theorem HR.newF {wb : Wb} {k : Nat} {s : Ren} {h : List AO} {w : World} (H : HR wb k s h w) (cs : List Value) (arr : Array Value) (T : TypeId) (es : Option Nat) (hes : isW ⟨true, es, cs⟩ = true) (fz : Nat × Nat) (hfz : ∀ o, o < arr.size → ¬ (fz.1 ≤ o ∧ o < fz.2))
    (hn : cs.length ≤ arr.size) (hr : ∀ (o : Nat) (v : Value), cs[o]? = some v → ∃ v', arr[o]? = some v' ∧ VR s v v') :
    HR wb k (upd s h.length ⟨w.heap.size, 0, arr.size, es⟩) (h ++ [⟨true, es, cs⟩]) (w.alloc (.cells arr T fz)) ∧ Le s (upd s h.length ⟨w.heap.size, 0, arr.size, es⟩) := by
  have hle := Le.upd (s := s) (i := h.length) ⟨w.heap.size, 0, arr.size, es⟩ (H.dom _ (Nat.le_refl _))
  refine H.newO ⟨true, es, cs⟩ (.cells arr T fz) arr.size (isW_spec hes).2 (ObjAt.block (isW_spec hes).1 ⟨by simpa using hn, fun o ho => ?_, ⟨T, ?_⟩, fun _ o h1 h2 _ => ?_, fun o v hv => ?_⟩)
  · have ho' : o < arr.size := ho
    rw [World.cell?_alloc_mark]
    simpa using ho'
  · simp only [World.alloc, World.shape?, Array.getElem?_push_size]
  · rw [show (w.alloc (.cells arr T fz)) = w.alloc (.cells arr T (fz.1, fz.2)) from rfl, World.frozen?_alloc_mark]
    have := hfz o h2
    simp only [Bool.and_eq_false_imp, decide_eq_true_eq, decide_eq_false_iff_not]
    exact fun g1 g2 => this ⟨g1, g2⟩
  · obtain ⟨v', h1, h2⟩ := hr o v hv
    exact ⟨v', by rw [World.cell?_alloc_mark]; simpa using h1, h2.mono hle⟩
theorem HR.new {wb : Wb} {k : Nat} {s : Ren} {h : List AO} {w : World} (H : HR wb k s h w) (cs : List Value) (arr : Array Value) (T : TypeId) (es : Option Nat) (hes : isW ⟨true, es, cs⟩ = true)
    (hn : cs.length ≤ arr.size) (hr : ∀ (o : Nat) (v : Value), cs[o]? = some v → ∃ v', arr[o]? = some v' ∧ VR s v v') :
    HR wb k (upd s h.length ⟨w.heap.size, 0, arr.size, es⟩) (h ++ [⟨true, es, cs⟩]) (w.alloc (.cells arr T)) ∧ Le s (upd s h.length ⟨w.heap.size, 0, arr.size, es⟩) :=
  H.newF cs arr T es hes (0, 0) (fun o _ h => by have := h.2; simp at this) hn hr
theorem HR.new' {wb : Wb} {k : Nat} {s : Ren} {h : List AO} {w : World} (H : HR wb k s h w) {cs cs' : List Value} (T : TypeId) (hr : LR s cs cs') :
    HR wb k (upd s h.length ⟨w.heap.size, 0, cs'.length, none⟩) (h ++ [⟨true, none, cs⟩]) (w.alloc (.cells ⟨cs'⟩ T)) ∧ Le s (upd s h.length ⟨w.heap.size, 0, cs'.length, none⟩) :=
  H.new cs ⟨cs'⟩ T none rfl (by simp [hr.1]) fun o v hv => by simpa using hr.get hv

/-! Reading. -/
def aload (h : List AO) (a : Addr) (n : Nat) : Option (List Value) :=
  match h[a.block]? with
  | some o => if o.live && !isM o && decide (a.off + n ≤ o.cs.length) then some ((o.cs.drop a.off).take n) else none
  | none => none
theorem add_none {b o : Nat} (i : Nat) : (⟨b, o, none⟩ : Addr).add i = ⟨b, o + i, none⟩ := by unfold Addr.add; split <;> simp_all
theorem aload_spec {s : Ren} {h : List AO} {w : World} (H : MR s h w) {a : Addr} {n : Nat} {vs : List Value} (hl : aload h a n = some vs) {p : Pl} (hp : s a.block = some p) :
    vs.length = n ∧ ∃ vs', LR s vs vs' ∧ ∀ (j : Nat) (v : Value), vs'[j]? = some v → w.cell? ((⟨p.blk, p.off + a.off, none⟩ : Addr).add j) = some v := by
  unfold aload at hl
  cases ho : h[a.block]? with
  | none => rw [ho] at hl; cases hl
  | some o =>
    rw [ho] at hl
    simp only at hl
    split at hl
    · rename_i hc
      cases hl
      simp at hc
      obtain ⟨⟨hlive, hnm⟩, hfit⟩ := hc
      obtain ⟨q, hq, _, hb⟩ := H _ _ ho hlive
      rw [hp] at hq
      cases hq
      replace hb := hb.2 hnm
      have hlen : ((o.cs.drop a.off).take n).length = n := by simp; omega
      refine ⟨hlen, ((o.cs.drop a.off).take n).zipIdx.map (fun x => (w.cell? ⟨p.blk, p.off + a.off + x.2, none⟩).getD undef), ⟨by simp, fun i x y hx hy => ?_⟩, fun j v hv => ?_⟩
      · rw [List.getElem?_map, List.getElem?_zipIdx, hx] at hy
        simp at hy
        subst hy
        rw [List.getElem?_take] at hx
        split at hx
        · rw [List.getElem?_drop] at hx
          obtain ⟨v', h1, h2⟩ := hb.rel _ _ hx
          rw [show p.off + a.off + i = p.off + (a.off + i) by omega, h1]
          exact h2
        · cases hx
      · rw [add_none]
        rw [List.getElem?_map, List.getElem?_zipIdx] at hv
        cases hx : ((o.cs.drop a.off).take n)[j]? with
        | none => rw [hx] at hv; simp at hv
        | some x =>
          rw [hx] at hv
          simp at hv
          subst hv
          rw [List.getElem?_take] at hx
          split at hx
          · rw [List.getElem?_drop] at hx
            obtain ⟨v', h1, _⟩ := hb.rel _ _ hx
            rw [show p.off + a.off + j = p.off + (a.off + j) by omega, h1]
            rfl
          · cases hx
    · cases hl

/-! Writing. -/
def splice (cs : List Value) (i : Nat) (vs : List Value) : List Value := cs.take i ++ vs ++ cs.drop (i + vs.length)
theorem splice_length {cs vs : List Value} {i : Nat} (h : i + vs.length ≤ cs.length) : (splice cs i vs).length = cs.length := by
  simp [splice]; omega
theorem splice_get {cs vs : List Value} {i : Nat} (h : i + vs.length ≤ cs.length) (o : Nat) :
    (splice cs i vs)[o]? = if i ≤ o ∧ o < i + vs.length then vs[o - i]? else cs[o]? := by
  unfold splice
  by_cases h1 : o < i
  · rw [if_neg (by omega), List.append_assoc, List.getElem?_append_left (by simp; omega), List.getElem?_take, if_pos h1]
  · by_cases h2 : o < i + vs.length
    · rw [if_pos ⟨by omega, h2⟩, List.append_assoc, List.getElem?_append_right (by simp; omega), List.getElem?_append_left (by simp; omega)]
      congr 1
      simp; omega
    · rw [if_neg (by omega), List.getElem?_append_right (by simp; omega), List.getElem?_drop]
      congr 1
      simp; omega
def astore (h : List AO) (a : Addr) (vs : List Value) : Option (List AO) :=
  match h[a.block]? with
  | some o => if o.live && isW o && decide (a.off + vs.length ≤ o.cs.length) then some (h.set a.block ⟨true, o.es, splice o.cs a.off vs⟩) else none
  | none => none
theorem grown_setCells {wb : Wb} (b : Nat) (hb : wb.w.heap.size ≤ b ∨ wb.x b) : ∀ (vs : List Value) (o : Nat) (w : World), GrB wb w → GrB wb (w.setCells b o vs)
  | [], _, _, g => g
  | v :: r, o, w, g => grown_setCells b hb r (o + 1) _ (GrB.setCell g (by exact hb) v)
theorem size_setCells (b : Nat) : ∀ (vs : List Value) (o : Nat) (w : World), (w.setCells b o vs).heap.size = w.heap.size
  | [], _, _ => rfl
  | v :: r, o, w => by rw [World.setCells, size_setCells b r]; simp
theorem shape_setCell (w : World) (a : Addr) (v : Value) (r : Nat) : (w.setCell a v).shape? r = w.shape? r := by
  simp only [World.setCell, World.shape?, Array.getElem?_modify]
  by_cases hb : a.block = r
  · simp only [hb, if_true]
    cases hh : w.heap[r]? with
    | none => simp
    | some x => cases x <;> simp <;> split <;> simp
  · simp [hb]
theorem shape_setCells (b : Nat) (r : Nat) : ∀ (vs : List Value) (o : Nat) (w : World), (w.setCells b o vs).shape? r = w.shape? r
  | [], _, _ => rfl
  | v :: l, o, w => by rw [World.setCells, shape_setCells b r l, shape_setCell]
theorem heap_setCell (w : World) (a : Addr) (v : Value) {r : Nat} (h : r ≠ a.block) : (w.setCell a v).heap[r]? = w.heap[r]? := by
  simp only [World.setCell, Array.getElem?_modify, if_neg (Ne.symm h)]
theorem heap_setCells (b r : Nat) (h : r ≠ b) : ∀ (vs : List Value) (o : Nat) (w : World), (w.setCells b o vs).heap[r]? = w.heap[r]?
  | [], _, _ => rfl
  | v :: l, o, w => by rw [World.setCells, heap_setCells b r h l, heap_setCell _ _ _ h]
theorem astore_spec {wb : Wb} {k : Nat} {s : Ren} {h h' : List AO} {w : World} (H : HR wb k s h w) {a : Addr} {vs vs' : List Value} (hs : astore h a vs = some h') (hk : k ≤ a.block)
    {p : Pl} (hp : s a.block = some p) (hv : LR s vs vs') :
    (∀ j, j < vs'.length → (w.cell? ⟨p.blk, p.off + a.off + j, none⟩).isSome = true) ∧ (∀ j, j < vs'.length → w.frozen? ⟨p.blk, p.off + a.off + j, none⟩ = false) ∧
    HR wb k s h' (w.setCells p.blk (p.off + a.off) vs') := by
  unfold astore at hs
  cases ho : h[a.block]? with
  | none => rw [ho] at hs; cases hs
  | some o =>
    rw [ho] at hs
    simp only at hs
    split at hs
    · rename_i hc
      cases hs
      simp at hc
      obtain ⟨⟨hlive, hwr⟩, hfit⟩ := hc
      obtain ⟨q, hq, hes, hb⟩ := H.obj _ _ ho hlive
      rw [hp] at hq
      cases hq
      obtain ⟨hnm, hng⟩ := isW_spec hwr
      replace hb := hb.2 hnm
      have hfree := hb.free (by rw [hes]; exact hng)
      have hlen := hv.1
      have hfit2 := hb.fit
      have hal : ∀ j, j < vs'.length → (w.cell? ⟨p.blk, p.off + a.off + j, none⟩).isSome = true := fun j hj => hb.all _ (by omega)
      refine ⟨hal, fun j hj => hfree _ (by omega) (by omega) (fun _ => by omega), ?_⟩
      have hblk : wb.w.heap.size ≤ p.blk ∨ wb.x p.blk := (H.plc _ _ hp).2.1 hk
      refine ⟨grown_setCells _ hblk _ _ _ H.grown, by simpa using H.kle, fun i hi => H.dom i (by simpa using hi), fun i q hq => ?_, fun i x hx hl => ?_, fun i j x y q r hi hj hx hy hq hr e => ?_, H.gl⟩
      · rw [size_setCells]; exact H.plc i q hq
      · rw [List.getElem?_set] at hx
        by_cases ei : a.block = i
        · subst ei
          rw [if_pos rfl, if_pos (List.getElem?_eq_some_iff.1 ho).1] at hx
          cases hx
          refine ⟨p, hp, hes, ObjAt.block hnm ⟨by simp only [splice_length hfit]; exact hfit2, fun o' ho' => ?_, ?_, fun _ o' h1 h2 h3 => ?_, fun o' v hv' => ?_⟩⟩
          · by_cases hin : p.off + a.off ≤ o' ∧ o' < p.off + a.off + vs'.length
            · have := World.cell?_setCells_in p.blk vs' (p.off + a.off) w hal (o' - (p.off + a.off)) (by omega)
              rw [show p.off + a.off + (o' - (p.off + a.off)) = o' by omega] at this
              rw [this]; rfl
            · rw [World.cell?_setCells_out _ _ _ _ _ fun _ _ => by simp; omega]
              exact hb.all o' ho'
          · obtain ⟨T, hT⟩ := hb.shp
            exact ⟨T, by rw [shape_setCells]; exact hT⟩
          · rw [World.frozen?_setCells]; exact hfree o' h1 h2 (by simpa only [splice_length hfit] using h3)
          · simp only at hv'
            rw [splice_get hfit] at hv'
            by_cases hin : a.off ≤ o' ∧ o' < a.off + vs.length
            · rw [if_pos hin] at hv'
              obtain ⟨y, hy, hvy⟩ := hv.get hv'
              have hyl : o' - a.off < vs'.length := (List.getElem?_eq_some_iff.1 hy).1
              have := World.cell?_setCells_in p.blk vs' (p.off + a.off) w hal (o' - a.off) hyl
              rw [show p.off + a.off + (o' - a.off) = p.off + o' by omega] at this
              refine ⟨y, ?_, hvy⟩
              rw [this, ← hy, List.getElem?_eq_getElem hyl]
            · rw [if_neg hin] at hv'
              obtain ⟨y, hy, hvy⟩ := hb.rel o' v hv'
              refine ⟨y, ?_, hvy⟩
              rw [World.cell?_setCells_out _ _ _ _ _ fun _ _ => by simp; omega]
              exact hy
        · rw [if_neg ei] at hx
          obtain ⟨q, hq, he, hbq⟩ := H.obj i x hx hl
          have hne : q.blk ≠ p.blk := fun e => ei (H.sep i a.block x o q p hx ho hl hlive hq hp e).symm
          exact ⟨q, hq, he, hbq.heap (heap_setCells p.blk q.blk hne vs' _ w)⟩
      · have old : ∀ (i : Nat) (x : AO), (h.set a.block ⟨true, o.es, splice o.cs a.off vs⟩)[i]? = some x → x.live = true → ∃ x', h[i]? = some x' ∧ x'.live = true := by
          intro i x hx hl
          rw [List.getElem?_set] at hx
          by_cases ei : a.block = i
          · subst ei; exact ⟨o, ho, hlive⟩
          · rw [if_neg ei] at hx; exact ⟨x, hx, hl⟩
        obtain ⟨x', hx1, hx2⟩ := old i x hi hx
        obtain ⟨y', hy1, hy2⟩ := old j y hj hy
        exact H.sep i j x' y' q r hx1 hy1 hx2 hy2 hq hr e
    · cases hs
end Go.Proofs.Ytafegjmaldbbiaa.Ex
