/-
  A law's parameter that is a slice of plain structs: what it has.
-/
import Derived.Test.YtafegjmaldbbiaaSlice
import Derived.Test.YtafegjmaldbbiaaPlain
namespace Go.Proofs.Ytafegjmaldbbiaa.Ex
open Go Go.ChangeShapes Go.WideShapes Go.RowKit
set_option linter.unusedVariables false
set_option linter.unnecessarySimpa false
/-- A slice whose elements are so many cells, each of its kind: none; or so many elements of a block, none of whose cells is shared with a text. -/
def SlS (ks : List Kd) (W : World) (v : Value) : Prop := v = .slice none 0 0 ∨
  ∃ b off len cap tot T, ∃ l : List Value, v = .slice (some ⟨b, off, none⟩) len cap ∧ len ≤ cap ∧ W.shape? b = some (T, tot) ∧ l.length = len * ks.length ∧ (0 < len → off + len * ks.length ≤ tot) ∧ (∀ o, o < len * ks.length → W.frozen? ⟨b, off + o, none⟩ = false) ∧
    (∀ (o : Nat) (v : Value), l[o]? = some v → W.cell? ⟨b, off + o, none⟩ = some v) ∧ ∀ i, i < len → okL ks ((l.drop (i * ks.length)).take ks.length)
section
variable {H : Type} {enc : TypeId × Value → H} {P : Program} {W : World} {base : Nat}
theorem open_slS {t e : TypeId} {ks : List Kd} (ht : P.underlying t = some (.slice e)) {f : Nat} (hks : kindsT P f e = some ks) (hce : P.cellsOf e = ks.length) (hpos : 0 < ks.length) {v : Value} {d : DataW H} {ps : List MemPlace} (hval : Value.okWide P W .any base t v) (hd : DataW.Trod enc P W 0 (fun _ => true) true t v d ps)
    (hfz : W.noneFrozen ps) : SlS ks W v := by
  obtain ⟨fuel, hf⟩ := hd
  rcases Go.Deep.open_slice ht hf with ⟨h0, _⟩ | ⟨a, len, cap, m, n, D, Pl, hcs, hb, hl, hm, hmm, hx, hcell⟩
  · left
    cases v with
    | agg cs =>
      exfalso
      unfold Value.okWide at hval
      rw [ht] at hval
      simp only [Cell.okWide, ht, Cell.ok] at hval
    | _ => simpa [Value.cells] using h0
  · right
    have hv : v = .slice (some a) len cap := by
      cases v with
      | agg cs =>
        exfalso
        unfold Value.okWide at hval
        rw [ht] at hval
        simp only [Cell.okWide, ht, Cell.ok] at hval
      | _ => simpa [Value.cells] using hcs
    subst hv
    unfold Value.okWide at hval
    rw [ht] at hval
    simp only [Cell.okWide, ht, Cell.ok, World.has] at hval
    obtain ⟨_, _, _, hsp, row, tot, hshape, _⟩ := hval
    obtain ⟨ab, ao, asp⟩ := a
    simp only at hsp
    subst hsp
    have hmc : m = cap := by simpa using hmm
    simp only [Prod.mk.injEq] at hx
    obtain ⟨rfl, rfl⟩ := hx
    have hcell' : ∀ i, i < cap → ∃ cs' : List Value, cs'.length = ks.length ∧ okL ks cs' ∧ ∀ (o : Nat) (x : Value), cs'[o]? = some x → W.cell? ⟨ab, ao + (i * ks.length + o), none⟩ = some x := by
      intro i hi
      obtain ⟨cs', c1, c2⟩ := hcell i (by omega)
      have c3 := plain_kinds f hks c2
      refine ⟨cs', c3.length, c3, fun o x ho => ?_⟩
      obtain ⟨_, g1, g2⟩ := World.cells?_some c1
      have hol := (List.getElem?_eq_some_iff.1 ho).1
      have := (g2 o (by omega)).trans ho
      rw [hce, Go.Deep.add_add] at this
      have e1 : (⟨ab, ao, none⟩ : Addr).add (i * ks.length + o) = ⟨ab, ao + (i * ks.length + o), none⟩ := by
        unfold Addr.add
        split
        · rename_i h0; rw [h0]; rfl
        · rfl
      rw [e1] at this
      exact this
    have hch : ∃ l : List Value, l.length = len * ks.length ∧ (∀ (o : Nat) (x : Value), l[o]? = some x → W.cell? ⟨ab, ao + o, none⟩ = some x) ∧ ∀ i, i < len → okL ks ((l.drop (i * ks.length)).take ks.length) := by
      have : ∀ q, q ≤ cap → ∃ l : List Value, l.length = q * ks.length ∧ (∀ (o : Nat) (x : Value), l[o]? = some x → W.cell? ⟨ab, ao + o, none⟩ = some x) ∧ ∀ i, i < q → okL ks ((l.drop (i * ks.length)).take ks.length) := by
        intro q
        induction q with
        | zero => intro _; exact ⟨[], by simp, fun o x h => by simp at h, fun i hi => by omega⟩
        | succ q ih =>
          intro hq
          obtain ⟨l, h1, h2, h3⟩ := ih (by omega)
          obtain ⟨cs', g1, g2, g3⟩ := hcell' q (by omega)
          refine ⟨l ++ cs', by rw [List.length_append, h1, g1, Nat.succ_mul], fun o x ho => ?_, fun i hi => ?_⟩
          · by_cases hlt : o < l.length
            · rw [List.getElem?_append_left hlt] at ho
              exact h2 o x ho
            · rw [List.getElem?_append_right (by omega)] at ho
              have := g3 _ x ho
              rw [h1] at this hlt
              rwa [show q * ks.length + (o - q * ks.length) = o by omega] at this
          · by_cases hiq : i < q
            · have hle : (i + 1) * ks.length ≤ q * ks.length := Nat.mul_le_mul_right _ (by omega)
              rw [Nat.succ_mul] at hle
              rw [List.drop_append_of_le_length (by rw [h1]; omega), List.take_append_of_le_length (by rw [List.length_drop, h1]; omega)]
              exact h3 i hiq
            · obtain rfl : i = q := by omega
              rw [← h1, List.drop_left, List.take_of_length_le (by rw [g1]; exact Nat.le_refl _)]
              exact g2
      exact this len hl
    obtain ⟨l, h1, h2, h3⟩ := hch
    refine ⟨ab, ao, len, cap, tot, row, l, rfl, hl, hshape, h1, ?_, fun o ho => ?_, h2, h3⟩
    · intro h0
      have hlt : len * ks.length - 1 < l.length := by
        rw [h1]
        have := Nat.mul_pos h0 hpos
        omega
      have hx1 := h2 _ _ (List.getElem?_eq_getElem hlt)
      unfold World.shape? at hshape
      unfold World.cell? at hx1
      split at hshape
      · rename_i c T fr hh
        cases hshape
        simp only [hh] at hx1
        have := (Array.getElem?_eq_some_iff.1 hx1).1
        have := Nat.mul_pos h0 hpos
        omega
      · cases hshape
    · have := hfz ab (ao + o) (List.mem_append_left _ (by
        unfold MemPlace.row
        refine List.mem_map.2 ⟨o, List.mem_range.2 ?_, rfl⟩
        rw [hce, hmc]
        have : len * ks.length ≤ cap * ks.length := Nat.mul_le_mul_right _ hl
        omega))
      exact this
end
end Go.Proofs.Ytafegjmaldbbiaa.Ex
