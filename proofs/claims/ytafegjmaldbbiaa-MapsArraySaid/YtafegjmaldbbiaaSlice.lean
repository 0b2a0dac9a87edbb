/-
  A law's parameter that is a slice of numbers: what it has, and that it is apart from a package's variable.
-/
import Derived.Test.YtafegjmaldbbiaaEx25
import Derived.ProofKit
import Derived.WalkKit
import Derived.OpenShut
import Derived.Deep.Slices
import Derived.ChangeArms
namespace Go.Proofs.Ytafegjmaldbbiaa.Ex
open Go Go.ChangeShapes Go.WideShapes Go.RowKit
set_option linter.unusedVariables false
set_option linter.unnecessarySimpa false
/-- A slice of numbers of one kind: none; or so many cells of a block, none of them shared with a text. -/
def SlOf (k : IntKind) (W : World) (v : Value) : Prop := v = .slice none 0 0 ∨
  ∃ b off len cap tot T, ∃ l : List Int, v = .slice (some ⟨b, off, none⟩) len cap ∧ len ≤ cap ∧ W.shape? b = some (T, tot) ∧ l.length = len ∧ (0 < len → off + len ≤ tot) ∧ (∀ o, o < len → W.frozen? ⟨b, off + o, none⟩ = false) ∧
    (∀ (o : Nat) (n : Int), l[o]? = some n → W.cell? ⟨b, off + o, none⟩ = some (.int k n) ∧ (Lit.int k n).wf = true)
section
variable {H : Type} {enc : TypeId × Value → H} {P : Program} {W : World} {base : Nat}
theorem open_slU {t e : TypeId} {k : IntKind} (ht : P.underlying t = some (.slice e)) (he : P.underlying e = some (.int k)) (hce : P.cellsOf e = 1) {v : Value} {d : DataW H} {ps : List MemPlace} (hval : Value.okWide P W .any base t v) (hd : DataW.Trod enc P W 0 (fun _ => true) true t v d ps)
    (hfz : W.noneFrozen ps) : SlOf k W v := by
  obtain ⟨fuel, hf⟩ := hd
  rcases Go.Deep.open_slice1 ht hce hf with ⟨h0, _⟩ | ⟨a, len, cap, m, n, V, D, Pl, hcs, hb, hl, hm, hmm, hx, hcell⟩
  · left
    cases v with
    | agg cs =>
      exfalso
      unfold Value.okWide at hval
      rw [ht] at hval
      simp only [Cell.okWide, ht, Cell.ok] at hval
    | _ => simpa [Value.cells] using h0
  · right
    have hv : v = .slice (some a) len cap := by
      cases v with
      | agg cs =>
        exfalso
        unfold Value.okWide at hval
        rw [ht] at hval
        simp only [Cell.okWide, ht, Cell.ok] at hval
      | _ => simpa [Value.cells] using hcs
    subst hv
    unfold Value.okWide at hval
    rw [ht] at hval
    simp only [Cell.okWide, ht, Cell.ok, World.has] at hval
    obtain ⟨_, _, _, hsp, row, tot, hshape, _⟩ := hval
    obtain ⟨ab, ao, asp⟩ := a
    simp only at hsp
    subst hsp
    have hmc : m = cap := by simpa using hmm
    simp only [Prod.mk.injEq] at hx
    obtain ⟨rfl, rfl⟩ := hx
    have hcell' : ∀ o, o < cap → ∃ x, W.cell? ⟨ab, ao + o, none⟩ = some (.int k x) ∧ (Lit.int k x).wf = true := by
      intro o ho
      obtain ⟨c1, c2⟩ := hcell o (by omega)
      obtain ⟨x, hx1, _, hx3⟩ := DataW.trod_int he c2
      simp only [List.cons.injEq, and_true] at hx1
      refine ⟨x, ?_, hx3⟩
      rw [← hx1]
      have e1 : (⟨ab, ao, none⟩ : Addr).add o = ⟨ab, ao + o, none⟩ := by simp [Addr.add]
      rw [← e1]
      exact c1
    have hch : ∃ l : List Int, l.length = len ∧ ∀ (o : Nat) (x : Int), l[o]? = some x → W.cell? ⟨ab, ao + o, none⟩ = some (.int k x) ∧ (Lit.int k x).wf = true := by
      have : ∀ q, q ≤ cap → ∃ l : List Int, l.length = q ∧ ∀ (o : Nat) (x : Int), l[o]? = some x → W.cell? ⟨ab, ao + o, none⟩ = some (.int k x) ∧ (Lit.int k x).wf = true := by
        intro q
        induction q with
        | zero => intro _; exact ⟨[], rfl, fun o x h => by simp at h⟩
        | succ q ih =>
          intro hq
          obtain ⟨l, h1, h2⟩ := ih (by omega)
          obtain ⟨x, h3, h4⟩ := hcell' q (by omega)
          refine ⟨l ++ [x], by simp [h1], fun o y hy => ?_⟩
          by_cases ho : o < l.length
          · rw [List.getElem?_append_left ho] at hy
            exact h2 o y hy
          · have hlt := (List.getElem?_eq_some_iff.1 hy).1
            simp only [List.length_append, List.length_singleton] at hlt
            obtain rfl : o = l.length := by omega
            rw [List.getElem?_append_right (by omega)] at hy
            simp at hy
            subst hy
            rw [h1]
            exact ⟨h3, h4⟩
      exact this len hl
    obtain ⟨l, h1, h2⟩ := hch
    refine ⟨ab, ao, len, cap, tot, row, l, rfl, hl, hshape, h1, ?_, fun o ho => ?_, h2⟩
    · intro h0
      obtain ⟨x, hx1, _⟩ := hcell' (len - 1) (by omega)
      unfold World.shape? at hshape
      unfold World.cell? at hx1
      split at hshape
      · rename_i c T fr hh
        cases hshape
        simp only [hh] at hx1
        have := (Array.getElem?_eq_some_iff.1 hx1).1
        omega
      · cases hshape
    · have := hfz ab (ao + o) (List.mem_append_left _ (by
        unfold MemPlace.row
        exact List.mem_map.2 ⟨o, List.mem_range.2 (by omega), rfl⟩))
      exact this
end
end Go.Proofs.Ytafegjmaldbbiaa.Ex
