/-
  A parameter that is an array of eight integers: opened and shut again.
-/
import Derived.Test.YthmebodklbhljaaDoorArr
namespace Go.Proofs.YthmebodklbhljaaDoor
open Go.ChangeShapes Go.WideShapes Go.RowKit Go.Joins

section
variable {H : Type} {enc : TypeId × Value → H} {P : Program} {w : World} {base : Nat} {spare : Nat → Bool} {held : Bool}
theorem array8 {α : Type} {cs : Array α} (h : cs.size = 8) : ∃ c0 c1 c2 c3 c4 c5 c6 c7, cs = #[c0, c1, c2, c3, c4, c5, c6, c7] := by
  obtain ⟨l⟩ := cs
  match l, h with
  | [c0, c1, c2, c3, c4, c5, c6, c7], _ => exact ⟨c0, c1, c2, c3, c4, c5, c6, c7, rfl⟩
theorem open_arr8 {r : Reach} {b0 : Nat} {t e : TypeId} {k : IntKind} {v : Value} {d : DataW H} {ps : List MemPlace} (ht : P.underlying t = some (.array 8 e)) (he : P.underlying e = some (.int k)) (hC : P.cellsOf t = 8) (hc : P.cellsOf e = 1)
    (hval : Value.okWide P w r b0 t v) (hd : DataW.Trod enc P w base spare held t v d ps) :
    ∃ x0 x1 x2 x3 x4 x5 x6 x7, v = .agg #[.int k x0, .int k x1, .int k x2, .int k x3, .int k x4, .int k x5, .int k x6, .int k x7] ∧ d = .agg [.lit (.int k x0), .lit (.int k x1), .lit (.int k x2), .lit (.int k x3), .lit (.int k x4), .lit (.int k x5), .lit (.int k x6), .lit (.int k x7)] ∧ ps = [] ∧ (Lit.int k x0).wf = true ∧ (Lit.int k x1).wf = true ∧ (Lit.int k x2).wf = true ∧ (Lit.int k x3).wf = true ∧ (Lit.int k x4).wf = true ∧ (Lit.int k x5).wf = true ∧ (Lit.int k x6).wf = true ∧ (Lit.int k x7).wf = true := by
  obtain ⟨cs, rfl, hsz⟩ := okWide_array ht hval
  obtain ⟨c0, c1, c2, c3, c4, c5, c6, c7, rfl⟩ := array8 (hsz.trans hC)
  obtain ⟨fuel, hf⟩ := hd
  obtain ⟨xs, m, _, hx, _, hlen, hall⟩ := DataW.trod_array ht hf
  match xs, hlen with
  | [y0, y1, y2, y3, y4, y5, y6, y7], _ =>
    have h0 := hall 0 (by decide)
    have h1 := hall 1 (by decide)
    have h2 := hall 2 (by decide)
    have h3 := hall 3 (by decide)
    have h4 := hall 4 (by decide)
    have h5 := hall 5 (by decide)
    have h6 := hall 6 (by decide)
    have h7 := hall 7 (by decide)
    simp [Value.cells, hc] at h0 h1 h2 h3 h4 h5 h6 h7
    obtain ⟨x0, e0, hx0, w0⟩ := DataW.trod_int he h0
    obtain ⟨x1, e1, hx1, w1⟩ := DataW.trod_int he h1
    obtain ⟨x2, e2, hx2, w2⟩ := DataW.trod_int he h2
    obtain ⟨x3, e3, hx3, w3⟩ := DataW.trod_int he h3
    obtain ⟨x4, e4, hx4, w4⟩ := DataW.trod_int he h4
    obtain ⟨x5, e5, hx5, w5⟩ := DataW.trod_int he h5
    obtain ⟨x6, e6, hx6, w6⟩ := DataW.trod_int he h6
    obtain ⟨x7, e7, hx7, w7⟩ := DataW.trod_int he h7
    simp at e0 e1 e2 e3 e4 e5 e6 e7
    subst e0 e1 e2 e3 e4 e5 e6 e7 hx0 hx1 hx2 hx3 hx4 hx5 hx6 hx7
    simp only [Prod.mk.injEq] at hx
    obtain ⟨rfl, rfl⟩ := hx
    exact ⟨x0, x1, x2, x3, x4, x5, x6, x7, rfl, rfl, by simp, w0, w1, w2, w3, w4, w5, w6, w7⟩
theorem shut_arr8 {t e : TypeId} {k : IntKind} {x0 x1 x2 x3 x4 x5 x6 x7 : Int} (ht : P.underlying t = some (.array 8 e)) (he : P.underlying e = some (.int k)) (hC : P.cellsOf t = 8) (hc : P.cellsOf e = 1)
    (w0 : (Lit.int k x0).wf = true) (w1 : (Lit.int k x1).wf = true) (w2 : (Lit.int k x2).wf = true) (w3 : (Lit.int k x3).wf = true) (w4 : (Lit.int k x4).wf = true) (w5 : (Lit.int k x5).wf = true) (w6 : (Lit.int k x6).wf = true) (w7 : (Lit.int k x7).wf = true) :
    DataW.Trod enc P w base spare held t (.agg #[.int k x0, .int k x1, .int k x2, .int k x3, .int k x4, .int k x5, .int k x6, .int k x7]) (.agg [.lit (.int k x0), .lit (.int k x1), .lit (.int k x2), .lit (.int k x3), .lit (.int k x4), .lit (.int k x5), .lit (.int k x6), .lit (.int k x7)]) [] :=
  ⟨2, by simp [DataW.trod, Value.cells, ht, he, hC, hc, w0, w1, w2, w3, w4, w5, w6, w7, List.range, List.range.loop]⟩
end
end Go.Proofs.YthmebodklbhljaaDoor
