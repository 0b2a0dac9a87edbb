/-
  Parameters that are a span, or two rows of four numbers: opened and shut again.
-/
import Derived.Test.YtchjneodjaakdaaArr
import Derived.Test.YtchjneodjaakdaaWf
namespace Go.Proofs.Ytchjneodjaakdaa
open Go.ChangeShapes Go.WideShapes Go.RowKit Go.Joins Go.ChangeAt Go.Deep

theorem i64_Z {x : Int} (h : (Lit.int .i64 x).wf = true) : ∃ v : BitVec 64, x = Z v := by
  have hb := i64_of_wf h
  refine ⟨BitVec.ofInt 64 x, ?_⟩
  rw [Z_ofInt]
  unfold wrap64
  omega

section
variable {H : Type} {enc : TypeId × Value → H} {P : Program} {w : World} {base : Nat} {spare : Nat → Bool} {held : Bool}

theorem open_span {r : Reach} {b0 : Nat} {t : TypeId} {f0 f1 f2 f3 : Field} {v : Value} {d : DataW H} {p : List MemPlace} (hs : P.underlying t = some (.struct #[f0, f1, f2, f3])) (hone : oneCellFields P #[f0, f1, f2, f3] = true) (hC : P.cellsOf t = 4)
    (u0 : P.underlying f0.type = some (.int .u64)) (u1 : P.underlying f1.type = some (.int .u64)) (u2 : P.underlying f2.type = some (.int .i64)) (u3 : P.underlying f3.type = some (.int .i64))
    (hv : Value.okWide P w r b0 t v) (h : DataW.Trod enc P w base spare held t v d p) :
    ∃ x0 x1 x2 x3, v = .agg #[.int .u64 x0, .int .u64 x1, .int .i64 x2, .int .i64 x3] ∧ d = .agg [.lit (.int .u64 x0), .lit (.int .u64 x1), .lit (.int .i64 x2), .lit (.int .i64 x3)] ∧ p = [] ∧ (Lit.int .u64 x0).wf = true ∧ (Lit.int .u64 x1).wf = true ∧ (Lit.int .i64 x2).wf = true ∧ (Lit.int .i64 x3).wf = true := by
  obtain ⟨v0, v1, v2, v3, y0, y1, y2, y3, n, rfl, rfl, rfl, h0, h1, h2, h3⟩ := open_agg4 hs hone hC hv h
  obtain ⟨x0, e0, rfl, w0⟩ := DataW.trod_int u0 h0
  obtain ⟨x1, e1, rfl, w1⟩ := DataW.trod_int u1 h1
  obtain ⟨x2, e2, rfl, w2⟩ := DataW.trod_int u2 h2
  obtain ⟨x3, e3, rfl, w3⟩ := DataW.trod_int u3 h3
  simp only [List.cons.injEq, and_true] at e0 e1 e2 e3
  subst e0 e1 e2 e3
  exact ⟨x0, x1, x2, x3, rfl, rfl, rfl, w0, w1, w2, w3⟩
theorem shut_span {t : TypeId} {f0 f1 f2 f3 : Field} {x0 x1 x2 x3 : Int} (hs : P.underlying t = some (.struct #[f0, f1, f2, f3])) (hone : oneCellFields P #[f0, f1, f2, f3] = true) (hC : P.cellsOf t = 4)
    (u0 : P.underlying f0.type = some (.int .u64)) (u1 : P.underlying f1.type = some (.int .u64)) (u2 : P.underlying f2.type = some (.int .i64)) (u3 : P.underlying f3.type = some (.int .i64))
    (w0 : (Lit.int .u64 x0).wf = true) (w1 : (Lit.int .u64 x1).wf = true) (w2 : (Lit.int .i64 x2).wf = true) (w3 : (Lit.int .i64 x3).wf = true) :
    DataW.Trod enc P w base spare held t (.agg #[.int .u64 x0, .int .u64 x1, .int .i64 x2, .int .i64 x3]) (.agg [.lit (.int .u64 x0), .lit (.int .u64 x1), .lit (.int .i64 x2), .lit (.int .i64 x3)]) [] := by
  have t0 : DataW.trod enc P w base spare held 1 f0.type [.int .u64 x0] = some (.lit (.int .u64 x0), []) := by simp [DataW.trod, u0, w0]
  have t1 : DataW.trod enc P w base spare held 1 f1.type [.int .u64 x1] = some (.lit (.int .u64 x1), []) := by simp [DataW.trod, u1, w1]
  have t2 : DataW.trod enc P w base spare held 1 f2.type [.int .i64 x2] = some (.lit (.int .i64 x2), []) := by simp [DataW.trod, u2, w2]
  have t3 : DataW.trod enc P w base spare held 1 f3.type [.int .i64 x3] = some (.lit (.int .i64 x3), []) := by simp [DataW.trod, u3, w3]
  have h := shut_agg4 (enc := enc) (w := w) (base := base) (spare := spare) (held := held) hs hone hC ⟨1, t0⟩ ⟨1, t1⟩ ⟨1, t2⟩ ⟨1, t3⟩
  simpa using h
theorem array8 {α : Type} {cs : Array α} (h : cs.size = 8) : ∃ c0 c1 c2 c3 c4 c5 c6 c7, cs = #[c0, c1, c2, c3, c4, c5, c6, c7] := by
  obtain ⟨l⟩ := cs
  match l, h with
  | [c0, c1, c2, c3, c4, c5, c6, c7], _ => exact ⟨c0, c1, c2, c3, c4, c5, c6, c7, rfl⟩
theorem open_row4 {e : TypeId} {i : TypeId} {k : IntKind} {m : Nat} {c0 c1 c2 c3 : Value} {y : DataW H × List MemPlace} (he : P.underlying e = some (.array 4 i)) (hi : P.underlying i = some (.int k)) (h1 : P.cellsOf i = 1)
    (h : DataW.trod enc P w base spare held m e [c0, c1, c2, c3] = some y) :
    ∃ x0 x1 x2 x3, c0 = .int k x0 ∧ c1 = .int k x1 ∧ c2 = .int k x2 ∧ c3 = .int k x3 ∧ y = (.agg [.lit (.int k x0), .lit (.int k x1), .lit (.int k x2), .lit (.int k x3)], []) ∧ (Lit.int k x0).wf = true ∧ (Lit.int k x1).wf = true ∧ (Lit.int k x2).wf = true ∧ (Lit.int k x3).wf = true := by
  obtain ⟨xs, m', _, hx, _, hlen, hall⟩ := DataW.trod_array he h
  match xs, hlen with
  | [y0, y1, y2, y3], _ =>
    have g0 := hall 0 (by decide)
    have g1 := hall 1 (by decide)
    have g2 := hall 2 (by decide)
    have g3 := hall 3 (by decide)
    simp [h1] at g0 g1 g2 g3
    obtain ⟨x0, e0, z0, w0⟩ := DataW.trod_int hi g0
    obtain ⟨x1, e1, z1, w1⟩ := DataW.trod_int hi g1
    obtain ⟨x2, e2, z2, w2⟩ := DataW.trod_int hi g2
    obtain ⟨x3, e3, z3, w3⟩ := DataW.trod_int hi g3
    simp at e0 e1 e2 e3
    subst e0 e1 e2 e3 z0 z1 z2 z3
    exact ⟨x0, x1, x2, x3, rfl, rfl, rfl, rfl, by rw [hx]; simp, w0, w1, w2, w3⟩
theorem open_arr24 {r : Reach} {b0 : Nat} {t e i : TypeId} {k : IntKind} {v : Value} {d : DataW H} {ps : List MemPlace} (ht : P.underlying t = some (.array 2 e)) (he : P.underlying e = some (.array 4 i)) (hi : P.underlying i = some (.int k)) (hC : P.cellsOf t = 8) (hc : P.cellsOf e = 4) (h1 : P.cellsOf i = 1)
    (hval : Value.okWide P w r b0 t v) (hd : DataW.Trod enc P w base spare held t v d ps) :
    ∃ x0 x1 x2 x3 x4 x5 x6 x7, v = .agg #[.int k x0, .int k x1, .int k x2, .int k x3, .int k x4, .int k x5, .int k x6, .int k x7] ∧ d = .agg [.agg [.lit (.int k x0), .lit (.int k x1), .lit (.int k x2), .lit (.int k x3)], .agg [.lit (.int k x4), .lit (.int k x5), .lit (.int k x6), .lit (.int k x7)]] ∧ ps = [] ∧
      (Lit.int k x0).wf = true ∧ (Lit.int k x1).wf = true ∧ (Lit.int k x2).wf = true ∧ (Lit.int k x3).wf = true ∧ (Lit.int k x4).wf = true ∧ (Lit.int k x5).wf = true ∧ (Lit.int k x6).wf = true ∧ (Lit.int k x7).wf = true := by
  obtain ⟨cs, rfl, hsz⟩ := okWide_array ht hval
  obtain ⟨c0, c1, c2, c3, c4, c5, c6, c7, rfl⟩ := array8 (hsz.trans hC)
  obtain ⟨fuel, hf⟩ := hd
  obtain ⟨xs, m, _, hx, _, hlen, hall⟩ := DataW.trod_array ht hf
  match xs, hlen with
  | [y0, y1], _ =>
    have g0 := hall 0 (by decide)
    have g1 := hall 1 (by decide)
    simp [Value.cells, hc] at g0 g1
    obtain ⟨x0, x1, x2, x3, rfl, rfl, rfl, rfl, z0, w0, w1, w2, w3⟩ := open_row4 he hi h1 g0
    obtain ⟨x4, x5, x6, x7, rfl, rfl, rfl, rfl, z1, w4, w5, w6, w7⟩ := open_row4 he hi h1 g1
    subst z0 z1
    simp only [Prod.mk.injEq] at hx
    obtain ⟨rfl, rfl⟩ := hx
    exact ⟨x0, x1, x2, x3, x4, x5, x6, x7, rfl, rfl, by simp, w0, w1, w2, w3, w4, w5, w6, w7⟩
theorem shut_arr24 {t e i : TypeId} {k : IntKind} {x0 x1 x2 x3 x4 x5 x6 x7 : Int} (ht : P.underlying t = some (.array 2 e)) (he : P.underlying e = some (.array 4 i)) (hi : P.underlying i = some (.int k)) (hC : P.cellsOf t = 8) (hc : P.cellsOf e = 4) (h1 : P.cellsOf i = 1)
    (w0 : (Lit.int k x0).wf = true) (w1 : (Lit.int k x1).wf = true) (w2 : (Lit.int k x2).wf = true) (w3 : (Lit.int k x3).wf = true) (w4 : (Lit.int k x4).wf = true) (w5 : (Lit.int k x5).wf = true) (w6 : (Lit.int k x6).wf = true) (w7 : (Lit.int k x7).wf = true) :
    DataW.Trod enc P w base spare held t (.agg #[.int k x0, .int k x1, .int k x2, .int k x3, .int k x4, .int k x5, .int k x6, .int k x7]) (.agg [.agg [.lit (.int k x0), .lit (.int k x1), .lit (.int k x2), .lit (.int k x3)], .agg [.lit (.int k x4), .lit (.int k x5), .lit (.int k x6), .lit (.int k x7)]]) [] :=
  ⟨3, by simp [DataW.trod, Value.cells, ht, he, hi, hC, hc, h1, w0, w1, w2, w3, w4, w5, w6, w7, List.range, List.range.loop]⟩
end
end Go.Proofs.Ytchjneodjaakdaa
