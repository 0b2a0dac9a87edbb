/-
  A parameter that is an act (u8, u64, u64, i64): opened and shut again.
-/
import Derived.Test.YtcpgbhmddfakgaaArr
import Derived.Deep.DeepCutAuto
namespace Go.Proofs.Ytcpgbhmddfakgaa
open Go.ChangeShapes Go.WideShapes Go.RowKit Go.Joins Go.ChangeAt Go.Deep
section
variable {H : Type} {enc : TypeId × Value → H} {P : Program} {w : World} {base : Nat} {spare : Nat → Bool} {held : Bool}

theorem open_act {r : Reach} {b0 : Nat} {t : TypeId} {f0 f1 f2 f3 : Field} {v : Value} {d : DataW H} {p : List MemPlace} (hs : P.underlying t = some (.struct #[f0, f1, f2, f3])) (hone : oneCellFields P #[f0, f1, f2, f3] = true) (hC : P.cellsOf t = 4)
    (u0 : P.underlying f0.type = some (.int .u8)) (u1 : P.underlying f1.type = some (.int .u64)) (u2 : P.underlying f2.type = some (.int .u64)) (u3 : P.underlying f3.type = some (.int .i64))
    (hv : Value.okWide P w r b0 t v) (h : DataW.Trod enc P w base spare held t v d p) :
    ∃ x0 x1 x2 x3, v = .agg #[.int .u8 x0, .int .u64 x1, .int .u64 x2, .int .i64 x3] ∧ d = .agg [.lit (.int .u8 x0), .lit (.int .u64 x1), .lit (.int .u64 x2), .lit (.int .i64 x3)] ∧ p = [] ∧ (Lit.int .u8 x0).wf = true ∧ (Lit.int .u64 x1).wf = true ∧ (Lit.int .u64 x2).wf = true ∧ (Lit.int .i64 x3).wf = true := by
  obtain ⟨v0, v1, v2, v3, y0, y1, y2, y3, n, rfl, rfl, rfl, h0, h1, h2, h3⟩ := open_agg4 hs hone hC hv h
  obtain ⟨x0, e0, rfl, w0⟩ := DataW.trod_int u0 h0
  obtain ⟨x1, e1, rfl, w1⟩ := DataW.trod_int u1 h1
  obtain ⟨x2, e2, rfl, w2⟩ := DataW.trod_int u2 h2
  obtain ⟨x3, e3, rfl, w3⟩ := DataW.trod_int u3 h3
  simp only [List.cons.injEq, and_true] at e0 e1 e2 e3
  subst e0 e1 e2 e3
  exact ⟨x0, x1, x2, x3, rfl, rfl, rfl, w0, w1, w2, w3⟩
theorem shut_act {t : TypeId} {f0 f1 f2 f3 : Field} {x0 x1 x2 x3 : Int} (hs : P.underlying t = some (.struct #[f0, f1, f2, f3])) (hone : oneCellFields P #[f0, f1, f2, f3] = true) (hC : P.cellsOf t = 4)
    (u0 : P.underlying f0.type = some (.int .u8)) (u1 : P.underlying f1.type = some (.int .u64)) (u2 : P.underlying f2.type = some (.int .u64)) (u3 : P.underlying f3.type = some (.int .i64))
    (w0 : (Lit.int .u8 x0).wf = true) (w1 : (Lit.int .u64 x1).wf = true) (w2 : (Lit.int .u64 x2).wf = true) (w3 : (Lit.int .i64 x3).wf = true) :
    DataW.Trod enc P w base spare held t (.agg #[.int .u8 x0, .int .u64 x1, .int .u64 x2, .int .i64 x3]) (.agg [.lit (.int .u8 x0), .lit (.int .u64 x1), .lit (.int .u64 x2), .lit (.int .i64 x3)]) [] := by
  have t0 : DataW.trod enc P w base spare held 1 f0.type [.int .u8 x0] = some (.lit (.int .u8 x0), []) := by simp [DataW.trod, u0, w0]
  have t1 : DataW.trod enc P w base spare held 1 f1.type [.int .u64 x1] = some (.lit (.int .u64 x1), []) := by simp [DataW.trod, u1, w1]
  have t2 : DataW.trod enc P w base spare held 1 f2.type [.int .u64 x2] = some (.lit (.int .u64 x2), []) := by simp [DataW.trod, u2, w2]
  have t3 : DataW.trod enc P w base spare held 1 f3.type [.int .i64 x3] = some (.lit (.int .i64 x3), []) := by simp [DataW.trod, u3, w3]
  have h := shut_agg4 (enc := enc) (w := w) (base := base) (spare := spare) (held := held) hs hone hC ⟨1, t0⟩ ⟨1, t1⟩ ⟨1, t2⟩ ⟨1, t3⟩
  simpa using h
end
end Go.Proofs.Ytcpgbhmddfakgaa
