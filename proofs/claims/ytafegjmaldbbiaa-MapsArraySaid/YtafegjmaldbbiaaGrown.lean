/-
  Small laws on worlds that have grown: what was there is there; a struct's or array's cells behind a call.
-/
import Derived.Test.YtafegjmaldbbiaaBv
import Derived.Handy
namespace Go.Proofs.Ytafegjmaldbbiaa
open Go.RowKit

theorem Grown.trans' {a b c : World} (h1 : Grown a b) (h2 : Grown b c) : Grown a c := by
  exact ⟨World.keptBut_trans h1.1 h2.1, fun x => (h2.2.1 x).trans (h1.2.1 x), Nat.le_trans h1.2.2 h2.2.2⟩
theorem grown_drewN {a b : World} (h : Grown a b) (n : Nat) : Grown a (b.drewN n) := by
  induction n with
  | zero => exact h
  | succ n ih => exact ih.drew
theorem grown_block {W W' : World} (h : Grown W W') {b : Nat} (hb : b < W.heap.size) : W'.heap[b]? = W.heap[b]? := by
  have h1 := h.1.2.2 b hb
  have h2 : b < W'.heap.size := Nat.lt_of_lt_of_le hb h.2.2
  have e1 : W.heap[b]? = some W.heap[b] := Array.getElem?_eq_getElem hb
  have e2 : W'.heap[b]? = some W'.heap[b] := Array.getElem?_eq_getElem h2
  rw [e1, e2] at h1 ⊢
  generalize W.heap[b] = o at *
  generalize W'.heap[b] = o' at *
  cases o <;> cases o' <;> simp_all
  case cells.cells =>
    obtain ⟨rfl, rfl, h5, h6⟩ := h1
    apply Array.ext_getElem?
    exact h6
theorem grown_cell {W W' : World} (h : Grown W W') {a : Addr} (hb : a.block < W.heap.size) : W'.cell? a = W.cell? a := by
  unfold World.cell?
  rw [grown_block h hb]
theorem grown_cellAt {W W' : World} (h : Grown W W') {a : Addr} {v : Value} (hb : a.block < W.heap.size) (hc : W.cell? a = some v) : W'.cell? a = some v := by
  rw [grown_cell h hb]; exact hc
end Go.Proofs.Ytafegjmaldbbiaa
