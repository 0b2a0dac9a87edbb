/-
  Cells of own blocks, told of one world, and of all that have grown from it.
-/
import Derived.Test.YtchjneodjaakdaaGrown
import Derived.Test.YtchjneodjaakdaaReg
namespace Go.Proofs.Ytchjneodjaakdaa
open Go.RowKit

/-- Block, place, value. -/
def CellsAt (w : World) : List (Nat × Nat × Value) → Prop
  | [] => True
  | x :: l => (w.cell? ⟨x.1, x.2.1, none⟩ = some x.2.2 ∧ x.1 < w.heap.size) ∧ CellsAt w l
theorem CellsAt.grown {w w' : World} (g : Grown w w') : ∀ {l : List (Nat × Nat × Value)}, CellsAt w l → CellsAt w' l
  | [], _ => trivial
  | _ :: _, h => ⟨⟨grown_cellAt g h.1.2 h.1.1, Nat.lt_of_lt_of_le h.1.2 g.2.2⟩, CellsAt.grown g h.2⟩
theorem CellsAt.drew {w : World} {l : List (Nat × Nat × Value)} (h : CellsAt w l) : CellsAt w.drew l := h.grown (Grown.drew (Grown.refl w))
theorem CellsAt.alloc {w : World} {l : List (Nat × Nat × Value)} (h : CellsAt w l) (cs : Array Value) (T : TypeId) : CellsAt (w.alloc (.cells cs T)) l := h.grown (Grown.alloc (Grown.refl w) cs T)
theorem CellsAt.get {w : World} : ∀ {l : List (Nat × Nat × Value)}, CellsAt w l → ∀ (i : Nat) (x : Nat × Nat × Value), l[i]? = some x → w.cell? ⟨x.1, x.2.1, none⟩ = some x.2.2
  | [], _, i, x, hi => by simp at hi
  | y :: l, h, 0, x, hi => by
    simp at hi; subst hi; exact h.1.1
  | y :: l, h, i + 1, x, hi => CellsAt.get h.2 i x (by simpa using hi)
/-- A world that has the cells, and has grown from another one. -/
def Keeps (w0 : World) (l : List (Nat × Nat × Value)) (w : World) : Prop := CellsAt w l ∧ Grown w0 w
theorem Keeps.grown {w0 w w' : World} {l : List (Nat × Nat × Value)} (h : Keeps w0 l w) (g : Grown w w') : Keeps w0 l w' := ⟨h.1.grown g, Grown.trans' h.2 g⟩
theorem Keeps.drew {w0 w : World} {l : List (Nat × Nat × Value)} (h : Keeps w0 l w) : Keeps w0 l w.drew := h.grown (Grown.drew (Grown.refl w))
theorem held_callK {w0 : World} {l : List (Nat × Nat × Value)} {P : Program} {f : FuncId} {args : Array Value} {v : Value} (x : Held (Keeps w0 l))
    (h : Calls P f args x.w fun e w' => e = .returned v ∧ Grown x.w w') : Calls P f args x.w fun e w'' => e = .returned v ∧ ∃ y : Held (Keeps w0 l), w'' = y.w :=
  held_call (fun _ _ h hg => h.grown hg) x h
/-- A block of two cells more. -/
theorem Keeps.new2 {w0 w : World} {l : List (Nat × Nat × Value)} (h : Keeps w0 l w) (x y : Value) (T : TypeId) : Keeps w0 ((w.heap.size, 0, x) :: (w.heap.size, 1, y) :: l) (w.alloc (.cells #[x, y] T)) :=
  ⟨⟨⟨by simp [go_sem], by simp⟩, ⟨by simp [go_sem], by simp⟩, h.1.alloc _ _⟩, Grown.trans' h.2 (Grown.alloc (Grown.refl w) _ _)⟩
end Go.Proofs.Ytchjneodjaakdaa
