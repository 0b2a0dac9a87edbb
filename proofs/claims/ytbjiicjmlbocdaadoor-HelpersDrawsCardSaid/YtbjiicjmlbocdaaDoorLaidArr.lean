/-
  A package's variable that is an array of numbers, as the program's text lays it: its cells.
-/
import Derived.Test.YtbjiicjmlbocdaaDoorEx14
import Derived.OpenShut
import Derived.MakeChecks
import Derived.Deep.Fields
import Derived.ChangeSame
namespace Go.Proofs.YtbjiicjmlbocdaaDoor.Ex
open Go Go.RowKit Go.ChangeShapes Go.WideShapes Go.WideMaps Go.WideElems Go.ChangeAt Go.Deep

theorem cells_of_ints {H : Type} {enc : TypeId × Value → H} {P : Program} {w : World} {base : Nat} {spare : Nat → Bool} {held : Bool} {fuel : Nat} {t e : TypeId} {len : Nat} {cs : List Value} {k : IntKind} {ns : List Int} {x : DataW H × List MemPlace}
    (ht : P.underlying t = some (.array len e)) (he : P.underlying e = some (.int k)) (hc : P.cellsOf e = 1) (hct : P.cellsOf t = len) (h : DataW.trod enc P w base spare held fuel t cs = some x) (hx : x.1 = .agg (ns.map fun n => .lit (.int k n))) : cs = ns.map (.int k) := by
  obtain ⟨xs, m, _, hxx, hlen, hn, hall⟩ := DataW.trod_array ht h
  rw [hct] at hlen
  simp only [hc] at hall
  have hm : xs.map (·.1) = ns.map fun n => .lit (.int k n) := by
    have h1 := congrArg Prod.fst hxx
    rw [hx] at h1
    injection h1 with h2
    exact h2.symm
  have hl : ns.length = len := by
    have := congrArg List.length hm
    simp at this
    omega
  apply List.ext_getElem?
  intro i
  by_cases hi : i < len
  · have hn0 : ∃ n, ns[i]? = some n := ⟨_, List.getElem?_eq_getElem (by omega)⟩
    obtain ⟨n, hn0⟩ := hn0
    obtain ⟨y, hy⟩ : ∃ y, xs[i]? = some y := ⟨_, List.getElem?_eq_getElem (by omega)⟩
    have hh := (hall i hi).trans hy
    obtain ⟨n', e1, rfl, _⟩ := DataW.trod_int he hh
    have h2 : (xs.map (·.1))[i]? = some (.lit (.int k n')) := by rw [List.getElem?_map, hy]; rfl
    rw [hm, List.getElem?_map, hn0] at h2
    simp at h2
    subst h2
    have h3 := congrArg (·[0]?) e1
    simp at h3
    rw [List.getElem?_map, hn0]
    simpa using h3
  · rw [List.getElem?_eq_none (by omega), List.getElem?_eq_none (by simp; omega)]
/-- An array of structs of two numbers. -/
theorem cells_of_pairs {H : Type} {enc : TypeId × Value → H} {P : Program} {w : World} {base : Nat} {spare : Nat → Bool} {held : Bool} {fuel : Nat} {t e : TypeId} {len : Nat} {cs : List Value} {k j : IntKind} {f0 f1 : Field} {ns : List (Int × Int)} {x : DataW H × List MemPlace}
    (ht : P.underlying t = some (.array len e)) (he : P.underlying e = some (.struct #[f0, f1])) (hone : oneCellFields P #[f0, f1] = true) (hc : P.cellsOf e = 2) (hct : P.cellsOf t = 2 * len) (u0 : P.underlying f0.type = some (.int k)) (u1 : P.underlying f1.type = some (.int j))
    (h : DataW.trod enc P w base spare held fuel t cs = some x) (hx : x.1 = .agg (ns.map fun n => .agg [.lit (.int k n.1), .lit (.int j n.2)])) : cs = (ns.map fun n => [Value.int k n.1, Value.int j n.2]).flatten := by
  obtain ⟨xs, m, _, hxx, hlen, hn, hall⟩ := DataW.trod_array ht h
  rw [hct] at hlen
  simp only [hc] at hall
  have hm : xs.map (·.1) = ns.map fun n => .agg [.lit (.int k n.1), .lit (.int j n.2)] := by
    have h1 := congrArg Prod.fst hxx
    rw [hx] at h1
    injection h1 with h2
    exact h2.symm
  have hl : ns.length = len := by
    have := congrArg List.length hm
    simp at this
    omega
  have each : ∀ (i : Nat), i < len → ∀ n, ns[i]? = some n → (cs.drop (i * 2)).take 2 = [Value.int k n.1, Value.int j n.2] := by
    intro i hi n hn0
    obtain ⟨y, hy⟩ : ∃ y, xs[i]? = some y := ⟨_, List.getElem?_eq_getElem (by omega)⟩
    have hh := (hall i hi).trans hy
    have h2 : (xs.map (·.1))[i]? = some y.1 := by rw [List.getElem?_map, hy]; rfl
    rw [hm, List.getElem?_map, hn0] at h2
    simp only [Option.map_some, Option.some.injEq] at h2
    obtain ⟨y0, y1, q, hyy, hll, h0, h1⟩ := trod_struct2 he hh
    rw [hc] at hll
    obtain ⟨o0, k0⟩ := hone_of hone 0 f0 rfl
    obtain ⟨o1, k1⟩ := hone_of hone 1 f1 rfl
    generalize (cs.drop (i * 2)).take 2 = ds at h0 h1 hll ⊢
    match ds, hll with
    | [c0, c1], _ =>
      simp only [o0, k0, o1, k1, List.drop_zero, List.take_succ_cons, List.take_zero, List.drop_succ_cons] at h0 h1
      obtain ⟨n0, e0, rfl, _⟩ := DataW.trod_int u0 h0
      obtain ⟨n1, e1, rfl, _⟩ := DataW.trod_int u1 h1
      rw [hyy] at h2
      simp at h2 e0 e1
      rw [e0, e1, h2.1, h2.2]
  have all : ∀ (l : List (Int × Int)) (i : Nat), l = ns.drop i → cs.drop (i * 2) = (l.map fun n => [Value.int k n.1, Value.int j n.2]).flatten := by
    intro l
    induction l with
    | nil =>
      intro i hi
      have : ns.length ≤ i := by
        have := congrArg List.length hi
        simp at this
        omega
      simp only [List.map_nil, List.flatten_nil]
      exact List.drop_eq_nil_of_le (by omega)
    | cons n l ih =>
      intro i hi
      have hn0 : ns[i]? = some n := by
        have := congrArg (·[0]?) hi
        simpa using this.symm
      have hilt : i < len := by rw [← hl]; exact (List.getElem?_eq_some_iff.1 hn0).1
      have h1 := each i hilt n hn0
      have h2 := ih (i + 1) (by
        have := congrArg (List.drop 1) hi
        simpa using this)
      rw [← List.take_append_drop 2 (cs.drop (i * 2)), h1, List.drop_drop, show i * 2 + 2 = (i + 1) * 2 by omega, h2]
      rfl
  have := all ns 0 (by simp)
  simpa using this
end Go.Proofs.YtbjiicjmlbocdaaDoor.Ex
