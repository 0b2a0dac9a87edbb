/-
  Plain data, as it lies: its cells are what the datum says, one behind the other.
-/
import Derived.Test.YthajaakoiclkbaaGreatDoorPlain
namespace Go.Proofs.YthajaakoiclkbaaGreatDoor
open Go.ChangeShapes Go.WideShapes Go.RowKit

def flatD {H : Type} : Nat → DataW H → List Value
  | 0, _ => []
  | _ + 1, .lit (.int k n) => [.int k n]
  | _ + 1, .lit (.bool b) => [.bool b]
  | _ + 1, .lit (.string s) => [.string ⟨s.toArray⟩]
  | f + 1, .agg l => l.flatMap (flatD f)
  | _ + 1, _ => []
theorem arr_flat {α : Type} {cs : List Value} {k : Nat} {F : α → List Value} : ∀ (xs : List α) (j : Nat), (∀ i y, xs[i]? = some y → (cs.drop ((j + i) * k)).take k = F y) → (cs.drop (j * k)).take (xs.length * k) = xs.flatMap F
  | [], j, h => by simp
  | a :: l, j, h => by
    have h1 := h 0 a rfl
    have h2 := arr_flat l (j + 1) fun i y hy => by
      have := h (i + 1) y (by simpa using hy)
      rw [show j + (i + 1) = j + 1 + i by omega] at this
      exact this
    rw [List.length_cons, show (l.length + 1) * k = k + l.length * k by rw [Nat.add_mul]; omega, List.take_add, List.drop_drop, show j * k + k = (j + 1) * k by rw [Nat.add_mul]; omega, h2]
    rw [Nat.add_zero] at h1
    rw [h1]
    rfl
theorem str_flat {α : Type} {g : TypeId → Option (List Kd)} {cells : TypeId → Nat} {cs : List Value} {tr : Field → Option α} {F : α → List Value} : ∀ (fs : List Field) (off : Nat) (ks : List Kd) (xs : List α), kindsF g cells fs off = some ks → fs.mapM tr = some xs →
    (∀ f ∈ fs, ∀ y, tr f = some y → (cs.drop f.offset).take (cells f.type) = F y) → (cs.drop off).take ks.length = xs.flatMap F
  | [], off, ks, xs, h, hx, _ => by
    simp [kindsF] at h
    simp at hx
    subst h hx
    simp
  | f :: fs, off, ks, xs, h, hx, hf => by
    simp only [List.mapM_cons] at hx
    cases ha : tr f with
    | none => rw [ha] at hx; cases hx
    | some y =>
      rw [ha] at hx
      cases hl : fs.mapM tr with
      | none => rw [hl] at hx; cases hx
      | some ys =>
        rw [hl] at hx
        cases hx
        simp only [kindsF] at h
        split at h
        · rename_i k1 hk
          split at h
          · rename_i hc
            split at h
            · rename_i k2 h2
              cases h
              have a1 := hf f (by simp) y ha
              rw [hc.1, hc.2] at a1
              have a2 := str_flat fs _ _ _ h2 hl fun q hq => hf q (by simp [hq])
              rw [List.length_append, List.take_add, List.drop_drop, a1, a2]
              rfl
            · cases h
          · cases h
        · cases h
theorem flatMap_map {α β γ : Type} (l : List α) (g : α → β) (F : β → List γ) : (l.map g).flatMap F = l.flatMap fun a => F (g a) := by
  induction l with
  | nil => rfl
  | cons a l ih => simp [ih]
variable {H : Type} {enc : TypeId × Value → H} {P : Program}
theorem plain_flat : ∀ (f : Nat) {t : TypeId} {ks : List Kd}, kindsT P f t = some ks → ∀ {w : World} {base : Nat} {sp : Nat → Bool} {held : Bool} {n : Nat} {cs : List Value} {x : DataW H × List MemPlace}, DataW.trod enc P w base sp held n t cs = some x → cs = flatD f x.1
  | 0, t, ks, h => by simp [kindsT] at h
  | f + 1, t, ks, h => by
    rename_i w base sp held n cs x
    intro hx
    have hk1 := plain_kinds (f + 1) h hx
    simp only [kindsT] at h
    cases n with
    | zero => simp [DataW.trod] at hx
    | succ n =>
      split at h
      · cases h
        rename_i hu
        obtain ⟨v, vs, rfl, ⟨y, rfl⟩, hn⟩ := hk1.cons
        obtain rfl := hn.nil
        simp only [DataW.trod, hu] at hx
        cases hx
        rfl
      · cases h
        rename_i k hu
        obtain ⟨v, vs, rfl, ⟨y, rfl, hw⟩, hn⟩ := hk1.cons
        obtain rfl := hn.nil
        simp only [DataW.trod, hu, hw, and_self, if_true] at hx
        cases hx
        rfl
      · cases h
        rename_i hu
        obtain ⟨v, vs, rfl, ⟨y, rfl, hw⟩, hn⟩ := hk1.cons
        obtain rfl := hn.nil
        simp only [DataW.trod, hu, hw, if_true] at hx
        cases hx
        rfl
      · rename_i m e hu
        split at h
        · rename_i k1 hk
          split at h
          · rename_i hc
            cases h
            obtain ⟨xs, q, _, hxx, hlen, hn, hall⟩ := DataW.trod_array hu hx
            have := arr_flat (cs := cs) (k := k1.length) (F := fun y : DataW H × List MemPlace => flatD f y.1) xs 0 fun i y hy => by
              have hi : i < m := by
                have := (List.getElem?_eq_some_iff.1 hy).1
                omega
              have h1 := (hall i hi).trans hy
              rw [hc.1] at h1
              rw [Nat.zero_add]
              exact plain_flat f hk h1
            rw [Nat.zero_mul, List.drop_zero, hn, ← hc.2, ← hlen, List.take_length] at this
            rw [hxx]
            simp only [flatD]
            rw [flatMap_map]
            exact this
          · cases h
        · cases h
      · rename_i fs hu
        split at h
        · rename_i k1 hk
          split at h
          · rename_i hc
            cases h
            have hx2 : (if cs.length = P.cellsOf t then (fs.toList.mapM fun f => DataW.trod enc P w base sp held n f.type ((cs.drop f.offset).take (P.cellsOf f.type))).map fun xs => ((DataW.agg (xs.map (·.1)) : DataW H), xs.flatMap (·.2)) else none) = some x := by
              rw [← hx]; simp only [DataW.trod, hu]
            split at hx2
            · rename_i hlen
              cases hm : fs.toList.mapM fun f => DataW.trod enc P w base sp held n f.type ((cs.drop f.offset).take (P.cellsOf f.type)) with
              | none => rw [hm] at hx2; cases hx2
              | some xs =>
                rw [hm] at hx2
                cases hx2
                have hfs := kindsF_each hk
                have := str_flat (cs := cs) (F := fun y : DataW H × List MemPlace => flatD f y.1) fs.toList 0 ks xs hk hm fun g hg y hy => by
                  obtain ⟨ls, hl⟩ := hfs g hg
                  exact plain_flat f hl hy
                rw [List.drop_zero, ← hc, ← hlen, List.take_length] at this
                simp only [flatD]
                rw [flatMap_map]
                exact this
            · cases hx2
          · cases h
        · cases h
      · cases h
end Go.Proofs.YthajaakoiclkbaaGreatDoor
