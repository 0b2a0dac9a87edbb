/-
  Contracts of package spans: places.
-/
import Derived.Test.YtchjneodjaakdaaSp3
import Derived.Deep.DeepCutAuto
namespace Go.Proofs.Ytchjneodjaakdaa
open Go.RowKit
open Spn (Sp umax umin smax smin plusS minusS emptyS okS tightS anyS settledS commonS minW maxW endsS sendsS plainS signedS constS uptoS halfW smulP smulK wayA wayB cyA cyB onesW addR subR mulR divR modR andR orR xorR lshR rshR arshR low32R alikeS)
attribute [local go_sem] u64_wrap BitVec.ofInt_add BitVec.ofInt_mul ofInt_sub' ofInt_N ofInt_Nw u64_and u64_or u64_xor u64_andNot wrap64_N ofInt_Z64 max_N min_N max_Z min_Z max_Z0 min_Zm1 w_add w_sub w_mul w_div

/-- Two arguments that are settled, and the result's place. -/
structure Set2 (w : World) (A B R : Nat) (a b : Sp) (W : World) : Prop where
  a0 : W.cell? ⟨A, 0, none⟩ = some (.int .u64 (N a.lo))
  a1 : W.cell? ⟨A, 1, none⟩ = some (.int .u64 (N a.hi))
  a2 : W.cell? ⟨A, 2, none⟩ = some (.int .i64 (Z a.slo))
  a3 : W.cell? ⟨A, 3, none⟩ = some (.int .i64 (Z a.shi))
  b0 : W.cell? ⟨B, 0, none⟩ = some (.int .u64 (N b.lo))
  b1 : W.cell? ⟨B, 1, none⟩ = some (.int .u64 (N b.hi))
  b2 : W.cell? ⟨B, 2, none⟩ = some (.int .i64 (Z b.slo))
  b3 : W.cell? ⟨B, 3, none⟩ = some (.int .i64 (Z b.shi))
  r0 : W.cell? ⟨R, 0, none⟩ = some (.int .u64 0)
  r1 : W.cell? ⟨R, 1, none⟩ = some (.int .u64 0)
  r2 : W.cell? ⟨R, 2, none⟩ = some (.int .i64 0)
  r3 : W.cell? ⟨R, 3, none⟩ = some (.int .i64 0)
  f0 : W.frozen? ⟨R, 0, none⟩ = false
  f1 : W.frozen? ⟨R, 1, none⟩ = false
  f2 : W.frozen? ⟨R, 2, none⟩ = false
  f3 : W.frozen? ⟨R, 3, none⟩ = false
  hA : A < W.heap.size
  hB : B < W.heap.size
  hR : R < W.heap.size
  gr : Grown w W
  lo : w.heap.size ≤ R
theorem Set2.grown {w : World} {A B R : Nat} {a b : Sp} {W W' : World} (h : Set2 w A B R a b W) (g : Grown W W') : Set2 w A B R a b W' :=
  ⟨grown_cellAt g h.hA h.a0, grown_cellAt g h.hA h.a1, grown_cellAt g h.hA h.a2, grown_cellAt g h.hA h.a3, grown_cellAt g h.hB h.b0, grown_cellAt g h.hB h.b1, grown_cellAt g h.hB h.b2, grown_cellAt g h.hB h.b3,
   grown_cellAt g h.hR h.r0, grown_cellAt g h.hR h.r1, grown_cellAt g h.hR h.r2, grown_cellAt g h.hR h.r3, (g.2.1 _).trans h.f0, (g.2.1 _).trans h.f1, (g.2.1 _).trans h.f2, (g.2.1 _).trans h.f3,
   Nat.lt_of_lt_of_le h.hA g.2.2, Nat.lt_of_lt_of_le h.hB g.2.2, Nat.lt_of_lt_of_le h.hR g.2.2, Grown.trans' h.gr g, h.lo⟩
theorem set4 {W : World} {B : Nat} {u0 u1 u2 u3 : Value} (h0 : W.cell? ⟨B, 0, none⟩ = some u0) (h1 : W.cell? ⟨B, 1, none⟩ = some u1) (h2 : W.cell? ⟨B, 2, none⟩ = some u2) (h3 : W.cell? ⟨B, 3, none⟩ = some u3) (v0 v1 v2 v3 : Value) :
    let W' := (((W.setCell ⟨B, 0, none⟩ v0).setCell ⟨B, 1, none⟩ v1).setCell ⟨B, 2, none⟩ v2).setCell ⟨B, 3, none⟩ v3
    W'.cell? ⟨B, 0, none⟩ = some v0 ∧ W'.cell? ⟨B, 1, none⟩ = some v1 ∧ W'.cell? ⟨B, 2, none⟩ = some v2 ∧ W'.cell? ⟨B, 3, none⟩ = some v3 ∧ (∀ b o, ¬ b = B → W'.cell? ⟨b, o, none⟩ = W.cell? ⟨b, o, none⟩) ∧ (∀ a, W'.frozen? a = W.frozen? a) ∧ W'.heap.size = W.heap.size := by
  intro W'
  have ne : ∀ i j : Nat, ¬ i = j → (⟨B, i, none⟩ : Addr) ≠ ⟨B, j, none⟩ := fun i j h e => by cases e; exact h rfl
  have nb : ∀ (b o j : Nat), ¬ b = B → (⟨B, j, none⟩ : Addr) ≠ ⟨b, o, none⟩ := fun b o j h e => by cases e; exact h rfl
  refine ⟨?_, ?_, ?_, ?_, ?_, ?_, ?_⟩
  · show (World.setCell _ _ _).cell? _ = _
    rw [World.cell?_setCell_other _ _ _ _ (ne 3 0 (by decide)), World.cell?_setCell_other _ _ _ _ (ne 2 0 (by decide)), World.cell?_setCell_other _ _ _ _ (ne 1 0 (by decide))]
    exact World.cell?_setCell_same _ _ _ h0
  · show (World.setCell _ _ _).cell? _ = _
    rw [World.cell?_setCell_other _ _ _ _ (ne 3 1 (by decide)), World.cell?_setCell_other _ _ _ _ (ne 2 1 (by decide))]
    refine World.cell?_setCell_same _ _ _ (u := u1) ?_
    rw [World.cell?_setCell_other _ _ _ _ (ne 0 1 (by decide))]
    exact h1
  · show (World.setCell _ _ _).cell? _ = _
    rw [World.cell?_setCell_other _ _ _ _ (ne 3 2 (by decide))]
    refine World.cell?_setCell_same _ _ _ (u := u2) ?_
    rw [World.cell?_setCell_other _ _ _ _ (ne 1 2 (by decide)), World.cell?_setCell_other _ _ _ _ (ne 0 2 (by decide))]
    exact h2
  · refine World.cell?_setCell_same _ _ _ (u := u3) ?_
    rw [World.cell?_setCell_other _ _ _ _ (ne 2 3 (by decide)), World.cell?_setCell_other _ _ _ _ (ne 1 3 (by decide)), World.cell?_setCell_other _ _ _ _ (ne 0 3 (by decide))]
    exact h3
  · intro b o h
    show (World.setCell _ _ _).cell? _ = _
    rw [World.cell?_setCell_other _ _ _ _ (nb b o 3 h), World.cell?_setCell_other _ _ _ _ (nb b o 2 h), World.cell?_setCell_other _ _ _ _ (nb b o 1 h), World.cell?_setCell_other _ _ _ _ (nb b o 0 h)]
  · intro a
    show (World.setCell _ _ _).frozen? _ = _
    rw [World.frozen?_setCell, World.frozen?_setCell, World.frozen?_setCell, World.frozen?_setCell]
  · show (World.setCell _ _ _).heap.size = _
    rw [World.size_setCell, World.size_setCell, World.size_setCell, World.size_setCell]
abbrev three (w : World) (x y : Array Value) : World := ((w.alloc (.cells x 49)).alloc (.cells y 49)).alloc (.cells #[.int .u64 0, .int .u64 0, .int .i64 0, .int .i64 0] 49)
theorem set2_of {w wn : World} {x0 x1 x2 x3 y0 y1 y2 y3 : Value} (a b : Sp) (G : Grown (three w #[x0, x1, x2, x3] #[y0, y1, y2, y3]) wn) :
    Set2 w w.heap.size (w.heap.size + 1) (w.heap.size + 1 + 1) a b ((((((((wn.setCell ⟨w.heap.size, 0, none⟩ (.int .u64 (N a.lo))).setCell ⟨w.heap.size, 1, none⟩ (.int .u64 (N a.hi))).setCell ⟨w.heap.size, 2, none⟩ (.int .i64 (Z a.slo))).setCell ⟨w.heap.size, 3, none⟩ (.int .i64 (Z a.shi))).setCell ⟨w.heap.size + 1, 0, none⟩ (.int .u64 (N b.lo))).setCell ⟨w.heap.size + 1, 1, none⟩ (.int .u64 (N b.hi))).setCell ⟨w.heap.size + 1, 2, none⟩ (.int .i64 (Z b.slo))).setCell ⟨w.heap.size + 1, 3, none⟩ (.int .i64 (Z b.shi))) := by
  have gc := gcellI G
  have gf := gfrozI G
  have gz := G.2.2
  have A0 : ∀ (i : Nat) (v : Value), i < 4 → (#[x0, x1, x2, x3] : Array Value)[i]? = some v → wn.cell? ⟨w.heap.size, i, none⟩ = some v := fun i v hi hv => by rw [gc _ _ (by simp; omega)]; simp [go_sem, hv]
  have B0 : ∀ (i : Nat) (v : Value), i < 4 → (#[y0, y1, y2, y3] : Array Value)[i]? = some v → wn.cell? ⟨w.heap.size + 1, i, none⟩ = some v := fun i v hi hv => by rw [gc _ _ (by simp)]; simp [go_sem, hv]
  have R0 : ∀ (i : Nat) (v : Value), i < 4 → (#[.int .u64 0, .int .u64 0, .int .i64 0, .int .i64 0] : Array Value)[i]? = some v → wn.cell? ⟨w.heap.size + 1 + 1, i, none⟩ = some v := fun i v hi hv => by rw [gc _ _ (by simp)]; simp [go_sem, hv]
  have F0 : ∀ o, wn.frozen? ⟨w.heap.size + 1 + 1, o, none⟩ = false := fun o => by
    rw [gf]
    exact ((Grown.alloc (Grown.refl _) _ _).2.1 _).trans (((Grown.alloc (Grown.refl _) _ _).2.1 _).trans (((Grown.alloc (Grown.refl _) _ _).2.1 _).trans (by simp [World.frozen?, Array.getElem?_eq_none (show w.heap.size ≤ w.heap.size + 1 + 1 by omega)])))
  have G0 : Grown w wn := Grown.trans' (by go_grown) G
  have gr := (((((((G0.setCell (a := ⟨w.heap.size, 0, none⟩) (Nat.le_refl _) (.int .u64 (N a.lo))).setCell (a := ⟨w.heap.size, 1, none⟩) (Nat.le_refl _) (.int .u64 (N a.hi))).setCell (a := ⟨w.heap.size, 2, none⟩) (Nat.le_refl _) (.int .i64 (Z a.slo))).setCell (a := ⟨w.heap.size, 3, none⟩) (Nat.le_refl _) (.int .i64 (Z a.shi))).setCell (a := ⟨w.heap.size + 1, 0, none⟩) (Nat.le_succ _) (.int .u64 (N b.lo))).setCell (a := ⟨w.heap.size + 1, 1, none⟩) (Nat.le_succ _) (.int .u64 (N b.hi))).setCell (a := ⟨w.heap.size + 1, 2, none⟩) (Nat.le_succ _) (.int .i64 (Z b.slo))).setCell (a := ⟨w.heap.size + 1, 3, none⟩) (Nat.le_succ _) (.int .i64 (Z b.shi))
  obtain ⟨p0, p1, p2, p3, po, pf, ps⟩ := set4 (A0 0 _ (by decide) rfl) (A0 1 _ (by decide) rfl) (A0 2 _ (by decide) rfl) (A0 3 _ (by decide) rfl) (.int .u64 (N a.lo)) (.int .u64 (N a.hi)) (.int .i64 (Z a.slo)) (.int .i64 (Z a.shi))
  generalize (((wn.setCell ⟨w.heap.size, 0, none⟩ (.int .u64 (N a.lo))).setCell ⟨w.heap.size, 1, none⟩ (.int .u64 (N a.hi))).setCell ⟨w.heap.size, 2, none⟩ (.int .i64 (Z a.slo))).setCell ⟨w.heap.size, 3, none⟩ (.int .i64 (Z a.shi)) = V at *
  have n1 : ¬ w.heap.size + 1 = w.heap.size := by omega
  have n2 : ¬ w.heap.size + 1 + 1 = w.heap.size := by omega
  have n3 : ¬ w.heap.size = w.heap.size + 1 := by omega
  have n4 : ¬ w.heap.size + 1 + 1 = w.heap.size + 1 := by omega
  obtain ⟨q0, q1, q2, q3, qo, qf, qs⟩ := set4 ((po _ 0 n1).trans (B0 0 _ (by decide) rfl)) ((po _ 1 n1).trans (B0 1 _ (by decide) rfl)) ((po _ 2 n1).trans (B0 2 _ (by decide) rfl)) ((po _ 3 n1).trans (B0 3 _ (by decide) rfl)) (.int .u64 (N b.lo)) (.int .u64 (N b.hi)) (.int .i64 (Z b.slo)) (.int .i64 (Z b.shi))
  simp at gz
  exact ⟨(qo _ _ n3).trans p0, (qo _ _ n3).trans p1, (qo _ _ n3).trans p2, (qo _ _ n3).trans p3, q0, q1, q2, q3, (qo _ _ n4).trans ((po _ _ n2).trans (R0 0 _ (by decide) rfl)), (qo _ _ n4).trans ((po _ _ n2).trans (R0 1 _ (by decide) rfl)), (qo _ _ n4).trans ((po _ _ n2).trans (R0 2 _ (by decide) rfl)), (qo _ _ n4).trans ((po _ _ n2).trans (R0 3 _ (by decide) rfl)), (qf _).trans ((pf _).trans (F0 0)), (qf _).trans ((pf _).trans (F0 1)), (qf _).trans ((pf _).trans (F0 2)), (qf _).trans ((pf _).trans (F0 3)), by rw [qs, ps]; omega, by rw [qs, ps]; omega, by rw [qs, ps]; omega, gr, by omega⟩
end Go.Proofs.Ytchjneodjaakdaa
