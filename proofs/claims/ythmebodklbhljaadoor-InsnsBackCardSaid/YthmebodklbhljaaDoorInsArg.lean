/-
  A parameter that is an instruction: opened and shut again; the table as the program's text lays it.
-/
import Derived.Test.YthmebodklbhljaaDoorRows
import Derived.Test.YthmebodklbhljaaDoorIns
import Derived.ProofKit
import Derived.LaidMore
import Derived.OpenShut
import Derived.ShutString
import Derived.Lib.SmallJoins
import Derived.Stop.Joined
namespace Go.Proofs.YthmebodklbhljaaDoor
open Go.ChangeShapes Go.WideShapes Go.RowKit Go.Joins Go.ChangeAt Go.Deep

section
variable {H : Type} {enc : TypeId × Value → H} {P : Program} {w : World} {base : Nat} {spare : Nat → Bool} {held : Bool}
theorem array5 {α : Type} {cs : Array α} (h : cs.size = 5) : ∃ c0 c1 c2 c3 c4, cs = #[c0, c1, c2, c3, c4] := by
  obtain ⟨l⟩ := cs
  match l, h with
  | [c0, c1, c2, c3, c4], _ => exact ⟨c0, c1, c2, c3, c4, rfl⟩
theorem trod_struct5 {t : TypeId} {f0 f1 f2 f3 f4 : Field} {fuel : Nat} {cs : List Value} {x : DataW H × List MemPlace} (ht : P.underlying t = some (.struct #[f0, f1, f2, f3, f4])) (h : DataW.trod enc P w base spare held fuel t cs = some x) :
    ∃ y0 y1 y2 y3 y4 n, x = (.agg [y0.1, y1.1, y2.1, y3.1, y4.1], y0.2 ++ (y1.2 ++ (y2.2 ++ (y3.2 ++ y4.2)))) ∧ DataW.trod enc P w base spare held n f0.type ((cs.drop f0.offset).take (P.cellsOf f0.type)) = some y0 ∧ DataW.trod enc P w base spare held n f1.type ((cs.drop f1.offset).take (P.cellsOf f1.type)) = some y1 ∧ DataW.trod enc P w base spare held n f2.type ((cs.drop f2.offset).take (P.cellsOf f2.type)) = some y2 ∧ DataW.trod enc P w base spare held n f3.type ((cs.drop f3.offset).take (P.cellsOf f3.type)) = some y3 ∧ DataW.trod enc P w base spare held n f4.type ((cs.drop f4.offset).take (P.cellsOf f4.type)) = some y4 := by
  obtain ⟨xs, n, _, rfl, hl, hlen, hf⟩ := DataW.trod_struct ht h
  match xs, hlen with
  | [y0, y1, y2, y3, y4], _ => exact ⟨y0, y1, y2, y3, y4, n, by simp, by simpa using hf 0 f0 rfl, by simpa using hf 1 f1 rfl, by simpa using hf 2 f2 rfl, by simpa using hf 3 f3 rfl, by simpa using hf 4 f4 rfl⟩
theorem open_insn {r : Reach} {b0 : Nat} {t : TypeId} {f0 f1 f2 f3 f4 : Field} {v : Value} {d : DataW H} {p : List MemPlace} (hs : P.underlying t = some (.struct #[f0, f1, f2, f3, f4])) (hone : oneCellFields P #[f0, f1, f2, f3, f4] = true) (hC : P.cellsOf t = 5) (u0 : P.underlying f0.type = some (.int .u8)) (u1 : P.underlying f1.type = some (.int .u8)) (u2 : P.underlying f2.type = some (.int .u8)) (u3 : P.underlying f3.type = some (.int .i16)) (u4 : P.underlying f4.type = some (.int .i32))
    (hv : Value.okWide P w r b0 t v) (h : DataW.Trod enc P w base spare held t v d p) :
    ∃ x0 x1 x2 x3 x4, v = .agg #[.int .u8 x0, .int .u8 x1, .int .u8 x2, .int .i16 x3, .int .i32 x4] ∧ d = .agg [.lit (.int .u8 x0), .lit (.int .u8 x1), .lit (.int .u8 x2), .lit (.int .i16 x3), .lit (.int .i32 x4)] ∧ p = [] ∧ (Lit.int .u8 x0).wf = true ∧ (Lit.int .u8 x1).wf = true ∧ (Lit.int .u8 x2).wf = true ∧ (Lit.int .i16 x3).wf = true ∧ (Lit.int .i32 x4).wf = true := by
  obtain ⟨cs, rfl, hsz⟩ := okWide_struct hs hv
  obtain ⟨c0, c1, c2, c3, c4, rfl⟩ := array5 (hsz.trans hC)
  obtain ⟨fuel, hf⟩ := h
  obtain ⟨y0, y1, y2, y3, y4, n, hx, h0, h1, h2, h3, h4⟩ := trod_struct5 hs hf
  obtain ⟨o0, k0⟩ := hone_of hone 0 f0 rfl
  obtain ⟨o1, k1⟩ := hone_of hone 1 f1 rfl
  obtain ⟨o2, k2⟩ := hone_of hone 2 f2 rfl
  obtain ⟨o3, k3⟩ := hone_of hone 3 f3 rfl
  obtain ⟨o4, k4⟩ := hone_of hone 4 f4 rfl
  replace h0 : DataW.trod enc P w base spare held n f0.type [c0] = some y0 := by simpa [Value.cells, o0, k0] using h0
  replace h1 : DataW.trod enc P w base spare held n f1.type [c1] = some y1 := by simpa [Value.cells, o1, k1] using h1
  replace h2 : DataW.trod enc P w base spare held n f2.type [c2] = some y2 := by simpa [Value.cells, o2, k2] using h2
  replace h3 : DataW.trod enc P w base spare held n f3.type [c3] = some y3 := by simpa [Value.cells, o3, k3] using h3
  replace h4 : DataW.trod enc P w base spare held n f4.type [c4] = some y4 := by simpa [Value.cells, o4, k4] using h4
  obtain ⟨x0, e0, rfl, w0⟩ := DataW.trod_int u0 h0
  obtain ⟨x1, e1, rfl, w1⟩ := DataW.trod_int u1 h1
  obtain ⟨x2, e2, rfl, w2⟩ := DataW.trod_int u2 h2
  obtain ⟨x3, e3, rfl, w3⟩ := DataW.trod_int u3 h3
  obtain ⟨x4, e4, rfl, w4⟩ := DataW.trod_int u4 h4
  simp only [List.cons.injEq, and_true] at e0 e1 e2 e3 e4
  subst e0 e1 e2 e3 e4
  simp only [Prod.mk.injEq] at hx
  exact ⟨x0, x1, x2, x3, x4, rfl, hx.1, by simpa using hx.2, w0, w1, w2, w3, w4⟩
theorem shut_insn {t : TypeId} {f0 f1 f2 f3 f4 : Field} {x0 x1 x2 x3 x4 : Int} (hs : P.underlying t = some (.struct #[f0, f1, f2, f3, f4])) (hone : oneCellFields P #[f0, f1, f2, f3, f4] = true) (hC : P.cellsOf t = 5) (u0 : P.underlying f0.type = some (.int .u8)) (u1 : P.underlying f1.type = some (.int .u8)) (u2 : P.underlying f2.type = some (.int .u8)) (u3 : P.underlying f3.type = some (.int .i16)) (u4 : P.underlying f4.type = some (.int .i32))
    (w0 : (Lit.int .u8 x0).wf = true) (w1 : (Lit.int .u8 x1).wf = true) (w2 : (Lit.int .u8 x2).wf = true) (w3 : (Lit.int .i16 x3).wf = true) (w4 : (Lit.int .i32 x4).wf = true) :
    DataW.Trod enc P w base spare held t (.agg #[.int .u8 x0, .int .u8 x1, .int .u8 x2, .int .i16 x3, .int .i32 x4]) (.agg [.lit (.int .u8 x0), .lit (.int .u8 x1), .lit (.int .u8 x2), .lit (.int .i16 x3), .lit (.int .i32 x4)]) [] := by
  obtain ⟨o0, k0⟩ := hone_of hone 0 f0 rfl
  obtain ⟨o1, k1⟩ := hone_of hone 1 f1 rfl
  obtain ⟨o2, k2⟩ := hone_of hone 2 f2 rfl
  obtain ⟨o3, k3⟩ := hone_of hone 3 f3 rfl
  obtain ⟨o4, k4⟩ := hone_of hone 4 f4 rfl
  have t0 : DataW.trod enc P w base spare held 1 f0.type [.int .u8 x0] = some (.lit (.int .u8 x0), []) := by simp [DataW.trod, u0, w0]
  have t1 : DataW.trod enc P w base spare held 1 f1.type [.int .u8 x1] = some (.lit (.int .u8 x1), []) := by simp [DataW.trod, u1, w1]
  have t2 : DataW.trod enc P w base spare held 1 f2.type [.int .u8 x2] = some (.lit (.int .u8 x2), []) := by simp [DataW.trod, u2, w2]
  have t3 : DataW.trod enc P w base spare held 1 f3.type [.int .i16 x3] = some (.lit (.int .i16 x3), []) := by simp [DataW.trod, u3, w3]
  have t4 : DataW.trod enc P w base spare held 1 f4.type [.int .i32 x4] = some (.lit (.int .i32 x4), []) := by simp [DataW.trod, u4, w4]
  have := trod_struct_mk (enc := enc) (w := w) (base := base) (spare := spare) (held := held) (n := 1) (xs := [(.lit (.int .u8 x0), []), (.lit (.int .u8 x1), []), (.lit (.int .u8 x2), []), (.lit (.int .i16 x3), []), (.lit (.int .i32 x4), [])]) (cs := [.int .u8 x0, .int .u8 x1, .int .u8 x2, .int .i16 x3, .int .i32 x4]) hs (by simp [hC]) (by simp [o0, k0, t0, o1, k1, t1, o2, k2, t2, o3, k3, t3, o4, k4, t4])
  exact ⟨2, by simpa [Value.cells] using this⟩
end

/-! The table. -/
theorem gSizes : Tryd.prog.globalNamed "firewall/insns.sizes" = some 0 := by kernel_rfl
theorem tSizes : (Tryd.prog.globals[0]?).map (·.type) = some 66 := by kernel_rfl
theorem pair_of {H : Type} {enc : TypeId × Value → H} {P : Program} {w : World} {base : Nat} {spare : Nat → Bool} {held : Bool} {fuel : Nat} {t : TypeId} {f0 f1 : Field} {cs : List Value} {a b : Int} {x : DataW H × List MemPlace}
    (hs : P.underlying t = some (.struct #[f0, f1])) (hone : oneCellFields P #[f0, f1] = true) (hC : P.cellsOf t = 2) (u0 : P.underlying f0.type = some (.int .u8)) (u1 : P.underlying f1.type = some (.int .u8))
    (h : DataW.trod enc P w base spare held fuel t cs = some x) (hx : x.1 = .agg [.lit (.int .u8 a), .lit (.int .u8 b)]) : cs = [.int .u8 a, .int .u8 b] := by
  obtain ⟨y0, y1, n, rfl, hl, h0, h1⟩ := trod_struct2 hs h
  rw [hC] at hl
  obtain ⟨o0, k0⟩ := hone_of hone 0 f0 rfl
  obtain ⟨o1, k1⟩ := hone_of hone 1 f1 rfl
  match cs, hl with
  | [c0, c1], _ =>
    simp only [o0, k0, o1, k1, List.drop_zero, List.take_succ_cons, List.take_zero, List.drop_succ_cons] at h0 h1
    obtain ⟨n0, e0, rfl, _⟩ := DataW.trod_int u0 h0
    obtain ⟨n1, e1, rfl, _⟩ := DataW.trod_int u1 h1
    simp at hx e0 e1
    rw [e0, e1, hx.1, hx.2]
theorem take_two {l : List Value} {k : Nat} {x y : Value} (h : (l.drop k).take 2 = [x, y]) : l[k]? = some x ∧ l[k + 1]? = some y := by
  have h0 := congrArg (·[0]?) h
  have h1 := congrArg (·[1]?) h
  simp [List.getElem?_drop] at h0 h1
  exact ⟨h0, h1⟩
theorem elem_of {H : Type} {xs : List (DataW H × List MemPlace)} {D : List (DataW H)} (h : xs.map (·.1) = D) (i : Nat) {d : DataW H} (hd : D[i]? = some d) : ∃ y, xs[i]? = some y ∧ y.1 = d := by
  have h2 : (xs.map (·.1))[i]? = some d := by rw [h]; exact hd
  rw [List.getElem?_map] at h2
  exact Option.map_eq_some_iff.1 h2
set_option maxRecDepth 100000 in
theorem tab_of_laid {W : World} (h : laidMetH Tryd.prog [("firewall/insns.sizes", Rows.laid_firewall_insns_sizes)] W) : TabAt W := by
  rw [MakeChecks.laidMetH_plain _ _ _ (by kernel_rfl)] at h
  obtain ⟨ps, ⟨g0, t0, cs0, f0, p0, q0, hg0, ht0, hv0, hd0, _⟩, _⟩ := h
  obtain rfl := Option.some.inj (gSizes.symm.trans hg0)
  obtain rfl := Option.some.inj (tSizes.symm.trans ht0)
  obtain ⟨xs, m, _, hx, hlen, hn, hall⟩ := DataW.trod_array Tryd.underlying66 hd0
  have hcell : Tryd.prog.cellsOf 65 = 2 := by kernel_rfl
  have hlen2 : cs0.toList.length = 24 := hlen.trans (by kernel_rfl)
  have key : cs0 = tabCs := by
    have hm : xs.map (·.1) = [.agg [.lit (.int .u8 113), .lit (.int .u8 1)], .agg [.lit (.int .u8 105), .lit (.int .u8 2)], .agg [.lit (.int .u8 97), .lit (.int .u8 4)], .agg [.lit (.int .u8 121), .lit (.int .u8 8)], .agg [.lit (.int .u8 114), .lit (.int .u8 1)], .agg [.lit (.int .u8 106), .lit (.int .u8 2)], .agg [.lit (.int .u8 98), .lit (.int .u8 4)], .agg [.lit (.int .u8 122), .lit (.int .u8 8)], .agg [.lit (.int .u8 115), .lit (.int .u8 1)], .agg [.lit (.int .u8 107), .lit (.int .u8 2)], .agg [.lit (.int .u8 99), .lit (.int .u8 4)], .agg [.lit (.int .u8 123), .lit (.int .u8 8)]] := by
      have h1 := (Prod.mk.inj hx).1
      unfold Rows.laid_firewall_insns_sizes at h1
      injection h1 with h2
      exact h2.symm
    have get : ∀ (i : Nat) (a b : Int), i < 12 → ([.agg [.lit (.int .u8 113), .lit (.int .u8 1)], .agg [.lit (.int .u8 105), .lit (.int .u8 2)], .agg [.lit (.int .u8 97), .lit (.int .u8 4)], .agg [.lit (.int .u8 121), .lit (.int .u8 8)], .agg [.lit (.int .u8 114), .lit (.int .u8 1)], .agg [.lit (.int .u8 106), .lit (.int .u8 2)], .agg [.lit (.int .u8 98), .lit (.int .u8 4)], .agg [.lit (.int .u8 122), .lit (.int .u8 8)], .agg [.lit (.int .u8 115), .lit (.int .u8 1)], .agg [.lit (.int .u8 107), .lit (.int .u8 2)], .agg [.lit (.int .u8 99), .lit (.int .u8 4)], .agg [.lit (.int .u8 123), .lit (.int .u8 8)]] : List (DataW Unit))[i]? = some (.agg [.lit (.int .u8 a), .lit (.int .u8 b)]) → cs0.toList[i * 2]? = some (.int .u8 a) ∧ cs0.toList[i * 2 + 1]? = some (.int .u8 b) := by
      intro i a b hi hd
      obtain ⟨y, hy, he⟩ := elem_of hm i hd
      have hh := (hall i hi).trans hy
      rw [hcell] at hh
      exact take_two (pair_of Tryd.underlying65 (by kernel_rfl) hcell Tryd.underlying5 Tryd.underlying5 hh he)
    have g0 := get 0 113 1 (by omega) rfl
    have g1 := get 1 105 2 (by omega) rfl
    have g2 := get 2 97 4 (by omega) rfl
    have g3 := get 3 121 8 (by omega) rfl
    have g4 := get 4 114 1 (by omega) rfl
    have g5 := get 5 106 2 (by omega) rfl
    have g6 := get 6 98 4 (by omega) rfl
    have g7 := get 7 122 8 (by omega) rfl
    have g8 := get 8 115 1 (by omega) rfl
    have g9 := get 9 107 2 (by omega) rfl
    have g10 := get 10 99 4 (by omega) rfl
    have g11 := get 11 123 8 (by omega) rfl
    have hl : cs0.toList = tabCs.toList := by
      apply List.ext_getElem?
      intro j
      rcases (by omega : j = 0 ∨ j = 1 ∨ j = 2 ∨ j = 3 ∨ j = 4 ∨ j = 5 ∨ j = 6 ∨ j = 7 ∨ j = 8 ∨ j = 9 ∨ j = 10 ∨ j = 11 ∨ j = 12 ∨ j = 13 ∨ j = 14 ∨ j = 15 ∨ j = 16 ∨ j = 17 ∨ j = 18 ∨ j = 19 ∨ j = 20 ∨ j = 21 ∨ j = 22 ∨ j = 23 ∨ 24 ≤ j) with rfl | rfl | rfl | rfl | rfl | rfl | rfl | rfl | rfl | rfl | rfl | rfl | rfl | rfl | rfl | rfl | rfl | rfl | rfl | rfl | rfl | rfl | rfl | rfl | hj
      · exact g0.1
      · exact g0.2
      · exact g1.1
      · exact g1.2
      · exact g2.1
      · exact g2.2
      · exact g3.1
      · exact g3.2
      · exact g4.1
      · exact g4.2
      · exact g5.1
      · exact g5.2
      · exact g6.1
      · exact g6.2
      · exact g7.1
      · exact g7.2
      · exact g8.1
      · exact g8.2
      · exact g9.1
      · exact g9.2
      · exact g10.1
      · exact g10.2
      · exact g11.1
      · exact g11.2
      · rw [List.getElem?_eq_none (by omega), List.getElem?_eq_none (by show 24 ≤ j; exact hj)]
    exact Array.toList_inj.1 hl
  subst key
  simp only [World.var?, gSizes, Option.bind_some] at hv0
  split at hv0
  · rename_i cs t fr hh
    obtain rfl := Option.some.inj hv0
    exact ⟨t, fr, hh⟩
  · cases hv0
end Go.Proofs.YthmebodklbhljaaDoor
