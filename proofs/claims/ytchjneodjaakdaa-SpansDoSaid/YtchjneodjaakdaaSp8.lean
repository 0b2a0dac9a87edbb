/-
  The walk of the law SpansTight.
-/
import Derived.Test.YtchjneodjaakdaaSp7
import Derived.Deep.DeepCutAuto
namespace Go.Proofs.Ytchjneodjaakdaa
open Go.RowKit
open Spn (Sp umax umin smax smin okS tightS anyS settledS commonS minW maxW constS addR subR SHas SValid SIn)
attribute [local go_sem] u64_wrap BitVec.ofInt_add ofInt_N ofInt_Nw u64_and u64_or u64_xor wrap64_N ofInt_Z64 max_N min_N max_Z min_Z w_add w_sub

theorem Gw.alloc {a b : World} (h : Gw a b) (cs : Array Value) (T : TypeId) : Gw a (b.alloc (.cells cs T)) := Grown.alloc h cs T
theorem Gw.set4 {a b : World} {k : Nat} (h : Gw a b) (hk : a.heap.size ≤ k) (x y z u : Value) : Gw a ((((b.setCell ⟨k, 0, none⟩ x).setCell ⟨k, 1, none⟩ y).setCell ⟨k, 2, none⟩ z).setCell ⟨k, 3, none⟩ u) := (((Grown.setCell h (by exact hk) x).setCell (by exact hk) y).setCell (by exact hk) z).setCell (by exact hk) u
theorem gw_cell {W : World} {B o : Nat} {v : Value} (hb : B < W.heap.size) (h : W.cell? ⟨B, o, none⟩ = some v) : ∀ x : World, Gw W x → x.cell? ⟨B, o, none⟩ = some v := fun _ g => grown_cellAt g hb h
theorem Gw.size {a b : World} (h : Gw a b) : a.heap.size ≤ b.heap.size := h.2.2
/-- Two S's that lie in blocks of their own, and a third one. -/
def TwoAt (w0 : World) (a b r : Sp) (C : Nat) (s7 s8 : Value) (w : World) : Prop :=
  ∃ B1 B2 : Nat, s7 = .pointer (some ⟨B1, 0, none⟩) ∧ s8 = .pointer (some ⟨B2, 0, none⟩) ∧
    Keeps w0 [(B1, 0, .int .u64 (N a.lo)), (B1, 1, .int .u64 (N a.hi)), (B1, 2, .int .i64 (Z a.slo)), (B1, 3, .int .i64 (Z a.shi)), (B2, 0, .int .u64 (N b.lo)), (B2, 1, .int .u64 (N b.hi)), (B2, 2, .int .i64 (Z b.slo)), (B2, 3, .int .i64 (Z b.shi)), (C, 0, .int .u64 (N r.lo)), (C, 1, .int .u64 (N r.hi)), (C, 2, .int .i64 (Z r.slo)), (C, 3, .int .i64 (Z r.shi))] w
theorem Keeps.new4 {w0 w : World} {l : List (Nat × Nat × Value)} (h : Keeps w0 l w) (x y z u : Value) (T : TypeId) : Keeps w0 ((w.heap.size, 0, x) :: (w.heap.size, 1, y) :: (w.heap.size, 2, z) :: (w.heap.size, 3, u) :: l) (w.alloc (.cells #[x, y, z, u] T)) :=
  ⟨⟨⟨by simp [go_sem], by simp⟩, ⟨by simp [go_sem], by simp⟩, ⟨by simp [go_sem], by simp⟩, ⟨by simp [go_sem], by simp⟩, h.1.alloc _ _⟩, Grown.trans' h.2 (Grown.alloc (Grown.refl w) _ _)⟩
theorem CellsAt.bound {w : World} : ∀ {l : List (Nat × Nat × Value)}, CellsAt w l → ∀ (i : Nat) (x : Nat × Nat × Value), l[i]? = some x → x.1 < w.heap.size
  | [], _, i, x, hi => by simp at hi
  | y :: l, h, 0, x, hi => by
    simp at hi; subst hi; exact h.1.2
  | y :: l, h, i + 1, x, hi => CellsAt.bound h.2 i x (by simpa using hi)
theorem ret_b {P : Program} {f : FuncId} {args : Array Value} {b c : Bool} (e : b = c) {w : World} (h : Calls P f args w fun e w' => e = .returned (.bool b) ∧ Grown w w') : Calls P f args w fun e w' => e = .returned (.bool c) ∧ Grown w w' := e ▸ h
theorem ret_t {P : Program} {f : FuncId} {args : Array Value} {b c : Bool} {x : Value} (e : b = c) {w : World} (h : Calls P f args w fun e w' => e = .returned (.tuple #[x, .bool b]) ∧ Grown w w') : Calls P f args w fun e w' => e = .returned (.tuple #[x, .bool c]) ∧ Grown w w' := e ▸ h
theorem SIn.trans' {a b c : Sp} (h1 : SIn a b) (h2 : SIn b c) : SIn a c := ⟨Int.le_trans h1.1 h2.1, Int.le_trans h2.2.1 h1.2.1, Int.le_trans h1.2.2.1 h2.2.2.1, Int.le_trans h2.2.2.2 h1.2.2.2⟩
set_option maxRecDepth 100000 in
set_option maxHeartbeats 4000000 in
theorem spansTight_walk (v p0 p1 p2 p3 p4 p5 p6 p7 lo hi slo shi : BitVec 64) (w : World) : Calls Try.prog 8 #[.int .u64 (N v), .agg #[.int .u64 (N p0), .int .u64 (N p1), .int .u64 (N p2), .int .u64 (N p3), .int .u64 (N p4), .int .u64 (N p5), .int .u64 (N p6), .int .u64 (N p7)], .agg #[.int .u64 (N lo), .int .u64 (N hi), .int .i64 (Z slo), .int .i64 (Z shi)]] w fun e w' => e = .returned (.bool true) ∧ Grown w w' := by
  go_enter Try.func8, Try.ntmps8
  go_upto_region 1 with fail
  have hgr : Gw w ((w.alloc (.cells #[.int .u64 (N p0), .int .u64 (N p1), .int .u64 (N p2), .int .u64 (N p3), .int .u64 (N p4), .int .u64 (N p5), .int .u64 (N p6), .int .u64 (N p7)] 47)).alloc (.cells #[.int .u64 (N lo), .int .u64 (N hi), .int .i64 (Z slo), .int .i64 (Z shi)] 49)) := by show Grown _ _; go_grown
  have q0 := gw_cell (W := (w.alloc (.cells #[.int .u64 (N p0), .int .u64 (N p1), .int .u64 (N p2), .int .u64 (N p3), .int .u64 (N p4), .int .u64 (N p5), .int .u64 (N p6), .int .u64 (N p7)] 47)).alloc (.cells #[.int .u64 (N lo), .int .u64 (N hi), .int .i64 (Z slo), .int .i64 (Z shi)] 49)) (B := w.heap.size) (o := 0) (v := .int .u64 (N p0)) (by simp; omega) (by simp [go_sem])
  have q1 := gw_cell (W := (w.alloc (.cells #[.int .u64 (N p0), .int .u64 (N p1), .int .u64 (N p2), .int .u64 (N p3), .int .u64 (N p4), .int .u64 (N p5), .int .u64 (N p6), .int .u64 (N p7)] 47)).alloc (.cells #[.int .u64 (N lo), .int .u64 (N hi), .int .i64 (Z slo), .int .i64 (Z shi)] 49)) (B := w.heap.size) (o := 1) (v := .int .u64 (N p1)) (by simp; omega) (by simp [go_sem])
  have q2 := gw_cell (W := (w.alloc (.cells #[.int .u64 (N p0), .int .u64 (N p1), .int .u64 (N p2), .int .u64 (N p3), .int .u64 (N p4), .int .u64 (N p5), .int .u64 (N p6), .int .u64 (N p7)] 47)).alloc (.cells #[.int .u64 (N lo), .int .u64 (N hi), .int .i64 (Z slo), .int .i64 (Z shi)] 49)) (B := w.heap.size) (o := 2) (v := .int .u64 (N p2)) (by simp; omega) (by simp [go_sem])
  have q3 := gw_cell (W := (w.alloc (.cells #[.int .u64 (N p0), .int .u64 (N p1), .int .u64 (N p2), .int .u64 (N p3), .int .u64 (N p4), .int .u64 (N p5), .int .u64 (N p6), .int .u64 (N p7)] 47)).alloc (.cells #[.int .u64 (N lo), .int .u64 (N hi), .int .i64 (Z slo), .int .i64 (Z shi)] 49)) (B := w.heap.size) (o := 3) (v := .int .u64 (N p3)) (by simp; omega) (by simp [go_sem])
  have q4 := gw_cell (W := (w.alloc (.cells #[.int .u64 (N p0), .int .u64 (N p1), .int .u64 (N p2), .int .u64 (N p3), .int .u64 (N p4), .int .u64 (N p5), .int .u64 (N p6), .int .u64 (N p7)] 47)).alloc (.cells #[.int .u64 (N lo), .int .u64 (N hi), .int .i64 (Z slo), .int .i64 (Z shi)] 49)) (B := w.heap.size) (o := 4) (v := .int .u64 (N p4)) (by simp; omega) (by simp [go_sem])
  have q5 := gw_cell (W := (w.alloc (.cells #[.int .u64 (N p0), .int .u64 (N p1), .int .u64 (N p2), .int .u64 (N p3), .int .u64 (N p4), .int .u64 (N p5), .int .u64 (N p6), .int .u64 (N p7)] 47)).alloc (.cells #[.int .u64 (N lo), .int .u64 (N hi), .int .i64 (Z slo), .int .i64 (Z shi)] 49)) (B := w.heap.size) (o := 5) (v := .int .u64 (N p5)) (by simp; omega) (by simp [go_sem])
  have q6 := gw_cell (W := (w.alloc (.cells #[.int .u64 (N p0), .int .u64 (N p1), .int .u64 (N p2), .int .u64 (N p3), .int .u64 (N p4), .int .u64 (N p5), .int .u64 (N p6), .int .u64 (N p7)] 47)).alloc (.cells #[.int .u64 (N lo), .int .u64 (N hi), .int .i64 (Z slo), .int .i64 (Z shi)] 49)) (B := w.heap.size) (o := 6) (v := .int .u64 (N p6)) (by simp; omega) (by simp [go_sem])
  have q7 := gw_cell (W := (w.alloc (.cells #[.int .u64 (N p0), .int .u64 (N p1), .int .u64 (N p2), .int .u64 (N p3), .int .u64 (N p4), .int .u64 (N p5), .int .u64 (N p6), .int .u64 (N p7)] 47)).alloc (.cells #[.int .u64 (N lo), .int .u64 (N hi), .int .i64 (Z slo), .int .i64 (Z shi)] 49)) (B := w.heap.size) (o := 7) (v := .int .u64 (N p7)) (by simp; omega) (by simp [go_sem])
  have r0 := gw_cell (W := (w.alloc (.cells #[.int .u64 (N p0), .int .u64 (N p1), .int .u64 (N p2), .int .u64 (N p3), .int .u64 (N p4), .int .u64 (N p5), .int .u64 (N p6), .int .u64 (N p7)] 47)).alloc (.cells #[.int .u64 (N lo), .int .u64 (N hi), .int .i64 (Z slo), .int .i64 (Z shi)] 49)) (B := w.heap.size + 1) (o := 0) (v := .int .u64 (N lo)) (by simp) (by simp [go_sem])
  have r1 := gw_cell (W := (w.alloc (.cells #[.int .u64 (N p0), .int .u64 (N p1), .int .u64 (N p2), .int .u64 (N p3), .int .u64 (N p4), .int .u64 (N p5), .int .u64 (N p6), .int .u64 (N p7)] 47)).alloc (.cells #[.int .u64 (N lo), .int .u64 (N hi), .int .i64 (Z slo), .int .i64 (Z shi)] 49)) (B := w.heap.size + 1) (o := 1) (v := .int .u64 (N hi)) (by simp) (by simp [go_sem])
  have r2 := gw_cell (W := (w.alloc (.cells #[.int .u64 (N p0), .int .u64 (N p1), .int .u64 (N p2), .int .u64 (N p3), .int .u64 (N p4), .int .u64 (N p5), .int .u64 (N p6), .int .u64 (N p7)] 47)).alloc (.cells #[.int .u64 (N lo), .int .u64 (N hi), .int .i64 (Z slo), .int .i64 (Z shi)] 49)) (B := w.heap.size + 1) (o := 2) (v := .int .i64 (Z slo)) (by simp) (by simp [go_sem])
  have r3 := gw_cell (W := (w.alloc (.cells #[.int .u64 (N p0), .int .u64 (N p1), .int .u64 (N p2), .int .u64 (N p3), .int .u64 (N p4), .int .u64 (N p5), .int .u64 (N p6), .int .u64 (N p7)] 47)).alloc (.cells #[.int .u64 (N lo), .int .u64 (N hi), .int .i64 (Z slo), .int .i64 (Z shi)] 49)) (B := w.heap.size + 1) (o := 3) (v := .int .i64 (Z shi)) (by simp) (by simp [go_sem])
  have hs : w.heap.size + 1 < ((w.alloc (.cells #[.int .u64 (N p0), .int .u64 (N p1), .int .u64 (N p2), .int .u64 (N p3), .int .u64 (N p4), .int .u64 (N p5), .int .u64 (N p6), .int .u64 (N p7)] 47)).alloc (.cells #[.int .u64 (N lo), .int .u64 (N hi), .int .i64 (Z slo), .int .i64 (Z shi)] 49)).heap.size := by simp
  generalize (w.alloc (.cells #[.int .u64 (N p0), .int .u64 (N p1), .int .u64 (N p2), .int .u64 (N p3), .int .u64 (N p4), .int .u64 (N p5), .int .u64 (N p6), .int .u64 (N p7)] 47)).alloc (.cells #[.int .u64 (N lo), .int .u64 (N hi), .int .i64 (Z slo), .int .i64 (Z shi)] 49) = W1 at *
  generalize w.heap.size = B at *
  have hW0 : Gw W1 W1 := Grown.refl _
  have hW : Gw W1 W1.drew := Gw.drew (Grown.refl _)
  generalize hma : madeS v p0 p1 p2 p3 = a
  generalize hmb : madeS v p4 p5 p6 p7 = b
  have MA := Lib.hid (fun w => hma ▸ law_made v p0 p1 p2 p3 w)
  have MB := Lib.hid (fun w => hmb ▸ law_made v p4 p5 p6 p7 w)
  have HA : Hid (SHas a v) := Lib.hid (hma ▸ made_has v p0 p1 p2 p3)
  have HB : Hid (SHas b v) := Lib.hid (hmb ▸ made_has v p4 p5 p6 p7)
  clear hma hmb
  go_cut [7, 8] (fun s7 s8 wx => TwoAt w a b (⟨lo, hi, slo, shi⟩ : Sp) (B + 1) s7 s8 wx)
  case first =>
    go_region_held3 (fun w' => Gw W1 w') ((repeat (first | with_reducible assumption | with_reducible refine Gw.drew ?_ | with_reducible refine Gw.alloc ?_ _ _ | with_reducible refine Gw.set4 ?_ (by first | exact Nat.le_refl _ | omega) _ _ _ _))) (first | (go_at_call 31; ((with_reducible refine (MA.out _).mono ?_); rintro e w' ⟨rfl, rfl⟩)) | (go_at_call 31; ((with_reducible refine (MB.out _).mono ?_); rintro e w' ⟨rfl, rfl⟩)))
    all_goals
      go_wp2_with fail
      go_meet
      case rel => exact ⟨_, _, rfl, rfl, ⟨⟨⟨by simp [go_sem], by simp <;> omega⟩, ⟨by simp [go_sem], by simp <;> omega⟩, ⟨by simp [go_sem], by simp <;> omega⟩, ⟨by simp [go_sem], by simp <;> omega⟩, ⟨by simp [go_sem], by simp <;> omega⟩, ⟨by simp [go_sem], by simp <;> omega⟩, ⟨by simp [go_sem], by simp <;> omega⟩, ⟨by simp [go_sem], by simp <;> omega⟩, ⟨r0 _ (by (repeat (first | with_reducible assumption | with_reducible refine Gw.drew ?_ | with_reducible refine Gw.alloc ?_ _ _ | with_reducible refine Gw.set4 ?_ (by first | exact Nat.le_refl _ | omega) _ _ _ _))), by simp <;> omega⟩, ⟨r1 _ (by (repeat (first | with_reducible assumption | with_reducible refine Gw.drew ?_ | with_reducible refine Gw.alloc ?_ _ _ | with_reducible refine Gw.set4 ?_ (by first | exact Nat.le_refl _ | omega) _ _ _ _))), by simp <;> omega⟩, ⟨r2 _ (by (repeat (first | with_reducible assumption | with_reducible refine Gw.drew ?_ | with_reducible refine Gw.alloc ?_ _ _ | with_reducible refine Gw.set4 ?_ (by first | exact Nat.le_refl _ | omega) _ _ _ _))), by simp <;> omega⟩, ⟨r3 _ (by (repeat (first | with_reducible assumption | with_reducible refine Gw.drew ?_ | with_reducible refine Gw.alloc ?_ _ _ | with_reducible refine Gw.set4 ?_ (by first | exact Nat.le_refl _ | omega) _ _ _ _))), by simp <;> omega⟩, trivial⟩, Gw.trans hgr (by (repeat (first | with_reducible assumption | with_reducible refine Gw.drew ?_ | with_reducible refine Gw.alloc ?_ _ _ | with_reducible refine Gw.set4 ?_ (by first | exact Nat.le_refl _ | omega) _ _ _ _)))⟩⟩
  case rest =>
    clear q0 q1 q2 q3 q4 q5 q6 q7 r0 r1 r2 r3 hs hW0 hW hgr MA MB
    obtain ⟨B1, B2, rfl, rfl, K⟩ := hcut
    have tA := Spn.tight_has HA.out
    have cAB := Spn.common_has HA.out HB.out
    have tO := Spn.tight_has cAB
    have iA := Spn.tight_in tA.1
    have iO := Spn.tight_in tO.1
    have iC := Spn.common_in a b
    obtain ⟨t, ht⟩ : ∃ t, tightS a = t := ⟨_, rfl⟩
    obtain ⟨o, ho⟩ : ∃ o, tightS (commonS a b) = o := ⟨_, rfl⟩
    obtain ⟨r, hr⟩ : ∃ r, tightS (⟨lo, hi, slo, shi⟩ : Sp) = r := ⟨_, rfl⟩
    rw [ht] at tA iA
    rw [ho] at tO iO
    have H1 : Hid (∀ w, Calls Try.prog 48 #[.agg #[.int .u64 (N a.lo), .int .u64 (N a.hi), .int .i64 (Z a.slo), .int .i64 (Z a.shi)]] w fun e w' => e = .returned (.tuple #[.agg #[.int .u64 (N t.lo), .int .u64 (N t.hi), .int .i64 (Z t.slo), .int .i64 (Z t.shi)], .bool true]) ∧ Grown w w') := Lib.hid (fun w => by rw [← ht, ← tA.1]; exact sp_tight a.lo a.hi a.slo a.shi w)
    have H2 : Hid (∀ w, Calls Try.prog 49 #[.agg #[.int .u64 (N a.lo), .int .u64 (N a.hi), .int .i64 (Z a.slo), .int .i64 (Z a.shi)], .agg #[.int .u64 (N b.lo), .int .u64 (N b.hi), .int .i64 (Z b.slo), .int .i64 (Z b.shi)]] w fun e w' => e = .returned (.tuple #[.agg #[.int .u64 (N o.lo), .int .u64 (N o.hi), .int .i64 (Z o.slo), .int .i64 (Z o.shi)], .bool true]) ∧ Grown w w') := Lib.hid (fun w => by rw [← ho, ← tO.1]; exact sp_both a.lo a.hi a.slo a.shi b.lo b.hi b.slo b.shi w)
    have H4 : Hid (∀ w, Calls Try.prog 33 #[.agg #[.int .u64 (N t.lo), .int .u64 (N t.hi), .int .i64 (Z t.slo), .int .i64 (Z t.shi)], .int .u64 (N v)] w fun e w' => e = .returned (.bool true) ∧ Grown w w') := Lib.hid (fun w => by rw [← (hasB_iff _ _).2 tA.2]; exact law_has t.lo t.hi t.slo t.shi v w)
    have H5 : Hid (∀ w, Calls Try.prog 33 #[.agg #[.int .u64 (N o.lo), .int .u64 (N o.hi), .int .i64 (Z o.slo), .int .i64 (Z o.shi)], .int .u64 (N v)] w fun e w' => e = .returned (.bool true) ∧ Grown w w') := Lib.hid (fun w => by rw [← (hasB_iff _ _).2 tO.2]; exact law_has o.lo o.hi o.slo o.shi v w)
    have H6 : Hid (∀ w, Calls Try.prog 50 #[.agg #[.int .u64 (N a.lo), .int .u64 (N a.hi), .int .i64 (Z a.slo), .int .i64 (Z a.shi)], .agg #[.int .u64 (N t.lo), .int .u64 (N t.hi), .int .i64 (Z t.slo), .int .i64 (Z t.shi)]] w fun e w' => e = .returned (.bool true) ∧ Grown w w') := Lib.hid (fun w => by rw [← (inB_iff _ _).2 iA.2]; exact sp_in a.lo a.hi a.slo a.shi t.lo t.hi t.slo t.shi w)
    have H7 : Hid (∀ w, Calls Try.prog 50 #[.agg #[.int .u64 (N a.lo), .int .u64 (N a.hi), .int .i64 (Z a.slo), .int .i64 (Z a.shi)], .agg #[.int .u64 (N o.lo), .int .u64 (N o.hi), .int .i64 (Z o.slo), .int .i64 (Z o.shi)]] w fun e w' => e = .returned (.bool true) ∧ Grown w w') := Lib.hid (fun w => by rw [← (inB_iff _ _).2 (SIn.trans' iC.1 iO.2)]; exact sp_in a.lo a.hi a.slo a.shi o.lo o.hi o.slo o.shi w)
    have H8 : Hid (∀ w, Calls Try.prog 50 #[.agg #[.int .u64 (N b.lo), .int .u64 (N b.hi), .int .i64 (Z b.slo), .int .i64 (Z b.shi)], .agg #[.int .u64 (N o.lo), .int .u64 (N o.hi), .int .i64 (Z o.slo), .int .i64 (Z o.shi)]] w fun e w' => e = .returned (.bool true) ∧ Grown w w') := Lib.hid (fun w => by rw [← (inB_iff _ _).2 (SIn.trans' iC.2 iO.2)]; exact sp_in b.lo b.hi b.slo b.shi o.lo o.hi o.slo o.shi w)
    clear ht ho tA cAB tO iA iO iC
    cases hh : hasB (⟨lo, hi, slo, shi⟩ : Sp) v <;> cases ll : okS (⟨lo, hi, slo, shi⟩ : Sp)
    · have H3 : Hid (∀ w, Calls Try.prog 48 #[.agg #[.int .u64 (N lo), .int .u64 (N hi), .int .i64 (Z slo), .int .i64 (Z shi)]] w fun e w' => e = .returned (.tuple #[.agg #[.int .u64 (N r.lo), .int .u64 (N r.hi), .int .i64 (Z r.slo), .int .i64 (Z r.shi)], .bool false]) ∧ Grown w w') := Lib.hid (fun w => by rw [← hr, ← ll]; exact sp_tight lo hi slo shi w)
      have H9 : Hid (∀ w, Calls Try.prog 33 #[.agg #[.int .u64 (N lo), .int .u64 (N hi), .int .i64 (Z slo), .int .i64 (Z shi)], .int .u64 (N v)] w fun e w' => e = .returned (.bool false) ∧ Grown w w') := Lib.hid (fun w => by rw [← hh]; exact law_has lo hi slo shi v w)
      obtain ⟨p, hp⟩ : ∃ p, tightS (commonS a (⟨lo, hi, slo, shi⟩ : Sp)) = p := ⟨_, rfl⟩
      obtain ⟨sm, hsm⟩ : ∃ sm, okS (commonS a (⟨lo, hi, slo, shi⟩ : Sp)) = sm := ⟨_, rfl⟩
      have H13 : Hid (∀ w, Calls Try.prog 49 #[.agg #[.int .u64 (N a.lo), .int .u64 (N a.hi), .int .i64 (Z a.slo), .int .i64 (Z a.shi)], .agg #[.int .u64 (N lo), .int .u64 (N hi), .int .i64 (Z slo), .int .i64 (Z shi)]] w fun e w' => e = .returned (.tuple #[.agg #[.int .u64 (N p.lo), .int .u64 (N p.hi), .int .i64 (Z p.slo), .int .i64 (Z p.shi)], .bool sm]) ∧ Grown w w') := Lib.hid (fun w => by rw [← hp, ← hsm]; exact sp_both a.lo a.hi a.slo a.shi lo hi slo shi w)
      clear hh ll hp hsm hr
      have ca0 := K.1.get 0 _ rfl
      have ca1 := K.1.get 1 _ rfl
      have ca2 := K.1.get 2 _ rfl
      have ca3 := K.1.get 3 _ rfl
      go_upto_region 3 with (go_at_call 48; ((with_reducible refine (H1.out _).mono ?_); rintro e w1 ⟨rfl, g1⟩))
      clear ca0 ca1 ca2 ca3
      replace K := (K.grown g1).new4 (.int .u64 (N t.lo)) (.int .u64 (N t.hi)) (.int .i64 (Z t.slo)) (.int .i64 (Z t.shi)) 49
      generalize w1.alloc (.cells #[.int .u64 (N t.lo), .int .u64 (N t.hi), .int .i64 (Z t.slo), .int .i64 (Z t.shi)] 49) = W2 at *
      generalize w1.heap.size = BT at *
      have ct0 := K.1.get 0 _ rfl
      have ct1 := K.1.get 1 _ rfl
      have ct2 := K.1.get 2 _ rfl
      have ct3 := K.1.get 3 _ rfl
      have ht := K.1.bound 0 _ rfl
      have ca0 := K.1.get 4 _ rfl
      have ca1 := K.1.get 5 _ rfl
      have ca2 := K.1.get 6 _ rfl
      have ca3 := K.1.get 7 _ rfl
      have ha := K.1.bound 4 _ rfl
      have cb0 := K.1.get 8 _ rfl
      have cb1 := K.1.get 9 _ rfl
      have cb2 := K.1.get 10 _ rfl
      have cb3 := K.1.get 11 _ rfl
      have hb := K.1.bound 8 _ rfl
      have cx0 := K.1.get 12 _ rfl
      have cx1 := K.1.get 13 _ rfl
      have cx2 := K.1.get 14 _ rfl
      have cx3 := K.1.get 15 _ rfl
      have hx := K.1.bound 12 _ rfl
      go_upto_region 4 with (go_at_call 49; ((with_reducible refine (H2.out _).mono ?_); rintro e w2 ⟨rfl, g2⟩))
      clear ct0 ct1 ct2 ct3 ca0 ca1 ca2 ca3 cb0 cb1 cb2 cb3 cx0 cx1 cx2 cx3 ht ha hb hx
      replace K := (K.grown g2).new4 (.int .u64 (N o.lo)) (.int .u64 (N o.hi)) (.int .i64 (Z o.slo)) (.int .i64 (Z o.shi)) 49
      generalize w2.alloc (.cells #[.int .u64 (N o.lo), .int .u64 (N o.hi), .int .i64 (Z o.slo), .int .i64 (Z o.shi)] 49) = W3 at *
      generalize w2.heap.size = BO at *
      have co0 := K.1.get 0 _ rfl
      have co1 := K.1.get 1 _ rfl
      have co2 := K.1.get 2 _ rfl
      have co3 := K.1.get 3 _ rfl
      have ho := K.1.bound 0 _ rfl
      have ct0 := K.1.get 4 _ rfl
      have ct1 := K.1.get 5 _ rfl
      have ct2 := K.1.get 6 _ rfl
      have ct3 := K.1.get 7 _ rfl
      have ht := K.1.bound 4 _ rfl
      have ca0 := K.1.get 8 _ rfl
      have ca1 := K.1.get 9 _ rfl
      have ca2 := K.1.get 10 _ rfl
      have ca3 := K.1.get 11 _ rfl
      have ha := K.1.bound 8 _ rfl
      have cb0 := K.1.get 12 _ rfl
      have cb1 := K.1.get 13 _ rfl
      have cb2 := K.1.get 14 _ rfl
      have cb3 := K.1.get 15 _ rfl
      have hb := K.1.bound 12 _ rfl
      have cx0 := K.1.get 16 _ rfl
      have cx1 := K.1.get 17 _ rfl
      have cx2 := K.1.get 18 _ rfl
      have cx3 := K.1.get 19 _ rfl
      have hx := K.1.bound 16 _ rfl
      go_upto_region 5 with (go_at_call 48; ((with_reducible refine (H3.out _).mono ?_); rintro e w3 ⟨rfl, g3⟩))
      clear co0 co1 co2 co3 ct0 ct1 ct2 ct3 ca0 ca1 ca2 ca3 cb0 cb1 cb2 cb3 cx0 cx1 cx2 cx3 ho ht ha hb hx
      replace K := (K.grown g3).new4 (.int .u64 (N r.lo)) (.int .u64 (N r.hi)) (.int .i64 (Z r.slo)) (.int .i64 (Z r.shi)) 49
      generalize w3.alloc (.cells #[.int .u64 (N r.lo), .int .u64 (N r.hi), .int .i64 (Z r.slo), .int .i64 (Z r.shi)] 49) = W4 at *
      generalize w3.heap.size = BR at *
      clear g1 g2 g3
      have cr0 := K.1.get 0 _ rfl
      have cr1 := K.1.get 1 _ rfl
      have cr2 := K.1.get 2 _ rfl
      have cr3 := K.1.get 3 _ rfl
      have hr := K.1.bound 0 _ rfl
      have co0 := K.1.get 4 _ rfl
      have co1 := K.1.get 5 _ rfl
      have co2 := K.1.get 6 _ rfl
      have co3 := K.1.get 7 _ rfl
      have ho := K.1.bound 4 _ rfl
      have ct0 := K.1.get 8 _ rfl
      have ct1 := K.1.get 9 _ rfl
      have ct2 := K.1.get 10 _ rfl
      have ct3 := K.1.get 11 _ rfl
      have ht := K.1.bound 8 _ rfl
      have ca0 := K.1.get 12 _ rfl
      have ca1 := K.1.get 13 _ rfl
      have ca2 := K.1.get 14 _ rfl
      have ca3 := K.1.get 15 _ rfl
      have ha := K.1.bound 12 _ rfl
      have cb0 := K.1.get 16 _ rfl
      have cb1 := K.1.get 17 _ rfl
      have cb2 := K.1.get 18 _ rfl
      have cb3 := K.1.get 19 _ rfl
      have hb := K.1.bound 16 _ rfl
      have cx0 := K.1.get 20 _ rfl
      have cx1 := K.1.get 21 _ rfl
      have cx2 := K.1.get 22 _ rfl
      have cx3 := K.1.get 23 _ rfl
      have hx := K.1.bound 20 _ rfl
      have G : Grown W4 W4 := Grown.refl _
      go_upto_region 10 with (first | (go_at_call 48; ((with_reducible refine (H1.out _).mono ?_); rintro e wn ⟨rfl, hg⟩; have G := Grown.trans' G hg; have gc := gcellI G; clear hg)) | (go_at_call 49; ((with_reducible refine (H2.out _).mono ?_); rintro e wn ⟨rfl, hg⟩; have G := Grown.trans' G hg; have gc := gcellI G; clear hg)) | (go_at_call 48; ((with_reducible refine (H3.out _).mono ?_); rintro e wn ⟨rfl, hg⟩; have G := Grown.trans' G hg; have gc := gcellI G; clear hg)) | (go_at_call 33; ((with_reducible refine (H4.out _).mono ?_); rintro e wn ⟨rfl, hg⟩; have G := Grown.trans' G hg; have gc := gcellI G; clear hg)) | (go_at_call 33; ((with_reducible refine (H5.out _).mono ?_); rintro e wn ⟨rfl, hg⟩; have G := Grown.trans' G hg; have gc := gcellI G; clear hg)) | (go_at_call 50; ((with_reducible refine (H6.out _).mono ?_); rintro e wn ⟨rfl, hg⟩; have G := Grown.trans' G hg; have gc := gcellI G; clear hg)) | (go_at_call 50; ((with_reducible refine (H7.out _).mono ?_); rintro e wn ⟨rfl, hg⟩; have G := Grown.trans' G hg; have gc := gcellI G; clear hg)) | (go_at_call 50; ((with_reducible refine (H8.out _).mono ?_); rintro e wn ⟨rfl, hg⟩; have G := Grown.trans' G hg; have gc := gcellI G; clear hg)) | (go_at_call 33; ((with_reducible refine (H9.out _).mono ?_); rintro e wn ⟨rfl, hg⟩; have G := Grown.trans' G hg; have gc := gcellI G; clear hg)) | (go_at_call 49; ((with_reducible refine (H13.out _).mono ?_); rintro e w5 ⟨rfl, hg⟩; have G5 := Grown.trans' G hg; clear hg)))
      replace K := (K.grown G5).new4 (.int .u64 (N p.lo)) (.int .u64 (N p.hi)) (.int .i64 (Z p.slo)) (.int .i64 (Z p.shi)) 49
      clear cr0 cr1 cr2 cr3 co0 co1 co2 co3 ct0 ct1 ct2 ct3 ca0 ca1 ca2 ca3 cb0 cb1 cb2 cb3 cx0 cx1 cx2 cx3 hr ho ht ha hb hx
      generalize w5.alloc (.cells #[.int .u64 (N p.lo), .int .u64 (N p.hi), .int .i64 (Z p.slo), .int .i64 (Z p.shi)] 49) = W5 at *
      generalize w5.heap.size = BP at *
      clear G5
      have cp0 := K.1.get 0 _ rfl
      have cp1 := K.1.get 1 _ rfl
      have cp2 := K.1.get 2 _ rfl
      have cp3 := K.1.get 3 _ rfl
      have hp := K.1.bound 0 _ rfl
      have cx0 := K.1.get 24 _ rfl
      have cx1 := K.1.get 25 _ rfl
      have cx2 := K.1.get 26 _ rfl
      have cx3 := K.1.get 27 _ rfl
      have hx := K.1.bound 24 _ rfl
      have hK := K.2
      clear K
      have G : Grown W5 W5 := Grown.refl _
      go_wp2_with (first | (go_at_call 33; ((with_reducible refine (H9.out _).mono ?_); rintro e wn ⟨rfl, hg⟩; have G := Grown.trans' G hg; have gc := gcellI G; clear hg)) | (go_at_call 47; ((with_reducible refine (ends_any _).mono ?_); rintro e wn ⟨rfl, hg⟩; have G := Grown.trans' G hg; have gc := gcellI G; clear hg)))
      go_ret
      exact ⟨rfl, Grown.trans' hK G⟩
    · have H3 : Hid (∀ w, Calls Try.prog 48 #[.agg #[.int .u64 (N lo), .int .u64 (N hi), .int .i64 (Z slo), .int .i64 (Z shi)]] w fun e w' => e = .returned (.tuple #[.agg #[.int .u64 (N r.lo), .int .u64 (N r.hi), .int .i64 (Z r.slo), .int .i64 (Z r.shi)], .bool true]) ∧ Grown w w') := Lib.hid (fun w => by rw [← hr, ← ll]; exact sp_tight lo hi slo shi w)
      have H9 : Hid (∀ w, Calls Try.prog 33 #[.agg #[.int .u64 (N lo), .int .u64 (N hi), .int .i64 (Z slo), .int .i64 (Z shi)], .int .u64 (N v)] w fun e w' => e = .returned (.bool false) ∧ Grown w w') := Lib.hid (fun w => by rw [← hh]; exact law_has lo hi slo shi v w)
      obtain ⟨p, hp⟩ : ∃ p, tightS (commonS a (⟨lo, hi, slo, shi⟩ : Sp)) = p := ⟨_, rfl⟩
      obtain ⟨sm, hsm⟩ : ∃ sm, okS (commonS a (⟨lo, hi, slo, shi⟩ : Sp)) = sm := ⟨_, rfl⟩
      have H13 : Hid (∀ w, Calls Try.prog 49 #[.agg #[.int .u64 (N a.lo), .int .u64 (N a.hi), .int .i64 (Z a.slo), .int .i64 (Z a.shi)], .agg #[.int .u64 (N lo), .int .u64 (N hi), .int .i64 (Z slo), .int .i64 (Z shi)]] w fun e w' => e = .returned (.tuple #[.agg #[.int .u64 (N p.lo), .int .u64 (N p.hi), .int .i64 (Z p.slo), .int .i64 (Z p.shi)], .bool sm]) ∧ Grown w w') := Lib.hid (fun w => by rw [← hp, ← hsm]; exact sp_both a.lo a.hi a.slo a.shi lo hi slo shi w)
      have iR := Spn.tight_in ll
      rw [hr] at iR
      have H11 : Hid (∀ w, Calls Try.prog 32 #[.agg #[.int .u64 (N r.lo), .int .u64 (N r.hi), .int .i64 (Z r.slo), .int .i64 (Z r.shi)]] w fun e w' => e = .returned (.bool true) ∧ Grown w w') := Lib.hid (fun w => by rw [← (validB_iff _).2 iR.1]; exact sp_valid r.lo r.hi r.slo r.shi w)
      have H12 : Hid (∀ w, Calls Try.prog 50 #[.agg #[.int .u64 (N lo), .int .u64 (N hi), .int .i64 (Z slo), .int .i64 (Z shi)], .agg #[.int .u64 (N r.lo), .int .u64 (N r.hi), .int .i64 (Z r.slo), .int .i64 (Z r.shi)]] w fun e w' => e = .returned (.bool true) ∧ Grown w w') := Lib.hid (fun w => by rw [← (inB_iff _ _).2 iR.2]; exact sp_in lo hi slo shi r.lo r.hi r.slo r.shi w)
      clear hh ll hp hsm iR hr
      have ca0 := K.1.get 0 _ rfl
      have ca1 := K.1.get 1 _ rfl
      have ca2 := K.1.get 2 _ rfl
      have ca3 := K.1.get 3 _ rfl
      go_upto_region 3 with (go_at_call 48; ((with_reducible refine (H1.out _).mono ?_); rintro e w1 ⟨rfl, g1⟩))
      clear ca0 ca1 ca2 ca3
      replace K := (K.grown g1).new4 (.int .u64 (N t.lo)) (.int .u64 (N t.hi)) (.int .i64 (Z t.slo)) (.int .i64 (Z t.shi)) 49
      generalize w1.alloc (.cells #[.int .u64 (N t.lo), .int .u64 (N t.hi), .int .i64 (Z t.slo), .int .i64 (Z t.shi)] 49) = W2 at *
      generalize w1.heap.size = BT at *
      have ct0 := K.1.get 0 _ rfl
      have ct1 := K.1.get 1 _ rfl
      have ct2 := K.1.get 2 _ rfl
      have ct3 := K.1.get 3 _ rfl
      have ht := K.1.bound 0 _ rfl
      have ca0 := K.1.get 4 _ rfl
      have ca1 := K.1.get 5 _ rfl
      have ca2 := K.1.get 6 _ rfl
      have ca3 := K.1.get 7 _ rfl
      have ha := K.1.bound 4 _ rfl
      have cb0 := K.1.get 8 _ rfl
      have cb1 := K.1.get 9 _ rfl
      have cb2 := K.1.get 10 _ rfl
      have cb3 := K.1.get 11 _ rfl
      have hb := K.1.bound 8 _ rfl
      have cx0 := K.1.get 12 _ rfl
      have cx1 := K.1.get 13 _ rfl
      have cx2 := K.1.get 14 _ rfl
      have cx3 := K.1.get 15 _ rfl
      have hx := K.1.bound 12 _ rfl
      go_upto_region 4 with (go_at_call 49; ((with_reducible refine (H2.out _).mono ?_); rintro e w2 ⟨rfl, g2⟩))
      clear ct0 ct1 ct2 ct3 ca0 ca1 ca2 ca3 cb0 cb1 cb2 cb3 cx0 cx1 cx2 cx3 ht ha hb hx
      replace K := (K.grown g2).new4 (.int .u64 (N o.lo)) (.int .u64 (N o.hi)) (.int .i64 (Z o.slo)) (.int .i64 (Z o.shi)) 49
      generalize w2.alloc (.cells #[.int .u64 (N o.lo), .int .u64 (N o.hi), .int .i64 (Z o.slo), .int .i64 (Z o.shi)] 49) = W3 at *
      generalize w2.heap.size = BO at *
      have co0 := K.1.get 0 _ rfl
      have co1 := K.1.get 1 _ rfl
      have co2 := K.1.get 2 _ rfl
      have co3 := K.1.get 3 _ rfl
      have ho := K.1.bound 0 _ rfl
      have ct0 := K.1.get 4 _ rfl
      have ct1 := K.1.get 5 _ rfl
      have ct2 := K.1.get 6 _ rfl
      have ct3 := K.1.get 7 _ rfl
      have ht := K.1.bound 4 _ rfl
      have ca0 := K.1.get 8 _ rfl
      have ca1 := K.1.get 9 _ rfl
      have ca2 := K.1.get 10 _ rfl
      have ca3 := K.1.get 11 _ rfl
      have ha := K.1.bound 8 _ rfl
      have cb0 := K.1.get 12 _ rfl
      have cb1 := K.1.get 13 _ rfl
      have cb2 := K.1.get 14 _ rfl
      have cb3 := K.1.get 15 _ rfl
      have hb := K.1.bound 12 _ rfl
      have cx0 := K.1.get 16 _ rfl
      have cx1 := K.1.get 17 _ rfl
      have cx2 := K.1.get 18 _ rfl
      have cx3 := K.1.get 19 _ rfl
      have hx := K.1.bound 16 _ rfl
      go_upto_region 5 with (go_at_call 48; ((with_reducible refine (H3.out _).mono ?_); rintro e w3 ⟨rfl, g3⟩))
      clear co0 co1 co2 co3 ct0 ct1 ct2 ct3 ca0 ca1 ca2 ca3 cb0 cb1 cb2 cb3 cx0 cx1 cx2 cx3 ho ht ha hb hx
      replace K := (K.grown g3).new4 (.int .u64 (N r.lo)) (.int .u64 (N r.hi)) (.int .i64 (Z r.slo)) (.int .i64 (Z r.shi)) 49
      generalize w3.alloc (.cells #[.int .u64 (N r.lo), .int .u64 (N r.hi), .int .i64 (Z r.slo), .int .i64 (Z r.shi)] 49) = W4 at *
      generalize w3.heap.size = BR at *
      clear g1 g2 g3
      have cr0 := K.1.get 0 _ rfl
      have cr1 := K.1.get 1 _ rfl
      have cr2 := K.1.get 2 _ rfl
      have cr3 := K.1.get 3 _ rfl
      have hr := K.1.bound 0 _ rfl
      have co0 := K.1.get 4 _ rfl
      have co1 := K.1.get 5 _ rfl
      have co2 := K.1.get 6 _ rfl
      have co3 := K.1.get 7 _ rfl
      have ho := K.1.bound 4 _ rfl
      have ct0 := K.1.get 8 _ rfl
      have ct1 := K.1.get 9 _ rfl
      have ct2 := K.1.get 10 _ rfl
      have ct3 := K.1.get 11 _ rfl
      have ht := K.1.bound 8 _ rfl
      have ca0 := K.1.get 12 _ rfl
      have ca1 := K.1.get 13 _ rfl
      have ca2 := K.1.get 14 _ rfl
      have ca3 := K.1.get 15 _ rfl
      have ha := K.1.bound 12 _ rfl
      have cb0 := K.1.get 16 _ rfl
      have cb1 := K.1.get 17 _ rfl
      have cb2 := K.1.get 18 _ rfl
      have cb3 := K.1.get 19 _ rfl
      have hb := K.1.bound 16 _ rfl
      have cx0 := K.1.get 20 _ rfl
      have cx1 := K.1.get 21 _ rfl
      have cx2 := K.1.get 22 _ rfl
      have cx3 := K.1.get 23 _ rfl
      have hx := K.1.bound 20 _ rfl
      have G : Grown W4 W4 := Grown.refl _
      go_upto_region 10 with (first | (go_at_call 48; ((with_reducible refine (H1.out _).mono ?_); rintro e wn ⟨rfl, hg⟩; have G := Grown.trans' G hg; have gc := gcellI G; clear hg)) | (go_at_call 49; ((with_reducible refine (H2.out _).mono ?_); rintro e wn ⟨rfl, hg⟩; have G := Grown.trans' G hg; have gc := gcellI G; clear hg)) | (go_at_call 48; ((with_reducible refine (H3.out _).mono ?_); rintro e wn ⟨rfl, hg⟩; have G := Grown.trans' G hg; have gc := gcellI G; clear hg)) | (go_at_call 33; ((with_reducible refine (H4.out _).mono ?_); rintro e wn ⟨rfl, hg⟩; have G := Grown.trans' G hg; have gc := gcellI G; clear hg)) | (go_at_call 33; ((with_reducible refine (H5.out _).mono ?_); rintro e wn ⟨rfl, hg⟩; have G := Grown.trans' G hg; have gc := gcellI G; clear hg)) | (go_at_call 50; ((with_reducible refine (H6.out _).mono ?_); rintro e wn ⟨rfl, hg⟩; have G := Grown.trans' G hg; have gc := gcellI G; clear hg)) | (go_at_call 50; ((with_reducible refine (H7.out _).mono ?_); rintro e wn ⟨rfl, hg⟩; have G := Grown.trans' G hg; have gc := gcellI G; clear hg)) | (go_at_call 50; ((with_reducible refine (H8.out _).mono ?_); rintro e wn ⟨rfl, hg⟩; have G := Grown.trans' G hg; have gc := gcellI G; clear hg)) | (go_at_call 33; ((with_reducible refine (H9.out _).mono ?_); rintro e wn ⟨rfl, hg⟩; have G := Grown.trans' G hg; have gc := gcellI G; clear hg)) | (go_at_call 32; ((with_reducible refine (H11.out _).mono ?_); rintro e wn ⟨rfl, hg⟩; have G := Grown.trans' G hg; have gc := gcellI G; clear hg)) | (go_at_call 50; ((with_reducible refine (H12.out _).mono ?_); rintro e wn ⟨rfl, hg⟩; have G := Grown.trans' G hg; have gc := gcellI G; clear hg)) | (go_at_call 49; ((with_reducible refine (H13.out _).mono ?_); rintro e w5 ⟨rfl, hg⟩; have G5 := Grown.trans' G hg; clear hg)))
      replace K := (K.grown G5).new4 (.int .u64 (N p.lo)) (.int .u64 (N p.hi)) (.int .i64 (Z p.slo)) (.int .i64 (Z p.shi)) 49
      clear cr0 cr1 cr2 cr3 co0 co1 co2 co3 ct0 ct1 ct2 ct3 ca0 ca1 ca2 ca3 cb0 cb1 cb2 cb3 cx0 cx1 cx2 cx3 hr ho ht ha hb hx
      generalize w5.alloc (.cells #[.int .u64 (N p.lo), .int .u64 (N p.hi), .int .i64 (Z p.slo), .int .i64 (Z p.shi)] 49) = W5 at *
      generalize w5.heap.size = BP at *
      clear G5
      have cp0 := K.1.get 0 _ rfl
      have cp1 := K.1.get 1 _ rfl
      have cp2 := K.1.get 2 _ rfl
      have cp3 := K.1.get 3 _ rfl
      have hp := K.1.bound 0 _ rfl
      have cx0 := K.1.get 24 _ rfl
      have cx1 := K.1.get 25 _ rfl
      have cx2 := K.1.get 26 _ rfl
      have cx3 := K.1.get 27 _ rfl
      have hx := K.1.bound 24 _ rfl
      have hK := K.2
      clear K
      have G : Grown W5 W5 := Grown.refl _
      go_wp2_with (first | (go_at_call 33; ((with_reducible refine (H9.out _).mono ?_); rintro e wn ⟨rfl, hg⟩; have G := Grown.trans' G hg; have gc := gcellI G; clear hg)) | (go_at_call 47; ((with_reducible refine (ends_any _).mono ?_); rintro e wn ⟨rfl, hg⟩; have G := Grown.trans' G hg; have gc := gcellI G; clear hg)))
      go_ret
      exact ⟨rfl, Grown.trans' hK G⟩
    · exact absurd ((Spn.tight_has ((hasB_iff _ _).1 hh)).1.symm.trans ll) (by decide)
    · have H3 : Hid (∀ w, Calls Try.prog 48 #[.agg #[.int .u64 (N lo), .int .u64 (N hi), .int .i64 (Z slo), .int .i64 (Z shi)]] w fun e w' => e = .returned (.tuple #[.agg #[.int .u64 (N r.lo), .int .u64 (N r.hi), .int .i64 (Z r.slo), .int .i64 (Z r.shi)], .bool true]) ∧ Grown w w') := Lib.hid (fun w => by rw [← hr, ← ll]; exact sp_tight lo hi slo shi w)
      have H9 : Hid (∀ w, Calls Try.prog 33 #[.agg #[.int .u64 (N lo), .int .u64 (N hi), .int .i64 (Z slo), .int .i64 (Z shi)], .int .u64 (N v)] w fun e w' => e = .returned (.bool true) ∧ Grown w w') := Lib.hid (fun w => by rw [← hh]; exact law_has lo hi slo shi v w)
      have HR : SHas r v := hr ▸ (Spn.tight_has ((hasB_iff _ _).1 hh)).2
      have H10 : Hid (∀ w, Calls Try.prog 33 #[.agg #[.int .u64 (N r.lo), .int .u64 (N r.hi), .int .i64 (Z r.slo), .int .i64 (Z r.shi)], .int .u64 (N v)] w fun e w' => e = .returned (.bool true) ∧ Grown w w') := Lib.hid (fun w => by rw [← (hasB_iff _ _).2 HR]; exact law_has r.lo r.hi r.slo r.shi v w)
      have cAR := Spn.common_has HA.out ((hasB_iff _ _).1 hh)
      have tP := Spn.tight_has cAR
      obtain ⟨p, hp⟩ : ∃ p, tightS (commonS a (⟨lo, hi, slo, shi⟩ : Sp)) = p := ⟨_, rfl⟩
      rw [hp] at tP
      have H13 : Hid (∀ w, Calls Try.prog 49 #[.agg #[.int .u64 (N a.lo), .int .u64 (N a.hi), .int .i64 (Z a.slo), .int .i64 (Z a.shi)], .agg #[.int .u64 (N lo), .int .u64 (N hi), .int .i64 (Z slo), .int .i64 (Z shi)]] w fun e w' => e = .returned (.tuple #[.agg #[.int .u64 (N p.lo), .int .u64 (N p.hi), .int .i64 (Z p.slo), .int .i64 (Z p.shi)], .bool true]) ∧ Grown w w') := Lib.hid (fun w => by rw [← hp, ← tP.1]; exact sp_both a.lo a.hi a.slo a.shi lo hi slo shi w)
      have H14 : Hid (∀ w, Calls Try.prog 33 #[.agg #[.int .u64 (N p.lo), .int .u64 (N p.hi), .int .i64 (Z p.slo), .int .i64 (Z p.shi)], .int .u64 (N v)] w fun e w' => e = .returned (.bool true) ∧ Grown w w') := Lib.hid (fun w => by rw [← (hasB_iff _ _).2 tP.2]; exact law_has p.lo p.hi p.slo p.shi v w)
      have iR := Spn.tight_in ll
      rw [hr] at iR
      have H11 : Hid (∀ w, Calls Try.prog 32 #[.agg #[.int .u64 (N r.lo), .int .u64 (N r.hi), .int .i64 (Z r.slo), .int .i64 (Z r.shi)]] w fun e w' => e = .returned (.bool true) ∧ Grown w w') := Lib.hid (fun w => by rw [← (validB_iff _).2 iR.1]; exact sp_valid r.lo r.hi r.slo r.shi w)
      have H12 : Hid (∀ w, Calls Try.prog 50 #[.agg #[.int .u64 (N lo), .int .u64 (N hi), .int .i64 (Z slo), .int .i64 (Z shi)], .agg #[.int .u64 (N r.lo), .int .u64 (N r.hi), .int .i64 (Z r.slo), .int .i64 (Z r.shi)]] w fun e w' => e = .returned (.bool true) ∧ Grown w w') := Lib.hid (fun w => by rw [← (inB_iff _ _).2 iR.2]; exact sp_in lo hi slo shi r.lo r.hi r.slo r.shi w)
      clear hh ll HR cAR tP hp iR hr
      have ca0 := K.1.get 0 _ rfl
      have ca1 := K.1.get 1 _ rfl
      have ca2 := K.1.get 2 _ rfl
      have ca3 := K.1.get 3 _ rfl
      go_upto_region 3 with (go_at_call 48; ((with_reducible refine (H1.out _).mono ?_); rintro e w1 ⟨rfl, g1⟩))
      clear ca0 ca1 ca2 ca3
      replace K := (K.grown g1).new4 (.int .u64 (N t.lo)) (.int .u64 (N t.hi)) (.int .i64 (Z t.slo)) (.int .i64 (Z t.shi)) 49
      generalize w1.alloc (.cells #[.int .u64 (N t.lo), .int .u64 (N t.hi), .int .i64 (Z t.slo), .int .i64 (Z t.shi)] 49) = W2 at *
      generalize w1.heap.size = BT at *
      have ct0 := K.1.get 0 _ rfl
      have ct1 := K.1.get 1 _ rfl
      have ct2 := K.1.get 2 _ rfl
      have ct3 := K.1.get 3 _ rfl
      have ht := K.1.bound 0 _ rfl
      have ca0 := K.1.get 4 _ rfl
      have ca1 := K.1.get 5 _ rfl
      have ca2 := K.1.get 6 _ rfl
      have ca3 := K.1.get 7 _ rfl
      have ha := K.1.bound 4 _ rfl
      have cb0 := K.1.get 8 _ rfl
      have cb1 := K.1.get 9 _ rfl
      have cb2 := K.1.get 10 _ rfl
      have cb3 := K.1.get 11 _ rfl
      have hb := K.1.bound 8 _ rfl
      have cx0 := K.1.get 12 _ rfl
      have cx1 := K.1.get 13 _ rfl
      have cx2 := K.1.get 14 _ rfl
      have cx3 := K.1.get 15 _ rfl
      have hx := K.1.bound 12 _ rfl
      go_upto_region 4 with (go_at_call 49; ((with_reducible refine (H2.out _).mono ?_); rintro e w2 ⟨rfl, g2⟩))
      clear ct0 ct1 ct2 ct3 ca0 ca1 ca2 ca3 cb0 cb1 cb2 cb3 cx0 cx1 cx2 cx3 ht ha hb hx
      replace K := (K.grown g2).new4 (.int .u64 (N o.lo)) (.int .u64 (N o.hi)) (.int .i64 (Z o.slo)) (.int .i64 (Z o.shi)) 49
      generalize w2.alloc (.cells #[.int .u64 (N o.lo), .int .u64 (N o.hi), .int .i64 (Z o.slo), .int .i64 (Z o.shi)] 49) = W3 at *
      generalize w2.heap.size = BO at *
      have co0 := K.1.get 0 _ rfl
      have co1 := K.1.get 1 _ rfl
      have co2 := K.1.get 2 _ rfl
      have co3 := K.1.get 3 _ rfl
      have ho := K.1.bound 0 _ rfl
      have ct0 := K.1.get 4 _ rfl
      have ct1 := K.1.get 5 _ rfl
      have ct2 := K.1.get 6 _ rfl
      have ct3 := K.1.get 7 _ rfl
      have ht := K.1.bound 4 _ rfl
      have ca0 := K.1.get 8 _ rfl
      have ca1 := K.1.get 9 _ rfl
      have ca2 := K.1.get 10 _ rfl
      have ca3 := K.1.get 11 _ rfl
      have ha := K.1.bound 8 _ rfl
      have cb0 := K.1.get 12 _ rfl
      have cb1 := K.1.get 13 _ rfl
      have cb2 := K.1.get 14 _ rfl
      have cb3 := K.1.get 15 _ rfl
      have hb := K.1.bound 12 _ rfl
      have cx0 := K.1.get 16 _ rfl
      have cx1 := K.1.get 17 _ rfl
      have cx2 := K.1.get 18 _ rfl
      have cx3 := K.1.get 19 _ rfl
      have hx := K.1.bound 16 _ rfl
      go_upto_region 5 with (go_at_call 48; ((with_reducible refine (H3.out _).mono ?_); rintro e w3 ⟨rfl, g3⟩))
      clear co0 co1 co2 co3 ct0 ct1 ct2 ct3 ca0 ca1 ca2 ca3 cb0 cb1 cb2 cb3 cx0 cx1 cx2 cx3 ho ht ha hb hx
      replace K := (K.grown g3).new4 (.int .u64 (N r.lo)) (.int .u64 (N r.hi)) (.int .i64 (Z r.slo)) (.int .i64 (Z r.shi)) 49
      generalize w3.alloc (.cells #[.int .u64 (N r.lo), .int .u64 (N r.hi), .int .i64 (Z r.slo), .int .i64 (Z r.shi)] 49) = W4 at *
      generalize w3.heap.size = BR at *
      clear g1 g2 g3
      have cr0 := K.1.get 0 _ rfl
      have cr1 := K.1.get 1 _ rfl
      have cr2 := K.1.get 2 _ rfl
      have cr3 := K.1.get 3 _ rfl
      have hr := K.1.bound 0 _ rfl
      have co0 := K.1.get 4 _ rfl
      have co1 := K.1.get 5 _ rfl
      have co2 := K.1.get 6 _ rfl
      have co3 := K.1.get 7 _ rfl
      have ho := K.1.bound 4 _ rfl
      have ct0 := K.1.get 8 _ rfl
      have ct1 := K.1.get 9 _ rfl
      have ct2 := K.1.get 10 _ rfl
      have ct3 := K.1.get 11 _ rfl
      have ht := K.1.bound 8 _ rfl
      have ca0 := K.1.get 12 _ rfl
      have ca1 := K.1.get 13 _ rfl
      have ca2 := K.1.get 14 _ rfl
      have ca3 := K.1.get 15 _ rfl
      have ha := K.1.bound 12 _ rfl
      have cb0 := K.1.get 16 _ rfl
      have cb1 := K.1.get 17 _ rfl
      have cb2 := K.1.get 18 _ rfl
      have cb3 := K.1.get 19 _ rfl
      have hb := K.1.bound 16 _ rfl
      have cx0 := K.1.get 20 _ rfl
      have cx1 := K.1.get 21 _ rfl
      have cx2 := K.1.get 22 _ rfl
      have cx3 := K.1.get 23 _ rfl
      have hx := K.1.bound 20 _ rfl
      have G : Grown W4 W4 := Grown.refl _
      go_upto_region 10 with (first | (go_at_call 48; ((with_reducible refine (H1.out _).mono ?_); rintro e wn ⟨rfl, hg⟩; have G := Grown.trans' G hg; have gc := gcellI G; clear hg)) | (go_at_call 49; ((with_reducible refine (H2.out _).mono ?_); rintro e wn ⟨rfl, hg⟩; have G := Grown.trans' G hg; have gc := gcellI G; clear hg)) | (go_at_call 48; ((with_reducible refine (H3.out _).mono ?_); rintro e wn ⟨rfl, hg⟩; have G := Grown.trans' G hg; have gc := gcellI G; clear hg)) | (go_at_call 33; ((with_reducible refine (H4.out _).mono ?_); rintro e wn ⟨rfl, hg⟩; have G := Grown.trans' G hg; have gc := gcellI G; clear hg)) | (go_at_call 33; ((with_reducible refine (H5.out _).mono ?_); rintro e wn ⟨rfl, hg⟩; have G := Grown.trans' G hg; have gc := gcellI G; clear hg)) | (go_at_call 50; ((with_reducible refine (H6.out _).mono ?_); rintro e wn ⟨rfl, hg⟩; have G := Grown.trans' G hg; have gc := gcellI G; clear hg)) | (go_at_call 50; ((with_reducible refine (H7.out _).mono ?_); rintro e wn ⟨rfl, hg⟩; have G := Grown.trans' G hg; have gc := gcellI G; clear hg)) | (go_at_call 50; ((with_reducible refine (H8.out _).mono ?_); rintro e wn ⟨rfl, hg⟩; have G := Grown.trans' G hg; have gc := gcellI G; clear hg)) | (go_at_call 33; ((with_reducible refine (H9.out _).mono ?_); rintro e wn ⟨rfl, hg⟩; have G := Grown.trans' G hg; have gc := gcellI G; clear hg)) | (go_at_call 33; ((with_reducible refine (H10.out _).mono ?_); rintro e wn ⟨rfl, hg⟩; have G := Grown.trans' G hg; have gc := gcellI G; clear hg)) | (go_at_call 33; ((with_reducible refine (H14.out _).mono ?_); rintro e wn ⟨rfl, hg⟩; have G := Grown.trans' G hg; have gc := gcellI G; clear hg)) | (go_at_call 32; ((with_reducible refine (H11.out _).mono ?_); rintro e wn ⟨rfl, hg⟩; have G := Grown.trans' G hg; have gc := gcellI G; clear hg)) | (go_at_call 50; ((with_reducible refine (H12.out _).mono ?_); rintro e wn ⟨rfl, hg⟩; have G := Grown.trans' G hg; have gc := gcellI G; clear hg)) | (go_at_call 49; ((with_reducible refine (H13.out _).mono ?_); rintro e w5 ⟨rfl, hg⟩; have G5 := Grown.trans' G hg; clear hg)))
      replace K := (K.grown G5).new4 (.int .u64 (N p.lo)) (.int .u64 (N p.hi)) (.int .i64 (Z p.slo)) (.int .i64 (Z p.shi)) 49
      clear cr0 cr1 cr2 cr3 co0 co1 co2 co3 ct0 ct1 ct2 ct3 ca0 ca1 ca2 ca3 cb0 cb1 cb2 cb3 cx0 cx1 cx2 cx3 hr ho ht ha hb hx
      generalize w5.alloc (.cells #[.int .u64 (N p.lo), .int .u64 (N p.hi), .int .i64 (Z p.slo), .int .i64 (Z p.shi)] 49) = W5 at *
      generalize w5.heap.size = BP at *
      clear G5
      have cp0 := K.1.get 0 _ rfl
      have cp1 := K.1.get 1 _ rfl
      have cp2 := K.1.get 2 _ rfl
      have cp3 := K.1.get 3 _ rfl
      have hp := K.1.bound 0 _ rfl
      have cx0 := K.1.get 24 _ rfl
      have cx1 := K.1.get 25 _ rfl
      have cx2 := K.1.get 26 _ rfl
      have cx3 := K.1.get 27 _ rfl
      have hx := K.1.bound 24 _ rfl
      have hK := K.2
      clear K
      have G : Grown W5 W5 := Grown.refl _
      go_wp2_with (first | (go_at_call 33; ((with_reducible refine (H9.out _).mono ?_); rintro e wn ⟨rfl, hg⟩; have G := Grown.trans' G hg; have gc := gcellI G; clear hg)) | (go_at_call 33; ((with_reducible refine (H14.out _).mono ?_); rintro e wn ⟨rfl, hg⟩; have G := Grown.trans' G hg; have gc := gcellI G; clear hg)) | (go_at_call 47; ((with_reducible refine (ends_any _).mono ?_); rintro e wn ⟨rfl, hg⟩; have G := Grown.trans' G hg; have gc := gcellI G; clear hg)))
      go_ret
      exact ⟨rfl, Grown.trans' hK G⟩
end Go.Proofs.Ytchjneodjaakdaa
