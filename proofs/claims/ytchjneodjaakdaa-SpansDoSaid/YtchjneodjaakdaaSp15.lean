/-
  The walk of the law SpansDo (under way).
-/
import Derived.Test.YtchjneodjaakdaaSp8
import Derived.Test.YtchjneodjaakdaaSp10
import Derived.Test.YtchjneodjaakdaaSp12
import Derived.Test.YtchjneodjaakdaaSp13
import Derived.Test.YtchjneodjaakdaaRegT
import Derived.Test.YtchjneodjaakdaaSpDoMath
import Derived.Test.YtchjneodjaakdaaDoRef
namespace Go.Proofs.Ytchjneodjaakdaa
open Go.RowKit
open Spn (Sp umax umin smax smin okS tightS anyS settledS commonS minW maxW constS addR subR SHas SValid SIn)
attribute [local go_sem] u64_wrap BitVec.ofInt_add ofInt_N ofInt_Nw u64_and u64_or u64_xor wrap64_N ofInt_Z64 max_N min_N max_Z min_Z w_add w_sub

/-- The two S's in blocks of their own, and the two numbers. -/
def TwoV (w0 : World) (a b : Sp) (x y : BitVec 64) (C : Nat) (s7 s8 : Value) (w : World) : Prop :=
  ∃ B1 B2 : Nat, s7 = .pointer (some ⟨B1, 0, none⟩) ∧ s8 = .pointer (some ⟨B2, 0, none⟩) ∧
    Keeps w0 [(B1, 0, .int .u64 (N a.lo)), (B1, 1, .int .u64 (N a.hi)), (B1, 2, .int .i64 (Z a.slo)), (B1, 3, .int .i64 (Z a.shi)), (B2, 0, .int .u64 (N b.lo)), (B2, 1, .int .u64 (N b.hi)), (B2, 2, .int .i64 (Z b.slo)), (B2, 3, .int .i64 (Z b.shi)), (C, 0, .int .u64 (N x)), (C, 1, .int .u64 (N y))] w
theorem k63 (n : Int) : BitVec.ofInt 64 n &&& 63#64 = BitVec.ofInt 64 (n % 64) := by
  apply BitVec.eq_of_toNat_eq
  rw [BitVec.toNat_and, BitVec.toNat_ofInt, BitVec.toNat_ofInt]
  rw [show (63#64 : BitVec 64).toNat = 2 ^ 6 - 1 by decide, Nat.and_two_pow_sub_one_eq_mod]
  omega
/-- What stands at place c of the results and of the operations. -/
def Row5 (w : World) (L c : Nat) (r : Sp) (o : Int) : Prop :=
  w.cell? ⟨L, 4 * c, none⟩ = some (.int .u64 (N r.lo)) ∧ w.cell? ⟨L, 4 * c + 1, none⟩ = some (.int .u64 (N r.hi)) ∧ w.cell? ⟨L, 4 * c + 2, none⟩ = some (.int .i64 (Z r.slo)) ∧
    w.cell? ⟨L, 4 * c + 3, none⟩ = some (.int .i64 (Z r.shi)) ∧ w.cell? ⟨L + 1, c, none⟩ = some (.int .u8 o)
theorem valid_of_has {s : Sp} {v : BitVec 64} (h : SHas s v) : SValid s := ⟨Int.le_trans h.1 h.2.1, Int.le_trans h.2.2.1 h.2.2.2⟩
set_option maxRecDepth 100000 in
set_option maxHeartbeats 4000000 in
theorem spansDo_walk (x y p0 p1 p2 p3 p4 p5 p6 p7 : BitVec 64) (n : Int) (h0 : -9223372036854775808 ≤ n) (h1 : n ≤ 9223372036854775807) (w : World) : Calls Try.prog 7 #[.agg #[.int .u64 (N x), .int .u64 (N y)], .agg #[.int .u64 (N p0), .int .u64 (N p1), .int .u64 (N p2), .int .u64 (N p3), .int .u64 (N p4), .int .u64 (N p5), .int .u64 (N p6), .int .u64 (N p7)], .int .i64 n] w fun e w' => e = .returned (.bool true) ∧ Grown w w' := by
  have HN0 := Lib.hid h0
  have HN1 := Lib.hid h1
  clear h0 h1
  go_enter Try.func7, Try.ntmps7
  go_upto_region 1 with fail
  have hgr : Gw w ((w.alloc (.cells #[.int .u64 (N x), .int .u64 (N y)] 23)).alloc (.cells #[.int .u64 (N p0), .int .u64 (N p1), .int .u64 (N p2), .int .u64 (N p3), .int .u64 (N p4), .int .u64 (N p5), .int .u64 (N p6), .int .u64 (N p7)] 47)) := by show Grown _ _; go_grown
  have v0 := gw_cell (W := ((w.alloc (.cells #[.int .u64 (N x), .int .u64 (N y)] 23)).alloc (.cells #[.int .u64 (N p0), .int .u64 (N p1), .int .u64 (N p2), .int .u64 (N p3), .int .u64 (N p4), .int .u64 (N p5), .int .u64 (N p6), .int .u64 (N p7)] 47))) (B := w.heap.size) (o := 0) (v := .int .u64 (N x)) (by simp; omega) (by simp [go_sem])
  have v1 := gw_cell (W := ((w.alloc (.cells #[.int .u64 (N x), .int .u64 (N y)] 23)).alloc (.cells #[.int .u64 (N p0), .int .u64 (N p1), .int .u64 (N p2), .int .u64 (N p3), .int .u64 (N p4), .int .u64 (N p5), .int .u64 (N p6), .int .u64 (N p7)] 47))) (B := w.heap.size) (o := 1) (v := .int .u64 (N y)) (by simp; omega) (by simp [go_sem])
  have q0 := gw_cell (W := ((w.alloc (.cells #[.int .u64 (N x), .int .u64 (N y)] 23)).alloc (.cells #[.int .u64 (N p0), .int .u64 (N p1), .int .u64 (N p2), .int .u64 (N p3), .int .u64 (N p4), .int .u64 (N p5), .int .u64 (N p6), .int .u64 (N p7)] 47))) (B := w.heap.size + 1) (o := 0) (v := .int .u64 (N p0)) (by simp) (by simp [go_sem])
  have q1 := gw_cell (W := ((w.alloc (.cells #[.int .u64 (N x), .int .u64 (N y)] 23)).alloc (.cells #[.int .u64 (N p0), .int .u64 (N p1), .int .u64 (N p2), .int .u64 (N p3), .int .u64 (N p4), .int .u64 (N p5), .int .u64 (N p6), .int .u64 (N p7)] 47))) (B := w.heap.size + 1) (o := 1) (v := .int .u64 (N p1)) (by simp) (by simp [go_sem])
  have q2 := gw_cell (W := ((w.alloc (.cells #[.int .u64 (N x), .int .u64 (N y)] 23)).alloc (.cells #[.int .u64 (N p0), .int .u64 (N p1), .int .u64 (N p2), .int .u64 (N p3), .int .u64 (N p4), .int .u64 (N p5), .int .u64 (N p6), .int .u64 (N p7)] 47))) (B := w.heap.size + 1) (o := 2) (v := .int .u64 (N p2)) (by simp) (by simp [go_sem])
  have q3 := gw_cell (W := ((w.alloc (.cells #[.int .u64 (N x), .int .u64 (N y)] 23)).alloc (.cells #[.int .u64 (N p0), .int .u64 (N p1), .int .u64 (N p2), .int .u64 (N p3), .int .u64 (N p4), .int .u64 (N p5), .int .u64 (N p6), .int .u64 (N p7)] 47))) (B := w.heap.size + 1) (o := 3) (v := .int .u64 (N p3)) (by simp) (by simp [go_sem])
  have q4 := gw_cell (W := ((w.alloc (.cells #[.int .u64 (N x), .int .u64 (N y)] 23)).alloc (.cells #[.int .u64 (N p0), .int .u64 (N p1), .int .u64 (N p2), .int .u64 (N p3), .int .u64 (N p4), .int .u64 (N p5), .int .u64 (N p6), .int .u64 (N p7)] 47))) (B := w.heap.size + 1) (o := 4) (v := .int .u64 (N p4)) (by simp) (by simp [go_sem])
  have q5 := gw_cell (W := ((w.alloc (.cells #[.int .u64 (N x), .int .u64 (N y)] 23)).alloc (.cells #[.int .u64 (N p0), .int .u64 (N p1), .int .u64 (N p2), .int .u64 (N p3), .int .u64 (N p4), .int .u64 (N p5), .int .u64 (N p6), .int .u64 (N p7)] 47))) (B := w.heap.size + 1) (o := 5) (v := .int .u64 (N p5)) (by simp) (by simp [go_sem])
  have q6 := gw_cell (W := ((w.alloc (.cells #[.int .u64 (N x), .int .u64 (N y)] 23)).alloc (.cells #[.int .u64 (N p0), .int .u64 (N p1), .int .u64 (N p2), .int .u64 (N p3), .int .u64 (N p4), .int .u64 (N p5), .int .u64 (N p6), .int .u64 (N p7)] 47))) (B := w.heap.size + 1) (o := 6) (v := .int .u64 (N p6)) (by simp) (by simp [go_sem])
  have q7 := gw_cell (W := ((w.alloc (.cells #[.int .u64 (N x), .int .u64 (N y)] 23)).alloc (.cells #[.int .u64 (N p0), .int .u64 (N p1), .int .u64 (N p2), .int .u64 (N p3), .int .u64 (N p4), .int .u64 (N p5), .int .u64 (N p6), .int .u64 (N p7)] 47))) (B := w.heap.size + 1) (o := 7) (v := .int .u64 (N p7)) (by simp) (by simp [go_sem])
  have hs : w.heap.size + 1 < ((w.alloc (.cells #[.int .u64 (N x), .int .u64 (N y)] 23)).alloc (.cells #[.int .u64 (N p0), .int .u64 (N p1), .int .u64 (N p2), .int .u64 (N p3), .int .u64 (N p4), .int .u64 (N p5), .int .u64 (N p6), .int .u64 (N p7)] 47)).heap.size := by simp
  generalize ((w.alloc (.cells #[.int .u64 (N x), .int .u64 (N y)] 23)).alloc (.cells #[.int .u64 (N p0), .int .u64 (N p1), .int .u64 (N p2), .int .u64 (N p3), .int .u64 (N p4), .int .u64 (N p5), .int .u64 (N p6), .int .u64 (N p7)] 47)) = W1 at *
  generalize w.heap.size = B at *
  have hW0 : Gw W1 W1 := Grown.refl _
  have hW : Gw W1 W1.drew := Gw.drew (Grown.refl _)
  generalize hma : madeS x p0 p1 p2 p3 = a
  generalize hmb : madeS y p4 p5 p6 p7 = b
  have MA := Lib.hid (fun w => hma ▸ law_made x p0 p1 p2 p3 w)
  have MB := Lib.hid (fun w => hmb ▸ law_made y p4 p5 p6 p7 w)
  have HA : Hid (SHas a x) := Lib.hid (hma ▸ made_has x p0 p1 p2 p3)
  have HB : Hid (SHas b y) := Lib.hid (hmb ▸ made_has y p4 p5 p6 p7)
  clear hma hmb
  go_cut [7, 8] (fun s7 s8 wx => TwoV w a b x y B s7 s8 wx)
  case first =>
    go_region_held3 (fun w' => Gw W1 w') ((repeat (first | with_reducible assumption | with_reducible refine Gw.drew ?_ | with_reducible refine Gw.alloc ?_ _ _ | with_reducible refine Gw.set4 ?_ (by first | exact Nat.le_refl _ | omega) _ _ _ _))) (first | (go_at_call 31; ((with_reducible refine (MA.out _).mono ?_); rintro e w' ⟨rfl, rfl⟩)) | (go_at_call 31; ((with_reducible refine (MB.out _).mono ?_); rintro e w' ⟨rfl, rfl⟩)))
    all_goals
      go_wp2_with fail
      go_meet
      case rel => exact ⟨_, _, rfl, rfl, ⟨⟨⟨by simp [go_sem], by simp <;> omega⟩, ⟨by simp [go_sem], by simp <;> omega⟩, ⟨by simp [go_sem], by simp <;> omega⟩, ⟨by simp [go_sem], by simp <;> omega⟩, ⟨by simp [go_sem], by simp <;> omega⟩, ⟨by simp [go_sem], by simp <;> omega⟩, ⟨by simp [go_sem], by simp <;> omega⟩, ⟨by simp [go_sem], by simp <;> omega⟩, ⟨v0 _ (by (repeat (first | with_reducible assumption | with_reducible refine Gw.drew ?_ | with_reducible refine Gw.alloc ?_ _ _ | with_reducible refine Gw.set4 ?_ (by first | exact Nat.le_refl _ | omega) _ _ _ _))), by simp <;> omega⟩, ⟨v1 _ (by (repeat (first | with_reducible assumption | with_reducible refine Gw.drew ?_ | with_reducible refine Gw.alloc ?_ _ _ | with_reducible refine Gw.set4 ?_ (by first | exact Nat.le_refl _ | omega) _ _ _ _))), by simp <;> omega⟩, trivial⟩, Gw.trans hgr (by (repeat (first | with_reducible assumption | with_reducible refine Gw.drew ?_ | with_reducible refine Gw.alloc ?_ _ _ | with_reducible refine Gw.set4 ?_ (by first | exact Nat.le_refl _ | omega) _ _ _ _)))⟩⟩
  case rest =>
    clear q0 q1 q2 q3 q4 q5 q6 q7 v0 v1 hs hW0 hW hgr MA MB
    obtain ⟨B1, B2, rfl, rfl, K⟩ := hcut
    have VA : Hid (∀ w, Calls Try.prog 32 #[.agg #[.int .u64 (N a.lo), .int .u64 (N a.hi), .int .i64 (Z a.slo), .int .i64 (Z a.shi)]] w fun e w' => e = .returned (.bool true) ∧ Grown w w') := Lib.hid (fun w => ret_b ((validB_iff _).2 (valid_of_has HA.out)) (sp_valid a.lo a.hi a.slo a.shi w))
    have VB : Hid (∀ w, Calls Try.prog 32 #[.agg #[.int .u64 (N b.lo), .int .u64 (N b.hi), .int .i64 (Z b.slo), .int .i64 (Z b.shi)]] w fun e w' => e = .returned (.bool true) ∧ Grown w w') := Lib.hid (fun w => ret_b ((validB_iff _).2 (valid_of_has HB.out)) (sp_valid b.lo b.hi b.slo b.shi w))
    have TA : Hid (∀ w, Calls Try.prog 33 #[.agg #[.int .u64 (N a.lo), .int .u64 (N a.hi), .int .i64 (Z a.slo), .int .i64 (Z a.shi)], .int .u64 (N x)] w fun e w' => e = .returned (.bool true) ∧ Grown w w') := Lib.hid (fun w => ret_b ((hasB_iff _ _).2 HA.out) (law_has a.lo a.hi a.slo a.shi x w))
    have TB : Hid (∀ w, Calls Try.prog 33 #[.agg #[.int .u64 (N b.lo), .int .u64 (N b.hi), .int .i64 (Z b.slo), .int .i64 (Z b.shi)], .int .u64 (N y)] w fun e w' => e = .returned (.bool true) ∧ Grown w w') := Lib.hid (fun w => ret_b ((hasB_iff _ _).2 HB.out) (law_has b.lo b.hi b.slo b.shi y w))
    have ca0 : wc.cell? ⟨B1, 0, none⟩ = some _ := K.1.get 0 _ rfl
    have ca1 : wc.cell? ⟨B1, 1, none⟩ = some _ := K.1.get 1 _ rfl
    have ca2 : wc.cell? ⟨B1, 2, none⟩ = some _ := K.1.get 2 _ rfl
    have ca3 : wc.cell? ⟨B1, 3, none⟩ = some _ := K.1.get 3 _ rfl
    have ha : B1 < wc.heap.size := K.1.bound 0 _ rfl
    have cb0 : wc.cell? ⟨B2, 0, none⟩ = some _ := K.1.get 4 _ rfl
    have cb1 : wc.cell? ⟨B2, 1, none⟩ = some _ := K.1.get 5 _ rfl
    have cb2 : wc.cell? ⟨B2, 2, none⟩ = some _ := K.1.get 6 _ rfl
    have cb3 : wc.cell? ⟨B2, 3, none⟩ = some _ := K.1.get 7 _ rfl
    have hb : B2 < wc.heap.size := K.1.bound 4 _ rfl
    have cv0 : wc.cell? ⟨B, 0, none⟩ = some _ := K.1.get 8 _ rfl
    have cv1 : wc.cell? ⟨B, 1, none⟩ = some _ := K.1.get 9 _ rfl
    have hv : B < wc.heap.size := K.1.bound 8 _ rfl
    have HK := Lib.hid K.2
    clear K
    obtain ⟨r0, C0, E0⟩ : ∃ r : Sp, Hid (∀ w, Calls Try.prog 34 #[.agg #[.int .u64 (N a.lo), .int .u64 (N a.hi), .int .i64 (Z a.slo), .int .i64 (Z a.shi)], .agg #[.int .u64 (N b.lo), .int .u64 (N b.hi), .int .i64 (Z b.slo), .int .i64 (Z b.shi)]] w fun e w' => e = .returned (.agg #[.int .u64 (N r.lo), .int .u64 (N r.hi), .int .i64 (Z r.slo), .int .i64 (Z r.shi)]) ∧ Grown w w') ∧ Hid (SpGood r (aluW 0 x y)) := ⟨_, Lib.hid (fun w => sp_add a.lo a.hi a.slo a.shi b.lo b.hi b.slo b.shi w), Lib.hid (good_add HA.out HB.out)⟩
    obtain ⟨r1, C1, E1⟩ : ∃ r : Sp, Hid (∀ w, Calls Try.prog 35 #[.agg #[.int .u64 (N a.lo), .int .u64 (N a.hi), .int .i64 (Z a.slo), .int .i64 (Z a.shi)], .agg #[.int .u64 (N b.lo), .int .u64 (N b.hi), .int .i64 (Z b.slo), .int .i64 (Z b.shi)]] w fun e w' => e = .returned (.agg #[.int .u64 (N r.lo), .int .u64 (N r.hi), .int .i64 (Z r.slo), .int .i64 (Z r.shi)]) ∧ Grown w w') ∧ Hid (SpGood r (aluW 16 x y)) := ⟨_, Lib.hid (fun w => sp_sub a.lo a.hi a.slo a.shi b.lo b.hi b.slo b.shi w), Lib.hid (good_sub HA.out HB.out)⟩
    obtain ⟨r2, C2, E2⟩ : ∃ r : Sp, Hid (∀ w, Calls Try.prog 36 #[.agg #[.int .u64 (N a.lo), .int .u64 (N a.hi), .int .i64 (Z a.slo), .int .i64 (Z a.shi)], .agg #[.int .u64 (N b.lo), .int .u64 (N b.hi), .int .i64 (Z b.slo), .int .i64 (Z b.shi)]] w fun e w' => e = .returned (.agg #[.int .u64 (N r.lo), .int .u64 (N r.hi), .int .i64 (Z r.slo), .int .i64 (Z r.shi)]) ∧ Grown w w') ∧ Hid (SpGood r (aluW 32 x y)) := ⟨_, Lib.hid (fun w => sp_mul a.lo a.hi a.slo a.shi b.lo b.hi b.slo b.shi w), Lib.hid (good_mul HA.out HB.out)⟩
    obtain ⟨r3, C3, E3⟩ : ∃ r : Sp, Hid (∀ w, Calls Try.prog 37 #[.agg #[.int .u64 (N a.lo), .int .u64 (N a.hi), .int .i64 (Z a.slo), .int .i64 (Z a.shi)], .agg #[.int .u64 (N b.lo), .int .u64 (N b.hi), .int .i64 (Z b.slo), .int .i64 (Z b.shi)]] w fun e w' => e = .returned (.agg #[.int .u64 (N r.lo), .int .u64 (N r.hi), .int .i64 (Z r.slo), .int .i64 (Z r.shi)]) ∧ Grown w w') ∧ Hid (SpGood r (aluW 80 x y)) := ⟨_, Lib.hid (fun w => sp_and a.lo a.hi a.slo a.shi b.lo b.hi b.slo b.shi w), Lib.hid (good_and HA.out HB.out)⟩
    obtain ⟨r4, C4, E4⟩ : ∃ r : Sp, Hid (∀ w, Calls Try.prog 38 #[.agg #[.int .u64 (N a.lo), .int .u64 (N a.hi), .int .i64 (Z a.slo), .int .i64 (Z a.shi)], .agg #[.int .u64 (N b.lo), .int .u64 (N b.hi), .int .i64 (Z b.slo), .int .i64 (Z b.shi)]] w fun e w' => e = .returned (.agg #[.int .u64 (N r.lo), .int .u64 (N r.hi), .int .i64 (Z r.slo), .int .i64 (Z r.shi)]) ∧ Grown w w') ∧ Hid (SpGood r (aluW 64 x y)) := ⟨_, Lib.hid (fun w => sp_or a.lo a.hi a.slo a.shi b.lo b.hi b.slo b.shi w), Lib.hid (good_or HA.out HB.out)⟩
    obtain ⟨r5, C5, E5⟩ : ∃ r : Sp, Hid (∀ w, Calls Try.prog 39 #[.agg #[.int .u64 (N a.lo), .int .u64 (N a.hi), .int .i64 (Z a.slo), .int .i64 (Z a.shi)], .agg #[.int .u64 (N b.lo), .int .u64 (N b.hi), .int .i64 (Z b.slo), .int .i64 (Z b.shi)]] w fun e w' => e = .returned (.agg #[.int .u64 (N r.lo), .int .u64 (N r.hi), .int .i64 (Z r.slo), .int .i64 (Z r.shi)]) ∧ Grown w w') ∧ Hid (SpGood r (aluW 160 x y)) := ⟨_, Lib.hid (fun w => sp_xor a.lo a.hi a.slo a.shi b.lo b.hi b.slo b.shi w), Lib.hid (good_xor HA.out HB.out)⟩
    obtain ⟨r6, C6, E6⟩ : ∃ r : Sp, Hid (∀ w, Calls Try.prog 40 #[.agg #[.int .u64 (N a.lo), .int .u64 (N a.hi), .int .i64 (Z a.slo), .int .i64 (Z a.shi)], .agg #[.int .u64 (N b.lo), .int .u64 (N b.hi), .int .i64 (Z b.slo), .int .i64 (Z b.shi)]] w fun e w' => e = .returned (.agg #[.int .u64 (N r.lo), .int .u64 (N r.hi), .int .i64 (Z r.slo), .int .i64 (Z r.shi)]) ∧ Grown w w') ∧ Hid (SpGood r (aluW 48 x y)) := ⟨_, Lib.hid (fun w => sp_div a.lo a.hi a.slo a.shi b.lo b.hi b.slo b.shi w), Lib.hid (good_div HA.out HB.out)⟩
    obtain ⟨r7, C7, E7⟩ : ∃ r : Sp, Hid (∀ w, Calls Try.prog 41 #[.agg #[.int .u64 (N a.lo), .int .u64 (N a.hi), .int .i64 (Z a.slo), .int .i64 (Z a.shi)], .agg #[.int .u64 (N b.lo), .int .u64 (N b.hi), .int .i64 (Z b.slo), .int .i64 (Z b.shi)]] w fun e w' => e = .returned (.agg #[.int .u64 (N r.lo), .int .u64 (N r.hi), .int .i64 (Z r.slo), .int .i64 (Z r.shi)]) ∧ Grown w w') ∧ Hid (SpGood r (aluW 144 x y)) := ⟨_, Lib.hid (fun w => sp_mod a.lo a.hi a.slo a.shi b.lo b.hi b.slo b.shi w), Lib.hid (good_mod HA.out HB.out)⟩
    obtain ⟨r8, C8, E8⟩ : ∃ r : Sp, Hid (∀ w, Calls Try.prog 42 #[.agg #[.int .u64 (N a.lo), .int .u64 (N a.hi), .int .i64 (Z a.slo), .int .i64 (Z a.shi)], .int .i64 n] w fun e w' => e = .returned (.agg #[.int .u64 (N r.lo), .int .u64 (N r.hi), .int .i64 (Z r.slo), .int .i64 (Z r.shi)]) ∧ Grown w w') ∧ Hid (SpGood r (aluW 96 x (BitVec.ofInt 64 n &&& 63#64))) := ⟨_, Lib.hid (fun w => sp_lsh a.lo a.hi a.slo a.shi n HN0.out HN1.out w), Lib.hid (by rw [k63 n]; exact good_lsh n HA.out)⟩
    obtain ⟨r9, C9, E9⟩ : ∃ r : Sp, Hid (∀ w, Calls Try.prog 43 #[.agg #[.int .u64 (N a.lo), .int .u64 (N a.hi), .int .i64 (Z a.slo), .int .i64 (Z a.shi)], .int .i64 n] w fun e w' => e = .returned (.agg #[.int .u64 (N r.lo), .int .u64 (N r.hi), .int .i64 (Z r.slo), .int .i64 (Z r.shi)]) ∧ Grown w w') ∧ Hid (SpGood r (aluW 112 x (BitVec.ofInt 64 n &&& 63#64))) := ⟨_, Lib.hid (fun w => sp_rsh a.lo a.hi a.slo a.shi n HN0.out HN1.out w), Lib.hid (by rw [k63 n]; exact good_rsh n HA.out)⟩
    obtain ⟨r10, C10, E10⟩ : ∃ r : Sp, Hid (∀ w, Calls Try.prog 44 #[.agg #[.int .u64 (N a.lo), .int .u64 (N a.hi), .int .i64 (Z a.slo), .int .i64 (Z a.shi)], .int .i64 n] w fun e w' => e = .returned (.agg #[.int .u64 (N r.lo), .int .u64 (N r.hi), .int .i64 (Z r.slo), .int .i64 (Z r.shi)]) ∧ Grown w w') ∧ Hid (SpGood r (aluW 192 x (BitVec.ofInt 64 n &&& 63#64))) := ⟨_, Lib.hid (fun w => sp_arsh a.lo a.hi a.slo a.shi n HN0.out HN1.out w), Lib.hid (by rw [k63 n]; exact good_arsh n HA.out)⟩
    obtain ⟨r11, C11, E11⟩ : ∃ r : Sp, Hid (∀ w, Calls Try.prog 45 #[.agg #[.int .u64 (N a.lo), .int .u64 (N a.hi), .int .i64 (Z a.slo), .int .i64 (Z a.shi)]] w fun e w' => e = .returned (.agg #[.int .u64 (N r.lo), .int .u64 (N r.hi), .int .i64 (Z r.slo), .int .i64 (Z r.shi)]) ∧ Grown w w') ∧ Hid (SpGood r (aluW 80 x 4294967295#64)) := ⟨_, Lib.hid (fun w => sp_low32 a.lo a.hi a.slo a.shi w), Lib.hid (good_low32 HA.out)⟩
    have d0 : ∀ z : Held (Gw wc), z.w.cell? ⟨B, 0, none⟩ = some _ := fun z => gw_cell hv cv0 _ z.h
    have d1 : ∀ z : Held (Gw wc), z.w.cell? ⟨B, 1, none⟩ = some _ := fun z => gw_cell hv cv1 _ z.h
    have da0 : ∀ z : Held (Gw wc), z.w.cell? ⟨B1, 0, none⟩ = some _ := fun z => gw_cell ha ca0 _ z.h
    have da1 : ∀ z : Held (Gw wc), z.w.cell? ⟨B1, 1, none⟩ = some _ := fun z => gw_cell ha ca1 _ z.h
    have da2 : ∀ z : Held (Gw wc), z.w.cell? ⟨B1, 2, none⟩ = some _ := fun z => gw_cell ha ca2 _ z.h
    have da3 : ∀ z : Held (Gw wc), z.w.cell? ⟨B1, 3, none⟩ = some _ := fun z => gw_cell ha ca3 _ z.h
    have db0 : ∀ z : Held (Gw wc), z.w.cell? ⟨B2, 0, none⟩ = some _ := fun z => gw_cell hb cb0 _ z.h
    have db1 : ∀ z : Held (Gw wc), z.w.cell? ⟨B2, 1, none⟩ = some _ := fun z => gw_cell hb cb1 _ z.h
    have db2 : ∀ z : Held (Gw wc), z.w.cell? ⟨B2, 2, none⟩ = some _ := fun z => gw_cell hb cb2 _ z.h
    have db3 : ∀ z : Held (Gw wc), z.w.cell? ⟨B2, 3, none⟩ = some _ := fun z => gw_cell hb cb3 _ z.h
    go_upto_region 2 with fail
    refine wp_region_lex (Gw wc) (by kernel_rfl) (by kernel_rfl) (Gw.drew (Grown.refl _)) (fun hNon => ?_)
    repeat (go_big_quiet_step (fail))
    refine wpQuiet_nil ?_
    intro w5 hG5
    clear hNon
    have G : Grown wc w5 := hG5
    clear hG5
    have gc := gcellI G
    go_upto_region 6 with (first | (go_at_call 32; ((with_reducible refine (VA.out _).mono ?_); rintro e wn ⟨rfl, hg⟩; have G := Grown.trans' G hg; have gc := gcellI G; clear hg)) | (go_at_call 32; ((with_reducible refine (VB.out _).mono ?_); rintro e wn ⟨rfl, hg⟩; have G := Grown.trans' G hg; have gc := gcellI G; clear hg)) | (go_at_call 33; ((with_reducible refine (TA.out _).mono ?_); rintro e wn ⟨rfl, hg⟩; have G := Grown.trans' G hg; have gc := gcellI G; clear hg)) | (go_at_call 33; ((with_reducible refine (TB.out _).mono ?_); rintro e wn ⟨rfl, hg⟩; have G := Grown.trans' G hg; have gc := gcellI G; clear hg)))
    refine wp_region_lex_tail (Gw wc) 35 (by kernel_rfl) (by kernel_rfl) (Gw.drew G) (fun hNon => ?_)
    simp only [List.take_succ_cons, List.take_zero, List.drop_succ_cons, List.drop_zero]
    repeat (go_big_quiet_step (first | (go_at_call 34; exact held_callG _ (C0.out _)) | (go_at_call 35; exact held_callG _ (C1.out _)) | (go_at_call 36; exact held_callG _ (C2.out _)) | (go_at_call 37; exact held_callG _ (C3.out _)) | (go_at_call 38; exact held_callG _ (C4.out _)) | (go_at_call 39; exact held_callG _ (C5.out _)) | (go_at_call 40; exact held_callG _ (C6.out _)) | (go_at_call 41; exact held_callG _ (C7.out _)) | (go_at_call 42; exact held_callG _ (C8.out _)) | (go_at_call 43; exact held_callG _ (C9.out _)) | (go_at_call 44; exact held_callG _ (C10.out _)) | (go_at_call 45; exact held_callG _ (C11.out _))))
    refine wpQuiet_nil ?_
    clear G gc
    intro w7 hG7
    clear hNon
    go_wp2
    have HG8 : Hid (Grown w ((w7.alloc (.cells #[.int .u64 (N r0.lo), .int .u64 (N r0.hi), .int .i64 (Z r0.slo), .int .i64 (Z r0.shi), .int .u64 (N r1.lo), .int .u64 (N r1.hi), .int .i64 (Z r1.slo), .int .i64 (Z r1.shi), .int .u64 (N r2.lo), .int .u64 (N r2.hi), .int .i64 (Z r2.slo), .int .i64 (Z r2.shi), .int .u64 (N r3.lo), .int .u64 (N r3.hi), .int .i64 (Z r3.slo), .int .i64 (Z r3.shi), .int .u64 (N r4.lo), .int .u64 (N r4.hi), .int .i64 (Z r4.slo), .int .i64 (Z r4.shi), .int .u64 (N r5.lo), .int .u64 (N r5.hi), .int .i64 (Z r5.slo), .int .i64 (Z r5.shi), .int .u64 (N r6.lo), .int .u64 (N r6.hi), .int .i64 (Z r6.slo), .int .i64 (Z r6.shi), .int .u64 (N r7.lo), .int .u64 (N r7.hi), .int .i64 (Z r7.slo), .int .i64 (Z r7.shi), .int .u64 (N r8.lo), .int .u64 (N r8.hi), .int .i64 (Z r8.slo), .int .i64 (Z r8.shi), .int .u64 (N r9.lo), .int .u64 (N r9.hi), .int .i64 (Z r9.slo), .int .i64 (Z r9.shi), .int .u64 (N r10.lo), .int .u64 (N r10.hi), .int .i64 (Z r10.slo), .int .i64 (Z r10.shi), .int .u64 (N r11.lo), .int .u64 (N r11.hi), .int .i64 (Z r11.slo), .int .i64 (Z r11.shi)] 49)).alloc (.cells #[.int .u8 0, .int .u8 16, .int .u8 32, .int .u8 80, .int .u8 64, .int .u8 160, .int .u8 48, .int .u8 144, .int .u8 96, .int .u8 112, .int .u8 192, .int .u8 80] 5))) := Lib.hid (Grown.alloc (Grown.alloc (Grown.trans' HK.out hG7) _ _) _ _)
    have T0 : Hid (Row5 ((w7.alloc (.cells #[.int .u64 (N r0.lo), .int .u64 (N r0.hi), .int .i64 (Z r0.slo), .int .i64 (Z r0.shi), .int .u64 (N r1.lo), .int .u64 (N r1.hi), .int .i64 (Z r1.slo), .int .i64 (Z r1.shi), .int .u64 (N r2.lo), .int .u64 (N r2.hi), .int .i64 (Z r2.slo), .int .i64 (Z r2.shi), .int .u64 (N r3.lo), .int .u64 (N r3.hi), .int .i64 (Z r3.slo), .int .i64 (Z r3.shi), .int .u64 (N r4.lo), .int .u64 (N r4.hi), .int .i64 (Z r4.slo), .int .i64 (Z r4.shi), .int .u64 (N r5.lo), .int .u64 (N r5.hi), .int .i64 (Z r5.slo), .int .i64 (Z r5.shi), .int .u64 (N r6.lo), .int .u64 (N r6.hi), .int .i64 (Z r6.slo), .int .i64 (Z r6.shi), .int .u64 (N r7.lo), .int .u64 (N r7.hi), .int .i64 (Z r7.slo), .int .i64 (Z r7.shi), .int .u64 (N r8.lo), .int .u64 (N r8.hi), .int .i64 (Z r8.slo), .int .i64 (Z r8.shi), .int .u64 (N r9.lo), .int .u64 (N r9.hi), .int .i64 (Z r9.slo), .int .i64 (Z r9.shi), .int .u64 (N r10.lo), .int .u64 (N r10.hi), .int .i64 (Z r10.slo), .int .i64 (Z r10.shi), .int .u64 (N r11.lo), .int .u64 (N r11.hi), .int .i64 (Z r11.slo), .int .i64 (Z r11.shi)] 49)).alloc (.cells #[.int .u8 0, .int .u8 16, .int .u8 32, .int .u8 80, .int .u8 64, .int .u8 160, .int .u8 48, .int .u8 144, .int .u8 96, .int .u8 112, .int .u8 192, .int .u8 80] 5)) w7.heap.size 0 r0 0) := Lib.hid ⟨(World.cell?_alloc2_first _ _ _ _).trans rfl, (World.cell?_alloc2_first _ _ _ _).trans rfl, (World.cell?_alloc2_first _ _ _ _).trans rfl, (World.cell?_alloc2_first _ _ _ _).trans rfl, (World.cell?_alloc2_new _ _ _ _).trans rfl⟩
    have T1 : Hid (Row5 ((w7.alloc (.cells #[.int .u64 (N r0.lo), .int .u64 (N r0.hi), .int .i64 (Z r0.slo), .int .i64 (Z r0.shi), .int .u64 (N r1.lo), .int .u64 (N r1.hi), .int .i64 (Z r1.slo), .int .i64 (Z r1.shi), .int .u64 (N r2.lo), .int .u64 (N r2.hi), .int .i64 (Z r2.slo), .int .i64 (Z r2.shi), .int .u64 (N r3.lo), .int .u64 (N r3.hi), .int .i64 (Z r3.slo), .int .i64 (Z r3.shi), .int .u64 (N r4.lo), .int .u64 (N r4.hi), .int .i64 (Z r4.slo), .int .i64 (Z r4.shi), .int .u64 (N r5.lo), .int .u64 (N r5.hi), .int .i64 (Z r5.slo), .int .i64 (Z r5.shi), .int .u64 (N r6.lo), .int .u64 (N r6.hi), .int .i64 (Z r6.slo), .int .i64 (Z r6.shi), .int .u64 (N r7.lo), .int .u64 (N r7.hi), .int .i64 (Z r7.slo), .int .i64 (Z r7.shi), .int .u64 (N r8.lo), .int .u64 (N r8.hi), .int .i64 (Z r8.slo), .int .i64 (Z r8.shi), .int .u64 (N r9.lo), .int .u64 (N r9.hi), .int .i64 (Z r9.slo), .int .i64 (Z r9.shi), .int .u64 (N r10.lo), .int .u64 (N r10.hi), .int .i64 (Z r10.slo), .int .i64 (Z r10.shi), .int .u64 (N r11.lo), .int .u64 (N r11.hi), .int .i64 (Z r11.slo), .int .i64 (Z r11.shi)] 49)).alloc (.cells #[.int .u8 0, .int .u8 16, .int .u8 32, .int .u8 80, .int .u8 64, .int .u8 160, .int .u8 48, .int .u8 144, .int .u8 96, .int .u8 112, .int .u8 192, .int .u8 80] 5)) w7.heap.size 1 r1 16) := Lib.hid ⟨(World.cell?_alloc2_first _ _ _ _).trans rfl, (World.cell?_alloc2_first _ _ _ _).trans rfl, (World.cell?_alloc2_first _ _ _ _).trans rfl, (World.cell?_alloc2_first _ _ _ _).trans rfl, (World.cell?_alloc2_new _ _ _ _).trans rfl⟩
    have T2 : Hid (Row5 ((w7.alloc (.cells #[.int .u64 (N r0.lo), .int .u64 (N r0.hi), .int .i64 (Z r0.slo), .int .i64 (Z r0.shi), .int .u64 (N r1.lo), .int .u64 (N r1.hi), .int .i64 (Z r1.slo), .int .i64 (Z r1.shi), .int .u64 (N r2.lo), .int .u64 (N r2.hi), .int .i64 (Z r2.slo), .int .i64 (Z r2.shi), .int .u64 (N r3.lo), .int .u64 (N r3.hi), .int .i64 (Z r3.slo), .int .i64 (Z r3.shi), .int .u64 (N r4.lo), .int .u64 (N r4.hi), .int .i64 (Z r4.slo), .int .i64 (Z r4.shi), .int .u64 (N r5.lo), .int .u64 (N r5.hi), .int .i64 (Z r5.slo), .int .i64 (Z r5.shi), .int .u64 (N r6.lo), .int .u64 (N r6.hi), .int .i64 (Z r6.slo), .int .i64 (Z r6.shi), .int .u64 (N r7.lo), .int .u64 (N r7.hi), .int .i64 (Z r7.slo), .int .i64 (Z r7.shi), .int .u64 (N r8.lo), .int .u64 (N r8.hi), .int .i64 (Z r8.slo), .int .i64 (Z r8.shi), .int .u64 (N r9.lo), .int .u64 (N r9.hi), .int .i64 (Z r9.slo), .int .i64 (Z r9.shi), .int .u64 (N r10.lo), .int .u64 (N r10.hi), .int .i64 (Z r10.slo), .int .i64 (Z r10.shi), .int .u64 (N r11.lo), .int .u64 (N r11.hi), .int .i64 (Z r11.slo), .int .i64 (Z r11.shi)] 49)).alloc (.cells #[.int .u8 0, .int .u8 16, .int .u8 32, .int .u8 80, .int .u8 64, .int .u8 160, .int .u8 48, .int .u8 144, .int .u8 96, .int .u8 112, .int .u8 192, .int .u8 80] 5)) w7.heap.size 2 r2 32) := Lib.hid ⟨(World.cell?_alloc2_first _ _ _ _).trans rfl, (World.cell?_alloc2_first _ _ _ _).trans rfl, (World.cell?_alloc2_first _ _ _ _).trans rfl, (World.cell?_alloc2_first _ _ _ _).trans rfl, (World.cell?_alloc2_new _ _ _ _).trans rfl⟩
    have T3 : Hid (Row5 ((w7.alloc (.cells #[.int .u64 (N r0.lo), .int .u64 (N r0.hi), .int .i64 (Z r0.slo), .int .i64 (Z r0.shi), .int .u64 (N r1.lo), .int .u64 (N r1.hi), .int .i64 (Z r1.slo), .int .i64 (Z r1.shi), .int .u64 (N r2.lo), .int .u64 (N r2.hi), .int .i64 (Z r2.slo), .int .i64 (Z r2.shi), .int .u64 (N r3.lo), .int .u64 (N r3.hi), .int .i64 (Z r3.slo), .int .i64 (Z r3.shi), .int .u64 (N r4.lo), .int .u64 (N r4.hi), .int .i64 (Z r4.slo), .int .i64 (Z r4.shi), .int .u64 (N r5.lo), .int .u64 (N r5.hi), .int .i64 (Z r5.slo), .int .i64 (Z r5.shi), .int .u64 (N r6.lo), .int .u64 (N r6.hi), .int .i64 (Z r6.slo), .int .i64 (Z r6.shi), .int .u64 (N r7.lo), .int .u64 (N r7.hi), .int .i64 (Z r7.slo), .int .i64 (Z r7.shi), .int .u64 (N r8.lo), .int .u64 (N r8.hi), .int .i64 (Z r8.slo), .int .i64 (Z r8.shi), .int .u64 (N r9.lo), .int .u64 (N r9.hi), .int .i64 (Z r9.slo), .int .i64 (Z r9.shi), .int .u64 (N r10.lo), .int .u64 (N r10.hi), .int .i64 (Z r10.slo), .int .i64 (Z r10.shi), .int .u64 (N r11.lo), .int .u64 (N r11.hi), .int .i64 (Z r11.slo), .int .i64 (Z r11.shi)] 49)).alloc (.cells #[.int .u8 0, .int .u8 16, .int .u8 32, .int .u8 80, .int .u8 64, .int .u8 160, .int .u8 48, .int .u8 144, .int .u8 96, .int .u8 112, .int .u8 192, .int .u8 80] 5)) w7.heap.size 3 r3 80) := Lib.hid ⟨(World.cell?_alloc2_first _ _ _ _).trans rfl, (World.cell?_alloc2_first _ _ _ _).trans rfl, (World.cell?_alloc2_first _ _ _ _).trans rfl, (World.cell?_alloc2_first _ _ _ _).trans rfl, (World.cell?_alloc2_new _ _ _ _).trans rfl⟩
    have T4 : Hid (Row5 ((w7.alloc (.cells #[.int .u64 (N r0.lo), .int .u64 (N r0.hi), .int .i64 (Z r0.slo), .int .i64 (Z r0.shi), .int .u64 (N r1.lo), .int .u64 (N r1.hi), .int .i64 (Z r1.slo), .int .i64 (Z r1.shi), .int .u64 (N r2.lo), .int .u64 (N r2.hi), .int .i64 (Z r2.slo), .int .i64 (Z r2.shi), .int .u64 (N r3.lo), .int .u64 (N r3.hi), .int .i64 (Z r3.slo), .int .i64 (Z r3.shi), .int .u64 (N r4.lo), .int .u64 (N r4.hi), .int .i64 (Z r4.slo), .int .i64 (Z r4.shi), .int .u64 (N r5.lo), .int .u64 (N r5.hi), .int .i64 (Z r5.slo), .int .i64 (Z r5.shi), .int .u64 (N r6.lo), .int .u64 (N r6.hi), .int .i64 (Z r6.slo), .int .i64 (Z r6.shi), .int .u64 (N r7.lo), .int .u64 (N r7.hi), .int .i64 (Z r7.slo), .int .i64 (Z r7.shi), .int .u64 (N r8.lo), .int .u64 (N r8.hi), .int .i64 (Z r8.slo), .int .i64 (Z r8.shi), .int .u64 (N r9.lo), .int .u64 (N r9.hi), .int .i64 (Z r9.slo), .int .i64 (Z r9.shi), .int .u64 (N r10.lo), .int .u64 (N r10.hi), .int .i64 (Z r10.slo), .int .i64 (Z r10.shi), .int .u64 (N r11.lo), .int .u64 (N r11.hi), .int .i64 (Z r11.slo), .int .i64 (Z r11.shi)] 49)).alloc (.cells #[.int .u8 0, .int .u8 16, .int .u8 32, .int .u8 80, .int .u8 64, .int .u8 160, .int .u8 48, .int .u8 144, .int .u8 96, .int .u8 112, .int .u8 192, .int .u8 80] 5)) w7.heap.size 4 r4 64) := Lib.hid ⟨(World.cell?_alloc2_first _ _ _ _).trans rfl, (World.cell?_alloc2_first _ _ _ _).trans rfl, (World.cell?_alloc2_first _ _ _ _).trans rfl, (World.cell?_alloc2_first _ _ _ _).trans rfl, (World.cell?_alloc2_new _ _ _ _).trans rfl⟩
    have T5 : Hid (Row5 ((w7.alloc (.cells #[.int .u64 (N r0.lo), .int .u64 (N r0.hi), .int .i64 (Z r0.slo), .int .i64 (Z r0.shi), .int .u64 (N r1.lo), .int .u64 (N r1.hi), .int .i64 (Z r1.slo), .int .i64 (Z r1.shi), .int .u64 (N r2.lo), .int .u64 (N r2.hi), .int .i64 (Z r2.slo), .int .i64 (Z r2.shi), .int .u64 (N r3.lo), .int .u64 (N r3.hi), .int .i64 (Z r3.slo), .int .i64 (Z r3.shi), .int .u64 (N r4.lo), .int .u64 (N r4.hi), .int .i64 (Z r4.slo), .int .i64 (Z r4.shi), .int .u64 (N r5.lo), .int .u64 (N r5.hi), .int .i64 (Z r5.slo), .int .i64 (Z r5.shi), .int .u64 (N r6.lo), .int .u64 (N r6.hi), .int .i64 (Z r6.slo), .int .i64 (Z r6.shi), .int .u64 (N r7.lo), .int .u64 (N r7.hi), .int .i64 (Z r7.slo), .int .i64 (Z r7.shi), .int .u64 (N r8.lo), .int .u64 (N r8.hi), .int .i64 (Z r8.slo), .int .i64 (Z r8.shi), .int .u64 (N r9.lo), .int .u64 (N r9.hi), .int .i64 (Z r9.slo), .int .i64 (Z r9.shi), .int .u64 (N r10.lo), .int .u64 (N r10.hi), .int .i64 (Z r10.slo), .int .i64 (Z r10.shi), .int .u64 (N r11.lo), .int .u64 (N r11.hi), .int .i64 (Z r11.slo), .int .i64 (Z r11.shi)] 49)).alloc (.cells #[.int .u8 0, .int .u8 16, .int .u8 32, .int .u8 80, .int .u8 64, .int .u8 160, .int .u8 48, .int .u8 144, .int .u8 96, .int .u8 112, .int .u8 192, .int .u8 80] 5)) w7.heap.size 5 r5 160) := Lib.hid ⟨(World.cell?_alloc2_first _ _ _ _).trans rfl, (World.cell?_alloc2_first _ _ _ _).trans rfl, (World.cell?_alloc2_first _ _ _ _).trans rfl, (World.cell?_alloc2_first _ _ _ _).trans rfl, (World.cell?_alloc2_new _ _ _ _).trans rfl⟩
    have T6 : Hid (Row5 ((w7.alloc (.cells #[.int .u64 (N r0.lo), .int .u64 (N r0.hi), .int .i64 (Z r0.slo), .int .i64 (Z r0.shi), .int .u64 (N r1.lo), .int .u64 (N r1.hi), .int .i64 (Z r1.slo), .int .i64 (Z r1.shi), .int .u64 (N r2.lo), .int .u64 (N r2.hi), .int .i64 (Z r2.slo), .int .i64 (Z r2.shi), .int .u64 (N r3.lo), .int .u64 (N r3.hi), .int .i64 (Z r3.slo), .int .i64 (Z r3.shi), .int .u64 (N r4.lo), .int .u64 (N r4.hi), .int .i64 (Z r4.slo), .int .i64 (Z r4.shi), .int .u64 (N r5.lo), .int .u64 (N r5.hi), .int .i64 (Z r5.slo), .int .i64 (Z r5.shi), .int .u64 (N r6.lo), .int .u64 (N r6.hi), .int .i64 (Z r6.slo), .int .i64 (Z r6.shi), .int .u64 (N r7.lo), .int .u64 (N r7.hi), .int .i64 (Z r7.slo), .int .i64 (Z r7.shi), .int .u64 (N r8.lo), .int .u64 (N r8.hi), .int .i64 (Z r8.slo), .int .i64 (Z r8.shi), .int .u64 (N r9.lo), .int .u64 (N r9.hi), .int .i64 (Z r9.slo), .int .i64 (Z r9.shi), .int .u64 (N r10.lo), .int .u64 (N r10.hi), .int .i64 (Z r10.slo), .int .i64 (Z r10.shi), .int .u64 (N r11.lo), .int .u64 (N r11.hi), .int .i64 (Z r11.slo), .int .i64 (Z r11.shi)] 49)).alloc (.cells #[.int .u8 0, .int .u8 16, .int .u8 32, .int .u8 80, .int .u8 64, .int .u8 160, .int .u8 48, .int .u8 144, .int .u8 96, .int .u8 112, .int .u8 192, .int .u8 80] 5)) w7.heap.size 6 r6 48) := Lib.hid ⟨(World.cell?_alloc2_first _ _ _ _).trans rfl, (World.cell?_alloc2_first _ _ _ _).trans rfl, (World.cell?_alloc2_first _ _ _ _).trans rfl, (World.cell?_alloc2_first _ _ _ _).trans rfl, (World.cell?_alloc2_new _ _ _ _).trans rfl⟩
    have T7 : Hid (Row5 ((w7.alloc (.cells #[.int .u64 (N r0.lo), .int .u64 (N r0.hi), .int .i64 (Z r0.slo), .int .i64 (Z r0.shi), .int .u64 (N r1.lo), .int .u64 (N r1.hi), .int .i64 (Z r1.slo), .int .i64 (Z r1.shi), .int .u64 (N r2.lo), .int .u64 (N r2.hi), .int .i64 (Z r2.slo), .int .i64 (Z r2.shi), .int .u64 (N r3.lo), .int .u64 (N r3.hi), .int .i64 (Z r3.slo), .int .i64 (Z r3.shi), .int .u64 (N r4.lo), .int .u64 (N r4.hi), .int .i64 (Z r4.slo), .int .i64 (Z r4.shi), .int .u64 (N r5.lo), .int .u64 (N r5.hi), .int .i64 (Z r5.slo), .int .i64 (Z r5.shi), .int .u64 (N r6.lo), .int .u64 (N r6.hi), .int .i64 (Z r6.slo), .int .i64 (Z r6.shi), .int .u64 (N r7.lo), .int .u64 (N r7.hi), .int .i64 (Z r7.slo), .int .i64 (Z r7.shi), .int .u64 (N r8.lo), .int .u64 (N r8.hi), .int .i64 (Z r8.slo), .int .i64 (Z r8.shi), .int .u64 (N r9.lo), .int .u64 (N r9.hi), .int .i64 (Z r9.slo), .int .i64 (Z r9.shi), .int .u64 (N r10.lo), .int .u64 (N r10.hi), .int .i64 (Z r10.slo), .int .i64 (Z r10.shi), .int .u64 (N r11.lo), .int .u64 (N r11.hi), .int .i64 (Z r11.slo), .int .i64 (Z r11.shi)] 49)).alloc (.cells #[.int .u8 0, .int .u8 16, .int .u8 32, .int .u8 80, .int .u8 64, .int .u8 160, .int .u8 48, .int .u8 144, .int .u8 96, .int .u8 112, .int .u8 192, .int .u8 80] 5)) w7.heap.size 7 r7 144) := Lib.hid ⟨(World.cell?_alloc2_first _ _ _ _).trans rfl, (World.cell?_alloc2_first _ _ _ _).trans rfl, (World.cell?_alloc2_first _ _ _ _).trans rfl, (World.cell?_alloc2_first _ _ _ _).trans rfl, (World.cell?_alloc2_new _ _ _ _).trans rfl⟩
    have T8 : Hid (Row5 ((w7.alloc (.cells #[.int .u64 (N r0.lo), .int .u64 (N r0.hi), .int .i64 (Z r0.slo), .int .i64 (Z r0.shi), .int .u64 (N r1.lo), .int .u64 (N r1.hi), .int .i64 (Z r1.slo), .int .i64 (Z r1.shi), .int .u64 (N r2.lo), .int .u64 (N r2.hi), .int .i64 (Z r2.slo), .int .i64 (Z r2.shi), .int .u64 (N r3.lo), .int .u64 (N r3.hi), .int .i64 (Z r3.slo), .int .i64 (Z r3.shi), .int .u64 (N r4.lo), .int .u64 (N r4.hi), .int .i64 (Z r4.slo), .int .i64 (Z r4.shi), .int .u64 (N r5.lo), .int .u64 (N r5.hi), .int .i64 (Z r5.slo), .int .i64 (Z r5.shi), .int .u64 (N r6.lo), .int .u64 (N r6.hi), .int .i64 (Z r6.slo), .int .i64 (Z r6.shi), .int .u64 (N r7.lo), .int .u64 (N r7.hi), .int .i64 (Z r7.slo), .int .i64 (Z r7.shi), .int .u64 (N r8.lo), .int .u64 (N r8.hi), .int .i64 (Z r8.slo), .int .i64 (Z r8.shi), .int .u64 (N r9.lo), .int .u64 (N r9.hi), .int .i64 (Z r9.slo), .int .i64 (Z r9.shi), .int .u64 (N r10.lo), .int .u64 (N r10.hi), .int .i64 (Z r10.slo), .int .i64 (Z r10.shi), .int .u64 (N r11.lo), .int .u64 (N r11.hi), .int .i64 (Z r11.slo), .int .i64 (Z r11.shi)] 49)).alloc (.cells #[.int .u8 0, .int .u8 16, .int .u8 32, .int .u8 80, .int .u8 64, .int .u8 160, .int .u8 48, .int .u8 144, .int .u8 96, .int .u8 112, .int .u8 192, .int .u8 80] 5)) w7.heap.size 8 r8 96) := Lib.hid ⟨(World.cell?_alloc2_first _ _ _ _).trans rfl, (World.cell?_alloc2_first _ _ _ _).trans rfl, (World.cell?_alloc2_first _ _ _ _).trans rfl, (World.cell?_alloc2_first _ _ _ _).trans rfl, (World.cell?_alloc2_new _ _ _ _).trans rfl⟩
    have T9 : Hid (Row5 ((w7.alloc (.cells #[.int .u64 (N r0.lo), .int .u64 (N r0.hi), .int .i64 (Z r0.slo), .int .i64 (Z r0.shi), .int .u64 (N r1.lo), .int .u64 (N r1.hi), .int .i64 (Z r1.slo), .int .i64 (Z r1.shi), .int .u64 (N r2.lo), .int .u64 (N r2.hi), .int .i64 (Z r2.slo), .int .i64 (Z r2.shi), .int .u64 (N r3.lo), .int .u64 (N r3.hi), .int .i64 (Z r3.slo), .int .i64 (Z r3.shi), .int .u64 (N r4.lo), .int .u64 (N r4.hi), .int .i64 (Z r4.slo), .int .i64 (Z r4.shi), .int .u64 (N r5.lo), .int .u64 (N r5.hi), .int .i64 (Z r5.slo), .int .i64 (Z r5.shi), .int .u64 (N r6.lo), .int .u64 (N r6.hi), .int .i64 (Z r6.slo), .int .i64 (Z r6.shi), .int .u64 (N r7.lo), .int .u64 (N r7.hi), .int .i64 (Z r7.slo), .int .i64 (Z r7.shi), .int .u64 (N r8.lo), .int .u64 (N r8.hi), .int .i64 (Z r8.slo), .int .i64 (Z r8.shi), .int .u64 (N r9.lo), .int .u64 (N r9.hi), .int .i64 (Z r9.slo), .int .i64 (Z r9.shi), .int .u64 (N r10.lo), .int .u64 (N r10.hi), .int .i64 (Z r10.slo), .int .i64 (Z r10.shi), .int .u64 (N r11.lo), .int .u64 (N r11.hi), .int .i64 (Z r11.slo), .int .i64 (Z r11.shi)] 49)).alloc (.cells #[.int .u8 0, .int .u8 16, .int .u8 32, .int .u8 80, .int .u8 64, .int .u8 160, .int .u8 48, .int .u8 144, .int .u8 96, .int .u8 112, .int .u8 192, .int .u8 80] 5)) w7.heap.size 9 r9 112) := Lib.hid ⟨(World.cell?_alloc2_first _ _ _ _).trans rfl, (World.cell?_alloc2_first _ _ _ _).trans rfl, (World.cell?_alloc2_first _ _ _ _).trans rfl, (World.cell?_alloc2_first _ _ _ _).trans rfl, (World.cell?_alloc2_new _ _ _ _).trans rfl⟩
    have T10 : Hid (Row5 ((w7.alloc (.cells #[.int .u64 (N r0.lo), .int .u64 (N r0.hi), .int .i64 (Z r0.slo), .int .i64 (Z r0.shi), .int .u64 (N r1.lo), .int .u64 (N r1.hi), .int .i64 (Z r1.slo), .int .i64 (Z r1.shi), .int .u64 (N r2.lo), .int .u64 (N r2.hi), .int .i64 (Z r2.slo), .int .i64 (Z r2.shi), .int .u64 (N r3.lo), .int .u64 (N r3.hi), .int .i64 (Z r3.slo), .int .i64 (Z r3.shi), .int .u64 (N r4.lo), .int .u64 (N r4.hi), .int .i64 (Z r4.slo), .int .i64 (Z r4.shi), .int .u64 (N r5.lo), .int .u64 (N r5.hi), .int .i64 (Z r5.slo), .int .i64 (Z r5.shi), .int .u64 (N r6.lo), .int .u64 (N r6.hi), .int .i64 (Z r6.slo), .int .i64 (Z r6.shi), .int .u64 (N r7.lo), .int .u64 (N r7.hi), .int .i64 (Z r7.slo), .int .i64 (Z r7.shi), .int .u64 (N r8.lo), .int .u64 (N r8.hi), .int .i64 (Z r8.slo), .int .i64 (Z r8.shi), .int .u64 (N r9.lo), .int .u64 (N r9.hi), .int .i64 (Z r9.slo), .int .i64 (Z r9.shi), .int .u64 (N r10.lo), .int .u64 (N r10.hi), .int .i64 (Z r10.slo), .int .i64 (Z r10.shi), .int .u64 (N r11.lo), .int .u64 (N r11.hi), .int .i64 (Z r11.slo), .int .i64 (Z r11.shi)] 49)).alloc (.cells #[.int .u8 0, .int .u8 16, .int .u8 32, .int .u8 80, .int .u8 64, .int .u8 160, .int .u8 48, .int .u8 144, .int .u8 96, .int .u8 112, .int .u8 192, .int .u8 80] 5)) w7.heap.size 10 r10 192) := Lib.hid ⟨(World.cell?_alloc2_first _ _ _ _).trans rfl, (World.cell?_alloc2_first _ _ _ _).trans rfl, (World.cell?_alloc2_first _ _ _ _).trans rfl, (World.cell?_alloc2_first _ _ _ _).trans rfl, (World.cell?_alloc2_new _ _ _ _).trans rfl⟩
    have T11 : Hid (Row5 ((w7.alloc (.cells #[.int .u64 (N r0.lo), .int .u64 (N r0.hi), .int .i64 (Z r0.slo), .int .i64 (Z r0.shi), .int .u64 (N r1.lo), .int .u64 (N r1.hi), .int .i64 (Z r1.slo), .int .i64 (Z r1.shi), .int .u64 (N r2.lo), .int .u64 (N r2.hi), .int .i64 (Z r2.slo), .int .i64 (Z r2.shi), .int .u64 (N r3.lo), .int .u64 (N r3.hi), .int .i64 (Z r3.slo), .int .i64 (Z r3.shi), .int .u64 (N r4.lo), .int .u64 (N r4.hi), .int .i64 (Z r4.slo), .int .i64 (Z r4.shi), .int .u64 (N r5.lo), .int .u64 (N r5.hi), .int .i64 (Z r5.slo), .int .i64 (Z r5.shi), .int .u64 (N r6.lo), .int .u64 (N r6.hi), .int .i64 (Z r6.slo), .int .i64 (Z r6.shi), .int .u64 (N r7.lo), .int .u64 (N r7.hi), .int .i64 (Z r7.slo), .int .i64 (Z r7.shi), .int .u64 (N r8.lo), .int .u64 (N r8.hi), .int .i64 (Z r8.slo), .int .i64 (Z r8.shi), .int .u64 (N r9.lo), .int .u64 (N r9.hi), .int .i64 (Z r9.slo), .int .i64 (Z r9.shi), .int .u64 (N r10.lo), .int .u64 (N r10.hi), .int .i64 (Z r10.slo), .int .i64 (Z r10.shi), .int .u64 (N r11.lo), .int .u64 (N r11.hi), .int .i64 (Z r11.slo), .int .i64 (Z r11.shi)] 49)).alloc (.cells #[.int .u8 0, .int .u8 16, .int .u8 32, .int .u8 80, .int .u8 64, .int .u8 160, .int .u8 48, .int .u8 144, .int .u8 96, .int .u8 112, .int .u8 192, .int .u8 80] 5)) w7.heap.size 11 r11 80) := Lib.hid ⟨(World.cell?_alloc2_first _ _ _ _).trans rfl, (World.cell?_alloc2_first _ _ _ _).trans rfl, (World.cell?_alloc2_first _ _ _ _).trans rfl, (World.cell?_alloc2_first _ _ _ _).trans rfl, (World.cell?_alloc2_new _ _ _ _).trans rfl⟩
    have HL : Hid (w7.heap.size + 1 < ((w7.alloc (.cells #[.int .u64 (N r0.lo), .int .u64 (N r0.hi), .int .i64 (Z r0.slo), .int .i64 (Z r0.shi), .int .u64 (N r1.lo), .int .u64 (N r1.hi), .int .i64 (Z r1.slo), .int .i64 (Z r1.shi), .int .u64 (N r2.lo), .int .u64 (N r2.hi), .int .i64 (Z r2.slo), .int .i64 (Z r2.shi), .int .u64 (N r3.lo), .int .u64 (N r3.hi), .int .i64 (Z r3.slo), .int .i64 (Z r3.shi), .int .u64 (N r4.lo), .int .u64 (N r4.hi), .int .i64 (Z r4.slo), .int .i64 (Z r4.shi), .int .u64 (N r5.lo), .int .u64 (N r5.hi), .int .i64 (Z r5.slo), .int .i64 (Z r5.shi), .int .u64 (N r6.lo), .int .u64 (N r6.hi), .int .i64 (Z r6.slo), .int .i64 (Z r6.shi), .int .u64 (N r7.lo), .int .u64 (N r7.hi), .int .i64 (Z r7.slo), .int .i64 (Z r7.shi), .int .u64 (N r8.lo), .int .u64 (N r8.hi), .int .i64 (Z r8.slo), .int .i64 (Z r8.shi), .int .u64 (N r9.lo), .int .u64 (N r9.hi), .int .i64 (Z r9.slo), .int .i64 (Z r9.shi), .int .u64 (N r10.lo), .int .u64 (N r10.hi), .int .i64 (Z r10.slo), .int .i64 (Z r10.shi), .int .u64 (N r11.lo), .int .u64 (N r11.hi), .int .i64 (Z r11.slo), .int .i64 (Z r11.shi)] 49)).alloc (.cells #[.int .u8 0, .int .u8 16, .int .u8 32, .int .u8 80, .int .u8 64, .int .u8 160, .int .u8 48, .int .u8 144, .int .u8 96, .int .u8 112, .int .u8 192, .int .u8 80] 5)).heap.size) := Lib.hid (by simp)
    obtain ⟨W8, HW8, HG, HLL, R0, R1, R2, R3, R4, R5, R6, R7, R8, R9, R10, R11⟩ : ∃ W8 : World, Hid (W8 = ((w7.alloc (.cells #[.int .u64 (N r0.lo), .int .u64 (N r0.hi), .int .i64 (Z r0.slo), .int .i64 (Z r0.shi), .int .u64 (N r1.lo), .int .u64 (N r1.hi), .int .i64 (Z r1.slo), .int .i64 (Z r1.shi), .int .u64 (N r2.lo), .int .u64 (N r2.hi), .int .i64 (Z r2.slo), .int .i64 (Z r2.shi), .int .u64 (N r3.lo), .int .u64 (N r3.hi), .int .i64 (Z r3.slo), .int .i64 (Z r3.shi), .int .u64 (N r4.lo), .int .u64 (N r4.hi), .int .i64 (Z r4.slo), .int .i64 (Z r4.shi), .int .u64 (N r5.lo), .int .u64 (N r5.hi), .int .i64 (Z r5.slo), .int .i64 (Z r5.shi), .int .u64 (N r6.lo), .int .u64 (N r6.hi), .int .i64 (Z r6.slo), .int .i64 (Z r6.shi), .int .u64 (N r7.lo), .int .u64 (N r7.hi), .int .i64 (Z r7.slo), .int .i64 (Z r7.shi), .int .u64 (N r8.lo), .int .u64 (N r8.hi), .int .i64 (Z r8.slo), .int .i64 (Z r8.shi), .int .u64 (N r9.lo), .int .u64 (N r9.hi), .int .i64 (Z r9.slo), .int .i64 (Z r9.shi), .int .u64 (N r10.lo), .int .u64 (N r10.hi), .int .i64 (Z r10.slo), .int .i64 (Z r10.shi), .int .u64 (N r11.lo), .int .u64 (N r11.hi), .int .i64 (Z r11.slo), .int .i64 (Z r11.shi)] 49)).alloc (.cells #[.int .u8 0, .int .u8 16, .int .u8 32, .int .u8 80, .int .u8 64, .int .u8 160, .int .u8 48, .int .u8 144, .int .u8 96, .int .u8 112, .int .u8 192, .int .u8 80] 5))) ∧ Hid (Grown w W8) ∧ Hid (w7.heap.size + 1 < W8.heap.size) ∧ Hid (Row5 W8 w7.heap.size 0 r0 0) ∧ Hid (Row5 W8 w7.heap.size 1 r1 16) ∧ Hid (Row5 W8 w7.heap.size 2 r2 32) ∧ Hid (Row5 W8 w7.heap.size 3 r3 80) ∧ Hid (Row5 W8 w7.heap.size 4 r4 64) ∧ Hid (Row5 W8 w7.heap.size 5 r5 160) ∧ Hid (Row5 W8 w7.heap.size 6 r6 48) ∧ Hid (Row5 W8 w7.heap.size 7 r7 144) ∧ Hid (Row5 W8 w7.heap.size 8 r8 96) ∧ Hid (Row5 W8 w7.heap.size 9 r9 112) ∧ Hid (Row5 W8 w7.heap.size 10 r10 192) ∧ Hid (Row5 W8 w7.heap.size 11 r11 80) := ⟨_, Lib.hid rfl, HG8, HL, T0, T1, T2, T3, T4, T5, T6, T7, T8, T9, T10, T11⟩
    clear hG7 C0 C1 C2 C3 C4 C5 C6 C7 C8 C9 C10 C11 HK HG8 HL T0 T1 T2 T3 T4 T5 T6 T7 T8 T9 T10 T11
    go_loopw [14, 15] (fun i z wr => ∃ c : Int, 0 ≤ c ∧ c ≤ 12 ∧ i = .int .i64 c ∧ Gw W8 wr) (fun i _ _ => (12 - intOf i).toNat)
    case atStart => exact ⟨0, by omega, by omega, rfl, HW8.out ▸ Grown.refl _⟩
    case round =>
      clear HW8 d0 d1 da0 da1 da2 da3 db0 db1 db2 db3 VA VB TA TB ca0 ca1 ca2 ca3 cb0 cb1 cb2 cb3 cv0 cv1 ha hb hv
      obtain ⟨c, hc0, hc, rfl, hg⟩ := hrel
      have hcase : c = 0 ∨ c = 1 ∨ c = 2 ∨ c = 3 ∨ c = 4 ∨ c = 5 ∨ c = 6 ∨ c = 7 ∨ c = 8 ∨ c = 9 ∨ c = 10 ∨ c = 11 ∨ c = 12 := by omega
      clear hc0 hc
      rcases hcase with rfl | rfl | rfl | rfl | rfl | rfl | rfl | rfl | rfl | rfl | rfl | rfl | rfl
      · have f0 : ∀ z : Held (Gw W8), z.w.cell? ⟨w7.heap.size, 0, none⟩ = some (.int .u64 (N r0.lo)) := fun z => gw_cell (Nat.lt_of_succ_lt HLL.out) R0.out.1 _ z.h
        have f1 : ∀ z : Held (Gw W8), z.w.cell? ⟨w7.heap.size, 1, none⟩ = some (.int .u64 (N r0.hi)) := fun z => gw_cell (Nat.lt_of_succ_lt HLL.out) R0.out.2.1 _ z.h
        have f2 : ∀ z : Held (Gw W8), z.w.cell? ⟨w7.heap.size, 2, none⟩ = some (.int .i64 (Z r0.slo)) := fun z => gw_cell (Nat.lt_of_succ_lt HLL.out) R0.out.2.2.1 _ z.h
        have f3 : ∀ z : Held (Gw W8), z.w.cell? ⟨w7.heap.size, 3, none⟩ = some (.int .i64 (Z r0.shi)) := fun z => gw_cell (Nat.lt_of_succ_lt HLL.out) R0.out.2.2.2.1 _ z.h
        have f4 : ∀ z : Held (Gw W8), z.w.cell? ⟨w7.heap.size + 1, 0, none⟩ = some (.int .u8 0) := fun z => gw_cell HLL.out R0.out.2.2.2.2 _ z.h
        have VV : Hid (∀ w, Calls Try.prog 32 #[.agg #[.int .u64 (N r0.lo), .int .u64 (N r0.hi), .int .i64 (Z r0.slo), .int .i64 (Z r0.shi)]] w fun e w' => e = .returned (.bool true) ∧ Grown w w') := Lib.hid (fun w => ret_b ((validB_iff _).2 E0.out.1) (sp_valid r0.lo r0.hi r0.slo r0.shi w))
        have TT : Hid (∀ w, Calls Try.prog 33 #[.agg #[.int .u64 (N r0.lo), .int .u64 (N r0.hi), .int .i64 (Z r0.slo), .int .i64 (Z r0.shi)], .int .u64 (N (aluW 0 x y))] w fun e w' => e = .returned (.bool true) ∧ Grown w w') := Lib.hid (fun w => ret_b ((hasB_iff _ _).2 E0.out.2) (law_has r0.lo r0.hi r0.slo r0.shi (aluW 0 x y) w))
        have DD : Hid (∀ w, Calls Try.prog 46 #[.int .u8 0, .bool true, .int .u64 (N x), .int .u64 (N y)] w fun e w' => e = .returned (.int .u64 (N (aluW 0 x y))) ∧ w' = w) := Lib.hid (fun w => (refDo_64 0 x y w).mono fun _ _ h => ⟨h.1, h.2.symm⟩)
        clear R0 E0 R1 E1 R2 E2 R3 E3 R4 E4 R5 E5 R6 E6 R7 E7 R8 E8 R9 E9 R10 E10 R11 E11
        go_upto_region 16 with fail
        refine wp_region_lex (Gw W8) (by kernel_rfl) (by kernel_rfl) (Gw.drew hg) (fun hNon => ?_)
        repeat (go_big_quiet_step (first | (go_at_call 32; exact held_callG _ (VV.out _)) | (go_at_call 33; exact held_callG _ (TT.out _)) | (go_at_call 46; exact held_callS _ (DD.out _))))
        refine wpQuiet_nil ?_
        intro w9 hG9
        clear hNon
        go_wp2
        go_roundw
        case rel => exact ⟨1, by omega, by omega, rfl, hG9⟩
        case measure => simp [intOf]
      · have f0 : ∀ z : Held (Gw W8), z.w.cell? ⟨w7.heap.size, 4, none⟩ = some (.int .u64 (N r1.lo)) := fun z => gw_cell (Nat.lt_of_succ_lt HLL.out) R1.out.1 _ z.h
        have f1 : ∀ z : Held (Gw W8), z.w.cell? ⟨w7.heap.size, 5, none⟩ = some (.int .u64 (N r1.hi)) := fun z => gw_cell (Nat.lt_of_succ_lt HLL.out) R1.out.2.1 _ z.h
        have f2 : ∀ z : Held (Gw W8), z.w.cell? ⟨w7.heap.size, 6, none⟩ = some (.int .i64 (Z r1.slo)) := fun z => gw_cell (Nat.lt_of_succ_lt HLL.out) R1.out.2.2.1 _ z.h
        have f3 : ∀ z : Held (Gw W8), z.w.cell? ⟨w7.heap.size, 7, none⟩ = some (.int .i64 (Z r1.shi)) := fun z => gw_cell (Nat.lt_of_succ_lt HLL.out) R1.out.2.2.2.1 _ z.h
        have f4 : ∀ z : Held (Gw W8), z.w.cell? ⟨w7.heap.size + 1, 1, none⟩ = some (.int .u8 16) := fun z => gw_cell HLL.out R1.out.2.2.2.2 _ z.h
        have VV : Hid (∀ w, Calls Try.prog 32 #[.agg #[.int .u64 (N r1.lo), .int .u64 (N r1.hi), .int .i64 (Z r1.slo), .int .i64 (Z r1.shi)]] w fun e w' => e = .returned (.bool true) ∧ Grown w w') := Lib.hid (fun w => ret_b ((validB_iff _).2 E1.out.1) (sp_valid r1.lo r1.hi r1.slo r1.shi w))
        have TT : Hid (∀ w, Calls Try.prog 33 #[.agg #[.int .u64 (N r1.lo), .int .u64 (N r1.hi), .int .i64 (Z r1.slo), .int .i64 (Z r1.shi)], .int .u64 (N (aluW 16 x y))] w fun e w' => e = .returned (.bool true) ∧ Grown w w') := Lib.hid (fun w => ret_b ((hasB_iff _ _).2 E1.out.2) (law_has r1.lo r1.hi r1.slo r1.shi (aluW 16 x y) w))
        have DD : Hid (∀ w, Calls Try.prog 46 #[.int .u8 16, .bool true, .int .u64 (N x), .int .u64 (N y)] w fun e w' => e = .returned (.int .u64 (N (aluW 16 x y))) ∧ w' = w) := Lib.hid (fun w => (refDo_64 16 x y w).mono fun _ _ h => ⟨h.1, h.2.symm⟩)
        clear R0 E0 R1 E1 R2 E2 R3 E3 R4 E4 R5 E5 R6 E6 R7 E7 R8 E8 R9 E9 R10 E10 R11 E11
        go_upto_region 16 with fail
        refine wp_region_lex (Gw W8) (by kernel_rfl) (by kernel_rfl) (Gw.drew hg) (fun hNon => ?_)
        repeat (go_big_quiet_step (first | (go_at_call 32; exact held_callG _ (VV.out _)) | (go_at_call 33; exact held_callG _ (TT.out _)) | (go_at_call 46; exact held_callS _ (DD.out _))))
        refine wpQuiet_nil ?_
        intro w9 hG9
        clear hNon
        go_wp2
        go_roundw
        case rel => exact ⟨2, by omega, by omega, rfl, hG9⟩
        case measure => simp [intOf]
      · have f0 : ∀ z : Held (Gw W8), z.w.cell? ⟨w7.heap.size, 8, none⟩ = some (.int .u64 (N r2.lo)) := fun z => gw_cell (Nat.lt_of_succ_lt HLL.out) R2.out.1 _ z.h
        have f1 : ∀ z : Held (Gw W8), z.w.cell? ⟨w7.heap.size, 9, none⟩ = some (.int .u64 (N r2.hi)) := fun z => gw_cell (Nat.lt_of_succ_lt HLL.out) R2.out.2.1 _ z.h
        have f2 : ∀ z : Held (Gw W8), z.w.cell? ⟨w7.heap.size, 10, none⟩ = some (.int .i64 (Z r2.slo)) := fun z => gw_cell (Nat.lt_of_succ_lt HLL.out) R2.out.2.2.1 _ z.h
        have f3 : ∀ z : Held (Gw W8), z.w.cell? ⟨w7.heap.size, 11, none⟩ = some (.int .i64 (Z r2.shi)) := fun z => gw_cell (Nat.lt_of_succ_lt HLL.out) R2.out.2.2.2.1 _ z.h
        have f4 : ∀ z : Held (Gw W8), z.w.cell? ⟨w7.heap.size + 1, 2, none⟩ = some (.int .u8 32) := fun z => gw_cell HLL.out R2.out.2.2.2.2 _ z.h
        have VV : Hid (∀ w, Calls Try.prog 32 #[.agg #[.int .u64 (N r2.lo), .int .u64 (N r2.hi), .int .i64 (Z r2.slo), .int .i64 (Z r2.shi)]] w fun e w' => e = .returned (.bool true) ∧ Grown w w') := Lib.hid (fun w => ret_b ((validB_iff _).2 E2.out.1) (sp_valid r2.lo r2.hi r2.slo r2.shi w))
        have TT : Hid (∀ w, Calls Try.prog 33 #[.agg #[.int .u64 (N r2.lo), .int .u64 (N r2.hi), .int .i64 (Z r2.slo), .int .i64 (Z r2.shi)], .int .u64 (N (aluW 32 x y))] w fun e w' => e = .returned (.bool true) ∧ Grown w w') := Lib.hid (fun w => ret_b ((hasB_iff _ _).2 E2.out.2) (law_has r2.lo r2.hi r2.slo r2.shi (aluW 32 x y) w))
        have DD : Hid (∀ w, Calls Try.prog 46 #[.int .u8 32, .bool true, .int .u64 (N x), .int .u64 (N y)] w fun e w' => e = .returned (.int .u64 (N (aluW 32 x y))) ∧ w' = w) := Lib.hid (fun w => (refDo_64 32 x y w).mono fun _ _ h => ⟨h.1, h.2.symm⟩)
        clear R0 E0 R1 E1 R2 E2 R3 E3 R4 E4 R5 E5 R6 E6 R7 E7 R8 E8 R9 E9 R10 E10 R11 E11
        go_upto_region 16 with fail
        refine wp_region_lex (Gw W8) (by kernel_rfl) (by kernel_rfl) (Gw.drew hg) (fun hNon => ?_)
        repeat (go_big_quiet_step (first | (go_at_call 32; exact held_callG _ (VV.out _)) | (go_at_call 33; exact held_callG _ (TT.out _)) | (go_at_call 46; exact held_callS _ (DD.out _))))
        refine wpQuiet_nil ?_
        intro w9 hG9
        clear hNon
        go_wp2
        go_roundw
        case rel => exact ⟨3, by omega, by omega, rfl, hG9⟩
        case measure => simp [intOf]
      · have f0 : ∀ z : Held (Gw W8), z.w.cell? ⟨w7.heap.size, 12, none⟩ = some (.int .u64 (N r3.lo)) := fun z => gw_cell (Nat.lt_of_succ_lt HLL.out) R3.out.1 _ z.h
        have f1 : ∀ z : Held (Gw W8), z.w.cell? ⟨w7.heap.size, 13, none⟩ = some (.int .u64 (N r3.hi)) := fun z => gw_cell (Nat.lt_of_succ_lt HLL.out) R3.out.2.1 _ z.h
        have f2 : ∀ z : Held (Gw W8), z.w.cell? ⟨w7.heap.size, 14, none⟩ = some (.int .i64 (Z r3.slo)) := fun z => gw_cell (Nat.lt_of_succ_lt HLL.out) R3.out.2.2.1 _ z.h
        have f3 : ∀ z : Held (Gw W8), z.w.cell? ⟨w7.heap.size, 15, none⟩ = some (.int .i64 (Z r3.shi)) := fun z => gw_cell (Nat.lt_of_succ_lt HLL.out) R3.out.2.2.2.1 _ z.h
        have f4 : ∀ z : Held (Gw W8), z.w.cell? ⟨w7.heap.size + 1, 3, none⟩ = some (.int .u8 80) := fun z => gw_cell HLL.out R3.out.2.2.2.2 _ z.h
        have VV : Hid (∀ w, Calls Try.prog 32 #[.agg #[.int .u64 (N r3.lo), .int .u64 (N r3.hi), .int .i64 (Z r3.slo), .int .i64 (Z r3.shi)]] w fun e w' => e = .returned (.bool true) ∧ Grown w w') := Lib.hid (fun w => ret_b ((validB_iff _).2 E3.out.1) (sp_valid r3.lo r3.hi r3.slo r3.shi w))
        have TT : Hid (∀ w, Calls Try.prog 33 #[.agg #[.int .u64 (N r3.lo), .int .u64 (N r3.hi), .int .i64 (Z r3.slo), .int .i64 (Z r3.shi)], .int .u64 (N (aluW 80 x y))] w fun e w' => e = .returned (.bool true) ∧ Grown w w') := Lib.hid (fun w => ret_b ((hasB_iff _ _).2 E3.out.2) (law_has r3.lo r3.hi r3.slo r3.shi (aluW 80 x y) w))
        have DD : Hid (∀ w, Calls Try.prog 46 #[.int .u8 80, .bool true, .int .u64 (N x), .int .u64 (N y)] w fun e w' => e = .returned (.int .u64 (N (aluW 80 x y))) ∧ w' = w) := Lib.hid (fun w => (refDo_64 80 x y w).mono fun _ _ h => ⟨h.1, h.2.symm⟩)
        clear R0 E0 R1 E1 R2 E2 R3 E3 R4 E4 R5 E5 R6 E6 R7 E7 R8 E8 R9 E9 R10 E10 R11 E11
        go_upto_region 16 with fail
        refine wp_region_lex (Gw W8) (by kernel_rfl) (by kernel_rfl) (Gw.drew hg) (fun hNon => ?_)
        repeat (go_big_quiet_step (first | (go_at_call 32; exact held_callG _ (VV.out _)) | (go_at_call 33; exact held_callG _ (TT.out _)) | (go_at_call 46; exact held_callS _ (DD.out _))))
        refine wpQuiet_nil ?_
        intro w9 hG9
        clear hNon
        go_wp2
        go_roundw
        case rel => exact ⟨4, by omega, by omega, rfl, hG9⟩
        case measure => simp [intOf]
      · have f0 : ∀ z : Held (Gw W8), z.w.cell? ⟨w7.heap.size, 16, none⟩ = some (.int .u64 (N r4.lo)) := fun z => gw_cell (Nat.lt_of_succ_lt HLL.out) R4.out.1 _ z.h
        have f1 : ∀ z : Held (Gw W8), z.w.cell? ⟨w7.heap.size, 17, none⟩ = some (.int .u64 (N r4.hi)) := fun z => gw_cell (Nat.lt_of_succ_lt HLL.out) R4.out.2.1 _ z.h
        have f2 : ∀ z : Held (Gw W8), z.w.cell? ⟨w7.heap.size, 18, none⟩ = some (.int .i64 (Z r4.slo)) := fun z => gw_cell (Nat.lt_of_succ_lt HLL.out) R4.out.2.2.1 _ z.h
        have f3 : ∀ z : Held (Gw W8), z.w.cell? ⟨w7.heap.size, 19, none⟩ = some (.int .i64 (Z r4.shi)) := fun z => gw_cell (Nat.lt_of_succ_lt HLL.out) R4.out.2.2.2.1 _ z.h
        have f4 : ∀ z : Held (Gw W8), z.w.cell? ⟨w7.heap.size + 1, 4, none⟩ = some (.int .u8 64) := fun z => gw_cell HLL.out R4.out.2.2.2.2 _ z.h
        have VV : Hid (∀ w, Calls Try.prog 32 #[.agg #[.int .u64 (N r4.lo), .int .u64 (N r4.hi), .int .i64 (Z r4.slo), .int .i64 (Z r4.shi)]] w fun e w' => e = .returned (.bool true) ∧ Grown w w') := Lib.hid (fun w => ret_b ((validB_iff _).2 E4.out.1) (sp_valid r4.lo r4.hi r4.slo r4.shi w))
        have TT : Hid (∀ w, Calls Try.prog 33 #[.agg #[.int .u64 (N r4.lo), .int .u64 (N r4.hi), .int .i64 (Z r4.slo), .int .i64 (Z r4.shi)], .int .u64 (N (aluW 64 x y))] w fun e w' => e = .returned (.bool true) ∧ Grown w w') := Lib.hid (fun w => ret_b ((hasB_iff _ _).2 E4.out.2) (law_has r4.lo r4.hi r4.slo r4.shi (aluW 64 x y) w))
        have DD : Hid (∀ w, Calls Try.prog 46 #[.int .u8 64, .bool true, .int .u64 (N x), .int .u64 (N y)] w fun e w' => e = .returned (.int .u64 (N (aluW 64 x y))) ∧ w' = w) := Lib.hid (fun w => (refDo_64 64 x y w).mono fun _ _ h => ⟨h.1, h.2.symm⟩)
        clear R0 E0 R1 E1 R2 E2 R3 E3 R4 E4 R5 E5 R6 E6 R7 E7 R8 E8 R9 E9 R10 E10 R11 E11
        go_upto_region 16 with fail
        refine wp_region_lex (Gw W8) (by kernel_rfl) (by kernel_rfl) (Gw.drew hg) (fun hNon => ?_)
        repeat (go_big_quiet_step (first | (go_at_call 32; exact held_callG _ (VV.out _)) | (go_at_call 33; exact held_callG _ (TT.out _)) | (go_at_call 46; exact held_callS _ (DD.out _))))
        refine wpQuiet_nil ?_
        intro w9 hG9
        clear hNon
        go_wp2
        go_roundw
        case rel => exact ⟨5, by omega, by omega, rfl, hG9⟩
        case measure => simp [intOf]
      · have f0 : ∀ z : Held (Gw W8), z.w.cell? ⟨w7.heap.size, 20, none⟩ = some (.int .u64 (N r5.lo)) := fun z => gw_cell (Nat.lt_of_succ_lt HLL.out) R5.out.1 _ z.h
        have f1 : ∀ z : Held (Gw W8), z.w.cell? ⟨w7.heap.size, 21, none⟩ = some (.int .u64 (N r5.hi)) := fun z => gw_cell (Nat.lt_of_succ_lt HLL.out) R5.out.2.1 _ z.h
        have f2 : ∀ z : Held (Gw W8), z.w.cell? ⟨w7.heap.size, 22, none⟩ = some (.int .i64 (Z r5.slo)) := fun z => gw_cell (Nat.lt_of_succ_lt HLL.out) R5.out.2.2.1 _ z.h
        have f3 : ∀ z : Held (Gw W8), z.w.cell? ⟨w7.heap.size, 23, none⟩ = some (.int .i64 (Z r5.shi)) := fun z => gw_cell (Nat.lt_of_succ_lt HLL.out) R5.out.2.2.2.1 _ z.h
        have f4 : ∀ z : Held (Gw W8), z.w.cell? ⟨w7.heap.size + 1, 5, none⟩ = some (.int .u8 160) := fun z => gw_cell HLL.out R5.out.2.2.2.2 _ z.h
        have VV : Hid (∀ w, Calls Try.prog 32 #[.agg #[.int .u64 (N r5.lo), .int .u64 (N r5.hi), .int .i64 (Z r5.slo), .int .i64 (Z r5.shi)]] w fun e w' => e = .returned (.bool true) ∧ Grown w w') := Lib.hid (fun w => ret_b ((validB_iff _).2 E5.out.1) (sp_valid r5.lo r5.hi r5.slo r5.shi w))
        have TT : Hid (∀ w, Calls Try.prog 33 #[.agg #[.int .u64 (N r5.lo), .int .u64 (N r5.hi), .int .i64 (Z r5.slo), .int .i64 (Z r5.shi)], .int .u64 (N (aluW 160 x y))] w fun e w' => e = .returned (.bool true) ∧ Grown w w') := Lib.hid (fun w => ret_b ((hasB_iff _ _).2 E5.out.2) (law_has r5.lo r5.hi r5.slo r5.shi (aluW 160 x y) w))
        have DD : Hid (∀ w, Calls Try.prog 46 #[.int .u8 160, .bool true, .int .u64 (N x), .int .u64 (N y)] w fun e w' => e = .returned (.int .u64 (N (aluW 160 x y))) ∧ w' = w) := Lib.hid (fun w => (refDo_64 160 x y w).mono fun _ _ h => ⟨h.1, h.2.symm⟩)
        clear R0 E0 R1 E1 R2 E2 R3 E3 R4 E4 R5 E5 R6 E6 R7 E7 R8 E8 R9 E9 R10 E10 R11 E11
        go_upto_region 16 with fail
        refine wp_region_lex (Gw W8) (by kernel_rfl) (by kernel_rfl) (Gw.drew hg) (fun hNon => ?_)
        repeat (go_big_quiet_step (first | (go_at_call 32; exact held_callG _ (VV.out _)) | (go_at_call 33; exact held_callG _ (TT.out _)) | (go_at_call 46; exact held_callS _ (DD.out _))))
        refine wpQuiet_nil ?_
        intro w9 hG9
        clear hNon
        go_wp2
        go_roundw
        case rel => exact ⟨6, by omega, by omega, rfl, hG9⟩
        case measure => simp [intOf]
      · have f0 : ∀ z : Held (Gw W8), z.w.cell? ⟨w7.heap.size, 24, none⟩ = some (.int .u64 (N r6.lo)) := fun z => gw_cell (Nat.lt_of_succ_lt HLL.out) R6.out.1 _ z.h
        have f1 : ∀ z : Held (Gw W8), z.w.cell? ⟨w7.heap.size, 25, none⟩ = some (.int .u64 (N r6.hi)) := fun z => gw_cell (Nat.lt_of_succ_lt HLL.out) R6.out.2.1 _ z.h
        have f2 : ∀ z : Held (Gw W8), z.w.cell? ⟨w7.heap.size, 26, none⟩ = some (.int .i64 (Z r6.slo)) := fun z => gw_cell (Nat.lt_of_succ_lt HLL.out) R6.out.2.2.1 _ z.h
        have f3 : ∀ z : Held (Gw W8), z.w.cell? ⟨w7.heap.size, 27, none⟩ = some (.int .i64 (Z r6.shi)) := fun z => gw_cell (Nat.lt_of_succ_lt HLL.out) R6.out.2.2.2.1 _ z.h
        have f4 : ∀ z : Held (Gw W8), z.w.cell? ⟨w7.heap.size + 1, 6, none⟩ = some (.int .u8 48) := fun z => gw_cell HLL.out R6.out.2.2.2.2 _ z.h
        have VV : Hid (∀ w, Calls Try.prog 32 #[.agg #[.int .u64 (N r6.lo), .int .u64 (N r6.hi), .int .i64 (Z r6.slo), .int .i64 (Z r6.shi)]] w fun e w' => e = .returned (.bool true) ∧ Grown w w') := Lib.hid (fun w => ret_b ((validB_iff _).2 E6.out.1) (sp_valid r6.lo r6.hi r6.slo r6.shi w))
        have TT : Hid (∀ w, Calls Try.prog 33 #[.agg #[.int .u64 (N r6.lo), .int .u64 (N r6.hi), .int .i64 (Z r6.slo), .int .i64 (Z r6.shi)], .int .u64 (N (aluW 48 x y))] w fun e w' => e = .returned (.bool true) ∧ Grown w w') := Lib.hid (fun w => ret_b ((hasB_iff _ _).2 E6.out.2) (law_has r6.lo r6.hi r6.slo r6.shi (aluW 48 x y) w))
        have DD : Hid (∀ w, Calls Try.prog 46 #[.int .u8 48, .bool true, .int .u64 (N x), .int .u64 (N y)] w fun e w' => e = .returned (.int .u64 (N (aluW 48 x y))) ∧ w' = w) := Lib.hid (fun w => (refDo_64 48 x y w).mono fun _ _ h => ⟨h.1, h.2.symm⟩)
        clear R0 E0 R1 E1 R2 E2 R3 E3 R4 E4 R5 E5 R6 E6 R7 E7 R8 E8 R9 E9 R10 E10 R11 E11
        go_upto_region 16 with fail
        refine wp_region_lex (Gw W8) (by kernel_rfl) (by kernel_rfl) (Gw.drew hg) (fun hNon => ?_)
        repeat (go_big_quiet_step (first | (go_at_call 32; exact held_callG _ (VV.out _)) | (go_at_call 33; exact held_callG _ (TT.out _)) | (go_at_call 46; exact held_callS _ (DD.out _))))
        refine wpQuiet_nil ?_
        intro w9 hG9
        clear hNon
        go_wp2
        go_roundw
        case rel => exact ⟨7, by omega, by omega, rfl, hG9⟩
        case measure => simp [intOf]
      · have f0 : ∀ z : Held (Gw W8), z.w.cell? ⟨w7.heap.size, 28, none⟩ = some (.int .u64 (N r7.lo)) := fun z => gw_cell (Nat.lt_of_succ_lt HLL.out) R7.out.1 _ z.h
        have f1 : ∀ z : Held (Gw W8), z.w.cell? ⟨w7.heap.size, 29, none⟩ = some (.int .u64 (N r7.hi)) := fun z => gw_cell (Nat.lt_of_succ_lt HLL.out) R7.out.2.1 _ z.h
        have f2 : ∀ z : Held (Gw W8), z.w.cell? ⟨w7.heap.size, 30, none⟩ = some (.int .i64 (Z r7.slo)) := fun z => gw_cell (Nat.lt_of_succ_lt HLL.out) R7.out.2.2.1 _ z.h
        have f3 : ∀ z : Held (Gw W8), z.w.cell? ⟨w7.heap.size, 31, none⟩ = some (.int .i64 (Z r7.shi)) := fun z => gw_cell (Nat.lt_of_succ_lt HLL.out) R7.out.2.2.2.1 _ z.h
        have f4 : ∀ z : Held (Gw W8), z.w.cell? ⟨w7.heap.size + 1, 7, none⟩ = some (.int .u8 144) := fun z => gw_cell HLL.out R7.out.2.2.2.2 _ z.h
        have VV : Hid (∀ w, Calls Try.prog 32 #[.agg #[.int .u64 (N r7.lo), .int .u64 (N r7.hi), .int .i64 (Z r7.slo), .int .i64 (Z r7.shi)]] w fun e w' => e = .returned (.bool true) ∧ Grown w w') := Lib.hid (fun w => ret_b ((validB_iff _).2 E7.out.1) (sp_valid r7.lo r7.hi r7.slo r7.shi w))
        have TT : Hid (∀ w, Calls Try.prog 33 #[.agg #[.int .u64 (N r7.lo), .int .u64 (N r7.hi), .int .i64 (Z r7.slo), .int .i64 (Z r7.shi)], .int .u64 (N (aluW 144 x y))] w fun e w' => e = .returned (.bool true) ∧ Grown w w') := Lib.hid (fun w => ret_b ((hasB_iff _ _).2 E7.out.2) (law_has r7.lo r7.hi r7.slo r7.shi (aluW 144 x y) w))
        have DD : Hid (∀ w, Calls Try.prog 46 #[.int .u8 144, .bool true, .int .u64 (N x), .int .u64 (N y)] w fun e w' => e = .returned (.int .u64 (N (aluW 144 x y))) ∧ w' = w) := Lib.hid (fun w => (refDo_64 144 x y w).mono fun _ _ h => ⟨h.1, h.2.symm⟩)
        clear R0 E0 R1 E1 R2 E2 R3 E3 R4 E4 R5 E5 R6 E6 R7 E7 R8 E8 R9 E9 R10 E10 R11 E11
        go_upto_region 16 with fail
        refine wp_region_lex (Gw W8) (by kernel_rfl) (by kernel_rfl) (Gw.drew hg) (fun hNon => ?_)
        repeat (go_big_quiet_step (first | (go_at_call 32; exact held_callG _ (VV.out _)) | (go_at_call 33; exact held_callG _ (TT.out _)) | (go_at_call 46; exact held_callS _ (DD.out _))))
        refine wpQuiet_nil ?_
        intro w9 hG9
        clear hNon
        go_wp2
        go_roundw
        case rel => exact ⟨8, by omega, by omega, rfl, hG9⟩
        case measure => simp [intOf]
      · have f0 : ∀ z : Held (Gw W8), z.w.cell? ⟨w7.heap.size, 32, none⟩ = some (.int .u64 (N r8.lo)) := fun z => gw_cell (Nat.lt_of_succ_lt HLL.out) R8.out.1 _ z.h
        have f1 : ∀ z : Held (Gw W8), z.w.cell? ⟨w7.heap.size, 33, none⟩ = some (.int .u64 (N r8.hi)) := fun z => gw_cell (Nat.lt_of_succ_lt HLL.out) R8.out.2.1 _ z.h
        have f2 : ∀ z : Held (Gw W8), z.w.cell? ⟨w7.heap.size, 34, none⟩ = some (.int .i64 (Z r8.slo)) := fun z => gw_cell (Nat.lt_of_succ_lt HLL.out) R8.out.2.2.1 _ z.h
        have f3 : ∀ z : Held (Gw W8), z.w.cell? ⟨w7.heap.size, 35, none⟩ = some (.int .i64 (Z r8.shi)) := fun z => gw_cell (Nat.lt_of_succ_lt HLL.out) R8.out.2.2.2.1 _ z.h
        have f4 : ∀ z : Held (Gw W8), z.w.cell? ⟨w7.heap.size + 1, 8, none⟩ = some (.int .u8 96) := fun z => gw_cell HLL.out R8.out.2.2.2.2 _ z.h
        have VV : Hid (∀ w, Calls Try.prog 32 #[.agg #[.int .u64 (N r8.lo), .int .u64 (N r8.hi), .int .i64 (Z r8.slo), .int .i64 (Z r8.shi)]] w fun e w' => e = .returned (.bool true) ∧ Grown w w') := Lib.hid (fun w => ret_b ((validB_iff _).2 E8.out.1) (sp_valid r8.lo r8.hi r8.slo r8.shi w))
        have TT : Hid (∀ w, Calls Try.prog 33 #[.agg #[.int .u64 (N r8.lo), .int .u64 (N r8.hi), .int .i64 (Z r8.slo), .int .i64 (Z r8.shi)], .int .u64 (N (aluW 96 x (BitVec.ofInt 64 n &&& 63#64)))] w fun e w' => e = .returned (.bool true) ∧ Grown w w') := Lib.hid (fun w => ret_b ((hasB_iff _ _).2 E8.out.2) (law_has r8.lo r8.hi r8.slo r8.shi (aluW 96 x (BitVec.ofInt 64 n &&& 63#64)) w))
        have DD : Hid (∀ w, Calls Try.prog 46 #[.int .u8 96, .bool true, .int .u64 (N x), .int .u64 (N (BitVec.ofInt 64 n &&& 63#64))] w fun e w' => e = .returned (.int .u64 (N (aluW 96 x (BitVec.ofInt 64 n &&& 63#64)))) ∧ w' = w) := Lib.hid (fun w => (refDo_64 96 x (BitVec.ofInt 64 n &&& 63#64) w).mono fun _ _ h => ⟨h.1, h.2.symm⟩)
        clear R0 E0 R1 E1 R2 E2 R3 E3 R4 E4 R5 E5 R6 E6 R7 E7 R8 E8 R9 E9 R10 E10 R11 E11
        go_upto_region 16 with fail
        refine wp_region_lex (Gw W8) (by kernel_rfl) (by kernel_rfl) (Gw.drew hg) (fun hNon => ?_)
        repeat (go_big_quiet_step (first | (go_at_call 32; exact held_callG _ (VV.out _)) | (go_at_call 33; exact held_callG _ (TT.out _)) | (go_at_call 46; exact held_callS _ (DD.out _))))
        refine wpQuiet_nil ?_
        intro w9 hG9
        clear hNon
        go_wp2
        go_roundw
        case rel => exact ⟨9, by omega, by omega, rfl, hG9⟩
        case measure => simp [intOf]
      · have f0 : ∀ z : Held (Gw W8), z.w.cell? ⟨w7.heap.size, 36, none⟩ = some (.int .u64 (N r9.lo)) := fun z => gw_cell (Nat.lt_of_succ_lt HLL.out) R9.out.1 _ z.h
        have f1 : ∀ z : Held (Gw W8), z.w.cell? ⟨w7.heap.size, 37, none⟩ = some (.int .u64 (N r9.hi)) := fun z => gw_cell (Nat.lt_of_succ_lt HLL.out) R9.out.2.1 _ z.h
        have f2 : ∀ z : Held (Gw W8), z.w.cell? ⟨w7.heap.size, 38, none⟩ = some (.int .i64 (Z r9.slo)) := fun z => gw_cell (Nat.lt_of_succ_lt HLL.out) R9.out.2.2.1 _ z.h
        have f3 : ∀ z : Held (Gw W8), z.w.cell? ⟨w7.heap.size, 39, none⟩ = some (.int .i64 (Z r9.shi)) := fun z => gw_cell (Nat.lt_of_succ_lt HLL.out) R9.out.2.2.2.1 _ z.h
        have f4 : ∀ z : Held (Gw W8), z.w.cell? ⟨w7.heap.size + 1, 9, none⟩ = some (.int .u8 112) := fun z => gw_cell HLL.out R9.out.2.2.2.2 _ z.h
        have VV : Hid (∀ w, Calls Try.prog 32 #[.agg #[.int .u64 (N r9.lo), .int .u64 (N r9.hi), .int .i64 (Z r9.slo), .int .i64 (Z r9.shi)]] w fun e w' => e = .returned (.bool true) ∧ Grown w w') := Lib.hid (fun w => ret_b ((validB_iff _).2 E9.out.1) (sp_valid r9.lo r9.hi r9.slo r9.shi w))
        have TT : Hid (∀ w, Calls Try.prog 33 #[.agg #[.int .u64 (N r9.lo), .int .u64 (N r9.hi), .int .i64 (Z r9.slo), .int .i64 (Z r9.shi)], .int .u64 (N (aluW 112 x (BitVec.ofInt 64 n &&& 63#64)))] w fun e w' => e = .returned (.bool true) ∧ Grown w w') := Lib.hid (fun w => ret_b ((hasB_iff _ _).2 E9.out.2) (law_has r9.lo r9.hi r9.slo r9.shi (aluW 112 x (BitVec.ofInt 64 n &&& 63#64)) w))
        have DD : Hid (∀ w, Calls Try.prog 46 #[.int .u8 112, .bool true, .int .u64 (N x), .int .u64 (N (BitVec.ofInt 64 n &&& 63#64))] w fun e w' => e = .returned (.int .u64 (N (aluW 112 x (BitVec.ofInt 64 n &&& 63#64)))) ∧ w' = w) := Lib.hid (fun w => (refDo_64 112 x (BitVec.ofInt 64 n &&& 63#64) w).mono fun _ _ h => ⟨h.1, h.2.symm⟩)
        clear R0 E0 R1 E1 R2 E2 R3 E3 R4 E4 R5 E5 R6 E6 R7 E7 R8 E8 R9 E9 R10 E10 R11 E11
        go_upto_region 16 with fail
        refine wp_region_lex (Gw W8) (by kernel_rfl) (by kernel_rfl) (Gw.drew hg) (fun hNon => ?_)
        repeat (go_big_quiet_step (first | (go_at_call 32; exact held_callG _ (VV.out _)) | (go_at_call 33; exact held_callG _ (TT.out _)) | (go_at_call 46; exact held_callS _ (DD.out _))))
        refine wpQuiet_nil ?_
        intro w9 hG9
        clear hNon
        go_wp2
        go_roundw
        case rel => exact ⟨10, by omega, by omega, rfl, hG9⟩
        case measure => simp [intOf]
      · have f0 : ∀ z : Held (Gw W8), z.w.cell? ⟨w7.heap.size, 40, none⟩ = some (.int .u64 (N r10.lo)) := fun z => gw_cell (Nat.lt_of_succ_lt HLL.out) R10.out.1 _ z.h
        have f1 : ∀ z : Held (Gw W8), z.w.cell? ⟨w7.heap.size, 41, none⟩ = some (.int .u64 (N r10.hi)) := fun z => gw_cell (Nat.lt_of_succ_lt HLL.out) R10.out.2.1 _ z.h
        have f2 : ∀ z : Held (Gw W8), z.w.cell? ⟨w7.heap.size, 42, none⟩ = some (.int .i64 (Z r10.slo)) := fun z => gw_cell (Nat.lt_of_succ_lt HLL.out) R10.out.2.2.1 _ z.h
        have f3 : ∀ z : Held (Gw W8), z.w.cell? ⟨w7.heap.size, 43, none⟩ = some (.int .i64 (Z r10.shi)) := fun z => gw_cell (Nat.lt_of_succ_lt HLL.out) R10.out.2.2.2.1 _ z.h
        have f4 : ∀ z : Held (Gw W8), z.w.cell? ⟨w7.heap.size + 1, 10, none⟩ = some (.int .u8 192) := fun z => gw_cell HLL.out R10.out.2.2.2.2 _ z.h
        have VV : Hid (∀ w, Calls Try.prog 32 #[.agg #[.int .u64 (N r10.lo), .int .u64 (N r10.hi), .int .i64 (Z r10.slo), .int .i64 (Z r10.shi)]] w fun e w' => e = .returned (.bool true) ∧ Grown w w') := Lib.hid (fun w => ret_b ((validB_iff _).2 E10.out.1) (sp_valid r10.lo r10.hi r10.slo r10.shi w))
        have TT : Hid (∀ w, Calls Try.prog 33 #[.agg #[.int .u64 (N r10.lo), .int .u64 (N r10.hi), .int .i64 (Z r10.slo), .int .i64 (Z r10.shi)], .int .u64 (N (aluW 192 x (BitVec.ofInt 64 n &&& 63#64)))] w fun e w' => e = .returned (.bool true) ∧ Grown w w') := Lib.hid (fun w => ret_b ((hasB_iff _ _).2 E10.out.2) (law_has r10.lo r10.hi r10.slo r10.shi (aluW 192 x (BitVec.ofInt 64 n &&& 63#64)) w))
        have DD : Hid (∀ w, Calls Try.prog 46 #[.int .u8 192, .bool true, .int .u64 (N x), .int .u64 (N (BitVec.ofInt 64 n &&& 63#64))] w fun e w' => e = .returned (.int .u64 (N (aluW 192 x (BitVec.ofInt 64 n &&& 63#64)))) ∧ w' = w) := Lib.hid (fun w => (refDo_64 192 x (BitVec.ofInt 64 n &&& 63#64) w).mono fun _ _ h => ⟨h.1, h.2.symm⟩)
        clear R0 E0 R1 E1 R2 E2 R3 E3 R4 E4 R5 E5 R6 E6 R7 E7 R8 E8 R9 E9 R10 E10 R11 E11
        go_upto_region 16 with fail
        refine wp_region_lex (Gw W8) (by kernel_rfl) (by kernel_rfl) (Gw.drew hg) (fun hNon => ?_)
        repeat (go_big_quiet_step (first | (go_at_call 32; exact held_callG _ (VV.out _)) | (go_at_call 33; exact held_callG _ (TT.out _)) | (go_at_call 46; exact held_callS _ (DD.out _))))
        refine wpQuiet_nil ?_
        intro w9 hG9
        clear hNon
        go_wp2
        go_roundw
        case rel => exact ⟨11, by omega, by omega, rfl, hG9⟩
        case measure => simp [intOf]
      · have f0 : ∀ z : Held (Gw W8), z.w.cell? ⟨w7.heap.size, 44, none⟩ = some (.int .u64 (N r11.lo)) := fun z => gw_cell (Nat.lt_of_succ_lt HLL.out) R11.out.1 _ z.h
        have f1 : ∀ z : Held (Gw W8), z.w.cell? ⟨w7.heap.size, 45, none⟩ = some (.int .u64 (N r11.hi)) := fun z => gw_cell (Nat.lt_of_succ_lt HLL.out) R11.out.2.1 _ z.h
        have f2 : ∀ z : Held (Gw W8), z.w.cell? ⟨w7.heap.size, 46, none⟩ = some (.int .i64 (Z r11.slo)) := fun z => gw_cell (Nat.lt_of_succ_lt HLL.out) R11.out.2.2.1 _ z.h
        have f3 : ∀ z : Held (Gw W8), z.w.cell? ⟨w7.heap.size, 47, none⟩ = some (.int .i64 (Z r11.shi)) := fun z => gw_cell (Nat.lt_of_succ_lt HLL.out) R11.out.2.2.2.1 _ z.h
        have f4 : ∀ z : Held (Gw W8), z.w.cell? ⟨w7.heap.size + 1, 11, none⟩ = some (.int .u8 80) := fun z => gw_cell HLL.out R11.out.2.2.2.2 _ z.h
        have VV : Hid (∀ w, Calls Try.prog 32 #[.agg #[.int .u64 (N r11.lo), .int .u64 (N r11.hi), .int .i64 (Z r11.slo), .int .i64 (Z r11.shi)]] w fun e w' => e = .returned (.bool true) ∧ Grown w w') := Lib.hid (fun w => ret_b ((validB_iff _).2 E11.out.1) (sp_valid r11.lo r11.hi r11.slo r11.shi w))
        have TT : Hid (∀ w, Calls Try.prog 33 #[.agg #[.int .u64 (N r11.lo), .int .u64 (N r11.hi), .int .i64 (Z r11.slo), .int .i64 (Z r11.shi)], .int .u64 (N (aluW 80 x 4294967295#64))] w fun e w' => e = .returned (.bool true) ∧ Grown w w') := Lib.hid (fun w => ret_b ((hasB_iff _ _).2 E11.out.2) (law_has r11.lo r11.hi r11.slo r11.shi (aluW 80 x 4294967295#64) w))
        have DD : Hid (∀ w, Calls Try.prog 46 #[.int .u8 80, .bool true, .int .u64 (N x), .int .u64 4294967295] w fun e w' => e = .returned (.int .u64 (N (aluW 80 x 4294967295#64))) ∧ w' = w) := Lib.hid (fun w => by
          have h := refDo_64 80 x 4294967295#64 w
          rw [show N (4294967295#64 : BitVec 64) = 4294967295 by decide] at h
          exact h.mono fun _ _ h => ⟨h.1, h.2.symm⟩)
        clear R0 E0 R1 E1 R2 E2 R3 E3 R4 E4 R5 E5 R6 E6 R7 E7 R8 E8 R9 E9 R10 E10 R11 E11
        go_upto_region 16 with fail
        refine wp_region_lex (Gw W8) (by kernel_rfl) (by kernel_rfl) (Gw.drew hg) (fun hNon => ?_)
        repeat (go_big_quiet_step (first | (go_at_call 32; exact held_callG _ (VV.out _)) | (go_at_call 33; exact held_callG _ (TT.out _)) | (go_at_call 46; exact held_callS _ (DD.out _))))
        refine wpQuiet_nil ?_
        intro w9 hG9
        clear hNon
        go_wp2
        go_roundw
        case rel => exact ⟨12, by omega, by omega, rfl, hG9⟩
        case measure => simp [intOf]
      · go_wp2_with (go_at_call 47; ((with_reducible refine (ends_any _).mono ?_); rintro e wn ⟨rfl, hg2⟩))
        go_ret
        exact ⟨rfl, Grown.trans' HG.out (Grown.trans' hg hg2)⟩
end Go.Proofs.Ytchjneodjaakdaa
