/-
  The walk of the law TnumsJoin.
-/
import Derived.Test.YtchjneodjaakdaaLaw15d
namespace Go.Proofs.Ytchjneodjaakdaa
open Go.RowKit
attribute [local go_sem] froz_alloc froz_new froz_new1 u64_wrap BitVec.ofInt_add BitVec.ofInt_mul ofInt_sub' ofInt_N ofInt_Nw u64_and u64_or u64_xor u64_andNot World.cell?_alloc_some

theorem min_N (x y : W64) : ∃ z : W64, min (N x) (N y) = N z := by
  rcases (by omega : N x ≤ N y ∨ N y < N x) with h | h
  · exact ⟨x, by omega⟩
  · exact ⟨y, by omega⟩
theorem max_N (x y : W64) : ∃ z : W64, max (N x) (N y) = N z := by
  rcases (by omega : N x ≤ N y ∨ N y < N x) with h | h
  · exact ⟨y, by omega⟩
  · exact ⟨x, by omega⟩
theorem join_ends (p0 p1 p2 : W64) : ∃ LO HI V1 V : W64, min (N p0) (N p1) = N LO ∧ max (N p0) (N p1) = N HI ∧ max (N p2) (N LO) = N V1 ∧ min (N V1) (N HI) = N V ∧ N LO ≤ N V ∧ N V ≤ N HI ∧ N LO ≤ N HI := by
  obtain ⟨LO, h1⟩ := min_N p0 p1
  obtain ⟨HI, h2⟩ := max_N p0 p1
  obtain ⟨V1, h3⟩ := max_N p2 LO
  obtain ⟨V, h4⟩ := min_N V1 HI
  exact ⟨LO, HI, V1, V, h1, h2, h3, h4, by omega, by omega, by omega⟩
theorem tn_both_yes (av am bv bm : W64) (h : (av ^^^ bv) &&& ~~~am &&& ~~~bm = 0#64) (w : World) : Calls Try.prog 29 #[.agg #[.int .u64 (N av), .int .u64 (N am)], .agg #[.int .u64 (N bv), .int .u64 (N bm)]] w fun e w' => e = .returned (.tuple #[.agg #[.int .u64 (N (tOf (av ||| bv) (am &&& bm)).1), .int .u64 (N (tOf (av ||| bv) (am &&& bm)).2)], .bool true]) ∧ Grown w w' := by
  have hb := tn_both av am bv bm w
  rw [if_pos (by rw [h]; rfl)] at hb
  exact hb
theorem tn_both_no (av am bv bm : W64) (h : ¬ (av ^^^ bv) &&& ~~~am &&& ~~~bm = 0#64) (w : World) : Calls Try.prog 29 #[.agg #[.int .u64 (N av), .int .u64 (N am)], .agg #[.int .u64 (N bv), .int .u64 (N bm)]] w fun e w' => e = .returned (.tuple #[.agg #[.int .u64 0, .int .u64 0], .bool false]) ∧ Grown w w' := by
  have hb := tn_both av am bv bm w
  rw [if_neg (fun h2 => h (N_inj (by rw [beq_iff_eq] at h2; rw [h2]; rfl)))] at hb
  exact hb
def JoinAt (w0 : World) (t u : W64 × W64) (l : List (Nat × Nat × Value)) (s7 s8 : Value) (w : World) : Prop :=
  ∃ B1 B2 : Nat, s7 = .pointer (some ⟨B1, 0, none⟩) ∧ s8 = .pointer (some ⟨B2, 0, none⟩) ∧
    Keeps w0 ((B1, 0, .int .u64 (N t.1)) :: (B1, 1, .int .u64 (N t.2)) :: (B2, 0, .int .u64 (N u.1)) :: (B2, 1, .int .u64 (N u.2)) :: l) w

set_option maxRecDepth 100000 in
set_option maxHeartbeats 8000000 in
theorem tnumsJoin_walk (a b c d p0 p1 p2 : W64) (w : World) :
    Calls Try.prog 5 #[.agg #[.int .u64 (N a), .int .u64 (N b)], .agg #[.int .u64 (N c), .int .u64 (N d)], .agg #[.int .u64 (N p0), .int .u64 (N p1), .int .u64 (N p2)]] w fun e w' => e = .returned (.bool true) ∧ Grown w w' := by
  obtain ⟨LO, HI, V1, V, m1, m2, m3, m4, i1, i2, i3⟩ := join_ends p0 p1 p2
  go_enter Try.func5, Try.ntmps5
  go_upto_region 1 with fail
  have K : Keeps w [(w.heap.size, 0, .int .u64 (N a)), (w.heap.size, 1, .int .u64 (N b)), (w.heap.size + 1, 0, .int .u64 (N c)), (w.heap.size + 1, 1, .int .u64 (N d)), (w.heap.size + 1 + 1, 0, .int .u64 (N p0)), (w.heap.size + 1 + 1, 1, .int .u64 (N p1)), (w.heap.size + 1 + 1, 2, .int .u64 (N p2))] (((w.alloc (.cells #[.int .u64 (N a), .int .u64 (N b)] 23)).alloc (.cells #[.int .u64 (N c), .int .u64 (N d)] 23)).alloc (.cells #[.int .u64 (N p0), .int .u64 (N p1), .int .u64 (N p2)] 39)) := ⟨⟨⟨by simp [go_sem], by first | (simp; done) | (simp; omega)⟩, ⟨by simp [go_sem], by first | (simp; done) | (simp; omega)⟩, ⟨by simp [go_sem], by first | (simp; done) | (simp; omega)⟩, ⟨by simp [go_sem], by first | (simp; done) | (simp; omega)⟩, ⟨by simp [go_sem], by first | (simp; done) | (simp; omega)⟩, ⟨by simp [go_sem], by first | (simp; done) | (simp; omega)⟩, ⟨by simp [go_sem], by first | (simp; done) | (simp; omega)⟩, trivial⟩, by go_grown⟩
  generalize ((w.alloc (.cells #[.int .u64 (N a), .int .u64 (N b)] 23)).alloc (.cells #[.int .u64 (N c), .int .u64 (N d)] 23)).alloc (.cells #[.int .u64 (N p0), .int .u64 (N p1), .int .u64 (N p2)] 39) = W0 at *
  generalize w.heap.size = B at *
  have f0 : ∀ z : Held (Keeps w [(B, 0, .int .u64 (N a)), (B, 1, .int .u64 (N b)), (B + 1, 0, .int .u64 (N c)), (B + 1, 1, .int .u64 (N d)), (B + 1 + 1, 0, .int .u64 (N p0)), (B + 1 + 1, 1, .int .u64 (N p1)), (B + 1 + 1, 2, .int .u64 (N p2))]), z.w.cell? ⟨B + 1 + 1, 0, none⟩ = some _ := fun z => z.h.1.get 4 _ rfl
  have f1 : ∀ z : Held (Keeps w [(B, 0, .int .u64 (N a)), (B, 1, .int .u64 (N b)), (B + 1, 0, .int .u64 (N c)), (B + 1, 1, .int .u64 (N d)), (B + 1 + 1, 0, .int .u64 (N p0)), (B + 1 + 1, 1, .int .u64 (N p1)), (B + 1 + 1, 2, .int .u64 (N p2))]), z.w.cell? ⟨B + 1 + 1, 1, none⟩ = some _ := fun z => z.h.1.get 5 _ rfl
  refine wp_region_lex (Keeps w _) (by kernel_rfl) (by kernel_rfl) K.drew (fun hNon => ?_)
  repeat (go_big_quiet_step (fail))
  refine wpQuiet_nil ?_
  intro w5 K5
  clear hNon f0 f1 K
  have c6 : w5.cell? ⟨B + 1 + 1, 2, none⟩ = some _ := K5.1.get 6 _ rfl
  go_upto_region 4 with (go_at_call 27; refine (tn_range _ _ _).mono ?_; rintro e w6 ⟨rfl, g6⟩)
  have K6 := (K5.grown g6).new2 (.int .u64 (N (tRange LO HI).1)) (.int .u64 (N (tRange LO HI).2)) 25
  clear c6 K5 g6
  generalize w6.alloc (.cells #[.int .u64 (N (tRange LO HI).1), .int .u64 (N (tRange LO HI).2)] 25) = W1 at *
  generalize w6.heap.size = R at *
  have y0 : ∀ z : World, Gw2 W1 z → z.cell? ⟨B, 0, none⟩ = some (.int .u64 (N a)) := fun z g => (K6.grown g).1.get 2 _ rfl
  have y1 : ∀ z : World, Gw2 W1 z → z.cell? ⟨B, 1, none⟩ = some (.int .u64 (N b)) := fun z g => (K6.grown g).1.get 3 _ rfl
  have y2 : ∀ z : World, Gw2 W1 z → z.cell? ⟨B + 1, 0, none⟩ = some (.int .u64 (N c)) := fun z g => (K6.grown g).1.get 4 _ rfl
  have y3 : ∀ z : World, Gw2 W1 z → z.cell? ⟨B + 1, 1, none⟩ = some (.int .u64 (N d)) := fun z g => (K6.grown g).1.get 5 _ rfl
  have hW0 : Gw2 W1 W1 := Grown.refl _
  have l2 : ∀ n : Nat, n < n + 1 + 1 := fun n => by omega
  have l3 : ∀ n : Nat, n < n + 1 + 1 + 1 := fun n => by omega
  have hW : Gw2 W1 W1.drew := Gw2.drew (Grown.refl _)
  go_cut [11, 12] (fun s7 s8 wx => JoinAt w (tOf a b) (tOf c d) ((R, 0, .int .u64 (N (tRange LO HI).1)) :: (R, 1, .int .u64 (N (tRange LO HI).2)) :: [(B, 0, .int .u64 (N a)), (B, 1, .int .u64 (N b)), (B + 1, 0, .int .u64 (N c)), (B + 1, 1, .int .u64 (N d)), (B + 1 + 1, 0, .int .u64 (N p0)), (B + 1 + 1, 1, .int .u64 (N p1)), (B + 1 + 1, 2, .int .u64 (N p2))]) s7 s8 wx)
  case first =>
    go_region_held3 (fun w' => Gw2 W1 w') ((repeat (first | with_reducible assumption | with_reducible refine Gw2.drew ?_ | with_reducible refine Gw2.alloc ?_ _ _ | with_reducible refine Gw2.set2 ?_ (by first | with_reducible assumption | exact Nat.le_refl _ | exact Nat.le_succ _ | exact Nat.le_succ_of_le (by with_reducible assumption)) _ _))) (first | (go_at_call_of 10 (Value.agg #[.int .u64 (N a), .int .u64 (N b)]); refine (made_any _ _ _).mono ?_; rintro e w' ⟨rfl, hg⟩; have hz : W1.heap.size ≤ w'.heap.size := Nat.le_trans (Gw2.size (by with_reducible assumption)) hg.2.2; have hc := gcell hg; have hf := gfroz hg; have hz3 := hg.2.2; (try simp only [World.size_alloc, World.size_drew] at hz3); (try (have hl1 := Nat.lt_of_succ_le hz3; have hn1 := Nat.ne_of_lt hl1; have hn2 := Nat.ne_of_gt hl1)); (try (have hl2 := Nat.lt_of_succ_lt (Nat.lt_of_succ_le hz3); have hn3 := Nat.ne_of_lt hl2; have hn4 := Nat.ne_of_gt hl2)); have hG : Gw2 W1 w' := Gw2.trans (by with_reducible assumption) hg; clear hg) | (go_at_call 10; refine (made_any _ _ _).mono ?_; rintro e w' ⟨rfl, hg⟩; have hz : W1.heap.size ≤ w'.heap.size := Nat.le_trans (Gw2.size (by with_reducible assumption)) hg.2.2; have hc := gcell hg; have hf := gfroz hg; have hz3 := hg.2.2; (try simp only [World.size_alloc] at hz3); (try (have hn1 := Nat.ne_of_lt (Nat.lt_of_succ_le hz3); have hn2 := Nat.ne_of_gt (Nat.lt_of_succ_le hz3))); (try (have hn3 := Nat.ne_of_lt (Nat.lt_of_succ_lt (Nat.lt_of_succ_le hz3)); have hn4 := Nat.ne_of_gt (Nat.lt_of_succ_lt (Nat.lt_of_succ_le hz3)))); (try (have hn5 := Nat.ne_of_lt (Nat.lt_of_lt_of_le (by with_reducible assumption : W1.heap.size < _) hg.2.2); have hn6 := Nat.ne_of_gt (Nat.lt_of_lt_of_le (by with_reducible assumption : W1.heap.size < _) hg.2.2))); have hG : Gw2 W1 w' := Gw2.trans (by with_reducible assumption) hg; clear hg))
    all_goals
      go_wp2_with fail
      go_meet
      case rel =>
        exact ⟨_, _, rfl, rfl, ⟨⟨⟨by first | (simp [go_sem, *]; done) | ((repeat (first | (with_reducible refine World.cell?_setCell_same _ _ _ (u := .int .u64 0) ?_) | (rw [World.cell?_setCell_other _ _ _ _ (by simp [*])]))); simp [go_sem, *]), by first | (simp; done) | (simp; omega)⟩, ⟨by first | (simp [go_sem, *]; done) | ((repeat (first | (with_reducible refine World.cell?_setCell_same _ _ _ (u := .int .u64 0) ?_) | (rw [World.cell?_setCell_other _ _ _ _ (by simp [*])]))); simp [go_sem, *]), by first | (simp; done) | (simp; omega)⟩, ⟨by first | (simp [go_sem, *]; done) | ((repeat (first | (with_reducible refine World.cell?_setCell_same _ _ _ (u := .int .u64 0) ?_) | (rw [World.cell?_setCell_other _ _ _ _ (by simp [*])]))); simp [go_sem, *]), by first | (simp; done) | (simp; omega)⟩, ⟨by first | (simp [go_sem, *]; done) | ((repeat (first | (with_reducible refine World.cell?_setCell_same _ _ _ (u := .int .u64 0) ?_) | (rw [World.cell?_setCell_other _ _ _ _ (by simp [*])]))); simp [go_sem, *]), by first | (simp; done) | (simp; omega)⟩, (K6.grown (by show Gw2 W1 _; with_reducible assumption)).1⟩, (K6.grown (by show Gw2 W1 _; with_reducible assumption)).2⟩⟩
  case rest =>
    clear y0 y1 y2 y3 hW0 l2 l3 hW K6
    obtain ⟨B1, B2, rfl, rfl, K⟩ := hcut
    obtain ⟨X, hX⟩ : ∃ X, (tOf a b).1 ||| ((tOf a b).2 &&& p0) = X := ⟨_, rfl⟩
    obtain ⟨Y, hY⟩ : ∃ Y, (tOf c d).1 ||| ((tOf c d).2 &&& p1) = Y := ⟨_, rfl⟩
    have hhX : hasT (tOf a b).1 (tOf a b).2 X := hX ▸ has_one a b p0
    have hhY : hasT (tOf c d).1 (tOf c d).2 Y := hY ▸ has_one c d p1
    have HX := Lib.hid hX
    have HY := Lib.hid hY
    clear hX hY
    have z1 := valid_of (ok_of LO (1#64 <<< min (Lib.bitLen (LO.toNat ^^^ HI.toNat)) 64 - 1#64))
    change (N ((tRange LO HI).1 &&& (tRange LO HI).2) == 0) = true at z1
    have z2 := (hasB_iff _ _ _).2 (has_range i1 i2)
    have z3 := (hasB_iff _ _ _).2 (has_range (by omega : N LO ≤ N LO) i3)
    have z4 := (hasB_iff _ _ _).2 (has_range i3 (by omega : N HI ≤ N HI))
    have hE := has_eitherL (bv := (tOf c d).1) (bm := (tOf c d).2) hhX
    have z5 := (hasB_iff _ _ _).2 hE
    have z6 := (hasB_iff _ _ _).2 (has_eitherR (av := (tOf a b).1) (am := (tOf a b).2) hhY)
    have z7 := valid_of (ok_of (tOf a b).1 ((tOf a b).2 ||| (tOf c d).2 ||| ((tOf a b).1 ^^^ (tOf c d).1)))
    change (N ((tEither (tOf a b).1 (tOf a b).2 (tOf c d).1 (tOf c d).2).1 &&& (tEither (tOf a b).1 (tOf a b).2 (tOf c d).1 (tOf c d).2).2) == 0) = true at z7
    obtain ⟨hS, hPX⟩ := both_some hhX hE
    have HS := Lib.hid hS
    have z8 := (hasB_iff _ _ _).2 hPX
    have z9 := valid_of (ok_of ((tOf a b).1 ||| (tOf c d).1) ((tOf a b).2 &&& (tOf c d).2))
    have hU := fun h : hasB (tOf c d).1 (tOf c d).2 X = true => both_some hhX ((hasB_iff _ _ _).1 h)
    clear hS hPX hE hhX hhY i1 i2 i3 m1 m2 m3 m4
    have q0 : ∀ z : Held (Keeps w ((B1, 0, .int .u64 (N (tOf a b).1)) :: (B1, 1, .int .u64 (N (tOf a b).2)) :: (B2, 0, .int .u64 (N (tOf c d).1)) :: (B2, 1, .int .u64 (N (tOf c d).2)) :: (R, 0, .int .u64 (N (tRange LO HI).1)) :: (R, 1, .int .u64 (N (tRange LO HI).2)) :: [(B, 0, .int .u64 (N a)), (B, 1, .int .u64 (N b)), (B + 1, 0, .int .u64 (N c)), (B + 1, 1, .int .u64 (N d)), (B + 1 + 1, 0, .int .u64 (N p0)), (B + 1 + 1, 1, .int .u64 (N p1)), (B + 1 + 1, 2, .int .u64 (N p2))])), z.w.cell? ⟨B1, 0, none⟩ = some _ := fun z => z.h.1.get 0 _ rfl
    have q1 : ∀ z : Held (Keeps w ((B1, 0, .int .u64 (N (tOf a b).1)) :: (B1, 1, .int .u64 (N (tOf a b).2)) :: (B2, 0, .int .u64 (N (tOf c d).1)) :: (B2, 1, .int .u64 (N (tOf c d).2)) :: (R, 0, .int .u64 (N (tRange LO HI).1)) :: (R, 1, .int .u64 (N (tRange LO HI).2)) :: [(B, 0, .int .u64 (N a)), (B, 1, .int .u64 (N b)), (B + 1, 0, .int .u64 (N c)), (B + 1, 1, .int .u64 (N d)), (B + 1 + 1, 0, .int .u64 (N p0)), (B + 1 + 1, 1, .int .u64 (N p1)), (B + 1 + 1, 2, .int .u64 (N p2))])), z.w.cell? ⟨B1, 1, none⟩ = some _ := fun z => z.h.1.get 1 _ rfl
    have q2 : ∀ z : Held (Keeps w ((B1, 0, .int .u64 (N (tOf a b).1)) :: (B1, 1, .int .u64 (N (tOf a b).2)) :: (B2, 0, .int .u64 (N (tOf c d).1)) :: (B2, 1, .int .u64 (N (tOf c d).2)) :: (R, 0, .int .u64 (N (tRange LO HI).1)) :: (R, 1, .int .u64 (N (tRange LO HI).2)) :: [(B, 0, .int .u64 (N a)), (B, 1, .int .u64 (N b)), (B + 1, 0, .int .u64 (N c)), (B + 1, 1, .int .u64 (N d)), (B + 1 + 1, 0, .int .u64 (N p0)), (B + 1 + 1, 1, .int .u64 (N p1)), (B + 1 + 1, 2, .int .u64 (N p2))])), z.w.cell? ⟨B2, 0, none⟩ = some _ := fun z => z.h.1.get 2 _ rfl
    have q3 : ∀ z : Held (Keeps w ((B1, 0, .int .u64 (N (tOf a b).1)) :: (B1, 1, .int .u64 (N (tOf a b).2)) :: (B2, 0, .int .u64 (N (tOf c d).1)) :: (B2, 1, .int .u64 (N (tOf c d).2)) :: (R, 0, .int .u64 (N (tRange LO HI).1)) :: (R, 1, .int .u64 (N (tRange LO HI).2)) :: [(B, 0, .int .u64 (N a)), (B, 1, .int .u64 (N b)), (B + 1, 0, .int .u64 (N c)), (B + 1, 1, .int .u64 (N d)), (B + 1 + 1, 0, .int .u64 (N p0)), (B + 1 + 1, 1, .int .u64 (N p1)), (B + 1 + 1, 2, .int .u64 (N p2))])), z.w.cell? ⟨B2, 1, none⟩ = some _ := fun z => z.h.1.get 3 _ rfl
    have q4 : ∀ z : Held (Keeps w ((B1, 0, .int .u64 (N (tOf a b).1)) :: (B1, 1, .int .u64 (N (tOf a b).2)) :: (B2, 0, .int .u64 (N (tOf c d).1)) :: (B2, 1, .int .u64 (N (tOf c d).2)) :: (R, 0, .int .u64 (N (tRange LO HI).1)) :: (R, 1, .int .u64 (N (tRange LO HI).2)) :: [(B, 0, .int .u64 (N a)), (B, 1, .int .u64 (N b)), (B + 1, 0, .int .u64 (N c)), (B + 1, 1, .int .u64 (N d)), (B + 1 + 1, 0, .int .u64 (N p0)), (B + 1 + 1, 1, .int .u64 (N p1)), (B + 1 + 1, 2, .int .u64 (N p2))])), z.w.cell? ⟨B + 1 + 1, 0, none⟩ = some _ := fun z => z.h.1.get 10 _ rfl
    have q5 : ∀ z : Held (Keeps w ((B1, 0, .int .u64 (N (tOf a b).1)) :: (B1, 1, .int .u64 (N (tOf a b).2)) :: (B2, 0, .int .u64 (N (tOf c d).1)) :: (B2, 1, .int .u64 (N (tOf c d).2)) :: (R, 0, .int .u64 (N (tRange LO HI).1)) :: (R, 1, .int .u64 (N (tRange LO HI).2)) :: [(B, 0, .int .u64 (N a)), (B, 1, .int .u64 (N b)), (B + 1, 0, .int .u64 (N c)), (B + 1, 1, .int .u64 (N d)), (B + 1 + 1, 0, .int .u64 (N p0)), (B + 1 + 1, 1, .int .u64 (N p1)), (B + 1 + 1, 2, .int .u64 (N p2))])), z.w.cell? ⟨B + 1 + 1, 1, none⟩ = some _ := fun z => z.h.1.get 11 _ rfl
    go_wp2_with fail
    refine wp_region_lex (Keeps w _) (by kernel_rfl) (by kernel_rfl) K.drew (fun hNon => ?_)
    repeat (go_big_quiet_step ((go_at_call 11; first | exact held_callK _ (one_g _ _ _ _ HX.out _) | exact held_callK _ (one_g _ _ _ _ HY.out _))))
    refine wpQuiet_nil ?_
    intro w5 K5
    clear hNon q0 q1 q2 q3 q4 q5 K
    have c0 : w5.cell? ⟨B1, 0, none⟩ = some _ := K5.1.get 0 _ rfl
    have c1 : w5.cell? ⟨B1, 1, none⟩ = some _ := K5.1.get 1 _ rfl
    have c2 : w5.cell? ⟨B2, 0, none⟩ = some _ := K5.1.get 2 _ rfl
    have c3 : w5.cell? ⟨B2, 1, none⟩ = some _ := K5.1.get 3 _ rfl
    go_upto_region 7 with (go_at_call 28; refine (tn_either _ _ _ _ _).mono ?_; rintro e w7 ⟨rfl, g7⟩)
    have K7 := (K5.grown g7).new2 (.int .u64 (N (tEither (tOf a b).1 (tOf a b).2 (tOf c d).1 (tOf c d).2).1)) (.int .u64 (N (tEither (tOf a b).1 (tOf a b).2 (tOf c d).1 (tOf c d).2).2)) 25
    clear c0 c1 c2 c3 K5 g7
    generalize w7.alloc (.cells #[.int .u64 (N (tEither (tOf a b).1 (tOf a b).2 (tOf c d).1 (tOf c d).2).1), .int .u64 (N (tEither (tOf a b).1 (tOf a b).2 (tOf c d).1 (tOf c d).2).2)] 25) = W7 at *
    generalize w7.heap.size = BE at *
    have c0 : W7.cell? ⟨B1, 0, none⟩ = some _ := K7.1.get 2 _ rfl
    have c1 : W7.cell? ⟨B1, 1, none⟩ = some _ := K7.1.get 3 _ rfl
    have c2 : W7.cell? ⟨B2, 0, none⟩ = some _ := K7.1.get 4 _ rfl
    have c3 : W7.cell? ⟨B2, 1, none⟩ = some _ := K7.1.get 5 _ rfl
    by_cases hB : ((tOf a b).1 ^^^ (tOf c d).1) &&& ~~~(tOf a b).2 &&& ~~~(tOf c d).2 = 0#64
    · have HB := Lib.hid hB
      clear hB
      cases hu : hasB (tOf c d).1 (tOf c d).2 X
      · clear hU
        go_upto_region 8 with (go_at_call 29; refine (tn_both_yes _ _ _ _ HB.out _).mono ?_; rintro e w8 ⟨rfl, g8⟩)
        have K8 := (K7.grown g8).new2 (.int .u64 (N (tOf ((tOf a b).1 ||| (tOf c d).1) ((tOf a b).2 &&& (tOf c d).2)).1)) (.int .u64 (N (tOf ((tOf a b).1 ||| (tOf c d).1) ((tOf a b).2 &&& (tOf c d).2)).2)) 25
        clear c0 c1 c2 c3 K7 g8
        generalize w8.alloc (.cells #[.int .u64 (N (tOf ((tOf a b).1 ||| (tOf c d).1) ((tOf a b).2 &&& (tOf c d).2)).1), .int .u64 (N (tOf ((tOf a b).1 ||| (tOf c d).1) ((tOf a b).2 &&& (tOf c d).2)).2)] 25) = W8 at *
        generalize w8.heap.size = BO at *
        have c0 : W8.cell? ⟨B1, 0, none⟩ = some _ := K8.1.get 4 _ rfl
        have c1 : W8.cell? ⟨B1, 1, none⟩ = some _ := K8.1.get 5 _ rfl
        have c2 : W8.cell? ⟨BE, 0, none⟩ = some _ := K8.1.get 2 _ rfl
        have c3 : W8.cell? ⟨BE, 1, none⟩ = some _ := K8.1.get 3 _ rfl
        go_upto_region 9 with (go_at_call 29; refine (tn_both_yes _ _ _ _ HS.out _).mono ?_; rintro e w9 ⟨rfl, g9⟩)
        have K9 := (K8.grown g9).new2 (.int .u64 (N (tOf ((tOf a b).1 ||| (tEither (tOf a b).1 (tOf a b).2 (tOf c d).1 (tOf c d).2).1) ((tOf a b).2 &&& (tEither (tOf a b).1 (tOf a b).2 (tOf c d).1 (tOf c d).2).2)).1)) (.int .u64 (N (tOf ((tOf a b).1 ||| (tEither (tOf a b).1 (tOf a b).2 (tOf c d).1 (tOf c d).2).1) ((tOf a b).2 &&& (tEither (tOf a b).1 (tOf a b).2 (tOf c d).1 (tOf c d).2).2)).2)) 25
        clear c0 c1 c2 c3 K8 g9
        generalize w9.alloc (.cells #[.int .u64 (N (tOf ((tOf a b).1 ||| (tEither (tOf a b).1 (tOf a b).2 (tOf c d).1 (tOf c d).2).1) ((tOf a b).2 &&& (tEither (tOf a b).1 (tOf a b).2 (tOf c d).1 (tOf c d).2).2)).1), .int .u64 (N (tOf ((tOf a b).1 ||| (tEither (tOf a b).1 (tOf a b).2 (tOf c d).1 (tOf c d).2).1) ((tOf a b).2 &&& (tEither (tOf a b).1 (tOf a b).2 (tOf c d).1 (tOf c d).2).2)).2)] 25) = W9 at *
        generalize w9.heap.size = BP at *
        have c0 : W9.cell? ⟨BP, 0, none⟩ = some _ := K9.1.get 0 _ rfl
        have c1 : W9.cell? ⟨BP, 1, none⟩ = some _ := K9.1.get 1 _ rfl
        have c2 : W9.cell? ⟨BO, 0, none⟩ = some _ := K9.1.get 2 _ rfl
        have c3 : W9.cell? ⟨BO, 1, none⟩ = some _ := K9.1.get 3 _ rfl
        have c4 : W9.cell? ⟨BE, 0, none⟩ = some _ := K9.1.get 4 _ rfl
        have c5 : W9.cell? ⟨BE, 1, none⟩ = some _ := K9.1.get 5 _ rfl
        have c6 : W9.cell? ⟨B2, 0, none⟩ = some _ := K9.1.get 8 _ rfl
        have c7 : W9.cell? ⟨B2, 1, none⟩ = some _ := K9.1.get 9 _ rfl
        have c8 : W9.cell? ⟨R, 0, none⟩ = some _ := K9.1.get 10 _ rfl
        have c9 : W9.cell? ⟨R, 1, none⟩ = some _ := K9.1.get 11 _ rfl
        go_wp2_with (first | (go_at_call 25; refine (tn_valid _ _ _).mono ?_; rintro e wn ⟨rfl, g⟩; replace K9 := K9.grown g; clear g; clear c0 c1 c2 c3 c4 c5 c6 c7 c8 c9; have c0 : wn.cell? ⟨BP, 0, none⟩ = some _ := K9.1.get 0 _ rfl; have c1 : wn.cell? ⟨BP, 1, none⟩ = some _ := K9.1.get 1 _ rfl; have c2 : wn.cell? ⟨BO, 0, none⟩ = some _ := K9.1.get 2 _ rfl; have c3 : wn.cell? ⟨BO, 1, none⟩ = some _ := K9.1.get 3 _ rfl; have c4 : wn.cell? ⟨BE, 0, none⟩ = some _ := K9.1.get 4 _ rfl; have c5 : wn.cell? ⟨BE, 1, none⟩ = some _ := K9.1.get 5 _ rfl; have c6 : wn.cell? ⟨B2, 0, none⟩ = some _ := K9.1.get 8 _ rfl; have c7 : wn.cell? ⟨B2, 1, none⟩ = some _ := K9.1.get 9 _ rfl; have c8 : wn.cell? ⟨R, 0, none⟩ = some _ := K9.1.get 10 _ rfl; have c9 : wn.cell? ⟨R, 1, none⟩ = some _ := K9.1.get 11 _ rfl) | (go_at_call 26; refine (lawHas_any _ _ _ _).mono ?_; rintro e wn ⟨rfl, g⟩; replace K9 := K9.grown g; clear g; clear c0 c1 c2 c3 c4 c5 c6 c7 c8 c9; have c0 : wn.cell? ⟨BP, 0, none⟩ = some _ := K9.1.get 0 _ rfl; have c1 : wn.cell? ⟨BP, 1, none⟩ = some _ := K9.1.get 1 _ rfl; have c2 : wn.cell? ⟨BO, 0, none⟩ = some _ := K9.1.get 2 _ rfl; have c3 : wn.cell? ⟨BO, 1, none⟩ = some _ := K9.1.get 3 _ rfl; have c4 : wn.cell? ⟨BE, 0, none⟩ = some _ := K9.1.get 4 _ rfl; have c5 : wn.cell? ⟨BE, 1, none⟩ = some _ := K9.1.get 5 _ rfl; have c6 : wn.cell? ⟨B2, 0, none⟩ = some _ := K9.1.get 8 _ rfl; have c7 : wn.cell? ⟨B2, 1, none⟩ = some _ := K9.1.get 9 _ rfl; have c8 : wn.cell? ⟨R, 0, none⟩ = some _ := K9.1.get 10 _ rfl; have c9 : wn.cell? ⟨R, 1, none⟩ = some _ := K9.1.get 11 _ rfl) | (go_at_call 20; refine (bits_any _).mono ?_; rintro e wn ⟨rfl, g⟩; replace K9 := K9.grown g; clear g; clear c0 c1 c2 c3 c4 c5 c6 c7 c8 c9))
        go_ret
        exact ⟨rfl, K9.2⟩
      · have z10 := (hasB_iff _ _ _).2 (hU hu).2
        clear hU
        go_upto_region 8 with (go_at_call 29; refine (tn_both_yes _ _ _ _ HB.out _).mono ?_; rintro e w8 ⟨rfl, g8⟩)
        have K8 := (K7.grown g8).new2 (.int .u64 (N (tOf ((tOf a b).1 ||| (tOf c d).1) ((tOf a b).2 &&& (tOf c d).2)).1)) (.int .u64 (N (tOf ((tOf a b).1 ||| (tOf c d).1) ((tOf a b).2 &&& (tOf c d).2)).2)) 25
        clear c0 c1 c2 c3 K7 g8
        generalize w8.alloc (.cells #[.int .u64 (N (tOf ((tOf a b).1 ||| (tOf c d).1) ((tOf a b).2 &&& (tOf c d).2)).1), .int .u64 (N (tOf ((tOf a b).1 ||| (tOf c d).1) ((tOf a b).2 &&& (tOf c d).2)).2)] 25) = W8 at *
        generalize w8.heap.size = BO at *
        have c0 : W8.cell? ⟨B1, 0, none⟩ = some _ := K8.1.get 4 _ rfl
        have c1 : W8.cell? ⟨B1, 1, none⟩ = some _ := K8.1.get 5 _ rfl
        have c2 : W8.cell? ⟨BE, 0, none⟩ = some _ := K8.1.get 2 _ rfl
        have c3 : W8.cell? ⟨BE, 1, none⟩ = some _ := K8.1.get 3 _ rfl
        go_upto_region 9 with (go_at_call 29; refine (tn_both_yes _ _ _ _ HS.out _).mono ?_; rintro e w9 ⟨rfl, g9⟩)
        have K9 := (K8.grown g9).new2 (.int .u64 (N (tOf ((tOf a b).1 ||| (tEither (tOf a b).1 (tOf a b).2 (tOf c d).1 (tOf c d).2).1) ((tOf a b).2 &&& (tEither (tOf a b).1 (tOf a b).2 (tOf c d).1 (tOf c d).2).2)).1)) (.int .u64 (N (tOf ((tOf a b).1 ||| (tEither (tOf a b).1 (tOf a b).2 (tOf c d).1 (tOf c d).2).1) ((tOf a b).2 &&& (tEither (tOf a b).1 (tOf a b).2 (tOf c d).1 (tOf c d).2).2)).2)) 25
        clear c0 c1 c2 c3 K8 g9
        generalize w9.alloc (.cells #[.int .u64 (N (tOf ((tOf a b).1 ||| (tEither (tOf a b).1 (tOf a b).2 (tOf c d).1 (tOf c d).2).1) ((tOf a b).2 &&& (tEither (tOf a b).1 (tOf a b).2 (tOf c d).1 (tOf c d).2).2)).1), .int .u64 (N (tOf ((tOf a b).1 ||| (tEither (tOf a b).1 (tOf a b).2 (tOf c d).1 (tOf c d).2).1) ((tOf a b).2 &&& (tEither (tOf a b).1 (tOf a b).2 (tOf c d).1 (tOf c d).2).2)).2)] 25) = W9 at *
        generalize w9.heap.size = BP at *
        have c0 : W9.cell? ⟨BP, 0, none⟩ = some _ := K9.1.get 0 _ rfl
        have c1 : W9.cell? ⟨BP, 1, none⟩ = some _ := K9.1.get 1 _ rfl
        have c2 : W9.cell? ⟨BO, 0, none⟩ = some _ := K9.1.get 2 _ rfl
        have c3 : W9.cell? ⟨BO, 1, none⟩ = some _ := K9.1.get 3 _ rfl
        have c4 : W9.cell? ⟨BE, 0, none⟩ = some _ := K9.1.get 4 _ rfl
        have c5 : W9.cell? ⟨BE, 1, none⟩ = some _ := K9.1.get 5 _ rfl
        have c6 : W9.cell? ⟨B2, 0, none⟩ = some _ := K9.1.get 8 _ rfl
        have c7 : W9.cell? ⟨B2, 1, none⟩ = some _ := K9.1.get 9 _ rfl
        have c8 : W9.cell? ⟨R, 0, none⟩ = some _ := K9.1.get 10 _ rfl
        have c9 : W9.cell? ⟨R, 1, none⟩ = some _ := K9.1.get 11 _ rfl
        go_wp2_with (first | (go_at_call 25; refine (tn_valid _ _ _).mono ?_; rintro e wn ⟨rfl, g⟩; replace K9 := K9.grown g; clear g; clear c0 c1 c2 c3 c4 c5 c6 c7 c8 c9; have c0 : wn.cell? ⟨BP, 0, none⟩ = some _ := K9.1.get 0 _ rfl; have c1 : wn.cell? ⟨BP, 1, none⟩ = some _ := K9.1.get 1 _ rfl; have c2 : wn.cell? ⟨BO, 0, none⟩ = some _ := K9.1.get 2 _ rfl; have c3 : wn.cell? ⟨BO, 1, none⟩ = some _ := K9.1.get 3 _ rfl; have c4 : wn.cell? ⟨BE, 0, none⟩ = some _ := K9.1.get 4 _ rfl; have c5 : wn.cell? ⟨BE, 1, none⟩ = some _ := K9.1.get 5 _ rfl; have c6 : wn.cell? ⟨B2, 0, none⟩ = some _ := K9.1.get 8 _ rfl; have c7 : wn.cell? ⟨B2, 1, none⟩ = some _ := K9.1.get 9 _ rfl; have c8 : wn.cell? ⟨R, 0, none⟩ = some _ := K9.1.get 10 _ rfl; have c9 : wn.cell? ⟨R, 1, none⟩ = some _ := K9.1.get 11 _ rfl) | (go_at_call 26; refine (lawHas_any _ _ _ _).mono ?_; rintro e wn ⟨rfl, g⟩; replace K9 := K9.grown g; clear g; clear c0 c1 c2 c3 c4 c5 c6 c7 c8 c9; have c0 : wn.cell? ⟨BP, 0, none⟩ = some _ := K9.1.get 0 _ rfl; have c1 : wn.cell? ⟨BP, 1, none⟩ = some _ := K9.1.get 1 _ rfl; have c2 : wn.cell? ⟨BO, 0, none⟩ = some _ := K9.1.get 2 _ rfl; have c3 : wn.cell? ⟨BO, 1, none⟩ = some _ := K9.1.get 3 _ rfl; have c4 : wn.cell? ⟨BE, 0, none⟩ = some _ := K9.1.get 4 _ rfl; have c5 : wn.cell? ⟨BE, 1, none⟩ = some _ := K9.1.get 5 _ rfl; have c6 : wn.cell? ⟨B2, 0, none⟩ = some _ := K9.1.get 8 _ rfl; have c7 : wn.cell? ⟨B2, 1, none⟩ = some _ := K9.1.get 9 _ rfl; have c8 : wn.cell? ⟨R, 0, none⟩ = some _ := K9.1.get 10 _ rfl; have c9 : wn.cell? ⟨R, 1, none⟩ = some _ := K9.1.get 11 _ rfl) | (go_at_call 20; refine (bits_any _).mono ?_; rintro e wn ⟨rfl, g⟩; replace K9 := K9.grown g; clear g; clear c0 c1 c2 c3 c4 c5 c6 c7 c8 c9))
        go_ret
        exact ⟨rfl, K9.2⟩
    · have HB := Lib.hid hB
      have hu : hasB (tOf c d).1 (tOf c d).2 X = false := by
        cases h : hasB (tOf c d).1 (tOf c d).2 X
        · rfl
        · exact absurd (hU h).1 hB
      clear hB hU
      go_upto_region 8 with (go_at_call 29; refine (tn_both_no _ _ _ _ HB.out _).mono ?_; rintro e w8 ⟨rfl, g8⟩)
      have K8 := (K7.grown g8).new2 (.int .u64 0) (.int .u64 0) 25
      clear c0 c1 c2 c3 K7 g8
      generalize w8.alloc (.cells #[.int .u64 0, .int .u64 0] 25) = W8 at *
      generalize w8.heap.size = BO at *
      have c0 : W8.cell? ⟨B1, 0, none⟩ = some _ := K8.1.get 4 _ rfl
      have c1 : W8.cell? ⟨B1, 1, none⟩ = some _ := K8.1.get 5 _ rfl
      have c2 : W8.cell? ⟨BE, 0, none⟩ = some _ := K8.1.get 2 _ rfl
      have c3 : W8.cell? ⟨BE, 1, none⟩ = some _ := K8.1.get 3 _ rfl
      go_upto_region 9 with (go_at_call 29; refine (tn_both_yes _ _ _ _ HS.out _).mono ?_; rintro e w9 ⟨rfl, g9⟩)
      have K9 := (K8.grown g9).new2 (.int .u64 (N (tOf ((tOf a b).1 ||| (tEither (tOf a b).1 (tOf a b).2 (tOf c d).1 (tOf c d).2).1) ((tOf a b).2 &&& (tEither (tOf a b).1 (tOf a b).2 (tOf c d).1 (tOf c d).2).2)).1)) (.int .u64 (N (tOf ((tOf a b).1 ||| (tEither (tOf a b).1 (tOf a b).2 (tOf c d).1 (tOf c d).2).1) ((tOf a b).2 &&& (tEither (tOf a b).1 (tOf a b).2 (tOf c d).1 (tOf c d).2).2)).2)) 25
      clear c0 c1 c2 c3 K8 g9
      generalize w9.alloc (.cells #[.int .u64 (N (tOf ((tOf a b).1 ||| (tEither (tOf a b).1 (tOf a b).2 (tOf c d).1 (tOf c d).2).1) ((tOf a b).2 &&& (tEither (tOf a b).1 (tOf a b).2 (tOf c d).1 (tOf c d).2).2)).1), .int .u64 (N (tOf ((tOf a b).1 ||| (tEither (tOf a b).1 (tOf a b).2 (tOf c d).1 (tOf c d).2).1) ((tOf a b).2 &&& (tEither (tOf a b).1 (tOf a b).2 (tOf c d).1 (tOf c d).2).2)).2)] 25) = W9 at *
      generalize w9.heap.size = BP at *
      have c0 : W9.cell? ⟨BP, 0, none⟩ = some _ := K9.1.get 0 _ rfl
      have c1 : W9.cell? ⟨BP, 1, none⟩ = some _ := K9.1.get 1 _ rfl
      have c2 : W9.cell? ⟨BO, 0, none⟩ = some _ := K9.1.get 2 _ rfl
      have c3 : W9.cell? ⟨BO, 1, none⟩ = some _ := K9.1.get 3 _ rfl
      have c4 : W9.cell? ⟨BE, 0, none⟩ = some _ := K9.1.get 4 _ rfl
      have c5 : W9.cell? ⟨BE, 1, none⟩ = some _ := K9.1.get 5 _ rfl
      have c6 : W9.cell? ⟨B2, 0, none⟩ = some _ := K9.1.get 8 _ rfl
      have c7 : W9.cell? ⟨B2, 1, none⟩ = some _ := K9.1.get 9 _ rfl
      have c8 : W9.cell? ⟨R, 0, none⟩ = some _ := K9.1.get 10 _ rfl
      have c9 : W9.cell? ⟨R, 1, none⟩ = some _ := K9.1.get 11 _ rfl
      go_wp2_with (first | (go_at_call 25; refine (tn_valid _ _ _).mono ?_; rintro e wn ⟨rfl, g⟩; replace K9 := K9.grown g; clear g; clear c0 c1 c2 c3 c4 c5 c6 c7 c8 c9; have c0 : wn.cell? ⟨BP, 0, none⟩ = some _ := K9.1.get 0 _ rfl; have c1 : wn.cell? ⟨BP, 1, none⟩ = some _ := K9.1.get 1 _ rfl; have c2 : wn.cell? ⟨BO, 0, none⟩ = some _ := K9.1.get 2 _ rfl; have c3 : wn.cell? ⟨BO, 1, none⟩ = some _ := K9.1.get 3 _ rfl; have c4 : wn.cell? ⟨BE, 0, none⟩ = some _ := K9.1.get 4 _ rfl; have c5 : wn.cell? ⟨BE, 1, none⟩ = some _ := K9.1.get 5 _ rfl; have c6 : wn.cell? ⟨B2, 0, none⟩ = some _ := K9.1.get 8 _ rfl; have c7 : wn.cell? ⟨B2, 1, none⟩ = some _ := K9.1.get 9 _ rfl; have c8 : wn.cell? ⟨R, 0, none⟩ = some _ := K9.1.get 10 _ rfl; have c9 : wn.cell? ⟨R, 1, none⟩ = some _ := K9.1.get 11 _ rfl) | (go_at_call 26; refine (lawHas_any _ _ _ _).mono ?_; rintro e wn ⟨rfl, g⟩; replace K9 := K9.grown g; clear g; clear c0 c1 c2 c3 c4 c5 c6 c7 c8 c9; have c0 : wn.cell? ⟨BP, 0, none⟩ = some _ := K9.1.get 0 _ rfl; have c1 : wn.cell? ⟨BP, 1, none⟩ = some _ := K9.1.get 1 _ rfl; have c2 : wn.cell? ⟨BO, 0, none⟩ = some _ := K9.1.get 2 _ rfl; have c3 : wn.cell? ⟨BO, 1, none⟩ = some _ := K9.1.get 3 _ rfl; have c4 : wn.cell? ⟨BE, 0, none⟩ = some _ := K9.1.get 4 _ rfl; have c5 : wn.cell? ⟨BE, 1, none⟩ = some _ := K9.1.get 5 _ rfl; have c6 : wn.cell? ⟨B2, 0, none⟩ = some _ := K9.1.get 8 _ rfl; have c7 : wn.cell? ⟨B2, 1, none⟩ = some _ := K9.1.get 9 _ rfl; have c8 : wn.cell? ⟨R, 0, none⟩ = some _ := K9.1.get 10 _ rfl; have c9 : wn.cell? ⟨R, 1, none⟩ = some _ := K9.1.get 11 _ rfl) | (go_at_call 20; refine (bits_any _).mono ?_; rintro e wn ⟨rfl, g⟩; replace K9 := K9.grown g; clear g; clear c0 c1 c2 c3 c4 c5 c6 c7 c8 c9))
      go_ret
      exact ⟨rfl, K9.2⟩
end Go.Proofs.Ytchjneodjaakdaa
