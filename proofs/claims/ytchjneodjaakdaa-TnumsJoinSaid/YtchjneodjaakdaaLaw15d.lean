/-
  The walk of the law TnumsDo.
-/
import Derived.Test.YtchjneodjaakdaaLaw15e
namespace Go.Proofs.Ytchjneodjaakdaa
open Go.RowKit
theorem froz_alloc (w : World) (cs : Array Value) (T : TypeId) (a : Addr) : (w.alloc (.cells cs T)).frozen? a = w.frozen? a := (Grown.alloc (Grown.refl w) cs T).2.1 a
theorem froz_new (w : World) (o : Nat) : w.frozen? ⟨w.heap.size, o, none⟩ = false := by simp [World.frozen?]
theorem froz_new1 (w : World) (o : Nat) : w.frozen? ⟨w.heap.size + 1, o, none⟩ = false := by simp [World.frozen?]
attribute [local go_sem] froz_alloc froz_new froz_new1 u64_wrap BitVec.ofInt_add BitVec.ofInt_mul ofInt_sub' ofInt_N ofInt_Nw u64_and u64_or u64_xor u64_andNot World.cell?_alloc_some

theorem Gw2.size {a b : World} (h : Gw2 a b) : a.heap.size ≤ b.heap.size := h.2.2
theorem Gw2.set2 {a b : World} {k : Nat} (h : Gw2 a b) (hk : a.heap.size ≤ k) (x y : Value) : Gw2 a ((b.setCell ⟨k, 0, none⟩ x).setCell ⟨k, 1, none⟩ y) := (Grown.setCell h (by exact hk) x).setCell (by exact hk) y
theorem gcell {a b : World} (h : Grown a b) : ∀ k o, k < a.heap.size → b.cell? ⟨k, o, none⟩ = a.cell? ⟨k, o, none⟩ := fun _ _ hk => grown_cell h hk
theorem gfroz {a b : World} (h : Grown a b) : ∀ k o, b.frozen? ⟨k, o, none⟩ = a.frozen? ⟨k, o, none⟩ := fun _ _ => h.2.1 _

theorem const_add (x y : W64) : tAdd x 0#64 y 0#64 = (x + y, 0#64) := by
  unfold tAdd
  simp [tOf_zero]
theorem const_sub (x y : W64) : tSub x 0#64 y 0#64 = (x - y, 0#64) := by
  unfold tSub
  simp [tOf_zero]
theorem const_and (x y : W64) : tAnd x 0#64 y 0#64 = (x &&& y, 0#64) := by
  unfold tAnd
  have e : (x ||| 0#64) &&& (y ||| 0#64) &&& ~~~(x &&& y) = 0#64 := by
    rw [BitVec.or_zero, BitVec.or_zero]
    exact BitVec.and_not_self _
  rw [e, tOf_zero]
theorem const_or (x y : W64) : tOr x 0#64 y 0#64 = (x ||| y, 0#64) := by
  unfold tOr
  simp [tOf_zero]
theorem const_xor (x y : W64) : tXor x 0#64 y 0#64 = (x ^^^ y, 0#64) := by
  unfold tXor
  simp [tOf_zero]
theorem const_mulL (x y : W64) : ∀ k, tMulL x 0#64 y 0#64 k = (0#64, 0#64)
  | 0 => rfl
  | k + 1 => by
    rw [tMulL, const_mulL x y k]
    have z : N (0#64 &&& 1#64 <<< k) = 0 := by rw [BitVec.zero_and]; rfl
    rw [if_pos z]
    split
    · rfl
    · rw [BitVec.zero_shiftLeft, tOf_zero, const_add]
      rfl
theorem const_mul (x y : W64) : tMul x 0#64 y 0#64 = (x * y, 0#64) := by
  unfold tMul
  rw [const_mulL, const_add]
  simp
theorem tn_addC (x y : W64) (w : World) : Calls Try.prog 14 #[.agg #[.int .u64 (N x), .int .u64 0], .agg #[.int .u64 (N y), .int .u64 0]] w fun e w' => e = .returned (.agg #[.int .u64 (N (x + y)), .int .u64 0]) ∧ Grown w w' := by
  have h := tn_add x 0#64 y 0#64 w
  rw [const_add] at h
  exact h
theorem tn_subC (x y : W64) (w : World) : Calls Try.prog 15 #[.agg #[.int .u64 (N x), .int .u64 0], .agg #[.int .u64 (N y), .int .u64 0]] w fun e w' => e = .returned (.agg #[.int .u64 (N (x - y)), .int .u64 0]) ∧ Grown w w' := by
  have h := tn_sub x 0#64 y 0#64 w
  rw [const_sub] at h
  exact h
theorem tn_andC (x y : W64) (w : World) : Calls Try.prog 17 #[.agg #[.int .u64 (N x), .int .u64 0], .agg #[.int .u64 (N y), .int .u64 0]] w fun e w' => e = .returned (.agg #[.int .u64 (N (x &&& y)), .int .u64 0]) ∧ Grown w w' := by
  have h := tn_and x 0#64 y 0#64 w
  rw [const_and] at h
  exact h
theorem tn_orC (x y : W64) (w : World) : Calls Try.prog 18 #[.agg #[.int .u64 (N x), .int .u64 0], .agg #[.int .u64 (N y), .int .u64 0]] w fun e w' => e = .returned (.agg #[.int .u64 (N (x ||| y)), .int .u64 0]) ∧ Grown w w' := by
  have h := tn_or x 0#64 y 0#64 w
  rw [const_or] at h
  exact h
theorem tn_xorC (x y : W64) (w : World) : Calls Try.prog 19 #[.agg #[.int .u64 (N x), .int .u64 0], .agg #[.int .u64 (N y), .int .u64 0]] w fun e w' => e = .returned (.agg #[.int .u64 (N (x ^^^ y)), .int .u64 0]) ∧ Grown w w' := by
  have h := tn_xor x 0#64 y 0#64 w
  rw [const_xor] at h
  exact h
theorem tn_mulC (x y : W64) (w : World) : Calls Try.prog 16 #[.agg #[.int .u64 (N x), .int .u64 0], .agg #[.int .u64 (N y), .int .u64 0]] w fun e w' => e = .returned (.agg #[.int .u64 (N (x * y)), .int .u64 0]) ∧ Grown w w' := by
  have h := tn_mul x 0#64 y 0#64 w
  rw [const_mul] at h
  exact h
theorem does_const (x y : W64) (w : World) : Calls Try.prog 12 #[.agg #[.int .u64 (N x), .int .u64 0], .agg #[.int .u64 (N y), .int .u64 0], .int .u64 (N x), .int .u64 (N y)] w fun e w' => e = .returned (.bool true) ∧ Grown w w' := by
  have o : ∀ z : W64, okT z 0#64 := fun z => by unfold okT; simp
  have hh : ∀ z : W64, hasT z 0#64 z := fun z => by unfold hasT; rw [BitVec.not_zero]; exact BitVec.and_allOnes
  exact does_any x 0#64 y 0#64 x y (o x) (o y) (hh x) (hh y) w
theorem one_g (v m y X : W64) (h : v ||| (m &&& y) = X) (w : World) : Calls Try.prog 11 #[.int .u64 (N v), .int .u64 (N m), .int .u64 (N y)] w fun e w' => e = .returned (.int .u64 (N X)) ∧ Grown w w' :=
  (one_eq v m y X h w).mono fun _ _ ⟨he, hw⟩ => ⟨he, hw ▸ Grown.refl _⟩
/-- Two T's that lie in blocks of their own, and a pair. -/
def DoAt (w0 : World) (t u : W64 × W64) (p q : W64) (B : Nat) (s7 s8 : Value) (w : World) : Prop :=
  ∃ B1 B2 : Nat, s7 = .pointer (some ⟨B1, 0, none⟩) ∧ s8 = .pointer (some ⟨B2, 0, none⟩) ∧
    Keeps w0 [(B1, 0, .int .u64 (N t.1)), (B1, 1, .int .u64 (N t.2)), (B2, 0, .int .u64 (N u.1)), (B2, 1, .int .u64 (N u.2)), (B, 0, .int .u64 (N p)), (B, 1, .int .u64 (N q))] w

set_option maxRecDepth 100000 in
set_option maxHeartbeats 4000000 in
theorem tnumsDo_walk (a b c d p q : W64) (w : World) :
    Calls Try.prog 3 #[.agg #[.int .u64 (N a), .int .u64 (N b)], .agg #[.int .u64 (N c), .int .u64 (N d)], .agg #[.int .u64 (N p), .int .u64 (N q)]] w fun e w' => e = .returned (.bool true) ∧ Grown w w' := by
  go_enter Try.func3, Try.ntmps3
  go_upto_region 1 with fail
  have hgr : Gw2 w (((w.alloc (.cells #[.int .u64 (N a), .int .u64 (N b)] 23)).alloc (.cells #[.int .u64 (N c), .int .u64 (N d)] 23)).alloc (.cells #[.int .u64 (N p), .int .u64 (N q)] 23)) := by show Grown _ _; go_grown
  have p0 := gw2_cell (W := ((w.alloc (.cells #[.int .u64 (N a), .int .u64 (N b)] 23)).alloc (.cells #[.int .u64 (N c), .int .u64 (N d)] 23)).alloc (.cells #[.int .u64 (N p), .int .u64 (N q)] 23)) (B := w.heap.size) (o := 0) (v := .int .u64 (N a)) (by simp; omega) (by simp [go_sem])
  have p1 := gw2_cell (W := ((w.alloc (.cells #[.int .u64 (N a), .int .u64 (N b)] 23)).alloc (.cells #[.int .u64 (N c), .int .u64 (N d)] 23)).alloc (.cells #[.int .u64 (N p), .int .u64 (N q)] 23)) (B := w.heap.size) (o := 1) (v := .int .u64 (N b)) (by simp; omega) (by simp [go_sem])
  have p2 := gw2_cell (W := ((w.alloc (.cells #[.int .u64 (N a), .int .u64 (N b)] 23)).alloc (.cells #[.int .u64 (N c), .int .u64 (N d)] 23)).alloc (.cells #[.int .u64 (N p), .int .u64 (N q)] 23)) (B := w.heap.size + 1) (o := 0) (v := .int .u64 (N c)) (by simp; try omega) (by simp [go_sem])
  have p3 := gw2_cell (W := ((w.alloc (.cells #[.int .u64 (N a), .int .u64 (N b)] 23)).alloc (.cells #[.int .u64 (N c), .int .u64 (N d)] 23)).alloc (.cells #[.int .u64 (N p), .int .u64 (N q)] 23)) (B := w.heap.size + 1) (o := 1) (v := .int .u64 (N d)) (by simp; try omega) (by simp [go_sem])
  have p4 := gw2_cell (W := ((w.alloc (.cells #[.int .u64 (N a), .int .u64 (N b)] 23)).alloc (.cells #[.int .u64 (N c), .int .u64 (N d)] 23)).alloc (.cells #[.int .u64 (N p), .int .u64 (N q)] 23)) (B := w.heap.size + 1 + 1) (o := 0) (v := .int .u64 (N p)) (by simp; try omega) (by simp [go_sem])
  have p5 := gw2_cell (W := ((w.alloc (.cells #[.int .u64 (N a), .int .u64 (N b)] 23)).alloc (.cells #[.int .u64 (N c), .int .u64 (N d)] 23)).alloc (.cells #[.int .u64 (N p), .int .u64 (N q)] 23)) (B := w.heap.size + 1 + 1) (o := 1) (v := .int .u64 (N q)) (by simp; try omega) (by simp [go_sem])
  have hs : w.heap.size + 1 + 1 < (((w.alloc (.cells #[.int .u64 (N a), .int .u64 (N b)] 23)).alloc (.cells #[.int .u64 (N c), .int .u64 (N d)] 23)).alloc (.cells #[.int .u64 (N p), .int .u64 (N q)] 23)).heap.size := by simp; try omega
  generalize ((w.alloc (.cells #[.int .u64 (N a), .int .u64 (N b)] 23)).alloc (.cells #[.int .u64 (N c), .int .u64 (N d)] 23)).alloc (.cells #[.int .u64 (N p), .int .u64 (N q)] 23) = W1 at *
  generalize w.heap.size = B at *
  have l2 : ∀ n : Nat, n < n + 1 + 1 := fun n => by omega
  have l3 : ∀ n : Nat, n < n + 1 + 1 + 1 := fun n => by omega
  have hW0 : Gw2 W1 W1 := Grown.refl _
  have hW : Gw2 W1 W1.drew := Gw2.drew (Grown.refl _)
  go_cut [7, 8] (fun s7 s8 wx => DoAt w (tOf a b) (tOf c d) p q (B + 1 + 1) s7 s8 wx)
  case first =>
    go_region_held3 (fun w' => Gw2 W1 w') ((repeat (first | with_reducible assumption | with_reducible refine Gw2.drew ?_ | with_reducible refine Gw2.alloc ?_ _ _ | with_reducible refine Gw2.set2 ?_ (by first | with_reducible assumption | exact Nat.le_refl _ | exact Nat.le_succ _ | exact Nat.le_succ_of_le (by with_reducible assumption)) _ _))) (first | (go_at_call_of 10 (Value.agg #[.int .u64 (N a), .int .u64 (N b)]); refine (made_any _ _ _).mono ?_; rintro e w' ⟨rfl, hg⟩; have hz : W1.heap.size ≤ w'.heap.size := Nat.le_trans (Gw2.size (by with_reducible assumption)) hg.2.2; have hc := gcell hg; have hf := gfroz hg; have hz3 := hg.2.2; (try simp only [World.size_alloc, World.size_drew] at hz3); (try (have hl1 := Nat.lt_of_succ_le hz3; have hn1 := Nat.ne_of_lt hl1; have hn2 := Nat.ne_of_gt hl1)); (try (have hl2 := Nat.lt_of_succ_lt (Nat.lt_of_succ_le hz3); have hn3 := Nat.ne_of_lt hl2; have hn4 := Nat.ne_of_gt hl2)); have hG : Gw2 W1 w' := Gw2.trans (by with_reducible assumption) hg; clear hg) | (go_at_call 10; refine (made_any _ _ _).mono ?_; rintro e w' ⟨rfl, hg⟩; have hz : W1.heap.size ≤ w'.heap.size := Nat.le_trans (Gw2.size (by with_reducible assumption)) hg.2.2; have hc := gcell hg; have hf := gfroz hg; have hz3 := hg.2.2; (try simp only [World.size_alloc] at hz3); (try (have hn1 := Nat.ne_of_lt (Nat.lt_of_succ_le hz3); have hn2 := Nat.ne_of_gt (Nat.lt_of_succ_le hz3))); (try (have hn3 := Nat.ne_of_lt (Nat.lt_of_succ_lt (Nat.lt_of_succ_le hz3)); have hn4 := Nat.ne_of_gt (Nat.lt_of_succ_lt (Nat.lt_of_succ_le hz3)))); (try (have hn5 := Nat.ne_of_lt (Nat.lt_of_lt_of_le (by with_reducible assumption : W1.heap.size < _) hg.2.2); have hn6 := Nat.ne_of_gt (Nat.lt_of_lt_of_le (by with_reducible assumption : W1.heap.size < _) hg.2.2))); have hG : Gw2 W1 w' := Gw2.trans (by with_reducible assumption) hg; clear hg))
    all_goals
      go_wp2_with fail
      go_meet
      case rel => exact ⟨_, _, rfl, rfl, ⟨⟨⟨by first | (simp [go_sem, *]; done) | ((repeat (first | (with_reducible refine World.cell?_setCell_same _ _ _ (u := .int .u64 0) ?_) | (rw [World.cell?_setCell_other _ _ _ _ (by simp [*])]))); simp [go_sem, *]), by first | (simp; done) | (simp; omega)⟩, ⟨by first | (simp [go_sem, *]; done) | ((repeat (first | (with_reducible refine World.cell?_setCell_same _ _ _ (u := .int .u64 0) ?_) | (rw [World.cell?_setCell_other _ _ _ _ (by simp [*])]))); simp [go_sem, *]), by first | (simp; done) | (simp; omega)⟩, ⟨by first | (simp [go_sem, *]; done) | ((repeat (first | (with_reducible refine World.cell?_setCell_same _ _ _ (u := .int .u64 0) ?_) | (rw [World.cell?_setCell_other _ _ _ _ (by simp [*])]))); simp [go_sem, *]), by first | (simp; done) | (simp; omega)⟩, ⟨by first | (simp [go_sem, *]; done) | ((repeat (first | (with_reducible refine World.cell?_setCell_same _ _ _ (u := .int .u64 0) ?_) | (rw [World.cell?_setCell_other _ _ _ _ (by simp [*])]))); simp [go_sem, *]), by first | (simp; done) | (simp; omega)⟩, ⟨p4 _ (by assumption), by first | (simp; done) | (simp; omega)⟩, ⟨p5 _ (by assumption), by first | (simp; done) | (simp; omega)⟩, trivial⟩, Gw2.trans hgr (by assumption)⟩⟩
  case rest =>
    clear p0 p1 p2 p3 p4 p5 hs l2 l3 hW0 hW hgr
    obtain ⟨B1, B2, rfl, rfl, K⟩ := hcut
    obtain ⟨X, hX⟩ : ∃ X, (tOf a b).1 ||| ((tOf a b).2 &&& p) = X := ⟨_, rfl⟩
    obtain ⟨Y, hY⟩ : ∃ Y, (tOf c d).1 ||| ((tOf c d).2 &&& q) = Y := ⟨_, rfl⟩
    have hhX : hasT (tOf a b).1 (tOf a b).2 X := hX ▸ has_one a b p
    have hhY : hasT (tOf c d).1 (tOf c d).2 Y := hY ▸ has_one c d q
    have HX := Lib.hid hX
    have HY := Lib.hid hY
    clear hX hY
    go_wp2_with fail
    have q0 : ∀ z : Held (Keeps w _), z.w.cell? ⟨B1, 0, none⟩ = some (.int .u64 (N (tOf a b).1)) := fun z => z.h.1.get (l := [(B1, 0, .int .u64 (N (tOf a b).1)), (B1, 1, .int .u64 (N (tOf a b).2)), (B2, 0, .int .u64 (N (tOf c d).1)), (B2, 1, .int .u64 (N (tOf c d).2)), (B + 1 + 1, 0, .int .u64 (N p)), (B + 1 + 1, 1, .int .u64 (N q))]) 0 _ rfl
    have q1 : ∀ z : Held (Keeps w _), z.w.cell? ⟨B1, 1, none⟩ = some (.int .u64 (N (tOf a b).2)) := fun z => z.h.1.get (l := [(B1, 0, .int .u64 (N (tOf a b).1)), (B1, 1, .int .u64 (N (tOf a b).2)), (B2, 0, .int .u64 (N (tOf c d).1)), (B2, 1, .int .u64 (N (tOf c d).2)), (B + 1 + 1, 0, .int .u64 (N p)), (B + 1 + 1, 1, .int .u64 (N q))]) 1 _ rfl
    have q2 : ∀ z : Held (Keeps w _), z.w.cell? ⟨B2, 0, none⟩ = some (.int .u64 (N (tOf c d).1)) := fun z => z.h.1.get (l := [(B1, 0, .int .u64 (N (tOf a b).1)), (B1, 1, .int .u64 (N (tOf a b).2)), (B2, 0, .int .u64 (N (tOf c d).1)), (B2, 1, .int .u64 (N (tOf c d).2)), (B + 1 + 1, 0, .int .u64 (N p)), (B + 1 + 1, 1, .int .u64 (N q))]) 2 _ rfl
    have q3 : ∀ z : Held (Keeps w _), z.w.cell? ⟨B2, 1, none⟩ = some (.int .u64 (N (tOf c d).2)) := fun z => z.h.1.get (l := [(B1, 0, .int .u64 (N (tOf a b).1)), (B1, 1, .int .u64 (N (tOf a b).2)), (B2, 0, .int .u64 (N (tOf c d).1)), (B2, 1, .int .u64 (N (tOf c d).2)), (B + 1 + 1, 0, .int .u64 (N p)), (B + 1 + 1, 1, .int .u64 (N q))]) 3 _ rfl
    have q4 : ∀ z : Held (Keeps w _), z.w.cell? ⟨B + 1 + 1, 0, none⟩ = some (.int .u64 (N p)) := fun z => z.h.1.get (l := [(B1, 0, .int .u64 (N (tOf a b).1)), (B1, 1, .int .u64 (N (tOf a b).2)), (B2, 0, .int .u64 (N (tOf c d).1)), (B2, 1, .int .u64 (N (tOf c d).2)), (B + 1 + 1, 0, .int .u64 (N p)), (B + 1 + 1, 1, .int .u64 (N q))]) 4 _ rfl
    have q5 : ∀ z : Held (Keeps w _), z.w.cell? ⟨B + 1 + 1, 1, none⟩ = some (.int .u64 (N q)) := fun z => z.h.1.get (l := [(B1, 0, .int .u64 (N (tOf a b).1)), (B1, 1, .int .u64 (N (tOf a b).2)), (B2, 0, .int .u64 (N (tOf c d).1)), (B2, 1, .int .u64 (N (tOf c d).2)), (B + 1 + 1, 0, .int .u64 (N p)), (B + 1 + 1, 1, .int .u64 (N q))]) 5 _ rfl
    refine wp_region_lex (Keeps w _) (by kernel_rfl) (by kernel_rfl) K.drew (fun hNon => ?_)
    repeat (go_big_quiet_step ((go_at_call 11; first | exact held_callK _ (one_g _ _ _ _ HX.out _) | exact held_callK _ (one_g _ _ _ _ HY.out _))))
    refine wpQuiet_nil ?_
    intro w5 K5
    clear hNon q0 q1 q2 q3 q4 q5 K
    obtain ⟨⟨⟨c0, _⟩, ⟨c1, _⟩, ⟨c2, _⟩, ⟨c3, _⟩, _⟩, hgr⟩ := K5
    go_wp2_with (first | (go_at_call_of 12 (Value.agg #[.int .u64 (N (tOf a b).1), .int .u64 (N (tOf a b).2)]); refine (does_any _ _ _ _ _ _ (ok_of a b) (ok_of c d) hhX hhY _).mono ?_; rintro e w' ⟨rfl, hg⟩; clear c0 c1 c2 c3) | (go_at_call 13; refine (tn_constN _ _).mono ?_; rintro e w' ⟨rfl, hg⟩) | (go_at_call 12; refine (does_const _ _ _).mono ?_; rintro e w' ⟨rfl, hg⟩) | (go_at_call 14; refine (tn_addC _ _ _).mono ?_; rintro e w' ⟨rfl, hg⟩) | (go_at_call 15; refine (tn_subC _ _ _).mono ?_; rintro e w' ⟨rfl, hg⟩) | (go_at_call 17; refine (tn_andC _ _ _).mono ?_; rintro e w' ⟨rfl, hg⟩) | (go_at_call 18; refine (tn_orC _ _ _).mono ?_; rintro e w' ⟨rfl, hg⟩) | (go_at_call 19; refine (tn_xorC _ _ _).mono ?_; rintro e w' ⟨rfl, hg⟩) | (go_at_call 16; refine (tn_mulC _ _ _).mono ?_; rintro e w' ⟨rfl, hg⟩) | (go_at_call 20; refine (bits_any _).mono ?_; rintro e w' ⟨rfl, hg⟩))
    go_ret
    exact ⟨rfl, by repeat (first | with_reducible assumption | refine Grown.trans' ?_ (by with_reducible assumption))⟩
end Go.Proofs.Ytchjneodjaakdaa
