/-
  The walk of the law TnumsShift.
-/
import Derived.Test.YtchjneodjaakdaaLaw15c
import Derived.Lib.Hide
namespace Go.Proofs.Ytchjneodjaakdaa
open Go.RowKit
attribute [local go_sem] i64_wrap_N u64_wrap BitVec.ofInt_add BitVec.ofInt_mul ofInt_sub' ofInt_N ofInt_Nw ofInt_Z ofInt_pow ofInt_shl mul_shl1 wrap64_N N_shr Z_shr u64_and u64_or u64_xor u64_andNot

theorem tOf_zero (v : W64) : tOf v 0#64 = (v, 0#64) := by
  unfold tOf
  rw [BitVec.not_zero, BitVec.and_allOnes]
theorem one_eq (v m y X : W64) (h : v ||| (m &&& y) = X) (w : World) : Calls Try.prog 11 #[.int .u64 (N v), .int .u64 (N m), .int .u64 (N y)] w fun e w' => e = .returned (.int .u64 (N X)) ∧ w' = w := h ▸ one_any v m y w
theorem tn_constN (x : W64) (w : World) : Calls Try.prog 13 #[.int .u64 (N x)] w fun e w' => e = .returned (.agg #[.int .u64 (N x), .int .u64 0]) ∧ Grown w w' := tn_const _ w
theorem tn_lshC (v : W64) (x : Int) (m : Nat) (hx : bits .and .i64 x 63 = m) (hm : m < 64) (w : World) : Calls Try.prog 21 #[.agg #[.int .u64 (N v), .int .u64 0], .int .i64 x] w fun e w' => e = .returned (.agg #[.int .u64 (N (v <<< m)), .int .u64 0]) ∧ Grown w w' := by
  have h := tn_lsh v 0#64 x m hx hm w
  have e : tLsh v 0#64 m = (v <<< m, 0#64) := by unfold tLsh; rw [BitVec.zero_shiftLeft, tOf_zero]
  rw [e] at h
  exact h
theorem tn_rshC (v : W64) (x : Int) (m : Nat) (hx : bits .and .i64 x 63 = m) (hm : m < 64) (w : World) : Calls Try.prog 22 #[.agg #[.int .u64 (N v), .int .u64 0], .int .i64 x] w fun e w' => e = .returned (.agg #[.int .u64 (N (v >>> m)), .int .u64 0]) ∧ Grown w w' := by
  have h := tn_rsh v 0#64 x m hx hm w
  have e : tRsh v 0#64 m = (v >>> m, 0#64) := by unfold tRsh; rw [BitVec.zero_ushiftRight, tOf_zero]
  rw [e] at h
  exact h
theorem tn_arshC (v : W64) (x : Int) (m : Nat) (hx : bits .and .i64 x 63 = m) (hm : m < 64) (w : World) : Calls Try.prog 23 #[.agg #[.int .u64 (N v), .int .u64 0], .int .i64 x] w fun e w' => e = .returned (.agg #[.int .u64 (N (v.sshiftRight m)), .int .u64 0]) ∧ Grown w w' := by
  have h := tn_arsh v 0#64 x m hx hm w
  have e : tArsh v 0#64 m = (v.sshiftRight m, 0#64) := by
    have z : (0#64).sshiftRight m = 0#64 := by rw [BitVec.zero_sshiftRight]
    unfold tArsh; rw [z, tOf_zero]
  rw [e] at h
  exact h
theorem tn_lowC (v : W64) (b : Int) (r : W64) (e : tLow v 0#64 b = (r, 0#64)) (h1 : -9223372036854775808 ≤ b) (h2 : b ≤ 9223372036854775807) (w : World) : Calls Try.prog 24 #[.agg #[.int .u64 (N v), .int .u64 0], .int .i64 b] w fun e w' => e = .returned (.agg #[.int .u64 (N r), .int .u64 0]) ∧ Grown w w' := by
  have h := tn_low v 0#64 b h1 h2 w
  rw [e] at h
  exact h
theorem ok_low (v m : W64) (b : Int) (h : okT v m) : okT (tLow v m b).1 (tLow v m b).2 := by
  unfold tLow
  split
  · unfold okT; simp
  · split
    · exact h
    · exact ok_of _ _
/-- The lowest bits of a number. -/
def lowN (x : W64) (b : Int) : W64 := if b < 1 then 0#64 else if 64 ≤ b then x else x &&& (1#64 <<< b.toNat - 1#64)
theorem has_lowN {v m x : W64} (b : Int) (h : hasT v m x) : hasT (tLow v m b).1 (tLow v m b).2 (lowN x b) := by
  unfold tLow lowN
  split
  · unfold hasT; simp
  · split
    · exact h
    · exact has_low h _
theorem low_const (x : W64) (b : Int) : tLow x 0#64 b = (lowN x b, 0#64) := by
  unfold tLow lowN
  split
  · rfl
  · split
    · rfl
    · rw [BitVec.zero_and, tOf_zero]
theorem lowN_small (x : W64) (n : Int) (h : n < 64) : lowN x n = x &&& (1#64 <<< (max n 0).toNat - 1#64) := by
  unfold lowN
  by_cases h1 : n < 1
  · rw [if_pos h1, show max n 0 = 0 by omega]
    simp
  · rw [if_neg h1, if_neg (by omega), show max n 0 = n by omega]
/-- The answers, and what should be in them. -/
def shiftL (v k : W64) (n : Int) (m : Nat) (x r : W64) (L M : Nat) : List (Nat × Nat × Value) := [(L, 0, .int .u64 (N (tLsh v k m).1)), (L, 1, .int .u64 (N (tLsh v k m).2)), (L, 2, .int .u64 (N (tRsh v k m).1)), (L, 3, .int .u64 (N (tRsh v k m).2)), (L, 4, .int .u64 (N (tArsh v k m).1)), (L, 5, .int .u64 (N (tArsh v k m).2)), (L, 6, .int .u64 (N (tLow v k n).1)), (L, 7, .int .u64 (N (tLow v k n).2)), (M, 0, .int .u64 (N (x <<< m))), (M, 1, .int .u64 (N (x >>> m))), (M, 2, .int .u64 (N (x.sshiftRight m))), (M, 3, .int .u64 (N r))]

set_option maxRecDepth 100000 in
set_option maxHeartbeats 8000000 in
theorem tnumsShift_walk (a b y : W64) (n : Int) (hn1 : -9223372036854775808 ≤ n) (hn2 : n ≤ 9223372036854775807) (w : World) :
    Calls Try.prog 4 #[.agg #[.int .u64 (N a), .int .u64 (N b)], .int .u64 (N y), .int .i64 n] w fun e w' => e = .returned (.bool true) ∧ Grown w w' := by
  obtain ⟨m, hx, hm⟩ : ∃ m : Nat, bits .and .i64 n 63 = m ∧ m < 64 := let ⟨m, p, q, _⟩ := and63 n; ⟨m, p, q⟩
  obtain ⟨X, hX⟩ : ∃ X, (tOf a b).1 ||| ((tOf a b).2 &&& y) = X := ⟨_, rfl⟩
  have hh : hasT (tOf a b).1 (tOf a b).2 X := hX ▸ has_one a b y
  have hO : okT (tOf a b).1 (tOf a b).2 := ok_of a b
  have HX := Lib.hid hX
  clear hX
  have v0 := valid_of (ok_of ((tOf a b).1 <<< m) ((tOf a b).2 <<< m))
  have v1 := valid_of (ok_of ((tOf a b).1 >>> m) ((tOf a b).2 >>> m))
  have v2 := valid_of (ok_of ((tOf a b).1.sshiftRight m) ((tOf a b).2.sshiftRight m))
  have v3 := valid_of (ok_low _ _ n hO)
  have h0 := (hasB_iff _ _ _).2 (has_lsh hh m)
  have h1 := (hasB_iff _ _ _).2 (has_rsh hh m)
  have h2 := (hasB_iff _ _ _).2 (has_arsh hh m)
  have h3 := (hasB_iff _ _ _).2 (has_lowN n hh)
  have HL := Lib.hid (low_const X n)
  clear hh hO
  change (N ((tLsh (tOf a b).1 (tOf a b).2 m).1 &&& (tLsh (tOf a b).1 (tOf a b).2 m).2) == 0) = true at v0
  change (N ((tRsh (tOf a b).1 (tOf a b).2 m).1 &&& (tRsh (tOf a b).1 (tOf a b).2 m).2) == 0) = true at v1
  change (N ((tArsh (tOf a b).1 (tOf a b).2 m).1 &&& (tArsh (tOf a b).1 (tOf a b).2 m).2) == 0) = true at v2
  have HN : Hid (lowN X n = if n < 1 then 0#64 else if 64 ≤ n then X else X &&& (1#64 <<< n.toNat - 1#64)) := Lib.hid rfl
  rcases (by omega : n < 64 ∨ 64 ≤ n) with hc | hc
  ·
    have e := lowN_small X n hc
    rw [e] at h3
    have HC : Hid (tLow X 0#64 n = (X &&& (1#64 <<< (max n 0).toNat - 1#64), 0#64)) := Lib.hid (by have := HL.out; rw [e] at this; exact this)
    clear e HN HL
    go_enter Try.func4, Try.ntmps4
    go_wp2_with (first | (go_at_call 10; refine (made_any _ _ _).mono ?_; rintro e w1 ⟨rfl, g1⟩) | (go_at_call 11; refine (one_eq _ _ _ _ HX.out _).mono ?_; rintro e w2 ⟨rfl, rfl⟩))
    have gA : Gw2 w (w1.alloc (.cells #[.int .u64 (N (tOf a b).1), .int .u64 (N (tOf a b).2)] 25)) := Grown.alloc (Grown.trans' (by go_grown) g1) _ _
    have p0 := gw2_cell (W := w1.alloc (.cells #[.int .u64 (N (tOf a b).1), .int .u64 (N (tOf a b).2)] 25)) (B := w1.heap.size) (o := 0) (v := .int .u64 (N (tOf a b).1)) (by simp) (by simp [go_sem])
    have p1 := gw2_cell (W := w1.alloc (.cells #[.int .u64 (N (tOf a b).1), .int .u64 (N (tOf a b).2)] 25)) (B := w1.heap.size) (o := 1) (v := .int .u64 (N (tOf a b).2)) (by simp) (by simp [go_sem])
    clear g1
    generalize w1.alloc (.cells #[.int .u64 (N (tOf a b).1), .int .u64 (N (tOf a b).2)] 25) = W1 at *
    generalize w1.heap.size = B at *
    have hW : Gw2 W1 W1.drew := Gw2.drew (Grown.refl _)
    go_region_held3 (fun w' => Gw2 W1 w') (first | with_reducible assumption | exact Gw2.alloc (by with_reducible assumption) _ _) (first
      | (go_at_call 21; refine (tn_lsh _ _ _ m hx hm _).mono ?_; rintro e w' ⟨rfl, hg⟩; have hG : Gw2 W1 w' := Gw2.trans (by with_reducible assumption) hg; clear hg)
      | (go_at_call 22; refine (tn_rsh _ _ _ m hx hm _).mono ?_; rintro e w' ⟨rfl, hg⟩; have hG : Gw2 W1 w' := Gw2.trans (by with_reducible assumption) hg; clear hg)
      | (go_at_call 23; refine (tn_arsh _ _ _ m hx hm _).mono ?_; rintro e w' ⟨rfl, hg⟩; have hG : Gw2 W1 w' := Gw2.trans (by with_reducible assumption) hg; clear hg)
      | (go_at_call 24; refine (tn_low _ _ _ hn1 hn2 _).mono ?_; rintro e w' ⟨rfl, hg⟩; have hG : Gw2 W1 w' := Gw2.trans (by with_reducible assumption) hg; clear hg))
    have gB : Gw2 w w' := Gw2.trans gA hG
    clear p0 p1 hW gA hG
    go_wp2_with fail
    have gC : Gw2 w (w'.alloc (.cells #[.int .u64 (N (tLsh (tOf a b).1 (tOf a b).2 m).1), .int .u64 (N (tLsh (tOf a b).1 (tOf a b).2 m).2), .int .u64 (N (tRsh (tOf a b).1 (tOf a b).2 m).1), .int .u64 (N (tRsh (tOf a b).1 (tOf a b).2 m).2), .int .u64 (N (tArsh (tOf a b).1 (tOf a b).2 m).1), .int .u64 (N (tArsh (tOf a b).1 (tOf a b).2 m).2), .int .u64 (N (tLow (tOf a b).1 (tOf a b).2 n).1), .int .u64 (N (tLow (tOf a b).1 (tOf a b).2 n).2)] 25)) := Gw2.alloc gB _ _
    have hW2 : Gw2 (w'.alloc (.cells #[.int .u64 (N (tLsh (tOf a b).1 (tOf a b).2 m).1), .int .u64 (N (tLsh (tOf a b).1 (tOf a b).2 m).2), .int .u64 (N (tRsh (tOf a b).1 (tOf a b).2 m).1), .int .u64 (N (tRsh (tOf a b).1 (tOf a b).2 m).2), .int .u64 (N (tArsh (tOf a b).1 (tOf a b).2 m).1), .int .u64 (N (tArsh (tOf a b).1 (tOf a b).2 m).2), .int .u64 (N (tLow (tOf a b).1 (tOf a b).2 n).1), .int .u64 (N (tLow (tOf a b).1 (tOf a b).2 n).2)] 25)) (w'.alloc (.cells #[.int .u64 (N (tLsh (tOf a b).1 (tOf a b).2 m).1), .int .u64 (N (tLsh (tOf a b).1 (tOf a b).2 m).2), .int .u64 (N (tRsh (tOf a b).1 (tOf a b).2 m).1), .int .u64 (N (tRsh (tOf a b).1 (tOf a b).2 m).2), .int .u64 (N (tArsh (tOf a b).1 (tOf a b).2 m).1), .int .u64 (N (tArsh (tOf a b).1 (tOf a b).2 m).2), .int .u64 (N (tLow (tOf a b).1 (tOf a b).2 n).1), .int .u64 (N (tLow (tOf a b).1 (tOf a b).2 n).2)] 25)).drew := Gw2.drew (Grown.refl _)
    go_region_held3 (fun z => Gw2 (w'.alloc (.cells #[.int .u64 (N (tLsh (tOf a b).1 (tOf a b).2 m).1), .int .u64 (N (tLsh (tOf a b).1 (tOf a b).2 m).2), .int .u64 (N (tRsh (tOf a b).1 (tOf a b).2 m).1), .int .u64 (N (tRsh (tOf a b).1 (tOf a b).2 m).2), .int .u64 (N (tArsh (tOf a b).1 (tOf a b).2 m).1), .int .u64 (N (tArsh (tOf a b).1 (tOf a b).2 m).2), .int .u64 (N (tLow (tOf a b).1 (tOf a b).2 n).1), .int .u64 (N (tLow (tOf a b).1 (tOf a b).2 n).2)] 25)) z) (first | with_reducible assumption | exact Gw2.alloc (by with_reducible assumption) _ _) (fail)
    clear hW2
    go_wp2_with fail
    go_loopw [13] (fun i wr => ∃ k : Nat, k ≤ 4 ∧ i = .int .i64 (k : Int) ∧ Keeps w (shiftL (tOf a b).1 (tOf a b).2 n m X (X &&& (1#64 <<< (max n 0).toNat - 1#64)) w'.heap.size (w'.heap.size + 1)) wr) (fun i _ => (4 - intOf i).toNat)
    case atStart =>
      refine ⟨0, by omega, rfl, ⟨?_, by show Gw2 _ _; first | exact Gw2.alloc (Gw2.drew gC) _ _ | exact Gw2.drew (Gw2.alloc gC _ _)⟩⟩
      unfold shiftL
      exact ⟨⟨by simp [go_sem], by first | (simp; done) | (simp; omega)⟩, ⟨by simp [go_sem], by first | (simp; done) | (simp; omega)⟩, ⟨by simp [go_sem], by first | (simp; done) | (simp; omega)⟩, ⟨by simp [go_sem], by first | (simp; done) | (simp; omega)⟩, ⟨by simp [go_sem], by first | (simp; done) | (simp; omega)⟩, ⟨by simp [go_sem], by first | (simp; done) | (simp; omega)⟩, ⟨by simp [go_sem], by first | (simp; done) | (simp; omega)⟩, ⟨by simp [go_sem], by first | (simp; done) | (simp; omega)⟩, ⟨by simp [go_sem], by first | (simp; done) | (simp; omega)⟩, ⟨by simp [go_sem], by first | (simp; done) | (simp; omega)⟩, ⟨by simp [go_sem], by first | (simp; done) | (simp; omega)⟩, ⟨by simp [go_sem], by first | (simp; done) | (simp; omega)⟩, trivial⟩
    case round =>
      obtain ⟨k, hk, rfl, K⟩ := hrel
      clear gB gC
      rcases (by omega : k = 0 ∨ k = 1 ∨ k = 2 ∨ k = 3 ∨ k = 4) with rfl | rfl | rfl | rfl | rfl
      · have q0 : ∀ z : Held (Keeps w (shiftL (tOf a b).1 (tOf a b).2 n m X (X &&& (1#64 <<< (max n 0).toNat - 1#64)) w'.heap.size (w'.heap.size + 1))), z.w.cell? ⟨w'.heap.size, 0, none⟩ = some _ := fun z => z.h.1.get 0 _ rfl
        have q1 : ∀ z : Held (Keeps w (shiftL (tOf a b).1 (tOf a b).2 n m X (X &&& (1#64 <<< (max n 0).toNat - 1#64)) w'.heap.size (w'.heap.size + 1))), z.w.cell? ⟨w'.heap.size, 1, none⟩ = some _ := fun z => z.h.1.get 1 _ rfl
        have q2 : ∀ z : Held (Keeps w (shiftL (tOf a b).1 (tOf a b).2 n m X (X &&& (1#64 <<< (max n 0).toNat - 1#64)) w'.heap.size (w'.heap.size + 1))), z.w.cell? ⟨w'.heap.size + 1, 0, none⟩ = some _ := fun z => z.h.1.get 8 _ rfl
        go_wp2_with fail
        refine wp_region_lex (Keeps w (shiftL (tOf a b).1 (tOf a b).2 n m X (X &&& (1#64 <<< (max n 0).toNat - 1#64)) w'.heap.size (w'.heap.size + 1))) (by kernel_rfl) (by kernel_rfl) K.drew (fun hNon => ?_)
        repeat (go_big_quiet_step ((first | (go_at_call 25; exact held_callK _ (tn_valid _ _ _)) | (go_at_call 26; exact held_callK _ (lawHas_any _ _ _ _)))))
        refine wpQuiet_nil ?_
        intro w5 hG
        clear hNon q0 q1 q2 K
        go_wp2_with fail
        go_roundw
        case rel => exact ⟨1, by omega, rfl, hG⟩
        case measure => simp [intOf]
      · have q0 : ∀ z : Held (Keeps w (shiftL (tOf a b).1 (tOf a b).2 n m X (X &&& (1#64 <<< (max n 0).toNat - 1#64)) w'.heap.size (w'.heap.size + 1))), z.w.cell? ⟨w'.heap.size, 2, none⟩ = some _ := fun z => z.h.1.get 2 _ rfl
        have q1 : ∀ z : Held (Keeps w (shiftL (tOf a b).1 (tOf a b).2 n m X (X &&& (1#64 <<< (max n 0).toNat - 1#64)) w'.heap.size (w'.heap.size + 1))), z.w.cell? ⟨w'.heap.size, 3, none⟩ = some _ := fun z => z.h.1.get 3 _ rfl
        have q2 : ∀ z : Held (Keeps w (shiftL (tOf a b).1 (tOf a b).2 n m X (X &&& (1#64 <<< (max n 0).toNat - 1#64)) w'.heap.size (w'.heap.size + 1))), z.w.cell? ⟨w'.heap.size + 1, 1, none⟩ = some _ := fun z => z.h.1.get 9 _ rfl
        go_wp2_with fail
        refine wp_region_lex (Keeps w (shiftL (tOf a b).1 (tOf a b).2 n m X (X &&& (1#64 <<< (max n 0).toNat - 1#64)) w'.heap.size (w'.heap.size + 1))) (by kernel_rfl) (by kernel_rfl) K.drew (fun hNon => ?_)
        repeat (go_big_quiet_step ((first | (go_at_call 25; exact held_callK _ (tn_valid _ _ _)) | (go_at_call 26; exact held_callK _ (lawHas_any _ _ _ _)))))
        refine wpQuiet_nil ?_
        intro w5 hG
        clear hNon q0 q1 q2 K
        go_wp2_with fail
        go_roundw
        case rel => exact ⟨2, by omega, rfl, hG⟩
        case measure => simp [intOf]
      · have q0 : ∀ z : Held (Keeps w (shiftL (tOf a b).1 (tOf a b).2 n m X (X &&& (1#64 <<< (max n 0).toNat - 1#64)) w'.heap.size (w'.heap.size + 1))), z.w.cell? ⟨w'.heap.size, 4, none⟩ = some _ := fun z => z.h.1.get 4 _ rfl
        have q1 : ∀ z : Held (Keeps w (shiftL (tOf a b).1 (tOf a b).2 n m X (X &&& (1#64 <<< (max n 0).toNat - 1#64)) w'.heap.size (w'.heap.size + 1))), z.w.cell? ⟨w'.heap.size, 5, none⟩ = some _ := fun z => z.h.1.get 5 _ rfl
        have q2 : ∀ z : Held (Keeps w (shiftL (tOf a b).1 (tOf a b).2 n m X (X &&& (1#64 <<< (max n 0).toNat - 1#64)) w'.heap.size (w'.heap.size + 1))), z.w.cell? ⟨w'.heap.size + 1, 2, none⟩ = some _ := fun z => z.h.1.get 10 _ rfl
        go_wp2_with fail
        refine wp_region_lex (Keeps w (shiftL (tOf a b).1 (tOf a b).2 n m X (X &&& (1#64 <<< (max n 0).toNat - 1#64)) w'.heap.size (w'.heap.size + 1))) (by kernel_rfl) (by kernel_rfl) K.drew (fun hNon => ?_)
        repeat (go_big_quiet_step ((first | (go_at_call 25; exact held_callK _ (tn_valid _ _ _)) | (go_at_call 26; exact held_callK _ (lawHas_any _ _ _ _)))))
        refine wpQuiet_nil ?_
        intro w5 hG
        clear hNon q0 q1 q2 K
        go_wp2_with fail
        go_roundw
        case rel => exact ⟨3, by omega, rfl, hG⟩
        case measure => simp [intOf]
      · have q0 : ∀ z : Held (Keeps w (shiftL (tOf a b).1 (tOf a b).2 n m X (X &&& (1#64 <<< (max n 0).toNat - 1#64)) w'.heap.size (w'.heap.size + 1))), z.w.cell? ⟨w'.heap.size, 6, none⟩ = some _ := fun z => z.h.1.get 6 _ rfl
        have q1 : ∀ z : Held (Keeps w (shiftL (tOf a b).1 (tOf a b).2 n m X (X &&& (1#64 <<< (max n 0).toNat - 1#64)) w'.heap.size (w'.heap.size + 1))), z.w.cell? ⟨w'.heap.size, 7, none⟩ = some _ := fun z => z.h.1.get 7 _ rfl
        have q2 : ∀ z : Held (Keeps w (shiftL (tOf a b).1 (tOf a b).2 n m X (X &&& (1#64 <<< (max n 0).toNat - 1#64)) w'.heap.size (w'.heap.size + 1))), z.w.cell? ⟨w'.heap.size + 1, 3, none⟩ = some _ := fun z => z.h.1.get 11 _ rfl
        go_wp2_with fail
        refine wp_region_lex (Keeps w (shiftL (tOf a b).1 (tOf a b).2 n m X (X &&& (1#64 <<< (max n 0).toNat - 1#64)) w'.heap.size (w'.heap.size + 1))) (by kernel_rfl) (by kernel_rfl) K.drew (fun hNon => ?_)
        repeat (go_big_quiet_step ((first | (go_at_call 25; exact held_callK _ (tn_valid _ _ _)) | (go_at_call 26; exact held_callK _ (lawHas_any _ _ _ _)))))
        refine wpQuiet_nil ?_
        intro w5 hG
        clear hNon q0 q1 q2 K
        go_wp2_with fail
        go_roundw
        case rel => exact ⟨4, by omega, rfl, hG⟩
        case measure => simp [intOf]
      · have q0 : ∀ z : Held (Keeps w (shiftL (tOf a b).1 (tOf a b).2 n m X (X &&& (1#64 <<< (max n 0).toNat - 1#64)) w'.heap.size (w'.heap.size + 1))), z.w.cell? ⟨w'.heap.size + 1, 0, none⟩ = some _ := fun z => z.h.1.get 8 _ rfl
        have q1 : ∀ z : Held (Keeps w (shiftL (tOf a b).1 (tOf a b).2 n m X (X &&& (1#64 <<< (max n 0).toNat - 1#64)) w'.heap.size (w'.heap.size + 1))), z.w.cell? ⟨w'.heap.size + 1, 1, none⟩ = some _ := fun z => z.h.1.get 9 _ rfl
        have q2 : ∀ z : Held (Keeps w (shiftL (tOf a b).1 (tOf a b).2 n m X (X &&& (1#64 <<< (max n 0).toNat - 1#64)) w'.heap.size (w'.heap.size + 1))), z.w.cell? ⟨w'.heap.size + 1, 2, none⟩ = some _ := fun z => z.h.1.get 10 _ rfl
        have q3 : ∀ z : Held (Keeps w (shiftL (tOf a b).1 (tOf a b).2 n m X (X &&& (1#64 <<< (max n 0).toNat - 1#64)) w'.heap.size (w'.heap.size + 1))), z.w.cell? ⟨w'.heap.size + 1, 3, none⟩ = some _ := fun z => z.h.1.get 11 _ rfl
        go_wp2_with fail
        refine wp_region_lex (Keeps w (shiftL (tOf a b).1 (tOf a b).2 n m X (X &&& (1#64 <<< (max n 0).toNat - 1#64)) w'.heap.size (w'.heap.size + 1))) (by kernel_rfl) (by kernel_rfl) K.drew (fun hNon => ?_)
        repeat (go_big_quiet_step ((first | (go_at_call 13; exact held_callK _ (tn_constN _ _)) | (go_at_call 21; exact held_callK _ (tn_lshC _ _ m hx hm _)) | (go_at_call 22; exact held_callK _ (tn_rshC _ _ m hx hm _)) | (go_at_call 23; exact held_callK _ (tn_arshC _ _ m hx hm _)) | (go_at_call 24; exact held_callK _ (tn_lowC _ _ _ HC.out hn1 hn2 _)) | (go_at_call 20; exact held_callK _ (bits_any _)))))
        refine wpQuiet_nil ?_
        intro w5 hG
        clear hNon q0 q1 q2 q3 K
        go_wp2_with fail
        go_ret
        exact ⟨rfl, hG.2⟩
  ·
    have e : lowN X n = X := by rw [HN.out, if_neg (by omega), if_pos hc]
    rw [e] at h3
    have HC : Hid (tLow X 0#64 n = (X, 0#64)) := Lib.hid (by have := HL.out; rw [e] at this; exact this)
    clear e HN HL
    go_enter Try.func4, Try.ntmps4
    go_wp2_with (first | (go_at_call 10; refine (made_any _ _ _).mono ?_; rintro e w1 ⟨rfl, g1⟩) | (go_at_call 11; refine (one_eq _ _ _ _ HX.out _).mono ?_; rintro e w2 ⟨rfl, rfl⟩))
    have gA : Gw2 w (w1.alloc (.cells #[.int .u64 (N (tOf a b).1), .int .u64 (N (tOf a b).2)] 25)) := Grown.alloc (Grown.trans' (by go_grown) g1) _ _
    have p0 := gw2_cell (W := w1.alloc (.cells #[.int .u64 (N (tOf a b).1), .int .u64 (N (tOf a b).2)] 25)) (B := w1.heap.size) (o := 0) (v := .int .u64 (N (tOf a b).1)) (by simp) (by simp [go_sem])
    have p1 := gw2_cell (W := w1.alloc (.cells #[.int .u64 (N (tOf a b).1), .int .u64 (N (tOf a b).2)] 25)) (B := w1.heap.size) (o := 1) (v := .int .u64 (N (tOf a b).2)) (by simp) (by simp [go_sem])
    clear g1
    generalize w1.alloc (.cells #[.int .u64 (N (tOf a b).1), .int .u64 (N (tOf a b).2)] 25) = W1 at *
    generalize w1.heap.size = B at *
    have hW : Gw2 W1 W1.drew := Gw2.drew (Grown.refl _)
    go_region_held3 (fun w' => Gw2 W1 w') (first | with_reducible assumption | exact Gw2.alloc (by with_reducible assumption) _ _) (first
      | (go_at_call 21; refine (tn_lsh _ _ _ m hx hm _).mono ?_; rintro e w' ⟨rfl, hg⟩; have hG : Gw2 W1 w' := Gw2.trans (by with_reducible assumption) hg; clear hg)
      | (go_at_call 22; refine (tn_rsh _ _ _ m hx hm _).mono ?_; rintro e w' ⟨rfl, hg⟩; have hG : Gw2 W1 w' := Gw2.trans (by with_reducible assumption) hg; clear hg)
      | (go_at_call 23; refine (tn_arsh _ _ _ m hx hm _).mono ?_; rintro e w' ⟨rfl, hg⟩; have hG : Gw2 W1 w' := Gw2.trans (by with_reducible assumption) hg; clear hg)
      | (go_at_call 24; refine (tn_low _ _ _ hn1 hn2 _).mono ?_; rintro e w' ⟨rfl, hg⟩; have hG : Gw2 W1 w' := Gw2.trans (by with_reducible assumption) hg; clear hg))
    have gB : Gw2 w w' := Gw2.trans gA hG
    clear p0 p1 hW gA hG
    go_wp2_with fail
    have gC : Gw2 w (w'.alloc (.cells #[.int .u64 (N (tLsh (tOf a b).1 (tOf a b).2 m).1), .int .u64 (N (tLsh (tOf a b).1 (tOf a b).2 m).2), .int .u64 (N (tRsh (tOf a b).1 (tOf a b).2 m).1), .int .u64 (N (tRsh (tOf a b).1 (tOf a b).2 m).2), .int .u64 (N (tArsh (tOf a b).1 (tOf a b).2 m).1), .int .u64 (N (tArsh (tOf a b).1 (tOf a b).2 m).2), .int .u64 (N (tLow (tOf a b).1 (tOf a b).2 n).1), .int .u64 (N (tLow (tOf a b).1 (tOf a b).2 n).2)] 25)) := Gw2.alloc gB _ _
    have hW2 : Gw2 (w'.alloc (.cells #[.int .u64 (N (tLsh (tOf a b).1 (tOf a b).2 m).1), .int .u64 (N (tLsh (tOf a b).1 (tOf a b).2 m).2), .int .u64 (N (tRsh (tOf a b).1 (tOf a b).2 m).1), .int .u64 (N (tRsh (tOf a b).1 (tOf a b).2 m).2), .int .u64 (N (tArsh (tOf a b).1 (tOf a b).2 m).1), .int .u64 (N (tArsh (tOf a b).1 (tOf a b).2 m).2), .int .u64 (N (tLow (tOf a b).1 (tOf a b).2 n).1), .int .u64 (N (tLow (tOf a b).1 (tOf a b).2 n).2)] 25)) (w'.alloc (.cells #[.int .u64 (N (tLsh (tOf a b).1 (tOf a b).2 m).1), .int .u64 (N (tLsh (tOf a b).1 (tOf a b).2 m).2), .int .u64 (N (tRsh (tOf a b).1 (tOf a b).2 m).1), .int .u64 (N (tRsh (tOf a b).1 (tOf a b).2 m).2), .int .u64 (N (tArsh (tOf a b).1 (tOf a b).2 m).1), .int .u64 (N (tArsh (tOf a b).1 (tOf a b).2 m).2), .int .u64 (N (tLow (tOf a b).1 (tOf a b).2 n).1), .int .u64 (N (tLow (tOf a b).1 (tOf a b).2 n).2)] 25)).drew := Gw2.drew (Grown.refl _)
    go_region_held3 (fun z => Gw2 (w'.alloc (.cells #[.int .u64 (N (tLsh (tOf a b).1 (tOf a b).2 m).1), .int .u64 (N (tLsh (tOf a b).1 (tOf a b).2 m).2), .int .u64 (N (tRsh (tOf a b).1 (tOf a b).2 m).1), .int .u64 (N (tRsh (tOf a b).1 (tOf a b).2 m).2), .int .u64 (N (tArsh (tOf a b).1 (tOf a b).2 m).1), .int .u64 (N (tArsh (tOf a b).1 (tOf a b).2 m).2), .int .u64 (N (tLow (tOf a b).1 (tOf a b).2 n).1), .int .u64 (N (tLow (tOf a b).1 (tOf a b).2 n).2)] 25)) z) (first | with_reducible assumption | exact Gw2.alloc (by with_reducible assumption) _ _) (fail)
    clear hW2
    go_wp2_with fail
    go_loopw [13] (fun i wr => ∃ k : Nat, k ≤ 4 ∧ i = .int .i64 (k : Int) ∧ Keeps w (shiftL (tOf a b).1 (tOf a b).2 n m X (X) w'.heap.size (w'.heap.size + 1)) wr) (fun i _ => (4 - intOf i).toNat)
    case atStart =>
      refine ⟨0, by omega, rfl, ⟨?_, by show Gw2 _ _; first | exact Gw2.alloc (Gw2.drew gC) _ _ | exact Gw2.drew (Gw2.alloc gC _ _)⟩⟩
      unfold shiftL
      exact ⟨⟨by simp [go_sem], by first | (simp; done) | (simp; omega)⟩, ⟨by simp [go_sem], by first | (simp; done) | (simp; omega)⟩, ⟨by simp [go_sem], by first | (simp; done) | (simp; omega)⟩, ⟨by simp [go_sem], by first | (simp; done) | (simp; omega)⟩, ⟨by simp [go_sem], by first | (simp; done) | (simp; omega)⟩, ⟨by simp [go_sem], by first | (simp; done) | (simp; omega)⟩, ⟨by simp [go_sem], by first | (simp; done) | (simp; omega)⟩, ⟨by simp [go_sem], by first | (simp; done) | (simp; omega)⟩, ⟨by simp [go_sem], by first | (simp; done) | (simp; omega)⟩, ⟨by simp [go_sem], by first | (simp; done) | (simp; omega)⟩, ⟨by simp [go_sem], by first | (simp; done) | (simp; omega)⟩, ⟨by simp [go_sem], by first | (simp; done) | (simp; omega)⟩, trivial⟩
    case round =>
      obtain ⟨k, hk, rfl, K⟩ := hrel
      clear gB gC
      rcases (by omega : k = 0 ∨ k = 1 ∨ k = 2 ∨ k = 3 ∨ k = 4) with rfl | rfl | rfl | rfl | rfl
      · have q0 : ∀ z : Held (Keeps w (shiftL (tOf a b).1 (tOf a b).2 n m X (X) w'.heap.size (w'.heap.size + 1))), z.w.cell? ⟨w'.heap.size, 0, none⟩ = some _ := fun z => z.h.1.get 0 _ rfl
        have q1 : ∀ z : Held (Keeps w (shiftL (tOf a b).1 (tOf a b).2 n m X (X) w'.heap.size (w'.heap.size + 1))), z.w.cell? ⟨w'.heap.size, 1, none⟩ = some _ := fun z => z.h.1.get 1 _ rfl
        have q2 : ∀ z : Held (Keeps w (shiftL (tOf a b).1 (tOf a b).2 n m X (X) w'.heap.size (w'.heap.size + 1))), z.w.cell? ⟨w'.heap.size + 1, 0, none⟩ = some _ := fun z => z.h.1.get 8 _ rfl
        go_wp2_with fail
        refine wp_region_lex (Keeps w (shiftL (tOf a b).1 (tOf a b).2 n m X (X) w'.heap.size (w'.heap.size + 1))) (by kernel_rfl) (by kernel_rfl) K.drew (fun hNon => ?_)
        repeat (go_big_quiet_step ((first | (go_at_call 25; exact held_callK _ (tn_valid _ _ _)) | (go_at_call 26; exact held_callK _ (lawHas_any _ _ _ _)))))
        refine wpQuiet_nil ?_
        intro w5 hG
        clear hNon q0 q1 q2 K
        go_wp2_with fail
        go_roundw
        case rel => exact ⟨1, by omega, rfl, hG⟩
        case measure => simp [intOf]
      · have q0 : ∀ z : Held (Keeps w (shiftL (tOf a b).1 (tOf a b).2 n m X (X) w'.heap.size (w'.heap.size + 1))), z.w.cell? ⟨w'.heap.size, 2, none⟩ = some _ := fun z => z.h.1.get 2 _ rfl
        have q1 : ∀ z : Held (Keeps w (shiftL (tOf a b).1 (tOf a b).2 n m X (X) w'.heap.size (w'.heap.size + 1))), z.w.cell? ⟨w'.heap.size, 3, none⟩ = some _ := fun z => z.h.1.get 3 _ rfl
        have q2 : ∀ z : Held (Keeps w (shiftL (tOf a b).1 (tOf a b).2 n m X (X) w'.heap.size (w'.heap.size + 1))), z.w.cell? ⟨w'.heap.size + 1, 1, none⟩ = some _ := fun z => z.h.1.get 9 _ rfl
        go_wp2_with fail
        refine wp_region_lex (Keeps w (shiftL (tOf a b).1 (tOf a b).2 n m X (X) w'.heap.size (w'.heap.size + 1))) (by kernel_rfl) (by kernel_rfl) K.drew (fun hNon => ?_)
        repeat (go_big_quiet_step ((first | (go_at_call 25; exact held_callK _ (tn_valid _ _ _)) | (go_at_call 26; exact held_callK _ (lawHas_any _ _ _ _)))))
        refine wpQuiet_nil ?_
        intro w5 hG
        clear hNon q0 q1 q2 K
        go_wp2_with fail
        go_roundw
        case rel => exact ⟨2, by omega, rfl, hG⟩
        case measure => simp [intOf]
      · have q0 : ∀ z : Held (Keeps w (shiftL (tOf a b).1 (tOf a b).2 n m X (X) w'.heap.size (w'.heap.size + 1))), z.w.cell? ⟨w'.heap.size, 4, none⟩ = some _ := fun z => z.h.1.get 4 _ rfl
        have q1 : ∀ z : Held (Keeps w (shiftL (tOf a b).1 (tOf a b).2 n m X (X) w'.heap.size (w'.heap.size + 1))), z.w.cell? ⟨w'.heap.size, 5, none⟩ = some _ := fun z => z.h.1.get 5 _ rfl
        have q2 : ∀ z : Held (Keeps w (shiftL (tOf a b).1 (tOf a b).2 n m X (X) w'.heap.size (w'.heap.size + 1))), z.w.cell? ⟨w'.heap.size + 1, 2, none⟩ = some _ := fun z => z.h.1.get 10 _ rfl
        go_wp2_with fail
        refine wp_region_lex (Keeps w (shiftL (tOf a b).1 (tOf a b).2 n m X (X) w'.heap.size (w'.heap.size + 1))) (by kernel_rfl) (by kernel_rfl) K.drew (fun hNon => ?_)
        repeat (go_big_quiet_step ((first | (go_at_call 25; exact held_callK _ (tn_valid _ _ _)) | (go_at_call 26; exact held_callK _ (lawHas_any _ _ _ _)))))
        refine wpQuiet_nil ?_
        intro w5 hG
        clear hNon q0 q1 q2 K
        go_wp2_with fail
        go_roundw
        case rel => exact ⟨3, by omega, rfl, hG⟩
        case measure => simp [intOf]
      · have q0 : ∀ z : Held (Keeps w (shiftL (tOf a b).1 (tOf a b).2 n m X (X) w'.heap.size (w'.heap.size + 1))), z.w.cell? ⟨w'.heap.size, 6, none⟩ = some _ := fun z => z.h.1.get 6 _ rfl
        have q1 : ∀ z : Held (Keeps w (shiftL (tOf a b).1 (tOf a b).2 n m X (X) w'.heap.size (w'.heap.size + 1))), z.w.cell? ⟨w'.heap.size, 7, none⟩ = some _ := fun z => z.h.1.get 7 _ rfl
        have q2 : ∀ z : Held (Keeps w (shiftL (tOf a b).1 (tOf a b).2 n m X (X) w'.heap.size (w'.heap.size + 1))), z.w.cell? ⟨w'.heap.size + 1, 3, none⟩ = some _ := fun z => z.h.1.get 11 _ rfl
        go_wp2_with fail
        refine wp_region_lex (Keeps w (shiftL (tOf a b).1 (tOf a b).2 n m X (X) w'.heap.size (w'.heap.size + 1))) (by kernel_rfl) (by kernel_rfl) K.drew (fun hNon => ?_)
        repeat (go_big_quiet_step ((first | (go_at_call 25; exact held_callK _ (tn_valid _ _ _)) | (go_at_call 26; exact held_callK _ (lawHas_any _ _ _ _)))))
        refine wpQuiet_nil ?_
        intro w5 hG
        clear hNon q0 q1 q2 K
        go_wp2_with fail
        go_roundw
        case rel => exact ⟨4, by omega, rfl, hG⟩
        case measure => simp [intOf]
      · have q0 : ∀ z : Held (Keeps w (shiftL (tOf a b).1 (tOf a b).2 n m X (X) w'.heap.size (w'.heap.size + 1))), z.w.cell? ⟨w'.heap.size + 1, 0, none⟩ = some _ := fun z => z.h.1.get 8 _ rfl
        have q1 : ∀ z : Held (Keeps w (shiftL (tOf a b).1 (tOf a b).2 n m X (X) w'.heap.size (w'.heap.size + 1))), z.w.cell? ⟨w'.heap.size + 1, 1, none⟩ = some _ := fun z => z.h.1.get 9 _ rfl
        have q2 : ∀ z : Held (Keeps w (shiftL (tOf a b).1 (tOf a b).2 n m X (X) w'.heap.size (w'.heap.size + 1))), z.w.cell? ⟨w'.heap.size + 1, 2, none⟩ = some _ := fun z => z.h.1.get 10 _ rfl
        have q3 : ∀ z : Held (Keeps w (shiftL (tOf a b).1 (tOf a b).2 n m X (X) w'.heap.size (w'.heap.size + 1))), z.w.cell? ⟨w'.heap.size + 1, 3, none⟩ = some _ := fun z => z.h.1.get 11 _ rfl
        go_wp2_with fail
        refine wp_region_lex (Keeps w (shiftL (tOf a b).1 (tOf a b).2 n m X (X) w'.heap.size (w'.heap.size + 1))) (by kernel_rfl) (by kernel_rfl) K.drew (fun hNon => ?_)
        repeat (go_big_quiet_step ((first | (go_at_call 13; exact held_callK _ (tn_constN _ _)) | (go_at_call 21; exact held_callK _ (tn_lshC _ _ m hx hm _)) | (go_at_call 22; exact held_callK _ (tn_rshC _ _ m hx hm _)) | (go_at_call 23; exact held_callK _ (tn_arshC _ _ m hx hm _)) | (go_at_call 24; exact held_callK _ (tn_lowC _ _ _ HC.out hn1 hn2 _)) | (go_at_call 20; exact held_callK _ (bits_any _)))))
        refine wpQuiet_nil ?_
        intro w5 hG
        clear hNon q0 q1 q2 q3 K
        go_wp2_with fail
        go_ret
        exact ⟨rfl, hG.2⟩
end Go.Proofs.Ytchjneodjaakdaa
