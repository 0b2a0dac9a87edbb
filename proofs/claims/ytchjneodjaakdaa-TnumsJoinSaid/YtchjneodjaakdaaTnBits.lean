/-
  The chapter's examples of package tnums ('bits').
-/
import Derived.Test.YtchjneodjaakdaaTn2
namespace Go.Proofs.Ytchjneodjaakdaa
open Go.RowKit

attribute [local go_sem] u64_wrap ofInt_N ofInt_Nw N_ofNat
def Gr (a b : World) : Prop := Grown a b

theorem keepT {B1 B2 : Nat} {x y u v : Value} {W wo wn : World} (hg : Gr wo wn) (h : wo.cell? ⟨B1, 0, none⟩ = some x ∧ wo.cell? ⟨B1, 1, none⟩ = some y ∧ wo.cell? ⟨B2, 0, none⟩ = some u ∧ wo.cell? ⟨B2, 1, none⟩ = some v ∧ B1 < wo.heap.size ∧ B2 < wo.heap.size ∧ Gr W wo) :
    wn.cell? ⟨B1, 0, none⟩ = some x ∧ wn.cell? ⟨B1, 1, none⟩ = some y ∧ wn.cell? ⟨B2, 0, none⟩ = some u ∧ wn.cell? ⟨B2, 1, none⟩ = some v ∧ B1 < wn.heap.size ∧ B2 < wn.heap.size ∧ Gr W wn :=
  have ⟨h1, h2, h3, h4, h5, h6, h7⟩ := h
  ⟨grown_cellAt hg h5 h1, grown_cellAt hg h5 h2, grown_cellAt hg h6 h3, grown_cellAt hg h6 h4, Nat.lt_of_lt_of_le h5 hg.2.2, Nat.lt_of_lt_of_le h6 hg.2.2, Grown.trans' h7 hg⟩
theorem keepTEnd {B1 B2 : Nat} {x y u v : Value} {W wo : World} (h : wo.cell? ⟨B1, 0, none⟩ = some x ∧ wo.cell? ⟨B1, 1, none⟩ = some y ∧ wo.cell? ⟨B2, 0, none⟩ = some u ∧ wo.cell? ⟨B2, 1, none⟩ = some v ∧ B1 < wo.heap.size ∧ B2 < wo.heap.size ∧ Gr W wo) : Grown W wo := h.2.2.2.2.2.2
def U64 (x : Int) : Prop := 0 ≤ x ∧ x < 18446744073709551616
theorem U64_N (v : BitVec 64) : U64 (N v) := ⟨N_nonneg v, N_lt v⟩
theorem U64_of {x : Int} (h : U64 x) : N (BitVec.ofInt 64 x) = x := N_ofInt x h.1 (by simpa using h.2)
def hasB (av am v : BitVec 64) : Bool := N (v &&& ~~~am) == N av
def bothV (av am bv bm : BitVec 64) : Value := if (N ((av ^^^ bv) &&& ~~~am &&& ~~~bm) == 0) = true then .tuple #[.agg #[.int .u64 (N (tOf (av ||| bv) (am &&& bm)).1), .int .u64 (N (tOf (av ||| bv) (am &&& bm)).2)], .bool true] else .tuple #[.agg #[.int .u64 0, .int .u64 0], .bool false]
theorem tn_add_I (av am bv bm : Int) (w : World) (h1 : U64 av) (h2 : U64 am) (h3 : U64 bv) (h4 : U64 bm) : Calls Try.prog 14 #[.agg #[.int .u64 av, .int .u64 am], .agg #[.int .u64 bv, .int .u64 bm]] w fun e w' => e = .returned (.agg #[.int .u64 (N (tAdd (BitVec.ofInt 64 av) (BitVec.ofInt 64 am) (BitVec.ofInt 64 bv) (BitVec.ofInt 64 bm)).1), .int .u64 (N (tAdd (BitVec.ofInt 64 av) (BitVec.ofInt 64 am) (BitVec.ofInt 64 bv) (BitVec.ofInt 64 bm)).2)]) ∧ Grown w w' := by
  have h := tn_add (BitVec.ofInt 64 av) (BitVec.ofInt 64 am) (BitVec.ofInt 64 bv) (BitVec.ofInt 64 bm) w
  rwa [U64_of h1, U64_of h2, U64_of h3, U64_of h4] at h
theorem tn_sub_I (av am bv bm : Int) (w : World) (h1 : U64 av) (h2 : U64 am) (h3 : U64 bv) (h4 : U64 bm) : Calls Try.prog 15 #[.agg #[.int .u64 av, .int .u64 am], .agg #[.int .u64 bv, .int .u64 bm]] w fun e w' => e = .returned (.agg #[.int .u64 (N (tSub (BitVec.ofInt 64 av) (BitVec.ofInt 64 am) (BitVec.ofInt 64 bv) (BitVec.ofInt 64 bm)).1), .int .u64 (N (tSub (BitVec.ofInt 64 av) (BitVec.ofInt 64 am) (BitVec.ofInt 64 bv) (BitVec.ofInt 64 bm)).2)]) ∧ Grown w w' := by
  have h := tn_sub (BitVec.ofInt 64 av) (BitVec.ofInt 64 am) (BitVec.ofInt 64 bv) (BitVec.ofInt 64 bm) w
  rwa [U64_of h1, U64_of h2, U64_of h3, U64_of h4] at h
theorem tn_and_I (av am bv bm : Int) (w : World) (h1 : U64 av) (h2 : U64 am) (h3 : U64 bv) (h4 : U64 bm) : Calls Try.prog 17 #[.agg #[.int .u64 av, .int .u64 am], .agg #[.int .u64 bv, .int .u64 bm]] w fun e w' => e = .returned (.agg #[.int .u64 (N (tAnd (BitVec.ofInt 64 av) (BitVec.ofInt 64 am) (BitVec.ofInt 64 bv) (BitVec.ofInt 64 bm)).1), .int .u64 (N (tAnd (BitVec.ofInt 64 av) (BitVec.ofInt 64 am) (BitVec.ofInt 64 bv) (BitVec.ofInt 64 bm)).2)]) ∧ Grown w w' := by
  have h := tn_and (BitVec.ofInt 64 av) (BitVec.ofInt 64 am) (BitVec.ofInt 64 bv) (BitVec.ofInt 64 bm) w
  rwa [U64_of h1, U64_of h2, U64_of h3, U64_of h4] at h
theorem tn_or_I (av am bv bm : Int) (w : World) (h1 : U64 av) (h2 : U64 am) (h3 : U64 bv) (h4 : U64 bm) : Calls Try.prog 18 #[.agg #[.int .u64 av, .int .u64 am], .agg #[.int .u64 bv, .int .u64 bm]] w fun e w' => e = .returned (.agg #[.int .u64 (N (tOr (BitVec.ofInt 64 av) (BitVec.ofInt 64 am) (BitVec.ofInt 64 bv) (BitVec.ofInt 64 bm)).1), .int .u64 (N (tOr (BitVec.ofInt 64 av) (BitVec.ofInt 64 am) (BitVec.ofInt 64 bv) (BitVec.ofInt 64 bm)).2)]) ∧ Grown w w' := by
  have h := tn_or (BitVec.ofInt 64 av) (BitVec.ofInt 64 am) (BitVec.ofInt 64 bv) (BitVec.ofInt 64 bm) w
  rwa [U64_of h1, U64_of h2, U64_of h3, U64_of h4] at h
theorem tn_xor_I (av am bv bm : Int) (w : World) (h1 : U64 av) (h2 : U64 am) (h3 : U64 bv) (h4 : U64 bm) : Calls Try.prog 19 #[.agg #[.int .u64 av, .int .u64 am], .agg #[.int .u64 bv, .int .u64 bm]] w fun e w' => e = .returned (.agg #[.int .u64 (N (tXor (BitVec.ofInt 64 av) (BitVec.ofInt 64 am) (BitVec.ofInt 64 bv) (BitVec.ofInt 64 bm)).1), .int .u64 (N (tXor (BitVec.ofInt 64 av) (BitVec.ofInt 64 am) (BitVec.ofInt 64 bv) (BitVec.ofInt 64 bm)).2)]) ∧ Grown w w' := by
  have h := tn_xor (BitVec.ofInt 64 av) (BitVec.ofInt 64 am) (BitVec.ofInt 64 bv) (BitVec.ofInt 64 bm) w
  rwa [U64_of h1, U64_of h2, U64_of h3, U64_of h4] at h
theorem tn_either_I (av am bv bm : Int) (w : World) (h1 : U64 av) (h2 : U64 am) (h3 : U64 bv) (h4 : U64 bm) : Calls Try.prog 28 #[.agg #[.int .u64 av, .int .u64 am], .agg #[.int .u64 bv, .int .u64 bm]] w fun e w' => e = .returned (.agg #[.int .u64 (N (tEither (BitVec.ofInt 64 av) (BitVec.ofInt 64 am) (BitVec.ofInt 64 bv) (BitVec.ofInt 64 bm)).1), .int .u64 (N (tEither (BitVec.ofInt 64 av) (BitVec.ofInt 64 am) (BitVec.ofInt 64 bv) (BitVec.ofInt 64 bm)).2)]) ∧ Grown w w' := by
  have h := tn_either (BitVec.ofInt 64 av) (BitVec.ofInt 64 am) (BitVec.ofInt 64 bv) (BitVec.ofInt 64 bm) w
  rwa [U64_of h1, U64_of h2, U64_of h3, U64_of h4] at h
theorem tn_both_I (av am bv bm : Int) (w : World) (h1 : U64 av) (h2 : U64 am) (h3 : U64 bv) (h4 : U64 bm) : Calls Try.prog 29 #[.agg #[.int .u64 av, .int .u64 am], .agg #[.int .u64 bv, .int .u64 bm]] w fun e w' => e = .returned (bothV (BitVec.ofInt 64 av) (BitVec.ofInt 64 am) (BitVec.ofInt 64 bv) (BitVec.ofInt 64 bm)) ∧ Grown w w' := by
  have h := tn_both (BitVec.ofInt 64 av) (BitVec.ofInt 64 am) (BitVec.ofInt 64 bv) (BitVec.ofInt 64 bm) w
  rwa [U64_of h1, U64_of h2, U64_of h3, U64_of h4] at h
theorem tn_range_I (lo hi : Int) (w : World) (h1 : U64 lo) (h2 : U64 hi) : Calls Try.prog 27 #[.int .u64 lo, .int .u64 hi] w fun e w' => e = .returned (.agg #[.int .u64 (N (tRange (BitVec.ofInt 64 lo) (BitVec.ofInt 64 hi)).1), .int .u64 (N (tRange (BitVec.ofInt 64 lo) (BitVec.ofInt 64 hi)).2)]) ∧ Grown w w' := by
  have h := tn_range (BitVec.ofInt 64 lo) (BitVec.ofInt 64 hi) w
  rwa [U64_of h1, U64_of h2] at h
theorem tn_has_I (av am v : Int) (w : World) (h1 : U64 av) (h2 : U64 am) (h3 : U64 v) : Calls Try.prog 52 #[.agg #[.int .u64 av, .int .u64 am], .int .u64 v] w fun e w' => e = .returned (.bool (hasB (BitVec.ofInt 64 av) (BitVec.ofInt 64 am) (BitVec.ofInt 64 v))) ∧ Grown w w' := by
  have h := tn_has (BitVec.ofInt 64 av) (BitVec.ofInt 64 am) (BitVec.ofInt 64 v) w
  unfold hasB
  rw [U64_of h1, U64_of h2, U64_of h3] at h
  rw [U64_of h1]
  exact h

set_option maxRecDepth 100000 in
set_option maxHeartbeats 1000000 in
theorem bits_any (w : World) : Calls Try.prog 20 #[] w fun e w' => e = .returned (.bool true) ∧ Grown w w' := by
  have a1 : (tAdd 4#64 3#64 1#64 0#64).1 = 0#64 := by decide
  have a2 : (tAdd 4#64 3#64 1#64 0#64).2 = 15#64 := by decide
  have b1 : bothV 4#64 1#64 5#64 0#64 = .tuple #[.agg #[.int .u64 5, .int .u64 0], .bool true] := rfl
  have b2 : bothV 4#64 1#64 2#64 0#64 = .tuple #[.agg #[.int .u64 0, .int .u64 0], .bool false] := rfl
  have c1 : (tRange 4#64 7#64).1 = 4#64 := by decide
  have c2 : (tRange 4#64 7#64).2 = 3#64 := by decide
  have c3 : (tRange 5#64 5#64).1 = 5#64 := by decide
  have c4 : (tRange 5#64 5#64).2 = 0#64 := by decide
  have d1 : hasB 0#64 15#64 5#64 = true := by decide
  have d2 : hasB 0#64 15#64 8#64 = true := by decide
  have e1 : (tAnd 0#64 18446744073709551615#64 7#64 0#64).1 = 0#64 := by decide
  have e2 : (tAnd 0#64 18446744073709551615#64 7#64 0#64).2 = 7#64 := by decide
  go_enter Try.func20, Try.ntmps20
  go_wp2_with fail
  refine (tn_const _ _ ).mono ?_
  rintro e w1 ⟨rfl, g1⟩
  go_wp2_with fail
  refine (tn_add_I _ _ _ _ _ (by first | (constructor <;> decide) | exact U64_N _) (by first | (constructor <;> decide) | exact U64_N _) (by first | (constructor <;> decide) | exact U64_N _) (by first | (constructor <;> decide) | exact U64_N _)).mono ?_
  rintro e w2 ⟨rfl, g2⟩
  go_wp2_with fail
  refine (tn_const _ _ ).mono ?_
  rintro e w3 ⟨rfl, g3⟩
  go_wp2_with fail
  refine (tn_both_I _ _ _ _ _ (by first | (constructor <;> decide) | exact U64_N _) (by first | (constructor <;> decide) | exact U64_N _) (by first | (constructor <;> decide) | exact U64_N _) (by first | (constructor <;> decide) | exact U64_N _)).mono ?_
  rintro e w4 ⟨rfl, g4⟩
  go_wp2_with fail
  refine (tn_const _ _ ).mono ?_
  rintro e w5 ⟨rfl, g5⟩
  go_wp2_with fail
  refine (tn_both_I _ _ _ _ _ (by first | (constructor <;> decide) | exact U64_N _) (by first | (constructor <;> decide) | exact U64_N _) (by first | (constructor <;> decide) | exact U64_N _) (by first | (constructor <;> decide) | exact U64_N _)).mono ?_
  rintro e w6 ⟨rfl, g6⟩
  go_wp2_with fail
  have z2 : w2.heap.size < (w6.alloc (.cells #[.int .u64 0, .int .u64 0] 25)).heap.size := by
    have := g3.2.2; have := g4.2.2; have := g5.2.2; have := g6.2.2
    simp at *; omega
  have z4 : w4.heap.size < (w6.alloc (.cells #[.int .u64 0, .int .u64 0] 25)).heap.size := by
    have := g5.2.2; have := g6.2.2
    simp at *; omega
  have k4 : Grown (w4.alloc (.cells #[.int .u64 5, .int .u64 0] 25)) (w6.alloc (.cells #[.int .u64 0, .int .u64 0] 25)) := (Grown.trans' g5 g6).alloc _ _
  have k2 : Grown (w2.alloc (.cells #[.int .u64 0, .int .u64 15] 25)) (w6.alloc (.cells #[.int .u64 0, .int .u64 0] 25)) := Grown.trans' ((Grown.trans' g3 g4).alloc _ _) k4
  have k0 : Gr w (w6.alloc (.cells #[.int .u64 0, .int .u64 0] 25)) := Grown.trans' ((Grown.trans' g1 g2).alloc _ _) k2
  have q1 := grown_cellAt (a := ⟨w2.heap.size, 0, none⟩) (v := .int .u64 0) k2 (by simp) (by simp [go_sem])
  have q2 := grown_cellAt (a := ⟨w2.heap.size, 1, none⟩) (v := .int .u64 15) k2 (by simp) (by simp [go_sem])
  have q3 := grown_cellAt (a := ⟨w4.heap.size, 0, none⟩) (v := .int .u64 5) k4 (by simp) (by simp [go_sem])
  have q4 := grown_cellAt (a := ⟨w4.heap.size, 1, none⟩) (v := .int .u64 0) k4 (by simp) (by simp [go_sem])
  clear g1 g2 g3 g4 g5 g6 k2 k4 b1 b2 a1 a2
  generalize w6.alloc (.cells #[.int .u64 0, .int .u64 0] 25) = W at *
  generalize w2.heap.size = B1 at *
  generalize w4.heap.size = B2 at *
  go_region_held3 (fun w' => w'.cell? ⟨B1, 0, none⟩ = some (.int .u64 0) ∧ w'.cell? ⟨B1, 1, none⟩ = some (.int .u64 15) ∧ w'.cell? ⟨B2, 0, none⟩ = some (.int .u64 5) ∧ w'.cell? ⟨B2, 1, none⟩ = some (.int .u64 0) ∧ B1 < w'.heap.size ∧ B2 < w'.heap.size ∧ Gr w w') (first | exact ⟨q1, q2, q3, q4, z2, z4, k0⟩ | exact keepT (by assumption) (by assumption)) (first | (go_at_call 13; refine (tn_const _ _ ).mono ?_; rintro e w' ⟨rfl, hg⟩; have hG : Gr _ _ := hg; clear hg) | (go_at_call 14; refine (tn_add_I _ _ _ _ _ (by first | (constructor <;> decide) | exact U64_N _) (by first | (constructor <;> decide) | exact U64_N _) (by first | (constructor <;> decide) | exact U64_N _) (by first | (constructor <;> decide) | exact U64_N _)).mono ?_; rintro e w' ⟨rfl, hg⟩; have hG : Gr _ _ := hg; clear hg) | (go_at_call 17; refine (tn_and_I _ _ _ _ _ (by first | (constructor <;> decide) | exact U64_N _) (by first | (constructor <;> decide) | exact U64_N _) (by first | (constructor <;> decide) | exact U64_N _) (by first | (constructor <;> decide) | exact U64_N _)).mono ?_; rintro e w' ⟨rfl, hg⟩; have hG : Gr _ _ := hg; clear hg) | (go_at_call 29; refine (tn_both_I _ _ _ _ _ (by first | (constructor <;> decide) | exact U64_N _) (by first | (constructor <;> decide) | exact U64_N _) (by first | (constructor <;> decide) | exact U64_N _) (by first | (constructor <;> decide) | exact U64_N _)).mono ?_; rintro e w' ⟨rfl, hg⟩; have hG : Gr _ _ := hg; clear hg) | (go_at_call 27; refine (tn_range_I _ _ _ (by first | (constructor <;> decide) | exact U64_N _) (by first | (constructor <;> decide) | exact U64_N _)).mono ?_; rintro e w' ⟨rfl, hg⟩; have hG : Gr _ _ := hg; clear hg) | (go_at_call 52; refine (tn_has_I _ _ _ _ (by first | (constructor <;> decide) | exact U64_N _) (by first | (constructor <;> decide) | exact U64_N _) (by first | (constructor <;> decide) | exact U64_N _)).mono ?_; rintro e w' ⟨rfl, hg⟩; have hG : Gr _ _ := hg; clear hg) | (go_at_call 53; refine (tn_anyT _ ).mono ?_; rintro e w' ⟨rfl, hg⟩; have hG : Gr _ _ := hg; clear hg))
  go_wp2
  go_ret
  exact ⟨rfl, keepTEnd (by assumption)⟩
end Go.Proofs.Ytchjneodjaakdaa
