/-
  What is wrong with an instruction.
-/
import Derived.Test.YthmebodklbhljaaDoorIns
import Derived.Deep.DeepCutAuto
namespace Go.Proofs.YthmebodklbhljaaDoor
open Go.RowKit
attribute [local go_sem] u8_wrap u8_and ofInt_N ofInt_Nw

theorem usesJ_X (x : Int) (r : Bool) (w : World) : Calls Tryd.prog 69 #[.int .u8 x, .bool r] w fun e w' => e = .returned (.agg #[.bool (usesJ x r).d, .bool (usesJ x r).s, .bool (usesJ x r).o, .bool (usesJ x r).i, .bool (usesJ x r).w]) ∧ w' = w.alloc (.cells #[.bool (usesJ x r).d, .bool (usesJ x r).s, .bool (usesJ x r).o, .bool (usesJ x r).i, .bool (usesJ x r).w] 62) := by
  unfold usesJ
  by_cases h0 : x = 0
  · subst h0
    go_enter Tryd.func69, Tryd.ntmps69
    go_wp2
    go_returns
    exact ⟨rfl, rfl⟩
  by_cases h1 : x = 128
  · subst h1
    go_enter Tryd.func69, Tryd.ntmps69
    go_wp2
    go_returns
    exact ⟨rfl, rfl⟩
  by_cases h2 : x = 144
  · subst h2
    go_enter Tryd.func69, Tryd.ntmps69
    go_wp2
    go_returns
    exact ⟨rfl, rfl⟩
  rw [if_neg h0, if_neg h1, if_neg h2]
  have k0 : (x == 0) = false := by simpa using h0
  have k1 : (x == 128) = false := by simpa using h1
  have k2 : (x == 144) = false := by simpa using h2
  cases r
  all_goals
    go_enter Tryd.func69, Tryd.ntmps69
    go_wp2
    go_returns
    exact ⟨rfl, rfl⟩
set_option maxHeartbeats 1000000 in
theorem uses_arith (op : B8) (w : World) (hc : N (op &&& 7#8) = 4 ∨ N (op &&& 7#8) = 7) : Calls Tryd.prog 37 #[.int .u8 (N op)] w fun e w' => e = .returned (.agg #[.bool (usesS op).d, .bool (usesS op).s, .bool (usesS op).o, .bool (usesS op).i, .bool (usesS op).w]) ∧ Grown w w' := by
  have e : usesS op = ⟨true, N (op &&& 8#8) != 0, false, !(N (op &&& 8#8) != 0) && (N (op &&& 240#8) != 128), true⟩ := by unfold usesS cls; rw [if_pos hc]; rfl
  rw [e]
  clear e
  cases b2 : (N (op &&& 240#8) != 128) <;> cases b3 : (N (op &&& 8#8) != 0) <;> rcases hc with fc | fc
  all_goals
    go_enter Tryd.func37, Tryd.ntmps37
    go_wp2
    go_returns
    exact ⟨rfl, by go_grown⟩
set_option maxHeartbeats 1000000 in
theorem uses_jump (op : B8) (w : World) (hc : N (op &&& 7#8) = 5 ∨ N (op &&& 7#8) = 6) : Calls Tryd.prog 37 #[.int .u8 (N op)] w fun e w' => e = .returned (.agg #[.bool (usesS op).d, .bool (usesS op).s, .bool (usesS op).o, .bool (usesS op).i, .bool (usesS op).w]) ∧ Grown w w' := by
  have e : usesS op = usesJ (N (op &&& 240#8)) (N (op &&& 8#8) != 0) := by unfold usesS cls; rw [if_neg (by omega), if_pos hc]; rfl
  rw [e]
  clear e
  cases b3 : (N (op &&& 8#8) != 0) <;> rcases hc with fc | fc
  all_goals
    go_enter Tryd.func37, Tryd.ntmps37
    go_wp2_with (go_at_call 69; refine (usesJ_X _ _ _).mono ?_; rintro e w' ⟨rfl, rfl⟩)
    go_returns
    exact ⟨rfl, by go_grown⟩
set_option maxHeartbeats 1000000 in
theorem uses_rest (op : B8) (w : World) (h4 : ¬ N (op &&& 7#8) = 4) (h5 : ¬ N (op &&& 7#8) = 5) (h6 : ¬ N (op &&& 7#8) = 6) (h7 : ¬ N (op &&& 7#8) = 7) : Calls Tryd.prog 37 #[.int .u8 (N op)] w fun e w' => e = .returned (.agg #[.bool (usesS op).d, .bool (usesS op).s, .bool (usesS op).o, .bool (usesS op).i, .bool (usesS op).w]) ∧ Grown w w' := by
  have e : usesS op = if N (op &&& 7#8) = 0 then ⟨true, true, false, true, true⟩ else if N (op &&& 7#8) = 1 then ⟨true, true, true, false, true⟩ else if N (op &&& 7#8) = 3 then ⟨true, true, true, false, false⟩ else if N op = 194 then ⟨false, false, false, false, false⟩ else ⟨true, false, true, true, false⟩ := by unfold usesS cls; rw [if_neg (by omega), if_neg (by omega)]
  rw [e]
  clear e
  have hcl := cls_all op
  by_cases h194 : N op = 194
  · have fc : N (op &&& 7#8) = 2 := by
      have e : op = 194#8 := N_inj (h194.trans rfl)
      rw [e]; rfl
    clear hcl h4 h5 h6 h7
    simp only [fc, h194, if_true, if_false, Int.reduceEq]
    go_enter Tryd.func37, Tryd.ntmps37
    go_wp2
    go_returns
    exact ⟨rfl, by go_grown⟩
  rcases (by omega : N (op &&& 7#8) = 0 ∨ N (op &&& 7#8) = 1 ∨ N (op &&& 7#8) = 2 ∨ N (op &&& 7#8) = 3) with fc | fc | fc | fc
  all_goals
    clear hcl h4 h5 h6 h7
    simp only [fc, h194, if_true, if_false, Int.reduceEq]
    have k0 : (N op == 194) = false := by simpa using h194
    clear h194
    go_enter Tryd.func37, Tryd.ntmps37
    go_wp2
    go_returns
    exact ⟨rfl, by go_grown⟩
theorem uses_any (op : B8) (w : World) : Calls Tryd.prog 37 #[.int .u8 (N op)] w fun e w' => e = .returned (.agg #[.bool (usesS op).d, .bool (usesS op).s, .bool (usesS op).o, .bool (usesS op).i, .bool (usesS op).w]) ∧ Grown w w' := by
  by_cases h47 : N (op &&& 7#8) = 4 ∨ N (op &&& 7#8) = 7
  · exact uses_arith op w h47
  by_cases h56 : N (op &&& 7#8) = 5 ∨ N (op &&& 7#8) = 6
  · exact uses_jump op w h56
  · exact uses_rest op w (by omega) (by omega) (by omega) (by omega)

/-! A number that may stand there. -/
def immS (op : B8) (imm : Int) : Bool :=
  if ¬ (cls op = 4 ∨ cls op = 7) then true
  else if wh op = 96 ∨ wh op = 112 ∨ wh op = 192 then decide (0 ≤ imm) && (decide (imm ≤ 31) || ((cls op == 7) && decide (imm ≤ 63)))
  else if wh op = 48 ∨ wh op = 144 then imm != 0 else true
set_option maxHeartbeats 1000000 in
theorem imm_not (op : B8) (d s off imm : Int) (w : World) (hc : ¬ (N (op &&& 7#8) = 4 ∨ N (op &&& 7#8) = 7)) : Calls Tryd.prog 38 #[.agg #[.int .u8 (N op), .int .u8 d, .int .u8 s, .int .i16 off, .int .i32 imm]] w fun e w' => e = .returned (.bool (immS op imm)) ∧ Grown w w' := by
  have e : immS op imm = true := by unfold immS cls; rw [if_pos hc]
  rw [e]
  have k4 : (N (op &&& 7#8) != 4) = true := by simpa using fun h => hc (.inl h)
  have k7 : (N (op &&& 7#8) != 7) = true := by simpa using fun h => hc (.inr h)
  clear e hc
  go_enter Tryd.func38, Tryd.ntmps38
  go_wp2
  go_ret
  exact ⟨rfl, by go_grown⟩
set_option maxHeartbeats 2000000 in
theorem imm_shift (op : B8) (d s off imm : Int) (w : World) (hc : N (op &&& 7#8) = 4 ∨ N (op &&& 7#8) = 7) (hw : N (op &&& 240#8) = 96 ∨ N (op &&& 240#8) = 112 ∨ N (op &&& 240#8) = 192) : Calls Tryd.prog 38 #[.agg #[.int .u8 (N op), .int .u8 d, .int .u8 s, .int .i16 off, .int .i32 imm]] w fun e w' => e = .returned (.bool (immS op imm)) ∧ Grown w w' := by
  have e : immS op imm = (decide (0 ≤ imm) && (decide (imm ≤ 31) || ((N (op &&& 7#8) == 7) && decide (imm ≤ 63)))) := by unfold immS cls wh; rw [if_neg (fun h => h hc), if_pos hw]
  rw [e]
  clear e
  cases b1 : decide (0 ≤ imm) <;> cases b2 : decide (imm ≤ 31) <;> cases b3 : decide (imm ≤ 63) <;> rcases hc with fc | fc <;> rcases hw with fw | fw | fw
  all_goals
    rw [fc]
    go_enter Tryd.func38, Tryd.ntmps38
    go_wp2
    go_ret
    exact ⟨rfl, by go_grown⟩
set_option maxHeartbeats 2000000 in
theorem imm_div (op : B8) (d s off imm : Int) (w : World) (hc : N (op &&& 7#8) = 4 ∨ N (op &&& 7#8) = 7) (hw : N (op &&& 240#8) = 48 ∨ N (op &&& 240#8) = 144) : Calls Tryd.prog 38 #[.agg #[.int .u8 (N op), .int .u8 d, .int .u8 s, .int .i16 off, .int .i32 imm]] w fun e w' => e = .returned (.bool (immS op imm)) ∧ Grown w w' := by
  have e : immS op imm = (imm != 0) := by unfold immS cls wh; rw [if_neg (fun h => h hc), if_neg (by omega), if_pos hw]
  rw [e]
  clear e
  cases b1 : (imm != 0) <;> rcases hc with fc | fc <;> rcases hw with fw | fw
  all_goals
    go_enter Tryd.func38, Tryd.ntmps38
    go_wp2
    go_ret
    exact ⟨rfl, by go_grown⟩
set_option maxHeartbeats 1000000 in
theorem imm_rest (op : B8) (d s off imm : Int) (w : World) (hc : N (op &&& 7#8) = 4 ∨ N (op &&& 7#8) = 7) (h1 : ¬ (N (op &&& 240#8) = 96 ∨ N (op &&& 240#8) = 112 ∨ N (op &&& 240#8) = 192)) (h2 : ¬ (N (op &&& 240#8) = 48 ∨ N (op &&& 240#8) = 144)) : Calls Tryd.prog 38 #[.agg #[.int .u8 (N op), .int .u8 d, .int .u8 s, .int .i16 off, .int .i32 imm]] w fun e w' => e = .returned (.bool (immS op imm)) ∧ Grown w w' := by
  have e : immS op imm = true := by unfold immS cls wh; rw [if_neg (fun h => h hc), if_neg h1, if_neg h2]
  rw [e]
  have k1 : (N (op &&& 240#8) == 96) = false := by simpa using fun h => h1 (.inl h)
  have k2 : (N (op &&& 240#8) == 112) = false := by simpa using fun h => h1 (.inr (.inl h))
  have k3 : (N (op &&& 240#8) == 192) = false := by simpa using fun h => h1 (.inr (.inr h))
  have k4 : (N (op &&& 240#8) == 48) = false := by simpa using fun h => h2 (.inl h)
  have k5 : (N (op &&& 240#8) == 144) = false := by simpa using fun h => h2 (.inr h)
  clear e h1 h2
  rcases hc with fc | fc
  all_goals
    go_enter Tryd.func38, Tryd.ntmps38
    go_wp2
    go_ret
    exact ⟨rfl, by go_grown⟩
theorem imm_any (op : B8) (d s off imm : Int) (w : World) : Calls Tryd.prog 38 #[.agg #[.int .u8 (N op), .int .u8 d, .int .u8 s, .int .i16 off, .int .i32 imm]] w fun e w' => e = .returned (.bool (immS op imm)) ∧ Grown w w' := by
  by_cases hc : N (op &&& 7#8) = 4 ∨ N (op &&& 7#8) = 7
  · by_cases h1 : N (op &&& 240#8) = 96 ∨ N (op &&& 240#8) = 112 ∨ N (op &&& 240#8) = 192
    · exact imm_shift op d s off imm w hc h1
    · by_cases h2 : N (op &&& 240#8) = 48 ∨ N (op &&& 240#8) = 144
      · exact imm_div op d s off imm w hc h2
      · exact imm_rest op d s off imm w hc h1 h2
  · exact imm_not op d s off imm w hc
end Go.Proofs.YthmebodklbhljaaDoor
