/-
  Contracts of package spans: what is drawn, ends, the small ones.
-/
import Derived.Test.YtchjneodjaakdaaGrown
import Derived.Test.YtchjneodjaakdaaSpMath
import Derived.Test.YtchjneodjaakdaaShelf
import Derived.Test.YtchjneodjaakdaaProg
import Derived.Shelf.Spec.BitsCarry
import Derived.Handy
import Derived.Outline
import Derived.Lib.Hide
import Derived.BigQuiet
import Derived.Deep.RegionHeld3
import Derived.Deep.RegionWith
namespace Go.Proofs.Ytchjneodjaakdaa
open Go.RowKit
open Spn (Sp umax umin smax smin plusS minusS emptyS okS tightS anyS settledS commonS minW maxW endsS sendsS plainS signedS constS uptoS halfW)

theorem ofInt_Z64 (v : BitVec 64) : BitVec.ofInt 64 (Z v) = v := by unfold Z; simp
theorem max_N (a b : BitVec 64) : max (N a) (N b) = N (umax a b) := (Spn.N_umax a b).symm
theorem min_N (a b : BitVec 64) : min (N a) (N b) = N (umin a b) := (Spn.N_umin a b).symm
theorem max_Z (a b : BitVec 64) : max (Z a) (Z b) = Z (smax a b) := (Spn.Z_smax a b).symm
theorem min_Z (a b : BitVec 64) : min (Z a) (Z b) = Z (smin a b) := (Spn.Z_smin a b).symm
theorem max_Z0 (a : BitVec 64) : max (Z a) 0 = Z (smax a 0#64) := by rw [Spn.Z_smax, Spn.Z0]
theorem min_Zm1 (a : BitVec 64) : min (Z a) (-1) = Z (smin a (-1#64)) := by rw [Spn.Z_smin, Spn.Zm1]
attribute [local go_sem] u64_wrap BitVec.ofInt_add BitVec.ofInt_mul ofInt_sub' ofInt_N ofInt_Nw u64_and u64_or u64_xor u64_andNot wrap64_N ofInt_Z64 max_N min_N max_Z min_Z max_Z0 min_Zm1
theorem plus_t {lo hi slo shi : BitVec 64} (h : decide (0 ≤ Z shi) = true) : plusS (⟨lo, hi, slo, shi⟩ : Sp) = (umax lo (smax slo 0#64), umin hi shi) := by unfold plusS; rw [if_pos (of_decide_eq_true h)]
theorem plus_f {lo hi slo shi : BitVec 64} (h : decide (0 ≤ Z shi) = false) : plusS (⟨lo, hi, slo, shi⟩ : Sp) = (1#64, 0#64) := by unfold plusS; rw [if_neg (of_decide_eq_false h)]
theorem minus_t {lo hi slo shi : BitVec 64} (h : decide (Z slo < 0) = true) : minusS (⟨lo, hi, slo, shi⟩ : Sp) = (umax lo slo, umin hi (smin shi (-1#64))) := by unfold minusS; rw [if_pos (of_decide_eq_true h)]
theorem minus_f {lo hi slo shi : BitVec 64} (h : decide (Z slo < 0) = false) : minusS (⟨lo, hi, slo, shi⟩ : Sp) = (1#64, 0#64) := by unfold minusS; rw [if_neg (of_decide_eq_false h)]
theorem tight_ff {s : Sp} (h1 : emptyS (plusS s) = false) (h2 : emptyS (minusS s) = false) : okS s = true ∧ tightS s = ⟨(plusS s).1, (minusS s).2, (minusS s).1, (plusS s).2⟩ := by unfold okS tightS; rw [h1, h2]; exact ⟨rfl, rfl⟩
theorem tight_tt {s : Sp} (h1 : emptyS (plusS s) = true) (h2 : emptyS (minusS s) = true) : okS s = false ∧ tightS s = ⟨0#64, 0#64, 0#64, 0#64⟩ := by unfold okS tightS; rw [h1, h2]; exact ⟨rfl, rfl⟩
theorem tight_ft {s : Sp} (h1 : emptyS (plusS s) = false) (h2 : emptyS (minusS s) = true) : okS s = true ∧ tightS s = ⟨(plusS s).1, (plusS s).2, (plusS s).1, (plusS s).2⟩ := by unfold okS tightS; rw [h1, h2]; exact ⟨rfl, rfl⟩
theorem tight_tf {s : Sp} (h1 : emptyS (plusS s) = true) (h2 : emptyS (minusS s) = false) : okS s = true ∧ tightS s = ⟨(minusS s).1, (minusS s).2, (minusS s).1, (minusS s).2⟩ := by unfold okS tightS; rw [h1, h2]; exact ⟨rfl, rfl⟩
set_option maxHeartbeats 1000000 in
theorem sp_empty_true (a b : BitVec 64) (h : emptyS (a, b) = true) (w : World) : Calls Try.prog 81 #[.agg #[.int .u64 (N a), .int .u64 (N b)]] w fun e w' => e = .returned (.bool true) ∧ w' = w.alloc (.cells #[.int .u64 (N a), .int .u64 (N b)] 89) := by
  unfold emptyS at h
  have H := Lib.hid h
  clear h
  go_enter Try.func81, Try.ntmps81
  go_wp2
  go_ret
  exact ⟨congrArg (fun b => Ending.returned (.bool b)) H.out, rfl⟩
set_option maxHeartbeats 1000000 in
theorem sp_empty_false (a b : BitVec 64) (h : emptyS (a, b) = false) (w : World) : Calls Try.prog 81 #[.agg #[.int .u64 (N a), .int .u64 (N b)]] w fun e w' => e = .returned (.bool false) ∧ w' = w.alloc (.cells #[.int .u64 (N a), .int .u64 (N b)] 89) := by
  unfold emptyS at h
  have H := Lib.hid h
  clear h
  go_enter Try.func81, Try.ntmps81
  go_wp2
  go_ret
  exact ⟨congrArg (fun b => Ending.returned (.bool b)) H.out, rfl⟩
set_option maxHeartbeats 1000000 in
theorem sp_parts (lo hi slo shi : BitVec 64) (w : World) : Calls Try.prog 80 #[.agg #[.int .u64 (N lo), .int .u64 (N hi), .int .i64 (Z slo), .int .i64 (Z shi)]] w fun e w' => e = .returned (.tuple #[.agg #[.int .u64 (N (plusS (⟨lo, hi, slo, shi⟩ : Sp)).1), .int .u64 (N (plusS (⟨lo, hi, slo, shi⟩ : Sp)).2)], .agg #[.int .u64 (N (minusS (⟨lo, hi, slo, shi⟩ : Sp)).1), .int .u64 (N (minusS (⟨lo, hi, slo, shi⟩ : Sp)).2)]]) ∧ w' = (((w.alloc (.cells #[.int .u64 (N lo), .int .u64 (N hi), .int .i64 (Z slo), .int .i64 (Z shi)] 49)).alloc (.cells #[.int .u64 (N (plusS (⟨lo, hi, slo, shi⟩ : Sp)).1), .int .u64 (N (plusS (⟨lo, hi, slo, shi⟩ : Sp)).2)] 89)).alloc (.cells #[.int .u64 (N (minusS (⟨lo, hi, slo, shi⟩ : Sp)).1), .int .u64 (N (minusS (⟨lo, hi, slo, shi⟩ : Sp)).2)] 89)).drew := by
  cases h1 : decide (0 ≤ Z shi) <;> cases h2 : decide (Z slo < 0)
  all_goals
    first | rw [plus_t h1, minus_t h2] | rw [plus_t h1, minus_f h2] | rw [plus_f h1, minus_t h2] | rw [plus_f h1, minus_f h2]
    simp only [Spn.N1, Spn.N0]
    go_enter Try.func80, Try.ntmps80
    go_wp2
    go_region
  all_goals go_wp2
  all_goals go_returns
  all_goals exact ⟨rfl, rfl⟩
set_option maxHeartbeats 4000000 in
theorem sp_tight (lo hi slo shi : BitVec 64) (w : World) : Calls Try.prog 48 #[.agg #[.int .u64 (N lo), .int .u64 (N hi), .int .i64 (Z slo), .int .i64 (Z shi)]] w fun e w' => e = .returned (.tuple #[.agg #[.int .u64 (N (tightS (⟨lo, hi, slo, shi⟩ : Sp)).lo), .int .u64 (N (tightS (⟨lo, hi, slo, shi⟩ : Sp)).hi), .int .i64 (Z (tightS (⟨lo, hi, slo, shi⟩ : Sp)).slo), .int .i64 (Z (tightS (⟨lo, hi, slo, shi⟩ : Sp)).shi)], .bool (okS (⟨lo, hi, slo, shi⟩ : Sp))]) ∧ Grown w w' := by
  have HP := Lib.hid (fun w => sp_parts lo hi slo shi w)
  cases h1 : emptyS (plusS (⟨lo, hi, slo, shi⟩ : Sp)) <;> cases h2 : emptyS (minusS (⟨lo, hi, slo, shi⟩ : Sp))
  · have HE1 := Lib.hid (fun w => sp_empty_false (plusS (⟨lo, hi, slo, shi⟩ : Sp)).1 (plusS (⟨lo, hi, slo, shi⟩ : Sp)).2 h1 w)
    have HE2 := Lib.hid (fun w => sp_empty_false (minusS (⟨lo, hi, slo, shi⟩ : Sp)).1 (minusS (⟨lo, hi, slo, shi⟩ : Sp)).2 h2 w)
    rw [(tight_ff h1 h2).1, (tight_ff h1 h2).2]
    clear h1 h2
    generalize plusS (⟨lo, hi, slo, shi⟩ : Sp) = p at *
    generalize minusS (⟨lo, hi, slo, shi⟩ : Sp) = m at *
    go_enter Try.func48, Try.ntmps48
    go_wp2_with (first | (go_at_call 80; refine (HP.out _).mono ?_; rintro e w1 ⟨rfl, rfl⟩) | (go_at_call 81; refine (HE1.out _).mono ?_; rintro e w2 ⟨rfl, rfl⟩) | (go_at_call 81; refine (HE2.out _).mono ?_; rintro e w3 ⟨rfl, rfl⟩))
    go_returns
    exact ⟨rfl, by go_grown⟩
  · have HE1 := Lib.hid (fun w => sp_empty_false (plusS (⟨lo, hi, slo, shi⟩ : Sp)).1 (plusS (⟨lo, hi, slo, shi⟩ : Sp)).2 h1 w)
    have HE2 := Lib.hid (fun w => sp_empty_true (minusS (⟨lo, hi, slo, shi⟩ : Sp)).1 (minusS (⟨lo, hi, slo, shi⟩ : Sp)).2 h2 w)
    rw [(tight_ft h1 h2).1, (tight_ft h1 h2).2]
    clear h1 h2
    generalize plusS (⟨lo, hi, slo, shi⟩ : Sp) = p at *
    generalize minusS (⟨lo, hi, slo, shi⟩ : Sp) = m at *
    go_enter Try.func48, Try.ntmps48
    go_wp2_with (first | (go_at_call 80; refine (HP.out _).mono ?_; rintro e w1 ⟨rfl, rfl⟩) | (go_at_call 81; refine (HE1.out _).mono ?_; rintro e w2 ⟨rfl, rfl⟩) | (go_at_call 81; refine (HE2.out _).mono ?_; rintro e w3 ⟨rfl, rfl⟩))
    go_returns
    exact ⟨rfl, by go_grown⟩
  · have HE1 := Lib.hid (fun w => sp_empty_true (plusS (⟨lo, hi, slo, shi⟩ : Sp)).1 (plusS (⟨lo, hi, slo, shi⟩ : Sp)).2 h1 w)
    have HE2 := Lib.hid (fun w => sp_empty_false (minusS (⟨lo, hi, slo, shi⟩ : Sp)).1 (minusS (⟨lo, hi, slo, shi⟩ : Sp)).2 h2 w)
    rw [(tight_tf h1 h2).1, (tight_tf h1 h2).2]
    clear h1 h2
    generalize plusS (⟨lo, hi, slo, shi⟩ : Sp) = p at *
    generalize minusS (⟨lo, hi, slo, shi⟩ : Sp) = m at *
    go_enter Try.func48, Try.ntmps48
    go_wp2_with (first | (go_at_call 80; refine (HP.out _).mono ?_; rintro e w1 ⟨rfl, rfl⟩) | (go_at_call 81; refine (HE1.out _).mono ?_; rintro e w2 ⟨rfl, rfl⟩) | (go_at_call 81; refine (HE2.out _).mono ?_; rintro e w3 ⟨rfl, rfl⟩))
    go_returns
    exact ⟨rfl, by go_grown⟩
  · have HE1 := Lib.hid (fun w => sp_empty_true (plusS (⟨lo, hi, slo, shi⟩ : Sp)).1 (plusS (⟨lo, hi, slo, shi⟩ : Sp)).2 h1 w)
    have HE2 := Lib.hid (fun w => sp_empty_true (minusS (⟨lo, hi, slo, shi⟩ : Sp)).1 (minusS (⟨lo, hi, slo, shi⟩ : Sp)).2 h2 w)
    rw [(tight_tt h1 h2).1, (tight_tt h1 h2).2]
    clear h1 h2
    generalize plusS (⟨lo, hi, slo, shi⟩ : Sp) = p at *
    generalize minusS (⟨lo, hi, slo, shi⟩ : Sp) = m at *
    simp only [Spn.N0, Spn.Z0]
    go_enter Try.func48, Try.ntmps48
    go_wp2_with (first | (go_at_call 80; refine (HP.out _).mono ?_; rintro e w1 ⟨rfl, rfl⟩) | (go_at_call 81; refine (HE1.out _).mono ?_; rintro e w2 ⟨rfl, rfl⟩) | (go_at_call 81; refine (HE2.out _).mono ?_; rintro e w3 ⟨rfl, rfl⟩))
    go_returns
    exact ⟨rfl, by go_grown⟩
end Go.Proofs.Ytchjneodjaakdaa
