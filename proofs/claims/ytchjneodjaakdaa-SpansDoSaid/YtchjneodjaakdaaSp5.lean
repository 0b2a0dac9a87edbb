/-
  Contracts of package spans: has, in, valid; the law's own functions; the chapter's examples.
-/
import Derived.Test.YtchjneodjaakdaaSp4
namespace Go.Proofs.Ytchjneodjaakdaa
open Go.RowKit
open Spn (Sp umax umin smax smin plusS minusS emptyS okS tightS anyS settledS commonS minW maxW endsS sendsS plainS signedS constS uptoS halfW addR subR SHas SValid SIn)
attribute [local go_sem] u64_wrap BitVec.ofInt_add BitVec.ofInt_mul ofInt_sub' ofInt_N ofInt_Nw u64_and u64_or u64_xor u64_andNot wrap64_N ofInt_Z64 max_N min_N max_Z min_Z max_Z0 min_Zm1 w_add w_sub w_mul w_div

def hasB (s : Sp) (v : BitVec 64) : Bool := decide (N s.lo ≤ N v) && (decide (N v ≤ N s.hi) && (decide (Z s.slo ≤ Z v) && decide (Z v ≤ Z s.shi)))
def inB (a b : Sp) : Bool := decide (N a.lo ≤ N b.lo) && (decide (N b.hi ≤ N a.hi) && (decide (Z a.slo ≤ Z b.slo) && decide (Z b.shi ≤ Z a.shi)))
def validB (s : Sp) : Bool := decide (N s.lo ≤ N s.hi) && decide (Z s.slo ≤ Z s.shi)
theorem hasB_iff (s : Sp) (v : BitVec 64) : hasB s v = true ↔ SHas s v := by unfold hasB SHas; simp
theorem inB_iff (a b : Sp) : inB a b = true ↔ SIn a b := by unfold inB SIn; simp
theorem validB_iff (s : Sp) : validB s = true ↔ SValid s := by unfold validB SValid; simp
set_option maxHeartbeats 1000000 in
theorem sp_has (lo hi slo shi v : BitVec 64) (w : World) : Calls Try.prog 78 #[.agg #[.int .u64 (N lo), .int .u64 (N hi), .int .i64 (Z slo), .int .i64 (Z shi)], .int .u64 (N v)] w fun e w' => e = .returned (.bool (hasB (⟨lo, hi, slo, shi⟩ : Sp) v)) ∧ Grown w w' := by
  have key : hasB (⟨lo, hi, slo, shi⟩ : Sp) v = (decide (N lo ≤ N v) && (decide (N v ≤ N hi) && (decide (Z slo ≤ Z v) && (decide (Z v ≤ Z shi))))) := rfl
  rw [key]
  clear key
  cases b0 : decide (N lo ≤ N v)
  · skip
    go_enter Try.func78, Try.ntmps78
    go_wp2
    go_ret
    exact ⟨rfl, by go_grown⟩
  cases b1 : decide (N v ≤ N hi)
  · skip
    go_enter Try.func78, Try.ntmps78
    go_wp2
    go_ret
    exact ⟨rfl, by go_grown⟩
  cases b2 : decide (Z slo ≤ Z v)
  · skip
    go_enter Try.func78, Try.ntmps78
    go_wp2
    go_ret
    exact ⟨rfl, by go_grown⟩
  cases b3 : decide (Z v ≤ Z shi)
  · skip
    go_enter Try.func78, Try.ntmps78
    go_wp2
    go_ret
    exact ⟨rfl, by go_grown⟩
  go_enter Try.func78, Try.ntmps78
  go_wp2
  go_ret
  exact ⟨rfl, by go_grown⟩
set_option maxHeartbeats 1000000 in
theorem ref_has (lo hi slo shi v : BitVec 64) (w : World) : Calls Try.prog 58 #[.int .u64 (N lo), .int .u64 (N hi), .int .i64 (Z slo), .int .i64 (Z shi), .int .u64 (N v)] w fun e w' => e = .returned (.bool (hasB (⟨lo, hi, slo, shi⟩ : Sp) v)) ∧ Grown w w' := by
  have key : hasB (⟨lo, hi, slo, shi⟩ : Sp) v = (decide (N lo ≤ N v) && (decide (N v ≤ N hi) && (decide (Z slo ≤ Z v) && (decide (Z v ≤ Z shi))))) := rfl
  rw [key]
  clear key
  cases b0 : decide (N lo ≤ N v)
  · skip
    go_enter Try.func58, Try.ntmps58
    go_wp2
    go_ret
    exact ⟨rfl, by go_grown⟩
  cases b1 : decide (N v ≤ N hi)
  · skip
    go_enter Try.func58, Try.ntmps58
    go_wp2
    go_ret
    exact ⟨rfl, by go_grown⟩
  cases b2 : decide (Z slo ≤ Z v)
  · skip
    go_enter Try.func58, Try.ntmps58
    go_wp2
    go_ret
    exact ⟨rfl, by go_grown⟩
  cases b3 : decide (Z v ≤ Z shi)
  · skip
    go_enter Try.func58, Try.ntmps58
    go_wp2
    go_ret
    exact ⟨rfl, by go_grown⟩
  go_enter Try.func58, Try.ntmps58
  go_wp2
  go_ret
  exact ⟨rfl, by go_grown⟩
set_option maxHeartbeats 1000000 in
theorem sp_in (alo ahi aslo ashi blo bhi bslo bshi : BitVec 64) (w : World) : Calls Try.prog 50 #[.agg #[.int .u64 (N alo), .int .u64 (N ahi), .int .i64 (Z aslo), .int .i64 (Z ashi)], .agg #[.int .u64 (N blo), .int .u64 (N bhi), .int .i64 (Z bslo), .int .i64 (Z bshi)]] w fun e w' => e = .returned (.bool (inB (⟨alo, ahi, aslo, ashi⟩ : Sp) (⟨blo, bhi, bslo, bshi⟩ : Sp))) ∧ Grown w w' := by
  have key : inB (⟨alo, ahi, aslo, ashi⟩ : Sp) (⟨blo, bhi, bslo, bshi⟩ : Sp) = (decide (N alo ≤ N blo) && (decide (N bhi ≤ N ahi) && (decide (Z aslo ≤ Z bslo) && (decide (Z bshi ≤ Z ashi))))) := rfl
  rw [key]
  clear key
  cases b0 : decide (N alo ≤ N blo)
  · skip
    go_enter Try.func50, Try.ntmps50
    go_wp2
    go_ret
    exact ⟨rfl, by go_grown⟩
  cases b1 : decide (N bhi ≤ N ahi)
  · skip
    go_enter Try.func50, Try.ntmps50
    go_wp2
    go_ret
    exact ⟨rfl, by go_grown⟩
  cases b2 : decide (Z aslo ≤ Z bslo)
  · skip
    go_enter Try.func50, Try.ntmps50
    go_wp2
    go_ret
    exact ⟨rfl, by go_grown⟩
  cases b3 : decide (Z bshi ≤ Z ashi)
  · skip
    go_enter Try.func50, Try.ntmps50
    go_wp2
    go_ret
    exact ⟨rfl, by go_grown⟩
  go_enter Try.func50, Try.ntmps50
  go_wp2
  go_ret
  exact ⟨rfl, by go_grown⟩
set_option maxHeartbeats 1000000 in
theorem sp_valid (lo hi slo shi : BitVec 64) (w : World) : Calls Try.prog 32 #[.agg #[.int .u64 (N lo), .int .u64 (N hi), .int .i64 (Z slo), .int .i64 (Z shi)]] w fun e w' => e = .returned (.bool (validB (⟨lo, hi, slo, shi⟩ : Sp))) ∧ Grown w w' := by
  have key : validB (⟨lo, hi, slo, shi⟩ : Sp) = (decide (N lo ≤ N hi) && (decide (Z slo ≤ Z shi))) := rfl
  rw [key]
  clear key
  cases b0 : decide (N lo ≤ N hi)
  · skip
    go_enter Try.func32, Try.ntmps32
    go_wp2
    go_ret
    exact ⟨rfl, by go_grown⟩
  cases b1 : decide (Z slo ≤ Z shi)
  · skip
    go_enter Try.func32, Try.ntmps32
    go_wp2
    go_ret
    exact ⟨rfl, by go_grown⟩
  go_enter Try.func32, Try.ntmps32
  go_wp2
  go_ret
  exact ⟨rfl, by go_grown⟩
set_option maxHeartbeats 1000000 in
theorem law_has (lo hi slo shi v : BitVec 64) (w : World) : Calls Try.prog 33 #[.agg #[.int .u64 (N lo), .int .u64 (N hi), .int .i64 (Z slo), .int .i64 (Z shi)], .int .u64 (N v)] w fun e w' => e = .returned (.bool (hasB (⟨lo, hi, slo, shi⟩ : Sp) v)) ∧ Grown w w' := by
  go_enter Try.func33, Try.ntmps33
  go_wp2_with (go_at_call 58; (with_reducible refine (ref_has _ _ _ _ _ _).mono ?_); rintro e wn ⟨rfl, hg⟩)
  go_ret
  exact ⟨rfl, Grown.trans' (by go_grown) hg⟩
def uptoL (hi : BitVec 64) : Sp := ⟨0#64, hi, 0#64, hi⟩
set_option maxHeartbeats 1000000 in
theorem sp_upto (hi : BitVec 64) (h : N hi ≤ 9223372036854775807) (w : World) : Calls Try.prog 74 #[.int .u64 (N hi)] w fun e w' => e = .returned (.agg #[.int .u64 (N (uptoL hi).lo), .int .u64 (N (uptoL hi).hi), .int .i64 (Z (uptoL hi).slo), .int .i64 (Z (uptoL hi).shi)]) ∧ Grown w w' := by
  have HP := Lib.hid (fun w => (Spn.N0 ▸ sp_plain 0#64 hi w : Calls Try.prog 69 #[.int .u64 0, .int .u64 (N hi)] w fun e w' => e = .returned (.agg #[.int .u64 0, .int .u64 (N hi), .int .i64 (-9223372036854775808), .int .i64 9223372036854775807]) ∧ Grown w w'))
  have h2 : decide (N hi ≤ 9223372036854775807) = true := decide_eq_true h
  clear h
  unfold uptoL
  simp only [Spn.N0, Spn.Z0]
  go_enter Try.func74, Try.ntmps74
  go_wp2_with (go_at_call 69; (with_reducible refine (HP.out _).mono ?_); rintro e w1 ⟨rfl, g1⟩; have gc1 := gcellI g1; have gf1 := gfrozI g1; have gw1 : Grown w w1 := Grown.trans' (by go_grown) g1; have hz10 : w.heap.size < w1.heap.size := (by have := g1.2.2; (try simp at this); omega))
  refine bodyPost_ret (v := .agg #[.int .u64 0, .int .u64 (N hi), .int .i64 0, .int .i64 (Z hi)]) (by simp [results, Try.results74, go_sem, gc1, hz10]) rfl ⟨rfl, by go_grown⟩
def downW (v b : BitVec 64) : BitVec 64 := umin (umin (v - 9223372036854775808#64) b) 9223372036854775807#64
theorem ofInt_max : BitVec.ofInt 64 9223372036854775808 = 9223372036854775808#64 := by decide
theorem ofInt_smax : BitVec.ofInt 64 9223372036854775807 = 9223372036854775807#64 := by decide
theorem min_Nmax (a : BitVec 64) : min (N a) 9223372036854775807 = N (umin a 9223372036854775807#64) := by rw [Spn.N_umin, show N (9223372036854775807#64) = 9223372036854775807 by decide]
theorem N_max : N (9223372036854775807#64) = 9223372036854775807 := by decide
theorem wrap_max : wrap64 9223372036854775807 = Z (9223372036854775807#64) := by rw [← Z_ofInt, ofInt_smax]
theorem downW_N (v b : BitVec 64) : N (downW v b) = min (min (N (v - 9223372036854775808#64)) (N b)) 9223372036854775807 := by unfold downW; rw [Spn.N_umin, Spn.N_umin, N_max]
attribute [local go_sem] ofInt_max
set_option maxRecDepth 100000 in
set_option maxHeartbeats 1000000 in
theorem law_down (v b : BitVec 64) (w : World) : Calls Try.prog 56 #[.int .u64 (N v), .int .u64 (N b)] w fun e w' => e = .returned (.int .i64 (Z (downW v b))) ∧ w' = w := by
  go_enter Try.func56, Try.ntmps56
  go_wp2
  all_goals go_ret
  all_goals refine ⟨congrArg (fun x => Ending.returned (.int .i64 x)) ?_, rfl⟩
  all_goals first | exact wrap_max.trans (congrArg Z (show 9223372036854775807#64 = downW v b from N_inj (by rw [downW_N, N_max]; omega))) | exact congrArg Z (show b = downW v b from N_inj (by rw [downW_N]; omega)) | exact congrArg Z (show v - 9223372036854775808#64 = downW v b from N_inj (by rw [downW_N]; omega))
end Go.Proofs.Ytchjneodjaakdaa
