/-
  Contracts of package spans: ends, the small ones, what is settled.
-/
import Derived.Test.YtchjneodjaakdaaSp
namespace Go.Proofs.Ytchjneodjaakdaa
open Go.RowKit
open Spn (Sp umax umin smax smin plusS minusS emptyS okS tightS anyS settledS commonS minW maxW endsS sendsS plainS signedS constS uptoS halfW)
attribute [local go_sem] u64_wrap BitVec.ofInt_add BitVec.ofInt_mul ofInt_sub' ofInt_N ofInt_Nw u64_and u64_or u64_xor u64_andNot wrap64_N ofInt_Z64 max_N min_N max_Z min_Z max_Z0 min_Zm1

theorem gcellI {a b : World} (h : Grown a b) : ∀ k o, k < a.heap.size → b.cell? ⟨k, o, none⟩ = a.cell? ⟨k, o, none⟩ := fun _ _ hk => grown_cell h hk
theorem gfrozI {a b : World} (h : Grown a b) : ∀ k o, b.frozen? ⟨k, o, none⟩ = a.frozen? ⟨k, o, none⟩ := fun _ _ => h.2.1 _
set_option maxHeartbeats 1000000 in
theorem sp_plain (lo hi : BitVec 64) (w : World) : Calls Try.prog 69 #[.int .u64 (N lo), .int .u64 (N hi)] w fun e w' => e = .returned (.agg #[.int .u64 (N (plainS lo hi).lo), .int .u64 (N (plainS lo hi).hi), .int .i64 (Z (plainS lo hi).slo), .int .i64 (Z (plainS lo hi).shi)]) ∧ Grown w w' := by
  unfold plainS
  rw [Spn.Z_minW, Spn.Z_maxW]
  go_enter Try.func69, Try.ntmps69
  go_wp2
  go_returns
  exact ⟨rfl, by go_grown⟩
set_option maxHeartbeats 1000000 in
theorem sp_signed (lo hi : BitVec 64) (w : World) : Calls Try.prog 73 #[.int .i64 (Z lo), .int .i64 (Z hi)] w fun e w' => e = .returned (.agg #[.int .u64 (N (signedS lo hi).lo), .int .u64 (N (signedS lo hi).hi), .int .i64 (Z (signedS lo hi).slo), .int .i64 (Z (signedS lo hi).shi)]) ∧ Grown w w' := by
  unfold signedS
  rw [Spn.N0, Spn.Nm1]
  go_enter Try.func73, Try.ntmps73
  go_wp2
  go_returns
  exact ⟨rfl, by go_grown⟩
set_option maxHeartbeats 1000000 in
theorem sp_any  (w : World) : Calls Try.prog 79 #[] w fun e w' => e = .returned (.agg #[.int .u64 (N (anyS).lo), .int .u64 (N (anyS).hi), .int .i64 (Z (anyS).slo), .int .i64 (Z (anyS).shi)]) ∧ Grown w w' := by
  rw [show N anyS.lo = 0 by decide, show N anyS.hi = 18446744073709551615 by decide, show Z anyS.slo = -9223372036854775808 by decide, show Z anyS.shi = 9223372036854775807 by decide]
  go_enter Try.func79, Try.ntmps79
  go_wp2
  go_returns
  exact ⟨rfl, by go_grown⟩
set_option maxHeartbeats 1000000 in
theorem sp_const (v : BitVec 64) (w : World) : Calls Try.prog 72 #[.int .u64 (N v)] w fun e w' => e = .returned (.agg #[.int .u64 (N (constS v).lo), .int .u64 (N (constS v).hi), .int .i64 (Z (constS v).slo), .int .i64 (Z (constS v).shi)]) ∧ Grown w w' := by
  unfold constS
  go_enter Try.func72, Try.ntmps72
  go_wp2
  go_returns
  exact ⟨rfl, by go_grown⟩
set_option maxHeartbeats 1000000 in
theorem sp_common (alo ahi aslo ashi blo bhi bslo bshi : BitVec 64) (w : World) : Calls Try.prog 62 #[.agg #[.int .u64 (N alo), .int .u64 (N ahi), .int .i64 (Z aslo), .int .i64 (Z ashi)], .agg #[.int .u64 (N blo), .int .u64 (N bhi), .int .i64 (Z bslo), .int .i64 (Z bshi)]] w fun e w' => e = .returned (.agg #[.int .u64 (N (commonS (⟨alo, ahi, aslo, ashi⟩ : Sp) (⟨blo, bhi, bslo, bshi⟩ : Sp)).lo), .int .u64 (N (commonS (⟨alo, ahi, aslo, ashi⟩ : Sp) (⟨blo, bhi, bslo, bshi⟩ : Sp)).hi), .int .i64 (Z (commonS (⟨alo, ahi, aslo, ashi⟩ : Sp) (⟨blo, bhi, bslo, bshi⟩ : Sp)).slo), .int .i64 (Z (commonS (⟨alo, ahi, aslo, ashi⟩ : Sp) (⟨blo, bhi, bslo, bshi⟩ : Sp)).shi)]) ∧ Grown w w' := by
  unfold commonS
  go_enter Try.func62, Try.ntmps62
  go_wp2
  go_returns
  exact ⟨rfl, by go_grown⟩
end Go.Proofs.Ytchjneodjaakdaa
