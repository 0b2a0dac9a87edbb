/-
  Contracts of package spans: what is settled, ends, products.
-/
import Derived.Test.YtchjneodjaakdaaSp2
namespace Go.Proofs.Ytchjneodjaakdaa
open Go.RowKit
open Spn (Sp umax umin smax smin plusS minusS emptyS okS tightS anyS settledS commonS minW maxW endsS sendsS plainS signedS constS uptoS halfW smulP smulK wayA wayB cyA cyB onesW)
attribute [local go_sem] u64_wrap BitVec.ofInt_add BitVec.ofInt_mul ofInt_sub' ofInt_N ofInt_Nw u64_and u64_or u64_xor u64_andNot wrap64_N ofInt_Z64 max_N min_N max_Z min_Z max_Z0 min_Zm1
theorem settled_t {s : Sp} (h : okS s = true) : settledS s = tightS s := by unfold settledS; rw [h]; rfl
theorem settled_f {s : Sp} (h : okS s = false) : settledS s = anyS := by unfold settledS; rw [h]; rfl
theorem w_add (a b : BitVec 64) : wrap64 (Z a + Z b) = Z (a + b) := by rw [← Z_ofInt, BitVec.ofInt_add, ofInt_Z64, ofInt_Z64]
theorem w_sub (a b : BitVec 64) : wrap64 (Z a - Z b) = Z (a - b) := by rw [← Z_ofInt, ofInt_sub', ofInt_Z64, ofInt_Z64]
theorem w_mul (a b : BitVec 64) : wrap64 (Z a * Z b) = Z (a * b) := by rw [← Z_ofInt, BitVec.ofInt_mul, ofInt_Z64, ofInt_Z64]
theorem w_div (a b : BitVec 64) : wrap64 ((Z a).tdiv (Z b)) = Z (a.sdiv b) := by
  rw [← Z_ofInt]
  unfold Z
  rw [BitVec.toInt_ofInt, BitVec.toInt_sdiv]
attribute [local go_sem] w_add w_sub w_mul w_div ofInt_pow
theorem anyS_val : N anyS.lo = 0 ∧ N anyS.hi = 18446744073709551615 ∧ Z anyS.slo = -9223372036854775808 ∧ Z anyS.shi = 9223372036854775807 := by decide
set_option maxHeartbeats 1000000 in
theorem sp_settled (lo hi slo shi : BitVec 64) (w : World) : Calls Try.prog 59 #[.agg #[.int .u64 (N lo), .int .u64 (N hi), .int .i64 (Z slo), .int .i64 (Z shi)]] w fun e w' => e = .returned (.agg #[.int .u64 (N (settledS (⟨lo, hi, slo, shi⟩ : Sp)).lo), .int .u64 (N (settledS (⟨lo, hi, slo, shi⟩ : Sp)).hi), .int .i64 (Z (settledS (⟨lo, hi, slo, shi⟩ : Sp)).slo), .int .i64 (Z (settledS (⟨lo, hi, slo, shi⟩ : Sp)).shi)]) ∧ Grown w w' := by
  cases h : okS (⟨lo, hi, slo, shi⟩ : Sp)
  · have HT := Lib.hid (fun w => (h ▸ sp_tight lo hi slo shi w : Calls Try.prog 48 #[.agg #[.int .u64 (N lo), .int .u64 (N hi), .int .i64 (Z slo), .int .i64 (Z shi)]] w fun e w' => e = .returned (.tuple #[.agg #[.int .u64 (N (tightS (⟨lo, hi, slo, shi⟩ : Sp)).lo), .int .u64 (N (tightS (⟨lo, hi, slo, shi⟩ : Sp)).hi), .int .i64 (Z (tightS (⟨lo, hi, slo, shi⟩ : Sp)).slo), .int .i64 (Z (tightS (⟨lo, hi, slo, shi⟩ : Sp)).shi)], .bool false]) ∧ Grown w w'))
    rw [settled_f h]
    clear h
    generalize tightS (⟨lo, hi, slo, shi⟩ : Sp) = t at *
    go_enter Try.func59, Try.ntmps59
    go_wp2_with (first | (go_at_call 48; refine (HT.out _).mono ?_; rintro e w1 ⟨rfl, g1⟩; have gc1 := gcellI g1; have gf1 := gfrozI g1; have gw1 : Grown w w1 := Grown.trans' (by go_grown) g1; have hz10 : w.heap.size < w1.heap.size := (by have := g1.2.2; (try simp at this); omega); have hz11 : w.heap.size + 1 < w1.heap.size := (by have := g1.2.2; (try simp at this); omega)) | (go_at_call 79; refine (sp_any _).mono ?_; rintro e w2 ⟨rfl, g2⟩; have gc2 := gcellI g2; have gf2 := gfrozI g2; have gw2 : Grown w w2 := Grown.trans' (by go_grown) g2; have hz20 : w.heap.size < w2.heap.size := (by have := g2.2.2; (try simp at this); omega); have hz21 : w.heap.size + 1 < w2.heap.size := (by have := g2.2.2; (try simp at this); omega); have hz22 : w1.heap.size < w2.heap.size := (by have := g2.2.2; (try simp at this); omega)))
    refine bodyPost_ret (v := .agg #[.int .u64 (N (anyS).lo), .int .u64 (N (anyS).hi), .int .i64 (Z (anyS).slo), .int .i64 (Z (anyS).shi)]) (by simp [results, Try.results59, go_sem, gc1, gc2, hz10, hz11]) rfl ⟨rfl, by go_grown⟩
  · have HT := Lib.hid (fun w => (h ▸ sp_tight lo hi slo shi w : Calls Try.prog 48 #[.agg #[.int .u64 (N lo), .int .u64 (N hi), .int .i64 (Z slo), .int .i64 (Z shi)]] w fun e w' => e = .returned (.tuple #[.agg #[.int .u64 (N (tightS (⟨lo, hi, slo, shi⟩ : Sp)).lo), .int .u64 (N (tightS (⟨lo, hi, slo, shi⟩ : Sp)).hi), .int .i64 (Z (tightS (⟨lo, hi, slo, shi⟩ : Sp)).slo), .int .i64 (Z (tightS (⟨lo, hi, slo, shi⟩ : Sp)).shi)], .bool true]) ∧ Grown w w'))
    rw [settled_t h]
    clear h
    generalize tightS (⟨lo, hi, slo, shi⟩ : Sp) = t at *
    go_enter Try.func59, Try.ntmps59
    go_wp2_with ((go_at_call 48; refine (HT.out _).mono ?_; rintro e w1 ⟨rfl, g1⟩; have gc1 := gcellI g1; have gf1 := gfrozI g1; have gw1 : Grown w w1 := Grown.trans' (by go_grown) g1; have hz10 : w.heap.size < w1.heap.size := (by have := g1.2.2; (try simp at this); omega); have hz11 : w.heap.size + 1 < w1.heap.size := (by have := g1.2.2; (try simp at this); omega)))
    refine bodyPost_ret (v := .agg #[.int .u64 (N (t).lo), .int .u64 (N (t).hi), .int .i64 (Z (t).slo), .int .i64 (Z (t).shi)]) (by simp [results, Try.results59, go_sem, gc1, hz11]) rfl ⟨rfl, by go_grown⟩
set_option maxHeartbeats 1000000 in
theorem sp_ends (lo hi : BitVec 64) (k : Bool) (w : World) : Calls Try.prog 63 #[.int .u64 (N lo), .int .u64 (N hi), .bool k] w fun e w' => e = .returned (.agg #[.int .u64 (N (endsS lo hi k).lo), .int .u64 (N (endsS lo hi k).hi), .int .i64 (Z (endsS lo hi k).slo), .int .i64 (Z (endsS lo hi k).shi)]) ∧ Grown w w' := by
  cases k
  · rw [show endsS lo hi false = anyS from rfl]
    go_enter Try.func63, Try.ntmps63
    go_wp2_with ((go_at_call 79; refine (sp_any _).mono ?_; rintro e w1 ⟨rfl, g1⟩; have gc1 := gcellI g1; have gf1 := gfrozI g1; have gw1 : Grown w w1 := Grown.trans' (by go_grown) g1; have hz10 : w.heap.size < w1.heap.size := (by have := g1.2.2; (try simp at this); omega)))
    refine bodyPost_ret (v := .agg #[.int .u64 (N (anyS).lo), .int .u64 (N (anyS).hi), .int .i64 (Z (anyS).slo), .int .i64 (Z (anyS).shi)]) (by simp [results, Try.results63, go_sem, gc1, hz10]) rfl ⟨rfl, by go_grown⟩
  · rw [show endsS lo hi true = plainS lo hi from rfl]
    go_enter Try.func63, Try.ntmps63
    go_wp2_with ((go_at_call 69; refine (sp_plain _ _ _).mono ?_; rintro e w1 ⟨rfl, g1⟩; have gc1 := gcellI g1; have gf1 := gfrozI g1; have gw1 : Grown w w1 := Grown.trans' (by go_grown) g1; have hz10 : w.heap.size < w1.heap.size := (by have := g1.2.2; (try simp at this); omega)))
    refine bodyPost_ret (v := .agg #[.int .u64 (N (plainS lo hi).lo), .int .u64 (N (plainS lo hi).hi), .int .i64 (Z (plainS lo hi).slo), .int .i64 (Z (plainS lo hi).shi)]) (by simp [results, Try.results63, go_sem, gc1, hz10]) rfl ⟨rfl, by go_grown⟩
set_option maxHeartbeats 1000000 in
theorem sp_sends (lo hi : BitVec 64) (k : Bool) (w : World) : Calls Try.prog 64 #[.int .i64 (Z lo), .int .i64 (Z hi), .bool k] w fun e w' => e = .returned (.agg #[.int .u64 (N (sendsS lo hi k).lo), .int .u64 (N (sendsS lo hi k).hi), .int .i64 (Z (sendsS lo hi k).slo), .int .i64 (Z (sendsS lo hi k).shi)]) ∧ Grown w w' := by
  cases k
  · rw [show sendsS lo hi false = anyS from rfl]
    go_enter Try.func64, Try.ntmps64
    go_wp2_with ((go_at_call 79; refine (sp_any _).mono ?_; rintro e w1 ⟨rfl, g1⟩; have gc1 := gcellI g1; have gf1 := gfrozI g1; have gw1 : Grown w w1 := Grown.trans' (by go_grown) g1; have hz10 : w.heap.size < w1.heap.size := (by have := g1.2.2; (try simp at this); omega)))
    refine bodyPost_ret (v := .agg #[.int .u64 (N (anyS).lo), .int .u64 (N (anyS).hi), .int .i64 (Z (anyS).slo), .int .i64 (Z (anyS).shi)]) (by simp [results, Try.results64, go_sem, gc1, hz10]) rfl ⟨rfl, by go_grown⟩
  · rw [show sendsS lo hi true = signedS lo hi from rfl]
    go_enter Try.func64, Try.ntmps64
    go_wp2_with ((go_at_call 73; refine (sp_signed _ _ _).mono ?_; rintro e w1 ⟨rfl, g1⟩; have gc1 := gcellI g1; have gf1 := gfrozI g1; have gw1 : Grown w w1 := Grown.trans' (by go_grown) g1; have hz10 : w.heap.size < w1.heap.size := (by have := g1.2.2; (try simp at this); omega)))
    refine bodyPost_ret (v := .agg #[.int .u64 (N (signedS lo hi).lo), .int .u64 (N (signedS lo hi).hi), .int .i64 (Z (signedS lo hi).slo), .int .i64 (Z (signedS lo hi).shi)]) (by simp [results, Try.results64, go_sem, gc1, hz10]) rfl ⟨rfl, by go_grown⟩
set_option maxHeartbeats 1000000 in
theorem sp_both (alo ahi aslo ashi blo bhi bslo bshi : BitVec 64) (w : World) : Calls Try.prog 49 #[.agg #[.int .u64 (N alo), .int .u64 (N ahi), .int .i64 (Z aslo), .int .i64 (Z ashi)], .agg #[.int .u64 (N blo), .int .u64 (N bhi), .int .i64 (Z bslo), .int .i64 (Z bshi)]] w fun e w' => e = .returned (.tuple #[.agg #[.int .u64 (N (tightS (commonS (⟨alo, ahi, aslo, ashi⟩ : Sp) (⟨blo, bhi, bslo, bshi⟩ : Sp))).lo), .int .u64 (N (tightS (commonS (⟨alo, ahi, aslo, ashi⟩ : Sp) (⟨blo, bhi, bslo, bshi⟩ : Sp))).hi), .int .i64 (Z (tightS (commonS (⟨alo, ahi, aslo, ashi⟩ : Sp) (⟨blo, bhi, bslo, bshi⟩ : Sp))).slo), .int .i64 (Z (tightS (commonS (⟨alo, ahi, aslo, ashi⟩ : Sp) (⟨blo, bhi, bslo, bshi⟩ : Sp))).shi)], .bool (okS (commonS (⟨alo, ahi, aslo, ashi⟩ : Sp) (⟨blo, bhi, bslo, bshi⟩ : Sp)))]) ∧ Grown w w' := by
  go_enter Try.func49, Try.ntmps49
  go_wp2_with (first | (go_at_call 62; refine (sp_common _ _ _ _ _ _ _ _ _).mono ?_; rintro e w1 ⟨rfl, g1⟩; have gc1 := gcellI g1; have gf1 := gfrozI g1; have gw1 : Grown w w1 := Grown.trans' (by go_grown) g1; have hz10 : w.heap.size < w1.heap.size := (by have := g1.2.2; (try simp at this); omega); have hz11 : w.heap.size + 1 < w1.heap.size := (by have := g1.2.2; (try simp at this); omega); have hz12 : w.heap.size + 1 + 1 < w1.heap.size := (by have := g1.2.2; (try simp at this); omega)) | (go_at_call 48; refine (sp_tight _ _ _ _ _).mono ?_; rintro e w2 ⟨rfl, g2⟩; have gc2 := gcellI g2; have gf2 := gfrozI g2; have gw2 : Grown w w2 := Grown.trans' (by go_grown) g2; have hz20 : w.heap.size < w2.heap.size := (by have := g2.2.2; (try simp at this); omega); have hz21 : w.heap.size + 1 < w2.heap.size := (by have := g2.2.2; (try simp at this); omega); have hz22 : w.heap.size + 1 + 1 < w2.heap.size := (by have := g2.2.2; (try simp at this); omega)))
  refine bodyPost_ret (v := .tuple #[.agg #[.int .u64 (N (tightS (commonS (⟨alo, ahi, aslo, ashi⟩ : Sp) (⟨blo, bhi, bslo, bshi⟩ : Sp))).lo), .int .u64 (N (tightS (commonS (⟨alo, ahi, aslo, ashi⟩ : Sp) (⟨blo, bhi, bslo, bshi⟩ : Sp))).hi), .int .i64 (Z (tightS (commonS (⟨alo, ahi, aslo, ashi⟩ : Sp) (⟨blo, bhi, bslo, bshi⟩ : Sp))).slo), .int .i64 (Z (tightS (commonS (⟨alo, ahi, aslo, ashi⟩ : Sp) (⟨blo, bhi, bslo, bshi⟩ : Sp))).shi)], .bool (okS (commonS (⟨alo, ahi, aslo, ashi⟩ : Sp) (⟨blo, bhi, bslo, bshi⟩ : Sp)))]) (by simp [results, Try.results49, go_sem, gc1, gc2, hz12, hz22]) rfl ⟨rfl, by go_grown⟩
set_option maxHeartbeats 1000000 in
theorem sp_sadd (a b : BitVec 64) (w : World) : Calls Try.prog 61 #[.int .i64 (Z a), .int .i64 (Z b)] w fun e w' => e = .returned (.tuple #[.int .i64 (Z (a + b)), .int .i64 (wayA a b)]) ∧ Grown w w' := by
  unfold wayA
  by_cases c1 : 0 < Z a ∧ 0 < Z b ∧ Z (a + b) < 0
  · rw [if_pos c1]
    obtain ⟨x1, x2, x3⟩ := c1
    go_enter Try.func61, Try.ntmps61
    go_wp2
    go_ret2
    exact ⟨by rw [← w_add a b]; rfl, by go_grown⟩
  rw [if_neg c1]
  by_cases c2 : Z a < 0 ∧ Z b < 0 ∧ 0 ≤ Z (a + b)
  · rw [if_pos c2]
    obtain ⟨x1, x2, x3⟩ := c2
    clear c1
    go_enter Try.func61, Try.ntmps61
    go_wp2
    all_goals go_ret2
    all_goals exact ⟨rfl, by go_grown⟩
  rw [if_neg c2]
  have H1 := Lib.hid c1
  have H2 := Lib.hid c2
  clear c1 c2
  go_enter Try.func61, Try.ntmps61
  go_wp2
  all_goals go_ret2
  all_goals first | exact ⟨rfl, by go_grown⟩ | exact absurd ⟨by assumption, by assumption, by assumption⟩ H1.out | exact absurd ⟨by assumption, by assumption, by assumption⟩ H2.out
set_option maxHeartbeats 1000000 in
theorem sp_ssub (a b : BitVec 64) (w : World) : Calls Try.prog 66 #[.int .i64 (Z a), .int .i64 (Z b)] w fun e w' => e = .returned (.tuple #[.int .i64 (Z (a - b)), .int .i64 (wayB a b)]) ∧ Grown w w' := by
  unfold wayB
  by_cases c1 : 0 ≤ Z a ∧ Z b < 0 ∧ Z (a - b) < 0
  · rw [if_pos c1]
    obtain ⟨x1, x2, x3⟩ := c1
    go_enter Try.func66, Try.ntmps66
    go_wp2
    go_ret2
    exact ⟨by rw [← w_sub a b]; rfl, by go_grown⟩
  rw [if_neg c1]
  by_cases c2 : Z a < 0 ∧ 0 < Z b ∧ 0 ≤ Z (a - b)
  · rw [if_pos c2]
    obtain ⟨x1, x2, x3⟩ := c2
    clear c1
    go_enter Try.func66, Try.ntmps66
    go_wp2
    all_goals go_ret2
    all_goals exact ⟨rfl, by go_grown⟩
  rw [if_neg c2]
  have H1 := Lib.hid c1
  have H2 := Lib.hid c2
  clear c1 c2
  go_enter Try.func66, Try.ntmps66
  go_wp2
  all_goals go_ret2
  all_goals first | exact ⟨rfl, by go_grown⟩ | exact absurd ⟨by assumption, by assumption, by assumption⟩ H1.out | exact absurd ⟨by assumption, by assumption, by assumption⟩ H2.out
set_option maxHeartbeats 4000000 in
theorem sp_smul (a b : BitVec 64) (w : World) : Calls Try.prog 68 #[.int .i64 (Z a), .int .i64 (Z b)] w fun e w' => e = .returned (.tuple #[.int .i64 (Z (smulP a b)), .bool (smulK a b)]) ∧ Grown w w' := by
  have hZ0 : ∀ v : BitVec 64, (Z v == 0) = decide (v = 0#64) := fun v => by rw [Bool.eq_iff_iff]; simp [Spn.Z_zero_iff]
  unfold smulP smulK
  by_cases ca : a = 0#64
  · rw [if_pos (.inl ca), if_pos (.inl ca)]
    have x1 : (Z a == 0) = true := by rw [hZ0]; exact decide_eq_true ca
    rw [Spn.Z0]
    clear hZ0 ca
    go_enter Try.func68, Try.ntmps68
    go_wp2
    go_ret2
    exact ⟨rfl, by go_grown⟩
  have x1 : (Z a == 0) = false := by rw [hZ0]; exact decide_eq_false ca
  by_cases cb : b = 0#64
  · rw [if_pos (.inr cb), if_pos (.inr cb)]
    have x2 : (Z b == 0) = true := by rw [hZ0]; exact decide_eq_true cb
    rw [Spn.Z0]
    clear hZ0 ca cb
    go_enter Try.func68, Try.ntmps68
    go_wp2
    go_ret2
    exact ⟨rfl, by go_grown⟩
  have x2 : (Z b == 0) = false := by rw [hZ0]; exact decide_eq_false cb
  rw [if_neg (not_or.2 ⟨ca, cb⟩), if_neg (not_or.2 ⟨ca, cb⟩)]
  have e1 : ((a * b).sdiv b == a) = (Z ((a * b).sdiv b) == Z a) := by rw [Bool.eq_iff_iff]; simp only [beq_iff_eq]; exact ⟨fun h => by rw [h], Spn.Z_inj⟩
  have e2 : (a == minW) = (Z a == -9223372036854775808) := by rw [← Spn.Z_minW, Bool.eq_iff_iff]; simp only [beq_iff_eq]; exact ⟨fun h => by rw [h], Spn.Z_inj⟩
  have e3 : (b == -1#64) = (Z b == -1) := by rw [← Spn.Zm1, Bool.eq_iff_iff]; simp only [beq_iff_eq]; exact ⟨fun h => by rw [h], Spn.Z_inj⟩
  rw [e1, e2, e3]
  have x3 : ¬ Z b = 0 := by simpa using x2
  clear e1 e2 e3 ca cb hZ0
  cases y1 : (Z ((a * b).sdiv b) == Z a) <;> cases y2 : (Z a == -9223372036854775808) <;> cases y3 : (Z b == -1)
  all_goals
    go_enter Try.func68, Try.ntmps68
    go_wp2
    go_ret2
    exact ⟨by first | rfl | (rw [← w_mul a b]; rfl), by go_grown⟩
set_option maxHeartbeats 1000000 in
theorem sp_ones (n : Nat) (hn : n ≤ 64) (w : World) : Calls Try.prog 71 #[.int .i64 (n : Int)] w fun e w' => e = .returned (.int .u64 (N (onesW n))) ∧ Grown w w' := by
  go_enter Try.func71, Try.ntmps71
  go_wp2
  go_ret
  exact ⟨rfl, by go_grown⟩
end Go.Proofs.Ytchjneodjaakdaa
