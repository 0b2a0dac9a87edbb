/-
  Contracts of package spans: quotients and what is left.
-/
import Derived.Test.YtchjneodjaakdaaSp9
namespace Go.Proofs.Ytchjneodjaakdaa
open Go.RowKit
open Spn (Sp umax umin smax smin plusS minusS emptyS okS tightS anyS settledS commonS minW maxW endsS sendsS plainS signedS constS uptoS halfW divR modR)
theorem max_N1 (a : BitVec 64) : max (N a) 1 = N (umax a 1#64) := by rw [Spn.N_umax, Spn.N1]
attribute [local go_sem] u64_wrap BitVec.ofInt_add BitVec.ofInt_mul ofInt_sub' ofInt_N ofInt_Nw u64_and u64_or u64_xor wrap64_N ofInt_Z64 max_N min_N max_Z min_Z max_N1 N_tdiv N_ediv
theorem sp_const0 (w : World) : Calls Try.prog 72 #[.int .u64 0] w fun e w' => e = .returned (.agg #[.int .u64 (N (constS 0#64).lo), .int .u64 (N (constS 0#64).hi), .int .i64 (Z (constS 0#64).slo), .int .i64 (Z (constS 0#64).shi)]) ∧ Grown w w' := by
  have h := sp_const 0#64 w
  simp only [Spn.N0] at h
  exact h
theorem divR_0 {a b : Sp} (h : (N b.hi == 0) = true) : divR a b = constS 0#64 := by unfold divR; rw [if_pos ((Spn.N_zero_iff _).2 (by simpa using h))]
theorem divR_1 {a b : Sp} (h : (N b.hi == 0) = false) (h2 : (N b.lo == 0) = true) : divR a b = settledS (plainS 0#64 (a.hi / umax b.lo 1#64)) := by
  unfold divR
  rw [if_neg (fun e => by have := (Spn.N_zero_iff _).1 e; simp [this] at h), if_pos ((Spn.N_zero_iff _).2 (by simpa using h2))]
theorem divR_2 {a b : Sp} (h : (N b.hi == 0) = false) (h2 : (N b.lo == 0) = false) : divR a b = settledS (plainS (a.lo / b.hi) (a.hi / umax b.lo 1#64)) := by
  unfold divR
  rw [if_neg (fun e => by have := (Spn.N_zero_iff _).1 e; simp [this] at h), if_neg (fun e => by have := (Spn.N_zero_iff _).1 e; simp [this] at h2)]
theorem modR_0 {a b : Sp} (h : decide (N a.hi < N b.lo) = true) : modR a b = a := by unfold modR; rw [if_pos (.inl (of_decide_eq_true h))]
theorem modR_1 {a b : Sp} (h : (N b.hi == 0) = true) : modR a b = a := by unfold modR; rw [if_pos (.inr ((Spn.N_zero_iff _).2 (by simpa using h)))]
theorem modR_2 {a b : Sp} (h : decide (N a.hi < N b.lo) = false) (h2 : (N b.hi == 0) = false) (h3 : decide (0 < N b.lo) = true) : modR a b = settledS (plainS 0#64 (umin a.hi (b.hi - 1#64))) := by
  unfold modR
  rw [if_neg (not_or.2 ⟨of_decide_eq_false h, fun e => by have := (Spn.N_zero_iff _).1 e; simp [this] at h2⟩), if_pos (of_decide_eq_true h3)]
theorem modR_3 {a b : Sp} (h : decide (N a.hi < N b.lo) = false) (h2 : (N b.hi == 0) = false) (h3 : decide (0 < N b.lo) = false) : modR a b = settledS (plainS 0#64 a.hi) := by
  unfold modR
  rw [if_neg (not_or.2 ⟨of_decide_eq_false h, fun e => by have := (Spn.N_zero_iff _).1 e; simp [this] at h2⟩), if_neg (of_decide_eq_false h3)]
theorem umax1_ne (a : BitVec 64) : ¬ N (umax a 1#64) = 0 := by
  rw [Spn.N_umax, Spn.N1]
  have := Int.le_max_right (N a) 1
  omega
set_option maxHeartbeats 4000000 in
theorem sp_div (alo ahi aslo ashi blo bhi bslo bshi : BitVec 64) (w : World) : Calls Try.prog 40 #[.agg #[.int .u64 (N alo), .int .u64 (N ahi), .int .i64 (Z aslo), .int .i64 (Z ashi)], .agg #[.int .u64 (N blo), .int .u64 (N bhi), .int .i64 (Z bslo), .int .i64 (Z bshi)]] w fun e w' => e = .returned (.agg #[.int .u64 (N (divR (settledS (⟨alo, ahi, aslo, ashi⟩ : Sp)) (settledS (⟨blo, bhi, bslo, bshi⟩ : Sp))).lo), .int .u64 (N (divR (settledS (⟨alo, ahi, aslo, ashi⟩ : Sp)) (settledS (⟨blo, bhi, bslo, bshi⟩ : Sp))).hi), .int .i64 (Z (divR (settledS (⟨alo, ahi, aslo, ashi⟩ : Sp)) (settledS (⟨blo, bhi, bslo, bshi⟩ : Sp))).slo), .int .i64 (Z (divR (settledS (⟨alo, ahi, aslo, ashi⟩ : Sp)) (settledS (⟨blo, bhi, bslo, bshi⟩ : Sp))).shi)]) ∧ Grown w w' := by
  have HA := Lib.hid (fun w => sp_settled alo ahi aslo ashi w)
  have HB := Lib.hid (fun w => sp_settled blo bhi bslo bshi w)
  generalize settledS (⟨alo, ahi, aslo, ashi⟩ : Sp) = a at *
  generalize settledS (⟨blo, bhi, bslo, bshi⟩ : Sp) = b at *
  go_enter Try.func40, Try.ntmps40
  go_upto_region 1 with fail
  go_cut [6] (fun _ wx => Set2 w w.heap.size (w.heap.size + 1) (w.heap.size + 1 + 1) a b wx)
  case first =>
    go_region_with (first | (go_at_call 59; (with_reducible refine (HA.out _).mono ?_); rintro e wn ⟨rfl, hg⟩; have G : Grown (three w #[.int .u64 (N alo), .int .u64 (N ahi), .int .i64 (Z aslo), .int .i64 (Z ashi)] #[.int .u64 (N blo), .int .u64 (N bhi), .int .i64 (Z bslo), .int .i64 (Z bshi)]) wn := Grown.trans' (by first | with_reducible assumption | (refine Grown.drew ?_; with_reducible assumption) | go_grown) hg; have gc := gcellI G; have gf := gfrozI G) | (go_at_call 59; (with_reducible refine (HB.out _).mono ?_); rintro e wn ⟨rfl, hg⟩; have G : Grown (three w #[.int .u64 (N alo), .int .u64 (N ahi), .int .i64 (Z aslo), .int .i64 (Z ashi)] #[.int .u64 (N blo), .int .u64 (N bhi), .int .i64 (Z bslo), .int .i64 (Z bshi)]) wn := Grown.trans' (by first | with_reducible assumption | (refine Grown.drew ?_; with_reducible assumption) | go_grown) hg; have gc := gcellI G; have gf := gfrozI G))
    all_goals
      go_wp2_with fail
      go_meet
      case rel => exact set2_of a b G
  case rest =>
    have S := hcut
    clear hcut HA HB
    obtain ⟨a0, a1, a2, a3, b0, b1, b2, b3, r0, r1, r2, r3, f0, f1, f2, f3, hA, hB, hR, gr, lo⟩ := id S
    clear gr
    generalize w.heap.size + 1 + 1 = R at *
    generalize w.heap.size + 1 = B at *
    generalize w.heap.size = A at *
    have u1 := umax1_ne b.lo
    cases z1 : (N b.hi == 0)
    rotate_left
    · skip
      go_wp2_with (first | (go_at_call 72; ((with_reducible refine (sp_const0 _).mono ?_); rintro e wn ⟨rfl, hg⟩; have S := Set2.grown S (Grown.trans' (by go_grown) hg); obtain ⟨a0, a1, a2, a3, b0, b1, b2, b3, r0, r1, r2, r3, f0, f1, f2, f3, hA, hB, hR, gr, lo⟩ := id S; clear gr; clear hg)) | fail)
      refine bodyPost_ret (v := .agg #[.int .u64 (N (constS 0#64).lo), .int .u64 (N (constS 0#64).hi), .int .i64 (Z (constS 0#64).slo), .int .i64 (Z (constS 0#64).shi)]) (by simp [results, Try.results40, go_sem, r0, r1, r2, r3, N_beq]; first | exact ⟨rfl, rfl, rfl, rfl⟩ | trace_state) rfl ⟨by rw [divR_0 z1], ((((S.gr.setCell (a := ⟨R, 0, none⟩) S.lo _).setCell (a := ⟨R, 1, none⟩) S.lo _).setCell (a := ⟨R, 2, none⟩) S.lo _).setCell (a := ⟨R, 3, none⟩) S.lo _)⟩
    have z1' : ¬ N b.hi = 0 := by simpa using z1
    cases z2 : (N b.lo == 0)
    · skip
      go_wp2_with (first | (go_at_call 69; ((with_reducible refine (sp_plain _ _ _).mono ?_); rintro e wn ⟨rfl, hg⟩; have S := Set2.grown S (Grown.trans' (by go_grown) hg); obtain ⟨a0, a1, a2, a3, b0, b1, b2, b3, r0, r1, r2, r3, f0, f1, f2, f3, hA, hB, hR, gr, lo⟩ := id S; clear gr; clear hg)) | (go_at_call 59; ((with_reducible refine (sp_settled _ _ _ _ _).mono ?_); rintro e wn ⟨rfl, hg⟩; have S := Set2.grown S (Grown.trans' (by go_grown) hg); obtain ⟨a0, a1, a2, a3, b0, b1, b2, b3, r0, r1, r2, r3, f0, f1, f2, f3, hA, hB, hR, gr, lo⟩ := id S; clear gr; clear hg)) | fail)
      refine bodyPost_ret (v := .agg #[.int .u64 (N (settledS (plainS (a.lo / b.hi) (a.hi / umax b.lo 1#64))).lo), .int .u64 (N (settledS (plainS (a.lo / b.hi) (a.hi / umax b.lo 1#64))).hi), .int .i64 (Z (settledS (plainS (a.lo / b.hi) (a.hi / umax b.lo 1#64))).slo), .int .i64 (Z (settledS (plainS (a.lo / b.hi) (a.hi / umax b.lo 1#64))).shi)]) (by simp [results, Try.results40, go_sem, r0, r1, r2, r3, N_beq]; first | exact ⟨rfl, rfl, rfl, rfl⟩ | trace_state) rfl ⟨by rw [divR_2 z1 z2], ((((S.gr.setCell (a := ⟨R, 0, none⟩) S.lo _).setCell (a := ⟨R, 1, none⟩) S.lo _).setCell (a := ⟨R, 2, none⟩) S.lo _).setCell (a := ⟨R, 3, none⟩) S.lo _)⟩
    · skip
      go_wp2_with (first | (go_at_call 69; ((with_reducible refine (sp_plain0 _ _).mono ?_); rintro e wn ⟨rfl, hg⟩; have S := Set2.grown S (Grown.trans' (by go_grown) hg); obtain ⟨a0, a1, a2, a3, b0, b1, b2, b3, r0, r1, r2, r3, f0, f1, f2, f3, hA, hB, hR, gr, lo⟩ := id S; clear gr; clear hg)) | (go_at_call 59; ((with_reducible refine (sp_settled _ _ _ _ _).mono ?_); rintro e wn ⟨rfl, hg⟩; have S := Set2.grown S (Grown.trans' (by go_grown) hg); obtain ⟨a0, a1, a2, a3, b0, b1, b2, b3, r0, r1, r2, r3, f0, f1, f2, f3, hA, hB, hR, gr, lo⟩ := id S; clear gr; clear hg)) | fail)
      refine bodyPost_ret (v := .agg #[.int .u64 (N (settledS (plainS 0#64 (a.hi / umax b.lo 1#64))).lo), .int .u64 (N (settledS (plainS 0#64 (a.hi / umax b.lo 1#64))).hi), .int .i64 (Z (settledS (plainS 0#64 (a.hi / umax b.lo 1#64))).slo), .int .i64 (Z (settledS (plainS 0#64 (a.hi / umax b.lo 1#64))).shi)]) (by simp [results, Try.results40, go_sem, r0, r1, r2, r3, N_beq]; first | exact ⟨rfl, rfl, rfl, rfl⟩ | trace_state) rfl ⟨by rw [divR_1 z1 z2], ((((S.gr.setCell (a := ⟨R, 0, none⟩) S.lo _).setCell (a := ⟨R, 1, none⟩) S.lo _).setCell (a := ⟨R, 2, none⟩) S.lo _).setCell (a := ⟨R, 3, none⟩) S.lo _)⟩
set_option maxHeartbeats 4000000 in
theorem sp_mod (alo ahi aslo ashi blo bhi bslo bshi : BitVec 64) (w : World) : Calls Try.prog 41 #[.agg #[.int .u64 (N alo), .int .u64 (N ahi), .int .i64 (Z aslo), .int .i64 (Z ashi)], .agg #[.int .u64 (N blo), .int .u64 (N bhi), .int .i64 (Z bslo), .int .i64 (Z bshi)]] w fun e w' => e = .returned (.agg #[.int .u64 (N (modR (settledS (⟨alo, ahi, aslo, ashi⟩ : Sp)) (settledS (⟨blo, bhi, bslo, bshi⟩ : Sp))).lo), .int .u64 (N (modR (settledS (⟨alo, ahi, aslo, ashi⟩ : Sp)) (settledS (⟨blo, bhi, bslo, bshi⟩ : Sp))).hi), .int .i64 (Z (modR (settledS (⟨alo, ahi, aslo, ashi⟩ : Sp)) (settledS (⟨blo, bhi, bslo, bshi⟩ : Sp))).slo), .int .i64 (Z (modR (settledS (⟨alo, ahi, aslo, ashi⟩ : Sp)) (settledS (⟨blo, bhi, bslo, bshi⟩ : Sp))).shi)]) ∧ Grown w w' := by
  have HA := Lib.hid (fun w => sp_settled alo ahi aslo ashi w)
  have HB := Lib.hid (fun w => sp_settled blo bhi bslo bshi w)
  generalize settledS (⟨alo, ahi, aslo, ashi⟩ : Sp) = a at *
  generalize settledS (⟨blo, bhi, bslo, bshi⟩ : Sp) = b at *
  go_enter Try.func41, Try.ntmps41
  go_upto_region 1 with fail
  go_cut [6] (fun _ wx => Set2 w w.heap.size (w.heap.size + 1) (w.heap.size + 1 + 1) a b wx)
  case first =>
    go_region_with (first | (go_at_call 59; (with_reducible refine (HA.out _).mono ?_); rintro e wn ⟨rfl, hg⟩; have G : Grown (three w #[.int .u64 (N alo), .int .u64 (N ahi), .int .i64 (Z aslo), .int .i64 (Z ashi)] #[.int .u64 (N blo), .int .u64 (N bhi), .int .i64 (Z bslo), .int .i64 (Z bshi)]) wn := Grown.trans' (by first | with_reducible assumption | (refine Grown.drew ?_; with_reducible assumption) | go_grown) hg; have gc := gcellI G; have gf := gfrozI G) | (go_at_call 59; (with_reducible refine (HB.out _).mono ?_); rintro e wn ⟨rfl, hg⟩; have G : Grown (three w #[.int .u64 (N alo), .int .u64 (N ahi), .int .i64 (Z aslo), .int .i64 (Z ashi)] #[.int .u64 (N blo), .int .u64 (N bhi), .int .i64 (Z bslo), .int .i64 (Z bshi)]) wn := Grown.trans' (by first | with_reducible assumption | (refine Grown.drew ?_; with_reducible assumption) | go_grown) hg; have gc := gcellI G; have gf := gfrozI G))
    all_goals
      go_wp2_with fail
      go_meet
      case rel => exact set2_of a b G
  case rest =>
    have S := hcut
    clear hcut HA HB
    obtain ⟨a0, a1, a2, a3, b0, b1, b2, b3, r0, r1, r2, r3, f0, f1, f2, f3, hA, hB, hR, gr, lo⟩ := id S
    clear gr
    generalize w.heap.size + 1 + 1 = R at *
    generalize w.heap.size + 1 = B at *
    generalize w.heap.size = A at *
    cases z1 : decide (N a.hi < N b.lo)
    rotate_left
    · skip
      go_wp2_with (fail)
      refine bodyPost_ret (v := .agg #[.int .u64 (N (a).lo), .int .u64 (N (a).hi), .int .i64 (Z (a).slo), .int .i64 (Z (a).shi)]) (by simp [results, Try.results41, go_sem, r0, r1, r2, r3, N_beq]; first | exact ⟨rfl, rfl, rfl, rfl⟩ | trace_state) rfl ⟨by rw [modR_0 z1], ((((S.gr.setCell (a := ⟨R, 0, none⟩) S.lo _).setCell (a := ⟨R, 1, none⟩) S.lo _).setCell (a := ⟨R, 2, none⟩) S.lo _).setCell (a := ⟨R, 3, none⟩) S.lo _)⟩
    cases z2 : (N b.hi == 0)
    rotate_left
    · skip
      go_wp2_with (fail)
      refine bodyPost_ret (v := .agg #[.int .u64 (N (a).lo), .int .u64 (N (a).hi), .int .i64 (Z (a).slo), .int .i64 (Z (a).shi)]) (by simp [results, Try.results41, go_sem, r0, r1, r2, r3, N_beq]; first | exact ⟨rfl, rfl, rfl, rfl⟩ | trace_state) rfl ⟨by rw [modR_1 z2], ((((S.gr.setCell (a := ⟨R, 0, none⟩) S.lo _).setCell (a := ⟨R, 1, none⟩) S.lo _).setCell (a := ⟨R, 2, none⟩) S.lo _).setCell (a := ⟨R, 3, none⟩) S.lo _)⟩
    cases z3 : decide (0 < N b.lo)
    · skip
      go_wp2_with (first | (go_at_call 69; ((with_reducible refine (sp_plain0 _ _).mono ?_); rintro e wn ⟨rfl, hg⟩; have S := Set2.grown S (Grown.trans' (by go_grown) hg); obtain ⟨a0, a1, a2, a3, b0, b1, b2, b3, r0, r1, r2, r3, f0, f1, f2, f3, hA, hB, hR, gr, lo⟩ := id S; clear gr; clear hg)) | (go_at_call 59; ((with_reducible refine (sp_settled _ _ _ _ _).mono ?_); rintro e wn ⟨rfl, hg⟩; have S := Set2.grown S (Grown.trans' (by go_grown) hg); obtain ⟨a0, a1, a2, a3, b0, b1, b2, b3, r0, r1, r2, r3, f0, f1, f2, f3, hA, hB, hR, gr, lo⟩ := id S; clear gr; clear hg)) | fail)
      refine bodyPost_ret (v := .agg #[.int .u64 (N (settledS (plainS 0#64 a.hi)).lo), .int .u64 (N (settledS (plainS 0#64 a.hi)).hi), .int .i64 (Z (settledS (plainS 0#64 a.hi)).slo), .int .i64 (Z (settledS (plainS 0#64 a.hi)).shi)]) (by simp [results, Try.results41, go_sem, r0, r1, r2, r3, N_beq]; first | exact ⟨rfl, rfl, rfl, rfl⟩ | trace_state) rfl ⟨by rw [modR_3 z1 z2 z3], ((((S.gr.setCell (a := ⟨R, 0, none⟩) S.lo _).setCell (a := ⟨R, 1, none⟩) S.lo _).setCell (a := ⟨R, 2, none⟩) S.lo _).setCell (a := ⟨R, 3, none⟩) S.lo _)⟩
    · skip
      go_wp2_with (first | (go_at_call 69; ((with_reducible refine (sp_plain0 _ _).mono ?_); rintro e wn ⟨rfl, hg⟩; have S := Set2.grown S (Grown.trans' (by go_grown) hg); obtain ⟨a0, a1, a2, a3, b0, b1, b2, b3, r0, r1, r2, r3, f0, f1, f2, f3, hA, hB, hR, gr, lo⟩ := id S; clear gr; clear hg)) | (go_at_call 59; ((with_reducible refine (sp_settled _ _ _ _ _).mono ?_); rintro e wn ⟨rfl, hg⟩; have S := Set2.grown S (Grown.trans' (by go_grown) hg); obtain ⟨a0, a1, a2, a3, b0, b1, b2, b3, r0, r1, r2, r3, f0, f1, f2, f3, hA, hB, hR, gr, lo⟩ := id S; clear gr; clear hg)) | fail)
      refine bodyPost_ret (v := .agg #[.int .u64 (N (settledS (plainS 0#64 (umin a.hi (b.hi - 1#64)))).lo), .int .u64 (N (settledS (plainS 0#64 (umin a.hi (b.hi - 1#64)))).hi), .int .i64 (Z (settledS (plainS 0#64 (umin a.hi (b.hi - 1#64)))).slo), .int .i64 (Z (settledS (plainS 0#64 (umin a.hi (b.hi - 1#64)))).shi)]) (by simp [results, Try.results41, go_sem, r0, r1, r2, r3, N_beq]; first | exact ⟨rfl, rfl, rfl, rfl⟩ | trace_state) rfl ⟨by rw [modR_2 z1 z2 z3], ((((S.gr.setCell (a := ⟨R, 0, none⟩) S.lo _).setCell (a := ⟨R, 1, none⟩) S.lo _).setCell (a := ⟨R, 2, none⟩) S.lo _).setCell (a := ⟨R, 3, none⟩) S.lo _)⟩
end Go.Proofs.Ytchjneodjaakdaa
