/-
  Contracts of package spans: arithmetic.
-/
import Derived.Test.YtchjneodjaakdaaSpSet
import Derived.Deep.DeepCutAuto
namespace Go.Proofs.Ytchjneodjaakdaa
open Go.RowKit
open Spn (Sp umax umin smax smin plusS minusS emptyS okS tightS anyS settledS commonS minW maxW endsS sendsS plainS signedS constS uptoS halfW smulP smulK wayA wayB cyA cyB onesW addR subR mulR divR modR andR orR xorR lshR rshR arshR low32R alikeS)
attribute [local go_sem] u64_wrap BitVec.ofInt_add BitVec.ofInt_mul ofInt_sub' ofInt_N ofInt_Nw u64_and u64_or u64_xor u64_andNot wrap64_N ofInt_Z64 max_N min_N max_Z min_Z max_Z0 min_Zm1 w_add w_sub w_mul w_div

theorem add64_run (x y : BitVec 64) (w : World) : (callFunc 60 #[.int .u64 (N x), .int .u64 (N y), .int .u64 0]).run Try.prog w = .ok (.value (.tuple #[.int .u64 (N (x + y)), .int .u64 (N (cyA x y))])) w := by
  rw [run_callFunc_extern Try.func60 (by kernel_rfl) (by kernel_rfl) (by kernel_rfl) (e := add64Entry) (by kernel_rfl), run_add64 (N x) (N y) 0 (N_nonneg _) (N_nonneg _) (by omega) (by omega)]
  have h := Spn.cyA_iff x y
  have h1 := N_lt x
  have h2 := N_lt y
  have h3 := N_nonneg x
  have h4 := N_nonneg y
  have h5 := N_lt (x + y)
  have h6 := N_nonneg (x + y)
  have e1 : (N x + N y + 0) % 18446744073709551616 = N (x + y) := by omega
  have e2 : (N x + N y + 0) / 18446744073709551616 = N (cyA x y) := by
    rcases h with ⟨h7, h8⟩ | ⟨h7, h8⟩
    · rw [h8, Spn.N0]; omega
    · rw [h8, Spn.N1]; omega
  rw [e1, e2]
  rfl
theorem sub64_run (x y : BitVec 64) (w : World) : (callFunc 65 #[.int .u64 (N x), .int .u64 (N y), .int .u64 0]).run Try.prog w = .ok (.value (.tuple #[.int .u64 (N (x - y)), .int .u64 (N (cyB x y))])) w := by
  have h := Spn.cyB_iff x y
  have h1 := x.isLt
  have h2 := y.isLt
  have h5 := (x - y).isLt
  rw [run_callFunc_extern Try.func65 (by kernel_rfl) (by kernel_rfl) (by kernel_rfl) (e := sub64Entry) (by kernel_rfl)]
  have r := run_sub64 (P := Try.prog) x.toNat y.toNat 0 (by omega) w
  have e1 : (((x.toNat + 18446744073709551616 - y.toNat - 0) % 18446744073709551616 : Nat) : Int) = N (x - y) := by
    unfold N at *
    omega
  have e2 : ((if x.toNat < y.toNat + 0 then 1 else 0 : Nat) : Int) = N (cyB x y) := by
    rcases h with ⟨h7, h8⟩ | ⟨h7, h8⟩
    · rw [h8, Spn.N0, if_neg (by unfold N at *; omega)]; rfl
    · rw [h8, Spn.N1, if_pos (by unfold N at *; omega)]; rfl
  rw [e1, e2] at r
  exact (congrArg (fun z => z.andThen fun a w' => Result.ok (Next.value a) w') r)
theorem N_cy_beq (x y : BitVec 64) : (N x == N y) = (x == y) := N_beq x y
set_option maxHeartbeats 4000000 in
theorem sp_add (alo ahi aslo ashi blo bhi bslo bshi : BitVec 64) (w : World) : Calls Try.prog 34 #[.agg #[.int .u64 (N alo), .int .u64 (N ahi), .int .i64 (Z aslo), .int .i64 (Z ashi)], .agg #[.int .u64 (N blo), .int .u64 (N bhi), .int .i64 (Z bslo), .int .i64 (Z bshi)]] w fun e w' => e = .returned (.agg #[.int .u64 (N (addR (settledS (⟨alo, ahi, aslo, ashi⟩ : Sp)) (settledS (⟨blo, bhi, bslo, bshi⟩ : Sp))).lo), .int .u64 (N (addR (settledS (⟨alo, ahi, aslo, ashi⟩ : Sp)) (settledS (⟨blo, bhi, bslo, bshi⟩ : Sp))).hi), .int .i64 (Z (addR (settledS (⟨alo, ahi, aslo, ashi⟩ : Sp)) (settledS (⟨blo, bhi, bslo, bshi⟩ : Sp))).slo), .int .i64 (Z (addR (settledS (⟨alo, ahi, aslo, ashi⟩ : Sp)) (settledS (⟨blo, bhi, bslo, bshi⟩ : Sp))).shi)]) ∧ Grown w w' := by
  have HA := Lib.hid (fun w => sp_settled alo ahi aslo ashi w)
  have HB := Lib.hid (fun w => sp_settled blo bhi bslo bshi w)
  generalize settledS (⟨alo, ahi, aslo, ashi⟩ : Sp) = a at *
  generalize settledS (⟨blo, bhi, bslo, bshi⟩ : Sp) = b at *
  unfold addR
  go_enter Try.func34, Try.ntmps34
  go_upto_region 1 with fail
  go_cut [14] (fun _ wx => Set2 w w.heap.size (w.heap.size + 1) (w.heap.size + 1 + 1) a b wx)
  case first =>
    go_region_with (first | (go_at_call 59; (with_reducible refine (HA.out _).mono ?_); rintro e wn ⟨rfl, hg⟩; have G : Grown (three w #[.int .u64 (N alo), .int .u64 (N ahi), .int .i64 (Z aslo), .int .i64 (Z ashi)] #[.int .u64 (N blo), .int .u64 (N bhi), .int .i64 (Z bslo), .int .i64 (Z bshi)]) wn := Grown.trans' (by first | with_reducible assumption | (refine Grown.drew ?_; with_reducible assumption) | go_grown) hg; have gc := gcellI G; have gf := gfrozI G) | (go_at_call 59; (with_reducible refine (HB.out _).mono ?_); rintro e wn ⟨rfl, hg⟩; have G : Grown (three w #[.int .u64 (N alo), .int .u64 (N ahi), .int .i64 (Z aslo), .int .i64 (Z ashi)] #[.int .u64 (N blo), .int .u64 (N bhi), .int .i64 (Z bslo), .int .i64 (Z bshi)]) wn := Grown.trans' (by first | with_reducible assumption | (refine Grown.drew ?_; with_reducible assumption) | go_grown) hg; have gc := gcellI G; have gf := gfrozI G))
    all_goals
      go_wp2_with fail
      go_meet
      case rel => exact set2_of a b G
  case rest =>
    have S := hcut
    clear hcut HA HB
    obtain ⟨a0, a1, a2, a3, b0, b1, b2, b3, r0, r1, r2, r3, f0, f1, f2, f3, hA, hB, hR, gr, lo⟩ := id S
    clear gr
    generalize w.heap.size + 1 + 1 = R at *
    generalize w.heap.size + 1 = B at *
    generalize w.heap.size = A at *
    have c64 : ∀ (x y : BitVec 64) (w : World), (callFunc 60 #[.int .u64 (N x), .int .u64 (N y), .int .u64 0]).run Try.prog w = .ok (.value (.tuple #[.int .u64 (N (x + y)), .int .u64 (N (cyA x y))])) w := add64_run
    go_wp2_with (first | (go_at_call 61; ((with_reducible refine (sp_sadd _ _ _).mono ?_); rintro e wn ⟨rfl, hg⟩; have S := Set2.grown S (Grown.trans' (by go_grown) hg); obtain ⟨a0, a1, a2, a3, b0, b1, b2, b3, r0, r1, r2, r3, f0, f1, f2, f3, hA, hB, hR, gr, lo⟩ := id S; clear gr; clear hg)) | (go_at_call 63; ((with_reducible refine (sp_ends _ _ _ _).mono ?_); rintro e wn ⟨rfl, hg⟩; have S := Set2.grown S (Grown.trans' (by go_grown) hg); obtain ⟨a0, a1, a2, a3, b0, b1, b2, b3, r0, r1, r2, r3, f0, f1, f2, f3, hA, hB, hR, gr, lo⟩ := id S; clear gr; clear hg)) | (go_at_call 64; ((with_reducible refine (sp_sends _ _ _ _).mono ?_); rintro e wn ⟨rfl, hg⟩; have S := Set2.grown S (Grown.trans' (by go_grown) hg); obtain ⟨a0, a1, a2, a3, b0, b1, b2, b3, r0, r1, r2, r3, f0, f1, f2, f3, hA, hB, hR, gr, lo⟩ := id S; clear gr; clear hg)) | (go_at_call 62; ((with_reducible refine (sp_common _ _ _ _ _ _ _ _ _).mono ?_); rintro e wn ⟨rfl, hg⟩; have S := Set2.grown S (Grown.trans' (by go_grown) hg); obtain ⟨a0, a1, a2, a3, b0, b1, b2, b3, r0, r1, r2, r3, f0, f1, f2, f3, hA, hB, hR, gr, lo⟩ := id S; clear gr; clear hg)) | (go_at_call 59; ((with_reducible refine (sp_settled _ _ _ _ _).mono ?_); rintro e wn ⟨rfl, hg⟩; have S := Set2.grown S (Grown.trans' (by go_grown) hg); obtain ⟨a0, a1, a2, a3, b0, b1, b2, b3, r0, r1, r2, r3, f0, f1, f2, f3, hA, hB, hR, gr, lo⟩ := id S; clear gr; clear hg)))
    refine bodyPost_ret (v := .agg #[.int .u64 (N (addR a b).lo), .int .u64 (N (addR a b).hi), .int .i64 (Z (addR a b).slo), .int .i64 (Z (addR a b).shi)]) (by simp [results, Try.results34, go_sem, r0, r1, r2, r3, N_beq]; first | exact ⟨rfl, rfl, rfl, rfl⟩ | trace_state) rfl ⟨rfl, ((((S.gr.setCell (a := ⟨R, 0, none⟩) S.lo _).setCell (a := ⟨R, 1, none⟩) S.lo _).setCell (a := ⟨R, 2, none⟩) S.lo _).setCell (a := ⟨R, 3, none⟩) S.lo _)⟩
set_option maxHeartbeats 4000000 in
theorem sp_sub (alo ahi aslo ashi blo bhi bslo bshi : BitVec 64) (w : World) : Calls Try.prog 35 #[.agg #[.int .u64 (N alo), .int .u64 (N ahi), .int .i64 (Z aslo), .int .i64 (Z ashi)], .agg #[.int .u64 (N blo), .int .u64 (N bhi), .int .i64 (Z bslo), .int .i64 (Z bshi)]] w fun e w' => e = .returned (.agg #[.int .u64 (N (subR (settledS (⟨alo, ahi, aslo, ashi⟩ : Sp)) (settledS (⟨blo, bhi, bslo, bshi⟩ : Sp))).lo), .int .u64 (N (subR (settledS (⟨alo, ahi, aslo, ashi⟩ : Sp)) (settledS (⟨blo, bhi, bslo, bshi⟩ : Sp))).hi), .int .i64 (Z (subR (settledS (⟨alo, ahi, aslo, ashi⟩ : Sp)) (settledS (⟨blo, bhi, bslo, bshi⟩ : Sp))).slo), .int .i64 (Z (subR (settledS (⟨alo, ahi, aslo, ashi⟩ : Sp)) (settledS (⟨blo, bhi, bslo, bshi⟩ : Sp))).shi)]) ∧ Grown w w' := by
  have HA := Lib.hid (fun w => sp_settled alo ahi aslo ashi w)
  have HB := Lib.hid (fun w => sp_settled blo bhi bslo bshi w)
  generalize settledS (⟨alo, ahi, aslo, ashi⟩ : Sp) = a at *
  generalize settledS (⟨blo, bhi, bslo, bshi⟩ : Sp) = b at *
  unfold subR
  go_enter Try.func35, Try.ntmps35
  go_upto_region 1 with fail
  go_cut [14] (fun _ wx => Set2 w w.heap.size (w.heap.size + 1) (w.heap.size + 1 + 1) a b wx)
  case first =>
    go_region_with (first | (go_at_call 59; (with_reducible refine (HA.out _).mono ?_); rintro e wn ⟨rfl, hg⟩; have G : Grown (three w #[.int .u64 (N alo), .int .u64 (N ahi), .int .i64 (Z aslo), .int .i64 (Z ashi)] #[.int .u64 (N blo), .int .u64 (N bhi), .int .i64 (Z bslo), .int .i64 (Z bshi)]) wn := Grown.trans' (by first | with_reducible assumption | (refine Grown.drew ?_; with_reducible assumption) | go_grown) hg; have gc := gcellI G; have gf := gfrozI G) | (go_at_call 59; (with_reducible refine (HB.out _).mono ?_); rintro e wn ⟨rfl, hg⟩; have G : Grown (three w #[.int .u64 (N alo), .int .u64 (N ahi), .int .i64 (Z aslo), .int .i64 (Z ashi)] #[.int .u64 (N blo), .int .u64 (N bhi), .int .i64 (Z bslo), .int .i64 (Z bshi)]) wn := Grown.trans' (by first | with_reducible assumption | (refine Grown.drew ?_; with_reducible assumption) | go_grown) hg; have gc := gcellI G; have gf := gfrozI G))
    all_goals
      go_wp2_with fail
      go_meet
      case rel => exact set2_of a b G
  case rest =>
    have S := hcut
    clear hcut HA HB
    obtain ⟨a0, a1, a2, a3, b0, b1, b2, b3, r0, r1, r2, r3, f0, f1, f2, f3, hA, hB, hR, gr, lo⟩ := id S
    clear gr
    generalize w.heap.size + 1 + 1 = R at *
    generalize w.heap.size + 1 = B at *
    generalize w.heap.size = A at *
    have d64 : ∀ (x y : BitVec 64) (w : World), (callFunc 65 #[.int .u64 (N x), .int .u64 (N y), .int .u64 0]).run Try.prog w = .ok (.value (.tuple #[.int .u64 (N (x - y)), .int .u64 (N (cyB x y))])) w := sub64_run
    go_wp2_with (first | (go_at_call 66; ((with_reducible refine (sp_ssub _ _ _).mono ?_); rintro e wn ⟨rfl, hg⟩; have S := Set2.grown S (Grown.trans' (by go_grown) hg); obtain ⟨a0, a1, a2, a3, b0, b1, b2, b3, r0, r1, r2, r3, f0, f1, f2, f3, hA, hB, hR, gr, lo⟩ := id S; clear gr; clear hg)) | (go_at_call 63; ((with_reducible refine (sp_ends _ _ _ _).mono ?_); rintro e wn ⟨rfl, hg⟩; have S := Set2.grown S (Grown.trans' (by go_grown) hg); obtain ⟨a0, a1, a2, a3, b0, b1, b2, b3, r0, r1, r2, r3, f0, f1, f2, f3, hA, hB, hR, gr, lo⟩ := id S; clear gr; clear hg)) | (go_at_call 64; ((with_reducible refine (sp_sends _ _ _ _).mono ?_); rintro e wn ⟨rfl, hg⟩; have S := Set2.grown S (Grown.trans' (by go_grown) hg); obtain ⟨a0, a1, a2, a3, b0, b1, b2, b3, r0, r1, r2, r3, f0, f1, f2, f3, hA, hB, hR, gr, lo⟩ := id S; clear gr; clear hg)) | (go_at_call 62; ((with_reducible refine (sp_common _ _ _ _ _ _ _ _ _).mono ?_); rintro e wn ⟨rfl, hg⟩; have S := Set2.grown S (Grown.trans' (by go_grown) hg); obtain ⟨a0, a1, a2, a3, b0, b1, b2, b3, r0, r1, r2, r3, f0, f1, f2, f3, hA, hB, hR, gr, lo⟩ := id S; clear gr; clear hg)) | (go_at_call 59; ((with_reducible refine (sp_settled _ _ _ _ _).mono ?_); rintro e wn ⟨rfl, hg⟩; have S := Set2.grown S (Grown.trans' (by go_grown) hg); obtain ⟨a0, a1, a2, a3, b0, b1, b2, b3, r0, r1, r2, r3, f0, f1, f2, f3, hA, hB, hR, gr, lo⟩ := id S; clear gr; clear hg)))
    refine bodyPost_ret (v := .agg #[.int .u64 (N (subR a b).lo), .int .u64 (N (subR a b).hi), .int .i64 (Z (subR a b).slo), .int .i64 (Z (subR a b).shi)]) (by simp [results, Try.results35, go_sem, r0, r1, r2, r3, N_beq]; first | exact ⟨rfl, rfl, rfl, rfl⟩ | trace_state) rfl ⟨rfl, ((((S.gr.setCell (a := ⟨R, 0, none⟩) S.lo _).setCell (a := ⟨R, 1, none⟩) S.lo _).setCell (a := ⟨R, 2, none⟩) S.lo _).setCell (a := ⟨R, 3, none⟩) S.lo _)⟩
end Go.Proofs.Ytchjneodjaakdaa
