/-
  The contract of spans.Lsh.
-/
import Derived.Test.YtchjneodjaakdaaSp11
namespace Go.Proofs.Ytchjneodjaakdaa
open Go.RowKit
open Spn (Sp okS tightS anyS settledS commonS minW maxW endsS sendsS lshR)
theorem Z_beq (a b : BitVec 64) : (Z a == Z b) = (a == b) := by
  rw [Bool.eq_iff_iff]
  simp only [beq_iff_eq]
  exact ⟨Spn.Z_inj, fun h => by rw [h]⟩
attribute [local go_sem] u64_wrap ofInt_N ofInt_Nw u64_and wrap64_N ofInt_Z64 N_shrk Z_shrk shl_u shl_i
set_option maxHeartbeats 4000000 in
theorem sp_lsh (lo hi slo shi : BitVec 64) (n : Int) (h0 : -9223372036854775808 ≤ n) (h1 : n ≤ 9223372036854775807) (w : World) : Calls Try.prog 42 #[.agg #[.int .u64 (N lo), .int .u64 (N hi), .int .i64 (Z slo), .int .i64 (Z shi)], .int .i64 n] w fun e w' => e = .returned (.agg #[.int .u64 (N (lshR (settledS (⟨lo, hi, slo, shi⟩ : Sp)) (n % 64).toNat).lo), .int .u64 (N (lshR (settledS (⟨lo, hi, slo, shi⟩ : Sp)) (n % 64).toNat).hi), .int .i64 (Z (lshR (settledS (⟨lo, hi, slo, shi⟩ : Sp)) (n % 64).toNat).slo), .int .i64 (Z (lshR (settledS (⟨lo, hi, slo, shi⟩ : Sp)) (n % 64).toNat).shi)]) ∧ Grown w w' := by
  have HA := Lib.hid (fun w => sp_settled lo hi slo shi w)
  generalize settledS (⟨lo, hi, slo, shi⟩ : Sp) = a at *
  obtain ⟨k, hk⟩ : ∃ k : Nat, n % 64 = (k : Int) := ⟨(n % 64).toNat, by omega⟩
  have hk64 : k < 64 := by omega
  have hand : bits .and .i64 n 63 = (k : Int) := (and63 n h0 h1).trans hk
  have ek : (n % 64).toNat = k := by omega
  have k0 : (0 : Int) ≤ (k : Int) := by omega
  rw [ek]
  clear hk h0 h1 ek
  go_enter Try.func42, Try.ntmps42
  go_upto_region 2 with (go_at_call 59; ((with_reducible refine (HA.out _).mono ?_); rintro e wn ⟨rfl, hg⟩; have G : Grown (twoW w #[.int .u64 (N lo), .int .u64 (N hi), .int .i64 (Z slo), .int .i64 (Z shi)]) wn := hg; have gc := gcellI G; have gf := gfrozI G))
  have S := set1_of a G
  clear gc gf HA G hg
  generalize ((((wn.setCell ⟨w.heap.size, 0, none⟩ (.int .u64 (N a.lo))).setCell ⟨w.heap.size, 1, none⟩ (.int .u64 (N a.hi))).setCell ⟨w.heap.size, 2, none⟩ (.int .i64 (Z a.slo))).setCell ⟨w.heap.size, 3, none⟩ (.int .i64 (Z a.shi))) = W1 at *
  generalize w.heap.size + 1 = R at *
  generalize w.heap.size = A at *
  obtain ⟨a0, a1, a2, a3, r0, r1, r2, r3, f0, f1, f2, f3, hA, hR, gr, lo⟩ := id S
  clear gr
  have q0 : ∀ z : Held (fun y => Set1 w A R a y), z.w.cell? ⟨A, 0, none⟩ = some _ := fun z => z.h.a0
  have q1 : ∀ z : Held (fun y => Set1 w A R a y), z.w.cell? ⟨A, 1, none⟩ = some _ := fun z => z.h.a1
  have q2 : ∀ z : Held (fun y => Set1 w A R a y), z.w.cell? ⟨A, 2, none⟩ = some _ := fun z => z.h.a2
  have q3 : ∀ z : Held (fun y => Set1 w A R a y), z.w.cell? ⟨A, 3, none⟩ = some _ := fun z => z.h.a3
  refine wp_region_lex (fun y => Set1 w A R a y) (by kernel_rfl) (by kernel_rfl) (S.grown (Grown.drew (Grown.refl _))) (fun hNon => ?_)
  repeat (go_big_quiet_step (fail))
  refine wpQuiet_nil ?_
  clear a0 a1 a2 a3 r0 r1 r2 r3 f0 f1 f2 f3 hA hR lo S
  intro w5 S
  clear hNon q0 q1 q2 q3
  obtain ⟨a0, a1, a2, a3, r0, r1, r2, r3, f0, f1, f2, f3, hA, hR, gr, lo⟩ := id S
  clear gr
  go_upto_region 3 with fail
  have q0 : ∀ z : Held (fun y => Set1 w A R a y), z.w.cell? ⟨A, 0, none⟩ = some _ := fun z => z.h.a0
  have q1 : ∀ z : Held (fun y => Set1 w A R a y), z.w.cell? ⟨A, 1, none⟩ = some _ := fun z => z.h.a1
  have q2 : ∀ z : Held (fun y => Set1 w A R a y), z.w.cell? ⟨A, 2, none⟩ = some _ := fun z => z.h.a2
  have q3 : ∀ z : Held (fun y => Set1 w A R a y), z.w.cell? ⟨A, 3, none⟩ = some _ := fun z => z.h.a3
  refine wp_region_lex (fun y => Set1 w A R a y) (by kernel_rfl) (by kernel_rfl) (S.grown (Grown.drew (Grown.refl _))) (fun hNon => ?_)
  repeat (go_big_quiet_step (fail))
  refine wpQuiet_nil ?_
  clear a0 a1 a2 a3 r0 r1 r2 r3 f0 f1 f2 f3 hA hR lo S
  intro w5 S
  clear hNon q0 q1 q2 q3
  obtain ⟨a0, a1, a2, a3, r0, r1, r2, r3, f0, f1, f2, f3, hA, hR, gr, lo⟩ := id S
  clear gr
  cases y1 : (Z ((a.slo <<< k).sshiftRight k) == Z a.slo)
  · have e : lshR a k = settledS (commonS (endsS (a.lo <<< k) (a.hi <<< k) (N ((a.hi <<< k) >>> k) == N a.hi)) (sendsS (a.slo <<< k) (a.shi <<< k) false)) := by
      have y2 := y1
      rw [Z_beq] at y2
      unfold lshR
      rw [N_beq, y2]
      rw [Bool.false_and]
    have HE := Lib.hid e
    clear e
    go_upto_region 4 with fail
    have q0 : ∀ z : Held (fun y => Set1 w A R a y), z.w.cell? ⟨A, 0, none⟩ = some _ := fun z => z.h.a0
    have q1 : ∀ z : Held (fun y => Set1 w A R a y), z.w.cell? ⟨A, 1, none⟩ = some _ := fun z => z.h.a1
    have q2 : ∀ z : Held (fun y => Set1 w A R a y), z.w.cell? ⟨A, 2, none⟩ = some _ := fun z => z.h.a2
    have q3 : ∀ z : Held (fun y => Set1 w A R a y), z.w.cell? ⟨A, 3, none⟩ = some _ := fun z => z.h.a3
    refine wp_region_lex_tail (fun y => Set1 w A R a y) 28 (by kernel_rfl) (by kernel_rfl) (S.grown (Grown.drew (Grown.refl _))) (fun hNon => ?_)
    simp only [List.take_succ_cons, List.take_zero, List.drop_succ_cons, List.drop_zero]
    repeat (go_big_quiet_step ((first | (go_at_call 63; exact held_set1 _ (sp_ends _ _ _ _)) | (go_at_call 64; exact held_set1 _ (sp_sends _ _ _ _)) | (go_at_call 62; exact held_set1 _ (sp_common _ _ _ _ _ _ _ _ _)) | (go_at_call 59; exact held_set1 _ (sp_settled _ _ _ _ _)))))
    refine wpQuiet_nil ?_
    clear a0 a1 a2 a3 r0 r1 r2 r3 f0 f1 f2 f3 hA hR lo S
    intro w5 S
    clear hNon q0 q1 q2 q3
    obtain ⟨a0, a1, a2, a3, r0, r1, r2, r3, f0, f1, f2, f3, hA, hR, gr, lo⟩ := id S
    clear gr
    go_wp2
    refine bodyPost_ret (v := .agg #[.int .u64 (N (settledS (commonS (endsS (a.lo <<< k) (a.hi <<< k) (N ((a.hi <<< k) >>> k) == N a.hi)) (sendsS (a.slo <<< k) (a.shi <<< k) false))).lo), .int .u64 (N (settledS (commonS (endsS (a.lo <<< k) (a.hi <<< k) (N ((a.hi <<< k) >>> k) == N a.hi)) (sendsS (a.slo <<< k) (a.shi <<< k) false))).hi), .int .i64 (Z (settledS (commonS (endsS (a.lo <<< k) (a.hi <<< k) (N ((a.hi <<< k) >>> k) == N a.hi)) (sendsS (a.slo <<< k) (a.shi <<< k) false))).slo), .int .i64 (Z (settledS (commonS (endsS (a.lo <<< k) (a.hi <<< k) (N ((a.hi <<< k) >>> k) == N a.hi)) (sendsS (a.slo <<< k) (a.shi <<< k) false))).shi)]) (by simp [results, Try.results42, go_sem, r0, r1, r2, r3]) rfl ⟨by rw [HE.out], ((((S.gr.setCell (a := ⟨R, 0, none⟩) S.lo _).setCell (a := ⟨R, 1, none⟩) S.lo _).setCell (a := ⟨R, 2, none⟩) S.lo _).setCell (a := ⟨R, 3, none⟩) S.lo _)⟩
  · have e : lshR a k = settledS (commonS (endsS (a.lo <<< k) (a.hi <<< k) (N ((a.hi <<< k) >>> k) == N a.hi)) (sendsS (a.slo <<< k) (a.shi <<< k) (Z ((a.shi <<< k).sshiftRight k) == Z a.shi))) := by
      have y2 := y1
      rw [Z_beq] at y2
      unfold lshR
      rw [N_beq, y2]
      rw [Z_beq, Bool.true_and]
    have HE := Lib.hid e
    clear e
    go_upto_region 4 with fail
    have q0 : ∀ z : Held (fun y => Set1 w A R a y), z.w.cell? ⟨A, 0, none⟩ = some _ := fun z => z.h.a0
    have q1 : ∀ z : Held (fun y => Set1 w A R a y), z.w.cell? ⟨A, 1, none⟩ = some _ := fun z => z.h.a1
    have q2 : ∀ z : Held (fun y => Set1 w A R a y), z.w.cell? ⟨A, 2, none⟩ = some _ := fun z => z.h.a2
    have q3 : ∀ z : Held (fun y => Set1 w A R a y), z.w.cell? ⟨A, 3, none⟩ = some _ := fun z => z.h.a3
    refine wp_region_lex_tail (fun y => Set1 w A R a y) 28 (by kernel_rfl) (by kernel_rfl) (S.grown (Grown.drew (Grown.refl _))) (fun hNon => ?_)
    simp only [List.take_succ_cons, List.take_zero, List.drop_succ_cons, List.drop_zero]
    repeat (go_big_quiet_step ((first | (go_at_call 63; exact held_set1 _ (sp_ends _ _ _ _)) | (go_at_call 64; exact held_set1 _ (sp_sends _ _ _ _)) | (go_at_call 62; exact held_set1 _ (sp_common _ _ _ _ _ _ _ _ _)) | (go_at_call 59; exact held_set1 _ (sp_settled _ _ _ _ _)))))
    refine wpQuiet_nil ?_
    clear a0 a1 a2 a3 r0 r1 r2 r3 f0 f1 f2 f3 hA hR lo S
    intro w5 S
    clear hNon q0 q1 q2 q3
    obtain ⟨a0, a1, a2, a3, r0, r1, r2, r3, f0, f1, f2, f3, hA, hR, gr, lo⟩ := id S
    clear gr
    go_wp2
    refine bodyPost_ret (v := .agg #[.int .u64 (N (settledS (commonS (endsS (a.lo <<< k) (a.hi <<< k) (N ((a.hi <<< k) >>> k) == N a.hi)) (sendsS (a.slo <<< k) (a.shi <<< k) (Z ((a.shi <<< k).sshiftRight k) == Z a.shi)))).lo), .int .u64 (N (settledS (commonS (endsS (a.lo <<< k) (a.hi <<< k) (N ((a.hi <<< k) >>> k) == N a.hi)) (sendsS (a.slo <<< k) (a.shi <<< k) (Z ((a.shi <<< k).sshiftRight k) == Z a.shi)))).hi), .int .i64 (Z (settledS (commonS (endsS (a.lo <<< k) (a.hi <<< k) (N ((a.hi <<< k) >>> k) == N a.hi)) (sendsS (a.slo <<< k) (a.shi <<< k) (Z ((a.shi <<< k).sshiftRight k) == Z a.shi)))).slo), .int .i64 (Z (settledS (commonS (endsS (a.lo <<< k) (a.hi <<< k) (N ((a.hi <<< k) >>> k) == N a.hi)) (sendsS (a.slo <<< k) (a.shi <<< k) (Z ((a.shi <<< k).sshiftRight k) == Z a.shi)))).shi)]) (by simp [results, Try.results42, go_sem, r0, r1, r2, r3]) rfl ⟨by rw [HE.out], ((((S.gr.setCell (a := ⟨R, 0, none⟩) S.lo _).setCell (a := ⟨R, 1, none⟩) S.lo _).setCell (a := ⟨R, 2, none⟩) S.lo _).setCell (a := ⟨R, 3, none⟩) S.lo _)⟩
end Go.Proofs.Ytchjneodjaakdaa
