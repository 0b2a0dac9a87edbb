/-
  Contracts of package spans: bit by bit, quotients, shifts.
-/
import Derived.Test.YtchjneodjaakdaaSp5
import Derived.Test.YtchjneodjaakdaaRegT
namespace Go.Proofs.Ytchjneodjaakdaa
open Go.RowKit
open Spn (Sp umax umin smax smin plusS minusS emptyS okS tightS anyS settledS commonS minW maxW endsS sendsS plainS signedS constS uptoS halfW smulP smulK onesW lenW foldW alikeN alikeS andR orR xorR divR modR lshR rshR arshR low32R mulR)

theorem i64_xor (x y : Int) : bits .xor .i64 x y = Z (BitVec.ofInt 64 x ^^^ BitVec.ofInt 64 y) := by
  show IntKind.i64.wrap (N (BitVec.ofInt 64 x ^^^ BitVec.ofInt 64 y)) = _
  rw [← wrap64_N]
  unfold wrap64
  simp [IntKind.wrap, IntKind.bits, IntKind.signed]
  split <;> omega
theorem Z_div63 (v : BitVec 64) : Z v / 9223372036854775808 = Z (v.sshiftRight 63) := by
  have := Z_shr v 63
  exact this
theorem max_c (a b : Nat) : max (a : Int) (b : Int) = ((max a b : Nat) : Int) := by omega
theorem max_c0 (b : Nat) : max (0 : Int) (b : Int) = ((max 0 b : Nat) : Int) := by omega
theorem w_neg (a : BitVec 64) : wrap64 (-Z a) = Z (-a) := by
  rw [← Z_ofInt]
  congr 1
  apply BitVec.eq_of_toInt_eq
  unfold Z
  rw [BitVec.toInt_ofInt, BitVec.toInt_neg]
theorem w_sub1 (a : BitVec 64) : wrap64 (Z a - 1) = Z (a - 1#64) := by
  rw [← w_sub, show Z (1#64) = 1 by decide]
attribute [local go_sem] u64_wrap BitVec.ofInt_add BitVec.ofInt_mul ofInt_N ofInt_Nw u64_and u64_or u64_xor u64_andNot wrap64_N ofInt_Z64 max_N min_N max_Z min_Z max_Z0 min_Zm1 w_add w_sub w_mul w_div i64_xor Z_div63 max_c max_c0 w_neg w_sub1
theorem len_any (v : BitVec 64) (w : World) : Calls Try.prog 55 #[.int .u64 (N v)] w fun e w' => e = .returned (.int .i64 ((lenW v : Nat) : Int)) ∧ w' = w := by
  have h := Try.bits_Len64 (N v) w (N_nonneg v) (by have := N_lt v; omega)
  have e : (N v).toNat = v.toNat := by unfold N; simp
  rw [e] at h
  exact h
theorem sp_plain0 (hi : BitVec 64) (w : World) : Calls Try.prog 69 #[.int .u64 0, .int .u64 (N hi)] w fun e w' => e = .returned (.agg #[.int .u64 (N (plainS 0#64 hi).lo), .int .u64 (N (plainS 0#64 hi).hi), .int .i64 (Z (plainS 0#64 hi).slo), .int .i64 (Z (plainS 0#64 hi).shi)]) ∧ Grown w w' := by
  have h := sp_plain 0#64 hi w
  rw [Spn.N0] at h
  exact h
theorem held_set2 {w : World} {A B R : Nat} {a b : Sp} {P : Program} {f : FuncId} {args : Array Value} {v : Value} (x : Held (fun y => Set2 w A B R a b y))
    (h : Calls P f args x.w fun e w' => e = .returned v ∧ Grown x.w w') : Calls P f args x.w fun e w'' => e = .returned v ∧ ∃ y : Held (fun y => Set2 w A B R a b y), w'' = y.w := held_call (fun _ _ h g => Set2.grown h g) x h
set_option maxHeartbeats 4000000 in
theorem sp_alike (alo ahi aslo ashi blo bhi bslo bshi : BitVec 64) (w : World) : Calls Try.prog 70 #[.agg #[.int .u64 (N alo), .int .u64 (N ahi), .int .i64 (Z aslo), .int .i64 (Z ashi)], .agg #[.int .u64 (N blo), .int .u64 (N bhi), .int .i64 (Z bslo), .int .i64 (Z bshi)]] w fun e w' => e = .returned (.agg #[.int .u64 (N (alikeS (⟨alo, ahi, aslo, ashi⟩ : Sp) (⟨blo, bhi, bslo, bshi⟩ : Sp)).lo), .int .u64 (N (alikeS (⟨alo, ahi, aslo, ashi⟩ : Sp) (⟨blo, bhi, bslo, bshi⟩ : Sp)).hi), .int .i64 (Z (alikeS (⟨alo, ahi, aslo, ashi⟩ : Sp) (⟨blo, bhi, bslo, bshi⟩ : Sp)).slo), .int .i64 (Z (alikeS (⟨alo, ahi, aslo, ashi⟩ : Sp) (⟨blo, bhi, bslo, bshi⟩ : Sp)).shi)]) ∧ Grown w w' := by
  have j0 : ∀ w, (Instr.index 92 (.agg #[.int .i64 (Z aslo), .int .i64 (Z ashi), .int .i64 (Z bslo), .int .i64 (Z bshi)]) (.int .i64 0)).run Try.prog w = .ok (.int .i64 (Z aslo)) w := fun _ => by kernel_rfl
  have j1 : ∀ w, (Instr.index 92 (.agg #[.int .i64 (Z aslo), .int .i64 (Z ashi), .int .i64 (Z bslo), .int .i64 (Z bshi)]) (.int .i64 1)).run Try.prog w = .ok (.int .i64 (Z ashi)) w := fun _ => by kernel_rfl
  have j2 : ∀ w, (Instr.index 92 (.agg #[.int .i64 (Z aslo), .int .i64 (Z ashi), .int .i64 (Z bslo), .int .i64 (Z bshi)]) (.int .i64 2)).run Try.prog w = .ok (.int .i64 (Z bslo)) w := fun _ => by kernel_rfl
  have j3 : ∀ w, (Instr.index 92 (.agg #[.int .i64 (Z aslo), .int .i64 (Z ashi), .int .i64 (Z bslo), .int .i64 (Z bshi)]) (.int .i64 3)).run Try.prog w = .ok (.int .i64 (Z bshi)) w := fun _ => by kernel_rfl
  obtain ⟨nn, hnn⟩ : ∃ nn, max (lenW (aslo ^^^ aslo.sshiftRight 63)) (max (lenW (ashi ^^^ ashi.sshiftRight 63)) (max (lenW (bslo ^^^ bslo.sshiftRight 63)) (lenW (bshi ^^^ bshi.sshiftRight 63)))) = nn := ⟨_, rfl⟩
  have hN : alikeN (⟨alo, ahi, aslo, ashi⟩ : Sp) (⟨blo, bhi, bslo, bshi⟩ : Sp) = nn := by rw [← hnn]; unfold alikeN foldW; dsimp only; omega
  have hn : nn ≤ 63 := by rw [← hN]; exact (Spn.alikeN_le _ _).1
  have hA : alikeS (⟨alo, ahi, aslo, ashi⟩ : Sp) (⟨blo, bhi, bslo, bshi⟩ : Sp) = signedS (-(onesW nn) - 1#64) (onesW nn) := by unfold alikeS; rw [hN]
  rw [hA]
  clear hA hN
  go_enter Try.func70, Try.ntmps70
  go_wp2_with fail
  refine wp_loop_rounds 5 ?_
  rw [rounds_succ]
  go_wp2_with (first | (go_at_call 55; ((with_reducible refine (len_any _ _).mono ?_); rintro e w1 ⟨rfl, rfl⟩)) | fail)
  rw [rounds_succ]
  go_wp2_with (first | (go_at_call 55; ((with_reducible refine (len_any _ _).mono ?_); rintro e w1 ⟨rfl, rfl⟩)) | fail)
  rw [rounds_succ]
  go_wp2_with (first | (go_at_call 55; ((with_reducible refine (len_any _ _).mono ?_); rintro e w1 ⟨rfl, rfl⟩)) | fail)
  rw [rounds_succ]
  go_wp2_with (first | (go_at_call 55; ((with_reducible refine (len_any _ _).mono ?_); rintro e w1 ⟨rfl, rfl⟩)) | fail)
  rw [rounds_succ]
  go_wp2_with (first | (go_at_call 71; ((with_reducible refine (sp_ones _ (by omega) _).mono ?_); rintro e w1 ⟨rfl, g1⟩; have gc1 := gcellI g1; have gf1 := gfrozI g1; have gw1 : Grown w w1 := Grown.trans' (by go_grown) g1; have hz10 : w.heap.size < w1.heap.size := (by have := g1.2.2; (try simp at this); omega); have hz11 : w.heap.size + 1 < w1.heap.size := (by have := g1.2.2; (try simp at this); omega); have hz12 : w.heap.size + 1 + 1 < w1.heap.size := (by have := g1.2.2; (try simp at this); omega))) | (go_at_call 73; ((with_reducible refine (sp_signed _ _ _).mono ?_); rintro e w2 ⟨rfl, g2⟩; have gc2 := gcellI g2; have gf2 := gfrozI g2; have gw2 : Grown w w2 := Grown.trans' (by go_grown) g2; have hz20 : w.heap.size < w2.heap.size := (by have := g2.2.2; (try simp at this); omega); have hz21 : w.heap.size + 1 < w2.heap.size := (by have := g2.2.2; (try simp at this); omega); have hz22 : w.heap.size + 1 + 1 < w2.heap.size := (by have := g2.2.2; (try simp at this); omega))))
  refine bodyPost_ret (v := .agg #[.int .u64 (N (signedS (-(onesW nn) - 1#64) (onesW nn)).lo), .int .u64 (N (signedS (-(onesW nn) - 1#64) (onesW nn)).hi), .int .i64 (Z (signedS (-(onesW nn) - 1#64) (onesW nn)).slo), .int .i64 (Z (signedS (-(onesW nn) - 1#64) (onesW nn)).shi)]) (by simp [results, Try.results70, go_sem, gc1, gc2, hz12, hz22]) rfl ⟨rfl, by go_grown⟩
set_option maxHeartbeats 4000000 in
theorem sp_and (alo ahi aslo ashi blo bhi bslo bshi : BitVec 64) (w : World) : Calls Try.prog 37 #[.agg #[.int .u64 (N alo), .int .u64 (N ahi), .int .i64 (Z aslo), .int .i64 (Z ashi)], .agg #[.int .u64 (N blo), .int .u64 (N bhi), .int .i64 (Z bslo), .int .i64 (Z bshi)]] w fun e w' => e = .returned (.agg #[.int .u64 (N (andR (settledS (⟨alo, ahi, aslo, ashi⟩ : Sp)) (settledS (⟨blo, bhi, bslo, bshi⟩ : Sp))).lo), .int .u64 (N (andR (settledS (⟨alo, ahi, aslo, ashi⟩ : Sp)) (settledS (⟨blo, bhi, bslo, bshi⟩ : Sp))).hi), .int .i64 (Z (andR (settledS (⟨alo, ahi, aslo, ashi⟩ : Sp)) (settledS (⟨blo, bhi, bslo, bshi⟩ : Sp))).slo), .int .i64 (Z (andR (settledS (⟨alo, ahi, aslo, ashi⟩ : Sp)) (settledS (⟨blo, bhi, bslo, bshi⟩ : Sp))).shi)]) ∧ Grown w w' := by
  have HA := Lib.hid (fun w => sp_settled alo ahi aslo ashi w)
  have HB := Lib.hid (fun w => sp_settled blo bhi bslo bshi w)
  generalize settledS (⟨alo, ahi, aslo, ashi⟩ : Sp) = a at *
  generalize settledS (⟨blo, bhi, bslo, bshi⟩ : Sp) = b at *
  unfold andR
  go_enter Try.func37, Try.ntmps37
  go_upto_region 1 with fail
  go_cut [6] (fun _ wx => Set2 w w.heap.size (w.heap.size + 1) (w.heap.size + 1 + 1) a b wx)
  case first =>
    go_region_with (first | (go_at_call 59; (with_reducible refine (HA.out _).mono ?_); rintro e wn ⟨rfl, hg⟩; have G : Grown (three w #[.int .u64 (N alo), .int .u64 (N ahi), .int .i64 (Z aslo), .int .i64 (Z ashi)] #[.int .u64 (N blo), .int .u64 (N bhi), .int .i64 (Z bslo), .int .i64 (Z bshi)]) wn := Grown.trans' (by first | with_reducible assumption | (refine Grown.drew ?_; with_reducible assumption) | go_grown) hg; have gc := gcellI G; have gf := gfrozI G) | (go_at_call 59; (with_reducible refine (HB.out _).mono ?_); rintro e wn ⟨rfl, hg⟩; have G : Grown (three w #[.int .u64 (N alo), .int .u64 (N ahi), .int .i64 (Z aslo), .int .i64 (Z ashi)] #[.int .u64 (N blo), .int .u64 (N bhi), .int .i64 (Z bslo), .int .i64 (Z bshi)]) wn := Grown.trans' (by first | with_reducible assumption | (refine Grown.drew ?_; with_reducible assumption) | go_grown) hg; have gc := gcellI G; have gf := gfrozI G))
    all_goals
      go_wp2_with fail
      go_meet
      case rel => exact set2_of a b G
  case rest =>
    have S := hcut
    clear hcut HA HB
    obtain ⟨a0, a1, a2, a3, b0, b1, b2, b3, r0, r1, r2, r3, f0, f1, f2, f3, hA, hB, hR, gr, lo⟩ := id S
    clear gr
    generalize w.heap.size + 1 + 1 = R at *
    generalize w.heap.size + 1 = B at *
    generalize w.heap.size = A at *
    go_upto_region 2 with fail
    have qa0 : ∀ z : Held (fun y => Set2 w A B R a b y), z.w.cell? ⟨A, 0, none⟩ = some _ := fun z => z.h.a0
    have qa1 : ∀ z : Held (fun y => Set2 w A B R a b y), z.w.cell? ⟨A, 1, none⟩ = some _ := fun z => z.h.a1
    have qa2 : ∀ z : Held (fun y => Set2 w A B R a b y), z.w.cell? ⟨A, 2, none⟩ = some _ := fun z => z.h.a2
    have qa3 : ∀ z : Held (fun y => Set2 w A B R a b y), z.w.cell? ⟨A, 3, none⟩ = some _ := fun z => z.h.a3
    have qb0 : ∀ z : Held (fun y => Set2 w A B R a b y), z.w.cell? ⟨B, 0, none⟩ = some _ := fun z => z.h.b0
    have qb1 : ∀ z : Held (fun y => Set2 w A B R a b y), z.w.cell? ⟨B, 1, none⟩ = some _ := fun z => z.h.b1
    have qb2 : ∀ z : Held (fun y => Set2 w A B R a b y), z.w.cell? ⟨B, 2, none⟩ = some _ := fun z => z.h.b2
    have qb3 : ∀ z : Held (fun y => Set2 w A B R a b y), z.w.cell? ⟨B, 3, none⟩ = some _ := fun z => z.h.b3
    refine wp_region_lex_tail (fun y => Set2 w A B R a b y) 11 (by kernel_rfl) (by kernel_rfl) (S.grown (Grown.drew (Grown.refl _))) (fun hNon => ?_)
    simp only [List.take_succ_cons, List.take_zero, List.drop_succ_cons, List.drop_zero]
    repeat (go_big_quiet_step ((first | (go_at_call 69; exact held_set2 _ (sp_plain0 _ _)) | (go_at_call 70; exact held_set2 _ (sp_alike _ _ _ _ _ _ _ _ _)) | (go_at_call 62; exact held_set2 _ (sp_common _ _ _ _ _ _ _ _ _)) | (go_at_call 59; exact held_set2 _ (sp_settled _ _ _ _ _)))))
    refine wpQuiet_nil ?_
    clear a0 a1 a2 a3 b0 b1 b2 b3 r0 r1 r2 r3 f0 f1 f2 f3 hA hB hR lo S
    intro w5 S
    clear hNon qa0 qa1 qa2 qa3 qb0 qb1 qb2 qb3
    obtain ⟨a0, a1, a2, a3, b0, b1, b2, b3, r0, r1, r2, r3, f0, f1, f2, f3, hA, hB, hR, gr, lo⟩ := id S
    clear gr
    go_wp2
    refine bodyPost_ret (v := .agg #[.int .u64 (N (andR a b).lo), .int .u64 (N (andR a b).hi), .int .i64 (Z (andR a b).slo), .int .i64 (Z (andR a b).shi)]) (by simp [results, Try.results37, go_sem, r0, r1, r2, r3, N_beq]; first | exact ⟨rfl, rfl, rfl, rfl⟩ | trace_state) rfl ⟨rfl, ((((S.gr.setCell (a := ⟨R, 0, none⟩) S.lo _).setCell (a := ⟨R, 1, none⟩) S.lo _).setCell (a := ⟨R, 2, none⟩) S.lo _).setCell (a := ⟨R, 3, none⟩) S.lo _)⟩
set_option maxHeartbeats 4000000 in
theorem sp_or (alo ahi aslo ashi blo bhi bslo bshi : BitVec 64) (w : World) : Calls Try.prog 38 #[.agg #[.int .u64 (N alo), .int .u64 (N ahi), .int .i64 (Z aslo), .int .i64 (Z ashi)], .agg #[.int .u64 (N blo), .int .u64 (N bhi), .int .i64 (Z bslo), .int .i64 (Z bshi)]] w fun e w' => e = .returned (.agg #[.int .u64 (N (orR (settledS (⟨alo, ahi, aslo, ashi⟩ : Sp)) (settledS (⟨blo, bhi, bslo, bshi⟩ : Sp))).lo), .int .u64 (N (orR (settledS (⟨alo, ahi, aslo, ashi⟩ : Sp)) (settledS (⟨blo, bhi, bslo, bshi⟩ : Sp))).hi), .int .i64 (Z (orR (settledS (⟨alo, ahi, aslo, ashi⟩ : Sp)) (settledS (⟨blo, bhi, bslo, bshi⟩ : Sp))).slo), .int .i64 (Z (orR (settledS (⟨alo, ahi, aslo, ashi⟩ : Sp)) (settledS (⟨blo, bhi, bslo, bshi⟩ : Sp))).shi)]) ∧ Grown w w' := by
  have HA := Lib.hid (fun w => sp_settled alo ahi aslo ashi w)
  have HB := Lib.hid (fun w => sp_settled blo bhi bslo bshi w)
  generalize settledS (⟨alo, ahi, aslo, ashi⟩ : Sp) = a at *
  generalize settledS (⟨blo, bhi, bslo, bshi⟩ : Sp) = b at *
  unfold orR
  go_enter Try.func38, Try.ntmps38
  go_upto_region 1 with fail
  go_cut [6] (fun _ wx => Set2 w w.heap.size (w.heap.size + 1) (w.heap.size + 1 + 1) a b wx)
  case first =>
    go_region_with (first | (go_at_call 59; (with_reducible refine (HA.out _).mono ?_); rintro e wn ⟨rfl, hg⟩; have G : Grown (three w #[.int .u64 (N alo), .int .u64 (N ahi), .int .i64 (Z aslo), .int .i64 (Z ashi)] #[.int .u64 (N blo), .int .u64 (N bhi), .int .i64 (Z bslo), .int .i64 (Z bshi)]) wn := Grown.trans' (by first | with_reducible assumption | (refine Grown.drew ?_; with_reducible assumption) | go_grown) hg; have gc := gcellI G; have gf := gfrozI G) | (go_at_call 59; (with_reducible refine (HB.out _).mono ?_); rintro e wn ⟨rfl, hg⟩; have G : Grown (three w #[.int .u64 (N alo), .int .u64 (N ahi), .int .i64 (Z aslo), .int .i64 (Z ashi)] #[.int .u64 (N blo), .int .u64 (N bhi), .int .i64 (Z bslo), .int .i64 (Z bshi)]) wn := Grown.trans' (by first | with_reducible assumption | (refine Grown.drew ?_; with_reducible assumption) | go_grown) hg; have gc := gcellI G; have gf := gfrozI G))
    all_goals
      go_wp2_with fail
      go_meet
      case rel => exact set2_of a b G
  case rest =>
    have S := hcut
    clear hcut HA HB
    obtain ⟨a0, a1, a2, a3, b0, b1, b2, b3, r0, r1, r2, r3, f0, f1, f2, f3, hA, hB, hR, gr, lo⟩ := id S
    clear gr
    generalize w.heap.size + 1 + 1 = R at *
    generalize w.heap.size + 1 = B at *
    generalize w.heap.size = A at *
    go_upto_region 2 with fail
    have qa0 : ∀ z : Held (fun y => Set2 w A B R a b y), z.w.cell? ⟨A, 0, none⟩ = some _ := fun z => z.h.a0
    have qa1 : ∀ z : Held (fun y => Set2 w A B R a b y), z.w.cell? ⟨A, 1, none⟩ = some _ := fun z => z.h.a1
    have qa2 : ∀ z : Held (fun y => Set2 w A B R a b y), z.w.cell? ⟨A, 2, none⟩ = some _ := fun z => z.h.a2
    have qa3 : ∀ z : Held (fun y => Set2 w A B R a b y), z.w.cell? ⟨A, 3, none⟩ = some _ := fun z => z.h.a3
    have qb0 : ∀ z : Held (fun y => Set2 w A B R a b y), z.w.cell? ⟨B, 0, none⟩ = some _ := fun z => z.h.b0
    have qb1 : ∀ z : Held (fun y => Set2 w A B R a b y), z.w.cell? ⟨B, 1, none⟩ = some _ := fun z => z.h.b1
    have qb2 : ∀ z : Held (fun y => Set2 w A B R a b y), z.w.cell? ⟨B, 2, none⟩ = some _ := fun z => z.h.b2
    have qb3 : ∀ z : Held (fun y => Set2 w A B R a b y), z.w.cell? ⟨B, 3, none⟩ = some _ := fun z => z.h.b3
    refine wp_region_lex_tail (fun y => Set2 w A B R a b y) 18 (by kernel_rfl) (by kernel_rfl) (S.grown (Grown.drew (Grown.refl _))) (fun hNon => ?_)
    simp only [List.take_succ_cons, List.take_zero, List.drop_succ_cons, List.drop_zero]
    repeat (go_big_quiet_step ((first | (go_at_call 55; exact held_callS _ (len_any _ _)) | (go_at_call 71; exact held_set2 _ (sp_ones _ (Spn.lenW_le64 _) _)) | (go_at_call 69; exact held_set2 _ (sp_plain _ _ _)) | (go_at_call 70; exact held_set2 _ (sp_alike _ _ _ _ _ _ _ _ _)) | (go_at_call 62; exact held_set2 _ (sp_common _ _ _ _ _ _ _ _ _)) | (go_at_call 59; exact held_set2 _ (sp_settled _ _ _ _ _)))))
    refine wpQuiet_nil ?_
    clear a0 a1 a2 a3 b0 b1 b2 b3 r0 r1 r2 r3 f0 f1 f2 f3 hA hB hR lo S
    intro w5 S
    clear hNon qa0 qa1 qa2 qa3 qb0 qb1 qb2 qb3
    obtain ⟨a0, a1, a2, a3, b0, b1, b2, b3, r0, r1, r2, r3, f0, f1, f2, f3, hA, hB, hR, gr, lo⟩ := id S
    clear gr
    go_wp2
    refine bodyPost_ret (v := .agg #[.int .u64 (N (orR a b).lo), .int .u64 (N (orR a b).hi), .int .i64 (Z (orR a b).slo), .int .i64 (Z (orR a b).shi)]) (by simp [results, Try.results38, go_sem, r0, r1, r2, r3, N_beq]; first | exact ⟨rfl, rfl, rfl, rfl⟩ | trace_state) rfl ⟨rfl, ((((S.gr.setCell (a := ⟨R, 0, none⟩) S.lo _).setCell (a := ⟨R, 1, none⟩) S.lo _).setCell (a := ⟨R, 2, none⟩) S.lo _).setCell (a := ⟨R, 3, none⟩) S.lo _)⟩
set_option maxHeartbeats 4000000 in
theorem sp_xor (alo ahi aslo ashi blo bhi bslo bshi : BitVec 64) (w : World) : Calls Try.prog 39 #[.agg #[.int .u64 (N alo), .int .u64 (N ahi), .int .i64 (Z aslo), .int .i64 (Z ashi)], .agg #[.int .u64 (N blo), .int .u64 (N bhi), .int .i64 (Z bslo), .int .i64 (Z bshi)]] w fun e w' => e = .returned (.agg #[.int .u64 (N (xorR (settledS (⟨alo, ahi, aslo, ashi⟩ : Sp)) (settledS (⟨blo, bhi, bslo, bshi⟩ : Sp))).lo), .int .u64 (N (xorR (settledS (⟨alo, ahi, aslo, ashi⟩ : Sp)) (settledS (⟨blo, bhi, bslo, bshi⟩ : Sp))).hi), .int .i64 (Z (xorR (settledS (⟨alo, ahi, aslo, ashi⟩ : Sp)) (settledS (⟨blo, bhi, bslo, bshi⟩ : Sp))).slo), .int .i64 (Z (xorR (settledS (⟨alo, ahi, aslo, ashi⟩ : Sp)) (settledS (⟨blo, bhi, bslo, bshi⟩ : Sp))).shi)]) ∧ Grown w w' := by
  have HA := Lib.hid (fun w => sp_settled alo ahi aslo ashi w)
  have HB := Lib.hid (fun w => sp_settled blo bhi bslo bshi w)
  generalize settledS (⟨alo, ahi, aslo, ashi⟩ : Sp) = a at *
  generalize settledS (⟨blo, bhi, bslo, bshi⟩ : Sp) = b at *
  unfold xorR
  go_enter Try.func39, Try.ntmps39
  go_upto_region 1 with fail
  go_cut [6] (fun _ wx => Set2 w w.heap.size (w.heap.size + 1) (w.heap.size + 1 + 1) a b wx)
  case first =>
    go_region_with (first | (go_at_call 59; (with_reducible refine (HA.out _).mono ?_); rintro e wn ⟨rfl, hg⟩; have G : Grown (three w #[.int .u64 (N alo), .int .u64 (N ahi), .int .i64 (Z aslo), .int .i64 (Z ashi)] #[.int .u64 (N blo), .int .u64 (N bhi), .int .i64 (Z bslo), .int .i64 (Z bshi)]) wn := Grown.trans' (by first | with_reducible assumption | (refine Grown.drew ?_; with_reducible assumption) | go_grown) hg; have gc := gcellI G; have gf := gfrozI G) | (go_at_call 59; (with_reducible refine (HB.out _).mono ?_); rintro e wn ⟨rfl, hg⟩; have G : Grown (three w #[.int .u64 (N alo), .int .u64 (N ahi), .int .i64 (Z aslo), .int .i64 (Z ashi)] #[.int .u64 (N blo), .int .u64 (N bhi), .int .i64 (Z bslo), .int .i64 (Z bshi)]) wn := Grown.trans' (by first | with_reducible assumption | (refine Grown.drew ?_; with_reducible assumption) | go_grown) hg; have gc := gcellI G; have gf := gfrozI G))
    all_goals
      go_wp2_with fail
      go_meet
      case rel => exact set2_of a b G
  case rest =>
    have S := hcut
    clear hcut HA HB
    obtain ⟨a0, a1, a2, a3, b0, b1, b2, b3, r0, r1, r2, r3, f0, f1, f2, f3, hA, hB, hR, gr, lo⟩ := id S
    clear gr
    generalize w.heap.size + 1 + 1 = R at *
    generalize w.heap.size + 1 = B at *
    generalize w.heap.size = A at *
    go_upto_region 2 with fail
    have qa0 : ∀ z : Held (fun y => Set2 w A B R a b y), z.w.cell? ⟨A, 0, none⟩ = some _ := fun z => z.h.a0
    have qa1 : ∀ z : Held (fun y => Set2 w A B R a b y), z.w.cell? ⟨A, 1, none⟩ = some _ := fun z => z.h.a1
    have qa2 : ∀ z : Held (fun y => Set2 w A B R a b y), z.w.cell? ⟨A, 2, none⟩ = some _ := fun z => z.h.a2
    have qa3 : ∀ z : Held (fun y => Set2 w A B R a b y), z.w.cell? ⟨A, 3, none⟩ = some _ := fun z => z.h.a3
    have qb0 : ∀ z : Held (fun y => Set2 w A B R a b y), z.w.cell? ⟨B, 0, none⟩ = some _ := fun z => z.h.b0
    have qb1 : ∀ z : Held (fun y => Set2 w A B R a b y), z.w.cell? ⟨B, 1, none⟩ = some _ := fun z => z.h.b1
    have qb2 : ∀ z : Held (fun y => Set2 w A B R a b y), z.w.cell? ⟨B, 2, none⟩ = some _ := fun z => z.h.b2
    have qb3 : ∀ z : Held (fun y => Set2 w A B R a b y), z.w.cell? ⟨B, 3, none⟩ = some _ := fun z => z.h.b3
    refine wp_region_lex_tail (fun y => Set2 w A B R a b y) 13 (by kernel_rfl) (by kernel_rfl) (S.grown (Grown.drew (Grown.refl _))) (fun hNon => ?_)
    simp only [List.take_succ_cons, List.take_zero, List.drop_succ_cons, List.drop_zero]
    repeat (go_big_quiet_step ((first | (go_at_call 55; exact held_callS _ (len_any _ _)) | (go_at_call 71; exact held_set2 _ (sp_ones _ (Spn.lenW_le64 _) _)) | (go_at_call 69; exact held_set2 _ (sp_plain0 _ _)) | (go_at_call 70; exact held_set2 _ (sp_alike _ _ _ _ _ _ _ _ _)) | (go_at_call 62; exact held_set2 _ (sp_common _ _ _ _ _ _ _ _ _)) | (go_at_call 59; exact held_set2 _ (sp_settled _ _ _ _ _)))))
    refine wpQuiet_nil ?_
    clear a0 a1 a2 a3 b0 b1 b2 b3 r0 r1 r2 r3 f0 f1 f2 f3 hA hB hR lo S
    intro w5 S
    clear hNon qa0 qa1 qa2 qa3 qb0 qb1 qb2 qb3
    obtain ⟨a0, a1, a2, a3, b0, b1, b2, b3, r0, r1, r2, r3, f0, f1, f2, f3, hA, hB, hR, gr, lo⟩ := id S
    clear gr
    go_wp2
    refine bodyPost_ret (v := .agg #[.int .u64 (N (xorR a b).lo), .int .u64 (N (xorR a b).hi), .int .i64 (Z (xorR a b).slo), .int .i64 (Z (xorR a b).shi)]) (by simp [results, Try.results39, go_sem, r0, r1, r2, r3, N_beq]; first | exact ⟨rfl, rfl, rfl, rfl⟩ | trace_state) rfl ⟨rfl, ((((S.gr.setCell (a := ⟨R, 0, none⟩) S.lo _).setCell (a := ⟨R, 1, none⟩) S.lo _).setCell (a := ⟨R, 2, none⟩) S.lo _).setCell (a := ⟨R, 3, none⟩) S.lo _)⟩
end Go.Proofs.Ytchjneodjaakdaa
