/-
  The contract of spans.Mul.
-/
import Derived.Test.YtchjneodjaakdaaSp9
namespace Go.Proofs.Ytchjneodjaakdaa
open Go.RowKit
open Spn (Sp umax umin smax smin okS tightS anyS settledS commonS minW maxW endsS sendsS smulP smulK mulHi mLo mHi mK mulR)
theorem min_Zmax (a : BitVec 64) : min 9223372036854775807 (Z a) = Z (smin maxW a) := by rw [Spn.Z_smin, Spn.Z_maxW]
theorem max_Zmin (a : BitVec 64) : max (-9223372036854775808) (Z a) = Z (smax minW a) := by rw [Spn.Z_smax, Spn.Z_minW]
attribute [local go_sem] u64_wrap BitVec.ofInt_add BitVec.ofInt_mul ofInt_N ofInt_Nw wrap64_N ofInt_Z64 max_N min_N max_Z min_Z w_add w_sub w_mul w_div min_Zmax max_Zmin
theorem mul64_any (x y : BitVec 64) (w : World) : Calls Try.prog 67 #[.int .u64 (N x), .int .u64 (N y)] w fun e w' => e = .returned (.tuple #[.int .u64 (N (mulHi x y)), .int .u64 (N (x * y))]) ∧ w' = w := by
  have h := Try.bits_Mul64 x.toNat y.toNat x.isLt y.isLt w
  have hl : x.toNat * y.toNat < 18446744073709551616 * 18446744073709551616 := Nat.mul_lt_mul'' x.isLt y.isLt
  have e1 : ((x.toNat * y.toNat / 18446744073709551616 : Nat) : Int) = N (mulHi x y) := by
    unfold mulHi N
    rw [BitVec.toNat_ofNat]
    have : x.toNat * y.toNat / 18446744073709551616 < 18446744073709551616 := Nat.div_lt_of_lt_mul hl
    rw [Nat.mod_eq_of_lt this]
  have e2 : ((x.toNat * y.toNat % 18446744073709551616 : Nat) : Int) = N (x * y) := by
    unfold N
    rw [BitVec.toNat_mul]
  rw [e1, e2] at h
  exact h
/-- Two arguments, the result's place, and a span of one's own. -/
def Set3 (w : World) (A B R C : Nat) (a b r : Sp) (W : World) : Prop := Set2 w A B R a b W ∧ (W.cell? ⟨C, 0, none⟩ = some (.int .u64 (N r.lo)) ∧ W.cell? ⟨C, 1, none⟩ = some (.int .u64 (N r.hi)) ∧ W.cell? ⟨C, 2, none⟩ = some (.int .i64 (Z r.slo)) ∧ W.cell? ⟨C, 3, none⟩ = some (.int .i64 (Z r.shi)) ∧ C < W.heap.size)
theorem Set3.grown {w : World} {A B R C : Nat} {a b r : Sp} {W W' : World} (h : Set3 w A B R C a b r W) (g : Grown W W') : Set3 w A B R C a b r W' :=
  ⟨h.1.grown g, grown_cellAt g h.2.2.2.2.2 h.2.1, grown_cellAt g h.2.2.2.2.2 h.2.2.1, grown_cellAt g h.2.2.2.2.2 h.2.2.2.1, grown_cellAt g h.2.2.2.2.2 h.2.2.2.2.1, Nat.lt_of_lt_of_le h.2.2.2.2.2 g.2.2⟩
theorem held_set3 {w : World} {A B R C : Nat} {a b r : Sp} {P : Program} {f : FuncId} {args : Array Value} {v : Value} (x : Held (fun y => Set3 w A B R C a b r y))
    (h : Calls P f args x.w fun e w' => e = .returned v ∧ Grown x.w w') : Calls P f args x.w fun e w'' => e = .returned v ∧ ∃ y : Held (fun y => Set3 w A B R C a b r y), w'' = y.w := held_call (fun _ _ h g => Set3.grown h g) x h
set_option maxHeartbeats 4000000 in
theorem sp_smulX (a b : BitVec 64) (w : World) : Calls Try.prog 68 #[.int .i64 (Z a), .int .i64 (Z b)] w fun e w' => e = .returned (.tuple #[.int .i64 (Z (smulP a b)), .bool (smulK a b)]) ∧ w' = w := by
  have hZ0 : ∀ v : BitVec 64, (Z v == 0) = decide (v = 0#64) := fun v => by rw [Bool.eq_iff_iff]; simp [Spn.Z_zero_iff]
  unfold smulP smulK
  by_cases ca : a = 0#64
  · rw [if_pos (.inl ca), if_pos (.inl ca)]
    have x1 : (Z a == 0) = true := by rw [hZ0]; exact decide_eq_true ca
    rw [Spn.Z0]
    clear hZ0 ca
    go_enter Try.func68, Try.ntmps68
    go_wp2
    go_ret2
    exact ⟨rfl, rfl⟩
  have x1 : (Z a == 0) = false := by rw [hZ0]; exact decide_eq_false ca
  by_cases cb : b = 0#64
  · rw [if_pos (.inr cb), if_pos (.inr cb)]
    have x2 : (Z b == 0) = true := by rw [hZ0]; exact decide_eq_true cb
    rw [Spn.Z0]
    clear hZ0 ca cb
    go_enter Try.func68, Try.ntmps68
    go_wp2
    go_ret2
    exact ⟨rfl, rfl⟩
  have x2 : (Z b == 0) = false := by rw [hZ0]; exact decide_eq_false cb
  rw [if_neg (not_or.2 ⟨ca, cb⟩), if_neg (not_or.2 ⟨ca, cb⟩)]
  have e1 : ((a * b).sdiv b == a) = (Z ((a * b).sdiv b) == Z a) := by rw [Bool.eq_iff_iff]; simp only [beq_iff_eq]; exact ⟨fun h => by rw [h], Spn.Z_inj⟩
  have e2 : (a == minW) = (Z a == -9223372036854775808) := by rw [← Spn.Z_minW, Bool.eq_iff_iff]; simp only [beq_iff_eq]; exact ⟨fun h => by rw [h], Spn.Z_inj⟩
  have e3 : (b == -1#64) = (Z b == -1) := by rw [← Spn.Zm1, Bool.eq_iff_iff]; simp only [beq_iff_eq]; exact ⟨fun h => by rw [h], Spn.Z_inj⟩
  rw [e1, e2, e3]
  have x3 : ¬ Z b = 0 := by simpa using x2
  clear e1 e2 e3 ca cb hZ0
  cases y1 : (Z ((a * b).sdiv b) == Z a) <;> cases y2 : (Z a == -9223372036854775808) <;> cases y3 : (Z b == -1)
  all_goals
    go_enter Try.func68, Try.ntmps68
    go_wp2
    go_ret2
    exact ⟨by first | rfl | (rw [← w_mul a b]; rfl), rfl⟩
set_option maxHeartbeats 8000000 in
theorem sp_mul (alo ahi aslo ashi blo bhi bslo bshi : BitVec 64) (w : World) : Calls Try.prog 36 #[.agg #[.int .u64 (N alo), .int .u64 (N ahi), .int .i64 (Z aslo), .int .i64 (Z ashi)], .agg #[.int .u64 (N blo), .int .u64 (N bhi), .int .i64 (Z bslo), .int .i64 (Z bshi)]] w fun e w' => e = .returned (.agg #[.int .u64 (N (mulR (settledS (⟨alo, ahi, aslo, ashi⟩ : Sp)) (settledS (⟨blo, bhi, bslo, bshi⟩ : Sp))).lo), .int .u64 (N (mulR (settledS (⟨alo, ahi, aslo, ashi⟩ : Sp)) (settledS (⟨blo, bhi, bslo, bshi⟩ : Sp))).hi), .int .i64 (Z (mulR (settledS (⟨alo, ahi, aslo, ashi⟩ : Sp)) (settledS (⟨blo, bhi, bslo, bshi⟩ : Sp))).slo), .int .i64 (Z (mulR (settledS (⟨alo, ahi, aslo, ashi⟩ : Sp)) (settledS (⟨blo, bhi, bslo, bshi⟩ : Sp))).shi)]) ∧ Grown w w' := by
  have HA := Lib.hid (fun w => sp_settled alo ahi aslo ashi w)
  have HB := Lib.hid (fun w => sp_settled blo bhi bslo bshi w)
  generalize settledS (⟨alo, ahi, aslo, ashi⟩ : Sp) = a at *
  generalize settledS (⟨blo, bhi, bslo, bshi⟩ : Sp) = b at *
  go_enter Try.func36, Try.ntmps36
  go_upto_region 1 with fail
  go_cut [18] (fun _ wx => Set2 w w.heap.size (w.heap.size + 1) (w.heap.size + 1 + 1) a b wx)
  case first =>
    go_region_with (first | (go_at_call 59; (with_reducible refine (HA.out _).mono ?_); rintro e wn ⟨rfl, hg⟩; have G : Grown (three w #[.int .u64 (N alo), .int .u64 (N ahi), .int .i64 (Z aslo), .int .i64 (Z ashi)] #[.int .u64 (N blo), .int .u64 (N bhi), .int .i64 (Z bslo), .int .i64 (Z bshi)]) wn := Grown.trans' (by first | with_reducible assumption | (refine Grown.drew ?_; with_reducible assumption) | go_grown) hg; have gc := gcellI G; have gf := gfrozI G) | (go_at_call 59; (with_reducible refine (HB.out _).mono ?_); rintro e wn ⟨rfl, hg⟩; have G : Grown (three w #[.int .u64 (N alo), .int .u64 (N ahi), .int .i64 (Z aslo), .int .i64 (Z ashi)] #[.int .u64 (N blo), .int .u64 (N bhi), .int .i64 (Z bslo), .int .i64 (Z bshi)]) wn := Grown.trans' (by first | with_reducible assumption | (refine Grown.drew ?_; with_reducible assumption) | go_grown) hg; have gc := gcellI G; have gf := gfrozI G))
    all_goals
      go_wp2_with fail
      go_meet
      case rel => exact set2_of a b G
  case rest =>
    have S := hcut
    clear hcut HA HB
    obtain ⟨a0, a1, a2, a3, b0, b1, b2, b3, r0, r1, r2, r3, f0, f1, f2, f3, hA, hB, hR, gr, lo⟩ := id S
    clear gr
    generalize w.heap.size + 1 + 1 = R at *
    generalize w.heap.size + 1 = B at *
    generalize w.heap.size = A at *
    have S0 := S
    go_upto_region 4 with (first | (go_at_call 67; ((with_reducible refine (mul64_any _ _ _).mono ?_); rintro e w1 ⟨rfl, rfl⟩)) | (go_at_call 63; ((with_reducible refine (sp_ends _ _ _ _).mono ?_); rintro e wn ⟨rfl, hg⟩; have g0 := hg)))
    have S3 : Set3 w A B R wn.heap.size a b (endsS (a.lo * b.lo) (a.hi * b.hi) (N (mulHi a.hi b.hi) == 0)) (wn.alloc (.cells #[.int .u64 (N (endsS (a.lo * b.lo) (a.hi * b.hi) (N (mulHi a.hi b.hi) == 0)).lo), .int .u64 (N (endsS (a.lo * b.lo) (a.hi * b.hi) (N (mulHi a.hi b.hi) == 0)).hi), .int .i64 (Z (endsS (a.lo * b.lo) (a.hi * b.hi) (N (mulHi a.hi b.hi) == 0)).slo), .int .i64 (Z (endsS (a.lo * b.lo) (a.hi * b.hi) (N (mulHi a.hi b.hi) == 0)).shi)] 49)) := ⟨S0.grown (Grown.alloc g0 _ _), by simp [go_sem], by simp [go_sem], by simp [go_sem], by simp [go_sem], by simp⟩
    clear S S0 g0 hg a0 a1 a2 a3 b0 b1 b2 b3 r0 r1 r2 r3 f0 f1 f2 f3 hA hB hR lo
    have hrr0 : (endsS (a.lo * b.lo) (a.hi * b.hi) (N (mulHi a.hi b.hi) == 0)) = endsS (a.lo * b.lo) (a.hi * b.hi) (mulHi a.hi b.hi == 0#64) := by rw [show (N (mulHi a.hi b.hi) == 0) = (mulHi a.hi b.hi == 0#64) by rw [← Spn.N0, N_beq]]
    generalize (endsS (a.lo * b.lo) (a.hi * b.hi) (N (mulHi a.hi b.hi) == 0)) = rr at *
    have HRR := Lib.hid hrr0
    clear hrr0
    generalize wn.alloc (.cells #[.int .u64 (N rr.lo), .int .u64 (N rr.hi), .int .i64 (Z rr.slo), .int .i64 (Z rr.shi)] 49) = W4 at *
    generalize wn.heap.size = C at *
    have a2 := S3.1.a2
    have a3 := S3.1.a3
    have b2 := S3.1.b2
    have b3 := S3.1.b3
    have ja0 : ∀ w, (Instr.index 78 (.agg #[.int .i64 (Z a.slo), .int .i64 (Z a.shi)]) (.int .i64 0)).run Try.prog w = .ok (.int .i64 (Z a.slo)) w := fun _ => by kernel_rfl
    have ja1 : ∀ w, (Instr.index 78 (.agg #[.int .i64 (Z a.slo), .int .i64 (Z a.shi)]) (.int .i64 1)).run Try.prog w = .ok (.int .i64 (Z a.shi)) w := fun _ => by kernel_rfl
    have jb0 : ∀ w, (Instr.index 78 (.agg #[.int .i64 (Z b.slo), .int .i64 (Z b.shi)]) (.int .i64 0)).run Try.prog w = .ok (.int .i64 (Z b.slo)) w := fun _ => by kernel_rfl
    have jb1 : ∀ w, (Instr.index 78 (.agg #[.int .i64 (Z b.slo), .int .i64 (Z b.shi)]) (.int .i64 1)).run Try.prog w = .ok (.int .i64 (Z b.shi)) w := fun _ => by kernel_rfl
    cases y0 : smulK a.slo b.slo
    · skip
      have HE : Hid (mulR a b = settledS (commonS rr (sendsS (smin (smin (smin (smin maxW (smulP a.slo b.slo)) (smulP a.slo b.shi)) (smulP a.shi b.slo)) (smulP a.shi b.shi)) (smax (smax (smax (smax minW (smulP a.slo b.slo)) (smulP a.slo b.shi)) (smulP a.shi b.slo)) (smulP a.shi b.shi)) false))) := Lib.hid (by unfold mulR mK mLo mHi; rw [HRR.out, y0]; simp)
      have H0 : Hid (∀ w, Calls Try.prog 68 #[.int .i64 (Z a.slo), .int .i64 (Z b.slo)] w fun e w' => e = .returned (.tuple #[.int .i64 (Z (smulP a.slo b.slo)), .bool (false)]) ∧ w' = w) := Lib.hid (fun w => y0 ▸ sp_smulX a.slo b.slo w)
      have H1 : Hid (∀ w, Calls Try.prog 68 #[.int .i64 (Z a.slo), .int .i64 (Z b.shi)] w fun e w' => e = .returned (.tuple #[.int .i64 (Z (smulP a.slo b.shi)), .bool (smulK a.slo b.shi)]) ∧ w' = w) := Lib.hid (fun w => sp_smulX a.slo b.shi w)
      have H2 : Hid (∀ w, Calls Try.prog 68 #[.int .i64 (Z a.shi), .int .i64 (Z b.slo)] w fun e w' => e = .returned (.tuple #[.int .i64 (Z (smulP a.shi b.slo)), .bool (smulK a.shi b.slo)]) ∧ w' = w) := Lib.hid (fun w => sp_smulX a.shi b.slo w)
      have H3 : Hid (∀ w, Calls Try.prog 68 #[.int .i64 (Z a.shi), .int .i64 (Z b.shi)] w fun e w' => e = .returned (.tuple #[.int .i64 (Z (smulP a.shi b.shi)), .bool (smulK a.shi b.shi)]) ∧ w' = w) := Lib.hid (fun w => sp_smulX a.shi b.shi w)
      clear y0
      go_wp2_with fail
      refine wp_loop_rounds 3 ?_
      rw [rounds_succ]
      go_wp2_with fail
      refine wp_loop_rounds 3 ?_
      rw [rounds_succ]
      go_wp2_with (first | (go_at_call 68; ((with_reducible refine (H0.out _).mono ?_); rintro e w1 ⟨rfl, rfl⟩)) | (go_at_call 68; ((with_reducible refine (H1.out _).mono ?_); rintro e w1 ⟨rfl, rfl⟩)) | (go_at_call 68; ((with_reducible refine (H2.out _).mono ?_); rintro e w1 ⟨rfl, rfl⟩)) | (go_at_call 68; ((with_reducible refine (H3.out _).mono ?_); rintro e w1 ⟨rfl, rfl⟩)))
      rw [rounds_succ]
      go_wp2_with (first | (go_at_call 68; ((with_reducible refine (H0.out _).mono ?_); rintro e w1 ⟨rfl, rfl⟩)) | (go_at_call 68; ((with_reducible refine (H1.out _).mono ?_); rintro e w1 ⟨rfl, rfl⟩)) | (go_at_call 68; ((with_reducible refine (H2.out _).mono ?_); rintro e w1 ⟨rfl, rfl⟩)) | (go_at_call 68; ((with_reducible refine (H3.out _).mono ?_); rintro e w1 ⟨rfl, rfl⟩)))
      rw [rounds_succ]
      go_wp2_with fail
      rw [rounds_succ]
      go_wp2_with fail
      refine wp_loop_rounds 3 ?_
      rw [rounds_succ]
      go_wp2_with (first | (go_at_call 68; ((with_reducible refine (H0.out _).mono ?_); rintro e w1 ⟨rfl, rfl⟩)) | (go_at_call 68; ((with_reducible refine (H1.out _).mono ?_); rintro e w1 ⟨rfl, rfl⟩)) | (go_at_call 68; ((with_reducible refine (H2.out _).mono ?_); rintro e w1 ⟨rfl, rfl⟩)) | (go_at_call 68; ((with_reducible refine (H3.out _).mono ?_); rintro e w1 ⟨rfl, rfl⟩)))
      rw [rounds_succ]
      go_wp2_with (first | (go_at_call 68; ((with_reducible refine (H0.out _).mono ?_); rintro e w1 ⟨rfl, rfl⟩)) | (go_at_call 68; ((with_reducible refine (H1.out _).mono ?_); rintro e w1 ⟨rfl, rfl⟩)) | (go_at_call 68; ((with_reducible refine (H2.out _).mono ?_); rintro e w1 ⟨rfl, rfl⟩)) | (go_at_call 68; ((with_reducible refine (H3.out _).mono ?_); rintro e w1 ⟨rfl, rfl⟩)))
      rw [rounds_succ]
      go_wp2_with fail
      rw [rounds_succ]
      go_wp2_with fail
      have q0 : ∀ z : Held (fun y => Set3 w A B R C a b rr y), z.w.cell? ⟨C, 0, none⟩ = some _ := fun z => z.h.2.1
      have q1 : ∀ z : Held (fun y => Set3 w A B R C a b rr y), z.w.cell? ⟨C, 1, none⟩ = some _ := fun z => z.h.2.2.1
      have q2 : ∀ z : Held (fun y => Set3 w A B R C a b rr y), z.w.cell? ⟨C, 2, none⟩ = some _ := fun z => z.h.2.2.2.1
      have q3 : ∀ z : Held (fun y => Set3 w A B R C a b rr y), z.w.cell? ⟨C, 3, none⟩ = some _ := fun z => z.h.2.2.2.2.1
      refine wp_region_lex_tail (fun y => Set3 w A B R C a b rr y) 7 (by kernel_rfl) (by kernel_rfl) (S3.grown (Grown.drew (Grown.refl _))) (fun hNon => ?_)
      simp only [List.take_succ_cons, List.take_zero, List.drop_succ_cons, List.drop_zero]
      repeat (go_big_quiet_step ((first | (go_at_call 64; exact held_set3 _ (sp_sends _ _ _ _)) | (go_at_call 62; exact held_set3 _ (sp_common _ _ _ _ _ _ _ _ _)) | (go_at_call 59; exact held_set3 _ (sp_settled _ _ _ _ _)))))
      refine wpQuiet_nil ?_
      intro w5 S5
      clear hNon q0 q1 q2 q3 a2 a3 b2 b3 S3
      have S := S5.1
      obtain ⟨a0, a1, a2, a3, b0, b1, b2, b3, r0, r1, r2, r3, f0, f1, f2, f3, hA, hB, hR, gr, lo⟩ := id S
      clear gr S5
      go_wp2
      refine bodyPost_ret (v := .agg #[.int .u64 (N (settledS (commonS rr (sendsS (smin (smin (smin (smin maxW (smulP a.slo b.slo)) (smulP a.slo b.shi)) (smulP a.shi b.slo)) (smulP a.shi b.shi)) (smax (smax (smax (smax minW (smulP a.slo b.slo)) (smulP a.slo b.shi)) (smulP a.shi b.slo)) (smulP a.shi b.shi)) false))).lo), .int .u64 (N (settledS (commonS rr (sendsS (smin (smin (smin (smin maxW (smulP a.slo b.slo)) (smulP a.slo b.shi)) (smulP a.shi b.slo)) (smulP a.shi b.shi)) (smax (smax (smax (smax minW (smulP a.slo b.slo)) (smulP a.slo b.shi)) (smulP a.shi b.slo)) (smulP a.shi b.shi)) false))).hi), .int .i64 (Z (settledS (commonS rr (sendsS (smin (smin (smin (smin maxW (smulP a.slo b.slo)) (smulP a.slo b.shi)) (smulP a.shi b.slo)) (smulP a.shi b.shi)) (smax (smax (smax (smax minW (smulP a.slo b.slo)) (smulP a.slo b.shi)) (smulP a.shi b.slo)) (smulP a.shi b.shi)) false))).slo), .int .i64 (Z (settledS (commonS rr (sendsS (smin (smin (smin (smin maxW (smulP a.slo b.slo)) (smulP a.slo b.shi)) (smulP a.shi b.slo)) (smulP a.shi b.shi)) (smax (smax (smax (smax minW (smulP a.slo b.slo)) (smulP a.slo b.shi)) (smulP a.shi b.slo)) (smulP a.shi b.shi)) false))).shi)]) (by simp [results, Try.results36, go_sem, r0, r1, r2, r3, N_beq]) rfl ⟨by rw [HE.out], ((((S.gr.setCell (a := ⟨R, 0, none⟩) S.lo _).setCell (a := ⟨R, 1, none⟩) S.lo _).setCell (a := ⟨R, 2, none⟩) S.lo _).setCell (a := ⟨R, 3, none⟩) S.lo _)⟩
    cases y1 : smulK a.slo b.shi
    · skip
      have HE : Hid (mulR a b = settledS (commonS rr (sendsS (smin (smin (smin (smin maxW (smulP a.slo b.slo)) (smulP a.slo b.shi)) (smulP a.shi b.slo)) (smulP a.shi b.shi)) (smax (smax (smax (smax minW (smulP a.slo b.slo)) (smulP a.slo b.shi)) (smulP a.shi b.slo)) (smulP a.shi b.shi)) false))) := Lib.hid (by unfold mulR mK mLo mHi; rw [HRR.out, y0, y1]; simp)
      have H0 : Hid (∀ w, Calls Try.prog 68 #[.int .i64 (Z a.slo), .int .i64 (Z b.slo)] w fun e w' => e = .returned (.tuple #[.int .i64 (Z (smulP a.slo b.slo)), .bool (true)]) ∧ w' = w) := Lib.hid (fun w => y0 ▸ sp_smulX a.slo b.slo w)
      have H1 : Hid (∀ w, Calls Try.prog 68 #[.int .i64 (Z a.slo), .int .i64 (Z b.shi)] w fun e w' => e = .returned (.tuple #[.int .i64 (Z (smulP a.slo b.shi)), .bool (false)]) ∧ w' = w) := Lib.hid (fun w => y1 ▸ sp_smulX a.slo b.shi w)
      have H2 : Hid (∀ w, Calls Try.prog 68 #[.int .i64 (Z a.shi), .int .i64 (Z b.slo)] w fun e w' => e = .returned (.tuple #[.int .i64 (Z (smulP a.shi b.slo)), .bool (smulK a.shi b.slo)]) ∧ w' = w) := Lib.hid (fun w => sp_smulX a.shi b.slo w)
      have H3 : Hid (∀ w, Calls Try.prog 68 #[.int .i64 (Z a.shi), .int .i64 (Z b.shi)] w fun e w' => e = .returned (.tuple #[.int .i64 (Z (smulP a.shi b.shi)), .bool (smulK a.shi b.shi)]) ∧ w' = w) := Lib.hid (fun w => sp_smulX a.shi b.shi w)
      clear y0 y1
      go_wp2_with fail
      refine wp_loop_rounds 3 ?_
      rw [rounds_succ]
      go_wp2_with fail
      refine wp_loop_rounds 3 ?_
      rw [rounds_succ]
      go_wp2_with (first | (go_at_call 68; ((with_reducible refine (H0.out _).mono ?_); rintro e w1 ⟨rfl, rfl⟩)) | (go_at_call 68; ((with_reducible refine (H1.out _).mono ?_); rintro e w1 ⟨rfl, rfl⟩)) | (go_at_call 68; ((with_reducible refine (H2.out _).mono ?_); rintro e w1 ⟨rfl, rfl⟩)) | (go_at_call 68; ((with_reducible refine (H3.out _).mono ?_); rintro e w1 ⟨rfl, rfl⟩)))
      rw [rounds_succ]
      go_wp2_with (first | (go_at_call 68; ((with_reducible refine (H0.out _).mono ?_); rintro e w1 ⟨rfl, rfl⟩)) | (go_at_call 68; ((with_reducible refine (H1.out _).mono ?_); rintro e w1 ⟨rfl, rfl⟩)) | (go_at_call 68; ((with_reducible refine (H2.out _).mono ?_); rintro e w1 ⟨rfl, rfl⟩)) | (go_at_call 68; ((with_reducible refine (H3.out _).mono ?_); rintro e w1 ⟨rfl, rfl⟩)))
      rw [rounds_succ]
      go_wp2_with fail
      rw [rounds_succ]
      go_wp2_with fail
      refine wp_loop_rounds 3 ?_
      rw [rounds_succ]
      go_wp2_with (first | (go_at_call 68; ((with_reducible refine (H0.out _).mono ?_); rintro e w1 ⟨rfl, rfl⟩)) | (go_at_call 68; ((with_reducible refine (H1.out _).mono ?_); rintro e w1 ⟨rfl, rfl⟩)) | (go_at_call 68; ((with_reducible refine (H2.out _).mono ?_); rintro e w1 ⟨rfl, rfl⟩)) | (go_at_call 68; ((with_reducible refine (H3.out _).mono ?_); rintro e w1 ⟨rfl, rfl⟩)))
      rw [rounds_succ]
      go_wp2_with (first | (go_at_call 68; ((with_reducible refine (H0.out _).mono ?_); rintro e w1 ⟨rfl, rfl⟩)) | (go_at_call 68; ((with_reducible refine (H1.out _).mono ?_); rintro e w1 ⟨rfl, rfl⟩)) | (go_at_call 68; ((with_reducible refine (H2.out _).mono ?_); rintro e w1 ⟨rfl, rfl⟩)) | (go_at_call 68; ((with_reducible refine (H3.out _).mono ?_); rintro e w1 ⟨rfl, rfl⟩)))
      rw [rounds_succ]
      go_wp2_with fail
      rw [rounds_succ]
      go_wp2_with fail
      have q0 : ∀ z : Held (fun y => Set3 w A B R C a b rr y), z.w.cell? ⟨C, 0, none⟩ = some _ := fun z => z.h.2.1
      have q1 : ∀ z : Held (fun y => Set3 w A B R C a b rr y), z.w.cell? ⟨C, 1, none⟩ = some _ := fun z => z.h.2.2.1
      have q2 : ∀ z : Held (fun y => Set3 w A B R C a b rr y), z.w.cell? ⟨C, 2, none⟩ = some _ := fun z => z.h.2.2.2.1
      have q3 : ∀ z : Held (fun y => Set3 w A B R C a b rr y), z.w.cell? ⟨C, 3, none⟩ = some _ := fun z => z.h.2.2.2.2.1
      refine wp_region_lex_tail (fun y => Set3 w A B R C a b rr y) 7 (by kernel_rfl) (by kernel_rfl) (S3.grown (Grown.drew (Grown.refl _))) (fun hNon => ?_)
      simp only [List.take_succ_cons, List.take_zero, List.drop_succ_cons, List.drop_zero]
      repeat (go_big_quiet_step ((first | (go_at_call 64; exact held_set3 _ (sp_sends _ _ _ _)) | (go_at_call 62; exact held_set3 _ (sp_common _ _ _ _ _ _ _ _ _)) | (go_at_call 59; exact held_set3 _ (sp_settled _ _ _ _ _)))))
      refine wpQuiet_nil ?_
      intro w5 S5
      clear hNon q0 q1 q2 q3 a2 a3 b2 b3 S3
      have S := S5.1
      obtain ⟨a0, a1, a2, a3, b0, b1, b2, b3, r0, r1, r2, r3, f0, f1, f2, f3, hA, hB, hR, gr, lo⟩ := id S
      clear gr S5
      go_wp2
      refine bodyPost_ret (v := .agg #[.int .u64 (N (settledS (commonS rr (sendsS (smin (smin (smin (smin maxW (smulP a.slo b.slo)) (smulP a.slo b.shi)) (smulP a.shi b.slo)) (smulP a.shi b.shi)) (smax (smax (smax (smax minW (smulP a.slo b.slo)) (smulP a.slo b.shi)) (smulP a.shi b.slo)) (smulP a.shi b.shi)) false))).lo), .int .u64 (N (settledS (commonS rr (sendsS (smin (smin (smin (smin maxW (smulP a.slo b.slo)) (smulP a.slo b.shi)) (smulP a.shi b.slo)) (smulP a.shi b.shi)) (smax (smax (smax (smax minW (smulP a.slo b.slo)) (smulP a.slo b.shi)) (smulP a.shi b.slo)) (smulP a.shi b.shi)) false))).hi), .int .i64 (Z (settledS (commonS rr (sendsS (smin (smin (smin (smin maxW (smulP a.slo b.slo)) (smulP a.slo b.shi)) (smulP a.shi b.slo)) (smulP a.shi b.shi)) (smax (smax (smax (smax minW (smulP a.slo b.slo)) (smulP a.slo b.shi)) (smulP a.shi b.slo)) (smulP a.shi b.shi)) false))).slo), .int .i64 (Z (settledS (commonS rr (sendsS (smin (smin (smin (smin maxW (smulP a.slo b.slo)) (smulP a.slo b.shi)) (smulP a.shi b.slo)) (smulP a.shi b.shi)) (smax (smax (smax (smax minW (smulP a.slo b.slo)) (smulP a.slo b.shi)) (smulP a.shi b.slo)) (smulP a.shi b.shi)) false))).shi)]) (by simp [results, Try.results36, go_sem, r0, r1, r2, r3, N_beq]) rfl ⟨by rw [HE.out], ((((S.gr.setCell (a := ⟨R, 0, none⟩) S.lo _).setCell (a := ⟨R, 1, none⟩) S.lo _).setCell (a := ⟨R, 2, none⟩) S.lo _).setCell (a := ⟨R, 3, none⟩) S.lo _)⟩
    cases y2 : smulK a.shi b.slo
    · skip
      have HE : Hid (mulR a b = settledS (commonS rr (sendsS (smin (smin (smin (smin maxW (smulP a.slo b.slo)) (smulP a.slo b.shi)) (smulP a.shi b.slo)) (smulP a.shi b.shi)) (smax (smax (smax (smax minW (smulP a.slo b.slo)) (smulP a.slo b.shi)) (smulP a.shi b.slo)) (smulP a.shi b.shi)) false))) := Lib.hid (by unfold mulR mK mLo mHi; rw [HRR.out, y0, y1, y2]; simp)
      have H0 : Hid (∀ w, Calls Try.prog 68 #[.int .i64 (Z a.slo), .int .i64 (Z b.slo)] w fun e w' => e = .returned (.tuple #[.int .i64 (Z (smulP a.slo b.slo)), .bool (true)]) ∧ w' = w) := Lib.hid (fun w => y0 ▸ sp_smulX a.slo b.slo w)
      have H1 : Hid (∀ w, Calls Try.prog 68 #[.int .i64 (Z a.slo), .int .i64 (Z b.shi)] w fun e w' => e = .returned (.tuple #[.int .i64 (Z (smulP a.slo b.shi)), .bool (true)]) ∧ w' = w) := Lib.hid (fun w => y1 ▸ sp_smulX a.slo b.shi w)
      have H2 : Hid (∀ w, Calls Try.prog 68 #[.int .i64 (Z a.shi), .int .i64 (Z b.slo)] w fun e w' => e = .returned (.tuple #[.int .i64 (Z (smulP a.shi b.slo)), .bool (false)]) ∧ w' = w) := Lib.hid (fun w => y2 ▸ sp_smulX a.shi b.slo w)
      have H3 : Hid (∀ w, Calls Try.prog 68 #[.int .i64 (Z a.shi), .int .i64 (Z b.shi)] w fun e w' => e = .returned (.tuple #[.int .i64 (Z (smulP a.shi b.shi)), .bool (smulK a.shi b.shi)]) ∧ w' = w) := Lib.hid (fun w => sp_smulX a.shi b.shi w)
      clear y0 y1 y2
      go_wp2_with fail
      refine wp_loop_rounds 3 ?_
      rw [rounds_succ]
      go_wp2_with fail
      refine wp_loop_rounds 3 ?_
      rw [rounds_succ]
      go_wp2_with (first | (go_at_call 68; ((with_reducible refine (H0.out _).mono ?_); rintro e w1 ⟨rfl, rfl⟩)) | (go_at_call 68; ((with_reducible refine (H1.out _).mono ?_); rintro e w1 ⟨rfl, rfl⟩)) | (go_at_call 68; ((with_reducible refine (H2.out _).mono ?_); rintro e w1 ⟨rfl, rfl⟩)) | (go_at_call 68; ((with_reducible refine (H3.out _).mono ?_); rintro e w1 ⟨rfl, rfl⟩)))
      rw [rounds_succ]
      go_wp2_with (first | (go_at_call 68; ((with_reducible refine (H0.out _).mono ?_); rintro e w1 ⟨rfl, rfl⟩)) | (go_at_call 68; ((with_reducible refine (H1.out _).mono ?_); rintro e w1 ⟨rfl, rfl⟩)) | (go_at_call 68; ((with_reducible refine (H2.out _).mono ?_); rintro e w1 ⟨rfl, rfl⟩)) | (go_at_call 68; ((with_reducible refine (H3.out _).mono ?_); rintro e w1 ⟨rfl, rfl⟩)))
      rw [rounds_succ]
      go_wp2_with fail
      rw [rounds_succ]
      go_wp2_with fail
      refine wp_loop_rounds 3 ?_
      rw [rounds_succ]
      go_wp2_with (first | (go_at_call 68; ((with_reducible refine (H0.out _).mono ?_); rintro e w1 ⟨rfl, rfl⟩)) | (go_at_call 68; ((with_reducible refine (H1.out _).mono ?_); rintro e w1 ⟨rfl, rfl⟩)) | (go_at_call 68; ((with_reducible refine (H2.out _).mono ?_); rintro e w1 ⟨rfl, rfl⟩)) | (go_at_call 68; ((with_reducible refine (H3.out _).mono ?_); rintro e w1 ⟨rfl, rfl⟩)))
      rw [rounds_succ]
      go_wp2_with (first | (go_at_call 68; ((with_reducible refine (H0.out _).mono ?_); rintro e w1 ⟨rfl, rfl⟩)) | (go_at_call 68; ((with_reducible refine (H1.out _).mono ?_); rintro e w1 ⟨rfl, rfl⟩)) | (go_at_call 68; ((with_reducible refine (H2.out _).mono ?_); rintro e w1 ⟨rfl, rfl⟩)) | (go_at_call 68; ((with_reducible refine (H3.out _).mono ?_); rintro e w1 ⟨rfl, rfl⟩)))
      rw [rounds_succ]
      go_wp2_with fail
      rw [rounds_succ]
      go_wp2_with fail
      have q0 : ∀ z : Held (fun y => Set3 w A B R C a b rr y), z.w.cell? ⟨C, 0, none⟩ = some _ := fun z => z.h.2.1
      have q1 : ∀ z : Held (fun y => Set3 w A B R C a b rr y), z.w.cell? ⟨C, 1, none⟩ = some _ := fun z => z.h.2.2.1
      have q2 : ∀ z : Held (fun y => Set3 w A B R C a b rr y), z.w.cell? ⟨C, 2, none⟩ = some _ := fun z => z.h.2.2.2.1
      have q3 : ∀ z : Held (fun y => Set3 w A B R C a b rr y), z.w.cell? ⟨C, 3, none⟩ = some _ := fun z => z.h.2.2.2.2.1
      refine wp_region_lex_tail (fun y => Set3 w A B R C a b rr y) 7 (by kernel_rfl) (by kernel_rfl) (S3.grown (Grown.drew (Grown.refl _))) (fun hNon => ?_)
      simp only [List.take_succ_cons, List.take_zero, List.drop_succ_cons, List.drop_zero]
      repeat (go_big_quiet_step ((first | (go_at_call 64; exact held_set3 _ (sp_sends _ _ _ _)) | (go_at_call 62; exact held_set3 _ (sp_common _ _ _ _ _ _ _ _ _)) | (go_at_call 59; exact held_set3 _ (sp_settled _ _ _ _ _)))))
      refine wpQuiet_nil ?_
      intro w5 S5
      clear hNon q0 q1 q2 q3 a2 a3 b2 b3 S3
      have S := S5.1
      obtain ⟨a0, a1, a2, a3, b0, b1, b2, b3, r0, r1, r2, r3, f0, f1, f2, f3, hA, hB, hR, gr, lo⟩ := id S
      clear gr S5
      go_wp2
      refine bodyPost_ret (v := .agg #[.int .u64 (N (settledS (commonS rr (sendsS (smin (smin (smin (smin maxW (smulP a.slo b.slo)) (smulP a.slo b.shi)) (smulP a.shi b.slo)) (smulP a.shi b.shi)) (smax (smax (smax (smax minW (smulP a.slo b.slo)) (smulP a.slo b.shi)) (smulP a.shi b.slo)) (smulP a.shi b.shi)) false))).lo), .int .u64 (N (settledS (commonS rr (sendsS (smin (smin (smin (smin maxW (smulP a.slo b.slo)) (smulP a.slo b.shi)) (smulP a.shi b.slo)) (smulP a.shi b.shi)) (smax (smax (smax (smax minW (smulP a.slo b.slo)) (smulP a.slo b.shi)) (smulP a.shi b.slo)) (smulP a.shi b.shi)) false))).hi), .int .i64 (Z (settledS (commonS rr (sendsS (smin (smin (smin (smin maxW (smulP a.slo b.slo)) (smulP a.slo b.shi)) (smulP a.shi b.slo)) (smulP a.shi b.shi)) (smax (smax (smax (smax minW (smulP a.slo b.slo)) (smulP a.slo b.shi)) (smulP a.shi b.slo)) (smulP a.shi b.shi)) false))).slo), .int .i64 (Z (settledS (commonS rr (sendsS (smin (smin (smin (smin maxW (smulP a.slo b.slo)) (smulP a.slo b.shi)) (smulP a.shi b.slo)) (smulP a.shi b.shi)) (smax (smax (smax (smax minW (smulP a.slo b.slo)) (smulP a.slo b.shi)) (smulP a.shi b.slo)) (smulP a.shi b.shi)) false))).shi)]) (by simp [results, Try.results36, go_sem, r0, r1, r2, r3, N_beq]) rfl ⟨by rw [HE.out], ((((S.gr.setCell (a := ⟨R, 0, none⟩) S.lo _).setCell (a := ⟨R, 1, none⟩) S.lo _).setCell (a := ⟨R, 2, none⟩) S.lo _).setCell (a := ⟨R, 3, none⟩) S.lo _)⟩
    have HE : Hid (mulR a b = settledS (commonS rr (sendsS (smin (smin (smin (smin maxW (smulP a.slo b.slo)) (smulP a.slo b.shi)) (smulP a.shi b.slo)) (smulP a.shi b.shi)) (smax (smax (smax (smax minW (smulP a.slo b.slo)) (smulP a.slo b.shi)) (smulP a.shi b.slo)) (smulP a.shi b.shi)) (smulK a.shi b.shi)))) := Lib.hid (by unfold mulR mK mLo mHi; rw [HRR.out, y0, y1, y2]; simp)
    have H0 : Hid (∀ w, Calls Try.prog 68 #[.int .i64 (Z a.slo), .int .i64 (Z b.slo)] w fun e w' => e = .returned (.tuple #[.int .i64 (Z (smulP a.slo b.slo)), .bool (true)]) ∧ w' = w) := Lib.hid (fun w => y0 ▸ sp_smulX a.slo b.slo w)
    have H1 : Hid (∀ w, Calls Try.prog 68 #[.int .i64 (Z a.slo), .int .i64 (Z b.shi)] w fun e w' => e = .returned (.tuple #[.int .i64 (Z (smulP a.slo b.shi)), .bool (true)]) ∧ w' = w) := Lib.hid (fun w => y1 ▸ sp_smulX a.slo b.shi w)
    have H2 : Hid (∀ w, Calls Try.prog 68 #[.int .i64 (Z a.shi), .int .i64 (Z b.slo)] w fun e w' => e = .returned (.tuple #[.int .i64 (Z (smulP a.shi b.slo)), .bool (true)]) ∧ w' = w) := Lib.hid (fun w => y2 ▸ sp_smulX a.shi b.slo w)
    have H3 : Hid (∀ w, Calls Try.prog 68 #[.int .i64 (Z a.shi), .int .i64 (Z b.shi)] w fun e w' => e = .returned (.tuple #[.int .i64 (Z (smulP a.shi b.shi)), .bool (smulK a.shi b.shi)]) ∧ w' = w) := Lib.hid (fun w => sp_smulX a.shi b.shi w)
    clear y0 y1 y2
    go_wp2_with fail
    refine wp_loop_rounds 3 ?_
    rw [rounds_succ]
    go_wp2_with fail
    refine wp_loop_rounds 3 ?_
    rw [rounds_succ]
    go_wp2_with (first | (go_at_call 68; ((with_reducible refine (H0.out _).mono ?_); rintro e w1 ⟨rfl, rfl⟩)) | (go_at_call 68; ((with_reducible refine (H1.out _).mono ?_); rintro e w1 ⟨rfl, rfl⟩)) | (go_at_call 68; ((with_reducible refine (H2.out _).mono ?_); rintro e w1 ⟨rfl, rfl⟩)) | (go_at_call 68; ((with_reducible refine (H3.out _).mono ?_); rintro e w1 ⟨rfl, rfl⟩)))
    rw [rounds_succ]
    go_wp2_with (first | (go_at_call 68; ((with_reducible refine (H0.out _).mono ?_); rintro e w1 ⟨rfl, rfl⟩)) | (go_at_call 68; ((with_reducible refine (H1.out _).mono ?_); rintro e w1 ⟨rfl, rfl⟩)) | (go_at_call 68; ((with_reducible refine (H2.out _).mono ?_); rintro e w1 ⟨rfl, rfl⟩)) | (go_at_call 68; ((with_reducible refine (H3.out _).mono ?_); rintro e w1 ⟨rfl, rfl⟩)))
    rw [rounds_succ]
    go_wp2_with fail
    rw [rounds_succ]
    go_wp2_with fail
    refine wp_loop_rounds 3 ?_
    rw [rounds_succ]
    go_wp2_with (first | (go_at_call 68; ((with_reducible refine (H0.out _).mono ?_); rintro e w1 ⟨rfl, rfl⟩)) | (go_at_call 68; ((with_reducible refine (H1.out _).mono ?_); rintro e w1 ⟨rfl, rfl⟩)) | (go_at_call 68; ((with_reducible refine (H2.out _).mono ?_); rintro e w1 ⟨rfl, rfl⟩)) | (go_at_call 68; ((with_reducible refine (H3.out _).mono ?_); rintro e w1 ⟨rfl, rfl⟩)))
    rw [rounds_succ]
    go_wp2_with (first | (go_at_call 68; ((with_reducible refine (H0.out _).mono ?_); rintro e w1 ⟨rfl, rfl⟩)) | (go_at_call 68; ((with_reducible refine (H1.out _).mono ?_); rintro e w1 ⟨rfl, rfl⟩)) | (go_at_call 68; ((with_reducible refine (H2.out _).mono ?_); rintro e w1 ⟨rfl, rfl⟩)) | (go_at_call 68; ((with_reducible refine (H3.out _).mono ?_); rintro e w1 ⟨rfl, rfl⟩)))
    rw [rounds_succ]
    go_wp2_with fail
    rw [rounds_succ]
    go_wp2_with fail
    have q0 : ∀ z : Held (fun y => Set3 w A B R C a b rr y), z.w.cell? ⟨C, 0, none⟩ = some _ := fun z => z.h.2.1
    have q1 : ∀ z : Held (fun y => Set3 w A B R C a b rr y), z.w.cell? ⟨C, 1, none⟩ = some _ := fun z => z.h.2.2.1
    have q2 : ∀ z : Held (fun y => Set3 w A B R C a b rr y), z.w.cell? ⟨C, 2, none⟩ = some _ := fun z => z.h.2.2.2.1
    have q3 : ∀ z : Held (fun y => Set3 w A B R C a b rr y), z.w.cell? ⟨C, 3, none⟩ = some _ := fun z => z.h.2.2.2.2.1
    refine wp_region_lex_tail (fun y => Set3 w A B R C a b rr y) 7 (by kernel_rfl) (by kernel_rfl) (S3.grown (Grown.drew (Grown.refl _))) (fun hNon => ?_)
    simp only [List.take_succ_cons, List.take_zero, List.drop_succ_cons, List.drop_zero]
    repeat (go_big_quiet_step ((first | (go_at_call 64; exact held_set3 _ (sp_sends _ _ _ _)) | (go_at_call 62; exact held_set3 _ (sp_common _ _ _ _ _ _ _ _ _)) | (go_at_call 59; exact held_set3 _ (sp_settled _ _ _ _ _)))))
    refine wpQuiet_nil ?_
    intro w5 S5
    clear hNon q0 q1 q2 q3 a2 a3 b2 b3 S3
    have S := S5.1
    obtain ⟨a0, a1, a2, a3, b0, b1, b2, b3, r0, r1, r2, r3, f0, f1, f2, f3, hA, hB, hR, gr, lo⟩ := id S
    clear gr S5
    go_wp2
    refine bodyPost_ret (v := .agg #[.int .u64 (N (settledS (commonS rr (sendsS (smin (smin (smin (smin maxW (smulP a.slo b.slo)) (smulP a.slo b.shi)) (smulP a.shi b.slo)) (smulP a.shi b.shi)) (smax (smax (smax (smax minW (smulP a.slo b.slo)) (smulP a.slo b.shi)) (smulP a.shi b.slo)) (smulP a.shi b.shi)) (smulK a.shi b.shi)))).lo), .int .u64 (N (settledS (commonS rr (sendsS (smin (smin (smin (smin maxW (smulP a.slo b.slo)) (smulP a.slo b.shi)) (smulP a.shi b.slo)) (smulP a.shi b.shi)) (smax (smax (smax (smax minW (smulP a.slo b.slo)) (smulP a.slo b.shi)) (smulP a.shi b.slo)) (smulP a.shi b.shi)) (smulK a.shi b.shi)))).hi), .int .i64 (Z (settledS (commonS rr (sendsS (smin (smin (smin (smin maxW (smulP a.slo b.slo)) (smulP a.slo b.shi)) (smulP a.shi b.slo)) (smulP a.shi b.shi)) (smax (smax (smax (smax minW (smulP a.slo b.slo)) (smulP a.slo b.shi)) (smulP a.shi b.slo)) (smulP a.shi b.shi)) (smulK a.shi b.shi)))).slo), .int .i64 (Z (settledS (commonS rr (sendsS (smin (smin (smin (smin maxW (smulP a.slo b.slo)) (smulP a.slo b.shi)) (smulP a.shi b.slo)) (smulP a.shi b.shi)) (smax (smax (smax (smax minW (smulP a.slo b.slo)) (smulP a.slo b.shi)) (smulP a.shi b.slo)) (smulP a.shi b.shi)) (smulK a.shi b.shi)))).shi)]) (by simp [results, Try.results36, go_sem, r0, r1, r2, r3, N_beq]) rfl ⟨by rw [HE.out], ((((S.gr.setCell (a := ⟨R, 0, none⟩) S.lo _).setCell (a := ⟨R, 1, none⟩) S.lo _).setCell (a := ⟨R, 2, none⟩) S.lo _).setCell (a := ⟨R, 3, none⟩) S.lo _)⟩
end Go.Proofs.Ytchjneodjaakdaa
