/-
  Lemmas for the laws of this seat, part D: Sp13, NumsMath, AluMath, Nums, Alu, ScHook, TnMath, ScMath, ScLoop, NoNG, Sc1, Law15a, Sc2.
-/
import Derived.Test.YtdlgebfaijlaoaaPackC
import Derived.Test.YtdlgebfaijlaoaaProg
import Derived.Handy
import Derived.Lib.SlBytesRow
import Derived.BigQuiet
import Derived.Lib.ItoaNum
section
namespace Go.Proofs.Ytdlgebfaijlaoaa
set_option maxRecDepth 20000
open Go.RowKit
open Spn (Sp umax umin smax smin okS tightS anyS settledS commonS minW maxW endsS sendsS smulP smulK mulHi mLo mHi mK mulR)
theorem min_Zmax (a : BitVec 64) : min 9223372036854775807 (Z a) = Z (smin maxW a) := by rw [Spn.Z_smin, Spn.Z_maxW]
theorem max_Zmin (a : BitVec 64) : max (-9223372036854775808) (Z a) = Z (smax minW a) := by rw [Spn.Z_smax, Spn.Z_minW]
attribute [local go_sem] u64_wrap BitVec.ofInt_add BitVec.ofInt_mul ofInt_N ofInt_Nw wrap64_N ofInt_Z64 max_N min_N max_Z min_Z w_add w_sub w_mul w_div min_Zmax max_Zmin
theorem mul64_any (x y : BitVec 64) (w : World) : Calls Try.prog 94 #[.int .u64 (N x), .int .u64 (N y)] w fun e w' => e = .returned (.tuple #[.int .u64 (N (mulHi x y)), .int .u64 (N (x * y))]) ∧ w' = w := by
  have h := Try.bits_Mul64 x.toNat y.toNat x.isLt y.isLt w
  have hl : x.toNat * y.toNat < 18446744073709551616 * 18446744073709551616 := Nat.mul_lt_mul'' x.isLt y.isLt
  have e1 : ((x.toNat * y.toNat / 18446744073709551616 : Nat) : Int) = N (mulHi x y) := by
    unfold mulHi N
    rw [BitVec.toNat_ofNat]
    have : x.toNat * y.toNat / 18446744073709551616 < 18446744073709551616 := Nat.div_lt_of_lt_mul hl
    rw [Nat.mod_eq_of_lt this]
  have e2 : ((x.toNat * y.toNat % 18446744073709551616 : Nat) : Int) = N (x * y) := by
    unfold N
    rw [BitVec.toNat_mul]
  rw [e1, e2] at h
  exact h
/-- Two arguments, the result's place, and a span of one's own. -/
def Set3 (w : World) (A B R C : Nat) (a b r : Sp) (W : World) : Prop := Set2 w A B R a b W ∧ (W.cell? ⟨C, 0, none⟩ = some (.int .u64 (N r.lo)) ∧ W.cell? ⟨C, 1, none⟩ = some (.int .u64 (N r.hi)) ∧ W.cell? ⟨C, 2, none⟩ = some (.int .i64 (Z r.slo)) ∧ W.cell? ⟨C, 3, none⟩ = some (.int .i64 (Z r.shi)) ∧ C < W.heap.size)
theorem Set3.grown {w : World} {A B R C : Nat} {a b r : Sp} {W W' : World} (h : Set3 w A B R C a b r W) (g : Grown W W') : Set3 w A B R C a b r W' :=
  ⟨h.1.grown g, grown_cellAt g h.2.2.2.2.2 h.2.1, grown_cellAt g h.2.2.2.2.2 h.2.2.1, grown_cellAt g h.2.2.2.2.2 h.2.2.2.1, grown_cellAt g h.2.2.2.2.2 h.2.2.2.2.1, Nat.lt_of_lt_of_le h.2.2.2.2.2 g.2.2⟩
theorem held_set3 {w : World} {A B R C : Nat} {a b r : Sp} {P : Program} {f : FuncId} {args : Array Value} {v : Value} (x : Held (fun y => Set3 w A B R C a b r y))
    (h : Calls P f args x.w fun e w' => e = .returned v ∧ Grown x.w w') : Calls P f args x.w fun e w'' => e = .returned v ∧ ∃ y : Held (fun y => Set3 w A B R C a b r y), w'' = y.w := held_call (fun _ _ h g => Set3.grown h g) x h
set_option maxHeartbeats 4000000 in
theorem sp_smulX (a b : BitVec 64) (w : World) : Calls Try.prog 95 #[.int .i64 (Z a), .int .i64 (Z b)] w fun e w' => e = .returned (.tuple #[.int .i64 (Z (smulP a b)), .bool (smulK a b)]) ∧ w' = w := by
  have hZ0 : ∀ v : BitVec 64, (Z v == 0) = decide (v = 0#64) := fun v => by rw [Bool.eq_iff_iff]; simp [Spn.Z_zero_iff]
  unfold smulP smulK
  by_cases ca : a = 0#64
  · rw [if_pos (.inl ca), if_pos (.inl ca)]
    have x1 : (Z a == 0) = true := by rw [hZ0]; exact decide_eq_true ca
    rw [Spn.Z0]
    clear hZ0 ca
    go_enter Try.func95, Try.ntmps95
    go_wp2
    go_ret2
    exact ⟨rfl, rfl⟩
  have x1 : (Z a == 0) = false := by rw [hZ0]; exact decide_eq_false ca
  by_cases cb : b = 0#64
  · rw [if_pos (.inr cb), if_pos (.inr cb)]
    have x2 : (Z b == 0) = true := by rw [hZ0]; exact decide_eq_true cb
    rw [Spn.Z0]
    clear hZ0 ca cb
    go_enter Try.func95, Try.ntmps95
    go_wp2
    go_ret2
    exact ⟨rfl, rfl⟩
  have x2 : (Z b == 0) = false := by rw [hZ0]; exact decide_eq_false cb
  rw [if_neg (not_or.2 ⟨ca, cb⟩), if_neg (not_or.2 ⟨ca, cb⟩)]
  have e1 : ((a * b).sdiv b == a) = (Z ((a * b).sdiv b) == Z a) := by rw [Bool.eq_iff_iff]; simp only [beq_iff_eq]; exact ⟨fun h => by rw [h], Spn.Z_inj⟩
  have e2 : (a == minW) = (Z a == -9223372036854775808) := by rw [← Spn.Z_minW, Bool.eq_iff_iff]; simp only [beq_iff_eq]; exact ⟨fun h => by rw [h], Spn.Z_inj⟩
  have e3 : (b == -1#64) = (Z b == -1) := by rw [← Spn.Zm1, Bool.eq_iff_iff]; simp only [beq_iff_eq]; exact ⟨fun h => by rw [h], Spn.Z_inj⟩
  rw [e1, e2, e3]
  have x3 : ¬ Z b = 0 := by simpa using x2
  clear e1 e2 e3 ca cb hZ0
  cases y1 : (Z ((a * b).sdiv b) == Z a) <;> cases y2 : (Z a == -9223372036854775808) <;> cases y3 : (Z b == -1)
  all_goals
    go_enter Try.func95, Try.ntmps95
    go_wp2
    go_ret2
    exact ⟨by first | rfl | (rw [← w_mul a b]; rfl), rfl⟩
set_option maxHeartbeats 8000000 in
theorem sp_mul (alo ahi aslo ashi blo bhi bslo bshi : BitVec 64) (w : World) : Calls Try.prog 59 #[.agg #[.int .u64 (N alo), .int .u64 (N ahi), .int .i64 (Z aslo), .int .i64 (Z ashi)], .agg #[.int .u64 (N blo), .int .u64 (N bhi), .int .i64 (Z bslo), .int .i64 (Z bshi)]] w fun e w' => e = .returned (.agg #[.int .u64 (N (mulR (settledS (⟨alo, ahi, aslo, ashi⟩ : Sp)) (settledS (⟨blo, bhi, bslo, bshi⟩ : Sp))).lo), .int .u64 (N (mulR (settledS (⟨alo, ahi, aslo, ashi⟩ : Sp)) (settledS (⟨blo, bhi, bslo, bshi⟩ : Sp))).hi), .int .i64 (Z (mulR (settledS (⟨alo, ahi, aslo, ashi⟩ : Sp)) (settledS (⟨blo, bhi, bslo, bshi⟩ : Sp))).slo), .int .i64 (Z (mulR (settledS (⟨alo, ahi, aslo, ashi⟩ : Sp)) (settledS (⟨blo, bhi, bslo, bshi⟩ : Sp))).shi)]) ∧ Grown w w' := by
  have HA := Lib.hid (fun w => sp_settled alo ahi aslo ashi w)
  have HB := Lib.hid (fun w => sp_settled blo bhi bslo bshi w)
  generalize settledS (⟨alo, ahi, aslo, ashi⟩ : Sp) = a at *
  generalize settledS (⟨blo, bhi, bslo, bshi⟩ : Sp) = b at *
  go_enter Try.func59, Try.ntmps59
  go_upto_region 1 with fail
  go_cut [18] (fun _ wx => Set2 w w.heap.size (w.heap.size + 1) (w.heap.size + 1 + 1) a b wx)
  case first =>
    go_region_with (first | (go_at_call 86; (with_reducible refine (HA.out _).mono ?_); rintro e wn ⟨rfl, hg⟩; have G : Grown (three w #[.int .u64 (N alo), .int .u64 (N ahi), .int .i64 (Z aslo), .int .i64 (Z ashi)] #[.int .u64 (N blo), .int .u64 (N bhi), .int .i64 (Z bslo), .int .i64 (Z bshi)]) wn := Grown.trans' (by first | with_reducible assumption | (refine Grown.drew ?_; with_reducible assumption) | go_grown) hg; have gc := gcellI G; have gf := gfrozI G) | (go_at_call 86; (with_reducible refine (HB.out _).mono ?_); rintro e wn ⟨rfl, hg⟩; have G : Grown (three w #[.int .u64 (N alo), .int .u64 (N ahi), .int .i64 (Z aslo), .int .i64 (Z ashi)] #[.int .u64 (N blo), .int .u64 (N bhi), .int .i64 (Z bslo), .int .i64 (Z bshi)]) wn := Grown.trans' (by first | with_reducible assumption | (refine Grown.drew ?_; with_reducible assumption) | go_grown) hg; have gc := gcellI G; have gf := gfrozI G))
    all_goals
      go_wp2_with fail
      go_meet
      case rel => exact set2_of a b G
  case rest =>
    have S := hcut
    clear hcut HA HB
    obtain ⟨a0, a1, a2, a3, b0, b1, b2, b3, r0, r1, r2, r3, f0, f1, f2, f3, hA, hB, hR, gr, lo⟩ := id S
    clear gr
    generalize w.heap.size + 1 + 1 = R at *
    generalize w.heap.size + 1 = B at *
    generalize w.heap.size = A at *
    have S0 := S
    go_upto_region 4 with (first | (go_at_call 94; ((with_reducible refine (mul64_any _ _ _).mono ?_); rintro e w1 ⟨rfl, rfl⟩)) | (go_at_call 90; ((with_reducible refine (sp_ends _ _ _ _).mono ?_); rintro e wn ⟨rfl, hg⟩; have g0 := hg)))
    have S3 : Set3 w A B R wn.heap.size a b (endsS (a.lo * b.lo) (a.hi * b.hi) (N (mulHi a.hi b.hi) == 0)) (wn.alloc (.cells #[.int .u64 (N (endsS (a.lo * b.lo) (a.hi * b.hi) (N (mulHi a.hi b.hi) == 0)).lo), .int .u64 (N (endsS (a.lo * b.lo) (a.hi * b.hi) (N (mulHi a.hi b.hi) == 0)).hi), .int .i64 (Z (endsS (a.lo * b.lo) (a.hi * b.hi) (N (mulHi a.hi b.hi) == 0)).slo), .int .i64 (Z (endsS (a.lo * b.lo) (a.hi * b.hi) (N (mulHi a.hi b.hi) == 0)).shi)] 31)) := ⟨S0.grown (Grown.alloc g0 _ _), by simp [go_sem], by simp [go_sem], by simp [go_sem], by simp [go_sem], by simp⟩
    clear S S0 g0 hg a0 a1 a2 a3 b0 b1 b2 b3 r0 r1 r2 r3 f0 f1 f2 f3 hA hB hR lo
    have hrr0 : (endsS (a.lo * b.lo) (a.hi * b.hi) (N (mulHi a.hi b.hi) == 0)) = endsS (a.lo * b.lo) (a.hi * b.hi) (mulHi a.hi b.hi == 0#64) := by rw [show (N (mulHi a.hi b.hi) == 0) = (mulHi a.hi b.hi == 0#64) by rw [← Spn.N0, N_beq]]
    generalize (endsS (a.lo * b.lo) (a.hi * b.hi) (N (mulHi a.hi b.hi) == 0)) = rr at *
    have HRR := Lib.hid hrr0
    clear hrr0
    generalize wn.alloc (.cells #[.int .u64 (N rr.lo), .int .u64 (N rr.hi), .int .i64 (Z rr.slo), .int .i64 (Z rr.shi)] 31) = W4 at *
    generalize wn.heap.size = C at *
    have a2 := S3.1.a2
    have a3 := S3.1.a3
    have b2 := S3.1.b2
    have b3 := S3.1.b3
    have ja0 : ∀ w, (Instr.index 66 (.agg #[.int .i64 (Z a.slo), .int .i64 (Z a.shi)]) (.int .i64 0)).run Try.prog w = .ok (.int .i64 (Z a.slo)) w := fun _ => by kernel_rfl
    have ja1 : ∀ w, (Instr.index 66 (.agg #[.int .i64 (Z a.slo), .int .i64 (Z a.shi)]) (.int .i64 1)).run Try.prog w = .ok (.int .i64 (Z a.shi)) w := fun _ => by kernel_rfl
    have jb0 : ∀ w, (Instr.index 66 (.agg #[.int .i64 (Z b.slo), .int .i64 (Z b.shi)]) (.int .i64 0)).run Try.prog w = .ok (.int .i64 (Z b.slo)) w := fun _ => by kernel_rfl
    have jb1 : ∀ w, (Instr.index 66 (.agg #[.int .i64 (Z b.slo), .int .i64 (Z b.shi)]) (.int .i64 1)).run Try.prog w = .ok (.int .i64 (Z b.shi)) w := fun _ => by kernel_rfl
    cases y0 : smulK a.slo b.slo
    · skip
      have HE : Hid (mulR a b = settledS (commonS rr (sendsS (smin (smin (smin (smin maxW (smulP a.slo b.slo)) (smulP a.slo b.shi)) (smulP a.shi b.slo)) (smulP a.shi b.shi)) (smax (smax (smax (smax minW (smulP a.slo b.slo)) (smulP a.slo b.shi)) (smulP a.shi b.slo)) (smulP a.shi b.shi)) false))) := Lib.hid (by unfold mulR mK mLo mHi; rw [HRR.out, y0]; simp)
      have H0 : Hid (∀ w, Calls Try.prog 95 #[.int .i64 (Z a.slo), .int .i64 (Z b.slo)] w fun e w' => e = .returned (.tuple #[.int .i64 (Z (smulP a.slo b.slo)), .bool (false)]) ∧ w' = w) := Lib.hid (fun w => y0 ▸ sp_smulX a.slo b.slo w)
      have H1 : Hid (∀ w, Calls Try.prog 95 #[.int .i64 (Z a.slo), .int .i64 (Z b.shi)] w fun e w' => e = .returned (.tuple #[.int .i64 (Z (smulP a.slo b.shi)), .bool (smulK a.slo b.shi)]) ∧ w' = w) := Lib.hid (fun w => sp_smulX a.slo b.shi w)
      have H2 : Hid (∀ w, Calls Try.prog 95 #[.int .i64 (Z a.shi), .int .i64 (Z b.slo)] w fun e w' => e = .returned (.tuple #[.int .i64 (Z (smulP a.shi b.slo)), .bool (smulK a.shi b.slo)]) ∧ w' = w) := Lib.hid (fun w => sp_smulX a.shi b.slo w)
      have H3 : Hid (∀ w, Calls Try.prog 95 #[.int .i64 (Z a.shi), .int .i64 (Z b.shi)] w fun e w' => e = .returned (.tuple #[.int .i64 (Z (smulP a.shi b.shi)), .bool (smulK a.shi b.shi)]) ∧ w' = w) := Lib.hid (fun w => sp_smulX a.shi b.shi w)
      clear y0
      go_wp2_with fail
      refine wp_loop_rounds 3 ?_
      rw [rounds_succ]
      go_wp2_with fail
      refine wp_loop_rounds 3 ?_
      rw [rounds_succ]
      go_wp2_with (first | (go_at_call 95; ((with_reducible refine (H0.out _).mono ?_); rintro e w1 ⟨rfl, rfl⟩)) | (go_at_call 95; ((with_reducible refine (H1.out _).mono ?_); rintro e w1 ⟨rfl, rfl⟩)) | (go_at_call 95; ((with_reducible refine (H2.out _).mono ?_); rintro e w1 ⟨rfl, rfl⟩)) | (go_at_call 95; ((with_reducible refine (H3.out _).mono ?_); rintro e w1 ⟨rfl, rfl⟩)))
      rw [rounds_succ]
      go_wp2_with (first | (go_at_call 95; ((with_reducible refine (H0.out _).mono ?_); rintro e w1 ⟨rfl, rfl⟩)) | (go_at_call 95; ((with_reducible refine (H1.out _).mono ?_); rintro e w1 ⟨rfl, rfl⟩)) | (go_at_call 95; ((with_reducible refine (H2.out _).mono ?_); rintro e w1 ⟨rfl, rfl⟩)) | (go_at_call 95; ((with_reducible refine (H3.out _).mono ?_); rintro e w1 ⟨rfl, rfl⟩)))
      rw [rounds_succ]
      go_wp2_with fail
      rw [rounds_succ]
      go_wp2_with fail
      refine wp_loop_rounds 3 ?_
      rw [rounds_succ]
      go_wp2_with (first | (go_at_call 95; ((with_reducible refine (H0.out _).mono ?_); rintro e w1 ⟨rfl, rfl⟩)) | (go_at_call 95; ((with_reducible refine (H1.out _).mono ?_); rintro e w1 ⟨rfl, rfl⟩)) | (go_at_call 95; ((with_reducible refine (H2.out _).mono ?_); rintro e w1 ⟨rfl, rfl⟩)) | (go_at_call 95; ((with_reducible refine (H3.out _).mono ?_); rintro e w1 ⟨rfl, rfl⟩)))
      rw [rounds_succ]
      go_wp2_with (first | (go_at_call 95; ((with_reducible refine (H0.out _).mono ?_); rintro e w1 ⟨rfl, rfl⟩)) | (go_at_call 95; ((with_reducible refine (H1.out _).mono ?_); rintro e w1 ⟨rfl, rfl⟩)) | (go_at_call 95; ((with_reducible refine (H2.out _).mono ?_); rintro e w1 ⟨rfl, rfl⟩)) | (go_at_call 95; ((with_reducible refine (H3.out _).mono ?_); rintro e w1 ⟨rfl, rfl⟩)))
      rw [rounds_succ]
      go_wp2_with fail
      rw [rounds_succ]
      go_wp2_with fail
      have q0 : ∀ z : Held (fun y => Set3 w A B R C a b rr y), z.w.cell? ⟨C, 0, none⟩ = some _ := fun z => z.h.2.1
      have q1 : ∀ z : Held (fun y => Set3 w A B R C a b rr y), z.w.cell? ⟨C, 1, none⟩ = some _ := fun z => z.h.2.2.1
      have q2 : ∀ z : Held (fun y => Set3 w A B R C a b rr y), z.w.cell? ⟨C, 2, none⟩ = some _ := fun z => z.h.2.2.2.1
      have q3 : ∀ z : Held (fun y => Set3 w A B R C a b rr y), z.w.cell? ⟨C, 3, none⟩ = some _ := fun z => z.h.2.2.2.2.1
      refine wp_region_lex_tail (fun y => Set3 w A B R C a b rr y) 7 (by kernel_rfl) (by kernel_rfl) (S3.grown (Grown.drew (Grown.refl _))) (fun hNon => ?_)
      simp only [List.take_succ_cons, List.take_zero, List.drop_succ_cons, List.drop_zero]
      repeat (go_big_quiet_step ((first | (go_at_call 91; exact held_set3 _ (sp_sends _ _ _ _)) | (go_at_call 89; exact held_set3 _ (sp_common _ _ _ _ _ _ _ _ _)) | (go_at_call 86; exact held_set3 _ (sp_settled _ _ _ _ _)))))
      refine wpQuiet_nil ?_
      intro w5 S5
      clear hNon q0 q1 q2 q3 a2 a3 b2 b3 S3
      have S := S5.1
      obtain ⟨a0, a1, a2, a3, b0, b1, b2, b3, r0, r1, r2, r3, f0, f1, f2, f3, hA, hB, hR, gr, lo⟩ := id S
      clear gr S5
      go_wp2
      refine bodyPost_ret (v := .agg #[.int .u64 (N (settledS (commonS rr (sendsS (smin (smin (smin (smin maxW (smulP a.slo b.slo)) (smulP a.slo b.shi)) (smulP a.shi b.slo)) (smulP a.shi b.shi)) (smax (smax (smax (smax minW (smulP a.slo b.slo)) (smulP a.slo b.shi)) (smulP a.shi b.slo)) (smulP a.shi b.shi)) false))).lo), .int .u64 (N (settledS (commonS rr (sendsS (smin (smin (smin (smin maxW (smulP a.slo b.slo)) (smulP a.slo b.shi)) (smulP a.shi b.slo)) (smulP a.shi b.shi)) (smax (smax (smax (smax minW (smulP a.slo b.slo)) (smulP a.slo b.shi)) (smulP a.shi b.slo)) (smulP a.shi b.shi)) false))).hi), .int .i64 (Z (settledS (commonS rr (sendsS (smin (smin (smin (smin maxW (smulP a.slo b.slo)) (smulP a.slo b.shi)) (smulP a.shi b.slo)) (smulP a.shi b.shi)) (smax (smax (smax (smax minW (smulP a.slo b.slo)) (smulP a.slo b.shi)) (smulP a.shi b.slo)) (smulP a.shi b.shi)) false))).slo), .int .i64 (Z (settledS (commonS rr (sendsS (smin (smin (smin (smin maxW (smulP a.slo b.slo)) (smulP a.slo b.shi)) (smulP a.shi b.slo)) (smulP a.shi b.shi)) (smax (smax (smax (smax minW (smulP a.slo b.slo)) (smulP a.slo b.shi)) (smulP a.shi b.slo)) (smulP a.shi b.shi)) false))).shi)]) (by simp [results, Try.results59, go_sem, r0, r1, r2, r3]) rfl ⟨by rw [HE.out], ((((S.gr.setCell (a := ⟨R, 0, none⟩) S.lo _).setCell (a := ⟨R, 1, none⟩) S.lo _).setCell (a := ⟨R, 2, none⟩) S.lo _).setCell (a := ⟨R, 3, none⟩) S.lo _)⟩
    cases y1 : smulK a.slo b.shi
    · skip
      have HE : Hid (mulR a b = settledS (commonS rr (sendsS (smin (smin (smin (smin maxW (smulP a.slo b.slo)) (smulP a.slo b.shi)) (smulP a.shi b.slo)) (smulP a.shi b.shi)) (smax (smax (smax (smax minW (smulP a.slo b.slo)) (smulP a.slo b.shi)) (smulP a.shi b.slo)) (smulP a.shi b.shi)) false))) := Lib.hid (by unfold mulR mK mLo mHi; rw [HRR.out, y0, y1]; simp)
      have H0 : Hid (∀ w, Calls Try.prog 95 #[.int .i64 (Z a.slo), .int .i64 (Z b.slo)] w fun e w' => e = .returned (.tuple #[.int .i64 (Z (smulP a.slo b.slo)), .bool (true)]) ∧ w' = w) := Lib.hid (fun w => y0 ▸ sp_smulX a.slo b.slo w)
      have H1 : Hid (∀ w, Calls Try.prog 95 #[.int .i64 (Z a.slo), .int .i64 (Z b.shi)] w fun e w' => e = .returned (.tuple #[.int .i64 (Z (smulP a.slo b.shi)), .bool (false)]) ∧ w' = w) := Lib.hid (fun w => y1 ▸ sp_smulX a.slo b.shi w)
      have H2 : Hid (∀ w, Calls Try.prog 95 #[.int .i64 (Z a.shi), .int .i64 (Z b.slo)] w fun e w' => e = .returned (.tuple #[.int .i64 (Z (smulP a.shi b.slo)), .bool (smulK a.shi b.slo)]) ∧ w' = w) := Lib.hid (fun w => sp_smulX a.shi b.slo w)
      have H3 : Hid (∀ w, Calls Try.prog 95 #[.int .i64 (Z a.shi), .int .i64 (Z b.shi)] w fun e w' => e = .returned (.tuple #[.int .i64 (Z (smulP a.shi b.shi)), .bool (smulK a.shi b.shi)]) ∧ w' = w) := Lib.hid (fun w => sp_smulX a.shi b.shi w)
      clear y0 y1
      go_wp2_with fail
      refine wp_loop_rounds 3 ?_
      rw [rounds_succ]
      go_wp2_with fail
      refine wp_loop_rounds 3 ?_
      rw [rounds_succ]
      go_wp2_with (first | (go_at_call 95; ((with_reducible refine (H0.out _).mono ?_); rintro e w1 ⟨rfl, rfl⟩)) | (go_at_call 95; ((with_reducible refine (H1.out _).mono ?_); rintro e w1 ⟨rfl, rfl⟩)) | (go_at_call 95; ((with_reducible refine (H2.out _).mono ?_); rintro e w1 ⟨rfl, rfl⟩)) | (go_at_call 95; ((with_reducible refine (H3.out _).mono ?_); rintro e w1 ⟨rfl, rfl⟩)))
      rw [rounds_succ]
      go_wp2_with (first | (go_at_call 95; ((with_reducible refine (H0.out _).mono ?_); rintro e w1 ⟨rfl, rfl⟩)) | (go_at_call 95; ((with_reducible refine (H1.out _).mono ?_); rintro e w1 ⟨rfl, rfl⟩)) | (go_at_call 95; ((with_reducible refine (H2.out _).mono ?_); rintro e w1 ⟨rfl, rfl⟩)) | (go_at_call 95; ((with_reducible refine (H3.out _).mono ?_); rintro e w1 ⟨rfl, rfl⟩)))
      rw [rounds_succ]
      go_wp2_with fail
      rw [rounds_succ]
      go_wp2_with fail
      refine wp_loop_rounds 3 ?_
      rw [rounds_succ]
      go_wp2_with (first | (go_at_call 95; ((with_reducible refine (H0.out _).mono ?_); rintro e w1 ⟨rfl, rfl⟩)) | (go_at_call 95; ((with_reducible refine (H1.out _).mono ?_); rintro e w1 ⟨rfl, rfl⟩)) | (go_at_call 95; ((with_reducible refine (H2.out _).mono ?_); rintro e w1 ⟨rfl, rfl⟩)) | (go_at_call 95; ((with_reducible refine (H3.out _).mono ?_); rintro e w1 ⟨rfl, rfl⟩)))
      rw [rounds_succ]
      go_wp2_with (first | (go_at_call 95; ((with_reducible refine (H0.out _).mono ?_); rintro e w1 ⟨rfl, rfl⟩)) | (go_at_call 95; ((with_reducible refine (H1.out _).mono ?_); rintro e w1 ⟨rfl, rfl⟩)) | (go_at_call 95; ((with_reducible refine (H2.out _).mono ?_); rintro e w1 ⟨rfl, rfl⟩)) | (go_at_call 95; ((with_reducible refine (H3.out _).mono ?_); rintro e w1 ⟨rfl, rfl⟩)))
      rw [rounds_succ]
      go_wp2_with fail
      rw [rounds_succ]
      go_wp2_with fail
      have q0 : ∀ z : Held (fun y => Set3 w A B R C a b rr y), z.w.cell? ⟨C, 0, none⟩ = some _ := fun z => z.h.2.1
      have q1 : ∀ z : Held (fun y => Set3 w A B R C a b rr y), z.w.cell? ⟨C, 1, none⟩ = some _ := fun z => z.h.2.2.1
      have q2 : ∀ z : Held (fun y => Set3 w A B R C a b rr y), z.w.cell? ⟨C, 2, none⟩ = some _ := fun z => z.h.2.2.2.1
      have q3 : ∀ z : Held (fun y => Set3 w A B R C a b rr y), z.w.cell? ⟨C, 3, none⟩ = some _ := fun z => z.h.2.2.2.2.1
      refine wp_region_lex_tail (fun y => Set3 w A B R C a b rr y) 7 (by kernel_rfl) (by kernel_rfl) (S3.grown (Grown.drew (Grown.refl _))) (fun hNon => ?_)
      simp only [List.take_succ_cons, List.take_zero, List.drop_succ_cons, List.drop_zero]
      repeat (go_big_quiet_step ((first | (go_at_call 91; exact held_set3 _ (sp_sends _ _ _ _)) | (go_at_call 89; exact held_set3 _ (sp_common _ _ _ _ _ _ _ _ _)) | (go_at_call 86; exact held_set3 _ (sp_settled _ _ _ _ _)))))
      refine wpQuiet_nil ?_
      intro w5 S5
      clear hNon q0 q1 q2 q3 a2 a3 b2 b3 S3
      have S := S5.1
      obtain ⟨a0, a1, a2, a3, b0, b1, b2, b3, r0, r1, r2, r3, f0, f1, f2, f3, hA, hB, hR, gr, lo⟩ := id S
      clear gr S5
      go_wp2
      refine bodyPost_ret (v := .agg #[.int .u64 (N (settledS (commonS rr (sendsS (smin (smin (smin (smin maxW (smulP a.slo b.slo)) (smulP a.slo b.shi)) (smulP a.shi b.slo)) (smulP a.shi b.shi)) (smax (smax (smax (smax minW (smulP a.slo b.slo)) (smulP a.slo b.shi)) (smulP a.shi b.slo)) (smulP a.shi b.shi)) false))).lo), .int .u64 (N (settledS (commonS rr (sendsS (smin (smin (smin (smin maxW (smulP a.slo b.slo)) (smulP a.slo b.shi)) (smulP a.shi b.slo)) (smulP a.shi b.shi)) (smax (smax (smax (smax minW (smulP a.slo b.slo)) (smulP a.slo b.shi)) (smulP a.shi b.slo)) (smulP a.shi b.shi)) false))).hi), .int .i64 (Z (settledS (commonS rr (sendsS (smin (smin (smin (smin maxW (smulP a.slo b.slo)) (smulP a.slo b.shi)) (smulP a.shi b.slo)) (smulP a.shi b.shi)) (smax (smax (smax (smax minW (smulP a.slo b.slo)) (smulP a.slo b.shi)) (smulP a.shi b.slo)) (smulP a.shi b.shi)) false))).slo), .int .i64 (Z (settledS (commonS rr (sendsS (smin (smin (smin (smin maxW (smulP a.slo b.slo)) (smulP a.slo b.shi)) (smulP a.shi b.slo)) (smulP a.shi b.shi)) (smax (smax (smax (smax minW (smulP a.slo b.slo)) (smulP a.slo b.shi)) (smulP a.shi b.slo)) (smulP a.shi b.shi)) false))).shi)]) (by simp [results, Try.results59, go_sem, r0, r1, r2, r3]) rfl ⟨by rw [HE.out], ((((S.gr.setCell (a := ⟨R, 0, none⟩) S.lo _).setCell (a := ⟨R, 1, none⟩) S.lo _).setCell (a := ⟨R, 2, none⟩) S.lo _).setCell (a := ⟨R, 3, none⟩) S.lo _)⟩
    cases y2 : smulK a.shi b.slo
    · skip
      have HE : Hid (mulR a b = settledS (commonS rr (sendsS (smin (smin (smin (smin maxW (smulP a.slo b.slo)) (smulP a.slo b.shi)) (smulP a.shi b.slo)) (smulP a.shi b.shi)) (smax (smax (smax (smax minW (smulP a.slo b.slo)) (smulP a.slo b.shi)) (smulP a.shi b.slo)) (smulP a.shi b.shi)) false))) := Lib.hid (by unfold mulR mK mLo mHi; rw [HRR.out, y0, y1, y2]; simp)
      have H0 : Hid (∀ w, Calls Try.prog 95 #[.int .i64 (Z a.slo), .int .i64 (Z b.slo)] w fun e w' => e = .returned (.tuple #[.int .i64 (Z (smulP a.slo b.slo)), .bool (true)]) ∧ w' = w) := Lib.hid (fun w => y0 ▸ sp_smulX a.slo b.slo w)
      have H1 : Hid (∀ w, Calls Try.prog 95 #[.int .i64 (Z a.slo), .int .i64 (Z b.shi)] w fun e w' => e = .returned (.tuple #[.int .i64 (Z (smulP a.slo b.shi)), .bool (true)]) ∧ w' = w) := Lib.hid (fun w => y1 ▸ sp_smulX a.slo b.shi w)
      have H2 : Hid (∀ w, Calls Try.prog 95 #[.int .i64 (Z a.shi), .int .i64 (Z b.slo)] w fun e w' => e = .returned (.tuple #[.int .i64 (Z (smulP a.shi b.slo)), .bool (false)]) ∧ w' = w) := Lib.hid (fun w => y2 ▸ sp_smulX a.shi b.slo w)
      have H3 : Hid (∀ w, Calls Try.prog 95 #[.int .i64 (Z a.shi), .int .i64 (Z b.shi)] w fun e w' => e = .returned (.tuple #[.int .i64 (Z (smulP a.shi b.shi)), .bool (smulK a.shi b.shi)]) ∧ w' = w) := Lib.hid (fun w => sp_smulX a.shi b.shi w)
      clear y0 y1 y2
      go_wp2_with fail
      refine wp_loop_rounds 3 ?_
      rw [rounds_succ]
      go_wp2_with fail
      refine wp_loop_rounds 3 ?_
      rw [rounds_succ]
      go_wp2_with (first | (go_at_call 95; ((with_reducible refine (H0.out _).mono ?_); rintro e w1 ⟨rfl, rfl⟩)) | (go_at_call 95; ((with_reducible refine (H1.out _).mono ?_); rintro e w1 ⟨rfl, rfl⟩)) | (go_at_call 95; ((with_reducible refine (H2.out _).mono ?_); rintro e w1 ⟨rfl, rfl⟩)) | (go_at_call 95; ((with_reducible refine (H3.out _).mono ?_); rintro e w1 ⟨rfl, rfl⟩)))
      rw [rounds_succ]
      go_wp2_with (first | (go_at_call 95; ((with_reducible refine (H0.out _).mono ?_); rintro e w1 ⟨rfl, rfl⟩)) | (go_at_call 95; ((with_reducible refine (H1.out _).mono ?_); rintro e w1 ⟨rfl, rfl⟩)) | (go_at_call 95; ((with_reducible refine (H2.out _).mono ?_); rintro e w1 ⟨rfl, rfl⟩)) | (go_at_call 95; ((with_reducible refine (H3.out _).mono ?_); rintro e w1 ⟨rfl, rfl⟩)))
      rw [rounds_succ]
      go_wp2_with fail
      rw [rounds_succ]
      go_wp2_with fail
      refine wp_loop_rounds 3 ?_
      rw [rounds_succ]
      go_wp2_with (first | (go_at_call 95; ((with_reducible refine (H0.out _).mono ?_); rintro e w1 ⟨rfl, rfl⟩)) | (go_at_call 95; ((with_reducible refine (H1.out _).mono ?_); rintro e w1 ⟨rfl, rfl⟩)) | (go_at_call 95; ((with_reducible refine (H2.out _).mono ?_); rintro e w1 ⟨rfl, rfl⟩)) | (go_at_call 95; ((with_reducible refine (H3.out _).mono ?_); rintro e w1 ⟨rfl, rfl⟩)))
      rw [rounds_succ]
      go_wp2_with (first | (go_at_call 95; ((with_reducible refine (H0.out _).mono ?_); rintro e w1 ⟨rfl, rfl⟩)) | (go_at_call 95; ((with_reducible refine (H1.out _).mono ?_); rintro e w1 ⟨rfl, rfl⟩)) | (go_at_call 95; ((with_reducible refine (H2.out _).mono ?_); rintro e w1 ⟨rfl, rfl⟩)) | (go_at_call 95; ((with_reducible refine (H3.out _).mono ?_); rintro e w1 ⟨rfl, rfl⟩)))
      rw [rounds_succ]
      go_wp2_with fail
      rw [rounds_succ]
      go_wp2_with fail
      have q0 : ∀ z : Held (fun y => Set3 w A B R C a b rr y), z.w.cell? ⟨C, 0, none⟩ = some _ := fun z => z.h.2.1
      have q1 : ∀ z : Held (fun y => Set3 w A B R C a b rr y), z.w.cell? ⟨C, 1, none⟩ = some _ := fun z => z.h.2.2.1
      have q2 : ∀ z : Held (fun y => Set3 w A B R C a b rr y), z.w.cell? ⟨C, 2, none⟩ = some _ := fun z => z.h.2.2.2.1
      have q3 : ∀ z : Held (fun y => Set3 w A B R C a b rr y), z.w.cell? ⟨C, 3, none⟩ = some _ := fun z => z.h.2.2.2.2.1
      refine wp_region_lex_tail (fun y => Set3 w A B R C a b rr y) 7 (by kernel_rfl) (by kernel_rfl) (S3.grown (Grown.drew (Grown.refl _))) (fun hNon => ?_)
      simp only [List.take_succ_cons, List.take_zero, List.drop_succ_cons, List.drop_zero]
      repeat (go_big_quiet_step ((first | (go_at_call 91; exact held_set3 _ (sp_sends _ _ _ _)) | (go_at_call 89; exact held_set3 _ (sp_common _ _ _ _ _ _ _ _ _)) | (go_at_call 86; exact held_set3 _ (sp_settled _ _ _ _ _)))))
      refine wpQuiet_nil ?_
      intro w5 S5
      clear hNon q0 q1 q2 q3 a2 a3 b2 b3 S3
      have S := S5.1
      obtain ⟨a0, a1, a2, a3, b0, b1, b2, b3, r0, r1, r2, r3, f0, f1, f2, f3, hA, hB, hR, gr, lo⟩ := id S
      clear gr S5
      go_wp2
      refine bodyPost_ret (v := .agg #[.int .u64 (N (settledS (commonS rr (sendsS (smin (smin (smin (smin maxW (smulP a.slo b.slo)) (smulP a.slo b.shi)) (smulP a.shi b.slo)) (smulP a.shi b.shi)) (smax (smax (smax (smax minW (smulP a.slo b.slo)) (smulP a.slo b.shi)) (smulP a.shi b.slo)) (smulP a.shi b.shi)) false))).lo), .int .u64 (N (settledS (commonS rr (sendsS (smin (smin (smin (smin maxW (smulP a.slo b.slo)) (smulP a.slo b.shi)) (smulP a.shi b.slo)) (smulP a.shi b.shi)) (smax (smax (smax (smax minW (smulP a.slo b.slo)) (smulP a.slo b.shi)) (smulP a.shi b.slo)) (smulP a.shi b.shi)) false))).hi), .int .i64 (Z (settledS (commonS rr (sendsS (smin (smin (smin (smin maxW (smulP a.slo b.slo)) (smulP a.slo b.shi)) (smulP a.shi b.slo)) (smulP a.shi b.shi)) (smax (smax (smax (smax minW (smulP a.slo b.slo)) (smulP a.slo b.shi)) (smulP a.shi b.slo)) (smulP a.shi b.shi)) false))).slo), .int .i64 (Z (settledS (commonS rr (sendsS (smin (smin (smin (smin maxW (smulP a.slo b.slo)) (smulP a.slo b.shi)) (smulP a.shi b.slo)) (smulP a.shi b.shi)) (smax (smax (smax (smax minW (smulP a.slo b.slo)) (smulP a.slo b.shi)) (smulP a.shi b.slo)) (smulP a.shi b.shi)) false))).shi)]) (by simp [results, Try.results59, go_sem, r0, r1, r2, r3]) rfl ⟨by rw [HE.out], ((((S.gr.setCell (a := ⟨R, 0, none⟩) S.lo _).setCell (a := ⟨R, 1, none⟩) S.lo _).setCell (a := ⟨R, 2, none⟩) S.lo _).setCell (a := ⟨R, 3, none⟩) S.lo _)⟩
    have HE : Hid (mulR a b = settledS (commonS rr (sendsS (smin (smin (smin (smin maxW (smulP a.slo b.slo)) (smulP a.slo b.shi)) (smulP a.shi b.slo)) (smulP a.shi b.shi)) (smax (smax (smax (smax minW (smulP a.slo b.slo)) (smulP a.slo b.shi)) (smulP a.shi b.slo)) (smulP a.shi b.shi)) (smulK a.shi b.shi)))) := Lib.hid (by unfold mulR mK mLo mHi; rw [HRR.out, y0, y1, y2]; simp)
    have H0 : Hid (∀ w, Calls Try.prog 95 #[.int .i64 (Z a.slo), .int .i64 (Z b.slo)] w fun e w' => e = .returned (.tuple #[.int .i64 (Z (smulP a.slo b.slo)), .bool (true)]) ∧ w' = w) := Lib.hid (fun w => y0 ▸ sp_smulX a.slo b.slo w)
    have H1 : Hid (∀ w, Calls Try.prog 95 #[.int .i64 (Z a.slo), .int .i64 (Z b.shi)] w fun e w' => e = .returned (.tuple #[.int .i64 (Z (smulP a.slo b.shi)), .bool (true)]) ∧ w' = w) := Lib.hid (fun w => y1 ▸ sp_smulX a.slo b.shi w)
    have H2 : Hid (∀ w, Calls Try.prog 95 #[.int .i64 (Z a.shi), .int .i64 (Z b.slo)] w fun e w' => e = .returned (.tuple #[.int .i64 (Z (smulP a.shi b.slo)), .bool (true)]) ∧ w' = w) := Lib.hid (fun w => y2 ▸ sp_smulX a.shi b.slo w)
    have H3 : Hid (∀ w, Calls Try.prog 95 #[.int .i64 (Z a.shi), .int .i64 (Z b.shi)] w fun e w' => e = .returned (.tuple #[.int .i64 (Z (smulP a.shi b.shi)), .bool (smulK a.shi b.shi)]) ∧ w' = w) := Lib.hid (fun w => sp_smulX a.shi b.shi w)
    clear y0 y1 y2
    go_wp2_with fail
    refine wp_loop_rounds 3 ?_
    rw [rounds_succ]
    go_wp2_with fail
    refine wp_loop_rounds 3 ?_
    rw [rounds_succ]
    go_wp2_with (first | (go_at_call 95; ((with_reducible refine (H0.out _).mono ?_); rintro e w1 ⟨rfl, rfl⟩)) | (go_at_call 95; ((with_reducible refine (H1.out _).mono ?_); rintro e w1 ⟨rfl, rfl⟩)) | (go_at_call 95; ((with_reducible refine (H2.out _).mono ?_); rintro e w1 ⟨rfl, rfl⟩)) | (go_at_call 95; ((with_reducible refine (H3.out _).mono ?_); rintro e w1 ⟨rfl, rfl⟩)))
    rw [rounds_succ]
    go_wp2_with (first | (go_at_call 95; ((with_reducible refine (H0.out _).mono ?_); rintro e w1 ⟨rfl, rfl⟩)) | (go_at_call 95; ((with_reducible refine (H1.out _).mono ?_); rintro e w1 ⟨rfl, rfl⟩)) | (go_at_call 95; ((with_reducible refine (H2.out _).mono ?_); rintro e w1 ⟨rfl, rfl⟩)) | (go_at_call 95; ((with_reducible refine (H3.out _).mono ?_); rintro e w1 ⟨rfl, rfl⟩)))
    rw [rounds_succ]
    go_wp2_with fail
    rw [rounds_succ]
    go_wp2_with fail
    refine wp_loop_rounds 3 ?_
    rw [rounds_succ]
    go_wp2_with (first | (go_at_call 95; ((with_reducible refine (H0.out _).mono ?_); rintro e w1 ⟨rfl, rfl⟩)) | (go_at_call 95; ((with_reducible refine (H1.out _).mono ?_); rintro e w1 ⟨rfl, rfl⟩)) | (go_at_call 95; ((with_reducible refine (H2.out _).mono ?_); rintro e w1 ⟨rfl, rfl⟩)) | (go_at_call 95; ((with_reducible refine (H3.out _).mono ?_); rintro e w1 ⟨rfl, rfl⟩)))
    rw [rounds_succ]
    go_wp2_with (first | (go_at_call 95; ((with_reducible refine (H0.out _).mono ?_); rintro e w1 ⟨rfl, rfl⟩)) | (go_at_call 95; ((with_reducible refine (H1.out _).mono ?_); rintro e w1 ⟨rfl, rfl⟩)) | (go_at_call 95; ((with_reducible refine (H2.out _).mono ?_); rintro e w1 ⟨rfl, rfl⟩)) | (go_at_call 95; ((with_reducible refine (H3.out _).mono ?_); rintro e w1 ⟨rfl, rfl⟩)))
    rw [rounds_succ]
    go_wp2_with fail
    rw [rounds_succ]
    go_wp2_with fail
    have q0 : ∀ z : Held (fun y => Set3 w A B R C a b rr y), z.w.cell? ⟨C, 0, none⟩ = some _ := fun z => z.h.2.1
    have q1 : ∀ z : Held (fun y => Set3 w A B R C a b rr y), z.w.cell? ⟨C, 1, none⟩ = some _ := fun z => z.h.2.2.1
    have q2 : ∀ z : Held (fun y => Set3 w A B R C a b rr y), z.w.cell? ⟨C, 2, none⟩ = some _ := fun z => z.h.2.2.2.1
    have q3 : ∀ z : Held (fun y => Set3 w A B R C a b rr y), z.w.cell? ⟨C, 3, none⟩ = some _ := fun z => z.h.2.2.2.2.1
    refine wp_region_lex_tail (fun y => Set3 w A B R C a b rr y) 7 (by kernel_rfl) (by kernel_rfl) (S3.grown (Grown.drew (Grown.refl _))) (fun hNon => ?_)
    simp only [List.take_succ_cons, List.take_zero, List.drop_succ_cons, List.drop_zero]
    repeat (go_big_quiet_step ((first | (go_at_call 91; exact held_set3 _ (sp_sends _ _ _ _)) | (go_at_call 89; exact held_set3 _ (sp_common _ _ _ _ _ _ _ _ _)) | (go_at_call 86; exact held_set3 _ (sp_settled _ _ _ _ _)))))
    refine wpQuiet_nil ?_
    intro w5 S5
    clear hNon q0 q1 q2 q3 a2 a3 b2 b3 S3
    have S := S5.1
    obtain ⟨a0, a1, a2, a3, b0, b1, b2, b3, r0, r1, r2, r3, f0, f1, f2, f3, hA, hB, hR, gr, lo⟩ := id S
    clear gr S5
    go_wp2
    refine bodyPost_ret (v := .agg #[.int .u64 (N (settledS (commonS rr (sendsS (smin (smin (smin (smin maxW (smulP a.slo b.slo)) (smulP a.slo b.shi)) (smulP a.shi b.slo)) (smulP a.shi b.shi)) (smax (smax (smax (smax minW (smulP a.slo b.slo)) (smulP a.slo b.shi)) (smulP a.shi b.slo)) (smulP a.shi b.shi)) (smulK a.shi b.shi)))).lo), .int .u64 (N (settledS (commonS rr (sendsS (smin (smin (smin (smin maxW (smulP a.slo b.slo)) (smulP a.slo b.shi)) (smulP a.shi b.slo)) (smulP a.shi b.shi)) (smax (smax (smax (smax minW (smulP a.slo b.slo)) (smulP a.slo b.shi)) (smulP a.shi b.slo)) (smulP a.shi b.shi)) (smulK a.shi b.shi)))).hi), .int .i64 (Z (settledS (commonS rr (sendsS (smin (smin (smin (smin maxW (smulP a.slo b.slo)) (smulP a.slo b.shi)) (smulP a.shi b.slo)) (smulP a.shi b.shi)) (smax (smax (smax (smax minW (smulP a.slo b.slo)) (smulP a.slo b.shi)) (smulP a.shi b.slo)) (smulP a.shi b.shi)) (smulK a.shi b.shi)))).slo), .int .i64 (Z (settledS (commonS rr (sendsS (smin (smin (smin (smin maxW (smulP a.slo b.slo)) (smulP a.slo b.shi)) (smulP a.shi b.slo)) (smulP a.shi b.shi)) (smax (smax (smax (smax minW (smulP a.slo b.slo)) (smulP a.slo b.shi)) (smulP a.shi b.slo)) (smulP a.shi b.shi)) (smulK a.shi b.shi)))).shi)]) (by simp [results, Try.results59, go_sem, r0, r1, r2, r3]) rfl ⟨by rw [HE.out], ((((S.gr.setCell (a := ⟨R, 0, none⟩) S.lo _).setCell (a := ⟨R, 1, none⟩) S.lo _).setCell (a := ⟨R, 2, none⟩) S.lo _).setCell (a := ⟨R, 3, none⟩) S.lo _)⟩
end Go.Proofs.Ytdlgebfaijlaoaa
end
section
namespace Go.Proofs.Ytdlgebfaijlaoaa

def lowS (v : BitVec 64) (b : Int) : BitVec 64 := if b ≤ 0 then 0 else if 64 ≤ b then v else v &&& (1#64 <<< b.toNat - 1#64)
def signS (v : BitVec 64) (b : Int) : BitVec 64 := if b ≤ 0 then 0 else if 64 ≤ b then v else (v <<< (64 - b).toNat).sshiftRight (64 - b).toNat

/-- The number of the first k of some bytes. -/
def numF (f : Nat → BitVec 8) : Nat → BitVec 64
  | 0 => 0#64
  | k + 1 => numF f k ||| ((f k).setWidth 64 <<< (8 * k))
def byteAt (s : ByteArray) (i : Nat) : BitVec 8 := (s.data.toList.getD i 0).toBitVec
def numS (s : ByteArray) : BitVec 64 := numF (byteAt s) (min s.size 8)
theorem numF_succ (f : Nat → BitVec 8) (k : Nat) : numF f (k + 1) = numF f k ||| ((f k).setWidth 64 <<< (8 * k)) := rfl
theorem byteAt_get (s : ByteArray) (k : Nat) (h : k < s.size) : BitVec.ofNat 64 s[k].toNat = (byteAt s k).setWidth 64 := by
  unfold byteAt
  have h' : k < s.data.toList.length := by simpa using h
  rw [List.getD_eq_getElem?_getD, List.getElem?_eq_getElem h']
  rw [← BitVec.ofNat_toNat]; rfl
theorem numS_eq (s : ByteArray) (k : Nat) (h : k = min s.size 8) : numF (byteAt s) k = numS s := by rw [h]; rfl

theorem numF_bit (f : Nat → BitVec 8) (k j : Nat) : (numF f k).getLsbD j = (decide (j < 64) && decide (j < 8 * k) && (f (j / 8)).getLsbD (j % 8)) := by
  induction k with
  | zero => simp [numF]
  | succ k ih =>
    rw [numF_succ, BitVec.getLsbD_or, ih, BitVec.getLsbD_shiftLeft, BitVec.getLsbD_setWidth]
    by_cases h64 : j < 64
    · by_cases h1 : j < 8 * k
      · have h2 : j < 8 * (k + 1) := by omega
        simp [h64, h1, h2]
      · by_cases h2 : j < 8 * (k + 1)
        · have e1 : j / 8 = k := by omega
          have e2 : j - 8 * k = j % 8 := by omega
          have e3 : j % 8 < 64 := by omega
          simp [h64, h1, h2, e1, e2, e3]
        · have e2 : 8 ≤ j - 8 * k := by omega
          simp [h64, h1, h2, BitVec.getLsbD_of_ge _ _ e2]
    · simp [h64]

/-- The number of m bytes from the place 'lo' on, from the highest one. -/
def numH (f : Nat → BitVec 8) (lo : Nat) : Nat → BitVec 64
  | 0 => 0#64
  | m + 1 => numH f (lo + 1) m <<< 8 ||| (f lo).setWidth 64
theorem numH_bit (f : Nat → BitVec 8) (m : Nat) : ∀ lo j, (numH f lo m).getLsbD j = (decide (j < 64) && decide (j < 8 * m) && (f (lo + j / 8)).getLsbD (j % 8)) := by
  induction m with
  | zero => intro lo j; simp [numH]
  | succ m ih =>
    intro lo j
    rw [numH, BitVec.getLsbD_or, BitVec.getLsbD_shiftLeft, ih, BitVec.getLsbD_setWidth]
    by_cases h64 : j < 64
    · by_cases h8 : j < 8
      · have e1 : j / 8 = 0 := by omega
        have e2 : j % 8 = j := by omega
        have e3 : j < 8 * (m + 1) := by omega
        simp [h64, h8, e1, e2, e3]
      · have e1 : lo + 1 + (j - 8) / 8 = lo + j / 8 := by omega
        have e2 : (j - 8) % 8 = j % 8 := by omega
        have e4 : j - 8 < 64 := by omega
        have e5 : (f lo).getLsbD j = false := BitVec.getLsbD_of_ge _ _ (by omega)
        by_cases h3 : j < 8 * (m + 1)
        · have e3 : j - 8 < 8 * m := by omega
          simp [h64, h8, e1, e2, e3, e4, e5, h3]
        · have e3 : ¬ j - 8 < 8 * m := by omega
          simp [h64, h8, e3, e5, h3]
    · simp [h64]
theorem numF_numH (f : Nat → BitVec 8) (m : Nat) : numH f 0 m = numF f m := by
  apply BitVec.eq_of_getLsbD_eq
  intro i hi
  rw [numF_bit, numH_bit, Nat.zero_add]
theorem mul256_add (v : BitVec 64) (c : BitVec 8) : v * 256#64 + c.setWidth 64 = v <<< 8 ||| c.setWidth 64 := by
  have e : v * 256#64 = v <<< 8 := by
    rw [BitVec.shiftLeft_eq_mul_twoPow]; congr 1
  rw [e]
  apply BitVec.add_eq_or_of_and_eq_zero
  apply BitVec.eq_of_getLsbD_eq
  intro i hi
  simp only [BitVec.getLsbD_and, BitVec.getLsbD_shiftLeft, BitVec.getLsbD_setWidth, BitVec.getLsbD_zero]
  by_cases h : i < 8
  · simp [h]
  · simp [BitVec.getLsbD_of_ge c i (by omega)]
theorem numH_step (f : Nat → BitVec 8) (lo m : Nat) : numH f (lo + 1) m * 256#64 + (f lo).setWidth 64 = numH f lo (m + 1) := by
  rw [mul256_add]; rfl

def byteOf (v : BitVec 64) (i : Nat) : BitVec 8 := (v >>> (8 * i)).setWidth 8
def bytesN (v : BitVec 64) (n : Nat) : ByteArray := ⟨((List.range n).map fun i => UInt8.ofBitVec (byteOf v i)).toArray⟩
theorem bytesN_size (v : BitVec 64) (n : Nat) : (bytesN v n).size = n := by
  show (bytesN v n).data.size = n
  simp [bytesN]
theorem bytesN_list (v : BitVec 64) (n : Nat) : (bytesN v n).data.toList = (List.range n).map fun i => UInt8.ofBitVec (byteOf v i) := by simp [bytesN]
theorem bytesN_get (v : BitVec 64) (n i : Nat) (h : i < (bytesN v n).size) : ((bytesN v n)[i].toNat : Int) = N (byteOf v i) := by
  have e : (bytesN v n)[i] = (bytesN v n).data[i]'(by simpa using h) := rfl
  rw [e]
  simp [bytesN, N]
theorem byteAt_bytesN (v : BitVec 64) (n i : Nat) (h : i < n) : byteAt (bytesN v n) i = byteOf v i := by
  unfold byteAt
  rw [bytesN_list, List.getD_eq_getElem?_getD]
  simp [h]

/-- nums.Bytes: the text of a number's n lowest bytes. -/
def bytesS (v : BitVec 64) (n : Int) : ByteArray := if n < 0 ∨ 8 < n then ⟨#[]⟩ else bytesN v n.toNat

theorem low_mod (v : BitVec 64) (b : Nat) : v % (1#64 <<< b) = v &&& (1#64 <<< b - 1#64) ∨ 64 ≤ b := by
  by_cases h : b < 64
  · left
    apply BitVec.eq_of_toNat_eq
    have hp : 2 ^ b < 2 ^ 64 := Nat.pow_lt_pow_right (by decide) h
    have e1 : (1#64 <<< b).toNat = 2 ^ b := by
      rw [BitVec.toNat_shiftLeft]; simp [Nat.shiftLeft_eq]; exact hp
    have hp0 : 0 < 2 ^ b := Nat.two_pow_pos b
    have e2 : (1#64 <<< b - 1#64).toNat = 2 ^ b - 1 := by
      rw [BitVec.toNat_sub, e1]; simp; omega
    rw [BitVec.toNat_umod, BitVec.toNat_and, e1, e2, Nat.and_two_pow_sub_one_eq_mod]
  · right; omega
theorem low_of_mod (v : BitVec 64) (b : Int) (h0 : 0 < b) (h1 : b < 64) : v % (1#64 <<< b.toNat) = lowS v b := by
  unfold lowS
  rw [if_neg (by omega), if_neg (by omega)]
  exact (low_mod v b.toNat).resolve_right (by omega)
theorem low_toNat (v : BitVec 64) (b : Int) (h0 : 0 < b) (h1 : b < 64) : (lowS v b).toNat = v.toNat % 2 ^ b.toNat := by
  rw [← low_of_mod v b h0 h1, BitVec.toNat_umod, BitVec.toNat_shiftLeft]
  have hp : 2 ^ b.toNat < 2 ^ 64 := Nat.pow_lt_pow_right (by decide) (by omega)
  simp only [BitVec.toNat_ofNat, Nat.shiftLeft_eq]
  rw [Nat.mod_eq_of_lt (a := 1) (by decide), Nat.one_mul, Nat.mod_eq_of_lt hp]
theorem low_bit (v : BitVec 64) (b : Int) (i : Nat) : (lowS v b).getLsbD i = (decide ((i : Int) < b) && v.getLsbD i) := by
  by_cases h0 : b ≤ 0
  · unfold lowS; rw [if_pos h0]
    have : ¬ (i : Int) < b := by omega
    simp [this]
  · by_cases h1 : 64 ≤ b
    · unfold lowS; rw [if_neg h0, if_pos h1]
      by_cases hi : i < 64
      · have : (i : Int) < b := by omega
        simp [this]
      · simp [BitVec.getLsbD_of_ge v i (by omega)]
    · have e := low_toNat v b (by omega) (by omega)
      rw [BitVec.getLsbD, e, Nat.testBit_mod_two_pow]
      congr 1
      simp only [decide_eq_decide]; omega
theorem sign_bit (v : BitVec 64) (b : Int) (i : Nat) (hb : 0 < b) (hi : i < 64) : (signS v b).getLsbD i = if (i : Int) < b then v.getLsbD i else v.getLsbD (b.toNat - 1) := by
  unfold signS
  rw [if_neg (by omega)]
  by_cases h1 : 64 ≤ b
  · rw [if_pos h1, if_pos (by omega)]
  · rw [if_neg h1]
    obtain ⟨n, rfl⟩ := Int.eq_ofNat_of_zero_le (show 0 ≤ b by omega)
    generalize hk' : (64 - (n : Int)).toNat = k
    have hk : k + n = 64 := by omega
    clear hk'
    rw [Int.toNat_natCast, BitVec.getLsbD_sshiftRight]
    by_cases h2 : i < n
    · have h3 : k + i < 64 := by omega
      have h4 : ¬ 64 ≤ i := by omega
      have h5 : (i : Int) < n := by omega
      rw [if_pos h3, if_pos h5, BitVec.getLsbD_shiftLeft]
      simp only [h3, h4, show ¬ k + i < k from by omega, Nat.add_sub_cancel_left, decide_false, decide_true, Bool.not_false, Bool.true_and]
    · have h3 : ¬ k + i < 64 := by omega
      have h4 : ¬ 64 ≤ i := by omega
      have h5 : ¬ (i : Int) < n := by omega
      have h6 : ¬ 63 < k := by omega
      have e : 63 - k = n - 1 := by omega
      rw [if_neg h3, if_neg h5, BitVec.msb_eq_getLsbD_last, BitVec.getLsbD_shiftLeft]
      simp only [h4, h6, decide_false, decide_true, Bool.not_false, Bool.true_and, show 64 - 1 < 64 from by decide, show 64 - 1 - k = n - 1 from by omega]
theorem low_lt_iff (v : BitVec 64) (b : Int) (h0 : 0 < b) (h1 : b < 64) : (N (lowS v b) < N (1#64 <<< (b - 1).toNat)) ↔ v.getLsbD (b.toNat - 1) = false := by
  obtain ⟨n, rfl⟩ : ∃ n : Nat, b = (n : Int) + 1 := ⟨(b - 1).toNat, by omega⟩
  have hp : 2 ^ n < 2 ^ 64 := Nat.pow_lt_pow_right (by decide) (by omega)
  have e1 : (1#64 <<< ((n : Int) + 1 - 1).toNat).toNat = 2 ^ n := by
    rw [show ((n : Int) + 1 - 1).toNat = n by omega, BitVec.toNat_shiftLeft]; simp [Nat.shiftLeft_eq]; exact hp
  have e2 := low_toNat v ((n : Int) + 1) h0 h1
  rw [show ((n : Int) + 1).toNat = n + 1 by omega] at e2 ⊢
  unfold N
  rw [e1, e2, Nat.add_sub_cancel, BitVec.getLsbD, Nat.mod_pow_succ]
  have h3 : v.toNat % 2 ^ n < 2 ^ n := Nat.mod_lt _ (Nat.two_pow_pos n)
  rw [Nat.testBit_eq_decide_div_mod_eq]
  have h4 : v.toNat / 2 ^ n % 2 = 0 ∨ v.toNat / 2 ^ n % 2 = 1 := by omega
  rcases h4 with h4 | h4
  · simp [h4]; exact_mod_cast h3
  · simp [h4]; omega
theorem sign_of_low (v : BitVec 64) (b : Int) (h0 : 0 < b) (h1 : b < 64) :
    signS v b = if v.getLsbD (b.toNat - 1) = false then lowS v b else lowS v b - 1#64 <<< b.toNat := by
  have hlow : ∀ i, (lowS v b).getLsbD i = (decide ((i : Int) < b) && v.getLsbD i) := low_bit v b
  split
  · rename_i h
    apply BitVec.eq_of_getLsbD_eq
    intro i hi
    rw [sign_bit v b i h0 hi, hlow i]
    by_cases hib : (i : Int) < b <;> simp only [hib, if_true, if_false, h, decide_true, decide_false, Bool.true_and, Bool.false_and]
  · rename_i h
    have h' : v.getLsbD (b.toNat - 1) = true := by simpa using h
    obtain ⟨n, rfl⟩ := Int.eq_ofNat_of_zero_le (show 0 ≤ b by omega)
    rw [Int.toNat_natCast] at h' ⊢
    have hn : n < 64 := by omega
    have hmask : ∀ i, i < 64 → (~~~(1#64 <<< n - 1#64)).getLsbD i = decide (n ≤ i) := by
      intro i hi
      have hp : 2 ^ n < 2 ^ 64 := Nat.pow_lt_pow_right (by decide) hn
      have e1 : (1#64 <<< n).toNat = 2 ^ n := by
        rw [BitVec.toNat_shiftLeft]; simp [Nat.shiftLeft_eq]; exact hp
      have hp0 : 0 < 2 ^ n := Nat.two_pow_pos n
      have e2 : (1#64 <<< n - 1#64).toNat = 2 ^ n - 1 := by
        rw [BitVec.toNat_sub, e1]; simp; omega
      rw [BitVec.getLsbD_not, BitVec.getLsbD, e2, Nat.testBit_two_pow_sub_one]
      by_cases hni : n ≤ i
      · simp [hi, hni]
      · simp [hi, hni]; omega
    have hneg : -(1#64 <<< n) = ~~~(1#64 <<< n - 1#64) := by
      rw [BitVec.neg_eq_not_add, BitVec.not_sub_one_eq_not_add_one]
    rw [BitVec.sub_eq_add_neg, hneg, BitVec.add_eq_or_of_and_eq_zero]
    · apply BitVec.eq_of_getLsbD_eq
      intro i hi
      rw [sign_bit v _ i h0 hi, BitVec.getLsbD_or, hlow i, hmask i hi, Int.toNat_natCast]
      by_cases hib : i < n
      · have h2 : ¬ n ≤ i := by omega
        simp [hib, h2]
      · have h2 : n ≤ i := by omega
        have h3 : ¬ (i : Int) < n := by omega
        simp [h2, h3, h']
    · apply BitVec.eq_of_getLsbD_eq
      intro i hi
      rw [BitVec.getLsbD_and, hlow i, hmask i hi]
      by_cases hib : i < n
      · have h2 : ¬ n ≤ i := by omega
        simp [h2]
      · simp [hib]
theorem shl1_ne (b : Int) (h0 : 0 ≤ b) (h1 : b < 64) : ¬ N (1#64 <<< b.toNat) = 0 := by
  have hp : 2 ^ b.toNat < 2 ^ 64 := Nat.pow_lt_pow_right (by decide) (by omega)
  have hp0 : 0 < 2 ^ b.toNat := Nat.two_pow_pos _
  unfold N
  rw [BitVec.toNat_shiftLeft]
  simp only [BitVec.toNat_ofNat, Nat.shiftLeft_eq]
  rw [Nat.mod_eq_of_lt (a := 1) (by decide), Nat.one_mul, Nat.mod_eq_of_lt hp]
  omega
/-- What the document's Sign goes by: whether no sign is told on. -/
def plainB (v : BitVec 64) (b : Int) : Bool := decide (N (lowS v b) < N (1#64 <<< (b - 1).toNat))
theorem sign_le0 (v : BitVec 64) (b : Int) (h : b ≤ 0) : lowS v b = signS v b := by unfold lowS signS; rw [if_pos h, if_pos h]
theorem sign_ge64 (v : BitVec 64) (b : Int) (h : 64 ≤ b) : lowS v b = signS v b := by unfold lowS signS; rw [if_neg (show ¬ b ≤ 0 by omega), if_pos h, if_neg (show ¬ b ≤ 0 by omega), if_pos h]
theorem sign_plain (v : BitVec 64) (b : Int) (h0 : 0 < b) (h1 : b < 64) (h : N (lowS v b) < N (1#64 <<< (b.toNat - 1))) : lowS v b = signS v b := by
  rw [show b.toNat - 1 = (b - 1).toNat by omega] at h
  rw [sign_of_low v b h0 h1, if_pos ((low_lt_iff v b h0 h1).1 h)]
theorem sign_minus (v : BitVec 64) (b : Int) (h0 : 0 < b) (h1 : b < 64) (h : ¬ N (lowS v b) < N (1#64 <<< (b.toNat - 1))) : lowS v b - 1#64 <<< b.toNat = signS v b := by
  rw [show b.toNat - 1 = (b - 1).toNat by omega] at h
  rw [sign_of_low v b h0 h1, if_neg (fun h' => h ((low_lt_iff v b h0 h1).2 h'))]
theorem shl_succ (k : Nat) : 1#64 <<< k * 2#64 = 1#64 <<< (k + 1) := by
  apply BitVec.eq_of_toNat_eq
  simp [Nat.shiftLeft_eq, Nat.pow_succ]
end Go.Proofs.Ytdlgebfaijlaoaa
end
section
namespace Go.Proofs.Ytdlgebfaijlaoaa

/-- What arithmetic comes to, of numbers of w bits; x: the operation. -/
def aluW {w : Nat} (x : Int) (a b : BitVec w) : BitVec w :=
  if x = 0 then a + b else if x = 16 then a - b else if x = 32 then a * b else if x = 48 then a / b else if x = 144 then a % b
  else if x = 64 then a ||| b else if x = 80 then a &&& b else if x = 160 then a ^^^ b else if x = 96 then a <<< (b.toNat % w)
  else if x = 112 then a >>> (b.toNat % w) else if x = 192 then a.sshiftRight (b.toNat % w) else if x = 128 then -a else if x = 176 then b else 0#w
def aluS (x : Int) (wide : Bool) (a b : BitVec 64) : BitVec 64 :=
  if wide then aluW x a b else (aluW x (a.setWidth 32) (b.setWidth 32)).setWidth 64

/-- No operation at all. -/
def NoOp (x : Int) : Prop := ¬ x = 0 ∧ ¬ x = 16 ∧ ¬ x = 32 ∧ ¬ x = 48 ∧ ¬ x = 144 ∧ ¬ x = 64 ∧ ¬ x = 80 ∧ ¬ x = 160 ∧ ¬ x = 96 ∧ ¬ x = 112 ∧ ¬ x = 192 ∧ ¬ x = 128 ∧ ¬ x = 176
theorem alu_cases (x : Int) : x = 0 ∨ x = 16 ∨ x = 32 ∨ x = 48 ∨ x = 144 ∨ x = 64 ∨ x = 80 ∨ x = 160 ∨ x = 96 ∨ x = 112 ∨ x = 192 ∨ x = 128 ∨ x = 176 ∨ NoOp x := by
  unfold NoOp; omega
theorem aluW_none {w : Nat} {x : Int} (h : NoOp x) (a b : BitVec w) : aluW x a b = 0#w := by
  obtain ⟨h1, h2, h3, h4, h5, h6, h7, h8, h9, h10, h11, h12, h13⟩ := h
  unfold aluW
  rw [if_neg h1, if_neg h2, if_neg h3, if_neg h4, if_neg h5, if_neg h6, if_neg h7, if_neg h8, if_neg h9, if_neg h10, if_neg h11, if_neg h12, if_neg h13]
/-- The same as the tests of a switch have it. -/
theorem noOp_beq {x : Int} (h : NoOp x) : (x == 0) = false ∧ (x == 16) = false ∧ (x == 32) = false ∧ (x == 48) = false ∧ (x == 144) = false ∧ (x == 64) = false ∧ (x == 80) = false ∧ (x == 160) = false ∧ (x == 96) = false ∧ (x == 112) = false ∧ (x == 192) = false ∧ (x == 128) = false ∧ (x == 176) = false := by
  obtain ⟨h1, h2, h3, h4, h5, h6, h7, h8, h9, h10, h11, h12, h13⟩ := h
  refine ⟨?_, ?_, ?_, ?_, ?_, ?_, ?_, ?_, ?_, ?_, ?_, ?_, ?_⟩ <;> (rw [beq_eq_false_iff_ne]; assumption)

theorem tmod64 (b : BitVec 64) : (N b).tmod 64 = ((b.toNat % 64 : Nat) : Int) := by
  unfold N; rw [Int.tmod_eq_emod_of_nonneg (by omega)]; omega
theorem tmod32 (b : BitVec 32) : (N b).tmod 32 = ((b.toNat % 32 : Nat) : Int) := by
  unfold N; rw [Int.tmod_eq_emod_of_nonneg (by omega)]; omega
theorem sign32 (a : BitVec 32) (k : Nat) : ((signS (a.setWidth 64) 32).sshiftRight k).setWidth 32 = a.sshiftRight k := by
  apply BitVec.eq_of_getLsbD_eq
  intro i hi
  rw [BitVec.getLsbD_setWidth, BitVec.getLsbD_sshiftRight, BitVec.getLsbD_sshiftRight]
  have hs : ∀ j, j < 64 → (signS (a.setWidth 64) 32).getLsbD j = if j < 32 then a.getLsbD j else a.getLsbD 31 := by
    intro j hj
    rw [sign_bit _ 32 j (by decide) hj, BitVec.getLsbD_setWidth, BitVec.getLsbD_setWidth]
    by_cases h : j < 32
    · have h' : (j : Int) < 32 := by omega
      simp only [h, h', if_true, hj, decide_true, Bool.true_and]
    · have h' : ¬ (j : Int) < 32 := by omega
      simp only [h, h', if_false]
      rfl
  rw [BitVec.msb_eq_getLsbD_last, BitVec.msb_eq_getLsbD_last, hs (64 - 1) (by decide)]
  have hi64 : ¬ 64 ≤ i := by omega
  have hi32 : ¬ 32 ≤ i := by omega
  simp only [hi, hi64, hi32, decide_true, decide_false, Bool.not_false, Bool.true_and]
  by_cases h1 : k + i < 64
  · rw [if_pos h1, hs _ h1]
  · rw [if_neg h1, if_neg (show ¬ k + i < 32 by omega)]
    rfl
theorem sext32 (v : BitVec 64) : v.signExtend 32 = v.setWidth 32 := by
  apply BitVec.eq_of_getLsbD_eq
  intro i hi
  rw [BitVec.getLsbD_signExtend, BitVec.getLsbD_setWidth]
  simp only [hi, decide_true, Bool.true_and, show i < 64 by omega, if_true]
theorem low_setWidth (v : BitVec 64) : (lowS v 32).setWidth 32 = v.setWidth 32 := by
  apply BitVec.eq_of_getLsbD_eq
  intro i hi
  rw [BitVec.getLsbD_setWidth, BitVec.getLsbD_setWidth, low_bit]
  have h' : (i : Int) < 32 := by omega
  simp only [h', decide_true, Bool.true_and]
theorem low64 (v : BitVec 64) : lowS v 64 = v := by unfold lowS; rw [if_neg (by decide), if_pos (by decide)]
theorem sign64 (v : BitVec 64) : signS v 64 = v := by unfold signS; rw [if_neg (by decide), if_pos (by decide)]
theorem low32 (v : BitVec 64) : lowS v 32 = (v.setWidth 32).setWidth 64 := by
  apply BitVec.eq_of_toNat_eq
  rw [low_toNat v 32 (by decide) (by decide)]
  simp
  omega
end Go.Proofs.Ytdlgebfaijlaoaa
end
section
namespace Go.Proofs.Ytdlgebfaijlaoaa
open Go.RowKit

attribute [local go_sem] u64_wrap u8_wrap BitVec.ofInt_add BitVec.ofInt_mul ofInt_sub' ofInt_N ofInt_Nw ofInt_Z ofInt_pow ofInt_shl wrap64_N mul_shl1 N_shr Z_shr u64_and u64_or N_div8 N_div16 N_div24 N_div32 N_div40 N_div48 N_div56

theorem ret64 {a b : BitVec 64} (h : a = b) : Ending.returned (.int .u64 (N a)) = .returned (.int .u64 (N b)) := by rw [h]
theorem ret0 {b : BitVec 64} (h : 0 = b) : Ending.returned (.int .u64 0) = .returned (.int .u64 (N b)) := by rw [← h]; rfl

set_option maxHeartbeats 400000 in
theorem low_N (v : BitVec 64) (b : Int) (w : World) (h1 : -9223372036854775808 ≤ b) (h2 : b ≤ 9223372036854775807) :
    Calls Try.prog 53 #[.int .u64 (N v), .int .i64 b] w fun e w' => e = .returned (.int .u64 (N (lowS v b))) ∧ w = w' := by
  go_enter Try.func53, Try.ntmps53
  go_wp2
  · go_ret
    exact ⟨ret0 (by unfold lowS; rw [if_pos ‹_›]), rfl⟩
  · go_ret
    exact ⟨ret64 (by unfold lowS; rw [if_neg (by omega), if_pos ‹_›]), rfl⟩
  · go_ret
    exact ⟨ret64 (by unfold lowS; rw [if_neg (by omega), if_neg (by omega)]), rfl⟩

set_option maxHeartbeats 400000 in
theorem sign_N (v : BitVec 64) (b : Int) (w : World) (h1 : -9223372036854775808 ≤ b) (h2 : b ≤ 9223372036854775807) :
    Calls Try.prog 83 #[.int .u64 (N v), .int .i64 b] w fun e w' => e = .returned (.int .u64 (N (signS v b))) ∧ w = w' := by
  go_enter Try.func83, Try.ntmps83
  go_wp2
  · go_ret
    exact ⟨ret0 (by unfold signS; rw [if_pos ‹_›]), rfl⟩
  · go_ret
    exact ⟨ret64 (by unfold signS; rw [if_neg (by omega), if_pos ‹_›]), rfl⟩
  · go_ret
    exact ⟨ret64 (by unfold signS; rw [if_neg (by omega), if_neg (by omega)]), rfl⟩

end Go.Proofs.Ytdlgebfaijlaoaa
end
section
namespace Go.Proofs.Ytdlgebfaijlaoaa
open Go.RowKit

attribute [local go_sem] u64_wrap u32_wrap u8_wrap BitVec.ofInt_add BitVec.ofInt_mul ofInt_sub' BitVec.ofInt_neg ofInt_N ofInt_Nw ofInt_Z ofInt_pow ofInt_shl wrap64_N mul_shl1 N_shr Z_shr u64_and u64_or u64_xor u32_and u32_or u32_xor N_tdiv N_tmod tmod64 tmod32 sign64 sign32 sext32 low_setWidth

theorem ret32 {a b : BitVec 32} (h : a = b) : Ending.returned (.int .u32 (N a)) = .returned (.int .u32 (N b)) := by rw [h]

attribute [local go_sem] N_ofNat
set_option maxHeartbeats 400000 in
theorem quot64 (a b : BitVec 64) (w : World) : Calls Try.prog 81 #[.int .u64 (N a), .int .u64 (N b)] w fun e w' => e = .returned (.int .u64 (N (a / b))) ∧ w = w' := by
  by_cases h : N b = 0
  · have hb : b = 0#64 := N_inj (by rw [h]; rfl)
    subst hb
    clear h
    rw [show a / 0#64 = 0#64 by simp]
    go_enter Try.func81, Try.ntmps81
    go_wp2
    go_ret
    exact ⟨rfl, rfl⟩
  · have h' : (N b == 0) = false := by simpa using h
    go_enter Try.func81, Try.ntmps81
    go_wp2
    go_ret
    exact ⟨rfl, rfl⟩
set_option maxHeartbeats 400000 in
theorem rest64 (a b : BitVec 64) (w : World) : Calls Try.prog 82 #[.int .u64 (N a), .int .u64 (N b)] w fun e w' => e = .returned (.int .u64 (N (a % b))) ∧ w = w' := by
  by_cases h : N b = 0
  · have hb : b = 0#64 := N_inj (by rw [h]; rfl)
    subst hb
    clear h
    rw [show a % 0#64 = a by simp]
    go_enter Try.func82, Try.ntmps82
    go_wp2
    go_ret
    exact ⟨rfl, rfl⟩
  · have h' : (N b == 0) = false := by simpa using h
    go_enter Try.func82, Try.ntmps82
    go_wp2
    go_ret
    exact ⟨rfl, rfl⟩
set_option maxHeartbeats 400000 in
theorem quot32 (a b : BitVec 32) (w : World) : Calls Try.prog 84 #[.int .u32 (N a), .int .u32 (N b)] w fun e w' => e = .returned (.int .u32 (N (a / b))) ∧ w = w' := by
  by_cases h : N b = 0
  · have hb : b = 0#32 := N_inj (by rw [h]; rfl)
    subst hb
    clear h
    rw [show a / 0#32 = 0#32 by simp]
    go_enter Try.func84, Try.ntmps84
    go_wp2
    go_ret
    exact ⟨rfl, rfl⟩
  · have h' : (N b == 0) = false := by simpa using h
    go_enter Try.func84, Try.ntmps84
    go_wp2
    go_ret
    exact ⟨rfl, rfl⟩
set_option maxHeartbeats 400000 in
theorem rest32 (a b : BitVec 32) (w : World) : Calls Try.prog 85 #[.int .u32 (N a), .int .u32 (N b)] w fun e w' => e = .returned (.int .u32 (N (a % b))) ∧ w = w' := by
  by_cases h : N b = 0
  · have hb : b = 0#32 := N_inj (by rw [h]; rfl)
    subst hb
    clear h
    rw [show a % 0#32 = a by simp]
    go_enter Try.func85, Try.ntmps85
    go_wp2
    go_ret
    exact ⟨rfl, rfl⟩
  · have h' : (N b == 0) = false := by simpa using h
    go_enter Try.func85, Try.ntmps85
    go_wp2
    go_ret
    exact ⟨rfl, rfl⟩

set_option maxRecDepth 100000 in
set_option maxHeartbeats 4000000 in
theorem do64 (x : Int) (a b : BitVec 64) (w : World) : Calls Try.prog 51 #[.int .u8 x, .int .u64 (N a), .int .u64 (N b), .int .i64 64] w fun e w' => e = .returned (.int .u64 (N (aluW x a b))) ∧ Grown w w' := by
  have hm := tmod64 b
  obtain ⟨m, hmd⟩ : ∃ m, m = b.toNat % 64 := ⟨_, rfl⟩
  rw [← hmd] at hm
  have hml : m < 64 := by omega
  rcases alu_cases x with h | h | h | h | h | h | h | h | h | h | h | h | h | h
  case inr.inr.inr.inr.inr.inr.inr.inr.inr.inr.inl =>
    subst h
    have e : aluW 192 a b = a.sshiftRight m := by rw [hmd]; rfl
    rw [e]
    clear e hmd
    go_enter Try.func51, Try.ntmps51
    go_wp2
    go_quiet ((go_at_call 83; exact Calls.quiet_of_same ((sign_N _ _ _ (by decide) (by decide)).mono fun _ _ ⟨h1, h2⟩ => ⟨h1, h2.symm⟩)))
    go_wp2
    go_ret
    exact ⟨rfl, grown_drewN (Grown.refl _) _⟩
  case inr.inr.inr.inr.inr.inr.inr.inr.inr.inr.inr.inr.inr =>
    rw [aluW_none h]
    obtain ⟨h1, h2, h3, h4, h5, h6, h7, h8, h9, h10, h11, h12, h13⟩ := noOp_beq h
    clear h hm hmd hml
    go_enter Try.func51, Try.ntmps51
    go_wp2_with (first | (go_at_call 81; refine (quot64 _ _ _).mono ?_; rintro e w' ⟨rfl, rfl⟩) | (go_at_call 82; refine (rest64 _ _ _).mono ?_; rintro e w' ⟨rfl, rfl⟩))
    go_ret
    exact ⟨rfl, Grown.refl _⟩
  case inr.inr.inr.inr.inr.inr.inr.inr.inl =>
    subst h
    have e : aluW 96 a b = a <<< m := by rw [hmd]; rfl
    rw [e]
    clear e hmd
    go_enter Try.func51, Try.ntmps51
    go_wp2_with (first | (go_at_call 81; refine (quot64 _ _ _).mono ?_; rintro e w' ⟨rfl, rfl⟩) | (go_at_call 82; refine (rest64 _ _ _).mono ?_; rintro e w' ⟨rfl, rfl⟩))
    go_ret
    exact ⟨rfl, Grown.refl _⟩
  case inr.inr.inr.inr.inr.inr.inr.inr.inr.inl =>
    subst h
    have e : aluW 112 a b = a >>> m := by rw [hmd]; rfl
    rw [e]
    clear e hmd
    go_enter Try.func51, Try.ntmps51
    go_wp2_with (first | (go_at_call 81; refine (quot64 _ _ _).mono ?_; rintro e w' ⟨rfl, rfl⟩) | (go_at_call 82; refine (rest64 _ _ _).mono ?_; rintro e w' ⟨rfl, rfl⟩))
    go_ret
    exact ⟨rfl, Grown.refl _⟩
  all_goals
    subst h
    clear hm hmd hml
    go_enter Try.func51, Try.ntmps51
    go_wp2_with (first | (go_at_call 81; refine (quot64 _ _ _).mono ?_; rintro e w' ⟨rfl, rfl⟩) | (go_at_call 82; refine (rest64 _ _ _).mono ?_; rintro e w' ⟨rfl, rfl⟩))
    go_ret
    exact ⟨rfl, Grown.refl _⟩

set_option maxRecDepth 100000 in
set_option maxHeartbeats 4000000 in
theorem do32 (x : Int) (a b : BitVec 32) (w : World) : Calls Try.prog 52 #[.int .u8 x, .int .u32 (N a), .int .u32 (N b), .int .i64 32] w fun e w' => e = .returned (.int .u32 (N (aluW x a b))) ∧ Grown w w' := by
  have hm := tmod32 b
  obtain ⟨m, hmd⟩ : ∃ m, m = b.toNat % 32 := ⟨_, rfl⟩
  rw [← hmd] at hm
  have hml : m < 32 := by omega
  rcases alu_cases x with h | h | h | h | h | h | h | h | h | h | h | h | h | h
  case inr.inr.inr.inr.inr.inr.inr.inr.inr.inr.inl =>
    subst h
    have e : aluW 192 a b = a.sshiftRight m := by rw [hmd]; rfl
    rw [e]
    clear e hmd
    go_enter Try.func52, Try.ntmps52
    go_wp2
    go_quiet ((go_at_call 83; exact Calls.quiet_of_same ((sign_N _ _ _ (by decide) (by decide)).mono fun _ _ ⟨h1, h2⟩ => ⟨h1, h2.symm⟩)))
    go_wp2
    go_ret
    exact ⟨rfl, grown_drewN (Grown.refl _) _⟩
  case inr.inr.inr.inr.inr.inr.inr.inr.inr.inr.inr.inr.inr =>
    rw [aluW_none h]
    obtain ⟨h1, h2, h3, h4, h5, h6, h7, h8, h9, h10, h11, h12, h13⟩ := noOp_beq h
    clear h hm hmd hml
    go_enter Try.func52, Try.ntmps52
    go_wp2_with (first | (go_at_call 84; refine (quot32 _ _ _).mono ?_; rintro e w' ⟨rfl, rfl⟩) | (go_at_call 85; refine (rest32 _ _ _).mono ?_; rintro e w' ⟨rfl, rfl⟩))
    go_ret
    exact ⟨rfl, Grown.refl _⟩
  case inr.inr.inr.inr.inr.inr.inr.inr.inl =>
    subst h
    have e : aluW 96 a b = a <<< m := by rw [hmd]; rfl
    rw [e]
    clear e hmd
    go_enter Try.func52, Try.ntmps52
    go_wp2_with (first | (go_at_call 84; refine (quot32 _ _ _).mono ?_; rintro e w' ⟨rfl, rfl⟩) | (go_at_call 85; refine (rest32 _ _ _).mono ?_; rintro e w' ⟨rfl, rfl⟩))
    go_ret
    exact ⟨rfl, Grown.refl _⟩
  case inr.inr.inr.inr.inr.inr.inr.inr.inr.inl =>
    subst h
    have e : aluW 112 a b = a >>> m := by rw [hmd]; rfl
    rw [e]
    clear e hmd
    go_enter Try.func52, Try.ntmps52
    go_wp2_with (first | (go_at_call 84; refine (quot32 _ _ _).mono ?_; rintro e w' ⟨rfl, rfl⟩) | (go_at_call 85; refine (rest32 _ _ _).mono ?_; rintro e w' ⟨rfl, rfl⟩))
    go_ret
    exact ⟨rfl, Grown.refl _⟩
  all_goals
    subst h
    clear hm hmd hml
    go_enter Try.func52, Try.ntmps52
    go_wp2_with (first | (go_at_call 84; refine (quot32 _ _ _).mono ?_; rintro e w' ⟨rfl, rfl⟩) | (go_at_call 85; refine (rest32 _ _ _).mono ?_; rintro e w' ⟨rfl, rfl⟩))
    go_ret
    exact ⟨rfl, Grown.refl _⟩

set_option maxRecDepth 100000 in
set_option maxHeartbeats 1000000 in
theorem do_any (x : Int) (wide : Bool) (a b : BitVec 64) (w : World) :
    Calls Try.prog 31 #[.int .u8 x, .bool wide, .int .u64 (N a), .int .u64 (N b)] w fun e w' => e = .returned (.int .u64 (N (aluS x wide a b))) ∧ Grown w w' := by
  cases wide
  · go_enter Try.func31, Try.ntmps31
    go_wp2_with (first | (go_at_call 53; refine (low_N _ _ _ (by decide) (by decide)).mono ?_; rintro e w' ⟨rfl, rfl⟩) | (go_at_call 52; refine (do32 _ _ _ _).mono ?_; rintro e w' ⟨rfl, hg⟩))
    go_ret
    exact ⟨rfl, by assumption⟩
  · go_enter Try.func31, Try.ntmps31
    go_wp2_with (go_at_call 51; refine (do64 _ _ _ _).mono ?_; rintro e w' ⟨rfl, hg⟩)
    go_ret
    exact ⟨rfl, by assumption⟩
end Go.Proofs.Ytdlgebfaijlaoaa
end
section
namespace Go.Proofs.Ytdlgebfaijlaoaa.Ex
open Go Go.RowKit
open Go.Proofs.Ytdlgebfaijlaoaa.Spn (Sp okS tightS settledS commonS anyS constS addR subR mulR divR modR andR orR xorR lshR rshR arshR low32R)
structure TI where
  v : Int
  m : Int
structure SI where
  lo : Int
  hi : Int
  slo : Int
  shi : Int
structure NI where
  t : TI
  s : SI
abbrev B (x : Int) : BitVec 64 := BitVec.ofInt 64 x
def tB (t : TI) : BitVec 64 × BitVec 64 := (B t.v, B t.m)
def sB (s : SI) : Sp := ⟨B s.lo, B s.hi, B s.slo, B s.shi⟩
def tN (x : BitVec 64 × BitVec 64) : TI := ⟨N x.1, N x.2⟩
def sN (s : Sp) : SI := ⟨N s.lo, N s.hi, Z s.slo, Z s.shi⟩
theorem B_Z (v : BitVec 64) : B (Z v) = v := by
  apply BitVec.eq_of_toInt_eq
  unfold Z B
  rw [BitVec.ofInt_toInt]
theorem tB_tN (x : BitVec 64 × BitVec 64) : tB (tN x) = x := by
  unfold tB tN B; simp only [ofInt_N]
theorem sB_sN (s : Sp) : sB (sN s) = s := by
  have h1 := B_Z s.slo
  have h2 := B_Z s.shi
  unfold sB sN
  simp only [B, ofInt_N] at *
  rw [h1, h2]
def VT (t : TI) : Value := .agg ⟨[.int .u64 t.v, .int .u64 t.m]⟩
def VS (s : SI) : Value := .agg ⟨[.int .u64 s.lo, .int .u64 s.hi, .int .i64 s.slo, .int .i64 s.shi]⟩
def VN (n : NI) : Value := .agg ⟨[.int .u64 n.t.v, .int .u64 n.t.m, .int .u64 n.s.lo, .int .u64 n.s.hi, .int .i64 n.s.slo, .int .i64 n.s.shi]⟩
def uB (x : Int) : Bool := decide (0 ≤ x ∧ x < 18446744073709551616)
def zB (x : Int) : Bool := decide (-9223372036854775808 ≤ x ∧ x ≤ 9223372036854775807)
def tW (t : TI) : Bool := uB t.v && uB t.m
def sW (s : SI) : Bool := uB s.lo && uB s.hi && zB s.slo && zB s.shi
def nW (n : NI) : Bool := tW n.t && sW n.s
theorem uB_N (v : BitVec 64) : uB (N v) = true := decide_eq_true ⟨N_nonneg v, by simpa using N_lt v⟩
theorem zB_Z (v : BitVec 64) : zB (Z v) = true := by
  have := Spn.Z_range v
  exact decide_eq_true this
theorem tW_tN (x : BitVec 64 × BitVec 64) : tW (tN x) = true := by unfold tW tN; simp only [uB_N, Bool.and_self]
theorem sW_sN (s : Sp) : sW (sN s) = true := by unfold sW sN; simp only [uB_N, zB_Z, Bool.and_self]
theorem uB_eq {x : Int} (h : uB x = true) : ∃ v : BitVec 64, x = N v := by
  obtain ⟨h0, h1⟩ := of_decide_eq_true h
  exact ⟨B x, (N_ofInt x h0 (by simpa using h1)).symm⟩
theorem zB_eq {x : Int} (h : zB x = true) : ∃ v : BitVec 64, x = Z v := by
  obtain ⟨h0, h1⟩ := of_decide_eq_true h
  refine ⟨B x, ?_⟩
  rw [Z_ofInt]
  unfold wrap64
  omega
theorem tW_eq {t : TI} (h : tW t = true) : ∃ x, t = tN x := by
  unfold tW at h
  simp only [Bool.and_eq_true] at h
  obtain ⟨a, ha⟩ := uB_eq h.1
  obtain ⟨b, hb⟩ := uB_eq h.2
  exact ⟨(a, b), by cases t; simp only at ha hb; rw [ha, hb]; rfl⟩
theorem sW_eq {s : SI} (h : sW s = true) : ∃ x, s = sN x := by
  unfold sW at h
  simp only [Bool.and_eq_true] at h
  obtain ⟨a, ha⟩ := uB_eq h.1.1.1
  obtain ⟨b, hb⟩ := uB_eq h.1.1.2
  obtain ⟨c, hc⟩ := zB_eq h.1.2
  obtain ⟨d, hd⟩ := zB_eq h.2
  exact ⟨⟨a, b, c, d⟩, by cases s; simp only at ha hb hc hd; rw [ha, hb, hc, hd]; rfl⟩
theorem tW_eq2 {a b : Int} (h : tW ⟨a, b⟩ = true) : ∃ x y : BitVec 64, a = N x ∧ b = N y := by
  unfold tW at h
  simp only [Bool.and_eq_true] at h
  obtain ⟨x, hx⟩ := uB_eq h.1
  obtain ⟨y, hy⟩ := uB_eq h.2
  exact ⟨x, y, hx, hy⟩
theorem sW_eq4 {a b c d : Int} (h : sW ⟨a, b, c, d⟩ = true) : ∃ x y z u : BitVec 64, a = N x ∧ b = N y ∧ c = Z z ∧ d = Z u := by
  unfold sW at h
  simp only [Bool.and_eq_true] at h
  obtain ⟨x, hx⟩ := uB_eq h.1.1.1
  obtain ⟨y, hy⟩ := uB_eq h.1.1.2
  obtain ⟨z, hz⟩ := zB_eq h.1.2
  obtain ⟨u, hu⟩ := zB_eq h.2
  exact ⟨x, y, z, u, hx, hy, hz, hu⟩
theorem VT_tN (x : BitVec 64 × BitVec 64) : VT (tN x) = .agg #[.int .u64 (N x.1), .int .u64 (N x.2)] := rfl
theorem VS_sN (x : Sp) : VS (sN x) = .agg #[.int .u64 (N x.lo), .int .u64 (N x.hi), .int .i64 (Z x.slo), .int .i64 (Z x.shi)] := rfl
theorem pair1 {b : Bool} {cs : Cs} (h : ∀ p ∈ cs, p.1 = p.2) (hc : cs = [(b2i b, 1)]) : b = true := by
  subst hc
  exact b2i_inj (b := true) (h (b2i b, 1) (List.mem_singleton.2 rfl))
def tBothV (a b : BitVec 64 × BitVec 64) : BitVec 64 × BitVec 64 := if (N ((a.1 ^^^ b.1) &&& ~~~a.2 &&& ~~~b.2) == 0) = true then tOf (a.1 ||| b.1) (a.2 &&& b.2) else (0#64, 0#64)
def tBothK (a b : BitVec 64 × BitVec 64) : Bool := N ((a.1 ^^^ b.1) &&& ~~~a.2 &&& ~~~b.2) == 0
theorem tn_both2 (av am bv bm : BitVec 64) (w : World) : Calls Try.prog 48 #[.agg #[.int .u64 (N av), .int .u64 (N am)], .agg #[.int .u64 (N bv), .int .u64 (N bm)]] w fun e w' => e = .returned (.tuple #[.agg #[.int .u64 (N (tBothV (av, am) (bv, bm)).1), .int .u64 (N (tBothV (av, am) (bv, bm)).2)], .bool (tBothK (av, am) (bv, bm))]) ∧ Grown w w' := by
  refine (tn_both av am bv bm w).mono ?_
  rintro e w' ⟨rfl, hg⟩
  refine ⟨?_, hg⟩
  unfold tBothV tBothK
  by_cases h : (N ((av ^^^ bv) &&& ~~~am &&& ~~~bm) == 0) = true
  · simp only [h, if_true]
  · rw [if_neg h, if_neg h, Bool.not_eq_true _ |>.mp h]; rfl
def tAddI (a : TI) (b : TI) : TI := tN (tAdd (tB a).1 (tB a).2 (tB b).1 (tB b).2)
def hk_tnums_Add : Hook := fun f args _ =>
  if Nat.beq f 54 then
    match args with
    | [.agg ⟨[.int .u64 a0, .int .u64 a1]⟩, .agg ⟨[.int .u64 b0, .int .u64 b1]⟩] => some (VT (tAddI (⟨a0, a1⟩ : TI) (⟨b0, b1⟩ : TI)), [(b2i (tW (⟨a0, a1⟩ : TI) && tW (⟨b0, b1⟩ : TI)), 1)])
    | _ => none
  else none
theorem hk_tnums_Add_ok : HookOk Try.prog hk_tnums_Add := by
  intro f args h v cs hv hc wb k s w H
  unfold hk_tnums_Add at hv
  split at hv
  · rename_i hf
    obtain rfl := Nat.eq_of_beq_eq_true hf
    split at hv
    · rename_i a0 a1 b0 b1
      cases hv
      have hw := pair1 hc rfl
      simp only [Bool.and_eq_true] at hw
      obtain ⟨hwa, hwb⟩ := hw
      obtain ⟨av0, av1, rfl, rfl⟩ := tW_eq2 hwa
      obtain ⟨bv0, bv1, rfl, rfl⟩ := tW_eq2 hwb
      simp only [tAddI, tB, B, ofInt_N, VT_tN]
      exact (tn_add av0 av1 bv0 bv1 w).mono fun e w' h => ⟨h.1, Gr.of_grown h.2⟩
    · cases hv
  · cases hv
def tSubI (a : TI) (b : TI) : TI := tN (tSub (tB a).1 (tB a).2 (tB b).1 (tB b).2)
def hk_tnums_Sub : Hook := fun f args _ =>
  if Nat.beq f 56 then
    match args with
    | [.agg ⟨[.int .u64 a0, .int .u64 a1]⟩, .agg ⟨[.int .u64 b0, .int .u64 b1]⟩] => some (VT (tSubI (⟨a0, a1⟩ : TI) (⟨b0, b1⟩ : TI)), [(b2i (tW (⟨a0, a1⟩ : TI) && tW (⟨b0, b1⟩ : TI)), 1)])
    | _ => none
  else none
theorem hk_tnums_Sub_ok : HookOk Try.prog hk_tnums_Sub := by
  intro f args h v cs hv hc wb k s w H
  unfold hk_tnums_Sub at hv
  split at hv
  · rename_i hf
    obtain rfl := Nat.eq_of_beq_eq_true hf
    split at hv
    · rename_i a0 a1 b0 b1
      cases hv
      have hw := pair1 hc rfl
      simp only [Bool.and_eq_true] at hw
      obtain ⟨hwa, hwb⟩ := hw
      obtain ⟨av0, av1, rfl, rfl⟩ := tW_eq2 hwa
      obtain ⟨bv0, bv1, rfl, rfl⟩ := tW_eq2 hwb
      simp only [tSubI, tB, B, ofInt_N, VT_tN]
      exact (tn_sub av0 av1 bv0 bv1 w).mono fun e w' h => ⟨h.1, Gr.of_grown h.2⟩
    · cases hv
  · cases hv
def tMulI (a : TI) (b : TI) : TI := tN (tMul (tB a).1 (tB a).2 (tB b).1 (tB b).2)
def hk_tnums_Mul : Hook := fun f args _ =>
  if Nat.beq f 58 then
    match args with
    | [.agg ⟨[.int .u64 a0, .int .u64 a1]⟩, .agg ⟨[.int .u64 b0, .int .u64 b1]⟩] => some (VT (tMulI (⟨a0, a1⟩ : TI) (⟨b0, b1⟩ : TI)), [(b2i (tW (⟨a0, a1⟩ : TI) && tW (⟨b0, b1⟩ : TI)), 1)])
    | _ => none
  else none
theorem hk_tnums_Mul_ok : HookOk Try.prog hk_tnums_Mul := by
  intro f args h v cs hv hc wb k s w H
  unfold hk_tnums_Mul at hv
  split at hv
  · rename_i hf
    obtain rfl := Nat.eq_of_beq_eq_true hf
    split at hv
    · rename_i a0 a1 b0 b1
      cases hv
      have hw := pair1 hc rfl
      simp only [Bool.and_eq_true] at hw
      obtain ⟨hwa, hwb⟩ := hw
      obtain ⟨av0, av1, rfl, rfl⟩ := tW_eq2 hwa
      obtain ⟨bv0, bv1, rfl, rfl⟩ := tW_eq2 hwb
      simp only [tMulI, tB, B, ofInt_N, VT_tN]
      exact (tn_mul av0 av1 bv0 bv1 w).mono fun e w' h => ⟨h.1, Gr.of_grown h.2⟩
    · cases hv
  · cases hv
def tAndI (a : TI) (b : TI) : TI := tN (tAnd (tB a).1 (tB a).2 (tB b).1 (tB b).2)
def hk_tnums_And : Hook := fun f args _ =>
  if Nat.beq f 62 then
    match args with
    | [.agg ⟨[.int .u64 a0, .int .u64 a1]⟩, .agg ⟨[.int .u64 b0, .int .u64 b1]⟩] => some (VT (tAndI (⟨a0, a1⟩ : TI) (⟨b0, b1⟩ : TI)), [(b2i (tW (⟨a0, a1⟩ : TI) && tW (⟨b0, b1⟩ : TI)), 1)])
    | _ => none
  else none
theorem hk_tnums_And_ok : HookOk Try.prog hk_tnums_And := by
  intro f args h v cs hv hc wb k s w H
  unfold hk_tnums_And at hv
  split at hv
  · rename_i hf
    obtain rfl := Nat.eq_of_beq_eq_true hf
    split at hv
    · rename_i a0 a1 b0 b1
      cases hv
      have hw := pair1 hc rfl
      simp only [Bool.and_eq_true] at hw
      obtain ⟨hwa, hwb⟩ := hw
      obtain ⟨av0, av1, rfl, rfl⟩ := tW_eq2 hwa
      obtain ⟨bv0, bv1, rfl, rfl⟩ := tW_eq2 hwb
      simp only [tAndI, tB, B, ofInt_N, VT_tN]
      exact (tn_and av0 av1 bv0 bv1 w).mono fun e w' h => ⟨h.1, Gr.of_grown h.2⟩
    · cases hv
  · cases hv
def tOrI (a : TI) (b : TI) : TI := tN (tOr (tB a).1 (tB a).2 (tB b).1 (tB b).2)
def hk_tnums_Or : Hook := fun f args _ =>
  if Nat.beq f 60 then
    match args with
    | [.agg ⟨[.int .u64 a0, .int .u64 a1]⟩, .agg ⟨[.int .u64 b0, .int .u64 b1]⟩] => some (VT (tOrI (⟨a0, a1⟩ : TI) (⟨b0, b1⟩ : TI)), [(b2i (tW (⟨a0, a1⟩ : TI) && tW (⟨b0, b1⟩ : TI)), 1)])
    | _ => none
  else none
theorem hk_tnums_Or_ok : HookOk Try.prog hk_tnums_Or := by
  intro f args h v cs hv hc wb k s w H
  unfold hk_tnums_Or at hv
  split at hv
  · rename_i hf
    obtain rfl := Nat.eq_of_beq_eq_true hf
    split at hv
    · rename_i a0 a1 b0 b1
      cases hv
      have hw := pair1 hc rfl
      simp only [Bool.and_eq_true] at hw
      obtain ⟨hwa, hwb⟩ := hw
      obtain ⟨av0, av1, rfl, rfl⟩ := tW_eq2 hwa
      obtain ⟨bv0, bv1, rfl, rfl⟩ := tW_eq2 hwb
      simp only [tOrI, tB, B, ofInt_N, VT_tN]
      exact (tn_or av0 av1 bv0 bv1 w).mono fun e w' h => ⟨h.1, Gr.of_grown h.2⟩
    · cases hv
  · cases hv
def tXorI (a : TI) (b : TI) : TI := tN (tXor (tB a).1 (tB a).2 (tB b).1 (tB b).2)
def hk_tnums_Xor : Hook := fun f args _ =>
  if Nat.beq f 64 then
    match args with
    | [.agg ⟨[.int .u64 a0, .int .u64 a1]⟩, .agg ⟨[.int .u64 b0, .int .u64 b1]⟩] => some (VT (tXorI (⟨a0, a1⟩ : TI) (⟨b0, b1⟩ : TI)), [(b2i (tW (⟨a0, a1⟩ : TI) && tW (⟨b0, b1⟩ : TI)), 1)])
    | _ => none
  else none
theorem hk_tnums_Xor_ok : HookOk Try.prog hk_tnums_Xor := by
  intro f args h v cs hv hc wb k s w H
  unfold hk_tnums_Xor at hv
  split at hv
  · rename_i hf
    obtain rfl := Nat.eq_of_beq_eq_true hf
    split at hv
    · rename_i a0 a1 b0 b1
      cases hv
      have hw := pair1 hc rfl
      simp only [Bool.and_eq_true] at hw
      obtain ⟨hwa, hwb⟩ := hw
      obtain ⟨av0, av1, rfl, rfl⟩ := tW_eq2 hwa
      obtain ⟨bv0, bv1, rfl, rfl⟩ := tW_eq2 hwb
      simp only [tXorI, tB, B, ofInt_N, VT_tN]
      exact (tn_xor av0 av1 bv0 bv1 w).mono fun e w' h => ⟨h.1, Gr.of_grown h.2⟩
    · cases hv
  · cases hv
def tEitherI (a : TI) (b : TI) : TI := tN (tEither (tB a).1 (tB a).2 (tB b).1 (tB b).2)
def hk_tnums_Either : Hook := fun f args _ =>
  if Nat.beq f 80 then
    match args with
    | [.agg ⟨[.int .u64 a0, .int .u64 a1]⟩, .agg ⟨[.int .u64 b0, .int .u64 b1]⟩] => some (VT (tEitherI (⟨a0, a1⟩ : TI) (⟨b0, b1⟩ : TI)), [(b2i (tW (⟨a0, a1⟩ : TI) && tW (⟨b0, b1⟩ : TI)), 1)])
    | _ => none
  else none
theorem hk_tnums_Either_ok : HookOk Try.prog hk_tnums_Either := by
  intro f args h v cs hv hc wb k s w H
  unfold hk_tnums_Either at hv
  split at hv
  · rename_i hf
    obtain rfl := Nat.eq_of_beq_eq_true hf
    split at hv
    · rename_i a0 a1 b0 b1
      cases hv
      have hw := pair1 hc rfl
      simp only [Bool.and_eq_true] at hw
      obtain ⟨hwa, hwb⟩ := hw
      obtain ⟨av0, av1, rfl, rfl⟩ := tW_eq2 hwa
      obtain ⟨bv0, bv1, rfl, rfl⟩ := tW_eq2 hwb
      simp only [tEitherI, tB, B, ofInt_N, VT_tN]
      exact (tn_either av0 av1 bv0 bv1 w).mono fun e w' h => ⟨h.1, Gr.of_grown h.2⟩
    · cases hv
  · cases hv
def sAddI (a : SI) (b : SI) : SI := sN (addR (settledS (sB a)) (settledS (sB b)))
def hk_spans_Add : Hook := fun f args _ =>
  if Nat.beq f 55 then
    match args with
    | [.agg ⟨[.int .u64 a0, .int .u64 a1, .int .i64 a2, .int .i64 a3]⟩, .agg ⟨[.int .u64 b0, .int .u64 b1, .int .i64 b2, .int .i64 b3]⟩] => some (VS (sAddI (⟨a0, a1, a2, a3⟩ : SI) (⟨b0, b1, b2, b3⟩ : SI)), [(b2i (sW (⟨a0, a1, a2, a3⟩ : SI) && sW (⟨b0, b1, b2, b3⟩ : SI)), 1)])
    | _ => none
  else none
theorem hk_spans_Add_ok : HookOk Try.prog hk_spans_Add := by
  intro f args h v cs hv hc wb k s w H
  unfold hk_spans_Add at hv
  split at hv
  · rename_i hf
    obtain rfl := Nat.eq_of_beq_eq_true hf
    split at hv
    · rename_i a0 a1 a2 a3 b0 b1 b2 b3
      cases hv
      have hw := pair1 hc rfl
      simp only [Bool.and_eq_true] at hw
      obtain ⟨hwa, hwb⟩ := hw
      obtain ⟨av0, av1, av2, av3, rfl, rfl, rfl, rfl⟩ := sW_eq4 hwa
      obtain ⟨bv0, bv1, bv2, bv3, rfl, rfl, rfl, rfl⟩ := sW_eq4 hwb
      simp only [sAddI, sB, B, ofInt_N, ofInt_Z64, VS_sN]
      exact (sp_add av0 av1 av2 av3 bv0 bv1 bv2 bv3 w).mono fun e w' h => ⟨h.1, Gr.of_grown h.2⟩
    · cases hv
  · cases hv
def sSubI (a : SI) (b : SI) : SI := sN (subR (settledS (sB a)) (settledS (sB b)))
def hk_spans_Sub : Hook := fun f args _ =>
  if Nat.beq f 57 then
    match args with
    | [.agg ⟨[.int .u64 a0, .int .u64 a1, .int .i64 a2, .int .i64 a3]⟩, .agg ⟨[.int .u64 b0, .int .u64 b1, .int .i64 b2, .int .i64 b3]⟩] => some (VS (sSubI (⟨a0, a1, a2, a3⟩ : SI) (⟨b0, b1, b2, b3⟩ : SI)), [(b2i (sW (⟨a0, a1, a2, a3⟩ : SI) && sW (⟨b0, b1, b2, b3⟩ : SI)), 1)])
    | _ => none
  else none
theorem hk_spans_Sub_ok : HookOk Try.prog hk_spans_Sub := by
  intro f args h v cs hv hc wb k s w H
  unfold hk_spans_Sub at hv
  split at hv
  · rename_i hf
    obtain rfl := Nat.eq_of_beq_eq_true hf
    split at hv
    · rename_i a0 a1 a2 a3 b0 b1 b2 b3
      cases hv
      have hw := pair1 hc rfl
      simp only [Bool.and_eq_true] at hw
      obtain ⟨hwa, hwb⟩ := hw
      obtain ⟨av0, av1, av2, av3, rfl, rfl, rfl, rfl⟩ := sW_eq4 hwa
      obtain ⟨bv0, bv1, bv2, bv3, rfl, rfl, rfl, rfl⟩ := sW_eq4 hwb
      simp only [sSubI, sB, B, ofInt_N, ofInt_Z64, VS_sN]
      exact (sp_sub av0 av1 av2 av3 bv0 bv1 bv2 bv3 w).mono fun e w' h => ⟨h.1, Gr.of_grown h.2⟩
    · cases hv
  · cases hv
def sMulI (a : SI) (b : SI) : SI := sN (mulR (settledS (sB a)) (settledS (sB b)))
def hk_spans_Mul : Hook := fun f args _ =>
  if Nat.beq f 59 then
    match args with
    | [.agg ⟨[.int .u64 a0, .int .u64 a1, .int .i64 a2, .int .i64 a3]⟩, .agg ⟨[.int .u64 b0, .int .u64 b1, .int .i64 b2, .int .i64 b3]⟩] => some (VS (sMulI (⟨a0, a1, a2, a3⟩ : SI) (⟨b0, b1, b2, b3⟩ : SI)), [(b2i (sW (⟨a0, a1, a2, a3⟩ : SI) && sW (⟨b0, b1, b2, b3⟩ : SI)), 1)])
    | _ => none
  else none
theorem hk_spans_Mul_ok : HookOk Try.prog hk_spans_Mul := by
  intro f args h v cs hv hc wb k s w H
  unfold hk_spans_Mul at hv
  split at hv
  · rename_i hf
    obtain rfl := Nat.eq_of_beq_eq_true hf
    split at hv
    · rename_i a0 a1 a2 a3 b0 b1 b2 b3
      cases hv
      have hw := pair1 hc rfl
      simp only [Bool.and_eq_true] at hw
      obtain ⟨hwa, hwb⟩ := hw
      obtain ⟨av0, av1, av2, av3, rfl, rfl, rfl, rfl⟩ := sW_eq4 hwa
      obtain ⟨bv0, bv1, bv2, bv3, rfl, rfl, rfl, rfl⟩ := sW_eq4 hwb
      simp only [sMulI, sB, B, ofInt_N, ofInt_Z64, VS_sN]
      exact (sp_mul av0 av1 av2 av3 bv0 bv1 bv2 bv3 w).mono fun e w' h => ⟨h.1, Gr.of_grown h.2⟩
    · cases hv
  · cases hv
def sDivI (a : SI) (b : SI) : SI := sN (divR (settledS (sB a)) (settledS (sB b)))
def hk_spans_Div : Hook := fun f args _ =>
  if Nat.beq f 66 then
    match args with
    | [.agg ⟨[.int .u64 a0, .int .u64 a1, .int .i64 a2, .int .i64 a3]⟩, .agg ⟨[.int .u64 b0, .int .u64 b1, .int .i64 b2, .int .i64 b3]⟩] => some (VS (sDivI (⟨a0, a1, a2, a3⟩ : SI) (⟨b0, b1, b2, b3⟩ : SI)), [(b2i (sW (⟨a0, a1, a2, a3⟩ : SI) && sW (⟨b0, b1, b2, b3⟩ : SI)), 1)])
    | _ => none
  else none
theorem hk_spans_Div_ok : HookOk Try.prog hk_spans_Div := by
  intro f args h v cs hv hc wb k s w H
  unfold hk_spans_Div at hv
  split at hv
  · rename_i hf
    obtain rfl := Nat.eq_of_beq_eq_true hf
    split at hv
    · rename_i a0 a1 a2 a3 b0 b1 b2 b3
      cases hv
      have hw := pair1 hc rfl
      simp only [Bool.and_eq_true] at hw
      obtain ⟨hwa, hwb⟩ := hw
      obtain ⟨av0, av1, av2, av3, rfl, rfl, rfl, rfl⟩ := sW_eq4 hwa
      obtain ⟨bv0, bv1, bv2, bv3, rfl, rfl, rfl, rfl⟩ := sW_eq4 hwb
      simp only [sDivI, sB, B, ofInt_N, ofInt_Z64, VS_sN]
      exact (sp_div av0 av1 av2 av3 bv0 bv1 bv2 bv3 w).mono fun e w' h => ⟨h.1, Gr.of_grown h.2⟩
    · cases hv
  · cases hv
def sModI (a : SI) (b : SI) : SI := sN (modR (settledS (sB a)) (settledS (sB b)))
def hk_spans_Mod : Hook := fun f args _ =>
  if Nat.beq f 67 then
    match args with
    | [.agg ⟨[.int .u64 a0, .int .u64 a1, .int .i64 a2, .int .i64 a3]⟩, .agg ⟨[.int .u64 b0, .int .u64 b1, .int .i64 b2, .int .i64 b3]⟩] => some (VS (sModI (⟨a0, a1, a2, a3⟩ : SI) (⟨b0, b1, b2, b3⟩ : SI)), [(b2i (sW (⟨a0, a1, a2, a3⟩ : SI) && sW (⟨b0, b1, b2, b3⟩ : SI)), 1)])
    | _ => none
  else none
theorem hk_spans_Mod_ok : HookOk Try.prog hk_spans_Mod := by
  intro f args h v cs hv hc wb k s w H
  unfold hk_spans_Mod at hv
  split at hv
  · rename_i hf
    obtain rfl := Nat.eq_of_beq_eq_true hf
    split at hv
    · rename_i a0 a1 a2 a3 b0 b1 b2 b3
      cases hv
      have hw := pair1 hc rfl
      simp only [Bool.and_eq_true] at hw
      obtain ⟨hwa, hwb⟩ := hw
      obtain ⟨av0, av1, av2, av3, rfl, rfl, rfl, rfl⟩ := sW_eq4 hwa
      obtain ⟨bv0, bv1, bv2, bv3, rfl, rfl, rfl, rfl⟩ := sW_eq4 hwb
      simp only [sModI, sB, B, ofInt_N, ofInt_Z64, VS_sN]
      exact (sp_mod av0 av1 av2 av3 bv0 bv1 bv2 bv3 w).mono fun e w' h => ⟨h.1, Gr.of_grown h.2⟩
    · cases hv
  · cases hv
def sAndI (a : SI) (b : SI) : SI := sN (andR (settledS (sB a)) (settledS (sB b)))
def hk_spans_And : Hook := fun f args _ =>
  if Nat.beq f 63 then
    match args with
    | [.agg ⟨[.int .u64 a0, .int .u64 a1, .int .i64 a2, .int .i64 a3]⟩, .agg ⟨[.int .u64 b0, .int .u64 b1, .int .i64 b2, .int .i64 b3]⟩] => some (VS (sAndI (⟨a0, a1, a2, a3⟩ : SI) (⟨b0, b1, b2, b3⟩ : SI)), [(b2i (sW (⟨a0, a1, a2, a3⟩ : SI) && sW (⟨b0, b1, b2, b3⟩ : SI)), 1)])
    | _ => none
  else none
theorem hk_spans_And_ok : HookOk Try.prog hk_spans_And := by
  intro f args h v cs hv hc wb k s w H
  unfold hk_spans_And at hv
  split at hv
  · rename_i hf
    obtain rfl := Nat.eq_of_beq_eq_true hf
    split at hv
    · rename_i a0 a1 a2 a3 b0 b1 b2 b3
      cases hv
      have hw := pair1 hc rfl
      simp only [Bool.and_eq_true] at hw
      obtain ⟨hwa, hwb⟩ := hw
      obtain ⟨av0, av1, av2, av3, rfl, rfl, rfl, rfl⟩ := sW_eq4 hwa
      obtain ⟨bv0, bv1, bv2, bv3, rfl, rfl, rfl, rfl⟩ := sW_eq4 hwb
      simp only [sAndI, sB, B, ofInt_N, ofInt_Z64, VS_sN]
      exact (sp_and av0 av1 av2 av3 bv0 bv1 bv2 bv3 w).mono fun e w' h => ⟨h.1, Gr.of_grown h.2⟩
    · cases hv
  · cases hv
def sOrI (a : SI) (b : SI) : SI := sN (orR (settledS (sB a)) (settledS (sB b)))
def hk_spans_Or : Hook := fun f args _ =>
  if Nat.beq f 61 then
    match args with
    | [.agg ⟨[.int .u64 a0, .int .u64 a1, .int .i64 a2, .int .i64 a3]⟩, .agg ⟨[.int .u64 b0, .int .u64 b1, .int .i64 b2, .int .i64 b3]⟩] => some (VS (sOrI (⟨a0, a1, a2, a3⟩ : SI) (⟨b0, b1, b2, b3⟩ : SI)), [(b2i (sW (⟨a0, a1, a2, a3⟩ : SI) && sW (⟨b0, b1, b2, b3⟩ : SI)), 1)])
    | _ => none
  else none
theorem hk_spans_Or_ok : HookOk Try.prog hk_spans_Or := by
  intro f args h v cs hv hc wb k s w H
  unfold hk_spans_Or at hv
  split at hv
  · rename_i hf
    obtain rfl := Nat.eq_of_beq_eq_true hf
    split at hv
    · rename_i a0 a1 a2 a3 b0 b1 b2 b3
      cases hv
      have hw := pair1 hc rfl
      simp only [Bool.and_eq_true] at hw
      obtain ⟨hwa, hwb⟩ := hw
      obtain ⟨av0, av1, av2, av3, rfl, rfl, rfl, rfl⟩ := sW_eq4 hwa
      obtain ⟨bv0, bv1, bv2, bv3, rfl, rfl, rfl, rfl⟩ := sW_eq4 hwb
      simp only [sOrI, sB, B, ofInt_N, ofInt_Z64, VS_sN]
      exact (sp_or av0 av1 av2 av3 bv0 bv1 bv2 bv3 w).mono fun e w' h => ⟨h.1, Gr.of_grown h.2⟩
    · cases hv
  · cases hv
def sXorI (a : SI) (b : SI) : SI := sN (xorR (settledS (sB a)) (settledS (sB b)))
def hk_spans_Xor : Hook := fun f args _ =>
  if Nat.beq f 65 then
    match args with
    | [.agg ⟨[.int .u64 a0, .int .u64 a1, .int .i64 a2, .int .i64 a3]⟩, .agg ⟨[.int .u64 b0, .int .u64 b1, .int .i64 b2, .int .i64 b3]⟩] => some (VS (sXorI (⟨a0, a1, a2, a3⟩ : SI) (⟨b0, b1, b2, b3⟩ : SI)), [(b2i (sW (⟨a0, a1, a2, a3⟩ : SI) && sW (⟨b0, b1, b2, b3⟩ : SI)), 1)])
    | _ => none
  else none
theorem hk_spans_Xor_ok : HookOk Try.prog hk_spans_Xor := by
  intro f args h v cs hv hc wb k s w H
  unfold hk_spans_Xor at hv
  split at hv
  · rename_i hf
    obtain rfl := Nat.eq_of_beq_eq_true hf
    split at hv
    · rename_i a0 a1 a2 a3 b0 b1 b2 b3
      cases hv
      have hw := pair1 hc rfl
      simp only [Bool.and_eq_true] at hw
      obtain ⟨hwa, hwb⟩ := hw
      obtain ⟨av0, av1, av2, av3, rfl, rfl, rfl, rfl⟩ := sW_eq4 hwa
      obtain ⟨bv0, bv1, bv2, bv3, rfl, rfl, rfl, rfl⟩ := sW_eq4 hwb
      simp only [sXorI, sB, B, ofInt_N, ofInt_Z64, VS_sN]
      exact (sp_xor av0 av1 av2 av3 bv0 bv1 bv2 bv3 w).mono fun e w' h => ⟨h.1, Gr.of_grown h.2⟩
    · cases hv
  · cases hv
def tLshI (a : TI) (b : Int) : TI := tN (tLsh (tB a).1 (tB a).2 (B b &&& 63#64).toNat)
def hk_tnums_Lsh : Hook := fun f args _ =>
  if Nat.beq f 106 then
    match args with
    | [.agg ⟨[.int .u64 a0, .int .u64 a1]⟩, .int .i64 b0] => some (VT (tLshI (⟨a0, a1⟩ : TI) b0), [(b2i (tW (⟨a0, a1⟩ : TI) && zB b0), 1)])
    | _ => none
  else none
theorem hk_tnums_Lsh_ok : HookOk Try.prog hk_tnums_Lsh := by
  intro f args h v cs hv hc wb k s w H
  unfold hk_tnums_Lsh at hv
  split at hv
  · rename_i hf
    obtain rfl := Nat.eq_of_beq_eq_true hf
    split at hv
    · rename_i a0 a1 b0
      cases hv
      have hw := pair1 hc rfl
      simp only [Bool.and_eq_true] at hw
      obtain ⟨hwa, hwb⟩ := hw
      obtain ⟨av0, av1, rfl, rfl⟩ := tW_eq2 hwa
      simp only [tLshI, tB, B, ofInt_N, VT_tN]
      obtain ⟨m, e1, e2, e3⟩ := and63 b0
      rw [← e3]
      exact (tn_lsh _ _ b0 m e1 e2 w).mono fun e w' h => ⟨h.1, Gr.of_grown h.2⟩
    · cases hv
  · cases hv
def tRshI (a : TI) (b : Int) : TI := tN (tRsh (tB a).1 (tB a).2 (B b &&& 63#64).toNat)
def hk_tnums_Rsh : Hook := fun f args _ =>
  if Nat.beq f 101 then
    match args with
    | [.agg ⟨[.int .u64 a0, .int .u64 a1]⟩, .int .i64 b0] => some (VT (tRshI (⟨a0, a1⟩ : TI) b0), [(b2i (tW (⟨a0, a1⟩ : TI) && zB b0), 1)])
    | _ => none
  else none
theorem hk_tnums_Rsh_ok : HookOk Try.prog hk_tnums_Rsh := by
  intro f args h v cs hv hc wb k s w H
  unfold hk_tnums_Rsh at hv
  split at hv
  · rename_i hf
    obtain rfl := Nat.eq_of_beq_eq_true hf
    split at hv
    · rename_i a0 a1 b0
      cases hv
      have hw := pair1 hc rfl
      simp only [Bool.and_eq_true] at hw
      obtain ⟨hwa, hwb⟩ := hw
      obtain ⟨av0, av1, rfl, rfl⟩ := tW_eq2 hwa
      simp only [tRshI, tB, B, ofInt_N, VT_tN]
      obtain ⟨m, e1, e2, e3⟩ := and63 b0
      rw [← e3]
      exact (tn_rsh _ _ b0 m e1 e2 w).mono fun e w' h => ⟨h.1, Gr.of_grown h.2⟩
    · cases hv
  · cases hv
def tArshI (a : TI) (b : Int) : TI := tN (tArsh (tB a).1 (tB a).2 (B b &&& 63#64).toNat)
def hk_tnums_Arsh : Hook := fun f args _ =>
  if Nat.beq f 103 then
    match args with
    | [.agg ⟨[.int .u64 a0, .int .u64 a1]⟩, .int .i64 b0] => some (VT (tArshI (⟨a0, a1⟩ : TI) b0), [(b2i (tW (⟨a0, a1⟩ : TI) && zB b0), 1)])
    | _ => none
  else none
theorem hk_tnums_Arsh_ok : HookOk Try.prog hk_tnums_Arsh := by
  intro f args h v cs hv hc wb k s w H
  unfold hk_tnums_Arsh at hv
  split at hv
  · rename_i hf
    obtain rfl := Nat.eq_of_beq_eq_true hf
    split at hv
    · rename_i a0 a1 b0
      cases hv
      have hw := pair1 hc rfl
      simp only [Bool.and_eq_true] at hw
      obtain ⟨hwa, hwb⟩ := hw
      obtain ⟨av0, av1, rfl, rfl⟩ := tW_eq2 hwa
      simp only [tArshI, tB, B, ofInt_N, VT_tN]
      obtain ⟨m, e1, e2, e3⟩ := and63 b0
      rw [← e3]
      exact (tn_arsh _ _ b0 m e1 e2 w).mono fun e w' h => ⟨h.1, Gr.of_grown h.2⟩
    · cases hv
  · cases hv
def sLshI (a : SI) (b : Int) : SI := sN (lshR (settledS (sB a)) (b % 64).toNat)
def hk_spans_Lsh : Hook := fun f args _ =>
  if Nat.beq f 107 then
    match args with
    | [.agg ⟨[.int .u64 a0, .int .u64 a1, .int .i64 a2, .int .i64 a3]⟩, .int .i64 b0] => some (VS (sLshI (⟨a0, a1, a2, a3⟩ : SI) b0), [(b2i (sW (⟨a0, a1, a2, a3⟩ : SI) && zB b0), 1)])
    | _ => none
  else none
theorem hk_spans_Lsh_ok : HookOk Try.prog hk_spans_Lsh := by
  intro f args h v cs hv hc wb k s w H
  unfold hk_spans_Lsh at hv
  split at hv
  · rename_i hf
    obtain rfl := Nat.eq_of_beq_eq_true hf
    split at hv
    · rename_i a0 a1 a2 a3 b0
      cases hv
      have hw := pair1 hc rfl
      simp only [Bool.and_eq_true] at hw
      obtain ⟨hwa, hwb⟩ := hw
      obtain ⟨av0, av1, av2, av3, rfl, rfl, rfl, rfl⟩ := sW_eq4 hwa
      simp only [sLshI, sB, B, ofInt_N, ofInt_Z64, VS_sN]
      obtain ⟨z0, z1⟩ := of_decide_eq_true hwb
      exact (sp_lsh av0 av1 av2 av3 b0 z0 z1 w).mono fun e w' h => ⟨h.1, Gr.of_grown h.2⟩
    · cases hv
  · cases hv
def sRshI (a : SI) (b : Int) : SI := sN (rshR (settledS (sB a)) (b % 64).toNat)
def hk_spans_Rsh : Hook := fun f args _ =>
  if Nat.beq f 102 then
    match args with
    | [.agg ⟨[.int .u64 a0, .int .u64 a1, .int .i64 a2, .int .i64 a3]⟩, .int .i64 b0] => some (VS (sRshI (⟨a0, a1, a2, a3⟩ : SI) b0), [(b2i (sW (⟨a0, a1, a2, a3⟩ : SI) && zB b0), 1)])
    | _ => none
  else none
theorem hk_spans_Rsh_ok : HookOk Try.prog hk_spans_Rsh := by
  intro f args h v cs hv hc wb k s w H
  unfold hk_spans_Rsh at hv
  split at hv
  · rename_i hf
    obtain rfl := Nat.eq_of_beq_eq_true hf
    split at hv
    · rename_i a0 a1 a2 a3 b0
      cases hv
      have hw := pair1 hc rfl
      simp only [Bool.and_eq_true] at hw
      obtain ⟨hwa, hwb⟩ := hw
      obtain ⟨av0, av1, av2, av3, rfl, rfl, rfl, rfl⟩ := sW_eq4 hwa
      simp only [sRshI, sB, B, ofInt_N, ofInt_Z64, VS_sN]
      obtain ⟨z0, z1⟩ := of_decide_eq_true hwb
      exact (sp_rsh av0 av1 av2 av3 b0 z0 z1 w).mono fun e w' h => ⟨h.1, Gr.of_grown h.2⟩
    · cases hv
  · cases hv
def sArshI (a : SI) (b : Int) : SI := sN (arshR (settledS (sB a)) (b % 64).toNat)
def hk_spans_Arsh : Hook := fun f args _ =>
  if Nat.beq f 104 then
    match args with
    | [.agg ⟨[.int .u64 a0, .int .u64 a1, .int .i64 a2, .int .i64 a3]⟩, .int .i64 b0] => some (VS (sArshI (⟨a0, a1, a2, a3⟩ : SI) b0), [(b2i (sW (⟨a0, a1, a2, a3⟩ : SI) && zB b0), 1)])
    | _ => none
  else none
theorem hk_spans_Arsh_ok : HookOk Try.prog hk_spans_Arsh := by
  intro f args h v cs hv hc wb k s w H
  unfold hk_spans_Arsh at hv
  split at hv
  · rename_i hf
    obtain rfl := Nat.eq_of_beq_eq_true hf
    split at hv
    · rename_i a0 a1 a2 a3 b0
      cases hv
      have hw := pair1 hc rfl
      simp only [Bool.and_eq_true] at hw
      obtain ⟨hwa, hwb⟩ := hw
      obtain ⟨av0, av1, av2, av3, rfl, rfl, rfl, rfl⟩ := sW_eq4 hwa
      simp only [sArshI, sB, B, ofInt_N, ofInt_Z64, VS_sN]
      obtain ⟨z0, z1⟩ := of_decide_eq_true hwb
      exact (sp_arsh av0 av1 av2 av3 b0 z0 z1 w).mono fun e w' h => ⟨h.1, Gr.of_grown h.2⟩
    · cases hv
  · cases hv
def tLowI (a : TI) (b : Int) : TI := tN (tLow (tB a).1 (tB a).2 b)
def hk_tnums_Low : Hook := fun f args _ =>
  if Nat.beq f 69 then
    match args with
    | [.agg ⟨[.int .u64 a0, .int .u64 a1]⟩, .int .i64 b0] => some (VT (tLowI (⟨a0, a1⟩ : TI) b0), [(b2i (tW (⟨a0, a1⟩ : TI) && zB b0), 1)])
    | _ => none
  else none
theorem hk_tnums_Low_ok : HookOk Try.prog hk_tnums_Low := by
  intro f args h v cs hv hc wb k s w H
  unfold hk_tnums_Low at hv
  split at hv
  · rename_i hf
    obtain rfl := Nat.eq_of_beq_eq_true hf
    split at hv
    · rename_i a0 a1 b0
      cases hv
      have hw := pair1 hc rfl
      simp only [Bool.and_eq_true] at hw
      obtain ⟨hwa, hwb⟩ := hw
      obtain ⟨av0, av1, rfl, rfl⟩ := tW_eq2 hwa
      simp only [tLowI, tB, B, ofInt_N, VT_tN]
      obtain ⟨z0, z1⟩ := of_decide_eq_true hwb
      exact (tn_low av0 av1 b0 z0 z1 w).mono fun e w' h => ⟨h.1, Gr.of_grown h.2⟩
    · cases hv
  · cases hv
def sLowI (a : SI) : SI := sN (low32R (settledS (sB a)))
def hk_spans_Low32 : Hook := fun f args _ =>
  if Nat.beq f 70 then
    match args with
    | [.agg ⟨[.int .u64 a0, .int .u64 a1, .int .i64 a2, .int .i64 a3]⟩] => some (VS (sLowI (⟨a0, a1, a2, a3⟩ : SI)), [(b2i (sW (⟨a0, a1, a2, a3⟩ : SI)), 1)])
    | _ => none
  else none
theorem hk_spans_Low32_ok : HookOk Try.prog hk_spans_Low32 := by
  intro f args h v cs hv hc wb k s w H
  unfold hk_spans_Low32 at hv
  split at hv
  · rename_i hf
    obtain rfl := Nat.eq_of_beq_eq_true hf
    split at hv
    · rename_i a0 a1 a2 a3
      cases hv
      have hw := pair1 hc rfl
      have hwa := hw
      obtain ⟨av0, av1, av2, av3, rfl, rfl, rfl, rfl⟩ := sW_eq4 hwa
      simp only [sLowI, sB, B, ofInt_N, ofInt_Z64, VS_sN]
      exact (sp_low32 av0 av1 av2 av3 w).mono fun e w' h => ⟨h.1, Gr.of_grown h.2⟩
    · cases hv
  · cases hv
def tRangeI (a : Int) (b : Int) : TI := tN (tRange (B a) (B b))
def hk_tnums_Range : Hook := fun f args _ =>
  if Nat.beq f 73 then
    match args with
    | [.int .u64 a0, .int .u64 b0] => some (VT (tRangeI a0 b0), [(b2i (uB a0 && uB b0), 1)])
    | _ => none
  else none
theorem hk_tnums_Range_ok : HookOk Try.prog hk_tnums_Range := by
  intro f args h v cs hv hc wb k s w H
  unfold hk_tnums_Range at hv
  split at hv
  · rename_i hf
    obtain rfl := Nat.eq_of_beq_eq_true hf
    split at hv
    · rename_i a0 b0
      cases hv
      have hw := pair1 hc rfl
      simp only [Bool.and_eq_true] at hw
      obtain ⟨hwa, hwb⟩ := hw
      obtain ⟨av0, rfl⟩ := uB_eq hwa
      obtain ⟨bv0, rfl⟩ := uB_eq hwb
      simp only [tRangeI, B, ofInt_N, VT_tN]
      exact (tn_range av0 bv0 w).mono fun e w' h => ⟨h.1, Gr.of_grown h.2⟩
    · cases hv
  · cases hv
def sConstI (a : Int) : SI := sN (constS (B a))
def hk_spans_Const : Hook := fun f args _ =>
  if Nat.beq f 21 then
    match args with
    | [.int .u64 a0] => some (VS (sConstI a0), [(b2i (uB a0), 1)])
    | _ => none
  else none
theorem hk_spans_Const_ok : HookOk Try.prog hk_spans_Const := by
  intro f args h v cs hv hc wb k s w H
  unfold hk_spans_Const at hv
  split at hv
  · rename_i hf
    obtain rfl := Nat.eq_of_beq_eq_true hf
    split at hv
    · rename_i a0
      cases hv
      have hw := pair1 hc rfl
      have hwa := hw
      obtain ⟨av0, rfl⟩ := uB_eq hwa
      simp only [sConstI, B, ofInt_N, VS_sN]
      exact (sp_const av0 w).mono fun e w' h => ⟨h.1, Gr.of_grown h.2⟩
    · cases hv
  · cases hv
def tBothI (a : TI) (b : TI) : TI := tN (tBothV (tB a) (tB b))
def tBothKI (a : TI) (b : TI) : Bool := tBothK (tB a) (tB b)
def hk_tnums_Both : Hook := fun f args _ =>
  if Nat.beq f 48 then
    match args with
    | [.agg ⟨[.int .u64 a0, .int .u64 a1]⟩, .agg ⟨[.int .u64 b0, .int .u64 b1]⟩] => some (.tuple ⟨[VT (tBothI (⟨a0, a1⟩ : TI) (⟨b0, b1⟩ : TI)), .bool (tBothKI (⟨a0, a1⟩ : TI) (⟨b0, b1⟩ : TI))]⟩, [(b2i (tW (⟨a0, a1⟩ : TI) && tW (⟨b0, b1⟩ : TI)), 1)])
    | _ => none
  else none
theorem hk_tnums_Both_ok : HookOk Try.prog hk_tnums_Both := by
  intro f args h v cs hv hc wb k s w H
  unfold hk_tnums_Both at hv
  split at hv
  · rename_i hf
    obtain rfl := Nat.eq_of_beq_eq_true hf
    split at hv
    · rename_i a0 a1 b0 b1
      cases hv
      have hw := pair1 hc rfl
      simp only [Bool.and_eq_true] at hw
      obtain ⟨hwa, hwb⟩ := hw
      obtain ⟨av0, av1, rfl, rfl⟩ := tW_eq2 hwa
      obtain ⟨bv0, bv1, rfl, rfl⟩ := tW_eq2 hwb
      simp only [tBothI, tBothKI, tB, B, ofInt_N, VT_tN]
      exact (tn_both2 av0 av1 bv0 bv1 w).mono fun e w' h => ⟨h.1, Gr.of_grown h.2⟩
    · cases hv
  · cases hv
def sBothI (a : SI) (b : SI) : SI := sN (tightS (commonS (sB a) (sB b)))
def sBothKI (a : SI) (b : SI) : Bool := okS (commonS (sB a) (sB b))
def sTightI (a : SI) : SI := sN (tightS (sB a))
def sTightKI (a : SI) : Bool := okS (sB a)
def hk_spans_Tight : Hook := fun f args _ =>
  if Nat.beq f 45 then
    match args with
    | [.agg ⟨[.int .u64 a0, .int .u64 a1, .int .i64 a2, .int .i64 a3]⟩] => some (.tuple ⟨[VS (sTightI (⟨a0, a1, a2, a3⟩ : SI)), .bool (sTightKI (⟨a0, a1, a2, a3⟩ : SI))]⟩, [(b2i (sW (⟨a0, a1, a2, a3⟩ : SI)), 1)])
    | _ => none
  else none
theorem hk_spans_Tight_ok : HookOk Try.prog hk_spans_Tight := by
  intro f args h v cs hv hc wb k s w H
  unfold hk_spans_Tight at hv
  split at hv
  · rename_i hf
    obtain rfl := Nat.eq_of_beq_eq_true hf
    split at hv
    · rename_i a0 a1 a2 a3
      cases hv
      have hw := pair1 hc rfl
      have hwa := hw
      obtain ⟨av0, av1, av2, av3, rfl, rfl, rfl, rfl⟩ := sW_eq4 hwa
      simp only [sTightI, sTightKI, sB, B, ofInt_N, ofInt_Z64, VS_sN]
      exact (sp_tight av0 av1 av2 av3 w).mono fun e w' h => ⟨h.1, Gr.of_grown h.2⟩
    · cases hv
  · cases hv
def tInI (a : TI) (b : TI) : Bool := (N ((tB b).2 &&& ~~~(tB a).2) == 0) && (N ((tB b).1 &&& ~~~(tB a).2) == N (tB a).1)
def hk_tnums_In : Hook := fun f args _ =>
  if Nat.beq f 43 then
    match args with
    | [.agg ⟨[.int .u64 a0, .int .u64 a1]⟩, .agg ⟨[.int .u64 b0, .int .u64 b1]⟩] => some (.bool (tInI (⟨a0, a1⟩ : TI) (⟨b0, b1⟩ : TI)), [(b2i (tW (⟨a0, a1⟩ : TI) && tW (⟨b0, b1⟩ : TI)), 1)])
    | _ => none
  else none
theorem hk_tnums_In_ok : HookOk Try.prog hk_tnums_In := by
  intro f args h v cs hv hc wb k s w H
  unfold hk_tnums_In at hv
  split at hv
  · rename_i hf
    obtain rfl := Nat.eq_of_beq_eq_true hf
    split at hv
    · rename_i a0 a1 b0 b1
      cases hv
      have hw := pair1 hc rfl
      simp only [Bool.and_eq_true] at hw
      obtain ⟨hwa, hwb⟩ := hw
      obtain ⟨av0, av1, rfl, rfl⟩ := tW_eq2 hwa
      obtain ⟨bv0, bv1, rfl, rfl⟩ := tW_eq2 hwb
      simp only [tInI, tB, B, ofInt_N]
      exact (tn_in av0 av1 bv0 bv1 w).mono fun e w' h => ⟨h.1, Gr.of_grown h.2⟩
    · cases hv
  · cases hv
def sInI (a : SI) (b : SI) : Bool := inB (sB a) (sB b)
def hk_spans_In : Hook := fun f args _ =>
  if Nat.beq f 44 then
    match args with
    | [.agg ⟨[.int .u64 a0, .int .u64 a1, .int .i64 a2, .int .i64 a3]⟩, .agg ⟨[.int .u64 b0, .int .u64 b1, .int .i64 b2, .int .i64 b3]⟩] => some (.bool (sInI (⟨a0, a1, a2, a3⟩ : SI) (⟨b0, b1, b2, b3⟩ : SI)), [(b2i (sW (⟨a0, a1, a2, a3⟩ : SI) && sW (⟨b0, b1, b2, b3⟩ : SI)), 1)])
    | _ => none
  else none
theorem hk_spans_In_ok : HookOk Try.prog hk_spans_In := by
  intro f args h v cs hv hc wb k s w H
  unfold hk_spans_In at hv
  split at hv
  · rename_i hf
    obtain rfl := Nat.eq_of_beq_eq_true hf
    split at hv
    · rename_i a0 a1 a2 a3 b0 b1 b2 b3
      cases hv
      have hw := pair1 hc rfl
      simp only [Bool.and_eq_true] at hw
      obtain ⟨hwa, hwb⟩ := hw
      obtain ⟨av0, av1, av2, av3, rfl, rfl, rfl, rfl⟩ := sW_eq4 hwa
      obtain ⟨bv0, bv1, bv2, bv3, rfl, rfl, rfl, rfl⟩ := sW_eq4 hwb
      simp only [sInI, sB, B, ofInt_N, ofInt_Z64]
      exact (sp_in av0 av1 av2 av3 bv0 bv1 bv2 bv3 w).mono fun e w' h => ⟨h.1, Gr.of_grown h.2⟩
    · cases hv
  · cases hv
def tHasI (a : TI) (b : Int) : Bool := N (B b &&& ~~~(tB a).2) == N (tB a).1
def sHasI (a : SI) (b : Int) : Bool := hasB (sB a) (B b)
def aluI (x : Int) (wide : Bool) (a b : Int) : Int := N (aluS x wide (B a) (B b))
def hk_alu : Hook := fun f args _ =>
  if Nat.beq f 31 then
    match args with
    | [.int .u8 x, .bool wide, .int .u64 a, .int .u64 b] => some (.int .u64 (aluI x wide a b), [(b2i (uB a && uB b), 1)])
    | _ => none
  else none
theorem hk_alu_ok : HookOk Try.prog hk_alu := by
  intro f args h v cs hv hc wb k s w H
  unfold hk_alu at hv
  split at hv
  · rename_i hf
    obtain rfl := Nat.eq_of_beq_eq_true hf
    split at hv
    · rename_i x wide a b
      cases hv
      have hw := pair1 hc rfl
      simp only [Bool.and_eq_true] at hw
      obtain ⟨va, rfl⟩ := uB_eq hw.1
      obtain ⟨vb, rfl⟩ := uB_eq hw.2
      simp only [aluI, B, ofInt_N]
      exact (do_any x wide va vb w).mono fun e w' h => ⟨h.1, Gr.of_grown h.2⟩
    · cases hv
  · cases hv
def hkBase : Hook := orHook hk_tnums_Add (orHook hk_tnums_Sub (orHook hk_tnums_Mul (orHook hk_tnums_And (orHook hk_tnums_Or (orHook hk_tnums_Xor (orHook hk_tnums_Either (orHook hk_spans_Add (orHook hk_spans_Sub (orHook hk_spans_Mul (orHook hk_spans_Div (orHook hk_spans_Mod (orHook hk_spans_And (orHook hk_spans_Or (orHook hk_spans_Xor (orHook hk_tnums_Lsh (orHook hk_tnums_Rsh (orHook hk_tnums_Arsh (orHook hk_spans_Lsh (orHook hk_spans_Rsh (orHook hk_spans_Arsh (orHook hk_tnums_Low (orHook hk_spans_Low32 (orHook hk_tnums_Range (orHook hk_spans_Const (orHook hk_tnums_Both (orHook hk_spans_Tight (orHook hk_tnums_In (orHook hk_spans_In (hk_alu)))))))))))))))))))))))))))))
theorem hkBase_ok : HookOk Try.prog hkBase := orHook_ok hk_tnums_Add_ok (orHook_ok hk_tnums_Sub_ok (orHook_ok hk_tnums_Mul_ok (orHook_ok hk_tnums_And_ok (orHook_ok hk_tnums_Or_ok (orHook_ok hk_tnums_Xor_ok (orHook_ok hk_tnums_Either_ok (orHook_ok hk_spans_Add_ok (orHook_ok hk_spans_Sub_ok (orHook_ok hk_spans_Mul_ok (orHook_ok hk_spans_Div_ok (orHook_ok hk_spans_Mod_ok (orHook_ok hk_spans_And_ok (orHook_ok hk_spans_Or_ok (orHook_ok hk_spans_Xor_ok (orHook_ok hk_tnums_Lsh_ok (orHook_ok hk_tnums_Rsh_ok (orHook_ok hk_tnums_Arsh_ok (orHook_ok hk_spans_Lsh_ok (orHook_ok hk_spans_Rsh_ok (orHook_ok hk_spans_Arsh_ok (orHook_ok hk_tnums_Low_ok (orHook_ok hk_spans_Low32_ok (orHook_ok hk_tnums_Range_ok (orHook_ok hk_spans_Const_ok (orHook_ok hk_tnums_Both_ok (orHook_ok hk_spans_Tight_ok (orHook_ok hk_tnums_In_ok (orHook_ok hk_spans_In_ok (hk_alu_ok)))))))))))))))))))))))))))))
end Go.Proofs.Ytdlgebfaijlaoaa.Ex
end
section
namespace Go.Proofs.Ytdlgebfaijlaoaa
open Go.RowKit

/-- x has the bits that are known: those that are off in m are as in v. -/
def hasT (v m x : W64) : Prop := x &&& ~~~m = v
def okT (v m : W64) : Prop := v &&& m = 0#64

theorem hasT_iff (v m x : W64) : hasT v m x ↔ ∀ i, i < 64 → (x.getLsbD i && !m.getLsbD i) = v.getLsbD i := by
  unfold hasT
  constructor
  · intro h i hi
    rw [← h]; simp [hi]
  · intro h
    apply BitVec.eq_of_getLsbD_eq
    intro i hi
    rw [← h i hi]; simp [hi]
theorem okT_iff (v m : W64) : okT v m ↔ ∀ i, i < 64 → (v.getLsbD i && m.getLsbD i) = false := by
  unfold okT
  constructor
  · intro h i hi
    rw [← BitVec.getLsbD_and, h]; simp
  · intro h
    apply BitVec.eq_of_getLsbD_eq
    intro i hi
    rw [BitVec.getLsbD_and, h i hi]; simp
/-- A number that is made: one of its numbers. -/
theorem has_one (v m y : W64) : hasT (v &&& ~~~m) m ((v &&& ~~~m) ||| (m &&& y)) := by
  rw [hasT_iff]; intro i hi
  simp only [BitVec.getLsbD_and, BitVec.getLsbD_or, BitVec.getLsbD_not, hi, decide_true, Bool.true_and]
  cases v.getLsbD i <;> cases m.getLsbD i <;> simp
theorem ok_made (v m : W64) : okT (v &&& ~~~m) m := by
  rw [okT_iff]; intro i hi
  simp [hi]
theorem ok_of (v m : W64) : okT (tOf v m).1 (tOf v m).2 := ok_made v m
theorem has_of {v m x : W64} (h : ∀ i, i < 64 → m.getLsbD i = false → x.getLsbD i = v.getLsbD i) : hasT (tOf v m).1 (tOf v m).2 x := by
  rw [hasT_iff]; intro i hi
  show _ = (v &&& ~~~m).getLsbD i
  simp only [BitVec.getLsbD_and, BitVec.getLsbD_not, hi, decide_true, Bool.true_and]
  show (x.getLsbD i && !m.getLsbD i) = _
  cases hm : m.getLsbD i
  · rw [h i hi hm]
  · simp

/-- 'a' has no bit that 'b' has not. -/
def sub1 (a b : W64) : Prop := a &&& b = a
theorem sub1_bit {a b : W64} (h : sub1 a b) (i : Nat) : a.getLsbD i = true → b.getLsbD i = true := by
  intro ha
  unfold sub1 at h
  rw [← h] at ha
  simp at ha
  exact ha.2
theorem sub1_of {a b : W64} (h : ∀ i, i < 64 → a.getLsbD i = true → b.getLsbD i = true) : sub1 a b := by
  apply BitVec.eq_of_getLsbD_eq
  intro i hi
  have := h i hi
  rw [BitVec.getLsbD_and]
  cases ha : a.getLsbD i
  · simp
  · simp [this ha]
theorem sub1_mod {a b : W64} (h : sub1 a b) (i : Nat) : a.toNat % 2 ^ i ≤ b.toNat % 2 ^ i := by
  have e : a.toNat = a.toNat &&& b.toNat := by rw [← BitVec.toNat_and, h]
  rw [e, Nat.and_mod_two_pow]
  exact Nat.and_le_right
theorem carry_le {a b a' b' : W64} (ha : sub1 a a') (hb : sub1 b b') (i : Nat) (h : BitVec.carry i a b false = true) : BitVec.carry i a' b' false = true := by
  unfold BitVec.carry at *
  have h1 := sub1_mod ha i
  have h2 := sub1_mod hb i
  simp at *
  omega
theorem add_between {l1 l2 h1 h2 x y : W64} (a1 : sub1 l1 x) (a2 : sub1 x h1) (b1 : sub1 l2 y) (b2 : sub1 y h2) {i : Nat} (hi : i < 64) (e1 : l1.getLsbD i = h1.getLsbD i) (e2 : l2.getLsbD i = h2.getLsbD i)
    (e : (l1 + l2).getLsbD i = (h1 + h2).getLsbD i) : (x + y).getLsbD i = (l1 + l2).getLsbD i := by
  have ex : x.getLsbD i = l1.getLsbD i := by
    have p := sub1_bit a1 i
    have q := sub1_bit a2 i
    rw [← e1] at q
    cases hx : x.getLsbD i <;> cases hl : l1.getLsbD i <;> simp_all
  have ey : y.getLsbD i = l2.getLsbD i := by
    have p := sub1_bit b1 i
    have q := sub1_bit b2 i
    rw [← e2] at q
    cases hx : y.getLsbD i <;> cases hl : l2.getLsbD i <;> simp_all
  rw [BitVec.getLsbD_add hi, BitVec.getLsbD_add hi, ← e1, ← e2] at e
  rw [BitVec.getLsbD_add hi, BitVec.getLsbD_add hi, ex, ey]
  have c1 := carry_le a1 b1 i
  have c2 := carry_le a2 b2 i
  cases p : BitVec.carry i l1 l2 false <;> cases q : BitVec.carry i x y false <;> cases r : BitVec.carry i h1 h2 false <;> simp_all
theorem sub1_has {v m x : W64} (h : hasT v m x) : sub1 v x ∧ sub1 x (v ||| m) := by
  rw [hasT_iff] at h
  constructor <;> (apply sub1_of; intro i hi; have := h i hi)
  · intro hv; rw [hv] at this; simp at this; exact this.1
  · intro hx; rw [hx] at this; simp [← this]
theorem plus_mask {v m : W64} (h : okT v m) : v + m = v ||| m := BitVec.add_eq_or_of_and_eq_zero v m h
theorem sub1_refl (a : W64) : sub1 a a := by unfold sub1; simp
theorem sub1_or (a b : W64) : sub1 a (a ||| b) := by
  apply sub1_of; intro i hi h; simp [h]
theorem sub1_not {a b : W64} (h : sub1 a b) : sub1 (~~~b) (~~~a) := by
  apply sub1_of; intro i hi hb
  have := sub1_bit h i
  simp only [BitVec.getLsbD_not, hi, decide_true, Bool.true_and, Bool.not_eq_true'] at hb ⊢
  cases ha : a.getLsbD i
  · rfl
  · rw [this ha] at hb; cases hb
theorem has_add {av am bv bm x y : W64} (ha : okT av am) (hb : okT bv bm) (hx : hasT av am x) (hy : hasT bv bm y) : hasT (tAdd av am bv bm).1 (tAdd av am bv bm).2 (x + y) := by
  unfold tAdd
  apply has_of
  intro i hi hm
  simp only [BitVec.getLsbD_or, BitVec.getLsbD_xor, Bool.or_eq_false_iff, bne_eq_false_iff_eq] at hm
  obtain ⟨⟨h1, h2⟩, h3⟩ := hm
  have e : av + bv + am + bm = (av ||| am) + (bv ||| bm) := by
    rw [← plus_mask ha, ← plus_mask hb]
    ac_rfl
  rw [e] at h1
  exact add_between (sub1_has hx).1 (sub1_has hx).2 (sub1_has hy).1 (sub1_has hy).2 hi (by simp [h2]) (by simp [h3]) h1
theorem sub_not (x y : W64) : x - y = ~~~(~~~x + y) := by
  apply BitVec.eq_of_toNat_eq
  have hx := x.isLt
  have hy := y.isLt
  rw [BitVec.toNat_sub, BitVec.toNat_not, BitVec.toNat_add, BitVec.toNat_not]
  omega
theorem has_sub {av am bv bm x y : W64} (ha : okT av am) (hb : okT bv bm) (hx : hasT av am x) (hy : hasT bv bm y) : hasT (tSub av am bv bm).1 (tSub av am bv bm).2 (x - y) := by
  unfold tSub
  apply has_of
  intro i hi hm
  simp only [BitVec.getLsbD_or, BitVec.getLsbD_xor, Bool.or_eq_false_iff, bne_eq_false_iff_eq] at hm
  obtain ⟨⟨h1, h2⟩, h3⟩ := hm
  have e1 : av - bv + am = ~~~(~~~(av ||| am) + bv) := by
    rw [← sub_not, ← plus_mask ha]
    rw [BitVec.sub_eq_add_neg, BitVec.sub_eq_add_neg]; ac_rfl
  have e2 : av - bv - bm = ~~~(~~~av + (bv ||| bm)) := by
    rw [← sub_not, ← plus_mask hb]
    rw [BitVec.sub_eq_add_neg, BitVec.sub_eq_add_neg, BitVec.sub_eq_add_neg, BitVec.neg_add, BitVec.sub_eq_add_neg]; ac_rfl
  rw [e1, e2] at h1
  simp only [BitVec.getLsbD_not, hi, decide_true, Bool.true_and] at h1
  have h1' : (~~~(av ||| am) + bv).getLsbD i = (~~~av + (bv ||| bm)).getLsbD i := by
    cases p : (~~~(av ||| am) + bv).getLsbD i <;> cases q : (~~~av + (bv ||| bm)).getLsbD i <;> simp_all
  have hax := sub1_has hx
  have hby := sub1_has hy
  have k1 := add_between (sub1_not hax.2) (sub1_not hax.1) hby.1 hby.2 hi (by simp [h2]) (by simp [h3]) h1'
  have k2 := add_between (sub1_not (sub1_or av am)) (sub1_refl (~~~av)) (sub1_refl bv) (sub1_or bv bm) hi (by simp [h2]) (by simp [h3]) h1'
  rw [sub_not x y, sub_not av bv, BitVec.getLsbD_not, BitVec.getLsbD_not, k1, k2]
theorem has_and {av am bv bm x y : W64} (hx : hasT av am x) (hy : hasT bv bm y) : hasT (tAnd av am bv bm).1 (tAnd av am bv bm).2 (x &&& y) := by
  rw [hasT_iff] at hx hy
  unfold tAnd
  apply has_of
  intro i hi hm
  have h1 := hx i hi
  have h2 := hy i hi
  simp only [BitVec.getLsbD_and, BitVec.getLsbD_or, BitVec.getLsbD_not, hi, decide_true, Bool.true_and] at hm ⊢
  revert h1 h2 hm
  cases x.getLsbD i <;> cases y.getLsbD i <;> cases av.getLsbD i <;> cases bv.getLsbD i <;> cases am.getLsbD i <;> cases bm.getLsbD i <;> simp
theorem has_or {av am bv bm x y : W64} (hx : hasT av am x) (hy : hasT bv bm y) : hasT (tOr av am bv bm).1 (tOr av am bv bm).2 (x ||| y) := by
  rw [hasT_iff] at hx hy
  unfold tOr
  apply has_of
  intro i hi hm
  have h1 := hx i hi
  have h2 := hy i hi
  simp only [BitVec.getLsbD_and, BitVec.getLsbD_or, BitVec.getLsbD_not, hi, decide_true, Bool.true_and] at hm ⊢
  revert h1 h2 hm
  cases x.getLsbD i <;> cases y.getLsbD i <;> cases av.getLsbD i <;> cases bv.getLsbD i <;> cases am.getLsbD i <;> cases bm.getLsbD i <;> simp
theorem has_xor {av am bv bm x y : W64} (hx : hasT av am x) (hy : hasT bv bm y) : hasT (tXor av am bv bm).1 (tXor av am bv bm).2 (x ^^^ y) := by
  rw [hasT_iff] at hx hy
  unfold tXor
  apply has_of
  intro i hi hm
  have h1 := hx i hi
  have h2 := hy i hi
  simp only [BitVec.getLsbD_or, BitVec.getLsbD_xor] at hm ⊢
  revert h1 h2 hm
  cases x.getLsbD i <;> cases y.getLsbD i <;> cases av.getLsbD i <;> cases bv.getLsbD i <;> cases am.getLsbD i <;> cases bm.getLsbD i <;> simp
theorem has_eitherL {av am bv bm x : W64} (hx : hasT av am x) : hasT (tEither av am bv bm).1 (tEither av am bv bm).2 x := by
  rw [hasT_iff] at hx
  unfold tEither
  apply has_of
  intro i hi hm
  have h1 := hx i hi
  simp only [BitVec.getLsbD_or, BitVec.getLsbD_xor] at hm
  revert h1 hm
  cases x.getLsbD i <;> cases av.getLsbD i <;> cases bv.getLsbD i <;> cases am.getLsbD i <;> cases bm.getLsbD i <;> simp
theorem has_eitherR {av am bv bm x : W64} (hx : hasT bv bm x) : hasT (tEither av am bv bm).1 (tEither av am bv bm).2 x := by
  rw [hasT_iff] at hx
  unfold tEither
  apply has_of
  intro i hi hm
  have h1 := hx i hi
  simp only [BitVec.getLsbD_or, BitVec.getLsbD_xor] at hm
  revert h1 hm
  cases x.getLsbD i <;> cases av.getLsbD i <;> cases bv.getLsbD i <;> cases am.getLsbD i <;> cases bm.getLsbD i <;> simp
/-- What both have. -/
theorem both_some {av am bv bm x : W64} (hx : hasT av am x) (hy : hasT bv bm x) : (av ^^^ bv) &&& ~~~am &&& ~~~bm = 0#64 ∧ hasT (tOf (av ||| bv) (am &&& bm)).1 (tOf (av ||| bv) (am &&& bm)).2 x := by
  rw [hasT_iff] at hx hy
  constructor
  · apply BitVec.eq_of_getLsbD_eq
    intro i hi
    have h1 := hx i hi
    have h2 := hy i hi
    simp only [BitVec.getLsbD_and, BitVec.getLsbD_xor, BitVec.getLsbD_not, hi, decide_true, Bool.true_and]
    revert h1 h2
    cases x.getLsbD i <;> cases av.getLsbD i <;> cases bv.getLsbD i <;> cases am.getLsbD i <;> cases bm.getLsbD i <;> simp
  · apply has_of
    intro i hi hm
    have h1 := hx i hi
    have h2 := hy i hi
    simp only [BitVec.getLsbD_and, BitVec.getLsbD_or] at hm ⊢
    revert h1 h2 hm
    cases x.getLsbD i <;> cases av.getLsbD i <;> cases bv.getLsbD i <;> cases am.getLsbD i <;> cases bm.getLsbD i <;> simp
theorem has_lsh {v m x : W64} (h : hasT v m x) (k : Nat) : hasT (tLsh v m k).1 (tLsh v m k).2 (x <<< k) := by
  rw [hasT_iff] at h
  unfold tLsh
  apply has_of
  intro i hi hm
  simp only [BitVec.getLsbD_shiftLeft, hi, decide_true, Bool.true_and] at hm ⊢
  by_cases hk : i < k
  · simp [hk]
  · have h1 := h (i - k) (by omega)
    simp only [hk, decide_false, Bool.not_false, Bool.true_and] at hm ⊢
    rw [hm] at h1
    simpa using h1
theorem has_rsh {v m x : W64} (h : hasT v m x) (k : Nat) : hasT (tRsh v m k).1 (tRsh v m k).2 (x >>> k) := by
  rw [hasT_iff] at h
  unfold tRsh
  apply has_of
  intro i hi hm
  simp only [BitVec.getLsbD_ushiftRight] at hm ⊢
  by_cases hk : k + i < 64
  · have h1 := h (k + i) hk
    rw [hm] at h1
    simpa using h1
  · rw [BitVec.getLsbD_of_ge _ _ (by omega), BitVec.getLsbD_of_ge _ _ (by omega)]
theorem has_arsh {v m x : W64} (h : hasT v m x) (k : Nat) : hasT (tArsh v m k).1 (tArsh v m k).2 (x.sshiftRight k) := by
  rw [hasT_iff] at h
  unfold tArsh
  apply has_of
  intro i hi hm
  have hn : ¬ 64 ≤ i := by omega
  simp only [BitVec.getLsbD_sshiftRight, hn, decide_false, Bool.not_false, Bool.true_and] at hm ⊢
  by_cases hk : k + i < 64
  · have h1 := h (k + i) hk
    simp only [hk, if_true] at hm ⊢
    rw [hm] at h1
    simpa using h1
  · simp only [hk, if_false] at hm ⊢
    have h1 := h 63 (by omega)
    rw [BitVec.msb_eq_getLsbD_last] at hm ⊢
    rw [BitVec.msb_eq_getLsbD_last]
    simp only [Nat.add_one_sub_one] at hm ⊢
    rw [hm] at h1
    simpa using h1
theorem has_low {v m x : W64} (h : hasT v m x) (l : W64) : hasT (tOf (v &&& l) (m &&& l)).1 (tOf (v &&& l) (m &&& l)).2 (x &&& l) := by
  rw [hasT_iff] at h
  apply has_of
  intro i hi hm
  have h1 := h i hi
  simp only [BitVec.getLsbD_and] at hm ⊢
  revert h1 hm
  cases x.getLsbD i <;> cases v.getLsbD i <;> cases m.getLsbD i <;> cases l.getLsbD i <;> simp

/-! Products. -/
theorem bit_set (a : W64) (k : Nat) (hk : k < 64) : N (a &&& 1#64 <<< k) = 0 ↔ a.getLsbD k = false := by
  have e : N (a &&& 1#64 <<< k) = 0 ↔ a &&& 1#64 <<< k = 0#64 := by
    rw [show (0 : Int) = N (0#64) from rfl, N_eq_iff]
  rw [e]
  have tp : 1#64 <<< k = BitVec.twoPow 64 k := by rw [BitVec.twoPow_eq]
  rw [tp]
  constructor
  · intro h
    have := congrArg (fun z : W64 => z.getLsbD k) h
    simpa [BitVec.getLsbD_twoPow, hk] using this
  · intro h
    apply BitVec.eq_of_getLsbD_eq
    intro i hi
    simp only [BitVec.getLsbD_and, BitVec.getLsbD_twoPow, BitVec.getLsbD_zero]
    by_cases hki : k = i
    · subst hki; simp [h]
    · simp [hki]
/-- The lowest k bits. -/
def lowK (a : W64) (k : Nat) : W64 := BitVec.ofNat 64 (a.toNat % 2 ^ k)
theorem lowK_succ (a : W64) (k : Nat) (hk : k < 64) : lowK a (k + 1) = lowK a k + (if a.getLsbD k then 1#64 <<< k else 0#64) := by
  unfold lowK
  apply BitVec.eq_of_toNat_eq
  have hp : 2 ^ k < 2 ^ 64 := Nat.pow_lt_pow_right (by decide) hk
  have e : a.toNat % 2 ^ (k + 1) = a.toNat % 2 ^ k + 2 ^ k * (a.toNat / 2 ^ k % 2) := by
    rw [Nat.pow_succ, Nat.mod_mul]
  have hb : a.getLsbD k = decide (a.toNat / 2 ^ k % 2 = 1) := by
    rw [BitVec.getLsbD, Nat.testBit_eq_decide_div_mod_eq]
  have h1 : (1#64 <<< k).toNat = 2 ^ k := by
    rw [BitVec.toNat_shiftLeft, Nat.shiftLeft_eq, show (1#64).toNat = 1 from rfl, Nat.one_mul, Nat.mod_eq_of_lt hp]
  rw [hb, e]
  rcases Nat.mod_two_eq_zero_or_one (a.toNat / 2 ^ k) with h | h
  · rw [h]; simp
  · rw [h]; simp [h1]
theorem lowK_all (a : W64) : lowK a 64 = a := by
  unfold lowK
  rw [Nat.mod_eq_of_lt a.isLt]; simp
theorem lowK_zero (a : W64) : lowK a 0 = 0#64 := by
  unfold lowK; simp [Nat.mod_one]
theorem has_zero_of {m z : W64} (h : sub1 z m) : hasT (tOf 0#64 m).1 (tOf 0#64 m).2 z := by
  apply has_of
  intro i hi hm
  have := sub1_bit h i
  cases hz : z.getLsbD i
  · simp
  · rw [this hz] at hm; cases hm
theorem sub1_shl {a b : W64} (h : sub1 a b) (k : Nat) : sub1 (a <<< k) (b <<< k) := by
  apply sub1_of; intro i hi ha
  simp only [BitVec.getLsbD_shiftLeft, hi, decide_true, Bool.true_and, Bool.and_eq_true] at ha ⊢
  exact ⟨ha.1, sub1_bit h _ ha.2⟩
theorem ok_mulL (av am bv bm : W64) : ∀ k, okT (tMulL av am bv bm k).1 (tMulL av am bv bm k).2
  | 0 => by show okT 0#64 0#64; unfold okT; simp
  | k + 1 => by
    have ih := ok_mulL av am bv bm k
    rw [tMulL]
    split
    · split
      · exact ih
      · exact ok_of _ _
    · exact ok_of _ _
theorem ok_sub {v m z : W64} (h : okT v m) (hz : sub1 z m) : okT v z := by
  rw [okT_iff] at *
  intro i hi
  have h1 := h i hi
  have h2 := sub1_bit hz i
  cases hv : v.getLsbD i <;> cases hx : z.getLsbD i <;> simp_all
theorem sub1_plus {v m z : W64} (h : okT v m) (hz : sub1 z m) : sub1 (v + z) (v ||| m) := by
  rw [plus_mask (ok_sub h hz)]
  apply sub1_of
  intro i hi hx
  have h2 := sub1_bit hz i
  simp only [BitVec.getLsbD_or, Bool.or_eq_true] at hx ⊢
  rcases hx with hx | hx
  · exact .inl hx
  · exact .inr (h2 hx)
theorem has_parts {v m x : W64} (h : hasT v m x) (ho : okT v m) : ∃ z, sub1 z m ∧ x = v + z := by
  refine ⟨x &&& m, ?_, ?_⟩
  · unfold sub1; rw [BitVec.and_assoc, BitVec.and_self]
  · have hs : sub1 (x &&& m) m := by unfold sub1; rw [BitVec.and_assoc, BitVec.and_self]
    rw [plus_mask (ok_sub ho hs)]
    rw [hasT_iff] at h
    apply BitVec.eq_of_getLsbD_eq
    intro i hi
    have := h i hi
    simp only [BitVec.getLsbD_or, BitVec.getLsbD_and]
    revert this
    cases x.getLsbD i <;> cases v.getLsbD i <;> cases m.getLsbD i <;> simp
theorem has_mulL {av am bv bm xa yb : W64} (ha : okT av am) (hb : okT bv bm) (hxa : sub1 xa am) (hyb : sub1 yb bm) : ∀ k, k ≤ 64 →
    hasT (tMulL av am bv bm k).1 (tMulL av am bv bm k).2 (lowK av k * yb + lowK xa k * (bv + yb))
  | 0, _ => by show hasT 0#64 0#64 _; rw [lowK_zero, lowK_zero]; unfold hasT; simp
  | k + 1, hk => by
    have ih := has_mulL ha hb hxa hyb k (by omega)
    have hok := ok_mulL av am bv bm k
    have hk' : k < 64 := by omega
    rw [tMulL, lowK_succ av k hk', lowK_succ xa k hk']
    have hdis : av.getLsbD k = true → xa.getLsbD k = false := fun h => by
      have h1 := (okT_iff av am).1 ha k hk'
      have h2 := sub1_bit hxa k
      cases hx : xa.getLsbD k
      · rfl
      · rw [h, h2 hx] at h1; cases h1
    split
    · rename_i hA
      have hA' := (bit_set av k hk').1 hA
      split
      · rename_i hB
        have hB' := (bit_set am k hk').1 hB
        have hx : xa.getLsbD k = false := by
          have h2 := sub1_bit hxa k
          cases hx : xa.getLsbD k
          · rfl
          · rw [h2 hx] at hB'; cases hB'
        rw [hA', hx]
        simpa using ih
      · rw [hA']
        have e : (lowK av k + if false = true then 1#64 <<< k else 0#64) * yb + (lowK xa k + if xa.getLsbD k = true then 1#64 <<< k else 0#64) * (bv + yb) = (lowK av k * yb + lowK xa k * (bv + yb)) + (if xa.getLsbD k = true then (bv + yb) <<< k else 0#64) := by
          simp only [Bool.false_eq_true, if_false, BitVec.add_zero]
          split
          · rw [BitVec.add_mul, BitVec.mul_comm (1#64 <<< k), mul_shl1]
            generalize lowK av k * yb = p
            generalize lowK xa k * (bv + yb) = q
            ac_rfl
          · simp
        rw [e]
        refine has_add hok (ok_of _ _) ih (has_zero_of ?_)
        split
        · exact sub1_shl (sub1_plus hb hyb) k
        · unfold sub1; simp
    · rename_i hA
      have hA' : av.getLsbD k = true := by
        cases h : av.getLsbD k
        · exact absurd ((bit_set av k hk').2 h) hA
        · rfl
      rw [hA', hdis hA']
      have e : (lowK av k + if true = true then 1#64 <<< k else 0#64) * yb + (lowK xa k + if false = true then 1#64 <<< k else 0#64) * (bv + yb) = (lowK av k * yb + lowK xa k * (bv + yb)) + yb <<< k := by
        simp only [Bool.false_eq_true, if_false, BitVec.add_zero, if_true]
        rw [BitVec.add_mul, BitVec.mul_comm (1#64 <<< k), mul_shl1]
        generalize lowK av k * yb = p
        generalize lowK xa k * (bv + yb) = q
        generalize yb <<< k = r
        ac_rfl
      rw [e]
      exact has_add hok (ok_of _ _) ih (has_zero_of (sub1_shl hyb k))
theorem has_mul {av am bv bm x y : W64} (ha : okT av am) (hb : okT bv bm) (hx : hasT av am x) (hy : hasT bv bm y) : hasT (tMul av am bv bm).1 (tMul av am bv bm).2 (x * y) := by
  obtain ⟨xa, h1, rfl⟩ := has_parts hx ha
  obtain ⟨yb, h2, rfl⟩ := has_parts hy hb
  have h := has_mulL ha hb h1 h2 64 (by omega)
  rw [lowK_all, lowK_all] at h
  have e : (av + xa) * (bv + yb) = av * bv + (av * yb + xa * (bv + yb)) := by
    rw [BitVec.add_mul, BitVec.mul_add (x := av)]
    generalize av * bv = p
    generalize av * yb = q
    ac_rfl
  rw [e]
  unfold tMul
  refine has_add ?_ (ok_mulL _ _ _ _ 64) ?_ h
  · unfold okT; exact BitVec.and_zero
  · unfold hasT; rw [BitVec.not_zero]; exact BitVec.and_allOnes

/-! Range. -/
theorem bitLen_lt (x : Nat) (h : x < 2 ^ 64) : x < 2 ^ Lib.bitLen x := by
  by_cases h0 : x = 0
  · subst h0; exact Nat.two_pow_pos _
  · exact (Lib.bitLenAux_bounds 64 x h h0).2.2
theorem ones_bit (n i : Nat) (hn : n ≤ 64) (hi : i < 64) : (1#64 <<< n - 1#64).getLsbD i = decide (i < n) := by
  have e : 1#64 <<< n - 1#64 = BitVec.ofNat 64 (2 ^ n - 1) := by
    apply BitVec.eq_of_toNat_eq
    rw [BitVec.toNat_sub, BitVec.toNat_shiftLeft, Nat.shiftLeft_eq, BitVec.toNat_ofNat]
    show (2 ^ 64 - 1 + 1 * 2 ^ n % 2 ^ 64) % 2 ^ 64 = _
    have hp := Nat.two_pow_pos n
    rw [Nat.one_mul]
    by_cases h : n = 64
    · subst h; decide
    · have hp2 : 2 ^ n < 2 ^ 64 := Nat.pow_lt_pow_right (by decide) (by omega)
      rw [Nat.mod_eq_of_lt hp2, BitVec.toNat_ofNat]
      generalize 2 ^ n = q at *
      omega
  rw [e, BitVec.getLsbD_ofNat, Nat.testBit_two_pow_sub_one]
  simp [hi]
theorem has_range {lo hi v : W64} (h1 : N lo ≤ N v) (h2 : N v ≤ N hi) : hasT (tRange lo hi).1 (tRange lo hi).2 v := by
  have hl : (lo.toNat ^^^ hi.toNat) < 2 ^ 64 := Nat.xor_lt_two_pow lo.isLt hi.isLt
  have hn : Lib.bitLen (lo.toNat ^^^ hi.toNat) ≤ 64 := Lib.bitLen_le _ 64 (by omega) hl
  have hb := bitLen_lt _ hl
  unfold tRange
  rw [Nat.min_eq_left hn]
  generalize Lib.bitLen (lo.toNat ^^^ hi.toNat) = n at *
  apply has_of
  intro i hi' hm
  rw [ones_bit n i hn hi', decide_eq_false_iff_not] at hm
  have e : lo.toNat / 2 ^ n = hi.toNat / 2 ^ n := by
    have h4 : (lo.toNat ^^^ hi.toNat) >>> n = 0 := by rw [Nat.shiftRight_eq_div_pow, Nat.div_eq_of_lt hb]
    rw [Nat.shiftRight_xor_distrib] at h4
    have h5 : lo.toNat >>> n = hi.toNat >>> n := by
      have h6 := congrArg (fun z => z ^^^ (hi.toNat >>> n)) h4
      simp only [Nat.xor_assoc, Nat.xor_self, Nat.xor_zero, Nat.zero_xor] at h6
      exact h6
    rw [Nat.shiftRight_eq_div_pow, Nat.shiftRight_eq_div_pow] at h5
    exact h5
  have hv : v.toNat / 2 ^ n = lo.toNat / 2 ^ n := by
    unfold N at h1 h2
    have a1 : lo.toNat / 2 ^ n ≤ v.toNat / 2 ^ n := Nat.div_le_div_right (by omega)
    have a2 : v.toNat / 2 ^ n ≤ hi.toNat / 2 ^ n := Nat.div_le_div_right (by omega)
    omega
  have t : ∀ z : W64, z.getLsbD i = (z.toNat / 2 ^ n).testBit (i - n) := fun z => by
    rw [BitVec.getLsbD, ← Nat.shiftRight_eq_div_pow, Nat.testBit_shiftRight]
    congr 1; omega
  rw [t v, t lo, hv]
end Go.Proofs.Ytdlgebfaijlaoaa
end
section
namespace Go.Proofs.Ytdlgebfaijlaoaa.Sc
open Go.Proofs.Ytdlgebfaijlaoaa
open Go.Proofs.Ytdlgebfaijlaoaa.Spn (Sp umax umin smax smin plusS minusS emptyS okS tightS anyS settledS commonS minW maxW constS uptoS halfW SHas SValid SIn two_forms N_umax N_umin Z_smax Z_smin tight_has tight_in tight_cases plus_in minus_in empty_iff N0 N1 Z0 Nm1 Zm1 any_has const_has Z_range)

abbrev Tm := BitVec 64 × BitVec 64
structure Nm where
  t : Tm
  s : Sp
def NHas (a : Nm) (v : W64) : Prop := hasT a.t.1 a.t.2 v ∧ SHas a.s v

/-! The first and the last number of a T, from one on, up to one. -/
def bitW (k : Nat) : W64 := 1#64 <<< k
def firstL (m lo : W64) : Nat → W64 → W64
  | 0, v => v
  | k + 1, v => firstL m lo k (if m.getLsbD k then (if N lo ≤ N (v &&& ~~~bitW k) then v &&& ~~~bitW k else v) else v)
def firstOk (t : Tm) (lo : W64) : Bool := !decide (N (t.1 ||| t.2) < N lo)
def firstV (t : Tm) (lo : W64) : W64 := if N (t.1 ||| t.2) < N lo then 0#64 else firstL t.2 lo 64 (t.1 ||| t.2)
def lastL (m hi : W64) : Nat → W64 → W64
  | 0, v => v
  | k + 1, v => lastL m hi k (if m.getLsbD k then (if N (v ||| bitW k) ≤ N hi then v ||| bitW k else v) else v)
def lastOk (t : Tm) (hi : W64) : Bool := !decide (N hi < N t.1)
def lastV (t : Tm) (hi : W64) : W64 := if N hi < N t.1 then 0#64 else lastL t.2 hi 64 t.1

theorem toNat_bitW {k : Nat} (hk : k < 64) : (bitW k).toNat = 2 ^ k := by
  unfold bitW
  rw [BitVec.toNat_shiftLeft, Nat.shiftLeft_eq, show (1#64).toNat = 1 from rfl, Nat.one_mul, Nat.mod_eq_of_lt (Nat.pow_lt_pow_right (by decide) hk)]
theorem bitW_two {k : Nat} : bitW k = BitVec.twoPow 64 k := by unfold bitW; rw [BitVec.twoPow_eq]
theorem bit_mod (v : W64) (k : Nat) : v.getLsbD k = decide (v.toNat / 2 ^ k % 2 = 1) := by
  rw [BitVec.getLsbD, Nat.testBit_eq_decide_div_mod_eq]
theorem clear_set {v : W64} {k : Nat} (hk : k < 64) (h : v.getLsbD k = true) : (v &&& ~~~bitW k).toNat + 2 ^ k = v.toNat := by
  have e : v = (v &&& ~~~bitW k) + bitW k := by
    rw [BitVec.add_eq_or_of_and_eq_zero]
    · apply BitVec.eq_of_getLsbD_eq
      intro i hi
      rw [bitW_two]
      simp only [BitVec.getLsbD_or, BitVec.getLsbD_and, BitVec.getLsbD_not, BitVec.getLsbD_twoPow, hi, decide_true, Bool.true_and]
      by_cases e : k = i
      · subst e; simp [h, hk]
      · simp [e]
    · apply BitVec.eq_of_getLsbD_eq
      intro i hi
      rw [bitW_two]
      simp only [BitVec.getLsbD_and, BitVec.getLsbD_not, BitVec.getLsbD_twoPow, BitVec.getLsbD_zero, hi, decide_true, Bool.true_and]
      by_cases e : k = i <;> simp [e]
  have h2 := congrArg BitVec.toNat e
  rw [BitVec.toNat_add, toNat_bitW hk] at h2
  have h3 : (v &&& ~~~bitW k).toNat ≤ v.toNat := by rw [BitVec.toNat_and]; exact Nat.and_le_left
  have h4 := v.isLt
  have h5 : 2 ^ k < 2 ^ 64 := Nat.pow_lt_pow_right (by decide) hk
  have h6 : 2 ^ k ≤ v.toNat := by
    rw [bit_mod] at h
    have h7 := of_decide_eq_true h
    refine Nat.le_of_not_lt fun hlt => ?_
    rw [Nat.div_eq_of_lt hlt] at h7
    cases h7
  generalize (v &&& ~~~bitW k).toNat = c at *
  generalize 2 ^ k = P at *
  by_cases hc : c + P < 2 ^ 64
  · rw [Nat.mod_eq_of_lt hc] at h2; omega
  · omega
theorem set_clear {v : W64} {k : Nat} (hk : k < 64) (h : v.getLsbD k = false) : (v ||| bitW k).toNat = v.toNat + 2 ^ k := by
  have h1 : (v ||| bitW k).getLsbD k = true := by rw [bitW_two]; simp [hk]
  have h2 := clear_set hk h1
  have h3 : (v ||| bitW k) &&& ~~~bitW k = v := by
    apply BitVec.eq_of_getLsbD_eq
    intro i hi
    rw [bitW_two]
    simp only [BitVec.getLsbD_or, BitVec.getLsbD_and, BitVec.getLsbD_not, BitVec.getLsbD_twoPow, hi, decide_true, Bool.true_and]
    by_cases e : k = i
    · subst e; simp [h]
    · simp [e]
  rw [h3] at h2
  exact h2.symm
/-- A number in three parts: above a bit, the bit, and below. -/
theorem parts3 (v : Nat) (k : Nat) : v = 2 ^ k * (2 * (v / 2 ^ (k + 1)) + v / 2 ^ k % 2) + v % 2 ^ k ∧ v / 2 ^ k = 2 * (v / 2 ^ (k + 1)) + v / 2 ^ k % 2 ∧ v % 2 ^ (k + 1) = v % 2 ^ k + 2 ^ k * (v / 2 ^ k % 2) ∧ v % 2 ^ k < 2 ^ k ∧ v / 2 ^ k % 2 < 2 := by
  have e : v / 2 ^ (k + 1) = v / 2 ^ k / 2 := by rw [Nat.pow_succ, Nat.div_div_eq_div_mul]
  have h1 : v / 2 ^ k = 2 * (v / 2 ^ (k + 1)) + v / 2 ^ k % 2 := by rw [e]; omega
  refine ⟨?_, h1, by rw [Nat.pow_succ, Nat.mod_mul], Nat.mod_lt _ (Nat.two_pow_pos k), Nat.mod_lt _ (by decide)⟩
  rw [← h1]
  exact (Nat.div_add_mod v (2 ^ k)).symm
theorem mul_cases {P a b r s : Nat} (hr : r < P) (hs : s < P) (ha : a < 2) (hb : b < 2) (h : r + P * a = s + P * b) : a = b ∧ r = s := by
  have h1 : a = 0 ∨ a = 1 := by omega
  have h2 : b = 0 ∨ b = 1 := by omega
  rcases h1 with rfl | rfl <;> rcases h2 with rfl | rfl <;> simp at h ⊢ <;> omega
theorem first_step {u x v lo : Nat} {k : Nat} {mk : Bool} (c : Nat) (hlo : lo ≤ x)
    (hu : mk = true → u / 2 ^ k % 2 = 1) (hx : mk = false → x / 2 ^ k % 2 = u / 2 ^ k % 2) (hs : x % 2 ^ k ≤ u % 2 ^ k) (hc : v / 2 ^ k % 2 = 1 → c + 2 ^ k = v)
    (i1 : lo ≤ v) (i2 : v / 2 ^ (k + 1) ≤ x / 2 ^ (k + 1)) (i3 : v % 2 ^ (k + 1) = u % 2 ^ (k + 1)) :
    lo ≤ (if mk then (if lo ≤ c then c else v) else v) ∧ (if mk then (if lo ≤ c then c else v) else v) / 2 ^ k ≤ x / 2 ^ k ∧ (if mk then (if lo ≤ c then c else v) else v) % 2 ^ k = u % 2 ^ k := by
  obtain ⟨v1, v2, v3, v4, v5⟩ := parts3 v k
  obtain ⟨u1, u2, u3, u4, u5⟩ := parts3 u k
  obtain ⟨x1, x2, x3, x4, x5⟩ := parts3 x k
  rw [v3, u3] at i3
  obtain ⟨e1, e2⟩ := mul_cases v4 u4 v5 u5 i3
  cases mk with
  | false =>
    simp only [Bool.false_eq_true, if_false]
    refine ⟨i1, ?_, e2⟩
    have := hx rfl
    omega
  | true =>
    have hb := hu rfl
    have hc' := hc (by omega)
    simp only [if_true]
    have hP : 0 < 2 ^ k := Nat.two_pow_pos k
    have cdiv : c / 2 ^ k = 2 * (v / 2 ^ (k + 1)) := by
      have : c = 2 ^ k * (2 * (v / 2 ^ (k + 1))) + v % 2 ^ k := by
        have h5 : v / 2 ^ k % 2 = 1 := by omega
        rw [h5] at v1
        rw [Nat.mul_add, Nat.mul_one] at v1
        omega
      rw [this, Nat.mul_add_div hP, Nat.div_eq_of_lt v4]; omega
    have cmod : c % 2 ^ k = v % 2 ^ k := by rw [← hc']; simp
    split
    · refine ⟨by assumption, ?_, by rw [cmod]; exact e2⟩
      rw [cdiv]; omega
    · rename_i hlc
      refine ⟨i1, ?_, e2⟩
      rcases Nat.lt_or_ge (v / 2 ^ (k + 1)) (x / 2 ^ (k + 1)) with h | h
      · omega
      · have hVX : v / 2 ^ (k + 1) = x / 2 ^ (k + 1) := by omega
        by_cases hxk : x / 2 ^ k % 2 = 1
        · omega
        · exfalso
          have hx0 : x / 2 ^ k % 2 = 0 := by omega
          have h5 : v / 2 ^ k % 2 = 1 := by omega
          rw [hx0, ← hVX, Nat.add_zero] at x1
          rw [h5, Nat.mul_add, Nat.mul_one] at v1
          generalize 2 ^ k * (2 * (v / 2 ^ (k + 1))) = A at *
          omega
theorem last_step {u x v hi : Nat} {k : Nat} {mk : Bool} (c : Nat) (hhi : x ≤ hi)
    (hu : mk = true → u / 2 ^ k % 2 = 0) (hx : mk = false → x / 2 ^ k % 2 = u / 2 ^ k % 2) (hs : u % 2 ^ k ≤ x % 2 ^ k) (hc : v / 2 ^ k % 2 = 0 → c = v + 2 ^ k)
    (i1 : v ≤ hi) (i2 : x / 2 ^ (k + 1) ≤ v / 2 ^ (k + 1)) (i3 : v % 2 ^ (k + 1) = u % 2 ^ (k + 1)) :
    (if mk then (if c ≤ hi then c else v) else v) ≤ hi ∧ x / 2 ^ k ≤ (if mk then (if c ≤ hi then c else v) else v) / 2 ^ k ∧ (if mk then (if c ≤ hi then c else v) else v) % 2 ^ k = u % 2 ^ k := by
  obtain ⟨v1, v2, v3, v4, v5⟩ := parts3 v k
  obtain ⟨u1, u2, u3, u4, u5⟩ := parts3 u k
  obtain ⟨x1, x2, x3, x4, x5⟩ := parts3 x k
  rw [v3, u3] at i3
  obtain ⟨e1, e2⟩ := mul_cases v4 u4 v5 u5 i3
  cases mk with
  | false =>
    simp only [Bool.false_eq_true, if_false]
    refine ⟨i1, ?_, e2⟩
    have := hx rfl
    omega
  | true =>
    have hb := hu rfl
    have hc' := hc (by omega)
    simp only [if_true]
    have hP : 0 < 2 ^ k := Nat.two_pow_pos k
    have cdiv : c / 2 ^ k = v / 2 ^ k + 1 := by rw [hc', Nat.add_div_right _ hP]
    have cmod : c % 2 ^ k = v % 2 ^ k := by rw [hc']; simp
    split
    · refine ⟨by assumption, ?_, by rw [cmod]; exact e2⟩
      rw [cdiv]; omega
    · rename_i hlc
      refine ⟨i1, ?_, e2⟩
      rcases Nat.lt_or_ge (x / 2 ^ (k + 1)) (v / 2 ^ (k + 1)) with h | h
      · omega
      · have hVX : v / 2 ^ (k + 1) = x / 2 ^ (k + 1) := by omega
        by_cases hxk : x / 2 ^ k % 2 = 0
        · omega
        · exfalso
          have hx1 : x / 2 ^ k % 2 = 1 := by omega
          have h5 : v / 2 ^ k % 2 = 0 := by omega
          rw [hx1, ← hVX, Nat.mul_add, Nat.mul_one] at x1
          rw [h5, Nat.add_zero] at v1
          generalize 2 ^ k * (2 * (v / 2 ^ (k + 1))) = A at *
          omega
theorem toNat_first (m lo v : W64) (k : Nat) : (if m.getLsbD k then (if N lo ≤ N (v &&& ~~~bitW k) then v &&& ~~~bitW k else v) else v).toNat = if m.getLsbD k then (if lo.toNat ≤ (v &&& ~~~bitW k).toNat then (v &&& ~~~bitW k).toNat else v.toNat) else v.toNat := by
  have e : (N lo ≤ N (v &&& ~~~bitW k)) ↔ lo.toNat ≤ (v &&& ~~~bitW k).toNat := by unfold N; omega
  split
  · by_cases h : lo.toNat ≤ (v &&& ~~~bitW k).toNat
    · rw [if_pos (e.2 h), if_pos h]
    · rw [if_neg (fun q => h (e.1 q)), if_neg h]
  · rfl
theorem toNat_last (m hi v : W64) (k : Nat) : (if m.getLsbD k then (if N (v ||| bitW k) ≤ N hi then v ||| bitW k else v) else v).toNat = if m.getLsbD k then (if (v ||| bitW k).toNat ≤ hi.toNat then (v ||| bitW k).toNat else v.toNat) else v.toNat := by
  have e : (N (v ||| bitW k) ≤ N hi) ↔ (v ||| bitW k).toNat ≤ hi.toNat := by unfold N; omega
  split
  · by_cases h : (v ||| bitW k).toNat ≤ hi.toNat
    · rw [if_pos (e.2 h), if_pos h]
    · rw [if_neg (fun q => h (e.1 q)), if_neg h]
  · rfl
theorem firstL_has {av m lo x : W64} (hx : hasT av m x) (hlo : lo.toNat ≤ x.toNat) : ∀ (k : Nat) (v : W64), k ≤ 64 → lo.toNat ≤ v.toNat → v.toNat / 2 ^ k ≤ x.toNat / 2 ^ k → v.toNat % 2 ^ k = (av ||| m).toNat % 2 ^ k →
    lo.toNat ≤ (firstL m lo k v).toNat ∧ (firstL m lo k v).toNat ≤ x.toNat
  | 0, v, _, i1, i2, _ => by simpa [firstL] using And.intro i1 i2
  | k + 1, v, hk, i1, i2, i3 => by
    unfold firstL
    have hb := hasT_iff av m x |>.1 hx k (by omega)
    have S := (sub1_has hx).2
    have st := first_step (u := (av ||| m).toNat) (x := x.toNat) (v := v.toNat) (lo := lo.toNat) (k := k) (mk := m.getLsbD k) (v &&& ~~~bitW k).toNat hlo
      (fun h => by
        have : (av ||| m).getLsbD k = true := by simp [h]
        rw [bit_mod] at this; exact of_decide_eq_true this)
      (fun h => by
        have e : x.getLsbD k = (av ||| m).getLsbD k := by rw [h] at hb; simp at hb; simp [h, hb]
        rw [bit_mod, bit_mod] at e
        have e2 := decide_eq_decide.1 e
        omega)
      (sub1_mod S k)
      (fun h => clear_set (by omega) (by rw [bit_mod]; exact decide_eq_true h)) i1 i2 i3
    rw [← toNat_first] at st
    exact firstL_has hx hlo k _ (by omega) st.1 st.2.1 st.2.2
theorem lastL_has {av m hi x : W64} (hx : hasT av m x) (hhi : x.toNat ≤ hi.toNat) : ∀ (k : Nat) (v : W64), k ≤ 64 → v.toNat ≤ hi.toNat → x.toNat / 2 ^ k ≤ v.toNat / 2 ^ k → v.toNat % 2 ^ k = av.toNat % 2 ^ k →
    (lastL m hi k v).toNat ≤ hi.toNat ∧ x.toNat ≤ (lastL m hi k v).toNat
  | 0, v, _, i1, i2, _ => by simpa [lastL] using And.intro i1 i2
  | k + 1, v, hk, i1, i2, i3 => by
    unfold lastL
    have hb := hasT_iff av m x |>.1 hx k (by omega)
    have S := (sub1_has hx).1
    have st := last_step (u := av.toNat) (x := x.toNat) (v := v.toNat) (hi := hi.toNat) (k := k) (mk := m.getLsbD k) (v ||| bitW k).toNat hhi
      (fun h => by
        have : av.getLsbD k = false := by rw [h] at hb; simpa using hb.symm
        rw [bit_mod] at this
        have := of_decide_eq_false this
        omega)
      (fun h => by
        have e : x.getLsbD k = av.getLsbD k := by rw [h] at hb; simpa using hb
        rw [bit_mod, bit_mod] at e
        have e2 := decide_eq_decide.1 e
        omega)
      (sub1_mod S k)
      (fun h => set_clear (by omega) (by rw [bit_mod]; exact decide_eq_false (by omega))) i1 i2 i3
    rw [← toNat_last] at st
    exact lastL_has hx hhi k _ (by omega) st.1 st.2.1 st.2.2
theorem firstL_ge {m lo : W64} : ∀ (k : Nat) (v : W64), N lo ≤ N v → N lo ≤ N (firstL m lo k v)
  | 0, _, h => h
  | k + 1, v, h => by
    unfold firstL
    apply firstL_ge k
    split
    · split <;> assumption
    · assumption
theorem lastL_le {m hi : W64} : ∀ (k : Nat) (v : W64), N v ≤ N hi → N (lastL m hi k v) ≤ N hi
  | 0, _, h => h
  | k + 1, v, h => by
    unfold lastL
    apply lastL_le k
    split
    · split <;> assumption
    · assumption
theorem first_ge {t : Tm} {lo : W64} (h : firstOk t lo = true) : N lo ≤ N (firstV t lo) := by
  unfold firstOk at h
  simp at h
  unfold firstV
  rw [if_neg (by omega)]
  exact firstL_ge 64 _ h
theorem last_le {t : Tm} {hi : W64} (h : lastOk t hi = true) : N (lastV t hi) ≤ N hi := by
  unfold lastOk at h
  simp at h
  unfold lastV
  rw [if_neg (by omega)]
  exact lastL_le 64 _ h
theorem first_has {t : Tm} {lo x : W64} (hx : hasT t.1 t.2 x) (h : N lo ≤ N x) : firstOk t lo = true ∧ N (firstV t lo) ≤ N x := by
  have hn : lo.toNat ≤ x.toNat := by unfold N at h; omega
  have hle : x.toNat ≤ (t.1 ||| t.2).toNat := by
    have := sub1_mod (sub1_has hx).2 64
    rwa [Nat.mod_eq_of_lt x.isLt, Nat.mod_eq_of_lt (t.1 ||| t.2).isLt] at this
  have hno : ¬ N (t.1 ||| t.2) < N lo := by unfold N; omega
  unfold firstOk firstV
  rw [if_neg hno]
  refine ⟨by simpa using hno, ?_⟩
  have := (firstL_has hx hn 64 (t.1 ||| t.2) (by omega) (by omega) (by rw [Nat.div_eq_of_lt x.isLt, Nat.div_eq_of_lt (t.1 ||| t.2).isLt]; omega) rfl).2
  unfold N; omega
theorem last_has {t : Tm} {hi x : W64} (hx : hasT t.1 t.2 x) (h : N x ≤ N hi) : lastOk t hi = true ∧ N x ≤ N (lastV t hi) := by
  have hn : x.toNat ≤ hi.toNat := by unfold N at h; omega
  have hle : t.1.toNat ≤ x.toNat := by
    have := sub1_mod (sub1_has hx).1 64
    rwa [Nat.mod_eq_of_lt x.isLt, Nat.mod_eq_of_lt t.1.isLt] at this
  have hno : ¬ N hi < N t.1 := by unfold N; omega
  unfold lastOk lastV
  rw [if_neg hno]
  refine ⟨by simpa using hno, ?_⟩
  have := (lastL_has hx hn 64 t.1 (by omega) (by omega) (by rw [Nat.div_eq_of_lt x.isLt, Nat.div_eq_of_lt t.1.isLt]; omega) rfl).2
  unfold N; omega
end Go.Proofs.Ytdlgebfaijlaoaa.Sc
end
section
namespace Go.Proofs.Ytdlgebfaijlaoaa
open Go.RowKit
open Sc (firstL firstOk firstV lastL lastOk lastV bitW)
attribute [local go_sem] u64_wrap BitVec.ofInt_add BitVec.ofInt_mul ofInt_sub' ofInt_N ofInt_Nw ofInt_pow ofInt_shl mul_shl1 u64_and u64_or u64_xor u64_andNot

theorem firstL_skip {m lo : W64} {b : Nat} (x : W64) : ∀ {k : Nat}, b ≤ k → m.toNat % 2 ^ k = m.toNat % 2 ^ b → firstL m lo k x = firstL m lo b x
  | 0, hb, _ => by
    obtain rfl : b = 0 := by omega
    rfl
  | k + 1, hb, h => by
    rcases Nat.eq_or_lt_of_le hb with rfl | hlt
    · rfl
    · obtain ⟨_, _, h3, _, h5⟩ := Sc.parts3 m.toNat k
      have h6 : m.toNat % 2 ^ b ≤ m.toNat % 2 ^ k := by
        have : m.toNat % 2 ^ k % 2 ^ b = m.toNat % 2 ^ b := Nat.mod_mod_of_dvd _ (Nat.pow_dvd_pow 2 (by omega))
        rw [← this]; exact Nat.mod_le _ _
      have h7 : 2 ^ k * (m.toNat / 2 ^ k % 2) = 0 := by omega
      have h8 : m.toNat / 2 ^ k % 2 = 0 := by
        rcases Nat.mul_eq_zero.1 h7 with h | h
        · have := Nat.two_pow_pos k; omega
        · exact h
      have h9 : m.getLsbD k = false := by rw [Sc.bit_mod, h8]; rfl
      rw [firstL, h9]
      exact firstL_skip x (by omega) (by rw [h7] at h3; omega)
theorem lastL_skip {m lo : W64} {b : Nat} (x : W64) : ∀ {k : Nat}, b ≤ k → m.toNat % 2 ^ k = m.toNat % 2 ^ b → lastL m lo k x = lastL m lo b x
  | 0, hb, _ => by
    obtain rfl : b = 0 := by omega
    rfl
  | k + 1, hb, h => by
    rcases Nat.eq_or_lt_of_le hb with rfl | hlt
    · rfl
    · obtain ⟨_, _, h3, _, h5⟩ := Sc.parts3 m.toNat k
      have h6 : m.toNat % 2 ^ b ≤ m.toNat % 2 ^ k := by
        have : m.toNat % 2 ^ k % 2 ^ b = m.toNat % 2 ^ b := Nat.mod_mod_of_dvd _ (Nat.pow_dvd_pow 2 (by omega))
        rw [← this]; exact Nat.mod_le _ _
      have h7 : 2 ^ k * (m.toNat / 2 ^ k % 2) = 0 := by omega
      have h8 : m.toNat / 2 ^ k % 2 = 0 := by
        rcases Nat.mul_eq_zero.1 h7 with h | h
        · have := Nat.two_pow_pos k; omega
        · exact h
      have h9 : m.getLsbD k = false := by rw [Sc.bit_mod, h8]; rfl
      rw [lastL, h9]
      exact lastL_skip x (by omega) (by rw [h7] at h3; omega)
theorem lowK_nat (m : W64) (k : Nat) : (lowK m k).toNat = m.toNat % 2 ^ k := by
  unfold lowK
  rw [BitVec.toNat_ofNat, Nat.mod_eq_of_lt (Nat.lt_of_le_of_lt (Nat.mod_le _ _) m.isLt)]
/-- The highest bit of what is left. -/
theorem top_bit (m : W64) (k : Nat) (hk : k ≤ 64) (h : ¬ lowK m k = 0#64) : ∃ j, j < k ∧ Lib.bitLen (lowK m k).toNat = j + 1 ∧ m.toNat % 2 ^ k = m.toNat % 2 ^ (j + 1) ∧ m.getLsbD j = true ∧ lowK m k &&& ~~~(1#64 <<< j) = lowK m j ∧ N (lowK m j) < N (lowK m k) := by
  have h0 : ¬ (lowK m k).toNat = 0 := fun e => h (BitVec.eq_of_toNat_eq (by rw [e]; rfl))
  obtain ⟨b1, b2, b3⟩ := Lib.bitLenAux_bounds 64 (lowK m k).toNat (lowK m k).isLt h0
  change 0 < Lib.bitLen (lowK m k).toNat at b1
  change 2 ^ (Lib.bitLen (lowK m k).toNat - 1) ≤ (lowK m k).toNat at b2
  change (lowK m k).toNat < 2 ^ Lib.bitLen (lowK m k).toNat at b3
  obtain ⟨j, hj⟩ : ∃ j, Lib.bitLen (lowK m k).toNat = j + 1 := ⟨_, (Nat.sub_add_cancel b1).symm⟩
  rw [hj] at b2 b3
  simp only [Nat.add_sub_cancel] at b2
  rw [lowK_nat] at b2 b3 h0
  have hlt : j < k := by
    have h1 := Nat.mod_lt m.toNat (Nat.two_pow_pos k)
    exact (Nat.pow_lt_pow_iff_right (by decide : 1 < 2)).1 (Nat.lt_of_le_of_lt b2 h1)
  have e1 : m.toNat % 2 ^ k = m.toNat % 2 ^ (j + 1) := by
    have : m.toNat % 2 ^ k % 2 ^ (j + 1) = m.toNat % 2 ^ (j + 1) := Nat.mod_mod_of_dvd _ (Nat.pow_dvd_pow 2 (by omega))
    rw [← this, Nat.mod_eq_of_lt b3]
  obtain ⟨_, _, h3, h4, h5⟩ := Sc.parts3 m.toNat j
  have e2 : m.toNat / 2 ^ j % 2 = 1 := by
    rcases (show m.toNat / 2 ^ j % 2 = 0 ∨ m.toNat / 2 ^ j % 2 = 1 by omega) with h | h
    · rw [h, Nat.mul_zero] at h3; omega
    · exact h
  rw [e2, Nat.mul_one] at h3
  have e3 : (lowK m k).getLsbD j = true := by
    rw [Sc.bit_mod, lowK_nat, e1]
    refine decide_eq_true ?_
    have : m.toNat % 2 ^ (j + 1) / 2 ^ j = 1 := by
      rw [h3, Nat.add_div_right _ (Nat.two_pow_pos j), Nat.div_eq_of_lt h4]
    rw [this]
  have e4 := Sc.clear_set (by omega) e3
  rw [lowK_nat] at e4
  have e5 : (lowK m k &&& ~~~(1#64 <<< j)) = lowK m j := by
    apply BitVec.eq_of_toNat_eq
    rw [lowK_nat]
    unfold Sc.bitW at e4
    omega
  refine ⟨j, hlt, hj, e1, by rw [Sc.bit_mod, e2]; rfl, e5, ?_⟩
  unfold N
  rw [lowK_nat, lowK_nat]
  have := Nat.two_pow_pos j
  omega
theorem N_zero_iff' (a : W64) : N a = 0 ↔ a = 0#64 := by
  rw [show (0 : Int) = N (0#64) from rfl, N_eq_iff]
set_option maxHeartbeats 1000000 in
theorem sc_first (av am lo : W64) (w : World) : Calls Try.prog 77 #[.agg #[.int .u64 (N av), .int .u64 (N am)], .int .u64 (N lo)] w fun e w' => e = .returned (.tuple #[.int .u64 (N (firstV (av, am) lo)), .bool (firstOk (av, am) lo)]) ∧ Grown w w' := by
  unfold firstV firstOk
  by_cases h : N (av ||| am) < N lo
  · rw [if_pos h]
    go_enter Try.func77, Try.ntmps77
    go_wp2
    go_returns
    exact ⟨by simp [h, show N (0#64) = 0 from rfl], by go_grown⟩
  · rw [if_neg h]
    go_enter Try.func77, Try.ntmps77
    go_wp2
    generalize hW : (w.alloc (.cells #[.int .u64 (N av), .int .u64 (N am)] 29)) = W0 at *
    have hg0 : Grown w W0 := by rw [← hW]; go_grown
    clear hW
    go_loopw [6, 7, 8] (fun v o b wr => ∃ (k : Nat) (x : W64), k ≤ 64 ∧ v = .int .u64 (N x) ∧ o = .int .u64 (N (lowK am k)) ∧ firstL am lo k x = firstL am lo 64 (av ||| am) ∧ Grown w wr) (fun _ o _ _ => (intOf o).toNat)
    case atStart => exact ⟨64, av ||| am, by omega, rfl, by rw [lowK_all], rfl, by first | assumption | exact Grown.drew hg0⟩
    case round =>
      obtain ⟨k, x, hk, rfl, rfl, hx, hg⟩ := hrel
      by_cases h0 : lowK am k = 0#64
      · have hz : N (lowK am k) = 0 := by rw [h0]; rfl
        have hm : am.toNat % 2 ^ k = am.toNat % 2 ^ 0 := by
          have := congrArg BitVec.toNat h0
          rw [lowK_nat] at this
          rw [this, Nat.pow_zero, Nat.mod_one]; rfl
        rw [firstL_skip x (Nat.zero_le k) hm] at hx
        change x = _ at hx
        rw [hz]
        go_wp2
        go_returns
        exact ⟨by simp [h, hx], by go_grown⟩
      · obtain ⟨j, hj, hl, hm, hb, ho, hlt⟩ := top_bit am k hk h0
        have hne : (N (lowK am k) != 0) = true := by
          rw [bne_iff_ne]
          exact fun e => h0 ((N_zero_iff' _).1 e)
        have HL : ∀ w : World, Calls Try.prog 98 #[.int .u64 (N (lowK am k))] w fun e w' => e = .returned (.int .i64 ((j : Int) + 1)) ∧ w' = w := by
          intro w
          refine (Try.bits_Len64 _ _ (N_nonneg _) (by have := N_lt (lowK am k); omega)).mono ?_
          rintro e w' ⟨rfl, rfl⟩
          refine ⟨?_, rfl⟩
          have : (N (lowK am k)).toNat = (lowK am k).toNat := by unfold N; simp
          rw [this, hl]; simp
        rw [firstL_skip x (by omega) hm] at hx
        rw [firstL, hb] at hx
        simp only [if_true] at hx
        unfold bitW at hx
        have hj64 : j < 64 := by omega
        by_cases hc : N lo ≤ N (x &&& ~~~(1#64 <<< j))
        · rw [if_pos hc] at hx
          have hd : decide (N (x &&& ~~~(1#64 <<< j)) ≥ N lo) = true := decide_eq_true hc
          go_wp2_with (go_at_call 98; refine (HL _).mono ?_; rintro e w' ⟨rfl, rfl⟩)
          go_roundw
          case rel => exact ⟨j, _, by omega, rfl, rfl, hx, by assumption⟩
          case measure => have n1 := N_nonneg (lowK am j); have n2 := N_nonneg (lowK am k); simp [intOf]; omega
        · rw [if_neg hc] at hx
          have hd : decide (N (x &&& ~~~(1#64 <<< j)) ≥ N lo) = false := decide_eq_false hc
          go_wp2_with (go_at_call 98; refine (HL _).mono ?_; rintro e w' ⟨rfl, rfl⟩)
          go_roundw
          case rel => exact ⟨j, _, by omega, rfl, rfl, hx, by assumption⟩
          case measure => have n1 := N_nonneg (lowK am j); have n2 := N_nonneg (lowK am k); simp [intOf]; omega
set_option maxHeartbeats 1000000 in
theorem sc_last (av am hi : W64) (w : World) : Calls Try.prog 78 #[.agg #[.int .u64 (N av), .int .u64 (N am)], .int .u64 (N hi)] w fun e w' => e = .returned (.tuple #[.int .u64 (N (lastV (av, am) hi)), .bool (lastOk (av, am) hi)]) ∧ Grown w w' := by
  unfold lastV lastOk
  by_cases h : N hi < N av
  · rw [if_pos h]
    go_enter Try.func78, Try.ntmps78
    go_wp2
    go_returns
    exact ⟨by simp [h, show N (0#64) = 0 from rfl], by go_grown⟩
  · rw [if_neg h]
    go_enter Try.func78, Try.ntmps78
    go_wp2
    generalize hW : (w.alloc (.cells #[.int .u64 (N av), .int .u64 (N am)] 29)) = W0 at *
    have hg0 : Grown w W0 := by rw [← hW]; go_grown
    clear hW
    go_loopw [6, 7, 8] (fun v o b wr => ∃ (k : Nat) (x : W64), k ≤ 64 ∧ v = .int .u64 (N x) ∧ o = .int .u64 (N (lowK am k)) ∧ lastL am hi k x = lastL am hi 64 av ∧ Grown w wr) (fun _ o _ _ => (intOf o).toNat)
    case atStart => exact ⟨64, av, by omega, rfl, by rw [lowK_all], rfl, by first | assumption | exact Grown.drew hg0⟩
    case round =>
      obtain ⟨k, x, hk, rfl, rfl, hx, hg⟩ := hrel
      by_cases h0 : lowK am k = 0#64
      · have hz : N (lowK am k) = 0 := by rw [h0]; rfl
        have hm : am.toNat % 2 ^ k = am.toNat % 2 ^ 0 := by
          have := congrArg BitVec.toNat h0
          rw [lowK_nat] at this
          rw [this, Nat.pow_zero, Nat.mod_one]; rfl
        rw [lastL_skip x (Nat.zero_le k) hm] at hx
        change x = _ at hx
        rw [hz]
        go_wp2
        go_returns
        exact ⟨by simp [h, hx], by go_grown⟩
      · obtain ⟨j, hj, hl, hm, hb, ho, hlt⟩ := top_bit am k hk h0
        have hne : (N (lowK am k) != 0) = true := by
          rw [bne_iff_ne]
          exact fun e => h0 ((N_zero_iff' _).1 e)
        have HL : ∀ w : World, Calls Try.prog 98 #[.int .u64 (N (lowK am k))] w fun e w' => e = .returned (.int .i64 ((j : Int) + 1)) ∧ w' = w := by
          intro w
          refine (Try.bits_Len64 _ _ (N_nonneg _) (by have := N_lt (lowK am k); omega)).mono ?_
          rintro e w' ⟨rfl, rfl⟩
          refine ⟨?_, rfl⟩
          have : (N (lowK am k)).toNat = (lowK am k).toNat := by unfold N; simp
          rw [this, hl]; simp
        rw [lastL_skip x (by omega) hm] at hx
        rw [lastL, hb] at hx
        simp only [if_true] at hx
        unfold bitW at hx
        have hj64 : j < 64 := by omega
        by_cases hc : N (x ||| 1#64 <<< j) ≤ N hi
        · rw [if_pos hc] at hx
          have hd : decide (N (x ||| 1#64 <<< j) ≤ N hi) = true := decide_eq_true hc
          go_wp2_with (go_at_call 98; refine (HL _).mono ?_; rintro e w' ⟨rfl, rfl⟩)
          go_roundw
          case rel => exact ⟨j, _, by omega, rfl, rfl, hx, by assumption⟩
          case measure => have n1 := N_nonneg (lowK am j); have n2 := N_nonneg (lowK am k); simp [intOf]; omega
        · rw [if_neg hc] at hx
          have hd : decide (N (x ||| 1#64 <<< j) ≤ N hi) = false := decide_eq_false hc
          go_wp2_with (go_at_call 98; refine (HL _).mono ?_; rintro e w' ⟨rfl, rfl⟩)
          go_roundw
          case rel => exact ⟨j, _, by omega, rfl, rfl, hx, by assumption⟩
          case measure => have n1 := N_nonneg (lowK am j); have n2 := N_nonneg (lowK am k); simp [intOf]; omega
end Go.Proofs.Ytdlgebfaijlaoaa
end
section
namespace Go.Proofs.Ytdlgebfaijlaoaa.Ex
open Go Go.RowKit
set_option maxRecDepth 1000000 in
theorem noNG : NoNG Try.prog := noNG_ok (by kernel_rfl)
end Go.Proofs.Ytdlgebfaijlaoaa.Ex
end
section
namespace Go.Proofs.Ytdlgebfaijlaoaa.Ex
open Go Go.RowKit
open Go.Proofs.Ytdlgebfaijlaoaa.Sc (firstV firstOk lastV lastOk)
structure RI where
  lo : Int
  hi : Int
  ok : Bool
def VR_ (r : RI) : Value := .agg ⟨[.int .u64 r.lo, .int .u64 r.hi, .bool r.ok]⟩
theorem rk {hk : Hook} (hhk : HookOk Try.prog hk) (orc : Orc) {g : FuncId} {args : List Value} {v : Value} {cs : Cs} (hf : (args.all flat && flat v) = true)
    (h : reckonGL Try.prog (guardH hk) orc 100000 300 [] g args = some (v, cs.map (·.1))) (h2 : reckonGR Try.prog (guardH hk) orc 100000 300 [] g args v = some (v, cs.map (·.2))) (he : cs.map (·.1) = cs.map (·.2)) (w : World) : Calls Try.prog g ⟨args⟩ w fun e w' => e = .returned v ∧ Gr w w' := by
  simp only [Bool.and_eq_true] at hf
  exact reckonS_ok noNG hhk orc 100000 300 [] hf.1 hf.2 h h2 he w (Laid.nil w)
theorem ret_eq {P : Program} {g : FuncId} {args : Array Value} {u v : Value} {w : World} (e : u = v) (h : Calls P g args w fun x w' => x = .returned v ∧ Gr w w') : Calls P g args w fun x w' => x = .returned u ∧ Gr w w' := e ▸ h
def oneI (a : NI) : Int := if a.t.m != 0 then 0 else a.t.v
def oneK (a : NI) : Bool := !(a.t.m != 0)
def oneOrc (b7 : Bool) : Orc := fun f t _ => if Nat.beq f 11 then (if Nat.beq t 7 then some (.bool b7) else none) else none
set_option maxHeartbeats 0 in
set_option maxRecDepth 1000000 in
theorem one_t (a : NI) (h : (a.t.m != 0) = true) (w : World) : Calls Try.prog 11 #[VN a] w fun e w' => e = .returned (.tuple ⟨[.int .u64 0, .bool false]⟩) ∧ Gr w w' :=
  rk hkBase_ok (oneOrc true) (cs := [(b2i (a.t.m != 0), 1)]) rfl (by kernel_rfl) (by kernel_rfl) (by rw [h]; rfl) w
set_option maxHeartbeats 0 in
set_option maxRecDepth 1000000 in
theorem one_f (a : NI) (h : (a.t.m != 0) = false) (w : World) : Calls Try.prog 11 #[VN a] w fun e w' => e = .returned (.tuple ⟨[.int .u64 a.t.v, .bool true]⟩) ∧ Gr w w' :=
  rk hkBase_ok (oneOrc false) (cs := [(b2i (a.t.m != 0), 0)]) rfl (by kernel_rfl) (by kernel_rfl) (by rw [h]; rfl) w
theorem c_one (a : NI) (w : World) : Calls Try.prog 11 #[VN a] w fun e w' => e = .returned (.tuple ⟨[.int .u64 (oneI a), .bool (oneK a)]⟩) ∧ Gr w w' := by
  cases h : (a.t.m != 0) with
  | true => exact ret_eq (by simp only [oneI, oneK, h]; rfl) (one_t a h w)
  | false => exact ret_eq (by simp only [oneI, oneK, h]; rfl) (one_f a h w)
def hk_one : Hook := fun f args _ =>
  if Nat.beq f 11 then
    match args with
    | [.agg ⟨[.int .u64 a0, .int .u64 a1, .int .u64 a2, .int .u64 a3, .int .i64 a4, .int .i64 a5]⟩] => some (.tuple ⟨[.int .u64 (oneI (⟨⟨a0, a1⟩, ⟨a2, a3, a4, a5⟩⟩ : NI)), .bool (oneK (⟨⟨a0, a1⟩, ⟨a2, a3, a4, a5⟩⟩ : NI))]⟩, [])
    | _ => none
  else none
theorem hk_one_ok : HookOk Try.prog hk_one := by
  intro f args h v cs hv hc wb k s w H
  unfold hk_one at hv
  split at hv
  · rename_i hf
    obtain rfl := Nat.eq_of_beq_eq_true hf
    split at hv
    · rename_i a0 a1 a2 a3 a4 a5
      cases hv
      exact c_one (⟨⟨a0, a1⟩, ⟨a2, a3, a4, a5⟩⟩ : NI) w
    · cases hv
  · cases hv
def firstI (t : TI) (l : Int) : Int := N (firstV (tB t) (B l))
def firstK (t : TI) (l : Int) : Bool := firstOk (tB t) (B l)
theorem c_first (t : TI) (l : Int) (hw : (tW t && uB l) = true) (w : World) : Calls Try.prog 77 #[VT t, .int .u64 l] w fun e w' => e = .returned (.tuple ⟨[.int .u64 (firstI t l), .bool (firstK t l)]⟩) ∧ Gr w w' := by
  simp only [Bool.and_eq_true] at hw
  obtain ⟨x, rfl⟩ := tW_eq hw.1
  obtain ⟨y, rfl⟩ := uB_eq hw.2
  simp only [firstI, firstK, tB_tN, B, ofInt_N]
  exact (sc_first x.1 x.2 y w).mono fun e w' h => ⟨h.1, Gr.of_grown h.2⟩
def hk_first : Hook := fun f args _ =>
  if Nat.beq f 77 then
    match args with
    | [.agg ⟨[.int .u64 a0, .int .u64 a1]⟩, .int .u64 b] => some (.tuple ⟨[.int .u64 (firstI (⟨a0, a1⟩ : TI) b), .bool (firstK (⟨a0, a1⟩ : TI) b)]⟩, [(b2i (tW (⟨a0, a1⟩ : TI) && uB b), 1)])
    | _ => none
  else none
theorem hk_first_ok : HookOk Try.prog hk_first := by
  intro f args h v cs hv hc wb k s w H
  unfold hk_first at hv
  split at hv
  · rename_i hf
    obtain rfl := Nat.eq_of_beq_eq_true hf
    split at hv
    · rename_i a0 a1 b
      cases hv
      have hw := pair1 hc rfl
      exact c_first (⟨a0, a1⟩ : TI) b hw w
    · cases hv
  · cases hv
def lastI (t : TI) (l : Int) : Int := N (lastV (tB t) (B l))
def lastK (t : TI) (l : Int) : Bool := lastOk (tB t) (B l)
theorem c_last (t : TI) (l : Int) (hw : (tW t && uB l) = true) (w : World) : Calls Try.prog 78 #[VT t, .int .u64 l] w fun e w' => e = .returned (.tuple ⟨[.int .u64 (lastI t l), .bool (lastK t l)]⟩) ∧ Gr w w' := by
  simp only [Bool.and_eq_true] at hw
  obtain ⟨x, rfl⟩ := tW_eq hw.1
  obtain ⟨y, rfl⟩ := uB_eq hw.2
  simp only [lastI, lastK, tB_tN, B, ofInt_N]
  exact (sc_last x.1 x.2 y w).mono fun e w' h => ⟨h.1, Gr.of_grown h.2⟩
def hk_last : Hook := fun f args _ =>
  if Nat.beq f 78 then
    match args with
    | [.agg ⟨[.int .u64 a0, .int .u64 a1]⟩, .int .u64 b] => some (.tuple ⟨[.int .u64 (lastI (⟨a0, a1⟩ : TI) b), .bool (lastK (⟨a0, a1⟩ : TI) b)]⟩, [(b2i (tW (⟨a0, a1⟩ : TI) && uB b), 1)])
    | _ => none
  else none
theorem hk_last_ok : HookOk Try.prog hk_last := by
  intro f args h v cs hv hc wb k s w H
  unfold hk_last at hv
  split at hv
  · rename_i hf
    obtain rfl := Nat.eq_of_beq_eq_true hf
    split at hv
    · rename_i a0 a1 b
      cases hv
      have hw := pair1 hc rfl
      exact c_last (⟨a0, a1⟩ : TI) b hw w
    · cases hv
  · cases hv
def halvesI (s : SI) : RI × RI :=
  if decide (s.slo ≥ 0) then (⟨s.lo, s.hi, true⟩, ⟨0, 0, false⟩)
  else if decide (s.shi < 0) then (⟨0, 0, false⟩, ⟨s.lo, s.hi, true⟩)
  else (⟨s.lo, IntKind.u64.wrap s.shi, true⟩, ⟨IntKind.u64.wrap s.slo, s.hi, true⟩)
def halvesOrc (b7 b17 : Bool) : Orc := fun f t _ => if Nat.beq f 46 then (if Nat.beq t 7 then some (.bool b7) else if Nat.beq t 17 then some (.bool b17) else none) else none
set_option maxHeartbeats 0 in
set_option maxRecDepth 1000000 in
theorem halves_1 (s : SI) (h : decide (s.slo ≥ 0) = true) (w : World) : Calls Try.prog 46 #[VS s] w fun e w' => e = .returned (.tuple ⟨[VR_ ⟨s.lo, s.hi, true⟩, VR_ ⟨0, 0, false⟩]⟩) ∧ Gr w w' :=
  rk hkBase_ok (halvesOrc true true) (cs := [(b2i (decide (s.slo ≥ 0)), 1)]) rfl (by kernel_rfl) (by kernel_rfl) (by rw [h]; rfl) w
set_option maxHeartbeats 0 in
set_option maxRecDepth 1000000 in
theorem halves_2 (s : SI) (h : decide (s.slo ≥ 0) = false) (h2 : decide (s.shi < 0) = true) (w : World) : Calls Try.prog 46 #[VS s] w fun e w' => e = .returned (.tuple ⟨[VR_ ⟨0, 0, false⟩, VR_ ⟨s.lo, s.hi, true⟩]⟩) ∧ Gr w w' :=
  rk hkBase_ok (halvesOrc false true) (cs := [(b2i (decide (s.slo ≥ 0)), 0), (b2i (decide (s.shi < 0)), 1)]) rfl (by kernel_rfl) (by kernel_rfl) (by rw [h, h2]; rfl) w
set_option maxHeartbeats 0 in
set_option maxRecDepth 1000000 in
theorem halves_3 (s : SI) (h : decide (s.slo ≥ 0) = false) (h2 : decide (s.shi < 0) = false) (w : World) : Calls Try.prog 46 #[VS s] w fun e w' => e = .returned (.tuple ⟨[VR_ ⟨s.lo, IntKind.u64.wrap s.shi, true⟩, VR_ ⟨IntKind.u64.wrap s.slo, s.hi, true⟩]⟩) ∧ Gr w w' :=
  rk hkBase_ok (halvesOrc false false) (cs := [(b2i (decide (s.slo ≥ 0)), 0), (b2i (decide (s.shi < 0)), 0)]) rfl (by kernel_rfl) (by kernel_rfl) (by rw [h, h2]; rfl) w
theorem c_halves (s : SI) (w : World) : Calls Try.prog 46 #[VS s] w fun e w' => e = .returned (.tuple ⟨[VR_ (halvesI s).1, VR_ (halvesI s).2]⟩) ∧ Gr w w' := by
  cases h : decide (s.slo ≥ 0) with
  | true => exact ret_eq (by simp only [halvesI, h]; rfl) (halves_1 s h w)
  | false =>
    cases h2 : decide (s.shi < 0) with
    | true => exact ret_eq (by simp only [halvesI, h, h2]; rfl) (halves_2 s h h2 w)
    | false => exact ret_eq (by simp only [halvesI, h, h2]; rfl) (halves_3 s h h2 w)
def hk_halves : Hook := fun f args _ =>
  if Nat.beq f 46 then
    match args with
    | [.agg ⟨[.int .u64 a0, .int .u64 a1, .int .i64 a2, .int .i64 a3]⟩] => some (.tuple ⟨[VR_ (halvesI (⟨a0, a1, a2, a3⟩ : SI)).1, VR_ (halvesI (⟨a0, a1, a2, a3⟩ : SI)).2]⟩, [])
    | _ => none
  else none
theorem hk_halves_ok : HookOk Try.prog hk_halves := by
  intro f args h v cs hv hc wb k s w H
  unfold hk_halves at hv
  split at hv
  · rename_i hf
    obtain rfl := Nat.eq_of_beq_eq_true hf
    split at hv
    · rename_i a0 a1 a2 a3
      cases hv
      exact c_halves (⟨a0, a1, a2, a3⟩ : SI) w
    · cases hv
  · cases hv
def hk1 : Hook := orHook hk_one (orHook hk_first (orHook hk_last (orHook hk_halves (hkBase))))
theorem hk1_ok : HookOk Try.prog hk1 := orHook_ok hk_one_ok (orHook_ok hk_first_ok (orHook_ok hk_last_ok (orHook_ok hk_halves_ok (hkBase_ok))))
def amongI (r : RI) (t : TI) : RI :=
  if r.ok && firstK t r.lo && lastK t r.hi && !decide (firstI t r.lo > lastI t r.hi) then ⟨firstI t r.lo, lastI t r.hi, true⟩ else ⟨0, 0, false⟩
def amongOrc (b15 b22 b37 : Bool) : Orc := fun f t _ => if Nat.beq f 47 then (if Nat.beq t 15 then some (.bool b15) else if Nat.beq t 22 then some (.bool b22) else if Nat.beq t 37 then some (.bool b37) else none) else none
set_option maxHeartbeats 0 in
set_option maxRecDepth 1000000 in
theorem among_n00 (l h : Int) (t : TI) (hw : (tW t && uB l) = true) (hw2 : (tW t && uB h) = true) (h1 : firstK t l = false) (h2 : lastK t h = false) (w : World) : Calls Try.prog 47 #[VR_ ⟨l, h, false⟩, VT t] w fun e w' => e = .returned (VR_ ⟨0, 0, false⟩) ∧ Gr w w' :=
  rk hk1_ok (amongOrc false false true) (cs := [(b2i (tW t && uB l), 1), (b2i (firstK t l), 0), (b2i (tW t && uB h), 1), (b2i (lastK t h), 0)]) rfl (by kernel_rfl) (by kernel_rfl) (by rw [hw, hw2, h1, h2]; rfl) w
set_option maxHeartbeats 0 in
set_option maxRecDepth 1000000 in
theorem among_o00 (l h : Int) (t : TI) (hw : (tW t && uB l) = true) (hw2 : (tW t && uB h) = true) (h1 : firstK t l = false) (h2 : lastK t h = false) (w : World) : Calls Try.prog 47 #[VR_ ⟨l, h, true⟩, VT t] w fun e w' => e = .returned (VR_ ⟨0, 0, false⟩) ∧ Gr w w' :=
  rk hk1_ok (amongOrc false false true) (cs := [(b2i (tW t && uB l), 1), (b2i (firstK t l), 0), (b2i (tW t && uB h), 1), (b2i (lastK t h), 0)]) rfl (by kernel_rfl) (by kernel_rfl) (by rw [hw, hw2, h1, h2]; rfl) w
set_option maxHeartbeats 0 in
set_option maxRecDepth 1000000 in
theorem among_n01 (l h : Int) (t : TI) (hw : (tW t && uB l) = true) (hw2 : (tW t && uB h) = true) (h1 : firstK t l = false) (h2 : lastK t h = true) (w : World) : Calls Try.prog 47 #[VR_ ⟨l, h, false⟩, VT t] w fun e w' => e = .returned (VR_ ⟨0, 0, false⟩) ∧ Gr w w' :=
  rk hk1_ok (amongOrc false true true) (cs := [(b2i (tW t && uB l), 1), (b2i (firstK t l), 0), (b2i (tW t && uB h), 1), (b2i (lastK t h), 1)]) rfl (by kernel_rfl) (by kernel_rfl) (by rw [hw, hw2, h1, h2]; rfl) w
set_option maxHeartbeats 0 in
set_option maxRecDepth 1000000 in
theorem among_o01 (l h : Int) (t : TI) (hw : (tW t && uB l) = true) (hw2 : (tW t && uB h) = true) (h1 : firstK t l = false) (h2 : lastK t h = true) (w : World) : Calls Try.prog 47 #[VR_ ⟨l, h, true⟩, VT t] w fun e w' => e = .returned (VR_ ⟨0, 0, false⟩) ∧ Gr w w' :=
  rk hk1_ok (amongOrc false true true) (cs := [(b2i (tW t && uB l), 1), (b2i (firstK t l), 0), (b2i (tW t && uB h), 1), (b2i (lastK t h), 1)]) rfl (by kernel_rfl) (by kernel_rfl) (by rw [hw, hw2, h1, h2]; rfl) w
set_option maxHeartbeats 0 in
set_option maxRecDepth 1000000 in
theorem among_n10 (l h : Int) (t : TI) (hw : (tW t && uB l) = true) (hw2 : (tW t && uB h) = true) (h1 : firstK t l = true) (h2 : lastK t h = false) (w : World) : Calls Try.prog 47 #[VR_ ⟨l, h, false⟩, VT t] w fun e w' => e = .returned (VR_ ⟨0, 0, false⟩) ∧ Gr w w' :=
  rk hk1_ok (amongOrc true false true) (cs := [(b2i (tW t && uB l), 1), (b2i (firstK t l), 1), (b2i (tW t && uB h), 1), (b2i (lastK t h), 0)]) rfl (by kernel_rfl) (by kernel_rfl) (by rw [hw, hw2, h1, h2]; rfl) w
set_option maxHeartbeats 0 in
set_option maxRecDepth 1000000 in
theorem among_o10 (l h : Int) (t : TI) (hw : (tW t && uB l) = true) (hw2 : (tW t && uB h) = true) (h1 : firstK t l = true) (h2 : lastK t h = false) (w : World) : Calls Try.prog 47 #[VR_ ⟨l, h, true⟩, VT t] w fun e w' => e = .returned (VR_ ⟨0, 0, false⟩) ∧ Gr w w' :=
  rk hk1_ok (amongOrc true false true) (cs := [(b2i (tW t && uB l), 1), (b2i (firstK t l), 1), (b2i (tW t && uB h), 1), (b2i (lastK t h), 0)]) rfl (by kernel_rfl) (by kernel_rfl) (by rw [hw, hw2, h1, h2]; rfl) w
set_option maxHeartbeats 0 in
set_option maxRecDepth 1000000 in
theorem among_n11 (l h : Int) (t : TI) (hw : (tW t && uB l) = true) (hw2 : (tW t && uB h) = true) (h1 : firstK t l = true) (h2 : lastK t h = true) (w : World) : Calls Try.prog 47 #[VR_ ⟨l, h, false⟩, VT t] w fun e w' => e = .returned (VR_ ⟨0, 0, false⟩) ∧ Gr w w' :=
  rk hk1_ok (amongOrc true true true) (cs := [(b2i (tW t && uB l), 1), (b2i (firstK t l), 1), (b2i (tW t && uB h), 1), (b2i (lastK t h), 1)]) rfl (by kernel_rfl) (by kernel_rfl) (by rw [hw, hw2, h1, h2]; rfl) w
set_option maxHeartbeats 0 in
set_option maxRecDepth 1000000 in
theorem among_o11t (l h : Int) (t : TI) (hw : (tW t && uB l) = true) (hw2 : (tW t && uB h) = true) (h1 : firstK t l = true) (h2 : lastK t h = true) (h3 : decide (firstI t l > lastI t h) = true) (w : World) : Calls Try.prog 47 #[VR_ ⟨l, h, true⟩, VT t] w fun e w' => e = .returned (VR_ ⟨0, 0, false⟩) ∧ Gr w w' :=
  rk hk1_ok (amongOrc true true true) (cs := [(b2i (tW t && uB l), 1), (b2i (firstK t l), 1), (b2i (tW t && uB h), 1), (b2i (lastK t h), 1), (b2i (decide (firstI t l > lastI t h)), 1)]) rfl (by kernel_rfl) (by kernel_rfl) (by rw [hw, hw2, h1, h2, h3]; rfl) w
set_option maxHeartbeats 0 in
set_option maxRecDepth 1000000 in
theorem among_o11f (l h : Int) (t : TI) (hw : (tW t && uB l) = true) (hw2 : (tW t && uB h) = true) (h1 : firstK t l = true) (h2 : lastK t h = true) (h3 : decide (firstI t l > lastI t h) = false) (w : World) : Calls Try.prog 47 #[VR_ ⟨l, h, true⟩, VT t] w fun e w' => e = .returned (VR_ ⟨firstI t l, lastI t h, true⟩) ∧ Gr w w' :=
  rk hk1_ok (amongOrc true true false) (cs := [(b2i (tW t && uB l), 1), (b2i (firstK t l), 1), (b2i (tW t && uB h), 1), (b2i (lastK t h), 1), (b2i (decide (firstI t l > lastI t h)), 0)]) rfl (by kernel_rfl) (by kernel_rfl) (by rw [hw, hw2, h1, h2, h3]; rfl) w
theorem c_among (r : RI) (t : TI) (hw : (tW t && uB r.lo && uB r.hi) = true) (w : World) : Calls Try.prog 47 #[VR_ r, VT t] w fun e w' => e = .returned (VR_ (amongI r t)) ∧ Gr w w' := by
  obtain ⟨l, h, ok⟩ := r
  simp only [Bool.and_eq_true] at hw
  have w1 : (tW t && uB l) = true := by rw [hw.1.1, hw.1.2]; rfl
  have w2 : (tW t && uB h) = true := by rw [hw.1.1, hw.2]; rfl
  cases h1 : firstK t l <;> cases h2 : lastK t h <;> cases ok
  · exact ret_eq (by simp only [amongI, h1, h2]; rfl) (among_n00 l h t w1 w2 h1 h2 w)
  · exact ret_eq (by simp only [amongI, h1, h2]; rfl) (among_o00 l h t w1 w2 h1 h2 w)
  · exact ret_eq (by simp only [amongI, h1, h2]; rfl) (among_n01 l h t w1 w2 h1 h2 w)
  · exact ret_eq (by simp only [amongI, h1, h2]; rfl) (among_o01 l h t w1 w2 h1 h2 w)
  · exact ret_eq (by simp only [amongI, h1, h2]; rfl) (among_n10 l h t w1 w2 h1 h2 w)
  · exact ret_eq (by simp only [amongI, h1, h2]; rfl) (among_o10 l h t w1 w2 h1 h2 w)
  · exact ret_eq (by simp only [amongI, h1, h2]; rfl) (among_n11 l h t w1 w2 h1 h2 w)
  · cases h3 : decide (firstI t l > lastI t h) with
    | true => exact ret_eq (by simp only [amongI, h1, h2, h3]; rfl) (among_o11t l h t w1 w2 h1 h2 h3 w)
    | false => exact ret_eq (by simp only [amongI, h1, h2, h3]; rfl) (among_o11f l h t w1 w2 h1 h2 h3 w)
def hk_among : Hook := fun f args _ =>
  if Nat.beq f 47 then
    match args with
    | [.agg ⟨[.int .u64 a0, .int .u64 a1, .bool a2]⟩, .agg ⟨[.int .u64 b0, .int .u64 b1]⟩] => some (VR_ (amongI (⟨a0, a1, a2⟩ : RI) (⟨b0, b1⟩ : TI)), [(b2i (tW (⟨b0, b1⟩ : TI) && uB (⟨a0, a1, a2⟩ : RI).lo && uB (⟨a0, a1, a2⟩ : RI).hi), 1)])
    | _ => none
  else none
theorem hk_among_ok : HookOk Try.prog hk_among := by
  intro f args h v cs hv hc wb k s w H
  unfold hk_among at hv
  split at hv
  · rename_i hf
    obtain rfl := Nat.eq_of_beq_eq_true hf
    split at hv
    · rename_i a0 a1 a2 b0 b1
      cases hv
      have hw := pair1 hc rfl
      exact c_among (⟨a0, a1, a2⟩ : RI) (⟨b0, b1⟩ : TI) hw w
    · cases hv
  · cases hv
def knownI (p m : RI) : TI := if m.ok then (if p.ok then tEitherI (tRangeI p.lo p.hi) (tRangeI m.lo m.hi) else tRangeI m.lo m.hi) else tRangeI p.lo p.hi
def rW (r : RI) : Bool := uB r.lo && uB r.hi
theorem tRange_tW (a b : Int) : tW (tRangeI a b) = true := tW_tN _
set_option maxHeartbeats 0 in
set_option maxRecDepth 1000000 in
theorem known_ff (a b c d : Int) (h1 : (uB a && uB b) = true) (h2 : (uB c && uB d) = true) (w : World) : Calls Try.prog 49 #[VR_ ⟨a, b, false⟩, VR_ ⟨c, d, false⟩] w fun e w' => e = .returned (VT (tRangeI a b)) ∧ Gr w w' :=
  rk hk1_ok noOrc (cs := [(b2i (uB a && uB b), 1), (b2i (uB c && uB d), 1)]) rfl (by kernel_rfl) (by kernel_rfl) (by rw [h1, h2]; rfl) w
set_option maxHeartbeats 0 in
set_option maxRecDepth 1000000 in
theorem known_ft (a b c d : Int) (h1 : (uB a && uB b) = true) (h2 : (uB c && uB d) = true) (w : World) : Calls Try.prog 49 #[VR_ ⟨a, b, false⟩, VR_ ⟨c, d, true⟩] w fun e w' => e = .returned (VT (tRangeI c d)) ∧ Gr w w' :=
  rk hk1_ok noOrc (cs := [(b2i (uB a && uB b), 1), (b2i (uB c && uB d), 1)]) rfl (by kernel_rfl) (by kernel_rfl) (by rw [h1, h2]; rfl) w
set_option maxHeartbeats 0 in
set_option maxRecDepth 1000000 in
theorem known_tf (a b c d : Int) (h1 : (uB a && uB b) = true) (h2 : (uB c && uB d) = true) (w : World) : Calls Try.prog 49 #[VR_ ⟨a, b, true⟩, VR_ ⟨c, d, false⟩] w fun e w' => e = .returned (VT (tRangeI a b)) ∧ Gr w w' :=
  rk hk1_ok noOrc (cs := [(b2i (uB a && uB b), 1), (b2i (uB c && uB d), 1)]) rfl (by kernel_rfl) (by kernel_rfl) (by rw [h1, h2]; rfl) w
set_option maxHeartbeats 0 in
set_option maxRecDepth 1000000 in
theorem known_tt (a b c d : Int) (h1 : (uB a && uB b) = true) (h2 : (uB c && uB d) = true) (w : World) : Calls Try.prog 49 #[VR_ ⟨a, b, true⟩, VR_ ⟨c, d, true⟩] w fun e w' => e = .returned (VT (tEitherI (tRangeI a b) (tRangeI c d))) ∧ Gr w w' :=
  rk hk1_ok noOrc (cs := [(b2i (uB a && uB b), 1), (b2i (uB c && uB d), 1), (b2i (tW (tRangeI a b) && tW (tRangeI c d)), 1)]) rfl (by kernel_rfl) (by kernel_rfl) (by simp only [h1, h2, tRange_tW, Bool.and_self]; rfl) w
theorem c_known (p m : RI) (hw : (rW p && rW m) = true) (w : World) : Calls Try.prog 49 #[VR_ p, VR_ m] w fun e w' => e = .returned (VT (knownI p m)) ∧ Gr w w' := by
  obtain ⟨a, b, p⟩ := p
  obtain ⟨c, d, m⟩ := m
  simp only [Bool.and_eq_true] at hw
  have w1 : (uB a && uB b) = true := hw.1
  have w2 : (uB c && uB d) = true := hw.2
  cases p <;> cases m
  · exact known_ff a b c d w1 w2 w
  · exact known_ft a b c d w1 w2 w
  · exact known_tf a b c d w1 w2 w
  · exact known_tt a b c d w1 w2 w
def hk_known : Hook := fun f args _ =>
  if Nat.beq f 49 then
    match args with
    | [.agg ⟨[.int .u64 a0, .int .u64 a1, .bool a2]⟩, .agg ⟨[.int .u64 b0, .int .u64 b1, .bool b2]⟩] => some (VT (knownI (⟨a0, a1, a2⟩ : RI) (⟨b0, b1, b2⟩ : RI)), [(b2i (rW (⟨a0, a1, a2⟩ : RI) && rW (⟨b0, b1, b2⟩ : RI)), 1)])
    | _ => none
  else none
theorem hk_known_ok : HookOk Try.prog hk_known := by
  intro f args h v cs hv hc wb k s w H
  unfold hk_known at hv
  split at hv
  · rename_i hf
    obtain rfl := Nat.eq_of_beq_eq_true hf
    split at hv
    · rename_i a0 a1 a2 b0 b1 b2
      cases hv
      have hw := pair1 hc rfl
      exact c_known (⟨a0, a1, a2⟩ : RI) (⟨b0, b1, b2⟩ : RI) hw w
    · cases hv
  · cases hv
def hullI (p m : RI) : SI :=
  if m.ok then (if p.ok then ⟨p.lo, m.hi, IntKind.i64.wrap m.lo, IntKind.i64.wrap p.hi⟩ else ⟨m.lo, m.hi, IntKind.i64.wrap m.lo, IntKind.i64.wrap m.hi⟩)
  else ⟨p.lo, p.hi, IntKind.i64.wrap p.lo, IntKind.i64.wrap p.hi⟩
set_option maxHeartbeats 0 in
set_option maxRecDepth 1000000 in
theorem c_hull (p m : RI) (w : World) : Calls Try.prog 50 #[VR_ p, VR_ m] w fun e w' => e = .returned (VS (hullI p m)) ∧ Gr w w' := by
  obtain ⟨a, b, p⟩ := p
  obtain ⟨c, d, m⟩ := m
  cases p <;> cases m
  all_goals exact rk hkBase_ok noOrc (cs := []) rfl (by kernel_rfl) (by kernel_rfl) rfl w
def hk_hull : Hook := fun f args _ =>
  if Nat.beq f 50 then
    match args with
    | [.agg ⟨[.int .u64 a0, .int .u64 a1, .bool a2]⟩, .agg ⟨[.int .u64 b0, .int .u64 b1, .bool b2]⟩] => some (VS (hullI (⟨a0, a1, a2⟩ : RI) (⟨b0, b1, b2⟩ : RI)), [])
    | _ => none
  else none
theorem hk_hull_ok : HookOk Try.prog hk_hull := by
  intro f args h v cs hv hc wb k s w H
  unfold hk_hull at hv
  split at hv
  · rename_i hf
    obtain rfl := Nat.eq_of_beq_eq_true hf
    split at hv
    · rename_i a0 a1 a2 b0 b1 b2
      cases hv
      exact c_hull (⟨a0, a1, a2⟩ : RI) (⟨b0, b1, b2⟩ : RI) w
    · cases hv
  · cases hv
def hk2 : Hook := orHook hk_one (orHook hk_first (orHook hk_last (orHook hk_halves (orHook hk_among (orHook hk_known (orHook hk_hull (hkBase)))))))
theorem hk2_ok : HookOk Try.prog hk2 := orHook_ok hk_one_ok (orHook_ok hk_first_ok (orHook_ok hk_last_ok (orHook_ok hk_halves_ok (orHook_ok hk_among_ok (orHook_ok hk_known_ok (orHook_ok hk_hull_ok (hkBase_ok)))))))
end Go.Proofs.Ytdlgebfaijlaoaa.Ex
end
section
namespace Go.Proofs.Ytdlgebfaijlaoaa
set_option maxRecDepth 20000
open Go.RowKit
attribute [local go_sem] u64_wrap BitVec.ofInt_add BitVec.ofInt_mul ofInt_sub' ofInt_N ofInt_Nw ofInt_pow ofInt_shl mul_shl1 N_shr u64_and u64_or u64_xor u64_andNot

theorem hasTB_iff (v m x : W64) : hasTB v m x = true ↔ hasT v m x := by unfold hasTB hasT; rw [N_beq, beq_iff_eq]
theorem bit01 (z : W64) (k : Nat) : (z.getLsbD k = false ∧ N (z >>> k &&& 1#64) = 0) ∨ (z.getLsbD k = true ∧ N (z >>> k &&& 1#64) = 1) := by
  have e : N (z >>> k &&& 1#64) = ((z.toNat >>> k % 2 : Nat) : Int) := by
    unfold N
    rw [BitVec.toNat_and, BitVec.toNat_ushiftRight, show (1#64).toNat = 1 from rfl, Nat.and_one_is_mod]
  have hb : z.getLsbD k = decide (z.toNat >>> k % 2 = 1) := by
    rw [BitVec.getLsbD, Nat.testBit_eq_decide_div_mod_eq, Nat.shiftRight_eq_div_pow]
  rw [e, hb]
  rcases Nat.mod_two_eq_zero_or_one (z.toNat >>> k) with h | h <;> rw [h] <;> simp
def goodBit (v m x : W64) (k : Nat) : Prop := (x.getLsbD k && !m.getLsbD k) = v.getLsbD k
def goodTo (v m x : W64) (k : Nat) : Prop := ∀ j, j < k → goodBit v m x j
theorem goodTo_succ {v m x : W64} {k : Nat} (h : goodTo v m x k) (hb : goodBit v m x k) : goodTo v m x (k + 1) := fun j hj => by
  rcases Nat.lt_or_ge j k with h1 | h1
  · exact h j h1
  · obtain rfl : j = k := by omega
    exact hb
theorem good_all {v m x : W64} (h : goodTo v m x 64) : hasTB v m x = true := (hasTB_iff v m x).2 ((hasT_iff v m x).2 h)
theorem bad_one {v m x : W64} {k : Nat} (hk : k < 64) (h : ¬ goodBit v m x k) : hasTB v m x = false := by
  cases hh : hasTB v m x
  · rfl
  · exact absurd ((hasT_iff v m x).1 ((hasTB_iff v m x).1 hh) k hk) h
theorem bool_eq {a b : Bool} (h : b = a) : Ending.returned (.bool a) = .returned (.bool b) := by rw [h]

set_option maxHeartbeats 1000000 in
theorem refHas_any (v m x : W64) (w : World) : Calls Try.prog 41 #[.int .u64 (N v), .int .u64 (N m), .int .u64 (N x)] w fun e w' => e = .returned (.bool (hasTB v m x)) ∧ Grown w w' := by
  go_enter Try.func41, Try.ntmps41
  go_wp2
  go_loopw [7] (fun i wr => ∃ k : Nat, k ≤ 64 ∧ i = .int .i64 (k : Int) ∧ Gw w wr ∧ goodTo v m x k) (fun i _ => (64 - intOf i).toNat)
  case atStart => exact ⟨0, by omega, rfl, Grown.refl _, fun j hj => by omega⟩
  case round =>
    obtain ⟨k, hk, rfl, hg, hgood⟩ := hrel
    by_cases hlt : k < 64
    · rcases bit01 m k with ⟨hm, fm⟩ | ⟨hm, fm⟩ <;> rcases bit01 v k with ⟨hv, fv⟩ | ⟨hv, fv⟩ <;> rcases bit01 x k with ⟨hx, fx⟩ | ⟨hx, fx⟩
      all_goals
        have HM := Lib.hid hm
        have HV := Lib.hid hv
        have HX := Lib.hid hx
        clear hm hv hx
        go_wp2
        refine wp_region_lex (Gw w) (by kernel_rfl) (by kernel_rfl) (Gw.drew hg) (fun hNon => ?_)
        repeat (go_big_quiet_step (fail))
        refine wpQuiet_nil ?_
        intro w5 hG
        clear hNon
        go_wp2
        first
          | (go_roundw
             case rel => exact ⟨k + 1, by omega, by go_num, hG, goodTo_succ hgood (by unfold goodBit; rw [HM.out, HV.out, HX.out]; decide)⟩
             case measure => simp [intOf]; omega)
          | (go_ret
             exact ⟨bool_eq (bad_one hlt (by unfold goodBit; rw [HM.out, HV.out, HX.out]; decide)), hG⟩)
    · obtain rfl : k = 64 := by omega
      go_wp2
      go_ret
      exact ⟨bool_eq (good_all hgood), hg⟩

end Go.Proofs.Ytdlgebfaijlaoaa
end
section
namespace Go.Proofs.Ytdlgebfaijlaoaa.Ex
open Go Go.RowKit
open Go.Proofs.Ytdlgebfaijlaoaa.Sc (firstV firstOk lastV lastOk)
theorem u64_uB (x : Int) : uB (IntKind.u64.wrap x) = true := by rw [u64_wrap]; exact uB_N _
theorem i64_zB (x : Int) : zB (IntKind.i64.wrap x) = true := by
  have e : IntKind.i64.wrap x = Z (BitVec.ofInt 64 x) := by
    rw [Z_ofInt]
    unfold wrap64
    by_cases h : x % 18446744073709551616 ≥ 9223372036854775808
    · rw [show IntKind.i64.wrap x = x % 18446744073709551616 - 18446744073709551616 from by
        show (if (true && decide (x % 18446744073709551616 ≥ 9223372036854775808)) = true then _ else _) = _
        rw [decide_eq_true h]; rfl]
      omega
    · rw [show IntKind.i64.wrap x = x % 18446744073709551616 from by
        show (if (true && decide (x % 18446744073709551616 ≥ 9223372036854775808)) = true then _ else _) = _
        rw [decide_eq_false h]; rfl]
      omega
  rw [e]
  exact zB_Z _
theorem rW_halves {s : SI} (h : sW s = true) : rW (halvesI s).1 = true ∧ rW (halvesI s).2 = true := by
  unfold sW at h
  simp only [Bool.and_eq_true] at h
  unfold halvesI rW
  have z : uB 0 = true := rfl
  split
  · simp only [h.1.1.1, h.1.1.2, z, Bool.and_self, and_self]
  · split
    · simp only [h.1.1.1, h.1.1.2, z, Bool.and_self, and_self]
    · simp only [h.1.1.1, h.1.1.2, u64_uB, Bool.and_self, and_self]
theorem rW_among (r : RI) (t : TI) : rW (amongI r t) = true := by
  unfold amongI rW
  split
  · simp only [firstI, lastI, uB_N, Bool.and_self]
  · rfl
theorem tW_known (p m : RI) : tW (knownI p m) = true := by
  unfold knownI
  split
  · split
    · exact tW_tN _
    · exact tW_tN _
  · exact tW_tN _
theorem sW_hull {p m : RI} (hp : rW p = true) (hm : rW m = true) : sW (hullI p m) = true := by
  unfold rW at hp hm
  simp only [Bool.and_eq_true] at hp hm
  unfold hullI sW
  split
  · split
    · simp only [hp.1, hm.2, i64_zB, Bool.and_self]
    · simp only [hm.1, hm.2, i64_zB, Bool.and_self]
  · simp only [hp.1, hp.2, i64_zB, Bool.and_self]
def nilN : NI := ⟨⟨0, 0⟩, ⟨0, 0, 0, 0⟩⟩
def tP (a : NI) : RI := amongI (halvesI (sTightI a.s)).1 a.t
def tM (a : NI) : RI := amongI (halvesI (sTightI a.s)).2 a.t
def tightK (a : NI) : Bool := sTightKI a.s && ((tP a).ok || (tM a).ok) && tBothKI a.t (knownI (tP a) (tM a))
def tightI (a : NI) : NI := if tightK a then ⟨tBothI a.t (knownI (tP a) (tM a)), hullI (tP a) (tM a)⟩ else nilN
def tightOrc (b14 b32 b36 b49 : Bool) : Orc := fun f t _ => if Nat.beq f 30 then (if Nat.beq t 14 then some (.bool b14) else if Nat.beq t 32 then some (.bool b32) else if Nat.beq t 36 then some (.bool b36) else if Nat.beq t 49 then some (.bool b49) else none) else none
set_option maxHeartbeats 0 in
set_option maxRecDepth 1000000 in
theorem tight_a_r (a : NI) (he : ([(b2i (sW a.s), 1), (b2i (sTightKI a.s), 0)] : Cs).map (·.1) = ([(b2i (sW a.s), 1), (b2i (sTightKI a.s), 0)] : Cs).map (·.2)) (w : World) : Calls Try.prog 30 #[VN a] w fun e w' => e = .returned (.tuple ⟨[VN nilN, .bool false]⟩) ∧ Gr w w' :=
  rk hk2_ok (tightOrc false true true true) (cs := ([(b2i (sW a.s), 1), (b2i (sTightKI a.s), 0)] : Cs)) rfl (by kernel_rfl) (by kernel_rfl) he w
theorem tight_a (a : NI) (h0 : sW a.s = true) (_h1 : (tW a.t && uB (halvesI (sTightI a.s)).1.lo && uB (halvesI (sTightI a.s)).1.hi) = true) (_h2 : (tW a.t && uB (halvesI (sTightI a.s)).2.lo && uB (halvesI (sTightI a.s)).2.hi) = true) (_h3 : (rW (tP a) && rW (tM a)) = true) (_h4 : (tW a.t && tW (knownI (tP a) (tM a))) = true) (k : sTightKI a.s = false) (w : World) : Calls Try.prog 30 #[VN a] w fun e w' => e = .returned (.tuple ⟨[VN nilN, .bool false]⟩) ∧ Gr w w' :=
  tight_a_r a (by rw [h0, k]; rfl) w
set_option maxHeartbeats 0 in
set_option maxRecDepth 1000000 in
theorem tight_b_r (a : NI) (he : ([(b2i (sW a.s), 1), (b2i (sTightKI a.s), 1), (b2i (tW a.t && uB (halvesI (sTightI a.s)).1.lo && uB (halvesI (sTightI a.s)).1.hi), 1), (b2i (tW a.t && uB (halvesI (sTightI a.s)).2.lo && uB (halvesI (sTightI a.s)).2.hi), 1), (b2i (tP a).ok, 0), (b2i (tM a).ok, 0)] : Cs).map (·.1) = ([(b2i (sW a.s), 1), (b2i (sTightKI a.s), 1), (b2i (tW a.t && uB (halvesI (sTightI a.s)).1.lo && uB (halvesI (sTightI a.s)).1.hi), 1), (b2i (tW a.t && uB (halvesI (sTightI a.s)).2.lo && uB (halvesI (sTightI a.s)).2.hi), 1), (b2i (tP a).ok, 0), (b2i (tM a).ok, 0)] : Cs).map (·.2)) (w : World) : Calls Try.prog 30 #[VN a] w fun e w' => e = .returned (.tuple ⟨[VN nilN, .bool false]⟩) ∧ Gr w w' :=
  rk hk2_ok (tightOrc true false false true) (cs := ([(b2i (sW a.s), 1), (b2i (sTightKI a.s), 1), (b2i (tW a.t && uB (halvesI (sTightI a.s)).1.lo && uB (halvesI (sTightI a.s)).1.hi), 1), (b2i (tW a.t && uB (halvesI (sTightI a.s)).2.lo && uB (halvesI (sTightI a.s)).2.hi), 1), (b2i (tP a).ok, 0), (b2i (tM a).ok, 0)] : Cs)) rfl (by kernel_rfl) (by kernel_rfl) he w
theorem tight_b (a : NI) (h0 : sW a.s = true) (h1 : (tW a.t && uB (halvesI (sTightI a.s)).1.lo && uB (halvesI (sTightI a.s)).1.hi) = true) (h2 : (tW a.t && uB (halvesI (sTightI a.s)).2.lo && uB (halvesI (sTightI a.s)).2.hi) = true) (_h3 : (rW (tP a) && rW (tM a)) = true) (_h4 : (tW a.t && tW (knownI (tP a) (tM a))) = true) (k : sTightKI a.s = true) (p : (tP a).ok = false) (m : (tM a).ok = false) (w : World) : Calls Try.prog 30 #[VN a] w fun e w' => e = .returned (.tuple ⟨[VN nilN, .bool false]⟩) ∧ Gr w w' :=
  tight_b_r a (by rw [h0, k, h1, h2, p, m]; rfl) w
set_option maxHeartbeats 0 in
set_option maxRecDepth 1000000 in
theorem tight_c0_r (a : NI) (he : ([(b2i (sW a.s), 1), (b2i (sTightKI a.s), 1), (b2i (tW a.t && uB (halvesI (sTightI a.s)).1.lo && uB (halvesI (sTightI a.s)).1.hi), 1), (b2i (tW a.t && uB (halvesI (sTightI a.s)).2.lo && uB (halvesI (sTightI a.s)).2.hi), 1), (b2i (tP a).ok, 1), (b2i (rW (tP a) && rW (tM a)), 1), (b2i (tW a.t && tW (knownI (tP a) (tM a))), 1), (b2i (tBothKI a.t (knownI (tP a) (tM a))), 0)] : Cs).map (·.1) = ([(b2i (sW a.s), 1), (b2i (sTightKI a.s), 1), (b2i (tW a.t && uB (halvesI (sTightI a.s)).1.lo && uB (halvesI (sTightI a.s)).1.hi), 1), (b2i (tW a.t && uB (halvesI (sTightI a.s)).2.lo && uB (halvesI (sTightI a.s)).2.hi), 1), (b2i (tP a).ok, 1), (b2i (rW (tP a) && rW (tM a)), 1), (b2i (tW a.t && tW (knownI (tP a) (tM a))), 1), (b2i (tBothKI a.t (knownI (tP a) (tM a))), 0)] : Cs).map (·.2)) (w : World) : Calls Try.prog 30 #[VN a] w fun e w' => e = .returned (.tuple ⟨[VN nilN, .bool false]⟩) ∧ Gr w w' :=
  rk hk2_ok (tightOrc true true true false) (cs := ([(b2i (sW a.s), 1), (b2i (sTightKI a.s), 1), (b2i (tW a.t && uB (halvesI (sTightI a.s)).1.lo && uB (halvesI (sTightI a.s)).1.hi), 1), (b2i (tW a.t && uB (halvesI (sTightI a.s)).2.lo && uB (halvesI (sTightI a.s)).2.hi), 1), (b2i (tP a).ok, 1), (b2i (rW (tP a) && rW (tM a)), 1), (b2i (tW a.t && tW (knownI (tP a) (tM a))), 1), (b2i (tBothKI a.t (knownI (tP a) (tM a))), 0)] : Cs)) rfl (by kernel_rfl) (by kernel_rfl) he w
theorem tight_c0 (a : NI) (h0 : sW a.s = true) (h1 : (tW a.t && uB (halvesI (sTightI a.s)).1.lo && uB (halvesI (sTightI a.s)).1.hi) = true) (h2 : (tW a.t && uB (halvesI (sTightI a.s)).2.lo && uB (halvesI (sTightI a.s)).2.hi) = true) (h3 : (rW (tP a) && rW (tM a)) = true) (h4 : (tW a.t && tW (knownI (tP a) (tM a))) = true) (k : sTightKI a.s = true) (p : (tP a).ok = true) (z : tBothKI a.t (knownI (tP a) (tM a)) = false) (w : World) : Calls Try.prog 30 #[VN a] w fun e w' => e = .returned (.tuple ⟨[VN nilN, .bool false]⟩) ∧ Gr w w' :=
  tight_c0_r a (by rw [h0, k, h1, h2, p, h3, h4, z]; rfl) w
set_option maxHeartbeats 0 in
set_option maxRecDepth 1000000 in
theorem tight_d0_r (a : NI) (he : ([(b2i (sW a.s), 1), (b2i (sTightKI a.s), 1), (b2i (tW a.t && uB (halvesI (sTightI a.s)).1.lo && uB (halvesI (sTightI a.s)).1.hi), 1), (b2i (tW a.t && uB (halvesI (sTightI a.s)).2.lo && uB (halvesI (sTightI a.s)).2.hi), 1), (b2i (tP a).ok, 0), (b2i (tM a).ok, 1), (b2i (rW (tP a) && rW (tM a)), 1), (b2i (tW a.t && tW (knownI (tP a) (tM a))), 1), (b2i (tBothKI a.t (knownI (tP a) (tM a))), 0)] : Cs).map (·.1) = ([(b2i (sW a.s), 1), (b2i (sTightKI a.s), 1), (b2i (tW a.t && uB (halvesI (sTightI a.s)).1.lo && uB (halvesI (sTightI a.s)).1.hi), 1), (b2i (tW a.t && uB (halvesI (sTightI a.s)).2.lo && uB (halvesI (sTightI a.s)).2.hi), 1), (b2i (tP a).ok, 0), (b2i (tM a).ok, 1), (b2i (rW (tP a) && rW (tM a)), 1), (b2i (tW a.t && tW (knownI (tP a) (tM a))), 1), (b2i (tBothKI a.t (knownI (tP a) (tM a))), 0)] : Cs).map (·.2)) (w : World) : Calls Try.prog 30 #[VN a] w fun e w' => e = .returned (.tuple ⟨[VN nilN, .bool false]⟩) ∧ Gr w w' :=
  rk hk2_ok (tightOrc true false true false) (cs := ([(b2i (sW a.s), 1), (b2i (sTightKI a.s), 1), (b2i (tW a.t && uB (halvesI (sTightI a.s)).1.lo && uB (halvesI (sTightI a.s)).1.hi), 1), (b2i (tW a.t && uB (halvesI (sTightI a.s)).2.lo && uB (halvesI (sTightI a.s)).2.hi), 1), (b2i (tP a).ok, 0), (b2i (tM a).ok, 1), (b2i (rW (tP a) && rW (tM a)), 1), (b2i (tW a.t && tW (knownI (tP a) (tM a))), 1), (b2i (tBothKI a.t (knownI (tP a) (tM a))), 0)] : Cs)) rfl (by kernel_rfl) (by kernel_rfl) he w
theorem tight_d0 (a : NI) (h0 : sW a.s = true) (h1 : (tW a.t && uB (halvesI (sTightI a.s)).1.lo && uB (halvesI (sTightI a.s)).1.hi) = true) (h2 : (tW a.t && uB (halvesI (sTightI a.s)).2.lo && uB (halvesI (sTightI a.s)).2.hi) = true) (h3 : (rW (tP a) && rW (tM a)) = true) (h4 : (tW a.t && tW (knownI (tP a) (tM a))) = true) (k : sTightKI a.s = true) (p : (tP a).ok = false) (m : (tM a).ok = true) (z : tBothKI a.t (knownI (tP a) (tM a)) = false) (w : World) : Calls Try.prog 30 #[VN a] w fun e w' => e = .returned (.tuple ⟨[VN nilN, .bool false]⟩) ∧ Gr w w' :=
  tight_d0_r a (by rw [h0, k, h1, h2, p, m, h3, h4, z]; rfl) w
set_option maxHeartbeats 0 in
set_option maxRecDepth 1000000 in
theorem tight_c1_r (a : NI) (he : ([(b2i (sW a.s), 1), (b2i (sTightKI a.s), 1), (b2i (tW a.t && uB (halvesI (sTightI a.s)).1.lo && uB (halvesI (sTightI a.s)).1.hi), 1), (b2i (tW a.t && uB (halvesI (sTightI a.s)).2.lo && uB (halvesI (sTightI a.s)).2.hi), 1), (b2i (tP a).ok, 1), (b2i (rW (tP a) && rW (tM a)), 1), (b2i (tW a.t && tW (knownI (tP a) (tM a))), 1), (b2i (tBothKI a.t (knownI (tP a) (tM a))), 1)] : Cs).map (·.1) = ([(b2i (sW a.s), 1), (b2i (sTightKI a.s), 1), (b2i (tW a.t && uB (halvesI (sTightI a.s)).1.lo && uB (halvesI (sTightI a.s)).1.hi), 1), (b2i (tW a.t && uB (halvesI (sTightI a.s)).2.lo && uB (halvesI (sTightI a.s)).2.hi), 1), (b2i (tP a).ok, 1), (b2i (rW (tP a) && rW (tM a)), 1), (b2i (tW a.t && tW (knownI (tP a) (tM a))), 1), (b2i (tBothKI a.t (knownI (tP a) (tM a))), 1)] : Cs).map (·.2)) (w : World) : Calls Try.prog 30 #[VN a] w fun e w' => e = .returned (.tuple ⟨[VN ⟨tBothI a.t (knownI (tP a) (tM a)), hullI (tP a) (tM a)⟩, .bool true]⟩) ∧ Gr w w' :=
  rk hk2_ok (tightOrc true true true true) (cs := ([(b2i (sW a.s), 1), (b2i (sTightKI a.s), 1), (b2i (tW a.t && uB (halvesI (sTightI a.s)).1.lo && uB (halvesI (sTightI a.s)).1.hi), 1), (b2i (tW a.t && uB (halvesI (sTightI a.s)).2.lo && uB (halvesI (sTightI a.s)).2.hi), 1), (b2i (tP a).ok, 1), (b2i (rW (tP a) && rW (tM a)), 1), (b2i (tW a.t && tW (knownI (tP a) (tM a))), 1), (b2i (tBothKI a.t (knownI (tP a) (tM a))), 1)] : Cs)) rfl (by kernel_rfl) (by kernel_rfl) he w
theorem tight_c1 (a : NI) (h0 : sW a.s = true) (h1 : (tW a.t && uB (halvesI (sTightI a.s)).1.lo && uB (halvesI (sTightI a.s)).1.hi) = true) (h2 : (tW a.t && uB (halvesI (sTightI a.s)).2.lo && uB (halvesI (sTightI a.s)).2.hi) = true) (h3 : (rW (tP a) && rW (tM a)) = true) (h4 : (tW a.t && tW (knownI (tP a) (tM a))) = true) (k : sTightKI a.s = true) (p : (tP a).ok = true) (z : tBothKI a.t (knownI (tP a) (tM a)) = true) (w : World) : Calls Try.prog 30 #[VN a] w fun e w' => e = .returned (.tuple ⟨[VN ⟨tBothI a.t (knownI (tP a) (tM a)), hullI (tP a) (tM a)⟩, .bool true]⟩) ∧ Gr w w' :=
  tight_c1_r a (by rw [h0, k, h1, h2, p, h3, h4, z]; rfl) w
set_option maxHeartbeats 0 in
set_option maxRecDepth 1000000 in
theorem tight_d1_r (a : NI) (he : ([(b2i (sW a.s), 1), (b2i (sTightKI a.s), 1), (b2i (tW a.t && uB (halvesI (sTightI a.s)).1.lo && uB (halvesI (sTightI a.s)).1.hi), 1), (b2i (tW a.t && uB (halvesI (sTightI a.s)).2.lo && uB (halvesI (sTightI a.s)).2.hi), 1), (b2i (tP a).ok, 0), (b2i (tM a).ok, 1), (b2i (rW (tP a) && rW (tM a)), 1), (b2i (tW a.t && tW (knownI (tP a) (tM a))), 1), (b2i (tBothKI a.t (knownI (tP a) (tM a))), 1)] : Cs).map (·.1) = ([(b2i (sW a.s), 1), (b2i (sTightKI a.s), 1), (b2i (tW a.t && uB (halvesI (sTightI a.s)).1.lo && uB (halvesI (sTightI a.s)).1.hi), 1), (b2i (tW a.t && uB (halvesI (sTightI a.s)).2.lo && uB (halvesI (sTightI a.s)).2.hi), 1), (b2i (tP a).ok, 0), (b2i (tM a).ok, 1), (b2i (rW (tP a) && rW (tM a)), 1), (b2i (tW a.t && tW (knownI (tP a) (tM a))), 1), (b2i (tBothKI a.t (knownI (tP a) (tM a))), 1)] : Cs).map (·.2)) (w : World) : Calls Try.prog 30 #[VN a] w fun e w' => e = .returned (.tuple ⟨[VN ⟨tBothI a.t (knownI (tP a) (tM a)), hullI (tP a) (tM a)⟩, .bool true]⟩) ∧ Gr w w' :=
  rk hk2_ok (tightOrc true false true true) (cs := ([(b2i (sW a.s), 1), (b2i (sTightKI a.s), 1), (b2i (tW a.t && uB (halvesI (sTightI a.s)).1.lo && uB (halvesI (sTightI a.s)).1.hi), 1), (b2i (tW a.t && uB (halvesI (sTightI a.s)).2.lo && uB (halvesI (sTightI a.s)).2.hi), 1), (b2i (tP a).ok, 0), (b2i (tM a).ok, 1), (b2i (rW (tP a) && rW (tM a)), 1), (b2i (tW a.t && tW (knownI (tP a) (tM a))), 1), (b2i (tBothKI a.t (knownI (tP a) (tM a))), 1)] : Cs)) rfl (by kernel_rfl) (by kernel_rfl) he w
theorem tight_d1 (a : NI) (h0 : sW a.s = true) (h1 : (tW a.t && uB (halvesI (sTightI a.s)).1.lo && uB (halvesI (sTightI a.s)).1.hi) = true) (h2 : (tW a.t && uB (halvesI (sTightI a.s)).2.lo && uB (halvesI (sTightI a.s)).2.hi) = true) (h3 : (rW (tP a) && rW (tM a)) = true) (h4 : (tW a.t && tW (knownI (tP a) (tM a))) = true) (k : sTightKI a.s = true) (p : (tP a).ok = false) (m : (tM a).ok = true) (z : tBothKI a.t (knownI (tP a) (tM a)) = true) (w : World) : Calls Try.prog 30 #[VN a] w fun e w' => e = .returned (.tuple ⟨[VN ⟨tBothI a.t (knownI (tP a) (tM a)), hullI (tP a) (tM a)⟩, .bool true]⟩) ∧ Gr w w' :=
  tight_d1_r a (by rw [h0, k, h1, h2, p, m, h3, h4, z]; rfl) w
theorem c_tight (a : NI) (hw : nW a = true) (w : World) : Calls Try.prog 30 #[VN a] w fun e w' => e = .returned (.tuple ⟨[VN (tightI a), .bool (tightK a)]⟩) ∧ Gr w w' := by
  unfold nW at hw
  simp only [Bool.and_eq_true] at hw
  have hs : sW (sTightI a.s) = true := sW_sN _
  obtain ⟨r1, r2⟩ := rW_halves hs
  have r1' := r1
  have r2' := r2
  unfold rW at r1 r2
  simp only [Bool.and_eq_true] at r1 r2
  have h1 : (tW a.t && uB (halvesI (sTightI a.s)).1.lo && uB (halvesI (sTightI a.s)).1.hi) = true := by rw [hw.1, r1.1, r1.2]; rfl
  have h2 : (tW a.t && uB (halvesI (sTightI a.s)).2.lo && uB (halvesI (sTightI a.s)).2.hi) = true := by rw [hw.1, r2.1, r2.2]; rfl
  have h3 : (rW (tP a) && rW (tM a)) = true := by unfold tP tM; rw [rW_among, rW_among]; rfl
  have h4 : (tW a.t && tW (knownI (tP a) (tM a))) = true := by rw [hw.1, tW_known]; rfl
  cases k : sTightKI a.s with
  | false => exact ret_eq (by simp only [tightI, tightK, k]; rfl) (tight_a a hw.2 h1 h2 h3 h4 k w)
  | true =>
    cases p : (tP a).ok with
    | true =>
      cases z : tBothKI a.t (knownI (tP a) (tM a)) with
      | true => exact ret_eq (by simp only [tightI, tightK, k, p, z]; rfl) (tight_c1 a hw.2 h1 h2 h3 h4 k p z w)
      | false => exact ret_eq (by simp only [tightI, tightK, k, p, z]; rfl) (tight_c0 a hw.2 h1 h2 h3 h4 k p z w)
    | false =>
      cases m : (tM a).ok with
      | false => exact ret_eq (by simp only [tightI, tightK, k, p, m]; rfl) (tight_b a hw.2 h1 h2 h3 h4 k p m w)
      | true =>
        cases z : tBothKI a.t (knownI (tP a) (tM a)) with
        | true => exact ret_eq (by simp only [tightI, tightK, k, p, m, z]; rfl) (tight_d1 a hw.2 h1 h2 h3 h4 k p m z w)
        | false => exact ret_eq (by simp only [tightI, tightK, k, p, m, z]; rfl) (tight_d0 a hw.2 h1 h2 h3 h4 k p m z w)
theorem nW_tight (a : NI) : nW (tightI a) = true := by
  unfold tightI
  split
  · unfold nW
    rw [sW_hull (by unfold tP; exact rW_among _ _) (by unfold tM; exact rW_among _ _)]
    simp only [tBothI, tW_tN, Bool.and_self]
  · rfl
def hk_tight : Hook := fun f args _ =>
  if Nat.beq f 30 then
    match args with
    | [.agg ⟨[.int .u64 a0, .int .u64 a1, .int .u64 a2, .int .u64 a3, .int .i64 a4, .int .i64 a5]⟩] => some (.tuple ⟨[VN (tightI (⟨⟨a0, a1⟩, ⟨a2, a3, a4, a5⟩⟩ : NI)), .bool (tightK (⟨⟨a0, a1⟩, ⟨a2, a3, a4, a5⟩⟩ : NI))]⟩, [(b2i (nW (⟨⟨a0, a1⟩, ⟨a2, a3, a4, a5⟩⟩ : NI)), 1)])
    | _ => none
  else none
theorem hk_tight_ok : HookOk Try.prog hk_tight := by
  intro f args h v cs hv hc wb k s w H
  unfold hk_tight at hv
  split at hv
  · rename_i hf
    obtain rfl := Nat.eq_of_beq_eq_true hf
    split at hv
    · rename_i a0 a1 a2 a3 a4 a5
      cases hv
      have hw := pair1 hc rfl
      exact c_tight (⟨⟨a0, a1⟩, ⟨a2, a3, a4, a5⟩⟩ : NI) hw w
    · cases hv
  · cases hv
def settledI (a : NI) : NI := if tightK a then tightI a else a
def settledOrc (b9 : Bool) : Orc := fun f t _ => if Nat.beq f 32 then (if Nat.beq t 9 then some (.bool b9) else none) else none
def hk3 : Hook := orHook hk_tight (hk2)
theorem hk3_ok : HookOk Try.prog hk3 := orHook_ok hk_tight_ok (hk2_ok)
set_option maxHeartbeats 0 in
set_option maxRecDepth 1000000 in
theorem settled_0_r (a : NI) (he : ([(b2i (nW a), 1), (b2i (tightK a), 0)] : Cs).map (·.1) = ([(b2i (nW a), 1), (b2i (tightK a), 0)] : Cs).map (·.2)) (w : World) : Calls Try.prog 32 #[VN a] w fun e w' => e = .returned (VN a) ∧ Gr w w' :=
  rk hk3_ok (settledOrc false) (cs := ([(b2i (nW a), 1), (b2i (tightK a), 0)] : Cs)) rfl (by kernel_rfl) (by kernel_rfl) he w
theorem settled_0 (a : NI) (hw : nW a = true) (k : tightK a = false) (w : World) : Calls Try.prog 32 #[VN a] w fun e w' => e = .returned (VN a) ∧ Gr w w' :=
  settled_0_r a (by rw [hw, k]; rfl) w
set_option maxHeartbeats 0 in
set_option maxRecDepth 1000000 in
theorem settled_1_r (a : NI) (he : ([(b2i (nW a), 1), (b2i (tightK a), 1)] : Cs).map (·.1) = ([(b2i (nW a), 1), (b2i (tightK a), 1)] : Cs).map (·.2)) (w : World) : Calls Try.prog 32 #[VN a] w fun e w' => e = .returned (VN (tightI a)) ∧ Gr w w' :=
  rk hk3_ok (settledOrc true) (cs := ([(b2i (nW a), 1), (b2i (tightK a), 1)] : Cs)) rfl (by kernel_rfl) (by kernel_rfl) he w
theorem settled_1 (a : NI) (hw : nW a = true) (k : tightK a = true) (w : World) : Calls Try.prog 32 #[VN a] w fun e w' => e = .returned (VN (tightI a)) ∧ Gr w w' :=
  settled_1_r a (by rw [hw, k]; rfl) w
theorem c_settled (a : NI) (hw : nW a = true) (w : World) : Calls Try.prog 32 #[VN a] w fun e w' => e = .returned (VN (settledI a)) ∧ Gr w w' := by
  cases k : tightK a with
  | true => exact ret_eq (by simp only [settledI, k]; rfl) (settled_1 a hw k w)
  | false => exact ret_eq (by simp only [settledI, k]; rfl) (settled_0 a hw k w)
theorem nW_settled {a : NI} (h : nW a = true) : nW (settledI a) = true := by
  unfold settledI
  split
  · exact nW_tight a
  · exact h
def hk_settled : Hook := fun f args _ =>
  if Nat.beq f 32 then
    match args with
    | [.agg ⟨[.int .u64 a0, .int .u64 a1, .int .u64 a2, .int .u64 a3, .int .i64 a4, .int .i64 a5]⟩] => some (VN (settledI (⟨⟨a0, a1⟩, ⟨a2, a3, a4, a5⟩⟩ : NI)), [(b2i (nW (⟨⟨a0, a1⟩, ⟨a2, a3, a4, a5⟩⟩ : NI)), 1)])
    | _ => none
  else none
theorem hk_settled_ok : HookOk Try.prog hk_settled := by
  intro f args h v cs hv hc wb k s w H
  unfold hk_settled at hv
  split at hv
  · rename_i hf
    obtain rfl := Nat.eq_of_beq_eq_true hf
    split at hv
    · rename_i a0 a1 a2 a3 a4 a5
      cases hv
      have hw := pair1 hc rfl
      exact c_settled (⟨⟨a0, a1⟩, ⟨a2, a3, a4, a5⟩⟩ : NI) hw w
    · cases hv
  · cases hv
def nHasI (a : NI) (v : Int) : Bool := tHasI a.t v && sHasI a.s v
def inOrc (b10 : Bool) : Orc := fun f t _ => if Nat.beq f 26 then (if Nat.beq t 10 then some (.bool b10) else none) else none
set_option maxHeartbeats 0 in
set_option maxRecDepth 1000000 in
theorem in_0_r (a b : NI) (he : ([(b2i (tW a.t && tW b.t), 1), (b2i (tInI a.t b.t), 0)] : Cs).map (·.1) = ([(b2i (tW a.t && tW b.t), 1), (b2i (tInI a.t b.t), 0)] : Cs).map (·.2)) (w : World) : Calls Try.prog 26 #[VN a, VN b] w fun e w' => e = .returned (.bool false) ∧ Gr w w' :=
  rk hkBase_ok (inOrc false) (cs := ([(b2i (tW a.t && tW b.t), 1), (b2i (tInI a.t b.t), 0)] : Cs)) rfl (by kernel_rfl) (by kernel_rfl) he w
theorem in_0 (a b : NI) (h1 : (tW a.t && tW b.t) = true) (k : tInI a.t b.t = false) (w : World) : Calls Try.prog 26 #[VN a, VN b] w fun e w' => e = .returned (.bool false) ∧ Gr w w' :=
  in_0_r a b (by rw [h1, k]; rfl) w
set_option maxHeartbeats 0 in
set_option maxRecDepth 1000000 in
theorem in_1_r (a b : NI) (he : ([(b2i (tW a.t && tW b.t), 1), (b2i (tInI a.t b.t), 1), (b2i (sW a.s && sW b.s), 1)] : Cs).map (·.1) = ([(b2i (tW a.t && tW b.t), 1), (b2i (tInI a.t b.t), 1), (b2i (sW a.s && sW b.s), 1)] : Cs).map (·.2)) (w : World) : Calls Try.prog 26 #[VN a, VN b] w fun e w' => e = .returned (.bool (sInI a.s b.s)) ∧ Gr w w' :=
  rk hkBase_ok (inOrc true) (cs := ([(b2i (tW a.t && tW b.t), 1), (b2i (tInI a.t b.t), 1), (b2i (sW a.s && sW b.s), 1)] : Cs)) rfl (by kernel_rfl) (by kernel_rfl) he w
theorem in_1 (a b : NI) (h1 : (tW a.t && tW b.t) = true) (h2 : (sW a.s && sW b.s) = true) (k : tInI a.t b.t = true) (w : World) : Calls Try.prog 26 #[VN a, VN b] w fun e w' => e = .returned (.bool (sInI a.s b.s)) ∧ Gr w w' :=
  in_1_r a b (by rw [h1, k, h2]; rfl) w
def nInI (a b : NI) : Bool := tInI a.t b.t && sInI a.s b.s
theorem c_in (a b : NI) (hw : (nW a && nW b) = true) (w : World) : Calls Try.prog 26 #[VN a, VN b] w fun e w' => e = .returned (.bool (nInI a b)) ∧ Gr w w' := by
  unfold nW at hw
  simp only [Bool.and_eq_true] at hw
  have h1 : (tW a.t && tW b.t) = true := by rw [hw.1.1, hw.2.1]; rfl
  have h2 : (sW a.s && sW b.s) = true := by rw [hw.1.2, hw.2.2]; rfl
  cases k : tInI a.t b.t with
  | true => exact ret_eq (by simp only [nInI, k]; rfl) (in_1 a b h1 h2 k w)
  | false => exact ret_eq (by simp only [nInI, k]; rfl) (in_0 a b h1 k w)
def hk_in : Hook := fun f args _ =>
  if Nat.beq f 26 then
    match args with
    | [.agg ⟨[.int .u64 a0, .int .u64 a1, .int .u64 a2, .int .u64 a3, .int .i64 a4, .int .i64 a5]⟩, .agg ⟨[.int .u64 b0, .int .u64 b1, .int .u64 b2, .int .u64 b3, .int .i64 b4, .int .i64 b5]⟩] => some (.bool (nInI (⟨⟨a0, a1⟩, ⟨a2, a3, a4, a5⟩⟩ : NI) (⟨⟨b0, b1⟩, ⟨b2, b3, b4, b5⟩⟩ : NI)), [(b2i (nW (⟨⟨a0, a1⟩, ⟨a2, a3, a4, a5⟩⟩ : NI) && nW (⟨⟨b0, b1⟩, ⟨b2, b3, b4, b5⟩⟩ : NI)), 1)])
    | _ => none
  else none
theorem hk_in_ok : HookOk Try.prog hk_in := by
  intro f args h v cs hv hc wb k s w H
  unfold hk_in at hv
  split at hv
  · rename_i hf
    obtain rfl := Nat.eq_of_beq_eq_true hf
    split at hv
    · rename_i a0 a1 a2 a3 a4 a5 b0 b1 b2 b3 b4 b5
      cases hv
      have hw := pair1 hc rfl
      exact c_in (⟨⟨a0, a1⟩, ⟨a2, a3, a4, a5⟩⟩ : NI) (⟨⟨b0, b1⟩, ⟨b2, b3, b4, b5⟩⟩ : NI) hw w
    · cases hv
  · cases hv
def sUptoI (v : Int) : SI := if decide (v ≤ 9223372036854775807) then ⟨0, v, 0, IntKind.i64.wrap v⟩ else ⟨0, v, -9223372036854775808, 9223372036854775807⟩
def uptoOrc (b7 : Bool) : Orc := fun f t _ => if Nat.beq f 74 then (if Nat.beq t 7 then some (.bool b7) else none) else none
set_option maxHeartbeats 0 in
set_option maxRecDepth 1000000 in
theorem supto_0_r (v : Int) (he : ([(b2i (decide (v ≤ 9223372036854775807)), 0)] : Cs).map (·.1) = ([(b2i (decide (v ≤ 9223372036854775807)), 0)] : Cs).map (·.2)) (w : World) : Calls Try.prog 74 #[.int .u64 v] w fun e w' => e = .returned (VS ⟨0, v, -9223372036854775808, 9223372036854775807⟩) ∧ Gr w w' :=
  rk hkBase_ok (uptoOrc false) (cs := ([(b2i (decide (v ≤ 9223372036854775807)), 0)] : Cs)) rfl (by kernel_rfl) (by kernel_rfl) he w
theorem supto_0 (v : Int) (k : decide (v ≤ 9223372036854775807) = false) (w : World) : Calls Try.prog 74 #[.int .u64 v] w fun e w' => e = .returned (VS ⟨0, v, -9223372036854775808, 9223372036854775807⟩) ∧ Gr w w' :=
  supto_0_r v (by rw [k]; rfl) w
set_option maxHeartbeats 0 in
set_option maxRecDepth 1000000 in
theorem supto_1_r (v : Int) (he : ([(b2i (decide (v ≤ 9223372036854775807)), 1)] : Cs).map (·.1) = ([(b2i (decide (v ≤ 9223372036854775807)), 1)] : Cs).map (·.2)) (w : World) : Calls Try.prog 74 #[.int .u64 v] w fun e w' => e = .returned (VS ⟨0, v, 0, IntKind.i64.wrap v⟩) ∧ Gr w w' :=
  rk hkBase_ok (uptoOrc true) (cs := ([(b2i (decide (v ≤ 9223372036854775807)), 1)] : Cs)) rfl (by kernel_rfl) (by kernel_rfl) he w
theorem supto_1 (v : Int) (k : decide (v ≤ 9223372036854775807) = true) (w : World) : Calls Try.prog 74 #[.int .u64 v] w fun e w' => e = .returned (VS ⟨0, v, 0, IntKind.i64.wrap v⟩) ∧ Gr w w' :=
  supto_1_r v (by rw [k]; rfl) w
theorem c_supto (v : Int) (w : World) : Calls Try.prog 74 #[.int .u64 v] w fun e w' => e = .returned (VS (sUptoI v)) ∧ Gr w w' := by
  cases k : decide (v ≤ 9223372036854775807) with
  | true => exact ret_eq (by simp only [sUptoI, k]; rfl) (supto_1 v k w)
  | false => exact ret_eq (by simp only [sUptoI, k]; rfl) (supto_0 v k w)
def hk_supto : Hook := fun f args _ =>
  if Nat.beq f 74 then
    match args with
    | [.int .u64 a] => some (VS (sUptoI a), [])
    | _ => none
  else none
theorem hk_supto_ok : HookOk Try.prog hk_supto := by
  intro f args h v cs hv hc wb k s w H
  unfold hk_supto at hv
  split at hv
  · rename_i hf
    obtain rfl := Nat.eq_of_beq_eq_true hf
    split at hv
    · rename_i a
      cases hv
      exact c_supto a w
    · cases hv
  · cases hv
def hk4 : Hook := orHook hk_tight (orHook hk_settled (orHook hk_in (orHook hk_supto (hk2))))
theorem hk4_ok : HookOk Try.prog hk4 := orHook_ok hk_tight_ok (orHook_ok hk_settled_ok (orHook_ok hk_in_ok (orHook_ok hk_supto_ok (hk2_ok))))
def uptoI (v : Int) : NI := ⟨tRangeI 0 v, sUptoI v⟩
set_option maxHeartbeats 0 in
set_option maxRecDepth 1000000 in
theorem c_upto_r (v : Int) (he : ([(b2i (uB 0 && uB v), 1)] : Cs).map (·.1) = ([(b2i (uB 0 && uB v), 1)] : Cs).map (·.2)) (w : World) : Calls Try.prog 38 #[.int .u64 v] w fun e w' => e = .returned (VN (uptoI v)) ∧ Gr w w' :=
  rk hk4_ok noOrc (cs := ([(b2i (uB 0 && uB v), 1)] : Cs)) rfl (by kernel_rfl) (by kernel_rfl) he w
theorem c_upto (v : Int) (hw : uB v = true) (w : World) : Calls Try.prog 38 #[.int .u64 v] w fun e w' => e = .returned (VN (uptoI v)) ∧ Gr w w' :=
  c_upto_r v (by rw [hw]; rfl) w
theorem sW_upto {v : Int} (h : uB v = true) : sW (sUptoI v) = true := by
  unfold sUptoI sW
  have z : uB 0 = true := rfl
  have z1 : zB 0 = true := rfl
  split
  · simp only [h, z, z1, i64_zB, Bool.and_self]
  · rw [h, z]; rfl
theorem nW_upto {v : Int} (h : uB v = true) : nW (uptoI v) = true := by unfold nW uptoI; rw [sW_upto h]; simp only [tRange_tW, Bool.and_self]
def hk_upto : Hook := fun f args _ =>
  if Nat.beq f 38 then
    match args with
    | [.int .u64 a] => some (VN (uptoI a), [(b2i (uB a), 1)])
    | _ => none
  else none
theorem hk_upto_ok : HookOk Try.prog hk_upto := by
  intro f args h v cs hv hc wb k s w H
  unfold hk_upto at hv
  split at hv
  · rename_i hf
    obtain rfl := Nat.eq_of_beq_eq_true hf
    split at hv
    · rename_i a
      cases hv
      have hw := pair1 hc rfl
      exact c_upto a hw w
    · cases hv
  · cases hv
def lshI (a : NI) (n : Int) : NI := ⟨tLshI a.t n, sLshI a.s n⟩
set_option maxHeartbeats 0 in
set_option maxRecDepth 1000000 in
theorem lsh_1_r (a : NI) (n : Int) (he : ([(b2i (tW a.t && zB n), 1), (b2i (sW a.s && zB n), 1)] : Cs).map (·.1) = ([(b2i (tW a.t && zB n), 1), (b2i (sW a.s && zB n), 1)] : Cs).map (·.2)) (w : World) : Calls Try.prog 100 #[VN a, .int .i64 n] w fun e w' => e = .returned (VN (lshI a n)) ∧ Gr w w' :=
  rk hk4_ok noOrc (cs := ([(b2i (tW a.t && zB n), 1), (b2i (sW a.s && zB n), 1)] : Cs)) rfl (by kernel_rfl) (by kernel_rfl) he w
theorem lsh_1 (a : NI) (n : Int) (h1 : (tW a.t && zB n) = true) (h2 : (sW a.s && zB n) = true) (w : World) : Calls Try.prog 100 #[VN a, .int .i64 n] w fun e w' => e = .returned (VN (lshI a n)) ∧ Gr w w' :=
  lsh_1_r a n (by rw [h1, h2]; rfl) w
theorem c_lsh (a : NI) (n : Int) (hw : (nW a && zB n) = true) (w : World) : Calls Try.prog 100 #[VN a, .int .i64 n] w fun e w' => e = .returned (VN (lshI a n)) ∧ Gr w w' := by
  unfold nW at hw
  simp only [Bool.and_eq_true] at hw
  exact lsh_1 a n (by rw [hw.1.1, hw.2]; rfl) (by rw [hw.1.2, hw.2]; rfl) w
theorem nW_lsh (a : NI) (n : Int) : nW (lshI a n) = true := by unfold nW lshI; simp only [tLshI, sLshI, tW_tN, sW_sN, Bool.and_self]
def hk_lsh : Hook := fun f args _ =>
  if Nat.beq f 100 then
    match args with
    | [.agg ⟨[.int .u64 a0, .int .u64 a1, .int .u64 a2, .int .u64 a3, .int .i64 a4, .int .i64 a5]⟩, .int .i64 b] => some (VN (lshI (⟨⟨a0, a1⟩, ⟨a2, a3, a4, a5⟩⟩ : NI) b), [(b2i (nW (⟨⟨a0, a1⟩, ⟨a2, a3, a4, a5⟩⟩ : NI) && zB b), 1)])
    | _ => none
  else none
theorem hk_lsh_ok : HookOk Try.prog hk_lsh := by
  intro f args h v cs hv hc wb k s w H
  unfold hk_lsh at hv
  split at hv
  · rename_i hf
    obtain rfl := Nat.eq_of_beq_eq_true hf
    split at hv
    · rename_i a0 a1 a2 a3 a4 a5 b
      cases hv
      have hw := pair1 hc rfl
      exact c_lsh (⟨⟨a0, a1⟩, ⟨a2, a3, a4, a5⟩⟩ : NI) b hw w
    · cases hv
  · cases hv
def arshI (a : NI) (n : Int) : NI := ⟨tArshI a.t n, sArshI a.s n⟩
set_option maxHeartbeats 0 in
set_option maxRecDepth 1000000 in
theorem arsh_1_r (a : NI) (n : Int) (he : ([(b2i (tW a.t && zB n), 1), (b2i (sW a.s && zB n), 1)] : Cs).map (·.1) = ([(b2i (tW a.t && zB n), 1), (b2i (sW a.s && zB n), 1)] : Cs).map (·.2)) (w : World) : Calls Try.prog 71 #[VN a, .int .i64 n] w fun e w' => e = .returned (VN (arshI a n)) ∧ Gr w w' :=
  rk hk4_ok noOrc (cs := ([(b2i (tW a.t && zB n), 1), (b2i (sW a.s && zB n), 1)] : Cs)) rfl (by kernel_rfl) (by kernel_rfl) he w
theorem arsh_1 (a : NI) (n : Int) (h1 : (tW a.t && zB n) = true) (h2 : (sW a.s && zB n) = true) (w : World) : Calls Try.prog 71 #[VN a, .int .i64 n] w fun e w' => e = .returned (VN (arshI a n)) ∧ Gr w w' :=
  arsh_1_r a n (by rw [h1, h2]; rfl) w
theorem c_arsh (a : NI) (n : Int) (hw : (nW a && zB n) = true) (w : World) : Calls Try.prog 71 #[VN a, .int .i64 n] w fun e w' => e = .returned (VN (arshI a n)) ∧ Gr w w' := by
  unfold nW at hw
  simp only [Bool.and_eq_true] at hw
  exact arsh_1 a n (by rw [hw.1.1, hw.2]; rfl) (by rw [hw.1.2, hw.2]; rfl) w
theorem nW_arsh (a : NI) (n : Int) : nW (arshI a n) = true := by unfold nW arshI; simp only [tArshI, sArshI, tW_tN, sW_sN, Bool.and_self]
def hk_arsh : Hook := fun f args _ =>
  if Nat.beq f 71 then
    match args with
    | [.agg ⟨[.int .u64 a0, .int .u64 a1, .int .u64 a2, .int .u64 a3, .int .i64 a4, .int .i64 a5]⟩, .int .i64 b] => some (VN (arshI (⟨⟨a0, a1⟩, ⟨a2, a3, a4, a5⟩⟩ : NI) b), [(b2i (nW (⟨⟨a0, a1⟩, ⟨a2, a3, a4, a5⟩⟩ : NI) && zB b), 1)])
    | _ => none
  else none
theorem hk_arsh_ok : HookOk Try.prog hk_arsh := by
  intro f args h v cs hv hc wb k s w H
  unfold hk_arsh at hv
  split at hv
  · rename_i hf
    obtain rfl := Nat.eq_of_beq_eq_true hf
    split at hv
    · rename_i a0 a1 a2 a3 a4 a5 b
      cases hv
      have hw := pair1 hc rfl
      exact c_arsh (⟨⟨a0, a1⟩, ⟨a2, a3, a4, a5⟩⟩ : NI) b hw w
    · cases hv
  · cases hv
def hk5 : Hook := orHook hk_tight (orHook hk_settled (orHook hk_in (orHook hk_supto (orHook hk_upto (orHook hk_lsh (orHook hk_arsh (hk2)))))))
theorem hk5_ok : HookOk Try.prog hk5 := orHook_ok hk_tight_ok (orHook_ok hk_settled_ok (orHook_ok hk_in_ok (orHook_ok hk_supto_ok (orHook_ok hk_upto_ok (orHook_ok hk_lsh_ok (orHook_ok hk_arsh_ok (hk2_ok)))))))
def extI (a : NI) : NI := arshI (lshI a 32) 32
set_option maxHeartbeats 0 in
set_option maxRecDepth 1000000 in
theorem ext_1_r (a : NI) (he : ([(b2i (nW a && zB 32), 1), (b2i (nW (lshI a 32) && zB 32), 1)] : Cs).map (·.1) = ([(b2i (nW a && zB 32), 1), (b2i (nW (lshI a 32) && zB 32), 1)] : Cs).map (·.2)) (w : World) : Calls Try.prog 72 #[VN a] w fun e w' => e = .returned (VN (extI a)) ∧ Gr w w' :=
  rk hk5_ok noOrc (cs := ([(b2i (nW a && zB 32), 1), (b2i (nW (lshI a 32) && zB 32), 1)] : Cs)) rfl (by kernel_rfl) (by kernel_rfl) he w
theorem ext_1 (a : NI) (h1 : (nW a && zB 32) = true) (h2 : (nW (lshI a 32) && zB 32) = true) (w : World) : Calls Try.prog 72 #[VN a] w fun e w' => e = .returned (VN (extI a)) ∧ Gr w w' :=
  ext_1_r a (by rw [h1, h2]; rfl) w
theorem c_ext (a : NI) (hw : nW a = true) (w : World) : Calls Try.prog 72 #[VN a] w fun e w' => e = .returned (VN (extI a)) ∧ Gr w w' := ext_1 a (by rw [hw]; rfl) (by rw [nW_lsh]; rfl) w
theorem nW_ext (a : NI) : nW (extI a) = true := nW_arsh _ _
def hk_ext : Hook := fun f args _ =>
  if Nat.beq f 72 then
    match args with
    | [.agg ⟨[.int .u64 a0, .int .u64 a1, .int .u64 a2, .int .u64 a3, .int .i64 a4, .int .i64 a5]⟩] => some (VN (extI (⟨⟨a0, a1⟩, ⟨a2, a3, a4, a5⟩⟩ : NI)), [(b2i (nW (⟨⟨a0, a1⟩, ⟨a2, a3, a4, a5⟩⟩ : NI)), 1)])
    | _ => none
  else none
theorem hk_ext_ok : HookOk Try.prog hk_ext := by
  intro f args h v cs hv hc wb k s w H
  unfold hk_ext at hv
  split at hv
  · rename_i hf
    obtain rfl := Nat.eq_of_beq_eq_true hf
    split at hv
    · rename_i a0 a1 a2 a3 a4 a5
      cases hv
      have hw := pair1 hc rfl
      exact c_ext (⟨⟨a0, a1⟩, ⟨a2, a3, a4, a5⟩⟩ : NI) hw w
    · cases hv
  · cases hv
def lowI (a : NI) : NI := settledI ⟨tLowI a.t 32, sLowI a.s⟩
set_option maxHeartbeats 0 in
set_option maxRecDepth 1000000 in
theorem low_1_r (a : NI) (he : ([(b2i (tW a.t && zB 32), 1), (b2i (sW a.s), 1), (b2i (nW (⟨tLowI a.t 32, sLowI a.s⟩ : NI)), 1)] : Cs).map (·.1) = ([(b2i (tW a.t && zB 32), 1), (b2i (sW a.s), 1), (b2i (nW (⟨tLowI a.t 32, sLowI a.s⟩ : NI)), 1)] : Cs).map (·.2)) (w : World) : Calls Try.prog 34 #[VN a] w fun e w' => e = .returned (VN (lowI a)) ∧ Gr w w' :=
  rk hk5_ok noOrc (cs := ([(b2i (tW a.t && zB 32), 1), (b2i (sW a.s), 1), (b2i (nW (⟨tLowI a.t 32, sLowI a.s⟩ : NI)), 1)] : Cs)) rfl (by kernel_rfl) (by kernel_rfl) he w
theorem low_1 (a : NI) (h1 : (tW a.t && zB 32) = true) (h2 : sW a.s = true) (h3 : nW (⟨tLowI a.t 32, sLowI a.s⟩ : NI) = true) (w : World) : Calls Try.prog 34 #[VN a] w fun e w' => e = .returned (VN (lowI a)) ∧ Gr w w' :=
  low_1_r a (by rw [h1, h2, h3]; rfl) w
theorem nW_low0 (a : NI) : nW (⟨tLowI a.t 32, sLowI a.s⟩ : NI) = true := by unfold nW; simp only [tLowI, sLowI, tW_tN, sW_sN, Bool.and_self]
theorem c_low (a : NI) (hw : nW a = true) (w : World) : Calls Try.prog 34 #[VN a] w fun e w' => e = .returned (VN (lowI a)) ∧ Gr w w' := by
  unfold nW at hw
  simp only [Bool.and_eq_true] at hw
  exact low_1 a (by rw [hw.1]; rfl) hw.2 (nW_low0 a) w
theorem nW_lowI (a : NI) : nW (lowI a) = true := nW_settled (nW_low0 a)
def hk_low : Hook := fun f args _ =>
  if Nat.beq f 34 then
    match args with
    | [.agg ⟨[.int .u64 a0, .int .u64 a1, .int .u64 a2, .int .u64 a3, .int .i64 a4, .int .i64 a5]⟩] => some (VN (lowI (⟨⟨a0, a1⟩, ⟨a2, a3, a4, a5⟩⟩ : NI)), [(b2i (nW (⟨⟨a0, a1⟩, ⟨a2, a3, a4, a5⟩⟩ : NI)), 1)])
    | _ => none
  else none
theorem hk_low_ok : HookOk Try.prog hk_low := by
  intro f args h v cs hv hc wb k s w H
  unfold hk_low at hv
  split at hv
  · rename_i hf
    obtain rfl := Nat.eq_of_beq_eq_true hf
    split at hv
    · rename_i a0 a1 a2 a3 a4 a5
      cases hv
      have hw := pair1 hc rfl
      exact c_low (⟨⟨a0, a1⟩, ⟨a2, a3, a4, a5⟩⟩ : NI) hw w
    · cases hv
  · cases hv
def constI (v : Int) : NI := ⟨⟨v, 0⟩, sConstI v⟩
set_option maxHeartbeats 0 in
set_option maxRecDepth 1000000 in
theorem c_const_r (v : Int) (he : ([(b2i (uB v), 1)] : Cs).map (·.1) = ([(b2i (uB v), 1)] : Cs).map (·.2)) (w : World) : Calls Try.prog 8 #[.int .u64 v] w fun e w' => e = .returned (VN (constI v)) ∧ Gr w w' :=
  rk hk5_ok noOrc (cs := ([(b2i (uB v), 1)] : Cs)) rfl (by kernel_rfl) (by kernel_rfl) he w
theorem c_const (v : Int) (hw : uB v = true) (w : World) : Calls Try.prog 8 #[.int .u64 v] w fun e w' => e = .returned (VN (constI v)) ∧ Gr w w' :=
  c_const_r v (by rw [hw]; rfl) w
def hk_const : Hook := fun f args _ =>
  if Nat.beq f 8 then
    match args with
    | [.int .u64 a] => some (VN (constI a), [(b2i (uB a), 1)])
    | _ => none
  else none
theorem hk_const_ok : HookOk Try.prog hk_const := by
  intro f args h v cs hv hc wb k s w H
  unfold hk_const at hv
  split at hv
  · rename_i hf
    obtain rfl := Nat.eq_of_beq_eq_true hf
    split at hv
    · rename_i a
      cases hv
      have hw := pair1 hc rfl
      exact c_const a hw w
    · cases hv
  · cases hv
theorem nW_const {v : Int} (h : uB v = true) : nW (constI v) = true := by
  unfold nW constI tW
  simp only [h, sConstI, sW_sN, Bool.and_true]
  rfl
def hk6 : Hook := orHook hk_tight (orHook hk_settled (orHook hk_in (orHook hk_supto (orHook hk_upto (orHook hk_lsh (orHook hk_arsh (orHook hk_ext (orHook hk_low (orHook hk_const (hk2))))))))))
theorem hk6_ok : HookOk Try.prog hk6 := orHook_ok hk_tight_ok (orHook_ok hk_settled_ok (orHook_ok hk_in_ok (orHook_ok hk_supto_ok (orHook_ok hk_upto_ok (orHook_ok hk_lsh_ok (orHook_ok hk_arsh_ok (orHook_ok hk_ext_ok (orHook_ok hk_low_ok (orHook_ok hk_const_ok (hk2_ok))))))))))
end Go.Proofs.Ytdlgebfaijlaoaa.Ex
end
