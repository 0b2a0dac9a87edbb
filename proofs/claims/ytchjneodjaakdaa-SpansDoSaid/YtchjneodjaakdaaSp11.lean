/-
  Contracts of package spans: shifts, the lowest 32 bits.
-/
import Derived.Test.YtchjneodjaakdaaSp9
namespace Go.Proofs.Ytchjneodjaakdaa
open Go.RowKit
open Spn (Sp umax umin smax smin plusS minusS emptyS okS tightS anyS settledS commonS minW maxW endsS sendsS plainS signedS constS uptoS halfW lshR rshR arshR low32R)
theorem and63 (n : Int) (h0 : -9223372036854775808 ≤ n) (h1 : n ≤ 9223372036854775807) : bits .and .i64 n 63 = n % 64 := by
  show IntKind.i64.wrap (N (BitVec.ofInt 64 n &&& BitVec.ofInt 64 63)) = _
  have e : N (BitVec.ofInt 64 n &&& BitVec.ofInt 64 63) = N (BitVec.ofInt 64 n) % 64 := by
    unfold N
    rw [BitVec.toNat_and, show (BitVec.ofInt 64 63).toNat = 2 ^ 6 - 1 by decide, Nat.and_two_pow_sub_one_eq_mod]
    simp
  rw [e, N_ofInt_mod]
  have : ((2 ^ 64 : Nat) : Int) = 18446744073709551616 := by decide
  rw [this]
  simp [IntKind.wrap, IntKind.bits, IntKind.signed]
  omega
theorem N_shrk (v : BitVec 64) (k : Nat) : N v / 2 ^ k = N (v >>> k) := N_shr v k
theorem Z_shrk (v : BitVec 64) (k : Nat) : Z v / 2 ^ k = Z (v.sshiftRight k) := Z_shr v k
theorem shl_u (v : BitVec 64) (k : Nat) : BitVec.ofInt 64 (N v * 2 ^ k) = v <<< k := by rw [ofInt_shl, ofInt_N]
theorem shl_i (v : BitVec 64) (k : Nat) : wrap64 (Z v * 2 ^ k) = Z (v <<< k) := by rw [← Z_ofInt, ofInt_shl, ofInt_Z64]
attribute [local go_sem] u64_wrap ofInt_N ofInt_Nw u64_and wrap64_N ofInt_Z64 N_shrk Z_shrk shl_u shl_i
/-- One argument that is settled, and the result's place. -/
structure Set1 (w : World) (A R : Nat) (a : Sp) (W : World) : Prop where
  a0 : W.cell? ⟨A, 0, none⟩ = some (.int .u64 (N a.lo))
  a1 : W.cell? ⟨A, 1, none⟩ = some (.int .u64 (N a.hi))
  a2 : W.cell? ⟨A, 2, none⟩ = some (.int .i64 (Z a.slo))
  a3 : W.cell? ⟨A, 3, none⟩ = some (.int .i64 (Z a.shi))
  r0 : W.cell? ⟨R, 0, none⟩ = some (.int .u64 0)
  r1 : W.cell? ⟨R, 1, none⟩ = some (.int .u64 0)
  r2 : W.cell? ⟨R, 2, none⟩ = some (.int .i64 0)
  r3 : W.cell? ⟨R, 3, none⟩ = some (.int .i64 0)
  f0 : W.frozen? ⟨R, 0, none⟩ = false
  f1 : W.frozen? ⟨R, 1, none⟩ = false
  f2 : W.frozen? ⟨R, 2, none⟩ = false
  f3 : W.frozen? ⟨R, 3, none⟩ = false
  hA : A < W.heap.size
  hR : R < W.heap.size
  gr : Grown w W
  lo : w.heap.size ≤ R
theorem Set1.grown {w : World} {A R : Nat} {a : Sp} {W W' : World} (h : Set1 w A R a W) (g : Grown W W') : Set1 w A R a W' :=
  ⟨grown_cellAt g h.hA h.a0, grown_cellAt g h.hA h.a1, grown_cellAt g h.hA h.a2, grown_cellAt g h.hA h.a3,
   grown_cellAt g h.hR h.r0, grown_cellAt g h.hR h.r1, grown_cellAt g h.hR h.r2, grown_cellAt g h.hR h.r3, (g.2.1 _).trans h.f0, (g.2.1 _).trans h.f1, (g.2.1 _).trans h.f2, (g.2.1 _).trans h.f3,
   Nat.lt_of_lt_of_le h.hA g.2.2, Nat.lt_of_lt_of_le h.hR g.2.2, Grown.trans' h.gr g, h.lo⟩
theorem held_set1 {w : World} {A R : Nat} {a : Sp} {P : Program} {f : FuncId} {args : Array Value} {v : Value} (x : Held (fun y => Set1 w A R a y))
    (h : Calls P f args x.w fun e w' => e = .returned v ∧ Grown x.w w') : Calls P f args x.w fun e w'' => e = .returned v ∧ ∃ y : Held (fun y => Set1 w A R a y), w'' = y.w := held_call (fun _ _ h g => Set1.grown h g) x h
abbrev twoW (w : World) (x : Array Value) : World := (w.alloc (.cells x 49)).alloc (.cells #[.int .u64 0, .int .u64 0, .int .i64 0, .int .i64 0] 49)
theorem set1_of {w wn : World} {x0 x1 x2 x3 : Value} (a : Sp) (G : Grown (twoW w #[x0, x1, x2, x3]) wn) :
    Set1 w w.heap.size (w.heap.size + 1) a ((((wn.setCell ⟨w.heap.size, 0, none⟩ (.int .u64 (N a.lo))).setCell ⟨w.heap.size, 1, none⟩ (.int .u64 (N a.hi))).setCell ⟨w.heap.size, 2, none⟩ (.int .i64 (Z a.slo))).setCell ⟨w.heap.size, 3, none⟩ (.int .i64 (Z a.shi))) := by
  have gc := gcellI G
  have gf := gfrozI G
  have gz := G.2.2
  have A0 : ∀ (i : Nat) (v : Value), i < 4 → (#[x0, x1, x2, x3] : Array Value)[i]? = some v → wn.cell? ⟨w.heap.size, i, none⟩ = some v := fun i v hi hv => by rw [gc _ _ (by simp; omega)]; simp [go_sem, hv]
  have R0 : ∀ (i : Nat) (v : Value), i < 4 → (#[.int .u64 0, .int .u64 0, .int .i64 0, .int .i64 0] : Array Value)[i]? = some v → wn.cell? ⟨w.heap.size + 1, i, none⟩ = some v := fun i v hi hv => by rw [gc _ _ (by simp)]; simp [go_sem, hv]
  have F0 : ∀ o, wn.frozen? ⟨w.heap.size + 1, o, none⟩ = false := fun o => by
    rw [gf]
    exact ((Grown.alloc (Grown.refl _) _ _).2.1 _).trans (((Grown.alloc (Grown.refl _) _ _).2.1 _).trans (by simp [World.frozen?, Array.getElem?_eq_none (show w.heap.size ≤ w.heap.size + 1 by omega)]))
  have G0 : Grown w wn := Grown.trans' (by go_grown) G
  have gr := (((G0.setCell (a := ⟨w.heap.size, 0, none⟩) (Nat.le_refl _) (.int .u64 (N a.lo))).setCell (a := ⟨w.heap.size, 1, none⟩) (Nat.le_refl _) (.int .u64 (N a.hi))).setCell (a := ⟨w.heap.size, 2, none⟩) (Nat.le_refl _) (.int .i64 (Z a.slo))).setCell (a := ⟨w.heap.size, 3, none⟩) (Nat.le_refl _) (.int .i64 (Z a.shi))
  obtain ⟨p0, p1, p2, p3, po, pf, ps⟩ := set4 (A0 0 _ (by decide) rfl) (A0 1 _ (by decide) rfl) (A0 2 _ (by decide) rfl) (A0 3 _ (by decide) rfl) (.int .u64 (N a.lo)) (.int .u64 (N a.hi)) (.int .i64 (Z a.slo)) (.int .i64 (Z a.shi))
  have n1 : ¬ w.heap.size + 1 = w.heap.size := by omega
  simp at gz
  exact ⟨p0, p1, p2, p3, (po _ _ n1).trans (R0 0 _ (by decide) rfl), (po _ _ n1).trans (R0 1 _ (by decide) rfl), (po _ _ n1).trans (R0 2 _ (by decide) rfl), (po _ _ n1).trans (R0 3 _ (by decide) rfl), (pf _).trans (F0 0), (pf _).trans (F0 1), (pf _).trans (F0 2), (pf _).trans (F0 3), by rw [ps]; omega, by rw [ps]; omega, gr, by omega⟩
set_option maxHeartbeats 4000000 in
theorem sp_rsh (lo hi slo shi : BitVec 64) (n : Int) (h0 : -9223372036854775808 ≤ n) (h1 : n ≤ 9223372036854775807) (w : World) : Calls Try.prog 43 #[.agg #[.int .u64 (N lo), .int .u64 (N hi), .int .i64 (Z slo), .int .i64 (Z shi)], .int .i64 n] w fun e w' => e = .returned (.agg #[.int .u64 (N (rshR (settledS (⟨lo, hi, slo, shi⟩ : Sp)) (n % 64).toNat).lo), .int .u64 (N (rshR (settledS (⟨lo, hi, slo, shi⟩ : Sp)) (n % 64).toNat).hi), .int .i64 (Z (rshR (settledS (⟨lo, hi, slo, shi⟩ : Sp)) (n % 64).toNat).slo), .int .i64 (Z (rshR (settledS (⟨lo, hi, slo, shi⟩ : Sp)) (n % 64).toNat).shi)]) ∧ Grown w w' := by
  have HA := Lib.hid (fun w => sp_settled lo hi slo shi w)
  generalize settledS (⟨lo, hi, slo, shi⟩ : Sp) = a at *
  obtain ⟨k, hk⟩ : ∃ k : Nat, n % 64 = (k : Int) := ⟨(n % 64).toNat, by omega⟩
  have hk64 : k < 64 := by omega
  have hand : bits .and .i64 n 63 = (k : Int) := (and63 n h0 h1).trans hk
  have ek : (n % 64).toNat = k := by omega
  have k0 : (0 : Int) ≤ (k : Int) := by omega
  rw [ek]
  clear hk h0 h1 ek
  go_enter Try.func43, Try.ntmps43
  go_upto_region 2 with (go_at_call 59; ((with_reducible refine (HA.out _).mono ?_); rintro e wn ⟨rfl, hg⟩; have G : Grown (twoW w #[.int .u64 (N lo), .int .u64 (N hi), .int .i64 (Z slo), .int .i64 (Z shi)]) wn := hg; have gc := gcellI G; have gf := gfrozI G))
  have S := set1_of a G
  clear gc gf HA G hg
  generalize ((((wn.setCell ⟨w.heap.size, 0, none⟩ (.int .u64 (N a.lo))).setCell ⟨w.heap.size, 1, none⟩ (.int .u64 (N a.hi))).setCell ⟨w.heap.size, 2, none⟩ (.int .i64 (Z a.slo))).setCell ⟨w.heap.size, 3, none⟩ (.int .i64 (Z a.shi))) = W1 at *
  generalize w.heap.size + 1 = R at *
  generalize w.heap.size = A at *
  obtain ⟨a0, a1, a2, a3, r0, r1, r2, r3, f0, f1, f2, f3, hA, hR, gr, lo⟩ := id S
  clear gr
  by_cases hz : k = 0
  · subst hz
    have z1 : (((0 : Nat) : Int) == 0) = true := rfl
    go_wp2_with fail
    refine bodyPost_ret (v := .agg #[.int .u64 (N (a).lo), .int .u64 (N (a).hi), .int .i64 (Z (a).slo), .int .i64 (Z (a).shi)]) (by simp [results, Try.results43, go_sem, r0, r1, r2, r3]) rfl ⟨by rw [show rshR a 0 = a from if_pos rfl], ((((S.gr.setCell (a := ⟨R, 0, none⟩) S.lo _).setCell (a := ⟨R, 1, none⟩) S.lo _).setCell (a := ⟨R, 2, none⟩) S.lo _).setCell (a := ⟨R, 3, none⟩) S.lo _)⟩
  have z1 : ((k : Int) == 0) = false := by simpa using hz
  have HZ := Lib.hid hz
  clear hz
  go_upto_region 4 with fail
  have q0 : ∀ z : Held (fun y => Set1 w A R a y), z.w.cell? ⟨A, 0, none⟩ = some _ := fun z => z.h.a0
  have q1 : ∀ z : Held (fun y => Set1 w A R a y), z.w.cell? ⟨A, 1, none⟩ = some _ := fun z => z.h.a1
  have q2 : ∀ z : Held (fun y => Set1 w A R a y), z.w.cell? ⟨A, 2, none⟩ = some _ := fun z => z.h.a2
  have q3 : ∀ z : Held (fun y => Set1 w A R a y), z.w.cell? ⟨A, 3, none⟩ = some _ := fun z => z.h.a3
  refine wp_region_lex_tail (fun y => Set1 w A R a y) 10 (by kernel_rfl) (by kernel_rfl) (S.grown (Grown.drew (Grown.refl _))) (fun hNon => ?_)
  simp only [List.take_succ_cons, List.take_zero, List.drop_succ_cons, List.drop_zero]
  repeat (go_big_quiet_step ((first | (go_at_call 69; exact held_set1 _ (sp_plain _ _ _)) | (go_at_call 59; exact held_set1 _ (sp_settled _ _ _ _ _)))))
  refine wpQuiet_nil ?_
  clear a0 a1 a2 a3 r0 r1 r2 r3 f0 f1 f2 f3 hA hR lo S
  intro w5 S
  clear hNon q0 q1 q2 q3
  obtain ⟨a0, a1, a2, a3, r0, r1, r2, r3, f0, f1, f2, f3, hA, hR, gr, lo⟩ := id S
  clear gr
  go_wp2
  refine bodyPost_ret (v := .agg #[.int .u64 (N (settledS (plainS (a.lo >>> k) (a.hi >>> k))).lo), .int .u64 (N (settledS (plainS (a.lo >>> k) (a.hi >>> k))).hi), .int .i64 (Z (settledS (plainS (a.lo >>> k) (a.hi >>> k))).slo), .int .i64 (Z (settledS (plainS (a.lo >>> k) (a.hi >>> k))).shi)]) (by simp [results, Try.results43, go_sem, r0, r1, r2, r3]) rfl ⟨by rw [show rshR a k = settledS (plainS (a.lo >>> k) (a.hi >>> k)) from if_neg HZ.out], ((((S.gr.setCell (a := ⟨R, 0, none⟩) S.lo _).setCell (a := ⟨R, 1, none⟩) S.lo _).setCell (a := ⟨R, 2, none⟩) S.lo _).setCell (a := ⟨R, 3, none⟩) S.lo _)⟩
set_option maxHeartbeats 4000000 in
theorem sp_arsh (lo hi slo shi : BitVec 64) (n : Int) (h0 : -9223372036854775808 ≤ n) (h1 : n ≤ 9223372036854775807) (w : World) : Calls Try.prog 44 #[.agg #[.int .u64 (N lo), .int .u64 (N hi), .int .i64 (Z slo), .int .i64 (Z shi)], .int .i64 n] w fun e w' => e = .returned (.agg #[.int .u64 (N (arshR (settledS (⟨lo, hi, slo, shi⟩ : Sp)) (n % 64).toNat).lo), .int .u64 (N (arshR (settledS (⟨lo, hi, slo, shi⟩ : Sp)) (n % 64).toNat).hi), .int .i64 (Z (arshR (settledS (⟨lo, hi, slo, shi⟩ : Sp)) (n % 64).toNat).slo), .int .i64 (Z (arshR (settledS (⟨lo, hi, slo, shi⟩ : Sp)) (n % 64).toNat).shi)]) ∧ Grown w w' := by
  have HA := Lib.hid (fun w => sp_settled lo hi slo shi w)
  generalize settledS (⟨lo, hi, slo, shi⟩ : Sp) = a at *
  obtain ⟨k, hk⟩ : ∃ k : Nat, n % 64 = (k : Int) := ⟨(n % 64).toNat, by omega⟩
  have hk64 : k < 64 := by omega
  have hand : bits .and .i64 n 63 = (k : Int) := (and63 n h0 h1).trans hk
  have ek : (n % 64).toNat = k := by omega
  have k0 : (0 : Int) ≤ (k : Int) := by omega
  rw [ek]
  clear hk h0 h1 ek
  go_enter Try.func44, Try.ntmps44
  go_upto_region 2 with (go_at_call 59; ((with_reducible refine (HA.out _).mono ?_); rintro e wn ⟨rfl, hg⟩; have G : Grown (twoW w #[.int .u64 (N lo), .int .u64 (N hi), .int .i64 (Z slo), .int .i64 (Z shi)]) wn := hg; have gc := gcellI G; have gf := gfrozI G))
  have S := set1_of a G
  clear gc gf HA G hg
  generalize ((((wn.setCell ⟨w.heap.size, 0, none⟩ (.int .u64 (N a.lo))).setCell ⟨w.heap.size, 1, none⟩ (.int .u64 (N a.hi))).setCell ⟨w.heap.size, 2, none⟩ (.int .i64 (Z a.slo))).setCell ⟨w.heap.size, 3, none⟩ (.int .i64 (Z a.shi))) = W1 at *
  generalize w.heap.size + 1 = R at *
  generalize w.heap.size = A at *
  obtain ⟨a0, a1, a2, a3, r0, r1, r2, r3, f0, f1, f2, f3, hA, hR, gr, lo⟩ := id S
  clear gr
  by_cases hz : k = 0
  · subst hz
    have z1 : (((0 : Nat) : Int) == 0) = true := rfl
    go_wp2_with fail
    refine bodyPost_ret (v := .agg #[.int .u64 (N (a).lo), .int .u64 (N (a).hi), .int .i64 (Z (a).slo), .int .i64 (Z (a).shi)]) (by simp [results, Try.results44, go_sem, r0, r1, r2, r3]) rfl ⟨by rw [show arshR a 0 = a from if_pos rfl], ((((S.gr.setCell (a := ⟨R, 0, none⟩) S.lo _).setCell (a := ⟨R, 1, none⟩) S.lo _).setCell (a := ⟨R, 2, none⟩) S.lo _).setCell (a := ⟨R, 3, none⟩) S.lo _)⟩
  have z1 : ((k : Int) == 0) = false := by simpa using hz
  have HZ := Lib.hid hz
  clear hz
  go_upto_region 4 with fail
  have q0 : ∀ z : Held (fun y => Set1 w A R a y), z.w.cell? ⟨A, 0, none⟩ = some _ := fun z => z.h.a0
  have q1 : ∀ z : Held (fun y => Set1 w A R a y), z.w.cell? ⟨A, 1, none⟩ = some _ := fun z => z.h.a1
  have q2 : ∀ z : Held (fun y => Set1 w A R a y), z.w.cell? ⟨A, 2, none⟩ = some _ := fun z => z.h.a2
  have q3 : ∀ z : Held (fun y => Set1 w A R a y), z.w.cell? ⟨A, 3, none⟩ = some _ := fun z => z.h.a3
  refine wp_region_lex_tail (fun y => Set1 w A R a y) 10 (by kernel_rfl) (by kernel_rfl) (S.grown (Grown.drew (Grown.refl _))) (fun hNon => ?_)
  simp only [List.take_succ_cons, List.take_zero, List.drop_succ_cons, List.drop_zero]
  repeat (go_big_quiet_step ((first | (go_at_call 73; exact held_set1 _ (sp_signed _ _ _)) | (go_at_call 59; exact held_set1 _ (sp_settled _ _ _ _ _)))))
  refine wpQuiet_nil ?_
  clear a0 a1 a2 a3 r0 r1 r2 r3 f0 f1 f2 f3 hA hR lo S
  intro w5 S
  clear hNon q0 q1 q2 q3
  obtain ⟨a0, a1, a2, a3, r0, r1, r2, r3, f0, f1, f2, f3, hA, hR, gr, lo⟩ := id S
  clear gr
  go_wp2
  refine bodyPost_ret (v := .agg #[.int .u64 (N (settledS (signedS (a.slo.sshiftRight k) (a.shi.sshiftRight k))).lo), .int .u64 (N (settledS (signedS (a.slo.sshiftRight k) (a.shi.sshiftRight k))).hi), .int .i64 (Z (settledS (signedS (a.slo.sshiftRight k) (a.shi.sshiftRight k))).slo), .int .i64 (Z (settledS (signedS (a.slo.sshiftRight k) (a.shi.sshiftRight k))).shi)]) (by simp [results, Try.results44, go_sem, r0, r1, r2, r3]) rfl ⟨by rw [show arshR a k = settledS (signedS (a.slo.sshiftRight k) (a.shi.sshiftRight k)) from if_neg HZ.out], ((((S.gr.setCell (a := ⟨R, 0, none⟩) S.lo _).setCell (a := ⟨R, 1, none⟩) S.lo _).setCell (a := ⟨R, 2, none⟩) S.lo _).setCell (a := ⟨R, 3, none⟩) S.lo _)⟩
theorem sp_uptoH (w : World) : Calls Try.prog 74 #[.int .u64 4294967295] w fun e w' => e = .returned (.agg #[.int .u64 (N (uptoS halfW).lo), .int .u64 (N (uptoS halfW).hi), .int .i64 (Z (uptoS halfW).slo), .int .i64 (Z (uptoS halfW).shi)]) ∧ Grown w w' := by
  have e : N halfW = 4294967295 := by decide
  have h := sp_upto halfW (by rw [e]; decide) w
  have e2 : uptoS halfW = uptoL halfW := by unfold uptoS; rw [if_pos (by rw [e]; decide)]; rfl
  rw [e2]
  rw [e] at h
  exact h
attribute [local go_sem] N_div32
set_option maxHeartbeats 4000000 in
theorem sp_low32 (lo hi slo shi : BitVec 64) (w : World) : Calls Try.prog 45 #[.agg #[.int .u64 (N lo), .int .u64 (N hi), .int .i64 (Z slo), .int .i64 (Z shi)]] w fun e w' => e = .returned (.agg #[.int .u64 (N (low32R (settledS (⟨lo, hi, slo, shi⟩ : Sp))).lo), .int .u64 (N (low32R (settledS (⟨lo, hi, slo, shi⟩ : Sp))).hi), .int .i64 (Z (low32R (settledS (⟨lo, hi, slo, shi⟩ : Sp))).slo), .int .i64 (Z (low32R (settledS (⟨lo, hi, slo, shi⟩ : Sp))).shi)]) ∧ Grown w w' := by
  have HA := Lib.hid (fun w => sp_settled lo hi slo shi w)
  generalize settledS (⟨lo, hi, slo, shi⟩ : Sp) = a at *
  go_enter Try.func45, Try.ntmps45
  go_upto_region 2 with (go_at_call 59; ((with_reducible refine (HA.out _).mono ?_); rintro e wn ⟨rfl, hg⟩; have G : Grown (twoW w #[.int .u64 (N lo), .int .u64 (N hi), .int .i64 (Z slo), .int .i64 (Z shi)]) wn := hg; have gc := gcellI G; have gf := gfrozI G))
  have S := set1_of a G
  clear gc gf HA G hg
  generalize ((((wn.setCell ⟨w.heap.size, 0, none⟩ (.int .u64 (N a.lo))).setCell ⟨w.heap.size, 1, none⟩ (.int .u64 (N a.hi))).setCell ⟨w.heap.size, 2, none⟩ (.int .i64 (Z a.slo))).setCell ⟨w.heap.size, 3, none⟩ (.int .i64 (Z a.shi))) = W1 at *
  generalize w.heap.size + 1 = R at *
  generalize w.heap.size = A at *
  obtain ⟨a0, a1, a2, a3, r0, r1, r2, r3, f0, f1, f2, f3, hA, hR, gr, lo⟩ := id S
  clear gr
  cases z : (N (a.lo >>> 32) != N (a.hi >>> 32))
  · have e : low32R a = settledS (plainS (a.lo &&& halfW) (a.hi &&& halfW)) := by unfold low32R; rw [if_pos (N_inj (by simpa using z))]
    have HE := Lib.hid e
    clear e
    go_wp2_with (first | (go_at_call 69; ((with_reducible refine (sp_plain _ _ _).mono ?_); rintro e wn ⟨rfl, hg⟩; have S := Set1.grown S (Grown.trans' (by go_grown) hg); obtain ⟨a0, a1, a2, a3, r0, r1, r2, r3, f0, f1, f2, f3, hA, hR, gr, lo⟩ := id S; clear gr hg)) | (go_at_call 59; ((with_reducible refine (sp_settled _ _ _ _ _).mono ?_); rintro e wn ⟨rfl, hg⟩; have S := Set1.grown S (Grown.trans' (by go_grown) hg); obtain ⟨a0, a1, a2, a3, r0, r1, r2, r3, f0, f1, f2, f3, hA, hR, gr, lo⟩ := id S; clear gr hg)))
    refine bodyPost_ret (v := .agg #[.int .u64 (N (settledS (plainS (a.lo &&& halfW) (a.hi &&& halfW))).lo), .int .u64 (N (settledS (plainS (a.lo &&& halfW) (a.hi &&& halfW))).hi), .int .i64 (Z (settledS (plainS (a.lo &&& halfW) (a.hi &&& halfW))).slo), .int .i64 (Z (settledS (plainS (a.lo &&& halfW) (a.hi &&& halfW))).shi)]) (by simp [results, Try.results45, go_sem, r0, r1, r2, r3]; first | exact ⟨rfl, rfl, rfl, rfl⟩ | done) rfl ⟨by rw [HE.out], ((((S.gr.setCell (a := ⟨R, 0, none⟩) S.lo _).setCell (a := ⟨R, 1, none⟩) S.lo _).setCell (a := ⟨R, 2, none⟩) S.lo _).setCell (a := ⟨R, 3, none⟩) S.lo _)⟩
  · have e : low32R a = uptoS halfW := by unfold low32R; rw [if_neg (fun h => by rw [h] at z; simp at z)]
    have HE := Lib.hid e
    clear e
    go_wp2_with (go_at_call 74; ((with_reducible refine (sp_uptoH _).mono ?_); rintro e wn ⟨rfl, hg⟩; have S := Set1.grown S (Grown.trans' (by go_grown) hg); obtain ⟨a0, a1, a2, a3, r0, r1, r2, r3, f0, f1, f2, f3, hA, hR, gr, lo⟩ := id S; clear gr hg))
    refine bodyPost_ret (v := .agg #[.int .u64 (N (uptoS halfW).lo), .int .u64 (N (uptoS halfW).hi), .int .i64 (Z (uptoS halfW).slo), .int .i64 (Z (uptoS halfW).shi)]) (by simp [results, Try.results45, go_sem, r0, r1, r2, r3]) rfl ⟨by rw [HE.out], ((((S.gr.setCell (a := ⟨R, 0, none⟩) S.lo _).setCell (a := ⟨R, 1, none⟩) S.lo _).setCell (a := ⟨R, 2, none⟩) S.lo _).setCell (a := ⟨R, 3, none⟩) S.lo _)⟩
end Go.Proofs.Ytchjneodjaakdaa
