/-
  How two numbers are divided by a third one: a contract.
-/
import Derived.Test.YtbaiokfjoglmiaaDoorDv1
namespace Go.Proofs.YtbaiokfjoglmiaaDoor.Ex
open Go Go.RowKit
set_option maxHeartbeats 0
set_option maxRecDepth 1000000
set_option linter.unusedVariables false
theorem wr_e (x : Int) : Wr x = x % 18446744073709551616 := by simp [Wr, IntKind.wrap, IntKind.signed, IntKind.bits]
theorem wr_in (x : Int) : 0 ≤ Wr x ∧ Wr x < 18446744073709551616 := by rw [wr_e]; omega
theorem wr_id {x : Int} (h1 : 0 ≤ x) (h2 : x < 18446744073709551616) : Wr x = x := by rw [wr_e]; omega
theorem left_in {n u : Int} (h1 : 1 ≤ n) (h2 : n < 4294967296) (h3 : 0 ≤ u) (h4 : u < 18446744073709551616) : 0 ≤ Wr (u - Wr (Wr (u.tdiv n) * n)) ∧ Wr (u - Wr (Wr (u.tdiv n) * n)) < n := by
  have e1 : u.tdiv n = u / n := Int.tdiv_eq_ediv_of_nonneg h3
  have a1 : 0 ≤ u / n := Int.ediv_nonneg h3 (by omega)
  have a2 : u / n ≤ u := Int.ediv_le_self _ h3
  have a3 : n * (u / n) + u % n = u := Int.mul_ediv_add_emod u n
  have a4 := Int.emod_nonneg u (show n ≠ 0 by omega)
  have a5 := Int.emod_lt_of_pos u (show 0 < n by omega)
  rw [e1, wr_id a1 (by omega), Int.mul_comm, wr_id (x := n * (u / n)) (Int.mul_nonneg (by omega) a1) (by omega), wr_id (by omega) (by omega)]
  omega
theorem far_in {n r : Int} (h1 : 2147483648 ≤ n) (h2 : n < 4294967296) (h3 : 0 ≤ r) (h4 : r < n) : tA (Wr (Wr (r + n) + n)) = true := by
  rw [wr_id (x := r + n) (by omega) (by omega), wr_id (by omega) (by omega)]
  exact decide_eq_true (by omega)
def wayP (hi lo y : Int) : Wy := norm (tA (dQ1 hi lo y)) (tB (dQ1 hi lo y) (dR1 hi lo y) (d0 y) (u1 lo y)) (tA (Wr (dR1 hi lo y + d1 y))) (tA (Wr (dQ1 hi lo y - 1))) (tB (Wr (dQ1 hi lo y - 1)) (Wr (dR1 hi lo y + d1 y)) (d0 y) (u1 lo y))
def wayR (p : Wy) (hi lo y : Int) : Wy := norm (tA (dQ0 p hi lo y)) (tB (dQ0 p hi lo y) (dR0 p hi lo y) (d0 y) (u0 lo y)) (tA (Wr (dR0 p hi lo y + d1 y))) (tA (Wr (dQ0 p hi lo y - 1))) (tB (Wr (dQ0 p hi lo y - 1)) (Wr (dR0 p hi lo y + d1 y)) (d0 y) (u0 lo y))
def dvV2 (hi lo y : Int) : Value := bif hi == 0 then .tuple ⟨[.int .u64 (Wr (lo.tdiv y)), .int .u64 (lo.tmod y)]⟩ else dvV (wayP hi lo y) (wayR (wayP hi lo y) hi lo y) hi lo y
/-- The two numbers. -/
def intAt (v : Value) (i : Nat) : Int :=
  match v with
  | .tuple a => (match a.toList[i]? with | some (.int _ n) => n | _ => 0)
  | _ => 0
def dvA (hi lo y : Int) : Int := intAt (dvV2 hi lo y) 0
def dvB (hi lo y : Int) : Int := intAt (dvV2 hi lo y) 1
theorem dv_eq (hi lo y : Int) : dvV2 hi lo y = .tuple ⟨[.int .u64 (dvA hi lo y), .int .u64 (dvB hi lo y)]⟩ := by
  unfold dvA dvB dvV2
  cases hi == 0 <;> rfl
theorem d1_in {y : Int} (h1 : 0 < y) (h2 : y < 18446744073709551616) : 0 ≤ dS y ∧ 2147483648 ≤ d1 y ∧ d1 y < 4294967296 := by
  obtain ⟨m, hm, h3, h4, h5⟩ := lzS_norm h1 h2
  have e1 : dS y = (m : Int) := by unfold dS; rw [hm, wr_id (by omega) (by omega)]
  have e2 : dY y = y * 2 ^ m := by
    unfold dY
    rw [e1, Int.toNat_natCast, Nat.min_eq_left (by omega), wr_id (by omega) (by omega)]
  have e3 : d1 y = (y * 2 ^ m) / 4294967296 := by
    unfold d1
    rw [e2]
    exact fd _ 32 (by decide)
  rw [e1, e3]
  omega
theorem allC {a b : Cs} (h1 : ∀ c ∈ a, c.1 = c.2) (h2 : ∀ c ∈ b, c.1 = c.2) : ∀ c ∈ a ++ b, c.1 = c.2 := fun c hc => (List.mem_append.1 hc).elim (h1 c) (h2 c)
theorem oneC {x y : Bool} (h : x = y) : ∀ c ∈ ([(b2i x, b2i y)] : Cs), c.1 = c.2 := by
  intro c hc
  obtain rfl := List.mem_singleton.1 hc
  simp only [h]
theorem lp_all {q r n0 u n1 : Int} (h : tA (Wr (Wr (r + n1) + n1)) = true) : ∀ c ∈ lpC (norm (tA q) (tB q r n0 u) (tA (Wr (r + n1))) (tA (Wr (q - 1))) (tB (Wr (q - 1)) (Wr (r + n1)) n0 u)) q r n0 u n1, c.1 = c.2 := by
  unfold lpC
  rw [h]
  exact lpC_ok _ _ _ _ _
theorem c_div (hi lo y : Int) (h0 : 0 ≤ hi) (h1 : hi < y) (h2 : y < 18446744073709551616) (w : World) : Calls Tryd.prog 93 #[.int .u64 hi, .int .u64 lo, .int .u64 y] w fun e w' => e = .returned (.tuple ⟨[.int .u64 (dvA hi lo y), .int .u64 (dvB hi lo y)]⟩) ∧ Gr w w' := by
  rw [← dv_eq]
  have y0 : (y == 0) = false := beq_eq_false_iff_ne.2 (by omega)
  have yh : decide (y ≤ hi) = false := decide_eq_false (by omega)
  cases hz : hi == 0 with
  | true =>
    obtain rfl := eq_of_beq hz
    have e : dvV2 0 lo y = .tuple ⟨[.int .u64 (Wr (lo.tdiv y)), .int .u64 (lo.tmod y)]⟩ := rfl
    rw [e]
    refine reckonI_ok noNG (guard_ok lzHook_ok) dvOrc0 100000 300 [] rfl rfl (dv_lo lo y) ?_ w (Laid.nil w)
    have d0 : decide (y = 0) = false := decide_eq_false (by omega)
    intro c hc
    simp only [List.mem_cons, List.not_mem_nil, or_false] at hc
    rcases hc with rfl | rfl | rfl | rfl | rfl
    · simp only [y0]; rfl
    · simp only [yh]; rfl
    · rfl
    · simp only [d0]; rfl
    · simp only [d0]; rfl
  | false =>
    have e : dvV2 hi lo y = dvV (wayP hi lo y) (wayR (wayP hi lo y) hi lo y) hi lo y := by unfold dvV2; rw [hz]; rfl
    rw [e]
    refine reckonI_ok noNG (guard_ok lzHook_ok) _ 100000 300 [] rfl rfl (dv_all hi lo y (wayP hi lo y) (norm_mem _ _ _ _ _) (wayR (wayP hi lo y) hi lo y) (norm_mem _ _ _ _ _)) ?_ w (Laid.nil w)
    obtain ⟨s0, n1, n2⟩ := d1_in (show 0 < y by omega) h2
    have g1 : decide (dS y < 0) = false := decide_eq_false (by omega)
    have g2 : decide (Wr (64 - dS y) < 0) = false := decide_eq_false (by have := (wr_in (64 - dS y)).1; omega)
    have g3 : decide (d1 y = 0) = false := decide_eq_false (by omega)
    have g4 : decide (0 < y ∧ y < 18446744073709551616) = true := decide_eq_true ⟨by omega, h2⟩
    have l1 := left_in (show 1 ≤ d1 y by omega) n2 (wr_in _).1 (wr_in _).2 (u := dU hi lo y)
    have l0 := fun p => left_in (show 1 ≤ d1 y by omega) n2 (wr_in _).1 (wr_in _).2 (u := d21 p hi lo y)
    refine allC (fun c hc => ?_) (allC ?_ (allC (oneC g3) (allC ?_ (oneC g1))))
    · simp only [List.mem_cons, List.not_mem_nil, or_false] at hc
      rcases hc with rfl | rfl | rfl | rfl | rfl | rfl | rfl | rfl | rfl
      · simp only [y0]; rfl
      · simp only [yh]; rfl
      · simp only [hz]; rfl
      · simp only [g4]; rfl
      · simp only [g1]; rfl
      · simp only [g1]; rfl
      · simp only [g2]; rfl
      · simp only [g1]; rfl
      · simp only [g3]; rfl
    · exact lp_all (far_in n1 n2 l1.1 l1.2)
    · exact lp_all (far_in n1 n2 (l0 _).1 (l0 _).2)
def divHook : Hook := fun f args _ =>
  if Nat.beq f 93 then
    match args with
    | [.int .u64 hi, .int .u64 lo, .int .u64 y] => some (.tuple ⟨[.int .u64 (dvA hi lo y), .int .u64 (dvB hi lo y)]⟩, [(b2i (decide (0 ≤ hi ∧ hi < y ∧ y < 18446744073709551616)), 1)])
    | _ => none
  else none
theorem divHook_ok : HookOk Tryd.prog divHook := by
  intro f args h v cs hv hc wb k s w H
  unfold divHook at hv
  split at hv
  · rename_i hf
    obtain rfl := Nat.eq_of_beq_eq_true hf
    split at hv
    · rename_i hi lo y
      cases hv
      have h0 : decide (0 ≤ hi ∧ hi < y ∧ y < 18446744073709551616) = true := b2i_inj (b := true) (hc _ (List.mem_singleton.2 rfl))
      obtain ⟨h1, h2, h3⟩ := of_decide_eq_true h0
      exact c_div hi lo y h1 h2 h3 w
    · cases hv
  · cases hv
end Go.Proofs.YtbaiokfjoglmiaaDoor.Ex
