/-
  Package slots: Store, its loop.
-/
import Derived.Test.YtebolmfdglmpoaaSk3
namespace Go.Proofs.Ytebolmfdglmpoaa.Ex
open Go Go.RowKit
set_option maxHeartbeats 0
set_option maxRecDepth 1000000
set_option linter.unusedVariables false
set_option linter.unusedSectionVars false
noncomputable def ldP (cs : List Value) (o n : Nat) (vs : List Value) : Cs := [(b2i (decide (o + n ≤ cs.length)), 1), (b2i (sameC (some (.value (.agg ⟨(cs.drop o).take n⟩), [], none)) (some (.value (.agg ⟨vs⟩), [], none))), 1)]
noncomputable def ld1P (cs : List Value) (o : Nat) (v : Value) : Cs := [(b2i (decide (o < cs.length)), 1), (b2i (sameC (some (.value (cs.getD o .nilFunc), [], none)) (some (.value v, [], none))), 1)]
noncomputable def stP (cs : List Value) (o n : Nat) : Cs := [(1, 1), (b2i (decide (o + n ≤ cs.length)), 1)]
noncomputable def stX (cs : List Value) (o n : Nat) (X cs' : List Value) : Cs := [(b2i (X.length == n && X.all (·.oneCell')), 1), (b2i (decide (o + X.length ≤ cs.length)), 1), (b2i (sameC (some (.value (.agg ⟨splice cs o X⟩), [], none)) (some (.value (.agg ⟨cs'⟩), [], none))), 1)]
theorem ldP_ok {cs vs : List Value} {o n : Nat} (h1 : o + n ≤ cs.length) (h2 : (cs.drop o).take n = vs) : AE (ldP cs o n vs) :=
  AE.cons (b1 h1) (AE.consP (same_ok (by rw [h2])) AE.nil)
theorem ld1P_ok {cs : List Value} {o : Nat} {v : Value} (h1 : o < cs.length) (h2 : cs.getD o .nilFunc = v) : AE (ld1P cs o v) :=
  AE.cons (b1 h1) (AE.consP (same_ok (by rw [h2])) AE.nil)
theorem stP_ok {cs : List Value} {o n : Nat} (h1 : o + n ≤ cs.length) : AE (stP cs o n) := AE.cons rfl (AE.cons (b1 h1) AE.nil)
theorem stX_ok {cs X cs' : List Value} {o n : Nat} (h1 : (X.length == n && X.all (·.oneCell')) = true) (h2 : o + X.length ≤ cs.length) (h3 : splice cs o X = cs') : AE (stX cs o n X cs') :=
  AE.cons (bt h1) (AE.cons (b1 h2) (AE.consP (same_ok (by rw [h3])) AE.nil))
theorem jP_ok {j m : Nat} (h : j < m) : (decide (0 ≤ (j : Int)) && decide ((j : Int) < (m : Int))) = true := by
  rw [decide_eq_true (by omega : (0 : Int) ≤ j), decide_eq_true (by omega : (j : Int) < m)]
  rfl
abbrev stF : FuncId := 12
noncomputable abbrev stL : Code := theLoopN Try.prog stF 0
theorem st_one : oneLoopN Try.prog stF 0 = true := by kernel_rfl
noncomputable def srA (L : List Value) (n : Int) (a k j : Nat) (q : Bool) : Cs := [(b2i (decide ((k : Int) < wi (a + n))), 1), (wi ((k : Int).tdiv 8), (j : Int)), (b2i (decide (0 ≤ (j : Int)) && decide ((j : Int) < (64 : Nat))), 1)] ++ (ldP L (0 + j * 12 + 1) 11 (vL (vAt L (0 + j * 12 + 1))) ++ [(b2i (ptK (vAt L (0 + j * 12 + 1)).k), b2i q)])
noncomputable def srB (L : List Value) (k j : Nat) : Cs := ld1P L (0 + j * 12 + 0) (.int .u8 (pc L (0 + j * 12 + 0))) ++ (stP L (0 + j * 12 + 0) 1 ++ (stP (splice L (0 + j * 12 + 0) [.int .u8 (orB (pc L (0 + j * 12 + 0)) k)]) (0 + j * 12 + 1) 11 ++ [(wi (k + 1), ((k + 1 : Nat) : Int))]))
theorem st_hop (L : List Value) (B : AO) (n : Int) (a k j : Nat) (β : Nat → Value) : (iterB (bodyL Try.prog (sk3 false) (srO L k j 0 true) noLoop stF stL) 1 ⟨stT n a k β, stH L B, (none, [])⟩).map (fun x => (maskQ stDs x.t, x.h, x.m.1, inter x.m.2)) = some (stT n a (k + 1) fun _ => .bool true, stH (setB L j k) B, some 0, inter (srA L n a k j false ++ srB L k j)) := by kernel_rfl
noncomputable def stR (β : Nat → Value) : List Value := [β 0, β 1, β 2, β 3, β 4, β 5, β 6, β 7, .pointer (some ⟨2, 0, none⟩), .int .i64 102, β 10, β 11, β 12, β 13, β 14, β 15, β 16, β 17, β 18, β 19, β 20, β 21, β 22, β 23, β 24, β 25, β 26, β 27, β 28, β 29, β 30, β 31, β 32, β 33, β 34, β 35, β 36, β 37, β 38, β 39, β 40, β 41, β 42, β 43, β 44, β 45, β 46, β 47, β 48, β 49, β 50, β 51, β 52, β 53, β 54, β 55, β 56, β 57, β 58, β 59, β 60, β 61, β 62, β 63, β 64, β 65, β 66, β 67, β 68, β 69, β 70, β 71, β 72, β 73, β 74]
def stRs : List Bool := [true, true, true, true, true, true, true, true, false, false, true, true, true, true, true, true, true, true, true, true, true, true, true, true, true, true, true, true, true, true, true, true, true, true, true, true, true, true, true, true, true, true, true, true, true, true, true, true, true, true, true, true, true, true, true, true, true, true, true, true, true, true, true, true, true, true, true, true, true, true, true, true, true, true, true]
theorem st_leak (L : List Value) (B : AO) (n : Int) (a k j : Nat) (β : Nat → Value) : (loopN (bodyL Try.prog (sk3 true) (srO L k j 0 true) noLoop stF stL) 1 ⟨stT n a k β, stH L B, (none, [])⟩).map (fun r => (r.1, maskQ stRs r.2.t, r.2.h, r.2.m.1, inter r.2.m.2)) = some (.ret, stR fun _ => .bool true, stH L B, some 2, inter (srA L n a k j true)) := by kernel_rfl
theorem st_end (L : List Value) (B : AO) (n : Int) (a k : Nat) (β : Nat → Value) : (loopN (bodyL Try.prog (sk3 false) (srO L k 0 0 false) noLoop stF stL) 1 ⟨stT n a k β, stH L B, (none, [])⟩).map (fun r => (r.1, maskQ stDs r.2.t, r.2.h, r.2.m.1, inter r.2.m.2)) = some (.exit 1, stT n a k fun _ => .bool true, stH L B, none, inter [(b2i (decide ((k : Int) < wi (a + n))), 0)]) := by kernel_rfl
theorem st_un (n : Int) (a k : Nat) : ∀ β, unmask β 0 stDs (stT n a k fun _ => .bool true) = stT n a k β := fun β => rfl
theorem st_unR : ∀ β, unmask β 0 stRs (stR fun _ => .bool true) = stR β := fun β => rfl
/-- What Store's loop makes of a stack: nothing, if an address is there. -/
noncomputable def goS : Nat → Nat → List Value → Option (List Value)
  | 0, _, L => some L
  | m + 1, k, L => bif ptK (pc L (k / 8 * 12 + 1)) then none else goS m (k + 1) (setB L (k / 8) k)
theorem goS_ok : ∀ {m k : Nat} {L X : List Value}, OkS L → k + m ≤ 512 → goS m k L = some X → OkS X
  | 0, k, L, X, h, _, e => by cases e; exact h
  | m + 1, k, L, X, h, hk, e => by
    unfold goS at e
    cases hp : ptK (pc L (k / 8 * 12 + 1)) with
    | true => rw [hp] at e; cases e
    | false =>
      rw [hp] at e
      exact goS_ok (OkS.setB h (by omega) k) (by omega) e
theorem vAt_k (L : List Value) (j : Nat) : (vAt L (0 + j * 12 + 1)).k = pc L (j * 12 + 1) := by
  show pc L (0 + j * 12 + 1) = _
  rw [Nat.zero_add]
theorem srA_ok {L : List Value} (h : OkS L) {n : Int} {a k : Nat} {q : Bool} (hn : 0 ≤ n) (hs : (a : Int) + n ≤ 512) (hk : (k : Int) < a + n) (hq : ptK (pc L (k / 8 * 12 + 1)) = q) : AE (srA L n a k (k / 8) q) := by
  have hj : k / 8 < 64 := by omega
  refine AE.app (AE.cons (b1 (by rw [wi_id (by omega) (by omega)]; exact hk)) (AE.cons ?_ (AE.cons (bt (jP_ok hj)) AE.nil))) (AE.app (ldP_ok (by rw [h.1]; omega) (h.val hj)) (AE.cons (by rw [vAt_k, hq]) AE.nil))
  have e : ((k : Int).tdiv 8) = ((k / 8 : Nat) : Int) := by
    rw [Int.tdiv_eq_ediv_of_nonneg (by omega)]
    rfl
  rw [e]
  exact wi_id (by omega) (by omega)
theorem srB_ok {L : List Value} (h : OkS L) {k : Nat} (hk : k < 512) : AE (srB L k (k / 8)) := by
  have hj : k / 8 < 64 := by omega
  refine AE.app (ld1P_ok (by rw [h.1]; omega) (h.byte hj)) (AE.app (stP_ok (by rw [h.1]; omega)) (AE.app (stP_ok ?_) (AE.cons ?_ AE.nil)))
  · rw [splice_length (by rw [h.1]; show 0 + k / 8 * 12 + 0 + 1 ≤ 768; omega), h.1]; omega
  · show wi ((k : Int) + 1) = ((k + 1 : Nat) : Int)
    rw [wi_id (by omega) (by omega)]
    omega
/-- The loop, from a byte on. -/
theorem st_rounds (B : AO) {n : Int} {a : Nat} (hn : 0 ≤ n) (hs : (a : Int) + n ≤ 512) : ∀ (m k : Nat) (L : List Value) (β : Nat → Value), OkS L → ((k + m : Nat) : Int) = a + n → a ≤ k →
    (∀ X, goS m k L = some X → ∃ N β', Stop Try.prog stL N (stT n a k β) (stH L B) (.exit 1) (stT n a (k + m) β') (stH X B) (some 0, [])) ∧
    (goS m k L = none → ∃ N β' X, Stop Try.prog stL N (stT n a k β) (stH L B) .ret (stR β') (stH X B) (some 0, []))
  | 0, k, L, β, h, e, ha => by
    refine ⟨fun X hX => ?_, fun h => by cases h⟩
    cases hX
    obtain ⟨β', q⟩ := stopM_ok noNG (sk3_ok false) noLoop_low (noLoop_ok _) st_one (st_un n a k) (st_end L B n a k β) (AE.cons (b0 (by rw [wi_id (by omega) (by omega)]; omega)) AE.nil)
    refine ⟨1, β', ?_⟩
    intro wb k0 hm s m0 act w H m'
    exact q wb k0 ⟨fun i hi => by (cases hi), fun c hc => by cases hc⟩ s m0 act w H m'
  | m + 1, k, L, β, h, e, ha => by
    cases hp : ptK (pc L (k / 8 * 12 + 1)) with
    | true =>
      refine ⟨fun X hX => ?_, fun _ => ?_⟩
      · unfold goS at hX; rw [hp] at hX; cases hX
      · obtain ⟨β', q⟩ := stopM_ok noNG (sk3_ok true) noLoop_low (noLoop_ok _) st_one st_unR (st_leak L B n a k (k / 8) β) (srA_ok h hn hs (by omega) hp)
        refine ⟨1, β', L, ?_⟩
        intro wb k0 hm s m0 act w H m'
        exact q wb k0 ⟨fun i hi => by (cases hi; have := hm.1 0 rfl; omega), fun c hc => by cases hc⟩ s m0 act w H m'
    | false =>
      obtain ⟨β1, q⟩ := hopM_ok noNG (sk3_ok false) noLoop_low (noLoop_ok _) st_one (st_un n a (k + 1)) (st_hop L B n a k (k / 8) β) (AE.app (srA_ok h hn hs (by omega) hp) (srB_ok h (by omega)))
      obtain ⟨r1, r2⟩ := st_rounds B hn hs m (k + 1) (setB L (k / 8) k) β1 (OkS.setB h (by omega) k) (by omega) (by omega)
      have eg : goS (m + 1) k L = goS m (k + 1) (setB L (k / 8) k) := by
        show (bif ptK (pc L (k / 8 * 12 + 1)) then none else _) = _
        rw [hp]
        rfl
      refine ⟨fun X hX => ?_, fun hX => ?_⟩
      · obtain ⟨N, β2, s⟩ := r1 X (by rw [← eg]; exact hX)
        rw [show k + 1 + m = k + (m + 1) by omega] at s
        exact ⟨1 + N, β2, q.stop' s (fun _ h => h) (fun _ h => h)⟩
      · obtain ⟨N, β2, X, s⟩ := r2 (by rw [← eg]; exact hX)
        exact ⟨1 + N, β2, X, q.stop' s (fun _ h => h) (fun _ h => h)⟩
noncomputable def stE (L : List Value) (off n : Int) (v : VI) (a : Nat) : List Value := [.agg ⟨L⟩, .int .i64 off, .int .i64 n, .agg ⟨vL v⟩, .pointer (some ⟨0, 0, none⟩), .tuple ⟨[]⟩, .tuple ⟨[]⟩, .pointer (some ⟨1, 0, none⟩), .pointer (some ⟨2, 0, none⟩), .int .i64 0, .int .i64 (a : Int), .bool true, .int .i64 (a : Int), .tuple ⟨[]⟩, .tuple ⟨[.int .i64 (wdA off n), .bool (wdK off n)]⟩, .int .i64 off, .int .i64 n, .tuple ⟨[.int .i64 (wdA off n), .bool (wdK off n)]⟩, .int .i64 (a : Int), .bool true, .bool false, .bool true, .bool false, .tuple ⟨[]⟩, .bool false, .pointer (some ⟨1, 0, none⟩), .int .i64 v.k, .bool (v.k == 0), .tuple ⟨[]⟩, .bool false, .int .i64 (a : Int), .int .i64 n, .bool (isP a n), .tuple ⟨[]⟩, .tuple ⟨[]⟩, .tuple ⟨[]⟩, .tuple ⟨[]⟩, .tuple ⟨[]⟩, .tuple ⟨[]⟩, .bool false, .agg ⟨vL v⟩, .bool (ptK v.k), .tuple ⟨[]⟩, .int .i64 (a : Int), .tuple ⟨[]⟩, .tuple ⟨[]⟩, .tuple ⟨[]⟩, .tuple ⟨[]⟩, .tuple ⟨[]⟩, .tuple ⟨[]⟩, .tuple ⟨[]⟩, .tuple ⟨[]⟩, .tuple ⟨[]⟩, .tuple ⟨[]⟩, .tuple ⟨[]⟩, .tuple ⟨[]⟩, .tuple ⟨[]⟩, .tuple ⟨[]⟩, .tuple ⟨[]⟩, .tuple ⟨[]⟩, .tuple ⟨[]⟩, .tuple ⟨[]⟩, .tuple ⟨[]⟩, .tuple ⟨[]⟩, .tuple ⟨[]⟩, .tuple ⟨[]⟩, .tuple ⟨[]⟩, .tuple ⟨[]⟩, .tuple ⟨[]⟩, .tuple ⟨[]⟩, .tuple ⟨[]⟩, .tuple ⟨[]⟩, .tuple ⟨[]⟩, .tuple ⟨[]⟩, .tuple ⟨[]⟩]
theorem stE_eq (L : List Value) (off n : Int) (v : VI) (a : Nat) : stT n a a (fun k => (stE L off n v a).getD k (.bool true)) = stE L off n v a := by kernel_rfl
end Go.Proofs.Ytebolmfdglmpoaa.Ex
