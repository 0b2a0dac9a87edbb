/-
  Package slots: lists of a stack's cells.
-/
import Derived.Test.YtebolmfdglmpoaaSk2
namespace Go.Proofs.Ytebolmfdglmpoaa.Ex
open Go Go.RowKit
set_option maxHeartbeats 400000
set_option linter.unusedVariables false
/-- Of which kind a place's cells are. -/
def kd : Nat → IntKind
  | 0 => .u8
  | 6 => .u64
  | 7 => .u64
  | 8 => .u64
  | 9 => .u64
  | _ => .i64
def kOk (r : Nat) (v : Value) : Bool := isKV (kd r) v && (!(Nat.beq r 0) || (decide (0 ≤ nOfV v) && decide (nOfV v < 256)))
/-- A list is a stack's cells. -/
def OkS (L : List Value) : Prop := L.length = 768 ∧ ∀ (i : Nat) (v : Value), L[i]? = some v → kOk (i % 12) v = true
theorem OkS.cell {L : List Value} (h : OkS L) {i : Nat} (hi : i < 768) : L[i]? = some (.int (kd (i % 12)) (pc L i)) := by
  have hl : i < L.length := by rw [h.1]; exact hi
  have e := List.getElem?_eq_getElem hl
  have k := h.2 i _ e
  unfold kOk at k
  simp only [Bool.and_eq_true] at k
  rw [e]
  congr 1
  unfold pc
  rw [List.getD_eq_getElem?_getD, e]
  exact isKV_eq k.1
theorem OkS.rng {L : List Value} (h : OkS L) {j : Nat} (hj : j < 64) : 0 ≤ pc L (j * 12) ∧ pc L (j * 12) < 256 := by
  have k := h.2 _ _ (h.cell (i := j * 12) (by omega))
  unfold kOk at k
  simp only [Bool.and_eq_true, show j * 12 % 12 = 0 by omega, Nat.beq_self_eq_true, Bool.not_true, Bool.false_or, decide_eq_true_eq] at k
  exact k.2
where
  Nat.beq_self_eq_true : Nat.beq 0 0 = true := rfl
theorem kd_flat (k : IntKind) (n : Int) : scal (.int k n) = true := rfl
theorem OkS.scal {L : List Value} (h : OkS L) : L.all scal = true := by
  refine List.all_eq_true.2 fun v hv => ?_
  obtain ⟨i, hi⟩ := List.getElem?_of_mem hv
  have k := h.2 i v hi
  unfold kOk at k
  simp only [Bool.and_eq_true] at k
  rw [isKV_eq k.1]
  rfl
theorem OkS.flat {L : List Value} (h : OkS L) : flat (.agg ⟨L⟩) = true := h.scal
theorem OkS.flats {L : List Value} (h : OkS L) : L.all Ex.flat = true := List.all_eq_true.2 fun v hv => flat_of_scal (List.all_eq_true.1 h.scal v hv)
theorem OkS.one {L : List Value} (h : OkS L) : (L.length == 768 && L.all (·.oneCell')) = true := by
  simp only [Bool.and_eq_true, beq_iff_eq]
  refine ⟨h.1, List.all_eq_true.2 fun v hv => ?_⟩
  obtain ⟨i, hi⟩ := List.getElem?_of_mem hv
  have k := h.2 i v hi
  unfold kOk at k
  simp only [Bool.and_eq_true] at k
  rw [isKV_eq k.1]
  rfl
/-- A place's value. -/
theorem OkS.val {L : List Value} (h : OkS L) {j : Nat} (hj : j < 64) : (L.drop (0 + j * 12 + 1)).take 11 = vL (vAt L (0 + j * 12 + 1)) := by
  apply List.ext_getElem?
  intro r
  rw [List.getElem?_take, List.getElem?_drop]
  by_cases hr : r < 11
  · rw [if_pos hr, h.cell (by omega), show (0 + j * 12 + 1 + r) % 12 = 1 + r by omega]
    match r, hr with
    | 0, _ => rfl
    | 1, _ => rfl
    | 2, _ => rfl
    | 3, _ => rfl
    | 4, _ => rfl
    | 5, _ => rfl
    | 6, _ => rfl
    | 7, _ => rfl
    | 8, _ => rfl
    | 9, _ => rfl
    | 10, _ => rfl
    | n + 11, h => omega
  · rw [if_neg hr]
    symm
    exact List.getElem?_eq_none (by show 11 ≤ r; omega)
theorem OkS.plc {L : List Value} (h : OkS L) {j : Nat} (hj : j < 64) : (L.drop (0 + j * 12)).take 12 = pL L (0 + j * 12) := by
  apply List.ext_getElem?
  intro r
  rw [List.getElem?_take, List.getElem?_drop]
  by_cases hr : r < 12
  · rw [if_pos hr, h.cell (by omega), show (0 + j * 12 + r) % 12 = r by omega]
    match r, hr with
    | 0, _ => rfl
    | 1, _ => rfl
    | 2, _ => rfl
    | 3, _ => rfl
    | 4, _ => rfl
    | 5, _ => rfl
    | 6, _ => rfl
    | 7, _ => rfl
    | 8, _ => rfl
    | 9, _ => rfl
    | 10, _ => rfl
    | 11, _ => rfl
    | n + 12, h => omega
  · rw [if_neg hr]
    symm
    exact List.getElem?_eq_none (by show 12 ≤ r; omega)
theorem OkS.byte {L : List Value} (h : OkS L) {j : Nat} (hj : j < 64) : L.getD (0 + j * 12 + 0) .nilFunc = .int .u8 (pc L (0 + j * 12 + 0)) := by
  rw [List.getD_eq_getElem?_getD, h.cell (by omega), show (0 + j * 12 + 0) % 12 = 0 by omega]
  rfl
theorem spP_len (X : List Value) : ∀ (n o : Nat), (spP X n o).length = n * 12
  | 0, o => by rw [Nat.zero_mul]; rfl
  | n + 1, o => by
    show (pL X o ++ spP X n (o + 12)).length = _
    rw [List.length_append, spP_len X n (o + 12)]
    show 12 + _ = _
    omega
theorem spP_eq {X : List Value} (h : OkS X) : ∀ (n j : Nat), j + n = 64 → spP X n (j * 12) = X.drop (j * 12)
  | 0, j, e => by
    symm
    exact List.drop_of_length_le (by rw [h.1]; omega)
  | n + 1, j, e => by
    show pL X (j * 12) ++ spP X n (j * 12 + 12) = _
    rw [show j * 12 + 12 = (j + 1) * 12 by omega, spP_eq h n (j + 1) (by omega)]
    have hp := h.plc (j := j) (by omega)
    rw [Nat.zero_add] at hp
    rw [← hp, show (j + 1) * 12 = j * 12 + 12 by omega, ← List.drop_drop]
    exact List.take_append_drop 12 _
theorem sp_eq {X : List Value} (h : OkS X) : sp X = X := by
  have := spP_eq h 64 0 (by omega)
  rw [Nat.zero_mul, List.drop_zero] at this
  exact this
theorem OkS.whole {X : List Value} (h : OkS X) : (X.drop 0).take 768 = X := by
  rw [List.drop_zero, List.take_of_length_le (by rw [h.1]; exact Nat.le_refl _)]
theorem splice_whole {X Z : List Value} (h : X.length = Z.length) : splice Z 0 X = X := by
  unfold splice
  rw [List.take_zero, List.nil_append, Nat.zero_add, h, List.drop_length, List.append_nil]
/-- Cells in the stead of others. -/
theorem OkS.put {L vs : List Value} {o : Nat} (h : OkS L) (ho : o + vs.length ≤ 768) (hv : ∀ (r : Nat) (v : Value), vs[r]? = some v → kOk ((o + r) % 12) v = true) : OkS (splice L o vs) := by
  refine ⟨by rw [splice_length (by rw [h.1]; exact ho)]; exact h.1, fun i v hi => ?_⟩
  rw [splice_get (by rw [h.1]; exact ho)] at hi
  split at hi
  · rename_i hr
    have := hv _ _ hi
    rwa [show o + (i - o) = i by omega] at this
  · exact h.2 i v hi
theorem kOk_int {r : Nat} {k : IntKind} {n : Int} (h : kd r = k) (hr : r ≠ 0) : kOk r (.int k n) = true := by
  unfold kOk
  subst h
  have e : isKV (kd r) (.int (kd r) n) = true := by
    unfold isKV
    exact Nat.beq_refl _
  rw [e]
  cases hb : Nat.beq r 0 with
  | false => rfl
  | true => exact absurd (Nat.eq_of_beq_eq_true hb) hr
theorem vL_ok {v : VI} {j r : Nat} {x : Value} (hx : (vL v)[r]? = some x) : kOk ((0 + j * 12 + 1 + r) % 12) x = true := by
  have hr : r < 11 := (List.getElem?_eq_some_iff.1 hx).1
  rw [show (0 + j * 12 + 1 + r) % 12 = 1 + r by omega]
  match r, hr with
  | 0, _ => cases hx; rfl
  | 1, _ => cases hx; rfl
  | 2, _ => cases hx; rfl
  | 3, _ => cases hx; rfl
  | 4, _ => cases hx; rfl
  | 5, _ => cases hx; rfl
  | 6, _ => cases hx; rfl
  | 7, _ => cases hx; rfl
  | 8, _ => cases hx; rfl
  | 9, _ => cases hx; rfl
  | 10, _ => cases hx; rfl
  | n + 11, h => omega
theorem orB_rng (b k : Int) : 0 ≤ orB b k ∧ orB b k < 256 := by
  unfold orB IntKind.wrap
  have e : (2 : Int) ^ IntKind.u8.bits = 256 := rfl
  simp only [e, IntKind.signed, Bool.false_and, Bool.false_eq_true, if_false]
  omega
theorem kOk_u8 {n : Int} (h : 0 ≤ n ∧ n < 256) : kOk 0 (.int .u8 n) = true := by
  show (true && (false || (decide (0 ≤ n) && decide (n < 256)))) = true
  rw [decide_eq_true h.1, decide_eq_true h.2]
  rfl
theorem OkS.setB {L : List Value} (h : OkS L) {j : Nat} (hj : j < 64) (k : Int) : OkS (setB L j k) := by
  unfold Ex.setB
  refine OkS.put (OkS.put h (by show 0 + j * 12 + 0 + 1 ≤ 768; omega) fun r v hv => ?_) (by show 0 + j * 12 + 1 + 11 ≤ 768; omega) fun r v hv => vL_ok hv
  have hr : r < 1 := (List.getElem?_eq_some_iff.1 hv).1
  obtain rfl : r = 0 := by omega
  cases hv
  rw [show (0 + j * 12 + 0 + 0) % 12 = 0 by omega]
  exact kOk_u8 (orB_rng _ _)
theorem OkS.setP {L : List Value} (h : OkS L) {j : Nat} (hj : j < 64) (v : VI) : OkS (setP L j v) := by
  unfold Ex.setP
  refine OkS.put h (by show 0 + j * 12 + 12 ≤ 768; omega) fun r x hx => ?_
  cases r with
  | zero =>
    cases hx
    rw [show (0 + j * 12 + 0) % 12 = 0 by omega]
    rfl
  | succ r =>
    have := vL_ok (v := v) (j := j) (r := r) (x := x) (by simpa using hx)
    rwa [show 0 + j * 12 + (r + 1) = 0 + j * 12 + 1 + r by omega]
theorem zS_ok : OkS zS := by
  refine ⟨by kernel_rfl, fun i v hv => ?_⟩
  have key : ∀ (n : Nat) (i : Nat) (v : Value), (rpL n (.int .u8 0 :: vL zV) [])[i]? = some v → kOk (i % 12) v = true := by
    intro n
    induction n with
    | zero => intro i v h; cases i <;> cases h
    | succ n ih =>
      intro i v h
      have h : ((.int .u8 0 :: vL zV) ++ rpL n (.int .u8 0 :: vL zV) [])[i]? = some v := h
      by_cases hi : i < 12
      · rw [List.getElem?_append_left (by exact hi)] at h
        cases i with
        | zero => cases h; rfl
        | succ r =>
          have := vL_ok (v := zV) (j := 0) (r := r) (x := v) (by simpa using h)
          rwa [show 0 + 0 * 12 + 1 + r = r + 1 by omega] at this
      · rw [List.getElem?_append_right (by show 12 ≤ i; omega)] at h
        have := ih _ _ h
        rwa [show (i - List.length (Value.int .u8 0 :: vL zV)) % 12 = i % 12 by show (i - 12) % 12 = i % 12; omega] at this
  exact key 64 i v hv
end Go.Proofs.Ytebolmfdglmpoaa.Ex
