/-
  Package slots: Store, by a contract.
-/
import Derived.Test.YtebolmfdglmpoaaSk4
namespace Go.Proofs.Ytebolmfdglmpoaa.Ex
open Go Go.RowKit
set_option maxHeartbeats 0
set_option maxRecDepth 1000000
set_option linter.unusedVariables false
set_option linter.unusedSectionVars false
noncomputable def spre (off n : Int) (v : VI) (a : Nat) (z : Bool) : Cs := [(wdA off n, (a : Int)), (b2i (wdK off n), 1), (b2i (v.k == 0), b2i z)]
noncomputable def spis (n : Int) (a : Nat) (p : Bool) : Cs := [(b2i (isP a n), b2i p)]
noncomputable def sppt (v : VI) (q : Bool) : Cs := [(b2i (ptK v.k), b2i q)]
noncomputable def sfin (X : List Value) : Cs := ldP X 0 768 X ++ stX zS 0 768 X (sp X)
noncomputable def stQ (L : List Value) (off n : Int) (v : VI) (a : Nat) (e : Exit) (t : List Value) (X : List Value) : LoopQ := ⟨stF, 0, fun _ => true, stE L off n v a, stH L ⟨true, none, vL v⟩, e, t, stH X ⟨true, none, vL v⟩, (some 0, [])⟩
noncomputable def seq2 (L : List Value) (off n : Int) (v : VI) (a : Nat) : Cs := [prP (stE L off n v a = stE L off n v a), prP (stH L ⟨true, none, vL v⟩ = stH L ⟨true, none, vL v⟩)]
theorem st_A (L : List Value) (off n : Int) (v : VI) : reckonPI Try.prog skB3 (stO false 0 0 false false false []) noLoop 100000 300 [] stF [.agg ⟨L⟩, .int .i64 off, .int .i64 n, .agg ⟨vL v⟩] = some (.tuple ⟨[.agg ⟨zS⟩, .int .i64 181]⟩, inter ([(b2i (wdK off n), 0)])) := by kernel_rfl
theorem st_B (L : List Value) (off n : Int) (v : VI) (a : Nat) : reckonPI Try.prog skB3 (stO true a 0 true false false []) noLoop 100000 300 [] stF [.agg ⟨L⟩, .int .i64 off, .int .i64 n, .agg ⟨vL v⟩] = some (.tuple ⟨[.agg ⟨zS⟩, .int .i64 101]⟩, inter (spre off n v a true)) := by kernel_rfl
theorem st_C (L : List Value) (off n : Int) (v : VI) (a j : Nat) : reckonPI Try.prog skB3 (stO true a j false true false (setP L j v)) noLoop 100000 300 [] stF [.agg ⟨L⟩, .int .i64 off, .int .i64 n, .agg ⟨vL v⟩] = some (.tuple ⟨[.agg ⟨sp (setP L j v)⟩, .int .i64 0]⟩, inter (spre off n v a false ++ (spis n a true ++ ([(wi ((a : Int).tdiv 8), (j : Int)), (b2i (decide (0 ≤ (j : Int)) && decide ((j : Int) < (64 : Nat))), 1)] ++ (stP L (0 + j * 12) 12 ++ sfin (setP L j v)))))) := by kernel_rfl
theorem st_D (L : List Value) (off n : Int) (v : VI) (a : Nat) : reckonPI Try.prog skB3 (stO true a 0 false false true []) noLoop 100000 300 [] stF [.agg ⟨L⟩, .int .i64 off, .int .i64 n, .agg ⟨vL v⟩] = some (.tuple ⟨[.agg ⟨zS⟩, .int .i64 102]⟩, inter (spre off n v a false ++ (spis n a false ++ sppt v true))) := by kernel_rfl
theorem st_E (L : List Value) (off n : Int) (v : VI) (a k : Nat) (X : List Value) (β : Nat → Value) : reckonPI Try.prog skB3 (stO true a 0 false false false X) (loopQHook [stQ L off n v a (.exit 1) (stT n a k β) X]) 100000 300 [] stF [.agg ⟨L⟩, .int .i64 off, .int .i64 n, .agg ⟨vL v⟩] = some (.tuple ⟨[.agg ⟨sp X⟩, .int .i64 0]⟩, inter (spre off n v a false ++ (spis n a false ++ (sppt v false ++ (seq2 L off n v a ++ sfin X))))) := by kernel_rfl
theorem st_G (L : List Value) (off n : Int) (v : VI) (a : Nat) (X : List Value) (β : Nat → Value) : reckonPI Try.prog skB3 (stO true a 0 false false false X) (loopQHook [stQ L off n v a .ret (stR β) X]) 100000 300 [] stF [.agg ⟨L⟩, .int .i64 off, .int .i64 n, .agg ⟨vL v⟩] = some (.tuple ⟨[.agg ⟨zS⟩, .int .i64 102]⟩, inter (spre off n v a false ++ (spis n a false ++ (sppt v false ++ seq2 L off n v a)))) := by kernel_rfl
theorem rqL {hk : Hook3} (hhk : HookOk3 Try.prog hk) {qs : List LoopQ} (hq : ∀ e ∈ qs, LoopQOk Try.prog e) (orc : Orc) {g : FuncId} {args : List Value} {v : Value} {cs : Cs} (hf : args.all flat = true) (hv : flat v = true)
    (h : reckonPI Try.prog hk orc (loopQHook qs) 100000 300 [] g args = some (v, inter cs)) (he : AE cs) (w : World) : Calls Try.prog g ⟨args⟩ w fun e w' => e = .returned v ∧ Gr w w' :=
  reckonP_ok noNG hhk (loopQHook_low _) (loopQHook_ok hq) orc 100000 300 [] hf hv h he w (Laid.nil w)
/-- What Store answers. -/
noncomputable def stS (L : List Value) (off n : Int) (v : VI) : List Value × Int :=
  bif !(wdK off n) then (zS, 181) else bif v.k == 0 then (zS, 101) else bif isP (wdA off n) n then (setP L ((wdA off n).toNat / 8) v, 0) else bif ptK v.k then (zS, 102)
  else match goS n.toNat (wdA off n).toNat L with
    | some X => (X, 0)
    | none => (zS, 102)
theorem neg_id {n : Int} (h : 1 ≤ n) (h2 : n ≤ 8) : IntKind.i64.wrap (0 - n) = -n := by
  have := wi_id (x := 0 - n) (by omega) (by omega)
  unfold wi at this
  rw [this]
  omega
theorem wd_ok {off n : Int} (h : wdK off n = true) : (n = 1 ∨ n = 2 ∨ n = 4 ∨ n = 8) ∧ -512 ≤ off ∧ off ≤ -n ∧ wdA off n = off + 512 := by
  unfold wdK at h
  simp only [Bool.and_eq_true] at h
  obtain ⟨h1, h2⟩ := h
  have hn : n = 1 ∨ n = 2 ∨ n = 4 ∨ n = 8 := by
    unfold wdN at h1
    simpa only [Bool.or_eq_true, beq_iff_eq] using h1
  have h3 := h2
  unfold fsK at h2
  rw [neg_id (by omega) (by omega)] at h2
  simp only [Bool.and_eq_true, Bool.not_eq_true', decide_eq_false_iff_not] at h2
  refine ⟨hn, by omega, by omega, ?_⟩
  unfold wdA fsA
  rw [h1, h3]
  show wi (off + 512) = _
  exact wi_id (by omega) (by omega)
theorem tu_flat {L : List Value} (h : OkS L) (e : Int) : flat (.tuple ⟨[.agg ⟨L⟩, .int .i64 e]⟩) = true := by
  show (flat1 (.agg ⟨L⟩) && true) = true
  rw [show flat1 (.agg ⟨L⟩) = true from h.scal]
  rfl
theorem args_flat {L : List Value} (h : OkS L) (off n : Int) (v : VI) : ([.agg ⟨L⟩, .int .i64 off, .int .i64 n, .agg ⟨vL v⟩] : List Value).all flat = true := by
  show (flat (.agg ⟨L⟩) && true) = true
  rw [h.flat]
  rfl
theorem sfin_ok {X : List Value} (h : OkS X) : AE (sfin X) :=
  AE.app (ldP_ok (by rw [h.1]; omega) h.whole) (stX_ok h.one (by rw [h.1, zS_ok.1]; omega) (by rw [splice_whole (by rw [h.1, zS_ok.1]), sp_eq h]))
theorem c_store {L : List Value} (h : OkS L) (off n : Int) (v : VI) (w : World) : Calls Try.prog stF #[.agg ⟨L⟩, .int .i64 off, .int .i64 n, .agg ⟨vL v⟩] w fun e w' => e = .returned (.tuple ⟨[.agg ⟨(stS L off n v).1⟩, .int .i64 (stS L off n v).2]⟩) ∧ Gr w w' := by
  have hf := args_flat h off n v
  have fin : ∀ {X : List Value} {e : Int}, stS L off n v = (X, e) → Value.tuple ⟨[.agg ⟨X⟩, .int .i64 e]⟩ = .tuple ⟨[.agg ⟨(stS L off n v).1⟩, .int .i64 (stS L off n v).2]⟩ := fun e => by rw [e]
  cases k0 : wdK off n with
  | false => exact rqv (fin (by unfold stS; rw [k0]; rfl)) (rq skB3_ok _ hf (tu_flat zS_ok 181) (st_A L off n v) (AE.cons (bf k0) AE.nil) w)
  | true =>
    obtain ⟨hn, h1, h2, hA⟩ := wd_ok k0
    have ha : wdA off n = ((wdA off n).toNat : Int) := (Int.toNat_of_nonneg (by omega)).symm
    have pre : ∀ {z : Bool}, (v.k == 0) = z → AE (spre off n v (wdA off n).toNat z) := fun hz => AE.cons ha (AE.cons (bt k0) (AE.cons (by rw [hz]) AE.nil))
    cases k1 : v.k == 0 with
    | true => exact rqv (fin (by unfold stS; rw [k0, k1]; rfl)) (rq skB3_ok _ hf (tu_flat zS_ok 101) (st_B L off n v _) (pre k1) w)
    | false =>
      cases k2 : isP (wdA off n) n with
      | true =>
        have hj : (wdA off n).toNat / 8 < 64 := by omega
        have o := h.setP hj v
        refine rqv (u := .tuple ⟨[.agg ⟨sp (setP L ((wdA off n).toNat / 8) v)⟩, .int .i64 0]⟩) (by rw [sp_eq o]; exact fin (by unfold stS; rw [k0, k1, k2]; rfl)) (rq skB3_ok _ hf (by rw [sp_eq o]; exact tu_flat o 0) (st_C L off n v _ ((wdA off n).toNat / 8))
          (AE.app (pre k1) (AE.app (AE.cons (by rw [← ha, k2]) AE.nil) (AE.app (AE.cons ?_ (AE.cons (bt (jP_ok hj)) AE.nil)) (AE.app (stP_ok (by rw [h.1]; omega)) (sfin_ok o))))) w)
        rw [Int.tdiv_eq_ediv_of_nonneg (by omega)]
        exact wi_id (by omega) (by omega)
      | false =>
        have pi : AE (spis n (wdA off n).toNat false) := AE.cons (by rw [← ha, k2]) AE.nil
        cases k3 : ptK v.k with
        | true => exact rqv (fin (by unfold stS; rw [k0, k1, k2, k3]; rfl)) (rq skB3_ok _ hf (tu_flat zS_ok 102) (st_D L off n v _) (AE.app (pre k1) (AE.app pi (AE.cons (by rw [k3]) AE.nil))) w)
        | false =>
          have pp : AE (sppt v false) := AE.cons (by rw [k3]) AE.nil
          have pe : AE (seq2 L off n v (wdA off n).toNat) := AE.consP (prP_ok rfl) (AE.consP (prP_ok rfl) AE.nil)
          have R := st_rounds ⟨true, none, vL v⟩ (n := n) (a := (wdA off n).toNat) (by omega) (by omega) n.toNat (wdA off n).toNat L (fun k => (stE L off n v (wdA off n).toNat).getD k (.bool true)) h (by omega) (Nat.le_refl _)
          rw [stE_eq] at R
          have es : stS L off n v = match goS n.toNat (wdA off n).toNat L with | some X => (X, 0) | none => (zS, 102) := by
            unfold stS
            rw [k0, k1, k2, k3]
            rfl
          cases g : goS n.toNat (wdA off n).toNat L with
          | some X =>
            obtain ⟨N, β, s⟩ := R.1 X g
            have o : OkS X := goS_ok h (by omega) g
            refine rqv (fin (by rw [es, g])) (rqv (by rw [sp_eq o]) (rqL skB3_ok (fun e he => ?_) _ hf (by rw [sp_eq o]; exact tu_flat o 0) (st_E L off n v _ ((wdA off n).toNat + n.toNat) X β) (AE.app (pre k1) (AE.app pi (AE.app pp (AE.app pe (sfin_ok o))))) w))
            rw [List.mem_singleton.1 he]
            exact loopQ_ok (N := N) st_one s
          | none =>
            obtain ⟨N, β, X, s⟩ := R.2 g
            refine rqv (fin (by rw [es, g])) (rqL skB3_ok (fun e he => ?_) _ hf (tu_flat zS_ok 102) (st_G L off n v _ X β) (AE.app (pre k1) (AE.app pi (AE.app pp pe))) w)
            rw [List.mem_singleton.1 he]
            exact loopQ_ok (N := N) st_one s
/-- What is stored is a stack. -/
theorem stS_ok {L : List Value} (h : OkS L) (off n : Int) (v : VI) : OkS (stS L off n v).1 := by
  unfold stS
  cases k0 : wdK off n with
  | false => exact zS_ok
  | true =>
    obtain ⟨hn, h1, h2, hA⟩ := wd_ok k0
    cases k1 : v.k == 0 with
    | true => exact zS_ok
    | false =>
      cases k2 : isP (wdA off n) n with
      | true => exact h.setP (by omega) v
      | false =>
        cases k3 : ptK v.k with
        | true => exact zS_ok
        | false =>
          simp only [Bool.not_true, cond_false]
          split
          · rename_i X g
            exact goS_ok h (by omega) g
          · exact zS_ok
/-- Store, as a contract. -/
noncomputable def hkStore : Hook := fun f args _ =>
  if Nat.beq f stF then
    match args with
    | [.agg ⟨L⟩, .int .i64 off, .int .i64 n, .agg ⟨[.int .i64 a0, .int .i64 a1, .int .i64 a2, .int .i64 a3, .int .i64 a4, .int .u64 a5, .int .u64 a6, .int .u64 a7, .int .u64 a8, .int .i64 a9, .int .i64 a10]⟩] =>
      some (.tuple ⟨[.agg ⟨(stS L off n ⟨a0, a1, a2, a3, a4, a5, a6, a7, a8, a9, a10⟩).1⟩, .int .i64 (stS L off n ⟨a0, a1, a2, a3, a4, a5, a6, a7, a8, a9, a10⟩).2]⟩, [prP (OkS L)])
    | _ => none
  else none
theorem hkStore_ok : HookOk Try.prog hkStore := by
  intro f args h v cs hv hc wb k s w H
  unfold hkStore at hv
  split at hv
  · rename_i hf
    obtain rfl := Nat.eq_of_beq_eq_true hf
    split at hv
    · rename_i L off n a0 a1 a2 a3 a4 a5 a6 a7 a8 a9 a10
      cases hv
      exact c_store (prP_of (hc _ (List.mem_singleton.2 rfl))) off n ⟨a0, a1, a2, a3, a4, a5, a6, a7, a8, a9, a10⟩ w
    · cases hv
  · cases hv
end Go.Proofs.Ytebolmfdglmpoaa.Ex
