/-
  Layer 19: the stack behind some stores, by a contract.
-/
import Derived.Test.YtebolmfdglmpoaaSk6
namespace Go.Proofs.Ytebolmfdglmpoaa.Ex
open Go Go.RowKit
set_option maxHeartbeats 0
set_option maxRecDepth 1000000
set_option linter.unusedVariables false
set_option linter.unusedSectionVars false
abbrev sdF : FuncId := 10
noncomputable abbrev sdLp : Code := theLoopN Try.prog sdF 0
theorem sd_one : oneLoopN Try.prog sdF 0 = true := by kernel_rfl
noncomputable def stArgs (L : List Value) (off n : Int) (v : VI) : List Value := [.agg ⟨L⟩, .int .i64 off, .int .i64 n, .agg ⟨vL v⟩]
noncomputable def stAns (L : List Value) (off n : Int) (v : VI) : Value := .tuple ⟨[.agg ⟨(stS L off n v).1⟩, .int .i64 (stS L off n v).2]⟩
noncomputable def stFl (L : List Value) (off n : Int) (v : VI) : Cs := [(b2i ((stArgs L off n v).all flat && flat (stAns L off n v)), 1)]
noncomputable def sdJ (i n : Nat) : Cs := [(b2i (decide (0 ≤ (i : Int)) && decide ((i : Int) < (n : Nat))), 1)]
noncomputable def sdA (cs L : List Value) (n i : Nat) (ok : Bool) : Cs := [(b2i (decide ((i : Int) < (n : Int))), 1)] ++ (ldP L 0 768 L ++ (sdJ i n ++ (ld1P cs (0 + i * 4 + 0) (.int .i64 (pc cs (0 + i * 4 + 0))) ++ (sdJ i n ++ (ld1P cs (0 + i * 4 + 1) (.int .i64 (pc cs (0 + i * 4 + 1))) ++ (sdJ i n ++ (ldP cs (0 + i * 4) 4 (acL cs (0 + i * 4)) ++ ([(wi (i + 1), ((i + 1 : Nat) : Int))]
  ++ (stFl L (pc cs (0 + i * 4 + 0)) (pc cs (0 + i * 4 + 1)) (valV (pc cs (0 + i * 4 + 2)) ((i + 1 : Nat) : Int)) ++ (stFl L (pc cs (0 + i * 4 + 0)) (pc cs (0 + i * 4 + 1)) (valV (pc cs (0 + i * 4 + 2)) ((i + 1 : Nat) : Int)) ++ ([prP (OkS L)] ++ (stX zS 0 768 (acS cs L i).1 (acS cs L i).1 ++ [(b2i ((acS cs L i).2 == 0), b2i ok)]))))))))))))
noncomputable def sdB (cs L : List Value) (i : Nat) : Cs := ldP (acS cs L i).1 0 768 (acS cs L i).1 ++ stX L 0 768 (acS cs L i).1 (acS cs L i).1
noncomputable def sdI (i : Nat) : Cs := [(wi (i + 1), ((i + 1 : Nat) : Int))]
noncomputable def sdV (cs L : List Value) (i : Nat) : List Value := [.tuple ⟨[.agg ⟨(acS cs L i).1⟩, .int .i64 (acS cs L i).2]⟩, .agg ⟨L⟩, .tuple ⟨[.agg ⟨(acS cs L i).1⟩, .int .i64 (acS cs L i).2]⟩, .agg ⟨(acS cs L i).1⟩]
def c37 (k : Nat) : Bool := !(Nat.beq k 37) && !(Nat.beq k 1 || Nat.beq k 38)
def c1_38 (k : Nat) : Bool := !(Nat.beq k 1 || Nat.beq k 38)
noncomputable abbrev p3 : Value := .pointer (some ⟨3, 0, none⟩)
theorem sd_hopT (cs L : List Value) (G : AO) (n c i : Nat) (p : Value) (β : Nat → Value) : (hopRunL Try.prog st3 (sdO cs L i true true) noLoop sdF sdLp 1 3 [4] (sdT n c i p β) (sdH cs L G)).map (fun r => (maskZ 1 (sdZ 2) r.1, pickZ (sdZ 2) r.1, r.2)) = some ((sdT n c (i + 1) p3 fun k => bif c1_38 k then .bool true else .bool (okR 1 (β k))).map (reV (keepF 3 [4]) 6), sdV cs L i ++ [.agg ⟨(acS cs L i).1⟩], sdH cs (acS cs L i).1 ⟨true, none, (acS cs L i).1⟩, some 2, inter (sdA cs L n i true ++ (sdB cs L i ++ sdI i))) := by kernel_rfl
theorem sd_hopF (cs L : List Value) (G : AO) (n c i : Nat) (p : Value) (β : Nat → Value) : (hopRunL Try.prog st3 (sdO cs L i true false) noLoop sdF sdLp 1 3 [4] (sdT n c i p β) (sdH cs L G)).map (fun r => (maskZ 1 (sdZ 1) r.1, pickZ (sdZ 1) r.1, r.2)) = some ((sdT n c (i + 1) p3 fun k => bif c37 k then .bool true else .bool (okR 1 (β k))).map (reV (keepF 3 [4]) 6), sdV cs L i, sdH cs L ⟨true, none, (acS cs L i).1⟩, some 4, inter (sdA cs L n i false ++ sdI i)) := by kernel_rfl
def sdZ1 : List Nat := (sdZ 1).map fun z => bif Nat.beq z 0 then 0 else 1
def c710 (k : Nat) : Bool := Nat.ble 7 k && Nat.ble k 10
theorem sd_stop (cs L : List Value) (G : AO) (n c : Nat) (β : Nat → Value) : (stopRunL Try.prog st3 (sdO cs L n false false) noLoop sdF sdLp 1 4 [] (sdT n c n p3 β) (sdH cs L ⟨true, none, G.cs⟩)).map (fun r => (r.1, r.2.map fun r => (maskZ 1 sdZ1 r.1, pickZ sdZ1 r.1, r.2))) = some (.exit 0, some ((sdT n c n p3 fun k => bif c710 k then .bool true else .bool (okR 1 (β k))).map (reV (keepF 4 []) 6), [], sdH cs L ⟨true, none, G.cs⟩, none, inter [(b2i (decide ((n : Int) < (n : Int))), 0)])) := by kernel_rfl
/-- An act's cells. -/
def aOk (r : Nat) (v : Value) : Bool :=
  match r with
  | 2 => isKV .u8 v
  | 3 => (match v with | .bool _ => true | _ => false)
  | _ => isKV .i64 v
def OkA (cs : List Value) (n : Nat) : Prop := cs.length = n * 4 ∧ ∀ (i : Nat) (v : Value), cs[i]? = some v → aOk (i % 4) v = true
theorem isB_eq {v : Value} (h : (match v with | .bool _ => true | _ => false) = true) : v = .bool (bOf v) := by
  cases v <;> first | rfl | cases h
theorem aOk_scal {r : Nat} {v : Value} (h : aOk r v = true) : scal v = true := by
  unfold aOk at h
  split at h
  · rw [isKV_eq h]; rfl
  · rw [isB_eq h]; rfl
  · rw [isKV_eq h]; rfl
theorem OkA.flat {cs : List Value} {n : Nat} (h : OkA cs n) : cs.all Ex.flat = true := List.all_eq_true.2 fun v hv => by
  obtain ⟨i, hi⟩ := List.getElem?_of_mem hv
  exact flat_of_scal (aOk_scal (h.2 i v hi))
theorem OkA.get {cs : List Value} {n i : Nat} (h : OkA cs n) (hi : i < n * 4) : ∃ v, cs[i]? = some v ∧ cs.getD i .nilFunc = v ∧ aOk (i % 4) v = true := by
  have e := List.getElem?_eq_getElem (show i < cs.length by rw [h.1]; exact hi)
  exact ⟨_, e, by rw [List.getD_eq_getElem?_getD, e]; rfl, h.2 _ _ e⟩
theorem OkA.i64 {cs : List Value} {n i r : Nat} (h : OkA cs n) (hi : i < n) (hr : r = 0 ∨ r = 1) : cs.getD (0 + i * 4 + r) .nilFunc = .int .i64 (pc cs (0 + i * 4 + r)) := by
  obtain ⟨v, h1, h2, h3⟩ := h.get (i := 0 + i * 4 + r) (by omega)
  rw [show (0 + i * 4 + r) % 4 = r by omega] at h3
  unfold pc
  rw [h2]
  rcases hr with rfl | rfl <;> exact isKV_eq h3
theorem OkA.act {cs : List Value} {n i : Nat} (h : OkA cs n) (hi : i < n) : (cs.drop (0 + i * 4)).take 4 = acL cs (0 + i * 4) := by
  apply List.ext_getElem?
  intro r
  rw [List.getElem?_take, List.getElem?_drop]
  by_cases hr : r < 4
  · rw [if_pos hr]
    obtain ⟨v, h1, h2, h3⟩ := h.get (i := 0 + i * 4 + r) (by omega)
    rw [show (0 + i * 4 + r) % 4 = r by omega] at h3
    rw [h1]
    match r, hr with
    | 0, _ => exact congrArg some ((isKV_eq h3).trans (by rw [← h2]; rfl))
    | 1, _ => exact congrArg some ((isKV_eq h3).trans (by rw [← h2]; rfl))
    | 2, _ => exact congrArg some ((isKV_eq h3).trans (by rw [← h2]; rfl))
    | 3, _ => exact congrArg some ((isB_eq h3).trans (by rw [← h2]; rfl))
    | n + 4, h => omega
  · rw [if_neg hr]
    symm
    exact List.getElem?_eq_none (by show 4 ≤ r; omega)
theorem stFl_ok {L : List Value} (h : OkS L) (off n : Int) (v : VI) : AE (stFl L off n v) := by
  refine AE.cons (bt ?_) AE.nil
  unfold stAns stArgs
  rw [args_flat h, tu_flat (stS_ok h off n v)]
  rfl
theorem sdA_ok {cs L : List Value} {n i : Nat} {ok : Bool} (hc : OkA cs n) (h : OkS L) (hn : n ≤ 1000) (hi : i < n) (hk : ((acS cs L i).2 == 0) = ok) : AE (sdA cs L n i ok) := by
  have o : OkS (acS cs L i).1 := stS_ok h _ _ _
  have hj : AE (sdJ i n) := AE.cons (bt (jP_ok hi)) AE.nil
  refine AE.app (AE.cons (b1 (by omega)) AE.nil) (AE.app (ldP_ok (by rw [h.1]; omega) h.whole) (AE.app hj (AE.app (ld1P_ok (by rw [hc.1]; omega) (hc.i64 hi (.inl rfl))) (AE.app hj (AE.app (ld1P_ok (by rw [hc.1]; omega) (hc.i64 hi (.inr rfl))) (AE.app hj (AE.app (ldP_ok (by rw [hc.1]; omega) (hc.act hi))
    (AE.app (AE.cons ?_ AE.nil) (AE.app (stFl_ok h _ _ _) (AE.app (stFl_ok h _ _ _) (AE.app (AE.consP (prP_ok h) AE.nil) (AE.app (stX_ok o.one (by rw [o.1, zS_ok.1]; omega) (splice_whole (by rw [o.1, zS_ok.1]))) (AE.cons (by rw [hk]) AE.nil)))))))))))))
  show wi ((i : Int) + 1) = ((i + 1 : Nat) : Int)
  rw [wi_id (by omega) (by omega)]
  omega
theorem sdB_ok {cs L : List Value} {i : Nat} (h : OkS L) : AE (sdB cs L i) := by
  have o : OkS (acS cs L i).1 := stS_ok h _ _ _
  exact AE.app (ldP_ok (by rw [o.1]; omega) o.whole) (stX_ok o.one (by rw [o.1, h.1]; omega) (splice_whole (by rw [o.1, h.1])))
theorem sdI_ok {i n : Nat} (hn : n ≤ 1000) (hi : i < n) : AE (sdI i) := by
  refine AE.cons ?_ AE.nil
  show wi ((i : Int) + 1) = ((i + 1 : Nat) : Int)
  rw [wi_id (by omega) (by omega)]
  omega
/-- The stack behind so many acts. -/
noncomputable def sdS (cs : List Value) : Nat → List Value
  | 0 => zS
  | i + 1 => bif (acS cs (sdS cs i) i).2 == 0 then (acS cs (sdS cs i) i).1 else sdS cs i
theorem sdS_ok (cs : List Value) : ∀ i, OkS (sdS cs i)
  | 0 => zS_ok
  | i + 1 => by
    unfold sdS
    cases (acS cs (sdS cs i) i).2 == 0
    · exact sdS_ok cs i
    · exact stS_ok (sdS_ok cs i) _ _ _
theorem sdV_flat {cs L : List Value} {i : Nat} (h : OkS L) : (sdV cs L i).all flat = true := by
  have o : OkS (acS cs L i).1 := stS_ok h _ _ _
  unfold sdV
  simp only [List.all_cons, List.all_nil, tu_flat o, h.flat, o.flat, Bool.and_true]
theorem sdH_flat {cs L X : List Value} {n : Nat} (hc : OkA cs n) (h : OkS L) (hx : OkS X) : flatH (sdH cs L ⟨true, none, X⟩) = true := by
  unfold flatH sdH
  simp only [List.all_cons, List.all_nil, hc.flat, zS_ok.flats, h.flats, hx.flats, Bool.and_true]
/-- A round. -/
theorem sd_step {cs : List Value} {n i : Nat} (c : Nat) (hc : OkA cs n) (hn : n ≤ 1000) (hi : i < n) (G : AO) (p : Value) (β : Nat → Value) (hβ : FlR 1 β) :
    ∃ β' X, FlR 1 β' ∧ OkS X ∧ HopQ Try.prog sdLp 1 3 (sdT n c i p β) (sdH cs (sdS cs i) G) (sdT n c (i + 1) p3 β') (sdH cs (sdS cs (i + 1)) ⟨true, none, X⟩) (some 2, []) := by
  have hL := sdS_ok cs i
  have o : OkS (acS cs (sdS cs i) i).1 := stS_ok hL _ _ _
  cases hk : (acS cs (sdS cs i) i).2 == 0 with
  | true =>
    have e : sdS cs (i + 1) = (acS cs (sdS cs i) i).1 := by
      show (bif (acS cs (sdS cs i) i).2 == 0 then _ else _) = _
      rw [hk]; rfl
    rw [e]
    obtain ⟨β', f, q⟩ := hopF_ok noNG st3_ok noLoop_low (noLoop_ok _) sd_one [4] (T := sdT n c (i + 1) p3) (zs := sdZ 2) (fun β => rfl) c1_38 hβ (sd_hopT cs (sdS cs i) G n c i p β)
      (by rw [List.all_append, sdV_flat hL]; show (flat (.agg ⟨(acS cs (sdS cs i) i).1⟩) && true) = true; rw [o.flat]; rfl) (sdH_flat hc o o) (by decide) (by show 1 ≤ 4; decide) (by kernel_rfl) (by kernel_rfl) (AE.app (sdA_ok hc hL hn hi hk) (AE.app (sdB_ok hL) (sdI_ok hn hi)))
    exact ⟨β', _, f, o, q⟩
  | false =>
    have e : sdS cs (i + 1) = sdS cs i := by
      show (bif (acS cs (sdS cs i) i).2 == 0 then _ else _) = _
      rw [hk]; rfl
    rw [e]
    obtain ⟨β', f, q⟩ := hopF_ok noNG st3_ok noLoop_low (noLoop_ok _) sd_one [4] (T := sdT n c (i + 1) p3) (zs := sdZ 1) (fun β => rfl) c37 hβ (sd_hopF cs (sdS cs i) G n c i p β)
      (sdV_flat hL) (sdH_flat hc hL o) (by decide) (by show 1 ≤ 4; decide) (by kernel_rfl) (by kernel_rfl) (AE.app (sdA_ok hc hL hn hi hk) (sdI_ok hn hi))
    exact ⟨β', _, f, o, q.weak (bndW rfl)⟩
theorem sd_rounds {cs : List Value} {n : Nat} (c : Nat) (hc : OkA cs n) (hn : n ≤ 1000) : ∀ (d i : Nat) (X : List Value) (β : Nat → Value), i + d = n → FlR 1 β → OkS X →
    ∃ β' X', FlR 1 β' ∧ OkS X' ∧ HopQ Try.prog sdLp d 3 (sdT n c i p3 β) (sdH cs (sdS cs i) ⟨true, none, X⟩) (sdT n c n p3 β') (sdH cs (sdS cs n) ⟨true, none, X'⟩) (some 2, [])
  | 0, i, X, β, e, hβ, hX => by
    obtain rfl : i = n := by omega
    exact ⟨β, X, hβ, hX, HopQ.zero _ _ _ _⟩
  | d + 1, i, X, β, e, hβ, hX => by
    obtain ⟨β1, X1, f1, o1, q1⟩ := sd_step c hc hn (show i < n by omega) ⟨true, none, X⟩ p3 β hβ
    obtain ⟨β2, X2, f2, o2, q2⟩ := sd_rounds c hc hn d (i + 1) X1 β1 (by omega) f1 o1
    refine ⟨β2, X2, f2, o2, ?_⟩
    rw [show d + 1 = 1 + d by omega]
    exact q1.trans q2 (fun _ _ h => h) (fun _ _ h => h)
noncomputable def sdE0 (n c : Nat) : List Value := sdT n c 0 (.tuple ⟨[]⟩) fun _ => .tuple ⟨[]⟩
noncomputable def sdH0 (cs : List Value) : List AO := [⟨true, none, cs⟩, ⟨true, none, zS⟩, ⟨true, none, zS⟩]
theorem sd_loop {cs : List Value} {n : Nat} (c : Nat) (hc : OkA cs n) (hn : n ≤ 1000) (h1 : 1 ≤ n) :
    ∃ N β X, StopQ Try.prog sdLp N 3 (sdE0 n c) (sdH0 cs) (.exit 0) (sdT n c n p3 β) (sdH cs (sdS cs n) ⟨true, none, X⟩) (some 2, []) := by
  obtain ⟨β1, X1, f1, o1, q1⟩ := sd_step c hc hn (show 0 < n by omega) dead (.tuple ⟨[]⟩) (fun _ => .tuple ⟨[]⟩) (fun _ => rfl)
  obtain ⟨β2, X2, f2, o2, q2⟩ := sd_rounds c hc hn (n - 1) 1 X1 β1 (by omega) f1 o1
  obtain ⟨β3, f3, q3⟩ := stopF_ok noNG st3_ok noLoop_low (noLoop_ok _) sd_one [] (T := sdT n c n p3) (zs := sdZ1) (fun β => rfl) c710 f2 (sd_stop cs (sdS cs n) ⟨true, none, X2⟩ n c β2)
    rfl (sdH_flat hc (sdS_ok cs n) o2) (by decide) (by show 1 ≤ 4; decide) (by kernel_rfl) (by kernel_rfl) (AE.cons (b0 (by omega)) AE.nil)
  have q3' : StopQ Try.prog sdLp 1 3 (sdT n c n p3 β2) (sdH cs (sdS cs n) ⟨true, none, X2⟩) (.exit 0) (sdT n c n p3 β3) (sdH cs (sdS cs n) ⟨true, none, X2⟩) (some 2, []) := (q3.weak (bndW rfl)).shrink (by decide)
  exact ⟨_, β3, X2, (q1.trans q2 (fun _ _ h => h) (fun _ _ h => h)).stop q3' (fun _ _ h => h) (fun _ _ h => h) |>.pad 1⟩
noncomputable def sdEO (X : List Value) : Orc := fun f t _ =>
  if Nat.beq f sdF then
    (if Nat.beq t 38 then some (tld (.agg ⟨X⟩)) else if Nat.beq t 2000002 then some (tld (.agg ⟨sp X⟩)) else none)
  else none
noncomputable def sdQ (cs : List Value) (n c : Nat) (β : Nat → Value) (X : List Value) : LoopQ := ⟨sdF, 0, fun _ => true, sdE0 n c, sdH0 cs, .exit 0, sdT n c n p3 β, sdH cs (sdS cs n) ⟨true, none, X⟩, (some 2, [])⟩
theorem sd_run (cs : List Value) (n c : Nat) (β : Nat → Value) (X : List Value) : reckonQI Try.prog st3 (sdEO (sdS cs n)) (loopQHook [sdQ cs n c β X]) 100000 300 [⟨true, none, cs⟩] sdF [.slice (some ⟨0, 0, none⟩) n c] = some (.agg ⟨sp (sdS cs n)⟩, inter ([prP (sdE0 n c = sdE0 n c), prP (sdH0 cs = sdH0 cs)] ++ sfin (sdS cs n))) := by kernel_rfl
theorem c_stored {cs : List Value} {n : Nat} (c : Nat) (hc : OkA cs n) (hn : n ≤ 1000) (h1 : 1 ≤ n) {w : World} {s : Ren} (H : HR w 1 s [⟨true, none, cs⟩] w) {args' : List Value} (ha : LR s [.slice (some ⟨0, 0, none⟩) n c] args') :
    Calls Try.prog sdF ⟨args'⟩ w fun e w' => e = .returned (.agg ⟨sdS cs n⟩) ∧ Gr w w' := by
  obtain ⟨N, β, X, S⟩ := sd_loop c hc hn h1
  have o := sdS_ok cs n
  have L : LoopQOk Try.prog (sdQ cs n c β X) := loopQ_ok (N := N) sd_one (S.stop (by kernel_rfl))
  have := reckonQ_ok noNG st3_ok (loopQHook_low _) (loopQHook_ok (fun e he => by rw [List.mem_singleton.1 he]; exact L)) _ _ _ _ (by rw [sp_eq o]; exact o.flat) (sd_run cs n c β X)
    (AE.app (AE.consP (prP_ok rfl) (AE.consP (prP_ok rfl) AE.nil)) (sfin_ok o)) H ha
  rw [sp_eq o] at this
  exact this
end Go.Proofs.Ytebolmfdglmpoaa.Ex
