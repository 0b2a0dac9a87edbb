/-
  Lemmas for the laws of this seat: Sk6, Sk7, Sk11.
-/
import Derived.Test.YtebolmfdglmpoaaSk5
section
namespace Go.Proofs.Ytebolmfdglmpoaa.Ex
open Go Go.RowKit
set_option maxHeartbeats 0
set_option maxRecDepth 1000000
set_option linter.unusedVariables false
set_option linter.unusedSectionVars false
def valV (k by_ : Int) : VI := bif k.tmod 4 == 0 then zV else bif k.tmod 4 == 1 then ⟨3, 0, 0, IntKind.i64.wrap (0 - by_), 0, 0, 0, 0, 0, 0, 0⟩ else ⟨1, 0, 0, 0, 0, IntKind.u64.wrap by_, 0, IntKind.u64.wrap by_, IntKind.u64.wrap by_, IntKind.i64.wrap (IntKind.u64.wrap by_), IntKind.i64.wrap (IntKind.u64.wrap by_)⟩
theorem val_0 (o n k : Int) (b : Bool) (by_ : Int) (he : AE [(b2i (k.tmod 4 == 0), 1)]) (w : World) : Calls Try.prog 16 #[.agg ⟨[.int .i64 o, .int .i64 n, .int .u8 k, .bool b]⟩, .int .i64 by_] w fun e w' => e = .returned (.agg ⟨vL zV⟩) ∧ Gr w w' :=
  rq nh3_ok (oS [(16, 9, .bool true)]) (cs := [(b2i (k.tmod 4 == 0), 1)]) rfl rfl (by kernel_rfl) he w
theorem val_1 (o n k : Int) (b : Bool) (by_ : Int) (he : AE [(b2i (k.tmod 4 == 0), 0), (b2i (k.tmod 4 == 1), 1)]) (w : World) : Calls Try.prog 16 #[.agg ⟨[.int .i64 o, .int .i64 n, .int .u8 k, .bool b]⟩, .int .i64 by_] w fun e w' => e = .returned (.agg ⟨vL ⟨3, 0, 0, IntKind.i64.wrap (0 - by_), 0, 0, 0, 0, 0, 0, 0⟩⟩) ∧ Gr w w' :=
  rq nh3_ok (oS [(16, 9, .bool false), (16, 12, .bool true)]) (cs := [(b2i (k.tmod 4 == 0), 0), (b2i (k.tmod 4 == 1), 1)]) rfl rfl (by kernel_rfl) he w
theorem val_2 (o n k : Int) (b : Bool) (by_ : Int) (he : AE [(b2i (k.tmod 4 == 0), 0), (b2i (k.tmod 4 == 1), 0)]) (w : World) : Calls Try.prog 16 #[.agg ⟨[.int .i64 o, .int .i64 n, .int .u8 k, .bool b]⟩, .int .i64 by_] w fun e w' => e = .returned (.agg ⟨vL ⟨1, 0, 0, 0, 0, IntKind.u64.wrap by_, 0, IntKind.u64.wrap by_, IntKind.u64.wrap by_, IntKind.i64.wrap (IntKind.u64.wrap by_), IntKind.i64.wrap (IntKind.u64.wrap by_)⟩⟩) ∧ Gr w w' :=
  rq nh3_ok (oS [(16, 9, .bool false), (16, 12, .bool false)]) (cs := [(b2i (k.tmod 4 == 0), 0), (b2i (k.tmod 4 == 1), 0)]) rfl rfl (by kernel_rfl) he w
theorem c_val (o n k : Int) (b : Bool) (by_ : Int) (w : World) : Calls Try.prog 16 #[.agg ⟨[.int .i64 o, .int .i64 n, .int .u8 k, .bool b]⟩, .int .i64 by_] w fun e w' => e = .returned (.agg ⟨vL (valV k by_)⟩) ∧ Gr w w' := by
  cases k0 : (k.tmod 4 == 0) with
  | true => exact rqv (by simp only [valV, k0, cond_true]) (val_0 o n k b by_ (AE.cons (bt k0) AE.nil) w)
  | false =>
    cases k1 : (k.tmod 4 == 1) with
    | true => exact rqv (by simp only [valV, k0, k1, cond_true, cond_false]) (val_1 o n k b by_ (AE.cons (bf k0) (AE.cons (bt k1) AE.nil)) w)
    | false => exact rqv (by simp only [valV, k0, k1, cond_false]) (val_2 o n k b by_ (AE.cons (bf k0) (AE.cons (bf k1) AE.nil)) w)
def hk_val : Hook := fun f args _ =>
  if Nat.beq f 16 then
    match args with
    | [.agg ⟨[.int .i64 o, .int .i64 n, .int .u8 k, .bool b]⟩, .int .i64 by_] => some (.agg ⟨vL (valV k by_)⟩, [])
    | _ => none
  else none
theorem hk_val_ok : HookOk Try.prog hk_val := by
  intro f args h v cs hv hc wb k s w H
  unfold hk_val at hv
  split at hv
  · rename_i hf
    obtain rfl := Nat.eq_of_beq_eq_true hf
    split at hv
    · rename_i o n k b by_
      cases hv
      exact c_val o n k b by_ w
    · cases hv
  · cases hv
def sd3 : Hook3 := liftG 16 hk_val
noncomputable def st3 : Hook3 := or3 (liftG 16 hk_val) (liftP hkStore)
theorem st3_ok : HookOk3 Try.prog st3 := or3_ok (liftG_ok hk_val_ok) (liftP_ok hkStore_ok)
def bOf : Value → Bool
  | .bool b => b
  | _ => false
def bc (L : List Value) (o : Nat) : Bool := bOf (L.getD o .nilFunc)
/-- An act's cells. -/
def acL (cs : List Value) (o : Nat) : List Value := [.int .i64 (pc cs o), .int .i64 (pc cs (o + 1)), .int .u8 (pc cs (o + 2)), .bool (bc cs (o + 3))]
/-- What Store makes of an act. -/
noncomputable def acS (cs L : List Value) (i : Nat) : List Value × Int := stS L (pc cs (0 + i * 4 + 0)) (pc cs (0 + i * 4 + 1)) (valV (pc cs (0 + i * 4 + 2)) ((i + 1 : Nat) : Int))
noncomputable def sdO (cs L : List Value) (i : Nat) (g ok : Bool) : Orc := fun f t _ =>
  if Nat.beq f 10 then
    match t with
    | 10 => some (.bool g)
    | 12 => some (.int .i64 ((i + 1 : Nat) : Int))
    | 14 => some (tld (.agg ⟨L⟩))
    | 17 => some .nilIface
    | 22 => some .nilIface
    | 27 => some .nilIface
    | 19 => some (tld (.int .i64 (pc cs (0 + i * 4 + 0))))
    | 24 => some (tld (.int .i64 (pc cs (0 + i * 4 + 1))))
    | 28 => some (tld (.agg ⟨acL cs (0 + i * 4)⟩))
    | 30 => some (.int .i64 ((i + 1 : Nat) : Int))
    | 32 => some (.tuple ⟨[.nilIface, .nilIface, .nilIface]⟩)
    | 36 => some (.bool ok)
    | 37 => some (tld (.agg ⟨(acS cs L i).1⟩))
    | t => if Nat.beq t 2000005 then some (tld (.agg ⟨(acS cs L i).1⟩)) else if Nat.beq t 2000003 then some (tld (.agg ⟨(acS cs L i).1⟩)) else none
  else none
noncomputable def sdT (n c i : Nat) (p : Value) (β : Nat → Value) : List Value := [.slice (some ⟨0, 0, none⟩) n c, β 1, .pointer (some ⟨1, 0, none⟩), .pointer (some ⟨2, 0, none⟩), .int .i64 (i : Int), p, β 6, β 7, β 8, β 9, β 10, β 11, β 12, β 13, β 14, β 15, β 16, β 17, β 18, β 19, β 20, β 21, β 22, β 23, β 24, β 25, β 26, β 27, β 28, β 29, β 30, β 31, β 32, β 33, β 34, β 35, β 36, β 37, β 38]
def sdZ (e : Nat) : List Nat := [0, 1, 0, 0, 0, 0, 1, 1, 1, 1, 1, 1, 1, 2, 2, 1, 1, 1, 1, 1, 1, 1, 1, 1, 1, 1, 1, 1, 1, 1, 1, 1, 2, 2, 1, 1, 1, e, 1]
noncomputable def sdH (cs L : List Value) (G : AO) : List AO := [⟨true, none, cs⟩, ⟨true, none, zS⟩, ⟨true, none, L⟩, G]
end Go.Proofs.Ytebolmfdglmpoaa.Ex
end
section
namespace Go.Proofs.Ytebolmfdglmpoaa.Ex
open Go Go.RowKit
set_option maxHeartbeats 0
set_option maxRecDepth 1000000
set_option linter.unusedVariables false
set_option linter.unusedSectionVars false
abbrev sdF : FuncId := 10
noncomputable abbrev sdLp : Code := theLoopN Try.prog sdF 0
theorem sd_one : oneLoopN Try.prog sdF 0 = true := by kernel_rfl
noncomputable def stArgs (L : List Value) (off n : Int) (v : VI) : List Value := [.agg ⟨L⟩, .int .i64 off, .int .i64 n, .agg ⟨vL v⟩]
noncomputable def stAns (L : List Value) (off n : Int) (v : VI) : Value := .tuple ⟨[.agg ⟨(stS L off n v).1⟩, .int .i64 (stS L off n v).2]⟩
noncomputable def stFl (L : List Value) (off n : Int) (v : VI) : Cs := [(b2i ((stArgs L off n v).all flat && flat (stAns L off n v)), 1)]
noncomputable def sdJ (i n : Nat) : Cs := [(b2i (decide (0 ≤ (i : Int)) && decide ((i : Int) < (n : Nat))), 1)]
noncomputable def sdA (cs L : List Value) (n i : Nat) (ok : Bool) : Cs := [(b2i (decide ((i : Int) < (n : Int))), 1)] ++ (ldP L 0 768 L ++ (sdJ i n ++ (ld1P cs (0 + i * 4 + 0) (.int .i64 (pc cs (0 + i * 4 + 0))) ++ (sdJ i n ++ (ld1P cs (0 + i * 4 + 1) (.int .i64 (pc cs (0 + i * 4 + 1))) ++ (sdJ i n ++ (ldP cs (0 + i * 4) 4 (acL cs (0 + i * 4)) ++ ([(wi (i + 1), ((i + 1 : Nat) : Int))]
  ++ (stFl L (pc cs (0 + i * 4 + 0)) (pc cs (0 + i * 4 + 1)) (valV (pc cs (0 + i * 4 + 2)) ((i + 1 : Nat) : Int)) ++ (stFl L (pc cs (0 + i * 4 + 0)) (pc cs (0 + i * 4 + 1)) (valV (pc cs (0 + i * 4 + 2)) ((i + 1 : Nat) : Int)) ++ ([prP (OkS L)] ++ (stX zS 0 768 (acS cs L i).1 (acS cs L i).1 ++ [(b2i ((acS cs L i).2 == 0), b2i ok)]))))))))))))
noncomputable def sdB (cs L : List Value) (i : Nat) : Cs := ldP (acS cs L i).1 0 768 (acS cs L i).1 ++ stX L 0 768 (acS cs L i).1 (acS cs L i).1
noncomputable def sdI (i : Nat) : Cs := [(wi (i + 1), ((i + 1 : Nat) : Int))]
noncomputable def sdV (cs L : List Value) (i : Nat) : List Value := [.tuple ⟨[.agg ⟨(acS cs L i).1⟩, .int .i64 (acS cs L i).2]⟩, .agg ⟨L⟩, .tuple ⟨[.agg ⟨(acS cs L i).1⟩, .int .i64 (acS cs L i).2]⟩, .agg ⟨(acS cs L i).1⟩]
def c37 (k : Nat) : Bool := !(Nat.beq k 37) && !(Nat.beq k 1 || Nat.beq k 38)
def c1_38 (k : Nat) : Bool := !(Nat.beq k 1 || Nat.beq k 38)
noncomputable abbrev p3 : Value := .pointer (some ⟨3, 0, none⟩)
theorem sd_hopT (cs L : List Value) (G : AO) (n c i : Nat) (p : Value) (β : Nat → Value) : (hopRunL Try.prog st3 (sdO cs L i true true) noLoop sdF sdLp 1 3 [4] (sdT n c i p β) (sdH cs L G)).map (fun r => (maskZ 1 (sdZ 2) r.1, pickZ (sdZ 2) r.1, r.2)) = some ((sdT n c (i + 1) p3 fun k => bif c1_38 k then .bool true else .bool (okR 1 (β k))).map (reV (keepF 3 [4]) 6), sdV cs L i ++ [.agg ⟨(acS cs L i).1⟩], sdH cs (acS cs L i).1 ⟨true, none, (acS cs L i).1⟩, some 2, inter (sdA cs L n i true ++ (sdB cs L i ++ sdI i))) := by kernel_rfl
theorem sd_hopF (cs L : List Value) (G : AO) (n c i : Nat) (p : Value) (β : Nat → Value) : (hopRunL Try.prog st3 (sdO cs L i true false) noLoop sdF sdLp 1 3 [4] (sdT n c i p β) (sdH cs L G)).map (fun r => (maskZ 1 (sdZ 1) r.1, pickZ (sdZ 1) r.1, r.2)) = some ((sdT n c (i + 1) p3 fun k => bif c37 k then .bool true else .bool (okR 1 (β k))).map (reV (keepF 3 [4]) 6), sdV cs L i, sdH cs L ⟨true, none, (acS cs L i).1⟩, some 4, inter (sdA cs L n i false ++ sdI i)) := by kernel_rfl
def sdZ1 : List Nat := (sdZ 1).map fun z => bif Nat.beq z 0 then 0 else 1
def c710 (k : Nat) : Bool := Nat.ble 7 k && Nat.ble k 10
theorem sd_stop (cs L : List Value) (G : AO) (n c : Nat) (β : Nat → Value) : (stopRunL Try.prog st3 (sdO cs L n false false) noLoop sdF sdLp 1 4 [] (sdT n c n p3 β) (sdH cs L ⟨true, none, G.cs⟩)).map (fun r => (r.1, r.2.map fun r => (maskZ 1 sdZ1 r.1, pickZ sdZ1 r.1, r.2))) = some (.exit 0, some ((sdT n c n p3 fun k => bif c710 k then .bool true else .bool (okR 1 (β k))).map (reV (keepF 4 []) 6), [], sdH cs L ⟨true, none, G.cs⟩, none, inter [(b2i (decide ((n : Int) < (n : Int))), 0)])) := by kernel_rfl
/-- An act's cells. -/
def aOk (r : Nat) (v : Value) : Bool :=
  match r with
  | 2 => isKV .u8 v
  | 3 => (match v with | .bool _ => true | _ => false)
  | _ => isKV .i64 v
def OkA (cs : List Value) (n : Nat) : Prop := cs.length = n * 4 ∧ ∀ (i : Nat) (v : Value), cs[i]? = some v → aOk (i % 4) v = true
theorem isB_eq {v : Value} (h : (match v with | .bool _ => true | _ => false) = true) : v = .bool (bOf v) := by
  cases v <;> first | rfl | cases h
theorem aOk_scal {r : Nat} {v : Value} (h : aOk r v = true) : scal v = true := by
  unfold aOk at h
  split at h
  · rw [isKV_eq h]; rfl
  · rw [isB_eq h]; rfl
  · rw [isKV_eq h]; rfl
theorem OkA.flat {cs : List Value} {n : Nat} (h : OkA cs n) : cs.all Ex.flat = true := List.all_eq_true.2 fun v hv => by
  obtain ⟨i, hi⟩ := List.getElem?_of_mem hv
  exact flat_of_scal (aOk_scal (h.2 i v hi))
theorem OkA.get {cs : List Value} {n i : Nat} (h : OkA cs n) (hi : i < n * 4) : ∃ v, cs[i]? = some v ∧ cs.getD i .nilFunc = v ∧ aOk (i % 4) v = true := by
  have e := List.getElem?_eq_getElem (show i < cs.length by rw [h.1]; exact hi)
  exact ⟨_, e, by rw [List.getD_eq_getElem?_getD, e]; rfl, h.2 _ _ e⟩
theorem OkA.i64 {cs : List Value} {n i r : Nat} (h : OkA cs n) (hi : i < n) (hr : r = 0 ∨ r = 1) : cs.getD (0 + i * 4 + r) .nilFunc = .int .i64 (pc cs (0 + i * 4 + r)) := by
  obtain ⟨v, h1, h2, h3⟩ := h.get (i := 0 + i * 4 + r) (by omega)
  rw [show (0 + i * 4 + r) % 4 = r by omega] at h3
  unfold pc
  rw [h2]
  rcases hr with rfl | rfl <;> exact isKV_eq h3
theorem OkA.act {cs : List Value} {n i : Nat} (h : OkA cs n) (hi : i < n) : (cs.drop (0 + i * 4)).take 4 = acL cs (0 + i * 4) := by
  apply List.ext_getElem?
  intro r
  rw [List.getElem?_take, List.getElem?_drop]
  by_cases hr : r < 4
  · rw [if_pos hr]
    obtain ⟨v, h1, h2, h3⟩ := h.get (i := 0 + i * 4 + r) (by omega)
    rw [show (0 + i * 4 + r) % 4 = r by omega] at h3
    rw [h1]
    match r, hr with
    | 0, _ => exact congrArg some ((isKV_eq h3).trans (by rw [← h2]; rfl))
    | 1, _ => exact congrArg some ((isKV_eq h3).trans (by rw [← h2]; rfl))
    | 2, _ => exact congrArg some ((isKV_eq h3).trans (by rw [← h2]; rfl))
    | 3, _ => exact congrArg some ((isB_eq h3).trans (by rw [← h2]; rfl))
    | n + 4, h => omega
  · rw [if_neg hr]
    symm
    exact List.getElem?_eq_none (by show 4 ≤ r; omega)
theorem stFl_ok {L : List Value} (h : OkS L) (off n : Int) (v : VI) : AE (stFl L off n v) := by
  refine AE.cons (bt ?_) AE.nil
  unfold stAns stArgs
  rw [args_flat h, tu_flat (stS_ok h off n v)]
  rfl
theorem sdA_ok {cs L : List Value} {n i : Nat} {ok : Bool} (hc : OkA cs n) (h : OkS L) (hn : n ≤ 1000) (hi : i < n) (hk : ((acS cs L i).2 == 0) = ok) : AE (sdA cs L n i ok) := by
  have o : OkS (acS cs L i).1 := stS_ok h _ _ _
  have hj : AE (sdJ i n) := AE.cons (bt (jP_ok hi)) AE.nil
  refine AE.app (AE.cons (b1 (by omega)) AE.nil) (AE.app (ldP_ok (by rw [h.1]; omega) h.whole) (AE.app hj (AE.app (ld1P_ok (by rw [hc.1]; omega) (hc.i64 hi (.inl rfl))) (AE.app hj (AE.app (ld1P_ok (by rw [hc.1]; omega) (hc.i64 hi (.inr rfl))) (AE.app hj (AE.app (ldP_ok (by rw [hc.1]; omega) (hc.act hi))
    (AE.app (AE.cons ?_ AE.nil) (AE.app (stFl_ok h _ _ _) (AE.app (stFl_ok h _ _ _) (AE.app (AE.consP (prP_ok h) AE.nil) (AE.app (stX_ok o.one (by rw [o.1, zS_ok.1]; omega) (splice_whole (by rw [o.1, zS_ok.1]))) (AE.cons (by rw [hk]) AE.nil)))))))))))))
  show wi ((i : Int) + 1) = ((i + 1 : Nat) : Int)
  rw [wi_id (by omega) (by omega)]
  omega
theorem sdB_ok {cs L : List Value} {i : Nat} (h : OkS L) : AE (sdB cs L i) := by
  have o : OkS (acS cs L i).1 := stS_ok h _ _ _
  exact AE.app (ldP_ok (by rw [o.1]; omega) o.whole) (stX_ok o.one (by rw [o.1, h.1]; omega) (splice_whole (by rw [o.1, h.1])))
theorem sdI_ok {i n : Nat} (hn : n ≤ 1000) (hi : i < n) : AE (sdI i) := by
  refine AE.cons ?_ AE.nil
  show wi ((i : Int) + 1) = ((i + 1 : Nat) : Int)
  rw [wi_id (by omega) (by omega)]
  omega
/-- The stack behind so many acts. -/
noncomputable def sdS (cs : List Value) : Nat → List Value
  | 0 => zS
  | i + 1 => bif (acS cs (sdS cs i) i).2 == 0 then (acS cs (sdS cs i) i).1 else sdS cs i
theorem sdS_ok (cs : List Value) : ∀ i, OkS (sdS cs i)
  | 0 => zS_ok
  | i + 1 => by
    unfold sdS
    cases (acS cs (sdS cs i) i).2 == 0
    · exact sdS_ok cs i
    · exact stS_ok (sdS_ok cs i) _ _ _
theorem sdV_flat {cs L : List Value} {i : Nat} (h : OkS L) : (sdV cs L i).all flat = true := by
  have o : OkS (acS cs L i).1 := stS_ok h _ _ _
  unfold sdV
  simp only [List.all_cons, List.all_nil, tu_flat o, h.flat, o.flat, Bool.and_true]
theorem sdH_flat {cs L X : List Value} {n : Nat} (hc : OkA cs n) (h : OkS L) (hx : OkS X) : flatH (sdH cs L ⟨true, none, X⟩) = true := by
  unfold flatH sdH
  simp only [List.all_cons, List.all_nil, hc.flat, zS_ok.flats, h.flats, hx.flats, Bool.and_true]
/-- A round. -/
theorem sd_step {cs : List Value} {n i : Nat} (c : Nat) (hc : OkA cs n) (hn : n ≤ 1000) (hi : i < n) (G : AO) (p : Value) (β : Nat → Value) (hβ : FlR 1 β) :
    ∃ β' X, FlR 1 β' ∧ OkS X ∧ HopQ Try.prog sdLp 1 3 (sdT n c i p β) (sdH cs (sdS cs i) G) (sdT n c (i + 1) p3 β') (sdH cs (sdS cs (i + 1)) ⟨true, none, X⟩) (some 2, []) := by
  have hL := sdS_ok cs i
  have o : OkS (acS cs (sdS cs i) i).1 := stS_ok hL _ _ _
  cases hk : (acS cs (sdS cs i) i).2 == 0 with
  | true =>
    have e : sdS cs (i + 1) = (acS cs (sdS cs i) i).1 := by
      show (bif (acS cs (sdS cs i) i).2 == 0 then _ else _) = _
      rw [hk]; rfl
    rw [e]
    obtain ⟨β', f, q⟩ := hopF_ok noNG st3_ok noLoop_low (noLoop_ok _) sd_one [4] (T := sdT n c (i + 1) p3) (zs := sdZ 2) (fun β => rfl) c1_38 hβ (sd_hopT cs (sdS cs i) G n c i p β)
      (by rw [List.all_append, sdV_flat hL]; show (flat (.agg ⟨(acS cs (sdS cs i) i).1⟩) && true) = true; rw [o.flat]; rfl) (sdH_flat hc o o) (by decide) (by show 1 ≤ 4; decide) (by kernel_rfl) (by kernel_rfl) (AE.app (sdA_ok hc hL hn hi hk) (AE.app (sdB_ok hL) (sdI_ok hn hi)))
    exact ⟨β', _, f, o, q⟩
  | false =>
    have e : sdS cs (i + 1) = sdS cs i := by
      show (bif (acS cs (sdS cs i) i).2 == 0 then _ else _) = _
      rw [hk]; rfl
    rw [e]
    obtain ⟨β', f, q⟩ := hopF_ok noNG st3_ok noLoop_low (noLoop_ok _) sd_one [4] (T := sdT n c (i + 1) p3) (zs := sdZ 1) (fun β => rfl) c37 hβ (sd_hopF cs (sdS cs i) G n c i p β)
      (sdV_flat hL) (sdH_flat hc hL o) (by decide) (by show 1 ≤ 4; decide) (by kernel_rfl) (by kernel_rfl) (AE.app (sdA_ok hc hL hn hi hk) (sdI_ok hn hi))
    exact ⟨β', _, f, o, q.weak (bndW rfl)⟩
theorem sd_rounds {cs : List Value} {n : Nat} (c : Nat) (hc : OkA cs n) (hn : n ≤ 1000) : ∀ (d i : Nat) (X : List Value) (β : Nat → Value), i + d = n → FlR 1 β → OkS X →
    ∃ β' X', FlR 1 β' ∧ OkS X' ∧ HopQ Try.prog sdLp d 3 (sdT n c i p3 β) (sdH cs (sdS cs i) ⟨true, none, X⟩) (sdT n c n p3 β') (sdH cs (sdS cs n) ⟨true, none, X'⟩) (some 2, [])
  | 0, i, X, β, e, hβ, hX => by
    obtain rfl : i = n := by omega
    exact ⟨β, X, hβ, hX, HopQ.zero _ _ _ _⟩
  | d + 1, i, X, β, e, hβ, hX => by
    obtain ⟨β1, X1, f1, o1, q1⟩ := sd_step c hc hn (show i < n by omega) ⟨true, none, X⟩ p3 β hβ
    obtain ⟨β2, X2, f2, o2, q2⟩ := sd_rounds c hc hn d (i + 1) X1 β1 (by omega) f1 o1
    refine ⟨β2, X2, f2, o2, ?_⟩
    rw [show d + 1 = 1 + d by omega]
    exact q1.trans q2 (fun _ _ h => h) (fun _ _ h => h)
noncomputable def sdE0 (n c : Nat) : List Value := sdT n c 0 (.tuple ⟨[]⟩) fun _ => .tuple ⟨[]⟩
noncomputable def sdH0 (cs : List Value) : List AO := [⟨true, none, cs⟩, ⟨true, none, zS⟩, ⟨true, none, zS⟩]
theorem sd_loop {cs : List Value} {n : Nat} (c : Nat) (hc : OkA cs n) (hn : n ≤ 1000) (h1 : 1 ≤ n) :
    ∃ N β X, StopQ Try.prog sdLp N 3 (sdE0 n c) (sdH0 cs) (.exit 0) (sdT n c n p3 β) (sdH cs (sdS cs n) ⟨true, none, X⟩) (some 2, []) := by
  obtain ⟨β1, X1, f1, o1, q1⟩ := sd_step c hc hn (show 0 < n by omega) dead (.tuple ⟨[]⟩) (fun _ => .tuple ⟨[]⟩) (fun _ => rfl)
  obtain ⟨β2, X2, f2, o2, q2⟩ := sd_rounds c hc hn (n - 1) 1 X1 β1 (by omega) f1 o1
  obtain ⟨β3, f3, q3⟩ := stopF_ok noNG st3_ok noLoop_low (noLoop_ok _) sd_one [] (T := sdT n c n p3) (zs := sdZ1) (fun β => rfl) c710 f2 (sd_stop cs (sdS cs n) ⟨true, none, X2⟩ n c β2)
    rfl (sdH_flat hc (sdS_ok cs n) o2) (by decide) (by show 1 ≤ 4; decide) (by kernel_rfl) (by kernel_rfl) (AE.cons (b0 (by omega)) AE.nil)
  have q3' : StopQ Try.prog sdLp 1 3 (sdT n c n p3 β2) (sdH cs (sdS cs n) ⟨true, none, X2⟩) (.exit 0) (sdT n c n p3 β3) (sdH cs (sdS cs n) ⟨true, none, X2⟩) (some 2, []) := (q3.weak (bndW rfl)).shrink (by decide)
  exact ⟨_, β3, X2, (q1.trans q2 (fun _ _ h => h) (fun _ _ h => h)).stop q3' (fun _ _ h => h) (fun _ _ h => h) |>.pad 1⟩
noncomputable def sdEO (X : List Value) : Orc := fun f t _ =>
  if Nat.beq f sdF then
    (if Nat.beq t 38 then some (tld (.agg ⟨X⟩)) else if Nat.beq t 2000002 then some (tld (.agg ⟨sp X⟩)) else none)
  else none
noncomputable def sdQ (cs : List Value) (n c : Nat) (β : Nat → Value) (X : List Value) : LoopQ := ⟨sdF, 0, fun _ => true, sdE0 n c, sdH0 cs, .exit 0, sdT n c n p3 β, sdH cs (sdS cs n) ⟨true, none, X⟩, (some 2, [])⟩
theorem sd_run (cs : List Value) (n c : Nat) (β : Nat → Value) (X : List Value) : reckonQI Try.prog st3 (sdEO (sdS cs n)) (loopQHook [sdQ cs n c β X]) 100000 300 [⟨true, none, cs⟩] sdF [.slice (some ⟨0, 0, none⟩) n c] = some (.agg ⟨sp (sdS cs n)⟩, inter ([prP (sdE0 n c = sdE0 n c), prP (sdH0 cs = sdH0 cs)] ++ sfin (sdS cs n))) := by kernel_rfl
theorem c_stored {cs : List Value} {n : Nat} (c : Nat) (hc : OkA cs n) (hn : n ≤ 1000) (h1 : 1 ≤ n) {w : World} {s : Ren} (H : HR w 1 s [⟨true, none, cs⟩] w) {args' : List Value} (ha : LR s [.slice (some ⟨0, 0, none⟩) n c] args') :
    Calls Try.prog sdF ⟨args'⟩ w fun e w' => e = .returned (.agg ⟨sdS cs n⟩) ∧ Gr w w' := by
  obtain ⟨N, β, X, S⟩ := sd_loop c hc hn h1
  have o := sdS_ok cs n
  have L : LoopQOk Try.prog (sdQ cs n c β X) := loopQ_ok (N := N) sd_one (S.stop (by kernel_rfl))
  have := reckonQ_ok noNG st3_ok (loopQHook_low _) (loopQHook_ok (fun e he => by rw [List.mem_singleton.1 he]; exact L)) _ _ _ _ (by rw [sp_eq o]; exact o.flat) (sd_run cs n c β X)
    (AE.app (AE.consP (prP_ok rfl) (AE.consP (prP_ok rfl) AE.nil)) (sfin_ok o)) H ha
  rw [sp_eq o] at this
  exact this
end Go.Proofs.Ytebolmfdglmpoaa.Ex
end
section
namespace Go.Proofs.Ytebolmfdglmpoaa.Ex
open Go Go.RowKit
set_option maxHeartbeats 0
set_option maxRecDepth 1000000
set_option linter.unusedVariables false
set_option linter.unusedSectionVars false
abbrev plF : FuncId := 20
noncomputable abbrev plLp : Code := theLoopN Try.prog plF 0
theorem pl_one : oneLoopN Try.prog plF 0 = true := by kernel_rfl
noncomputable def plT (n : Int) (a k : Nat) (p r u : Value) (β : Nat → Value) : List Value := [β 0, β 1, .int .i64 n, .pointer (some ⟨0, 0, none⟩), β 4, β 5, β 6, .int .i64 (a : Int), β 8, .int .i64 (k : Int), p, β 11, β 12, β 13, β 14, β 15, β 16, β 17, β 18, β 19, β 20, β 21, β 22, β 23, β 24, β 25, β 26, β 27, β 28, β 29, β 30, β 31, r, β 33, β 34, β 35, β 36, β 37, β 38, β 39, u, β 41, β 42]
def plZ : List Nat := [1, 1, 0, 0, 1, 1, 1, 0, 1, 0, 0, 1, 1, 1, 1, 1, 1, 1, 1, 1, 1, 1, 1, 1, 1, 1, 1, 1, 1, 1, 1, 1, 0, 1, 1, 1, 1, 1, 1, 1, 0, 1, 1]
noncomputable def plR (e : Int) (β : Nat → Value) : List Value := [β 0, β 1, β 2, β 3, β 4, β 5, .int .i64 e, β 7, β 8, β 9, β 10, β 11, β 12, β 13, β 14, β 15, β 16, β 17, β 18, β 19, β 20, β 21, β 22, β 23, β 24, β 25, β 26, β 27, β 28, β 29, β 30, β 31, β 32, β 33, β 34, β 35, β 36, β 37, β 38, β 39, β 40, β 41, β 42]
def plRz : List Nat := [1, 1, 1, 1, 1, 1, 0, 1, 1, 1, 1, 1, 1, 1, 1, 1, 1, 1, 1, 1, 1, 1, 1, 1, 1, 1, 1, 1, 1, 1, 1, 1, 1, 1, 1, 1, 1, 1, 1, 1, 1, 1, 1]
noncomputable def plE0 (L : List Value) (off n : Int) (a : Nat) : List Value := [.agg ⟨L⟩, .int .i64 off, .int .i64 n, .pointer (some ⟨0, 0, none⟩), .tuple ⟨[]⟩, .tuple ⟨[]⟩, .int .i64 0, .int .i64 (a : Int), .bool true, .int .i64 (a : Int), .tuple ⟨[]⟩, .tuple ⟨[.int .i64 (fsA off n), .bool (fsK off n)]⟩, .int .i64 off, .int .i64 n, .tuple ⟨[.int .i64 (fsA off n), .bool (fsK off n)]⟩, .int .i64 (a : Int), .bool true, .bool true, .bool false, .int .i64 (a : Int), .tuple ⟨[]⟩, .tuple ⟨[]⟩, .tuple ⟨[]⟩, .tuple ⟨[]⟩, .tuple ⟨[]⟩, .tuple ⟨[]⟩, .tuple ⟨[]⟩, .tuple ⟨[]⟩, .tuple ⟨[]⟩, .tuple ⟨[]⟩, .tuple ⟨[]⟩, .tuple ⟨[]⟩, .tuple ⟨[]⟩, .tuple ⟨[]⟩, .tuple ⟨[]⟩, .tuple ⟨[]⟩, .tuple ⟨[]⟩, .tuple ⟨[]⟩, .tuple ⟨[]⟩, .tuple ⟨[]⟩, .tuple ⟨[]⟩, .tuple ⟨[]⟩, .tuple ⟨[]⟩]
/-- Is a byte's bit off? -/
noncomputable def bitZ (b k : Int) : Bool := IntKind.u8.wrap ((BitVec.ofInt IntKind.u8.bits (b.fdiv (2 ^ min (k.tmod 8).toNat IntKind.u8.bits)) &&& BitVec.ofInt IntKind.u8.bits 1).toNat : Int) == 0
noncomputable def plO (L : List Value) (k j : Nat) (g z q : Bool) : Orc := fun f t _ =>
  if Nat.beq f plF then
    match t with
    | 24 => some (.bool g)
    | 26 => some (.int .i64 ((k + 1 : Nat) : Int))
    | 28 => some (.int .i64 (j : Int))
    | 29 => some .nilIface
    | 30 => some (tld (.agg ⟨pL L (0 + j * 12)⟩))
    | 38 => some (.bool z)
    | 39 => some (.bool q)
    | _ => none
  else none
def pl3 : Hook3 := or3 (liftG 40 hk_first) (liftG 34 hk_pts)
theorem pl3_ok : HookOk3 Try.prog pl3 := or3_ok (liftG_ok hk_first_ok) (liftG_ok hk_pts_ok)
noncomputable def plH (L : List Value) (G : AO) : List AO := [⟨true, none, L⟩, G]
noncomputable abbrev p1 : Value := .pointer (some ⟨1, 0, none⟩)
noncomputable def plA (L : List Value) (n : Int) (a k j : Nat) (z : Bool) : Cs := [(b2i (decide ((k : Int) < wi (a + n))), 1), (wi ((k : Int).tdiv 8), (j : Int)), (b2i (decide (0 ≤ (j : Int)) && decide ((j : Int) < (64 : Nat))), 1)] ++ (ldP L (0 + j * 12) 12 (pL L (0 + j * 12)) ++ [(b2i (bitZ (pc L (0 + j * 12)) k), b2i z)])
noncomputable def plB (L : List Value) (j : Nat) (q : Bool) : Cs := [(b2i (ptK (vAt L (0 + j * 12 + 1)).k), b2i q)]
noncomputable def plI (k : Nat) : Cs := [(wi (k + 1), ((k + 1 : Nat) : Int))]
def plC (k : Nat) : Bool := Nat.ble 20 k
def plCe (k : Nat) : Bool := Nat.ble 20 k && Nat.ble k 24
def plCz (k : Nat) : Bool := plC k && !(Nat.beq k 25 || Nat.beq k 26)
noncomputable abbrev p11 : Value := .pointer (some ⟨1, 1, none⟩)
theorem pl_hop (L : List Value) (G : AO) (n : Int) (a k j : Nat) (p r u : Value) (β : Nat → Value) : (hopRunL Try.prog pl3 (plO L k j true false false) noLoop plF plLp 1 1 [2] (plT n a k p r u β) (plH L G)).map (fun r => (maskZ 1 plZ r.1, pickZ plZ r.1, r.2)) = some ((plT n a (k + 1) p1 p1 p11 fun k => bif plC k then .bool true else .bool (okR 1 (β k))).map (reV (keepF 1 [2]) 6), [], plH L ⟨true, none, pL L (0 + j * 12)⟩, some 2, inter (plA L n a k j false ++ (plB L j false ++ plI k))) := by kernel_rfl
def plTs : List Bool := plZ.map deadZ
def plNs : List Bool := List.replicate 43 true
noncomputable def plN (β : Nat → Value) : List Value := [β 0, β 1, β 2, β 3, β 4, β 5, β 6, β 7, β 8, β 9, β 10, β 11, β 12, β 13, β 14, β 15, β 16, β 17, β 18, β 19, β 20, β 21, β 22, β 23, β 24, β 25, β 26, β 27, β 28, β 29, β 30, β 31, β 32, β 33, β 34, β 35, β 36, β 37, β 38, β 39, β 40, β 41, β 42]
def plRs : List Bool := (List.replicate 43 true).set 6 false
theorem pl_end (L : List Value) (G : AO) (n : Int) (a k : Nat) (p r u : Value) (β : Nat → Value) : (loopN (bodyL Try.prog pl3 (plO L k 0 false false false) noLoop plF plLp) 1 ⟨plT n a k p r u β, plH L G, (none, [])⟩).map (fun r => (r.1, maskQ plNs r.2.t, r.2.h, r.2.m.1, inter r.2.m.2)) = some (.exit 0, plN fun _ => .bool true, plH L G, none, inter [(b2i (decide ((k : Int) < wi (a + n))), 0)]) := by kernel_rfl
theorem pl_Z (L : List Value) (G : AO) (n : Int) (a k j : Nat) (p r u : Value) (β : Nat → Value) : (loopN (bodyL Try.prog pl3 (plO L k j true true false) noLoop plF plLp) 1 ⟨plT n a k p r u β, plH L G, (none, [])⟩).map (fun r => (r.1, maskQ plRs r.2.t, r.2.h, r.2.m.1, inter r.2.m.2)) = some (.ret, plR 101 fun _ => .bool true, plH L G ++ [⟨true, none, pL L (0 + j * 12)⟩], some 2, inter (plA L n a k j true)) := by kernel_rfl
theorem pl_Q (L : List Value) (G : AO) (n : Int) (a k j : Nat) (p r u : Value) (β : Nat → Value) : (loopN (bodyL Try.prog pl3 (plO L k j true false true) noLoop plF plLp) 1 ⟨plT n a k p r u β, plH L G, (none, [])⟩).map (fun r => (r.1, maskQ plRs r.2.t, r.2.h, r.2.m.1, inter r.2.m.2)) = some (.ret, plR 102 fun _ => .bool true, plH L G ++ [⟨true, none, pL L (0 + j * 12)⟩], some 2, inter (plA L n a k j false ++ plB L j true)) := by kernel_rfl
theorem pl_unN : ∀ β, unmask β 0 plNs (plN fun _ => .bool true) = plN β := fun β => rfl
theorem pl_unR (e : Int) : ∀ β, unmask β 0 plRs (plR e fun _ => .bool true) = plR e β := fun β => rfl
theorem Stop.toQ {c : Code} {n q : Nat} {t t' : List Value} {h h' : List AO} {e : Exit} {m : Mk} (a : Stop Try.prog c n t h e t' h' m) : StopQ Try.prog c n q t h e t' h' m :=
  fun wb k hm hkq s m0 act w H m' => rounds_mono (fun e' a'' w'' hp => ⟨hp.1, let ⟨s'', h3, h4⟩ := hp.2; ⟨s'', fun i p _ hp => h3 i p hp, h4⟩⟩) n act w (a wb k hm s m0 act w H m')
noncomputable def plG : Nat → Nat → List Value → Int
  | 0, _, _ => 0
  | m + 1, k, L => bif bitZ (pc L (k / 8 * 12)) k then 101 else bif ptK (pc L (k / 8 * 12 + 1)) then 102 else plG m (k + 1) L
noncomputable def plX (g : Int) (β : Nat → Value) : Exit × List Value := bif g == 0 then (.exit 0, plN β) else (.ret, plR g β)
theorem plA_ok {L : List Value} (h : OkS L) {n : Int} {a k : Nat} {z : Bool} (hn : 0 ≤ n) (hs : (a : Int) + n ≤ 512) (hk : (k : Int) < a + n) (hz : bitZ (pc L (k / 8 * 12)) k = z) : AE (plA L n a k (k / 8) z) := by
  have hj : k / 8 < 64 := by omega
  refine AE.app (AE.cons (b1 (by rw [wi_id (by omega) (by omega)]; exact hk)) (AE.cons ?_ (AE.cons (bt (jP_ok hj)) AE.nil))) (AE.app (ldP_ok (by rw [h.1]; omega) (h.plc hj)) (AE.cons (by rw [Nat.zero_add, hz]) AE.nil))
  have e : ((k : Int).tdiv 8) = ((k / 8 : Nat) : Int) := by
    rw [Int.tdiv_eq_ediv_of_nonneg (by omega)]
    rfl
  rw [e]
  exact wi_id (by omega) (by omega)
theorem plB_ok {L : List Value} {k : Nat} {q : Bool} (hq : ptK (pc L (k / 8 * 12 + 1)) = q) : AE (plB L (k / 8) q) := AE.cons (by rw [vAt_k, hq]) AE.nil
theorem plI_ok {k : Nat} (hk : k < 512) : AE (plI k) := by
  refine AE.cons ?_ AE.nil
  show wi ((k : Int) + 1) = ((k + 1 : Nat) : Int)
  rw [wi_id (by omega) (by omega)]
  omega
theorem plH_flat {L : List Value} (h : OkS L) (o : Nat) : flatH (plH L ⟨true, none, pL L o⟩) = true := by
  unfold flatH plH
  simp only [List.all_cons, List.all_nil, h.flats, Bool.and_true, Bool.true_and]
  rfl
theorem pl_rounds {L : List Value} (h : OkS L) {n : Int} {a : Nat} (hn : 0 ≤ n) (hs : (a : Int) + n ≤ 512) : ∀ (m k : Nat) (G : AO) (p r u : Value) (β : Nat → Value), ((k + m : Nat) : Int) = a + n → FlR 1 β →
    ∃ N β' H, StopQ Try.prog plLp N 1 (plT n a k p r u β) (plH L G) (plX (plG m k L) β').1 (plX (plG m k L) β').2 H (some 2, [])
  | 0, k, G, p, r, u, β, e, hβ => by
    obtain ⟨β', q⟩ := stopM_ok noNG pl3_ok noLoop_low (noLoop_ok _) pl_one pl_unN (pl_end L G n a k p r u β) (AE.cons (b0 (by rw [wi_id (by omega) (by omega)]; omega)) AE.nil)
    exact ⟨1, β', _, (Stop.toQ q).weak (bndW rfl)⟩
  | m + 1, k, G, p, r, u, β, e, hβ => by
    cases hz : bitZ (pc L (k / 8 * 12)) k with
    | true =>
      have eg : plG (m + 1) k L = 101 := by
        show (bif bitZ (pc L (k / 8 * 12)) k then _ else _) = _
        rw [hz]; rfl
      rw [eg]
      obtain ⟨β', q⟩ := stopM_ok noNG pl3_ok noLoop_low (noLoop_ok _) pl_one (pl_unR 101) (pl_Z L G n a k (k / 8) p r u β) (plA_ok h hn hs (by omega) hz)
      exact ⟨1, β', _, (Stop.toQ q).weak (bndW rfl)⟩
    | false =>
      cases hq : ptK (pc L (k / 8 * 12 + 1)) with
      | true =>
        have eg : plG (m + 1) k L = 102 := by
          show (bif bitZ (pc L (k / 8 * 12)) k then _ else bif ptK (pc L (k / 8 * 12 + 1)) then _ else _) = _
          rw [hz, hq]; rfl
        rw [eg]
        obtain ⟨β', q⟩ := stopM_ok noNG pl3_ok noLoop_low (noLoop_ok _) pl_one (pl_unR 102) (pl_Q L G n a k (k / 8) p r u β) (AE.app (plA_ok h hn hs (by omega) hz) (plB_ok hq))
        exact ⟨1, β', _, (Stop.toQ q).weak (bndW rfl)⟩
      | false =>
        have eg : plG (m + 1) k L = plG m (k + 1) L := by
          show (bif bitZ (pc L (k / 8 * 12)) k then _ else bif ptK (pc L (k / 8 * 12 + 1)) then _ else _) = _
          rw [hz, hq]; rfl
        rw [eg]
        obtain ⟨β1, f1, q1⟩ := hopF_ok noNG pl3_ok noLoop_low (noLoop_ok _) pl_one [2] (T := plT n a (k + 1) p1 p1 p11) (zs := plZ) (fun β => rfl) plC hβ (pl_hop L G n a k (k / 8) p r u β) rfl (plH_flat h _) (by decide) (by show 1 ≤ 2; decide) (by kernel_rfl) (by kernel_rfl)
          (AE.app (plA_ok h hn hs (by omega) hz) (AE.app (plB_ok hq) (plI_ok (by omega))))
        obtain ⟨N, β2, H, q2⟩ := pl_rounds h hn hs m (k + 1) ⟨true, none, pL L (0 + k / 8 * 12)⟩ p1 p1 p11 β1 (by omega) f1
        exact ⟨1 + N, β2, H, q1.stop q2 (fun _ _ h => h) (fun _ _ h => h)⟩
noncomputable def plB0 (L : List Value) (off n : Int) (a : Nat) (k : Nat) : Value := (plE0 L off n a).getD k (.bool true)
theorem plE_eq (L : List Value) (off n : Int) (a : Nat) : plT n a a (.tuple ⟨[]⟩) (.tuple ⟨[]⟩) (.tuple ⟨[]⟩) (plB0 L off n a) = plE0 L off n a := by kernel_rfl
theorem plB_fl {L : List Value} (h : OkS L) (off n : Int) (a : Nat) : FlR 1 (plB0 L off n a) := by
  intro k
  cases k with
  | zero => exact refF_flat 4 h.flat
  | succ k =>
    have e : (plE0 L off n a).tail.all (okR 1) = true := by kernel_rfl
    show okR 1 ((plE0 L off n a).tail.getD k (.bool true)) = true
    rw [List.getD_eq_getElem?_getD]
    cases g : (plE0 L off n a).tail[k]? with
    | none => rfl
    | some v => exact List.all_eq_true.1 e v (List.mem_of_getElem? g)
noncomputable def plQ (L : List Value) (off n : Int) (a : Nat) (g : Int) (β : Nat → Value) (H : List AO) : LoopQ := ⟨plF, 0, fun _ => true, plE0 L off n a, [⟨true, none, L⟩], (plX g β).1, (plX g β).2, H, (some 2, [])⟩
noncomputable def plEO (k : Bool) (a : Nat) : Orc := fun f t _ => if Nat.beq f plF then (if Nat.beq t 16 then some (.bool k) else if Nat.beq t 15 then (bif k then some (.int .i64 (a : Int)) else none) else none) else none
theorem pl_rA (L : List Value) (off n : Int) : reckonPI Try.prog pl3 (plEO false 0) noLoop 100000 300 [] plF [.agg ⟨L⟩, .int .i64 off, .int .i64 n] = some (.int .i64 181, inter [(b2i (fsK off n), 0)]) := by kernel_rfl
noncomputable def plP (L : List Value) (off n : Int) (a : Nat) : Cs := [(fsA off n, (a : Int)), (b2i (fsK off n), 1), prP (plE0 L off n a = plE0 L off n a), prP ([(⟨true, none, L⟩ : AO)] = [⟨true, none, L⟩])]
theorem pl_r0 (L : List Value) (off n : Int) (a : Nat) (β : Nat → Value) (H : List AO) : reckonPI Try.prog pl3 (plEO true a) (loopQHook [plQ L off n a 0 β H]) 100000 300 [] plF [.agg ⟨L⟩, .int .i64 off, .int .i64 n] = some (.int .i64 0, inter (plP L off n a)) := by kernel_rfl
theorem pl_r1 (L : List Value) (off n : Int) (a : Nat) (β : Nat → Value) (H : List AO) : reckonPI Try.prog pl3 (plEO true a) (loopQHook [plQ L off n a 101 β H]) 100000 300 [] plF [.agg ⟨L⟩, .int .i64 off, .int .i64 n] = some (.int .i64 101, inter (plP L off n a)) := by kernel_rfl
theorem pl_r2 (L : List Value) (off n : Int) (a : Nat) (β : Nat → Value) (H : List AO) : reckonPI Try.prog pl3 (plEO true a) (loopQHook [plQ L off n a 102 β H]) 100000 300 [] plF [.agg ⟨L⟩, .int .i64 off, .int .i64 n] = some (.int .i64 102, inter (plP L off n a)) := by kernel_rfl
/-- What Plain answers. -/
noncomputable def plS (L : List Value) (off n : Int) : Int := bif fsK off n then plG n.toNat (fsA off n).toNat L else 181
theorem plG_vals : ∀ (m k : Nat) (L : List Value), plG m k L = 0 ∨ plG m k L = 101 ∨ plG m k L = 102
  | 0, _, _ => .inl rfl
  | m + 1, k, L => by
    unfold plG
    cases bitZ (pc L (k / 8 * 12)) k with
    | true => exact .inr (.inl rfl)
    | false =>
      cases ptK (pc L (k / 8 * 12 + 1)) with
      | true => exact .inr (.inr rfl)
      | false => exact plG_vals m (k + 1) L
theorem fs_ok {off n : Int} (h : fsK off n = true) : 1 ≤ n ∧ n ≤ 512 ∧ -512 ≤ off ∧ off ≤ -n ∧ fsA off n = off + 512 := by
  have h3 := h
  unfold fsK at h
  simp only [Bool.and_eq_true, Bool.not_eq_true', decide_eq_false_iff_not] at h
  obtain ⟨h1, h2, h4, h5⟩ := h
  have en : IntKind.i64.wrap (0 - n) = -n := by
    have := wi_id (x := 0 - n) (by omega) (by omega)
    unfold wi at this
    rw [this]; omega
  rw [en] at h5
  refine ⟨by omega, by omega, by omega, by omega, ?_⟩
  unfold fsA
  rw [h3]
  show wi (off + 512) = _
  exact wi_id (by omega) (by omega)
theorem c_plain {L : List Value} (h : OkS L) (off n : Int) (w : World) : Calls Try.prog plF #[.agg ⟨L⟩, .int .i64 off, .int .i64 n] w fun e w' => e = .returned (.int .i64 (plS L off n)) ∧ Gr w w' := by
  have hf : ([.agg ⟨L⟩, .int .i64 off, .int .i64 n] : List Value).all flat = true := by
    show (flat (.agg ⟨L⟩) && true) = true
    rw [h.flat]
    rfl
  cases k0 : fsK off n with
  | false => exact rqv (by unfold plS; rw [k0]; rfl) (rq pl3_ok _ hf rfl (pl_rA L off n) (AE.cons (bf k0) AE.nil) w)
  | true =>
    obtain ⟨n1, n2, o1, o2, eA⟩ := fs_ok k0
    have ha : fsA off n = ((fsA off n).toNat : Int) := (Int.toNat_of_nonneg (by omega)).symm
    obtain ⟨N, β, H, s⟩ := pl_rounds h (n := n) (a := (fsA off n).toNat) (by omega) (by omega) n.toNat (fsA off n).toNat dead (.tuple ⟨[]⟩) (.tuple ⟨[]⟩) (.tuple ⟨[]⟩) (plB0 L off n (fsA off n).toNat) (by omega) (plB_fl h off n _)
    rw [plE_eq] at s
    have s2 : Stop Try.prog plLp N (plE0 L off n (fsA off n).toNat) [⟨true, none, L⟩] _ _ H (some 2, []) := (StopQ.pad 1 s).stop rfl
    have hp : AE (plP L off n (fsA off n).toNat) := AE.cons ha (AE.cons (bt k0) (AE.consP (prP_ok rfl) (AE.consP (prP_ok rfl) AE.nil)))
    have es : plS L off n = plG n.toNat (fsA off n).toNat L := by unfold plS; rw [k0]; rfl
    have hq : ∀ g, g = plG n.toNat (fsA off n).toNat L → ∀ e ∈ [plQ L off n (fsA off n).toNat g β H], LoopQOk Try.prog e := fun g hg e he => by
      rw [List.mem_singleton.1 he, hg]
      exact loopQ_ok (N := N) pl_one s2
    rcases plG_vals n.toNat (fsA off n).toNat L with g | g | g
    · exact rqv (by rw [es, g]) (rqL pl3_ok (hq 0 g.symm) _ hf rfl (pl_r0 L off n _ β H) hp w)
    · exact rqv (by rw [es, g]) (rqL pl3_ok (hq 101 g.symm) _ hf rfl (pl_r1 L off n _ β H) hp w)
    · exact rqv (by rw [es, g]) (rqL pl3_ok (hq 102 g.symm) _ hf rfl (pl_r2 L off n _ β H) hp w)
noncomputable def hkPlain : Hook := fun f args _ =>
  if Nat.beq f plF then
    match args with
    | [.agg ⟨L⟩, .int .i64 off, .int .i64 n] => some (.int .i64 (plS L off n), [prP (OkS L)])
    | _ => none
  else none
theorem hkPlain_ok : HookOk Try.prog hkPlain := by
  intro f args h v cs hv hc wb k s w H
  unfold hkPlain at hv
  split at hv
  · rename_i hf
    obtain rfl := Nat.eq_of_beq_eq_true hf
    split at hv
    · rename_i L off n
      cases hv
      exact c_plain (prP_of (hc _ (List.mem_singleton.2 rfl))) off n w
    · cases hv
  · cases hv
end Go.Proofs.Ytebolmfdglmpoaa.Ex
end
