/-
  Lemmas for the laws of this seat: Sk6, Sk7, Sk8, Sk9, Sk10, Sk11, Sk12, Sk13, Sk14, Sk15, Sk16.
-/
import Derived.Test.YtebolmfdglmpoaaSk5
import Derived.Test.YtebolmfdglmpoaaSkP
import Derived.Test.YtebolmfdglmpoaaSliceS
section
namespace Go.Proofs.Ytebolmfdglmpoaa.Ex
open Go Go.RowKit
set_option maxHeartbeats 0
set_option maxRecDepth 1000000
set_option linter.unusedVariables false
set_option linter.unusedSectionVars false
def valV (k by_ : Int) : VI := bif k.tmod 4 == 0 then zV else bif k.tmod 4 == 1 then ⟨3, 0, 0, IntKind.i64.wrap (0 - by_), 0, 0, 0, 0, 0, 0, 0⟩ else ⟨1, 0, 0, 0, 0, IntKind.u64.wrap by_, 0, IntKind.u64.wrap by_, IntKind.u64.wrap by_, IntKind.i64.wrap (IntKind.u64.wrap by_), IntKind.i64.wrap (IntKind.u64.wrap by_)⟩
theorem val_0 (o n k : Int) (b : Bool) (by_ : Int) (he : AE [(b2i (k.tmod 4 == 0), 1)]) (w : World) : Calls Try.prog 16 #[.agg ⟨[.int .i64 o, .int .i64 n, .int .u8 k, .bool b]⟩, .int .i64 by_] w fun e w' => e = .returned (.agg ⟨vL zV⟩) ∧ Gr w w' :=
  rq nh3_ok (oS [(16, 9, .bool true)]) (cs := [(b2i (k.tmod 4 == 0), 1)]) rfl rfl (by kernel_rfl) he w
theorem val_1 (o n k : Int) (b : Bool) (by_ : Int) (he : AE [(b2i (k.tmod 4 == 0), 0), (b2i (k.tmod 4 == 1), 1)]) (w : World) : Calls Try.prog 16 #[.agg ⟨[.int .i64 o, .int .i64 n, .int .u8 k, .bool b]⟩, .int .i64 by_] w fun e w' => e = .returned (.agg ⟨vL ⟨3, 0, 0, IntKind.i64.wrap (0 - by_), 0, 0, 0, 0, 0, 0, 0⟩⟩) ∧ Gr w w' :=
  rq nh3_ok (oS [(16, 9, .bool false), (16, 12, .bool true)]) (cs := [(b2i (k.tmod 4 == 0), 0), (b2i (k.tmod 4 == 1), 1)]) rfl rfl (by kernel_rfl) he w
theorem val_2 (o n k : Int) (b : Bool) (by_ : Int) (he : AE [(b2i (k.tmod 4 == 0), 0), (b2i (k.tmod 4 == 1), 0)]) (w : World) : Calls Try.prog 16 #[.agg ⟨[.int .i64 o, .int .i64 n, .int .u8 k, .bool b]⟩, .int .i64 by_] w fun e w' => e = .returned (.agg ⟨vL ⟨1, 0, 0, 0, 0, IntKind.u64.wrap by_, 0, IntKind.u64.wrap by_, IntKind.u64.wrap by_, IntKind.i64.wrap (IntKind.u64.wrap by_), IntKind.i64.wrap (IntKind.u64.wrap by_)⟩⟩) ∧ Gr w w' :=
  rq nh3_ok (oS [(16, 9, .bool false), (16, 12, .bool false)]) (cs := [(b2i (k.tmod 4 == 0), 0), (b2i (k.tmod 4 == 1), 0)]) rfl rfl (by kernel_rfl) he w
theorem c_val (o n k : Int) (b : Bool) (by_ : Int) (w : World) : Calls Try.prog 16 #[.agg ⟨[.int .i64 o, .int .i64 n, .int .u8 k, .bool b]⟩, .int .i64 by_] w fun e w' => e = .returned (.agg ⟨vL (valV k by_)⟩) ∧ Gr w w' := by
  cases k0 : (k.tmod 4 == 0) with
  | true => exact rqv (by simp only [valV, k0, cond_true]) (val_0 o n k b by_ (AE.cons (bt k0) AE.nil) w)
  | false =>
    cases k1 : (k.tmod 4 == 1) with
    | true => exact rqv (by simp only [valV, k0, k1, cond_true, cond_false]) (val_1 o n k b by_ (AE.cons (bf k0) (AE.cons (bt k1) AE.nil)) w)
    | false => exact rqv (by simp only [valV, k0, k1, cond_false]) (val_2 o n k b by_ (AE.cons (bf k0) (AE.cons (bf k1) AE.nil)) w)
def hk_val : Hook := fun f args _ =>
  if Nat.beq f 16 then
    match args with
    | [.agg ⟨[.int .i64 o, .int .i64 n, .int .u8 k, .bool b]⟩, .int .i64 by_] => some (.agg ⟨vL (valV k by_)⟩, [])
    | _ => none
  else none
theorem hk_val_ok : HookOk Try.prog hk_val := by
  intro f args h v cs hv hc wb k s w H
  unfold hk_val at hv
  split at hv
  · rename_i hf
    obtain rfl := Nat.eq_of_beq_eq_true hf
    split at hv
    · rename_i o n k b by_
      cases hv
      exact c_val o n k b by_ w
    · cases hv
  · cases hv
def sd3 : Hook3 := liftG 16 hk_val
noncomputable def st3 : Hook3 := or3 (liftG 16 hk_val) (liftP hkStore)
theorem st3_ok : HookOk3 Try.prog st3 := or3_ok (liftG_ok hk_val_ok) (liftP_ok hkStore_ok)
def bOf : Value → Bool
  | .bool b => b
  | _ => false
def bc (L : List Value) (o : Nat) : Bool := bOf (L.getD o .nilFunc)
/-- An act's cells. -/
def acL (cs : List Value) (o : Nat) : List Value := [.int .i64 (pc cs o), .int .i64 (pc cs (o + 1)), .int .u8 (pc cs (o + 2)), .bool (bc cs (o + 3))]
/-- What Store makes of an act. -/
noncomputable def acS (cs L : List Value) (i : Nat) : List Value × Int := stS L (pc cs (0 + i * 4 + 0)) (pc cs (0 + i * 4 + 1)) (valV (pc cs (0 + i * 4 + 2)) ((i + 1 : Nat) : Int))
noncomputable def sdO (cs L : List Value) (i : Nat) (g ok : Bool) : Orc := fun f t _ =>
  if Nat.beq f 10 then
    match t with
    | 10 => some (.bool g)
    | 12 => some (.int .i64 ((i + 1 : Nat) : Int))
    | 14 => some (tld (.agg ⟨L⟩))
    | 17 => some .nilIface
    | 22 => some .nilIface
    | 27 => some .nilIface
    | 19 => some (tld (.int .i64 (pc cs (0 + i * 4 + 0))))
    | 24 => some (tld (.int .i64 (pc cs (0 + i * 4 + 1))))
    | 28 => some (tld (.agg ⟨acL cs (0 + i * 4)⟩))
    | 30 => some (.int .i64 ((i + 1 : Nat) : Int))
    | 32 => some (.tuple ⟨[.nilIface, .nilIface, .nilIface]⟩)
    | 36 => some (.bool ok)
    | 37 => some (tld (.agg ⟨(acS cs L i).1⟩))
    | t => if Nat.beq t 2000005 then some (tld (.agg ⟨(acS cs L i).1⟩)) else if Nat.beq t 2000003 then some (tld (.agg ⟨(acS cs L i).1⟩)) else none
  else none
noncomputable def sdT (n c i : Nat) (p : Value) (β : Nat → Value) : List Value := [.slice (some ⟨0, 0, none⟩) n c, β 1, .pointer (some ⟨1, 0, none⟩), .pointer (some ⟨2, 0, none⟩), .int .i64 (i : Int), p, β 6, β 7, β 8, β 9, β 10, β 11, β 12, β 13, β 14, β 15, β 16, β 17, β 18, β 19, β 20, β 21, β 22, β 23, β 24, β 25, β 26, β 27, β 28, β 29, β 30, β 31, β 32, β 33, β 34, β 35, β 36, β 37, β 38]
def sdZ (e : Nat) : List Nat := [0, 1, 0, 0, 0, 0, 1, 1, 1, 1, 1, 1, 1, 2, 2, 1, 1, 1, 1, 1, 1, 1, 1, 1, 1, 1, 1, 1, 1, 1, 1, 1, 2, 2, 1, 1, 1, e, 1]
noncomputable def sdH (cs L : List Value) (G : AO) : List AO := [⟨true, none, cs⟩, ⟨true, none, zS⟩, ⟨true, none, L⟩, G]
end Go.Proofs.Ytebolmfdglmpoaa.Ex
end
section
namespace Go.Proofs.Ytebolmfdglmpoaa.Ex
open Go Go.RowKit
set_option maxHeartbeats 0
set_option maxRecDepth 1000000
set_option linter.unusedVariables false
set_option linter.unusedSectionVars false
abbrev sdF : FuncId := 10
noncomputable abbrev sdLp : Code := theLoopN Try.prog sdF 0
theorem sd_one : oneLoopN Try.prog sdF 0 = true := by kernel_rfl
noncomputable def stArgs (L : List Value) (off n : Int) (v : VI) : List Value := [.agg ⟨L⟩, .int .i64 off, .int .i64 n, .agg ⟨vL v⟩]
noncomputable def stAns (L : List Value) (off n : Int) (v : VI) : Value := .tuple ⟨[.agg ⟨(stS L off n v).1⟩, .int .i64 (stS L off n v).2]⟩
noncomputable def stFl (L : List Value) (off n : Int) (v : VI) : Cs := [(b2i ((stArgs L off n v).all flat && flat (stAns L off n v)), 1)]
noncomputable def sdJ (i n : Nat) : Cs := [(b2i (decide (0 ≤ (i : Int)) && decide ((i : Int) < (n : Nat))), 1)]
noncomputable def sdA (cs L : List Value) (n i : Nat) (ok : Bool) : Cs := [(b2i (decide ((i : Int) < (n : Int))), 1)] ++ (ldP L 0 768 L ++ (sdJ i n ++ (ld1P cs (0 + i * 4 + 0) (.int .i64 (pc cs (0 + i * 4 + 0))) ++ (sdJ i n ++ (ld1P cs (0 + i * 4 + 1) (.int .i64 (pc cs (0 + i * 4 + 1))) ++ (sdJ i n ++ (ldP cs (0 + i * 4) 4 (acL cs (0 + i * 4)) ++ ([(wi (i + 1), ((i + 1 : Nat) : Int))]
  ++ (stFl L (pc cs (0 + i * 4 + 0)) (pc cs (0 + i * 4 + 1)) (valV (pc cs (0 + i * 4 + 2)) ((i + 1 : Nat) : Int)) ++ (stFl L (pc cs (0 + i * 4 + 0)) (pc cs (0 + i * 4 + 1)) (valV (pc cs (0 + i * 4 + 2)) ((i + 1 : Nat) : Int)) ++ ([prP (OkS L)] ++ (stX zS 0 768 (acS cs L i).1 (acS cs L i).1 ++ [(b2i ((acS cs L i).2 == 0), b2i ok)]))))))))))))
noncomputable def sdB (cs L : List Value) (i : Nat) : Cs := ldP (acS cs L i).1 0 768 (acS cs L i).1 ++ stX L 0 768 (acS cs L i).1 (acS cs L i).1
noncomputable def sdI (i : Nat) : Cs := [(wi (i + 1), ((i + 1 : Nat) : Int))]
noncomputable def sdV (cs L : List Value) (i : Nat) : List Value := [.tuple ⟨[.agg ⟨(acS cs L i).1⟩, .int .i64 (acS cs L i).2]⟩, .agg ⟨L⟩, .tuple ⟨[.agg ⟨(acS cs L i).1⟩, .int .i64 (acS cs L i).2]⟩, .agg ⟨(acS cs L i).1⟩]
def c37 (k : Nat) : Bool := !(Nat.beq k 37) && !(Nat.beq k 1 || Nat.beq k 38)
def c1_38 (k : Nat) : Bool := !(Nat.beq k 1 || Nat.beq k 38)
noncomputable abbrev p3 : Value := .pointer (some ⟨3, 0, none⟩)
theorem sd_hopT (cs L : List Value) (G : AO) (n c i : Nat) (p : Value) (β : Nat → Value) : (hopRunL Try.prog st3 (sdO cs L i true true) noLoop sdF sdLp 1 3 [4] (sdT n c i p β) (sdH cs L G)).map (fun r => (maskZ 1 (sdZ 2) r.1, pickZ (sdZ 2) r.1, r.2)) = some ((sdT n c (i + 1) p3 fun k => bif c1_38 k then .bool true else .bool (okR 1 (β k))).map (reV (keepF 3 [4]) 6), sdV cs L i ++ [.agg ⟨(acS cs L i).1⟩], sdH cs (acS cs L i).1 ⟨true, none, (acS cs L i).1⟩, some 2, inter (sdA cs L n i true ++ (sdB cs L i ++ sdI i))) := by kernel_rfl
theorem sd_hopF (cs L : List Value) (G : AO) (n c i : Nat) (p : Value) (β : Nat → Value) : (hopRunL Try.prog st3 (sdO cs L i true false) noLoop sdF sdLp 1 3 [4] (sdT n c i p β) (sdH cs L G)).map (fun r => (maskZ 1 (sdZ 1) r.1, pickZ (sdZ 1) r.1, r.2)) = some ((sdT n c (i + 1) p3 fun k => bif c37 k then .bool true else .bool (okR 1 (β k))).map (reV (keepF 3 [4]) 6), sdV cs L i, sdH cs L ⟨true, none, (acS cs L i).1⟩, some 4, inter (sdA cs L n i false ++ sdI i)) := by kernel_rfl
def sdZ1 : List Nat := (sdZ 1).map fun z => bif Nat.beq z 0 then 0 else 1
def c710 (k : Nat) : Bool := Nat.ble 7 k && Nat.ble k 10
theorem sd_stop (cs L : List Value) (G : AO) (n c : Nat) (β : Nat → Value) : (stopRunL Try.prog st3 (sdO cs L n false false) noLoop sdF sdLp 1 4 [] (sdT n c n p3 β) (sdH cs L ⟨true, none, G.cs⟩)).map (fun r => (r.1, r.2.map fun r => (maskZ 1 sdZ1 r.1, pickZ sdZ1 r.1, r.2))) = some (.exit 0, some ((sdT n c n p3 fun k => bif c710 k then .bool true else .bool (okR 1 (β k))).map (reV (keepF 4 []) 6), [], sdH cs L ⟨true, none, G.cs⟩, none, inter [(b2i (decide ((n : Int) < (n : Int))), 0)])) := by kernel_rfl
/-- An act's cells. -/
def aOk (r : Nat) (v : Value) : Bool :=
  match r with
  | 2 => isKV .u8 v
  | 3 => (match v with | .bool _ => true | _ => false)
  | _ => isKV .i64 v
def OkA (cs : List Value) (n : Nat) : Prop := cs.length = n * 4 ∧ ∀ (i : Nat) (v : Value), cs[i]? = some v → aOk (i % 4) v = true
theorem isB_eq {v : Value} (h : (match v with | .bool _ => true | _ => false) = true) : v = .bool (bOf v) := by
  cases v <;> first | rfl | cases h
theorem aOk_scal {r : Nat} {v : Value} (h : aOk r v = true) : scal v = true := by
  unfold aOk at h
  split at h
  · rw [isKV_eq h]; rfl
  · rw [isB_eq h]; rfl
  · rw [isKV_eq h]; rfl
theorem OkA.flat {cs : List Value} {n : Nat} (h : OkA cs n) : cs.all Ex.flat = true := List.all_eq_true.2 fun v hv => by
  obtain ⟨i, hi⟩ := List.getElem?_of_mem hv
  exact flat_of_scal (aOk_scal (h.2 i v hi))
theorem OkA.get {cs : List Value} {n i : Nat} (h : OkA cs n) (hi : i < n * 4) : ∃ v, cs[i]? = some v ∧ cs.getD i .nilFunc = v ∧ aOk (i % 4) v = true := by
  have e := List.getElem?_eq_getElem (show i < cs.length by rw [h.1]; exact hi)
  exact ⟨_, e, by rw [List.getD_eq_getElem?_getD, e]; rfl, h.2 _ _ e⟩
theorem OkA.i64 {cs : List Value} {n i r : Nat} (h : OkA cs n) (hi : i < n) (hr : r = 0 ∨ r = 1) : cs.getD (0 + i * 4 + r) .nilFunc = .int .i64 (pc cs (0 + i * 4 + r)) := by
  obtain ⟨v, h1, h2, h3⟩ := h.get (i := 0 + i * 4 + r) (by omega)
  rw [show (0 + i * 4 + r) % 4 = r by omega] at h3
  unfold pc
  rw [h2]
  rcases hr with rfl | rfl <;> exact isKV_eq h3
theorem OkA.act {cs : List Value} {n i : Nat} (h : OkA cs n) (hi : i < n) : (cs.drop (0 + i * 4)).take 4 = acL cs (0 + i * 4) := by
  apply List.ext_getElem?
  intro r
  rw [List.getElem?_take, List.getElem?_drop]
  by_cases hr : r < 4
  · rw [if_pos hr]
    obtain ⟨v, h1, h2, h3⟩ := h.get (i := 0 + i * 4 + r) (by omega)
    rw [show (0 + i * 4 + r) % 4 = r by omega] at h3
    rw [h1]
    match r, hr with
    | 0, _ => exact congrArg some ((isKV_eq h3).trans (by rw [← h2]; rfl))
    | 1, _ => exact congrArg some ((isKV_eq h3).trans (by rw [← h2]; rfl))
    | 2, _ => exact congrArg some ((isKV_eq h3).trans (by rw [← h2]; rfl))
    | 3, _ => exact congrArg some ((isB_eq h3).trans (by rw [← h2]; rfl))
    | n + 4, h => omega
  · rw [if_neg hr]
    symm
    exact List.getElem?_eq_none (by show 4 ≤ r; omega)
theorem stFl_ok {L : List Value} (h : OkS L) (off n : Int) (v : VI) : AE (stFl L off n v) := by
  refine AE.cons (bt ?_) AE.nil
  unfold stAns stArgs
  rw [args_flat h, tu_flat (stS_ok h off n v)]
  rfl
theorem sdA_ok {cs L : List Value} {n i : Nat} {ok : Bool} (hc : OkA cs n) (h : OkS L) (hn : n ≤ 1000) (hi : i < n) (hk : ((acS cs L i).2 == 0) = ok) : AE (sdA cs L n i ok) := by
  have o : OkS (acS cs L i).1 := stS_ok h _ _ _
  have hj : AE (sdJ i n) := AE.cons (bt (jP_ok hi)) AE.nil
  refine AE.app (AE.cons (b1 (by omega)) AE.nil) (AE.app (ldP_ok (by rw [h.1]; omega) h.whole) (AE.app hj (AE.app (ld1P_ok (by rw [hc.1]; omega) (hc.i64 hi (.inl rfl))) (AE.app hj (AE.app (ld1P_ok (by rw [hc.1]; omega) (hc.i64 hi (.inr rfl))) (AE.app hj (AE.app (ldP_ok (by rw [hc.1]; omega) (hc.act hi))
    (AE.app (AE.cons ?_ AE.nil) (AE.app (stFl_ok h _ _ _) (AE.app (stFl_ok h _ _ _) (AE.app (AE.consP (prP_ok h) AE.nil) (AE.app (stX_ok o.one (by rw [o.1, zS_ok.1]; omega) (splice_whole (by rw [o.1, zS_ok.1]))) (AE.cons (by rw [hk]) AE.nil)))))))))))))
  show wi ((i : Int) + 1) = ((i + 1 : Nat) : Int)
  rw [wi_id (by omega) (by omega)]
  omega
theorem sdB_ok {cs L : List Value} {i : Nat} (h : OkS L) : AE (sdB cs L i) := by
  have o : OkS (acS cs L i).1 := stS_ok h _ _ _
  exact AE.app (ldP_ok (by rw [o.1]; omega) o.whole) (stX_ok o.one (by rw [o.1, h.1]; omega) (splice_whole (by rw [o.1, h.1])))
theorem sdI_ok {i n : Nat} (hn : n ≤ 1000) (hi : i < n) : AE (sdI i) := by
  refine AE.cons ?_ AE.nil
  show wi ((i : Int) + 1) = ((i + 1 : Nat) : Int)
  rw [wi_id (by omega) (by omega)]
  omega
/-- The stack behind so many acts. -/
noncomputable def sdS (cs : List Value) : Nat → List Value
  | 0 => zS
  | i + 1 => bif (acS cs (sdS cs i) i).2 == 0 then (acS cs (sdS cs i) i).1 else sdS cs i
theorem sdS_ok (cs : List Value) : ∀ i, OkS (sdS cs i)
  | 0 => zS_ok
  | i + 1 => by
    unfold sdS
    cases (acS cs (sdS cs i) i).2 == 0
    · exact sdS_ok cs i
    · exact stS_ok (sdS_ok cs i) _ _ _
theorem sdV_flat {cs L : List Value} {i : Nat} (h : OkS L) : (sdV cs L i).all flat = true := by
  have o : OkS (acS cs L i).1 := stS_ok h _ _ _
  unfold sdV
  simp only [List.all_cons, List.all_nil, tu_flat o, h.flat, o.flat, Bool.and_true]
theorem sdH_flat {cs L X : List Value} {n : Nat} (hc : OkA cs n) (h : OkS L) (hx : OkS X) : flatH (sdH cs L ⟨true, none, X⟩) = true := by
  unfold flatH sdH
  simp only [List.all_cons, List.all_nil, hc.flat, zS_ok.flats, h.flats, hx.flats, Bool.and_true]
/-- A round. -/
theorem sd_step {cs : List Value} {n i : Nat} (c : Nat) (hc : OkA cs n) (hn : n ≤ 1000) (hi : i < n) (G : AO) (p : Value) (β : Nat → Value) (hβ : FlR 1 β) :
    ∃ β' X, FlR 1 β' ∧ OkS X ∧ HopQ Try.prog sdLp 1 3 (sdT n c i p β) (sdH cs (sdS cs i) G) (sdT n c (i + 1) p3 β') (sdH cs (sdS cs (i + 1)) ⟨true, none, X⟩) (some 2, []) := by
  have hL := sdS_ok cs i
  have o : OkS (acS cs (sdS cs i) i).1 := stS_ok hL _ _ _
  cases hk : (acS cs (sdS cs i) i).2 == 0 with
  | true =>
    have e : sdS cs (i + 1) = (acS cs (sdS cs i) i).1 := by
      show (bif (acS cs (sdS cs i) i).2 == 0 then _ else _) = _
      rw [hk]; rfl
    rw [e]
    obtain ⟨β', f, q⟩ := hopF_ok noNG st3_ok noLoop_low (noLoop_ok _) sd_one [4] (T := sdT n c (i + 1) p3) (zs := sdZ 2) (fun β => rfl) c1_38 hβ (sd_hopT cs (sdS cs i) G n c i p β)
      (by rw [List.all_append, sdV_flat hL]; show (flat (.agg ⟨(acS cs (sdS cs i) i).1⟩) && true) = true; rw [o.flat]; rfl) (sdH_flat hc o o) (by decide) (by show 1 ≤ 4; decide) (by kernel_rfl) (by kernel_rfl) (AE.app (sdA_ok hc hL hn hi hk) (AE.app (sdB_ok hL) (sdI_ok hn hi)))
    exact ⟨β', _, f, o, q⟩
  | false =>
    have e : sdS cs (i + 1) = sdS cs i := by
      show (bif (acS cs (sdS cs i) i).2 == 0 then _ else _) = _
      rw [hk]; rfl
    rw [e]
    obtain ⟨β', f, q⟩ := hopF_ok noNG st3_ok noLoop_low (noLoop_ok _) sd_one [4] (T := sdT n c (i + 1) p3) (zs := sdZ 1) (fun β => rfl) c37 hβ (sd_hopF cs (sdS cs i) G n c i p β)
      (sdV_flat hL) (sdH_flat hc hL o) (by decide) (by show 1 ≤ 4; decide) (by kernel_rfl) (by kernel_rfl) (AE.app (sdA_ok hc hL hn hi hk) (sdI_ok hn hi))
    exact ⟨β', _, f, o, q.weak (bndW rfl)⟩
theorem sd_rounds {cs : List Value} {n : Nat} (c : Nat) (hc : OkA cs n) (hn : n ≤ 1000) : ∀ (d i : Nat) (X : List Value) (β : Nat → Value), i + d = n → FlR 1 β → OkS X →
    ∃ β' X', FlR 1 β' ∧ OkS X' ∧ HopQ Try.prog sdLp d 3 (sdT n c i p3 β) (sdH cs (sdS cs i) ⟨true, none, X⟩) (sdT n c n p3 β') (sdH cs (sdS cs n) ⟨true, none, X'⟩) (some 2, [])
  | 0, i, X, β, e, hβ, hX => by
    obtain rfl : i = n := by omega
    exact ⟨β, X, hβ, hX, HopQ.zero _ _ _ _⟩
  | d + 1, i, X, β, e, hβ, hX => by
    obtain ⟨β1, X1, f1, o1, q1⟩ := sd_step c hc hn (show i < n by omega) ⟨true, none, X⟩ p3 β hβ
    obtain ⟨β2, X2, f2, o2, q2⟩ := sd_rounds c hc hn d (i + 1) X1 β1 (by omega) f1 o1
    refine ⟨β2, X2, f2, o2, ?_⟩
    rw [show d + 1 = 1 + d by omega]
    exact q1.trans q2 (fun _ _ h => h) (fun _ _ h => h)
noncomputable def sdE0 (n c : Nat) : List Value := sdT n c 0 (.tuple ⟨[]⟩) fun _ => .tuple ⟨[]⟩
noncomputable def sdH0 (cs : List Value) : List AO := [⟨true, none, cs⟩, ⟨true, none, zS⟩, ⟨true, none, zS⟩]
theorem sd_loop {cs : List Value} {n : Nat} (c : Nat) (hc : OkA cs n) (hn : n ≤ 1000) (h1 : 1 ≤ n) :
    ∃ N β X, StopQ Try.prog sdLp N 3 (sdE0 n c) (sdH0 cs) (.exit 0) (sdT n c n p3 β) (sdH cs (sdS cs n) ⟨true, none, X⟩) (some 2, []) := by
  obtain ⟨β1, X1, f1, o1, q1⟩ := sd_step c hc hn (show 0 < n by omega) dead (.tuple ⟨[]⟩) (fun _ => .tuple ⟨[]⟩) (fun _ => rfl)
  obtain ⟨β2, X2, f2, o2, q2⟩ := sd_rounds c hc hn (n - 1) 1 X1 β1 (by omega) f1 o1
  obtain ⟨β3, f3, q3⟩ := stopF_ok noNG st3_ok noLoop_low (noLoop_ok _) sd_one [] (T := sdT n c n p3) (zs := sdZ1) (fun β => rfl) c710 f2 (sd_stop cs (sdS cs n) ⟨true, none, X2⟩ n c β2)
    rfl (sdH_flat hc (sdS_ok cs n) o2) (by decide) (by show 1 ≤ 4; decide) (by kernel_rfl) (by kernel_rfl) (AE.cons (b0 (by omega)) AE.nil)
  have q3' : StopQ Try.prog sdLp 1 3 (sdT n c n p3 β2) (sdH cs (sdS cs n) ⟨true, none, X2⟩) (.exit 0) (sdT n c n p3 β3) (sdH cs (sdS cs n) ⟨true, none, X2⟩) (some 2, []) := (q3.weak (bndW rfl)).shrink (by decide)
  exact ⟨_, β3, X2, (q1.trans q2 (fun _ _ h => h) (fun _ _ h => h)).stop q3' (fun _ _ h => h) (fun _ _ h => h) |>.pad 1⟩
noncomputable def sdEO (X : List Value) : Orc := fun f t _ =>
  if Nat.beq f sdF then
    (if Nat.beq t 38 then some (tld (.agg ⟨X⟩)) else if Nat.beq t 2000002 then some (tld (.agg ⟨sp X⟩)) else none)
  else none
noncomputable def sdQ (cs : List Value) (n c : Nat) (β : Nat → Value) (X : List Value) : LoopQ := ⟨sdF, 0, fun _ => true, sdE0 n c, sdH0 cs, .exit 0, sdT n c n p3 β, sdH cs (sdS cs n) ⟨true, none, X⟩, (some 2, [])⟩
theorem sd_run (cs : List Value) (n c : Nat) (β : Nat → Value) (X : List Value) : reckonQI Try.prog st3 (sdEO (sdS cs n)) (loopQHook [sdQ cs n c β X]) 100000 300 [⟨true, none, cs⟩] sdF [.slice (some ⟨0, 0, none⟩) n c] = some (.agg ⟨sp (sdS cs n)⟩, inter ([prP (sdE0 n c = sdE0 n c), prP (sdH0 cs = sdH0 cs)] ++ sfin (sdS cs n))) := by kernel_rfl
theorem c_stored {cs : List Value} {n : Nat} (c : Nat) (hc : OkA cs n) (hn : n ≤ 1000) (h1 : 1 ≤ n) {w : World} {s : Ren} (H : HR w 1 s [⟨true, none, cs⟩] w) {args' : List Value} (ha : LR s [.slice (some ⟨0, 0, none⟩) n c] args') :
    Calls Try.prog sdF ⟨args'⟩ w fun e w' => e = .returned (.agg ⟨sdS cs n⟩) ∧ Gr w w' := by
  obtain ⟨N, β, X, S⟩ := sd_loop c hc hn h1
  have o := sdS_ok cs n
  have L : LoopQOk Try.prog (sdQ cs n c β X) := loopQ_ok (N := N) sd_one (S.stop (by kernel_rfl))
  have := reckonQ_ok noNG st3_ok (loopQHook_low _) (loopQHook_ok (fun e he => by rw [List.mem_singleton.1 he]; exact L)) _ _ _ _ (by rw [sp_eq o]; exact o.flat) (sd_run cs n c β X)
    (AE.app (AE.consP (prP_ok rfl) (AE.consP (prP_ok rfl) AE.nil)) (sfin_ok o)) H ha
  rw [sp_eq o] at this
  exact this
end Go.Proofs.Ytebolmfdglmpoaa.Ex
end
section
namespace Go.Proofs.Ytebolmfdglmpoaa.Ex
open Go Go.RowKit
set_option maxHeartbeats 0
set_option maxRecDepth 1000000
set_option linter.unusedVariables false
set_option linter.unusedSectionVars false
/-- `stored`, as a contract: of a slice whose memory is told. -/
noncomputable def hkStored : Hook := fun f args h =>
  if Nat.beq f sdF then
    match args with
    | [.slice (some a) n c] =>
      match h[a.block]? with
      | some b => if b.live && (b.es.isNone && (Nat.beq a.off 0 && a.spot.isNone)) then some (.agg ⟨sdS b.cs n⟩, [prP (OkA b.cs n), (b2i (decide (n ≤ 1000) && decide (1 ≤ n)), 1)]) else none
      | none => none
    | _ => none
  else none
theorem hkStored_ok : HookOk2 Try.prog hkStored := by
  intro f args h v cs hv hc wb k s w args' H ha
  unfold hkStored at hv
  split at hv
  · rename_i hf
    obtain rfl := Nat.eq_of_beq_eq_true hf
    split at hv
    · rename_i a n c
      split at hv
      · rename_i b hb
        split at hv
        · rename_i hq
          cases hv
          simp only [Bool.and_eq_true] at hq
          obtain ⟨q1, q2, q3, q4⟩ := hq
          have hA : OkA b.cs n := prP_of (hc _ (List.mem_cons_self ..))
          have hn : (decide (n ≤ 1000) && decide (1 ≤ n)) = true := b2i_inj (b := true) (hc _ (List.mem_cons_of_mem _ (List.mem_cons_self ..)))
          simp only [Bool.and_eq_true, decide_eq_true_eq] at hn
          have hes : b.es = none := Option.isNone_iff_eq_none.1 q2
          obtain ⟨ab, ao, asp⟩ := a
          obtain rfl : ao = 0 := Nat.eq_of_beq_eq_true q3
          obtain rfl : asp = none := Option.isNone_iff_eq_none.1 q4
          have HP := H.pick [⟨true, none, b.cs⟩] (fun _ => ab) (fun i o hi hl => by
              cases i with
              | zero => cases hi; exact ⟨b, hb, q1, hes, rfl, hA.flat, rfl⟩
              | succ i => cases hi)
            (fun i j x y hi hj _ _ _ => by
              cases i with
              | zero => cases j with
                | zero => rfl
                | succ j => cases hj
              | succ i => cases hi)
            (fun i o hi hl he => by
              cases i with
              | zero => cases hi; cases he
              | succ i => cases hi)
          refine c_stored c hA hn.1 hn.2 HP ?_
          obtain ⟨y, ys, rfl, hy, hys⟩ : ∃ y ys, args' = y :: ys ∧ VR s (.slice (some ⟨ab, 0, none⟩) n c) y ∧ LR s [] ys := by
            cases args' with
            | nil => have := ha.1; simp at this
            | cons y ys => exact ⟨y, ys, rfl, ha.uncons.1, ha.uncons.2⟩
          obtain rfl : ys = [] := by
            cases ys with
            | nil => rfl
            | cons z zs => have := hys.1; simp at this
          obtain ⟨p, c', h1, hp, hcap, rfl⟩ := hy.slice_inv
          exact LR.cons (VR.slice (a := ⟨0, 0, none⟩) rfl hp hcap) (LR.nil _)
        · cases hv
      · cases hv
    · cases hv
  · cases hv
noncomputable def ap3 : Hook3 := or3 (liftQ hkStored) (or3 (liftP hkStore) (or3 (liftG 16 hk_val) (liftG 9 hkPiled)))
theorem ap3_ok : HookOk3 Try.prog ap3 := or3_ok (liftQ_ok hkStored_ok) (or3_ok (liftP_ok hkStore_ok) (or3_ok (liftG_ok hk_val_ok) (liftG_ok hkPiled_ok)))
/-- The law: are there too many (g), is the store refused (ne); is the place not ahead of the first one (b1), not behind the last one (b2). -/
noncomputable def apO (g ne b1 b2 : Bool) (k : Nat) (S X : List Value) : Orc := fun f t _ =>
  if Nat.beq f 4 then
    match t with
    | 15 => some (.bool g)
    | 20 => some (tld (.agg ⟨S⟩))
    | 27 => some (.tuple ⟨[.nilIface, .nilIface, .nilIface]⟩)
    | 31 => some (.bool ne)
    | 35 => some (.int .i64 (k : Int))
    | 49 => some (.bool b1)
    | 53 => some (.bool b2)
    | 57 => some .nilIface
    | 60 => some .nilIface
    | 58 => some (tld (.agg ⟨pL S (0 + k * 12)⟩))
    | 61 => some (tld (.agg ⟨pL X (0 + k * 12)⟩))
    | 62 => some (.bool true)
    | t => if Nat.beq t 2000007 then some (tld (.agg ⟨S⟩)) else if Nat.beq t 2000008 then some (tld (.agg ⟨X⟩)) else none
  else none
end Go.Proofs.Ytebolmfdglmpoaa.Ex
end
section
namespace Go.Proofs.Ytebolmfdglmpoaa.Ex
open Go Go.RowKit
set_option maxHeartbeats 0
set_option maxRecDepth 1000000
set_option linter.unusedVariables false
set_option linter.unusedSectionVars false
noncomputable def az3 : Hook3 := or3 (liftP hkStore) (or3 (liftG 16 hk_val) (liftG 9 hkPiled))
theorem az3_ok : HookOk3 Try.prog az3 := or3_ok (liftP_ok hkStore_ok) (or3_ok (liftG_ok hk_val_ok) (liftG_ok hkPiled_ok))
noncomputable def apArgs (sl : Value) (o m kn : Int) (b : Bool) (pl : Int) : List Value := [sl, .agg ⟨[.int .i64 o, .int .i64 m, .int .u8 kn, .bool b]⟩, .int .u8 pl]
noncomputable def apP (n : Nat) (S : List Value) (o m kn : Int) (ne : Bool) (pre : Cs) : Cs := pre ++ (stX zS 0 768 S S ++ (ldP S 0 768 S ++ (stFl S o m (valV kn 99) ++ (stFl S o m (valV kn 99) ++ ([prP (OkS S)] ++ (stX zS 0 768 (stS S o m (valV kn 99)).1 (stS S o m (valV kn 99)).1 ++ [(b2i ((stS S o m (valV kn 99)).2 != 0), b2i ne)]))))))
noncomputable def apK (pl : Int) (o m : Int) (k : Nat) (b1 b2 : Bool) : Cs := [((wi pl).tmod 64, (k : Int)), (b2i (decide ((k : Int) ≥ wi ((wi (o + 512)).tdiv 8))), b2i b1)] ++ (bif b1 then [(b2i (decide ((k : Int) ≤ wi ((wi (wi (o + 511) + m)).tdiv 8))), b2i b2)] else [])
noncomputable def apE (S X : List Value) (k : Nat) : Cs := [(b2i (decide (0 ≤ (k : Int)) && decide ((k : Int) < (64 : Nat))), 1)] ++ (ldP S (0 + k * 12) 12 (pL S (0 + k * 12)) ++ ([(b2i (decide (0 ≤ (k : Int)) && decide ((k : Int) < (64 : Nat))), 1)] ++ (ldP X (0 + k * 12) 12 (pL X (0 + k * 12)) ++ [(b2i (eqD (pL S (0 + k * 12)) (pL X (0 + k * 12))), 1)])))
noncomputable def preL (cs : List Value) (n : Nat) : Cs := [(b2i (decide ((n : Int) > 60)), 0), (b2i (flat (.agg ⟨sdS cs n⟩)), 1), prP (OkA cs n), (b2i (decide (n ≤ 1000) && decide (1 ≤ n)), 1)]
def pre0 : Cs := [(b2i (decide ((0 : Int) > 60)), 0)]
theorem ap_L0 (cs : List Value) (n c : Nat) (o m kn : Int) (b : Bool) (pl : Int) (k : Nat) : reckonQI Try.prog ap3 (apO false true false false k (sdS cs n) (stS (sdS cs n) o m (valV kn 99)).1) noLoop 100000 300 [⟨true, none, cs⟩] 4 (apArgs (.slice (some ⟨0, 0, none⟩) n c) o m kn b pl) = some (.bool true, inter (apP n (sdS cs n) o m kn true (preL cs n))) := by kernel_rfl
theorem ap_L1 (cs : List Value) (n c : Nat) (o m kn : Int) (b : Bool) (pl : Int) (k : Nat) : reckonQI Try.prog ap3 (apO false false true true k (sdS cs n) (stS (sdS cs n) o m (valV kn 99)).1) noLoop 100000 300 [⟨true, none, cs⟩] 4 (apArgs (.slice (some ⟨0, 0, none⟩) n c) o m kn b pl) = some (.bool true, inter (apP n (sdS cs n) o m kn false (preL cs n) ++ (apK pl o m k true true))) := by kernel_rfl
theorem ap_L2 (cs : List Value) (n c : Nat) (o m kn : Int) (b : Bool) (pl : Int) (k : Nat) : reckonQI Try.prog ap3 (apO false false true false k (sdS cs n) (stS (sdS cs n) o m (valV kn 99)).1) noLoop 100000 300 [⟨true, none, cs⟩] 4 (apArgs (.slice (some ⟨0, 0, none⟩) n c) o m kn b pl) = some (.bool true, inter (apP n (sdS cs n) o m kn false (preL cs n) ++ (apK pl o m k true false ++ apE (sdS cs n) (stS (sdS cs n) o m (valV kn 99)).1 k))) := by kernel_rfl
theorem ap_L3 (cs : List Value) (n c : Nat) (o m kn : Int) (b : Bool) (pl : Int) (k : Nat) : reckonQI Try.prog ap3 (apO false false false false k (sdS cs n) (stS (sdS cs n) o m (valV kn 99)).1) noLoop 100000 300 [⟨true, none, cs⟩] 4 (apArgs (.slice (some ⟨0, 0, none⟩) n c) o m kn b pl) = some (.bool true, inter (apP n (sdS cs n) o m kn false (preL cs n) ++ (apK pl o m k false false ++ apE (sdS cs n) (stS (sdS cs n) o m (valV kn 99)).1 k))) := by kernel_rfl
theorem ap_Z0 (o m kn : Int) (b : Bool) (pl : Int) (k : Nat) : reckonQI Try.prog az3 (apO false true false false k zS (stS zS o m (valV kn 99)).1) noLoop 100000 300 [dead] 4 (apArgs (.slice (some ⟨0, 0, none⟩) 0 0) o m kn b pl) = some (.bool true, inter (apP 0 zS o m kn true pre0)) := by kernel_rfl
theorem ap_Z1 (o m kn : Int) (b : Bool) (pl : Int) (k : Nat) : reckonQI Try.prog az3 (apO false false true true k zS (stS zS o m (valV kn 99)).1) noLoop 100000 300 [dead] 4 (apArgs (.slice (some ⟨0, 0, none⟩) 0 0) o m kn b pl) = some (.bool true, inter (apP 0 zS o m kn false pre0 ++ (apK pl o m k true true))) := by kernel_rfl
theorem ap_Z2 (o m kn : Int) (b : Bool) (pl : Int) (k : Nat) : reckonQI Try.prog az3 (apO false false true false k zS (stS zS o m (valV kn 99)).1) noLoop 100000 300 [dead] 4 (apArgs (.slice (some ⟨0, 0, none⟩) 0 0) o m kn b pl) = some (.bool true, inter (apP 0 zS o m kn false pre0 ++ (apK pl o m k true false ++ apE zS (stS zS o m (valV kn 99)).1 k))) := by kernel_rfl
theorem ap_Z3 (o m kn : Int) (b : Bool) (pl : Int) (k : Nat) : reckonQI Try.prog az3 (apO false false false false k zS (stS zS o m (valV kn 99)).1) noLoop 100000 300 [dead] 4 (apArgs (.slice (some ⟨0, 0, none⟩) 0 0) o m kn b pl) = some (.bool true, inter (apP 0 zS o m kn false pre0 ++ (apK pl o m k false false ++ apE zS (stS zS o m (valV kn 99)).1 k))) := by kernel_rfl
theorem ap_N0 (o m kn : Int) (b : Bool) (pl : Int) (k : Nat) : reckonQI Try.prog az3 (apO false true false false k zS (stS zS o m (valV kn 99)).1) noLoop 100000 300 [] 4 (apArgs (.slice none 0 0) o m kn b pl) = some (.bool true, inter (apP 0 zS o m kn true pre0)) := by kernel_rfl
theorem ap_N1 (o m kn : Int) (b : Bool) (pl : Int) (k : Nat) : reckonQI Try.prog az3 (apO false false true true k zS (stS zS o m (valV kn 99)).1) noLoop 100000 300 [] 4 (apArgs (.slice none 0 0) o m kn b pl) = some (.bool true, inter (apP 0 zS o m kn false pre0 ++ (apK pl o m k true true))) := by kernel_rfl
theorem ap_N2 (o m kn : Int) (b : Bool) (pl : Int) (k : Nat) : reckonQI Try.prog az3 (apO false false true false k zS (stS zS o m (valV kn 99)).1) noLoop 100000 300 [] 4 (apArgs (.slice none 0 0) o m kn b pl) = some (.bool true, inter (apP 0 zS o m kn false pre0 ++ (apK pl o m k true false ++ apE zS (stS zS o m (valV kn 99)).1 k))) := by kernel_rfl
theorem ap_N3 (o m kn : Int) (b : Bool) (pl : Int) (k : Nat) : reckonQI Try.prog az3 (apO false false false false k zS (stS zS o m (valV kn 99)).1) noLoop 100000 300 [] 4 (apArgs (.slice none 0 0) o m kn b pl) = some (.bool true, inter (apP 0 zS o m kn false pre0 ++ (apK pl o m k false false ++ apE zS (stS zS o m (valV kn 99)).1 k))) := by kernel_rfl
theorem ap_G (n c : Nat) (o m kn : Int) (b : Bool) (pl : Int) : reckonQI Try.prog az3 (apO true false false false 0 [] []) noLoop 100000 300 [dead] 4 (apArgs (.slice (some ⟨0, 0, none⟩) n c) o m kn b pl) = some (.bool true, inter [(b2i (decide ((n : Int) > 60)), 1)]) := by kernel_rfl
end Go.Proofs.Ytebolmfdglmpoaa.Ex
end
section
namespace Go.Proofs.Ytebolmfdglmpoaa.Ex
open Go Go.RowKit
set_option maxHeartbeats 400000
set_option maxRecDepth 1000000
set_option linter.unusedVariables false
set_option linter.unusedSectionVars false
theorem pc_splice {L vs : List Value} {o i : Nat} (h : o + vs.length ≤ L.length) (hi : i < o ∨ o + vs.length ≤ i) : pc (splice L o vs) i = pc L i := by
  unfold pc
  rw [List.getD_eq_getElem?_getD, List.getD_eq_getElem?_getD, splice_get h, if_neg (by omega)]
theorem pL_same {X S : List Value} {o : Nat} (h : ∀ r, r < 12 → pc X (o + r) = pc S (o + r)) : pL X o = pL S o := by
  have e0 : pc X o = pc S o := h 0 (by decide)
  have e1 : pc X (o + 1) = pc S (o + 1) := h 1 (by decide)
  have e2 : pc X (o + 1 + 1) = pc S (o + 1 + 1) := h 2 (by decide)
  have e3 : pc X (o + 1 + 2) = pc S (o + 1 + 2) := h 3 (by decide)
  have e4 : pc X (o + 1 + 3) = pc S (o + 1 + 3) := h 4 (by decide)
  have e5 : pc X (o + 1 + 4) = pc S (o + 1 + 4) := h 5 (by decide)
  have e6 : pc X (o + 1 + 5) = pc S (o + 1 + 5) := h 6 (by decide)
  have e7 : pc X (o + 1 + 6) = pc S (o + 1 + 6) := h 7 (by decide)
  have e8 : pc X (o + 1 + 7) = pc S (o + 1 + 7) := h 8 (by decide)
  have e9 : pc X (o + 1 + 8) = pc S (o + 1 + 8) := h 9 (by decide)
  have e10 : pc X (o + 1 + 9) = pc S (o + 1 + 9) := h 10 (by decide)
  have e11 : pc X (o + 1 + 10) = pc S (o + 1 + 10) := h 11 (by decide)
  unfold pL vAt
  rw [e0, e1, e2, e3, e4, e5, e6, e7, e8, e9, e10, e11]
theorem setB_out {L : List Value} (h : OkS L) {j : Nat} (hj : j < 64) (k : Int) {i : Nat} (hi : i / 12 ≠ j) : pc (setB L j k) i = pc L i := by
  have l1 : 0 + j * 12 + 0 + [Value.int .u8 (orB (pc L (0 + j * 12 + 0)) k)].length ≤ L.length := by rw [h.1]; show 0 + j * 12 + 0 + 1 ≤ 768; omega
  unfold setB
  rw [pc_splice (by rw [splice_length l1, h.1]; show 0 + j * 12 + 1 + 11 ≤ 768; omega) (by show i < 0 + j * 12 + 1 ∨ 0 + j * 12 + 1 + 11 ≤ i; omega), pc_splice l1 (by show i < 0 + j * 12 + 0 ∨ 0 + j * 12 + 0 + 1 ≤ i; omega)]
theorem setP_out {L : List Value} (h : OkS L) {j : Nat} (hj : j < 64) (v : VI) {i : Nat} (hi : i / 12 ≠ j) : pc (setP L j v) i = pc L i := by
  unfold setP
  exact pc_splice (by rw [h.1]; show 0 + j * 12 + 12 ≤ 768; omega) (by show i < 0 + j * 12 ∨ 0 + j * 12 + 12 ≤ i; omega)
theorem goS_out : ∀ {m k : Nat} {L X : List Value} {i : Nat}, OkS L → k + m ≤ 512 → goS m k L = some X → (∀ t, k ≤ t → t < k + m → i / 12 ≠ t / 8) → pc X i = pc L i
  | 0, k, L, X, i, h, _, e, _ => by cases e; rfl
  | m + 1, k, L, X, i, h, hk, e, hi => by
    unfold goS at e
    cases hp : ptK (pc L (k / 8 * 12 + 1)) with
    | true => rw [hp] at e; cases e
    | false =>
      rw [hp] at e
      rw [goS_out (i := i) (OkS.setB h (by omega) k) (by omega) e (fun t h1 h2 => hi t (by omega) (by omega)), setB_out h (by omega) k (hi k (Nat.le_refl _) (by omega))]
/-- A store that may be, seen from a place that is not its own. -/
theorem st_apart {S : List Value} (h : OkS S) {off n : Int} {v : VI} (he : (stS S off n v).2 = 0) {k : Nat} (hk : k < 64) (ho : (k : Int) < (off + 512) / 8 ∨ (off + 511 + n) / 8 < k) : pL (stS S off n v).1 (0 + k * 12) = pL S (0 + k * 12) := by
  refine pL_same fun r hr => ?_
  unfold stS at he ⊢
  cases k0 : wdK off n with
  | false => rw [k0] at he; exact absurd (show (181 : Int) = 0 from he) (by decide)
  | true =>
    obtain ⟨hn, h1, h2, hA⟩ := wd_ok k0
    rw [k0] at he
    cases k1 : v.k == 0 with
    | true => rw [k1] at he; exact absurd (show (101 : Int) = 0 from he) (by decide)
    | false =>
      rw [k1] at he
      cases k2 : isP (wdA off n) n with
      | true => 
        have h8 : n = 8 ∧ (wdA off n).tmod 8 = 0 := by
          unfold isP at k2
          simpa using k2
        show pc (setP S ((wdA off n).toNat / 8) v) _ = _
        refine setP_out h (by omega) v ?_
        have e8 : (wdA off n) % 8 = 0 := by
          have := h8.2
          rwa [Int.tmod_eq_emod_of_nonneg (by omega)] at this
        omega
      | false =>
        rw [k2] at he
        cases k3 : ptK v.k with
        | true => rw [k3] at he; exact absurd (show (102 : Int) = 0 from he) (by decide)
        | false =>
          rw [k3] at he
          simp only [Bool.not_true, cond_false] at he ⊢
          cases g : goS n.toNat (wdA off n).toNat S with
          | none => rw [g] at he; exact absurd he (by decide)
          | some X =>
            show pc X _ = _
            exact goS_out h (by omega) g fun t t1 t2 => by omega
theorem st_rng {S : List Value} {off n : Int} {v : VI} (he : (stS S off n v).2 = 0) : (n = 1 ∨ n = 2 ∨ n = 4 ∨ n = 8) ∧ -512 ≤ off ∧ off ≤ -n := by
  cases k0 : wdK off n with
  | false =>
    unfold stS at he
    rw [k0] at he
    exact absurd (show (181 : Int) = 0 from he) (by decide)
  | true =>
    obtain ⟨hn, h1, h2, hA⟩ := wd_ok k0
    exact ⟨hn, h1, h2⟩
theorem eqD_pL (S : List Value) (o : Nat) : eqD (pL S o) (pL S o) = true := by simp [eqD, eqW, pL, vL]
theorem okA_of {l : List Value} {n : Nat} (hl : l.length = n * 4) (h : ∀ i, i < n → okL [.i .i64, .i .i64, .i .u8, .b] ((l.drop (i * 4)).take 4)) : OkA l n := by
  refine ⟨hl, fun i v hv => ?_⟩
  have hi := (List.getElem?_eq_some_iff.1 hv).1
  have k := h (i / 4) (by omega)
  obtain ⟨a, as', e1, h1, k⟩ := k.cons
  obtain ⟨b, bs, rfl, h2, k⟩ := k.cons
  obtain ⟨c, cs, rfl, h3, k⟩ := k.cons
  obtain ⟨d, ds, rfl, h4, k⟩ := k.cons
  obtain rfl := k.nil
  have g : ((l.drop (i / 4 * 4)).take 4)[i % 4]? = some v := by
    rw [List.getElem?_take, if_pos (by omega), List.getElem?_drop, show i / 4 * 4 + i % 4 = i by omega, hv]
  rw [e1] at g
  have hr : i % 4 < 4 := by omega
  generalize i % 4 = r at g hr
  match r, hr with
  | 0, _ => cases g; obtain ⟨x, rfl, _⟩ := h1; rfl
  | 1, _ => cases g; obtain ⟨x, rfl, _⟩ := h2; rfl
  | 2, _ => cases g; obtain ⟨x, rfl, _⟩ := h3; rfl
  | 3, _ => cases g; obtain ⟨x, rfl⟩ := h4; rfl
  | n + 4, h => omega
theorem apP_ok {n : Nat} {S : List Value} {o m kn : Int} {ne : Bool} {pre : Cs} (hp : AE pre) (h : OkS S) (hne : ((stS S o m (valV kn 99)).2 != 0) = ne) : AE (apP n S o m kn ne pre) := by
  have x : OkS (stS S o m (valV kn 99)).1 := stS_ok h _ _ _
  exact AE.app hp (AE.app (stX_ok h.one (by rw [h.1, zS_ok.1]; omega) (splice_whole (by rw [h.1, zS_ok.1]))) (AE.app (ldP_ok (by rw [h.1]; omega) h.whole) (AE.app (stFl_ok h _ _ _) (AE.app (stFl_ok h _ _ _) (AE.app (AE.consP (prP_ok h) AE.nil)
    (AE.app (stX_ok x.one (by rw [x.1, zS_ok.1]; omega) (splice_whole (by rw [x.1, zS_ok.1]))) (AE.cons (by rw [hne]) AE.nil)))))))
theorem apE_ok {S X : List Value} {k : Nat} (h : OkS S) (hx : OkS X) (hk : k < 64) (e : pL X (0 + k * 12) = pL S (0 + k * 12)) : AE (apE S X k) := by
  have hj : AE [(b2i (decide (0 ≤ (k : Int)) && decide ((k : Int) < (64 : Nat))), 1)] := AE.cons (bt (jP_ok hk)) AE.nil
  exact AE.app hj (AE.app (ldP_ok (by rw [h.1]; omega) (h.plc hk)) (AE.app hj (AE.app (ldP_ok (by rw [hx.1]; omega) (hx.plc hk)) (AE.cons (bt (by rw [e, eqD_pL])) AE.nil))))
/-- The law, of a stack: each way. -/
theorem ap_any {S : List Value} {o m kn pl : Int} {n : Nat} {pre : Cs} {G : Prop} (hp : AE pre) (h : OkS S) (hpl : 0 ≤ pl ∧ pl < 256)
    (r0 : ∀ k : Nat, AE (apP n S o m kn true pre) → G) (r1 : ∀ k : Nat, AE (apP n S o m kn false pre ++ apK pl o m k true true) → G)
    (r2 : ∀ k : Nat, AE (apP n S o m kn false pre ++ (apK pl o m k true false ++ apE S (stS S o m (valV kn 99)).1 k)) → G) (r3 : ∀ k : Nat, AE (apP n S o m kn false pre ++ (apK pl o m k false false ++ apE S (stS S o m (valV kn 99)).1 k)) → G) : G := by
  cases hne : ((stS S o m (valV kn 99)).2 != 0) with
  | true => exact r0 0 (apP_ok hp h hne)
  | false =>
    have he : (stS S o m (valV kn 99)).2 = 0 := by simpa using hne
    obtain ⟨hm, h1, h2⟩ := st_rng he
    have x : OkS (stS S o m (valV kn 99)).1 := stS_ok h _ _ _
    have ew : wi pl = pl := wi_id (by omega) (by omega)
    have ek : (wi pl).tmod 64 = ((pl % 64).toNat : Int) := by rw [ew, Int.tmod_eq_emod_of_nonneg hpl.1]; omega
    have hk : (pl % 64).toNat < 64 := by omega
    have ef : wi ((wi (o + 512)).tdiv 8) = (o + 512) / 8 := by
      rw [wi_id (x := o + 512) (by omega) (by omega), Int.tdiv_eq_ediv_of_nonneg (by omega)]
      exact wi_id (by omega) (by omega)
    have el : wi ((wi (wi (o + 511) + m)).tdiv 8) = (o + 511 + m) / 8 := by
      rw [wi_id (x := o + 511) (by omega) (by omega), wi_id (x := o + 511 + m) (by omega) (by omega), Int.tdiv_eq_ediv_of_nonneg (by omega)]
      exact wi_id (by omega) (by omega)
    by_cases c1 : (o + 512) / 8 ≤ (((pl % 64).toNat : Nat) : Int)
    · by_cases c2 : (((pl % 64).toNat : Nat) : Int) ≤ (o + 511 + m) / 8
      · exact r1 (pl % 64).toNat (AE.app (apP_ok hp h hne) (AE.app (AE.cons ek (AE.cons (b1 (by rw [ef]; exact c1)) AE.nil)) (AE.cons (b1 (by rw [el]; exact c2)) AE.nil)))
      · exact r2 (pl % 64).toNat (AE.app (apP_ok hp h hne) (AE.app (AE.app (AE.cons ek (AE.cons (b1 (by rw [ef]; exact c1)) AE.nil)) (AE.cons (b0 (by rw [el]; exact c2)) AE.nil)) (apE_ok h x hk (st_apart h he hk (.inr (by omega))))))
    · exact r3 (pl % 64).toNat (AE.app (apP_ok hp h hne) (AE.app (AE.app (AE.cons ek (AE.cons (b0 (by rw [ef]; omega)) AE.nil)) AE.nil) (apE_ok h x hk (st_apart h he hk (.inl (by omega))))))
theorem u8_rng {a : Int} (h : (Lit.int .u8 a).wf = true) : 0 ≤ a ∧ a < 256 := by
  simp [Lit.wf, IntKind.min, IntKind.max, IntKind.signed, IntKind.bits] at h
  omega
theorem law_apart {v : Value} {o m kn pl : Int} {b : Bool} {w : World} (hS : SlS [.i .i64, .i .i64, .i .u8, .b] w v) (wp : (Lit.int .u8 pl).wf = true) :
    Calls Try.prog 4 #[v, .agg ⟨[.int .i64 o, .int .i64 m, .int .u8 kn, .bool b]⟩, .int .u8 pl] w fun e w' => e = .returned (.bool true) ∧ Gr w w' := by
  have hpl := u8_rng wp
  have hL : Laid ([] : List AO) w := Laid.nil w
  have tl : ∀ {s : Ren}, LR s [.agg ⟨[.int .i64 o, .int .i64 m, .int .u8 kn, .bool b]⟩, .int .u8 pl] [.agg ⟨[.int .i64 o, .int .i64 m, .int .u8 kn, .bool b]⟩, .int .u8 pl] := fun {s} => LR.ofFlat rfl
  rcases hS with rfl | ⟨bl, off, n, c, tot, T, l, rfl, hlc, hsh, hll, hfit, hfr, hcl, hok⟩
  · have lr : LR (placeG [] w) (apArgs (.slice none 0 0) o m kn b pl) (apArgs (.slice none 0 0) o m kn b pl) := LR.ofFlat rfl
    have fin : ∀ {orc : Orc} {cs : Cs}, reckonQI Try.prog az3 orc noLoop 100000 300 [] 4 (apArgs (.slice none 0 0) o m kn b pl) = some (.bool true, inter cs) → AE cs → _ := fun h he =>
      reckonQ_ok noNG az3_ok noLoop_low (noLoop_ok _) _ _ _ _ rfl h he (HR.start hL) lr
    exact ap_any (n := 0) (pre := pre0) (AE.cons rfl AE.nil) zS_ok hpl (fun k => fin (ap_N0 o m kn b pl k)) (fun k => fin (ap_N1 o m kn b pl k)) (fun k => fin (ap_N2 o m kn b pl k)) (fun k => fin (ap_N3 o m kn b pl k))
  have hb : bl < w.heap.size := by
    unfold World.shape? at hsh
    split at hsh
    · rename_i h; exact (Array.getElem?_eq_some_iff.1 h).1
    · cases hsh
  by_cases c0 : n = 0
  · subst c0
    have H := HR.withPl (pl := ⟨bl, off, off + c, some 1⟩) hL hb (by intro h; simp [GM] at h)
    have lr : LR (upd (placeG [] w) 0 ⟨bl, off, off + c, some 1⟩) (apArgs (.slice (some ⟨0, 0, none⟩) 0 0) o m kn b pl) (apArgs (.slice (some ⟨bl, off, none⟩) 0 c) o m kn b pl) :=
      LR.cons (VR.slice (a := ⟨0, 0, none⟩) (p := ⟨bl, off, off + c, some 1⟩) rfl (upd_same _ _ _) (by show 0 < 1 ∧ off + 0 + c * 1 = off + c ∧ 0 ≤ c; omega)) tl
    have fin : ∀ {orc : Orc} {cs : Cs}, reckonQI Try.prog az3 orc noLoop 100000 300 [dead] 4 (apArgs (.slice (some ⟨0, 0, none⟩) 0 0) o m kn b pl) = some (.bool true, inter cs) → AE cs → _ := fun h he =>
      reckonQ_ok noNG az3_ok noLoop_low (noLoop_ok _) _ _ _ _ rfl h he H lr
    exact ap_any (n := 0) (pre := pre0) (AE.cons rfl AE.nil) zS_ok hpl (fun k => fin (ap_Z0 o m kn b pl k)) (fun k => fin (ap_Z1 o m kn b pl k)) (fun k => fin (ap_Z2 o m kn b pl k)) (fun k => fin (ap_Z3 o m kn b pl k))
  by_cases c1 : n ≤ 60
  · have hA : OkA l n := okA_of hll hok
    have H := HR.withSlice (cs := l) hL hsh (by rw [hll]; exact hfit (by omega)) (by rw [hll]; exact hfr) (fun o v hv => ⟨hcl o v hv, List.all_eq_true.1 hA.flat v (List.mem_of_getElem? hv)⟩) (fun i o hi => by simp at hi)
    have lr : LR (upd (placeG [] w) 0 ⟨bl, off, tot, none⟩) (apArgs (.slice (some ⟨0, 0, none⟩) n c) o m kn b pl) (apArgs (.slice (some ⟨bl, off, none⟩) n c) o m kn b pl) :=
      LR.cons (VR.slice (a := ⟨0, 0, none⟩) (p := ⟨bl, off, tot, none⟩) rfl (upd_same _ _ _) rfl) tl
    have fin : ∀ {orc : Orc} {cs : Cs}, reckonQI Try.prog ap3 orc noLoop 100000 300 [⟨true, none, l⟩] 4 (apArgs (.slice (some ⟨0, 0, none⟩) n c) o m kn b pl) = some (.bool true, inter cs) → AE cs → _ := fun h he =>
      reckonQ_ok noNG ap3_ok noLoop_low (noLoop_ok _) _ _ _ _ rfl h he H lr
    have hp : AE (preL l n) := AE.cons (b0 (by omega)) (AE.cons (bt (sdS_ok l n).flat) (AE.consP (prP_ok hA) (AE.cons (bt (by rw [decide_eq_true (by omega : n ≤ 1000), decide_eq_true (by omega : 1 ≤ n)]; rfl)) AE.nil)))
    exact ap_any (n := n) hp (sdS_ok l n) hpl (fun k => fin (ap_L0 l n c o m kn b pl k)) (fun k => fin (ap_L1 l n c o m kn b pl k)) (fun k => fin (ap_L2 l n c o m kn b pl k)) (fun k => fin (ap_L3 l n c o m kn b pl k))
  · have H := HR.withPl (pl := ⟨bl, off, tot, none⟩) hL hb (by intro h; cases h)
    have lr : LR (upd (placeG [] w) 0 ⟨bl, off, tot, none⟩) (apArgs (.slice (some ⟨0, 0, none⟩) n c) o m kn b pl) (apArgs (.slice (some ⟨bl, off, none⟩) n c) o m kn b pl) :=
      LR.cons (VR.slice (a := ⟨0, 0, none⟩) (p := ⟨bl, off, tot, none⟩) rfl (upd_same _ _ _) rfl) tl
    exact reckonQ_ok noNG az3_ok noLoop_low (noLoop_ok _) _ _ _ _ rfl (ap_G n c o m kn b pl) (AE.cons (b1 (by omega)) AE.nil) H lr
end Go.Proofs.Ytebolmfdglmpoaa.Ex
end
section
namespace Go.Proofs.Ytebolmfdglmpoaa.Ex
open Go Go.RowKit
set_option maxHeartbeats 0
set_option maxRecDepth 1000000
set_option linter.unusedVariables false
set_option linter.unusedSectionVars false
abbrev plF : FuncId := 20
noncomputable abbrev plLp : Code := theLoopN Try.prog plF 0
theorem pl_one : oneLoopN Try.prog plF 0 = true := by kernel_rfl
noncomputable def plT (n : Int) (a k : Nat) (p r u : Value) (β : Nat → Value) : List Value := [β 0, β 1, .int .i64 n, .pointer (some ⟨0, 0, none⟩), β 4, β 5, β 6, .int .i64 (a : Int), β 8, .int .i64 (k : Int), p, β 11, β 12, β 13, β 14, β 15, β 16, β 17, β 18, β 19, β 20, β 21, β 22, β 23, β 24, β 25, β 26, β 27, β 28, β 29, β 30, β 31, r, β 33, β 34, β 35, β 36, β 37, β 38, β 39, u, β 41, β 42]
def plZ : List Nat := [1, 1, 0, 0, 1, 1, 1, 0, 1, 0, 0, 1, 1, 1, 1, 1, 1, 1, 1, 1, 1, 1, 1, 1, 1, 1, 1, 1, 1, 1, 1, 1, 0, 1, 1, 1, 1, 1, 1, 1, 0, 1, 1]
noncomputable def plR (e : Int) (β : Nat → Value) : List Value := [β 0, β 1, β 2, β 3, β 4, β 5, .int .i64 e, β 7, β 8, β 9, β 10, β 11, β 12, β 13, β 14, β 15, β 16, β 17, β 18, β 19, β 20, β 21, β 22, β 23, β 24, β 25, β 26, β 27, β 28, β 29, β 30, β 31, β 32, β 33, β 34, β 35, β 36, β 37, β 38, β 39, β 40, β 41, β 42]
def plRz : List Nat := [1, 1, 1, 1, 1, 1, 0, 1, 1, 1, 1, 1, 1, 1, 1, 1, 1, 1, 1, 1, 1, 1, 1, 1, 1, 1, 1, 1, 1, 1, 1, 1, 1, 1, 1, 1, 1, 1, 1, 1, 1, 1, 1]
noncomputable def plE0 (L : List Value) (off n : Int) (a : Nat) : List Value := [.agg ⟨L⟩, .int .i64 off, .int .i64 n, .pointer (some ⟨0, 0, none⟩), .tuple ⟨[]⟩, .tuple ⟨[]⟩, .int .i64 0, .int .i64 (a : Int), .bool true, .int .i64 (a : Int), .tuple ⟨[]⟩, .tuple ⟨[.int .i64 (fsA off n), .bool (fsK off n)]⟩, .int .i64 off, .int .i64 n, .tuple ⟨[.int .i64 (fsA off n), .bool (fsK off n)]⟩, .int .i64 (a : Int), .bool true, .bool true, .bool false, .int .i64 (a : Int), .tuple ⟨[]⟩, .tuple ⟨[]⟩, .tuple ⟨[]⟩, .tuple ⟨[]⟩, .tuple ⟨[]⟩, .tuple ⟨[]⟩, .tuple ⟨[]⟩, .tuple ⟨[]⟩, .tuple ⟨[]⟩, .tuple ⟨[]⟩, .tuple ⟨[]⟩, .tuple ⟨[]⟩, .tuple ⟨[]⟩, .tuple ⟨[]⟩, .tuple ⟨[]⟩, .tuple ⟨[]⟩, .tuple ⟨[]⟩, .tuple ⟨[]⟩, .tuple ⟨[]⟩, .tuple ⟨[]⟩, .tuple ⟨[]⟩, .tuple ⟨[]⟩, .tuple ⟨[]⟩]
/-- Is a byte's bit off? -/
noncomputable def bitZ (b k : Int) : Bool := IntKind.u8.wrap ((BitVec.ofInt IntKind.u8.bits (b.fdiv (2 ^ min (k.tmod 8).toNat IntKind.u8.bits)) &&& BitVec.ofInt IntKind.u8.bits 1).toNat : Int) == 0
noncomputable def plO (L : List Value) (k j : Nat) (g z q : Bool) : Orc := fun f t _ =>
  if Nat.beq f plF then
    match t with
    | 24 => some (.bool g)
    | 26 => some (.int .i64 ((k + 1 : Nat) : Int))
    | 28 => some (.int .i64 (j : Int))
    | 29 => some .nilIface
    | 30 => some (tld (.agg ⟨pL L (0 + j * 12)⟩))
    | 38 => some (.bool z)
    | 39 => some (.bool q)
    | _ => none
  else none
def pl3 : Hook3 := or3 (liftG 40 hk_first) (liftG 34 hk_pts)
theorem pl3_ok : HookOk3 Try.prog pl3 := or3_ok (liftG_ok hk_first_ok) (liftG_ok hk_pts_ok)
noncomputable def plH (L : List Value) (G : AO) : List AO := [⟨true, none, L⟩, G]
noncomputable abbrev p1 : Value := .pointer (some ⟨1, 0, none⟩)
noncomputable def plA (L : List Value) (n : Int) (a k j : Nat) (z : Bool) : Cs := [(b2i (decide ((k : Int) < wi (a + n))), 1), (wi ((k : Int).tdiv 8), (j : Int)), (b2i (decide (0 ≤ (j : Int)) && decide ((j : Int) < (64 : Nat))), 1)] ++ (ldP L (0 + j * 12) 12 (pL L (0 + j * 12)) ++ [(b2i (bitZ (pc L (0 + j * 12)) k), b2i z)])
noncomputable def plB (L : List Value) (j : Nat) (q : Bool) : Cs := [(b2i (ptK (vAt L (0 + j * 12 + 1)).k), b2i q)]
noncomputable def plI (k : Nat) : Cs := [(wi (k + 1), ((k + 1 : Nat) : Int))]
def plC (k : Nat) : Bool := Nat.ble 20 k
def plCe (k : Nat) : Bool := Nat.ble 20 k && Nat.ble k 24
def plCz (k : Nat) : Bool := plC k && !(Nat.beq k 25 || Nat.beq k 26)
noncomputable abbrev p11 : Value := .pointer (some ⟨1, 1, none⟩)
theorem pl_hop (L : List Value) (G : AO) (n : Int) (a k j : Nat) (p r u : Value) (β : Nat → Value) : (hopRunL Try.prog pl3 (plO L k j true false false) noLoop plF plLp 1 1 [2] (plT n a k p r u β) (plH L G)).map (fun r => (maskZ 1 plZ r.1, pickZ plZ r.1, r.2)) = some ((plT n a (k + 1) p1 p1 p11 fun k => bif plC k then .bool true else .bool (okR 1 (β k))).map (reV (keepF 1 [2]) 6), [], plH L ⟨true, none, pL L (0 + j * 12)⟩, some 2, inter (plA L n a k j false ++ (plB L j false ++ plI k))) := by kernel_rfl
def plTs : List Bool := plZ.map deadZ
def plNs : List Bool := List.replicate 43 true
noncomputable def plN (β : Nat → Value) : List Value := [β 0, β 1, β 2, β 3, β 4, β 5, β 6, β 7, β 8, β 9, β 10, β 11, β 12, β 13, β 14, β 15, β 16, β 17, β 18, β 19, β 20, β 21, β 22, β 23, β 24, β 25, β 26, β 27, β 28, β 29, β 30, β 31, β 32, β 33, β 34, β 35, β 36, β 37, β 38, β 39, β 40, β 41, β 42]
def plRs : List Bool := (List.replicate 43 true).set 6 false
theorem pl_end (L : List Value) (G : AO) (n : Int) (a k : Nat) (p r u : Value) (β : Nat → Value) : (loopN (bodyL Try.prog pl3 (plO L k 0 false false false) noLoop plF plLp) 1 ⟨plT n a k p r u β, plH L G, (none, [])⟩).map (fun r => (r.1, maskQ plNs r.2.t, r.2.h, r.2.m.1, inter r.2.m.2)) = some (.exit 0, plN fun _ => .bool true, plH L G, none, inter [(b2i (decide ((k : Int) < wi (a + n))), 0)]) := by kernel_rfl
theorem pl_Z (L : List Value) (G : AO) (n : Int) (a k j : Nat) (p r u : Value) (β : Nat → Value) : (loopN (bodyL Try.prog pl3 (plO L k j true true false) noLoop plF plLp) 1 ⟨plT n a k p r u β, plH L G, (none, [])⟩).map (fun r => (r.1, maskQ plRs r.2.t, r.2.h, r.2.m.1, inter r.2.m.2)) = some (.ret, plR 101 fun _ => .bool true, plH L G ++ [⟨true, none, pL L (0 + j * 12)⟩], some 2, inter (plA L n a k j true)) := by kernel_rfl
theorem pl_Q (L : List Value) (G : AO) (n : Int) (a k j : Nat) (p r u : Value) (β : Nat → Value) : (loopN (bodyL Try.prog pl3 (plO L k j true false true) noLoop plF plLp) 1 ⟨plT n a k p r u β, plH L G, (none, [])⟩).map (fun r => (r.1, maskQ plRs r.2.t, r.2.h, r.2.m.1, inter r.2.m.2)) = some (.ret, plR 102 fun _ => .bool true, plH L G ++ [⟨true, none, pL L (0 + j * 12)⟩], some 2, inter (plA L n a k j false ++ plB L j true)) := by kernel_rfl
theorem pl_unN : ∀ β, unmask β 0 plNs (plN fun _ => .bool true) = plN β := fun β => rfl
theorem pl_unR (e : Int) : ∀ β, unmask β 0 plRs (plR e fun _ => .bool true) = plR e β := fun β => rfl
theorem Stop.toQ {c : Code} {n q : Nat} {t t' : List Value} {h h' : List AO} {e : Exit} {m : Mk} (a : Stop Try.prog c n t h e t' h' m) : StopQ Try.prog c n q t h e t' h' m :=
  fun wb k hm hkq s m0 act w H m' => rounds_mono (fun e' a'' w'' hp => ⟨hp.1, let ⟨s'', h3, h4⟩ := hp.2; ⟨s'', fun i p _ hp => h3 i p hp, h4⟩⟩) n act w (a wb k hm s m0 act w H m')
noncomputable def plG : Nat → Nat → List Value → Int
  | 0, _, _ => 0
  | m + 1, k, L => bif bitZ (pc L (k / 8 * 12)) k then 101 else bif ptK (pc L (k / 8 * 12 + 1)) then 102 else plG m (k + 1) L
noncomputable def plX (g : Int) (β : Nat → Value) : Exit × List Value := bif g == 0 then (.exit 0, plN β) else (.ret, plR g β)
theorem plA_ok {L : List Value} (h : OkS L) {n : Int} {a k : Nat} {z : Bool} (hn : 0 ≤ n) (hs : (a : Int) + n ≤ 512) (hk : (k : Int) < a + n) (hz : bitZ (pc L (k / 8 * 12)) k = z) : AE (plA L n a k (k / 8) z) := by
  have hj : k / 8 < 64 := by omega
  refine AE.app (AE.cons (b1 (by rw [wi_id (by omega) (by omega)]; exact hk)) (AE.cons ?_ (AE.cons (bt (jP_ok hj)) AE.nil))) (AE.app (ldP_ok (by rw [h.1]; omega) (h.plc hj)) (AE.cons (by rw [Nat.zero_add, hz]) AE.nil))
  have e : ((k : Int).tdiv 8) = ((k / 8 : Nat) : Int) := by
    rw [Int.tdiv_eq_ediv_of_nonneg (by omega)]
    rfl
  rw [e]
  exact wi_id (by omega) (by omega)
theorem plB_ok {L : List Value} {k : Nat} {q : Bool} (hq : ptK (pc L (k / 8 * 12 + 1)) = q) : AE (plB L (k / 8) q) := AE.cons (by rw [vAt_k, hq]) AE.nil
theorem plI_ok {k : Nat} (hk : k < 512) : AE (plI k) := by
  refine AE.cons ?_ AE.nil
  show wi ((k : Int) + 1) = ((k + 1 : Nat) : Int)
  rw [wi_id (by omega) (by omega)]
  omega
theorem plH_flat {L : List Value} (h : OkS L) (o : Nat) : flatH (plH L ⟨true, none, pL L o⟩) = true := by
  unfold flatH plH
  simp only [List.all_cons, List.all_nil, h.flats, Bool.and_true, Bool.true_and]
  rfl
theorem pl_rounds {L : List Value} (h : OkS L) {n : Int} {a : Nat} (hn : 0 ≤ n) (hs : (a : Int) + n ≤ 512) : ∀ (m k : Nat) (G : AO) (p r u : Value) (β : Nat → Value), ((k + m : Nat) : Int) = a + n → FlR 1 β →
    ∃ N β' H, StopQ Try.prog plLp N 1 (plT n a k p r u β) (plH L G) (plX (plG m k L) β').1 (plX (plG m k L) β').2 H (some 2, [])
  | 0, k, G, p, r, u, β, e, hβ => by
    obtain ⟨β', q⟩ := stopM_ok noNG pl3_ok noLoop_low (noLoop_ok _) pl_one pl_unN (pl_end L G n a k p r u β) (AE.cons (b0 (by rw [wi_id (by omega) (by omega)]; omega)) AE.nil)
    exact ⟨1, β', _, (Stop.toQ q).weak (bndW rfl)⟩
  | m + 1, k, G, p, r, u, β, e, hβ => by
    cases hz : bitZ (pc L (k / 8 * 12)) k with
    | true =>
      have eg : plG (m + 1) k L = 101 := by
        show (bif bitZ (pc L (k / 8 * 12)) k then _ else _) = _
        rw [hz]; rfl
      rw [eg]
      obtain ⟨β', q⟩ := stopM_ok noNG pl3_ok noLoop_low (noLoop_ok _) pl_one (pl_unR 101) (pl_Z L G n a k (k / 8) p r u β) (plA_ok h hn hs (by omega) hz)
      exact ⟨1, β', _, (Stop.toQ q).weak (bndW rfl)⟩
    | false =>
      cases hq : ptK (pc L (k / 8 * 12 + 1)) with
      | true =>
        have eg : plG (m + 1) k L = 102 := by
          show (bif bitZ (pc L (k / 8 * 12)) k then _ else bif ptK (pc L (k / 8 * 12 + 1)) then _ else _) = _
          rw [hz, hq]; rfl
        rw [eg]
        obtain ⟨β', q⟩ := stopM_ok noNG pl3_ok noLoop_low (noLoop_ok _) pl_one (pl_unR 102) (pl_Q L G n a k (k / 8) p r u β) (AE.app (plA_ok h hn hs (by omega) hz) (plB_ok hq))
        exact ⟨1, β', _, (Stop.toQ q).weak (bndW rfl)⟩
      | false =>
        have eg : plG (m + 1) k L = plG m (k + 1) L := by
          show (bif bitZ (pc L (k / 8 * 12)) k then _ else bif ptK (pc L (k / 8 * 12 + 1)) then _ else _) = _
          rw [hz, hq]; rfl
        rw [eg]
        obtain ⟨β1, f1, q1⟩ := hopF_ok noNG pl3_ok noLoop_low (noLoop_ok _) pl_one [2] (T := plT n a (k + 1) p1 p1 p11) (zs := plZ) (fun β => rfl) plC hβ (pl_hop L G n a k (k / 8) p r u β) rfl (plH_flat h _) (by decide) (by show 1 ≤ 2; decide) (by kernel_rfl) (by kernel_rfl)
          (AE.app (plA_ok h hn hs (by omega) hz) (AE.app (plB_ok hq) (plI_ok (by omega))))
        obtain ⟨N, β2, H, q2⟩ := pl_rounds h hn hs m (k + 1) ⟨true, none, pL L (0 + k / 8 * 12)⟩ p1 p1 p11 β1 (by omega) f1
        exact ⟨1 + N, β2, H, q1.stop q2 (fun _ _ h => h) (fun _ _ h => h)⟩
noncomputable def plB0 (L : List Value) (off n : Int) (a : Nat) (k : Nat) : Value := (plE0 L off n a).getD k (.bool true)
theorem plE_eq (L : List Value) (off n : Int) (a : Nat) : plT n a a (.tuple ⟨[]⟩) (.tuple ⟨[]⟩) (.tuple ⟨[]⟩) (plB0 L off n a) = plE0 L off n a := by kernel_rfl
theorem plB_fl {L : List Value} (h : OkS L) (off n : Int) (a : Nat) : FlR 1 (plB0 L off n a) := by
  intro k
  cases k with
  | zero => exact refF_flat 4 h.flat
  | succ k =>
    have e : (plE0 L off n a).tail.all (okR 1) = true := by kernel_rfl
    show okR 1 ((plE0 L off n a).tail.getD k (.bool true)) = true
    rw [List.getD_eq_getElem?_getD]
    cases g : (plE0 L off n a).tail[k]? with
    | none => rfl
    | some v => exact List.all_eq_true.1 e v (List.mem_of_getElem? g)
noncomputable def plQ (L : List Value) (off n : Int) (a : Nat) (g : Int) (β : Nat → Value) (H : List AO) : LoopQ := ⟨plF, 0, fun _ => true, plE0 L off n a, [⟨true, none, L⟩], (plX g β).1, (plX g β).2, H, (some 2, [])⟩
noncomputable def plEO (k : Bool) (a : Nat) : Orc := fun f t _ => if Nat.beq f plF then (if Nat.beq t 16 then some (.bool k) else if Nat.beq t 15 then (bif k then some (.int .i64 (a : Int)) else none) else none) else none
theorem pl_rA (L : List Value) (off n : Int) : reckonPI Try.prog pl3 (plEO false 0) noLoop 100000 300 [] plF [.agg ⟨L⟩, .int .i64 off, .int .i64 n] = some (.int .i64 181, inter [(b2i (fsK off n), 0)]) := by kernel_rfl
noncomputable def plP (L : List Value) (off n : Int) (a : Nat) : Cs := [(fsA off n, (a : Int)), (b2i (fsK off n), 1), prP (plE0 L off n a = plE0 L off n a), prP ([(⟨true, none, L⟩ : AO)] = [⟨true, none, L⟩])]
theorem pl_r0 (L : List Value) (off n : Int) (a : Nat) (β : Nat → Value) (H : List AO) : reckonPI Try.prog pl3 (plEO true a) (loopQHook [plQ L off n a 0 β H]) 100000 300 [] plF [.agg ⟨L⟩, .int .i64 off, .int .i64 n] = some (.int .i64 0, inter (plP L off n a)) := by kernel_rfl
theorem pl_r1 (L : List Value) (off n : Int) (a : Nat) (β : Nat → Value) (H : List AO) : reckonPI Try.prog pl3 (plEO true a) (loopQHook [plQ L off n a 101 β H]) 100000 300 [] plF [.agg ⟨L⟩, .int .i64 off, .int .i64 n] = some (.int .i64 101, inter (plP L off n a)) := by kernel_rfl
theorem pl_r2 (L : List Value) (off n : Int) (a : Nat) (β : Nat → Value) (H : List AO) : reckonPI Try.prog pl3 (plEO true a) (loopQHook [plQ L off n a 102 β H]) 100000 300 [] plF [.agg ⟨L⟩, .int .i64 off, .int .i64 n] = some (.int .i64 102, inter (plP L off n a)) := by kernel_rfl
/-- What Plain answers. -/
noncomputable def plS (L : List Value) (off n : Int) : Int := bif fsK off n then plG n.toNat (fsA off n).toNat L else 181
theorem plG_vals : ∀ (m k : Nat) (L : List Value), plG m k L = 0 ∨ plG m k L = 101 ∨ plG m k L = 102
  | 0, _, _ => .inl rfl
  | m + 1, k, L => by
    unfold plG
    cases bitZ (pc L (k / 8 * 12)) k with
    | true => exact .inr (.inl rfl)
    | false =>
      cases ptK (pc L (k / 8 * 12 + 1)) with
      | true => exact .inr (.inr rfl)
      | false => exact plG_vals m (k + 1) L
theorem fs_ok {off n : Int} (h : fsK off n = true) : 1 ≤ n ∧ n ≤ 512 ∧ -512 ≤ off ∧ off ≤ -n ∧ fsA off n = off + 512 := by
  have h3 := h
  unfold fsK at h
  simp only [Bool.and_eq_true, Bool.not_eq_true', decide_eq_false_iff_not] at h
  obtain ⟨h1, h2, h4, h5⟩ := h
  have en : IntKind.i64.wrap (0 - n) = -n := by
    have := wi_id (x := 0 - n) (by omega) (by omega)
    unfold wi at this
    rw [this]; omega
  rw [en] at h5
  refine ⟨by omega, by omega, by omega, by omega, ?_⟩
  unfold fsA
  rw [h3]
  show wi (off + 512) = _
  exact wi_id (by omega) (by omega)
theorem c_plain {L : List Value} (h : OkS L) (off n : Int) (w : World) : Calls Try.prog plF #[.agg ⟨L⟩, .int .i64 off, .int .i64 n] w fun e w' => e = .returned (.int .i64 (plS L off n)) ∧ Gr w w' := by
  have hf : ([.agg ⟨L⟩, .int .i64 off, .int .i64 n] : List Value).all flat = true := by
    show (flat (.agg ⟨L⟩) && true) = true
    rw [h.flat]
    rfl
  cases k0 : fsK off n with
  | false => exact rqv (by unfold plS; rw [k0]; rfl) (rq pl3_ok _ hf rfl (pl_rA L off n) (AE.cons (bf k0) AE.nil) w)
  | true =>
    obtain ⟨n1, n2, o1, o2, eA⟩ := fs_ok k0
    have ha : fsA off n = ((fsA off n).toNat : Int) := (Int.toNat_of_nonneg (by omega)).symm
    obtain ⟨N, β, H, s⟩ := pl_rounds h (n := n) (a := (fsA off n).toNat) (by omega) (by omega) n.toNat (fsA off n).toNat dead (.tuple ⟨[]⟩) (.tuple ⟨[]⟩) (.tuple ⟨[]⟩) (plB0 L off n (fsA off n).toNat) (by omega) (plB_fl h off n _)
    rw [plE_eq] at s
    have s2 : Stop Try.prog plLp N (plE0 L off n (fsA off n).toNat) [⟨true, none, L⟩] _ _ H (some 2, []) := (StopQ.pad 1 s).stop rfl
    have hp : AE (plP L off n (fsA off n).toNat) := AE.cons ha (AE.cons (bt k0) (AE.consP (prP_ok rfl) (AE.consP (prP_ok rfl) AE.nil)))
    have es : plS L off n = plG n.toNat (fsA off n).toNat L := by unfold plS; rw [k0]; rfl
    have hq : ∀ g, g = plG n.toNat (fsA off n).toNat L → ∀ e ∈ [plQ L off n (fsA off n).toNat g β H], LoopQOk Try.prog e := fun g hg e he => by
      rw [List.mem_singleton.1 he, hg]
      exact loopQ_ok (N := N) pl_one s2
    rcases plG_vals n.toNat (fsA off n).toNat L with g | g | g
    · exact rqv (by rw [es, g]) (rqL pl3_ok (hq 0 g.symm) _ hf rfl (pl_r0 L off n _ β H) hp w)
    · exact rqv (by rw [es, g]) (rqL pl3_ok (hq 101 g.symm) _ hf rfl (pl_r1 L off n _ β H) hp w)
    · exact rqv (by rw [es, g]) (rqL pl3_ok (hq 102 g.symm) _ hf rfl (pl_r2 L off n _ β H) hp w)
noncomputable def hkPlain : Hook := fun f args _ =>
  if Nat.beq f plF then
    match args with
    | [.agg ⟨L⟩, .int .i64 off, .int .i64 n] => some (.int .i64 (plS L off n), [prP (OkS L)])
    | _ => none
  else none
theorem hkPlain_ok : HookOk Try.prog hkPlain := by
  intro f args h v cs hv hc wb k s w H
  unfold hkPlain at hv
  split at hv
  · rename_i hf
    obtain rfl := Nat.eq_of_beq_eq_true hf
    split at hv
    · rename_i L off n
      cases hv
      exact c_plain (prP_of (hc _ (List.mem_singleton.2 rfl))) off n w
    · cases hv
  · cases hv
end Go.Proofs.Ytebolmfdglmpoaa.Ex
end
section
namespace Go.Proofs.Ytebolmfdglmpoaa.Ex
open Go Go.RowKit
set_option maxHeartbeats 0
set_option maxRecDepth 1000000
set_option linter.unusedVariables false
set_option linter.unusedSectionVars false
noncomputable def an64 (x y : Int) : Int := IntKind.u64.wrap ((BitVec.ofInt IntKind.u64.bits x &&& ~~~BitVec.ofInt IntKind.u64.bits y).toNat : Int)
/-- Does a number's mask have none of its bits? -/
noncomputable def selfT (t u : Int) : Bool := (an64 u u == 0) && (an64 t u == t)
noncomputable def scP (t u a b c d : Int) : Cs := [(b2i (an64 u u == 0), 1), (b2i (an64 t u == t), 1), (b2i (decide (a ≤ a)), 1), (b2i (decide (b ≤ b)), 1), (b2i (decide (c ≤ c)), 1), (b2i (decide (d ≤ d)), 1)]
theorem sc_run (t u a b c d : Int) : reckonPI Try.prog nh3 (oS [(57, 10, .bool true), (57, 19, .bool true), (58, 9, .bool true), (58, 15, .bool true), (58, 22, .bool true), (58, 29, .bool true)]) noLoop 100000 300 [] 52 [.agg ⟨[.int .u64 t, .int .u64 u, .int .u64 a, .int .u64 b, .int .i64 c, .int .i64 d]⟩, .agg ⟨[.int .u64 t, .int .u64 u, .int .u64 a, .int .u64 b, .int .i64 c, .int .i64 d]⟩] = some (.bool true, inter (scP t u a b c d)) := by kernel_rfl
theorem c_sci {t u : Int} (a b c d : Int) (h : selfT t u = true) (w : World) : Calls Try.prog 52 #[.agg ⟨[.int .u64 t, .int .u64 u, .int .u64 a, .int .u64 b, .int .i64 c, .int .i64 d]⟩, .agg ⟨[.int .u64 t, .int .u64 u, .int .u64 a, .int .u64 b, .int .i64 c, .int .i64 d]⟩] w fun e w' => e = .returned (.bool true) ∧ Gr w w' := by
  unfold selfT at h
  simp only [Bool.and_eq_true] at h
  exact rq nh3_ok _ rfl rfl (sc_run t u a b c d) (AE.cons (bt h.1) (AE.cons (bt h.2) (AE.cons (b1 (Int.le_refl _)) (AE.cons (b1 (Int.le_refl _)) (AE.cons (b1 (Int.le_refl _)) (AE.cons (b1 (Int.le_refl _)) AE.nil)))))) w
/-- A number lets in itself. -/
noncomputable def hkSci : Hook := fun f args _ =>
  if Nat.beq f 52 then
    match args with
    | [.agg ⟨[.int .u64 t, .int .u64 u, .int .u64 a, .int .u64 b, .int .i64 c, .int .i64 d]⟩, .agg ⟨[.int .u64 t', .int .u64 u', .int .u64 a', .int .u64 b', .int .i64 c', .int .i64 d']⟩] => some (.bool true, [prP ([t', u', a', b', c', d'] = [t, u, a, b, c, d]), (b2i (selfT t u), 1)])
    | _ => none
  else none
theorem hkSci_ok : HookOk Try.prog hkSci := by
  intro f args h v cs hv hc wb k s w H
  unfold hkSci at hv
  split at hv
  · rename_i hf
    obtain rfl := Nat.eq_of_beq_eq_true hf
    split at hv
    · rename_i t u a b c d t' u' a' b' c' d'
      cases hv
      have e := prP_of (hc _ (List.mem_cons_self ..))
      have h1 : selfT t u = true := b2i_inj (b := true) (hc _ (List.mem_cons_of_mem _ (List.mem_cons_self ..)))
      simp only [List.cons.injEq, and_true] at e
      obtain ⟨rfl, rfl, rfl, rfl, rfl, rfl⟩ := e
      exact c_sci a' b' c' d' h1 w
    · cases hv
  · cases hv
abbrev inF : FuncId := 11
noncomputable abbrev inLp : Code := theLoopN Try.prog inF 0
theorem in_one : oneLoopN Try.prog inF 0 = true := by kernel_rfl
noncomputable def in3 : Hook3 := or3 (liftG 52 hkSci) (liftG 34 hk_pts)
theorem in3_ok : HookOk3 Try.prog in3 := or3_ok (liftG_ok hkSci_ok) (liftG_ok hk_pts_ok)
/-- A round: 0: nothing is asked; 1: bytes, of which the other place has no address; 2: a number; 3: an address; 5: bytes that the other place has not. -/
noncomputable def inO (A B : List Value) (k cl : Nat) (g : Bool) : Orc := fun f t _ =>
  if Nat.beq f inF then
    match t with
    | 9 => some (.bool g)
    | 12 => some .nilIface
    | 13 => some (tld (.agg ⟨pL A (0 + k * 12)⟩))
    | 15 => some .nilIface
    | 16 => some (tld (.agg ⟨pL B (0 + k * 12)⟩))
    | 20 => some (.int .i64 ((k + 1 : Nat) : Int))
    | _ => none
  else if Nat.beq f 31 then
    match t with
    | 13 => some (.bool (Nat.beq cl 5))
    | 18 => some (.bool (Nat.beq cl 2 || Nat.beq cl 3))
    | 27 => some (.bool (Nat.beq cl 0))
    | 32 => some (.bool true)
    | _ => none
  else if Nat.beq f 49 then
    match t with
    | 10 => some (.bool false)
    | 16 => some (.bool false)
    | 20 => some (.bool (Nat.beq cl 2))
    | 31 => some (.bool false)
    | 37 => some (.bool false)
    | 44 => some (.bool false)
    | 57 => some (.bool false)
    | 61 => some (.bool false)
    | _ => none
  else none
noncomputable def inT (k : Nat) (β : Nat → Value) : List Value := [β 0, β 1, .map (some 0), .pointer (some ⟨1, 0, none⟩), .pointer (some ⟨2, 0, none⟩), β 5, β 6, β 7, .int .i64 (k : Int), β 9, β 10, β 11, β 12, β 13, β 14, β 15, β 16, β 17, β 18, β 19, β 20]
def inDs : List Bool := [true, true, false, false, false, true, true, true, false, true, true, true, true, true, true, true, true, true, true, true, true]
noncomputable def inH (M : AO) (A B : List Value) : List AO := [M, ⟨true, none, A⟩, ⟨true, none, B⟩]
noncomputable def an8 (x y : Int) : Int := IntKind.u8.wrap ((BitVec.ofInt IntKind.u8.bits x &&& ~~~BitVec.ofInt IntKind.u8.bits y).toNat : Int)
noncomputable def inJ (k : Nat) : Cs := [(b2i (decide (0 ≤ (k : Int)) && decide ((k : Int) < (64 : Nat))), 1)]
noncomputable def inA (A B : List Value) (k : Nat) (f : Bool) : Cs := [(b2i (decide ((k : Int) < 64)), 1)] ++ (inJ k ++ (ldP A (0 + k * 12) 12 (pL A (0 + k * 12)) ++ (inJ k ++ (ldP B (0 + k * 12) 12 (pL B (0 + k * 12)) ++ [(b2i (an8 (pc A (0 + k * 12)) (pc B (0 + k * 12)) != 0), b2i f)]))))
noncomputable def inC0 (b : Int) (v : VI) : Cs := [(b2i (v.k != 0), 0), (b2i (b == 0), 1)]
noncomputable def inC1 (b : Int) (v w : VI) : Cs := [(b2i (v.k != 0), 0), (b2i (b == 0), 0), (b2i !(ptK w.k), 1)]
noncomputable def inSc (v w : VI) : Cs := [prP ([w.t, w.u, w.a, w.b, w.c, w.d] = [v.t, v.u, v.a, v.b, v.c, v.d]), (b2i (selfT v.t v.u), 1)]
noncomputable def inC2 (v w : VI) : Cs := [(b2i (v.k != 0), 1), (b2i (v.k == 0), 0), (b2i (v.k != w.k), 0), (b2i (v.k == 1), 1)] ++ inSc v w
noncomputable def inC3 (v w : VI) : Cs := [(b2i (v.k != 0), 1), (b2i (v.k == 0), 0), (b2i (v.k != w.k), 0), (b2i (v.k == 1), 0), (b2i (v.m != w.m), 0), (b2i (v.o != w.o), 0), (b2i (decide (v.s > w.s)), 0)] ++ (inSc v w ++ [(b2i (v.k == 6), 0), (b2i (v.k == 7), 0)])
noncomputable def inI (k : Nat) : Cs := [(wi (k + 1), ((k + 1 : Nat) : Int))]
theorem in_h0 (M : AO) (A B : List Value) (k : Nat) (β : Nat → Value) : (iterB (bodyL Try.prog in3 (inO A B k 0 true) noLoop inF inLp) 1 ⟨inT k β, inH ⟨false, none, M.cs⟩ A B, (none, [])⟩).map (fun x => (maskQ inDs x.t, x.h, x.m.1, inter x.m.2)) = some (inT (k + 1) fun _ => .bool true, inH ⟨false, none, M.cs⟩ A B, none, inter (inA A B k false ++ (inC0 (pc A (0 + k * 12)) (vAt A (0 + k * 12 + 1)) ++ inI k))) := by kernel_rfl
theorem in_h1 (M : AO) (A B : List Value) (k : Nat) (β : Nat → Value) : (iterB (bodyL Try.prog in3 (inO A B k 1 true) noLoop inF inLp) 1 ⟨inT k β, inH ⟨false, none, M.cs⟩ A B, (none, [])⟩).map (fun x => (maskQ inDs x.t, x.h, x.m.1, inter x.m.2)) = some (inT (k + 1) fun _ => .bool true, inH ⟨false, none, M.cs⟩ A B, none, inter (inA A B k false ++ (inC1 (pc A (0 + k * 12)) (vAt A (0 + k * 12 + 1)) (vAt B (0 + k * 12 + 1)) ++ inI k))) := by kernel_rfl
theorem in_h2 (M : AO) (A B : List Value) (k : Nat) (β : Nat → Value) : (iterB (bodyL Try.prog in3 (inO A B k 2 true) noLoop inF inLp) 1 ⟨inT k β, inH ⟨false, none, M.cs⟩ A B, (none, [])⟩).map (fun x => (maskQ inDs x.t, x.h, x.m.1, inter x.m.2)) = some (inT (k + 1) fun _ => .bool true, inH ⟨false, none, M.cs⟩ A B, none, inter (inA A B k false ++ (inC2 (vAt A (0 + k * 12 + 1)) (vAt B (0 + k * 12 + 1)) ++ inI k))) := by kernel_rfl
theorem in_h3 (M : AO) (A B : List Value) (k : Nat) (β : Nat → Value) : (iterB (bodyL Try.prog in3 (inO A B k 3 true) noLoop inF inLp) 1 ⟨inT k β, inH ⟨false, none, M.cs⟩ A B, (none, [])⟩).map (fun x => (maskQ inDs x.t, x.h, x.m.1, inter x.m.2)) = some (inT (k + 1) fun _ => .bool true, inH ⟨false, none, M.cs⟩ A B, none, inter (inA A B k false ++ (inC3 (vAt A (0 + k * 12 + 1)) (vAt B (0 + k * 12 + 1)) ++ inI k))) := by kernel_rfl
noncomputable def inR (β : Nat → Value) : List Value := [β 0, β 1, β 2, β 3, β 4, β 5, .bool false, β 7, β 8, β 9, β 10, β 11, β 12, β 13, β 14, β 15, β 16, β 17, β 18, β 19, β 20]
def inRs : List Bool := (List.replicate 21 true).set 6 false
noncomputable def inN (β : Nat → Value) : List Value := [β 0, β 1, β 2, β 3, β 4, β 5, β 6, β 7, β 8, β 9, β 10, β 11, β 12, β 13, β 14, β 15, β 16, β 17, β 18, β 19, β 20]
def inNs : List Bool := List.replicate 21 true
theorem in_ret (M : AO) (A B : List Value) (k : Nat) (β : Nat → Value) : (loopN (bodyL Try.prog in3 (inO A B k 5 true) noLoop inF inLp) 1 ⟨inT k β, inH ⟨false, none, M.cs⟩ A B, (none, [])⟩).map (fun r => (r.1, maskQ inRs r.2.t, r.2.h, r.2.m.1, inter r.2.m.2)) = some (.ret, inR fun _ => .bool true, inH ⟨false, none, M.cs⟩ A B, none, inter (inA A B k true)) := by kernel_rfl
theorem in_end (M : AO) (A B : List Value) (β : Nat → Value) : (loopN (bodyL Try.prog in3 (inO A B 64 0 false) noLoop inF inLp) 1 ⟨inT 64 β, inH ⟨false, none, M.cs⟩ A B, (none, [])⟩).map (fun r => (r.1, maskQ inNs r.2.t, r.2.h, r.2.m.1, inter r.2.m.2)) = some (.exit 0, inN fun _ => .bool true, inH ⟨false, none, M.cs⟩ A B, none, inter [(b2i (decide (((64 : Nat) : Int) < 64)), 0)]) := by kernel_rfl
end Go.Proofs.Ytebolmfdglmpoaa.Ex
end
section
namespace Go.Proofs.Ytebolmfdglmpoaa.Ex
open Go Go.RowKit
set_option maxHeartbeats 0
set_option maxRecDepth 1000000
set_option linter.unusedVariables false
set_option linter.unusedSectionVars false
theorem an64_self (x : Int) : an64 x x = 0 := by
  unfold an64
  have e : (BitVec.ofInt IntKind.u64.bits x &&& ~~~BitVec.ofInt IntKind.u64.bits x) = 0#IntKind.u64.bits := by
    apply BitVec.eq_of_getLsbD_eq
    intro i hi
    simp
  rw [e]
  rfl
theorem an8_self (x : Int) : an8 x x = 0 := by
  unfold an8
  have e : (BitVec.ofInt IntKind.u8.bits x &&& ~~~BitVec.ofInt IntKind.u8.bits x) = 0#IntKind.u8.bits := by
    apply BitVec.eq_of_getLsbD_eq
    intro i hi
    simp
  rw [e]
  rfl
theorem an8_zero (y : Int) : an8 0 y = 0 := by
  unfold an8
  have e : (BitVec.ofInt IntKind.u8.bits 0 &&& ~~~BitVec.ofInt IntKind.u8.bits y) = 0#IntKind.u8.bits := by
    apply BitVec.eq_of_getLsbD_eq
    intro i hi
    simp
  rw [e]
  rfl
/-- A value that lets in itself. -/
def selfP (v : VI) : Prop := v.k = 0 ∨ (v.k ≠ 6 ∧ v.k ≠ 7 ∧ selfT v.t v.u = true)
/-- A place lets in another one: it has nothing; or they are the same. -/
def inRt (A B : List Value) (k : Nat) : Prop := (pc A (0 + k * 12) = 0 ∧ (vAt A (0 + k * 12 + 1)).k = 0) ∨ (pc A (0 + k * 12) = pc B (0 + k * 12) ∧ vAt A (0 + k * 12 + 1) = vAt B (0 + k * 12 + 1) ∧ selfP (vAt A (0 + k * 12 + 1)))
def inRf (A B : List Value) (k : Nat) : Prop := an8 (pc A (0 + k * 12)) (pc B (0 + k * 12)) ≠ 0
theorem inA_ok {A B : List Value} (ha : OkS A) (hb : OkS B) {k : Nat} (hk : k < 64) {f : Bool} (h : (an8 (pc A (0 + k * 12)) (pc B (0 + k * 12)) != 0) = f) : AE (inA A B k f) := by
  have hj : AE (inJ k) := AE.cons (bt (jP_ok hk)) AE.nil
  exact AE.app (AE.cons (b1 (by omega)) AE.nil) (AE.app hj (AE.app (ldP_ok (by rw [ha.1]; omega) (ha.plc hk)) (AE.app hj (AE.app (ldP_ok (by rw [hb.1]; omega) (hb.plc hk)) (AE.cons (by rw [h]) AE.nil)))))
theorem inI_ok {k : Nat} (hk : k < 512) : AE (inI k) := by
  refine AE.cons ?_ AE.nil
  show wi ((k : Int) + 1) = ((k + 1 : Nat) : Int)
  rw [wi_id (by omega) (by omega)]
  omega
theorem in_un (k : Nat) : ∀ β, unmask β 0 inDs (inT k fun _ => .bool true) = inT k β := fun β => rfl
theorem in_unR : ∀ β, unmask β 0 inRs (inR fun _ => .bool true) = inR β := fun β => rfl
theorem in_unN : ∀ β, unmask β 0 inNs (inN fun _ => .bool true) = inN β := fun β => rfl
theorem bne_f {a b : Int} (h : a = b) : (a != b) = false := by rw [h]; simp
theorem bne_t {a b : Int} (h : a ≠ b) : (a != b) = true := by simpa using h
theorem beq_t {a b : Int} (h : a = b) : (a == b) = true := by rw [h]; simp
theorem beq_f {a b : Int} (h : a ≠ b) : (a == b) = false := by simpa using h
theorem in_step {A B : List Value} (ha : OkS A) (hb : OkS B) {k : Nat} (hk : k < 64) (M : AO) (β : Nat → Value) (h : inRt A B k) : ∃ β', Hop Try.prog inLp 1 (inT k β) (inH ⟨false, none, M.cs⟩ A B) (inT (k + 1) β') (inH ⟨false, none, M.cs⟩ A B) (none, []) := by
  have hI := inI_ok (k := k) (by omega)
  have go0 : pc A (0 + k * 12) = 0 → (vAt A (0 + k * 12 + 1)).k = 0 → an8 (pc A (0 + k * 12)) (pc B (0 + k * 12)) = 0 → ∃ β', Hop Try.prog inLp 1 (inT k β) (inH ⟨false, none, M.cs⟩ A B) (inT (k + 1) β') (inH ⟨false, none, M.cs⟩ A B) (none, []) := fun h1 h2 h3 =>
    hopM_ok noNG in3_ok noLoop_low (noLoop_ok _) in_one (in_un (k + 1)) (in_h0 M A B k β) (AE.app (inA_ok ha hb hk (bne_f h3)) (AE.app (AE.cons (bf (bne_f h2)) (AE.cons (bt (beq_t h1)) AE.nil)) hI))
  rcases h with ⟨h1, h2⟩ | ⟨h1, h2, h3⟩
  · exact go0 h1 h2 (by rw [h1]; exact an8_zero _)
  · have e8 : an8 (pc A (0 + k * 12)) (pc B (0 + k * 12)) = 0 := by rw [h1]; exact an8_self _
    by_cases c0 : (vAt A (0 + k * 12 + 1)).k = 0
    · by_cases b0' : pc A (0 + k * 12) = 0
      · exact go0 b0' c0 e8
      · refine hopM_ok noNG in3_ok noLoop_low (noLoop_ok _) in_one (in_un (k + 1)) (in_h1 M A B k β) (AE.app (inA_ok ha hb hk (bne_f e8)) (AE.app (AE.cons (bf (bne_f c0)) (AE.cons (bf (beq_f b0')) (AE.cons (bt ?_) AE.nil))) hI))
        rw [← h2, c0]
        rfl
    · rcases h3 with h3 | ⟨h6, h7, hs⟩
      · exact absurd h3 c0
      · have sc : AE (inSc (vAt A (0 + k * 12 + 1)) (vAt B (0 + k * 12 + 1))) := AE.consP (prP_ok (by rw [h2])) (AE.cons (bt hs) AE.nil)
        by_cases c1 : (vAt A (0 + k * 12 + 1)).k = 1
        · exact hopM_ok noNG in3_ok noLoop_low (noLoop_ok _) in_one (in_un (k + 1)) (in_h2 M A B k β) (AE.app (inA_ok ha hb hk (bne_f e8)) (AE.app (AE.app (AE.cons (bt (bne_t c0)) (AE.cons (bf (beq_f c0)) (AE.cons (bf (bne_f (by rw [h2]))) (AE.cons (bt (beq_t c1)) AE.nil)))) sc) hI))
        · exact hopM_ok noNG in3_ok noLoop_low (noLoop_ok _) in_one (in_un (k + 1)) (in_h3 M A B k β) (AE.app (inA_ok ha hb hk (bne_f e8)) (AE.app (AE.app (AE.cons (bt (bne_t c0)) (AE.cons (bf (beq_f c0)) (AE.cons (bf (bne_f (by rw [h2]))) (AE.cons (bf (beq_f c1))
            (AE.cons (bf (bne_f (by rw [h2]))) (AE.cons (bf (bne_f (by rw [h2]))) (AE.cons (b0 (by rw [h2]; omega)) AE.nil))))))) (AE.app sc (AE.cons (bf (beq_f h6)) (AE.cons (bf (beq_f h7)) AE.nil)))) hI))
theorem in_rounds {A B : List Value} (ha : OkS A) (hb : OkS B) (M : AO) : ∀ (d k : Nat) (β : Nat → Value), k + d ≤ 64 → (∀ j, k ≤ j → j < k + d → inRt A B j) → ∃ β', Hop Try.prog inLp d (inT k β) (inH ⟨false, none, M.cs⟩ A B) (inT (k + d) β') (inH ⟨false, none, M.cs⟩ A B) (none, [])
  | 0, k, β, _, _ => ⟨β, Hop.zero _ _ _⟩
  | d + 1, k, β, hk, h => by
    obtain ⟨β1, q1⟩ := in_step ha hb (k := k) (by omega) M β (h k (Nat.le_refl _) (by omega))
    obtain ⟨β2, q2⟩ := in_rounds ha hb M d (k + 1) β1 (by omega) fun j h1 h2 => h j (by omega) (by omega)
    refine ⟨β2, ?_⟩
    rw [show k + (d + 1) = k + 1 + d by omega, show d + 1 = 1 + d by omega]
    exact q1.trans q2 (fun _ h => h) (fun _ h => h)
noncomputable def inE (A B : List Value) : List Value := [.agg ⟨A⟩, .agg ⟨B⟩, .map (some 0), .pointer (some ⟨1, 0, none⟩), .pointer (some ⟨2, 0, none⟩), .tuple ⟨[]⟩, .bool false, .tuple ⟨[]⟩, .int .i64 0, .tuple ⟨[]⟩, .tuple ⟨[]⟩, .tuple ⟨[]⟩, .tuple ⟨[]⟩, .tuple ⟨[]⟩, .tuple ⟨[]⟩, .tuple ⟨[]⟩, .tuple ⟨[]⟩, .tuple ⟨[]⟩, .tuple ⟨[]⟩, .tuple ⟨[]⟩, .tuple ⟨[]⟩]
theorem inE_eq (A B : List Value) : inT 0 (fun k => (inE A B).getD k (.bool true)) = inE A B := by kernel_rfl
noncomputable def inQ (A B : List Value) (e : Exit) (t : List Value) : LoopQ := ⟨inF, 0, fun _ => true, inE A B, inH dead A B, e, t, inH dead A B, (none, [])⟩
noncomputable def inP (A B : List Value) : Cs := [prP (inE A B = inE A B), prP (inH dead A B = inH dead A B)]
theorem in_rt (A B : List Value) (β : Nat → Value) : reckonQI Try.prog in3 noOrc (loopQHook [inQ A B (.exit 0) (inN β)]) 100000 300 [dead] inF [.agg ⟨A⟩, .agg ⟨B⟩, .map (some 0)] = some (.bool true, inter (inP A B)) := by kernel_rfl
theorem in_rf (A B : List Value) (β : Nat → Value) : reckonQI Try.prog in3 noOrc (loopQHook [inQ A B .ret (inR β)]) 100000 300 [dead] inF [.agg ⟨A⟩, .agg ⟨B⟩, .map (some 0)] = some (.bool false, inter (inP A B)) := by kernel_rfl
theorem inP_ok (A B : List Value) : AE (inP A B) := AE.consP (prP_ok rfl) (AE.consP (prP_ok rfl) AE.nil)
section
variable {A B : List Value} (ha : OkS A) (hb : OkS B)
include ha hb
theorem in_lr {w : World} (b : Nat) : LR (upd (placeG [] w) 0 ⟨b, 0, 0, none⟩) [.agg ⟨A⟩, .agg ⟨B⟩, .map (some 0)] [.agg ⟨A⟩, .agg ⟨B⟩, .map (some b)] :=
  LR.cons (.same ha.flat) (LR.cons (.same hb.flat) (LR.cons (VR.map (p := ⟨b, 0, 0, none⟩) (upd_same _ _ _)) (LR.nil _)))
theorem c_inT (h : ∀ j, j < 64 → inRt A B j) {w : World} {b : Nat} (hbl : b < w.heap.size) : Calls Try.prog inF #[.agg ⟨A⟩, .agg ⟨B⟩, .map (some b)] w fun e w' => e = .returned (.bool true) ∧ Gr w w' := by
  obtain ⟨β1, q1⟩ := in_rounds ha hb dead 64 0 (fun k => (inE A B).getD k (.bool true)) (by omega) fun j _ h2 => h j (by omega)
  obtain ⟨β2, q2⟩ := stopM_ok noNG in3_ok noLoop_low (noLoop_ok _) in_one in_unN (in_end dead A B β1) (AE.cons (b0 (by decide)) AE.nil)
  rw [inE_eq] at q1
  have s := q1.stop' (m3 := (none, [])) q2 (fun _ h => h) (fun _ h => h)
  exact reckonQ_ok noNG in3_ok (loopQHook_low _) (loopQHook_ok fun e he => by rw [List.mem_singleton.1 he]; exact loopQ_ok in_one s) _ _ _ _ rfl (in_rt A B β2) (inP_ok A B)
    (HR.withPl (h0 := []) (pl := ⟨b, 0, 0, none⟩) (Laid.nil w) hbl (by intro h; cases h)) (in_lr ha hb b)
theorem c_inF {j : Nat} (hj : j < 64) (h : ∀ i, i < j → inRt A B i) (hf : inRf A B j) {w : World} {b : Nat} (hbl : b < w.heap.size) : Calls Try.prog inF #[.agg ⟨A⟩, .agg ⟨B⟩, .map (some b)] w fun e w' => e = .returned (.bool false) ∧ Gr w w' := by
  obtain ⟨β1, q1⟩ := in_rounds ha hb dead j 0 (fun k => (inE A B).getD k (.bool true)) (by omega) fun i _ h2 => h i (by omega)
  rw [Nat.zero_add] at q1
  obtain ⟨β2, q2⟩ := stopM_ok noNG in3_ok noLoop_low (noLoop_ok _) in_one in_unR (in_ret dead A B j β1) (inA_ok ha hb hj (bne_t hf))
  rw [inE_eq] at q1
  have s := q1.stop' (m3 := (none, [])) q2 (fun _ h => h) (fun _ h => h)
  exact reckonQ_ok noNG in3_ok (loopQHook_low _) (loopQHook_ok fun e he => by rw [List.mem_singleton.1 he]; exact loopQ_ok in_one s) _ _ _ _ rfl (in_rf A B β2) (inP_ok A B)
    (HR.withPl (h0 := []) (pl := ⟨b, 0, 0, none⟩) (Laid.nil w) hbl (by intro h; cases h)) (in_lr ha hb b)
end
/-- Does a stack let in another one? -/
noncomputable def inB (A B : List Value) : Bool := @decide (∀ j, j < 64 → inRt A B j) (Classical.propDecidable _)
noncomputable def hkIn : Hook := fun f args _ =>
  if Nat.beq f inF then
    match args with
    | [.agg ⟨A⟩, .agg ⟨B⟩, .map (some _)] => some (.bool (inB A B), [prP (OkS A ∧ OkS B ∧ (inB A B = true ∨ ∃ j, j < 64 ∧ (∀ i, i < j → inRt A B i) ∧ inRf A B j))])
    | _ => none
  else none
theorem inB_t {A B : List Value} (h : ∀ j, j < 64 → inRt A B j) : inB A B = true := @decide_eq_true _ (Classical.propDecidable _) h
theorem inB_of {A B : List Value} (h : inB A B = true) : ∀ j, j < 64 → inRt A B j := @of_decide_eq_true _ (Classical.propDecidable _) h
theorem inB_f {A B : List Value} {j : Nat} (hj : j < 64) (h : inRf A B j) : inB A B = false := by
  cases e : inB A B with
  | false => rfl
  | true =>
    exfalso
    rcases inB_of e j hj with ⟨h1, h2⟩ | ⟨h1, h2, h3⟩
    · exact h (by rw [h1]; exact an8_zero _)
    · exact h (by rw [h1]; exact an8_self _)
theorem hkIn_ok : HookOk2 Try.prog hkIn := by
  intro f args h v cs hv hc wb k s w args' H hl
  unfold hkIn at hv
  split at hv
  · rename_i hf
    obtain rfl := Nat.eq_of_beq_eq_true hf
    split at hv
    · rename_i A B i
      cases hv
      obtain ⟨ha, hb, hd⟩ := prP_of (hc _ (List.mem_singleton.2 rfl))
      match args', hl with
      | [x, y, z], hl =>
        obtain ⟨hx, hl⟩ := hl.uncons
        obtain ⟨hy, hl⟩ := hl.uncons
        obtain ⟨hz, _⟩ := hl.uncons
        obtain rfl := hx.eq_of_flat ha.flat
        obtain rfl := hy.eq_of_flat hb.flat
        obtain ⟨p, hp, rfl⟩ := hz.map_inv
        have hbl := (H.plc _ _ hp).2.2
        cases e : inB A B with
        | true => exact c_inT ha hb (inB_of e) hbl
        | false =>
          rcases hd with hd | ⟨j, hj, h1, h2⟩
          · rw [e] at hd; cases hd
          · exact c_inF ha hb hj h1 h2 hbl
      | [], hl => exact absurd hl.1 (by simp)
      | [_], hl => exact absurd hl.1 (by simp)
      | [_, _], hl => exact absurd hl.1 (by simp)
      | _ :: _ :: _ :: _ :: _, hl => exact absurd hl.1 (by simp)
    · cases hv
  · cases hv
end Go.Proofs.Ytebolmfdglmpoaa.Ex
end
section
namespace Go.Proofs.Ytebolmfdglmpoaa.Ex
open Go Go.RowKit
set_option maxHeartbeats 0
set_option maxRecDepth 1000000
set_option linter.unusedVariables false
set_option linter.unusedSectionVars false
abbrev ldF : FuncId := 15
noncomputable def ldO (S : List Value) (a j : Nat) (q z : Bool) : Orc := fun f t _ =>
  if Nat.beq f ldF then
    match t with
    | 16 => some (.int .i64 (a : Int))
    | 17 => some (.bool true)
    | 22 => some (.int .i64 (j : Int))
    | 23 => some .nilIface
    | 25 => some (tld (.agg ⟨vL (vAt S (0 + j * 12 + 1))⟩))
    | 29 => some (.bool true)
    | 32 => some (.bool q)
    | 35 => some (tld (.agg ⟨S⟩))
    | 40 => some (.bool z)
    | _ => none
  else none
noncomputable def ld3 : Hook3 := or3 (liftG 32 hk_word) (or3 (liftG 33 hk_isP) (liftP hkPlain))
theorem ld3_ok : HookOk3 Try.prog ld3 := or3_ok (liftG_ok hk_word_ok) (or3_ok (liftG_ok hk_isP_ok) (liftP_ok hkPlain_ok))
def anyV : VI := ⟨1, 0, 0, 0, 0, 0, 18446744073709551615, 0, 18446744073709551615, -9223372036854775808, 9223372036854775807⟩
noncomputable def ldA (S : List Value) (off : Int) (a j : Nat) (q : Bool) : Cs := [(wdA off 8, (a : Int)), (b2i (wdK off 8), 1), (wi ((a : Int).tdiv 8), (j : Int)), (b2i (decide (0 ≤ (j : Int)) && decide ((j : Int) < (64 : Nat))), 1)] ++ (ldP S (0 + j * 12 + 1) 11 (vL (vAt S (0 + j * 12 + 1))) ++ [(b2i (isP a 8), 1), (b2i ((vAt S (0 + j * 12 + 1)).k != 0), b2i q)])
noncomputable def ldB (S : List Value) (off : Int) (z : Bool) : Cs := ldP S 0 768 S ++ [(b2i (([.agg ⟨S⟩, .int .i64 off, .int .i64 8] : List Value).all flat && flat (.int .i64 (plS S off 8))), 1), prP (OkS S), (b2i (plS S off 8 != 0), b2i z)]
theorem ld_K (S : List Value) (off : Int) (a j : Nat) : reckonPI Try.prog ld3 (ldO S a j true false) noLoop 100000 300 [] ldF [.agg ⟨S⟩, .int .i64 off, .int .i64 8] = some (.tuple ⟨[.agg ⟨vL (vAt S (0 + j * 12 + 1))⟩, .int .i64 0]⟩, inter (ldA S off a j true)) := by kernel_rfl
theorem ld_E (S : List Value) (off : Int) (a j : Nat) : reckonPI Try.prog ld3 (ldO S a j false true) noLoop 100000 300 [] ldF [.agg ⟨S⟩, .int .i64 off, .int .i64 8] = some (.tuple ⟨[.agg ⟨vL zV⟩, .int .i64 (plS S off 8)]⟩, inter (ldA S off a j false ++ ldB S off true)) := by kernel_rfl
theorem ld_N (S : List Value) (off : Int) (a j : Nat) : reckonPI Try.prog ld3 (ldO S a j false false) noLoop 100000 300 [] ldF [.agg ⟨S⟩, .int .i64 off, .int .i64 8] = some (.tuple ⟨[.agg ⟨vL anyV⟩, .int .i64 0]⟩, inter (ldA S off a j false ++ ldB S off false)) := by kernel_rfl
/-- What is loaded from a place. -/
noncomputable def ldV (S : List Value) (off : Int) (j : Nat) : VI := bif (vAt S (0 + j * 12 + 1)).k != 0 then vAt S (0 + j * 12 + 1) else bif plS S off 8 != 0 then zV else anyV
noncomputable def ldE (S : List Value) (off : Int) (j : Nat) : Int := bif (vAt S (0 + j * 12 + 1)).k != 0 then 0 else plS S off 8
theorem at_ok {off : Int} {j : Nat} (hj : j < 64) (ho : off = (j : Int) * 8 - 512) : wdK off 8 = true ∧ wdA off 8 = ((j * 8 : Nat) : Int) ∧ isP ((j * 8 : Nat) : Int) 8 = true ∧ fsK off 8 = true ∧ fsA off 8 = ((j * 8 : Nat) : Int) := by
  have k0 : fsK off 8 = true := by
    unfold fsK
    rw [neg_id (by decide) (by decide)]
    simp only [Bool.and_eq_true, Bool.not_eq_true', decide_eq_false_iff_not]
    omega
  have k1 : wdK off 8 = true := by unfold wdK; rw [k0]; rfl
  have k2 := (wd_ok k1).2.2.2
  have k3 := (fs_ok k0).2.2.2.2
  refine ⟨k1, by omega, ?_, k0, by omega⟩
  unfold isP
  rw [Int.tmod_eq_emod_of_nonneg (by omega), show ((j * 8 : Nat) : Int) % 8 = 0 by omega]
  rfl
theorem c_load {S : List Value} (h : OkS S) {off : Int} {j : Nat} (hj : j < 64) (ho : off = (j : Int) * 8 - 512) (w : World) : Calls Try.prog ldF #[.agg ⟨S⟩, .int .i64 off, .int .i64 8] w fun e w' => e = .returned (.tuple ⟨[.agg ⟨vL (ldV S off j)⟩, .int .i64 (ldE S off j)]⟩) ∧ Gr w w' := by
  obtain ⟨h1, h2, h3, h4, h5⟩ := at_ok hj ho
  have hf : ([.agg ⟨S⟩, .int .i64 off, .int .i64 8] : List Value).all flat = true := by
    show (flat (.agg ⟨S⟩) && true) = true
    rw [h.flat]
    rfl
  have hA : ∀ {q : Bool}, ((vAt S (0 + j * 12 + 1)).k != 0) = q → AE (ldA S off (j * 8) j q) := fun hq => by
    refine AE.app (AE.cons h2 (AE.cons (bt h1) (AE.cons ?_ (AE.cons (bt (jP_ok hj)) AE.nil)))) (AE.app (ldP_ok (by rw [h.1]; omega) (h.val hj)) (AE.cons (bt h3) (AE.cons (by rw [hq]) AE.nil)))
    rw [Int.tdiv_eq_ediv_of_nonneg (by omega), wi_id (by omega) (by omega)]
    omega
  have hB : ∀ {z : Bool}, (plS S off 8 != 0) = z → AE (ldB S off z) := fun hz =>
    AE.app (ldP_ok (by rw [h.1]; omega) h.whole) (AE.cons (bt (by rw [hf]; rfl)) (AE.consP (prP_ok h) (AE.cons (by rw [hz]) AE.nil)))
  cases q : ((vAt S (0 + j * 12 + 1)).k != 0) with
  | true => exact rqv (by unfold ldV ldE; rw [q]; rfl) (rq ld3_ok _ hf rfl (ld_K S off (j * 8) j) (hA q) w)
  | false =>
    cases z : (plS S off 8 != 0) with
    | true => exact rqv (by unfold ldV ldE; rw [q, z]; rfl) (rq ld3_ok _ hf rfl (ld_E S off (j * 8) j) (AE.app (hA q) (hB z)) w)
    | false =>
      have e0 : plS S off 8 = 0 := by simpa using z
      exact rqv (by unfold ldV ldE; rw [q, e0]; rfl) (rq ld3_ok _ hf rfl (ld_N S off (j * 8) j) (AE.app (hA q) (hB z)) w)
noncomputable def hkLoad : Hook := fun f args _ =>
  if Nat.beq f ldF then
    match args with
    | [.agg ⟨S⟩, .int .i64 off, .int .i64 n] => some (.tuple ⟨[.agg ⟨vL (ldV S off ((off + 512).toNat / 8))⟩, .int .i64 (ldE S off ((off + 512).toNat / 8))]⟩, [prP (OkS S ∧ n = 8 ∧ ∃ j, j < 64 ∧ off = ((j : Nat) : Int) * 8 - 512)])
    | _ => none
  else none
theorem hkLoad_ok : HookOk Try.prog hkLoad := by
  intro f args h v cs hv hc wb k s w H
  unfold hkLoad at hv
  split at hv
  · rename_i hf
    obtain rfl := Nat.eq_of_beq_eq_true hf
    split at hv
    · rename_i S off n
      cases hv
      obtain ⟨h1, rfl, j, hj, ho⟩ := prP_of (hc _ (List.mem_singleton.2 rfl))
      have e : (off + 512).toNat / 8 = j := by omega
      rw [e]
      exact c_load h1 hj ho w
    · cases hv
  · cases hv
end Go.Proofs.Ytebolmfdglmpoaa.Ex
end
section
namespace Go.Proofs.Ytebolmfdglmpoaa.Ex
open Go Go.RowKit
set_option maxHeartbeats 0
set_option maxRecDepth 1000000
set_option linter.unusedVariables false
set_option linter.unusedSectionVars false
noncomputable def si3z : Hook3 := or3 (liftQ hkIn) (or3 (liftP hkStore) (or3 (liftP hkLoad) (liftG 9 hkPiled)))
theorem si3z_ok : HookOk3 Try.prog si3z := or3_ok (liftQ_ok hkIn_ok) (or3_ok (liftP_ok hkStore_ok) (or3_ok (liftP_ok hkLoad_ok) (liftG_ok hkPiled_ok)))
noncomputable def si3 : Hook3 := or3 (liftQ hkStored) si3z
theorem si3_ok : HookOk3 Try.prog si3 := or3_ok (liftQ_ok hkStored_ok) si3z_ok
noncomputable def siO (g nz : Bool) (k : Nat) (off : Int) (S X : List Value) : Orc := fun f t _ =>
  if Nat.beq f 3 then
    match t with
    | 13 => some (.bool g)
    | 17 => some (tld (.agg ⟨S⟩))
    | 18 => some (tld (.agg ⟨S⟩))
    | 21 => some (.bool false)
    | 24 => some (tld (.agg ⟨S⟩))
    | 27 => some (.bool false)
    | 31 => some (.int .i64 (k : Int))
    | 33 => some (.int .i64 off)
    | 35 => some (tld (.agg ⟨S⟩))
    | 39 => some (.tuple ⟨[.nilIface, .nilIface, .nilIface]⟩)
    | 43 => some (.bool false)
    | 45 => some (tld (.agg ⟨S⟩))
    | 51 => some (.bool nz)
    | 53 => some (tld (.agg ⟨X⟩))
    | 54 => some (tld (.agg ⟨S⟩))
    | 57 => some (.bool true)
    | 60 => some (tld (.agg ⟨X⟩))
    | 61 => some (tld (.agg ⟨X⟩))
    | 64 => some (.bool true)
    | t => if Nat.beq t 2000005 then some (tld (.agg ⟨S⟩)) else if Nat.beq t 2000007 then some (tld (.agg ⟨X⟩)) else none
  else none
noncomputable def inPr (A B : List Value) : Cs := [prP (OkS A ∧ OkS B ∧ (inB A B = true ∨ ∃ j, j < 64 ∧ (∀ i, i < j → inRt A B i) ∧ inRf A B j))]
noncomputable def siA (S : List Value) (pre : Cs) : Cs := pre ++ (stX zS 0 768 S S ++ (ldP S 0 768 S ++ (ldP S 0 768 S ++ ([(1, 1)] ++ (inPr S S ++ ([(b2i !(inB S S), 0)] ++ (ldP S 0 768 S ++ ([(1, 1)] ++ (inPr zS S ++ [(b2i !(inB zS S), 0)])))))))))
noncomputable def siB (S : List Value) (pl : Int) (k : Nat) (off : Int) : Cs := [((wi pl).tmod 64, (k : Int)), (wi (-8 - wi (8 * k)), off)] ++ (ldP S 0 768 S ++ (stFl S off 8 anyV ++ (stFl S off 8 anyV ++ ([prP (OkS S)] ++ (stX zS 0 768 (stS S off 8 anyV).1 (stS S off 8 anyV).1 ++ [(b2i ((stS S off 8 anyV).2 != 0), 0)])))))
noncomputable def siC (S : List Value) (off : Int) (nz : Bool) : Cs := ldP S 0 768 S ++ [(b2i (([.agg ⟨S⟩, .int .i64 off, .int .i64 8] : List Value).all flat && flat (.tuple ⟨[.agg ⟨vL (ldV S off ((off + 512).toNat / 8))⟩, .int .i64 (ldE S off ((off + 512).toNat / 8))]⟩)), 1), prP (OkS S ∧ (8 : Int) = 8 ∧ ∃ j, j < 64 ∧ off = ((j : Nat) : Int) * 8 - 512), (b2i (ldE S off ((off + 512).toNat / 8) != 101), b2i nz)]
noncomputable def siD (S X : List Value) : Cs := ldP X 0 768 X ++ (ldP S 0 768 S ++ ([(1, 1)] ++ (inPr X S ++ [(b2i !(inB X S), 1)])))
noncomputable def siE (X : List Value) : Cs := ldP X 0 768 X ++ (ldP X 0 768 X ++ ([(1, 1)] ++ (inPr X X ++ [(b2i (inB X X), 1)])))
noncomputable def siL (cs : List Value) (n : Nat) : Cs := [(b2i (decide ((n : Int) > 60)), 0), (b2i (flat (.agg ⟨sdS cs n⟩)), 1), prP (OkA cs n), (b2i (decide (n ≤ 1000) && decide (1 ≤ n)), 1)]
def si0 : Cs := [(b2i (decide ((0 : Int) > 60)), 0)]
theorem si_Lt (cs : List Value) (n c : Nat) (pl : Int) (k : Nat) (off : Int) : reckonQI Try.prog si3 (siO false true k off (sdS cs n) (stS (sdS cs n) off 8 anyV).1) noLoop 100000 300 [⟨true, none, cs⟩] 3 [.slice (some ⟨0, 0, none⟩) n c, .int .u8 pl] = some (.bool true, inter (siA (sdS cs n) (siL cs n) ++ (siB (sdS cs n) pl k off ++ (siC (sdS cs n) off true ++ (siE (stS (sdS cs n) off 8 anyV).1))))) := by kernel_rfl
theorem si_Lf (cs : List Value) (n c : Nat) (pl : Int) (k : Nat) (off : Int) : reckonQI Try.prog si3 (siO false false k off (sdS cs n) (stS (sdS cs n) off 8 anyV).1) noLoop 100000 300 [⟨true, none, cs⟩] 3 [.slice (some ⟨0, 0, none⟩) n c, .int .u8 pl] = some (.bool true, inter (siA (sdS cs n) (siL cs n) ++ (siB (sdS cs n) pl k off ++ (siC (sdS cs n) off false ++ (siD (sdS cs n) (stS (sdS cs n) off 8 anyV).1 ++ siE (stS (sdS cs n) off 8 anyV).1))))) := by kernel_rfl
theorem si_Zt (pl : Int) (k : Nat) (off : Int) : reckonQI Try.prog si3z (siO false true k off zS (stS zS off 8 anyV).1) noLoop 100000 300 [dead] 3 [.slice (some ⟨0, 0, none⟩) 0 0, .int .u8 pl] = some (.bool true, inter (siA zS si0 ++ (siB zS pl k off ++ (siC zS off true ++ (siE (stS zS off 8 anyV).1))))) := by kernel_rfl
theorem si_Zf (pl : Int) (k : Nat) (off : Int) : reckonQI Try.prog si3z (siO false false k off zS (stS zS off 8 anyV).1) noLoop 100000 300 [dead] 3 [.slice (some ⟨0, 0, none⟩) 0 0, .int .u8 pl] = some (.bool true, inter (siA zS si0 ++ (siB zS pl k off ++ (siC zS off false ++ (siD zS (stS zS off 8 anyV).1 ++ siE (stS zS off 8 anyV).1))))) := by kernel_rfl
theorem si_Nt (pl : Int) (k : Nat) (off : Int) : reckonQI Try.prog si3z (siO false true k off zS (stS zS off 8 anyV).1) noLoop 100000 300 [] 3 [.slice none 0 0, .int .u8 pl] = some (.bool true, inter (siA zS si0 ++ (siB zS pl k off ++ (siC zS off true ++ (siE (stS zS off 8 anyV).1))))) := by kernel_rfl
theorem si_Nf (pl : Int) (k : Nat) (off : Int) : reckonQI Try.prog si3z (siO false false k off zS (stS zS off 8 anyV).1) noLoop 100000 300 [] 3 [.slice none 0 0, .int .u8 pl] = some (.bool true, inter (siA zS si0 ++ (siB zS pl k off ++ (siC zS off false ++ (siD zS (stS zS off 8 anyV).1 ++ siE (stS zS off 8 anyV).1))))) := by kernel_rfl
theorem si_G (n c : Nat) (pl : Int) : reckonQI Try.prog si3z (siO true false 0 0 [] []) noLoop 100000 300 [dead] 3 [.slice (some ⟨0, 0, none⟩) n c, .int .u8 pl] = some (.bool true, inter [(b2i (decide ((n : Int) > 60)), 1)]) := by kernel_rfl
end Go.Proofs.Ytebolmfdglmpoaa.Ex
end
section
namespace Go.Proofs.Ytebolmfdglmpoaa.Ex
open Go Go.RowKit
set_option maxHeartbeats 400000
set_option maxRecDepth 1000000
set_option linter.unusedVariables false
set_option linter.unusedSectionVars false
theorem vAt_same {X S : List Value} {o : Nat} (h : ∀ r, r < 11 → pc X (o + r) = pc S (o + r)) : vAt X o = vAt S o := by
  have e0 : pc X o = pc S o := h 0 (by decide)
  have e1 : pc X (o + 1) = pc S (o + 1) := h 1 (by decide)
  have e2 : pc X (o + 2) = pc S (o + 2) := h 2 (by decide)
  have e3 : pc X (o + 3) = pc S (o + 3) := h 3 (by decide)
  have e4 : pc X (o + 4) = pc S (o + 4) := h 4 (by decide)
  have e5 : pc X (o + 5) = pc S (o + 5) := h 5 (by decide)
  have e6 : pc X (o + 6) = pc S (o + 6) := h 6 (by decide)
  have e7 : pc X (o + 7) = pc S (o + 7) := h 7 (by decide)
  have e8 : pc X (o + 8) = pc S (o + 8) := h 8 (by decide)
  have e9 : pc X (o + 9) = pc S (o + 9) := h 9 (by decide)
  have e10 : pc X (o + 10) = pc S (o + 10) := h 10 (by decide)
  unfold vAt
  rw [e0, e1, e2, e3, e4, e5, e6, e7, e8, e9, e10]
theorem pc_in {L vs : List Value} {o r : Nat} (h : o + vs.length ≤ L.length) (hr : r < vs.length) : pc (splice L o vs) (o + r) = nOfV (vs.getD r .nilFunc) := by
  unfold pc
  rw [List.getD_eq_getElem?_getD, splice_get h, if_pos (by omega), show o + r - o = r by omega, List.getD_eq_getElem?_getD]
theorem setP_in {L : List Value} (h : OkS L) {j : Nat} (hj : j < 64) (v : VI) : pc (setP L j v) (0 + j * 12) = 255 ∧ vAt (setP L j v) (0 + j * 12 + 1) = v := by
  have g : ∀ r, r < 12 → pc (setP L j v) (0 + j * 12 + r) = nOfV ((Value.int .u8 255 :: vL v).getD r .nilFunc) := fun r hr => pc_in (by rw [h.1]; show 0 + j * 12 + 12 ≤ 768; omega) hr
  refine ⟨g 0 (by decide), ?_⟩
  have e0 : pc (setP L j v) (0 + j * 12 + 1) = v.k := g 1 (by decide)
  have e1 : pc (setP L j v) (0 + j * 12 + 1 + 1) = v.m := g 2 (by decide)
  have e2 : pc (setP L j v) (0 + j * 12 + 1 + 2) = v.i := g 3 (by decide)
  have e3 : pc (setP L j v) (0 + j * 12 + 1 + 3) = v.o := g 4 (by decide)
  have e4 : pc (setP L j v) (0 + j * 12 + 1 + 4) = v.s := g 5 (by decide)
  have e5 : pc (setP L j v) (0 + j * 12 + 1 + 5) = v.t := g 6 (by decide)
  have e6 : pc (setP L j v) (0 + j * 12 + 1 + 6) = v.u := g 7 (by decide)
  have e7 : pc (setP L j v) (0 + j * 12 + 1 + 7) = v.a := g 8 (by decide)
  have e8 : pc (setP L j v) (0 + j * 12 + 1 + 8) = v.b := g 9 (by decide)
  have e9 : pc (setP L j v) (0 + j * 12 + 1 + 9) = v.c := g 10 (by decide)
  have e10 : pc (setP L j v) (0 + j * 12 + 1 + 10) = v.d := g 11 (by decide)
  unfold vAt
  rw [e0, e1, e2, e3, e4, e5, e6, e7, e8, e9, e10]
theorem setB_k {L : List Value} (h : OkS L) {j : Nat} (hj : j < 64) (k : Int) : (vAt (setB L j k) (0 + j * 12 + 1)).k = 0 := by
  show pc (setB L j k) (0 + j * 12 + 1) = 0
  have l1 : 0 + j * 12 + 0 + [Value.int .u8 (orB (pc L (0 + j * 12 + 0)) k)].length ≤ L.length := by rw [h.1]; show 0 + j * 12 + 0 + 1 ≤ 768; omega
  exact pc_in (r := 0) (by rw [splice_length l1, h.1]; show 0 + j * 12 + 1 + 11 ≤ 768; omega) (by show 0 < 11; decide)
theorem vAt_setP {L : List Value} (h : OkS L) {j i : Nat} (hj : j < 64) (v : VI) (hi : i ≠ j) : vAt (setP L j v) (0 + i * 12 + 1) = vAt L (0 + i * 12 + 1) := vAt_same fun r hr => setP_out h hj v (by omega)
theorem vAt_setB {L : List Value} (h : OkS L) {j i : Nat} (hj : j < 64) (k : Int) (hi : i ≠ j) : vAt (setB L j k) (0 + i * 12 + 1) = vAt L (0 + i * 12 + 1) := vAt_same fun r hr => setB_out h hj k (by omega)
/-- Each value lets in itself. -/
def SelfS (L : List Value) : Prop := ∀ j, j < 64 → selfP (vAt L (0 + j * 12 + 1))
theorem SelfS.setP {L : List Value} (h : OkS L) (hs : SelfS L) {j : Nat} (hj : j < 64) {v : VI} (hv : selfP v) : SelfS (setP L j v) := fun i hi => by
  by_cases e : i = j
  · subst e; rw [(setP_in h hj v).2]; exact hv
  · rw [vAt_setP h hj v e]; exact hs i hi
theorem SelfS.setB {L : List Value} (h : OkS L) (hs : SelfS L) {j : Nat} (hj : j < 64) (k : Int) : SelfS (setB L j k) := fun i hi => by
  by_cases e : i = j
  · subst e; exact .inl (setB_k h hj k)
  · rw [vAt_setB h hj k e]; exact hs i hi
theorem SelfS.goS : ∀ {m k : Nat} {L X : List Value}, OkS L → SelfS L → k + m ≤ 512 → goS m k L = some X → SelfS X
  | 0, k, L, X, h, hs, _, e => by cases e; exact hs
  | m + 1, k, L, X, h, hs, hk, e => by
    unfold Ex.goS at e
    cases hp : ptK (pc L (k / 8 * 12 + 1)) with
    | true => rw [hp] at e; cases e
    | false =>
      rw [hp] at e
      exact SelfS.goS (OkS.setB h (by omega) k) (SelfS.setB h hs (by omega) k) (by omega) e
theorem zS_pc : ∀ (i : Nat), i < 768 → pc zS i = 0 := by
  have key : ∀ (n : Nat) (i : Nat), i < n * 12 → pc (rpL n (.int .u8 0 :: vL zV) []) i = 0 := by
    intro n
    induction n with
    | zero => intro i h; omega
    | succ n ih =>
      intro i h
      show pc ((.int .u8 0 :: vL zV) ++ rpL n (.int .u8 0 :: vL zV) []) i = 0
      unfold pc
      rw [List.getD_eq_getElem?_getD]
      by_cases hi : i < 12
      · rw [List.getElem?_append_left (by exact hi)]
        have : ∀ r, r < 12 → nOfV (((Value.int .u8 0 :: vL zV)[r]?).getD .nilFunc) = 0 := by
          intro r hr
          match r, hr with
          | 0, _ => rfl
          | 1, _ => rfl
          | 2, _ => rfl
          | 3, _ => rfl
          | 4, _ => rfl
          | 5, _ => rfl
          | 6, _ => rfl
          | 7, _ => rfl
          | 8, _ => rfl
          | 9, _ => rfl
          | 10, _ => rfl
          | 11, _ => rfl
          | n + 12, h => omega
        exact this i hi
      · rw [List.getElem?_append_right (by show 12 ≤ i; omega)]
        have := ih (i - 12) (by omega)
        unfold pc at this
        rw [List.getD_eq_getElem?_getD] at this
        exact this
  exact fun i hi => key 64 i hi
theorem zS_self : SelfS zS := fun j hj => .inl (by show pc zS (0 + j * 12 + 1) = 0; exact zS_pc _ (by omega))
theorem SelfS.stS {L : List Value} (h : OkS L) (hs : SelfS L) (off n : Int) {v : VI} (hv : selfP v) : SelfS (stS L off n v).1 := by
  unfold Ex.stS
  cases k0 : wdK off n with
  | false => exact zS_self
  | true =>
    obtain ⟨hn, h1, h2, hA⟩ := wd_ok k0
    cases k1 : v.k == 0 with
    | true => exact zS_self
    | false =>
      cases k2 : isP (wdA off n) n with
      | true => exact SelfS.setP h hs (by omega) hv
      | false =>
        cases k3 : ptK v.k with
        | true => exact zS_self
        | false =>
          simp only [Bool.not_true, cond_false]
          split
          · rename_i X g
            exact SelfS.goS h hs (by omega) g
          · exact zS_self
theorem an64_zero {x : Int} (h : 0 ≤ x) (h2 : x < 18446744073709551616) : an64 x 0 = x := by
  unfold an64
  have e : (BitVec.ofInt IntKind.u64.bits x &&& ~~~BitVec.ofInt IntKind.u64.bits 0) = BitVec.ofInt IntKind.u64.bits x := by
    apply BitVec.eq_of_getLsbD_eq
    intro i hi
    simp [hi]
  rw [e, BitVec.toNat_ofInt]
  show wu ((x % (2 ^ 64 : Nat)).toNat : Int) = x
  rw [wr64']
  omega
theorem valV_self (k by_ : Int) : selfP (valV k by_) := by
  unfold valV
  cases k.tmod 4 == 0
  · cases k.tmod 4 == 1
    · refine .inr ⟨(show (1 : Int) ≠ 6 by decide), (show (1 : Int) ≠ 7 by decide), ?_⟩
      unfold selfT
      show (an64 0 0 == 0 && an64 (wu by_) 0 == wu by_) = true
      have r : 0 ≤ wu by_ ∧ wu by_ < 18446744073709551616 := by rw [wr64']; omega
      rw [an64_self, an64_zero r.1 r.2]
      simp
    · refine .inr ⟨(show (3 : Int) ≠ 6 by decide), (show (3 : Int) ≠ 7 by decide), ?_⟩
      unfold selfT
      show (an64 0 0 == 0 && an64 0 0 == 0) = true
      rw [an64_self]
      rfl
  · exact .inl rfl
theorem anyV_self : selfP anyV := by
  refine .inr ⟨by decide, by decide, ?_⟩
  unfold selfT
  show (an64 18446744073709551615 18446744073709551615 == 0 && an64 0 18446744073709551615 == 0) = true
  rw [an64_self]
  decide +kernel
theorem sdS_self (cs : List Value) : ∀ i, SelfS (sdS cs i)
  | 0 => zS_self
  | i + 1 => by
    unfold sdS
    cases (acS cs (sdS cs i) i).2 == 0
    · exact sdS_self cs i
    · exact SelfS.stS (sdS_ok cs i) (sdS_self cs i) _ _ (valV_self _ _)
theorem in_self {S : List Value} (h : SelfS S) : inB S S = true := inB_t fun j hj => .inr ⟨rfl, rfl, h j hj⟩
theorem in_zero (S : List Value) : inB zS S = true := inB_t fun j hj => .inl ⟨zS_pc _ (by omega), by show pc zS _ = 0; exact zS_pc _ (by omega)⟩
/-- The place has all of its bytes: nothing is amiss there. -/
theorem full_pl {S : List Value} {j : Nat} (hb : pc S (0 + j * 12) = 255) (hk : (vAt S (0 + j * 12 + 1)).k = 0) : plG 8 (j * 8) S = 0 := by
  have hk' : pc S (j * 12 + 1) = 0 := by rw [← vAt_k]; exact hk
  rw [Nat.zero_add] at hb
  have key : ∀ (m r : Nat), r + m = 8 → plG m (j * 8 + r) S = 0 := by
    intro m
    induction m with
    | zero => intro r _; rfl
    | succ m ih =>
      intro r e
      show (bif bitZ (pc S ((j * 8 + r) / 8 * 12)) ((j * 8 + r : Nat) : Int) then (101 : Int) else bif ptK (pc S ((j * 8 + r) / 8 * 12 + 1)) then 102 else plG m (j * 8 + r + 1) S) = 0
      rw [show (j * 8 + r) / 8 = j by omega, hb, hk']
      have hz : bitZ 255 ((j * 8 + r : Nat) : Int) = false := by
        have em : (((j * 8 + r : Nat) : Int)).tmod 8 = (r : Int) := by
          rw [Int.tmod_eq_emod_of_nonneg (by omega)]
          omega
        unfold bitZ
        rw [em]
        have hr : r < 8 := by omega
        match r, hr with
        | 0, _ => decide
        | 1, _ => decide
        | 2, _ => decide
        | 3, _ => decide
        | 4, _ => decide
        | 5, _ => decide
        | 6, _ => decide
        | 7, _ => decide
        | n + 8, h => omega
      rw [hz]
      show (bif ptK 0 then (102 : Int) else plG m (j * 8 + r + 1) S) = 0
      rw [show ptK 0 = false by decide]
      exact ih (r + 1) (by omega)
  exact key 8 0 (by omega)
theorem an8_255 {b : Int} (h : 0 ≤ b ∧ b < 256) (hne : b ≠ 255) : an8 255 b ≠ 0 := by
  obtain ⟨n, rfl⟩ := Int.eq_ofNat_of_zero_le h.1
  have hn : n < 256 := by omega
  have hn2 : n ≠ 255 := by omega
  have key : ∀ n : Fin 256, n.val ≠ 255 → an8 255 (n.val : Int) ≠ 0 := by decide +kernel
  exact key ⟨n, hn⟩ hn2
theorem st_at {S : List Value} {off : Int} {j : Nat} (hj : j < 64) (ho : off = (j : Int) * 8 - 512) {v : VI} (hv : v.k ≠ 0) : stS S off 8 v = (setP S j v, 0) := by
  obtain ⟨h1, h2, h3, h4, h5⟩ := at_ok hj ho
  unfold stS
  rw [h1, h2, h3, beq_f hv]
  show (setP S (((j * 8 : Nat) : Int).toNat / 8) v, (0 : Int)) = _
  rw [show ((j * 8 : Nat) : Int).toNat / 8 = j by omega]
theorem inPr_ok {A B : List Value} (ha : OkS A) (hb : OkS B) (h : inB A B = true ∨ ∃ j, j < 64 ∧ (∀ i, i < j → inRt A B i) ∧ inRf A B j) : AE (inPr A B) := AE.consP (prP_ok ⟨ha, hb, h⟩) AE.nil
theorem wh {S : List Value} (h : OkS S) : AE (ldP S 0 768 S) := ldP_ok (by rw [h.1]; omega) h.whole
theorem one1 : AE [((1 : Int), (1 : Int))] := AE.cons rfl AE.nil
/-- The law, of a stack: both ways. -/
theorem si_any {S : List Value} {pl : Int} {pre : Cs} {G : Prop} (hp : AE pre) (h : OkS S) (hs : SelfS S) (hpl : 0 ≤ pl ∧ pl < 256)
    (rt : ∀ (k : Nat) (off : Int), AE (siA S pre ++ (siB S pl k off ++ (siC S off true ++ siE (stS S off 8 anyV).1))) → G)
    (rf : ∀ (k : Nat) (off : Int), AE (siA S pre ++ (siB S pl k off ++ (siC S off false ++ (siD S (stS S off 8 anyV).1 ++ siE (stS S off 8 anyV).1)))) → G) : G := by
  have ew : wi pl = pl := wi_id (by omega) (by omega)
  obtain ⟨k, hk, ek⟩ : ∃ k : Nat, k < 64 ∧ (wi pl).tmod 64 = (k : Int) := ⟨(pl % 64).toNat, by omega, by rw [ew, Int.tmod_eq_emod_of_nonneg hpl.1]; omega⟩
  have hj : 63 - k < 64 := by omega
  have ho : (-8 - 8 * (k : Int)) = ((63 - k : Nat) : Int) * 8 - 512 := by omega
  have est := st_at (S := S) hj ho (v := anyV) (by decide)
  have oX : OkS (stS S (-8 - 8 * (k : Int)) 8 anyV).1 := stS_ok h _ _ _
  have sX : SelfS (stS S (-8 - 8 * (k : Int)) 8 anyV).1 := SelfS.stS h hs _ _ anyV_self
  have iS := in_self hs
  have iX := in_self sX
  have eo : wi (-8 - wi (8 * k)) = -8 - 8 * (k : Int) := by rw [wi_id (x := 8 * (k : Int)) (by omega) (by omega)]; exact wi_id (by omega) (by omega)
  have hA : AE (siA S pre) := AE.app hp (AE.app (stX_ok h.one (by rw [h.1, zS_ok.1]; omega) (splice_whole (by rw [h.1, zS_ok.1]))) (AE.app (wh h) (AE.app (wh h) (AE.app one1 (AE.app (inPr_ok h h (.inl iS)) (AE.app (AE.cons (by rw [iS]; rfl) AE.nil)
    (AE.app (wh h) (AE.app one1 (AE.app (inPr_ok zS_ok h (.inl (in_zero S))) (AE.cons (by rw [in_zero S]; rfl) AE.nil))))))))))
  have hB : AE (siB S pl k (-8 - 8 * (k : Int))) := AE.app (AE.cons ek (AE.cons eo AE.nil)) (AE.app (wh h) (AE.app (stFl_ok h _ _ _) (AE.app (stFl_ok h _ _ _) (AE.app (AE.consP (prP_ok h) AE.nil) (AE.app (stX_ok oX.one (by rw [oX.1, zS_ok.1]; omega) (splice_whole (by rw [oX.1, zS_ok.1])))
    (AE.cons (by rw [est]; rfl) AE.nil))))))
  have hC : ∀ {nz : Bool}, (ldE S (-8 - 8 * (k : Int)) ((-8 - 8 * (k : Int) + 512).toNat / 8) != 101) = nz → AE (siC S (-8 - 8 * (k : Int)) nz) := fun e => by
    refine AE.app (wh h) (AE.cons (bt ?_) (AE.consP (prP_ok ⟨h, rfl, 63 - k, hj, ho⟩) (AE.cons (by rw [e]) AE.nil)))
    have : ([.agg ⟨S⟩, .int .i64 (-8 - 8 * (k : Int)), .int .i64 8] : List Value).all flat = true := by
      show (flat (.agg ⟨S⟩) && true) = true
      rw [h.flat]
      rfl
    rw [this]
    rfl
  have hE : AE (siE (stS S (-8 - 8 * (k : Int)) 8 anyV).1) := AE.app (wh oX) (AE.app (wh oX) (AE.app one1 (AE.app (inPr_ok oX oX (.inl iX)) (AE.cons (bt iX) AE.nil))))
  cases nz : (ldE S (-8 - 8 * (k : Int)) ((-8 - 8 * (k : Int) + 512).toNat / 8) != 101) with
  | true => exact rt k _ (AE.app hA (AE.app hB (AE.app (hC nz) hE)))
  | false =>
    have e101 : ldE S (-8 - 8 * (k : Int)) ((-8 - 8 * (k : Int) + 512).toNat / 8) = 101 := by simpa using nz
    rw [show (-8 - 8 * (k : Int) + 512).toNat / 8 = 63 - k by omega] at e101
    have hf : inRf (stS S (-8 - 8 * (k : Int)) 8 anyV).1 S (63 - k) := by
      rw [est]
      unfold inRf
      rw [(setP_in h hj anyV).1]
      refine an8_255 (by have := h.rng hj; rwa [Nat.zero_add]) fun e => ?_
      unfold ldE at e101
      cases q : ((vAt S (0 + (63 - k) * 12 + 1)).k != 0) with
      | true => rw [q] at e101; exact absurd (show (0 : Int) = 101 from e101) (by decide)
      | false =>
        rw [q] at e101
        have hk0 : (vAt S (0 + (63 - k) * 12 + 1)).k = 0 := by simpa using q
        have := full_pl e hk0
        have e2 : plS S (-8 - 8 * (k : Int)) 8 = 101 := e101
        unfold plS at e2
        obtain ⟨h1, h2, h3, h4, h5⟩ := at_ok hj ho
        rw [h4, h5] at e2
        have e3 : plG 8 ((63 - k) * 8) S = 101 := e2
        rw [this] at e3
        exact absurd e3 (by decide)
    have hlow : ∀ i, i < 63 - k → inRt (stS S (-8 - 8 * (k : Int)) 8 anyV).1 S i := fun i hi => by
      rw [est]
      refine .inr ⟨?_, vAt_setP h hj anyV (by omega), ?_⟩
      · exact setP_out h hj anyV (by omega)
      · rw [vAt_setP h hj anyV (by omega)]; exact hs i (by omega)
    have iXS := inB_f hj hf
    exact rf k _ (AE.app hA (AE.app hB (AE.app (hC nz) (AE.app (AE.app (wh oX) (AE.app (wh h) (AE.app one1 (AE.app (inPr_ok oX h (.inr ⟨63 - k, hj, hlow, hf⟩)) (AE.cons (by rw [iXS]; rfl) AE.nil))))) hE))))
theorem law_in {v : Value} {pl : Int} {w : World} (hS : SlS [.i .i64, .i .i64, .i .u8, .b] w v) (wp : (Lit.int .u8 pl).wf = true) :
    Calls Try.prog 3 #[v, .int .u8 pl] w fun e w' => e = .returned (.bool true) ∧ Gr w w' := by
  have hpl := u8_rng wp
  have hL : Laid ([] : List AO) w := Laid.nil w
  have tl : ∀ {s : Ren}, LR s [.int .u8 pl] [.int .u8 pl] := fun {s} => LR.ofFlat rfl
  rcases hS with rfl | ⟨bl, off, n, c, tot, T, l, rfl, hlc, hsh, hll, hfit, hfr, hcl, hok⟩
  · have lr : LR (placeG [] w) [.slice none 0 0, .int .u8 pl] [.slice none 0 0, .int .u8 pl] := LR.ofFlat rfl
    exact si_any (pre := si0) (AE.cons rfl AE.nil) zS_ok zS_self hpl (fun k o he => reckonQ_ok noNG si3z_ok noLoop_low (noLoop_ok _) _ _ _ _ rfl (si_Nt pl k o) he (HR.start hL) lr)
      (fun k o he => reckonQ_ok noNG si3z_ok noLoop_low (noLoop_ok _) _ _ _ _ rfl (si_Nf pl k o) he (HR.start hL) lr)
  have hb : bl < w.heap.size := by
    unfold World.shape? at hsh
    split at hsh
    · rename_i h; exact (Array.getElem?_eq_some_iff.1 h).1
    · cases hsh
  by_cases c0 : n = 0
  · subst c0
    have H := HR.withPl (pl := ⟨bl, off, off + c, some 1⟩) hL hb (by intro h; simp [GM] at h)
    have lr : LR (upd (placeG [] w) 0 ⟨bl, off, off + c, some 1⟩) [.slice (some ⟨0, 0, none⟩) 0 0, .int .u8 pl] [.slice (some ⟨bl, off, none⟩) 0 c, .int .u8 pl] :=
      LR.cons (VR.slice (a := ⟨0, 0, none⟩) (p := ⟨bl, off, off + c, some 1⟩) rfl (upd_same _ _ _) (by show 0 < 1 ∧ off + 0 + c * 1 = off + c ∧ 0 ≤ c; omega)) tl
    exact si_any (pre := si0) (AE.cons rfl AE.nil) zS_ok zS_self hpl (fun k o he => reckonQ_ok noNG si3z_ok noLoop_low (noLoop_ok _) _ _ _ _ rfl (si_Zt pl k o) he H lr)
      (fun k o he => reckonQ_ok noNG si3z_ok noLoop_low (noLoop_ok _) _ _ _ _ rfl (si_Zf pl k o) he H lr)
  by_cases c1 : n ≤ 60
  · have hA : OkA l n := okA_of hll hok
    have H := HR.withSlice (cs := l) hL hsh (by rw [hll]; exact hfit (by omega)) (by rw [hll]; exact hfr) (fun o v hv => ⟨hcl o v hv, List.all_eq_true.1 hA.flat v (List.mem_of_getElem? hv)⟩) (fun i o hi => by simp at hi)
    have lr : LR (upd (placeG [] w) 0 ⟨bl, off, tot, none⟩) [.slice (some ⟨0, 0, none⟩) n c, .int .u8 pl] [.slice (some ⟨bl, off, none⟩) n c, .int .u8 pl] :=
      LR.cons (VR.slice (a := ⟨0, 0, none⟩) (p := ⟨bl, off, tot, none⟩) rfl (upd_same _ _ _) rfl) tl
    have hp : AE (siL l n) := AE.cons (b0 (by omega)) (AE.cons (bt (sdS_ok l n).flat) (AE.consP (prP_ok hA) (AE.cons (bt (by rw [decide_eq_true (by omega : n ≤ 1000), decide_eq_true (by omega : 1 ≤ n)]; rfl)) AE.nil)))
    exact si_any hp (sdS_ok l n) (sdS_self l n) hpl (fun k o he => reckonQ_ok noNG si3_ok noLoop_low (noLoop_ok _) _ _ _ _ rfl (si_Lt l n c pl k o) he H lr)
      (fun k o he => reckonQ_ok noNG si3_ok noLoop_low (noLoop_ok _) _ _ _ _ rfl (si_Lf l n c pl k o) he H lr)
  · have H := HR.withPl (pl := ⟨bl, off, tot, none⟩) hL hb (by intro h; cases h)
    have lr : LR (upd (placeG [] w) 0 ⟨bl, off, tot, none⟩) [.slice (some ⟨0, 0, none⟩) n c, .int .u8 pl] [.slice (some ⟨bl, off, none⟩) n c, .int .u8 pl] :=
      LR.cons (VR.slice (a := ⟨0, 0, none⟩) (p := ⟨bl, off, tot, none⟩) rfl (upd_same _ _ _) rfl) tl
    exact reckonQ_ok noNG si3z_ok noLoop_low (noLoop_ok _) _ _ _ _ rfl (si_G n c pl) (AE.cons (b1 (by omega)) AE.nil) H lr
end Go.Proofs.Ytebolmfdglmpoaa.Ex
end
