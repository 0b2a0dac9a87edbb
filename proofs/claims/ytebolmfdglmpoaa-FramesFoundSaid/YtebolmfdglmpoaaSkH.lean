/-
  Lemmas for the laws of this seat: Sk32, Sk33, Sk34, Sk35.
-/
import Derived.Test.YtebolmfdglmpoaaSkF
import Derived.Test.YtebolmfdglmpoaaSkG
section
namespace Go.Proofs.Ytebolmfdglmpoaa.Ex
open Go Go.RowKit
set_option maxHeartbeats 0
set_option maxRecDepth 1000000
set_option linter.unusedVariables false
set_option linter.unusedSectionVars false
/-- What Found makes of a value. -/
noncomputable def foundV (id : Int) (b : Bool) (v : VI) : VI := bif v.k == 6 && v.i == id then (bif b then ⟨5, v.m, 0, v.o, v.s, v.t, v.u, v.a, v.b, v.c, v.d⟩ else ⟨1, 0, 0, 0, 0, 0, 0, 0, 0, 0, 0⟩) else v
noncomputable def foH (id : Int) (b : Bool) : List AO := [⟨true, none, [.int .i64 id]⟩, ⟨true, none, [.bool b]⟩]
theorem fo_a (id : Int) (b : Bool) (v : VI) : reckonQI Try.prog nh3 (oS [(46, 8, .bool true)]) noLoop 100000 300 (foH id b) 46 [.agg ⟨vL v⟩, .pointer (some ⟨0, 0, none⟩), .pointer (some ⟨1, 0, none⟩)] = some (.agg ⟨vL v⟩, inter [(b2i (v.k != 6), 1)]) := by kernel_rfl
theorem fo_b (id : Int) (b : Bool) (v : VI) : reckonQI Try.prog nh3 (oS [(46, 8, .bool false), (46, 13, .bool true)]) noLoop 100000 300 (foH id b) 46 [.agg ⟨vL v⟩, .pointer (some ⟨0, 0, none⟩), .pointer (some ⟨1, 0, none⟩)] = some (.agg ⟨vL v⟩, inter [(b2i (v.k != 6), 0), (b2i (v.i != id), 1)]) := by kernel_rfl
theorem fo_c (id : Int) (v : VI) : reckonQI Try.prog nh3 (oS [(46, 8, .bool false), (46, 13, .bool false)]) noLoop 100000 300 (foH id true) 46 [.agg ⟨vL v⟩, .pointer (some ⟨0, 0, none⟩), .pointer (some ⟨1, 0, none⟩)] = some (.agg ⟨vL ⟨5, v.m, 0, v.o, v.s, v.t, v.u, v.a, v.b, v.c, v.d⟩⟩, inter [(b2i (v.k != 6), 0), (b2i (v.i != id), 0)]) := by kernel_rfl
theorem fo_d (id : Int) (v : VI) : reckonQI Try.prog nh3 (oS [(46, 8, .bool false), (46, 13, .bool false)]) noLoop 100000 300 (foH id false) 46 [.agg ⟨vL v⟩, .pointer (some ⟨0, 0, none⟩), .pointer (some ⟨1, 0, none⟩)] = some (.agg ⟨vL ⟨1, 0, 0, 0, 0, 0, 0, 0, 0, 0, 0⟩⟩, inter [(b2i (v.k != 6), 0), (b2i (v.i != id), 0)]) := by kernel_rfl
theorem fo_bne {a b : Int} {x : Bool} (h : (a == b) = x) : (a != b) = !x := by rw [← h]; rfl
theorem c_foV (id : Int) (b : Bool) (v : VI) {w : World} {s : Ren} (H : HR w 2 s (foH id b) w) {args' : List Value} (ha : LR s [.agg ⟨vL v⟩, .pointer (some ⟨0, 0, none⟩), .pointer (some ⟨1, 0, none⟩)] args') : Calls Try.prog 46 ⟨args'⟩ w fun e w' => e = .returned (.agg ⟨vL (foundV id b v)⟩) ∧ Gr w w' := by
  cases k : v.k == 6 with
  | false =>
    have e : foundV id b v = v := by unfold foundV; rw [k]; rfl
    rw [e]
    exact reckonQ_ok noNG nh3_ok noLoop_low (noLoop_ok _) _ _ _ _ rfl (fo_a id b v) (AE.cons (bt (fo_bne k)) AE.nil) H ha
  | true =>
    cases k2 : v.i == id with
    | false =>
      have e : foundV id b v = v := by unfold foundV; rw [k, k2]; rfl
      rw [e]
      exact reckonQ_ok noNG nh3_ok noLoop_low (noLoop_ok _) _ _ _ _ rfl (fo_b id b v) (AE.cons (bf (fo_bne k)) (AE.cons (bt (fo_bne k2)) AE.nil)) H ha
    | true =>
      cases b with
      | true =>
        have e : foundV id true v = ⟨5, v.m, 0, v.o, v.s, v.t, v.u, v.a, v.b, v.c, v.d⟩ := by unfold foundV; rw [k, k2]; rfl
        rw [e]
        exact reckonQ_ok noNG nh3_ok noLoop_low (noLoop_ok _) _ _ _ _ rfl (fo_c id v) (AE.cons (bf (fo_bne k)) (AE.cons (bf (fo_bne k2)) AE.nil)) H ha
      | false =>
        have e : foundV id false v = ⟨1, 0, 0, 0, 0, 0, 0, 0, 0, 0, 0⟩ := by unfold foundV; rw [k, k2]; rfl
        rw [e]
        exact reckonQ_ok noNG nh3_ok noLoop_low (noLoop_ok _) _ _ _ _ rfl (fo_d id v) (AE.cons (bf (fo_bne k)) (AE.cons (bf (fo_bne k2)) AE.nil)) H ha
/-- Found's function of a value, as a hook: its number and its Boolean lie where they are. -/
noncomputable def hkFoV (id : Int) (many : Bool) : Hook := fun f args h =>
  if Nat.beq f 46 then
    match args with
    | [.agg ⟨[.int .i64 a0, .int .i64 a1, .int .i64 a2, .int .i64 a3, .int .i64 a4, .int .u64 a5, .int .u64 a6, .int .u64 a7, .int .u64 a8, .int .i64 a9, .int .i64 a10]⟩, .pointer (some x), .pointer (some y)] =>
      match h[x.block]?, h[y.block]? with
      | some ⟨true, none, [.int .i64 i]⟩, some ⟨true, none, [.bool m]⟩ =>
        if !(Nat.beq x.block y.block) && (Nat.beq x.off 0 && (x.spot.isNone && (Nat.beq y.off 0 && y.spot.isNone))) then some (.agg ⟨vL (foundV id many ⟨a0, a1, a2, a3, a4, a5, a6, a7, a8, a9, a10⟩)⟩, [(i, id), (b2i m, b2i many)]) else none
      | _, _ => none
    | _ => none
  else none
theorem hkFoV_ok (id : Int) (many : Bool) : HookOk2 Try.prog (hkFoV id many) := by
  intro f args h v cs hv hc wb k s w args' H ha
  unfold hkFoV at hv
  split at hv
  · rename_i hf
    obtain rfl := Nat.eq_of_beq_eq_true hf
    split at hv
    · rename_i a0 a1 a2 a3 a4 a5 a6 a7 a8 a9 a10 x y
      split at hv
      · rename_i i m hx hy
        split at hv
        · rename_i hq
          cases hv
          simp only [Bool.and_eq_true, Bool.not_eq_true'] at hq
          obtain ⟨q0, q1, q2, q3, q4⟩ := hq
          have e1 : i = id := hc _ (List.mem_cons_self ..)
          have e2 : m = many := b2i_inj (hc _ (List.mem_cons_of_mem _ (List.mem_cons_self ..)))
          subst e1 e2
          obtain ⟨xb, xo, xs⟩ := x
          obtain ⟨yb, yo, ys⟩ := y
          obtain rfl : xo = 0 := Nat.eq_of_beq_eq_true q1
          obtain rfl : xs = none := Option.isNone_iff_eq_none.1 q2
          obtain rfl : yo = 0 := Nat.eq_of_beq_eq_true q3
          obtain rfl : ys = none := Option.isNone_iff_eq_none.1 q4
          have hne : xb ≠ yb := fun e => by rw [e, Nat.beq_refl] at q0; cases q0
          have HP := H.pick (foH i m) (fun j => match j with | 0 => xb | _ => yb) (fun j o hi hl => by
              match j with
              | 0 => cases hi; exact ⟨_, hx, rfl, rfl, rfl, rfl, rfl⟩
              | 1 => cases hi; exact ⟨_, hy, rfl, rfl, rfl, rfl, rfl⟩
              | n + 2 => cases hi)
            (fun j l a b hi hj _ _ e => by
              match j, l with
              | 0, 0 => rfl
              | 1, 1 => rfl
              | 0, 1 => exact absurd e hne
              | 1, 0 => exact absurd e.symm hne
              | n + 2, _ => cases hi
              | 0, n + 2 => cases hj
              | 1, n + 2 => cases hj)
            (fun j o hi hl he => by
              match j with
              | 0 => cases hi; cases he
              | 1 => cases hi; cases he
              | n + 2 => cases hi)
          refine c_foV i m ⟨a0, a1, a2, a3, a4, a5, a6, a7, a8, a9, a10⟩ HP ?_
          match args', ha with
          | [u, p, q], ha =>
            obtain ⟨h1, ha⟩ := ha.uncons
            obtain ⟨h2, ha⟩ := ha.uncons
            obtain ⟨h3, _⟩ := ha.uncons
            obtain rfl := h1.eq_of_flat rfl
            obtain ⟨p1, e2, hp1, rfl⟩ := h2.ptr_inv
            obtain ⟨p2, e3, hp2, rfl⟩ := h3.ptr_inv
            exact LR.cons (.same rfl) (LR.cons (VR.ptr (a := ⟨0, 0, none⟩) e2 hp1) (LR.cons (VR.ptr (a := ⟨1, 0, none⟩) e3 hp2) (LR.nil _)))
          | [], ha => exact absurd ha.1 (by simp)
          | [_], ha => exact absurd ha.1 (by simp)
          | [_, _], ha => exact absurd ha.1 (by simp)
          | _ :: _ :: _ :: _ :: _, ha => exact absurd ha.1 (by simp)
        · cases hv
      · cases hv
    · cases hv
  · cases hv
noncomputable def foPairs (id : Int) (b : Bool) (n : Nat) : Cs := Nat.rec (motive := fun _ => Cs) [] (fun _ ih => (1, 1) :: (id, id) :: (b2i b, b2i b) :: ih) n
theorem fo_run (id : Int) (b : Bool) (X : List Value) : reckonPI Try.prog (liftQ (hkFoV id b)) noOrc noLoop 100000 300 [] 26 [.agg ⟨spF X⟩, .int .i64 id, .bool b] = some (.agg ⟨tuF (foundV id b) X⟩, inter (foPairs id b 75)) := by kernel_rfl
theorem foPairs_ok (id : Int) (b : Bool) : ∀ n, AE (foPairs id b n)
  | 0 => AE.nil
  | n + 1 => AE.cons rfl (AE.cons rfl (AE.cons rfl (foPairs_ok id b n)))
theorem c_found {X : List Value} (h : OkF X) (id : Int) (b : Bool) (w : World) : Calls Try.prog 26 #[.agg ⟨X⟩, .int .i64 id, .bool b] w fun e w' => e = .returned (.agg ⟨tuF (foundV id b) X⟩) ∧ Gr w w' := by
  have := rq (liftQ_ok (hkFoV_ok id b)) noOrc (by rw [spF_eq h]; show (flat (.agg ⟨X⟩) && true) = true; rw [h.flat]; rfl) (tuF_ok (foundV id b) h).flat (fo_run id b X) (foPairs_ok id b 75) w
  rw [spF_eq h] at this
  exact this
end Go.Proofs.Ytebolmfdglmpoaa.Ex
end
section
namespace Go.Proofs.Ytebolmfdglmpoaa.Ex
open Go Go.RowKit
set_option maxHeartbeats 0
set_option maxRecDepth 1000000
set_option linter.unusedVariables false
set_option linter.unusedSectionVars false
noncomputable def lfT (id : Int) (b : Bool) (i : Nat) (p q r r2 s t : Value) (β : Nat → Value) : List Value := [β 0, .int .i64 id, .bool b, β 3, β 4, β 5, .bool false, .pointer (some ⟨1, 0, none⟩), .slice (some ⟨2, 0, none⟩) 75 75, .slice (some ⟨3, 0, none⟩) 75 75, .int .i64 (i : Int), p, β 12, β 13, β 14, β 15, β 16, β 17, β 18, β 19, β 20, β 21, β 22, β 23, β 24, β 25, β 26, β 27, β 28, β 29, β 30, β 31, β 32, β 33, β 34, p, β 36, β 37, β 38, q, β 40, β 41, β 42, β 43, β 44, β 45, β 46, r, r2, s, β 50, β 51, β 52, t, β 54, β 55, β 56, β 57, β 58, β 59, β 60, β 61, β 62, β 63, β 64, β 65, β 66]
def lfZ : List Nat := [1, 0, 0, 1, 1, 1, 0, 0, 0, 0, 0, 0, 1, 1, 1, 1, 1, 1, 1, 1, 1, 1, 1, 1, 1, 1, 1, 1, 1, 1, 1, 1, 1, 1, 1, 0, 1, 1, 1, 0, 1, 1, 1, 1, 1, 1, 1, 0, 0, 0, 1, 1, 1, 0, 1, 1, 1, 1, 1, 1, 1, 1, 1, 1, 1, 1, 1]
abbrev lfF : FuncId := 7
noncomputable abbrev lfLp : Code := theLoopN Try.prog lfF 0
theorem lf_one : oneLoopN Try.prog lfF 0 = true := by kernel_rfl
noncomputable def rfO (i : Nat) (v u : VI) (g k e m : Bool) : Orc := fun f t _ =>
  if Nat.beq f lfF then
    match t with
    | 28 => some (.bool g)
    | 30 => some (.int .i64 ((i + 1 : Nat) : Int))
    | 33 => some .nilIface
    | 34 => some (tld (.agg ⟨vL v⟩))
    | 37 => some (.bool k)
    | 38 => some (.bool k)
    | 42 => some (.bool e)
    | 43 => some (.bool (k && e))
    | 44 => some (.bool (k && e))
    | 46 => some (.bool m)
    | 51 => some (.bool k)
    | 52 => some (.bool k)
    | 56 => some (.bool e)
    | 57 => some (.bool (k && e))
    | 62 => some .nilIface
    | 63 => some (tld (.agg ⟨vL u⟩))
    | 65 => some (.bool false)
    | _ => none
  else none
def lfCa (k : Nat) : Bool := Nat.ble 25 k && Nat.ble k 57 || Nat.ble 60 k && Nat.ble k 65
def lfCc (k : Nat) : Bool := Nat.ble 25 k && Nat.ble k 46 || Nat.ble 60 k && Nat.ble k 65
def lfCd (k : Nat) : Bool := Nat.ble 25 k && Nat.ble k 65
def fVs (v : VI) : VI := ⟨5, v.m, 0, v.o, v.s, v.t, v.u, v.a, v.b, v.c, v.d⟩
def fVn : VI := ⟨1, 0, 0, 0, 0, 0, 0, 0, 0, 0, 0⟩
theorem lf_a_1t (C : AO) (F A B : List Value) (G1 G2 : AO) (K : List Value) (id : Int) (i : Nat) (v : VI) (p q s t : Value) (β : Nat → Value) : (hopRunL Try.prog nh3 (rfO i v v true false false false) noLoop lfF lfLp 1 4 [6] (lfT id true i p q UUU UUU s t β) (lwH C F A B G1 G2)).map (fun x => (maskZ 4 lfZ x.1, pickZ lfZ x.1, x.2)) = some ((lfT id true (i + 1) (pAt 4 0) UUU UUU UUU (pAt 4 0) UUU fun k => bif lfCa k then .bool true else .bool (okR 4 (β k))).map (reV (keepF 4 [6]) 6), [], [C, ⟨true, none, F⟩, ⟨true, some 11, A⟩, ⟨true, some 11, B⟩, ⟨true, none, vL v⟩], some 6, inter (rdA A i v ++ ([(b2i (v.k == 6), 0), (0, 0), (0, 0), (0, 0), (0, 0), (b2i (v.k == 6), 0), (0, 0), (0, 0)] ++ rdB B i v))) := by kernel_rfl
theorem lf_a_1f (C : AO) (F A B : List Value) (G1 G2 : AO) (K : List Value) (id : Int) (i : Nat) (v : VI) (p q s t : Value) (β : Nat → Value) : (hopRunL Try.prog nh3 (rfO i v v true false false false) noLoop lfF lfLp 1 4 [6] (lfT id false i p q UUU UUU s t β) (lwH C F A B G1 G2)).map (fun x => (maskZ 4 lfZ x.1, pickZ lfZ x.1, x.2)) = some ((lfT id false (i + 1) (pAt 4 0) UUU UUU UUU (pAt 4 0) UUU fun k => bif lfCa k then .bool true else .bool (okR 4 (β k))).map (reV (keepF 4 [6]) 6), [], [C, ⟨true, none, F⟩, ⟨true, some 11, A⟩, ⟨true, some 11, B⟩, ⟨true, none, vL v⟩], some 6, inter (rdA A i v ++ ([(b2i (v.k == 6), 0), (0, 0), (0, 0), (0, 0), (0, 0), (b2i (v.k == 6), 0), (0, 0), (0, 0)] ++ rdB B i v))) := by kernel_rfl
theorem lf_a_2 (C : AO) (F A B : List Value) (G1 G2 : AO) (K : List Value) (id : Int) (i : Nat) (v : VI) (p q s t : Value) (β : Nat → Value) : (hopRunL Try.prog nh3 (rfO i v v true false false false) noLoop lfF lfLp 1 4 [4, 6] (lfT id true i p q (pAt 4 0) (pAt 4 2) s t β) (lwH C F A B ⟨true, none, K⟩ G2)).map (fun x => (maskZ 4 lfZ x.1, pickZ lfZ x.1, x.2)) = some ((lfT id true (i + 1) (pAt 5 0) UUU (pAt 4 0) (pAt 4 2) (pAt 5 0) UUU fun k => bif lfCa k then .bool true else .bool (okR 4 (β k))).map (reV (keepF 4 [4, 6]) 6), [], [C, ⟨true, none, F⟩, ⟨true, some 11, A⟩, ⟨true, some 11, B⟩, ⟨true, none, K⟩, ⟨true, none, vL v⟩], some 6, inter (rdA A i v ++ ([(b2i (v.k == 6), 0), (0, 0), (0, 0), (0, 0), (0, 0), (b2i (v.k == 6), 0), (0, 0), (0, 0)] ++ rdB B i v))) := by kernel_rfl
theorem lf_a_3 (C : AO) (F A B : List Value) (G1 G2 : AO) (K : List Value) (id : Int) (i : Nat) (v : VI) (p q s t : Value) (β : Nat → Value) : (hopRunL Try.prog nh3 (rfO i v v true false false false) noLoop lfF lfLp 1 4 [5, 6] (lfT id true i p q (pAt 5 0) (pAt 5 2) s t β) (lwH C F A B G1 ⟨true, none, K⟩)).map (fun x => (maskZ 4 lfZ x.1, pickZ lfZ x.1, x.2)) = some ((lfT id true (i + 1) (pAt 5 0) UUU (pAt 4 0) (pAt 4 2) (pAt 5 0) UUU fun k => bif lfCa k then .bool true else .bool (okR 4 (β k))).map (reV (keepF 4 [5, 6]) 6), [], [C, ⟨true, none, F⟩, ⟨true, some 11, A⟩, ⟨true, some 11, B⟩, ⟨true, none, K⟩, ⟨true, none, vL v⟩], some 6, inter (rdA A i v ++ ([(b2i (v.k == 6), 0), (0, 0), (0, 0), (0, 0), (0, 0), (b2i (v.k == 6), 0), (0, 0), (0, 0)] ++ rdB B i v))) := by kernel_rfl
theorem lf_b_1t (C : AO) (F A B : List Value) (G1 G2 : AO) (K : List Value) (id : Int) (i : Nat) (v : VI) (p q s t : Value) (β : Nat → Value) : (hopRunL Try.prog nh3 (rfO i v v true true false false) noLoop lfF lfLp 1 4 [6] (lfT id true i p q UUU UUU s t β) (lwH C F A B G1 G2)).map (fun x => (maskZ 4 lfZ x.1, pickZ lfZ x.1, x.2)) = some ((lfT id true (i + 1) (pAt 4 0) (pAt 4 2) UUU UUU (pAt 4 0) (pAt 4 2) fun k => bif lfCa k then .bool true else .bool (okR 4 (β k))).map (reV (keepF 4 [6]) 6), [], [C, ⟨true, none, F⟩, ⟨true, some 11, A⟩, ⟨true, some 11, B⟩, ⟨true, none, vL v⟩], some 6, inter (rdA A i v ++ ([(b2i (v.k == 6), 1), (1, 1), (b2i (v.i == id), 0), (0, 0), (0, 0), (0, 0), (b2i (v.k == 6), 1), (1, 1), (b2i (v.i == id), 0), (0, 0)] ++ rdB B i v))) := by kernel_rfl
theorem lf_b_1f (C : AO) (F A B : List Value) (G1 G2 : AO) (K : List Value) (id : Int) (i : Nat) (v : VI) (p q s t : Value) (β : Nat → Value) : (hopRunL Try.prog nh3 (rfO i v v true true false false) noLoop lfF lfLp 1 4 [6] (lfT id false i p q UUU UUU s t β) (lwH C F A B G1 G2)).map (fun x => (maskZ 4 lfZ x.1, pickZ lfZ x.1, x.2)) = some ((lfT id false (i + 1) (pAt 4 0) (pAt 4 2) UUU UUU (pAt 4 0) (pAt 4 2) fun k => bif lfCa k then .bool true else .bool (okR 4 (β k))).map (reV (keepF 4 [6]) 6), [], [C, ⟨true, none, F⟩, ⟨true, some 11, A⟩, ⟨true, some 11, B⟩, ⟨true, none, vL v⟩], some 6, inter (rdA A i v ++ ([(b2i (v.k == 6), 1), (1, 1), (b2i (v.i == id), 0), (0, 0), (0, 0), (0, 0), (b2i (v.k == 6), 1), (1, 1), (b2i (v.i == id), 0), (0, 0)] ++ rdB B i v))) := by kernel_rfl
theorem lf_b_2 (C : AO) (F A B : List Value) (G1 G2 : AO) (K : List Value) (id : Int) (i : Nat) (v : VI) (p q s t : Value) (β : Nat → Value) : (hopRunL Try.prog nh3 (rfO i v v true true false false) noLoop lfF lfLp 1 4 [4, 6] (lfT id true i p q (pAt 4 0) (pAt 4 2) s t β) (lwH C F A B ⟨true, none, K⟩ G2)).map (fun x => (maskZ 4 lfZ x.1, pickZ lfZ x.1, x.2)) = some ((lfT id true (i + 1) (pAt 5 0) (pAt 5 2) (pAt 4 0) (pAt 4 2) (pAt 5 0) (pAt 5 2) fun k => bif lfCa k then .bool true else .bool (okR 4 (β k))).map (reV (keepF 4 [4, 6]) 6), [], [C, ⟨true, none, F⟩, ⟨true, some 11, A⟩, ⟨true, some 11, B⟩, ⟨true, none, K⟩, ⟨true, none, vL v⟩], some 6, inter (rdA A i v ++ ([(b2i (v.k == 6), 1), (1, 1), (b2i (v.i == id), 0), (0, 0), (0, 0), (0, 0), (b2i (v.k == 6), 1), (1, 1), (b2i (v.i == id), 0), (0, 0)] ++ rdB B i v))) := by kernel_rfl
theorem lf_b_3 (C : AO) (F A B : List Value) (G1 G2 : AO) (K : List Value) (id : Int) (i : Nat) (v : VI) (p q s t : Value) (β : Nat → Value) : (hopRunL Try.prog nh3 (rfO i v v true true false false) noLoop lfF lfLp 1 4 [5, 6] (lfT id true i p q (pAt 5 0) (pAt 5 2) s t β) (lwH C F A B G1 ⟨true, none, K⟩)).map (fun x => (maskZ 4 lfZ x.1, pickZ lfZ x.1, x.2)) = some ((lfT id true (i + 1) (pAt 5 0) (pAt 5 2) (pAt 4 0) (pAt 4 2) (pAt 5 0) (pAt 5 2) fun k => bif lfCa k then .bool true else .bool (okR 4 (β k))).map (reV (keepF 4 [5, 6]) 6), [], [C, ⟨true, none, F⟩, ⟨true, some 11, A⟩, ⟨true, some 11, B⟩, ⟨true, none, K⟩, ⟨true, none, vL v⟩], some 6, inter (rdA A i v ++ ([(b2i (v.k == 6), 1), (1, 1), (b2i (v.i == id), 0), (0, 0), (0, 0), (0, 0), (b2i (v.k == 6), 1), (1, 1), (b2i (v.i == id), 0), (0, 0)] ++ rdB B i v))) := by kernel_rfl
theorem lf_c_1 (C : AO) (F A B : List Value) (G1 G2 : AO) (K : List Value) (id : Int) (i : Nat) (v : VI) (p q r r2 : Value) (β : Nat → Value) : (hopRunL Try.prog nh3 (rfO i v (fVs v) true true true true) noLoop lfF lfLp 1 4 [6] (lfT id true i p q r r2 UUU UUU β) (lwH C F A B G1 G2)).map (fun x => (maskZ 4 lfZ x.1, pickZ lfZ x.1, x.2)) = some ((lfT id true (i + 1) (pAt 4 0) (pAt 4 2) (pAt 4 0) (pAt 4 2) UUU UUU fun k => bif lfCc k then .bool true else .bool (okR 4 (β k))).map (reV (keepF 4 [6]) 6), [], [C, ⟨true, none, F⟩, ⟨true, some 11, A⟩, ⟨true, some 11, B⟩, ⟨true, none, vL (fVs v)⟩], some 6, inter (rdA A i v ++ ([(b2i (v.k == 6), 1), (1, 1), (b2i (v.i == id), 1), (1, 1), (1, 1), (1, 1)] ++ rdB B i (fVs v)))) := by kernel_rfl
theorem lf_c_20 (C : AO) (F A B : List Value) (G1 G2 : AO) (K : List Value) (id : Int) (i : Nat) (v : VI) (p q r r2 : Value) (β : Nat → Value) : (hopRunL Try.prog nh3 (rfO i v (fVs v) true true true true) noLoop lfF lfLp 1 4 [4, 6] (lfT id true i p q r r2 (pAt 4 0) UUU β) (lwH C F A B ⟨true, none, K⟩ G2)).map (fun x => (maskZ 4 lfZ x.1, pickZ lfZ x.1, x.2)) = some ((lfT id true (i + 1) (pAt 5 0) (pAt 5 2) (pAt 5 0) (pAt 5 2) (pAt 4 0) UUU fun k => bif lfCc k then .bool true else .bool (okR 4 (β k))).map (reV (keepF 4 [4, 6]) 6), [], [C, ⟨true, none, F⟩, ⟨true, some 11, A⟩, ⟨true, some 11, B⟩, ⟨true, none, K⟩, ⟨true, none, vL (fVs v)⟩], some 6, inter (rdA A i v ++ ([(b2i (v.k == 6), 1), (1, 1), (b2i (v.i == id), 1), (1, 1), (1, 1), (1, 1)] ++ rdB B i (fVs v)))) := by kernel_rfl
theorem lf_c_21 (C : AO) (F A B : List Value) (G1 G2 : AO) (K : List Value) (id : Int) (i : Nat) (v : VI) (p q r r2 : Value) (β : Nat → Value) : (hopRunL Try.prog nh3 (rfO i v (fVs v) true true true true) noLoop lfF lfLp 1 4 [4, 6] (lfT id true i p q r r2 (pAt 4 0) (pAt 4 2) β) (lwH C F A B ⟨true, none, K⟩ G2)).map (fun x => (maskZ 4 lfZ x.1, pickZ lfZ x.1, x.2)) = some ((lfT id true (i + 1) (pAt 5 0) (pAt 5 2) (pAt 5 0) (pAt 5 2) (pAt 4 0) (pAt 4 2) fun k => bif lfCc k then .bool true else .bool (okR 4 (β k))).map (reV (keepF 4 [4, 6]) 6), [], [C, ⟨true, none, F⟩, ⟨true, some 11, A⟩, ⟨true, some 11, B⟩, ⟨true, none, K⟩, ⟨true, none, vL (fVs v)⟩], some 6, inter (rdA A i v ++ ([(b2i (v.k == 6), 1), (1, 1), (b2i (v.i == id), 1), (1, 1), (1, 1), (1, 1)] ++ rdB B i (fVs v)))) := by kernel_rfl
theorem lf_c_30 (C : AO) (F A B : List Value) (G1 G2 : AO) (K : List Value) (id : Int) (i : Nat) (v : VI) (p q r r2 : Value) (β : Nat → Value) : (hopRunL Try.prog nh3 (rfO i v (fVs v) true true true true) noLoop lfF lfLp 1 4 [5, 6] (lfT id true i p q r r2 (pAt 5 0) UUU β) (lwH C F A B G1 ⟨true, none, K⟩)).map (fun x => (maskZ 4 lfZ x.1, pickZ lfZ x.1, x.2)) = some ((lfT id true (i + 1) (pAt 5 0) (pAt 5 2) (pAt 5 0) (pAt 5 2) (pAt 4 0) UUU fun k => bif lfCc k then .bool true else .bool (okR 4 (β k))).map (reV (keepF 4 [5, 6]) 6), [], [C, ⟨true, none, F⟩, ⟨true, some 11, A⟩, ⟨true, some 11, B⟩, ⟨true, none, K⟩, ⟨true, none, vL (fVs v)⟩], some 6, inter (rdA A i v ++ ([(b2i (v.k == 6), 1), (1, 1), (b2i (v.i == id), 1), (1, 1), (1, 1), (1, 1)] ++ rdB B i (fVs v)))) := by kernel_rfl
theorem lf_c_31 (C : AO) (F A B : List Value) (G1 G2 : AO) (K : List Value) (id : Int) (i : Nat) (v : VI) (p q r r2 : Value) (β : Nat → Value) : (hopRunL Try.prog nh3 (rfO i v (fVs v) true true true true) noLoop lfF lfLp 1 4 [5, 6] (lfT id true i p q r r2 (pAt 5 0) (pAt 5 2) β) (lwH C F A B G1 ⟨true, none, K⟩)).map (fun x => (maskZ 4 lfZ x.1, pickZ lfZ x.1, x.2)) = some ((lfT id true (i + 1) (pAt 5 0) (pAt 5 2) (pAt 5 0) (pAt 5 2) (pAt 4 0) (pAt 4 2) fun k => bif lfCc k then .bool true else .bool (okR 4 (β k))).map (reV (keepF 4 [5, 6]) 6), [], [C, ⟨true, none, F⟩, ⟨true, some 11, A⟩, ⟨true, some 11, B⟩, ⟨true, none, K⟩, ⟨true, none, vL (fVs v)⟩], some 6, inter (rdA A i v ++ ([(b2i (v.k == 6), 1), (1, 1), (b2i (v.i == id), 1), (1, 1), (1, 1), (1, 1)] ++ rdB B i (fVs v)))) := by kernel_rfl
theorem lf_d (C : AO) (F A B : List Value) (G1 G2 : AO) (K : List Value) (id : Int) (i : Nat) (v : VI) (p q s t : Value) (β : Nat → Value) : (hopRunL Try.prog nh3 (rfO i v fVn true true true false) noLoop lfF lfLp 1 4 [6] (lfT id false i p q UUU UUU s t β) (lwH C F A B G1 G2)).map (fun x => (maskZ 4 lfZ x.1, pickZ lfZ x.1, x.2)) = some ((lfT id false (i + 1) (pAt 4 0) (pAt 4 2) UUU UUU (pAt 4 0) (pAt 4 2) fun k => bif lfCd k then .bool true else .bool (okR 4 (β k))).map (reV (keepF 4 [6]) 6), [], [C, ⟨true, none, F⟩, ⟨true, some 11, A⟩, ⟨true, some 11, B⟩, ⟨true, none, vL fVn⟩], some 6, inter (rdA A i v ++ ([(b2i (v.k == 6), 1), (1, 1), (b2i (v.i == id), 1), (1, 1), (1, 1), (0, 0), (b2i (v.k == 6), 1), (1, 1), (b2i (v.i == id), 1), (1, 1)] ++ rdB B i fVn))) := by kernel_rfl
end Go.Proofs.Ytebolmfdglmpoaa.Ex
end
section
namespace Go.Proofs.Ytebolmfdglmpoaa.Ex
open Go Go.RowKit
set_option maxHeartbeats 0
set_option maxRecDepth 1000000
set_option linter.unusedVariables false
set_option linter.unusedSectionVars false
noncomputable def lfN (β : Nat → Value) : List Value := [β 0, β 1, β 2, β 3, β 4, β 5, .bool false, β 7, β 8, β 9, β 10, β 11, β 12, β 13, β 14, β 15, β 16, β 17, β 18, β 19, β 20, β 21, β 22, β 23, β 24, β 25, β 26, β 27, β 28, β 29, β 30, β 31, β 32, β 33, β 34, β 35, β 36, β 37, β 38, β 39, β 40, β 41, β 42, β 43, β 44, β 45, β 46, β 47, β 48, β 49, β 50, β 51, β 52, β 53, β 54, β 55, β 56, β 57, β 58, β 59, β 60, β 61, β 62, β 63, β 64, β 65, β 66]
def lfNs : List Bool := [true, true, true, true, true, true, false, true, true, true, true, true, true, true, true, true, true, true, true, true, true, true, true, true, true, true, true, true, true, true, true, true, true, true, true, true, true, true, true, true, true, true, true, true, true, true, true, true, true, true, true, true, true, true, true, true, true, true, true, true, true, true, true, true, true, true, true]
theorem lf_stop (C : AO) (F A B : List Value) (G1 G2 : AO) (id : Int) (b : Bool) (p q r r2 s t : Value) (v : VI) (β : Nat → Value) : (loopN (bodyL Try.prog nh3 (rfO 75 v v false false false false) noLoop lfF lfLp) 1 ⟨lfT id b 75 p q r r2 s t β, lwH C F A B G1 G2, (none, [])⟩).map (fun r => (r.1, maskQ lfNs r.2.t, r.2.h, r.2.m.1, inter r.2.m.2)) = some (.exit 0, lfN fun _ => .bool true, lwH C F A B G1 G2, none, inter [(b2i (decide (((75 : Nat) : Int) < (75 : Nat))), 0)]) := by kernel_rfl
noncomputable def tOf (x : Nat) (e : Bool) : Value := bif e then pAt x 2 else UUU
/-- A state ahead of a round: which values the last rounds laid. -/
def lfI (C : AO) (F A B : List Value) (id : Int) (b : Bool) (i : Nat) (t : List Value) (h : List AO) : Prop :=
  ∃ p q β r, FlR 4 β ∧ (
  (∃ G1 G2, t = lfT id b i p q UUU UUU UUU UUU β ∧ h ++ List.replicate r dead = lwH C F A B G1 G2) ∨
  (∃ K G2 e, K.all Ex.flat = true ∧ t = lfT id b i p q UUU UUU (pAt 4 0) (tOf 4 e) β ∧ h ++ List.replicate r dead = lwH C F A B ⟨true, none, K⟩ G2) ∨
  (b = true ∧ ∃ K G2, K.all Ex.flat = true ∧ t = lfT id b i p q (pAt 4 0) (pAt 4 2) UUU UUU β ∧ h ++ List.replicate r dead = lwH C F A B ⟨true, none, K⟩ G2) ∨
  (b = true ∧ ∃ K K2 e, K.all Ex.flat = true ∧ K2.all Ex.flat = true ∧ t = lfT id b i p q (pAt 4 0) (pAt 4 2) (pAt 5 0) (tOf 5 e) β ∧ h ++ List.replicate r dead = lwH C F A B ⟨true, none, K⟩ ⟨true, none, K2⟩) ∨
  (b = true ∧ ∃ K K2 e, K.all Ex.flat = true ∧ K2.all Ex.flat = true ∧ t = lfT id b i p q (pAt 5 0) (pAt 5 2) (pAt 4 0) (tOf 4 e) β ∧ h ++ List.replicate r dead = lwH C F A B ⟨true, none, K⟩ ⟨true, none, K2⟩))
theorem fv_k {id : Int} {b : Bool} {v : VI} (k : (v.k == 6) = false) : foundV id b v = v := by
  unfold foundV
  rw [k]
  rfl
theorem fv_i {id : Int} {b : Bool} {v : VI} (k : (v.k == 6) = true) (e : (v.i == id) = false) : foundV id b v = v := by
  unfold foundV
  rw [k, e]
  rfl
theorem fv_s {id : Int} {v : VI} (k : (v.k == 6) = true) (e : (v.i == id) = true) : foundV id true v = fVs v := by
  unfold foundV
  rw [k, e]
  rfl
theorem fv_n {id : Int} {v : VI} (k : (v.k == 6) = true) (e : (v.i == id) = true) : foundV id false v = fVn := by
  unfold foundV
  rw [k, e]
  rfl
section
variable {C : AO} {F A B : List Value} (id : Int) (hc : C.cs.all Ex.flat = true) (hF : OkF F)
include hc hF
theorem lf_step {i : Nat} (hi : i < 75) (b : Bool) (v : VI) (la : A.length = 825) (lb : B.length = 825) (fa : A.all Ex.flat = true) (fb : B.all Ex.flat = true)
    (hA : (A.drop (0 + i * 11)).take 11 = vL v) (hB : (B.drop (0 + i * 11)).take 11 = vL (foundV id b v)) {t : List Value} {h : List AO} (hI : lfI C F A B id b i t h) :
    ∃ t' h', lfI C F A B id b (i + 1) t' h' ∧ HopQ Try.prog lfLp 1 4 t h t' h' (some 6, []) := by
  have a := rdA_ok hi la hA
  have pad : ∀ {r : Nat} {t t' : List Value} {h h' g : List AO}, h ++ List.replicate r dead = g → HopQ Try.prog lfLp 1 4 t g t' h' (some 6, []) → HopQ Try.prog lfLp 1 4 t h t' h' (some 6, []) := fun {r} _ _ _ _ _ e q => HopQ.pad r (by rw [e]; exact q)
  obtain ⟨p, q, β, r, hβ, hs⟩ := hI
  cases k : v.k == 6 with
  | false =>
    rw [fv_k k] at hB
    rcases hs with ⟨G1, G2, rfl, hp⟩ | ⟨K, G2, e0, hK, rfl, hp⟩ | ⟨rfl, K, G2, hK, rfl, hp⟩ | ⟨rfl, K, K2, e0, hK, hK2, rfl, hp⟩ | ⟨rfl, K, K2, e0, hK, hK2, rfl, hp⟩
    · cases b with
      | true =>
        obtain ⟨β', f, Q⟩ := hopF_ok noNG nh3_ok noLoop_low (noLoop_ok _) lf_one [6] (T := lfT id true (i + 1) (pAt 4 0) UUU UUU UUU (pAt 4 0) UUU) (zs := lfZ) (fun β => rfl) lfCa hβ (lf_a_1t C F A B G1 G2 [] id i v p q UUU UUU β) rfl (lwF5 hc hF fa fb (vL_flats v)) (by decide) (by show 4 ≤ 5; decide) (by kernel_rfl) (by kernel_rfl) (AE.app a (AE.app (AE.cons (bf k) (AE.cons rfl (AE.cons rfl (AE.cons rfl (AE.cons rfl (AE.cons (bf k) (AE.cons rfl (AE.cons rfl AE.nil)))))))) (rdB_ok hi lb hB)))
        exact ⟨_, _, ⟨_, _, β', 1, f, .inr (.inl ⟨vL v, dead, false, vL_flats _, rfl, rfl⟩)⟩, pad hp Q⟩
      | false =>
        obtain ⟨β', f, Q⟩ := hopF_ok noNG nh3_ok noLoop_low (noLoop_ok _) lf_one [6] (T := lfT id false (i + 1) (pAt 4 0) UUU UUU UUU (pAt 4 0) UUU) (zs := lfZ) (fun β => rfl) lfCa hβ (lf_a_1f C F A B G1 G2 [] id i v p q UUU UUU β) rfl (lwF5 hc hF fa fb (vL_flats v)) (by decide) (by show 4 ≤ 5; decide) (by kernel_rfl) (by kernel_rfl) (AE.app a (AE.app (AE.cons (bf k) (AE.cons rfl (AE.cons rfl (AE.cons rfl (AE.cons rfl (AE.cons (bf k) (AE.cons rfl (AE.cons rfl AE.nil)))))))) (rdB_ok hi lb hB)))
        exact ⟨_, _, ⟨_, _, β', 1, f, .inr (.inl ⟨vL v, dead, false, vL_flats _, rfl, rfl⟩)⟩, pad hp Q⟩
    · cases b with
      | true =>
        obtain ⟨β', f, Q⟩ := hopF_ok noNG nh3_ok noLoop_low (noLoop_ok _) lf_one [6] (T := lfT id true (i + 1) (pAt 4 0) UUU UUU UUU (pAt 4 0) UUU) (zs := lfZ) (fun β => rfl) lfCa hβ (lf_a_1t C F A B ⟨true, none, K⟩ G2 [] id i v p q (pAt 4 0) (tOf 4 e0) β) rfl (lwF5 hc hF fa fb (vL_flats v)) (by decide) (by show 4 ≤ 5; decide) (by kernel_rfl) (by kernel_rfl) (AE.app a (AE.app (AE.cons (bf k) (AE.cons rfl (AE.cons rfl (AE.cons rfl (AE.cons rfl (AE.cons (bf k) (AE.cons rfl (AE.cons rfl AE.nil)))))))) (rdB_ok hi lb hB)))
        exact ⟨_, _, ⟨_, _, β', 1, f, .inr (.inl ⟨vL v, dead, false, vL_flats _, rfl, rfl⟩)⟩, pad hp Q⟩
      | false =>
        obtain ⟨β', f, Q⟩ := hopF_ok noNG nh3_ok noLoop_low (noLoop_ok _) lf_one [6] (T := lfT id false (i + 1) (pAt 4 0) UUU UUU UUU (pAt 4 0) UUU) (zs := lfZ) (fun β => rfl) lfCa hβ (lf_a_1f C F A B ⟨true, none, K⟩ G2 [] id i v p q (pAt 4 0) (tOf 4 e0) β) rfl (lwF5 hc hF fa fb (vL_flats v)) (by decide) (by show 4 ≤ 5; decide) (by kernel_rfl) (by kernel_rfl) (AE.app a (AE.app (AE.cons (bf k) (AE.cons rfl (AE.cons rfl (AE.cons rfl (AE.cons rfl (AE.cons (bf k) (AE.cons rfl (AE.cons rfl AE.nil)))))))) (rdB_ok hi lb hB)))
        exact ⟨_, _, ⟨_, _, β', 1, f, .inr (.inl ⟨vL v, dead, false, vL_flats _, rfl, rfl⟩)⟩, pad hp Q⟩
    · obtain ⟨β', f, Q⟩ := hopF_ok noNG nh3_ok noLoop_low (noLoop_ok _) lf_one [4, 6] (T := lfT id true (i + 1) (pAt 5 0) UUU (pAt 4 0) (pAt 4 2) (pAt 5 0) UUU) (zs := lfZ) (fun β => rfl) lfCa hβ (lf_a_2 C F A B ⟨true, none, K⟩ G2 K id i v p q UUU UUU β) rfl (lwF6 hc hF fa fb hK (vL_flats v)) (by decide) (by show 4 ≤ 6; decide) (by kernel_rfl) (by kernel_rfl) (AE.app a (AE.app (AE.cons (bf k) (AE.cons rfl (AE.cons rfl (AE.cons rfl (AE.cons rfl (AE.cons (bf k) (AE.cons rfl (AE.cons rfl AE.nil)))))))) (rdB_ok hi lb hB)))
      exact ⟨_, _, ⟨_, _, β', 0, f, .inr (.inr (.inr (.inl ⟨rfl, _, vL v, false, hK, vL_flats _, rfl, rfl⟩)))⟩, pad hp Q⟩
    · obtain ⟨β', f, Q⟩ := hopF_ok noNG nh3_ok noLoop_low (noLoop_ok _) lf_one [4, 6] (T := lfT id true (i + 1) (pAt 5 0) UUU (pAt 4 0) (pAt 4 2) (pAt 5 0) UUU) (zs := lfZ) (fun β => rfl) lfCa hβ (lf_a_2 C F A B ⟨true, none, K⟩ ⟨true, none, K2⟩ K id i v p q (pAt 5 0) (tOf 5 e0) β) rfl (lwF6 hc hF fa fb hK (vL_flats v)) (by decide) (by show 4 ≤ 6; decide) (by kernel_rfl) (by kernel_rfl) (AE.app a (AE.app (AE.cons (bf k) (AE.cons rfl (AE.cons rfl (AE.cons rfl (AE.cons rfl (AE.cons (bf k) (AE.cons rfl (AE.cons rfl AE.nil)))))))) (rdB_ok hi lb hB)))
      exact ⟨_, _, ⟨_, _, β', 0, f, .inr (.inr (.inr (.inl ⟨rfl, _, vL v, false, hK, vL_flats _, rfl, rfl⟩)))⟩, pad hp Q⟩
    · obtain ⟨β', f, Q⟩ := hopF_ok noNG nh3_ok noLoop_low (noLoop_ok _) lf_one [5, 6] (T := lfT id true (i + 1) (pAt 5 0) UUU (pAt 4 0) (pAt 4 2) (pAt 5 0) UUU) (zs := lfZ) (fun β => rfl) lfCa hβ (lf_a_3 C F A B ⟨true, none, K⟩ dead K2 id i v p q (pAt 4 0) (tOf 4 e0) β) rfl (lwF6 hc hF fa fb hK2 (vL_flats v)) (by decide) (by show 4 ≤ 6; decide) (by kernel_rfl) (by kernel_rfl) (AE.app a (AE.app (AE.cons (bf k) (AE.cons rfl (AE.cons rfl (AE.cons rfl (AE.cons rfl (AE.cons (bf k) (AE.cons rfl (AE.cons rfl AE.nil)))))))) (rdB_ok hi lb hB)))
      exact ⟨_, _, ⟨_, _, β', 0, f, .inr (.inr (.inr (.inl ⟨rfl, _, vL v, false, hK2, vL_flats _, rfl, rfl⟩)))⟩, pad hp Q⟩
  | true =>
    cases e : v.i == id with
    | false =>
      rw [fv_i k e] at hB
      rcases hs with ⟨G1, G2, rfl, hp⟩ | ⟨K, G2, e0, hK, rfl, hp⟩ | ⟨rfl, K, G2, hK, rfl, hp⟩ | ⟨rfl, K, K2, e0, hK, hK2, rfl, hp⟩ | ⟨rfl, K, K2, e0, hK, hK2, rfl, hp⟩
      · cases b with
        | true =>
          obtain ⟨β', f, Q⟩ := hopF_ok noNG nh3_ok noLoop_low (noLoop_ok _) lf_one [6] (T := lfT id true (i + 1) (pAt 4 0) (pAt 4 2) UUU UUU (pAt 4 0) (pAt 4 2)) (zs := lfZ) (fun β => rfl) lfCa hβ (lf_b_1t C F A B G1 G2 [] id i v p q UUU UUU β) rfl (lwF5 hc hF fa fb (vL_flats v)) (by decide) (by show 4 ≤ 5; decide) (by kernel_rfl) (by kernel_rfl) (AE.app a (AE.app (AE.cons (bt k) (AE.cons rfl (AE.cons (bf e) (AE.cons rfl (AE.cons rfl (AE.cons rfl (AE.cons (bt k) (AE.cons rfl (AE.cons (bf e) (AE.cons rfl AE.nil)))))))))) (rdB_ok hi lb hB)))
          exact ⟨_, _, ⟨_, _, β', 1, f, .inr (.inl ⟨vL v, dead, true, vL_flats _, rfl, rfl⟩)⟩, pad hp Q⟩
        | false =>
          obtain ⟨β', f, Q⟩ := hopF_ok noNG nh3_ok noLoop_low (noLoop_ok _) lf_one [6] (T := lfT id false (i + 1) (pAt 4 0) (pAt 4 2) UUU UUU (pAt 4 0) (pAt 4 2)) (zs := lfZ) (fun β => rfl) lfCa hβ (lf_b_1f C F A B G1 G2 [] id i v p q UUU UUU β) rfl (lwF5 hc hF fa fb (vL_flats v)) (by decide) (by show 4 ≤ 5; decide) (by kernel_rfl) (by kernel_rfl) (AE.app a (AE.app (AE.cons (bt k) (AE.cons rfl (AE.cons (bf e) (AE.cons rfl (AE.cons rfl (AE.cons rfl (AE.cons (bt k) (AE.cons rfl (AE.cons (bf e) (AE.cons rfl AE.nil)))))))))) (rdB_ok hi lb hB)))
          exact ⟨_, _, ⟨_, _, β', 1, f, .inr (.inl ⟨vL v, dead, true, vL_flats _, rfl, rfl⟩)⟩, pad hp Q⟩
      · cases b with
        | true =>
          obtain ⟨β', f, Q⟩ := hopF_ok noNG nh3_ok noLoop_low (noLoop_ok _) lf_one [6] (T := lfT id true (i + 1) (pAt 4 0) (pAt 4 2) UUU UUU (pAt 4 0) (pAt 4 2)) (zs := lfZ) (fun β => rfl) lfCa hβ (lf_b_1t C F A B ⟨true, none, K⟩ G2 [] id i v p q (pAt 4 0) (tOf 4 e0) β) rfl (lwF5 hc hF fa fb (vL_flats v)) (by decide) (by show 4 ≤ 5; decide) (by kernel_rfl) (by kernel_rfl) (AE.app a (AE.app (AE.cons (bt k) (AE.cons rfl (AE.cons (bf e) (AE.cons rfl (AE.cons rfl (AE.cons rfl (AE.cons (bt k) (AE.cons rfl (AE.cons (bf e) (AE.cons rfl AE.nil)))))))))) (rdB_ok hi lb hB)))
          exact ⟨_, _, ⟨_, _, β', 1, f, .inr (.inl ⟨vL v, dead, true, vL_flats _, rfl, rfl⟩)⟩, pad hp Q⟩
        | false =>
          obtain ⟨β', f, Q⟩ := hopF_ok noNG nh3_ok noLoop_low (noLoop_ok _) lf_one [6] (T := lfT id false (i + 1) (pAt 4 0) (pAt 4 2) UUU UUU (pAt 4 0) (pAt 4 2)) (zs := lfZ) (fun β => rfl) lfCa hβ (lf_b_1f C F A B ⟨true, none, K⟩ G2 [] id i v p q (pAt 4 0) (tOf 4 e0) β) rfl (lwF5 hc hF fa fb (vL_flats v)) (by decide) (by show 4 ≤ 5; decide) (by kernel_rfl) (by kernel_rfl) (AE.app a (AE.app (AE.cons (bt k) (AE.cons rfl (AE.cons (bf e) (AE.cons rfl (AE.cons rfl (AE.cons rfl (AE.cons (bt k) (AE.cons rfl (AE.cons (bf e) (AE.cons rfl AE.nil)))))))))) (rdB_ok hi lb hB)))
          exact ⟨_, _, ⟨_, _, β', 1, f, .inr (.inl ⟨vL v, dead, true, vL_flats _, rfl, rfl⟩)⟩, pad hp Q⟩
      · obtain ⟨β', f, Q⟩ := hopF_ok noNG nh3_ok noLoop_low (noLoop_ok _) lf_one [4, 6] (T := lfT id true (i + 1) (pAt 5 0) (pAt 5 2) (pAt 4 0) (pAt 4 2) (pAt 5 0) (pAt 5 2)) (zs := lfZ) (fun β => rfl) lfCa hβ (lf_b_2 C F A B ⟨true, none, K⟩ G2 K id i v p q UUU UUU β) rfl (lwF6 hc hF fa fb hK (vL_flats v)) (by decide) (by show 4 ≤ 6; decide) (by kernel_rfl) (by kernel_rfl) (AE.app a (AE.app (AE.cons (bt k) (AE.cons rfl (AE.cons (bf e) (AE.cons rfl (AE.cons rfl (AE.cons rfl (AE.cons (bt k) (AE.cons rfl (AE.cons (bf e) (AE.cons rfl AE.nil)))))))))) (rdB_ok hi lb hB)))
        exact ⟨_, _, ⟨_, _, β', 0, f, .inr (.inr (.inr (.inl ⟨rfl, _, vL v, true, hK, vL_flats _, rfl, rfl⟩)))⟩, pad hp Q⟩
      · obtain ⟨β', f, Q⟩ := hopF_ok noNG nh3_ok noLoop_low (noLoop_ok _) lf_one [4, 6] (T := lfT id true (i + 1) (pAt 5 0) (pAt 5 2) (pAt 4 0) (pAt 4 2) (pAt 5 0) (pAt 5 2)) (zs := lfZ) (fun β => rfl) lfCa hβ (lf_b_2 C F A B ⟨true, none, K⟩ ⟨true, none, K2⟩ K id i v p q (pAt 5 0) (tOf 5 e0) β) rfl (lwF6 hc hF fa fb hK (vL_flats v)) (by decide) (by show 4 ≤ 6; decide) (by kernel_rfl) (by kernel_rfl) (AE.app a (AE.app (AE.cons (bt k) (AE.cons rfl (AE.cons (bf e) (AE.cons rfl (AE.cons rfl (AE.cons rfl (AE.cons (bt k) (AE.cons rfl (AE.cons (bf e) (AE.cons rfl AE.nil)))))))))) (rdB_ok hi lb hB)))
        exact ⟨_, _, ⟨_, _, β', 0, f, .inr (.inr (.inr (.inl ⟨rfl, _, vL v, true, hK, vL_flats _, rfl, rfl⟩)))⟩, pad hp Q⟩
      · obtain ⟨β', f, Q⟩ := hopF_ok noNG nh3_ok noLoop_low (noLoop_ok _) lf_one [5, 6] (T := lfT id true (i + 1) (pAt 5 0) (pAt 5 2) (pAt 4 0) (pAt 4 2) (pAt 5 0) (pAt 5 2)) (zs := lfZ) (fun β => rfl) lfCa hβ (lf_b_3 C F A B ⟨true, none, K⟩ dead K2 id i v p q (pAt 4 0) (tOf 4 e0) β) rfl (lwF6 hc hF fa fb hK2 (vL_flats v)) (by decide) (by show 4 ≤ 6; decide) (by kernel_rfl) (by kernel_rfl) (AE.app a (AE.app (AE.cons (bt k) (AE.cons rfl (AE.cons (bf e) (AE.cons rfl (AE.cons rfl (AE.cons rfl (AE.cons (bt k) (AE.cons rfl (AE.cons (bf e) (AE.cons rfl AE.nil)))))))))) (rdB_ok hi lb hB)))
        exact ⟨_, _, ⟨_, _, β', 0, f, .inr (.inr (.inr (.inl ⟨rfl, _, vL v, true, hK2, vL_flats _, rfl, rfl⟩)))⟩, pad hp Q⟩
    | true =>
      cases b with
      | true =>
        rw [fv_s k e] at hB
        rcases hs with ⟨G1, G2, rfl, hp⟩ | ⟨K, G2, e0, hK, rfl, hp⟩ | ⟨_, K, G2, hK, rfl, hp⟩ | ⟨_, K, K2, e0, hK, hK2, rfl, hp⟩ | ⟨_, K, K2, e0, hK, hK2, rfl, hp⟩
        · obtain ⟨β', f, Q⟩ := hopF_ok noNG nh3_ok noLoop_low (noLoop_ok _) lf_one [6] (T := lfT id true (i + 1) (pAt 4 0) (pAt 4 2) (pAt 4 0) (pAt 4 2) UUU UUU) (zs := lfZ) (fun β => rfl) lfCc hβ (lf_c_1 C F A B G1 G2 [] id i v p q UUU UUU β) rfl (lwF5 hc hF fa fb (vL_flats (fVs v))) (by decide) (by show 4 ≤ 5; decide) (by kernel_rfl) (by kernel_rfl) (AE.app a (AE.app (AE.cons (bt k) (AE.cons rfl (AE.cons (bt e) (AE.cons rfl (AE.cons rfl (AE.cons rfl AE.nil)))))) (rdB_ok hi lb hB)))
          exact ⟨_, _, ⟨_, _, β', 1, f, .inr (.inr (.inl ⟨rfl, vL (fVs v), dead, vL_flats _, rfl, rfl⟩))⟩, pad hp Q⟩
        · cases e0 with
          | false =>
            obtain ⟨β', f, Q⟩ := hopF_ok noNG nh3_ok noLoop_low (noLoop_ok _) lf_one [4, 6] (T := lfT id true (i + 1) (pAt 5 0) (pAt 5 2) (pAt 5 0) (pAt 5 2) (pAt 4 0) UUU) (zs := lfZ) (fun β => rfl) lfCc hβ (lf_c_20 C F A B ⟨true, none, K⟩ G2 K id i v p q UUU UUU β) rfl (lwF6 hc hF fa fb hK (vL_flats (fVs v))) (by decide) (by show 4 ≤ 6; decide) (by kernel_rfl) (by kernel_rfl) (AE.app a (AE.app (AE.cons (bt k) (AE.cons rfl (AE.cons (bt e) (AE.cons rfl (AE.cons rfl (AE.cons rfl AE.nil)))))) (rdB_ok hi lb hB)))
            exact ⟨_, _, ⟨_, _, β', 0, f, .inr (.inr (.inr (.inr ⟨rfl, _, vL (fVs v), false, hK, vL_flats _, rfl, rfl⟩)))⟩, pad hp Q⟩
          | true =>
            obtain ⟨β', f, Q⟩ := hopF_ok noNG nh3_ok noLoop_low (noLoop_ok _) lf_one [4, 6] (T := lfT id true (i + 1) (pAt 5 0) (pAt 5 2) (pAt 5 0) (pAt 5 2) (pAt 4 0) (pAt 4 2)) (zs := lfZ) (fun β => rfl) lfCc hβ (lf_c_21 C F A B ⟨true, none, K⟩ G2 K id i v p q UUU UUU β) rfl (lwF6 hc hF fa fb hK (vL_flats (fVs v))) (by decide) (by show 4 ≤ 6; decide) (by kernel_rfl) (by kernel_rfl) (AE.app a (AE.app (AE.cons (bt k) (AE.cons rfl (AE.cons (bt e) (AE.cons rfl (AE.cons rfl (AE.cons rfl AE.nil)))))) (rdB_ok hi lb hB)))
            exact ⟨_, _, ⟨_, _, β', 0, f, .inr (.inr (.inr (.inr ⟨rfl, _, vL (fVs v), true, hK, vL_flats _, rfl, rfl⟩)))⟩, pad hp Q⟩
        · obtain ⟨β', f, Q⟩ := hopF_ok noNG nh3_ok noLoop_low (noLoop_ok _) lf_one [6] (T := lfT id true (i + 1) (pAt 4 0) (pAt 4 2) (pAt 4 0) (pAt 4 2) UUU UUU) (zs := lfZ) (fun β => rfl) lfCc hβ (lf_c_1 C F A B ⟨true, none, K⟩ G2 [] id i v p q (pAt 4 0) (pAt 4 2) β) rfl (lwF5 hc hF fa fb (vL_flats (fVs v))) (by decide) (by show 4 ≤ 5; decide) (by kernel_rfl) (by kernel_rfl) (AE.app a (AE.app (AE.cons (bt k) (AE.cons rfl (AE.cons (bt e) (AE.cons rfl (AE.cons rfl (AE.cons rfl AE.nil)))))) (rdB_ok hi lb hB)))
          exact ⟨_, _, ⟨_, _, β', 1, f, .inr (.inr (.inl ⟨rfl, vL (fVs v), dead, vL_flats _, rfl, rfl⟩))⟩, pad hp Q⟩
        · cases e0 with
          | false =>
            obtain ⟨β', f, Q⟩ := hopF_ok noNG nh3_ok noLoop_low (noLoop_ok _) lf_one [5, 6] (T := lfT id true (i + 1) (pAt 5 0) (pAt 5 2) (pAt 5 0) (pAt 5 2) (pAt 4 0) UUU) (zs := lfZ) (fun β => rfl) lfCc hβ (lf_c_30 C F A B ⟨true, none, K⟩ ⟨true, none, K2⟩ K2 id i v p q (pAt 4 0) (pAt 4 2) β) rfl (lwF6 hc hF fa fb hK2 (vL_flats (fVs v))) (by decide) (by show 4 ≤ 6; decide) (by kernel_rfl) (by kernel_rfl) (AE.app a (AE.app (AE.cons (bt k) (AE.cons rfl (AE.cons (bt e) (AE.cons rfl (AE.cons rfl (AE.cons rfl AE.nil)))))) (rdB_ok hi lb hB)))
            exact ⟨_, _, ⟨_, _, β', 0, f, .inr (.inr (.inr (.inr ⟨rfl, _, vL (fVs v), false, hK2, vL_flats _, rfl, rfl⟩)))⟩, pad hp Q⟩
          | true =>
            obtain ⟨β', f, Q⟩ := hopF_ok noNG nh3_ok noLoop_low (noLoop_ok _) lf_one [5, 6] (T := lfT id true (i + 1) (pAt 5 0) (pAt 5 2) (pAt 5 0) (pAt 5 2) (pAt 4 0) (pAt 4 2)) (zs := lfZ) (fun β => rfl) lfCc hβ (lf_c_31 C F A B ⟨true, none, K⟩ ⟨true, none, K2⟩ K2 id i v p q (pAt 4 0) (pAt 4 2) β) rfl (lwF6 hc hF fa fb hK2 (vL_flats (fVs v))) (by decide) (by show 4 ≤ 6; decide) (by kernel_rfl) (by kernel_rfl) (AE.app a (AE.app (AE.cons (bt k) (AE.cons rfl (AE.cons (bt e) (AE.cons rfl (AE.cons rfl (AE.cons rfl AE.nil)))))) (rdB_ok hi lb hB)))
            exact ⟨_, _, ⟨_, _, β', 0, f, .inr (.inr (.inr (.inr ⟨rfl, _, vL (fVs v), true, hK2, vL_flats _, rfl, rfl⟩)))⟩, pad hp Q⟩
        · cases e0 with
          | false =>
            obtain ⟨β', f, Q⟩ := hopF_ok noNG nh3_ok noLoop_low (noLoop_ok _) lf_one [4, 6] (T := lfT id true (i + 1) (pAt 5 0) (pAt 5 2) (pAt 5 0) (pAt 5 2) (pAt 4 0) UUU) (zs := lfZ) (fun β => rfl) lfCc hβ (lf_c_20 C F A B ⟨true, none, K⟩ ⟨true, none, K2⟩ K id i v p q (pAt 5 0) (pAt 5 2) β) rfl (lwF6 hc hF fa fb hK (vL_flats (fVs v))) (by decide) (by show 4 ≤ 6; decide) (by kernel_rfl) (by kernel_rfl) (AE.app a (AE.app (AE.cons (bt k) (AE.cons rfl (AE.cons (bt e) (AE.cons rfl (AE.cons rfl (AE.cons rfl AE.nil)))))) (rdB_ok hi lb hB)))
            exact ⟨_, _, ⟨_, _, β', 0, f, .inr (.inr (.inr (.inr ⟨rfl, _, vL (fVs v), false, hK, vL_flats _, rfl, rfl⟩)))⟩, pad hp Q⟩
          | true =>
            obtain ⟨β', f, Q⟩ := hopF_ok noNG nh3_ok noLoop_low (noLoop_ok _) lf_one [4, 6] (T := lfT id true (i + 1) (pAt 5 0) (pAt 5 2) (pAt 5 0) (pAt 5 2) (pAt 4 0) (pAt 4 2)) (zs := lfZ) (fun β => rfl) lfCc hβ (lf_c_21 C F A B ⟨true, none, K⟩ ⟨true, none, K2⟩ K id i v p q (pAt 5 0) (pAt 5 2) β) rfl (lwF6 hc hF fa fb hK (vL_flats (fVs v))) (by decide) (by show 4 ≤ 6; decide) (by kernel_rfl) (by kernel_rfl) (AE.app a (AE.app (AE.cons (bt k) (AE.cons rfl (AE.cons (bt e) (AE.cons rfl (AE.cons rfl (AE.cons rfl AE.nil)))))) (rdB_ok hi lb hB)))
            exact ⟨_, _, ⟨_, _, β', 0, f, .inr (.inr (.inr (.inr ⟨rfl, _, vL (fVs v), true, hK, vL_flats _, rfl, rfl⟩)))⟩, pad hp Q⟩
      | false =>
        rw [fv_n k e] at hB
        rcases hs with ⟨G1, G2, rfl, hp⟩ | ⟨K, G2, e0, hK, rfl, hp⟩ | ⟨hb, K, G2, hK, rfl, hp⟩ | ⟨hb, K, K2, e0, hK, hK2, rfl, hp⟩ | ⟨hb, K, K2, e0, hK, hK2, rfl, hp⟩
        · obtain ⟨β', f, Q⟩ := hopF_ok noNG nh3_ok noLoop_low (noLoop_ok _) lf_one [6] (T := lfT id false (i + 1) (pAt 4 0) (pAt 4 2) UUU UUU (pAt 4 0) (pAt 4 2)) (zs := lfZ) (fun β => rfl) lfCd hβ (lf_d C F A B G1 G2 [] id i v p q UUU UUU β) rfl (lwF5 hc hF fa fb (vL_flats fVn)) (by decide) (by show 4 ≤ 5; decide) (by kernel_rfl) (by kernel_rfl) (AE.app a (AE.app (AE.cons (bt k) (AE.cons rfl (AE.cons (bt e) (AE.cons rfl (AE.cons rfl (AE.cons rfl (AE.cons (bt k) (AE.cons rfl (AE.cons (bt e) (AE.cons rfl AE.nil)))))))))) (rdB_ok hi lb hB)))
          exact ⟨_, _, ⟨_, _, β', 1, f, .inr (.inl ⟨vL fVn, dead, true, vL_flats _, rfl, rfl⟩)⟩, pad hp Q⟩
        · obtain ⟨β', f, Q⟩ := hopF_ok noNG nh3_ok noLoop_low (noLoop_ok _) lf_one [6] (T := lfT id false (i + 1) (pAt 4 0) (pAt 4 2) UUU UUU (pAt 4 0) (pAt 4 2)) (zs := lfZ) (fun β => rfl) lfCd hβ (lf_d C F A B ⟨true, none, K⟩ G2 [] id i v p q (pAt 4 0) (tOf 4 e0) β) rfl (lwF5 hc hF fa fb (vL_flats fVn)) (by decide) (by show 4 ≤ 5; decide) (by kernel_rfl) (by kernel_rfl) (AE.app a (AE.app (AE.cons (bt k) (AE.cons rfl (AE.cons (bt e) (AE.cons rfl (AE.cons rfl (AE.cons rfl (AE.cons (bt k) (AE.cons rfl (AE.cons (bt e) (AE.cons rfl AE.nil)))))))))) (rdB_ok hi lb hB)))
          exact ⟨_, _, ⟨_, _, β', 1, f, .inr (.inl ⟨vL fVn, dead, true, vL_flats _, rfl, rfl⟩)⟩, pad hp Q⟩
        · exact absurd hb (by decide)
        · exact absurd hb (by decide)
        · exact absurd hb (by decide)
theorem lf_rounds (b : Bool) (V : Nat → VI) (la : A.length = 825) (lb : B.length = 825) (fa : A.all Ex.flat = true) (fb : B.all Ex.flat = true)
    (hA : ∀ i, i < 75 → (A.drop (0 + i * 11)).take 11 = vL (V i)) (hB : ∀ i, i < 75 → (B.drop (0 + i * 11)).take 11 = vL (foundV id b (V i))) : ∀ (d i : Nat) (t : List Value) (h : List AO), i + d = 75 → lfI C F A B id b i t h →
    ∃ t' h', lfI C F A B id b 75 t' h' ∧ HopQ Try.prog lfLp d 4 t h t' h' (some 6, [])
  | 0, i, t, h, e, hI => by
    obtain rfl : i = 75 := by omega
    exact ⟨t, h, hI, HopQ.zero _ _ _ _⟩
  | d + 1, i, t, h, e, hI => by
    obtain ⟨t1, h1, I1, q1⟩ := lf_step id hc hF (show i < 75 by omega) b (V i) la lb fa fb (hA i (by omega)) (hB i (by omega)) hI
    obtain ⟨t2, h2, I2, q2⟩ := lf_rounds b V la lb fa fb hA hB d (i + 1) t1 h1 (by omega) I1
    refine ⟨t2, h2, I2, ?_⟩
    rw [show d + 1 = 1 + d by omega]
    exact q1.trans q2 (fun _ _ h => h) (fun _ _ h => h)
omit hc hF in
theorem lf_end {b : Bool} {t : List Value} {h : List AO} (hI : lfI C F A B id b 75 t h) : ∃ β G1 G2, StopQ Try.prog lfLp 1 4 t h (.exit 0) (lfN β) (lwH C F A B G1 G2) (some 6, []) := by
  have key : ∀ (p q r r2 s u : Value) (β : Nat → Value) (G1 G2 : AO) (k : Nat), h ++ List.replicate k dead = lwH C F A B G1 G2 → t = lfT id b 75 p q r r2 s u β → ∃ β G1 G2, StopQ Try.prog lfLp 1 4 t h (.exit 0) (lfN β) (lwH C F A B G1 G2) (some 6, []) := by
    intro p q r r2 s u β G1 G2 k e ht
    subst ht
    obtain ⟨β', Q⟩ := stopM_ok noNG nh3_ok noLoop_low (noLoop_ok _) lf_one (fun β => rfl) (lf_stop C F A B G1 G2 id b p q r r2 s u ⟨0, 0, 0, 0, 0, 0, 0, 0, 0, 0, 0⟩ β) (AE.cons (b0 (by decide)) AE.nil)
    exact ⟨β', G1, G2, StopQ.pad k (by rw [e]; exact (Stop.toQ Q).weak (bndW rfl))⟩
  obtain ⟨p, q, β, r, hβ, hs⟩ := hI
  rcases hs with ⟨G1, G2, ht, hp⟩ | ⟨K, G2, e0, hK, ht, hp⟩ | ⟨_, K, G2, hK, ht, hp⟩ | ⟨_, K, K2, e0, hK, hK2, ht, hp⟩ | ⟨_, K, K2, e0, hK, hK2, ht, hp⟩
  · exact key p q _ _ _ _ β _ _ r hp ht
  · exact key p q _ _ _ _ β _ _ r hp ht
  · exact key p q _ _ _ _ β _ _ r hp ht
  · exact key p q _ _ _ _ β _ _ r hp ht
  · exact key p q _ _ _ _ β _ _ r hp ht
theorem lf_loop (b : Bool) (V : Nat → VI) (la : A.length = 825) (lb : B.length = 825) (fa : A.all Ex.flat = true) (fb : B.all Ex.flat = true)
    (hA : ∀ i, i < 75 → (A.drop (0 + i * 11)).take 11 = vL (V i)) (hB : ∀ i, i < 75 → (B.drop (0 + i * 11)).take 11 = vL (foundV id b (V i))) (β : Nat → Value) (hβ : FlR 4 β) :
    ∃ N β' G1 G2, StopQ Try.prog lfLp N 4 (lfT id b 0 UUU UUU UUU UUU UUU UUU β) [C, ⟨true, none, F⟩, ⟨true, some 11, A⟩, ⟨true, some 11, B⟩] (.exit 0) (lfN β') (lwH C F A B G1 G2) (some 6, []) := by
  obtain ⟨t, h, I, q⟩ := lf_rounds id hc hF b V la lb fa fb hA hB 75 0 (lfT id b 0 UUU UUU UUU UUU UUU UUU β) [C, ⟨true, none, F⟩, ⟨true, some 11, A⟩, ⟨true, some 11, B⟩] rfl ⟨UUU, UUU, β, 2, hβ, .inl ⟨dead, dead, rfl, rfl⟩⟩
  obtain ⟨β', G1, G2, q2⟩ := lf_end id I
  exact ⟨_, β', G1, G2, q.stop q2 (fun _ _ h => h) (fun _ _ h => h)⟩
end
end Go.Proofs.Ytebolmfdglmpoaa.Ex
end
section
namespace Go.Proofs.Ytebolmfdglmpoaa.Ex
open Go Go.RowKit
set_option maxHeartbeats 0
set_option maxRecDepth 1000000
set_option linter.unusedVariables false
set_option linter.unusedSectionVars false
/-- Found of a frame that is known. -/
noncomputable def hkFoundX (X : List Value) : Hook := fun f args _ =>
  if Nat.beq f 26 then
    match args with
    | [.agg ⟨M⟩, .int .i64 id, .bool b] => some (.agg ⟨tuF (foundV id b) X⟩, [prP (M = X), prP (OkF X)])
    | _ => none
  else none
theorem hkFoundX_ok (X : List Value) : HookOk Try.prog (hkFoundX X) := by
  intro f args h v cs hv hc wb k s w H
  unfold hkFoundX at hv
  split at hv
  · rename_i hf
    obtain rfl := Nat.eq_of_beq_eq_true hf
    split at hv
    · rename_i M id b
      cases hv
      obtain rfl := prP_of (hc _ (List.mem_cons_self ..))
      exact c_found (prP_of (hc _ (List.mem_cons_of_mem _ (List.mem_cons_self ..)))) id b w
    · cases hv
  · cases hv
noncomputable def lf3 (F : List Value) (id : Int) (b : Bool) : Hook3 := or3 (liftQ hkFrame) (or3 (liftQ hkFrame0) (or3 (hkAll F (foundV id b)) (or3 (liftP (hkFoundX F)) (liftG 17 hkBegun))))
theorem lf3_ok (F : List Value) (id : Int) (b : Bool) : HookOk3 Try.prog (lf3 F id b) := or3_ok (liftQ_ok hkFrame_ok) (or3_ok (liftQ_ok hkFrame0_ok) (or3_ok (hkAll_ok F _) (or3_ok (liftP_ok (hkFoundX_ok F)) (liftG_ok hkBegun_ok))))
noncomputable def lfO (g : Bool) (F : List Value) : Orc := fun f t _ =>
  if Nat.beq f lfF then
    match t with
    | 14 => some (.bool g)
    | 18 => some (tld (.agg ⟨spF F⟩))
    | 20 => some (tld (.agg ⟨spF F⟩))
    | t => if Nat.beq t 2000007 then some (tld (.agg ⟨F⟩)) else none
  else none
noncomputable def lfE (s0 : Value) (n : Nat) (id : Int) (b : Bool) (F : List Value) : List Value := [s0, .int .i64 id, .bool b, UUU, UUU, UUU, .bool false, .pointer (some ⟨1, 0, none⟩), .slice (some ⟨2, 0, none⟩) 75 75, .slice (some ⟨3, 0, none⟩) 75 75, .int .i64 0, UUU, s0, .int .i64 (n : Int), .bool false, UUU, s0, .agg ⟨F⟩, .agg ⟨spF F⟩, .slice (some ⟨2, 0, none⟩) 75 75, .agg ⟨spF F⟩, .int .i64 id, .bool b, .agg ⟨tuF (foundV id b) F⟩, .slice (some ⟨3, 0, none⟩) 75 75, UUU, UUU, UUU, UUU, UUU, UUU, UUU, UUU, UUU, UUU, UUU, UUU, UUU, UUU, UUU, UUU, UUU, UUU, UUU, UUU, UUU, UUU, UUU, UUU, UUU, UUU, UUU, UUU, UUU, UUU, UUU, UUU, UUU, UUU, UUU, UUU, UUU, UUU, UUU, UUU, UUU, UUU]
theorem lfE_eq (s0 : Value) (n : Nat) (id : Int) (b : Bool) (F : List Value) : lfT id b 0 UUU UUU UUU UUU UUU UUU (fun k => (lfE s0 n id b F).getD k (.bool true)) = lfE s0 n id b F := by kernel_rfl
theorem lfE_ok {s0 : Value} {n : Nat} {id : Int} {b : Bool} {F : List Value} (h : OkF F) (hs : okR 4 s0 = true) : FlR 4 (fun k => (lfE s0 n id b F).getD k (.bool true)) := by
  have h1 : okR 4 (.agg ⟨F⟩) = true := refF_flat 4 h.flat
  have h2 : okR 4 (.agg ⟨spF F⟩) = true := by rw [spF_eq h]; exact h1
  have h3 : okR 4 (.agg ⟨tuF (foundV id b) F⟩) = true := refF_flat 4 (tuF_ok _ h).flat
  have a : (lfE s0 n id b F).all (okR 4) = true := by
    unfold lfE
    simp only [List.all_cons, List.all_nil, h1, h2, h3, hs, Bool.and_true, Bool.true_and]
    rfl
  intro k
  show okR 4 ((lfE s0 n id b F).getD k (.bool true)) = true
  rw [List.getD_eq_getElem?_getD]
  cases e : (lfE s0 n id b F)[k]? with
  | none => rfl
  | some v => exact List.all_eq_true.1 a v (List.mem_of_getElem? e)
noncomputable def lfHe (C : AO) (F : List Value) (id : Int) (b : Bool) : List AO := [C, ⟨true, none, F⟩, ⟨true, some 11, allV (fun v => v) F⟩, ⟨true, some 11, allV (foundV id b) F⟩]
noncomputable def lfQ (C : AO) (s0 : Value) (n : Nat) (id : Int) (b : Bool) (F : List Value) (β : Nat → Value) (G1 G2 : AO) : LoopQ := ⟨lfF, 0, fun _ => true, lfE s0 n id b F, lfHe C F id b, .exit 0, lfN β, lwH C F (allV (fun v => v) F) (allV (foundV id b) F) G1 G2, (some 6, [])⟩
noncomputable def lfP (C : AO) (s0 : Value) (n : Nat) (id : Int) (b : Bool) (F : List Value) : Cs := stX zF 0 890 F F ++ (ldP F 0 890 (spF F) ++ ([prP (spF F = tuF (fun v => v) F)] ++ (ldP F 0 890 (spF F) ++ ([(b2i (([.agg ⟨spF F⟩, .int .i64 id, .bool b] : List Value).all flat && flat (.agg ⟨tuF (foundV id b) F⟩)), 1), prP (spF F = F), prP (OkF F), prP (tuF (foundV id b) F = tuF (foundV id b) F), prP (lfE s0 n id b F = lfE s0 n id b F), prP (lfHe C F id b = lfHe C F id b)]))))
theorem lfP_ok {C : AO} {s0 : Value} {n : Nat} {id : Int} {b : Bool} {F : List Value} (h : OkF F) : AE (lfP C s0 n id b F) := by
  have e := spF_eq h
  have l : AE (ldP F 0 890 (spF F)) := ldP_ok (by rw [h.1]; omega) (by rw [e]; exact h.whole)
  refine AE.app (stX_ok h.one (by rw [h.1, zF_ok.1]; omega) (splice_whole (by rw [h.1, zF_ok.1]))) (AE.app l (AE.app (AE.consP (prP_ok rfl) AE.nil) (AE.app l (AE.cons (bt ?_) (AE.consP (prP_ok e) (AE.consP (prP_ok h) (AE.consP (prP_ok rfl) (AE.consP (prP_ok rfl) (AE.consP (prP_ok rfl) AE.nil)))))))))
  rw [(tuF_ok _ h).flat, e]
  show (flat (.agg ⟨F⟩) && true && true) = true
  rw [h.flat]
  rfl
def lfArgs (s0 : Value) (id : Int) (b : Bool) : List Value := [s0, .int .i64 id, .bool b]
theorem lf_L (cs : List Value) (n c : Nat) (id : Int) (b : Bool) (β : Nat → Value) (G1 G2 : AO) : reckonQI Try.prog (lf3 (frM cs n) id b) (lfO false (frM cs n)) (loopQHook [lfQ ⟨true, none, cs⟩ (.slice (some ⟨0, 0, none⟩) n c) n id b (frM cs n) β G1 G2]) 100000 300 [⟨true, none, cs⟩] lfF (lfArgs (.slice (some ⟨0, 0, none⟩) n c) id b) = some (.bool true, inter (lwPre n cs (frM cs n) ++ lfP ⟨true, none, cs⟩ (.slice (some ⟨0, 0, none⟩) n c) n id b (frM cs n))) := by kernel_rfl
theorem lf_Z (id : Int) (b : Bool) (β : Nat → Value) (G1 G2 : AO) : reckonQI Try.prog (lf3 zF id b) (lfO false zF) (loopQHook [lfQ dead (.slice (some ⟨0, 0, none⟩) 0 0) 0 id b zF β G1 G2]) 100000 300 [dead] lfF (lfArgs (.slice (some ⟨0, 0, none⟩) 0 0) id b) = some (.bool true, inter (lwPre0 zF ++ lfP dead (.slice (some ⟨0, 0, none⟩) 0 0) 0 id b zF)) := by kernel_rfl
theorem lf_N (id : Int) (b : Bool) (β : Nat → Value) (G1 G2 : AO) : reckonQI Try.prog (lf3 zF id b) (lfO false zF) (loopQHook [lfQ dead (.slice none 0 0) 0 id b zF β G1 G2]) 100000 300 [dead] lfF (lfArgs (.slice none 0 0) id b) = some (.bool true, inter (lwPre0 zF ++ lfP dead (.slice none 0 0) 0 id b zF)) := by kernel_rfl
theorem lf_G (n c : Nat) (id : Int) (b : Bool) : reckonQI Try.prog (lf3 zF id b) (lfO true zF) noLoop 100000 300 [dead] lfF (lfArgs (.slice (some ⟨0, 0, none⟩) n c) id b) = some (.bool true, inter [(b2i (decide ((n : Int) > 75)), 1)]) := by kernel_rfl
theorem lf_qok (C : AO) (hC : C.cs.all Ex.flat = true) {F : List Value} (h : OkF F) (s0 : Value) (hs : okR 4 s0 = true) (n : Nat) (id : Int) (b : Bool) : ∃ β G1 G2, LoopQOk Try.prog (lfQ C s0 n id b F β G1 G2) := by
  obtain ⟨N, β, G1, G2, S⟩ := lf_loop (C := C) (F := F) (A := allV (fun v => v) F) (B := allV (foundV id b) F) id hC h b (fun i => vAt F (vPl i)) (allV_len _ _) (allV_len _ _) (allV_flat _ _) (allV_flat _ _)
    (fun i hi => allV_at (fun v => v) F hi) (fun i hi => allV_at (foundV id b) F hi) _ (lfE_ok (s0 := s0) (n := n) (id := id) (b := b) h hs)
  rw [lfE_eq] at S
  exact ⟨β, G1, G2, loopQ_ok (N := N) lf_one (S.stop (by kernel_rfl))⟩
theorem law_found {v : Value} {id : Int} {b : Bool} {w : World} (hS : SlS [.i .i64, .i .i64, .i .i64, .i .i64, .i .i64, .i .u32, .i .u64, .i .u64, .i .u64, .i .u64, .i .u64] w v) :
    Calls Try.prog lfF #[v, .int .i64 id, .bool b] w fun e w' => e = .returned (.bool true) ∧ Gr w w' := by
  have hL : Laid ([] : List AO) w := Laid.nil w
  have tl : ∀ {s : Ren}, LR s [.int .i64 id, .bool b] [.int .i64 id, .bool b] := fun {s} => LR.ofFlat rfl
  have p0 : AE (lwPre0 zF) := AE.cons (b0 (by decide)) (AE.cons (bt zF_ok.flat) AE.nil)
  rcases hS with rfl | ⟨bl, off, n, c, tot, T, l, rfl, hlc, hsh, hll, hfit, hfr, hcl, hok⟩
  · obtain ⟨β, G1, G2, q⟩ := lf_qok dead rfl zF_ok (.slice none 0 0) rfl 0 id b
    have H : HR w 1 (placeG [] w) [dead] w := ((HR.start hL).pad 1).here
    exact reckonQ_ok noNG (lf3_ok _ _ _) (loopQHook_low _) (loopQHook_ok (fun e he => by rw [List.mem_singleton.1 he]; exact q)) _ _ _ _ rfl (lf_N id b β G1 G2) (AE.app p0 (lfP_ok zF_ok)) H (LR.ofFlat rfl)
  have hb : bl < w.heap.size := by
    unfold World.shape? at hsh
    split at hsh
    · rename_i h; exact (Array.getElem?_eq_some_iff.1 h).1
    · cases hsh
  by_cases c0 : n = 0
  · subst c0
    obtain ⟨β, G1, G2, q⟩ := lf_qok dead rfl zF_ok (.slice (some ⟨0, 0, none⟩) 0 0) rfl 0 id b
    have H := HR.withPl (pl := ⟨bl, off, off + c, some 1⟩) hL hb (by intro h; simp [GM] at h)
    have lr : LR (upd (placeG [] w) 0 ⟨bl, off, off + c, some 1⟩) (lfArgs (.slice (some ⟨0, 0, none⟩) 0 0) id b) (lfArgs (.slice (some ⟨bl, off, none⟩) 0 c) id b) :=
      LR.cons (VR.slice (a := ⟨0, 0, none⟩) (p := ⟨bl, off, off + c, some 1⟩) rfl (upd_same _ _ _) (by show 0 < 1 ∧ off + 0 + c * 1 = off + c ∧ 0 ≤ c; omega)) tl
    exact reckonQ_ok noNG (lf3_ok _ _ _) (loopQHook_low _) (loopQHook_ok (fun e he => by rw [List.mem_singleton.1 he]; exact q)) _ _ _ _ rfl (lf_Z id b β G1 G2) (AE.app p0 (lfP_ok zF_ok)) H lr
  have lr : LR (upd (placeG [] w) 0 ⟨bl, off, tot, none⟩) (lfArgs (.slice (some ⟨0, 0, none⟩) n c) id b) (lfArgs (.slice (some ⟨bl, off, none⟩) n c) id b) :=
    LR.cons (VR.slice (a := ⟨0, 0, none⟩) (p := ⟨bl, off, tot, none⟩) rfl (upd_same _ _ _) rfl) tl
  by_cases c1 : n ≤ 75
  · have hA : OkT l n := okT_of hll hok
    have o := frM_ok l n
    obtain ⟨β, G1, G2, q⟩ := lf_qok ⟨true, none, l⟩ hA.flat o (.slice (some ⟨0, 0, none⟩) n c) rfl n id b
    have H := HR.withSlice (cs := l) hL hsh (by rw [hll]; exact hfit (by omega)) (by rw [hll]; exact hfr) (fun o v hv => ⟨hcl o v hv, List.all_eq_true.1 hA.flat v (List.mem_of_getElem? hv)⟩) (fun i o hi => by simp at hi)
    have hp : AE (lwPre n l (frM l n)) := AE.cons (b0 (by omega)) (AE.cons (bt o.flat) (AE.consP (prP_ok hA) (AE.cons (b1 c1) AE.nil)))
    exact reckonQ_ok noNG (lf3_ok _ _ _) (loopQHook_low _) (loopQHook_ok (fun e he => by rw [List.mem_singleton.1 he]; exact q)) _ _ _ _ rfl (lf_L l n c id b β G1 G2) (AE.app hp (lfP_ok o)) H lr
  · have H := HR.withPl (pl := ⟨bl, off, tot, none⟩) hL hb (by intro h; cases h)
    exact reckonQ_ok noNG (lf3_ok _ _ _) noLoop_low (noLoop_ok _) _ _ _ _ rfl (lf_G n c id b) (AE.cons (b1 (by omega)) AE.nil) H lr
end Go.Proofs.Ytebolmfdglmpoaa.Ex
end
