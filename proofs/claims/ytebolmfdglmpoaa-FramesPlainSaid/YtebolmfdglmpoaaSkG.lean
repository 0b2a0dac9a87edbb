/-
  Lemmas for the laws of this seat: Sk27, Sk28, Sk29, Sk30, Sk31.
-/
import Derived.Test.YtebolmfdglmpoaaSkF
import Derived.Test.YtebolmfdglmpoaaEx17
import Derived.Test.YtebolmfdglmpoaaSkB
import Derived.Test.YtebolmfdglmpoaaSliceS
import Derived.Test.YtebolmfdglmpoaaSkI
section
namespace Go.Proofs.Ytebolmfdglmpoaa.Ex
open Go Go.RowKit
set_option maxHeartbeats 0
set_option maxRecDepth 1000000
set_option linter.unusedVariables false
set_option linter.unusedSectionVars false
noncomputable def tuW (g : VI → VI) (X : List Value) (n : Nat) : Nat → List Value := Nat.rec (motive := fun _ => Nat → List Value) (fun _ => []) (fun _ ih o => vL (g (vAt X o)) ++ ih (o + 12)) n
/-- A frame's values. -/
noncomputable def allV (g : VI → VI) (X : List Value) : List Value := tuV g X 11 0 ++ tuW g X 64 122
theorem all_run2 (g : VI → VI) (X : List Value) : laysO Try.prog nh3 noOrc 100000 300 152 [dead, dead] 24 [.agg ⟨tuF g X⟩] = some (.slice (some ⟨2, 0, none⟩) 75 75, ⟨true, some 11, allV g X⟩, []) := by kernel_rfl
theorem all_run3 (g : VI → VI) (X : List Value) : laysO Try.prog nh3 noOrc 100000 300 153 [dead, dead, dead] 24 [.agg ⟨tuF g X⟩] = some (.slice (some ⟨3, 0, none⟩) 75 75, ⟨true, some 11, allV g X⟩, []) := by kernel_rfl
noncomputable def hkAll (X : List Value) (g : VI → VI) : Hook3 := fun f args h =>
  if Nat.beq f 24 then
    match args with
    | [.agg ⟨L⟩] => if Nat.beq h.length 2 then some (.slice (some ⟨2, 0, none⟩) 75 75, [⟨true, some 11, allV (fun v => v) X⟩], [prP (L = tuF (fun v => v) X)]) else if Nat.beq h.length 3 then some (.slice (some ⟨3, 0, none⟩) 75 75, [⟨true, some 11, allV g X⟩], [prP (L = tuF g X)]) else none
    | _ => none
  else none
theorem subH_dead : ∀ {h : List AO} {n : Nat}, h.length = n → subH (List.replicate n dead) h = true
  | [], _, e => by cases e; rfl
  | o :: h, _, e => by
    cases e
    show (_ && subH (List.replicate h.length dead) h) = true
    rw [subH_dead rfl]
    rfl
theorem hkAll_ok (X : List Value) (g : VI → VI) : HookOk3 Try.prog (hkAll X g) := by
  intro f args h v new cs hv hc wb k s w args' H ha
  unfold hkAll at hv
  split at hv
  · rename_i hf
    obtain rfl := Nat.eq_of_beq_eq_true hf
    split at hv
    · rename_i L
      split at hv
      · rename_i hl
        cases hv
        have hl := Nat.eq_of_beq_eq_true hl
        obtain rfl := prP_of (hc _ (List.mem_singleton.2 rfl))
        exact laysO_ok noNG nh3_ok (all_run2 (fun v => v) X) (fun c hc => by cases hc) hl (subH_dead (n := 2) hl) H ha
      · split at hv
        · rename_i hl
          cases hv
          have hl := Nat.eq_of_beq_eq_true hl
          obtain rfl := prP_of (hc _ (List.mem_singleton.2 rfl))
          exact laysO_ok noNG nh3_ok (all_run3 g X) (fun c hc => by cases hc) hl (subH_dead (n := 3) hl) H ha
        · cases hv
    · cases hv
  · cases hv
/-- The place of each of a frame's values. -/
def vPl (i : Nat) : Nat := bif Nat.blt i 11 then i * 11 else 122 + (i - 11) * 12
theorem tuW_len (g : VI → VI) (X : List Value) : ∀ (n o : Nat), (tuW g X n o).length = n * 11
  | 0, o => by rw [Nat.zero_mul]; rfl
  | n + 1, o => by
    show (vL (g (vAt X o)) ++ tuW g X n (o + 12)).length = _
    rw [List.length_append, tuW_len g X n (o + 12)]
    show 11 + _ = _
    omega
theorem allV_len (g : VI → VI) (X : List Value) : (allV g X).length = 825 := by
  unfold allV
  rw [List.length_append, tuV_len, tuW_len]
theorem tuV_at (g : VI → VI) (X : List Value) : ∀ (n o i : Nat) (Y : List Value), i < n → ((tuV g X n o ++ Y).drop (i * 11)).take 11 = vL (g (vAt X (o + i * 11)))
  | 0, _, _, _, h => by omega
  | n + 1, o, 0, Y, _ => by
    rw [Nat.zero_mul, Nat.add_zero]
    rfl
  | n + 1, o, i + 1, Y, h => by
    have e : (i + 1) * 11 = 11 + i * 11 := by omega
    show (((vL (g (vAt X o)) ++ tuV g X n (o + 11)) ++ Y).drop ((i + 1) * 11)).take 11 = _
    rw [e, ← List.drop_drop, List.append_assoc]
    show ((tuV g X n (o + 11) ++ Y).drop (i * 11)).take 11 = _
    rw [tuV_at g X n (o + 11) i Y (by omega), show o + 11 + i * 11 = o + (11 + i * 11) by omega]
theorem tuW_at (g : VI → VI) (X : List Value) : ∀ (n o i : Nat), i < n → ((tuW g X n o).drop (i * 11)).take 11 = vL (g (vAt X (o + i * 12)))
  | 0, _, _, h => by omega
  | n + 1, o, 0, _ => by
    rw [Nat.zero_mul, Nat.add_zero]
    rfl
  | n + 1, o, i + 1, h => by
    have e : (i + 1) * 11 = 11 + i * 11 := by omega
    show ((vL (g (vAt X o)) ++ tuW g X n (o + 12)).drop ((i + 1) * 11)).take 11 = _
    rw [e, ← List.drop_drop]
    show ((tuW g X n (o + 12)).drop (i * 11)).take 11 = _
    rw [tuW_at g X n (o + 12) i (by omega), show o + 12 + i * 12 = o + (i + 1) * 12 by omega]
theorem allV_at (g : VI → VI) (X : List Value) {i : Nat} (hi : i < 75) : ((allV g X).drop (0 + i * 11)).take 11 = vL (g (vAt X (vPl i))) := by
  unfold allV vPl
  rw [Nat.zero_add]
  by_cases h : i < 11
  · rw [blt_t h, tuV_at g X 11 0 i _ h, Nat.zero_add]
    rfl
  · rw [blt_f (by omega), List.drop_append, List.drop_of_length_le (by rw [tuV_len]; omega), List.nil_append, tuV_len, show i * 11 - 11 * 11 = (i - 11) * 11 by omega, tuW_at g X 64 122 (i - 11) (by omega)]
    rfl
theorem vL_flats (v : VI) : (vL v).all Ex.flat = true := rfl
theorem tuV_flat (g : VI → VI) (X : List Value) : ∀ (n o : Nat), (tuV g X n o).all Ex.flat = true
  | 0, _ => rfl
  | n + 1, o => by
    show (vL (g (vAt X o)) ++ tuV g X n (o + 11)).all Ex.flat = true
    rw [List.all_append, vL_flats, tuV_flat g X n (o + 11)]
    rfl
theorem tuW_flat (g : VI → VI) (X : List Value) : ∀ (n o : Nat), (tuW g X n o).all Ex.flat = true
  | 0, _ => rfl
  | n + 1, o => by
    show (vL (g (vAt X o)) ++ tuW g X n (o + 12)).all Ex.flat = true
    rw [List.all_append, vL_flats, tuW_flat g X n (o + 12)]
    rfl
theorem allV_flat (g : VI → VI) (X : List Value) : (allV g X).all Ex.flat = true := by
  unfold allV
  rw [List.all_append, tuV_flat, tuW_flat]
  rfl
end Go.Proofs.Ytebolmfdglmpoaa.Ex
end
section
namespace Go.Proofs.Ytebolmfdglmpoaa.Ex
open Go Go.RowKit
set_option maxHeartbeats 0
set_option maxRecDepth 1000000
set_option linter.unusedVariables false
set_option linter.unusedSectionVars false
noncomputable def lwT (id many : Int) (i : Nat) (p q r : Value) (β : Nat → Value) : List Value := [β 0, .int .i64 id, .int .u16 many, β 3, β 4, β 5, .bool false, .pointer (some ⟨1, 0, none⟩), .slice (some ⟨2, 0, none⟩) 75 75, .slice (some ⟨3, 0, none⟩) 75 75, .int .i64 (i : Int), p, β 12, β 13, β 14, β 15, β 16, β 17, β 18, β 19, β 20, β 21, β 22, β 23, β 24, β 25, β 26, β 27, β 28, β 29, β 30, β 31, β 32, β 33, β 34, β 35, p, β 37, β 38, β 39, q, β 41, β 42, β 43, β 44, r, β 46, β 47, β 48, β 49, r, β 51, β 52, β 53, β 54, β 55, β 56, β 57]
def lwZ : List Nat := [1, 0, 0, 1, 1, 1, 0, 0, 0, 0, 0, 0, 1, 1, 1, 1, 1, 1, 1, 1, 1, 1, 1, 1, 1, 1, 1, 1, 1, 1, 1, 1, 1, 1, 1, 1, 0, 1, 1, 1, 0, 1, 1, 1, 1, 0, 1, 1, 1, 1, 0, 1, 1, 1, 1, 1, 1, 1]
noncomputable def lwH (C : AO) (F A B : List Value) (G1 G2 : AO) : List AO := [C, ⟨true, none, F⟩, ⟨true, some 11, A⟩, ⟨true, some 11, B⟩, G1, G2]
abbrev lwF : FuncId := 6
noncomputable abbrev lwLp : Code := theLoopN Try.prog lwF 0
theorem lw_one : oneLoopN Try.prog lwF 0 = true := by kernel_rfl
noncomputable def lwV (m : Int) (v : VI) : VI := ⟨v.k, v.m, v.i, v.o, (if m > v.s then m else v.s), v.t, v.u, v.a, v.b, v.c, v.d⟩
noncomputable def rdO (i : Nat) (v u : VI) (g k e : Bool) : Orc := fun f t _ =>
  if Nat.beq f lwF then
    match t with
    | 29 => some (.bool g)
    | 31 => some (.int .i64 ((i + 1 : Nat) : Int))
    | 34 => some .nilIface
    | 35 => some (tld (.agg ⟨vL v⟩))
    | 38 => some (.bool k)
    | 39 => some (.bool k)
    | 43 => some (.bool e)
    | 44 => some (.bool e)
    | 53 => some .nilIface
    | 54 => some (tld (.agg ⟨vL u⟩))
    | 56 => some (.bool false)
    | _ => none
  else none
noncomputable def rdA (A : List Value) (i : Nat) (v : VI) : Cs := [(b2i (decide ((i : Int) < (75 : Nat))), 1)] ++ (sdJ i 75 ++ ldP A (0 + i * 11) 11 (vL v))
noncomputable def rdB (B : List Value) (i : Nat) (u : VI) : Cs := sdJ i 75 ++ (ldP B (0 + i * 11) 11 (vL u) ++ [(b2i (!(eqD (vL u) (vL u))), 0), (wi (i + 1), ((i + 1 : Nat) : Int))])
def lwCa (k : Nat) : Bool := Nat.ble 26 k && Nat.ble k 44 || Nat.ble 51 k && Nat.ble k 56
def lwCc (k : Nat) : Bool := Nat.ble 26 k && Nat.ble k 56
noncomputable abbrev UUU : Value := .tuple ⟨[]⟩
noncomputable abbrev pAt (b o : Nat) : Value := .pointer (some ⟨b, o, none⟩)
theorem lw_a0 (C : AO) (F A B : List Value) (G1 G2 : AO) (id many : Int) (i : Nat) (v : VI) (p q : Value) (β : Nat → Value) : (hopRunL Try.prog nh3 (rdO i v v true false false) noLoop lwF lwLp 1 4 [6] (lwT id many i p q UUU β) (lwH C F A B G1 G2)).map (fun r => (maskZ 4 lwZ r.1, pickZ lwZ r.1, r.2)) = some ((lwT id many (i + 1) (pAt 4 0) UUU UUU fun k => bif lwCa k then .bool true else .bool (okR 4 (β k))).map (reV (keepF 4 [6]) 6), [], [C, ⟨true, none, F⟩, ⟨true, some 11, A⟩, ⟨true, some 11, B⟩, ⟨true, none, vL v⟩], some 6, inter (rdA A i v ++ ([(b2i (v.k == 7), 0), (0, 0), (0, 0)] ++ rdB B i v))) := by kernel_rfl
theorem lw_b0 (C : AO) (F A B : List Value) (G1 G2 : AO) (id many : Int) (i : Nat) (v : VI) (p q : Value) (β : Nat → Value) : (hopRunL Try.prog nh3 (rdO i v v true true false) noLoop lwF lwLp 1 4 [6] (lwT id many i p q UUU β) (lwH C F A B G1 G2)).map (fun r => (maskZ 4 lwZ r.1, pickZ lwZ r.1, r.2)) = some ((lwT id many (i + 1) (pAt 4 0) (pAt 4 2) UUU fun k => bif lwCa k then .bool true else .bool (okR 4 (β k))).map (reV (keepF 4 [6]) 6), [], [C, ⟨true, none, F⟩, ⟨true, some 11, A⟩, ⟨true, some 11, B⟩, ⟨true, none, vL v⟩], some 6, inter (rdA A i v ++ ([(b2i (v.k == 7), 1), (1, 1), (b2i (v.i == id), 0), (0, 0)] ++ rdB B i v))) := by kernel_rfl
theorem lw_a1 (C : AO) (F A B : List Value) (K : List Value) (G2 : AO) (id many : Int) (i : Nat) (v : VI) (p q : Value) (β : Nat → Value) : (hopRunL Try.prog nh3 (rdO i v v true false false) noLoop lwF lwLp 1 4 [4, 6] (lwT id many i p q (pAt 4 4) β) (lwH C F A B ⟨true, none, K⟩ G2)).map (fun r => (maskZ 4 lwZ r.1, pickZ lwZ r.1, r.2)) = some ((lwT id many (i + 1) (pAt 5 0) UUU (pAt 4 4) fun k => bif lwCa k then .bool true else .bool (okR 4 (β k))).map (reV (keepF 4 [4, 6]) 6), [], [C, ⟨true, none, F⟩, ⟨true, some 11, A⟩, ⟨true, some 11, B⟩, ⟨true, none, K⟩, ⟨true, none, vL v⟩], some 6, inter (rdA A i v ++ ([(b2i (v.k == 7), 0), (0, 0), (0, 0)] ++ rdB B i v))) := by kernel_rfl
theorem lw_b1 (C : AO) (F A B : List Value) (K : List Value) (G2 : AO) (id many : Int) (i : Nat) (v : VI) (p q : Value) (β : Nat → Value) : (hopRunL Try.prog nh3 (rdO i v v true true false) noLoop lwF lwLp 1 4 [4, 6] (lwT id many i p q (pAt 4 4) β) (lwH C F A B ⟨true, none, K⟩ G2)).map (fun r => (maskZ 4 lwZ r.1, pickZ lwZ r.1, r.2)) = some ((lwT id many (i + 1) (pAt 5 0) (pAt 5 2) (pAt 4 4) fun k => bif lwCa k then .bool true else .bool (okR 4 (β k))).map (reV (keepF 4 [4, 6]) 6), [], [C, ⟨true, none, F⟩, ⟨true, some 11, A⟩, ⟨true, some 11, B⟩, ⟨true, none, K⟩, ⟨true, none, vL v⟩], some 6, inter (rdA A i v ++ ([(b2i (v.k == 7), 1), (1, 1), (b2i (v.i == id), 0), (0, 0)] ++ rdB B i v))) := by kernel_rfl
theorem lw_c (C : AO) (F A B : List Value) (G1 G2 : AO) (id many : Int) (i : Nat) (v : VI) (p q : Value) (r : Value) (β : Nat → Value) : (hopRunL Try.prog nh3 (rdO i v (lwV (wi many) v) true true true) noLoop lwF lwLp 1 4 [6] (lwT id many i p q r β) (lwH C F A B G1 G2)).map (fun r => (maskZ 4 lwZ r.1, pickZ lwZ r.1, r.2)) = some ((lwT id many (i + 1) (pAt 4 0) (pAt 4 2) (pAt 4 4) fun k => bif lwCc k then .bool true else .bool (okR 4 (β k))).map (reV (keepF 4 [6]) 6), [], [C, ⟨true, none, F⟩, ⟨true, some 11, A⟩, ⟨true, some 11, B⟩, ⟨true, none, vL (lwV (wi many) v)⟩], some 6, inter (rdA A i v ++ ([(b2i (v.k == 7), 1), (1, 1), (b2i (v.i == id), 1), (1, 1)] ++ rdB B i (lwV (wi many) v)))) := by kernel_rfl
noncomputable def lwN (β : Nat → Value) : List Value := [β 0, β 1, β 2, β 3, β 4, β 5, .bool false, β 7, β 8, β 9, β 10, β 11, β 12, β 13, β 14, β 15, β 16, β 17, β 18, β 19, β 20, β 21, β 22, β 23, β 24, β 25, β 26, β 27, β 28, β 29, β 30, β 31, β 32, β 33, β 34, β 35, β 36, β 37, β 38, β 39, β 40, β 41, β 42, β 43, β 44, β 45, β 46, β 47, β 48, β 49, β 50, β 51, β 52, β 53, β 54, β 55, β 56, β 57]
def lwNs : List Bool := [true, true, true, true, true, true, false, true, true, true, true, true, true, true, true, true, true, true, true, true, true, true, true, true, true, true, true, true, true, true, true, true, true, true, true, true, true, true, true, true, true, true, true, true, true, true, true, true, true, true, true, true, true, true, true, true, true, true]
theorem lw_stop (C : AO) (F A B : List Value) (G1 G2 : AO) (id many : Int) (p q r : Value) (v : VI) (β : Nat → Value) : (loopN (bodyL Try.prog nh3 (rdO 75 v v false false false) noLoop lwF lwLp) 1 ⟨lwT id many 75 p q r β, lwH C F A B G1 G2, (none, [])⟩).map (fun r => (r.1, maskQ lwNs r.2.t, r.2.h, r.2.m.1, inter r.2.m.2)) = some (.exit 0, lwN fun _ => .bool true, lwH C F A B G1 G2, none, inter [(b2i (decide (((75 : Nat) : Int) < (75 : Nat))), 0)]) := by kernel_rfl
end Go.Proofs.Ytebolmfdglmpoaa.Ex
end
section
namespace Go.Proofs.Ytebolmfdglmpoaa.Ex
open Go Go.RowKit
set_option maxHeartbeats 0
set_option maxRecDepth 1000000
set_option linter.unusedVariables false
set_option linter.unusedSectionVars false
theorem eqD_vL (v : VI) : eqD (vL v) (vL v) = true := by simp [eqD, eqW, vL]
section
variable {C : AO} {F A B : List Value} (id many : Int) (hc : C.cs.all Ex.flat = true) (hF : OkF F)
/-- A state ahead of a round: a packet's address was not met, or was. -/
def lwI (C : AO) (F A B : List Value) (id many : Int) (i : Nat) (t : List Value) (h : List AO) : Prop :=
  (∃ p q β G1 G2 r, FlR 4 β ∧ t = lwT id many i p q UUU β ∧ h ++ List.replicate r dead = lwH C F A B G1 G2) ∨
  (∃ p q β K G2 r, FlR 4 β ∧ K.all Ex.flat = true ∧ t = lwT id many i p q (pAt 4 4) β ∧ h ++ List.replicate r dead = lwH C F A B ⟨true, none, K⟩ G2)
theorem lwV_s {id m : Int} {v : VI} (k : (v.k == 7) = true) (e : (v.i == id) = true) : sureV id m v = lwV m v := by
  unfold sureV lwV
  rw [k, e]
  rfl
theorem lwV_k {id m : Int} {v : VI} (k : (v.k == 7) = false) : sureV id m v = v := by
  unfold sureV
  rw [k]
  rfl
theorem lwV_i {id m : Int} {v : VI} (k : (v.k == 7) = true) (e : (v.i == id) = false) : sureV id m v = v := by
  unfold sureV
  rw [k, e]
  rfl
theorem rdA_ok {A : List Value} {i : Nat} {v : VI} (hi : i < 75) (hl : A.length = 825) (hA : (A.drop (0 + i * 11)).take 11 = vL v) : AE (rdA A i v) :=
  AE.app (AE.cons (b1 (by omega)) AE.nil) (AE.app (sdJ_ok hi) (ldP_ok (by rw [hl]; omega) hA))
theorem rdB_ok {B : List Value} {i : Nat} {u : VI} (hi : i < 75) (hl : B.length = 825) (hB : (B.drop (0 + i * 11)).take 11 = vL u) : AE (rdB B i u) :=
  AE.app (sdJ_ok hi) (AE.app (ldP_ok (by rw [hl]; omega) hB) (AE.cons (bf (by rw [eqD_vL]; rfl)) (frI_ok (by omega))))
include hc hF
theorem lwF5 {X : List Value} (hA : A.all Ex.flat = true) (hB : B.all Ex.flat = true) (hX : X.all Ex.flat = true) : flatH [C, ⟨true, none, F⟩, ⟨true, some 11, A⟩, ⟨true, some 11, B⟩, ⟨true, none, X⟩] = true := by
  unfold flatH
  simp only [List.all_cons, List.all_nil, hc, hF.flats, hA, hB, hX, Bool.and_true]
theorem lwF6 {X Y : List Value} (hA : A.all Ex.flat = true) (hB : B.all Ex.flat = true) (hX : X.all Ex.flat = true) (hY : Y.all Ex.flat = true) : flatH [C, ⟨true, none, F⟩, ⟨true, some 11, A⟩, ⟨true, some 11, B⟩, ⟨true, none, X⟩, ⟨true, none, Y⟩] = true := by
  unfold flatH
  simp only [List.all_cons, List.all_nil, hc, hF.flats, hA, hB, hX, hY, Bool.and_true]
theorem lw_step {i : Nat} (hi : i < 75) (v : VI) (la : A.length = 825) (lb : B.length = 825) (fa : A.all Ex.flat = true) (fb : B.all Ex.flat = true)
    (hA : (A.drop (0 + i * 11)).take 11 = vL v) (hB : (B.drop (0 + i * 11)).take 11 = vL (sureV id (wi many) v)) {t : List Value} {h : List AO} (hI : lwI C F A B id many i t h) :
    ∃ t' h', lwI C F A B id many (i + 1) t' h' ∧ HopQ Try.prog lwLp 1 4 t h t' h' (some 6, []) := by
  have a := rdA_ok hi la hA
  have pad : ∀ {r : Nat} {t t' : List Value} {h h' g : List AO}, h ++ List.replicate r dead = g → HopQ Try.prog lwLp 1 4 t g t' h' (some 6, []) → HopQ Try.prog lwLp 1 4 t h t' h' (some 6, []) := fun {r} _ _ _ _ _ e q => HopQ.pad r (by rw [e]; exact q)
  rcases hI with ⟨p, q, β, G1, G2, r, hβ, rfl, hp⟩ | ⟨p, q, β, K, G2, r, hβ, hK, rfl, hp⟩
  · cases k : v.k == 7 with
    | false =>
      rw [lwV_k k] at hB
      obtain ⟨β', f, Q⟩ := hopF_ok noNG nh3_ok noLoop_low (noLoop_ok _) lw_one [6] (T := lwT id many (i + 1) (pAt 4 0) UUU UUU) (zs := lwZ) (fun β => rfl) lwCa hβ (lw_a0 C F A B G1 G2 id many i v p q β) rfl (lwF5 hc hF fa fb (vL_flats v)) (by decide) (by show 4 ≤ 5; decide) (by kernel_rfl) (by kernel_rfl) (AE.app a (AE.app (AE.cons (bf k) (AE.cons rfl (AE.cons rfl AE.nil))) (rdB_ok hi lb hB)))
      exact ⟨_, _, .inl ⟨_, _, β', ⟨true, none, vL v⟩, dead, 1, f, rfl, rfl⟩, pad hp Q⟩
    | true =>
      cases e : v.i == id with
      | false =>
        rw [lwV_i k e] at hB
        obtain ⟨β', f, Q⟩ := hopF_ok noNG nh3_ok noLoop_low (noLoop_ok _) lw_one [6] (T := lwT id many (i + 1) (pAt 4 0) (pAt 4 2) UUU) (zs := lwZ) (fun β => rfl) lwCa hβ (lw_b0 C F A B G1 G2 id many i v p q β) rfl (lwF5 hc hF fa fb (vL_flats v)) (by decide) (by show 4 ≤ 5; decide) (by kernel_rfl) (by kernel_rfl) (AE.app a (AE.app (AE.cons (bt k) (AE.cons rfl (AE.cons (bf e) (AE.cons rfl AE.nil)))) (rdB_ok hi lb hB)))
        exact ⟨_, _, .inl ⟨_, _, β', ⟨true, none, vL v⟩, dead, 1, f, rfl, rfl⟩, pad hp Q⟩
      | true =>
        rw [lwV_s k e] at hB
        obtain ⟨β', f, Q⟩ := hopF_ok noNG nh3_ok noLoop_low (noLoop_ok _) lw_one [6] (T := lwT id many (i + 1) (pAt 4 0) (pAt 4 2) (pAt 4 4)) (zs := lwZ) (fun β => rfl) lwCc hβ (lw_c C F A B G1 G2 id many i v p q UUU β) rfl (lwF5 hc hF fa fb (vL_flats _)) (by decide) (by show 4 ≤ 5; decide) (by kernel_rfl) (by kernel_rfl) (AE.app a (AE.app (AE.cons (bt k) (AE.cons rfl (AE.cons (bt e) (AE.cons rfl AE.nil)))) (rdB_ok hi lb hB)))
        exact ⟨_, _, .inr ⟨_, _, β', vL (lwV (wi many) v), dead, 1, f, vL_flats _, rfl, rfl⟩, pad hp Q⟩
  · cases k : v.k == 7 with
    | false =>
      rw [lwV_k k] at hB
      obtain ⟨β', f, Q⟩ := hopF_ok noNG nh3_ok noLoop_low (noLoop_ok _) lw_one [4, 6] (T := lwT id many (i + 1) (pAt 5 0) UUU (pAt 4 4)) (zs := lwZ) (fun β => rfl) lwCa hβ (lw_a1 C F A B K G2 id many i v p q β) rfl (lwF6 hc hF fa fb hK (vL_flats v)) (by decide) (by show 4 ≤ 6; decide) (by kernel_rfl) (by kernel_rfl) (AE.app a (AE.app (AE.cons (bf k) (AE.cons rfl (AE.cons rfl AE.nil))) (rdB_ok hi lb hB)))
      exact ⟨_, _, .inr ⟨_, _, β', K, ⟨true, none, vL v⟩, 0, f, hK, rfl, rfl⟩, pad hp Q⟩
    | true =>
      cases e : v.i == id with
      | false =>
        rw [lwV_i k e] at hB
        obtain ⟨β', f, Q⟩ := hopF_ok noNG nh3_ok noLoop_low (noLoop_ok _) lw_one [4, 6] (T := lwT id many (i + 1) (pAt 5 0) (pAt 5 2) (pAt 4 4)) (zs := lwZ) (fun β => rfl) lwCa hβ (lw_b1 C F A B K G2 id many i v p q β) rfl (lwF6 hc hF fa fb hK (vL_flats v)) (by decide) (by show 4 ≤ 6; decide) (by kernel_rfl) (by kernel_rfl) (AE.app a (AE.app (AE.cons (bt k) (AE.cons rfl (AE.cons (bf e) (AE.cons rfl AE.nil)))) (rdB_ok hi lb hB)))
        exact ⟨_, _, .inr ⟨_, _, β', K, ⟨true, none, vL v⟩, 0, f, hK, rfl, rfl⟩, pad hp Q⟩
      | true =>
        rw [lwV_s k e] at hB
        obtain ⟨β', f, Q⟩ := hopF_ok noNG nh3_ok noLoop_low (noLoop_ok _) lw_one [6] (T := lwT id many (i + 1) (pAt 4 0) (pAt 4 2) (pAt 4 4)) (zs := lwZ) (fun β => rfl) lwCc hβ (lw_c C F A B ⟨true, none, K⟩ G2 id many i v p q (pAt 4 4) β) rfl (lwF5 hc hF fa fb (vL_flats _)) (by decide) (by show 4 ≤ 5; decide) (by kernel_rfl) (by kernel_rfl) (AE.app a (AE.app (AE.cons (bt k) (AE.cons rfl (AE.cons (bt e) (AE.cons rfl AE.nil)))) (rdB_ok hi lb hB)))
        exact ⟨_, _, .inr ⟨_, _, β', vL (lwV (wi many) v), dead, 1, f, vL_flats _, rfl, rfl⟩, pad hp Q⟩
theorem lw_rounds (V : Nat → VI) (la : A.length = 825) (lb : B.length = 825) (fa : A.all Ex.flat = true) (fb : B.all Ex.flat = true)
    (hA : ∀ i, i < 75 → (A.drop (0 + i * 11)).take 11 = vL (V i)) (hB : ∀ i, i < 75 → (B.drop (0 + i * 11)).take 11 = vL (sureV id (wi many) (V i))) : ∀ (d i : Nat) (t : List Value) (h : List AO), i + d = 75 → lwI C F A B id many i t h →
    ∃ t' h', lwI C F A B id many 75 t' h' ∧ HopQ Try.prog lwLp d 4 t h t' h' (some 6, [])
  | 0, i, t, h, e, hI => by
    obtain rfl : i = 75 := by omega
    exact ⟨t, h, hI, HopQ.zero _ _ _ _⟩
  | d + 1, i, t, h, e, hI => by
    obtain ⟨t1, h1, I1, q1⟩ := lw_step id many hc hF (show i < 75 by omega) (V i) la lb fa fb (hA i (by omega)) (hB i (by omega)) hI
    obtain ⟨t2, h2, I2, q2⟩ := lw_rounds V la lb fa fb hA hB d (i + 1) t1 h1 (by omega) I1
    refine ⟨t2, h2, I2, ?_⟩
    rw [show d + 1 = 1 + d by omega]
    exact q1.trans q2 (fun _ _ h => h) (fun _ _ h => h)
omit hc hF in
theorem lw_end {t : List Value} {h : List AO} (hI : lwI C F A B id many 75 t h) : ∃ β G1 G2, StopQ Try.prog lwLp 1 4 t h (.exit 0) (lwN β) (lwH C F A B G1 G2) (some 6, []) := by
  have key : ∀ (p q r : Value) (β : Nat → Value) (G1 G2 : AO) (k : Nat), h ++ List.replicate k dead = lwH C F A B G1 G2 → t = lwT id many 75 p q r β → ∃ β G1 G2, StopQ Try.prog lwLp 1 4 t h (.exit 0) (lwN β) (lwH C F A B G1 G2) (some 6, []) := by
    intro p q r β G1 G2 k e ht
    subst ht
    obtain ⟨β', Q⟩ := stopM_ok noNG nh3_ok noLoop_low (noLoop_ok _) lw_one (fun β => rfl) (lw_stop C F A B G1 G2 id many p q r ⟨0, 0, 0, 0, 0, 0, 0, 0, 0, 0, 0⟩ β) (AE.cons (b0 (by decide)) AE.nil)
    exact ⟨β', G1, G2, StopQ.pad k (by rw [e]; exact (Stop.toQ Q).weak (bndW rfl))⟩
  rcases hI with ⟨p, q, β, G1, G2, r, _, ht, hp⟩ | ⟨p, q, β, K, G2, r, _, _, ht, hp⟩
  · exact key p q _ β G1 G2 r hp ht
  · exact key p q _ β _ G2 r hp ht
theorem lw_loop (V : Nat → VI) (la : A.length = 825) (lb : B.length = 825) (fa : A.all Ex.flat = true) (fb : B.all Ex.flat = true)
    (hA : ∀ i, i < 75 → (A.drop (0 + i * 11)).take 11 = vL (V i)) (hB : ∀ i, i < 75 → (B.drop (0 + i * 11)).take 11 = vL (sureV id (wi many) (V i))) (β : Nat → Value) (hβ : FlR 4 β) :
    ∃ N β' G1 G2, StopQ Try.prog lwLp N 4 (lwT id many 0 UUU UUU UUU β) [C, ⟨true, none, F⟩, ⟨true, some 11, A⟩, ⟨true, some 11, B⟩] (.exit 0) (lwN β') (lwH C F A B G1 G2) (some 6, []) := by
  obtain ⟨t, h, I, q⟩ := lw_rounds id many hc hF V la lb fa fb hA hB 75 0 (lwT id many 0 UUU UUU UUU β) [C, ⟨true, none, F⟩, ⟨true, some 11, A⟩, ⟨true, some 11, B⟩] rfl (.inl ⟨UUU, UUU, β, dead, dead, 2, hβ, rfl, rfl⟩)
  obtain ⟨β', G1, G2, q2⟩ := lw_end id many I
  exact ⟨_, β', G1, G2, q.stop q2 (fun _ _ h => h) (fun _ _ h => h)⟩
end
end Go.Proofs.Ytebolmfdglmpoaa.Ex
end
section
namespace Go.Proofs.Ytebolmfdglmpoaa.Ex
open Go Go.RowKit
set_option maxHeartbeats 0
set_option maxRecDepth 1000000
set_option linter.unusedVariables false
set_option linter.unusedSectionVars false
/-- The frame of nothing. -/
theorem fr_run0 : (reckonPI Try.prog fr3 noOrc noLoop 100000 300 [] frF [.slice none 0 0]).map (fun r => (r.1, eqs r.2)) = some (.agg ⟨zF⟩, true) := by kernel_rfl
theorem fr_run0p : reckonQI Try.prog fr3 noOrc noLoop 100000 300 [dead] frF [.slice (some ⟨0, 0, none⟩) 0 0] = some (.agg ⟨zF⟩, []) := by kernel_rfl
theorem c_fr0 (w : World) : Calls Try.prog frF #[.slice none 0 0] w fun e w' => e = .returned (.agg ⟨zF⟩) ∧ Gr w w' := by
  obtain ⟨cs, h1, h2⟩ := closedP fr_run0
  exact rq fr3_ok noOrc rfl zF_ok.flat h2 h1 w
theorem c_fr0p {w : World} {b o c : Nat} (hb : b < w.heap.size) : Calls Try.prog frF #[.slice (some ⟨b, o, none⟩) 0 c] w fun e w' => e = .returned (.agg ⟨zF⟩) ∧ Gr w w' := by
  have H := HR.withPl (pl := ⟨b, o, o + c, some 1⟩) (Laid.nil w) hb (by intro h; simp [GM] at h)
  have lr : LR (upd (placeG [] w) 0 ⟨b, o, o + c, some 1⟩) [.slice (some ⟨0, 0, none⟩) 0 0] [.slice (some ⟨b, o, none⟩) 0 c] :=
    LR.cons (VR.slice (a := ⟨0, 0, none⟩) (p := ⟨b, o, o + c, some 1⟩) rfl (upd_same _ _ _) (by show 0 < 1 ∧ o + 0 + c * 1 = o + c ∧ 0 ≤ c; omega)) (LR.nil _)
  exact reckonQ_ok noNG fr3_ok noLoop_low (noLoop_ok _) noOrc 100000 300 [dead] zF_ok.flat (cs := []) fr_run0p AE.nil H lr
noncomputable def hkFrame0 : Hook := fun f args _ =>
  if Nat.beq f frF then
    match args with
    | [.slice none 0 0] => some (.agg ⟨zF⟩, [])
    | [.slice (some _) 0 _] => some (.agg ⟨zF⟩, [])
    | _ => none
  else none
theorem hkFrame0_ok : HookOk2 Try.prog hkFrame0 := by
  intro f args h v cs hv hc wb k s w args' H ha
  unfold hkFrame0 at hv
  split at hv
  · rename_i hf
    obtain rfl := Nat.eq_of_beq_eq_true hf
    split at hv
    · cases hv
      match args', ha with
      | [x], ha =>
        obtain ⟨hx, _⟩ := ha.uncons
        obtain rfl := hx.eq_of_flat rfl
        exact c_fr0 w
      | [], ha => exact absurd ha.1 (by simp)
      | _ :: _ :: _, ha => exact absurd ha.1 (by simp)
    · cases hv
      match args', ha with
      | [x], ha =>
        obtain ⟨hx, _⟩ := ha.uncons
        obtain ⟨p, c', h1, hp, hcap, rfl⟩ := hx.slice_inv
        exact c_fr0p (H.plc _ _ hp).2.2
      | [], ha => exact absurd ha.1 (by simp)
      | _ :: _ :: _, ha => exact absurd ha.1 (by simp)
    · cases hv
  · cases hv
/-- Sure of a frame that is known. -/
noncomputable def hkSureX (X : List Value) : Hook := fun f args _ =>
  if Nat.beq f 25 then
    match args with
    | [.agg ⟨M⟩, .int .i64 id, .int .i64 many] => some (.agg ⟨tuF (sureV id many) X⟩, [prP (M = X), prP (OkF X)])
    | _ => none
  else none
theorem hkSureX_ok (X : List Value) : HookOk Try.prog (hkSureX X) := by
  intro f args h v cs hv hc wb k s w H
  unfold hkSureX at hv
  split at hv
  · rename_i hf
    obtain rfl := Nat.eq_of_beq_eq_true hf
    split at hv
    · rename_i M id many
      cases hv
      obtain rfl := prP_of (hc _ (List.mem_cons_self ..))
      exact c_sure (prP_of (hc _ (List.mem_cons_of_mem _ (List.mem_cons_self ..)))) id many w
    · cases hv
  · cases hv
noncomputable def lw3 (F : List Value) (id m : Int) : Hook3 := or3 (liftQ hkFrame) (or3 (liftQ hkFrame0) (or3 (hkAll F (sureV id m)) (or3 (liftP (hkSureX F)) (liftG 17 hkBegun))))
theorem lw3_ok (F : List Value) (id m : Int) : HookOk3 Try.prog (lw3 F id m) := or3_ok (liftQ_ok hkFrame_ok) (or3_ok (liftQ_ok hkFrame0_ok) (or3_ok (hkAll_ok F _) (or3_ok (liftP_ok (hkSureX_ok F)) (liftG_ok hkBegun_ok))))
noncomputable def lwO (g : Bool) (F : List Value) : Orc := fun f t _ =>
  if Nat.beq f lwF then
    match t with
    | 14 => some (.bool g)
    | 18 => some (tld (.agg ⟨spF F⟩))
    | 20 => some (tld (.agg ⟨spF F⟩))
    | t => if Nat.beq t 2000007 then some (tld (.agg ⟨F⟩)) else none
  else none
noncomputable def lwE (s0 : Value) (n : Nat) (id many : Int) (F : List Value) : List Value := [s0, .int .i64 id, .int .u16 many, UUU, UUU, UUU, .bool false, .pointer (some ⟨1, 0, none⟩), .slice (some ⟨2, 0, none⟩) 75 75, .slice (some ⟨3, 0, none⟩) 75 75, .int .i64 0, UUU, s0, .int .i64 (n : Int), .bool false, UUU, s0, .agg ⟨F⟩, .agg ⟨spF F⟩, .slice (some ⟨2, 0, none⟩) 75 75, .agg ⟨spF F⟩, .int .i64 id, .int .u16 many, .int .i64 (wi many), .agg ⟨tuF (sureV id (wi many)) F⟩, .slice (some ⟨3, 0, none⟩) 75 75, UUU, UUU, UUU, UUU, UUU, UUU, UUU, UUU, UUU, UUU, UUU, UUU, UUU, UUU, UUU, UUU, UUU, UUU, UUU, UUU, UUU, UUU, UUU, UUU, UUU, UUU, UUU, UUU, UUU, UUU, UUU, UUU]
theorem lwE_eq (s0 : Value) (n : Nat) (id many : Int) (F : List Value) : lwT id many 0 UUU UUU UUU (fun k => (lwE s0 n id many F).getD k (.bool true)) = lwE s0 n id many F := by kernel_rfl
theorem lwE_ok {s0 : Value} {n : Nat} {id many : Int} {F : List Value} (h : OkF F) (hs : okR 4 s0 = true) : FlR 4 (fun k => (lwE s0 n id many F).getD k (.bool true)) := by
  have h1 : okR 4 (.agg ⟨F⟩) = true := refF_flat 4 h.flat
  have h2 : okR 4 (.agg ⟨spF F⟩) = true := by rw [spF_eq h]; exact h1
  have h3 : okR 4 (.agg ⟨tuF (sureV id (wi many)) F⟩) = true := refF_flat 4 (tuF_ok _ h).flat
  have a : (lwE s0 n id many F).all (okR 4) = true := by
    unfold lwE
    simp only [List.all_cons, List.all_nil, h1, h2, h3, hs, Bool.and_true, Bool.true_and]
    rfl
  intro k
  show okR 4 ((lwE s0 n id many F).getD k (.bool true)) = true
  rw [List.getD_eq_getElem?_getD]
  cases e : (lwE s0 n id many F)[k]? with
  | none => rfl
  | some v => exact List.all_eq_true.1 a v (List.mem_of_getElem? e)
noncomputable def lwHe (C : AO) (F : List Value) (id m : Int) : List AO := [C, ⟨true, none, F⟩, ⟨true, some 11, allV (fun v => v) F⟩, ⟨true, some 11, allV (sureV id m) F⟩]
noncomputable def lwQ (C : AO) (s0 : Value) (n : Nat) (id many : Int) (F : List Value) (β : Nat → Value) (G1 G2 : AO) : LoopQ := ⟨lwF, 0, fun _ => true, lwE s0 n id many F, lwHe C F id (wi many), .exit 0, lwN β, lwH C F (allV (fun v => v) F) (allV (sureV id (wi many)) F) G1 G2, (some 6, [])⟩
noncomputable def lwP (C : AO) (s0 : Value) (n : Nat) (id many : Int) (F : List Value) : Cs := stX zF 0 890 F F ++ (ldP F 0 890 (spF F) ++ ([prP (spF F = tuF (fun v => v) F)] ++ (ldP F 0 890 (spF F) ++ ([(b2i (([.agg ⟨spF F⟩, .int .i64 id, .int .i64 (wi many)] : List Value).all flat && flat (.agg ⟨tuF (sureV id (wi many)) F⟩)), 1), prP (spF F = F), prP (OkF F), prP (tuF (sureV id (wi many)) F = tuF (sureV id (wi many)) F), prP (lwE s0 n id many F = lwE s0 n id many F), prP (lwHe C F id (wi many) = lwHe C F id (wi many))]))))
theorem lwP_ok {C : AO} {s0 : Value} {n : Nat} {id many : Int} {F : List Value} (h : OkF F) : AE (lwP C s0 n id many F) := by
  have e := spF_eq h
  have l : AE (ldP F 0 890 (spF F)) := ldP_ok (by rw [h.1]; omega) (by rw [e]; exact h.whole)
  refine AE.app (stX_ok h.one (by rw [h.1, zF_ok.1]; omega) (splice_whole (by rw [h.1, zF_ok.1]))) (AE.app l (AE.app (AE.consP (prP_ok rfl) AE.nil) (AE.app l (AE.cons (bt ?_) (AE.consP (prP_ok e) (AE.consP (prP_ok h) (AE.consP (prP_ok rfl) (AE.consP (prP_ok rfl) (AE.consP (prP_ok rfl) AE.nil)))))))))
  rw [(tuF_ok _ h).flat, e]
  show (flat (.agg ⟨F⟩) && true && true) = true
  rw [h.flat]
  rfl
noncomputable def lwPre (n : Nat) (cs F : List Value) : Cs := [(b2i (decide ((n : Int) > 75)), 0), (b2i (flat (.agg ⟨F⟩)), 1), prP (OkT cs n), (b2i (decide (n ≤ 75)), 1)]
noncomputable def lwPre0 (F : List Value) : Cs := [(b2i (decide (((0 : Nat) : Int) > 75)), 0), (b2i (flat (.agg ⟨F⟩)), 1)]
def lwArgs (s0 : Value) (id many : Int) : List Value := [s0, .int .i64 id, .int .u16 many]
theorem lw_L (cs : List Value) (n c : Nat) (id many : Int) (β : Nat → Value) (G1 G2 : AO) : reckonQI Try.prog (lw3 (frM cs n) id (wi many)) (lwO false (frM cs n)) (loopQHook [lwQ ⟨true, none, cs⟩ (.slice (some ⟨0, 0, none⟩) n c) n id many (frM cs n) β G1 G2]) 100000 300 [⟨true, none, cs⟩] lwF (lwArgs (.slice (some ⟨0, 0, none⟩) n c) id many) = some (.bool true, inter (lwPre n cs (frM cs n) ++ lwP ⟨true, none, cs⟩ (.slice (some ⟨0, 0, none⟩) n c) n id many (frM cs n))) := by kernel_rfl
theorem lw_Z (id many : Int) (β : Nat → Value) (G1 G2 : AO) : reckonQI Try.prog (lw3 zF id (wi many)) (lwO false zF) (loopQHook [lwQ dead (.slice (some ⟨0, 0, none⟩) 0 0) 0 id many zF β G1 G2]) 100000 300 [dead] lwF (lwArgs (.slice (some ⟨0, 0, none⟩) 0 0) id many) = some (.bool true, inter (lwPre0 zF ++ lwP dead (.slice (some ⟨0, 0, none⟩) 0 0) 0 id many zF)) := by kernel_rfl
theorem lw_N (id many : Int) (β : Nat → Value) (G1 G2 : AO) : reckonQI Try.prog (lw3 zF id (wi many)) (lwO false zF) (loopQHook [lwQ dead (.slice none 0 0) 0 id many zF β G1 G2]) 100000 300 [dead] lwF (lwArgs (.slice none 0 0) id many) = some (.bool true, inter (lwPre0 zF ++ lwP dead (.slice none 0 0) 0 id many zF)) := by kernel_rfl
theorem lw_G (n c : Nat) (id many : Int) : reckonQI Try.prog (lw3 zF id (wi many)) (lwO true zF) noLoop 100000 300 [dead] lwF (lwArgs (.slice (some ⟨0, 0, none⟩) n c) id many) = some (.bool true, inter [(b2i (decide ((n : Int) > 75)), 1)]) := by kernel_rfl
end Go.Proofs.Ytebolmfdglmpoaa.Ex
end
section
namespace Go.Proofs.Ytebolmfdglmpoaa.Ex
open Go Go.RowKit
set_option maxHeartbeats 0
set_option maxRecDepth 1000000
set_option linter.unusedVariables false
set_option linter.unusedSectionVars false
theorem okT_of {l : List Value} {n : Nat} (hl : l.length = n * 11) (h : ∀ i, i < n → okL [.i .i64, .i .i64, .i .i64, .i .i64, .i .i64, .i .u32, .i .u64, .i .u64, .i .u64, .i .u64, .i .u64] ((l.drop (i * 11)).take 11)) : OkT l n := by
  refine ⟨hl, fun i v hv => ?_⟩
  have hi := (List.getElem?_eq_some_iff.1 hv).1
  have k := h (i / 11) (by omega)
  obtain ⟨a, as', e1, h0, k⟩ := k.cons
  obtain ⟨b1, bs1, rfl, h1, k⟩ := k.cons
  obtain ⟨b2, bs2, rfl, h2, k⟩ := k.cons
  obtain ⟨b3, bs3, rfl, h3, k⟩ := k.cons
  obtain ⟨b4, bs4, rfl, h4, k⟩ := k.cons
  obtain ⟨b5, bs5, rfl, h5, k⟩ := k.cons
  obtain ⟨b6, bs6, rfl, h6, k⟩ := k.cons
  obtain ⟨b7, bs7, rfl, h7, k⟩ := k.cons
  obtain ⟨b8, bs8, rfl, h8, k⟩ := k.cons
  obtain ⟨b9, bs9, rfl, h9, k⟩ := k.cons
  obtain ⟨b10, bs10, rfl, h10, k⟩ := k.cons
  obtain rfl := k.nil
  have g : ((l.drop (i / 11 * 11)).take 11)[i % 11]? = some v := by
    rw [List.getElem?_take, if_pos (by omega), List.getElem?_drop, show i / 11 * 11 + i % 11 = i by omega, hv]
  rw [e1] at g
  have hr : i % 11 < 11 := by omega
  generalize i % 11 = r at g hr
  match r, hr with
  | 0, _ => cases g; obtain ⟨x, rfl, _⟩ := h0; rfl
  | 1, _ => cases g; obtain ⟨x, rfl, _⟩ := h1; rfl
  | 2, _ => cases g; obtain ⟨x, rfl, _⟩ := h2; rfl
  | 3, _ => cases g; obtain ⟨x, rfl, _⟩ := h3; rfl
  | 4, _ => cases g; obtain ⟨x, rfl, _⟩ := h4; rfl
  | 5, _ => cases g; obtain ⟨x, rfl, _⟩ := h5; rfl
  | 6, _ => cases g; obtain ⟨x, rfl, _⟩ := h6; rfl
  | 7, _ => cases g; obtain ⟨x, rfl, _⟩ := h7; rfl
  | 8, _ => cases g; obtain ⟨x, rfl, _⟩ := h8; rfl
  | 9, _ => cases g; obtain ⟨x, rfl, _⟩ := h9; rfl
  | 10, _ => cases g; obtain ⟨x, rfl, _⟩ := h10; rfl
  | n + 11, h => omega
theorem lw_qok (C : AO) (hC : C.cs.all Ex.flat = true) {F : List Value} (h : OkF F) (s0 : Value) (hs : okR 4 s0 = true) (n : Nat) (id many : Int) : ∃ β G1 G2, LoopQOk Try.prog (lwQ C s0 n id many F β G1 G2) := by
  obtain ⟨N, β, G1, G2, S⟩ := lw_loop (C := C) (F := F) (A := allV (fun v => v) F) (B := allV (sureV id (wi many)) F) id many hC h (fun i => vAt F (vPl i)) (allV_len _ _) (allV_len _ _) (allV_flat _ _) (allV_flat _ _)
    (fun i hi => allV_at (fun v => v) F hi) (fun i hi => allV_at (sureV id (wi many)) F hi) _ (lwE_ok (s0 := s0) (n := n) (id := id) (many := many) h hs)
  rw [lwE_eq] at S
  exact ⟨β, G1, G2, loopQ_ok (N := N) lw_one (S.stop (by kernel_rfl))⟩
theorem law_sure {v : Value} {id many : Int} {w : World} (hS : SlS [.i .i64, .i .i64, .i .i64, .i .i64, .i .i64, .i .u32, .i .u64, .i .u64, .i .u64, .i .u64, .i .u64] w v) :
    Calls Try.prog lwF #[v, .int .i64 id, .int .u16 many] w fun e w' => e = .returned (.bool true) ∧ Gr w w' := by
  have hL : Laid ([] : List AO) w := Laid.nil w
  have tl : ∀ {s : Ren}, LR s [.int .i64 id, .int .u16 many] [.int .i64 id, .int .u16 many] := fun {s} => LR.ofFlat rfl
  have p0 : AE (lwPre0 zF) := AE.cons (b0 (by decide)) (AE.cons (bt zF_ok.flat) AE.nil)
  rcases hS with rfl | ⟨bl, off, n, c, tot, T, l, rfl, hlc, hsh, hll, hfit, hfr, hcl, hok⟩
  · obtain ⟨β, G1, G2, q⟩ := lw_qok dead rfl zF_ok (.slice none 0 0) rfl 0 id many
    have H : HR w 1 (placeG [] w) [dead] w := ((HR.start hL).pad 1).here
    exact reckonQ_ok noNG (lw3_ok _ _ _) (loopQHook_low _) (loopQHook_ok (fun e he => by rw [List.mem_singleton.1 he]; exact q)) _ _ _ _ rfl (lw_N id many β G1 G2) (AE.app p0 (lwP_ok zF_ok)) H (LR.ofFlat rfl)
  have hb : bl < w.heap.size := by
    unfold World.shape? at hsh
    split at hsh
    · rename_i h; exact (Array.getElem?_eq_some_iff.1 h).1
    · cases hsh
  by_cases c0 : n = 0
  · subst c0
    obtain ⟨β, G1, G2, q⟩ := lw_qok dead rfl zF_ok (.slice (some ⟨0, 0, none⟩) 0 0) rfl 0 id many
    have H := HR.withPl (pl := ⟨bl, off, off + c, some 1⟩) hL hb (by intro h; simp [GM] at h)
    have lr : LR (upd (placeG [] w) 0 ⟨bl, off, off + c, some 1⟩) (lwArgs (.slice (some ⟨0, 0, none⟩) 0 0) id many) (lwArgs (.slice (some ⟨bl, off, none⟩) 0 c) id many) :=
      LR.cons (VR.slice (a := ⟨0, 0, none⟩) (p := ⟨bl, off, off + c, some 1⟩) rfl (upd_same _ _ _) (by show 0 < 1 ∧ off + 0 + c * 1 = off + c ∧ 0 ≤ c; omega)) tl
    exact reckonQ_ok noNG (lw3_ok _ _ _) (loopQHook_low _) (loopQHook_ok (fun e he => by rw [List.mem_singleton.1 he]; exact q)) _ _ _ _ rfl (lw_Z id many β G1 G2) (AE.app p0 (lwP_ok zF_ok)) H lr
  have lr : LR (upd (placeG [] w) 0 ⟨bl, off, tot, none⟩) (lwArgs (.slice (some ⟨0, 0, none⟩) n c) id many) (lwArgs (.slice (some ⟨bl, off, none⟩) n c) id many) :=
    LR.cons (VR.slice (a := ⟨0, 0, none⟩) (p := ⟨bl, off, tot, none⟩) rfl (upd_same _ _ _) rfl) tl
  by_cases c1 : n ≤ 75
  · have hA : OkT l n := okT_of hll hok
    have o := frM_ok l n
    obtain ⟨β, G1, G2, q⟩ := lw_qok ⟨true, none, l⟩ hA.flat o (.slice (some ⟨0, 0, none⟩) n c) rfl n id many
    have H := HR.withSlice (cs := l) hL hsh (by rw [hll]; exact hfit (by omega)) (by rw [hll]; exact hfr) (fun o v hv => ⟨hcl o v hv, List.all_eq_true.1 hA.flat v (List.mem_of_getElem? hv)⟩) (fun i o hi => by simp at hi)
    have hp : AE (lwPre n l (frM l n)) := AE.cons (b0 (by omega)) (AE.cons (bt o.flat) (AE.consP (prP_ok hA) (AE.cons (b1 c1) AE.nil)))
    exact reckonQ_ok noNG (lw3_ok _ _ _) (loopQHook_low _) (loopQHook_ok (fun e he => by rw [List.mem_singleton.1 he]; exact q)) _ _ _ _ rfl (lw_L l n c id many β G1 G2) (AE.app hp (lwP_ok o)) H lr
  · have H := HR.withPl (pl := ⟨bl, off, tot, none⟩) hL hb (by intro h; cases h)
    exact reckonQ_ok noNG (lw3_ok _ _ _) noLoop_low (noLoop_ok _) _ _ _ _ rfl (lw_G n c id many) (AE.cons (b1 (by omega)) AE.nil) H lr
end Go.Proofs.Ytebolmfdglmpoaa.Ex
end
