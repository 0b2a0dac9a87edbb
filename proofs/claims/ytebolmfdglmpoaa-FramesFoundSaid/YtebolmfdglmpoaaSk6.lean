/-
  Layer 19: the value that an act stores; the stack behind some stores: its states.
-/
import Derived.Test.YtebolmfdglmpoaaSk5
namespace Go.Proofs.Ytebolmfdglmpoaa.Ex
open Go Go.RowKit
set_option maxHeartbeats 0
set_option maxRecDepth 1000000
set_option linter.unusedVariables false
set_option linter.unusedSectionVars false
def valV (k by_ : Int) : VI := bif k.tmod 4 == 0 then zV else bif k.tmod 4 == 1 then ⟨3, 0, 0, IntKind.i64.wrap (0 - by_), 0, 0, 0, 0, 0, 0, 0⟩ else ⟨1, 0, 0, 0, 0, IntKind.u64.wrap by_, 0, IntKind.u64.wrap by_, IntKind.u64.wrap by_, IntKind.i64.wrap (IntKind.u64.wrap by_), IntKind.i64.wrap (IntKind.u64.wrap by_)⟩
theorem val_0 (o n k : Int) (b : Bool) (by_ : Int) (he : AE [(b2i (k.tmod 4 == 0), 1)]) (w : World) : Calls Try.prog 16 #[.agg ⟨[.int .i64 o, .int .i64 n, .int .u8 k, .bool b]⟩, .int .i64 by_] w fun e w' => e = .returned (.agg ⟨vL zV⟩) ∧ Gr w w' :=
  rq nh3_ok (oS [(16, 9, .bool true)]) (cs := [(b2i (k.tmod 4 == 0), 1)]) rfl rfl (by kernel_rfl) he w
theorem val_1 (o n k : Int) (b : Bool) (by_ : Int) (he : AE [(b2i (k.tmod 4 == 0), 0), (b2i (k.tmod 4 == 1), 1)]) (w : World) : Calls Try.prog 16 #[.agg ⟨[.int .i64 o, .int .i64 n, .int .u8 k, .bool b]⟩, .int .i64 by_] w fun e w' => e = .returned (.agg ⟨vL ⟨3, 0, 0, IntKind.i64.wrap (0 - by_), 0, 0, 0, 0, 0, 0, 0⟩⟩) ∧ Gr w w' :=
  rq nh3_ok (oS [(16, 9, .bool false), (16, 12, .bool true)]) (cs := [(b2i (k.tmod 4 == 0), 0), (b2i (k.tmod 4 == 1), 1)]) rfl rfl (by kernel_rfl) he w
theorem val_2 (o n k : Int) (b : Bool) (by_ : Int) (he : AE [(b2i (k.tmod 4 == 0), 0), (b2i (k.tmod 4 == 1), 0)]) (w : World) : Calls Try.prog 16 #[.agg ⟨[.int .i64 o, .int .i64 n, .int .u8 k, .bool b]⟩, .int .i64 by_] w fun e w' => e = .returned (.agg ⟨vL ⟨1, 0, 0, 0, 0, IntKind.u64.wrap by_, 0, IntKind.u64.wrap by_, IntKind.u64.wrap by_, IntKind.i64.wrap (IntKind.u64.wrap by_), IntKind.i64.wrap (IntKind.u64.wrap by_)⟩⟩) ∧ Gr w w' :=
  rq nh3_ok (oS [(16, 9, .bool false), (16, 12, .bool false)]) (cs := [(b2i (k.tmod 4 == 0), 0), (b2i (k.tmod 4 == 1), 0)]) rfl rfl (by kernel_rfl) he w
theorem c_val (o n k : Int) (b : Bool) (by_ : Int) (w : World) : Calls Try.prog 16 #[.agg ⟨[.int .i64 o, .int .i64 n, .int .u8 k, .bool b]⟩, .int .i64 by_] w fun e w' => e = .returned (.agg ⟨vL (valV k by_)⟩) ∧ Gr w w' := by
  cases k0 : (k.tmod 4 == 0) with
  | true => exact rqv (by simp only [valV, k0, cond_true]) (val_0 o n k b by_ (AE.cons (bt k0) AE.nil) w)
  | false =>
    cases k1 : (k.tmod 4 == 1) with
    | true => exact rqv (by simp only [valV, k0, k1, cond_true, cond_false]) (val_1 o n k b by_ (AE.cons (bf k0) (AE.cons (bt k1) AE.nil)) w)
    | false => exact rqv (by simp only [valV, k0, k1, cond_false]) (val_2 o n k b by_ (AE.cons (bf k0) (AE.cons (bf k1) AE.nil)) w)
def hk_val : Hook := fun f args _ =>
  if Nat.beq f 16 then
    match args with
    | [.agg ⟨[.int .i64 o, .int .i64 n, .int .u8 k, .bool b]⟩, .int .i64 by_] => some (.agg ⟨vL (valV k by_)⟩, [])
    | _ => none
  else none
theorem hk_val_ok : HookOk Try.prog hk_val := by
  intro f args h v cs hv hc wb k s w H
  unfold hk_val at hv
  split at hv
  · rename_i hf
    obtain rfl := Nat.eq_of_beq_eq_true hf
    split at hv
    · rename_i o n k b by_
      cases hv
      exact c_val o n k b by_ w
    · cases hv
  · cases hv
def sd3 : Hook3 := liftG 16 hk_val
noncomputable def st3 : Hook3 := or3 (liftG 16 hk_val) (liftP hkStore)
theorem st3_ok : HookOk3 Try.prog st3 := or3_ok (liftG_ok hk_val_ok) (liftP_ok hkStore_ok)
def bOf : Value → Bool
  | .bool b => b
  | _ => false
def bc (L : List Value) (o : Nat) : Bool := bOf (L.getD o .nilFunc)
/-- An act's cells. -/
def acL (cs : List Value) (o : Nat) : List Value := [.int .i64 (pc cs o), .int .i64 (pc cs (o + 1)), .int .u8 (pc cs (o + 2)), .bool (bc cs (o + 3))]
/-- What Store makes of an act. -/
noncomputable def acS (cs L : List Value) (i : Nat) : List Value × Int := stS L (pc cs (0 + i * 4 + 0)) (pc cs (0 + i * 4 + 1)) (valV (pc cs (0 + i * 4 + 2)) ((i + 1 : Nat) : Int))
noncomputable def sdO (cs L : List Value) (i : Nat) (g ok : Bool) : Orc := fun f t _ =>
  if Nat.beq f 10 then
    match t with
    | 10 => some (.bool g)
    | 12 => some (.int .i64 ((i + 1 : Nat) : Int))
    | 14 => some (tld (.agg ⟨L⟩))
    | 17 => some .nilIface
    | 22 => some .nilIface
    | 27 => some .nilIface
    | 19 => some (tld (.int .i64 (pc cs (0 + i * 4 + 0))))
    | 24 => some (tld (.int .i64 (pc cs (0 + i * 4 + 1))))
    | 28 => some (tld (.agg ⟨acL cs (0 + i * 4)⟩))
    | 30 => some (.int .i64 ((i + 1 : Nat) : Int))
    | 32 => some (.tuple ⟨[.nilIface, .nilIface, .nilIface]⟩)
    | 36 => some (.bool ok)
    | 37 => some (tld (.agg ⟨(acS cs L i).1⟩))
    | t => if Nat.beq t 2000005 then some (tld (.agg ⟨(acS cs L i).1⟩)) else if Nat.beq t 2000003 then some (tld (.agg ⟨(acS cs L i).1⟩)) else none
  else none
noncomputable def sdT (n c i : Nat) (p : Value) (β : Nat → Value) : List Value := [.slice (some ⟨0, 0, none⟩) n c, β 1, .pointer (some ⟨1, 0, none⟩), .pointer (some ⟨2, 0, none⟩), .int .i64 (i : Int), p, β 6, β 7, β 8, β 9, β 10, β 11, β 12, β 13, β 14, β 15, β 16, β 17, β 18, β 19, β 20, β 21, β 22, β 23, β 24, β 25, β 26, β 27, β 28, β 29, β 30, β 31, β 32, β 33, β 34, β 35, β 36, β 37, β 38]
def sdZ (e : Nat) : List Nat := [0, 1, 0, 0, 0, 0, 1, 1, 1, 1, 1, 1, 1, 2, 2, 1, 1, 1, 1, 1, 1, 1, 1, 1, 1, 1, 1, 1, 1, 1, 1, 1, 2, 2, 1, 1, 1, e, 1]
noncomputable def sdH (cs L : List Value) (G : AO) : List AO := [⟨true, none, cs⟩, ⟨true, none, zS⟩, ⟨true, none, L⟩, G]
end Go.Proofs.Ytebolmfdglmpoaa.Ex
