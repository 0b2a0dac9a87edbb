/-
  Package slots: Store, its states.
-/
import Derived.Test.YtebolmfdglmpoaaSk1
namespace Go.Proofs.Ytebolmfdglmpoaa.Ex
open Go Go.RowKit
set_option maxHeartbeats 0
set_option maxRecDepth 1000000
set_option linter.unusedVariables false
noncomputable def rpL (n : Nat) (x l : List Value) : List Value := Nat.rec (motive := fun _ => List Value) l (fun _ ih => x ++ ih) n
/-- A place's cells; a stack's, place by place. -/
def pL (X : List Value) (o : Nat) : List Value := .int .u8 (pc X o) :: vL (vAt X (o + 1))
noncomputable def spP (X : List Value) (n : Nat) : Nat → List Value := Nat.rec (motive := fun _ => Nat → List Value) (fun _ => []) (fun _ ih o => pL X o ++ ih (o + 12)) n
noncomputable def sp (X : List Value) : List Value := spP X 64 0
/-- A stack that has nothing. -/
noncomputable def zS : List Value := rpL 64 (.int .u8 0 :: vL zV) []
/-- A place's byte more. -/
noncomputable def orB (b k : Int) : Int := IntKind.u8.wrap ((BitVec.ofInt IntKind.u8.bits b ||| BitVec.ofInt IntKind.u8.bits (IntKind.u8.wrap (1 * 2 ^ min (k.tmod 8).toNat IntKind.u8.bits))).toNat : Int)
noncomputable def setB (L : List Value) (j : Nat) (k : Int) : List Value := splice (splice L (0 + j * 12 + 0) [.int .u8 (orB (pc L (0 + j * 12 + 0)) k)]) (0 + j * 12 + 1) (vL zV)
noncomputable def setP (L : List Value) (j : Nat) (v : VI) : List Value := splice L (0 + j * 12) (.int .u8 255 :: vL v)
def skB3 : Hook3 := or3 (liftG 32 hk_word) (or3 (liftG 33 hk_isP) (liftG 34 hk_pts))
theorem skB3_ok : HookOk3 Try.prog skB3 := or3_ok (liftG_ok hk_word_ok) (or3_ok (liftG_ok hk_isP_ok) (liftG_ok hk_pts_ok))
/-- Told: a load; the cells that a store leaves. -/
noncomputable def tld (v : Value) : Value := .tuple ⟨[.nilIface, v]⟩
/-- Store: is the place there (k), where (a, its place j), has the value nothing (z), is it a whole place (p), an address (q); what lies there then (X). -/
noncomputable def stO (k : Bool) (a j : Nat) (z p q : Bool) (X : List Value) : Orc := fun f t _ =>
  if Nat.beq f 12 then
    match t with
    | 18 => bif k then some (.int .i64 (a : Int)) else none
    | 19 => some (.bool k)
    | 24 => some (.bool z)
    | 29 => some (.bool p)
    | 34 => some (.int .i64 (j : Int))
    | 37 => some .nilIface
    | 39 => some (.bool q)
    | 38 => some (tld (.agg ⟨X⟩))
    | 74 => some (tld (.agg ⟨X⟩))
    | t => if Nat.beq t 2000037 then some .nilIface else if Nat.beq t 2000008 then (bif k && (!z && (p || !q)) then some (tld (.agg ⟨sp X⟩)) else none) else none
  else none
noncomputable def stT (n : Int) (a k : Nat) (β : Nat → Value) : List Value := [β 0, β 1, .int .i64 n, β 3, .pointer (some ⟨0, 0, none⟩), β 5, β 6, β 7, .pointer (some ⟨2, 0, none⟩), β 9, .int .i64 (a : Int), β 11, .int .i64 (k : Int), β 13, β 14, β 15, β 16, β 17, β 18, β 19, β 20, β 21, β 22, β 23, β 24, β 25, β 26, β 27, β 28, β 29, β 30, β 31, β 32, β 33, β 34, β 35, β 36, β 37, β 38, β 39, β 40, β 41, β 42, β 43, β 44, β 45, β 46, β 47, β 48, β 49, β 50, β 51, β 52, β 53, β 54, β 55, β 56, β 57, β 58, β 59, β 60, β 61, β 62, β 63, β 64, β 65, β 66, β 67, β 68, β 69, β 70, β 71, β 72, β 73, β 74]
def stDs : List Bool := [true, true, false, true, false, true, true, true, false, true, false, true, false, true, true, true, true, true, true, true, true, true, true, true, true, true, true, true, true, true, true, true, true, true, true, true, true, true, true, true, true, true, true, true, true, true, true, true, true, true, true, true, true, true, true, true, true, true, true, true, true, true, true, true, true, true, true, true, true, true, true, true, true, true, true]
noncomputable def stH (L : List Value) (B : AO) : List AO := [⟨true, none, L⟩, B, ⟨true, none, zS⟩]
/-- A round of Store's loop: the byte k is in the place j, its bit r; goes on (g); an address is there (q). -/
noncomputable def srO (L : List Value) (k j r : Nat) (g : Bool) : Orc := fun f t _ =>
  if Nat.beq f 12 then
    match t with
    | 48 => some (.bool g)
    | 50 => some (.int .i64 ((k + 1 : Nat) : Int))
    | 52 => some (.int .i64 (j : Int))
    | 53 => some .nilIface
    | 57 => some (tld (.agg ⟨vL (vAt L (0 + j * 12 + 1))⟩))
    | 63 => some (tld (.int .u8 (pc L (0 + j * 12 + 0))))
    | 65 => some (.int .i64 (r : Int))
    | 66 => some .nilIface
    | t => if Nat.beq t 2000069 then some .nilIface else if Nat.beq t 2000073 then some .nilIface else none
  else none
def sk3 (b : Bool) : Hook3 := liftG 34 (hk_ptsB b)
theorem sk3_ok (b : Bool) : HookOk3 Try.prog (sk3 b) := liftG_ok (hk_ptsB_ok b)
end Go.Proofs.Ytebolmfdglmpoaa.Ex
