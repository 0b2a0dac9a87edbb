/-
  Layer 10: the law InterpArith: what its calls come to.
-/
import Derived.Test.YthhgfjnnconocaaGreatDoorLaw10s1
import Derived.Test.YthhgfjnnconocaaGreatDoorLaw10s1n
import Derived.Test.YthhgfjnnconocaaGreatDoorLaw10s2
import Derived.Test.YthhgfjnnconocaaGreatDoorLaw10s2n
import Derived.Test.YthhgfjnnconocaaGreatDoorLaw10s3
import Derived.Test.YthhgfjnnconocaaGreatDoorLaw10s4
import Derived.Test.YthhgfjnnconocaaGreatDoorLaw10s5
import Derived.Test.YthhgfjnnconocaaGreatDoorLaw10s6
import Derived.Test.YthhgfjnnconocaaGreatDoorLaw10u
import Derived.Test.YthhgfjnnconocaaGreatDoorLaw10f
namespace Go.Proofs.YthhgfjnnconocaaGreatDoor.Ex
open Go Go.RowKit
set_option maxHeartbeats 0
set_option maxRecDepth 1000000
set_option linter.unusedVariables false
def holdW (hw hn : Bool) : Hook := fun f args h =>
  match args with
  | _ :: .bool true :: _ => holdT hw f args h
  | _ => holdT hn f args h
theorem holdW_ok (hw hn : Bool) : HookOk Tryz.prog (holdW hw hn) := by
  intro f args h v cs hv
  unfold holdW at hv
  split at hv
  · exact holdT_ok hw f _ h v cs hv
  · exact holdT_ok hn f args h v cs hv
noncomputable def arTab (neg hw hn : Bool) : List CallW := [bif neg then pwN_E else pw_E, bif hw then qwT_E else qwF_E, bif neg then pnN_E else pn_E, bif hn then qnT_E else qnF_E]
theorem arTab_ok (neg hw hn : Bool) : ∀ e ∈ arTab neg hw hn, CallWOk Tryz.prog e := by
  intro e he
  simp only [arTab, List.mem_cons, List.not_mem_nil, or_false] at he
  rcases he with rfl | rfl | rfl | rfl
  · cases neg
    · exact pw_ok
    · exact pwN_ok
  · cases hw
    · exact qwF_ok
    · exact qwT_ok
  · cases neg
    · exact pn_ok
    · exact pnN_ok
  · cases hn
    · exact qnF_ok
    · exact qnT_ok
noncomputable def arHook (neg hw hn : Bool) : Hook3 := orHook3 newAHook (orHook3 (liftH (callWHook (arTab neg hw hn))) (liftH (guardH (orHook doHook (orHook (holdW hw hn) goesHook)))))
theorem arHook_ok (neg hw hn : Bool) : HookOk3 Tryz.prog (arHook neg hw hn) := orHook3_ok newAHook_ok (orHook3_ok (lift_ok (callWHook_ok (arTab_ok neg hw hn))) (lift_ok (guard_ok (orHook_ok doHook_ok (orHook_ok (holdW_ok hw hn) goesHook_ok)))))
def u8at (x : List Value) (i : Nat) (n : Int) : Bool := match x.getD i undef with | .int _ m => m == n | _ => false
def arOrc (neg : Bool) (cc k cd : Int) : Orc := fun f t x =>
  if Nat.beq f 4 then
    if Nat.beq t 29 then some (.int .u8 cc)
    else if Nat.beq t 52 then some (.int .u8 (if u8at x 49 7 then cc + 15 else cc + 12))
    else if Nat.beq t 55 then some (.bool neg)
    else if Nat.beq t 58 then some (.int .u8 (if u8at x 56 7 then 135 else 132))
    else if Nat.beq t 93 then some (.bool false)
    else if Nat.beq t 102 then some (.int .u8 k)
    else if Nat.beq t 103 then some .nilIface
    else if Nat.beq t 19 then some (.int .u8 cd)
    else if Nat.beq t 110 then some (.int .u8 (if u8at x 107 5 then cd + 13 else cd + 14))
    else none
  else none
end Go.Proofs.YthhgfjnnconocaaGreatDoor.Ex
