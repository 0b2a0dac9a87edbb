/-
  Layer 8: the law MapsArray: what it calls by contract; what its rounds are told.
-/
import Derived.Test.YtafegjmaldbbiaaLaw08a
import Derived.Test.YtafegjmaldbbiaaEx27
import Derived.Test.YtafegjmaldbbiaaSk0
import Derived.Test.YtafegjmaldbbiaaSlHook
import Derived.Test.YtafegjmaldbbiaaExI
namespace Go.Proofs.Ytafegjmaldbbiaa.Ex
open Go Go.RowKit
set_option linter.unusedVariables false
noncomputable def arHook : Hook := orHook keptHook repHook
theorem arHook_ok : HookOk Try.prog arHook := orHook_ok keptHook_ok repHook_ok
noncomputable def ar3 : Hook3 := liftH (guardH arHook)
theorem ar3_ok : HookOk3 Try.prog ar3 := lift_ok (guard_ok arHook_ok)
end Go.Proofs.Ytafegjmaldbbiaa.Ex
