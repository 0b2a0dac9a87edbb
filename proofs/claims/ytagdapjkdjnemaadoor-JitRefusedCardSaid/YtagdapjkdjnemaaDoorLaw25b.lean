/-
  Layer 25: the chapter's program as machine code, reckoned.
-/
import Derived.Test.YtagdapjkdjnemaaDoorLaw25a
namespace Go.Proofs.YtagdapjkdjnemaaDoor.Ex
open Go Go.RowKit
set_option maxHeartbeats 0 in
set_option maxRecDepth 1000000 in
theorem coded_any (w : World) (hL : Laid h25 w) : Calls Tryd.prog 9 #[] w fun e w' => e = .returned (.bool true) ∧ Gr w w' :=
  reckonG_ok noNG tabHook_ok 100000 300 h25 rfl rfl (by kernel_rfl) w hL
def codedHook : Hook := orHook tabHook <| memoHook h25 9 [([], .bool true)]
theorem codedHook_ok : HookOk Tryd.prog codedHook := orHook_ok tabHook_ok <| memoHook_ok rfl ⟨fun w hL => coded_any w hL, trivial⟩
def jrOrc (r q : Int) : Orc := fun f t _ => if Nat.beq f 4 then (if Nat.beq t 17 || Nat.beq t 60 then some (.int .i64 r) else if Nat.beq t 28 || Nat.beq t 56 then some (.int .u8 q) else none) else none
end Go.Proofs.YtagdapjkdjnemaaDoor.Ex
