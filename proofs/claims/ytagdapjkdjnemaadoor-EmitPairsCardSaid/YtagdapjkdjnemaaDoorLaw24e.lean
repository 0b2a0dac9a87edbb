/-
  The law EmitPairs, reckoned: two of the four ways, by how often it is asked.
-/
import Derived.Test.YtagdapjkdjnemaaDoorLaw24d
namespace Go.Proofs.YtagdapjkdjnemaaDoor.Ex
open Go Go.RowKit
def remOrc (r : Int) : Orc := fun f t _ => if Nat.beq f 3 && Nat.beq t 11 then some (.int .i64 r) else none
set_option maxRecDepth 1000000 in
set_option maxHeartbeats 0 in
theorem emitPairs_0 (n : Int) (h : (IntKind.i64.wrap n).tmod 4 = 0) (w : World) (hT : TabAt w) : Calls Tryd.prog 3 #[.int .u8 n] w fun e w' => e = .returned (.bool true) ∧ Gr w w' := by
  refine reckonS_ok noNG (hk := mHook) mHook_ok (remOrc 0) 100000 300 h24 (ls := [(IntKind.i64.wrap n).tmod 4, (IntKind.i64.wrap n).tmod 4]) (rs := [0, 0]) rfl rfl (by kernel_rfl) (by kernel_rfl) ?_ w hT
  simp only [h]
set_option maxRecDepth 1000000 in
set_option maxHeartbeats 0 in
theorem emitPairs_1 (n : Int) (h : (IntKind.i64.wrap n).tmod 4 = 1) (w : World) (hT : TabAt w) : Calls Tryd.prog 3 #[.int .u8 n] w fun e w' => e = .returned (.bool true) ∧ Gr w w' := by
  refine reckonS_ok noNG (hk := mHook) mHook_ok (remOrc 1) 100000 300 h24 (ls := [(IntKind.i64.wrap n).tmod 4, (IntKind.i64.wrap n).tmod 4, (IntKind.i64.wrap n).tmod 4]) (rs := [1, 1, 1]) rfl rfl (by kernel_rfl) (by kernel_rfl) ?_ w hT
  simp only [h]
end Go.Proofs.YtagdapjkdjnemaaDoor.Ex
