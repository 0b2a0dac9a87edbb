/-
  The law EmitPairs, reckoned: where two stand ahead.
-/
import Derived.Test.YtagdapjkdjnemaaDoorLaw24e
namespace Go.Proofs.YtagdapjkdjnemaaDoor.Ex
open Go Go.RowKit
set_option maxRecDepth 1000000 in
set_option maxHeartbeats 0 in
theorem emitPairs_2 (n : Int) (h : (IntKind.i64.wrap n).tmod 4 = 2) (w : World) (hT : TabAt w) : Calls Tryd.prog 3 #[.int .u8 n] w fun e w' => e = .returned (.bool true) ∧ Gr w w' := by
  refine reckonS_ok noNG (hk := mHook) mHook_ok (remOrc 2) 100000 300 h24 (ls := [(IntKind.i64.wrap n).tmod 4, (IntKind.i64.wrap n).tmod 4, (IntKind.i64.wrap n).tmod 4, (IntKind.i64.wrap n).tmod 4]) (rs := [2, 2, 2, 2]) rfl rfl (by kernel_rfl) (by kernel_rfl) ?_ w hT
  simp only [h]
end Go.Proofs.YtagdapjkdjnemaaDoor.Ex
