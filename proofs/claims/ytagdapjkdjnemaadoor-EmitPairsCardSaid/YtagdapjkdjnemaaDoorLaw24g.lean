/-
  The law EmitPairs, reckoned: where three stand ahead; all ways together.
-/
import Derived.Test.YtagdapjkdjnemaaDoorLaw24f
namespace Go.Proofs.YtagdapjkdjnemaaDoor.Ex
open Go Go.RowKit
set_option maxRecDepth 1000000 in
set_option maxHeartbeats 0 in
theorem emitPairs_3 (n : Int) (h : (IntKind.i64.wrap n).tmod 4 = 3) (w : World) (hT : TabAt w) : Calls Tryd.prog 3 #[.int .u8 n] w fun e w' => e = .returned (.bool true) ∧ Gr w w' := by
  refine reckonS_ok noNG (hk := mHook) mHook_ok (remOrc 3) 100000 300 h24 (ls := [(IntKind.i64.wrap n).tmod 4, (IntKind.i64.wrap n).tmod 4, (IntKind.i64.wrap n).tmod 4, (IntKind.i64.wrap n).tmod 4, (IntKind.i64.wrap n).tmod 4]) (rs := [3, 3, 3, 3, 3]) rfl rfl (by kernel_rfl) (by kernel_rfl) ?_ w hT
  simp only [h]
theorem emitPairs_walk (n : Int) (hn : (Lit.int .u8 n).wf = true) (w : World) (hT : TabAt w) : Calls Tryd.prog 3 #[.int .u8 n] w fun e w' => e = .returned (.bool true) ∧ Gr w w' := by
  have hb : 0 ≤ n ∧ n ≤ 255 := by
    simp [Lit.wf, IntKind.min, IntKind.max, IntKind.signed, IntKind.bits] at hn
    omega
  have e1 : IntKind.i64.wrap n = n := by
    simp [IntKind.wrap, IntKind.bits, IntKind.signed]
    omega
  have e2 : n.tmod 4 = n % 4 := Int.tmod_eq_emod_of_nonneg hb.1
  have hr : n % 4 = 0 ∨ n % 4 = 1 ∨ n % 4 = 2 ∨ n % 4 = 3 := by omega
  rcases hr with h | h | h | h
  · exact emitPairs_0 n (by rw [e1, e2, h]) w hT
  · exact emitPairs_1 n (by rw [e1, e2, h]) w hT
  · exact emitPairs_2 n (by rw [e1, e2, h]) w hT
  · exact emitPairs_3 n (by rw [e1, e2, h]) w hT
end Go.Proofs.YtagdapjkdjnemaaDoor.Ex
