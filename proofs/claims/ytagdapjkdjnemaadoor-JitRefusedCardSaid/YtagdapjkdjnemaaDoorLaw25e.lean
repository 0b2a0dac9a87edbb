/-
  The law JitRefused, reckoned: some of its twenty ways.
-/
import Derived.Test.YtagdapjkdjnemaaDoorLaw25b
namespace Go.Proofs.YtagdapjkdjnemaaDoor.Ex
open Go Go.RowKit
set_option maxRecDepth 1000000 in
set_option maxHeartbeats 0 in
theorem jr_2_1 (m u : Int) (hm : (IntKind.i64.wrap m).tmod 4 = 2) (hu : u.tmod 5 = 1) (w : World) (hL : Laid h25 w) : Calls Tryd.prog 4 #[.int .u8 m, .int .u8 u] w fun e w' => e = .returned (.bool true) ∧ Gr w w' := by
  refine reckonT_ok noNG (hk := codedHook) codedHook_ok (jrOrc 2 1) 100000 300 h25 (cs := [((IntKind.i64.wrap m).tmod 4, 2), ((IntKind.i64.wrap m).tmod 4, 2), ((IntKind.i64.wrap m).tmod 4, 2), (u.tmod 5, 1), (u.tmod 5, 1), ((IntKind.i64.wrap m).tmod 4, 2)]) rfl rfl (by kernel_rfl) ?_ w hL
  simp only [hm, hu, List.map]
set_option maxRecDepth 1000000 in
set_option maxHeartbeats 0 in
theorem jr_1_0 (m u : Int) (hm : (IntKind.i64.wrap m).tmod 4 = 1) (hu : u.tmod 5 = 0) (w : World) (hL : Laid h25 w) : Calls Tryd.prog 4 #[.int .u8 m, .int .u8 u] w fun e w' => e = .returned (.bool true) ∧ Gr w w' := by
  refine reckonT_ok noNG (hk := codedHook) codedHook_ok (jrOrc 1 0) 100000 300 h25 (cs := [((IntKind.i64.wrap m).tmod 4, 1), ((IntKind.i64.wrap m).tmod 4, 1), (u.tmod 5, 0), (u.tmod 5, 0), ((IntKind.i64.wrap m).tmod 4, 1)]) rfl rfl (by kernel_rfl) ?_ w hL
  simp only [hm, hu, List.map]
end Go.Proofs.YtagdapjkdjnemaaDoor.Ex
