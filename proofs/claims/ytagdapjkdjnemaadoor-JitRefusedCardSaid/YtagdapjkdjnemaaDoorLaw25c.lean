/-
  The law JitRefused, reckoned: some of its twenty ways.
-/
import Derived.Test.YtagdapjkdjnemaaDoorLaw25b
namespace Go.Proofs.YtagdapjkdjnemaaDoor.Ex
open Go Go.RowKit
set_option maxRecDepth 1000000 in
set_option maxHeartbeats 0 in
theorem jr_3_0 (m u : Int) (hm : (IntKind.i64.wrap m).tmod 4 = 3) (hu : u.tmod 5 = 0) (w : World) (hL : Laid h25 w) : Calls Tryd.prog 4 #[.int .u8 m, .int .u8 u] w fun e w' => e = .returned (.bool true) ∧ Gr w w' := by
  refine reckonT_ok noNG (hk := codedHook) codedHook_ok (jrOrc 3 0) 100000 300 h25 (cs := [((IntKind.i64.wrap m).tmod 4, 3), ((IntKind.i64.wrap m).tmod 4, 3), ((IntKind.i64.wrap m).tmod 4, 3), ((IntKind.i64.wrap m).tmod 4, 3), (u.tmod 5, 0), (u.tmod 5, 0), ((IntKind.i64.wrap m).tmod 4, 3)]) rfl rfl (by kernel_rfl) ?_ w hL
  simp only [hm, hu, List.map]
set_option maxRecDepth 1000000 in
set_option maxHeartbeats 0 in
theorem jr_3_1 (m u : Int) (hm : (IntKind.i64.wrap m).tmod 4 = 3) (hu : u.tmod 5 = 1) (w : World) (hL : Laid h25 w) : Calls Tryd.prog 4 #[.int .u8 m, .int .u8 u] w fun e w' => e = .returned (.bool true) ∧ Gr w w' := by
  refine reckonT_ok noNG (hk := codedHook) codedHook_ok (jrOrc 3 1) 100000 300 h25 (cs := [((IntKind.i64.wrap m).tmod 4, 3), ((IntKind.i64.wrap m).tmod 4, 3), ((IntKind.i64.wrap m).tmod 4, 3), ((IntKind.i64.wrap m).tmod 4, 3), (u.tmod 5, 1), (u.tmod 5, 1), ((IntKind.i64.wrap m).tmod 4, 3)]) rfl rfl (by kernel_rfl) ?_ w hL
  simp only [hm, hu, List.map]
end Go.Proofs.YtagdapjkdjnemaaDoor.Ex
