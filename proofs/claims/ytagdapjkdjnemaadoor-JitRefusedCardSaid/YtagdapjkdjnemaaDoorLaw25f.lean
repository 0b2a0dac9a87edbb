/-
  The law JitRefused, reckoned: some of its twenty ways.
-/
import Derived.Test.YtagdapjkdjnemaaDoorLaw25b
namespace Go.Proofs.YtagdapjkdjnemaaDoor.Ex
open Go Go.RowKit
set_option maxRecDepth 1000000 in
set_option maxHeartbeats 0 in
theorem jr_0_0 (m u : Int) (hm : (IntKind.i64.wrap m).tmod 4 = 0) (hu : u.tmod 5 = 0) (w : World) (hL : Laid h25 w) : Calls Tryd.prog 4 #[.int .u8 m, .int .u8 u] w fun e w' => e = .returned (.bool true) ∧ Gr w w' := by
  refine reckonT_ok noNG (hk := codedHook) codedHook_ok (jrOrc 0 0) 100000 300 h25 (cs := [((IntKind.i64.wrap m).tmod 4, 0), (u.tmod 5, 0), (u.tmod 5, 0), ((IntKind.i64.wrap m).tmod 4, 0)]) rfl rfl (by kernel_rfl) ?_ w hL
  simp only [hm, hu, List.map]
set_option maxRecDepth 1000000 in
set_option maxHeartbeats 0 in
theorem jr_0_1 (m u : Int) (hm : (IntKind.i64.wrap m).tmod 4 = 0) (hu : u.tmod 5 = 1) (w : World) (hL : Laid h25 w) : Calls Tryd.prog 4 #[.int .u8 m, .int .u8 u] w fun e w' => e = .returned (.bool true) ∧ Gr w w' := by
  refine reckonT_ok noNG (hk := codedHook) codedHook_ok (jrOrc 0 1) 100000 300 h25 (cs := [((IntKind.i64.wrap m).tmod 4, 0), (u.tmod 5, 1), (u.tmod 5, 1), ((IntKind.i64.wrap m).tmod 4, 0)]) rfl rfl (by kernel_rfl) ?_ w hL
  simp only [hm, hu, List.map]
set_option maxRecDepth 1000000 in
set_option maxHeartbeats 0 in
theorem jr_0_2 (m u : Int) (hm : (IntKind.i64.wrap m).tmod 4 = 0) (hu : u.tmod 5 = 2) (w : World) (hL : Laid h25 w) : Calls Tryd.prog 4 #[.int .u8 m, .int .u8 u] w fun e w' => e = .returned (.bool true) ∧ Gr w w' := by
  refine reckonT_ok noNG (hk := codedHook) codedHook_ok (jrOrc 0 2) 100000 300 h25 (cs := [((IntKind.i64.wrap m).tmod 4, 0), (u.tmod 5, 2), (u.tmod 5, 2), ((IntKind.i64.wrap m).tmod 4, 0)]) rfl rfl (by kernel_rfl) ?_ w hL
  simp only [hm, hu, List.map]
set_option maxRecDepth 1000000 in
set_option maxHeartbeats 0 in
theorem jr_0_3 (m u : Int) (hm : (IntKind.i64.wrap m).tmod 4 = 0) (hu : u.tmod 5 = 3) (w : World) (hL : Laid h25 w) : Calls Tryd.prog 4 #[.int .u8 m, .int .u8 u] w fun e w' => e = .returned (.bool true) ∧ Gr w w' := by
  refine reckonT_ok noNG (hk := codedHook) codedHook_ok (jrOrc 0 3) 100000 300 h25 (cs := [((IntKind.i64.wrap m).tmod 4, 0), (u.tmod 5, 3), (u.tmod 5, 3), ((IntKind.i64.wrap m).tmod 4, 0)]) rfl rfl (by kernel_rfl) ?_ w hL
  simp only [hm, hu, List.map]
set_option maxRecDepth 1000000 in
set_option maxHeartbeats 0 in
theorem jr_0_4 (m u : Int) (hm : (IntKind.i64.wrap m).tmod 4 = 0) (hu : u.tmod 5 = 4) (w : World) (hL : Laid h25 w) : Calls Tryd.prog 4 #[.int .u8 m, .int .u8 u] w fun e w' => e = .returned (.bool true) ∧ Gr w w' := by
  refine reckonT_ok noNG (hk := codedHook) codedHook_ok (jrOrc 0 4) 100000 300 h25 (cs := [((IntKind.i64.wrap m).tmod 4, 0), (u.tmod 5, 4), (u.tmod 5, 4), ((IntKind.i64.wrap m).tmod 4, 0)]) rfl rfl (by kernel_rfl) ?_ w hL
  simp only [hm, hu, List.map]
set_option maxRecDepth 1000000 in
set_option maxHeartbeats 0 in
theorem jr_1_1 (m u : Int) (hm : (IntKind.i64.wrap m).tmod 4 = 1) (hu : u.tmod 5 = 1) (w : World) (hL : Laid h25 w) : Calls Tryd.prog 4 #[.int .u8 m, .int .u8 u] w fun e w' => e = .returned (.bool true) ∧ Gr w w' := by
  refine reckonT_ok noNG (hk := codedHook) codedHook_ok (jrOrc 1 1) 100000 300 h25 (cs := [((IntKind.i64.wrap m).tmod 4, 1), ((IntKind.i64.wrap m).tmod 4, 1), (u.tmod 5, 1), (u.tmod 5, 1), ((IntKind.i64.wrap m).tmod 4, 1)]) rfl rfl (by kernel_rfl) ?_ w hL
  simp only [hm, hu, List.map]
set_option maxRecDepth 1000000 in
set_option maxHeartbeats 0 in
theorem jr_1_2 (m u : Int) (hm : (IntKind.i64.wrap m).tmod 4 = 1) (hu : u.tmod 5 = 2) (w : World) (hL : Laid h25 w) : Calls Tryd.prog 4 #[.int .u8 m, .int .u8 u] w fun e w' => e = .returned (.bool true) ∧ Gr w w' := by
  refine reckonT_ok noNG (hk := codedHook) codedHook_ok (jrOrc 1 2) 100000 300 h25 (cs := [((IntKind.i64.wrap m).tmod 4, 1), ((IntKind.i64.wrap m).tmod 4, 1), (u.tmod 5, 2), (u.tmod 5, 2), ((IntKind.i64.wrap m).tmod 4, 1)]) rfl rfl (by kernel_rfl) ?_ w hL
  simp only [hm, hu, List.map]
set_option maxRecDepth 1000000 in
set_option maxHeartbeats 0 in
theorem jr_1_3 (m u : Int) (hm : (IntKind.i64.wrap m).tmod 4 = 1) (hu : u.tmod 5 = 3) (w : World) (hL : Laid h25 w) : Calls Tryd.prog 4 #[.int .u8 m, .int .u8 u] w fun e w' => e = .returned (.bool true) ∧ Gr w w' := by
  refine reckonT_ok noNG (hk := codedHook) codedHook_ok (jrOrc 1 3) 100000 300 h25 (cs := [((IntKind.i64.wrap m).tmod 4, 1), ((IntKind.i64.wrap m).tmod 4, 1), (u.tmod 5, 3), (u.tmod 5, 3), ((IntKind.i64.wrap m).tmod 4, 1)]) rfl rfl (by kernel_rfl) ?_ w hL
  simp only [hm, hu, List.map]
set_option maxRecDepth 1000000 in
set_option maxHeartbeats 0 in
theorem jr_1_4 (m u : Int) (hm : (IntKind.i64.wrap m).tmod 4 = 1) (hu : u.tmod 5 = 4) (w : World) (hL : Laid h25 w) : Calls Tryd.prog 4 #[.int .u8 m, .int .u8 u] w fun e w' => e = .returned (.bool true) ∧ Gr w w' := by
  refine reckonT_ok noNG (hk := codedHook) codedHook_ok (jrOrc 1 4) 100000 300 h25 (cs := [((IntKind.i64.wrap m).tmod 4, 1), ((IntKind.i64.wrap m).tmod 4, 1), (u.tmod 5, 4), (u.tmod 5, 4), ((IntKind.i64.wrap m).tmod 4, 1)]) rfl rfl (by kernel_rfl) ?_ w hL
  simp only [hm, hu, List.map]
end Go.Proofs.YtagdapjkdjnemaaDoor.Ex
