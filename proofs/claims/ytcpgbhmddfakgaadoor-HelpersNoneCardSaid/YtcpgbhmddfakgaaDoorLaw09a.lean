/-
  The law HelpersNone, reckoned.
-/
import Derived.Test.YtcpgbhmddfakgaaDoorRepHook
import Derived.Test.YtcpgbhmddfakgaaDoorNoNG
import Derived.Test.YtcpgbhmddfakgaaDoorLaidArr
import Derived.Test.YtcpgbhmddfakgaaDoorProg
import Derived.Test.YtcpgbhmddfakgaaDoorRows
namespace Go.Proofs.YtcpgbhmddfakgaaDoor.Ex
open Go Go.RowKit Go.ChangeShapes Go.WideShapes Go.WideMaps Go.WideElems
def argNs : List Int := [-1, 2, 4, 2, -1, -1, -1, 0]
def h09 : List AO := List.replicate 0 dead ++ [⟨true, some GM, argNs.map (.int .i8)⟩]
def TabAt (w : World) : Prop := ∃ t fr, w.heap[0]? = some (.cells ⟨argNs.map (.int .i8)⟩ t fr)
theorem laid_of_tab {w : World} (h : TabAt w) : Laid h09 w := Laid.one rfl h
theorem gArgs : Tryd.prog.globalNamed "firewall/helpers.args" = some 0 := by kernel_rfl
theorem tArgs : (Tryd.prog.globals[0]?).map (·.type) = some 64 := by kernel_rfl
theorem tab_of_laid {W : World} (h : laidMetH Tryd.prog [("firewall/helpers.args", Rows.laid_firewall_helpers_args)] W) : TabAt W := by
  rw [MakeChecks.laidMetH_plain _ _ _ (by kernel_rfl)] at h
  obtain ⟨ps, ⟨g0, t0, cs0, f0, p0, q0, hg0, ht0, hv0, hd0, _⟩, _⟩ := h
  obtain rfl := Option.some.inj (gArgs.symm.trans hg0)
  obtain rfl := Option.some.inj (tArgs.symm.trans ht0)
  have key := cells_of_ints (ns := argNs) Tryd.underlying64 Tryd.underlying63 (by kernel_rfl) (by kernel_rfl) hd0 rfl
  have hkey : cs0 = ⟨argNs.map (.int .i8)⟩ := Array.toList_inj.1 key
  subst hkey
  simp only [World.var?, gArgs, Option.bind_some] at hv0
  split at hv0
  · rename_i cs t fr hh
    obtain rfl := Option.some.inj hv0
    exact ⟨t, fr, hh⟩
  · cases hv0
set_option maxHeartbeats 0 in
set_option maxRecDepth 1000000 in
theorem helpersNone_walk (k i a0 a1 a2 a3 a4 : Int) (w : World) (hT : TabAt w) : Calls Tryd.prog 3 #[.agg #[.int .u8 k, .int .i64 i, .int .u64 a0, .int .u64 a1, .int .u64 a2, .int .u64 a3, .int .u64 a4]] w fun e w' => e = .returned (.bool true) ∧ Gr w w' :=
  reckonG_ok noNG repHook_ok 100000 300 h09 rfl rfl (by kernel_rfl) w (laid_of_tab hT)
end Go.Proofs.YtcpgbhmddfakgaaDoor.Ex
