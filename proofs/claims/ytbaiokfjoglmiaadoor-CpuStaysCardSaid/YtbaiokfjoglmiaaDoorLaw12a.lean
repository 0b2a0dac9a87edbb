/-
  Layer 12: the table of forms, as it lies; the chapter's examples, reckoned.
-/
import Derived.Test.YtbaiokfjoglmiaaDoorPackC
import Derived.Test.YtbaiokfjoglmiaaDoorProg
import Derived.Test.YtbaiokfjoglmiaaDoorRows
namespace Go.Proofs.YtbaiokfjoglmiaaDoor.Ex
open Go Go.RowKit Go.ChangeShapes Go.WideShapes Go.WideMaps Go.WideElems
def fmCs : List Value := flatD (H := Unit) 4 Rows.laid_firewall_codec_forms
def h12 : List AO := List.replicate 0 dead ++ [⟨true, some GM, fmCs⟩]
def TabAt (w : World) : Prop := ∃ t fr, w.heap[0]? = some (.cells ⟨fmCs⟩ t fr)
theorem laid_of_tab {w : World} (h : TabAt w) : Laid h12 w := Laid.one rfl h
theorem gFm : Tryd.prog.globalNamed "firewall/codec.forms" = some 0 := by kernel_rfl
theorem tFm : (Tryd.prog.globals[0]?).map (·.type) = some 61 := by kernel_rfl
theorem fm_flat {H : Type} : flatD (H := H) 4 Rows.laid_firewall_codec_forms = fmCs := rfl
theorem tab_of_laid {W : World} (h : laidMetH Tryd.prog [("firewall/codec.forms", Rows.laid_firewall_codec_forms)] W) : TabAt W := by
  rw [MakeChecks.laidMetH_plain _ _ _ (by kernel_rfl)] at h
  obtain ⟨ps, ⟨g0, t0, cs0, f0, p0, q0, hg0, ht0, hv0, hd0, _⟩, _⟩ := h
  obtain rfl := Option.some.inj (gFm.symm.trans hg0)
  obtain rfl := Option.some.inj (tFm.symm.trans ht0)
  have key := plain_flat 4 (ks := (List.replicate 22 [Kd.i .u16, .b, .i .u8, .i .u8, .i .u8, .i .u8]).flatten) (by kernel_rfl) hd0
  have hkey : cs0 = ⟨fmCs⟩ := Array.toList_inj.1 (key.trans fm_flat)
  subst hkey
  simp only [World.var?, gFm, Option.bind_some] at hv0
  split at hv0
  · rename_i cs t fr hh
    obtain rfl := Option.some.inj hv0
    exact ⟨t, fr, hh⟩
  · cases hv0
set_option maxHeartbeats 0 in
set_option maxRecDepth 1000000 in
theorem done_any (w : World) (hL : Laid h12 w) : Calls Tryd.prog 24 #[] w fun e w' => e = .returned (.bool true) ∧ Gr w w' :=
  reckonG_ok noNG (noHook_ok _) 100000 300 h12 rfl rfl (by kernel_rfl) w hL
end Go.Proofs.YtbaiokfjoglmiaaDoor.Ex
