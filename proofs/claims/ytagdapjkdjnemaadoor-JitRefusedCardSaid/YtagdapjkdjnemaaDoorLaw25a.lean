/-
  Layer 25: the four tables as they lie; what is asked often, reckoned once.
-/
import Derived.Test.YtagdapjkdjnemaaDoorLaw24d
import Derived.Test.YtagdapjkdjnemaaDoorFlat
import Derived.Test.YtagdapjkdjnemaaDoorMemo
namespace Go.Proofs.YtagdapjkdjnemaaDoor.Ex
open Go Go.RowKit Go.ChangeShapes Go.WideShapes Go.WideMaps Go.WideElems
def fmCs : List Value := flatD (H := Unit) 4 Rows.laid_firewall_codec_forms
def h25 : List AO := [⟨true, some GM, savNs.map (.int .i64)⟩, ⟨true, some GM, regNs.map (.int .i64)⟩, ⟨true, some GM, fmCs⟩, ⟨true, some GM, sizCs⟩]
theorem place25 : 2 = 2 := rfl
theorem g3 : Tryd.prog.globalNamed "firewall/codec.forms" = some 2 := by kernel_rfl
theorem t3 : (Tryd.prog.globals[2]?).map (·.type) = some 95 := by kernel_rfl
theorem fm_flat {H : Type} : flatD (H := H) 4 Rows.laid_firewall_codec_forms = fmCs := rfl
def TabAt25 (w : World) : Prop := Laid h25 w
set_option maxRecDepth 100000 in
theorem tab25_of_laid {W : World} (h : laidMetH Tryd.prog [("firewall/insns.sizes", Rows.laid_firewall_insns_sizes), ("firewall/emit.registers", Rows.laid_firewall_emit_registers), ("firewall/emit.saved", Rows.laid_firewall_emit_saved), ("firewall/codec.forms", Rows.laid_firewall_codec_forms)] W) : TabAt25 W := by
  rw [MakeChecks.laidMetH_plain _ _ _ (by kernel_rfl)] at h
  obtain ⟨ps, ⟨ga, ta, ca, fa, pa, qa, hga, hta, hva, hda, ⟨gb, tb, cb, fb, pb, qb, hgb, htb, hvb, hdb, ⟨gc, tc, cc, fc, pc, qc, hgc, htc, hvc, hdc, ⟨gd, td, cd, fd, pd, qd, hgd, htd, hvd, hdd, _⟩, _⟩, _⟩, _⟩, _⟩ := h
  obtain rfl := Option.some.inj (g2.symm.trans hga)
  obtain rfl := Option.some.inj (t2.symm.trans hta)
  obtain rfl := Option.some.inj (g0.symm.trans hgb)
  obtain rfl := Option.some.inj (t0.symm.trans htb)
  obtain rfl := Option.some.inj (g1.symm.trans hgc)
  obtain rfl := Option.some.inj (t1.symm.trans htc)
  obtain rfl := Option.some.inj (g3.symm.trans hgd)
  obtain rfl := Option.some.inj (t3.symm.trans htd)
  have ka := cells_of_pairs (ns := sizNs) Tryd.underlying114 Tryd.underlying113 (by kernel_rfl) (by kernel_rfl) (by kernel_rfl) Tryd.underlying5 Tryd.underlying5 hda rfl
  have kb := cells_of_ints (ns := regNs) Tryd.underlying86 Tryd.underlying3 (by kernel_rfl) (by kernel_rfl) hdb rfl
  have kc := cells_of_ints (ns := savNs) Tryd.underlying46 Tryd.underlying3 (by kernel_rfl) (by kernel_rfl) hdc rfl
  have kd := plain_flat 4 (ks := (List.replicate 22 [Kd.i .u16, .b, .i .u8, .i .u8, .i .u8, .i .u8]).flatten) (by kernel_rfl) hdd
  have ka' : ca = ⟨sizCs⟩ := Array.toList_inj.1 ka
  have kb' : cb = ⟨regNs.map (.int .i64)⟩ := Array.toList_inj.1 kb
  have kc' : cc = ⟨savNs.map (.int .i64)⟩ := Array.toList_inj.1 kc
  have kd' : cd = ⟨fmCs⟩ := Array.toList_inj.1 (kd.trans fm_flat)
  subst ka' kb' kc' kd'
  have ha := heap_of_var g2 hva
  have hb := heap_of_var g0 hvb
  have hc := heap_of_var g1 hvc
  have hd := heap_of_var g3 hvd
  intro g o ho hl
  match g, ho with
  | 0, ho => cases ho; exact ⟨rfl, rfl, laid_at hc⟩
  | 1, ho => cases ho; exact ⟨rfl, rfl, laid_at hb⟩
  | 2, ho => cases ho; exact ⟨rfl, rfl, laid_at hd⟩
  | 3, ho => cases ho; exact ⟨rfl, rfl, laid_at ha⟩
def encTab : Tab := [
  ([.agg ⟨[.int .i64 17, .int .i64 0, .int .i64 0, .int .i64 0, .bool false, .bool false, .int .i64 3, .int .i64 0, .int .i32 0, .int .i32 0, .int .i64 0]⟩], .tuple ⟨[.string ⟨#[83]⟩, .int .i64 0]⟩),
  ([.agg ⟨[.int .i64 17, .int .i64 0, .int .i64 0, .int .i64 0, .bool false, .bool false, .int .i64 12, .int .i64 0, .int .i32 0, .int .i32 0, .int .i64 0]⟩], .tuple ⟨[.string ⟨#[65, 84]⟩, .int .i64 0]⟩),
  ([.agg ⟨[.int .i64 17, .int .i64 0, .int .i64 0, .int .i64 0, .bool false, .bool false, .int .i64 13, .int .i64 0, .int .i32 0, .int .i32 0, .int .i64 0]⟩], .tuple ⟨[.string ⟨#[65, 85]⟩, .int .i64 0]⟩),
  ([.agg ⟨[.int .i64 17, .int .i64 0, .int .i64 0, .int .i64 0, .bool false, .bool false, .int .i64 14, .int .i64 0, .int .i32 0, .int .i32 0, .int .i64 0]⟩], .tuple ⟨[.string ⟨#[65, 86]⟩, .int .i64 0]⟩),
  ([.agg ⟨[.int .i64 17, .int .i64 0, .int .i64 0, .int .i64 0, .bool false, .bool false, .int .i64 15, .int .i64 0, .int .i32 0, .int .i32 0, .int .i64 0]⟩], .tuple ⟨[.string ⟨#[65, 87]⟩, .int .i64 0]⟩),
  ([.agg ⟨[.int .i64 17, .int .i64 0, .int .i64 0, .int .i64 0, .bool false, .bool false, .int .i64 5, .int .i64 0, .int .i32 0, .int .i32 0, .int .i64 0]⟩], .tuple ⟨[.string ⟨#[85]⟩, .int .i64 0]⟩),
  ([.agg ⟨[.int .i64 2, .int .i64 0, .int .i64 0, .int .i64 0, .bool true, .bool false, .int .i64 7, .int .i64 0, .int .i32 0, .int .i32 0, .int .i64 65536]⟩], .tuple ⟨[.string ⟨#[72, 199, 199, 0, 0, 1, 0]⟩, .int .i64 0]⟩),
  ([.agg ⟨[.int .i64 2, .int .i64 0, .int .i64 0, .int .i64 0, .bool true, .bool false, .int .i64 5, .int .i64 0, .int .i32 0, .int .i32 0, .int .i64 131584]⟩], .tuple ⟨[.string ⟨#[72, 199, 197, 0, 2, 2, 0]⟩, .int .i64 0]⟩),
  ([.agg ⟨[.int .i64 2, .int .i64 0, .int .i64 0, .int .i64 0, .bool true, .bool false, .int .i64 0, .int .i64 0, .int .i32 0, .int .i32 0, .int .i64 1]⟩], .tuple ⟨[.string ⟨#[72, 199, 192, 1, 0, 0, 0]⟩, .int .i64 0]⟩),
  ([.agg ⟨[.int .i64 18, .int .i64 0, .int .i64 0, .int .i64 0, .bool false, .bool false, .int .i64 5, .int .i64 0, .int .i32 0, .int .i32 0, .int .i64 0]⟩], .tuple ⟨[.string ⟨#[93]⟩, .int .i64 0]⟩),
  ([.agg ⟨[.int .i64 18, .int .i64 0, .int .i64 0, .int .i64 0, .bool false, .bool false, .int .i64 15, .int .i64 0, .int .i32 0, .int .i32 0, .int .i64 0]⟩], .tuple ⟨[.string ⟨#[65, 95]⟩, .int .i64 0]⟩),
  ([.agg ⟨[.int .i64 18, .int .i64 0, .int .i64 0, .int .i64 0, .bool false, .bool false, .int .i64 14, .int .i64 0, .int .i32 0, .int .i32 0, .int .i64 0]⟩], .tuple ⟨[.string ⟨#[65, 94]⟩, .int .i64 0]⟩),
  ([.agg ⟨[.int .i64 18, .int .i64 0, .int .i64 0, .int .i64 0, .bool false, .bool false, .int .i64 13, .int .i64 0, .int .i32 0, .int .i32 0, .int .i64 0]⟩], .tuple ⟨[.string ⟨#[65, 93]⟩, .int .i64 0]⟩),
  ([.agg ⟨[.int .i64 18, .int .i64 0, .int .i64 0, .int .i64 0, .bool false, .bool false, .int .i64 12, .int .i64 0, .int .i32 0, .int .i32 0, .int .i64 0]⟩], .tuple ⟨[.string ⟨#[65, 92]⟩, .int .i64 0]⟩),
  ([.agg ⟨[.int .i64 18, .int .i64 0, .int .i64 0, .int .i64 0, .bool false, .bool false, .int .i64 3, .int .i64 0, .int .i32 0, .int .i32 0, .int .i64 0]⟩], .tuple ⟨[.string ⟨#[91]⟩, .int .i64 0]⟩),
  ([.agg ⟨[.int .i64 19, .int .i64 0, .int .i64 0, .int .i64 0, .bool false, .bool false, .int .i64 0, .int .i64 0, .int .i32 0, .int .i32 0, .int .i64 0]⟩], .tuple ⟨[.string ⟨#[195]⟩, .int .i64 0]⟩),
  ([.agg ⟨[.int .i64 2, .int .i64 0, .int .i64 0, .int .i64 0, .bool true, .bool false, .int .i64 7, .int .i64 0, .int .i32 0, .int .i32 0, .int .i64 9437184]⟩], .tuple ⟨[.string ⟨#[72, 199, 199, 0, 0, 144, 0]⟩, .int .i64 0]⟩),
  ([.agg ⟨[.int .i64 2, .int .i64 0, .int .i64 0, .int .i64 0, .bool true, .bool false, .int .i64 0, .int .i64 0, .int .i32 0, .int .i32 0, .int .i64 0]⟩], .tuple ⟨[.string ⟨#[72, 199, 192, 0, 0, 0, 0]⟩, .int .i64 0]⟩),
  ([.agg ⟨[.int .i64 2, .int .i64 0, .int .i64 0, .int .i64 0, .bool true, .bool false, .int .i64 7, .int .i64 0, .int .i32 0, .int .i32 0, .int .i64 9437185]⟩], .tuple ⟨[.string ⟨#[72, 199, 199, 1, 0, 144, 0]⟩, .int .i64 0]⟩),
  ([.agg ⟨[.int .i64 2, .int .i64 0, .int .i64 0, .int .i64 0, .bool true, .bool false, .int .i64 7, .int .i64 0, .int .i32 0, .int .i32 0, .int .i64 9437186]⟩], .tuple ⟨[.string ⟨#[72, 199, 199, 2, 0, 144, 0]⟩, .int .i64 0]⟩)]
set_option maxHeartbeats 0 in
set_option maxRecDepth 1000000 in
theorem encTab_0 (w : World) (hL : Laid h25 w) : Calls Tryd.prog 26 ⟨[.agg ⟨[.int .i64 17, .int .i64 0, .int .i64 0, .int .i64 0, .bool false, .bool false, .int .i64 3, .int .i64 0, .int .i32 0, .int .i32 0, .int .i64 0]⟩]⟩ w fun e w' => e = .returned (.tuple ⟨[.string ⟨#[83]⟩, .int .i64 0]⟩) ∧ Gr w w' :=
  reckonG_ok noNG (noHook_ok _) 100000 300 h25 rfl rfl (by kernel_rfl) w hL
set_option maxHeartbeats 0 in
set_option maxRecDepth 1000000 in
theorem encTab_1 (w : World) (hL : Laid h25 w) : Calls Tryd.prog 26 ⟨[.agg ⟨[.int .i64 17, .int .i64 0, .int .i64 0, .int .i64 0, .bool false, .bool false, .int .i64 12, .int .i64 0, .int .i32 0, .int .i32 0, .int .i64 0]⟩]⟩ w fun e w' => e = .returned (.tuple ⟨[.string ⟨#[65, 84]⟩, .int .i64 0]⟩) ∧ Gr w w' :=
  reckonG_ok noNG (noHook_ok _) 100000 300 h25 rfl rfl (by kernel_rfl) w hL
set_option maxHeartbeats 0 in
set_option maxRecDepth 1000000 in
theorem encTab_2 (w : World) (hL : Laid h25 w) : Calls Tryd.prog 26 ⟨[.agg ⟨[.int .i64 17, .int .i64 0, .int .i64 0, .int .i64 0, .bool false, .bool false, .int .i64 13, .int .i64 0, .int .i32 0, .int .i32 0, .int .i64 0]⟩]⟩ w fun e w' => e = .returned (.tuple ⟨[.string ⟨#[65, 85]⟩, .int .i64 0]⟩) ∧ Gr w w' :=
  reckonG_ok noNG (noHook_ok _) 100000 300 h25 rfl rfl (by kernel_rfl) w hL
set_option maxHeartbeats 0 in
set_option maxRecDepth 1000000 in
theorem encTab_3 (w : World) (hL : Laid h25 w) : Calls Tryd.prog 26 ⟨[.agg ⟨[.int .i64 17, .int .i64 0, .int .i64 0, .int .i64 0, .bool false, .bool false, .int .i64 14, .int .i64 0, .int .i32 0, .int .i32 0, .int .i64 0]⟩]⟩ w fun e w' => e = .returned (.tuple ⟨[.string ⟨#[65, 86]⟩, .int .i64 0]⟩) ∧ Gr w w' :=
  reckonG_ok noNG (noHook_ok _) 100000 300 h25 rfl rfl (by kernel_rfl) w hL
set_option maxHeartbeats 0 in
set_option maxRecDepth 1000000 in
theorem encTab_4 (w : World) (hL : Laid h25 w) : Calls Tryd.prog 26 ⟨[.agg ⟨[.int .i64 17, .int .i64 0, .int .i64 0, .int .i64 0, .bool false, .bool false, .int .i64 15, .int .i64 0, .int .i32 0, .int .i32 0, .int .i64 0]⟩]⟩ w fun e w' => e = .returned (.tuple ⟨[.string ⟨#[65, 87]⟩, .int .i64 0]⟩) ∧ Gr w w' :=
  reckonG_ok noNG (noHook_ok _) 100000 300 h25 rfl rfl (by kernel_rfl) w hL
set_option maxHeartbeats 0 in
set_option maxRecDepth 1000000 in
theorem encTab_5 (w : World) (hL : Laid h25 w) : Calls Tryd.prog 26 ⟨[.agg ⟨[.int .i64 17, .int .i64 0, .int .i64 0, .int .i64 0, .bool false, .bool false, .int .i64 5, .int .i64 0, .int .i32 0, .int .i32 0, .int .i64 0]⟩]⟩ w fun e w' => e = .returned (.tuple ⟨[.string ⟨#[85]⟩, .int .i64 0]⟩) ∧ Gr w w' :=
  reckonG_ok noNG (noHook_ok _) 100000 300 h25 rfl rfl (by kernel_rfl) w hL
set_option maxHeartbeats 0 in
set_option maxRecDepth 1000000 in
theorem encTab_6 (w : World) (hL : Laid h25 w) : Calls Tryd.prog 26 ⟨[.agg ⟨[.int .i64 2, .int .i64 0, .int .i64 0, .int .i64 0, .bool true, .bool false, .int .i64 7, .int .i64 0, .int .i32 0, .int .i32 0, .int .i64 65536]⟩]⟩ w fun e w' => e = .returned (.tuple ⟨[.string ⟨#[72, 199, 199, 0, 0, 1, 0]⟩, .int .i64 0]⟩) ∧ Gr w w' :=
  reckonG_ok noNG (noHook_ok _) 100000 300 h25 rfl rfl (by kernel_rfl) w hL
set_option maxHeartbeats 0 in
set_option maxRecDepth 1000000 in
theorem encTab_7 (w : World) (hL : Laid h25 w) : Calls Tryd.prog 26 ⟨[.agg ⟨[.int .i64 2, .int .i64 0, .int .i64 0, .int .i64 0, .bool true, .bool false, .int .i64 5, .int .i64 0, .int .i32 0, .int .i32 0, .int .i64 131584]⟩]⟩ w fun e w' => e = .returned (.tuple ⟨[.string ⟨#[72, 199, 197, 0, 2, 2, 0]⟩, .int .i64 0]⟩) ∧ Gr w w' :=
  reckonG_ok noNG (noHook_ok _) 100000 300 h25 rfl rfl (by kernel_rfl) w hL
set_option maxHeartbeats 0 in
set_option maxRecDepth 1000000 in
theorem encTab_8 (w : World) (hL : Laid h25 w) : Calls Tryd.prog 26 ⟨[.agg ⟨[.int .i64 2, .int .i64 0, .int .i64 0, .int .i64 0, .bool true, .bool false, .int .i64 0, .int .i64 0, .int .i32 0, .int .i32 0, .int .i64 1]⟩]⟩ w fun e w' => e = .returned (.tuple ⟨[.string ⟨#[72, 199, 192, 1, 0, 0, 0]⟩, .int .i64 0]⟩) ∧ Gr w w' :=
  reckonG_ok noNG (noHook_ok _) 100000 300 h25 rfl rfl (by kernel_rfl) w hL
set_option maxHeartbeats 0 in
set_option maxRecDepth 1000000 in
theorem encTab_9 (w : World) (hL : Laid h25 w) : Calls Tryd.prog 26 ⟨[.agg ⟨[.int .i64 18, .int .i64 0, .int .i64 0, .int .i64 0, .bool false, .bool false, .int .i64 5, .int .i64 0, .int .i32 0, .int .i32 0, .int .i64 0]⟩]⟩ w fun e w' => e = .returned (.tuple ⟨[.string ⟨#[93]⟩, .int .i64 0]⟩) ∧ Gr w w' :=
  reckonG_ok noNG (noHook_ok _) 100000 300 h25 rfl rfl (by kernel_rfl) w hL
set_option maxHeartbeats 0 in
set_option maxRecDepth 1000000 in
theorem encTab_10 (w : World) (hL : Laid h25 w) : Calls Tryd.prog 26 ⟨[.agg ⟨[.int .i64 18, .int .i64 0, .int .i64 0, .int .i64 0, .bool false, .bool false, .int .i64 15, .int .i64 0, .int .i32 0, .int .i32 0, .int .i64 0]⟩]⟩ w fun e w' => e = .returned (.tuple ⟨[.string ⟨#[65, 95]⟩, .int .i64 0]⟩) ∧ Gr w w' :=
  reckonG_ok noNG (noHook_ok _) 100000 300 h25 rfl rfl (by kernel_rfl) w hL
set_option maxHeartbeats 0 in
set_option maxRecDepth 1000000 in
theorem encTab_11 (w : World) (hL : Laid h25 w) : Calls Tryd.prog 26 ⟨[.agg ⟨[.int .i64 18, .int .i64 0, .int .i64 0, .int .i64 0, .bool false, .bool false, .int .i64 14, .int .i64 0, .int .i32 0, .int .i32 0, .int .i64 0]⟩]⟩ w fun e w' => e = .returned (.tuple ⟨[.string ⟨#[65, 94]⟩, .int .i64 0]⟩) ∧ Gr w w' :=
  reckonG_ok noNG (noHook_ok _) 100000 300 h25 rfl rfl (by kernel_rfl) w hL
set_option maxHeartbeats 0 in
set_option maxRecDepth 1000000 in
theorem encTab_12 (w : World) (hL : Laid h25 w) : Calls Tryd.prog 26 ⟨[.agg ⟨[.int .i64 18, .int .i64 0, .int .i64 0, .int .i64 0, .bool false, .bool false, .int .i64 13, .int .i64 0, .int .i32 0, .int .i32 0, .int .i64 0]⟩]⟩ w fun e w' => e = .returned (.tuple ⟨[.string ⟨#[65, 93]⟩, .int .i64 0]⟩) ∧ Gr w w' :=
  reckonG_ok noNG (noHook_ok _) 100000 300 h25 rfl rfl (by kernel_rfl) w hL
set_option maxHeartbeats 0 in
set_option maxRecDepth 1000000 in
theorem encTab_13 (w : World) (hL : Laid h25 w) : Calls Tryd.prog 26 ⟨[.agg ⟨[.int .i64 18, .int .i64 0, .int .i64 0, .int .i64 0, .bool false, .bool false, .int .i64 12, .int .i64 0, .int .i32 0, .int .i32 0, .int .i64 0]⟩]⟩ w fun e w' => e = .returned (.tuple ⟨[.string ⟨#[65, 92]⟩, .int .i64 0]⟩) ∧ Gr w w' :=
  reckonG_ok noNG (noHook_ok _) 100000 300 h25 rfl rfl (by kernel_rfl) w hL
set_option maxHeartbeats 0 in
set_option maxRecDepth 1000000 in
theorem encTab_14 (w : World) (hL : Laid h25 w) : Calls Tryd.prog 26 ⟨[.agg ⟨[.int .i64 18, .int .i64 0, .int .i64 0, .int .i64 0, .bool false, .bool false, .int .i64 3, .int .i64 0, .int .i32 0, .int .i32 0, .int .i64 0]⟩]⟩ w fun e w' => e = .returned (.tuple ⟨[.string ⟨#[91]⟩, .int .i64 0]⟩) ∧ Gr w w' :=
  reckonG_ok noNG (noHook_ok _) 100000 300 h25 rfl rfl (by kernel_rfl) w hL
set_option maxHeartbeats 0 in
set_option maxRecDepth 1000000 in
theorem encTab_15 (w : World) (hL : Laid h25 w) : Calls Tryd.prog 26 ⟨[.agg ⟨[.int .i64 19, .int .i64 0, .int .i64 0, .int .i64 0, .bool false, .bool false, .int .i64 0, .int .i64 0, .int .i32 0, .int .i32 0, .int .i64 0]⟩]⟩ w fun e w' => e = .returned (.tuple ⟨[.string ⟨#[195]⟩, .int .i64 0]⟩) ∧ Gr w w' :=
  reckonG_ok noNG (noHook_ok _) 100000 300 h25 rfl rfl (by kernel_rfl) w hL
set_option maxHeartbeats 0 in
set_option maxRecDepth 1000000 in
theorem encTab_16 (w : World) (hL : Laid h25 w) : Calls Tryd.prog 26 ⟨[.agg ⟨[.int .i64 2, .int .i64 0, .int .i64 0, .int .i64 0, .bool true, .bool false, .int .i64 7, .int .i64 0, .int .i32 0, .int .i32 0, .int .i64 9437184]⟩]⟩ w fun e w' => e = .returned (.tuple ⟨[.string ⟨#[72, 199, 199, 0, 0, 144, 0]⟩, .int .i64 0]⟩) ∧ Gr w w' :=
  reckonG_ok noNG (noHook_ok _) 100000 300 h25 rfl rfl (by kernel_rfl) w hL
set_option maxHeartbeats 0 in
set_option maxRecDepth 1000000 in
theorem encTab_17 (w : World) (hL : Laid h25 w) : Calls Tryd.prog 26 ⟨[.agg ⟨[.int .i64 2, .int .i64 0, .int .i64 0, .int .i64 0, .bool true, .bool false, .int .i64 0, .int .i64 0, .int .i32 0, .int .i32 0, .int .i64 0]⟩]⟩ w fun e w' => e = .returned (.tuple ⟨[.string ⟨#[72, 199, 192, 0, 0, 0, 0]⟩, .int .i64 0]⟩) ∧ Gr w w' :=
  reckonG_ok noNG (noHook_ok _) 100000 300 h25 rfl rfl (by kernel_rfl) w hL
set_option maxHeartbeats 0 in
set_option maxRecDepth 1000000 in
theorem encTab_18 (w : World) (hL : Laid h25 w) : Calls Tryd.prog 26 ⟨[.agg ⟨[.int .i64 2, .int .i64 0, .int .i64 0, .int .i64 0, .bool true, .bool false, .int .i64 7, .int .i64 0, .int .i32 0, .int .i32 0, .int .i64 9437185]⟩]⟩ w fun e w' => e = .returned (.tuple ⟨[.string ⟨#[72, 199, 199, 1, 0, 144, 0]⟩, .int .i64 0]⟩) ∧ Gr w w' :=
  reckonG_ok noNG (noHook_ok _) 100000 300 h25 rfl rfl (by kernel_rfl) w hL
set_option maxHeartbeats 0 in
set_option maxRecDepth 1000000 in
theorem encTab_19 (w : World) (hL : Laid h25 w) : Calls Tryd.prog 26 ⟨[.agg ⟨[.int .i64 2, .int .i64 0, .int .i64 0, .int .i64 0, .bool true, .bool false, .int .i64 7, .int .i64 0, .int .i32 0, .int .i32 0, .int .i64 9437186]⟩]⟩ w fun e w' => e = .returned (.tuple ⟨[.string ⟨#[72, 199, 199, 2, 0, 144, 0]⟩, .int .i64 0]⟩) ∧ Gr w w' :=
  reckonG_ok noNG (noHook_ok _) 100000 300 h25 rfl rfl (by kernel_rfl) w hL
theorem encTab_ok : TabOk Tryd.prog h25 26 encTab :=
  ⟨encTab_0, encTab_1, encTab_2, encTab_3, encTab_4, encTab_5, encTab_6, encTab_7, encTab_8, encTab_9, encTab_10, encTab_11, encTab_12, encTab_13, encTab_14, encTab_15, encTab_16, encTab_17, encTab_18, encTab_19, trivial⟩
def chkTab : Tab := [
  ([.agg ⟨[.int .u8 183, .int .u8 0, .int .u8 0, .int .i16 0, .int .i32 1]⟩, .bool true], .int .i64 0),
  ([.agg ⟨[.int .u8 149, .int .u8 0, .int .u8 0, .int .i16 0, .int .i32 0]⟩, .bool true], .int .i64 0),
  ([.agg ⟨[.int .u8 24, .int .u8 1, .int .u8 1, .int .i16 0, .int .i32 0]⟩, .bool true], .int .i64 0),
  ([.agg ⟨[.int .u8 24, .int .u8 1, .int .u8 1, .int .i16 0, .int .i32 1]⟩, .bool true], .int .i64 0),
  ([.agg ⟨[.int .u8 24, .int .u8 1, .int .u8 1, .int .i16 0, .int .i32 2]⟩, .bool true], .int .i64 0),
  ([.agg ⟨[.int .u8 24, .int .u8 1, .int .u8 1, .int .i16 0, .int .i32 3]⟩, .bool true], .int .i64 0),
  ([.agg ⟨[.int .u8 24, .int .u8 1, .int .u8 1, .int .i16 0, .int .i32 4]⟩, .bool true], .int .i64 0),
  ([.agg ⟨[.int .u8 183, .int .u8 0, .int .u8 0, .int .i16 0, .int .i32 0]⟩, .bool true], .int .i64 0)]
set_option maxHeartbeats 0 in
set_option maxRecDepth 1000000 in
theorem chkTab_0 (w : World) (hL : Laid h25 w) : Calls Tryd.prog 56 ⟨[.agg ⟨[.int .u8 183, .int .u8 0, .int .u8 0, .int .i16 0, .int .i32 1]⟩, .bool true]⟩ w fun e w' => e = .returned (.int .i64 0) ∧ Gr w w' :=
  reckonG_ok noNG (noHook_ok _) 100000 300 h25 rfl rfl (by kernel_rfl) w hL
set_option maxHeartbeats 0 in
set_option maxRecDepth 1000000 in
theorem chkTab_1 (w : World) (hL : Laid h25 w) : Calls Tryd.prog 56 ⟨[.agg ⟨[.int .u8 149, .int .u8 0, .int .u8 0, .int .i16 0, .int .i32 0]⟩, .bool true]⟩ w fun e w' => e = .returned (.int .i64 0) ∧ Gr w w' :=
  reckonG_ok noNG (noHook_ok _) 100000 300 h25 rfl rfl (by kernel_rfl) w hL
set_option maxHeartbeats 0 in
set_option maxRecDepth 1000000 in
theorem chkTab_2 (w : World) (hL : Laid h25 w) : Calls Tryd.prog 56 ⟨[.agg ⟨[.int .u8 24, .int .u8 1, .int .u8 1, .int .i16 0, .int .i32 0]⟩, .bool true]⟩ w fun e w' => e = .returned (.int .i64 0) ∧ Gr w w' :=
  reckonG_ok noNG (noHook_ok _) 100000 300 h25 rfl rfl (by kernel_rfl) w hL
set_option maxHeartbeats 0 in
set_option maxRecDepth 1000000 in
theorem chkTab_3 (w : World) (hL : Laid h25 w) : Calls Tryd.prog 56 ⟨[.agg ⟨[.int .u8 24, .int .u8 1, .int .u8 1, .int .i16 0, .int .i32 1]⟩, .bool true]⟩ w fun e w' => e = .returned (.int .i64 0) ∧ Gr w w' :=
  reckonG_ok noNG (noHook_ok _) 100000 300 h25 rfl rfl (by kernel_rfl) w hL
set_option maxHeartbeats 0 in
set_option maxRecDepth 1000000 in
theorem chkTab_4 (w : World) (hL : Laid h25 w) : Calls Tryd.prog 56 ⟨[.agg ⟨[.int .u8 24, .int .u8 1, .int .u8 1, .int .i16 0, .int .i32 2]⟩, .bool true]⟩ w fun e w' => e = .returned (.int .i64 0) ∧ Gr w w' :=
  reckonG_ok noNG (noHook_ok _) 100000 300 h25 rfl rfl (by kernel_rfl) w hL
set_option maxHeartbeats 0 in
set_option maxRecDepth 1000000 in
theorem chkTab_5 (w : World) (hL : Laid h25 w) : Calls Tryd.prog 56 ⟨[.agg ⟨[.int .u8 24, .int .u8 1, .int .u8 1, .int .i16 0, .int .i32 3]⟩, .bool true]⟩ w fun e w' => e = .returned (.int .i64 0) ∧ Gr w w' :=
  reckonG_ok noNG (noHook_ok _) 100000 300 h25 rfl rfl (by kernel_rfl) w hL
set_option maxHeartbeats 0 in
set_option maxRecDepth 1000000 in
theorem chkTab_6 (w : World) (hL : Laid h25 w) : Calls Tryd.prog 56 ⟨[.agg ⟨[.int .u8 24, .int .u8 1, .int .u8 1, .int .i16 0, .int .i32 4]⟩, .bool true]⟩ w fun e w' => e = .returned (.int .i64 0) ∧ Gr w w' :=
  reckonG_ok noNG (noHook_ok _) 100000 300 h25 rfl rfl (by kernel_rfl) w hL
set_option maxHeartbeats 0 in
set_option maxRecDepth 1000000 in
theorem chkTab_7 (w : World) (hL : Laid h25 w) : Calls Tryd.prog 56 ⟨[.agg ⟨[.int .u8 183, .int .u8 0, .int .u8 0, .int .i16 0, .int .i32 0]⟩, .bool true]⟩ w fun e w' => e = .returned (.int .i64 0) ∧ Gr w w' :=
  reckonG_ok noNG (noHook_ok _) 100000 300 h25 rfl rfl (by kernel_rfl) w hL
theorem chkTab_ok : TabOk Tryd.prog h25 56 chkTab :=
  ⟨chkTab_0, chkTab_1, chkTab_2, chkTab_3, chkTab_4, chkTab_5, chkTab_6, chkTab_7, trivial⟩
def tabHook : Hook := orHook (memoHook h25 26 encTab) (memoHook h25 56 chkTab)
theorem tabHook_ok : HookOk Tryd.prog tabHook := orHook_ok (memoHook_ok rfl encTab_ok) (memoHook_ok rfl chkTab_ok)
end Go.Proofs.YtagdapjkdjnemaaDoor.Ex
