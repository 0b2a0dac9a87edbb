/-
  Layer 24, where another table lies between: the tables as they lie; the chapter's example, reckoned; which register a program's one is.
-/
import Derived.Test.YtagdapjkdjnemaaDoorEx14
import Derived.Test.YtagdapjkdjnemaaDoorLaidArr
import Derived.Test.YtagdapjkdjnemaaDoorNoNG
import Derived.Test.YtagdapjkdjnemaaDoorProg
import Derived.Test.YtagdapjkdjnemaaDoorRows
namespace Go.Proofs.YtagdapjkdjnemaaDoor.Ex
open Go Go.RowKit Go.ChangeShapes Go.WideShapes Go.WideMaps Go.WideElems
def regNs : List Int := [0, 7, 6, 2, 1, 8, 3, 13, 14, 15, 5]
def savNs : List Int := [3, 12, 13, 14, 15, 5]
def sizNs : List (Int × Int) := [(113, 1), (105, 2), (97, 4), (121, 8), (114, 1), (106, 2), (98, 4), (122, 8), (115, 1), (107, 2), (99, 4), (123, 8)]
def sizCs : List Value := (sizNs.map fun n => [Value.int .u8 n.1, Value.int .u8 n.2]).flatten
def h24 : List AO := [⟨true, some GM, savNs.map (.int .i64)⟩, ⟨true, some GM, regNs.map (.int .i64)⟩, dead, ⟨true, some GM, sizCs⟩]
theorem places24 : 1 = 1 ∧ 0 = 0 ∧ 3 = 3 := ⟨rfl, rfl, rfl⟩
def TabAt (w : World) : Prop := Laid h24 w
theorem g0 : Tryd.prog.globalNamed "firewall/emit.registers" = some 1 := by kernel_rfl
theorem g1 : Tryd.prog.globalNamed "firewall/emit.saved" = some 0 := by kernel_rfl
theorem g2 : Tryd.prog.globalNamed "firewall/insns.sizes" = some 3 := by kernel_rfl
theorem t0 : (Tryd.prog.globals[1]?).map (·.type) = some 86 := by kernel_rfl
theorem t1 : (Tryd.prog.globals[0]?).map (·.type) = some 46 := by kernel_rfl
theorem t2 : (Tryd.prog.globals[3]?).map (·.type) = some 114 := by kernel_rfl
theorem heap_of_var {W : World} {nm : String} {g : Nat} {cs : Array Value} (hg : Tryd.prog.globalNamed nm = some g) (hv : W.var? Tryd.prog nm = some cs) : ∃ t fr, W.heap[g]? = some (.cells cs t fr) := by
  simp only [World.var?, hg, Option.bind_some] at hv
  split at hv
  · rename_i c t fr hh
    obtain rfl := Option.some.inj hv
    exact ⟨t, fr, hh⟩
  · cases hv
set_option maxRecDepth 100000 in
theorem tab_of_laid {W : World} (h : laidMetH Tryd.prog [("firewall/insns.sizes", Rows.laid_firewall_insns_sizes), ("firewall/emit.registers", Rows.laid_firewall_emit_registers), ("firewall/emit.saved", Rows.laid_firewall_emit_saved)] W) : TabAt W := by
  rw [MakeChecks.laidMetH_plain _ _ _ (by kernel_rfl)] at h
  obtain ⟨ps, ⟨ga, ta, ca, fa, pa, qa, hga, hta, hva, hda, ⟨gb, tb, cb, fb, pb, qb, hgb, htb, hvb, hdb, ⟨gc, tc, cc, fc, pc, qc, hgc, htc, hvc, hdc, _⟩, _⟩, _⟩, _⟩ := h
  obtain rfl := Option.some.inj (g2.symm.trans hga)
  obtain rfl := Option.some.inj (t2.symm.trans hta)
  obtain rfl := Option.some.inj (g0.symm.trans hgb)
  obtain rfl := Option.some.inj (t0.symm.trans htb)
  obtain rfl := Option.some.inj (g1.symm.trans hgc)
  obtain rfl := Option.some.inj (t1.symm.trans htc)
  have ka := cells_of_pairs (ns := sizNs) Tryd.underlying114 Tryd.underlying113 (by kernel_rfl) (by kernel_rfl) (by kernel_rfl) Tryd.underlying5 Tryd.underlying5 hda rfl
  have kb := cells_of_ints (ns := regNs) Tryd.underlying86 Tryd.underlying3 (by kernel_rfl) (by kernel_rfl) hdb rfl
  have kc := cells_of_ints (ns := savNs) Tryd.underlying46 Tryd.underlying3 (by kernel_rfl) (by kernel_rfl) hdc rfl
  have ka' : ca = ⟨sizCs⟩ := Array.toList_inj.1 ka
  have kb' : cb = ⟨regNs.map (.int .i64)⟩ := Array.toList_inj.1 kb
  have kc' : cc = ⟨savNs.map (.int .i64)⟩ := Array.toList_inj.1 kc
  subst ka' kb' kc'
  have ha := heap_of_var g2 hva
  have hb := heap_of_var g0 hvb
  have hc := heap_of_var g1 hvc
  intro g o ho hl
  match g, ho with
  | 0, ho => cases ho; exact ⟨rfl, rfl, laid_at hc⟩
  | 1, ho => cases ho; exact ⟨rfl, rfl, laid_at hb⟩
  | 2, ho => cases ho; cases hl
  | 3, ho => cases ho; exact ⟨rfl, rfl, laid_at ha⟩
set_option maxHeartbeats 0 in
set_option maxRecDepth 1000000 in
theorem moves_any (w : World) (hL : Laid h24 w) : Calls Tryd.prog 7 #[] w fun e w' => e = .returned (.bool true) ∧ Gr w w' :=
  reckonG_ok noNG (noHook_ok _) 100000 300 h24 rfl rfl (by kernel_rfl) w hL
def chkA (op : Int) : List Value := [.agg #[.int .u8 op, .int .u8 0, .int .u8 0, .int .i16 0, .int .i32 0], .bool true]
set_option maxHeartbeats 0 in
set_option maxRecDepth 1000000 in
theorem check183 (w : World) (hL : Laid h24 w) : Calls Tryd.prog 56 ⟨chkA 183⟩ w fun e w' => e = .returned (.int .i64 0) ∧ Gr w w' :=
  reckonG_ok noNG (noHook_ok _) 100000 300 h24 rfl rfl (by kernel_rfl) w hL
set_option maxHeartbeats 0 in
set_option maxRecDepth 1000000 in
theorem check149 (w : World) (hL : Laid h24 w) : Calls Tryd.prog 56 ⟨chkA 149⟩ w fun e w' => e = .returned (.int .i64 0) ∧ Gr w w' :=
  reckonG_ok noNG (noHook_ok _) 100000 300 h24 rfl rfl (by kernel_rfl) w hL
/-- The chapter's example, told by its contract. -/
def movesHook : Hook := fun f _ h => if Nat.beq f 7 && hasG h24 h then some (.bool true, []) else none
theorem movesHook_ok : HookOk Tryd.prog (fun f args h => if args.isEmpty then movesHook f args h else none) := by
  intro f args h v cs hv _ wb k s w H
  simp only at hv
  split at hv
  · rename_i he
    unfold movesHook at hv
    split at hv
    · rename_i hc
      cases hv
      simp only [Bool.and_eq_true] at hc
      obtain rfl := Nat.eq_of_beq_eq_true hc.1
      obtain rfl : args = [] := by simpa using he
      exact moves_any w (H.laid hc.2 rfl)
    · cases hv
  · cases hv
/-- Two instructions looked at, told by their contracts. -/
def chkHook : Hook := fun f args h =>
  if Nat.beq f 56 && hasG h24 h then
    match args with
    | [.agg ⟨[.int .u8 a, .int .u8 b, .int .u8 c, .int .i16 d, .int .i32 e]⟩, .bool t] =>
      if b = 0 ∧ c = 0 ∧ d = 0 ∧ e = 0 ∧ t = true ∧ (a = 183 ∨ a = 149) then some (.int .i64 0, []) else none
    | _ => none
  else none
theorem chkHook_ok : HookOk Tryd.prog chkHook := by
  intro f args h v cs hv _ wb k s w H
  unfold chkHook at hv
  split at hv
  · rename_i hc
    simp only [Bool.and_eq_true] at hc
    obtain rfl := Nat.eq_of_beq_eq_true hc.1
    split at hv
    · split at hv
      · rename_i hq
        cases hv
        obtain ⟨rfl, rfl, rfl, rfl, rfl, rfl | rfl⟩ := hq
        · exact check183 w (H.laid hc.2 rfl)
        · exact check149 w (H.laid hc.2 rfl)
      · cases hv
    · cases hv
  · cases hv
def mHook : Hook := fun f args h =>
  match (fun f args h => if args.isEmpty then movesHook f args h else none : Hook) f args h with
  | some r => some r
  | none => chkHook f args h
theorem mHook_ok : HookOk Tryd.prog mHook := by
  intro f args h v cs hv
  unfold mHook at hv
  split at hv
  · rename_i r hr
    cases hv
    exact movesHook_ok f args h v cs hr
  · exact chkHook_ok f args h v cs hv
end Go.Proofs.YtagdapjkdjnemaaDoor.Ex
