/-
  Layer 9: the table of arguments, as it lies; the chapter's examples, reckoned; what HelpersDraws asks.
-/
import Derived.Test.YtbjiicjmlbocdaaDoorRepHook
import Derived.Test.YtbjiicjmlbocdaaDoorMemo
import Derived.Test.YtbjiicjmlbocdaaDoorNoNG
import Derived.Test.YtbjiicjmlbocdaaDoorLaidArr
import Derived.Test.YtbjiicjmlbocdaaDoorProg
import Derived.Test.YtbjiicjmlbocdaaDoorRows
import Derived.Test.YtbjiicjmlbocdaaDoorEx25
namespace Go.Proofs.YtbjiicjmlbocdaaDoor.Ex
set_option linter.unusedVariables false
open Go Go.RowKit Go.ChangeShapes Go.WideShapes Go.WideMaps Go.WideElems
def argNs : List Int := [-1, 2, 4, 2, -1, -1, -1, 0]
def h09 : List AO := List.replicate 0 dead ++ [⟨true, some GM, argNs.map (.int .i8)⟩]
def TabAt (w : World) : Prop := ∃ t fr, w.heap[0]? = some (.cells ⟨argNs.map (.int .i8)⟩ t fr)
theorem laid_of_tab {w : World} (h : TabAt w) : Laid h09 w := Laid.one rfl h
theorem gArgs : Tryd.prog.globalNamed "firewall/helpers.args" = some 0 := by kernel_rfl
theorem tArgs : (Tryd.prog.globals[0]?).map (·.type) = some 107 := by kernel_rfl
theorem tab_of_laid {W : World} (h : laidMetH Tryd.prog [("firewall/helpers.args", Rows.laid_firewall_helpers_args)] W) : TabAt W := by
  rw [MakeChecks.laidMetH_plain _ _ _ (by kernel_rfl)] at h
  obtain ⟨ps, ⟨g0, t0, cs0, f0, p0, q0, hg0, ht0, hv0, hd0, _⟩, _⟩ := h
  obtain rfl := Option.some.inj (gArgs.symm.trans hg0)
  obtain rfl := Option.some.inj (tArgs.symm.trans ht0)
  have key := cells_of_ints (ns := argNs) Tryd.underlying107 Tryd.underlying106 (by kernel_rfl) (by kernel_rfl) hd0 rfl
  have hkey : cs0 = ⟨argNs.map (.int .i8)⟩ := Array.toList_inj.1 key
  subst hkey
  simp only [World.var?, gArgs, Option.bind_some] at hv0
  split at hv0
  · rename_i cs t fr hh
    obtain rfl := Option.some.inj hv0
    exact ⟨t, fr, hh⟩
  · cases hv0
set_option maxHeartbeats 0 in
set_option maxRecDepth 1000000 in
theorem called_any (w : World) (hL : Laid h09 w) : Calls Tryd.prog 6 #[] w fun e w' => e = .returned (.bool true) ∧ Gr w w' :=
  reckonG_ok noNG repHook_ok 100000 300 h09 rfl rfl (by kernel_rfl) w hL
def calledHook : Hook := orHook (memoHook h09 6 [([], .bool true)]) repHook
theorem calledHook_ok : HookOk Tryd.prog calledHook := orHook_ok (memoHook_ok rfl ⟨fun w hL => called_any w hL, trivial⟩) repHook_ok
def hd3 : Hook3 := liftH (guardH calledHook)
theorem hd3_ok : HookOk3 Tryd.prog hd3 := lift_ok (guard_ok calledHook_ok)
/-- Ahead of the loop. -/
def hdE (b : Bool) : Orc := fun f t x =>
  if Nat.beq f 3 then (if Nat.beq t 18 then some (.bool b) else none)
  else if Nat.beq f 5 then
    match t with
    | 27 => some (.bool b) | 81 => some .nilIface
    | _ => none
  else if Nat.beq f 22 then (if Nat.beq t 7 then some .nilIface else none)
  else none
/-- Within it: at the place i (within the inner one at k); whether it is the copy's round; whether draws are left; whether it goes on. -/
def hdO (i k : Int) (cp lt go goi : Bool) : Orc := fun f t x =>
  if Nat.beq f 3 then
    match t with
    | 48 => some (.bool go) | 50 => some (.int .i64 (i + 1)) | 54 => some (.bool cp)
    | 62 => some (.bool goi) | 64 => some (.int .i64 (k + 1))
    | 77 => some (.bool lt) | 82 => some .nilIface | 83 => some .nilIface | 84 => some (.bool false) | 91 => some (.bool !lt)
    | 109 => some (.bool lt) | 114 => some .nilIface | 115 => some .nilIface | 116 => some (.bool false) | 123 => some (.bool !lt)
    | _ => none
  else if Nat.beq f 28 then
    match t with
    | 9 => bif lt then some (.bool false) else none
    | 14 => some .nilIface | 15 => some .nilIface | 21 => some .nilIface
    | _ => none
  else if Nat.beq f 7 then (bif lt then (if Nat.beq t 27 then some .nilIface else none) else none)
  else if Nat.beq f 22 then (bif lt then (if Nat.beq t 7 then some .nilIface else none) else none)
  else none
/-- The same for the last draw that is left. -/
def hdO1 (i k : Int) (cp lt go goi : Bool) : Orc := fun f t x => if Nat.beq f 28 && Nat.beq t 21 then none else hdO i k cp lt go goi f t x
end Go.Proofs.YtbjiicjmlbocdaaDoor.Ex
