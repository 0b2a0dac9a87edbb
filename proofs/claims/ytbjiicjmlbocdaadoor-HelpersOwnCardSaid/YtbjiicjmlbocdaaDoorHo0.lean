/-
  Layer 9: the table of arguments, as it lies; the chapter's examples, reckoned; what HelpersOwn asks.
-/
import Derived.Test.YtbjiicjmlbocdaaDoorRepHook
import Derived.Test.YtbjiicjmlbocdaaDoorMemo
import Derived.Test.YtbjiicjmlbocdaaDoorNoNG
import Derived.Test.YtbjiicjmlbocdaaDoorLaidArr
import Derived.Test.YtbjiicjmlbocdaaDoorProg
import Derived.Test.YtbjiicjmlbocdaaDoorRows
import Derived.Test.YtbjiicjmlbocdaaDoorEx25
import Derived.Test.YtbjiicjmlbocdaaDoorExI
namespace Go.Proofs.YtbjiicjmlbocdaaDoor.Ex
open Go Go.RowKit Go.ChangeShapes Go.WideShapes Go.WideMaps Go.WideElems
def argNs : List Int := [-1, 2, 4, 2, -1, -1, -1, 0]
def h09 : List AO := List.replicate 0 dead ++ [⟨true, some GM, argNs.map (.int .i8)⟩]
def TabAt (w : World) : Prop := ∃ t fr, w.heap[0]? = some (.cells ⟨argNs.map (.int .i8)⟩ t fr)
theorem laid_of_tab {w : World} (h : TabAt w) : Laid h09 w := Laid.one rfl h
theorem gArgs : Tryd.prog.globalNamed "firewall/helpers.args" = some 0 := by kernel_rfl
theorem tArgs : (Tryd.prog.globals[0]?).map (·.type) = some 107 := by kernel_rfl
theorem tab_of_laid {W : World} (h : laidMetH Tryd.prog [("firewall/helpers.args", Rows.laid_firewall_helpers_args)] W) : TabAt W := by
  rw [MakeChecks.laidMetH_plain _ _ _ (by kernel_rfl)] at h
  obtain ⟨ps, ⟨g0, t0, cs0, f0, p0, q0, hg0, ht0, hv0, hd0, _⟩, _⟩ := h
  obtain rfl := Option.some.inj (gArgs.symm.trans hg0)
  obtain rfl := Option.some.inj (tArgs.symm.trans ht0)
  have key := cells_of_ints (ns := argNs) Tryd.underlying107 Tryd.underlying106 (by kernel_rfl) (by kernel_rfl) hd0 rfl
  have hkey : cs0 = ⟨argNs.map (.int .i8)⟩ := Array.toList_inj.1 key
  subst hkey
  simp only [World.var?, gArgs, Option.bind_some] at hv0
  split at hv0
  · rename_i cs t fr hh
    obtain rfl := Option.some.inj hv0
    exact ⟨t, fr, hh⟩
  · cases hv0
set_option maxHeartbeats 0 in
set_option maxRecDepth 1000000 in
theorem called_any (w : World) (hL : Laid h09 w) : Calls Tryd.prog 6 #[] w fun e w' => e = .returned (.bool true) ∧ Gr w w' :=
  reckonG_ok noNG repHook_ok 100000 300 h09 rfl rfl (by kernel_rfl) w hL
def calledHook : Hook := orHook (memoHook h09 6 [([], .bool true)]) repHook
theorem calledHook_ok : HookOk Tryd.prog calledHook := orHook_ok (memoHook_ok rfl ⟨fun w hL => called_any w hL, trivial⟩) repHook_ok
set_option maxHeartbeats 0
set_option maxRecDepth 1000000
set_option linter.unusedVariables false
theorem noGuard (P : Program) : HookOk2 P (guardH noHook) := guard_ok (noHook_ok P)
def cmpS (x y : Int) : Int := bif decide (x < y) then -1 else bif decide (x > y) then 1 else 0
def cmpOrc (a b : Bool) : Orc := fun f t _ =>
  if Nat.beq f 60 then (if Nat.beq t 5 then some (.bool false) else none)
  else if Nat.beq f 38 then (if Nat.beq t 16 then some (.bool a) else if Nat.beq t 19 then some (.bool b) else none) else none
theorem cmp_any (x y : Int) (w : World) : Calls Tryd.prog 38 #[.int .u64 x, .int .u64 y] w fun e w' => e = .returned (.int .i64 (cmpS x y)) ∧ Gr w w' := by
  have n1 : (x != x) = false := by simp
  have n2 : (y != y) = false := by simp
  cases h1 : decide (x < y) with
  | true =>
    have e : cmpS x y = -1 := by simp [cmpS, h1]
    rw [e]
    refine reckonI_ok noNG (noGuard _) (cmpOrc true false) 100000 300 [] (cs := [(b2i (x != x), 0), (b2i (y != y), 0), (b2i (decide (x < y)), 1)]) rfl rfl (by kernel_rfl) ?_ w (Laid.nil w)
    intro c hc
    simp only [List.mem_cons, List.not_mem_nil, or_false] at hc
    rcases hc with rfl | rfl | rfl <;> simp only [n1, n2, h1, b2i]
  | false =>
    cases h2 : decide (x > y) with
    | true =>
      have e : cmpS x y = 1 := by simp [cmpS, h1, h2]
      rw [e]
      refine reckonI_ok noNG (noGuard _) (cmpOrc false true) 100000 300 [] (cs := [(b2i (x != x), 0), (b2i (y != y), 0), (b2i (decide (x < y)), 0), (b2i (decide (x > y)), 1)]) rfl rfl (by kernel_rfl) ?_ w (Laid.nil w)
      intro c hc
      simp only [List.mem_cons, List.not_mem_nil, or_false] at hc
      rcases hc with rfl | rfl | rfl | rfl <;> simp only [n1, n2, h1, h2, b2i]
    | false =>
      have e : cmpS x y = 0 := by simp [cmpS, h1, h2]
      rw [e]
      refine reckonI_ok noNG (noGuard _) (cmpOrc false false) 100000 300 [] (cs := [(b2i (x != x), 0), (b2i (y != y), 0), (b2i (decide (x < y)), 0), (b2i (decide (x > y)), 0)]) rfl rfl (by kernel_rfl) ?_ w (Laid.nil w)
      intro c hc
      simp only [List.mem_cons, List.not_mem_nil, or_false] at hc
      rcases hc with rfl | rfl | rfl | rfl <;> simp only [n1, n2, h1, h2, b2i]
def cmpHook : Hook := fun f args _ =>
  if Nat.beq f 38 then
    match args with
    | [.int .u64 x, .int .u64 y] => some (.int .i64 (cmpS x y), [])
    | _ => none
  else none
theorem cmpHook_ok : HookOk Tryd.prog cmpHook := by
  intro f args h v cs hv hc wb k s w H
  unfold cmpHook at hv
  split at hv
  · rename_i hf
    obtain rfl := Nat.eq_of_beq_eq_true hf
    split at hv
    · cases hv
      exact cmp_any _ _ w
    · cases hv
  · cases hv
def hoHook : Hook := orHook cmpHook calledHook
theorem hoHook_ok : HookOk Tryd.prog hoHook := orHook_ok cmpHook_ok calledHook_ok
def ho3 : Hook3 := liftH (guardH hoHook)
theorem ho3_ok : HookOk3 Tryd.prog ho3 := lift_ok (guard_ok hoHook_ok)
def atI (x : List Value) (j : Nat) : Int := match x[j]? with | some (.int _ n) => n | _ => -1
/-- Ahead of the loop; q: which of the regions that are handed in is the one more (6, or 5 where there is no packet). -/
def hoE (q m : Nat) (z E : Int) : Orc := fun f t x =>
  if Nat.beq f 4 then
    match t with
    | 22 => some (.int .i64 m) | 26 => some (.int .i64 z) | 33 => some (.int .u64 E) | 38 => some .nilIface | 39 => some .nilIface
    | _ => none
  else if Nat.beq f 5 then
    match t with
    | 14 => some (.int .i64 m) | 17 => some (.bool false) | 21 => some (.bool false)
    | _ => none
  else if Nat.beq f 13 then (if Nat.beq t 7 then some (.int .i64 m) else none)
  else if Nat.beq f 15 then (if Nat.beq t 5 then some (.bool (Nat.beq q 5)) else none)
  else if Nat.beq f 17 then
    match t with
    | 23 => some (.bool false) | 33 => some (.bool false) | 88 => some (.bool false)
    | _ => none
  else if Nat.beq f 74 then
    (if Nat.beq t 33 then (bif decide (atI x 8 = q) then some (.bool (decide (atI x 9 = q))) else none) else none)
  else if Nat.beq f 10 then (if Nat.beq t 22 then some .nilIface else none)
  else if Nat.beq f 40 then
    (if Nat.beq t 1000001 then (bif decide (atI x 15 < (q : Int) - 1) then none else some .nilIface)
    else if Nat.beq t 33 then some (.iface 0 (.int .i64 q)) else none)
  else none
end Go.Proofs.YtbjiicjmlbocdaaDoor.Ex
