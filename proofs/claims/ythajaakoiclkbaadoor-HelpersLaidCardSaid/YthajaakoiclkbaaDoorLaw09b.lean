/-
  Layer 9: the table of arguments, as it lies; the chapter's examples, reckoned.
-/
import Derived.Test.YthajaakoiclkbaaDoorRepHook
import Derived.Test.YthajaakoiclkbaaDoorMemo
import Derived.Test.YthajaakoiclkbaaDoorNoNG
import Derived.Test.YthajaakoiclkbaaDoorLaidArr
import Derived.Test.YthajaakoiclkbaaDoorProg
import Derived.Test.YthajaakoiclkbaaDoorRows
namespace Go.Proofs.YthajaakoiclkbaaDoor.Ex
open Go Go.RowKit Go.ChangeShapes Go.WideShapes Go.WideMaps Go.WideElems
def argNs : List Int := [-1, 2, 4, 2, -1, -1, -1, 0]
def h09 : List AO := List.replicate 0 dead ++ [⟨true, some GM, argNs.map (.int .i8)⟩]
def TabAt (w : World) : Prop := ∃ t fr, w.heap[0]? = some (.cells ⟨argNs.map (.int .i8)⟩ t fr)
theorem laid_of_tab {w : World} (h : TabAt w) : Laid h09 w := Laid.one rfl h
theorem gArgs : Tryd.prog.globalNamed "firewall/helpers.args" = some 0 := by kernel_rfl
theorem tArgs : (Tryd.prog.globals[0]?).map (·.type) = some 101 := by kernel_rfl
theorem tab_of_laid {W : World} (h : laidMetH Tryd.prog [("firewall/helpers.args", Rows.laid_firewall_helpers_args)] W) : TabAt W := by
  rw [MakeChecks.laidMetH_plain _ _ _ (by kernel_rfl)] at h
  obtain ⟨ps, ⟨g0, t0, cs0, f0, p0, q0, hg0, ht0, hv0, hd0, _⟩, _⟩ := h
  obtain rfl := Option.some.inj (gArgs.symm.trans hg0)
  obtain rfl := Option.some.inj (tArgs.symm.trans ht0)
  have key := cells_of_ints (ns := argNs) Tryd.underlying101 Tryd.underlying100 (by kernel_rfl) (by kernel_rfl) hd0 rfl
  have hkey : cs0 = ⟨argNs.map (.int .i8)⟩ := Array.toList_inj.1 key
  subst hkey
  simp only [World.var?, gArgs, Option.bind_some] at hv0
  split at hv0
  · rename_i cs t fr hh
    obtain rfl := Option.some.inj hv0
    exact ⟨t, fr, hh⟩
  · cases hv0
set_option maxHeartbeats 0 in
set_option maxRecDepth 1000000 in
theorem called_any (w : World) (hL : Laid h09 w) : Calls Tryd.prog 11 #[] w fun e w' => e = .returned (.bool true) ∧ Gr w w' :=
  reckonG_ok noNG repHook_ok 100000 300 h09 rfl rfl (by kernel_rfl) w hL
def calledHook : Hook := orHook (memoHook h09 11 [([], .bool true)]) repHook
theorem calledHook_ok : HookOk Tryd.prog calledHook := orHook_ok (memoHook_ok rfl ⟨fun w hL => called_any w hL, trivial⟩) repHook_ok
/-- A byte of a value, as it lies behind the update. -/
def laidB (v : Int) : UInt8 := UInt8.ofNat (UInt8.ofNat (IntKind.u8.wrap ((IntKind.u64.wrap ((UInt8.ofNat (UInt8.ofNat v.toNat).toNat).toNat : Int)).fdiv (2 ^ 0))).toNat).toNat
theorem laidB_eq (v : Int) : laidB v = UInt8.ofNat v.toNat := by
  unfold laidB
  generalize UInt8.ofNat v.toNat = u
  have hu : u.toNat < 256 := u.toNat_lt
  have e1 : UInt8.ofNat u.toNat = u := UInt8.ofNat_toNat
  rw [e1]
  have e2 : IntKind.u64.wrap (u.toNat : Int) = (u.toNat : Int) := by
    simp [IntKind.wrap, IntKind.bits, IntKind.signed]; omega
  have e3 : ((u.toNat : Int)).fdiv (2 ^ 0) = (u.toNat : Int) := by simp
  have e4 : IntKind.u8.wrap (u.toNat : Int) = (u.toNat : Int) := by
    simp [IntKind.wrap, IntKind.bits, IntKind.signed]; omega
  rw [e2, e3, e4, Int.toNat_natCast, e1, e1]
def strOf (t : List Value) (i : Nat) : Bool :=
  match t[i]? with
  | some (.string b) => !b.data.toList.isEmpty
  | _ => false
def intIs (t : List Value) (i : Nat) (n : Int) : Bool :=
  match t[i]? with
  | some (.int _ m) => m == n
  | _ => false
def hlOrc (d : Bool) : Orc := fun f t ts =>
  if Nat.beq f 3 then
    if Nat.beq t 118 then some (.bool false)
    else if Nat.beq t 141 && intIs ts 134 3 then some (.bool false)
    else if Nat.beq t 141 && intIs ts 134 6 then some (.bool d) else none
  else if Nat.beq f 9 && Nat.beq t 25 && intIs ts 18 3 then some (.bool false)
  else if Nat.beq f 80 && Nat.beq t 16 && strOf ts 11 && strOf ts 15 then some (.bool true)
  else if Nat.beq f 41 && Nat.beq t 94 then some .nilFunc else none
end Go.Proofs.YthajaakoiclkbaaDoor.Ex
