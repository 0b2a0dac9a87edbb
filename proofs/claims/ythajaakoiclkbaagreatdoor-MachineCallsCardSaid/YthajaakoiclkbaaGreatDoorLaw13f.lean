/-
  Layer 13: the law MachineCalls, reckoned.
-/
import Derived.Test.YthajaakoiclkbaaGreatDoorLaw13d
namespace Go.Proofs.YthajaakoiclkbaaGreatDoor.Ex
open Go Go.RowKit
/-- A byte of a value, as it lies behind the update. -/
def laidB (v : Int) : UInt8 := UInt8.ofNat (UInt8.ofNat (IntKind.u8.wrap ((IntKind.u64.wrap ((UInt8.ofNat (UInt8.ofNat v.toNat).toNat).toNat : Int)).fdiv (2 ^ 0))).toNat).toNat
def strOf (t : List Value) (i : Nat) : Bool :=
  match t[i]? with
  | some (.string b) => !b.data.toList.isEmpty
  | _ => false
def mcOrc : Orc := fun f t ts =>
  if Nat.beq f 3 then (if Nat.beq t 128 || Nat.beq t 143 then some (.bool true) else none)
  else if Nat.beq f 108 && Nat.beq t 16 && strOf ts 11 && strOf ts 15 then some (.bool true)
  else if Nat.beq f 5 && Nat.beq t 18 || Nat.beq f 28 && Nat.beq t 66 || Nat.beq f 41 && Nat.beq t 94 || Nat.beq f 55 && Nat.beq t 44 then some .nilFunc else none
def mcHook : Hook := orHook runsHook tabHook
theorem mcHook_ok : HookOk Tryz.prog mcHook := orHook_ok runsHook_ok tabHook_ok
def mcCs (k0 k1 v0 v1 v2 v3 o : Int) : Cs := [(1, 1), (1, 1), (1, 1), (1, 1),
  (b2i ((⟨⟨[UInt8.ofNat k0.toNat, UInt8.ofNat k1.toNat]⟩⟩ : ByteArray).data.toList == (⟨⟨[UInt8.ofNat (UInt8.ofNat k0.toNat).toNat, UInt8.ofNat (UInt8.ofNat k1.toNat).toNat]⟩⟩ : ByteArray).data.toList), 1),
  (b2i (eqD [.int .u64 0, .int .u64 0, .int .u64 0, .int .u64 o, .int .u64 262264, .int .u64 o, .int .u64 0, .int .u64 0, .int .u64 0, .int .u64 0, .int .u64 0, .int .u64 0, .int .u64 o, .int .u64 o, .int .u64 o, .int .u64 o, .bool false, .bool false, .bool true, .bool true, .int .u64 4194403] [.int .u64 0, .int .u64 0, .int .u64 0, .int .u64 o, .int .u64 262264, .int .u64 o, .int .u64 0, .int .u64 0, .int .u64 0, .int .u64 0, .int .u64 0, .int .u64 0, .int .u64 o, .int .u64 o, .int .u64 o, .int .u64 o, .bool false, .bool false, .bool true, .bool true, .int .u64 4194403]), 1),
  (b2i ((⟨⟨[laidB v0, laidB v1, laidB v2, laidB v3]⟩⟩ : ByteArray).data.toList == (⟨⟨[UInt8.ofNat v0.toNat, UInt8.ofNat v1.toNat, UInt8.ofNat v2.toNat, UInt8.ofNat v3.toNat]⟩⟩ : ByteArray).data.toList), 1)]
set_option maxHeartbeats 0 in
set_option maxRecDepth 1000000 in
theorem machineCalls_run (k0 k1 v0 v1 v2 v3 o : Int) (w : World) (hL : Laid h13 w) (he : (mcCs k0 k1 v0 v1 v2 v3 o).map (·.1) = (mcCs k0 k1 v0 v1 v2 v3 o).map (·.2)) :
    Calls Tryz.prog 3 #[.agg ⟨[.int .u8 k0, .int .u8 k1]⟩, .agg ⟨[.int .u8 v0, .int .u8 v1, .int .u8 v2, .int .u8 v3]⟩, .int .u64 o] w fun e w' => e = .returned (.bool true) ∧ Gr w w' :=
  reckonT_ok noNG mcHook_ok mcOrc 100000 300 h13 (cs := mcCs k0 k1 v0 v1 v2 v3 o) rfl rfl (by kernel_rfl) he w hL
theorem laidB_eq (v : Int) : laidB v = UInt8.ofNat v.toNat := by
  unfold laidB
  generalize UInt8.ofNat v.toNat = u
  have hu : u.toNat < 256 := u.toNat_lt
  have e1 : UInt8.ofNat u.toNat = u := UInt8.ofNat_toNat
  rw [e1]
  have e2 : IntKind.u64.wrap (u.toNat : Int) = (u.toNat : Int) := by
    simp [IntKind.wrap, IntKind.bits, IntKind.signed]; omega
  have e3 : ((u.toNat : Int)).fdiv (2 ^ 0) = (u.toNat : Int) := by simp
  have e4 : IntKind.u8.wrap (u.toNat : Int) = (u.toNat : Int) := by
    simp [IntKind.wrap, IntKind.bits, IntKind.signed]; omega
  rw [e2, e3, e4, Int.toNat_natCast, e1, e1]
theorem machineCalls_walk (k0 k1 v0 v1 v2 v3 o : Int) (w : World) (hL : Laid h13 w) :
    Calls Tryz.prog 3 #[.agg ⟨[.int .u8 k0, .int .u8 k1]⟩, .agg ⟨[.int .u8 v0, .int .u8 v1, .int .u8 v2, .int .u8 v3]⟩, .int .u64 o] w fun e w' => e = .returned (.bool true) ∧ Gr w w' := by
  refine machineCalls_run k0 k1 v0 v1 v2 v3 o w hL ?_
  have hE : ∀ l : List Value, fitL (l.map fun v => match v with | .bool _ => Kc.b | _ => Kc.i .u64) l = true → eqD l l = true := by
    intro l
    induction l with
    | nil => intro _; rfl
    | cons v l ih =>
      intro h
      simp only [List.map_cons, fitL, Bool.and_eq_true] at h
      have h1 := h.1
      have h2 := ih h.2
      cases v <;> simp_all [Kc.fit, eqD, eqW]
  simp only [mcCs, List.map_cons, List.map_nil, laidB_eq, UInt8.ofNat_toNat, hE [.int .u64 0, .int .u64 0, .int .u64 0, .int .u64 o, .int .u64 262264, .int .u64 o, .int .u64 0, .int .u64 0, .int .u64 0, .int .u64 0, .int .u64 0, .int .u64 0, .int .u64 o, .int .u64 o, .int .u64 o, .int .u64 o, .bool false, .bool false, .bool true, .bool true, .int .u64 4194403] rfl]
  simp [b2i]
end Go.Proofs.YthajaakoiclkbaaGreatDoor.Ex
