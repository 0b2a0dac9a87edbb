/-
  Layer 13: the law MachineJumps: the document's bytes of the two numbers, as a hook.
-/
import Derived.Test.YtpkjgcfdemnohaaGreatDoorMj4
namespace Go.Proofs.YtpkjgcfdemnohaaGreatDoor.Ex
open Go Go.RowKit
set_option linter.unusedVariables false
set_option maxHeartbeats 0
set_option maxRecDepth 1000000
def byW : Int → Nat → List UInt8
  | _, 0 => []
  | v, n + 1 => UInt8.ofNat (IntKind.u8.wrap (Int.tmod v 256)).toNat :: byW (IntKind.u64.wrap (Int.tdiv v 256)) n
def encOrc : Orc := fun f t _ => if Nat.beq f 89 && Nat.beq t 220 then some (.bool true) else none
def encC (d m : Int) : Cs := [(b2i (eqD (xB 3 0 0 0 true false d 0 0 0 m) (xB 3 0 0 0 true false d 0 0 0 m)), 1)]
theorem encR1 (m : Int) : ScOk Tryz.prog [] 47 ⟨[.agg ⟨xB 3 0 0 0 true false 1 0 0 0 m⟩], .tuple ⟨[.string ⟨⟨[72, 185] ++ byW (IntKind.u64.wrap m) 8⟩⟩, .int .i64 0]⟩, encC 1 m⟩ := lf14 hkN_ok encOrc (by kernel_rfl) (by kernel_rfl) (by kernel_rfl)
theorem encR2 (m : Int) : ScOk Tryz.prog [] 47 ⟨[.agg ⟨xB 3 0 0 0 true false 2 0 0 0 m⟩], .tuple ⟨[.string ⟨⟨[72, 186] ++ byW (IntKind.u64.wrap m) 8⟩⟩, .int .i64 0]⟩, encC 2 m⟩ := lf14 hkN_ok encOrc (by kernel_rfl) (by kernel_rfl) (by kernel_rfl)
def selEnc : List Value → Option Sc
  | [.agg ⟨[.int .i64 k, _, _, _, _, _, .int .i64 d, _, _, _, .int .i64 m]⟩] =>
    if k == 3 then (if d == 1 then some ⟨[.agg ⟨xB 3 0 0 0 true false 1 0 0 0 m⟩], .tuple ⟨[.string ⟨⟨[72, 185] ++ byW (IntKind.u64.wrap m) 8⟩⟩, .int .i64 0]⟩, encC 1 m⟩
      else if d == 2 then some ⟨[.agg ⟨xB 3 0 0 0 true false 2 0 0 0 m⟩], .tuple ⟨[.string ⟨⟨[72, 186] ++ byW (IntKind.u64.wrap m) 8⟩⟩, .int .i64 0]⟩, encC 2 m⟩ else none) else none
  | _ => none
theorem selEnc_ok : ∀ a c, selEnc a = some c → ScOk Tryz.prog [] 47 c := by
  intro a c h
  unfold selEnc at h
  split at h
  · split at h
    · split at h
      · cases h
        exact encR1 _
      · split at h
        · cases h
          exact encR2 _
        · cases h
    · cases h
  · cases h
def hkEncR : Hook := symHook [] 47 selEnc
theorem hkEncR_ok : HookOk Tryz.prog hkEncR := symHook_ok rfl selEnc_ok
end Go.Proofs.YtpkjgcfdemnohaaGreatDoor.Ex
