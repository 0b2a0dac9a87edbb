/-
  Layer 13: the law MachineJumps, of numbers that fit.
-/
import Derived.Test.YtpkjgcfdemnohaaGreatDoorMjA
namespace Go.Proofs.YtpkjgcfdemnohaaGreatDoor.Ex
open Go Go.RowKit
theorem wfU64 {x : Int} (h : (Lit.int .u64 x).wf = true) : 0 ≤ x ∧ x < 18446744073709551616 := by
  simp [Lit.wf, IntKind.min, IntKind.max, IntKind.signed, IntKind.bits] at h
  omega
theorem wfU8 {x : Int} (h : (Lit.int .u8 x).wf = true) : 0 ≤ x ∧ x < 256 := by
  simp [Lit.wf, IntKind.min, IntKind.max, IntKind.signed, IntKind.bits] at h
  omega
theorem machineJumps_wf (c n0 n1 : Int) (sh : Bool) (wc : (Lit.int .u8 c).wf = true) (w0 : (Lit.int .u64 n0).wf = true) (w1 : (Lit.int .u64 n1).wf = true) (w : World) (hT : TabAt w) :
    Calls Tryz.prog 6 #[.int .u8 c, .agg ⟨[.int .u64 n0, .int .u64 n1]⟩, .bool sh] w fun e w' => e = .returned (.bool true) ∧ Gr w w' :=
  machineJumps_walk c n0 n1 sh w (wfU8 wc).1 (wfU64 w0).1 (wfU64 w0).2 (wfU64 w1).1 (wfU64 w1).2 hT
end Go.Proofs.YtpkjgcfdemnohaaGreatDoor.Ex
