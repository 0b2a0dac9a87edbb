/-
  The law MemoryOver for numbers as they are handed in.
-/
import Derived.Test.YtkdnjphgmifkmaaMo1
import Derived.OpenShut
namespace Go.Proofs.Ytkdnjphgmifkmaa.Ex
open Go Go.RowKit
theorem wfU8 {x : Int} (h : (Lit.int .u8 x).wf = true) : 0 ≤ x ∧ x < 256 := by
  simp [Lit.wf, IntKind.min, IntKind.max, IntKind.signed, IntKind.bits] at h
  omega
theorem memoryOver_law (m0 m1 p0 p1 : Int) (h0 : (Lit.int .u8 m0).wf = true) (h1 : (Lit.int .u8 m1).wf = true) (h2 : (Lit.int .u8 p0).wf = true) (h3 : (Lit.int .u8 p1).wf = true) (w : World) :
    Calls Try.prog 5 #[.agg ⟨[.int .u8 m0, .int .u8 m1]⟩, .agg ⟨[.int .u8 p0, .int .u8 p1]⟩] w fun e w' => e = .returned (.bool true) ∧ Gr w w' :=
  memoryOver_walk m0 m1 p0 p1 (wfU8 h0).1 (wfU8 h0).2 (wfU8 h1).1 (wfU8 h1).2 (wfU8 h2).1 (wfU8 h2).2 (wfU8 h3).1 (wfU8 h3).2 w
end Go.Proofs.Ytkdnjphgmifkmaa.Ex
