/-
  What fits its kind is a number of so many bits, with a sign.
-/
import Derived.Test.YthmebodklbhljaaDoorWf2
namespace Go.Proofs.YthmebodklbhljaaDoor
open Go.RowKit
theorem i16_Z {x : Int} (h : (Lit.int .i16 x).wf = true) : ∃ v : BitVec 16, x = Z v := by
  have hb := i16_of_wf h
  refine ⟨BitVec.ofInt 16 x, ?_⟩
  unfold Z
  rw [BitVec.toInt_ofInt]
  simp [Int.bmod_def]
  omega
theorem i32_Z {x : Int} (h : (Lit.int .i32 x).wf = true) : ∃ v : BitVec 32, x = Z v := by
  have hb := i32_of_wf h
  refine ⟨BitVec.ofInt 32 x, ?_⟩
  unfold Z
  rw [BitVec.toInt_ofInt]
  simp [Int.bmod_def]
  omega
end Go.Proofs.YthmebodklbhljaaDoor
