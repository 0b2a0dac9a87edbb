/-
  Layer 12: the law CpuStays: its loop, for every register.
-/
import Derived.Test.YtbaiokfjoglmiaaDoorCsX
import Derived.Test.YtbaiokfjoglmiaaDoorCsO1
import Derived.Test.YtbaiokfjoglmiaaDoorCsO2
import Derived.Test.YtbaiokfjoglmiaaDoorCsO3
namespace Go.Proofs.YtbaiokfjoglmiaaDoor.Ex
open Go Go.RowKit
set_option maxHeartbeats 0
set_option maxRecDepth 1000000
set_option linter.unusedVariables false
theorem four {α : Type} {P Q : Int → α} {a b c e : List Int} (h1 : a.map P = a.map Q) (h2 : b.map P = b.map Q) (h3 : c.map P = c.map Q) (h4 : e.map P = e.map Q) {d : Int} (h : d ∈ a ++ (b ++ (c ++ e))) : P d = Q d := by
  rcases List.mem_append.1 h with h | h
  · exact List.map_inj_left.1 h1 d h
  · rcases List.mem_append.1 h with h | h
    · exact List.map_inj_left.1 h2 d h
    · rcases List.mem_append.1 h with h | h
      · exact List.map_inj_left.1 h3 d h
      · exact List.map_inj_left.1 h4 d h
theorem lY_mk {p8 p9 : Bool} {d : Int} (h : ∀ (ρ : Nat → Int) (β : Nat → Value), lRun p8 p9 d ρ β = lAns p8 p9 d ρ β) : LoopYOk Tryd.prog (lY p8 p9 d) := by
  intro ρ β
  exact loopT_ok (n := 17) (by kernel_rfl) (stop_ok noNG (lift_ok (guard_ok laHook_ok)) (h ρ β))
theorem lY_n {d : Int} (h : d ∈ dsL) : LoopYOk Tryd.prog (lY false false d) := lY_mk fun ρ β => four (lp_nA0 ρ β) (lp_nA1 ρ β) (lp_nB0 ρ β) (lp_nB1 ρ β) h
theorem lY_8 {d : Int} (h : d ∈ dsL) : LoopYOk Tryd.prog (lY true false d) := lY_mk fun ρ β => four (lp_8A0 ρ β) (lp_8A1 ρ β) (lp_8B0 ρ β) (lp_8B1 ρ β) h
theorem lY_9 {d : Int} (h : d ∈ dsL) : LoopYOk Tryd.prog (lY false true d) := lY_mk fun ρ β => four (lp_9A0 ρ β) (lp_9A1 ρ β) (lp_9B0 ρ β) (lp_9B1 ρ β) h
end Go.Proofs.YtbaiokfjoglmiaaDoor.Ex
