/-
  Layer 12: the law CpuStays: its runs, the loop told.
-/
import Derived.Test.YtbaiokfjoglmiaaDoorCsO0
namespace Go.Proofs.YtbaiokfjoglmiaaDoor.Ex
open Go Go.RowKit
set_option maxHeartbeats 0
set_option maxRecDepth 1000000
set_option linter.unusedVariables false
noncomputable def laRun2 (cl : Cl) (d : Int) (k al co si : Int) (wi sh : Bool) (ds sr dp re im r0 r1 r2 r3 r4 r5 r6 r7 r8 r9 r10 r11 r12 r13 r14 r15 : Int) (z s c o : Bool) (pc : Int) : Option (Value × List Int) :=
  reckonPI Tryd.prog (liftH (guardH laHook)) (laOrc cl d) (loopYHook [lY cl.p8 cl.p9 d]) 100000 300 h12 12 [.agg ⟨xA k al co si wi sh ds sr dp re im⟩, stA r0 r1 r2 r3 r4 r5 r6 r7 r8 r9 r10 r11 r12 r13 r14 r15 z s c o pc]
end Go.Proofs.YtbaiokfjoglmiaaDoor.Ex
