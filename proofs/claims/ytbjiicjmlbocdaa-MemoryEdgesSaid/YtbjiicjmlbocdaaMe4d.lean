/-
  The law MemoryEdges: rounds of its loop (d).
-/
import Derived.Test.YtbjiicjmlbocdaaMe2
namespace Go.Proofs.Ytbjiicjmlbocdaa.Ex
open Go Go.RowKit
set_option maxHeartbeats 0
set_option maxRecDepth 1000000
set_option linter.unusedVariables false
theorem me_h5_t (m : Nat) (F a b i x2 : Int) (cs : List Value) (β : Nat → Value) : (hopRunL Try.prog meH3 (meO m F i 0 5 true) noLoop 3 (theLoopN Try.prog 3 1) 1 20 [] (meT m F a b 0 true i β) (meH m m F true cs x2)).map (fun r => (maskL meDs r.1, r.2)) = some (meT m F a b 0 true (i + 1) fun _ => .bool true, meH m m F true cs 1, some 7, inter (meCs m F i 0 5 true 1 [.int .u8 x2])) := by kernel_rfl
theorem me_h5_f (m : Nat) (F a b i x2 : Int) (cs : List Value) (β : Nat → Value) : (hopRunL Try.prog meH3 (meO m F i 0 5 true) noLoop 3 (theLoopN Try.prog 3 1) 1 20 [] (meT m F a b 71 false i β) (meH m m F false cs x2)).map (fun r => (maskL meDs r.1, r.2)) = some (meT m F a b 71 false (i + 1) fun _ => .bool true, meH m m F false cs x2, none, inter (meCs m F i 0 5 false 1 [.int .u8 x2])) := by kernel_rfl
theorem me_h6_t (m : Nat) (F a b i x2 : Int) (cs : List Value) (β : Nat → Value) : (hopRunL Try.prog meH3 (meO m F i (i - m) 6 true) noLoop 3 (theLoopN Try.prog 3 1) 1 20 [] (meT m F a b 0 true i β) (meH m m F true cs x2)).map (fun r => (maskL meDs r.1, r.2)) = some (meT m F a b 0 true (i + 1) fun _ => .bool true, meH m m F true cs x2, none, inter (meCs m F i (i - m) 6 true m cs)) := by kernel_rfl
theorem me_h6_f (m : Nat) (F a b i x2 : Int) (cs : List Value) (β : Nat → Value) : (hopRunL Try.prog meH3 (meO m F i (i - m) 6 true) noLoop 3 (theLoopN Try.prog 3 1) 1 20 [] (meT m F a b 71 false i β) (meH m m F false cs x2)).map (fun r => (maskL meDs r.1, r.2)) = some (meT m F a b 71 false (i + 1) fun _ => .bool true, meH m m F false cs x2, none, inter (meCs m F i (i - m) 6 false m cs)) := by kernel_rfl
end Go.Proofs.Ytbjiicjmlbocdaa.Ex
