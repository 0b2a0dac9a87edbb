/-
  The law MemoryEdges: rounds of its loop (c).
-/
import Derived.Test.YtbjiicjmlbocdaaMe2
namespace Go.Proofs.Ytbjiicjmlbocdaa.Ex
open Go Go.RowKit
set_option maxHeartbeats 0
set_option maxRecDepth 1000000
set_option linter.unusedVariables false
theorem me_h3_t (m : Nat) (F a b i x2 : Int) (cs : List Value) (β : Nat → Value) : (hopRunL Try.prog meH3 (meO m F i i 3 true) noLoop 3 (theLoopN Try.prog 3 1) 1 20 [] (meT m F a b 0 true i β) (meH m m F true cs x2)).map (fun r => (maskL meDs r.1, r.2)) = some (meT m F a b 0 true (i + 1) fun _ => .bool true, meH m m F true (meN i 3 true cs) x2, some 10, inter (meCs m F i i 3 true m cs)) := by kernel_rfl
theorem me_h3_f (m : Nat) (F a b i x2 : Int) (cs : List Value) (β : Nat → Value) : (hopRunL Try.prog meH3 (meO m F i i 3 true) noLoop 3 (theLoopN Try.prog 3 1) 1 20 [] (meT m F a b 71 false i β) (meH m m F false cs x2)).map (fun r => (maskL meDs r.1, r.2)) = some (meT m F a b 71 false (i + 1) fun _ => .bool true, meH m m F false (meN i 3 false cs) x2, none, inter (meCs m F i i 3 false m cs)) := by kernel_rfl
theorem me_h4_t (m : Nat) (F a b i x2 : Int) (cs : List Value) (β : Nat → Value) : (hopRunL Try.prog meH3 (meO m F i i 4 true) noLoop 3 (theLoopN Try.prog 3 1) 1 20 [] (meT m F a b 0 true i β) (meH m m F true cs x2)).map (fun r => (maskL meDs r.1, r.2)) = some (meT m F a b 0 true (i + 1) fun _ => .bool true, meH m m F true (meN i 4 true cs) x2, some 10, inter (meCs m F i i 4 true m cs)) := by kernel_rfl
theorem me_h4_f (m : Nat) (F a b i x2 : Int) (cs : List Value) (β : Nat → Value) : (hopRunL Try.prog meH3 (meO m F i i 4 true) noLoop 3 (theLoopN Try.prog 3 1) 1 20 [] (meT m F a b 71 false i β) (meH m m F false cs x2)).map (fun r => (maskL meDs r.1, r.2)) = some (meT m F a b 71 false (i + 1) fun _ => .bool true, meH m m F false (meN i 4 false cs) x2, none, inter (meCs m F i i 4 false m cs)) := by kernel_rfl
end Go.Proofs.Ytbjiicjmlbocdaa.Ex
