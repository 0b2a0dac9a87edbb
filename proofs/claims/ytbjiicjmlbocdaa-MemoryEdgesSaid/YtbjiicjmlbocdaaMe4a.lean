/-
  The law MemoryEdges: rounds of its loop (a).
-/
import Derived.Test.YtbjiicjmlbocdaaMe2
namespace Go.Proofs.Ytbjiicjmlbocdaa.Ex
open Go Go.RowKit
set_option maxHeartbeats 0
set_option maxRecDepth 1000000
set_option linter.unusedVariables false
theorem me_e0_t (m : Nat) (F a b x2 : Int) (cs : List Value) : (hopRunL Try.prog meH3 (meO m F (-9) 0 0 true) noLoop 3 (theLoopN Try.prog 3 1) 1 20 [] (meET m F a b 0 true) (meH m m F true cs x2)).map (fun r => (maskL meDs r.1, r.2)) = some (meT m F a b 0 true (-9 + 1) fun _ => .bool true, meH m m F true cs x2, none, inter (meCs m F (-9) 0 0 true m cs)) := by kernel_rfl
theorem me_e0_f (m : Nat) (F a b x2 : Int) (cs : List Value) : (hopRunL Try.prog meH3 (meO m F (-9) 0 0 true) noLoop 3 (theLoopN Try.prog 3 1) 1 20 [] (meET m F a b 71 false) (meH m m F false cs x2)).map (fun r => (maskL meDs r.1, r.2)) = some (meT m F a b 71 false (-9 + 1) fun _ => .bool true, meH m m F false cs x2, none, inter (meCs m F (-9) 0 0 false m cs)) := by kernel_rfl
theorem me_h0_t (m : Nat) (F a b i x2 : Int) (cs : List Value) (β : Nat → Value) : (hopRunL Try.prog meH3 (meO m F i 0 0 true) noLoop 3 (theLoopN Try.prog 3 1) 1 20 [] (meT m F a b 0 true i β) (meH m m F true cs x2)).map (fun r => (maskL meDs r.1, r.2)) = some (meT m F a b 0 true (i + 1) fun _ => .bool true, meH m m F true cs x2, none, inter (meCs m F i 0 0 true m cs)) := by kernel_rfl
theorem me_h0_f (m : Nat) (F a b i x2 : Int) (cs : List Value) (β : Nat → Value) : (hopRunL Try.prog meH3 (meO m F i 0 0 true) noLoop 3 (theLoopN Try.prog 3 1) 1 20 [] (meT m F a b 71 false i β) (meH m m F false cs x2)).map (fun r => (maskL meDs r.1, r.2)) = some (meT m F a b 71 false (i + 1) fun _ => .bool true, meH m m F false cs x2, none, inter (meCs m F i 0 0 false m cs)) := by kernel_rfl
theorem me_s_t (m : Nat) (F a b i x2 : Int) (cs : List Value) (β : Nat → Value) : (stopRunL Try.prog meH3 (meO m F i (i - m) 6 false) noLoop 3 (theLoopN Try.prog 3 1) 1 20 [] (meT m F a b 0 true i β) (meH m m F true cs x2)).map (fun r => (r.1, r.2.map fun r => (maskL meDs r.1, r.2))) = some (.exit 0, some (meT m F a b 0 true i fun k => bif Nat.ble 61 k && Nat.ble k 64 then .bool true else .bool (flat (β k)), meH m m F true cs x2, none, inter [(b2i (decide (i < wi (m + 10))), 0)])) := by kernel_rfl
theorem me_s_f (m : Nat) (F a b i x2 : Int) (cs : List Value) (β : Nat → Value) : (stopRunL Try.prog meH3 (meO m F i (i - m) 6 false) noLoop 3 (theLoopN Try.prog 3 1) 1 20 [] (meT m F a b 71 false i β) (meH m m F false cs x2)).map (fun r => (r.1, r.2.map fun r => (maskL meDs r.1, r.2))) = some (.exit 0, some (meT m F a b 71 false i fun k => bif Nat.ble 61 k && Nat.ble k 64 then .bool true else .bool (flat (β k)), meH m m F false cs x2, none, inter [(b2i (decide (i < wi (m + 10))), 0)])) := by kernel_rfl
end Go.Proofs.Ytbjiicjmlbocdaa.Ex
