/-
  Layer 11: what decoding answers, whatever the text is, and the place.
-/
import Derived.Test.YtbaiokfjoglmiaaDoorDk8a
import Derived.Test.YtbaiokfjoglmiaaDoorDk8b
import Derived.Test.YtbaiokfjoglmiaaDoorDk8c
import Derived.Test.YtbaiokfjoglmiaaDoorDk8d
import Derived.Test.YtbaiokfjoglmiaaDoorDk8e
import Derived.Test.YtbaiokfjoglmiaaDoorDk8f
namespace Go.Proofs.YtbaiokfjoglmiaaDoor.Ex
open Go Go.RowKit
set_option linter.unusedVariables false
set_option linter.unusedSimpArgs false
set_option maxHeartbeats 0
set_option maxRecDepth 1000000
theorem decode_in {eB : EncB} {eE : EncE} {s : ByteArray} {a : Int} {w : World} (C : Cx eB eE s a w) : GoalD eB eE s a w := by
  rcases Bool.eq_false_or_eq_true (bt s a 0 == 102) with th | th
  · rcases Bool.eq_false_or_eq_true (andB (bt s a 1) 240 == 64) with tr | tr
    · rcases Bool.eq_false_or_eq_true (andB (bt s a 1) 8 != 0) with tw | tw
      · exact dP_hw C th tr tw
      · exact dP_hr C th tr tw
    · exact dP_h0 C th tr
  · rcases Bool.eq_false_or_eq_true (andB (bt s a 0) 240 == 64) with tr | tr
    · rcases Bool.eq_false_or_eq_true (andB (bt s a 0) 8 != 0) with tw | tw
      · exact dP_nw C th tr tw
      · exact dP_nr C th tr tw
    · exact dP_n0 C th tr
end Go.Proofs.YtbaiokfjoglmiaaDoor.Ex
