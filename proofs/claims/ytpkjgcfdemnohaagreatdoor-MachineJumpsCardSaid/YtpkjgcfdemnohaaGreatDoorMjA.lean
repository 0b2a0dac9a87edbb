/-
  Layer 13: the law MachineJumps.
-/
import Derived.Test.YtpkjgcfdemnohaaGreatDoorMj9a
import Derived.Test.YtpkjgcfdemnohaaGreatDoorMj9b
import Derived.Test.YtpkjgcfdemnohaaGreatDoorMj9c
import Derived.Test.YtpkjgcfdemnohaaGreatDoorMj9d
import Derived.Test.YtpkjgcfdemnohaaGreatDoorMj9e
import Derived.Test.YtpkjgcfdemnohaaGreatDoorMj9f
import Derived.Test.YtpkjgcfdemnohaaGreatDoorMj9g
import Derived.Test.YtpkjgcfdemnohaaGreatDoorMj9h
namespace Go.Proofs.YtpkjgcfdemnohaaGreatDoor.Ex
open Go Go.RowKit
set_option linter.unusedVariables false
set_option maxHeartbeats 0
set_option maxRecDepth 1000000
theorem machineJumps_walk (c n0 n1 : Int) (sh : Bool) (w : World) (hc0 : 0 ≤ c) (h0 : 0 ≤ n0) (h1 : n0 < 18446744073709551616) (g0 : 0 ≤ n1) (g1 : n1 < 18446744073709551616) (hL : Laid h14 w) :
    Calls Tryz.prog 6 #[.int .u8 c, .agg ⟨[.int .u64 n0, .int .u64 n1]⟩, .bool sh] w fun e w' => e = .returned (.bool true) ∧ Gr w w' := by
  have hm : Int.tmod c 10 = c % 10 := Int.tmod_eq_emod_of_nonneg hc0
  have hk : Int.tmod c 10 = 0 ∨ Int.tmod c 10 = 1 ∨ Int.tmod c 10 = 2 ∨ Int.tmod c 10 = 3 ∨ Int.tmod c 10 = 4 ∨ Int.tmod c 10 = 5 ∨ Int.tmod c 10 = 6 ∨ Int.tmod c 10 = 7 ∨ Int.tmod c 10 = 8 ∨ Int.tmod c 10 = 9 := by omega
  rcases hk with hk | hk | hk | hk | hk | hk | hk | hk | hk | hk
  · cases sh
    · cases ht : takenJ 2 (zJ n0 n1) (sJ n0 n1) (qJ n0 n1) (oJ n0 n1)
      · exact jr0Ff c n0 n1 hk h0 h1 g0 g1 ht w hL
      · exact jr0Ft c n0 n1 hk h0 h1 g0 g1 ht w hL
    · cases ht : takenJ 2 (zJ n0 n1) (sJ n0 n1) (qJ n0 n1) (oJ n0 n1)
      · exact jr0Tf c n0 n1 hk h0 h1 g0 g1 ht w hL
      · exact jr0Tt c n0 n1 hk h0 h1 g0 g1 ht w hL
  · cases sh
    · cases ht : takenJ 3 (zJ n0 n1) (sJ n0 n1) (qJ n0 n1) (oJ n0 n1)
      · exact jr1Ff c n0 n1 hk h0 h1 g0 g1 ht w hL
      · exact jr1Ft c n0 n1 hk h0 h1 g0 g1 ht w hL
    · cases ht : takenJ 3 (zJ n0 n1) (sJ n0 n1) (qJ n0 n1) (oJ n0 n1)
      · exact jr1Tf c n0 n1 hk h0 h1 g0 g1 ht w hL
      · exact jr1Tt c n0 n1 hk h0 h1 g0 g1 ht w hL
  · cases sh
    · cases ht : takenJ 4 (zJ n0 n1) (sJ n0 n1) (qJ n0 n1) (oJ n0 n1)
      · exact jr2Ff c n0 n1 hk h0 h1 g0 g1 ht w hL
      · exact jr2Ft c n0 n1 hk h0 h1 g0 g1 ht w hL
    · cases ht : takenJ 4 (zJ n0 n1) (sJ n0 n1) (qJ n0 n1) (oJ n0 n1)
      · exact jr2Tf c n0 n1 hk h0 h1 g0 g1 ht w hL
      · exact jr2Tt c n0 n1 hk h0 h1 g0 g1 ht w hL
  · cases sh
    · cases ht : takenJ 5 (zJ n0 n1) (sJ n0 n1) (qJ n0 n1) (oJ n0 n1)
      · exact jr3Ff c n0 n1 hk h0 h1 g0 g1 ht w hL
      · exact jr3Ft c n0 n1 hk h0 h1 g0 g1 ht w hL
    · cases ht : takenJ 5 (zJ n0 n1) (sJ n0 n1) (qJ n0 n1) (oJ n0 n1)
      · exact jr3Tf c n0 n1 hk h0 h1 g0 g1 ht w hL
      · exact jr3Tt c n0 n1 hk h0 h1 g0 g1 ht w hL
  · cases sh
    · cases ht : takenJ 6 (zJ n0 n1) (sJ n0 n1) (qJ n0 n1) (oJ n0 n1)
      · exact jr4Ff c n0 n1 hk h0 h1 g0 g1 ht w hL
      · exact jr4Ft c n0 n1 hk h0 h1 g0 g1 ht w hL
    · cases ht : takenJ 6 (zJ n0 n1) (sJ n0 n1) (qJ n0 n1) (oJ n0 n1)
      · exact jr4Tf c n0 n1 hk h0 h1 g0 g1 ht w hL
      · exact jr4Tt c n0 n1 hk h0 h1 g0 g1 ht w hL
  · cases sh
    · cases ht : takenJ 7 (zJ n0 n1) (sJ n0 n1) (qJ n0 n1) (oJ n0 n1)
      · exact jr5Ff c n0 n1 hk h0 h1 g0 g1 ht w hL
      · exact jr5Ft c n0 n1 hk h0 h1 g0 g1 ht w hL
    · cases ht : takenJ 7 (zJ n0 n1) (sJ n0 n1) (qJ n0 n1) (oJ n0 n1)
      · exact jr5Tf c n0 n1 hk h0 h1 g0 g1 ht w hL
      · exact jr5Tt c n0 n1 hk h0 h1 g0 g1 ht w hL
  · cases sh
    · cases ht : takenJ 12 (zJ n0 n1) (sJ n0 n1) (qJ n0 n1) (oJ n0 n1)
      · exact jr6Ff c n0 n1 hk h0 h1 g0 g1 ht w hL
      · exact jr6Ft c n0 n1 hk h0 h1 g0 g1 ht w hL
    · cases ht : takenJ 12 (zJ n0 n1) (sJ n0 n1) (qJ n0 n1) (oJ n0 n1)
      · exact jr6Tf c n0 n1 hk h0 h1 g0 g1 ht w hL
      · exact jr6Tt c n0 n1 hk h0 h1 g0 g1 ht w hL
  · cases sh
    · cases ht : takenJ 13 (zJ n0 n1) (sJ n0 n1) (qJ n0 n1) (oJ n0 n1)
      · exact jr7Ff c n0 n1 hk h0 h1 g0 g1 ht w hL
      · exact jr7Ft c n0 n1 hk h0 h1 g0 g1 ht w hL
    · cases ht : takenJ 13 (zJ n0 n1) (sJ n0 n1) (qJ n0 n1) (oJ n0 n1)
      · exact jr7Tf c n0 n1 hk h0 h1 g0 g1 ht w hL
      · exact jr7Tt c n0 n1 hk h0 h1 g0 g1 ht w hL
  · cases sh
    · cases ht : takenJ 14 (zJ n0 n1) (sJ n0 n1) (qJ n0 n1) (oJ n0 n1)
      · exact jr8Ff c n0 n1 hk h0 h1 g0 g1 ht w hL
      · exact jr8Ft c n0 n1 hk h0 h1 g0 g1 ht w hL
    · cases ht : takenJ 14 (zJ n0 n1) (sJ n0 n1) (qJ n0 n1) (oJ n0 n1)
      · exact jr8Tf c n0 n1 hk h0 h1 g0 g1 ht w hL
      · exact jr8Tt c n0 n1 hk h0 h1 g0 g1 ht w hL
  · cases sh
    · cases ht : takenJ 15 (zJ n0 n1) (sJ n0 n1) (qJ n0 n1) (oJ n0 n1)
      · exact jr9Ff c n0 n1 hk h0 h1 g0 g1 ht w hL
      · exact jr9Ft c n0 n1 hk h0 h1 g0 g1 ht w hL
    · cases ht : takenJ 15 (zJ n0 n1) (sJ n0 n1) (qJ n0 n1) (oJ n0 n1)
      · exact jr9Tf c n0 n1 hk h0 h1 g0 g1 ht w hL
      · exact jr9Tt c n0 n1 hk h0 h1 g0 g1 ht w hL
end Go.Proofs.YtpkjgcfdemnohaaGreatDoor.Ex
