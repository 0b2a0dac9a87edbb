/-
  Layer 13: the law MachineJumps, way by way, its numbers not known.
-/
import Derived.Test.YtpkjgcfdemnohaaGreatDoorMj8
namespace Go.Proofs.YtpkjgcfdemnohaaGreatDoor.Ex
open Go Go.RowKit
set_option linter.unusedVariables false
set_option maxHeartbeats 0
set_option maxRecDepth 1000000
theorem jr3Ff (c n0 n1 : Int) (hk : Int.tmod c 10 = 3) (h0 : 0 ≤ n0) (h1 : n0 < 18446744073709551616) (g0 : 0 ≤ n1) (g1 : n1 < 18446744073709551616) (ht : takenJ 5 (zJ n0 n1) (sJ n0 n1) (qJ n0 n1) (oJ n0 n1) = false) (w : World) (hL : Laid h14 w) :
    Calls Tryz.prog 6 #[.int .u8 c, .agg ⟨[.int .u64 n0, .int .u64 n1]⟩, .bool false] w fun e w' => e = .returned (.bool true) ∧ Gr w w' :=
  reckonI_ok noNG (guard_ok (orHook_ok (hkTk_ok false) (orHook_ok hkVE_ok (orHook_ok (hkDecF_ok 133 5 (mJ n0) (mJ n1) decF30_5) (orHook_ok runsHook_ok (orHook_ok repHook_ok hkNum_ok)))))) (jOrcL 3 n0 n1) 100000 300 h14 (cs := jcsF 3 5 133 false c n0 n1) rfl rfl (by kernel_rfl) (jcsF_ok 3 5 133 false c n0 n1 hk h0 h1 g0 g1 ht) w hL
theorem jr4Tt (c n0 n1 : Int) (hk : Int.tmod c 10 = 4) (h0 : 0 ≤ n0) (h1 : n0 < 18446744073709551616) (g0 : 0 ≤ n1) (g1 : n1 < 18446744073709551616) (ht : takenJ 6 (zJ n0 n1) (sJ n0 n1) (qJ n0 n1) (oJ n0 n1) = true) (w : World) (hL : Laid h14 w) :
    Calls Tryz.prog 6 #[.int .u8 c, .agg ⟨[.int .u64 n0, .int .u64 n1]⟩, .bool true] w fun e w' => e = .returned (.bool true) ∧ Gr w w' :=
  reckonI_ok noNG (guard_ok (orHook_ok (hkTk_ok true) (orHook_ok hkVE_ok (orHook_ok (hkDecT_ok 118 6 (mJ n0) (mJ n1) decT30_6) (orHook_ok runsHook_ok (orHook_ok repHook_ok hkNum_ok)))))) (jOrcL 4 n0 n1) 100000 300 h14 (cs := jcsT 4 6 118 true c n0 n1) rfl rfl (by kernel_rfl) (jcsT_ok 4 6 118 true c n0 n1 hk h0 h1 g0 g1 ht) w hL
theorem jr4Tf (c n0 n1 : Int) (hk : Int.tmod c 10 = 4) (h0 : 0 ≤ n0) (h1 : n0 < 18446744073709551616) (g0 : 0 ≤ n1) (g1 : n1 < 18446744073709551616) (ht : takenJ 6 (zJ n0 n1) (sJ n0 n1) (qJ n0 n1) (oJ n0 n1) = false) (w : World) (hL : Laid h14 w) :
    Calls Tryz.prog 6 #[.int .u8 c, .agg ⟨[.int .u64 n0, .int .u64 n1]⟩, .bool true] w fun e w' => e = .returned (.bool true) ∧ Gr w w' :=
  reckonI_ok noNG (guard_ok (orHook_ok (hkTk_ok false) (orHook_ok hkVE_ok (orHook_ok (hkDecT_ok 118 6 (mJ n0) (mJ n1) decT30_6) (orHook_ok runsHook_ok (orHook_ok repHook_ok hkNum_ok)))))) (jOrcL 4 n0 n1) 100000 300 h14 (cs := jcsT 4 6 118 false c n0 n1) rfl rfl (by kernel_rfl) (jcsT_ok 4 6 118 false c n0 n1 hk h0 h1 g0 g1 ht) w hL
theorem jr4Ft (c n0 n1 : Int) (hk : Int.tmod c 10 = 4) (h0 : 0 ≤ n0) (h1 : n0 < 18446744073709551616) (g0 : 0 ≤ n1) (g1 : n1 < 18446744073709551616) (ht : takenJ 6 (zJ n0 n1) (sJ n0 n1) (qJ n0 n1) (oJ n0 n1) = true) (w : World) (hL : Laid h14 w) :
    Calls Tryz.prog 6 #[.int .u8 c, .agg ⟨[.int .u64 n0, .int .u64 n1]⟩, .bool false] w fun e w' => e = .returned (.bool true) ∧ Gr w w' :=
  reckonI_ok noNG (guard_ok (orHook_ok (hkTk_ok true) (orHook_ok hkVE_ok (orHook_ok (hkDecF_ok 134 6 (mJ n0) (mJ n1) decF30_6) (orHook_ok runsHook_ok (orHook_ok repHook_ok hkNum_ok)))))) (jOrcL 4 n0 n1) 100000 300 h14 (cs := jcsF 4 6 134 true c n0 n1) rfl rfl (by kernel_rfl) (jcsF_ok 4 6 134 true c n0 n1 hk h0 h1 g0 g1 ht) w hL
theorem jr4Ff (c n0 n1 : Int) (hk : Int.tmod c 10 = 4) (h0 : 0 ≤ n0) (h1 : n0 < 18446744073709551616) (g0 : 0 ≤ n1) (g1 : n1 < 18446744073709551616) (ht : takenJ 6 (zJ n0 n1) (sJ n0 n1) (qJ n0 n1) (oJ n0 n1) = false) (w : World) (hL : Laid h14 w) :
    Calls Tryz.prog 6 #[.int .u8 c, .agg ⟨[.int .u64 n0, .int .u64 n1]⟩, .bool false] w fun e w' => e = .returned (.bool true) ∧ Gr w w' :=
  reckonI_ok noNG (guard_ok (orHook_ok (hkTk_ok false) (orHook_ok hkVE_ok (orHook_ok (hkDecF_ok 134 6 (mJ n0) (mJ n1) decF30_6) (orHook_ok runsHook_ok (orHook_ok repHook_ok hkNum_ok)))))) (jOrcL 4 n0 n1) 100000 300 h14 (cs := jcsF 4 6 134 false c n0 n1) rfl rfl (by kernel_rfl) (jcsF_ok 4 6 134 false c n0 n1 hk h0 h1 g0 g1 ht) w hL
end Go.Proofs.YtpkjgcfdemnohaaGreatDoor.Ex
