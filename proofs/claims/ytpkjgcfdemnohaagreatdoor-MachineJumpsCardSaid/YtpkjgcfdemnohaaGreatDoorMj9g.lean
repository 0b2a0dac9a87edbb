/-
  Layer 13: the law MachineJumps, way by way, its numbers not known.
-/
import Derived.Test.YtpkjgcfdemnohaaGreatDoorMj8
namespace Go.Proofs.YtpkjgcfdemnohaaGreatDoor.Ex
open Go Go.RowKit
set_option linter.unusedVariables false
set_option maxHeartbeats 0
set_option maxRecDepth 1000000
theorem jr7Ft (c n0 n1 : Int) (hk : Int.tmod c 10 = 7) (h0 : 0 ≤ n0) (h1 : n0 < 18446744073709551616) (g0 : 0 ≤ n1) (g1 : n1 < 18446744073709551616) (ht : takenJ 13 (zJ n0 n1) (sJ n0 n1) (qJ n0 n1) (oJ n0 n1) = true) (w : World) (hL : Laid h14 w) :
    Calls Tryz.prog 6 #[.int .u8 c, .agg ⟨[.int .u64 n0, .int .u64 n1]⟩, .bool false] w fun e w' => e = .returned (.bool true) ∧ Gr w w' :=
  reckonI_ok noNG (guard_ok (orHook_ok (hkTk_ok true) (orHook_ok hkVE_ok (orHook_ok (hkDecF_ok 141 13 (mJ n0) (mJ n1) decF30_13) (orHook_ok runsHook_ok (orHook_ok repHook_ok hkNum_ok)))))) (jOrcL 7 n0 n1) 100000 300 h14 (cs := jcsF 7 13 141 true c n0 n1) rfl rfl (by kernel_rfl) (jcsF_ok 7 13 141 true c n0 n1 hk h0 h1 g0 g1 ht) w hL
theorem jr7Ff (c n0 n1 : Int) (hk : Int.tmod c 10 = 7) (h0 : 0 ≤ n0) (h1 : n0 < 18446744073709551616) (g0 : 0 ≤ n1) (g1 : n1 < 18446744073709551616) (ht : takenJ 13 (zJ n0 n1) (sJ n0 n1) (qJ n0 n1) (oJ n0 n1) = false) (w : World) (hL : Laid h14 w) :
    Calls Tryz.prog 6 #[.int .u8 c, .agg ⟨[.int .u64 n0, .int .u64 n1]⟩, .bool false] w fun e w' => e = .returned (.bool true) ∧ Gr w w' :=
  reckonI_ok noNG (guard_ok (orHook_ok (hkTk_ok false) (orHook_ok hkVE_ok (orHook_ok (hkDecF_ok 141 13 (mJ n0) (mJ n1) decF30_13) (orHook_ok runsHook_ok (orHook_ok repHook_ok hkNum_ok)))))) (jOrcL 7 n0 n1) 100000 300 h14 (cs := jcsF 7 13 141 false c n0 n1) rfl rfl (by kernel_rfl) (jcsF_ok 7 13 141 false c n0 n1 hk h0 h1 g0 g1 ht) w hL
theorem jr8Tt (c n0 n1 : Int) (hk : Int.tmod c 10 = 8) (h0 : 0 ≤ n0) (h1 : n0 < 18446744073709551616) (g0 : 0 ≤ n1) (g1 : n1 < 18446744073709551616) (ht : takenJ 14 (zJ n0 n1) (sJ n0 n1) (qJ n0 n1) (oJ n0 n1) = true) (w : World) (hL : Laid h14 w) :
    Calls Tryz.prog 6 #[.int .u8 c, .agg ⟨[.int .u64 n0, .int .u64 n1]⟩, .bool true] w fun e w' => e = .returned (.bool true) ∧ Gr w w' :=
  reckonI_ok noNG (guard_ok (orHook_ok (hkTk_ok true) (orHook_ok hkVE_ok (orHook_ok (hkDecT_ok 126 14 (mJ n0) (mJ n1) decT30_14) (orHook_ok runsHook_ok (orHook_ok repHook_ok hkNum_ok)))))) (jOrcL 8 n0 n1) 100000 300 h14 (cs := jcsT 8 14 126 true c n0 n1) rfl rfl (by kernel_rfl) (jcsT_ok 8 14 126 true c n0 n1 hk h0 h1 g0 g1 ht) w hL
theorem jr8Tf (c n0 n1 : Int) (hk : Int.tmod c 10 = 8) (h0 : 0 ≤ n0) (h1 : n0 < 18446744073709551616) (g0 : 0 ≤ n1) (g1 : n1 < 18446744073709551616) (ht : takenJ 14 (zJ n0 n1) (sJ n0 n1) (qJ n0 n1) (oJ n0 n1) = false) (w : World) (hL : Laid h14 w) :
    Calls Tryz.prog 6 #[.int .u8 c, .agg ⟨[.int .u64 n0, .int .u64 n1]⟩, .bool true] w fun e w' => e = .returned (.bool true) ∧ Gr w w' :=
  reckonI_ok noNG (guard_ok (orHook_ok (hkTk_ok false) (orHook_ok hkVE_ok (orHook_ok (hkDecT_ok 126 14 (mJ n0) (mJ n1) decT30_14) (orHook_ok runsHook_ok (orHook_ok repHook_ok hkNum_ok)))))) (jOrcL 8 n0 n1) 100000 300 h14 (cs := jcsT 8 14 126 false c n0 n1) rfl rfl (by kernel_rfl) (jcsT_ok 8 14 126 false c n0 n1 hk h0 h1 g0 g1 ht) w hL
theorem jr8Ft (c n0 n1 : Int) (hk : Int.tmod c 10 = 8) (h0 : 0 ≤ n0) (h1 : n0 < 18446744073709551616) (g0 : 0 ≤ n1) (g1 : n1 < 18446744073709551616) (ht : takenJ 14 (zJ n0 n1) (sJ n0 n1) (qJ n0 n1) (oJ n0 n1) = true) (w : World) (hL : Laid h14 w) :
    Calls Tryz.prog 6 #[.int .u8 c, .agg ⟨[.int .u64 n0, .int .u64 n1]⟩, .bool false] w fun e w' => e = .returned (.bool true) ∧ Gr w w' :=
  reckonI_ok noNG (guard_ok (orHook_ok (hkTk_ok true) (orHook_ok hkVE_ok (orHook_ok (hkDecF_ok 142 14 (mJ n0) (mJ n1) decF30_14) (orHook_ok runsHook_ok (orHook_ok repHook_ok hkNum_ok)))))) (jOrcL 8 n0 n1) 100000 300 h14 (cs := jcsF 8 14 142 true c n0 n1) rfl rfl (by kernel_rfl) (jcsF_ok 8 14 142 true c n0 n1 hk h0 h1 g0 g1 ht) w hL
end Go.Proofs.YtpkjgcfdemnohaaGreatDoor.Ex
