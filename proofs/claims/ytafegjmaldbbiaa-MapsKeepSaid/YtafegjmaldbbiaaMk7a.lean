/-
  Layer 8: the law MapsKeep: rounds of its loop.
-/
import Derived.Test.YtafegjmaldbbiaaMk6
namespace Go.Proofs.Ytafegjmaldbbiaa.Ex
open Go Go.RowKit
set_option maxHeartbeats 0
set_option maxRecDepth 1000000
set_option linter.unusedVariables false
set_option linter.unusedSectionVars false
theorem mh_1_0 : MkHop 1 0 := mk_hop (fun B p β G => by kernel_rfl) (by kernel_rfl) (fun B => by kernel_rfl) (fun B => by kernel_rfl)
theorem mh_3_1 : MkHop 3 1 := mk_hop (fun B p β G => by kernel_rfl) (by kernel_rfl) (fun B => by kernel_rfl) (fun B => by kernel_rfl)
theorem mh_4_2 : MkHop 4 2 := mk_hop (fun B p β G => by kernel_rfl) (by kernel_rfl) (fun B => by kernel_rfl) (fun B => by kernel_rfl)
theorem mh_5_2 : MkHop 5 2 := mk_hop (fun B p β G => by kernel_rfl) (by kernel_rfl) (fun B => by kernel_rfl) (fun B => by kernel_rfl)
theorem mh_6_1 : MkHop 6 1 := mk_hop (fun B p β G => by kernel_rfl) (by kernel_rfl) (fun B => by kernel_rfl) (fun B => by kernel_rfl)
theorem mh_6_5 : MkHop 6 5 := mk_hop (fun B p β G => by kernel_rfl) (by kernel_rfl) (fun B => by kernel_rfl) (fun B => by kernel_rfl)
theorem mh_7_3 : MkHop 7 3 := mk_hop (fun B p β G => by kernel_rfl) (by kernel_rfl) (fun B => by kernel_rfl) (fun B => by kernel_rfl)
theorem mh_8_0 : MkHop 8 0 := mk_hop (fun B p β G => by kernel_rfl) (by kernel_rfl) (fun B => by kernel_rfl) (fun B => by kernel_rfl)
theorem mh_8_4 : MkHop 8 4 := mk_hop (fun B p β G => by kernel_rfl) (by kernel_rfl) (fun B => by kernel_rfl) (fun B => by kernel_rfl)
theorem mh_9_0 : MkHop 9 0 := mk_hop (fun B p β G => by kernel_rfl) (by kernel_rfl) (fun B => by kernel_rfl) (fun B => by kernel_rfl)
theorem mh_9_4 : MkHop 9 4 := mk_hop (fun B p β G => by kernel_rfl) (by kernel_rfl) (fun B => by kernel_rfl) (fun B => by kernel_rfl)
theorem mh_9_8 : MkHop 9 8 := mk_hop (fun B p β G => by kernel_rfl) (by kernel_rfl) (fun B => by kernel_rfl) (fun B => by kernel_rfl)
theorem mh_10_3 : MkHop 10 3 := mk_hop (fun B p β G => by kernel_rfl) (by kernel_rfl) (fun B => by kernel_rfl) (fun B => by kernel_rfl)
theorem mh_10_7 : MkHop 10 7 := mk_hop (fun B p β G => by kernel_rfl) (by kernel_rfl) (fun B => by kernel_rfl) (fun B => by kernel_rfl)
theorem mh_11_1 : MkHop 11 1 := mk_hop (fun B p β G => by kernel_rfl) (by kernel_rfl) (fun B => by kernel_rfl) (fun B => by kernel_rfl)
theorem mh_11_5 : MkHop 11 5 := mk_hop (fun B p β G => by kernel_rfl) (by kernel_rfl) (fun B => by kernel_rfl) (fun B => by kernel_rfl)
theorem mh_11_9 : MkHop 11 9 := mk_hop (fun B p β G => by kernel_rfl) (by kernel_rfl) (fun B => by kernel_rfl) (fun B => by kernel_rfl)
theorem mh_12_2 : MkHop 12 2 := mk_hop (fun B p β G => by kernel_rfl) (by kernel_rfl) (fun B => by kernel_rfl) (fun B => by kernel_rfl)
theorem mh_12_6 : MkHop 12 6 := mk_hop (fun B p β G => by kernel_rfl) (by kernel_rfl) (fun B => by kernel_rfl) (fun B => by kernel_rfl)
theorem mh_12_10 : MkHop 12 10 := mk_hop (fun B p β G => by kernel_rfl) (by kernel_rfl) (fun B => by kernel_rfl) (fun B => by kernel_rfl)
theorem mh_13_2 : MkHop 13 2 := mk_hop (fun B p β G => by kernel_rfl) (by kernel_rfl) (fun B => by kernel_rfl) (fun B => by kernel_rfl)
theorem mh_13_6 : MkHop 13 6 := mk_hop (fun B p β G => by kernel_rfl) (by kernel_rfl) (fun B => by kernel_rfl) (fun B => by kernel_rfl)
theorem mh_13_10 : MkHop 13 10 := mk_hop (fun B p β G => by kernel_rfl) (by kernel_rfl) (fun B => by kernel_rfl) (fun B => by kernel_rfl)
theorem mh_14_1 : MkHop 14 1 := mk_hop (fun B p β G => by kernel_rfl) (by kernel_rfl) (fun B => by kernel_rfl) (fun B => by kernel_rfl)
theorem mh_14_5 : MkHop 14 5 := mk_hop (fun B p β G => by kernel_rfl) (by kernel_rfl) (fun B => by kernel_rfl) (fun B => by kernel_rfl)
theorem mh_14_9 : MkHop 14 9 := mk_hop (fun B p β G => by kernel_rfl) (by kernel_rfl) (fun B => by kernel_rfl) (fun B => by kernel_rfl)
theorem mh_14_13 : MkHop 14 13 := mk_hop (fun B p β G => by kernel_rfl) (by kernel_rfl) (fun B => by kernel_rfl) (fun B => by kernel_rfl)
theorem mh_15_3 : MkHop 15 3 := mk_hop (fun B p β G => by kernel_rfl) (by kernel_rfl) (fun B => by kernel_rfl) (fun B => by kernel_rfl)
theorem mh_15_7 : MkHop 15 7 := mk_hop (fun B p β G => by kernel_rfl) (by kernel_rfl) (fun B => by kernel_rfl) (fun B => by kernel_rfl)
theorem mh_15_11 : MkHop 15 11 := mk_hop (fun B p β G => by kernel_rfl) (by kernel_rfl) (fun B => by kernel_rfl) (fun B => by kernel_rfl)
theorem mh_16_0 : MkHop 16 0 := mk_hop (fun B p β G => by kernel_rfl) (by kernel_rfl) (fun B => by kernel_rfl) (fun B => by kernel_rfl)
theorem mh_16_4 : MkHop 16 4 := mk_hop (fun B p β G => by kernel_rfl) (by kernel_rfl) (fun B => by kernel_rfl) (fun B => by kernel_rfl)
theorem mh_16_8 : MkHop 16 8 := mk_hop (fun B p β G => by kernel_rfl) (by kernel_rfl) (fun B => by kernel_rfl) (fun B => by kernel_rfl)
theorem mh_16_12 : MkHop 16 12 := mk_hop (fun B p β G => by kernel_rfl) (by kernel_rfl) (fun B => by kernel_rfl) (fun B => by kernel_rfl)
end Go.Proofs.Ytafegjmaldbbiaa.Ex
