/-
  Layer 8: the law MapsKeep: rounds of its loop.
-/
import Derived.Test.YtafegjmaldbbiaaMk6
namespace Go.Proofs.Ytafegjmaldbbiaa.Ex
open Go Go.RowKit
set_option maxHeartbeats 0
set_option maxRecDepth 1000000
set_option linter.unusedVariables false
set_option linter.unusedSectionVars false
theorem mh_2_1 : MkHop 2 1 := mk_hop (fun B p β G => by kernel_rfl) (by kernel_rfl) (fun B => by kernel_rfl) (fun B => by kernel_rfl)
theorem mh_4_0 : MkHop 4 0 := mk_hop (fun B p β G => by kernel_rfl) (by kernel_rfl) (fun B => by kernel_rfl) (fun B => by kernel_rfl)
theorem mh_5_0 : MkHop 5 0 := mk_hop (fun B p β G => by kernel_rfl) (by kernel_rfl) (fun B => by kernel_rfl) (fun B => by kernel_rfl)
theorem mh_5_4 : MkHop 5 4 := mk_hop (fun B p β G => by kernel_rfl) (by kernel_rfl) (fun B => by kernel_rfl) (fun B => by kernel_rfl)
theorem mh_6_3 : MkHop 6 3 := mk_hop (fun B p β G => by kernel_rfl) (by kernel_rfl) (fun B => by kernel_rfl) (fun B => by kernel_rfl)
theorem mh_7_1 : MkHop 7 1 := mk_hop (fun B p β G => by kernel_rfl) (by kernel_rfl) (fun B => by kernel_rfl) (fun B => by kernel_rfl)
theorem mh_7_5 : MkHop 7 5 := mk_hop (fun B p β G => by kernel_rfl) (by kernel_rfl) (fun B => by kernel_rfl) (fun B => by kernel_rfl)
theorem mh_8_2 : MkHop 8 2 := mk_hop (fun B p β G => by kernel_rfl) (by kernel_rfl) (fun B => by kernel_rfl) (fun B => by kernel_rfl)
theorem mh_8_6 : MkHop 8 6 := mk_hop (fun B p β G => by kernel_rfl) (by kernel_rfl) (fun B => by kernel_rfl) (fun B => by kernel_rfl)
theorem mh_9_2 : MkHop 9 2 := mk_hop (fun B p β G => by kernel_rfl) (by kernel_rfl) (fun B => by kernel_rfl) (fun B => by kernel_rfl)
theorem mh_9_6 : MkHop 9 6 := mk_hop (fun B p β G => by kernel_rfl) (by kernel_rfl) (fun B => by kernel_rfl) (fun B => by kernel_rfl)
theorem mh_10_1 : MkHop 10 1 := mk_hop (fun B p β G => by kernel_rfl) (by kernel_rfl) (fun B => by kernel_rfl) (fun B => by kernel_rfl)
theorem mh_10_5 : MkHop 10 5 := mk_hop (fun B p β G => by kernel_rfl) (by kernel_rfl) (fun B => by kernel_rfl) (fun B => by kernel_rfl)
theorem mh_10_9 : MkHop 10 9 := mk_hop (fun B p β G => by kernel_rfl) (by kernel_rfl) (fun B => by kernel_rfl) (fun B => by kernel_rfl)
theorem mh_11_3 : MkHop 11 3 := mk_hop (fun B p β G => by kernel_rfl) (by kernel_rfl) (fun B => by kernel_rfl) (fun B => by kernel_rfl)
theorem mh_11_7 : MkHop 11 7 := mk_hop (fun B p β G => by kernel_rfl) (by kernel_rfl) (fun B => by kernel_rfl) (fun B => by kernel_rfl)
theorem mh_12_0 : MkHop 12 0 := mk_hop (fun B p β G => by kernel_rfl) (by kernel_rfl) (fun B => by kernel_rfl) (fun B => by kernel_rfl)
theorem mh_12_4 : MkHop 12 4 := mk_hop (fun B p β G => by kernel_rfl) (by kernel_rfl) (fun B => by kernel_rfl) (fun B => by kernel_rfl)
theorem mh_12_8 : MkHop 12 8 := mk_hop (fun B p β G => by kernel_rfl) (by kernel_rfl) (fun B => by kernel_rfl) (fun B => by kernel_rfl)
theorem mh_13_0 : MkHop 13 0 := mk_hop (fun B p β G => by kernel_rfl) (by kernel_rfl) (fun B => by kernel_rfl) (fun B => by kernel_rfl)
theorem mh_13_4 : MkHop 13 4 := mk_hop (fun B p β G => by kernel_rfl) (by kernel_rfl) (fun B => by kernel_rfl) (fun B => by kernel_rfl)
theorem mh_13_8 : MkHop 13 8 := mk_hop (fun B p β G => by kernel_rfl) (by kernel_rfl) (fun B => by kernel_rfl) (fun B => by kernel_rfl)
theorem mh_13_12 : MkHop 13 12 := mk_hop (fun B p β G => by kernel_rfl) (by kernel_rfl) (fun B => by kernel_rfl) (fun B => by kernel_rfl)
theorem mh_14_3 : MkHop 14 3 := mk_hop (fun B p β G => by kernel_rfl) (by kernel_rfl) (fun B => by kernel_rfl) (fun B => by kernel_rfl)
theorem mh_14_7 : MkHop 14 7 := mk_hop (fun B p β G => by kernel_rfl) (by kernel_rfl) (fun B => by kernel_rfl) (fun B => by kernel_rfl)
theorem mh_14_11 : MkHop 14 11 := mk_hop (fun B p β G => by kernel_rfl) (by kernel_rfl) (fun B => by kernel_rfl) (fun B => by kernel_rfl)
theorem mh_15_1 : MkHop 15 1 := mk_hop (fun B p β G => by kernel_rfl) (by kernel_rfl) (fun B => by kernel_rfl) (fun B => by kernel_rfl)
theorem mh_15_5 : MkHop 15 5 := mk_hop (fun B p β G => by kernel_rfl) (by kernel_rfl) (fun B => by kernel_rfl) (fun B => by kernel_rfl)
theorem mh_15_9 : MkHop 15 9 := mk_hop (fun B p β G => by kernel_rfl) (by kernel_rfl) (fun B => by kernel_rfl) (fun B => by kernel_rfl)
theorem mh_15_13 : MkHop 15 13 := mk_hop (fun B p β G => by kernel_rfl) (by kernel_rfl) (fun B => by kernel_rfl) (fun B => by kernel_rfl)
theorem mh_16_2 : MkHop 16 2 := mk_hop (fun B p β G => by kernel_rfl) (by kernel_rfl) (fun B => by kernel_rfl) (fun B => by kernel_rfl)
theorem mh_16_6 : MkHop 16 6 := mk_hop (fun B p β G => by kernel_rfl) (by kernel_rfl) (fun B => by kernel_rfl) (fun B => by kernel_rfl)
theorem mh_16_10 : MkHop 16 10 := mk_hop (fun B p β G => by kernel_rfl) (by kernel_rfl) (fun B => by kernel_rfl) (fun B => by kernel_rfl)
theorem mh_16_14 : MkHop 16 14 := mk_hop (fun B p β G => by kernel_rfl) (by kernel_rfl) (fun B => by kernel_rfl) (fun B => by kernel_rfl)
end Go.Proofs.Ytafegjmaldbbiaa.Ex
