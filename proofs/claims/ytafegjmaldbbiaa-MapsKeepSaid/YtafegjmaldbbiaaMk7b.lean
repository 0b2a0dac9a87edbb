/-
  Layer 8: the law MapsKeep: rounds of its loop.
-/
import Derived.Test.YtafegjmaldbbiaaMk6
namespace Go.Proofs.Ytafegjmaldbbiaa.Ex
open Go Go.RowKit
set_option maxHeartbeats 0
set_option maxRecDepth 1000000
set_option linter.unusedVariables false
set_option linter.unusedSectionVars false
theorem mh_2_0 : MkHop 2 0 := mk_hop (fun B p β G => by kernel_rfl) (by kernel_rfl) (fun B => by kernel_rfl) (fun B => by kernel_rfl)
theorem mh_3_2 : MkHop 3 2 := mk_hop (fun B p β G => by kernel_rfl) (by kernel_rfl) (fun B => by kernel_rfl) (fun B => by kernel_rfl)
theorem mh_4_3 : MkHop 4 3 := mk_hop (fun B p β G => by kernel_rfl) (by kernel_rfl) (fun B => by kernel_rfl) (fun B => by kernel_rfl)
theorem mh_5_3 : MkHop 5 3 := mk_hop (fun B p β G => by kernel_rfl) (by kernel_rfl) (fun B => by kernel_rfl) (fun B => by kernel_rfl)
theorem mh_6_2 : MkHop 6 2 := mk_hop (fun B p β G => by kernel_rfl) (by kernel_rfl) (fun B => by kernel_rfl) (fun B => by kernel_rfl)
theorem mh_7_0 : MkHop 7 0 := mk_hop (fun B p β G => by kernel_rfl) (by kernel_rfl) (fun B => by kernel_rfl) (fun B => by kernel_rfl)
theorem mh_7_4 : MkHop 7 4 := mk_hop (fun B p β G => by kernel_rfl) (by kernel_rfl) (fun B => by kernel_rfl) (fun B => by kernel_rfl)
theorem mh_8_1 : MkHop 8 1 := mk_hop (fun B p β G => by kernel_rfl) (by kernel_rfl) (fun B => by kernel_rfl) (fun B => by kernel_rfl)
theorem mh_8_5 : MkHop 8 5 := mk_hop (fun B p β G => by kernel_rfl) (by kernel_rfl) (fun B => by kernel_rfl) (fun B => by kernel_rfl)
theorem mh_9_1 : MkHop 9 1 := mk_hop (fun B p β G => by kernel_rfl) (by kernel_rfl) (fun B => by kernel_rfl) (fun B => by kernel_rfl)
theorem mh_9_5 : MkHop 9 5 := mk_hop (fun B p β G => by kernel_rfl) (by kernel_rfl) (fun B => by kernel_rfl) (fun B => by kernel_rfl)
theorem mh_10_0 : MkHop 10 0 := mk_hop (fun B p β G => by kernel_rfl) (by kernel_rfl) (fun B => by kernel_rfl) (fun B => by kernel_rfl)
theorem mh_10_4 : MkHop 10 4 := mk_hop (fun B p β G => by kernel_rfl) (by kernel_rfl) (fun B => by kernel_rfl) (fun B => by kernel_rfl)
theorem mh_10_8 : MkHop 10 8 := mk_hop (fun B p β G => by kernel_rfl) (by kernel_rfl) (fun B => by kernel_rfl) (fun B => by kernel_rfl)
theorem mh_11_2 : MkHop 11 2 := mk_hop (fun B p β G => by kernel_rfl) (by kernel_rfl) (fun B => by kernel_rfl) (fun B => by kernel_rfl)
theorem mh_11_6 : MkHop 11 6 := mk_hop (fun B p β G => by kernel_rfl) (by kernel_rfl) (fun B => by kernel_rfl) (fun B => by kernel_rfl)
theorem mh_11_10 : MkHop 11 10 := mk_hop (fun B p β G => by kernel_rfl) (by kernel_rfl) (fun B => by kernel_rfl) (fun B => by kernel_rfl)
theorem mh_12_3 : MkHop 12 3 := mk_hop (fun B p β G => by kernel_rfl) (by kernel_rfl) (fun B => by kernel_rfl) (fun B => by kernel_rfl)
theorem mh_12_7 : MkHop 12 7 := mk_hop (fun B p β G => by kernel_rfl) (by kernel_rfl) (fun B => by kernel_rfl) (fun B => by kernel_rfl)
theorem mh_12_11 : MkHop 12 11 := mk_hop (fun B p β G => by kernel_rfl) (by kernel_rfl) (fun B => by kernel_rfl) (fun B => by kernel_rfl)
theorem mh_13_3 : MkHop 13 3 := mk_hop (fun B p β G => by kernel_rfl) (by kernel_rfl) (fun B => by kernel_rfl) (fun B => by kernel_rfl)
theorem mh_13_7 : MkHop 13 7 := mk_hop (fun B p β G => by kernel_rfl) (by kernel_rfl) (fun B => by kernel_rfl) (fun B => by kernel_rfl)
theorem mh_13_11 : MkHop 13 11 := mk_hop (fun B p β G => by kernel_rfl) (by kernel_rfl) (fun B => by kernel_rfl) (fun B => by kernel_rfl)
theorem mh_14_2 : MkHop 14 2 := mk_hop (fun B p β G => by kernel_rfl) (by kernel_rfl) (fun B => by kernel_rfl) (fun B => by kernel_rfl)
theorem mh_14_6 : MkHop 14 6 := mk_hop (fun B p β G => by kernel_rfl) (by kernel_rfl) (fun B => by kernel_rfl) (fun B => by kernel_rfl)
theorem mh_14_10 : MkHop 14 10 := mk_hop (fun B p β G => by kernel_rfl) (by kernel_rfl) (fun B => by kernel_rfl) (fun B => by kernel_rfl)
theorem mh_15_0 : MkHop 15 0 := mk_hop (fun B p β G => by kernel_rfl) (by kernel_rfl) (fun B => by kernel_rfl) (fun B => by kernel_rfl)
theorem mh_15_4 : MkHop 15 4 := mk_hop (fun B p β G => by kernel_rfl) (by kernel_rfl) (fun B => by kernel_rfl) (fun B => by kernel_rfl)
theorem mh_15_8 : MkHop 15 8 := mk_hop (fun B p β G => by kernel_rfl) (by kernel_rfl) (fun B => by kernel_rfl) (fun B => by kernel_rfl)
theorem mh_15_12 : MkHop 15 12 := mk_hop (fun B p β G => by kernel_rfl) (by kernel_rfl) (fun B => by kernel_rfl) (fun B => by kernel_rfl)
theorem mh_16_1 : MkHop 16 1 := mk_hop (fun B p β G => by kernel_rfl) (by kernel_rfl) (fun B => by kernel_rfl) (fun B => by kernel_rfl)
theorem mh_16_5 : MkHop 16 5 := mk_hop (fun B p β G => by kernel_rfl) (by kernel_rfl) (fun B => by kernel_rfl) (fun B => by kernel_rfl)
theorem mh_16_9 : MkHop 16 9 := mk_hop (fun B p β G => by kernel_rfl) (by kernel_rfl) (fun B => by kernel_rfl) (fun B => by kernel_rfl)
theorem mh_16_13 : MkHop 16 13 := mk_hop (fun B p β G => by kernel_rfl) (by kernel_rfl) (fun B => by kernel_rfl) (fun B => by kernel_rfl)
end Go.Proofs.Ytafegjmaldbbiaa.Ex
