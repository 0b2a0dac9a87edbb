/-
  Layer 8: the law MapsKeep: rounds of its loop.
-/
import Derived.Test.YtafegjmaldbbiaaMk6
namespace Go.Proofs.Ytafegjmaldbbiaa.Ex
open Go Go.RowKit
set_option maxHeartbeats 0
set_option maxRecDepth 1000000
set_option linter.unusedVariables false
set_option linter.unusedSectionVars false
theorem mh_3_0 : MkHop 3 0 := mk_hop (fun B p β G => by kernel_rfl) (by kernel_rfl) (fun B => by kernel_rfl) (fun B => by kernel_rfl)
theorem mh_4_1 : MkHop 4 1 := mk_hop (fun B p β G => by kernel_rfl) (by kernel_rfl) (fun B => by kernel_rfl) (fun B => by kernel_rfl)
theorem mh_5_1 : MkHop 5 1 := mk_hop (fun B p β G => by kernel_rfl) (by kernel_rfl) (fun B => by kernel_rfl) (fun B => by kernel_rfl)
theorem mh_6_0 : MkHop 6 0 := mk_hop (fun B p β G => by kernel_rfl) (by kernel_rfl) (fun B => by kernel_rfl) (fun B => by kernel_rfl)
theorem mh_6_4 : MkHop 6 4 := mk_hop (fun B p β G => by kernel_rfl) (by kernel_rfl) (fun B => by kernel_rfl) (fun B => by kernel_rfl)
theorem mh_7_2 : MkHop 7 2 := mk_hop (fun B p β G => by kernel_rfl) (by kernel_rfl) (fun B => by kernel_rfl) (fun B => by kernel_rfl)
theorem mh_7_6 : MkHop 7 6 := mk_hop (fun B p β G => by kernel_rfl) (by kernel_rfl) (fun B => by kernel_rfl) (fun B => by kernel_rfl)
theorem mh_8_3 : MkHop 8 3 := mk_hop (fun B p β G => by kernel_rfl) (by kernel_rfl) (fun B => by kernel_rfl) (fun B => by kernel_rfl)
theorem mh_8_7 : MkHop 8 7 := mk_hop (fun B p β G => by kernel_rfl) (by kernel_rfl) (fun B => by kernel_rfl) (fun B => by kernel_rfl)
theorem mh_9_3 : MkHop 9 3 := mk_hop (fun B p β G => by kernel_rfl) (by kernel_rfl) (fun B => by kernel_rfl) (fun B => by kernel_rfl)
theorem mh_9_7 : MkHop 9 7 := mk_hop (fun B p β G => by kernel_rfl) (by kernel_rfl) (fun B => by kernel_rfl) (fun B => by kernel_rfl)
theorem mh_10_2 : MkHop 10 2 := mk_hop (fun B p β G => by kernel_rfl) (by kernel_rfl) (fun B => by kernel_rfl) (fun B => by kernel_rfl)
theorem mh_10_6 : MkHop 10 6 := mk_hop (fun B p β G => by kernel_rfl) (by kernel_rfl) (fun B => by kernel_rfl) (fun B => by kernel_rfl)
theorem mh_11_0 : MkHop 11 0 := mk_hop (fun B p β G => by kernel_rfl) (by kernel_rfl) (fun B => by kernel_rfl) (fun B => by kernel_rfl)
theorem mh_11_4 : MkHop 11 4 := mk_hop (fun B p β G => by kernel_rfl) (by kernel_rfl) (fun B => by kernel_rfl) (fun B => by kernel_rfl)
theorem mh_11_8 : MkHop 11 8 := mk_hop (fun B p β G => by kernel_rfl) (by kernel_rfl) (fun B => by kernel_rfl) (fun B => by kernel_rfl)
theorem mh_12_1 : MkHop 12 1 := mk_hop (fun B p β G => by kernel_rfl) (by kernel_rfl) (fun B => by kernel_rfl) (fun B => by kernel_rfl)
theorem mh_12_5 : MkHop 12 5 := mk_hop (fun B p β G => by kernel_rfl) (by kernel_rfl) (fun B => by kernel_rfl) (fun B => by kernel_rfl)
theorem mh_12_9 : MkHop 12 9 := mk_hop (fun B p β G => by kernel_rfl) (by kernel_rfl) (fun B => by kernel_rfl) (fun B => by kernel_rfl)
theorem mh_13_1 : MkHop 13 1 := mk_hop (fun B p β G => by kernel_rfl) (by kernel_rfl) (fun B => by kernel_rfl) (fun B => by kernel_rfl)
theorem mh_13_5 : MkHop 13 5 := mk_hop (fun B p β G => by kernel_rfl) (by kernel_rfl) (fun B => by kernel_rfl) (fun B => by kernel_rfl)
theorem mh_13_9 : MkHop 13 9 := mk_hop (fun B p β G => by kernel_rfl) (by kernel_rfl) (fun B => by kernel_rfl) (fun B => by kernel_rfl)
theorem mh_14_0 : MkHop 14 0 := mk_hop (fun B p β G => by kernel_rfl) (by kernel_rfl) (fun B => by kernel_rfl) (fun B => by kernel_rfl)
theorem mh_14_4 : MkHop 14 4 := mk_hop (fun B p β G => by kernel_rfl) (by kernel_rfl) (fun B => by kernel_rfl) (fun B => by kernel_rfl)
theorem mh_14_8 : MkHop 14 8 := mk_hop (fun B p β G => by kernel_rfl) (by kernel_rfl) (fun B => by kernel_rfl) (fun B => by kernel_rfl)
theorem mh_14_12 : MkHop 14 12 := mk_hop (fun B p β G => by kernel_rfl) (by kernel_rfl) (fun B => by kernel_rfl) (fun B => by kernel_rfl)
theorem mh_15_2 : MkHop 15 2 := mk_hop (fun B p β G => by kernel_rfl) (by kernel_rfl) (fun B => by kernel_rfl) (fun B => by kernel_rfl)
theorem mh_15_6 : MkHop 15 6 := mk_hop (fun B p β G => by kernel_rfl) (by kernel_rfl) (fun B => by kernel_rfl) (fun B => by kernel_rfl)
theorem mh_15_10 : MkHop 15 10 := mk_hop (fun B p β G => by kernel_rfl) (by kernel_rfl) (fun B => by kernel_rfl) (fun B => by kernel_rfl)
theorem mh_15_14 : MkHop 15 14 := mk_hop (fun B p β G => by kernel_rfl) (by kernel_rfl) (fun B => by kernel_rfl) (fun B => by kernel_rfl)
theorem mh_16_3 : MkHop 16 3 := mk_hop (fun B p β G => by kernel_rfl) (by kernel_rfl) (fun B => by kernel_rfl) (fun B => by kernel_rfl)
theorem mh_16_7 : MkHop 16 7 := mk_hop (fun B p β G => by kernel_rfl) (by kernel_rfl) (fun B => by kernel_rfl) (fun B => by kernel_rfl)
theorem mh_16_11 : MkHop 16 11 := mk_hop (fun B p β G => by kernel_rfl) (by kernel_rfl) (fun B => by kernel_rfl) (fun B => by kernel_rfl)
theorem mh_16_15 : MkHop 16 15 := mk_hop (fun B p β G => by kernel_rfl) (by kernel_rfl) (fun B => by kernel_rfl) (fun B => by kernel_rfl)
end Go.Proofs.Ytafegjmaldbbiaa.Ex
