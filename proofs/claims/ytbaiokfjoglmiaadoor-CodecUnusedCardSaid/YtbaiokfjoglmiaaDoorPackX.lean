/-
  Lemmas for the laws of this seat, part X: CdE6, CdE7.
-/
import Derived.Test.YtbaiokfjoglmiaaDoorPackW
section
namespace Go.Proofs.YtbaiokfjoglmiaaDoor.Ex
open Go Go.RowKit
set_option linter.unusedVariables false
set_option linter.unusedSimpArgs false
set_option maxHeartbeats 0
set_option maxRecDepth 1000000
attribute [local simp] vP xA eqD eqW regS szOk ccOk aluOk shOk shiftS
variable (x : Rw)
theorem u15_0 (sh : Bool) (re : Int) (hc : Cu x (xA 15 0 0 0 false sh 0 0 0 re 0)) : Ru x [(Int.tmod x.wh 6, 0), (b2i (decide (x.to ≥ 0)), 1), (b2i (decide (x.to < 16)), 1), (b2i (eqD (xA 15 0 0 0 false sh x.to 0 0 re 0) (xA 15 0 0 0 false sh 0 0 0 re 0)), 1), (b2i (vP 15 0 0 0 false sh x.to 0 0 re 0), 1), (b2i (encE 15 0 0 0 false sh x.to 0 0 re 0 == 0), 1)] := lf (orHook_ok (hk_cut_ok hc) hkU_ok) (ocs [(7, 58, .int .u8 0), (7, 81, .bool true), (7, 85, .bool true), (7, 220, .bool true), (7, 223, .bool true), (7, 227, .bool true)] []) (by kernel_rfl) (by kernel_rfl) (by kernel_rfl)
theorem u15_1 (sh : Bool) (re : Int) (hc : Cu x (xA 15 0 0 0 false sh 0 0 0 re 0)) : Ru x [(Int.tmod x.wh 6, 0), (b2i (decide (x.to ≥ 0)), 1), (b2i (decide (x.to < 16)), 1), (b2i (eqD (xA 15 0 0 0 false sh x.to 0 0 re 0) (xA 15 0 0 0 false sh 0 0 0 re 0)), 0), (b2i (!vP 15 0 0 0 false sh x.to 0 0 re 0), 1), (b2i (encB 15 0 0 0 false sh x.to 0 0 re 0 == ([] : List UInt8)), 1), (b2i (encE 15 0 0 0 false sh x.to 0 0 re 0 == 2), 1)] := lf (orHook_ok (hk_cut_ok hc) hkU_ok) (ocs [(7, 58, .int .u8 0), (7, 81, .bool true), (7, 85, .bool true), (7, 220, .bool false), (7, 233, .bool true), (7, 237, .bool true), (7, 241, .bool true)] []) (by kernel_rfl) (by kernel_rfl) (by kernel_rfl)
theorem u15_2 (sh : Bool) (re : Int) (hc : Cu x (xA 15 0 0 0 false sh 0 0 0 re 0)) : Ru x [(Int.tmod x.wh 6, 0), (b2i (decide (x.to ≥ 0)), 1), (b2i (decide (x.to < 16)), 0), (b2i (eqD (xA 15 0 0 0 false sh x.to 0 0 re 0) (xA 15 0 0 0 false sh 0 0 0 re 0)), 1), (b2i (vP 15 0 0 0 false sh x.to 0 0 re 0), 1), (b2i (encE 15 0 0 0 false sh x.to 0 0 re 0 == 0), 1)] := lf (orHook_ok (hk_cut_ok hc) hkU_ok) (ocs [(7, 58, .int .u8 0), (7, 81, .bool true), (7, 85, .bool false), (7, 220, .bool true), (7, 223, .bool true), (7, 227, .bool true)] []) (by kernel_rfl) (by kernel_rfl) (by kernel_rfl)
theorem u15_3 (sh : Bool) (re : Int) (hc : Cu x (xA 15 0 0 0 false sh 0 0 0 re 0)) : Ru x [(Int.tmod x.wh 6, 0), (b2i (decide (x.to ≥ 0)), 1), (b2i (decide (x.to < 16)), 0), (b2i (eqD (xA 15 0 0 0 false sh x.to 0 0 re 0) (xA 15 0 0 0 false sh 0 0 0 re 0)), 0), (b2i (!vP 15 0 0 0 false sh x.to 0 0 re 0), 1), (b2i (encB 15 0 0 0 false sh x.to 0 0 re 0 == ([] : List UInt8)), 1), (b2i (encE 15 0 0 0 false sh x.to 0 0 re 0 == 2), 1)] := lf (orHook_ok (hk_cut_ok hc) hkU_ok) (ocs [(7, 58, .int .u8 0), (7, 81, .bool true), (7, 85, .bool false), (7, 220, .bool false), (7, 233, .bool true), (7, 237, .bool true), (7, 241, .bool true)] []) (by kernel_rfl) (by kernel_rfl) (by kernel_rfl)
theorem u15_4 (sh : Bool) (re : Int) (hc : Cu x (xA 15 0 0 0 false sh 0 0 0 re 0)) : Ru x [(Int.tmod x.wh 6, 0), (b2i (decide (x.to ≥ 0)), 0), (b2i (eqD (xA 15 0 0 0 false sh x.to 0 0 re 0) (xA 15 0 0 0 false sh 0 0 0 re 0)), 1), (b2i (vP 15 0 0 0 false sh x.to 0 0 re 0), 1), (b2i (encE 15 0 0 0 false sh x.to 0 0 re 0 == 0), 1)] := lf (orHook_ok (hk_cut_ok hc) hkU_ok) (ocs [(7, 58, .int .u8 0), (7, 81, .bool false), (7, 220, .bool true), (7, 223, .bool true), (7, 227, .bool true)] []) (by kernel_rfl) (by kernel_rfl) (by kernel_rfl)
theorem u15_5 (sh : Bool) (re : Int) (hc : Cu x (xA 15 0 0 0 false sh 0 0 0 re 0)) : Ru x [(Int.tmod x.wh 6, 0), (b2i (decide (x.to ≥ 0)), 0), (b2i (eqD (xA 15 0 0 0 false sh x.to 0 0 re 0) (xA 15 0 0 0 false sh 0 0 0 re 0)), 0), (b2i (!vP 15 0 0 0 false sh x.to 0 0 re 0), 1), (b2i (encB 15 0 0 0 false sh x.to 0 0 re 0 == ([] : List UInt8)), 1), (b2i (encE 15 0 0 0 false sh x.to 0 0 re 0 == 2), 1)] := lf (orHook_ok (hk_cut_ok hc) hkU_ok) (ocs [(7, 58, .int .u8 0), (7, 81, .bool false), (7, 220, .bool false), (7, 233, .bool true), (7, 237, .bool true), (7, 241, .bool true)] []) (by kernel_rfl) (by kernel_rfl) (by kernel_rfl)
theorem u15_6 (sh : Bool) (re : Int) (hc : Cu x (xA 15 0 0 0 false sh 0 0 0 re 0)) : Ru x [(Int.tmod x.wh 6, 1), (b2i (decide (x.to ≥ 0)), 1), (b2i (decide (x.to < 16)), 1), (b2i (eqD (xA 15 0 0 0 false sh 0 x.to 0 re 0) (xA 15 0 0 0 false sh 0 0 0 re 0)), 1), (b2i (vP 15 0 0 0 false sh 0 x.to 0 re 0), 1), (b2i (encE 15 0 0 0 false sh 0 x.to 0 re 0 == 0), 1)] := lf (orHook_ok (hk_cut_ok hc) hkU_ok) (ocs [(7, 58, .int .u8 1), (7, 110, .bool true), (7, 114, .bool true), (7, 220, .bool true), (7, 223, .bool true), (7, 227, .bool true)] []) (by kernel_rfl) (by kernel_rfl) (by kernel_rfl)
theorem u15_7 (sh : Bool) (re : Int) (hc : Cu x (xA 15 0 0 0 false sh 0 0 0 re 0)) : Ru x [(Int.tmod x.wh 6, 1), (b2i (decide (x.to ≥ 0)), 1), (b2i (decide (x.to < 16)), 1), (b2i (eqD (xA 15 0 0 0 false sh 0 x.to 0 re 0) (xA 15 0 0 0 false sh 0 0 0 re 0)), 0), (b2i (!vP 15 0 0 0 false sh 0 x.to 0 re 0), 1), (b2i (encB 15 0 0 0 false sh 0 x.to 0 re 0 == ([] : List UInt8)), 1), (b2i (encE 15 0 0 0 false sh 0 x.to 0 re 0 == 2), 1)] := lf (orHook_ok (hk_cut_ok hc) hkU_ok) (ocs [(7, 58, .int .u8 1), (7, 110, .bool true), (7, 114, .bool true), (7, 220, .bool false), (7, 233, .bool true), (7, 237, .bool true), (7, 241, .bool true)] []) (by kernel_rfl) (by kernel_rfl) (by kernel_rfl)
theorem u15_8 (sh : Bool) (re : Int) (hc : Cu x (xA 15 0 0 0 false sh 0 0 0 re 0)) : Ru x [(Int.tmod x.wh 6, 1), (b2i (decide (x.to ≥ 0)), 1), (b2i (decide (x.to < 16)), 0), (b2i (eqD (xA 15 0 0 0 false sh 0 x.to 0 re 0) (xA 15 0 0 0 false sh 0 0 0 re 0)), 1), (b2i (vP 15 0 0 0 false sh 0 x.to 0 re 0), 1), (b2i (encE 15 0 0 0 false sh 0 x.to 0 re 0 == 0), 1)] := lf (orHook_ok (hk_cut_ok hc) hkU_ok) (ocs [(7, 58, .int .u8 1), (7, 110, .bool true), (7, 114, .bool false), (7, 220, .bool true), (7, 223, .bool true), (7, 227, .bool true)] []) (by kernel_rfl) (by kernel_rfl) (by kernel_rfl)
theorem u15_9 (sh : Bool) (re : Int) (hc : Cu x (xA 15 0 0 0 false sh 0 0 0 re 0)) : Ru x [(Int.tmod x.wh 6, 1), (b2i (decide (x.to ≥ 0)), 1), (b2i (decide (x.to < 16)), 0), (b2i (eqD (xA 15 0 0 0 false sh 0 x.to 0 re 0) (xA 15 0 0 0 false sh 0 0 0 re 0)), 0), (b2i (!vP 15 0 0 0 false sh 0 x.to 0 re 0), 1), (b2i (encB 15 0 0 0 false sh 0 x.to 0 re 0 == ([] : List UInt8)), 1), (b2i (encE 15 0 0 0 false sh 0 x.to 0 re 0 == 2), 1)] := lf (orHook_ok (hk_cut_ok hc) hkU_ok) (ocs [(7, 58, .int .u8 1), (7, 110, .bool true), (7, 114, .bool false), (7, 220, .bool false), (7, 233, .bool true), (7, 237, .bool true), (7, 241, .bool true)] []) (by kernel_rfl) (by kernel_rfl) (by kernel_rfl)
theorem u15_10 (sh : Bool) (re : Int) (hc : Cu x (xA 15 0 0 0 false sh 0 0 0 re 0)) : Ru x [(Int.tmod x.wh 6, 1), (b2i (decide (x.to ≥ 0)), 0), (b2i (eqD (xA 15 0 0 0 false sh 0 x.to 0 re 0) (xA 15 0 0 0 false sh 0 0 0 re 0)), 1), (b2i (vP 15 0 0 0 false sh 0 x.to 0 re 0), 1), (b2i (encE 15 0 0 0 false sh 0 x.to 0 re 0 == 0), 1)] := lf (orHook_ok (hk_cut_ok hc) hkU_ok) (ocs [(7, 58, .int .u8 1), (7, 110, .bool false), (7, 220, .bool true), (7, 223, .bool true), (7, 227, .bool true)] []) (by kernel_rfl) (by kernel_rfl) (by kernel_rfl)
theorem u15_11 (sh : Bool) (re : Int) (hc : Cu x (xA 15 0 0 0 false sh 0 0 0 re 0)) : Ru x [(Int.tmod x.wh 6, 1), (b2i (decide (x.to ≥ 0)), 0), (b2i (eqD (xA 15 0 0 0 false sh 0 x.to 0 re 0) (xA 15 0 0 0 false sh 0 0 0 re 0)), 0), (b2i (!vP 15 0 0 0 false sh 0 x.to 0 re 0), 1), (b2i (encB 15 0 0 0 false sh 0 x.to 0 re 0 == ([] : List UInt8)), 1), (b2i (encE 15 0 0 0 false sh 0 x.to 0 re 0 == 2), 1)] := lf (orHook_ok (hk_cut_ok hc) hkU_ok) (ocs [(7, 58, .int .u8 1), (7, 110, .bool false), (7, 220, .bool false), (7, 233, .bool true), (7, 237, .bool true), (7, 241, .bool true)] []) (by kernel_rfl) (by kernel_rfl) (by kernel_rfl)
theorem u15_12 (sh : Bool) (re : Int) (hc : Cu x (xA 15 0 0 0 false sh 0 0 0 re 0)) : Ru x [(Int.tmod x.wh 6, 2), (b2i (eqD (xA 15 0 0 x.to false sh 0 0 0 re 0) (xA 15 0 0 0 false sh 0 0 0 re 0)), 1), (b2i (vP 15 0 0 x.to false sh 0 0 0 re 0), 1), (b2i (encE 15 0 0 x.to false sh 0 0 0 re 0 == 0), 1)] := lf (orHook_ok (hk_cut_ok hc) hkU_ok) (ocs [(7, 58, .int .u8 2), (7, 220, .bool true), (7, 223, .bool true), (7, 227, .bool true)] []) (by kernel_rfl) (by kernel_rfl) (by kernel_rfl)
theorem u15_13 (sh : Bool) (re : Int) (hc : Cu x (xA 15 0 0 0 false sh 0 0 0 re 0)) : Ru x [(Int.tmod x.wh 6, 2), (b2i (eqD (xA 15 0 0 x.to false sh 0 0 0 re 0) (xA 15 0 0 0 false sh 0 0 0 re 0)), 0), (b2i (!vP 15 0 0 x.to false sh 0 0 0 re 0), 1), (b2i (encB 15 0 0 x.to false sh 0 0 0 re 0 == ([] : List UInt8)), 1), (b2i (encE 15 0 0 x.to false sh 0 0 0 re 0 == 2), 1)] := lf (orHook_ok (hk_cut_ok hc) hkU_ok) (ocs [(7, 58, .int .u8 2), (7, 220, .bool false), (7, 233, .bool true), (7, 237, .bool true), (7, 241, .bool true)] []) (by kernel_rfl) (by kernel_rfl) (by kernel_rfl)
theorem u15_14 (sh : Bool) (re : Int) (hc : Cu x (xA 15 0 0 0 false sh 0 0 0 re 0)) : Ru x [(Int.tmod x.wh 6, 3), (b2i (eqD (xA 15 0 x.to 0 false sh 0 0 0 re 0) (xA 15 0 0 0 false sh 0 0 0 re 0)), 1), (b2i (vP 15 0 x.to 0 false sh 0 0 0 re 0), 1), (b2i (encE 15 0 x.to 0 false sh 0 0 0 re 0 == 0), 1)] := lf (orHook_ok (hk_cut_ok hc) hkU_ok) (ocs [(7, 58, .int .u8 3), (7, 220, .bool true), (7, 223, .bool true), (7, 227, .bool true)] []) (by kernel_rfl) (by kernel_rfl) (by kernel_rfl)
theorem u15_15 (sh : Bool) (re : Int) (hc : Cu x (xA 15 0 0 0 false sh 0 0 0 re 0)) : Ru x [(Int.tmod x.wh 6, 3), (b2i (eqD (xA 15 0 x.to 0 false sh 0 0 0 re 0) (xA 15 0 0 0 false sh 0 0 0 re 0)), 0), (b2i (!vP 15 0 x.to 0 false sh 0 0 0 re 0), 1), (b2i (encB 15 0 x.to 0 false sh 0 0 0 re 0 == ([] : List UInt8)), 1), (b2i (encE 15 0 x.to 0 false sh 0 0 0 re 0 == 2), 1)] := lf (orHook_ok (hk_cut_ok hc) hkU_ok) (ocs [(7, 58, .int .u8 3), (7, 220, .bool false), (7, 233, .bool true), (7, 237, .bool true), (7, 241, .bool true)] []) (by kernel_rfl) (by kernel_rfl) (by kernel_rfl)
theorem u15_16 (sh : Bool) (re : Int) (hc : Cu x (xA 15 0 0 0 false sh 0 0 0 re 0)) : Ru x [(Int.tmod x.wh 6, 4), (b2i (!sh), 1), (b2i (vP 15 0 0 0 false sh 0 0 0 (IntKind.i32.wrap x.to) 0 == (true)), 1)] := lf (orHook_ok (hk_cut_ok hc) hkU_ok) (ocs [(7, 58, .int .u8 4), (7, 199, .bool true), (7, 210, .bool true)] []) (by kernel_rfl) (by kernel_rfl) (by kernel_rfl)
theorem u15_17 (sh : Bool) (re : Int) (hc : Cu x (xA 15 0 0 0 false sh 0 0 0 re 0)) : Ru x [(Int.tmod x.wh 6, 4), (b2i (!sh), 0), (b2i (decide (IntKind.i32.wrap x.to ≥ -128)), 1), (b2i (vP 15 0 0 0 false sh 0 0 0 (IntKind.i32.wrap x.to) 0 == (decide (IntKind.i32.wrap x.to ≤ 127))), 1)] := lf (orHook_ok (hk_cut_ok hc) hkU_ok) (ocs [(7, 58, .int .u8 4), (7, 199, .bool false), (7, 203, .bool true), (7, 210, .bool true)] []) (by kernel_rfl) (by kernel_rfl) (by kernel_rfl)
theorem u15_18 (sh : Bool) (re : Int) (hc : Cu x (xA 15 0 0 0 false sh 0 0 0 re 0)) : Ru x [(Int.tmod x.wh 6, 4), (b2i (!sh), 0), (b2i (decide (IntKind.i32.wrap x.to ≥ -128)), 0), (b2i (vP 15 0 0 0 false sh 0 0 0 (IntKind.i32.wrap x.to) 0 == (false)), 1)] := lf (orHook_ok (hk_cut_ok hc) hkU_ok) (ocs [(7, 58, .int .u8 4), (7, 199, .bool false), (7, 203, .bool false), (7, 210, .bool true)] []) (by kernel_rfl) (by kernel_rfl) (by kernel_rfl)
theorem u15_19 (sh : Bool) (re : Int) (hc : Cu x (xA 15 0 0 0 false sh 0 0 0 re 0)) : Ru x [(Int.tmod x.wh 6, 5), (b2i (eqD (xA 15 0 0 0 false sh 0 0 (IntKind.i32.wrap x.to) re 0) (xA 15 0 0 0 false sh 0 0 0 re 0)), 1), (b2i (vP 15 0 0 0 false sh 0 0 (IntKind.i32.wrap x.to) re 0), 1), (b2i (encE 15 0 0 0 false sh 0 0 (IntKind.i32.wrap x.to) re 0 == 0), 1)] := lf (orHook_ok (hk_cut_ok hc) hkU_ok) (ocs [(7, 58, .int .u8 5), (7, 220, .bool true), (7, 223, .bool true), (7, 227, .bool true)] []) (by kernel_rfl) (by kernel_rfl) (by kernel_rfl)
theorem u15_20 (sh : Bool) (re : Int) (hc : Cu x (xA 15 0 0 0 false sh 0 0 0 re 0)) : Ru x [(Int.tmod x.wh 6, 5), (b2i (eqD (xA 15 0 0 0 false sh 0 0 (IntKind.i32.wrap x.to) re 0) (xA 15 0 0 0 false sh 0 0 0 re 0)), 0), (b2i (!vP 15 0 0 0 false sh 0 0 (IntKind.i32.wrap x.to) re 0), 1), (b2i (encB 15 0 0 0 false sh 0 0 (IntKind.i32.wrap x.to) re 0 == ([] : List UInt8)), 1), (b2i (encE 15 0 0 0 false sh 0 0 (IntKind.i32.wrap x.to) re 0 == 2), 1)] := lf (orHook_ok (hk_cut_ok hc) hkU_ok) (ocs [(7, 58, .int .u8 5), (7, 220, .bool false), (7, 233, .bool true), (7, 237, .bool true), (7, 241, .bool true)] []) (by kernel_rfl) (by kernel_rfl) (by kernel_rfl)
theorem law15_0 (sh : Bool) (re : Int) (hc : Cu x (xA 15 0 0 0 false sh 0 0 0 re 0)) (hv : vP15 0 0 0 false sh 0 0 0 re 0 = true) (hj : Int.tmod x.wh 6 = 0) (w : World) (hL : Laid h12 w) : Lw x w := by
  rcases Bool.eq_false_or_eq_true (decide (x.to ≥ 0)) with k1 | k1
  · rcases Bool.eq_false_or_eq_true (decide (x.to < 16)) with k2 | k2
    · rcases Bool.eq_false_or_eq_true (eqD (xA 15 0 0 0 false sh x.to 0 0 re 0) (xA 15 0 0 0 false sh 0 0 0 re 0)) with k3 | k3
      · have e : vP 15 0 0 0 false sh x.to 0 0 re 0 = true := by
          show vP15 0 0 0 false sh x.to 0 0 re 0 = true
          simp_all [vP15]
        exact u15_0 x sh re hc (csA (csI' hj (csT' k1 (csT' k2 (csT' k3 (csT' e (csT' (eT e) csN'))))))) w hL
      · have e : vP 15 0 0 0 false sh x.to 0 0 re 0 = false := by
          show vP15 0 0 0 false sh x.to 0 0 re 0 = false
          simp_all [vP15]
        exact u15_1 x sh re hc (csA (csI' hj (csT' k1 (csT' k2 (csF' k3 (csT' (eF e).1 (csT' (eF e).2.1 (csT' (eF e).2.2 csN')))))))) w hL
    · rcases Bool.eq_false_or_eq_true (eqD (xA 15 0 0 0 false sh x.to 0 0 re 0) (xA 15 0 0 0 false sh 0 0 0 re 0)) with k4 | k4
      · have e : vP 15 0 0 0 false sh x.to 0 0 re 0 = true := by
          show vP15 0 0 0 false sh x.to 0 0 re 0 = true
          simp_all [vP15]
        exact u15_2 x sh re hc (csA (csI' hj (csT' k1 (csF' k2 (csT' k4 (csT' e (csT' (eT e) csN'))))))) w hL
      · have e : vP 15 0 0 0 false sh x.to 0 0 re 0 = false := by
          show vP15 0 0 0 false sh x.to 0 0 re 0 = false
          simp_all [vP15]
        exact u15_3 x sh re hc (csA (csI' hj (csT' k1 (csF' k2 (csF' k4 (csT' (eF e).1 (csT' (eF e).2.1 (csT' (eF e).2.2 csN')))))))) w hL
  · rcases Bool.eq_false_or_eq_true (eqD (xA 15 0 0 0 false sh x.to 0 0 re 0) (xA 15 0 0 0 false sh 0 0 0 re 0)) with k5 | k5
    · have e : vP 15 0 0 0 false sh x.to 0 0 re 0 = true := by
        show vP15 0 0 0 false sh x.to 0 0 re 0 = true
        simp_all [vP15]
      exact u15_4 x sh re hc (csA (csI' hj (csF' k1 (csT' k5 (csT' e (csT' (eT e) csN')))))) w hL
    · have e : vP 15 0 0 0 false sh x.to 0 0 re 0 = false := by
        show vP15 0 0 0 false sh x.to 0 0 re 0 = false
        simp_all [vP15]
      exact u15_5 x sh re hc (csA (csI' hj (csF' k1 (csF' k5 (csT' (eF e).1 (csT' (eF e).2.1 (csT' (eF e).2.2 csN'))))))) w hL
theorem law15_1 (sh : Bool) (re : Int) (hc : Cu x (xA 15 0 0 0 false sh 0 0 0 re 0)) (hv : vP15 0 0 0 false sh 0 0 0 re 0 = true) (hj : Int.tmod x.wh 6 = 1) (w : World) (hL : Laid h12 w) : Lw x w := by
  rcases Bool.eq_false_or_eq_true (decide (x.to ≥ 0)) with k1 | k1
  · rcases Bool.eq_false_or_eq_true (decide (x.to < 16)) with k2 | k2
    · rcases Bool.eq_false_or_eq_true (eqD (xA 15 0 0 0 false sh 0 x.to 0 re 0) (xA 15 0 0 0 false sh 0 0 0 re 0)) with k3 | k3
      · have e : vP 15 0 0 0 false sh 0 x.to 0 re 0 = true := by
          show vP15 0 0 0 false sh 0 x.to 0 re 0 = true
          simp_all [vP15]
        exact u15_6 x sh re hc (csA (csI' hj (csT' k1 (csT' k2 (csT' k3 (csT' e (csT' (eT e) csN'))))))) w hL
      · have e : vP 15 0 0 0 false sh 0 x.to 0 re 0 = false := by
          show vP15 0 0 0 false sh 0 x.to 0 re 0 = false
          simp_all [vP15]
        exact u15_7 x sh re hc (csA (csI' hj (csT' k1 (csT' k2 (csF' k3 (csT' (eF e).1 (csT' (eF e).2.1 (csT' (eF e).2.2 csN')))))))) w hL
    · rcases Bool.eq_false_or_eq_true (eqD (xA 15 0 0 0 false sh 0 x.to 0 re 0) (xA 15 0 0 0 false sh 0 0 0 re 0)) with k4 | k4
      · have e : vP 15 0 0 0 false sh 0 x.to 0 re 0 = true := by
          show vP15 0 0 0 false sh 0 x.to 0 re 0 = true
          simp_all [vP15]
        exact u15_8 x sh re hc (csA (csI' hj (csT' k1 (csF' k2 (csT' k4 (csT' e (csT' (eT e) csN'))))))) w hL
      · have e : vP 15 0 0 0 false sh 0 x.to 0 re 0 = false := by
          show vP15 0 0 0 false sh 0 x.to 0 re 0 = false
          simp_all [vP15]
        exact u15_9 x sh re hc (csA (csI' hj (csT' k1 (csF' k2 (csF' k4 (csT' (eF e).1 (csT' (eF e).2.1 (csT' (eF e).2.2 csN')))))))) w hL
  · rcases Bool.eq_false_or_eq_true (eqD (xA 15 0 0 0 false sh 0 x.to 0 re 0) (xA 15 0 0 0 false sh 0 0 0 re 0)) with k5 | k5
    · have e : vP 15 0 0 0 false sh 0 x.to 0 re 0 = true := by
        show vP15 0 0 0 false sh 0 x.to 0 re 0 = true
        simp_all [vP15]
      exact u15_10 x sh re hc (csA (csI' hj (csF' k1 (csT' k5 (csT' e (csT' (eT e) csN')))))) w hL
    · have e : vP 15 0 0 0 false sh 0 x.to 0 re 0 = false := by
        show vP15 0 0 0 false sh 0 x.to 0 re 0 = false
        simp_all [vP15]
      exact u15_11 x sh re hc (csA (csI' hj (csF' k1 (csF' k5 (csT' (eF e).1 (csT' (eF e).2.1 (csT' (eF e).2.2 csN'))))))) w hL
theorem law15_2 (sh : Bool) (re : Int) (hc : Cu x (xA 15 0 0 0 false sh 0 0 0 re 0)) (hv : vP15 0 0 0 false sh 0 0 0 re 0 = true) (hj : Int.tmod x.wh 6 = 2) (w : World) (hL : Laid h12 w) : Lw x w := by
  rcases Bool.eq_false_or_eq_true (eqD (xA 15 0 0 x.to false sh 0 0 0 re 0) (xA 15 0 0 0 false sh 0 0 0 re 0)) with k1 | k1
  · have e : vP 15 0 0 x.to false sh 0 0 0 re 0 = true := by
      show vP15 0 0 x.to false sh 0 0 0 re 0 = true
      simp_all [vP15]
    exact u15_12 x sh re hc (csA (csI' hj (csT' k1 (csT' e (csT' (eT e) csN'))))) w hL
  · have e : vP 15 0 0 x.to false sh 0 0 0 re 0 = false := by
      show vP15 0 0 x.to false sh 0 0 0 re 0 = false
      simp_all [vP15]
    exact u15_13 x sh re hc (csA (csI' hj (csF' k1 (csT' (eF e).1 (csT' (eF e).2.1 (csT' (eF e).2.2 csN')))))) w hL
theorem law15_3 (sh : Bool) (re : Int) (hc : Cu x (xA 15 0 0 0 false sh 0 0 0 re 0)) (hv : vP15 0 0 0 false sh 0 0 0 re 0 = true) (hj : Int.tmod x.wh 6 = 3) (w : World) (hL : Laid h12 w) : Lw x w := by
  rcases Bool.eq_false_or_eq_true (eqD (xA 15 0 x.to 0 false sh 0 0 0 re 0) (xA 15 0 0 0 false sh 0 0 0 re 0)) with k1 | k1
  · have e : vP 15 0 x.to 0 false sh 0 0 0 re 0 = true := by
      show vP15 0 x.to 0 false sh 0 0 0 re 0 = true
      simp_all [vP15]
    exact u15_14 x sh re hc (csA (csI' hj (csT' k1 (csT' e (csT' (eT e) csN'))))) w hL
  · have e : vP 15 0 x.to 0 false sh 0 0 0 re 0 = false := by
      show vP15 0 x.to 0 false sh 0 0 0 re 0 = false
      simp_all [vP15]
    exact u15_15 x sh re hc (csA (csI' hj (csF' k1 (csT' (eF e).1 (csT' (eF e).2.1 (csT' (eF e).2.2 csN')))))) w hL
theorem law15_4 (sh : Bool) (re : Int) (hc : Cu x (xA 15 0 0 0 false sh 0 0 0 re 0)) (hv : vP15 0 0 0 false sh 0 0 0 re 0 = true) (hj : Int.tmod x.wh 6 = 4) (w : World) (hL : Laid h12 w) : Lw x w := by
  rcases Bool.eq_false_or_eq_true (!sh) with k1 | k1
  · have e : (vP 15 0 0 0 false sh 0 0 0 (IntKind.i32.wrap x.to) 0 == (true)) = true := by
      show (vP15 0 0 0 false sh 0 0 0 (IntKind.i32.wrap x.to) 0 == (true)) = true
      generalize IntKind.i32.wrap x.to = y at *
      simp_all [vP15, rel_eq]
    exact u15_16 x sh re hc (csA (csI' hj (csT' k1 (csT' e csN')))) w hL
  · rcases Bool.eq_false_or_eq_true (decide (IntKind.i32.wrap x.to ≥ -128)) with k2 | k2
    · have e : (vP 15 0 0 0 false sh 0 0 0 (IntKind.i32.wrap x.to) 0 == (decide (IntKind.i32.wrap x.to ≤ 127))) = true := by
        show (vP15 0 0 0 false sh 0 0 0 (IntKind.i32.wrap x.to) 0 == (decide (IntKind.i32.wrap x.to ≤ 127))) = true
        generalize IntKind.i32.wrap x.to = y at *
        simp_all [vP15, rel_eq]
      exact u15_17 x sh re hc (csA (csI' hj (csF' k1 (csT' k2 (csT' e csN'))))) w hL
    · have e : (vP 15 0 0 0 false sh 0 0 0 (IntKind.i32.wrap x.to) 0 == (false)) = true := by
        show (vP15 0 0 0 false sh 0 0 0 (IntKind.i32.wrap x.to) 0 == (false)) = true
        generalize IntKind.i32.wrap x.to = y at *
        simp_all [vP15, rel_eq]
      exact u15_18 x sh re hc (csA (csI' hj (csF' k1 (csF' k2 (csT' e csN'))))) w hL
theorem law15_5 (sh : Bool) (re : Int) (hc : Cu x (xA 15 0 0 0 false sh 0 0 0 re 0)) (hv : vP15 0 0 0 false sh 0 0 0 re 0 = true) (hj : Int.tmod x.wh 6 = 5) (w : World) (hL : Laid h12 w) : Lw x w := by
  rcases Bool.eq_false_or_eq_true (eqD (xA 15 0 0 0 false sh 0 0 (IntKind.i32.wrap x.to) re 0) (xA 15 0 0 0 false sh 0 0 0 re 0)) with k1 | k1
  · have e : vP 15 0 0 0 false sh 0 0 (IntKind.i32.wrap x.to) re 0 = true := by
      show vP15 0 0 0 false sh 0 0 (IntKind.i32.wrap x.to) re 0 = true
      simp_all [vP15]
    exact u15_19 x sh re hc (csA (csI' hj (csT' k1 (csT' e (csT' (eT e) csN'))))) w hL
  · have e : vP 15 0 0 0 false sh 0 0 (IntKind.i32.wrap x.to) re 0 = false := by
      show vP15 0 0 0 false sh 0 0 (IntKind.i32.wrap x.to) re 0 = false
      simp_all [vP15]
    exact u15_20 x sh re hc (csA (csI' hj (csF' k1 (csT' (eF e).1 (csT' (eF e).2.1 (csT' (eF e).2.2 csN')))))) w hL
theorem u16_0 (co : Int) (sh : Bool) (re : Int) (hc : Cu x (xA 16 0 co 0 false sh 0 0 0 re 0)) : Ru x [(Int.tmod x.wh 6, 0), (b2i (decide (x.to ≥ 0)), 1), (b2i (decide (x.to < 16)), 1), (b2i (eqD (xA 16 0 co 0 false sh x.to 0 0 re 0) (xA 16 0 co 0 false sh 0 0 0 re 0)), 1), (b2i (vP 16 0 co 0 false sh x.to 0 0 re 0), 1), (b2i (encE 16 0 co 0 false sh x.to 0 0 re 0 == 0), 1)] := lf (orHook_ok (hk_cut_ok hc) hkU_ok) (ocs [(7, 58, .int .u8 0), (7, 81, .bool true), (7, 85, .bool true), (7, 220, .bool true), (7, 223, .bool true), (7, 227, .bool true)] []) (by kernel_rfl) (by kernel_rfl) (by kernel_rfl)
theorem u16_1 (co : Int) (sh : Bool) (re : Int) (hc : Cu x (xA 16 0 co 0 false sh 0 0 0 re 0)) : Ru x [(Int.tmod x.wh 6, 0), (b2i (decide (x.to ≥ 0)), 1), (b2i (decide (x.to < 16)), 1), (b2i (eqD (xA 16 0 co 0 false sh x.to 0 0 re 0) (xA 16 0 co 0 false sh 0 0 0 re 0)), 0), (b2i (!vP 16 0 co 0 false sh x.to 0 0 re 0), 1), (b2i (encB 16 0 co 0 false sh x.to 0 0 re 0 == ([] : List UInt8)), 1), (b2i (encE 16 0 co 0 false sh x.to 0 0 re 0 == 2), 1)] := lf (orHook_ok (hk_cut_ok hc) hkU_ok) (ocs [(7, 58, .int .u8 0), (7, 81, .bool true), (7, 85, .bool true), (7, 220, .bool false), (7, 233, .bool true), (7, 237, .bool true), (7, 241, .bool true)] []) (by kernel_rfl) (by kernel_rfl) (by kernel_rfl)
theorem u16_2 (co : Int) (sh : Bool) (re : Int) (hc : Cu x (xA 16 0 co 0 false sh 0 0 0 re 0)) : Ru x [(Int.tmod x.wh 6, 0), (b2i (decide (x.to ≥ 0)), 1), (b2i (decide (x.to < 16)), 0), (b2i (eqD (xA 16 0 co 0 false sh x.to 0 0 re 0) (xA 16 0 co 0 false sh 0 0 0 re 0)), 1), (b2i (vP 16 0 co 0 false sh x.to 0 0 re 0), 1), (b2i (encE 16 0 co 0 false sh x.to 0 0 re 0 == 0), 1)] := lf (orHook_ok (hk_cut_ok hc) hkU_ok) (ocs [(7, 58, .int .u8 0), (7, 81, .bool true), (7, 85, .bool false), (7, 220, .bool true), (7, 223, .bool true), (7, 227, .bool true)] []) (by kernel_rfl) (by kernel_rfl) (by kernel_rfl)
theorem u16_3 (co : Int) (sh : Bool) (re : Int) (hc : Cu x (xA 16 0 co 0 false sh 0 0 0 re 0)) : Ru x [(Int.tmod x.wh 6, 0), (b2i (decide (x.to ≥ 0)), 1), (b2i (decide (x.to < 16)), 0), (b2i (eqD (xA 16 0 co 0 false sh x.to 0 0 re 0) (xA 16 0 co 0 false sh 0 0 0 re 0)), 0), (b2i (!vP 16 0 co 0 false sh x.to 0 0 re 0), 1), (b2i (encB 16 0 co 0 false sh x.to 0 0 re 0 == ([] : List UInt8)), 1), (b2i (encE 16 0 co 0 false sh x.to 0 0 re 0 == 2), 1)] := lf (orHook_ok (hk_cut_ok hc) hkU_ok) (ocs [(7, 58, .int .u8 0), (7, 81, .bool true), (7, 85, .bool false), (7, 220, .bool false), (7, 233, .bool true), (7, 237, .bool true), (7, 241, .bool true)] []) (by kernel_rfl) (by kernel_rfl) (by kernel_rfl)
theorem u16_4 (co : Int) (sh : Bool) (re : Int) (hc : Cu x (xA 16 0 co 0 false sh 0 0 0 re 0)) : Ru x [(Int.tmod x.wh 6, 0), (b2i (decide (x.to ≥ 0)), 0), (b2i (eqD (xA 16 0 co 0 false sh x.to 0 0 re 0) (xA 16 0 co 0 false sh 0 0 0 re 0)), 1), (b2i (vP 16 0 co 0 false sh x.to 0 0 re 0), 1), (b2i (encE 16 0 co 0 false sh x.to 0 0 re 0 == 0), 1)] := lf (orHook_ok (hk_cut_ok hc) hkU_ok) (ocs [(7, 58, .int .u8 0), (7, 81, .bool false), (7, 220, .bool true), (7, 223, .bool true), (7, 227, .bool true)] []) (by kernel_rfl) (by kernel_rfl) (by kernel_rfl)
theorem u16_5 (co : Int) (sh : Bool) (re : Int) (hc : Cu x (xA 16 0 co 0 false sh 0 0 0 re 0)) : Ru x [(Int.tmod x.wh 6, 0), (b2i (decide (x.to ≥ 0)), 0), (b2i (eqD (xA 16 0 co 0 false sh x.to 0 0 re 0) (xA 16 0 co 0 false sh 0 0 0 re 0)), 0), (b2i (!vP 16 0 co 0 false sh x.to 0 0 re 0), 1), (b2i (encB 16 0 co 0 false sh x.to 0 0 re 0 == ([] : List UInt8)), 1), (b2i (encE 16 0 co 0 false sh x.to 0 0 re 0 == 2), 1)] := lf (orHook_ok (hk_cut_ok hc) hkU_ok) (ocs [(7, 58, .int .u8 0), (7, 81, .bool false), (7, 220, .bool false), (7, 233, .bool true), (7, 237, .bool true), (7, 241, .bool true)] []) (by kernel_rfl) (by kernel_rfl) (by kernel_rfl)
theorem u16_6 (co : Int) (sh : Bool) (re : Int) (hc : Cu x (xA 16 0 co 0 false sh 0 0 0 re 0)) : Ru x [(Int.tmod x.wh 6, 1), (b2i (decide (x.to ≥ 0)), 1), (b2i (decide (x.to < 16)), 1), (b2i (eqD (xA 16 0 co 0 false sh 0 x.to 0 re 0) (xA 16 0 co 0 false sh 0 0 0 re 0)), 1), (b2i (vP 16 0 co 0 false sh 0 x.to 0 re 0), 1), (b2i (encE 16 0 co 0 false sh 0 x.to 0 re 0 == 0), 1)] := lf (orHook_ok (hk_cut_ok hc) hkU_ok) (ocs [(7, 58, .int .u8 1), (7, 110, .bool true), (7, 114, .bool true), (7, 220, .bool true), (7, 223, .bool true), (7, 227, .bool true)] []) (by kernel_rfl) (by kernel_rfl) (by kernel_rfl)
theorem u16_7 (co : Int) (sh : Bool) (re : Int) (hc : Cu x (xA 16 0 co 0 false sh 0 0 0 re 0)) : Ru x [(Int.tmod x.wh 6, 1), (b2i (decide (x.to ≥ 0)), 1), (b2i (decide (x.to < 16)), 1), (b2i (eqD (xA 16 0 co 0 false sh 0 x.to 0 re 0) (xA 16 0 co 0 false sh 0 0 0 re 0)), 0), (b2i (!vP 16 0 co 0 false sh 0 x.to 0 re 0), 1), (b2i (encB 16 0 co 0 false sh 0 x.to 0 re 0 == ([] : List UInt8)), 1), (b2i (encE 16 0 co 0 false sh 0 x.to 0 re 0 == 2), 1)] := lf (orHook_ok (hk_cut_ok hc) hkU_ok) (ocs [(7, 58, .int .u8 1), (7, 110, .bool true), (7, 114, .bool true), (7, 220, .bool false), (7, 233, .bool true), (7, 237, .bool true), (7, 241, .bool true)] []) (by kernel_rfl) (by kernel_rfl) (by kernel_rfl)
theorem u16_8 (co : Int) (sh : Bool) (re : Int) (hc : Cu x (xA 16 0 co 0 false sh 0 0 0 re 0)) : Ru x [(Int.tmod x.wh 6, 1), (b2i (decide (x.to ≥ 0)), 1), (b2i (decide (x.to < 16)), 0), (b2i (eqD (xA 16 0 co 0 false sh 0 x.to 0 re 0) (xA 16 0 co 0 false sh 0 0 0 re 0)), 1), (b2i (vP 16 0 co 0 false sh 0 x.to 0 re 0), 1), (b2i (encE 16 0 co 0 false sh 0 x.to 0 re 0 == 0), 1)] := lf (orHook_ok (hk_cut_ok hc) hkU_ok) (ocs [(7, 58, .int .u8 1), (7, 110, .bool true), (7, 114, .bool false), (7, 220, .bool true), (7, 223, .bool true), (7, 227, .bool true)] []) (by kernel_rfl) (by kernel_rfl) (by kernel_rfl)
theorem u16_9 (co : Int) (sh : Bool) (re : Int) (hc : Cu x (xA 16 0 co 0 false sh 0 0 0 re 0)) : Ru x [(Int.tmod x.wh 6, 1), (b2i (decide (x.to ≥ 0)), 1), (b2i (decide (x.to < 16)), 0), (b2i (eqD (xA 16 0 co 0 false sh 0 x.to 0 re 0) (xA 16 0 co 0 false sh 0 0 0 re 0)), 0), (b2i (!vP 16 0 co 0 false sh 0 x.to 0 re 0), 1), (b2i (encB 16 0 co 0 false sh 0 x.to 0 re 0 == ([] : List UInt8)), 1), (b2i (encE 16 0 co 0 false sh 0 x.to 0 re 0 == 2), 1)] := lf (orHook_ok (hk_cut_ok hc) hkU_ok) (ocs [(7, 58, .int .u8 1), (7, 110, .bool true), (7, 114, .bool false), (7, 220, .bool false), (7, 233, .bool true), (7, 237, .bool true), (7, 241, .bool true)] []) (by kernel_rfl) (by kernel_rfl) (by kernel_rfl)
theorem u16_10 (co : Int) (sh : Bool) (re : Int) (hc : Cu x (xA 16 0 co 0 false sh 0 0 0 re 0)) : Ru x [(Int.tmod x.wh 6, 1), (b2i (decide (x.to ≥ 0)), 0), (b2i (eqD (xA 16 0 co 0 false sh 0 x.to 0 re 0) (xA 16 0 co 0 false sh 0 0 0 re 0)), 1), (b2i (vP 16 0 co 0 false sh 0 x.to 0 re 0), 1), (b2i (encE 16 0 co 0 false sh 0 x.to 0 re 0 == 0), 1)] := lf (orHook_ok (hk_cut_ok hc) hkU_ok) (ocs [(7, 58, .int .u8 1), (7, 110, .bool false), (7, 220, .bool true), (7, 223, .bool true), (7, 227, .bool true)] []) (by kernel_rfl) (by kernel_rfl) (by kernel_rfl)
theorem u16_11 (co : Int) (sh : Bool) (re : Int) (hc : Cu x (xA 16 0 co 0 false sh 0 0 0 re 0)) : Ru x [(Int.tmod x.wh 6, 1), (b2i (decide (x.to ≥ 0)), 0), (b2i (eqD (xA 16 0 co 0 false sh 0 x.to 0 re 0) (xA 16 0 co 0 false sh 0 0 0 re 0)), 0), (b2i (!vP 16 0 co 0 false sh 0 x.to 0 re 0), 1), (b2i (encB 16 0 co 0 false sh 0 x.to 0 re 0 == ([] : List UInt8)), 1), (b2i (encE 16 0 co 0 false sh 0 x.to 0 re 0 == 2), 1)] := lf (orHook_ok (hk_cut_ok hc) hkU_ok) (ocs [(7, 58, .int .u8 1), (7, 110, .bool false), (7, 220, .bool false), (7, 233, .bool true), (7, 237, .bool true), (7, 241, .bool true)] []) (by kernel_rfl) (by kernel_rfl) (by kernel_rfl)
theorem u16_12 (co : Int) (sh : Bool) (re : Int) (hc : Cu x (xA 16 0 co 0 false sh 0 0 0 re 0)) : Ru x [(Int.tmod x.wh 6, 2), (b2i (eqD (xA 16 0 co x.to false sh 0 0 0 re 0) (xA 16 0 co 0 false sh 0 0 0 re 0)), 1), (b2i (vP 16 0 co x.to false sh 0 0 0 re 0), 1), (b2i (encE 16 0 co x.to false sh 0 0 0 re 0 == 0), 1)] := lf (orHook_ok (hk_cut_ok hc) hkU_ok) (ocs [(7, 58, .int .u8 2), (7, 220, .bool true), (7, 223, .bool true), (7, 227, .bool true)] []) (by kernel_rfl) (by kernel_rfl) (by kernel_rfl)
theorem u16_13 (co : Int) (sh : Bool) (re : Int) (hc : Cu x (xA 16 0 co 0 false sh 0 0 0 re 0)) : Ru x [(Int.tmod x.wh 6, 2), (b2i (eqD (xA 16 0 co x.to false sh 0 0 0 re 0) (xA 16 0 co 0 false sh 0 0 0 re 0)), 0), (b2i (!vP 16 0 co x.to false sh 0 0 0 re 0), 1), (b2i (encB 16 0 co x.to false sh 0 0 0 re 0 == ([] : List UInt8)), 1), (b2i (encE 16 0 co x.to false sh 0 0 0 re 0 == 2), 1)] := lf (orHook_ok (hk_cut_ok hc) hkU_ok) (ocs [(7, 58, .int .u8 2), (7, 220, .bool false), (7, 233, .bool true), (7, 237, .bool true), (7, 241, .bool true)] []) (by kernel_rfl) (by kernel_rfl) (by kernel_rfl)
theorem u16_14 (co : Int) (sh : Bool) (re : Int) (hc : Cu x (xA 16 0 co 0 false sh 0 0 0 re 0)) : Ru x [(Int.tmod x.wh 6, 3), (b2i (decide (x.to ≥ 2)), 1), (b2i (decide (x.to ≤ 7)), 1), (b2i (vP 16 0 x.to 0 false sh 0 0 0 re 0 == (true)), 1)] := lf (orHook_ok (hk_cut_ok hc) hkU_ok) (ocs [(7, 58, .int .u8 3), (7, 172, .bool true), (7, 176, .bool true), (7, 185, .bool true)] []) (by kernel_rfl) (by kernel_rfl) (by kernel_rfl)
theorem u16_15 (co : Int) (sh : Bool) (re : Int) (hc : Cu x (xA 16 0 co 0 false sh 0 0 0 re 0)) : Ru x [(Int.tmod x.wh 6, 3), (b2i (decide (x.to ≥ 2)), 1), (b2i (decide (x.to ≤ 7)), 0), (b2i (decide (x.to ≥ 12)), 1), (b2i (vP 16 0 x.to 0 false sh 0 0 0 re 0 == (decide (x.to ≤ 15))), 1)] := lf (orHook_ok (hk_cut_ok hc) hkU_ok) (ocs [(7, 58, .int .u8 3), (7, 172, .bool true), (7, 176, .bool false), (7, 179, .bool true), (7, 185, .bool true)] []) (by kernel_rfl) (by kernel_rfl) (by kernel_rfl)
theorem u16_16 (co : Int) (sh : Bool) (re : Int) (hc : Cu x (xA 16 0 co 0 false sh 0 0 0 re 0)) : Ru x [(Int.tmod x.wh 6, 3), (b2i (decide (x.to ≥ 2)), 1), (b2i (decide (x.to ≤ 7)), 0), (b2i (decide (x.to ≥ 12)), 0), (b2i (vP 16 0 x.to 0 false sh 0 0 0 re 0 == (false)), 1)] := lf (orHook_ok (hk_cut_ok hc) hkU_ok) (ocs [(7, 58, .int .u8 3), (7, 172, .bool true), (7, 176, .bool false), (7, 179, .bool false), (7, 185, .bool true)] []) (by kernel_rfl) (by kernel_rfl) (by kernel_rfl)
theorem u16_17 (co : Int) (sh : Bool) (re : Int) (hc : Cu x (xA 16 0 co 0 false sh 0 0 0 re 0)) : Ru x [(Int.tmod x.wh 6, 3), (b2i (decide (x.to ≥ 2)), 0), (b2i (decide (x.to ≥ 12)), 1), (b2i (vP 16 0 x.to 0 false sh 0 0 0 re 0 == (decide (x.to ≤ 15))), 1)] := lf (orHook_ok (hk_cut_ok hc) hkU_ok) (ocs [(7, 58, .int .u8 3), (7, 172, .bool false), (7, 179, .bool true), (7, 185, .bool true)] []) (by kernel_rfl) (by kernel_rfl) (by kernel_rfl)
theorem u16_18 (co : Int) (sh : Bool) (re : Int) (hc : Cu x (xA 16 0 co 0 false sh 0 0 0 re 0)) : Ru x [(Int.tmod x.wh 6, 3), (b2i (decide (x.to ≥ 2)), 0), (b2i (decide (x.to ≥ 12)), 0), (b2i (vP 16 0 x.to 0 false sh 0 0 0 re 0 == (false)), 1)] := lf (orHook_ok (hk_cut_ok hc) hkU_ok) (ocs [(7, 58, .int .u8 3), (7, 172, .bool false), (7, 179, .bool false), (7, 185, .bool true)] []) (by kernel_rfl) (by kernel_rfl) (by kernel_rfl)
theorem u16_19 (co : Int) (sh : Bool) (re : Int) (hc : Cu x (xA 16 0 co 0 false sh 0 0 0 re 0)) : Ru x [(Int.tmod x.wh 6, 4), (b2i (!sh), 1), (b2i (vP 16 0 co 0 false sh 0 0 0 (IntKind.i32.wrap x.to) 0 == (true)), 1)] := lf (orHook_ok (hk_cut_ok hc) hkU_ok) (ocs [(7, 58, .int .u8 4), (7, 199, .bool true), (7, 210, .bool true)] []) (by kernel_rfl) (by kernel_rfl) (by kernel_rfl)
theorem u16_20 (co : Int) (sh : Bool) (re : Int) (hc : Cu x (xA 16 0 co 0 false sh 0 0 0 re 0)) : Ru x [(Int.tmod x.wh 6, 4), (b2i (!sh), 0), (b2i (decide (IntKind.i32.wrap x.to ≥ -128)), 1), (b2i (vP 16 0 co 0 false sh 0 0 0 (IntKind.i32.wrap x.to) 0 == (decide (IntKind.i32.wrap x.to ≤ 127))), 1)] := lf (orHook_ok (hk_cut_ok hc) hkU_ok) (ocs [(7, 58, .int .u8 4), (7, 199, .bool false), (7, 203, .bool true), (7, 210, .bool true)] []) (by kernel_rfl) (by kernel_rfl) (by kernel_rfl)
theorem u16_21 (co : Int) (sh : Bool) (re : Int) (hc : Cu x (xA 16 0 co 0 false sh 0 0 0 re 0)) : Ru x [(Int.tmod x.wh 6, 4), (b2i (!sh), 0), (b2i (decide (IntKind.i32.wrap x.to ≥ -128)), 0), (b2i (vP 16 0 co 0 false sh 0 0 0 (IntKind.i32.wrap x.to) 0 == (false)), 1)] := lf (orHook_ok (hk_cut_ok hc) hkU_ok) (ocs [(7, 58, .int .u8 4), (7, 199, .bool false), (7, 203, .bool false), (7, 210, .bool true)] []) (by kernel_rfl) (by kernel_rfl) (by kernel_rfl)
theorem u16_22 (co : Int) (sh : Bool) (re : Int) (hc : Cu x (xA 16 0 co 0 false sh 0 0 0 re 0)) : Ru x [(Int.tmod x.wh 6, 5), (b2i (eqD (xA 16 0 co 0 false sh 0 0 (IntKind.i32.wrap x.to) re 0) (xA 16 0 co 0 false sh 0 0 0 re 0)), 1), (b2i (vP 16 0 co 0 false sh 0 0 (IntKind.i32.wrap x.to) re 0), 1), (b2i (encE 16 0 co 0 false sh 0 0 (IntKind.i32.wrap x.to) re 0 == 0), 1)] := lf (orHook_ok (hk_cut_ok hc) hkU_ok) (ocs [(7, 58, .int .u8 5), (7, 220, .bool true), (7, 223, .bool true), (7, 227, .bool true)] []) (by kernel_rfl) (by kernel_rfl) (by kernel_rfl)
theorem u16_23 (co : Int) (sh : Bool) (re : Int) (hc : Cu x (xA 16 0 co 0 false sh 0 0 0 re 0)) : Ru x [(Int.tmod x.wh 6, 5), (b2i (eqD (xA 16 0 co 0 false sh 0 0 (IntKind.i32.wrap x.to) re 0) (xA 16 0 co 0 false sh 0 0 0 re 0)), 0), (b2i (!vP 16 0 co 0 false sh 0 0 (IntKind.i32.wrap x.to) re 0), 1), (b2i (encB 16 0 co 0 false sh 0 0 (IntKind.i32.wrap x.to) re 0 == ([] : List UInt8)), 1), (b2i (encE 16 0 co 0 false sh 0 0 (IntKind.i32.wrap x.to) re 0 == 2), 1)] := lf (orHook_ok (hk_cut_ok hc) hkU_ok) (ocs [(7, 58, .int .u8 5), (7, 220, .bool false), (7, 233, .bool true), (7, 237, .bool true), (7, 241, .bool true)] []) (by kernel_rfl) (by kernel_rfl) (by kernel_rfl)
theorem law16_0 (co : Int) (sh : Bool) (re : Int) (hc : Cu x (xA 16 0 co 0 false sh 0 0 0 re 0)) (hv : vP16 0 co 0 false sh 0 0 0 re 0 = true) (hj : Int.tmod x.wh 6 = 0) (w : World) (hL : Laid h12 w) : Lw x w := by
  rcases Bool.eq_false_or_eq_true (decide (x.to ≥ 0)) with k1 | k1
  · rcases Bool.eq_false_or_eq_true (decide (x.to < 16)) with k2 | k2
    · rcases Bool.eq_false_or_eq_true (eqD (xA 16 0 co 0 false sh x.to 0 0 re 0) (xA 16 0 co 0 false sh 0 0 0 re 0)) with k3 | k3
      · have e : vP 16 0 co 0 false sh x.to 0 0 re 0 = true := by
          show vP16 0 co 0 false sh x.to 0 0 re 0 = true
          simp_all [vP16]
        exact u16_0 x co sh re hc (csA (csI' hj (csT' k1 (csT' k2 (csT' k3 (csT' e (csT' (eT e) csN'))))))) w hL
      · have e : vP 16 0 co 0 false sh x.to 0 0 re 0 = false := by
          show vP16 0 co 0 false sh x.to 0 0 re 0 = false
          simp_all [vP16]
        exact u16_1 x co sh re hc (csA (csI' hj (csT' k1 (csT' k2 (csF' k3 (csT' (eF e).1 (csT' (eF e).2.1 (csT' (eF e).2.2 csN')))))))) w hL
    · rcases Bool.eq_false_or_eq_true (eqD (xA 16 0 co 0 false sh x.to 0 0 re 0) (xA 16 0 co 0 false sh 0 0 0 re 0)) with k4 | k4
      · have e : vP 16 0 co 0 false sh x.to 0 0 re 0 = true := by
          show vP16 0 co 0 false sh x.to 0 0 re 0 = true
          simp_all [vP16]
        exact u16_2 x co sh re hc (csA (csI' hj (csT' k1 (csF' k2 (csT' k4 (csT' e (csT' (eT e) csN'))))))) w hL
      · have e : vP 16 0 co 0 false sh x.to 0 0 re 0 = false := by
          show vP16 0 co 0 false sh x.to 0 0 re 0 = false
          simp_all [vP16]
        exact u16_3 x co sh re hc (csA (csI' hj (csT' k1 (csF' k2 (csF' k4 (csT' (eF e).1 (csT' (eF e).2.1 (csT' (eF e).2.2 csN')))))))) w hL
  · rcases Bool.eq_false_or_eq_true (eqD (xA 16 0 co 0 false sh x.to 0 0 re 0) (xA 16 0 co 0 false sh 0 0 0 re 0)) with k5 | k5
    · have e : vP 16 0 co 0 false sh x.to 0 0 re 0 = true := by
        show vP16 0 co 0 false sh x.to 0 0 re 0 = true
        simp_all [vP16]
      exact u16_4 x co sh re hc (csA (csI' hj (csF' k1 (csT' k5 (csT' e (csT' (eT e) csN')))))) w hL
    · have e : vP 16 0 co 0 false sh x.to 0 0 re 0 = false := by
        show vP16 0 co 0 false sh x.to 0 0 re 0 = false
        simp_all [vP16]
      exact u16_5 x co sh re hc (csA (csI' hj (csF' k1 (csF' k5 (csT' (eF e).1 (csT' (eF e).2.1 (csT' (eF e).2.2 csN'))))))) w hL
theorem law16_1 (co : Int) (sh : Bool) (re : Int) (hc : Cu x (xA 16 0 co 0 false sh 0 0 0 re 0)) (hv : vP16 0 co 0 false sh 0 0 0 re 0 = true) (hj : Int.tmod x.wh 6 = 1) (w : World) (hL : Laid h12 w) : Lw x w := by
  rcases Bool.eq_false_or_eq_true (decide (x.to ≥ 0)) with k1 | k1
  · rcases Bool.eq_false_or_eq_true (decide (x.to < 16)) with k2 | k2
    · rcases Bool.eq_false_or_eq_true (eqD (xA 16 0 co 0 false sh 0 x.to 0 re 0) (xA 16 0 co 0 false sh 0 0 0 re 0)) with k3 | k3
      · have e : vP 16 0 co 0 false sh 0 x.to 0 re 0 = true := by
          show vP16 0 co 0 false sh 0 x.to 0 re 0 = true
          simp_all [vP16]
        exact u16_6 x co sh re hc (csA (csI' hj (csT' k1 (csT' k2 (csT' k3 (csT' e (csT' (eT e) csN'))))))) w hL
      · have e : vP 16 0 co 0 false sh 0 x.to 0 re 0 = false := by
          show vP16 0 co 0 false sh 0 x.to 0 re 0 = false
          simp_all [vP16]
        exact u16_7 x co sh re hc (csA (csI' hj (csT' k1 (csT' k2 (csF' k3 (csT' (eF e).1 (csT' (eF e).2.1 (csT' (eF e).2.2 csN')))))))) w hL
    · rcases Bool.eq_false_or_eq_true (eqD (xA 16 0 co 0 false sh 0 x.to 0 re 0) (xA 16 0 co 0 false sh 0 0 0 re 0)) with k4 | k4
      · have e : vP 16 0 co 0 false sh 0 x.to 0 re 0 = true := by
          show vP16 0 co 0 false sh 0 x.to 0 re 0 = true
          simp_all [vP16]
        exact u16_8 x co sh re hc (csA (csI' hj (csT' k1 (csF' k2 (csT' k4 (csT' e (csT' (eT e) csN'))))))) w hL
      · have e : vP 16 0 co 0 false sh 0 x.to 0 re 0 = false := by
          show vP16 0 co 0 false sh 0 x.to 0 re 0 = false
          simp_all [vP16]
        exact u16_9 x co sh re hc (csA (csI' hj (csT' k1 (csF' k2 (csF' k4 (csT' (eF e).1 (csT' (eF e).2.1 (csT' (eF e).2.2 csN')))))))) w hL
  · rcases Bool.eq_false_or_eq_true (eqD (xA 16 0 co 0 false sh 0 x.to 0 re 0) (xA 16 0 co 0 false sh 0 0 0 re 0)) with k5 | k5
    · have e : vP 16 0 co 0 false sh 0 x.to 0 re 0 = true := by
        show vP16 0 co 0 false sh 0 x.to 0 re 0 = true
        simp_all [vP16]
      exact u16_10 x co sh re hc (csA (csI' hj (csF' k1 (csT' k5 (csT' e (csT' (eT e) csN')))))) w hL
    · have e : vP 16 0 co 0 false sh 0 x.to 0 re 0 = false := by
        show vP16 0 co 0 false sh 0 x.to 0 re 0 = false
        simp_all [vP16]
      exact u16_11 x co sh re hc (csA (csI' hj (csF' k1 (csF' k5 (csT' (eF e).1 (csT' (eF e).2.1 (csT' (eF e).2.2 csN'))))))) w hL
theorem law16_2 (co : Int) (sh : Bool) (re : Int) (hc : Cu x (xA 16 0 co 0 false sh 0 0 0 re 0)) (hv : vP16 0 co 0 false sh 0 0 0 re 0 = true) (hj : Int.tmod x.wh 6 = 2) (w : World) (hL : Laid h12 w) : Lw x w := by
  rcases Bool.eq_false_or_eq_true (eqD (xA 16 0 co x.to false sh 0 0 0 re 0) (xA 16 0 co 0 false sh 0 0 0 re 0)) with k1 | k1
  · have e : vP 16 0 co x.to false sh 0 0 0 re 0 = true := by
      show vP16 0 co x.to false sh 0 0 0 re 0 = true
      simp_all [vP16]
    exact u16_12 x co sh re hc (csA (csI' hj (csT' k1 (csT' e (csT' (eT e) csN'))))) w hL
  · have e : vP 16 0 co x.to false sh 0 0 0 re 0 = false := by
      show vP16 0 co x.to false sh 0 0 0 re 0 = false
      simp_all [vP16]
    exact u16_13 x co sh re hc (csA (csI' hj (csF' k1 (csT' (eF e).1 (csT' (eF e).2.1 (csT' (eF e).2.2 csN')))))) w hL
theorem law16_3 (co : Int) (sh : Bool) (re : Int) (hc : Cu x (xA 16 0 co 0 false sh 0 0 0 re 0)) (hv : vP16 0 co 0 false sh 0 0 0 re 0 = true) (hj : Int.tmod x.wh 6 = 3) (w : World) (hL : Laid h12 w) : Lw x w := by
  rcases Bool.eq_false_or_eq_true (decide (x.to ≥ 2)) with k1 | k1
  · rcases Bool.eq_false_or_eq_true (decide (x.to ≤ 7)) with k2 | k2
    · have e : (vP 16 0 x.to 0 false sh 0 0 0 re 0 == (true)) = true := by
        show (vP16 0 x.to 0 false sh 0 0 0 re 0 == (true)) = true
        simp_all [vP16] <;> (try (have hs := hv.2; rw [Bool.eq_iff_iff]; simp [hs]; omega))
      exact u16_14 x co sh re hc (csA (csI' hj (csT' k1 (csT' k2 (csT' e csN'))))) w hL
    · rcases Bool.eq_false_or_eq_true (decide (x.to ≥ 12)) with k3 | k3
      · have e : (vP 16 0 x.to 0 false sh 0 0 0 re 0 == (decide (x.to ≤ 15))) = true := by
          show (vP16 0 x.to 0 false sh 0 0 0 re 0 == (decide (x.to ≤ 15))) = true
          simp_all [vP16] <;> (try (have hs := hv.2; rw [Bool.eq_iff_iff]; simp [hs]; omega))
        exact u16_15 x co sh re hc (csA (csI' hj (csT' k1 (csF' k2 (csT' k3 (csT' e csN')))))) w hL
      · have e : (vP 16 0 x.to 0 false sh 0 0 0 re 0 == (false)) = true := by
          show (vP16 0 x.to 0 false sh 0 0 0 re 0 == (false)) = true
          simp_all [vP16] <;> (try (have hs := hv.2; rw [Bool.eq_iff_iff]; simp [hs]; omega))
        exact u16_16 x co sh re hc (csA (csI' hj (csT' k1 (csF' k2 (csF' k3 (csT' e csN')))))) w hL
  · rcases Bool.eq_false_or_eq_true (decide (x.to ≥ 12)) with k4 | k4
    · have e : (vP 16 0 x.to 0 false sh 0 0 0 re 0 == (decide (x.to ≤ 15))) = true := by
        show (vP16 0 x.to 0 false sh 0 0 0 re 0 == (decide (x.to ≤ 15))) = true
        simp_all [vP16] <;> (try (have hs := hv.2; rw [Bool.eq_iff_iff]; simp [hs]; omega))
      exact u16_17 x co sh re hc (csA (csI' hj (csF' k1 (csT' k4 (csT' e csN'))))) w hL
    · have e : (vP 16 0 x.to 0 false sh 0 0 0 re 0 == (false)) = true := by
        show (vP16 0 x.to 0 false sh 0 0 0 re 0 == (false)) = true
        simp_all [vP16] <;> (try (have hs := hv.2; rw [Bool.eq_iff_iff]; simp [hs]; omega))
      exact u16_18 x co sh re hc (csA (csI' hj (csF' k1 (csF' k4 (csT' e csN'))))) w hL
theorem law16_4 (co : Int) (sh : Bool) (re : Int) (hc : Cu x (xA 16 0 co 0 false sh 0 0 0 re 0)) (hv : vP16 0 co 0 false sh 0 0 0 re 0 = true) (hj : Int.tmod x.wh 6 = 4) (w : World) (hL : Laid h12 w) : Lw x w := by
  rcases Bool.eq_false_or_eq_true (!sh) with k1 | k1
  · have e : (vP 16 0 co 0 false sh 0 0 0 (IntKind.i32.wrap x.to) 0 == (true)) = true := by
      show (vP16 0 co 0 false sh 0 0 0 (IntKind.i32.wrap x.to) 0 == (true)) = true
      generalize IntKind.i32.wrap x.to = y at *
      simp_all [vP16, rel_eq]
    exact u16_19 x co sh re hc (csA (csI' hj (csT' k1 (csT' e csN')))) w hL
  · rcases Bool.eq_false_or_eq_true (decide (IntKind.i32.wrap x.to ≥ -128)) with k2 | k2
    · have e : (vP 16 0 co 0 false sh 0 0 0 (IntKind.i32.wrap x.to) 0 == (decide (IntKind.i32.wrap x.to ≤ 127))) = true := by
        show (vP16 0 co 0 false sh 0 0 0 (IntKind.i32.wrap x.to) 0 == (decide (IntKind.i32.wrap x.to ≤ 127))) = true
        generalize IntKind.i32.wrap x.to = y at *
        simp_all [vP16, rel_eq]
      exact u16_20 x co sh re hc (csA (csI' hj (csF' k1 (csT' k2 (csT' e csN'))))) w hL
    · have e : (vP 16 0 co 0 false sh 0 0 0 (IntKind.i32.wrap x.to) 0 == (false)) = true := by
        show (vP16 0 co 0 false sh 0 0 0 (IntKind.i32.wrap x.to) 0 == (false)) = true
        generalize IntKind.i32.wrap x.to = y at *
        simp_all [vP16, rel_eq]
      exact u16_21 x co sh re hc (csA (csI' hj (csF' k1 (csF' k2 (csT' e csN'))))) w hL
theorem law16_5 (co : Int) (sh : Bool) (re : Int) (hc : Cu x (xA 16 0 co 0 false sh 0 0 0 re 0)) (hv : vP16 0 co 0 false sh 0 0 0 re 0 = true) (hj : Int.tmod x.wh 6 = 5) (w : World) (hL : Laid h12 w) : Lw x w := by
  rcases Bool.eq_false_or_eq_true (eqD (xA 16 0 co 0 false sh 0 0 (IntKind.i32.wrap x.to) re 0) (xA 16 0 co 0 false sh 0 0 0 re 0)) with k1 | k1
  · have e : vP 16 0 co 0 false sh 0 0 (IntKind.i32.wrap x.to) re 0 = true := by
      show vP16 0 co 0 false sh 0 0 (IntKind.i32.wrap x.to) re 0 = true
      simp_all [vP16]
    exact u16_22 x co sh re hc (csA (csI' hj (csT' k1 (csT' e (csT' (eT e) csN'))))) w hL
  · have e : vP 16 0 co 0 false sh 0 0 (IntKind.i32.wrap x.to) re 0 = false := by
      show vP16 0 co 0 false sh 0 0 (IntKind.i32.wrap x.to) re 0 = false
      simp_all [vP16]
    exact u16_23 x co sh re hc (csA (csI' hj (csF' k1 (csT' (eF e).1 (csT' (eF e).2.1 (csT' (eF e).2.2 csN')))))) w hL
theorem u17_0 (ds : Int) (hc : Cu x (xA 17 0 0 0 false false ds 0 0 0 0)) : Ru x [(Int.tmod x.wh 6, 0), (b2i (decide (x.to ≥ 0)), 1), (b2i (decide (x.to < 16)), 1), (b2i (vP 17 0 0 0 false false x.to 0 0 0 0), 1)] := lf (orHook_ok (hk_cut_ok hc) hkU_ok) (ocs [(7, 58, .int .u8 0), (7, 81, .bool true), (7, 85, .bool true), (7, 101, .bool true)] []) (by kernel_rfl) (by kernel_rfl) (by kernel_rfl)
theorem u17_1 (ds : Int) (hc : Cu x (xA 17 0 0 0 false false ds 0 0 0 0)) : Ru x [(Int.tmod x.wh 6, 0), (b2i (decide (x.to ≥ 0)), 1), (b2i (decide (x.to < 16)), 0), (b2i (eqD (xA 17 0 0 0 false false x.to 0 0 0 0) (xA 17 0 0 0 false false ds 0 0 0 0)), 0), (b2i (!vP 17 0 0 0 false false x.to 0 0 0 0), 1), (b2i (encB 17 0 0 0 false false x.to 0 0 0 0 == ([] : List UInt8)), 1), (b2i (encE 17 0 0 0 false false x.to 0 0 0 0 == 2), 1)] := lf (orHook_ok (hk_cut_ok hc) hkU_ok) (ocs [(7, 58, .int .u8 0), (7, 81, .bool true), (7, 85, .bool false), (7, 220, .bool false), (7, 233, .bool true), (7, 237, .bool true), (7, 241, .bool true)] []) (by kernel_rfl) (by kernel_rfl) (by kernel_rfl)
theorem u17_2 (ds : Int) (hc : Cu x (xA 17 0 0 0 false false ds 0 0 0 0)) : Ru x [(Int.tmod x.wh 6, 0), (b2i (decide (x.to ≥ 0)), 0), (b2i (eqD (xA 17 0 0 0 false false x.to 0 0 0 0) (xA 17 0 0 0 false false ds 0 0 0 0)), 0), (b2i (!vP 17 0 0 0 false false x.to 0 0 0 0), 1), (b2i (encB 17 0 0 0 false false x.to 0 0 0 0 == ([] : List UInt8)), 1), (b2i (encE 17 0 0 0 false false x.to 0 0 0 0 == 2), 1)] := lf (orHook_ok (hk_cut_ok hc) hkU_ok) (ocs [(7, 58, .int .u8 0), (7, 81, .bool false), (7, 220, .bool false), (7, 233, .bool true), (7, 237, .bool true), (7, 241, .bool true)] []) (by kernel_rfl) (by kernel_rfl) (by kernel_rfl)
theorem u17_3 (ds : Int) (hc : Cu x (xA 17 0 0 0 false false ds 0 0 0 0)) : Ru x [(Int.tmod x.wh 6, 1), (b2i (decide (x.to ≥ 0)), 1), (b2i (decide (x.to < 16)), 1), (b2i (eqD (xA 17 0 0 0 false false ds x.to 0 0 0) (xA 17 0 0 0 false false ds 0 0 0 0)), 1), (b2i (vP 17 0 0 0 false false ds x.to 0 0 0), 1), (b2i (encE 17 0 0 0 false false ds x.to 0 0 0 == 0), 1)] := lf (orHook_ok (hk_cut_ok hc) hkU_ok) (ocs [(7, 58, .int .u8 1), (7, 110, .bool true), (7, 114, .bool true), (7, 220, .bool true), (7, 223, .bool true), (7, 227, .bool true)] []) (by kernel_rfl) (by kernel_rfl) (by kernel_rfl)
theorem u17_4 (ds : Int) (hc : Cu x (xA 17 0 0 0 false false ds 0 0 0 0)) : Ru x [(Int.tmod x.wh 6, 1), (b2i (decide (x.to ≥ 0)), 1), (b2i (decide (x.to < 16)), 1), (b2i (eqD (xA 17 0 0 0 false false ds x.to 0 0 0) (xA 17 0 0 0 false false ds 0 0 0 0)), 0), (b2i (!vP 17 0 0 0 false false ds x.to 0 0 0), 1), (b2i (encB 17 0 0 0 false false ds x.to 0 0 0 == ([] : List UInt8)), 1), (b2i (encE 17 0 0 0 false false ds x.to 0 0 0 == 2), 1)] := lf (orHook_ok (hk_cut_ok hc) hkU_ok) (ocs [(7, 58, .int .u8 1), (7, 110, .bool true), (7, 114, .bool true), (7, 220, .bool false), (7, 233, .bool true), (7, 237, .bool true), (7, 241, .bool true)] []) (by kernel_rfl) (by kernel_rfl) (by kernel_rfl)
theorem u17_5 (ds : Int) (hc : Cu x (xA 17 0 0 0 false false ds 0 0 0 0)) : Ru x [(Int.tmod x.wh 6, 1), (b2i (decide (x.to ≥ 0)), 1), (b2i (decide (x.to < 16)), 0), (b2i (eqD (xA 17 0 0 0 false false ds x.to 0 0 0) (xA 17 0 0 0 false false ds 0 0 0 0)), 1), (b2i (vP 17 0 0 0 false false ds x.to 0 0 0), 1), (b2i (encE 17 0 0 0 false false ds x.to 0 0 0 == 0), 1)] := lf (orHook_ok (hk_cut_ok hc) hkU_ok) (ocs [(7, 58, .int .u8 1), (7, 110, .bool true), (7, 114, .bool false), (7, 220, .bool true), (7, 223, .bool true), (7, 227, .bool true)] []) (by kernel_rfl) (by kernel_rfl) (by kernel_rfl)
theorem u17_6 (ds : Int) (hc : Cu x (xA 17 0 0 0 false false ds 0 0 0 0)) : Ru x [(Int.tmod x.wh 6, 1), (b2i (decide (x.to ≥ 0)), 1), (b2i (decide (x.to < 16)), 0), (b2i (eqD (xA 17 0 0 0 false false ds x.to 0 0 0) (xA 17 0 0 0 false false ds 0 0 0 0)), 0), (b2i (!vP 17 0 0 0 false false ds x.to 0 0 0), 1), (b2i (encB 17 0 0 0 false false ds x.to 0 0 0 == ([] : List UInt8)), 1), (b2i (encE 17 0 0 0 false false ds x.to 0 0 0 == 2), 1)] := lf (orHook_ok (hk_cut_ok hc) hkU_ok) (ocs [(7, 58, .int .u8 1), (7, 110, .bool true), (7, 114, .bool false), (7, 220, .bool false), (7, 233, .bool true), (7, 237, .bool true), (7, 241, .bool true)] []) (by kernel_rfl) (by kernel_rfl) (by kernel_rfl)
theorem u17_7 (ds : Int) (hc : Cu x (xA 17 0 0 0 false false ds 0 0 0 0)) : Ru x [(Int.tmod x.wh 6, 1), (b2i (decide (x.to ≥ 0)), 0), (b2i (eqD (xA 17 0 0 0 false false ds x.to 0 0 0) (xA 17 0 0 0 false false ds 0 0 0 0)), 1), (b2i (vP 17 0 0 0 false false ds x.to 0 0 0), 1), (b2i (encE 17 0 0 0 false false ds x.to 0 0 0 == 0), 1)] := lf (orHook_ok (hk_cut_ok hc) hkU_ok) (ocs [(7, 58, .int .u8 1), (7, 110, .bool false), (7, 220, .bool true), (7, 223, .bool true), (7, 227, .bool true)] []) (by kernel_rfl) (by kernel_rfl) (by kernel_rfl)
theorem u17_8 (ds : Int) (hc : Cu x (xA 17 0 0 0 false false ds 0 0 0 0)) : Ru x [(Int.tmod x.wh 6, 1), (b2i (decide (x.to ≥ 0)), 0), (b2i (eqD (xA 17 0 0 0 false false ds x.to 0 0 0) (xA 17 0 0 0 false false ds 0 0 0 0)), 0), (b2i (!vP 17 0 0 0 false false ds x.to 0 0 0), 1), (b2i (encB 17 0 0 0 false false ds x.to 0 0 0 == ([] : List UInt8)), 1), (b2i (encE 17 0 0 0 false false ds x.to 0 0 0 == 2), 1)] := lf (orHook_ok (hk_cut_ok hc) hkU_ok) (ocs [(7, 58, .int .u8 1), (7, 110, .bool false), (7, 220, .bool false), (7, 233, .bool true), (7, 237, .bool true), (7, 241, .bool true)] []) (by kernel_rfl) (by kernel_rfl) (by kernel_rfl)
theorem u17_9 (ds : Int) (hc : Cu x (xA 17 0 0 0 false false ds 0 0 0 0)) : Ru x [(Int.tmod x.wh 6, 2), (b2i (eqD (xA 17 0 0 x.to false false ds 0 0 0 0) (xA 17 0 0 0 false false ds 0 0 0 0)), 1), (b2i (vP 17 0 0 x.to false false ds 0 0 0 0), 1), (b2i (encE 17 0 0 x.to false false ds 0 0 0 0 == 0), 1)] := lf (orHook_ok (hk_cut_ok hc) hkU_ok) (ocs [(7, 58, .int .u8 2), (7, 220, .bool true), (7, 223, .bool true), (7, 227, .bool true)] []) (by kernel_rfl) (by kernel_rfl) (by kernel_rfl)
theorem u17_10 (ds : Int) (hc : Cu x (xA 17 0 0 0 false false ds 0 0 0 0)) : Ru x [(Int.tmod x.wh 6, 2), (b2i (eqD (xA 17 0 0 x.to false false ds 0 0 0 0) (xA 17 0 0 0 false false ds 0 0 0 0)), 0), (b2i (!vP 17 0 0 x.to false false ds 0 0 0 0), 1), (b2i (encB 17 0 0 x.to false false ds 0 0 0 0 == ([] : List UInt8)), 1), (b2i (encE 17 0 0 x.to false false ds 0 0 0 0 == 2), 1)] := lf (orHook_ok (hk_cut_ok hc) hkU_ok) (ocs [(7, 58, .int .u8 2), (7, 220, .bool false), (7, 233, .bool true), (7, 237, .bool true), (7, 241, .bool true)] []) (by kernel_rfl) (by kernel_rfl) (by kernel_rfl)
theorem u17_11 (ds : Int) (hc : Cu x (xA 17 0 0 0 false false ds 0 0 0 0)) : Ru x [(Int.tmod x.wh 6, 3), (b2i (eqD (xA 17 0 x.to 0 false false ds 0 0 0 0) (xA 17 0 0 0 false false ds 0 0 0 0)), 1), (b2i (vP 17 0 x.to 0 false false ds 0 0 0 0), 1), (b2i (encE 17 0 x.to 0 false false ds 0 0 0 0 == 0), 1)] := lf (orHook_ok (hk_cut_ok hc) hkU_ok) (ocs [(7, 58, .int .u8 3), (7, 220, .bool true), (7, 223, .bool true), (7, 227, .bool true)] []) (by kernel_rfl) (by kernel_rfl) (by kernel_rfl)
theorem u17_12 (ds : Int) (hc : Cu x (xA 17 0 0 0 false false ds 0 0 0 0)) : Ru x [(Int.tmod x.wh 6, 3), (b2i (eqD (xA 17 0 x.to 0 false false ds 0 0 0 0) (xA 17 0 0 0 false false ds 0 0 0 0)), 0), (b2i (!vP 17 0 x.to 0 false false ds 0 0 0 0), 1), (b2i (encB 17 0 x.to 0 false false ds 0 0 0 0 == ([] : List UInt8)), 1), (b2i (encE 17 0 x.to 0 false false ds 0 0 0 0 == 2), 1)] := lf (orHook_ok (hk_cut_ok hc) hkU_ok) (ocs [(7, 58, .int .u8 3), (7, 220, .bool false), (7, 233, .bool true), (7, 237, .bool true), (7, 241, .bool true)] []) (by kernel_rfl) (by kernel_rfl) (by kernel_rfl)
theorem u17_13 (ds : Int) (hc : Cu x (xA 17 0 0 0 false false ds 0 0 0 0)) : Ru x [(Int.tmod x.wh 6, 4), (b2i (eqD (xA 17 0 0 0 false false ds 0 0 (IntKind.i32.wrap x.to) 0) (xA 17 0 0 0 false false ds 0 0 0 0)), 1), (b2i (vP 17 0 0 0 false false ds 0 0 (IntKind.i32.wrap x.to) 0), 1), (b2i (encE 17 0 0 0 false false ds 0 0 (IntKind.i32.wrap x.to) 0 == 0), 1)] := lf (orHook_ok (hk_cut_ok hc) hkU_ok) (ocs [(7, 58, .int .u8 4), (7, 220, .bool true), (7, 223, .bool true), (7, 227, .bool true)] []) (by kernel_rfl) (by kernel_rfl) (by kernel_rfl)
theorem u17_14 (ds : Int) (hc : Cu x (xA 17 0 0 0 false false ds 0 0 0 0)) : Ru x [(Int.tmod x.wh 6, 4), (b2i (eqD (xA 17 0 0 0 false false ds 0 0 (IntKind.i32.wrap x.to) 0) (xA 17 0 0 0 false false ds 0 0 0 0)), 0), (b2i (!vP 17 0 0 0 false false ds 0 0 (IntKind.i32.wrap x.to) 0), 1), (b2i (encB 17 0 0 0 false false ds 0 0 (IntKind.i32.wrap x.to) 0 == ([] : List UInt8)), 1), (b2i (encE 17 0 0 0 false false ds 0 0 (IntKind.i32.wrap x.to) 0 == 2), 1)] := lf (orHook_ok (hk_cut_ok hc) hkU_ok) (ocs [(7, 58, .int .u8 4), (7, 220, .bool false), (7, 233, .bool true), (7, 237, .bool true), (7, 241, .bool true)] []) (by kernel_rfl) (by kernel_rfl) (by kernel_rfl)
theorem u17_15 (ds : Int) (hc : Cu x (xA 17 0 0 0 false false ds 0 0 0 0)) : Ru x [(Int.tmod x.wh 6, 5), (b2i (eqD (xA 17 0 0 0 false false ds 0 (IntKind.i32.wrap x.to) 0 0) (xA 17 0 0 0 false false ds 0 0 0 0)), 1), (b2i (vP 17 0 0 0 false false ds 0 (IntKind.i32.wrap x.to) 0 0), 1), (b2i (encE 17 0 0 0 false false ds 0 (IntKind.i32.wrap x.to) 0 0 == 0), 1)] := lf (orHook_ok (hk_cut_ok hc) hkU_ok) (ocs [(7, 58, .int .u8 5), (7, 220, .bool true), (7, 223, .bool true), (7, 227, .bool true)] []) (by kernel_rfl) (by kernel_rfl) (by kernel_rfl)
theorem u17_16 (ds : Int) (hc : Cu x (xA 17 0 0 0 false false ds 0 0 0 0)) : Ru x [(Int.tmod x.wh 6, 5), (b2i (eqD (xA 17 0 0 0 false false ds 0 (IntKind.i32.wrap x.to) 0 0) (xA 17 0 0 0 false false ds 0 0 0 0)), 0), (b2i (!vP 17 0 0 0 false false ds 0 (IntKind.i32.wrap x.to) 0 0), 1), (b2i (encB 17 0 0 0 false false ds 0 (IntKind.i32.wrap x.to) 0 0 == ([] : List UInt8)), 1), (b2i (encE 17 0 0 0 false false ds 0 (IntKind.i32.wrap x.to) 0 0 == 2), 1)] := lf (orHook_ok (hk_cut_ok hc) hkU_ok) (ocs [(7, 58, .int .u8 5), (7, 220, .bool false), (7, 233, .bool true), (7, 237, .bool true), (7, 241, .bool true)] []) (by kernel_rfl) (by kernel_rfl) (by kernel_rfl)
theorem law17_0 (ds : Int) (hc : Cu x (xA 17 0 0 0 false false ds 0 0 0 0)) (hv : vP17 0 0 0 false false ds 0 0 0 0 = true) (hj : Int.tmod x.wh 6 = 0) (w : World) (hL : Laid h12 w) : Lw x w := by
  rcases Bool.eq_false_or_eq_true (decide (x.to ≥ 0)) with k1 | k1
  · rcases Bool.eq_false_or_eq_true (decide (x.to < 16)) with k2 | k2
    · have e : vP 17 0 0 0 false false x.to 0 0 0 0 = true := by
        show vP17 0 0 0 false false x.to 0 0 0 0 = true
        simp_all [vP17]
      exact u17_0 x ds hc (csA (csI' hj (csT' k1 (csT' k2 (csT' e csN'))))) w hL
    · have e : vP 17 0 0 0 false false x.to 0 0 0 0 = false := by
        show vP17 0 0 0 false false x.to 0 0 0 0 = false
        simp_all [vP17] <;> (try (intros; first | omega | (exfalso; omega)))
      have q : eqD (xA 17 0 0 0 false false x.to 0 0 0 0) (xA 17 0 0 0 false false ds 0 0 0 0) = false := by
        simp_all [vP17]
        try omega
      exact u17_1 x ds hc (csA (csI' hj (csT' k1 (csF' k2 (csF' q (csT' (eF e).1 (csT' (eF e).2.1 (csT' (eF e).2.2 csN')))))))) w hL
  · have e : vP 17 0 0 0 false false x.to 0 0 0 0 = false := by
      show vP17 0 0 0 false false x.to 0 0 0 0 = false
      simp_all [vP17] <;> (try (intros; first | omega | (exfalso; omega)))
    have q : eqD (xA 17 0 0 0 false false x.to 0 0 0 0) (xA 17 0 0 0 false false ds 0 0 0 0) = false := by
      simp_all [vP17]
      try omega
    exact u17_2 x ds hc (csA (csI' hj (csF' k1 (csF' q (csT' (eF e).1 (csT' (eF e).2.1 (csT' (eF e).2.2 csN'))))))) w hL
theorem law17_1 (ds : Int) (hc : Cu x (xA 17 0 0 0 false false ds 0 0 0 0)) (hv : vP17 0 0 0 false false ds 0 0 0 0 = true) (hj : Int.tmod x.wh 6 = 1) (w : World) (hL : Laid h12 w) : Lw x w := by
  rcases Bool.eq_false_or_eq_true (decide (x.to ≥ 0)) with k1 | k1
  · rcases Bool.eq_false_or_eq_true (decide (x.to < 16)) with k2 | k2
    · rcases Bool.eq_false_or_eq_true (eqD (xA 17 0 0 0 false false ds x.to 0 0 0) (xA 17 0 0 0 false false ds 0 0 0 0)) with k3 | k3
      · have e : vP 17 0 0 0 false false ds x.to 0 0 0 = true := by
          show vP17 0 0 0 false false ds x.to 0 0 0 = true
          simp_all [vP17]
        exact u17_3 x ds hc (csA (csI' hj (csT' k1 (csT' k2 (csT' k3 (csT' e (csT' (eT e) csN'))))))) w hL
      · have e : vP 17 0 0 0 false false ds x.to 0 0 0 = false := by
          show vP17 0 0 0 false false ds x.to 0 0 0 = false
          simp_all [vP17]
        exact u17_4 x ds hc (csA (csI' hj (csT' k1 (csT' k2 (csF' k3 (csT' (eF e).1 (csT' (eF e).2.1 (csT' (eF e).2.2 csN')))))))) w hL
    · rcases Bool.eq_false_or_eq_true (eqD (xA 17 0 0 0 false false ds x.to 0 0 0) (xA 17 0 0 0 false false ds 0 0 0 0)) with k4 | k4
      · have e : vP 17 0 0 0 false false ds x.to 0 0 0 = true := by
          show vP17 0 0 0 false false ds x.to 0 0 0 = true
          simp_all [vP17]
        exact u17_5 x ds hc (csA (csI' hj (csT' k1 (csF' k2 (csT' k4 (csT' e (csT' (eT e) csN'))))))) w hL
      · have e : vP 17 0 0 0 false false ds x.to 0 0 0 = false := by
          show vP17 0 0 0 false false ds x.to 0 0 0 = false
          simp_all [vP17]
        exact u17_6 x ds hc (csA (csI' hj (csT' k1 (csF' k2 (csF' k4 (csT' (eF e).1 (csT' (eF e).2.1 (csT' (eF e).2.2 csN')))))))) w hL
  · rcases Bool.eq_false_or_eq_true (eqD (xA 17 0 0 0 false false ds x.to 0 0 0) (xA 17 0 0 0 false false ds 0 0 0 0)) with k5 | k5
    · have e : vP 17 0 0 0 false false ds x.to 0 0 0 = true := by
        show vP17 0 0 0 false false ds x.to 0 0 0 = true
        simp_all [vP17]
      exact u17_7 x ds hc (csA (csI' hj (csF' k1 (csT' k5 (csT' e (csT' (eT e) csN')))))) w hL
    · have e : vP 17 0 0 0 false false ds x.to 0 0 0 = false := by
        show vP17 0 0 0 false false ds x.to 0 0 0 = false
        simp_all [vP17]
      exact u17_8 x ds hc (csA (csI' hj (csF' k1 (csF' k5 (csT' (eF e).1 (csT' (eF e).2.1 (csT' (eF e).2.2 csN'))))))) w hL
theorem law17_2 (ds : Int) (hc : Cu x (xA 17 0 0 0 false false ds 0 0 0 0)) (hv : vP17 0 0 0 false false ds 0 0 0 0 = true) (hj : Int.tmod x.wh 6 = 2) (w : World) (hL : Laid h12 w) : Lw x w := by
  rcases Bool.eq_false_or_eq_true (eqD (xA 17 0 0 x.to false false ds 0 0 0 0) (xA 17 0 0 0 false false ds 0 0 0 0)) with k1 | k1
  · have e : vP 17 0 0 x.to false false ds 0 0 0 0 = true := by
      show vP17 0 0 x.to false false ds 0 0 0 0 = true
      simp_all [vP17]
    exact u17_9 x ds hc (csA (csI' hj (csT' k1 (csT' e (csT' (eT e) csN'))))) w hL
  · have e : vP 17 0 0 x.to false false ds 0 0 0 0 = false := by
      show vP17 0 0 x.to false false ds 0 0 0 0 = false
      simp_all [vP17]
    exact u17_10 x ds hc (csA (csI' hj (csF' k1 (csT' (eF e).1 (csT' (eF e).2.1 (csT' (eF e).2.2 csN')))))) w hL
theorem law17_3 (ds : Int) (hc : Cu x (xA 17 0 0 0 false false ds 0 0 0 0)) (hv : vP17 0 0 0 false false ds 0 0 0 0 = true) (hj : Int.tmod x.wh 6 = 3) (w : World) (hL : Laid h12 w) : Lw x w := by
  rcases Bool.eq_false_or_eq_true (eqD (xA 17 0 x.to 0 false false ds 0 0 0 0) (xA 17 0 0 0 false false ds 0 0 0 0)) with k1 | k1
  · have e : vP 17 0 x.to 0 false false ds 0 0 0 0 = true := by
      show vP17 0 x.to 0 false false ds 0 0 0 0 = true
      simp_all [vP17]
    exact u17_11 x ds hc (csA (csI' hj (csT' k1 (csT' e (csT' (eT e) csN'))))) w hL
  · have e : vP 17 0 x.to 0 false false ds 0 0 0 0 = false := by
      show vP17 0 x.to 0 false false ds 0 0 0 0 = false
      simp_all [vP17]
    exact u17_12 x ds hc (csA (csI' hj (csF' k1 (csT' (eF e).1 (csT' (eF e).2.1 (csT' (eF e).2.2 csN')))))) w hL
theorem law17_4 (ds : Int) (hc : Cu x (xA 17 0 0 0 false false ds 0 0 0 0)) (hv : vP17 0 0 0 false false ds 0 0 0 0 = true) (hj : Int.tmod x.wh 6 = 4) (w : World) (hL : Laid h12 w) : Lw x w := by
  rcases Bool.eq_false_or_eq_true (eqD (xA 17 0 0 0 false false ds 0 0 (IntKind.i32.wrap x.to) 0) (xA 17 0 0 0 false false ds 0 0 0 0)) with k1 | k1
  · have e : vP 17 0 0 0 false false ds 0 0 (IntKind.i32.wrap x.to) 0 = true := by
      show vP17 0 0 0 false false ds 0 0 (IntKind.i32.wrap x.to) 0 = true
      simp_all [vP17]
    exact u17_13 x ds hc (csA (csI' hj (csT' k1 (csT' e (csT' (eT e) csN'))))) w hL
  · have e : vP 17 0 0 0 false false ds 0 0 (IntKind.i32.wrap x.to) 0 = false := by
      show vP17 0 0 0 false false ds 0 0 (IntKind.i32.wrap x.to) 0 = false
      simp_all [vP17]
    exact u17_14 x ds hc (csA (csI' hj (csF' k1 (csT' (eF e).1 (csT' (eF e).2.1 (csT' (eF e).2.2 csN')))))) w hL
theorem law17_5 (ds : Int) (hc : Cu x (xA 17 0 0 0 false false ds 0 0 0 0)) (hv : vP17 0 0 0 false false ds 0 0 0 0 = true) (hj : Int.tmod x.wh 6 = 5) (w : World) (hL : Laid h12 w) : Lw x w := by
  rcases Bool.eq_false_or_eq_true (eqD (xA 17 0 0 0 false false ds 0 (IntKind.i32.wrap x.to) 0 0) (xA 17 0 0 0 false false ds 0 0 0 0)) with k1 | k1
  · have e : vP 17 0 0 0 false false ds 0 (IntKind.i32.wrap x.to) 0 0 = true := by
      show vP17 0 0 0 false false ds 0 (IntKind.i32.wrap x.to) 0 0 = true
      simp_all [vP17]
    exact u17_15 x ds hc (csA (csI' hj (csT' k1 (csT' e (csT' (eT e) csN'))))) w hL
  · have e : vP 17 0 0 0 false false ds 0 (IntKind.i32.wrap x.to) 0 0 = false := by
      show vP17 0 0 0 false false ds 0 (IntKind.i32.wrap x.to) 0 0 = false
      simp_all [vP17]
    exact u17_16 x ds hc (csA (csI' hj (csF' k1 (csT' (eF e).1 (csT' (eF e).2.1 (csT' (eF e).2.2 csN')))))) w hL
end Go.Proofs.YtbaiokfjoglmiaaDoor.Ex
end
section
namespace Go.Proofs.YtbaiokfjoglmiaaDoor.Ex
open Go Go.RowKit
set_option linter.unusedVariables false
set_option linter.unusedSimpArgs false
set_option maxHeartbeats 0
set_option maxRecDepth 1000000
attribute [local simp] vP xA eqD eqW regS szOk ccOk aluOk shOk shiftS
variable (x : Rw)
theorem u18_0 (ds : Int) (hc : Cu x (xA 18 0 0 0 false false ds 0 0 0 0)) : Ru x [(Int.tmod x.wh 6, 0), (b2i (decide (x.to ≥ 0)), 1), (b2i (decide (x.to < 16)), 1), (b2i (vP 18 0 0 0 false false x.to 0 0 0 0), 1)] := lf (orHook_ok (hk_cut_ok hc) hkU_ok) (ocs [(7, 58, .int .u8 0), (7, 81, .bool true), (7, 85, .bool true), (7, 101, .bool true)] []) (by kernel_rfl) (by kernel_rfl) (by kernel_rfl)
theorem u18_1 (ds : Int) (hc : Cu x (xA 18 0 0 0 false false ds 0 0 0 0)) : Ru x [(Int.tmod x.wh 6, 0), (b2i (decide (x.to ≥ 0)), 1), (b2i (decide (x.to < 16)), 0), (b2i (eqD (xA 18 0 0 0 false false x.to 0 0 0 0) (xA 18 0 0 0 false false ds 0 0 0 0)), 0), (b2i (!vP 18 0 0 0 false false x.to 0 0 0 0), 1), (b2i (encB 18 0 0 0 false false x.to 0 0 0 0 == ([] : List UInt8)), 1), (b2i (encE 18 0 0 0 false false x.to 0 0 0 0 == 2), 1)] := lf (orHook_ok (hk_cut_ok hc) hkU_ok) (ocs [(7, 58, .int .u8 0), (7, 81, .bool true), (7, 85, .bool false), (7, 220, .bool false), (7, 233, .bool true), (7, 237, .bool true), (7, 241, .bool true)] []) (by kernel_rfl) (by kernel_rfl) (by kernel_rfl)
theorem u18_2 (ds : Int) (hc : Cu x (xA 18 0 0 0 false false ds 0 0 0 0)) : Ru x [(Int.tmod x.wh 6, 0), (b2i (decide (x.to ≥ 0)), 0), (b2i (eqD (xA 18 0 0 0 false false x.to 0 0 0 0) (xA 18 0 0 0 false false ds 0 0 0 0)), 0), (b2i (!vP 18 0 0 0 false false x.to 0 0 0 0), 1), (b2i (encB 18 0 0 0 false false x.to 0 0 0 0 == ([] : List UInt8)), 1), (b2i (encE 18 0 0 0 false false x.to 0 0 0 0 == 2), 1)] := lf (orHook_ok (hk_cut_ok hc) hkU_ok) (ocs [(7, 58, .int .u8 0), (7, 81, .bool false), (7, 220, .bool false), (7, 233, .bool true), (7, 237, .bool true), (7, 241, .bool true)] []) (by kernel_rfl) (by kernel_rfl) (by kernel_rfl)
theorem u18_3 (ds : Int) (hc : Cu x (xA 18 0 0 0 false false ds 0 0 0 0)) : Ru x [(Int.tmod x.wh 6, 1), (b2i (decide (x.to ≥ 0)), 1), (b2i (decide (x.to < 16)), 1), (b2i (eqD (xA 18 0 0 0 false false ds x.to 0 0 0) (xA 18 0 0 0 false false ds 0 0 0 0)), 1), (b2i (vP 18 0 0 0 false false ds x.to 0 0 0), 1), (b2i (encE 18 0 0 0 false false ds x.to 0 0 0 == 0), 1)] := lf (orHook_ok (hk_cut_ok hc) hkU_ok) (ocs [(7, 58, .int .u8 1), (7, 110, .bool true), (7, 114, .bool true), (7, 220, .bool true), (7, 223, .bool true), (7, 227, .bool true)] []) (by kernel_rfl) (by kernel_rfl) (by kernel_rfl)
theorem u18_4 (ds : Int) (hc : Cu x (xA 18 0 0 0 false false ds 0 0 0 0)) : Ru x [(Int.tmod x.wh 6, 1), (b2i (decide (x.to ≥ 0)), 1), (b2i (decide (x.to < 16)), 1), (b2i (eqD (xA 18 0 0 0 false false ds x.to 0 0 0) (xA 18 0 0 0 false false ds 0 0 0 0)), 0), (b2i (!vP 18 0 0 0 false false ds x.to 0 0 0), 1), (b2i (encB 18 0 0 0 false false ds x.to 0 0 0 == ([] : List UInt8)), 1), (b2i (encE 18 0 0 0 false false ds x.to 0 0 0 == 2), 1)] := lf (orHook_ok (hk_cut_ok hc) hkU_ok) (ocs [(7, 58, .int .u8 1), (7, 110, .bool true), (7, 114, .bool true), (7, 220, .bool false), (7, 233, .bool true), (7, 237, .bool true), (7, 241, .bool true)] []) (by kernel_rfl) (by kernel_rfl) (by kernel_rfl)
theorem u18_5 (ds : Int) (hc : Cu x (xA 18 0 0 0 false false ds 0 0 0 0)) : Ru x [(Int.tmod x.wh 6, 1), (b2i (decide (x.to ≥ 0)), 1), (b2i (decide (x.to < 16)), 0), (b2i (eqD (xA 18 0 0 0 false false ds x.to 0 0 0) (xA 18 0 0 0 false false ds 0 0 0 0)), 1), (b2i (vP 18 0 0 0 false false ds x.to 0 0 0), 1), (b2i (encE 18 0 0 0 false false ds x.to 0 0 0 == 0), 1)] := lf (orHook_ok (hk_cut_ok hc) hkU_ok) (ocs [(7, 58, .int .u8 1), (7, 110, .bool true), (7, 114, .bool false), (7, 220, .bool true), (7, 223, .bool true), (7, 227, .bool true)] []) (by kernel_rfl) (by kernel_rfl) (by kernel_rfl)
theorem u18_6 (ds : Int) (hc : Cu x (xA 18 0 0 0 false false ds 0 0 0 0)) : Ru x [(Int.tmod x.wh 6, 1), (b2i (decide (x.to ≥ 0)), 1), (b2i (decide (x.to < 16)), 0), (b2i (eqD (xA 18 0 0 0 false false ds x.to 0 0 0) (xA 18 0 0 0 false false ds 0 0 0 0)), 0), (b2i (!vP 18 0 0 0 false false ds x.to 0 0 0), 1), (b2i (encB 18 0 0 0 false false ds x.to 0 0 0 == ([] : List UInt8)), 1), (b2i (encE 18 0 0 0 false false ds x.to 0 0 0 == 2), 1)] := lf (orHook_ok (hk_cut_ok hc) hkU_ok) (ocs [(7, 58, .int .u8 1), (7, 110, .bool true), (7, 114, .bool false), (7, 220, .bool false), (7, 233, .bool true), (7, 237, .bool true), (7, 241, .bool true)] []) (by kernel_rfl) (by kernel_rfl) (by kernel_rfl)
theorem u18_7 (ds : Int) (hc : Cu x (xA 18 0 0 0 false false ds 0 0 0 0)) : Ru x [(Int.tmod x.wh 6, 1), (b2i (decide (x.to ≥ 0)), 0), (b2i (eqD (xA 18 0 0 0 false false ds x.to 0 0 0) (xA 18 0 0 0 false false ds 0 0 0 0)), 1), (b2i (vP 18 0 0 0 false false ds x.to 0 0 0), 1), (b2i (encE 18 0 0 0 false false ds x.to 0 0 0 == 0), 1)] := lf (orHook_ok (hk_cut_ok hc) hkU_ok) (ocs [(7, 58, .int .u8 1), (7, 110, .bool false), (7, 220, .bool true), (7, 223, .bool true), (7, 227, .bool true)] []) (by kernel_rfl) (by kernel_rfl) (by kernel_rfl)
theorem u18_8 (ds : Int) (hc : Cu x (xA 18 0 0 0 false false ds 0 0 0 0)) : Ru x [(Int.tmod x.wh 6, 1), (b2i (decide (x.to ≥ 0)), 0), (b2i (eqD (xA 18 0 0 0 false false ds x.to 0 0 0) (xA 18 0 0 0 false false ds 0 0 0 0)), 0), (b2i (!vP 18 0 0 0 false false ds x.to 0 0 0), 1), (b2i (encB 18 0 0 0 false false ds x.to 0 0 0 == ([] : List UInt8)), 1), (b2i (encE 18 0 0 0 false false ds x.to 0 0 0 == 2), 1)] := lf (orHook_ok (hk_cut_ok hc) hkU_ok) (ocs [(7, 58, .int .u8 1), (7, 110, .bool false), (7, 220, .bool false), (7, 233, .bool true), (7, 237, .bool true), (7, 241, .bool true)] []) (by kernel_rfl) (by kernel_rfl) (by kernel_rfl)
theorem u18_9 (ds : Int) (hc : Cu x (xA 18 0 0 0 false false ds 0 0 0 0)) : Ru x [(Int.tmod x.wh 6, 2), (b2i (eqD (xA 18 0 0 x.to false false ds 0 0 0 0) (xA 18 0 0 0 false false ds 0 0 0 0)), 1), (b2i (vP 18 0 0 x.to false false ds 0 0 0 0), 1), (b2i (encE 18 0 0 x.to false false ds 0 0 0 0 == 0), 1)] := lf (orHook_ok (hk_cut_ok hc) hkU_ok) (ocs [(7, 58, .int .u8 2), (7, 220, .bool true), (7, 223, .bool true), (7, 227, .bool true)] []) (by kernel_rfl) (by kernel_rfl) (by kernel_rfl)
theorem u18_10 (ds : Int) (hc : Cu x (xA 18 0 0 0 false false ds 0 0 0 0)) : Ru x [(Int.tmod x.wh 6, 2), (b2i (eqD (xA 18 0 0 x.to false false ds 0 0 0 0) (xA 18 0 0 0 false false ds 0 0 0 0)), 0), (b2i (!vP 18 0 0 x.to false false ds 0 0 0 0), 1), (b2i (encB 18 0 0 x.to false false ds 0 0 0 0 == ([] : List UInt8)), 1), (b2i (encE 18 0 0 x.to false false ds 0 0 0 0 == 2), 1)] := lf (orHook_ok (hk_cut_ok hc) hkU_ok) (ocs [(7, 58, .int .u8 2), (7, 220, .bool false), (7, 233, .bool true), (7, 237, .bool true), (7, 241, .bool true)] []) (by kernel_rfl) (by kernel_rfl) (by kernel_rfl)
theorem u18_11 (ds : Int) (hc : Cu x (xA 18 0 0 0 false false ds 0 0 0 0)) : Ru x [(Int.tmod x.wh 6, 3), (b2i (eqD (xA 18 0 x.to 0 false false ds 0 0 0 0) (xA 18 0 0 0 false false ds 0 0 0 0)), 1), (b2i (vP 18 0 x.to 0 false false ds 0 0 0 0), 1), (b2i (encE 18 0 x.to 0 false false ds 0 0 0 0 == 0), 1)] := lf (orHook_ok (hk_cut_ok hc) hkU_ok) (ocs [(7, 58, .int .u8 3), (7, 220, .bool true), (7, 223, .bool true), (7, 227, .bool true)] []) (by kernel_rfl) (by kernel_rfl) (by kernel_rfl)
theorem u18_12 (ds : Int) (hc : Cu x (xA 18 0 0 0 false false ds 0 0 0 0)) : Ru x [(Int.tmod x.wh 6, 3), (b2i (eqD (xA 18 0 x.to 0 false false ds 0 0 0 0) (xA 18 0 0 0 false false ds 0 0 0 0)), 0), (b2i (!vP 18 0 x.to 0 false false ds 0 0 0 0), 1), (b2i (encB 18 0 x.to 0 false false ds 0 0 0 0 == ([] : List UInt8)), 1), (b2i (encE 18 0 x.to 0 false false ds 0 0 0 0 == 2), 1)] := lf (orHook_ok (hk_cut_ok hc) hkU_ok) (ocs [(7, 58, .int .u8 3), (7, 220, .bool false), (7, 233, .bool true), (7, 237, .bool true), (7, 241, .bool true)] []) (by kernel_rfl) (by kernel_rfl) (by kernel_rfl)
theorem u18_13 (ds : Int) (hc : Cu x (xA 18 0 0 0 false false ds 0 0 0 0)) : Ru x [(Int.tmod x.wh 6, 4), (b2i (eqD (xA 18 0 0 0 false false ds 0 0 (IntKind.i32.wrap x.to) 0) (xA 18 0 0 0 false false ds 0 0 0 0)), 1), (b2i (vP 18 0 0 0 false false ds 0 0 (IntKind.i32.wrap x.to) 0), 1), (b2i (encE 18 0 0 0 false false ds 0 0 (IntKind.i32.wrap x.to) 0 == 0), 1)] := lf (orHook_ok (hk_cut_ok hc) hkU_ok) (ocs [(7, 58, .int .u8 4), (7, 220, .bool true), (7, 223, .bool true), (7, 227, .bool true)] []) (by kernel_rfl) (by kernel_rfl) (by kernel_rfl)
theorem u18_14 (ds : Int) (hc : Cu x (xA 18 0 0 0 false false ds 0 0 0 0)) : Ru x [(Int.tmod x.wh 6, 4), (b2i (eqD (xA 18 0 0 0 false false ds 0 0 (IntKind.i32.wrap x.to) 0) (xA 18 0 0 0 false false ds 0 0 0 0)), 0), (b2i (!vP 18 0 0 0 false false ds 0 0 (IntKind.i32.wrap x.to) 0), 1), (b2i (encB 18 0 0 0 false false ds 0 0 (IntKind.i32.wrap x.to) 0 == ([] : List UInt8)), 1), (b2i (encE 18 0 0 0 false false ds 0 0 (IntKind.i32.wrap x.to) 0 == 2), 1)] := lf (orHook_ok (hk_cut_ok hc) hkU_ok) (ocs [(7, 58, .int .u8 4), (7, 220, .bool false), (7, 233, .bool true), (7, 237, .bool true), (7, 241, .bool true)] []) (by kernel_rfl) (by kernel_rfl) (by kernel_rfl)
theorem u18_15 (ds : Int) (hc : Cu x (xA 18 0 0 0 false false ds 0 0 0 0)) : Ru x [(Int.tmod x.wh 6, 5), (b2i (eqD (xA 18 0 0 0 false false ds 0 (IntKind.i32.wrap x.to) 0 0) (xA 18 0 0 0 false false ds 0 0 0 0)), 1), (b2i (vP 18 0 0 0 false false ds 0 (IntKind.i32.wrap x.to) 0 0), 1), (b2i (encE 18 0 0 0 false false ds 0 (IntKind.i32.wrap x.to) 0 0 == 0), 1)] := lf (orHook_ok (hk_cut_ok hc) hkU_ok) (ocs [(7, 58, .int .u8 5), (7, 220, .bool true), (7, 223, .bool true), (7, 227, .bool true)] []) (by kernel_rfl) (by kernel_rfl) (by kernel_rfl)
theorem u18_16 (ds : Int) (hc : Cu x (xA 18 0 0 0 false false ds 0 0 0 0)) : Ru x [(Int.tmod x.wh 6, 5), (b2i (eqD (xA 18 0 0 0 false false ds 0 (IntKind.i32.wrap x.to) 0 0) (xA 18 0 0 0 false false ds 0 0 0 0)), 0), (b2i (!vP 18 0 0 0 false false ds 0 (IntKind.i32.wrap x.to) 0 0), 1), (b2i (encB 18 0 0 0 false false ds 0 (IntKind.i32.wrap x.to) 0 0 == ([] : List UInt8)), 1), (b2i (encE 18 0 0 0 false false ds 0 (IntKind.i32.wrap x.to) 0 0 == 2), 1)] := lf (orHook_ok (hk_cut_ok hc) hkU_ok) (ocs [(7, 58, .int .u8 5), (7, 220, .bool false), (7, 233, .bool true), (7, 237, .bool true), (7, 241, .bool true)] []) (by kernel_rfl) (by kernel_rfl) (by kernel_rfl)
theorem law18_0 (ds : Int) (hc : Cu x (xA 18 0 0 0 false false ds 0 0 0 0)) (hv : vP18 0 0 0 false false ds 0 0 0 0 = true) (hj : Int.tmod x.wh 6 = 0) (w : World) (hL : Laid h12 w) : Lw x w := by
  rcases Bool.eq_false_or_eq_true (decide (x.to ≥ 0)) with k1 | k1
  · rcases Bool.eq_false_or_eq_true (decide (x.to < 16)) with k2 | k2
    · have e : vP 18 0 0 0 false false x.to 0 0 0 0 = true := by
        show vP18 0 0 0 false false x.to 0 0 0 0 = true
        simp_all [vP18]
      exact u18_0 x ds hc (csA (csI' hj (csT' k1 (csT' k2 (csT' e csN'))))) w hL
    · have e : vP 18 0 0 0 false false x.to 0 0 0 0 = false := by
        show vP18 0 0 0 false false x.to 0 0 0 0 = false
        simp_all [vP18] <;> (try (intros; first | omega | (exfalso; omega)))
      have q : eqD (xA 18 0 0 0 false false x.to 0 0 0 0) (xA 18 0 0 0 false false ds 0 0 0 0) = false := by
        simp_all [vP18]
        try omega
      exact u18_1 x ds hc (csA (csI' hj (csT' k1 (csF' k2 (csF' q (csT' (eF e).1 (csT' (eF e).2.1 (csT' (eF e).2.2 csN')))))))) w hL
  · have e : vP 18 0 0 0 false false x.to 0 0 0 0 = false := by
      show vP18 0 0 0 false false x.to 0 0 0 0 = false
      simp_all [vP18] <;> (try (intros; first | omega | (exfalso; omega)))
    have q : eqD (xA 18 0 0 0 false false x.to 0 0 0 0) (xA 18 0 0 0 false false ds 0 0 0 0) = false := by
      simp_all [vP18]
      try omega
    exact u18_2 x ds hc (csA (csI' hj (csF' k1 (csF' q (csT' (eF e).1 (csT' (eF e).2.1 (csT' (eF e).2.2 csN'))))))) w hL
theorem law18_1 (ds : Int) (hc : Cu x (xA 18 0 0 0 false false ds 0 0 0 0)) (hv : vP18 0 0 0 false false ds 0 0 0 0 = true) (hj : Int.tmod x.wh 6 = 1) (w : World) (hL : Laid h12 w) : Lw x w := by
  rcases Bool.eq_false_or_eq_true (decide (x.to ≥ 0)) with k1 | k1
  · rcases Bool.eq_false_or_eq_true (decide (x.to < 16)) with k2 | k2
    · rcases Bool.eq_false_or_eq_true (eqD (xA 18 0 0 0 false false ds x.to 0 0 0) (xA 18 0 0 0 false false ds 0 0 0 0)) with k3 | k3
      · have e : vP 18 0 0 0 false false ds x.to 0 0 0 = true := by
          show vP18 0 0 0 false false ds x.to 0 0 0 = true
          simp_all [vP18]
        exact u18_3 x ds hc (csA (csI' hj (csT' k1 (csT' k2 (csT' k3 (csT' e (csT' (eT e) csN'))))))) w hL
      · have e : vP 18 0 0 0 false false ds x.to 0 0 0 = false := by
          show vP18 0 0 0 false false ds x.to 0 0 0 = false
          simp_all [vP18]
        exact u18_4 x ds hc (csA (csI' hj (csT' k1 (csT' k2 (csF' k3 (csT' (eF e).1 (csT' (eF e).2.1 (csT' (eF e).2.2 csN')))))))) w hL
    · rcases Bool.eq_false_or_eq_true (eqD (xA 18 0 0 0 false false ds x.to 0 0 0) (xA 18 0 0 0 false false ds 0 0 0 0)) with k4 | k4
      · have e : vP 18 0 0 0 false false ds x.to 0 0 0 = true := by
          show vP18 0 0 0 false false ds x.to 0 0 0 = true
          simp_all [vP18]
        exact u18_5 x ds hc (csA (csI' hj (csT' k1 (csF' k2 (csT' k4 (csT' e (csT' (eT e) csN'))))))) w hL
      · have e : vP 18 0 0 0 false false ds x.to 0 0 0 = false := by
          show vP18 0 0 0 false false ds x.to 0 0 0 = false
          simp_all [vP18]
        exact u18_6 x ds hc (csA (csI' hj (csT' k1 (csF' k2 (csF' k4 (csT' (eF e).1 (csT' (eF e).2.1 (csT' (eF e).2.2 csN')))))))) w hL
  · rcases Bool.eq_false_or_eq_true (eqD (xA 18 0 0 0 false false ds x.to 0 0 0) (xA 18 0 0 0 false false ds 0 0 0 0)) with k5 | k5
    · have e : vP 18 0 0 0 false false ds x.to 0 0 0 = true := by
        show vP18 0 0 0 false false ds x.to 0 0 0 = true
        simp_all [vP18]
      exact u18_7 x ds hc (csA (csI' hj (csF' k1 (csT' k5 (csT' e (csT' (eT e) csN')))))) w hL
    · have e : vP 18 0 0 0 false false ds x.to 0 0 0 = false := by
        show vP18 0 0 0 false false ds x.to 0 0 0 = false
        simp_all [vP18]
      exact u18_8 x ds hc (csA (csI' hj (csF' k1 (csF' k5 (csT' (eF e).1 (csT' (eF e).2.1 (csT' (eF e).2.2 csN'))))))) w hL
theorem law18_2 (ds : Int) (hc : Cu x (xA 18 0 0 0 false false ds 0 0 0 0)) (hv : vP18 0 0 0 false false ds 0 0 0 0 = true) (hj : Int.tmod x.wh 6 = 2) (w : World) (hL : Laid h12 w) : Lw x w := by
  rcases Bool.eq_false_or_eq_true (eqD (xA 18 0 0 x.to false false ds 0 0 0 0) (xA 18 0 0 0 false false ds 0 0 0 0)) with k1 | k1
  · have e : vP 18 0 0 x.to false false ds 0 0 0 0 = true := by
      show vP18 0 0 x.to false false ds 0 0 0 0 = true
      simp_all [vP18]
    exact u18_9 x ds hc (csA (csI' hj (csT' k1 (csT' e (csT' (eT e) csN'))))) w hL
  · have e : vP 18 0 0 x.to false false ds 0 0 0 0 = false := by
      show vP18 0 0 x.to false false ds 0 0 0 0 = false
      simp_all [vP18]
    exact u18_10 x ds hc (csA (csI' hj (csF' k1 (csT' (eF e).1 (csT' (eF e).2.1 (csT' (eF e).2.2 csN')))))) w hL
theorem law18_3 (ds : Int) (hc : Cu x (xA 18 0 0 0 false false ds 0 0 0 0)) (hv : vP18 0 0 0 false false ds 0 0 0 0 = true) (hj : Int.tmod x.wh 6 = 3) (w : World) (hL : Laid h12 w) : Lw x w := by
  rcases Bool.eq_false_or_eq_true (eqD (xA 18 0 x.to 0 false false ds 0 0 0 0) (xA 18 0 0 0 false false ds 0 0 0 0)) with k1 | k1
  · have e : vP 18 0 x.to 0 false false ds 0 0 0 0 = true := by
      show vP18 0 x.to 0 false false ds 0 0 0 0 = true
      simp_all [vP18]
    exact u18_11 x ds hc (csA (csI' hj (csT' k1 (csT' e (csT' (eT e) csN'))))) w hL
  · have e : vP 18 0 x.to 0 false false ds 0 0 0 0 = false := by
      show vP18 0 x.to 0 false false ds 0 0 0 0 = false
      simp_all [vP18]
    exact u18_12 x ds hc (csA (csI' hj (csF' k1 (csT' (eF e).1 (csT' (eF e).2.1 (csT' (eF e).2.2 csN')))))) w hL
theorem law18_4 (ds : Int) (hc : Cu x (xA 18 0 0 0 false false ds 0 0 0 0)) (hv : vP18 0 0 0 false false ds 0 0 0 0 = true) (hj : Int.tmod x.wh 6 = 4) (w : World) (hL : Laid h12 w) : Lw x w := by
  rcases Bool.eq_false_or_eq_true (eqD (xA 18 0 0 0 false false ds 0 0 (IntKind.i32.wrap x.to) 0) (xA 18 0 0 0 false false ds 0 0 0 0)) with k1 | k1
  · have e : vP 18 0 0 0 false false ds 0 0 (IntKind.i32.wrap x.to) 0 = true := by
      show vP18 0 0 0 false false ds 0 0 (IntKind.i32.wrap x.to) 0 = true
      simp_all [vP18]
    exact u18_13 x ds hc (csA (csI' hj (csT' k1 (csT' e (csT' (eT e) csN'))))) w hL
  · have e : vP 18 0 0 0 false false ds 0 0 (IntKind.i32.wrap x.to) 0 = false := by
      show vP18 0 0 0 false false ds 0 0 (IntKind.i32.wrap x.to) 0 = false
      simp_all [vP18]
    exact u18_14 x ds hc (csA (csI' hj (csF' k1 (csT' (eF e).1 (csT' (eF e).2.1 (csT' (eF e).2.2 csN')))))) w hL
theorem law18_5 (ds : Int) (hc : Cu x (xA 18 0 0 0 false false ds 0 0 0 0)) (hv : vP18 0 0 0 false false ds 0 0 0 0 = true) (hj : Int.tmod x.wh 6 = 5) (w : World) (hL : Laid h12 w) : Lw x w := by
  rcases Bool.eq_false_or_eq_true (eqD (xA 18 0 0 0 false false ds 0 (IntKind.i32.wrap x.to) 0 0) (xA 18 0 0 0 false false ds 0 0 0 0)) with k1 | k1
  · have e : vP 18 0 0 0 false false ds 0 (IntKind.i32.wrap x.to) 0 0 = true := by
      show vP18 0 0 0 false false ds 0 (IntKind.i32.wrap x.to) 0 0 = true
      simp_all [vP18]
    exact u18_15 x ds hc (csA (csI' hj (csT' k1 (csT' e (csT' (eT e) csN'))))) w hL
  · have e : vP 18 0 0 0 false false ds 0 (IntKind.i32.wrap x.to) 0 0 = false := by
      show vP18 0 0 0 false false ds 0 (IntKind.i32.wrap x.to) 0 0 = false
      simp_all [vP18]
    exact u18_16 x ds hc (csA (csI' hj (csF' k1 (csT' (eF e).1 (csT' (eF e).2.1 (csT' (eF e).2.2 csN')))))) w hL
theorem u19_0  (hc : Cu x (xA 19 0 0 0 false false 0 0 0 0 0)) : Ru x [(Int.tmod x.wh 6, 0), (b2i (decide (x.to ≥ 0)), 1), (b2i (decide (x.to < 16)), 1), (b2i (eqD (xA 19 0 0 0 false false x.to 0 0 0 0) (xA 19 0 0 0 false false 0 0 0 0 0)), 1), (b2i (vP 19 0 0 0 false false x.to 0 0 0 0), 1), (b2i (encE 19 0 0 0 false false x.to 0 0 0 0 == 0), 1)] := lf (orHook_ok (hk_cut_ok hc) hkU_ok) (ocs [(7, 58, .int .u8 0), (7, 81, .bool true), (7, 85, .bool true), (7, 220, .bool true), (7, 223, .bool true), (7, 227, .bool true)] []) (by kernel_rfl) (by kernel_rfl) (by kernel_rfl)
theorem u19_1  (hc : Cu x (xA 19 0 0 0 false false 0 0 0 0 0)) : Ru x [(Int.tmod x.wh 6, 0), (b2i (decide (x.to ≥ 0)), 1), (b2i (decide (x.to < 16)), 1), (b2i (eqD (xA 19 0 0 0 false false x.to 0 0 0 0) (xA 19 0 0 0 false false 0 0 0 0 0)), 0), (b2i (!vP 19 0 0 0 false false x.to 0 0 0 0), 1), (b2i (encB 19 0 0 0 false false x.to 0 0 0 0 == ([] : List UInt8)), 1), (b2i (encE 19 0 0 0 false false x.to 0 0 0 0 == 2), 1)] := lf (orHook_ok (hk_cut_ok hc) hkU_ok) (ocs [(7, 58, .int .u8 0), (7, 81, .bool true), (7, 85, .bool true), (7, 220, .bool false), (7, 233, .bool true), (7, 237, .bool true), (7, 241, .bool true)] []) (by kernel_rfl) (by kernel_rfl) (by kernel_rfl)
theorem u19_2  (hc : Cu x (xA 19 0 0 0 false false 0 0 0 0 0)) : Ru x [(Int.tmod x.wh 6, 0), (b2i (decide (x.to ≥ 0)), 1), (b2i (decide (x.to < 16)), 0), (b2i (eqD (xA 19 0 0 0 false false x.to 0 0 0 0) (xA 19 0 0 0 false false 0 0 0 0 0)), 1), (b2i (vP 19 0 0 0 false false x.to 0 0 0 0), 1), (b2i (encE 19 0 0 0 false false x.to 0 0 0 0 == 0), 1)] := lf (orHook_ok (hk_cut_ok hc) hkU_ok) (ocs [(7, 58, .int .u8 0), (7, 81, .bool true), (7, 85, .bool false), (7, 220, .bool true), (7, 223, .bool true), (7, 227, .bool true)] []) (by kernel_rfl) (by kernel_rfl) (by kernel_rfl)
theorem u19_3  (hc : Cu x (xA 19 0 0 0 false false 0 0 0 0 0)) : Ru x [(Int.tmod x.wh 6, 0), (b2i (decide (x.to ≥ 0)), 1), (b2i (decide (x.to < 16)), 0), (b2i (eqD (xA 19 0 0 0 false false x.to 0 0 0 0) (xA 19 0 0 0 false false 0 0 0 0 0)), 0), (b2i (!vP 19 0 0 0 false false x.to 0 0 0 0), 1), (b2i (encB 19 0 0 0 false false x.to 0 0 0 0 == ([] : List UInt8)), 1), (b2i (encE 19 0 0 0 false false x.to 0 0 0 0 == 2), 1)] := lf (orHook_ok (hk_cut_ok hc) hkU_ok) (ocs [(7, 58, .int .u8 0), (7, 81, .bool true), (7, 85, .bool false), (7, 220, .bool false), (7, 233, .bool true), (7, 237, .bool true), (7, 241, .bool true)] []) (by kernel_rfl) (by kernel_rfl) (by kernel_rfl)
theorem u19_4  (hc : Cu x (xA 19 0 0 0 false false 0 0 0 0 0)) : Ru x [(Int.tmod x.wh 6, 0), (b2i (decide (x.to ≥ 0)), 0), (b2i (eqD (xA 19 0 0 0 false false x.to 0 0 0 0) (xA 19 0 0 0 false false 0 0 0 0 0)), 1), (b2i (vP 19 0 0 0 false false x.to 0 0 0 0), 1), (b2i (encE 19 0 0 0 false false x.to 0 0 0 0 == 0), 1)] := lf (orHook_ok (hk_cut_ok hc) hkU_ok) (ocs [(7, 58, .int .u8 0), (7, 81, .bool false), (7, 220, .bool true), (7, 223, .bool true), (7, 227, .bool true)] []) (by kernel_rfl) (by kernel_rfl) (by kernel_rfl)
theorem u19_5  (hc : Cu x (xA 19 0 0 0 false false 0 0 0 0 0)) : Ru x [(Int.tmod x.wh 6, 0), (b2i (decide (x.to ≥ 0)), 0), (b2i (eqD (xA 19 0 0 0 false false x.to 0 0 0 0) (xA 19 0 0 0 false false 0 0 0 0 0)), 0), (b2i (!vP 19 0 0 0 false false x.to 0 0 0 0), 1), (b2i (encB 19 0 0 0 false false x.to 0 0 0 0 == ([] : List UInt8)), 1), (b2i (encE 19 0 0 0 false false x.to 0 0 0 0 == 2), 1)] := lf (orHook_ok (hk_cut_ok hc) hkU_ok) (ocs [(7, 58, .int .u8 0), (7, 81, .bool false), (7, 220, .bool false), (7, 233, .bool true), (7, 237, .bool true), (7, 241, .bool true)] []) (by kernel_rfl) (by kernel_rfl) (by kernel_rfl)
theorem u19_6  (hc : Cu x (xA 19 0 0 0 false false 0 0 0 0 0)) : Ru x [(Int.tmod x.wh 6, 1), (b2i (decide (x.to ≥ 0)), 1), (b2i (decide (x.to < 16)), 1), (b2i (eqD (xA 19 0 0 0 false false 0 x.to 0 0 0) (xA 19 0 0 0 false false 0 0 0 0 0)), 1), (b2i (vP 19 0 0 0 false false 0 x.to 0 0 0), 1), (b2i (encE 19 0 0 0 false false 0 x.to 0 0 0 == 0), 1)] := lf (orHook_ok (hk_cut_ok hc) hkU_ok) (ocs [(7, 58, .int .u8 1), (7, 110, .bool true), (7, 114, .bool true), (7, 220, .bool true), (7, 223, .bool true), (7, 227, .bool true)] []) (by kernel_rfl) (by kernel_rfl) (by kernel_rfl)
theorem u19_7  (hc : Cu x (xA 19 0 0 0 false false 0 0 0 0 0)) : Ru x [(Int.tmod x.wh 6, 1), (b2i (decide (x.to ≥ 0)), 1), (b2i (decide (x.to < 16)), 1), (b2i (eqD (xA 19 0 0 0 false false 0 x.to 0 0 0) (xA 19 0 0 0 false false 0 0 0 0 0)), 0), (b2i (!vP 19 0 0 0 false false 0 x.to 0 0 0), 1), (b2i (encB 19 0 0 0 false false 0 x.to 0 0 0 == ([] : List UInt8)), 1), (b2i (encE 19 0 0 0 false false 0 x.to 0 0 0 == 2), 1)] := lf (orHook_ok (hk_cut_ok hc) hkU_ok) (ocs [(7, 58, .int .u8 1), (7, 110, .bool true), (7, 114, .bool true), (7, 220, .bool false), (7, 233, .bool true), (7, 237, .bool true), (7, 241, .bool true)] []) (by kernel_rfl) (by kernel_rfl) (by kernel_rfl)
theorem u19_8  (hc : Cu x (xA 19 0 0 0 false false 0 0 0 0 0)) : Ru x [(Int.tmod x.wh 6, 1), (b2i (decide (x.to ≥ 0)), 1), (b2i (decide (x.to < 16)), 0), (b2i (eqD (xA 19 0 0 0 false false 0 x.to 0 0 0) (xA 19 0 0 0 false false 0 0 0 0 0)), 1), (b2i (vP 19 0 0 0 false false 0 x.to 0 0 0), 1), (b2i (encE 19 0 0 0 false false 0 x.to 0 0 0 == 0), 1)] := lf (orHook_ok (hk_cut_ok hc) hkU_ok) (ocs [(7, 58, .int .u8 1), (7, 110, .bool true), (7, 114, .bool false), (7, 220, .bool true), (7, 223, .bool true), (7, 227, .bool true)] []) (by kernel_rfl) (by kernel_rfl) (by kernel_rfl)
theorem u19_9  (hc : Cu x (xA 19 0 0 0 false false 0 0 0 0 0)) : Ru x [(Int.tmod x.wh 6, 1), (b2i (decide (x.to ≥ 0)), 1), (b2i (decide (x.to < 16)), 0), (b2i (eqD (xA 19 0 0 0 false false 0 x.to 0 0 0) (xA 19 0 0 0 false false 0 0 0 0 0)), 0), (b2i (!vP 19 0 0 0 false false 0 x.to 0 0 0), 1), (b2i (encB 19 0 0 0 false false 0 x.to 0 0 0 == ([] : List UInt8)), 1), (b2i (encE 19 0 0 0 false false 0 x.to 0 0 0 == 2), 1)] := lf (orHook_ok (hk_cut_ok hc) hkU_ok) (ocs [(7, 58, .int .u8 1), (7, 110, .bool true), (7, 114, .bool false), (7, 220, .bool false), (7, 233, .bool true), (7, 237, .bool true), (7, 241, .bool true)] []) (by kernel_rfl) (by kernel_rfl) (by kernel_rfl)
theorem u19_10  (hc : Cu x (xA 19 0 0 0 false false 0 0 0 0 0)) : Ru x [(Int.tmod x.wh 6, 1), (b2i (decide (x.to ≥ 0)), 0), (b2i (eqD (xA 19 0 0 0 false false 0 x.to 0 0 0) (xA 19 0 0 0 false false 0 0 0 0 0)), 1), (b2i (vP 19 0 0 0 false false 0 x.to 0 0 0), 1), (b2i (encE 19 0 0 0 false false 0 x.to 0 0 0 == 0), 1)] := lf (orHook_ok (hk_cut_ok hc) hkU_ok) (ocs [(7, 58, .int .u8 1), (7, 110, .bool false), (7, 220, .bool true), (7, 223, .bool true), (7, 227, .bool true)] []) (by kernel_rfl) (by kernel_rfl) (by kernel_rfl)
theorem u19_11  (hc : Cu x (xA 19 0 0 0 false false 0 0 0 0 0)) : Ru x [(Int.tmod x.wh 6, 1), (b2i (decide (x.to ≥ 0)), 0), (b2i (eqD (xA 19 0 0 0 false false 0 x.to 0 0 0) (xA 19 0 0 0 false false 0 0 0 0 0)), 0), (b2i (!vP 19 0 0 0 false false 0 x.to 0 0 0), 1), (b2i (encB 19 0 0 0 false false 0 x.to 0 0 0 == ([] : List UInt8)), 1), (b2i (encE 19 0 0 0 false false 0 x.to 0 0 0 == 2), 1)] := lf (orHook_ok (hk_cut_ok hc) hkU_ok) (ocs [(7, 58, .int .u8 1), (7, 110, .bool false), (7, 220, .bool false), (7, 233, .bool true), (7, 237, .bool true), (7, 241, .bool true)] []) (by kernel_rfl) (by kernel_rfl) (by kernel_rfl)
theorem u19_12  (hc : Cu x (xA 19 0 0 0 false false 0 0 0 0 0)) : Ru x [(Int.tmod x.wh 6, 2), (b2i (eqD (xA 19 0 0 x.to false false 0 0 0 0 0) (xA 19 0 0 0 false false 0 0 0 0 0)), 1), (b2i (vP 19 0 0 x.to false false 0 0 0 0 0), 1), (b2i (encE 19 0 0 x.to false false 0 0 0 0 0 == 0), 1)] := lf (orHook_ok (hk_cut_ok hc) hkU_ok) (ocs [(7, 58, .int .u8 2), (7, 220, .bool true), (7, 223, .bool true), (7, 227, .bool true)] []) (by kernel_rfl) (by kernel_rfl) (by kernel_rfl)
theorem u19_13  (hc : Cu x (xA 19 0 0 0 false false 0 0 0 0 0)) : Ru x [(Int.tmod x.wh 6, 2), (b2i (eqD (xA 19 0 0 x.to false false 0 0 0 0 0) (xA 19 0 0 0 false false 0 0 0 0 0)), 0), (b2i (!vP 19 0 0 x.to false false 0 0 0 0 0), 1), (b2i (encB 19 0 0 x.to false false 0 0 0 0 0 == ([] : List UInt8)), 1), (b2i (encE 19 0 0 x.to false false 0 0 0 0 0 == 2), 1)] := lf (orHook_ok (hk_cut_ok hc) hkU_ok) (ocs [(7, 58, .int .u8 2), (7, 220, .bool false), (7, 233, .bool true), (7, 237, .bool true), (7, 241, .bool true)] []) (by kernel_rfl) (by kernel_rfl) (by kernel_rfl)
theorem u19_14  (hc : Cu x (xA 19 0 0 0 false false 0 0 0 0 0)) : Ru x [(Int.tmod x.wh 6, 3), (b2i (eqD (xA 19 0 x.to 0 false false 0 0 0 0 0) (xA 19 0 0 0 false false 0 0 0 0 0)), 1), (b2i (vP 19 0 x.to 0 false false 0 0 0 0 0), 1), (b2i (encE 19 0 x.to 0 false false 0 0 0 0 0 == 0), 1)] := lf (orHook_ok (hk_cut_ok hc) hkU_ok) (ocs [(7, 58, .int .u8 3), (7, 220, .bool true), (7, 223, .bool true), (7, 227, .bool true)] []) (by kernel_rfl) (by kernel_rfl) (by kernel_rfl)
theorem u19_15  (hc : Cu x (xA 19 0 0 0 false false 0 0 0 0 0)) : Ru x [(Int.tmod x.wh 6, 3), (b2i (eqD (xA 19 0 x.to 0 false false 0 0 0 0 0) (xA 19 0 0 0 false false 0 0 0 0 0)), 0), (b2i (!vP 19 0 x.to 0 false false 0 0 0 0 0), 1), (b2i (encB 19 0 x.to 0 false false 0 0 0 0 0 == ([] : List UInt8)), 1), (b2i (encE 19 0 x.to 0 false false 0 0 0 0 0 == 2), 1)] := lf (orHook_ok (hk_cut_ok hc) hkU_ok) (ocs [(7, 58, .int .u8 3), (7, 220, .bool false), (7, 233, .bool true), (7, 237, .bool true), (7, 241, .bool true)] []) (by kernel_rfl) (by kernel_rfl) (by kernel_rfl)
theorem u19_16  (hc : Cu x (xA 19 0 0 0 false false 0 0 0 0 0)) : Ru x [(Int.tmod x.wh 6, 4), (b2i (eqD (xA 19 0 0 0 false false 0 0 0 (IntKind.i32.wrap x.to) 0) (xA 19 0 0 0 false false 0 0 0 0 0)), 1), (b2i (vP 19 0 0 0 false false 0 0 0 (IntKind.i32.wrap x.to) 0), 1), (b2i (encE 19 0 0 0 false false 0 0 0 (IntKind.i32.wrap x.to) 0 == 0), 1)] := lf (orHook_ok (hk_cut_ok hc) hkU_ok) (ocs [(7, 58, .int .u8 4), (7, 220, .bool true), (7, 223, .bool true), (7, 227, .bool true)] []) (by kernel_rfl) (by kernel_rfl) (by kernel_rfl)
theorem u19_17  (hc : Cu x (xA 19 0 0 0 false false 0 0 0 0 0)) : Ru x [(Int.tmod x.wh 6, 4), (b2i (eqD (xA 19 0 0 0 false false 0 0 0 (IntKind.i32.wrap x.to) 0) (xA 19 0 0 0 false false 0 0 0 0 0)), 0), (b2i (!vP 19 0 0 0 false false 0 0 0 (IntKind.i32.wrap x.to) 0), 1), (b2i (encB 19 0 0 0 false false 0 0 0 (IntKind.i32.wrap x.to) 0 == ([] : List UInt8)), 1), (b2i (encE 19 0 0 0 false false 0 0 0 (IntKind.i32.wrap x.to) 0 == 2), 1)] := lf (orHook_ok (hk_cut_ok hc) hkU_ok) (ocs [(7, 58, .int .u8 4), (7, 220, .bool false), (7, 233, .bool true), (7, 237, .bool true), (7, 241, .bool true)] []) (by kernel_rfl) (by kernel_rfl) (by kernel_rfl)
theorem u19_18  (hc : Cu x (xA 19 0 0 0 false false 0 0 0 0 0)) : Ru x [(Int.tmod x.wh 6, 5), (b2i (eqD (xA 19 0 0 0 false false 0 0 (IntKind.i32.wrap x.to) 0 0) (xA 19 0 0 0 false false 0 0 0 0 0)), 1), (b2i (vP 19 0 0 0 false false 0 0 (IntKind.i32.wrap x.to) 0 0), 1), (b2i (encE 19 0 0 0 false false 0 0 (IntKind.i32.wrap x.to) 0 0 == 0), 1)] := lf (orHook_ok (hk_cut_ok hc) hkU_ok) (ocs [(7, 58, .int .u8 5), (7, 220, .bool true), (7, 223, .bool true), (7, 227, .bool true)] []) (by kernel_rfl) (by kernel_rfl) (by kernel_rfl)
theorem u19_19  (hc : Cu x (xA 19 0 0 0 false false 0 0 0 0 0)) : Ru x [(Int.tmod x.wh 6, 5), (b2i (eqD (xA 19 0 0 0 false false 0 0 (IntKind.i32.wrap x.to) 0 0) (xA 19 0 0 0 false false 0 0 0 0 0)), 0), (b2i (!vP 19 0 0 0 false false 0 0 (IntKind.i32.wrap x.to) 0 0), 1), (b2i (encB 19 0 0 0 false false 0 0 (IntKind.i32.wrap x.to) 0 0 == ([] : List UInt8)), 1), (b2i (encE 19 0 0 0 false false 0 0 (IntKind.i32.wrap x.to) 0 0 == 2), 1)] := lf (orHook_ok (hk_cut_ok hc) hkU_ok) (ocs [(7, 58, .int .u8 5), (7, 220, .bool false), (7, 233, .bool true), (7, 237, .bool true), (7, 241, .bool true)] []) (by kernel_rfl) (by kernel_rfl) (by kernel_rfl)
theorem law19_0  (hc : Cu x (xA 19 0 0 0 false false 0 0 0 0 0)) (hv : vP19 0 0 0 false false 0 0 0 0 0 = true) (hj : Int.tmod x.wh 6 = 0) (w : World) (hL : Laid h12 w) : Lw x w := by
  rcases Bool.eq_false_or_eq_true (decide (x.to ≥ 0)) with k1 | k1
  · rcases Bool.eq_false_or_eq_true (decide (x.to < 16)) with k2 | k2
    · rcases Bool.eq_false_or_eq_true (eqD (xA 19 0 0 0 false false x.to 0 0 0 0) (xA 19 0 0 0 false false 0 0 0 0 0)) with k3 | k3
      · have e : vP 19 0 0 0 false false x.to 0 0 0 0 = true := by
          show vP19 0 0 0 false false x.to 0 0 0 0 = true
          simp_all [vP19]
        exact u19_0 x  hc (csA (csI' hj (csT' k1 (csT' k2 (csT' k3 (csT' e (csT' (eT e) csN'))))))) w hL
      · have e : vP 19 0 0 0 false false x.to 0 0 0 0 = false := by
          show vP19 0 0 0 false false x.to 0 0 0 0 = false
          simp_all [vP19]
        exact u19_1 x  hc (csA (csI' hj (csT' k1 (csT' k2 (csF' k3 (csT' (eF e).1 (csT' (eF e).2.1 (csT' (eF e).2.2 csN')))))))) w hL
    · rcases Bool.eq_false_or_eq_true (eqD (xA 19 0 0 0 false false x.to 0 0 0 0) (xA 19 0 0 0 false false 0 0 0 0 0)) with k4 | k4
      · have e : vP 19 0 0 0 false false x.to 0 0 0 0 = true := by
          show vP19 0 0 0 false false x.to 0 0 0 0 = true
          simp_all [vP19]
        exact u19_2 x  hc (csA (csI' hj (csT' k1 (csF' k2 (csT' k4 (csT' e (csT' (eT e) csN'))))))) w hL
      · have e : vP 19 0 0 0 false false x.to 0 0 0 0 = false := by
          show vP19 0 0 0 false false x.to 0 0 0 0 = false
          simp_all [vP19]
        exact u19_3 x  hc (csA (csI' hj (csT' k1 (csF' k2 (csF' k4 (csT' (eF e).1 (csT' (eF e).2.1 (csT' (eF e).2.2 csN')))))))) w hL
  · rcases Bool.eq_false_or_eq_true (eqD (xA 19 0 0 0 false false x.to 0 0 0 0) (xA 19 0 0 0 false false 0 0 0 0 0)) with k5 | k5
    · have e : vP 19 0 0 0 false false x.to 0 0 0 0 = true := by
        show vP19 0 0 0 false false x.to 0 0 0 0 = true
        simp_all [vP19]
      exact u19_4 x  hc (csA (csI' hj (csF' k1 (csT' k5 (csT' e (csT' (eT e) csN')))))) w hL
    · have e : vP 19 0 0 0 false false x.to 0 0 0 0 = false := by
        show vP19 0 0 0 false false x.to 0 0 0 0 = false
        simp_all [vP19]
      exact u19_5 x  hc (csA (csI' hj (csF' k1 (csF' k5 (csT' (eF e).1 (csT' (eF e).2.1 (csT' (eF e).2.2 csN'))))))) w hL
theorem law19_1  (hc : Cu x (xA 19 0 0 0 false false 0 0 0 0 0)) (hv : vP19 0 0 0 false false 0 0 0 0 0 = true) (hj : Int.tmod x.wh 6 = 1) (w : World) (hL : Laid h12 w) : Lw x w := by
  rcases Bool.eq_false_or_eq_true (decide (x.to ≥ 0)) with k1 | k1
  · rcases Bool.eq_false_or_eq_true (decide (x.to < 16)) with k2 | k2
    · rcases Bool.eq_false_or_eq_true (eqD (xA 19 0 0 0 false false 0 x.to 0 0 0) (xA 19 0 0 0 false false 0 0 0 0 0)) with k3 | k3
      · have e : vP 19 0 0 0 false false 0 x.to 0 0 0 = true := by
          show vP19 0 0 0 false false 0 x.to 0 0 0 = true
          simp_all [vP19]
        exact u19_6 x  hc (csA (csI' hj (csT' k1 (csT' k2 (csT' k3 (csT' e (csT' (eT e) csN'))))))) w hL
      · have e : vP 19 0 0 0 false false 0 x.to 0 0 0 = false := by
          show vP19 0 0 0 false false 0 x.to 0 0 0 = false
          simp_all [vP19]
        exact u19_7 x  hc (csA (csI' hj (csT' k1 (csT' k2 (csF' k3 (csT' (eF e).1 (csT' (eF e).2.1 (csT' (eF e).2.2 csN')))))))) w hL
    · rcases Bool.eq_false_or_eq_true (eqD (xA 19 0 0 0 false false 0 x.to 0 0 0) (xA 19 0 0 0 false false 0 0 0 0 0)) with k4 | k4
      · have e : vP 19 0 0 0 false false 0 x.to 0 0 0 = true := by
          show vP19 0 0 0 false false 0 x.to 0 0 0 = true
          simp_all [vP19]
        exact u19_8 x  hc (csA (csI' hj (csT' k1 (csF' k2 (csT' k4 (csT' e (csT' (eT e) csN'))))))) w hL
      · have e : vP 19 0 0 0 false false 0 x.to 0 0 0 = false := by
          show vP19 0 0 0 false false 0 x.to 0 0 0 = false
          simp_all [vP19]
        exact u19_9 x  hc (csA (csI' hj (csT' k1 (csF' k2 (csF' k4 (csT' (eF e).1 (csT' (eF e).2.1 (csT' (eF e).2.2 csN')))))))) w hL
  · rcases Bool.eq_false_or_eq_true (eqD (xA 19 0 0 0 false false 0 x.to 0 0 0) (xA 19 0 0 0 false false 0 0 0 0 0)) with k5 | k5
    · have e : vP 19 0 0 0 false false 0 x.to 0 0 0 = true := by
        show vP19 0 0 0 false false 0 x.to 0 0 0 = true
        simp_all [vP19]
      exact u19_10 x  hc (csA (csI' hj (csF' k1 (csT' k5 (csT' e (csT' (eT e) csN')))))) w hL
    · have e : vP 19 0 0 0 false false 0 x.to 0 0 0 = false := by
        show vP19 0 0 0 false false 0 x.to 0 0 0 = false
        simp_all [vP19]
      exact u19_11 x  hc (csA (csI' hj (csF' k1 (csF' k5 (csT' (eF e).1 (csT' (eF e).2.1 (csT' (eF e).2.2 csN'))))))) w hL
theorem law19_2  (hc : Cu x (xA 19 0 0 0 false false 0 0 0 0 0)) (hv : vP19 0 0 0 false false 0 0 0 0 0 = true) (hj : Int.tmod x.wh 6 = 2) (w : World) (hL : Laid h12 w) : Lw x w := by
  rcases Bool.eq_false_or_eq_true (eqD (xA 19 0 0 x.to false false 0 0 0 0 0) (xA 19 0 0 0 false false 0 0 0 0 0)) with k1 | k1
  · have e : vP 19 0 0 x.to false false 0 0 0 0 0 = true := by
      show vP19 0 0 x.to false false 0 0 0 0 0 = true
      simp_all [vP19]
    exact u19_12 x  hc (csA (csI' hj (csT' k1 (csT' e (csT' (eT e) csN'))))) w hL
  · have e : vP 19 0 0 x.to false false 0 0 0 0 0 = false := by
      show vP19 0 0 x.to false false 0 0 0 0 0 = false
      simp_all [vP19]
    exact u19_13 x  hc (csA (csI' hj (csF' k1 (csT' (eF e).1 (csT' (eF e).2.1 (csT' (eF e).2.2 csN')))))) w hL
theorem law19_3  (hc : Cu x (xA 19 0 0 0 false false 0 0 0 0 0)) (hv : vP19 0 0 0 false false 0 0 0 0 0 = true) (hj : Int.tmod x.wh 6 = 3) (w : World) (hL : Laid h12 w) : Lw x w := by
  rcases Bool.eq_false_or_eq_true (eqD (xA 19 0 x.to 0 false false 0 0 0 0 0) (xA 19 0 0 0 false false 0 0 0 0 0)) with k1 | k1
  · have e : vP 19 0 x.to 0 false false 0 0 0 0 0 = true := by
      show vP19 0 x.to 0 false false 0 0 0 0 0 = true
      simp_all [vP19]
    exact u19_14 x  hc (csA (csI' hj (csT' k1 (csT' e (csT' (eT e) csN'))))) w hL
  · have e : vP 19 0 x.to 0 false false 0 0 0 0 0 = false := by
      show vP19 0 x.to 0 false false 0 0 0 0 0 = false
      simp_all [vP19]
    exact u19_15 x  hc (csA (csI' hj (csF' k1 (csT' (eF e).1 (csT' (eF e).2.1 (csT' (eF e).2.2 csN')))))) w hL
theorem law19_4  (hc : Cu x (xA 19 0 0 0 false false 0 0 0 0 0)) (hv : vP19 0 0 0 false false 0 0 0 0 0 = true) (hj : Int.tmod x.wh 6 = 4) (w : World) (hL : Laid h12 w) : Lw x w := by
  rcases Bool.eq_false_or_eq_true (eqD (xA 19 0 0 0 false false 0 0 0 (IntKind.i32.wrap x.to) 0) (xA 19 0 0 0 false false 0 0 0 0 0)) with k1 | k1
  · have e : vP 19 0 0 0 false false 0 0 0 (IntKind.i32.wrap x.to) 0 = true := by
      show vP19 0 0 0 false false 0 0 0 (IntKind.i32.wrap x.to) 0 = true
      simp_all [vP19]
    exact u19_16 x  hc (csA (csI' hj (csT' k1 (csT' e (csT' (eT e) csN'))))) w hL
  · have e : vP 19 0 0 0 false false 0 0 0 (IntKind.i32.wrap x.to) 0 = false := by
      show vP19 0 0 0 false false 0 0 0 (IntKind.i32.wrap x.to) 0 = false
      simp_all [vP19]
    exact u19_17 x  hc (csA (csI' hj (csF' k1 (csT' (eF e).1 (csT' (eF e).2.1 (csT' (eF e).2.2 csN')))))) w hL
theorem law19_5  (hc : Cu x (xA 19 0 0 0 false false 0 0 0 0 0)) (hv : vP19 0 0 0 false false 0 0 0 0 0 = true) (hj : Int.tmod x.wh 6 = 5) (w : World) (hL : Laid h12 w) : Lw x w := by
  rcases Bool.eq_false_or_eq_true (eqD (xA 19 0 0 0 false false 0 0 (IntKind.i32.wrap x.to) 0 0) (xA 19 0 0 0 false false 0 0 0 0 0)) with k1 | k1
  · have e : vP 19 0 0 0 false false 0 0 (IntKind.i32.wrap x.to) 0 0 = true := by
      show vP19 0 0 0 false false 0 0 (IntKind.i32.wrap x.to) 0 0 = true
      simp_all [vP19]
    exact u19_18 x  hc (csA (csI' hj (csT' k1 (csT' e (csT' (eT e) csN'))))) w hL
  · have e : vP 19 0 0 0 false false 0 0 (IntKind.i32.wrap x.to) 0 0 = false := by
      show vP19 0 0 0 false false 0 0 (IntKind.i32.wrap x.to) 0 0 = false
      simp_all [vP19]
    exact u19_19 x  hc (csA (csI' hj (csF' k1 (csT' (eF e).1 (csT' (eF e).2.1 (csT' (eF e).2.2 csN')))))) w hL
theorem u20_0 (re : Int) (hc : Cu x (xA 20 0 0 0 false false 0 0 0 re 0)) : Ru x [(Int.tmod x.wh 6, 0), (b2i (decide (x.to ≥ 0)), 1), (b2i (decide (x.to < 16)), 1), (b2i (eqD (xA 20 0 0 0 false false x.to 0 0 re 0) (xA 20 0 0 0 false false 0 0 0 re 0)), 1), (b2i (vP 20 0 0 0 false false x.to 0 0 re 0), 1), (b2i (encE 20 0 0 0 false false x.to 0 0 re 0 == 0), 1)] := lf (orHook_ok (hk_cut_ok hc) hkU_ok) (ocs [(7, 58, .int .u8 0), (7, 81, .bool true), (7, 85, .bool true), (7, 220, .bool true), (7, 223, .bool true), (7, 227, .bool true)] []) (by kernel_rfl) (by kernel_rfl) (by kernel_rfl)
theorem u20_1 (re : Int) (hc : Cu x (xA 20 0 0 0 false false 0 0 0 re 0)) : Ru x [(Int.tmod x.wh 6, 0), (b2i (decide (x.to ≥ 0)), 1), (b2i (decide (x.to < 16)), 1), (b2i (eqD (xA 20 0 0 0 false false x.to 0 0 re 0) (xA 20 0 0 0 false false 0 0 0 re 0)), 0), (b2i (!vP 20 0 0 0 false false x.to 0 0 re 0), 1), (b2i (encB 20 0 0 0 false false x.to 0 0 re 0 == ([] : List UInt8)), 1), (b2i (encE 20 0 0 0 false false x.to 0 0 re 0 == 2), 1)] := lf (orHook_ok (hk_cut_ok hc) hkU_ok) (ocs [(7, 58, .int .u8 0), (7, 81, .bool true), (7, 85, .bool true), (7, 220, .bool false), (7, 233, .bool true), (7, 237, .bool true), (7, 241, .bool true)] []) (by kernel_rfl) (by kernel_rfl) (by kernel_rfl)
theorem u20_2 (re : Int) (hc : Cu x (xA 20 0 0 0 false false 0 0 0 re 0)) : Ru x [(Int.tmod x.wh 6, 0), (b2i (decide (x.to ≥ 0)), 1), (b2i (decide (x.to < 16)), 0), (b2i (eqD (xA 20 0 0 0 false false x.to 0 0 re 0) (xA 20 0 0 0 false false 0 0 0 re 0)), 1), (b2i (vP 20 0 0 0 false false x.to 0 0 re 0), 1), (b2i (encE 20 0 0 0 false false x.to 0 0 re 0 == 0), 1)] := lf (orHook_ok (hk_cut_ok hc) hkU_ok) (ocs [(7, 58, .int .u8 0), (7, 81, .bool true), (7, 85, .bool false), (7, 220, .bool true), (7, 223, .bool true), (7, 227, .bool true)] []) (by kernel_rfl) (by kernel_rfl) (by kernel_rfl)
theorem u20_3 (re : Int) (hc : Cu x (xA 20 0 0 0 false false 0 0 0 re 0)) : Ru x [(Int.tmod x.wh 6, 0), (b2i (decide (x.to ≥ 0)), 1), (b2i (decide (x.to < 16)), 0), (b2i (eqD (xA 20 0 0 0 false false x.to 0 0 re 0) (xA 20 0 0 0 false false 0 0 0 re 0)), 0), (b2i (!vP 20 0 0 0 false false x.to 0 0 re 0), 1), (b2i (encB 20 0 0 0 false false x.to 0 0 re 0 == ([] : List UInt8)), 1), (b2i (encE 20 0 0 0 false false x.to 0 0 re 0 == 2), 1)] := lf (orHook_ok (hk_cut_ok hc) hkU_ok) (ocs [(7, 58, .int .u8 0), (7, 81, .bool true), (7, 85, .bool false), (7, 220, .bool false), (7, 233, .bool true), (7, 237, .bool true), (7, 241, .bool true)] []) (by kernel_rfl) (by kernel_rfl) (by kernel_rfl)
theorem u20_4 (re : Int) (hc : Cu x (xA 20 0 0 0 false false 0 0 0 re 0)) : Ru x [(Int.tmod x.wh 6, 0), (b2i (decide (x.to ≥ 0)), 0), (b2i (eqD (xA 20 0 0 0 false false x.to 0 0 re 0) (xA 20 0 0 0 false false 0 0 0 re 0)), 1), (b2i (vP 20 0 0 0 false false x.to 0 0 re 0), 1), (b2i (encE 20 0 0 0 false false x.to 0 0 re 0 == 0), 1)] := lf (orHook_ok (hk_cut_ok hc) hkU_ok) (ocs [(7, 58, .int .u8 0), (7, 81, .bool false), (7, 220, .bool true), (7, 223, .bool true), (7, 227, .bool true)] []) (by kernel_rfl) (by kernel_rfl) (by kernel_rfl)
theorem u20_5 (re : Int) (hc : Cu x (xA 20 0 0 0 false false 0 0 0 re 0)) : Ru x [(Int.tmod x.wh 6, 0), (b2i (decide (x.to ≥ 0)), 0), (b2i (eqD (xA 20 0 0 0 false false x.to 0 0 re 0) (xA 20 0 0 0 false false 0 0 0 re 0)), 0), (b2i (!vP 20 0 0 0 false false x.to 0 0 re 0), 1), (b2i (encB 20 0 0 0 false false x.to 0 0 re 0 == ([] : List UInt8)), 1), (b2i (encE 20 0 0 0 false false x.to 0 0 re 0 == 2), 1)] := lf (orHook_ok (hk_cut_ok hc) hkU_ok) (ocs [(7, 58, .int .u8 0), (7, 81, .bool false), (7, 220, .bool false), (7, 233, .bool true), (7, 237, .bool true), (7, 241, .bool true)] []) (by kernel_rfl) (by kernel_rfl) (by kernel_rfl)
theorem u20_6 (re : Int) (hc : Cu x (xA 20 0 0 0 false false 0 0 0 re 0)) : Ru x [(Int.tmod x.wh 6, 1), (b2i (decide (x.to ≥ 0)), 1), (b2i (decide (x.to < 16)), 1), (b2i (eqD (xA 20 0 0 0 false false 0 x.to 0 re 0) (xA 20 0 0 0 false false 0 0 0 re 0)), 1), (b2i (vP 20 0 0 0 false false 0 x.to 0 re 0), 1), (b2i (encE 20 0 0 0 false false 0 x.to 0 re 0 == 0), 1)] := lf (orHook_ok (hk_cut_ok hc) hkU_ok) (ocs [(7, 58, .int .u8 1), (7, 110, .bool true), (7, 114, .bool true), (7, 220, .bool true), (7, 223, .bool true), (7, 227, .bool true)] []) (by kernel_rfl) (by kernel_rfl) (by kernel_rfl)
theorem u20_7 (re : Int) (hc : Cu x (xA 20 0 0 0 false false 0 0 0 re 0)) : Ru x [(Int.tmod x.wh 6, 1), (b2i (decide (x.to ≥ 0)), 1), (b2i (decide (x.to < 16)), 1), (b2i (eqD (xA 20 0 0 0 false false 0 x.to 0 re 0) (xA 20 0 0 0 false false 0 0 0 re 0)), 0), (b2i (!vP 20 0 0 0 false false 0 x.to 0 re 0), 1), (b2i (encB 20 0 0 0 false false 0 x.to 0 re 0 == ([] : List UInt8)), 1), (b2i (encE 20 0 0 0 false false 0 x.to 0 re 0 == 2), 1)] := lf (orHook_ok (hk_cut_ok hc) hkU_ok) (ocs [(7, 58, .int .u8 1), (7, 110, .bool true), (7, 114, .bool true), (7, 220, .bool false), (7, 233, .bool true), (7, 237, .bool true), (7, 241, .bool true)] []) (by kernel_rfl) (by kernel_rfl) (by kernel_rfl)
theorem u20_8 (re : Int) (hc : Cu x (xA 20 0 0 0 false false 0 0 0 re 0)) : Ru x [(Int.tmod x.wh 6, 1), (b2i (decide (x.to ≥ 0)), 1), (b2i (decide (x.to < 16)), 0), (b2i (eqD (xA 20 0 0 0 false false 0 x.to 0 re 0) (xA 20 0 0 0 false false 0 0 0 re 0)), 1), (b2i (vP 20 0 0 0 false false 0 x.to 0 re 0), 1), (b2i (encE 20 0 0 0 false false 0 x.to 0 re 0 == 0), 1)] := lf (orHook_ok (hk_cut_ok hc) hkU_ok) (ocs [(7, 58, .int .u8 1), (7, 110, .bool true), (7, 114, .bool false), (7, 220, .bool true), (7, 223, .bool true), (7, 227, .bool true)] []) (by kernel_rfl) (by kernel_rfl) (by kernel_rfl)
theorem u20_9 (re : Int) (hc : Cu x (xA 20 0 0 0 false false 0 0 0 re 0)) : Ru x [(Int.tmod x.wh 6, 1), (b2i (decide (x.to ≥ 0)), 1), (b2i (decide (x.to < 16)), 0), (b2i (eqD (xA 20 0 0 0 false false 0 x.to 0 re 0) (xA 20 0 0 0 false false 0 0 0 re 0)), 0), (b2i (!vP 20 0 0 0 false false 0 x.to 0 re 0), 1), (b2i (encB 20 0 0 0 false false 0 x.to 0 re 0 == ([] : List UInt8)), 1), (b2i (encE 20 0 0 0 false false 0 x.to 0 re 0 == 2), 1)] := lf (orHook_ok (hk_cut_ok hc) hkU_ok) (ocs [(7, 58, .int .u8 1), (7, 110, .bool true), (7, 114, .bool false), (7, 220, .bool false), (7, 233, .bool true), (7, 237, .bool true), (7, 241, .bool true)] []) (by kernel_rfl) (by kernel_rfl) (by kernel_rfl)
theorem u20_10 (re : Int) (hc : Cu x (xA 20 0 0 0 false false 0 0 0 re 0)) : Ru x [(Int.tmod x.wh 6, 1), (b2i (decide (x.to ≥ 0)), 0), (b2i (eqD (xA 20 0 0 0 false false 0 x.to 0 re 0) (xA 20 0 0 0 false false 0 0 0 re 0)), 1), (b2i (vP 20 0 0 0 false false 0 x.to 0 re 0), 1), (b2i (encE 20 0 0 0 false false 0 x.to 0 re 0 == 0), 1)] := lf (orHook_ok (hk_cut_ok hc) hkU_ok) (ocs [(7, 58, .int .u8 1), (7, 110, .bool false), (7, 220, .bool true), (7, 223, .bool true), (7, 227, .bool true)] []) (by kernel_rfl) (by kernel_rfl) (by kernel_rfl)
theorem u20_11 (re : Int) (hc : Cu x (xA 20 0 0 0 false false 0 0 0 re 0)) : Ru x [(Int.tmod x.wh 6, 1), (b2i (decide (x.to ≥ 0)), 0), (b2i (eqD (xA 20 0 0 0 false false 0 x.to 0 re 0) (xA 20 0 0 0 false false 0 0 0 re 0)), 0), (b2i (!vP 20 0 0 0 false false 0 x.to 0 re 0), 1), (b2i (encB 20 0 0 0 false false 0 x.to 0 re 0 == ([] : List UInt8)), 1), (b2i (encE 20 0 0 0 false false 0 x.to 0 re 0 == 2), 1)] := lf (orHook_ok (hk_cut_ok hc) hkU_ok) (ocs [(7, 58, .int .u8 1), (7, 110, .bool false), (7, 220, .bool false), (7, 233, .bool true), (7, 237, .bool true), (7, 241, .bool true)] []) (by kernel_rfl) (by kernel_rfl) (by kernel_rfl)
theorem u20_12 (re : Int) (hc : Cu x (xA 20 0 0 0 false false 0 0 0 re 0)) : Ru x [(Int.tmod x.wh 6, 2), (b2i (eqD (xA 20 0 0 x.to false false 0 0 0 re 0) (xA 20 0 0 0 false false 0 0 0 re 0)), 1), (b2i (vP 20 0 0 x.to false false 0 0 0 re 0), 1), (b2i (encE 20 0 0 x.to false false 0 0 0 re 0 == 0), 1)] := lf (orHook_ok (hk_cut_ok hc) hkU_ok) (ocs [(7, 58, .int .u8 2), (7, 220, .bool true), (7, 223, .bool true), (7, 227, .bool true)] []) (by kernel_rfl) (by kernel_rfl) (by kernel_rfl)
theorem u20_13 (re : Int) (hc : Cu x (xA 20 0 0 0 false false 0 0 0 re 0)) : Ru x [(Int.tmod x.wh 6, 2), (b2i (eqD (xA 20 0 0 x.to false false 0 0 0 re 0) (xA 20 0 0 0 false false 0 0 0 re 0)), 0), (b2i (!vP 20 0 0 x.to false false 0 0 0 re 0), 1), (b2i (encB 20 0 0 x.to false false 0 0 0 re 0 == ([] : List UInt8)), 1), (b2i (encE 20 0 0 x.to false false 0 0 0 re 0 == 2), 1)] := lf (orHook_ok (hk_cut_ok hc) hkU_ok) (ocs [(7, 58, .int .u8 2), (7, 220, .bool false), (7, 233, .bool true), (7, 237, .bool true), (7, 241, .bool true)] []) (by kernel_rfl) (by kernel_rfl) (by kernel_rfl)
theorem u20_14 (re : Int) (hc : Cu x (xA 20 0 0 0 false false 0 0 0 re 0)) : Ru x [(Int.tmod x.wh 6, 3), (b2i (eqD (xA 20 0 x.to 0 false false 0 0 0 re 0) (xA 20 0 0 0 false false 0 0 0 re 0)), 1), (b2i (vP 20 0 x.to 0 false false 0 0 0 re 0), 1), (b2i (encE 20 0 x.to 0 false false 0 0 0 re 0 == 0), 1)] := lf (orHook_ok (hk_cut_ok hc) hkU_ok) (ocs [(7, 58, .int .u8 3), (7, 220, .bool true), (7, 223, .bool true), (7, 227, .bool true)] []) (by kernel_rfl) (by kernel_rfl) (by kernel_rfl)
theorem u20_15 (re : Int) (hc : Cu x (xA 20 0 0 0 false false 0 0 0 re 0)) : Ru x [(Int.tmod x.wh 6, 3), (b2i (eqD (xA 20 0 x.to 0 false false 0 0 0 re 0) (xA 20 0 0 0 false false 0 0 0 re 0)), 0), (b2i (!vP 20 0 x.to 0 false false 0 0 0 re 0), 1), (b2i (encB 20 0 x.to 0 false false 0 0 0 re 0 == ([] : List UInt8)), 1), (b2i (encE 20 0 x.to 0 false false 0 0 0 re 0 == 2), 1)] := lf (orHook_ok (hk_cut_ok hc) hkU_ok) (ocs [(7, 58, .int .u8 3), (7, 220, .bool false), (7, 233, .bool true), (7, 237, .bool true), (7, 241, .bool true)] []) (by kernel_rfl) (by kernel_rfl) (by kernel_rfl)
theorem u20_16 (re : Int) (hc : Cu x (xA 20 0 0 0 false false 0 0 0 re 0)) : Ru x [(Int.tmod x.wh 6, 4), (b2i (vP 20 0 0 0 false false 0 0 0 (IntKind.i32.wrap x.to) 0 == (true)), 1)] := lf (orHook_ok (hk_cut_ok hc) hkU_ok) (ocs [(7, 58, .int .u8 4), (7, 210, .bool true)] []) (by kernel_rfl) (by kernel_rfl) (by kernel_rfl)
theorem u20_17 (re : Int) (hc : Cu x (xA 20 0 0 0 false false 0 0 0 re 0)) : Ru x [(Int.tmod x.wh 6, 5), (b2i (eqD (xA 20 0 0 0 false false 0 0 (IntKind.i32.wrap x.to) re 0) (xA 20 0 0 0 false false 0 0 0 re 0)), 1), (b2i (vP 20 0 0 0 false false 0 0 (IntKind.i32.wrap x.to) re 0), 1), (b2i (encE 20 0 0 0 false false 0 0 (IntKind.i32.wrap x.to) re 0 == 0), 1)] := lf (orHook_ok (hk_cut_ok hc) hkU_ok) (ocs [(7, 58, .int .u8 5), (7, 220, .bool true), (7, 223, .bool true), (7, 227, .bool true)] []) (by kernel_rfl) (by kernel_rfl) (by kernel_rfl)
theorem u20_18 (re : Int) (hc : Cu x (xA 20 0 0 0 false false 0 0 0 re 0)) : Ru x [(Int.tmod x.wh 6, 5), (b2i (eqD (xA 20 0 0 0 false false 0 0 (IntKind.i32.wrap x.to) re 0) (xA 20 0 0 0 false false 0 0 0 re 0)), 0), (b2i (!vP 20 0 0 0 false false 0 0 (IntKind.i32.wrap x.to) re 0), 1), (b2i (encB 20 0 0 0 false false 0 0 (IntKind.i32.wrap x.to) re 0 == ([] : List UInt8)), 1), (b2i (encE 20 0 0 0 false false 0 0 (IntKind.i32.wrap x.to) re 0 == 2), 1)] := lf (orHook_ok (hk_cut_ok hc) hkU_ok) (ocs [(7, 58, .int .u8 5), (7, 220, .bool false), (7, 233, .bool true), (7, 237, .bool true), (7, 241, .bool true)] []) (by kernel_rfl) (by kernel_rfl) (by kernel_rfl)
theorem law20_0 (re : Int) (hc : Cu x (xA 20 0 0 0 false false 0 0 0 re 0)) (hv : vP20 0 0 0 false false 0 0 0 re 0 = true) (hj : Int.tmod x.wh 6 = 0) (w : World) (hL : Laid h12 w) : Lw x w := by
  rcases Bool.eq_false_or_eq_true (decide (x.to ≥ 0)) with k1 | k1
  · rcases Bool.eq_false_or_eq_true (decide (x.to < 16)) with k2 | k2
    · rcases Bool.eq_false_or_eq_true (eqD (xA 20 0 0 0 false false x.to 0 0 re 0) (xA 20 0 0 0 false false 0 0 0 re 0)) with k3 | k3
      · have e : vP 20 0 0 0 false false x.to 0 0 re 0 = true := by
          show vP20 0 0 0 false false x.to 0 0 re 0 = true
          simp_all [vP20]
        exact u20_0 x re hc (csA (csI' hj (csT' k1 (csT' k2 (csT' k3 (csT' e (csT' (eT e) csN'))))))) w hL
      · have e : vP 20 0 0 0 false false x.to 0 0 re 0 = false := by
          show vP20 0 0 0 false false x.to 0 0 re 0 = false
          simp_all [vP20]
        exact u20_1 x re hc (csA (csI' hj (csT' k1 (csT' k2 (csF' k3 (csT' (eF e).1 (csT' (eF e).2.1 (csT' (eF e).2.2 csN')))))))) w hL
    · rcases Bool.eq_false_or_eq_true (eqD (xA 20 0 0 0 false false x.to 0 0 re 0) (xA 20 0 0 0 false false 0 0 0 re 0)) with k4 | k4
      · have e : vP 20 0 0 0 false false x.to 0 0 re 0 = true := by
          show vP20 0 0 0 false false x.to 0 0 re 0 = true
          simp_all [vP20]
        exact u20_2 x re hc (csA (csI' hj (csT' k1 (csF' k2 (csT' k4 (csT' e (csT' (eT e) csN'))))))) w hL
      · have e : vP 20 0 0 0 false false x.to 0 0 re 0 = false := by
          show vP20 0 0 0 false false x.to 0 0 re 0 = false
          simp_all [vP20]
        exact u20_3 x re hc (csA (csI' hj (csT' k1 (csF' k2 (csF' k4 (csT' (eF e).1 (csT' (eF e).2.1 (csT' (eF e).2.2 csN')))))))) w hL
  · rcases Bool.eq_false_or_eq_true (eqD (xA 20 0 0 0 false false x.to 0 0 re 0) (xA 20 0 0 0 false false 0 0 0 re 0)) with k5 | k5
    · have e : vP 20 0 0 0 false false x.to 0 0 re 0 = true := by
        show vP20 0 0 0 false false x.to 0 0 re 0 = true
        simp_all [vP20]
      exact u20_4 x re hc (csA (csI' hj (csF' k1 (csT' k5 (csT' e (csT' (eT e) csN')))))) w hL
    · have e : vP 20 0 0 0 false false x.to 0 0 re 0 = false := by
        show vP20 0 0 0 false false x.to 0 0 re 0 = false
        simp_all [vP20]
      exact u20_5 x re hc (csA (csI' hj (csF' k1 (csF' k5 (csT' (eF e).1 (csT' (eF e).2.1 (csT' (eF e).2.2 csN'))))))) w hL
theorem law20_1 (re : Int) (hc : Cu x (xA 20 0 0 0 false false 0 0 0 re 0)) (hv : vP20 0 0 0 false false 0 0 0 re 0 = true) (hj : Int.tmod x.wh 6 = 1) (w : World) (hL : Laid h12 w) : Lw x w := by
  rcases Bool.eq_false_or_eq_true (decide (x.to ≥ 0)) with k1 | k1
  · rcases Bool.eq_false_or_eq_true (decide (x.to < 16)) with k2 | k2
    · rcases Bool.eq_false_or_eq_true (eqD (xA 20 0 0 0 false false 0 x.to 0 re 0) (xA 20 0 0 0 false false 0 0 0 re 0)) with k3 | k3
      · have e : vP 20 0 0 0 false false 0 x.to 0 re 0 = true := by
          show vP20 0 0 0 false false 0 x.to 0 re 0 = true
          simp_all [vP20]
        exact u20_6 x re hc (csA (csI' hj (csT' k1 (csT' k2 (csT' k3 (csT' e (csT' (eT e) csN'))))))) w hL
      · have e : vP 20 0 0 0 false false 0 x.to 0 re 0 = false := by
          show vP20 0 0 0 false false 0 x.to 0 re 0 = false
          simp_all [vP20]
        exact u20_7 x re hc (csA (csI' hj (csT' k1 (csT' k2 (csF' k3 (csT' (eF e).1 (csT' (eF e).2.1 (csT' (eF e).2.2 csN')))))))) w hL
    · rcases Bool.eq_false_or_eq_true (eqD (xA 20 0 0 0 false false 0 x.to 0 re 0) (xA 20 0 0 0 false false 0 0 0 re 0)) with k4 | k4
      · have e : vP 20 0 0 0 false false 0 x.to 0 re 0 = true := by
          show vP20 0 0 0 false false 0 x.to 0 re 0 = true
          simp_all [vP20]
        exact u20_8 x re hc (csA (csI' hj (csT' k1 (csF' k2 (csT' k4 (csT' e (csT' (eT e) csN'))))))) w hL
      · have e : vP 20 0 0 0 false false 0 x.to 0 re 0 = false := by
          show vP20 0 0 0 false false 0 x.to 0 re 0 = false
          simp_all [vP20]
        exact u20_9 x re hc (csA (csI' hj (csT' k1 (csF' k2 (csF' k4 (csT' (eF e).1 (csT' (eF e).2.1 (csT' (eF e).2.2 csN')))))))) w hL
  · rcases Bool.eq_false_or_eq_true (eqD (xA 20 0 0 0 false false 0 x.to 0 re 0) (xA 20 0 0 0 false false 0 0 0 re 0)) with k5 | k5
    · have e : vP 20 0 0 0 false false 0 x.to 0 re 0 = true := by
        show vP20 0 0 0 false false 0 x.to 0 re 0 = true
        simp_all [vP20]
      exact u20_10 x re hc (csA (csI' hj (csF' k1 (csT' k5 (csT' e (csT' (eT e) csN')))))) w hL
    · have e : vP 20 0 0 0 false false 0 x.to 0 re 0 = false := by
        show vP20 0 0 0 false false 0 x.to 0 re 0 = false
        simp_all [vP20]
      exact u20_11 x re hc (csA (csI' hj (csF' k1 (csF' k5 (csT' (eF e).1 (csT' (eF e).2.1 (csT' (eF e).2.2 csN'))))))) w hL
theorem law20_2 (re : Int) (hc : Cu x (xA 20 0 0 0 false false 0 0 0 re 0)) (hv : vP20 0 0 0 false false 0 0 0 re 0 = true) (hj : Int.tmod x.wh 6 = 2) (w : World) (hL : Laid h12 w) : Lw x w := by
  rcases Bool.eq_false_or_eq_true (eqD (xA 20 0 0 x.to false false 0 0 0 re 0) (xA 20 0 0 0 false false 0 0 0 re 0)) with k1 | k1
  · have e : vP 20 0 0 x.to false false 0 0 0 re 0 = true := by
      show vP20 0 0 x.to false false 0 0 0 re 0 = true
      simp_all [vP20]
    exact u20_12 x re hc (csA (csI' hj (csT' k1 (csT' e (csT' (eT e) csN'))))) w hL
  · have e : vP 20 0 0 x.to false false 0 0 0 re 0 = false := by
      show vP20 0 0 x.to false false 0 0 0 re 0 = false
      simp_all [vP20]
    exact u20_13 x re hc (csA (csI' hj (csF' k1 (csT' (eF e).1 (csT' (eF e).2.1 (csT' (eF e).2.2 csN')))))) w hL
theorem law20_3 (re : Int) (hc : Cu x (xA 20 0 0 0 false false 0 0 0 re 0)) (hv : vP20 0 0 0 false false 0 0 0 re 0 = true) (hj : Int.tmod x.wh 6 = 3) (w : World) (hL : Laid h12 w) : Lw x w := by
  rcases Bool.eq_false_or_eq_true (eqD (xA 20 0 x.to 0 false false 0 0 0 re 0) (xA 20 0 0 0 false false 0 0 0 re 0)) with k1 | k1
  · have e : vP 20 0 x.to 0 false false 0 0 0 re 0 = true := by
      show vP20 0 x.to 0 false false 0 0 0 re 0 = true
      simp_all [vP20]
    exact u20_14 x re hc (csA (csI' hj (csT' k1 (csT' e (csT' (eT e) csN'))))) w hL
  · have e : vP 20 0 x.to 0 false false 0 0 0 re 0 = false := by
      show vP20 0 x.to 0 false false 0 0 0 re 0 = false
      simp_all [vP20]
    exact u20_15 x re hc (csA (csI' hj (csF' k1 (csT' (eF e).1 (csT' (eF e).2.1 (csT' (eF e).2.2 csN')))))) w hL
theorem law20_4 (re : Int) (hc : Cu x (xA 20 0 0 0 false false 0 0 0 re 0)) (hv : vP20 0 0 0 false false 0 0 0 re 0 = true) (hj : Int.tmod x.wh 6 = 4) (w : World) (hL : Laid h12 w) : Lw x w := by
  have e : (vP 20 0 0 0 false false 0 0 0 (IntKind.i32.wrap x.to) 0 == (true)) = true := by
    show (vP20 0 0 0 false false 0 0 0 (IntKind.i32.wrap x.to) 0 == (true)) = true
    generalize IntKind.i32.wrap x.to = y at *
    simp_all [vP20, rel_eq]
  exact u20_16 x re hc (csA (csI' hj (csT' e csN'))) w hL
theorem law20_5 (re : Int) (hc : Cu x (xA 20 0 0 0 false false 0 0 0 re 0)) (hv : vP20 0 0 0 false false 0 0 0 re 0 = true) (hj : Int.tmod x.wh 6 = 5) (w : World) (hL : Laid h12 w) : Lw x w := by
  rcases Bool.eq_false_or_eq_true (eqD (xA 20 0 0 0 false false 0 0 (IntKind.i32.wrap x.to) re 0) (xA 20 0 0 0 false false 0 0 0 re 0)) with k1 | k1
  · have e : vP 20 0 0 0 false false 0 0 (IntKind.i32.wrap x.to) re 0 = true := by
      show vP20 0 0 0 false false 0 0 (IntKind.i32.wrap x.to) re 0 = true
      simp_all [vP20]
    exact u20_17 x re hc (csA (csI' hj (csT' k1 (csT' e (csT' (eT e) csN'))))) w hL
  · have e : vP 20 0 0 0 false false 0 0 (IntKind.i32.wrap x.to) re 0 = false := by
      show vP20 0 0 0 false false 0 0 (IntKind.i32.wrap x.to) re 0 = false
      simp_all [vP20]
    exact u20_18 x re hc (csA (csI' hj (csF' k1 (csT' (eF e).1 (csT' (eF e).2.1 (csT' (eF e).2.2 csN')))))) w hL
theorem u21_0  (hc : Cu x (xA 21 0 0 0 false false 0 0 0 0 0)) : Ru x [(Int.tmod x.wh 6, 0), (b2i (decide (x.to ≥ 0)), 1), (b2i (decide (x.to < 16)), 1), (b2i (eqD (xA 21 0 0 0 false false x.to 0 0 0 0) (xA 21 0 0 0 false false 0 0 0 0 0)), 1), (b2i (vP 21 0 0 0 false false x.to 0 0 0 0), 1), (b2i (encE 21 0 0 0 false false x.to 0 0 0 0 == 0), 1)] := lf (orHook_ok (hk_cut_ok hc) hkU_ok) (ocs [(7, 58, .int .u8 0), (7, 81, .bool true), (7, 85, .bool true), (7, 220, .bool true), (7, 223, .bool true), (7, 227, .bool true)] []) (by kernel_rfl) (by kernel_rfl) (by kernel_rfl)
theorem u21_1  (hc : Cu x (xA 21 0 0 0 false false 0 0 0 0 0)) : Ru x [(Int.tmod x.wh 6, 0), (b2i (decide (x.to ≥ 0)), 1), (b2i (decide (x.to < 16)), 1), (b2i (eqD (xA 21 0 0 0 false false x.to 0 0 0 0) (xA 21 0 0 0 false false 0 0 0 0 0)), 0), (b2i (!vP 21 0 0 0 false false x.to 0 0 0 0), 1), (b2i (encB 21 0 0 0 false false x.to 0 0 0 0 == ([] : List UInt8)), 1), (b2i (encE 21 0 0 0 false false x.to 0 0 0 0 == 2), 1)] := lf (orHook_ok (hk_cut_ok hc) hkU_ok) (ocs [(7, 58, .int .u8 0), (7, 81, .bool true), (7, 85, .bool true), (7, 220, .bool false), (7, 233, .bool true), (7, 237, .bool true), (7, 241, .bool true)] []) (by kernel_rfl) (by kernel_rfl) (by kernel_rfl)
theorem u21_2  (hc : Cu x (xA 21 0 0 0 false false 0 0 0 0 0)) : Ru x [(Int.tmod x.wh 6, 0), (b2i (decide (x.to ≥ 0)), 1), (b2i (decide (x.to < 16)), 0), (b2i (eqD (xA 21 0 0 0 false false x.to 0 0 0 0) (xA 21 0 0 0 false false 0 0 0 0 0)), 1), (b2i (vP 21 0 0 0 false false x.to 0 0 0 0), 1), (b2i (encE 21 0 0 0 false false x.to 0 0 0 0 == 0), 1)] := lf (orHook_ok (hk_cut_ok hc) hkU_ok) (ocs [(7, 58, .int .u8 0), (7, 81, .bool true), (7, 85, .bool false), (7, 220, .bool true), (7, 223, .bool true), (7, 227, .bool true)] []) (by kernel_rfl) (by kernel_rfl) (by kernel_rfl)
theorem u21_3  (hc : Cu x (xA 21 0 0 0 false false 0 0 0 0 0)) : Ru x [(Int.tmod x.wh 6, 0), (b2i (decide (x.to ≥ 0)), 1), (b2i (decide (x.to < 16)), 0), (b2i (eqD (xA 21 0 0 0 false false x.to 0 0 0 0) (xA 21 0 0 0 false false 0 0 0 0 0)), 0), (b2i (!vP 21 0 0 0 false false x.to 0 0 0 0), 1), (b2i (encB 21 0 0 0 false false x.to 0 0 0 0 == ([] : List UInt8)), 1), (b2i (encE 21 0 0 0 false false x.to 0 0 0 0 == 2), 1)] := lf (orHook_ok (hk_cut_ok hc) hkU_ok) (ocs [(7, 58, .int .u8 0), (7, 81, .bool true), (7, 85, .bool false), (7, 220, .bool false), (7, 233, .bool true), (7, 237, .bool true), (7, 241, .bool true)] []) (by kernel_rfl) (by kernel_rfl) (by kernel_rfl)
theorem u21_4  (hc : Cu x (xA 21 0 0 0 false false 0 0 0 0 0)) : Ru x [(Int.tmod x.wh 6, 0), (b2i (decide (x.to ≥ 0)), 0), (b2i (eqD (xA 21 0 0 0 false false x.to 0 0 0 0) (xA 21 0 0 0 false false 0 0 0 0 0)), 1), (b2i (vP 21 0 0 0 false false x.to 0 0 0 0), 1), (b2i (encE 21 0 0 0 false false x.to 0 0 0 0 == 0), 1)] := lf (orHook_ok (hk_cut_ok hc) hkU_ok) (ocs [(7, 58, .int .u8 0), (7, 81, .bool false), (7, 220, .bool true), (7, 223, .bool true), (7, 227, .bool true)] []) (by kernel_rfl) (by kernel_rfl) (by kernel_rfl)
theorem u21_5  (hc : Cu x (xA 21 0 0 0 false false 0 0 0 0 0)) : Ru x [(Int.tmod x.wh 6, 0), (b2i (decide (x.to ≥ 0)), 0), (b2i (eqD (xA 21 0 0 0 false false x.to 0 0 0 0) (xA 21 0 0 0 false false 0 0 0 0 0)), 0), (b2i (!vP 21 0 0 0 false false x.to 0 0 0 0), 1), (b2i (encB 21 0 0 0 false false x.to 0 0 0 0 == ([] : List UInt8)), 1), (b2i (encE 21 0 0 0 false false x.to 0 0 0 0 == 2), 1)] := lf (orHook_ok (hk_cut_ok hc) hkU_ok) (ocs [(7, 58, .int .u8 0), (7, 81, .bool false), (7, 220, .bool false), (7, 233, .bool true), (7, 237, .bool true), (7, 241, .bool true)] []) (by kernel_rfl) (by kernel_rfl) (by kernel_rfl)
theorem u21_6  (hc : Cu x (xA 21 0 0 0 false false 0 0 0 0 0)) : Ru x [(Int.tmod x.wh 6, 1), (b2i (decide (x.to ≥ 0)), 1), (b2i (decide (x.to < 16)), 1), (b2i (eqD (xA 21 0 0 0 false false 0 x.to 0 0 0) (xA 21 0 0 0 false false 0 0 0 0 0)), 1), (b2i (vP 21 0 0 0 false false 0 x.to 0 0 0), 1), (b2i (encE 21 0 0 0 false false 0 x.to 0 0 0 == 0), 1)] := lf (orHook_ok (hk_cut_ok hc) hkU_ok) (ocs [(7, 58, .int .u8 1), (7, 110, .bool true), (7, 114, .bool true), (7, 220, .bool true), (7, 223, .bool true), (7, 227, .bool true)] []) (by kernel_rfl) (by kernel_rfl) (by kernel_rfl)
theorem u21_7  (hc : Cu x (xA 21 0 0 0 false false 0 0 0 0 0)) : Ru x [(Int.tmod x.wh 6, 1), (b2i (decide (x.to ≥ 0)), 1), (b2i (decide (x.to < 16)), 1), (b2i (eqD (xA 21 0 0 0 false false 0 x.to 0 0 0) (xA 21 0 0 0 false false 0 0 0 0 0)), 0), (b2i (!vP 21 0 0 0 false false 0 x.to 0 0 0), 1), (b2i (encB 21 0 0 0 false false 0 x.to 0 0 0 == ([] : List UInt8)), 1), (b2i (encE 21 0 0 0 false false 0 x.to 0 0 0 == 2), 1)] := lf (orHook_ok (hk_cut_ok hc) hkU_ok) (ocs [(7, 58, .int .u8 1), (7, 110, .bool true), (7, 114, .bool true), (7, 220, .bool false), (7, 233, .bool true), (7, 237, .bool true), (7, 241, .bool true)] []) (by kernel_rfl) (by kernel_rfl) (by kernel_rfl)
theorem u21_8  (hc : Cu x (xA 21 0 0 0 false false 0 0 0 0 0)) : Ru x [(Int.tmod x.wh 6, 1), (b2i (decide (x.to ≥ 0)), 1), (b2i (decide (x.to < 16)), 0), (b2i (eqD (xA 21 0 0 0 false false 0 x.to 0 0 0) (xA 21 0 0 0 false false 0 0 0 0 0)), 1), (b2i (vP 21 0 0 0 false false 0 x.to 0 0 0), 1), (b2i (encE 21 0 0 0 false false 0 x.to 0 0 0 == 0), 1)] := lf (orHook_ok (hk_cut_ok hc) hkU_ok) (ocs [(7, 58, .int .u8 1), (7, 110, .bool true), (7, 114, .bool false), (7, 220, .bool true), (7, 223, .bool true), (7, 227, .bool true)] []) (by kernel_rfl) (by kernel_rfl) (by kernel_rfl)
theorem u21_9  (hc : Cu x (xA 21 0 0 0 false false 0 0 0 0 0)) : Ru x [(Int.tmod x.wh 6, 1), (b2i (decide (x.to ≥ 0)), 1), (b2i (decide (x.to < 16)), 0), (b2i (eqD (xA 21 0 0 0 false false 0 x.to 0 0 0) (xA 21 0 0 0 false false 0 0 0 0 0)), 0), (b2i (!vP 21 0 0 0 false false 0 x.to 0 0 0), 1), (b2i (encB 21 0 0 0 false false 0 x.to 0 0 0 == ([] : List UInt8)), 1), (b2i (encE 21 0 0 0 false false 0 x.to 0 0 0 == 2), 1)] := lf (orHook_ok (hk_cut_ok hc) hkU_ok) (ocs [(7, 58, .int .u8 1), (7, 110, .bool true), (7, 114, .bool false), (7, 220, .bool false), (7, 233, .bool true), (7, 237, .bool true), (7, 241, .bool true)] []) (by kernel_rfl) (by kernel_rfl) (by kernel_rfl)
theorem u21_10  (hc : Cu x (xA 21 0 0 0 false false 0 0 0 0 0)) : Ru x [(Int.tmod x.wh 6, 1), (b2i (decide (x.to ≥ 0)), 0), (b2i (eqD (xA 21 0 0 0 false false 0 x.to 0 0 0) (xA 21 0 0 0 false false 0 0 0 0 0)), 1), (b2i (vP 21 0 0 0 false false 0 x.to 0 0 0), 1), (b2i (encE 21 0 0 0 false false 0 x.to 0 0 0 == 0), 1)] := lf (orHook_ok (hk_cut_ok hc) hkU_ok) (ocs [(7, 58, .int .u8 1), (7, 110, .bool false), (7, 220, .bool true), (7, 223, .bool true), (7, 227, .bool true)] []) (by kernel_rfl) (by kernel_rfl) (by kernel_rfl)
theorem u21_11  (hc : Cu x (xA 21 0 0 0 false false 0 0 0 0 0)) : Ru x [(Int.tmod x.wh 6, 1), (b2i (decide (x.to ≥ 0)), 0), (b2i (eqD (xA 21 0 0 0 false false 0 x.to 0 0 0) (xA 21 0 0 0 false false 0 0 0 0 0)), 0), (b2i (!vP 21 0 0 0 false false 0 x.to 0 0 0), 1), (b2i (encB 21 0 0 0 false false 0 x.to 0 0 0 == ([] : List UInt8)), 1), (b2i (encE 21 0 0 0 false false 0 x.to 0 0 0 == 2), 1)] := lf (orHook_ok (hk_cut_ok hc) hkU_ok) (ocs [(7, 58, .int .u8 1), (7, 110, .bool false), (7, 220, .bool false), (7, 233, .bool true), (7, 237, .bool true), (7, 241, .bool true)] []) (by kernel_rfl) (by kernel_rfl) (by kernel_rfl)
theorem u21_12  (hc : Cu x (xA 21 0 0 0 false false 0 0 0 0 0)) : Ru x [(Int.tmod x.wh 6, 2), (b2i (eqD (xA 21 0 0 x.to false false 0 0 0 0 0) (xA 21 0 0 0 false false 0 0 0 0 0)), 1), (b2i (vP 21 0 0 x.to false false 0 0 0 0 0), 1), (b2i (encE 21 0 0 x.to false false 0 0 0 0 0 == 0), 1)] := lf (orHook_ok (hk_cut_ok hc) hkU_ok) (ocs [(7, 58, .int .u8 2), (7, 220, .bool true), (7, 223, .bool true), (7, 227, .bool true)] []) (by kernel_rfl) (by kernel_rfl) (by kernel_rfl)
theorem u21_13  (hc : Cu x (xA 21 0 0 0 false false 0 0 0 0 0)) : Ru x [(Int.tmod x.wh 6, 2), (b2i (eqD (xA 21 0 0 x.to false false 0 0 0 0 0) (xA 21 0 0 0 false false 0 0 0 0 0)), 0), (b2i (!vP 21 0 0 x.to false false 0 0 0 0 0), 1), (b2i (encB 21 0 0 x.to false false 0 0 0 0 0 == ([] : List UInt8)), 1), (b2i (encE 21 0 0 x.to false false 0 0 0 0 0 == 2), 1)] := lf (orHook_ok (hk_cut_ok hc) hkU_ok) (ocs [(7, 58, .int .u8 2), (7, 220, .bool false), (7, 233, .bool true), (7, 237, .bool true), (7, 241, .bool true)] []) (by kernel_rfl) (by kernel_rfl) (by kernel_rfl)
theorem u21_14  (hc : Cu x (xA 21 0 0 0 false false 0 0 0 0 0)) : Ru x [(Int.tmod x.wh 6, 3), (b2i (eqD (xA 21 0 x.to 0 false false 0 0 0 0 0) (xA 21 0 0 0 false false 0 0 0 0 0)), 1), (b2i (vP 21 0 x.to 0 false false 0 0 0 0 0), 1), (b2i (encE 21 0 x.to 0 false false 0 0 0 0 0 == 0), 1)] := lf (orHook_ok (hk_cut_ok hc) hkU_ok) (ocs [(7, 58, .int .u8 3), (7, 220, .bool true), (7, 223, .bool true), (7, 227, .bool true)] []) (by kernel_rfl) (by kernel_rfl) (by kernel_rfl)
theorem u21_15  (hc : Cu x (xA 21 0 0 0 false false 0 0 0 0 0)) : Ru x [(Int.tmod x.wh 6, 3), (b2i (eqD (xA 21 0 x.to 0 false false 0 0 0 0 0) (xA 21 0 0 0 false false 0 0 0 0 0)), 0), (b2i (!vP 21 0 x.to 0 false false 0 0 0 0 0), 1), (b2i (encB 21 0 x.to 0 false false 0 0 0 0 0 == ([] : List UInt8)), 1), (b2i (encE 21 0 x.to 0 false false 0 0 0 0 0 == 2), 1)] := lf (orHook_ok (hk_cut_ok hc) hkU_ok) (ocs [(7, 58, .int .u8 3), (7, 220, .bool false), (7, 233, .bool true), (7, 237, .bool true), (7, 241, .bool true)] []) (by kernel_rfl) (by kernel_rfl) (by kernel_rfl)
theorem u21_16  (hc : Cu x (xA 21 0 0 0 false false 0 0 0 0 0)) : Ru x [(Int.tmod x.wh 6, 4), (b2i (eqD (xA 21 0 0 0 false false 0 0 0 (IntKind.i32.wrap x.to) 0) (xA 21 0 0 0 false false 0 0 0 0 0)), 1), (b2i (vP 21 0 0 0 false false 0 0 0 (IntKind.i32.wrap x.to) 0), 1), (b2i (encE 21 0 0 0 false false 0 0 0 (IntKind.i32.wrap x.to) 0 == 0), 1)] := lf (orHook_ok (hk_cut_ok hc) hkU_ok) (ocs [(7, 58, .int .u8 4), (7, 220, .bool true), (7, 223, .bool true), (7, 227, .bool true)] []) (by kernel_rfl) (by kernel_rfl) (by kernel_rfl)
theorem u21_17  (hc : Cu x (xA 21 0 0 0 false false 0 0 0 0 0)) : Ru x [(Int.tmod x.wh 6, 4), (b2i (eqD (xA 21 0 0 0 false false 0 0 0 (IntKind.i32.wrap x.to) 0) (xA 21 0 0 0 false false 0 0 0 0 0)), 0), (b2i (!vP 21 0 0 0 false false 0 0 0 (IntKind.i32.wrap x.to) 0), 1), (b2i (encB 21 0 0 0 false false 0 0 0 (IntKind.i32.wrap x.to) 0 == ([] : List UInt8)), 1), (b2i (encE 21 0 0 0 false false 0 0 0 (IntKind.i32.wrap x.to) 0 == 2), 1)] := lf (orHook_ok (hk_cut_ok hc) hkU_ok) (ocs [(7, 58, .int .u8 4), (7, 220, .bool false), (7, 233, .bool true), (7, 237, .bool true), (7, 241, .bool true)] []) (by kernel_rfl) (by kernel_rfl) (by kernel_rfl)
theorem u21_18  (hc : Cu x (xA 21 0 0 0 false false 0 0 0 0 0)) : Ru x [(Int.tmod x.wh 6, 5), (b2i (eqD (xA 21 0 0 0 false false 0 0 (IntKind.i32.wrap x.to) 0 0) (xA 21 0 0 0 false false 0 0 0 0 0)), 1), (b2i (vP 21 0 0 0 false false 0 0 (IntKind.i32.wrap x.to) 0 0), 1), (b2i (encE 21 0 0 0 false false 0 0 (IntKind.i32.wrap x.to) 0 0 == 0), 1)] := lf (orHook_ok (hk_cut_ok hc) hkU_ok) (ocs [(7, 58, .int .u8 5), (7, 220, .bool true), (7, 223, .bool true), (7, 227, .bool true)] []) (by kernel_rfl) (by kernel_rfl) (by kernel_rfl)
theorem u21_19  (hc : Cu x (xA 21 0 0 0 false false 0 0 0 0 0)) : Ru x [(Int.tmod x.wh 6, 5), (b2i (eqD (xA 21 0 0 0 false false 0 0 (IntKind.i32.wrap x.to) 0 0) (xA 21 0 0 0 false false 0 0 0 0 0)), 0), (b2i (!vP 21 0 0 0 false false 0 0 (IntKind.i32.wrap x.to) 0 0), 1), (b2i (encB 21 0 0 0 false false 0 0 (IntKind.i32.wrap x.to) 0 0 == ([] : List UInt8)), 1), (b2i (encE 21 0 0 0 false false 0 0 (IntKind.i32.wrap x.to) 0 0 == 2), 1)] := lf (orHook_ok (hk_cut_ok hc) hkU_ok) (ocs [(7, 58, .int .u8 5), (7, 220, .bool false), (7, 233, .bool true), (7, 237, .bool true), (7, 241, .bool true)] []) (by kernel_rfl) (by kernel_rfl) (by kernel_rfl)
theorem law21_0  (hc : Cu x (xA 21 0 0 0 false false 0 0 0 0 0)) (hv : vP21 0 0 0 false false 0 0 0 0 0 = true) (hj : Int.tmod x.wh 6 = 0) (w : World) (hL : Laid h12 w) : Lw x w := by
  rcases Bool.eq_false_or_eq_true (decide (x.to ≥ 0)) with k1 | k1
  · rcases Bool.eq_false_or_eq_true (decide (x.to < 16)) with k2 | k2
    · rcases Bool.eq_false_or_eq_true (eqD (xA 21 0 0 0 false false x.to 0 0 0 0) (xA 21 0 0 0 false false 0 0 0 0 0)) with k3 | k3
      · have e : vP 21 0 0 0 false false x.to 0 0 0 0 = true := by
          show vP21 0 0 0 false false x.to 0 0 0 0 = true
          simp_all [vP21]
        exact u21_0 x  hc (csA (csI' hj (csT' k1 (csT' k2 (csT' k3 (csT' e (csT' (eT e) csN'))))))) w hL
      · have e : vP 21 0 0 0 false false x.to 0 0 0 0 = false := by
          show vP21 0 0 0 false false x.to 0 0 0 0 = false
          simp_all [vP21]
        exact u21_1 x  hc (csA (csI' hj (csT' k1 (csT' k2 (csF' k3 (csT' (eF e).1 (csT' (eF e).2.1 (csT' (eF e).2.2 csN')))))))) w hL
    · rcases Bool.eq_false_or_eq_true (eqD (xA 21 0 0 0 false false x.to 0 0 0 0) (xA 21 0 0 0 false false 0 0 0 0 0)) with k4 | k4
      · have e : vP 21 0 0 0 false false x.to 0 0 0 0 = true := by
          show vP21 0 0 0 false false x.to 0 0 0 0 = true
          simp_all [vP21]
        exact u21_2 x  hc (csA (csI' hj (csT' k1 (csF' k2 (csT' k4 (csT' e (csT' (eT e) csN'))))))) w hL
      · have e : vP 21 0 0 0 false false x.to 0 0 0 0 = false := by
          show vP21 0 0 0 false false x.to 0 0 0 0 = false
          simp_all [vP21]
        exact u21_3 x  hc (csA (csI' hj (csT' k1 (csF' k2 (csF' k4 (csT' (eF e).1 (csT' (eF e).2.1 (csT' (eF e).2.2 csN')))))))) w hL
  · rcases Bool.eq_false_or_eq_true (eqD (xA 21 0 0 0 false false x.to 0 0 0 0) (xA 21 0 0 0 false false 0 0 0 0 0)) with k5 | k5
    · have e : vP 21 0 0 0 false false x.to 0 0 0 0 = true := by
        show vP21 0 0 0 false false x.to 0 0 0 0 = true
        simp_all [vP21]
      exact u21_4 x  hc (csA (csI' hj (csF' k1 (csT' k5 (csT' e (csT' (eT e) csN')))))) w hL
    · have e : vP 21 0 0 0 false false x.to 0 0 0 0 = false := by
        show vP21 0 0 0 false false x.to 0 0 0 0 = false
        simp_all [vP21]
      exact u21_5 x  hc (csA (csI' hj (csF' k1 (csF' k5 (csT' (eF e).1 (csT' (eF e).2.1 (csT' (eF e).2.2 csN'))))))) w hL
theorem law21_1  (hc : Cu x (xA 21 0 0 0 false false 0 0 0 0 0)) (hv : vP21 0 0 0 false false 0 0 0 0 0 = true) (hj : Int.tmod x.wh 6 = 1) (w : World) (hL : Laid h12 w) : Lw x w := by
  rcases Bool.eq_false_or_eq_true (decide (x.to ≥ 0)) with k1 | k1
  · rcases Bool.eq_false_or_eq_true (decide (x.to < 16)) with k2 | k2
    · rcases Bool.eq_false_or_eq_true (eqD (xA 21 0 0 0 false false 0 x.to 0 0 0) (xA 21 0 0 0 false false 0 0 0 0 0)) with k3 | k3
      · have e : vP 21 0 0 0 false false 0 x.to 0 0 0 = true := by
          show vP21 0 0 0 false false 0 x.to 0 0 0 = true
          simp_all [vP21]
        exact u21_6 x  hc (csA (csI' hj (csT' k1 (csT' k2 (csT' k3 (csT' e (csT' (eT e) csN'))))))) w hL
      · have e : vP 21 0 0 0 false false 0 x.to 0 0 0 = false := by
          show vP21 0 0 0 false false 0 x.to 0 0 0 = false
          simp_all [vP21]
        exact u21_7 x  hc (csA (csI' hj (csT' k1 (csT' k2 (csF' k3 (csT' (eF e).1 (csT' (eF e).2.1 (csT' (eF e).2.2 csN')))))))) w hL
    · rcases Bool.eq_false_or_eq_true (eqD (xA 21 0 0 0 false false 0 x.to 0 0 0) (xA 21 0 0 0 false false 0 0 0 0 0)) with k4 | k4
      · have e : vP 21 0 0 0 false false 0 x.to 0 0 0 = true := by
          show vP21 0 0 0 false false 0 x.to 0 0 0 = true
          simp_all [vP21]
        exact u21_8 x  hc (csA (csI' hj (csT' k1 (csF' k2 (csT' k4 (csT' e (csT' (eT e) csN'))))))) w hL
      · have e : vP 21 0 0 0 false false 0 x.to 0 0 0 = false := by
          show vP21 0 0 0 false false 0 x.to 0 0 0 = false
          simp_all [vP21]
        exact u21_9 x  hc (csA (csI' hj (csT' k1 (csF' k2 (csF' k4 (csT' (eF e).1 (csT' (eF e).2.1 (csT' (eF e).2.2 csN')))))))) w hL
  · rcases Bool.eq_false_or_eq_true (eqD (xA 21 0 0 0 false false 0 x.to 0 0 0) (xA 21 0 0 0 false false 0 0 0 0 0)) with k5 | k5
    · have e : vP 21 0 0 0 false false 0 x.to 0 0 0 = true := by
        show vP21 0 0 0 false false 0 x.to 0 0 0 = true
        simp_all [vP21]
      exact u21_10 x  hc (csA (csI' hj (csF' k1 (csT' k5 (csT' e (csT' (eT e) csN')))))) w hL
    · have e : vP 21 0 0 0 false false 0 x.to 0 0 0 = false := by
        show vP21 0 0 0 false false 0 x.to 0 0 0 = false
        simp_all [vP21]
      exact u21_11 x  hc (csA (csI' hj (csF' k1 (csF' k5 (csT' (eF e).1 (csT' (eF e).2.1 (csT' (eF e).2.2 csN'))))))) w hL
theorem law21_2  (hc : Cu x (xA 21 0 0 0 false false 0 0 0 0 0)) (hv : vP21 0 0 0 false false 0 0 0 0 0 = true) (hj : Int.tmod x.wh 6 = 2) (w : World) (hL : Laid h12 w) : Lw x w := by
  rcases Bool.eq_false_or_eq_true (eqD (xA 21 0 0 x.to false false 0 0 0 0 0) (xA 21 0 0 0 false false 0 0 0 0 0)) with k1 | k1
  · have e : vP 21 0 0 x.to false false 0 0 0 0 0 = true := by
      show vP21 0 0 x.to false false 0 0 0 0 0 = true
      simp_all [vP21]
    exact u21_12 x  hc (csA (csI' hj (csT' k1 (csT' e (csT' (eT e) csN'))))) w hL
  · have e : vP 21 0 0 x.to false false 0 0 0 0 0 = false := by
      show vP21 0 0 x.to false false 0 0 0 0 0 = false
      simp_all [vP21]
    exact u21_13 x  hc (csA (csI' hj (csF' k1 (csT' (eF e).1 (csT' (eF e).2.1 (csT' (eF e).2.2 csN')))))) w hL
theorem law21_3  (hc : Cu x (xA 21 0 0 0 false false 0 0 0 0 0)) (hv : vP21 0 0 0 false false 0 0 0 0 0 = true) (hj : Int.tmod x.wh 6 = 3) (w : World) (hL : Laid h12 w) : Lw x w := by
  rcases Bool.eq_false_or_eq_true (eqD (xA 21 0 x.to 0 false false 0 0 0 0 0) (xA 21 0 0 0 false false 0 0 0 0 0)) with k1 | k1
  · have e : vP 21 0 x.to 0 false false 0 0 0 0 0 = true := by
      show vP21 0 x.to 0 false false 0 0 0 0 0 = true
      simp_all [vP21]
    exact u21_14 x  hc (csA (csI' hj (csT' k1 (csT' e (csT' (eT e) csN'))))) w hL
  · have e : vP 21 0 x.to 0 false false 0 0 0 0 0 = false := by
      show vP21 0 x.to 0 false false 0 0 0 0 0 = false
      simp_all [vP21]
    exact u21_15 x  hc (csA (csI' hj (csF' k1 (csT' (eF e).1 (csT' (eF e).2.1 (csT' (eF e).2.2 csN')))))) w hL
theorem law21_4  (hc : Cu x (xA 21 0 0 0 false false 0 0 0 0 0)) (hv : vP21 0 0 0 false false 0 0 0 0 0 = true) (hj : Int.tmod x.wh 6 = 4) (w : World) (hL : Laid h12 w) : Lw x w := by
  rcases Bool.eq_false_or_eq_true (eqD (xA 21 0 0 0 false false 0 0 0 (IntKind.i32.wrap x.to) 0) (xA 21 0 0 0 false false 0 0 0 0 0)) with k1 | k1
  · have e : vP 21 0 0 0 false false 0 0 0 (IntKind.i32.wrap x.to) 0 = true := by
      show vP21 0 0 0 false false 0 0 0 (IntKind.i32.wrap x.to) 0 = true
      simp_all [vP21]
    exact u21_16 x  hc (csA (csI' hj (csT' k1 (csT' e (csT' (eT e) csN'))))) w hL
  · have e : vP 21 0 0 0 false false 0 0 0 (IntKind.i32.wrap x.to) 0 = false := by
      show vP21 0 0 0 false false 0 0 0 (IntKind.i32.wrap x.to) 0 = false
      simp_all [vP21]
    exact u21_17 x  hc (csA (csI' hj (csF' k1 (csT' (eF e).1 (csT' (eF e).2.1 (csT' (eF e).2.2 csN')))))) w hL
theorem law21_5  (hc : Cu x (xA 21 0 0 0 false false 0 0 0 0 0)) (hv : vP21 0 0 0 false false 0 0 0 0 0 = true) (hj : Int.tmod x.wh 6 = 5) (w : World) (hL : Laid h12 w) : Lw x w := by
  rcases Bool.eq_false_or_eq_true (eqD (xA 21 0 0 0 false false 0 0 (IntKind.i32.wrap x.to) 0 0) (xA 21 0 0 0 false false 0 0 0 0 0)) with k1 | k1
  · have e : vP 21 0 0 0 false false 0 0 (IntKind.i32.wrap x.to) 0 0 = true := by
      show vP21 0 0 0 false false 0 0 (IntKind.i32.wrap x.to) 0 0 = true
      simp_all [vP21]
    exact u21_18 x  hc (csA (csI' hj (csT' k1 (csT' e (csT' (eT e) csN'))))) w hL
  · have e : vP 21 0 0 0 false false 0 0 (IntKind.i32.wrap x.to) 0 0 = false := by
      show vP21 0 0 0 false false 0 0 (IntKind.i32.wrap x.to) 0 0 = false
      simp_all [vP21]
    exact u21_19 x  hc (csA (csI' hj (csF' k1 (csT' (eF e).1 (csT' (eF e).2.1 (csT' (eF e).2.2 csN')))))) w hL
end Go.Proofs.YtbaiokfjoglmiaaDoor.Ex
end
