/-
  Lemmas for the laws of this seat, part W: CdE3, CdE4, CdE5.
-/
import Derived.Test.YtbaiokfjoglmiaaDoorPackV
section
namespace Go.Proofs.YtbaiokfjoglmiaaDoor.Ex
open Go Go.RowKit
set_option linter.unusedVariables false
set_option linter.unusedSimpArgs false
set_option maxHeartbeats 0
set_option maxRecDepth 1000000
attribute [local simp] vP xA eqD eqW regS szOk ccOk aluOk shOk shiftS
variable (x : Rw)
theorem u9_0 (wi : Bool) (ds : Int) (hc : Cu x (xA 9 0 0 0 wi false ds 0 0 0 0)) : Ru x [(Int.tmod x.wh 6, 0), (b2i (decide (x.to ≥ 0)), 1), (b2i (decide (x.to < 16)), 1), (b2i (vP 9 0 0 0 wi false x.to 0 0 0 0), 1)] := lf (orHook_ok (hk_cut_ok hc) hkU_ok) (ocs [(7, 58, .int .u8 0), (7, 81, .bool true), (7, 85, .bool true), (7, 101, .bool true)] []) (by kernel_rfl) (by kernel_rfl) (by kernel_rfl)
theorem u9_1 (wi : Bool) (ds : Int) (hc : Cu x (xA 9 0 0 0 wi false ds 0 0 0 0)) : Ru x [(Int.tmod x.wh 6, 0), (b2i (decide (x.to ≥ 0)), 1), (b2i (decide (x.to < 16)), 0), (b2i (eqD (xA 9 0 0 0 wi false x.to 0 0 0 0) (xA 9 0 0 0 wi false ds 0 0 0 0)), 0), (b2i (!vP 9 0 0 0 wi false x.to 0 0 0 0), 1), (b2i (encB 9 0 0 0 wi false x.to 0 0 0 0 == ([] : List UInt8)), 1), (b2i (encE 9 0 0 0 wi false x.to 0 0 0 0 == 2), 1)] := lf (orHook_ok (hk_cut_ok hc) hkU_ok) (ocs [(7, 58, .int .u8 0), (7, 81, .bool true), (7, 85, .bool false), (7, 220, .bool false), (7, 233, .bool true), (7, 237, .bool true), (7, 241, .bool true)] []) (by kernel_rfl) (by kernel_rfl) (by kernel_rfl)
theorem u9_2 (wi : Bool) (ds : Int) (hc : Cu x (xA 9 0 0 0 wi false ds 0 0 0 0)) : Ru x [(Int.tmod x.wh 6, 0), (b2i (decide (x.to ≥ 0)), 0), (b2i (eqD (xA 9 0 0 0 wi false x.to 0 0 0 0) (xA 9 0 0 0 wi false ds 0 0 0 0)), 0), (b2i (!vP 9 0 0 0 wi false x.to 0 0 0 0), 1), (b2i (encB 9 0 0 0 wi false x.to 0 0 0 0 == ([] : List UInt8)), 1), (b2i (encE 9 0 0 0 wi false x.to 0 0 0 0 == 2), 1)] := lf (orHook_ok (hk_cut_ok hc) hkU_ok) (ocs [(7, 58, .int .u8 0), (7, 81, .bool false), (7, 220, .bool false), (7, 233, .bool true), (7, 237, .bool true), (7, 241, .bool true)] []) (by kernel_rfl) (by kernel_rfl) (by kernel_rfl)
theorem u9_3 (wi : Bool) (ds : Int) (hc : Cu x (xA 9 0 0 0 wi false ds 0 0 0 0)) : Ru x [(Int.tmod x.wh 6, 1), (b2i (decide (x.to ≥ 0)), 1), (b2i (decide (x.to < 16)), 1), (b2i (eqD (xA 9 0 0 0 wi false ds x.to 0 0 0) (xA 9 0 0 0 wi false ds 0 0 0 0)), 1), (b2i (vP 9 0 0 0 wi false ds x.to 0 0 0), 1), (b2i (encE 9 0 0 0 wi false ds x.to 0 0 0 == 0), 1)] := lf (orHook_ok (hk_cut_ok hc) hkU_ok) (ocs [(7, 58, .int .u8 1), (7, 110, .bool true), (7, 114, .bool true), (7, 220, .bool true), (7, 223, .bool true), (7, 227, .bool true)] []) (by kernel_rfl) (by kernel_rfl) (by kernel_rfl)
theorem u9_4 (wi : Bool) (ds : Int) (hc : Cu x (xA 9 0 0 0 wi false ds 0 0 0 0)) : Ru x [(Int.tmod x.wh 6, 1), (b2i (decide (x.to ≥ 0)), 1), (b2i (decide (x.to < 16)), 1), (b2i (eqD (xA 9 0 0 0 wi false ds x.to 0 0 0) (xA 9 0 0 0 wi false ds 0 0 0 0)), 0), (b2i (!vP 9 0 0 0 wi false ds x.to 0 0 0), 1), (b2i (encB 9 0 0 0 wi false ds x.to 0 0 0 == ([] : List UInt8)), 1), (b2i (encE 9 0 0 0 wi false ds x.to 0 0 0 == 2), 1)] := lf (orHook_ok (hk_cut_ok hc) hkU_ok) (ocs [(7, 58, .int .u8 1), (7, 110, .bool true), (7, 114, .bool true), (7, 220, .bool false), (7, 233, .bool true), (7, 237, .bool true), (7, 241, .bool true)] []) (by kernel_rfl) (by kernel_rfl) (by kernel_rfl)
theorem u9_5 (wi : Bool) (ds : Int) (hc : Cu x (xA 9 0 0 0 wi false ds 0 0 0 0)) : Ru x [(Int.tmod x.wh 6, 1), (b2i (decide (x.to ≥ 0)), 1), (b2i (decide (x.to < 16)), 0), (b2i (eqD (xA 9 0 0 0 wi false ds x.to 0 0 0) (xA 9 0 0 0 wi false ds 0 0 0 0)), 1), (b2i (vP 9 0 0 0 wi false ds x.to 0 0 0), 1), (b2i (encE 9 0 0 0 wi false ds x.to 0 0 0 == 0), 1)] := lf (orHook_ok (hk_cut_ok hc) hkU_ok) (ocs [(7, 58, .int .u8 1), (7, 110, .bool true), (7, 114, .bool false), (7, 220, .bool true), (7, 223, .bool true), (7, 227, .bool true)] []) (by kernel_rfl) (by kernel_rfl) (by kernel_rfl)
theorem u9_6 (wi : Bool) (ds : Int) (hc : Cu x (xA 9 0 0 0 wi false ds 0 0 0 0)) : Ru x [(Int.tmod x.wh 6, 1), (b2i (decide (x.to ≥ 0)), 1), (b2i (decide (x.to < 16)), 0), (b2i (eqD (xA 9 0 0 0 wi false ds x.to 0 0 0) (xA 9 0 0 0 wi false ds 0 0 0 0)), 0), (b2i (!vP 9 0 0 0 wi false ds x.to 0 0 0), 1), (b2i (encB 9 0 0 0 wi false ds x.to 0 0 0 == ([] : List UInt8)), 1), (b2i (encE 9 0 0 0 wi false ds x.to 0 0 0 == 2), 1)] := lf (orHook_ok (hk_cut_ok hc) hkU_ok) (ocs [(7, 58, .int .u8 1), (7, 110, .bool true), (7, 114, .bool false), (7, 220, .bool false), (7, 233, .bool true), (7, 237, .bool true), (7, 241, .bool true)] []) (by kernel_rfl) (by kernel_rfl) (by kernel_rfl)
theorem u9_7 (wi : Bool) (ds : Int) (hc : Cu x (xA 9 0 0 0 wi false ds 0 0 0 0)) : Ru x [(Int.tmod x.wh 6, 1), (b2i (decide (x.to ≥ 0)), 0), (b2i (eqD (xA 9 0 0 0 wi false ds x.to 0 0 0) (xA 9 0 0 0 wi false ds 0 0 0 0)), 1), (b2i (vP 9 0 0 0 wi false ds x.to 0 0 0), 1), (b2i (encE 9 0 0 0 wi false ds x.to 0 0 0 == 0), 1)] := lf (orHook_ok (hk_cut_ok hc) hkU_ok) (ocs [(7, 58, .int .u8 1), (7, 110, .bool false), (7, 220, .bool true), (7, 223, .bool true), (7, 227, .bool true)] []) (by kernel_rfl) (by kernel_rfl) (by kernel_rfl)
theorem u9_8 (wi : Bool) (ds : Int) (hc : Cu x (xA 9 0 0 0 wi false ds 0 0 0 0)) : Ru x [(Int.tmod x.wh 6, 1), (b2i (decide (x.to ≥ 0)), 0), (b2i (eqD (xA 9 0 0 0 wi false ds x.to 0 0 0) (xA 9 0 0 0 wi false ds 0 0 0 0)), 0), (b2i (!vP 9 0 0 0 wi false ds x.to 0 0 0), 1), (b2i (encB 9 0 0 0 wi false ds x.to 0 0 0 == ([] : List UInt8)), 1), (b2i (encE 9 0 0 0 wi false ds x.to 0 0 0 == 2), 1)] := lf (orHook_ok (hk_cut_ok hc) hkU_ok) (ocs [(7, 58, .int .u8 1), (7, 110, .bool false), (7, 220, .bool false), (7, 233, .bool true), (7, 237, .bool true), (7, 241, .bool true)] []) (by kernel_rfl) (by kernel_rfl) (by kernel_rfl)
theorem u9_9 (wi : Bool) (ds : Int) (hc : Cu x (xA 9 0 0 0 wi false ds 0 0 0 0)) : Ru x [(Int.tmod x.wh 6, 2), (b2i (eqD (xA 9 0 0 x.to wi false ds 0 0 0 0) (xA 9 0 0 0 wi false ds 0 0 0 0)), 1), (b2i (vP 9 0 0 x.to wi false ds 0 0 0 0), 1), (b2i (encE 9 0 0 x.to wi false ds 0 0 0 0 == 0), 1)] := lf (orHook_ok (hk_cut_ok hc) hkU_ok) (ocs [(7, 58, .int .u8 2), (7, 220, .bool true), (7, 223, .bool true), (7, 227, .bool true)] []) (by kernel_rfl) (by kernel_rfl) (by kernel_rfl)
theorem u9_10 (wi : Bool) (ds : Int) (hc : Cu x (xA 9 0 0 0 wi false ds 0 0 0 0)) : Ru x [(Int.tmod x.wh 6, 2), (b2i (eqD (xA 9 0 0 x.to wi false ds 0 0 0 0) (xA 9 0 0 0 wi false ds 0 0 0 0)), 0), (b2i (!vP 9 0 0 x.to wi false ds 0 0 0 0), 1), (b2i (encB 9 0 0 x.to wi false ds 0 0 0 0 == ([] : List UInt8)), 1), (b2i (encE 9 0 0 x.to wi false ds 0 0 0 0 == 2), 1)] := lf (orHook_ok (hk_cut_ok hc) hkU_ok) (ocs [(7, 58, .int .u8 2), (7, 220, .bool false), (7, 233, .bool true), (7, 237, .bool true), (7, 241, .bool true)] []) (by kernel_rfl) (by kernel_rfl) (by kernel_rfl)
theorem u9_11 (wi : Bool) (ds : Int) (hc : Cu x (xA 9 0 0 0 wi false ds 0 0 0 0)) : Ru x [(Int.tmod x.wh 6, 3), (b2i (eqD (xA 9 0 x.to 0 wi false ds 0 0 0 0) (xA 9 0 0 0 wi false ds 0 0 0 0)), 1), (b2i (vP 9 0 x.to 0 wi false ds 0 0 0 0), 1), (b2i (encE 9 0 x.to 0 wi false ds 0 0 0 0 == 0), 1)] := lf (orHook_ok (hk_cut_ok hc) hkU_ok) (ocs [(7, 58, .int .u8 3), (7, 220, .bool true), (7, 223, .bool true), (7, 227, .bool true)] []) (by kernel_rfl) (by kernel_rfl) (by kernel_rfl)
theorem u9_12 (wi : Bool) (ds : Int) (hc : Cu x (xA 9 0 0 0 wi false ds 0 0 0 0)) : Ru x [(Int.tmod x.wh 6, 3), (b2i (eqD (xA 9 0 x.to 0 wi false ds 0 0 0 0) (xA 9 0 0 0 wi false ds 0 0 0 0)), 0), (b2i (!vP 9 0 x.to 0 wi false ds 0 0 0 0), 1), (b2i (encB 9 0 x.to 0 wi false ds 0 0 0 0 == ([] : List UInt8)), 1), (b2i (encE 9 0 x.to 0 wi false ds 0 0 0 0 == 2), 1)] := lf (orHook_ok (hk_cut_ok hc) hkU_ok) (ocs [(7, 58, .int .u8 3), (7, 220, .bool false), (7, 233, .bool true), (7, 237, .bool true), (7, 241, .bool true)] []) (by kernel_rfl) (by kernel_rfl) (by kernel_rfl)
theorem u9_13 (wi : Bool) (ds : Int) (hc : Cu x (xA 9 0 0 0 wi false ds 0 0 0 0)) : Ru x [(Int.tmod x.wh 6, 4), (b2i (eqD (xA 9 0 0 0 wi false ds 0 0 (IntKind.i32.wrap x.to) 0) (xA 9 0 0 0 wi false ds 0 0 0 0)), 1), (b2i (vP 9 0 0 0 wi false ds 0 0 (IntKind.i32.wrap x.to) 0), 1), (b2i (encE 9 0 0 0 wi false ds 0 0 (IntKind.i32.wrap x.to) 0 == 0), 1)] := lf (orHook_ok (hk_cut_ok hc) hkU_ok) (ocs [(7, 58, .int .u8 4), (7, 220, .bool true), (7, 223, .bool true), (7, 227, .bool true)] []) (by kernel_rfl) (by kernel_rfl) (by kernel_rfl)
theorem u9_14 (wi : Bool) (ds : Int) (hc : Cu x (xA 9 0 0 0 wi false ds 0 0 0 0)) : Ru x [(Int.tmod x.wh 6, 4), (b2i (eqD (xA 9 0 0 0 wi false ds 0 0 (IntKind.i32.wrap x.to) 0) (xA 9 0 0 0 wi false ds 0 0 0 0)), 0), (b2i (!vP 9 0 0 0 wi false ds 0 0 (IntKind.i32.wrap x.to) 0), 1), (b2i (encB 9 0 0 0 wi false ds 0 0 (IntKind.i32.wrap x.to) 0 == ([] : List UInt8)), 1), (b2i (encE 9 0 0 0 wi false ds 0 0 (IntKind.i32.wrap x.to) 0 == 2), 1)] := lf (orHook_ok (hk_cut_ok hc) hkU_ok) (ocs [(7, 58, .int .u8 4), (7, 220, .bool false), (7, 233, .bool true), (7, 237, .bool true), (7, 241, .bool true)] []) (by kernel_rfl) (by kernel_rfl) (by kernel_rfl)
theorem u9_15 (wi : Bool) (ds : Int) (hc : Cu x (xA 9 0 0 0 wi false ds 0 0 0 0)) : Ru x [(Int.tmod x.wh 6, 5), (b2i (eqD (xA 9 0 0 0 wi false ds 0 (IntKind.i32.wrap x.to) 0 0) (xA 9 0 0 0 wi false ds 0 0 0 0)), 1), (b2i (vP 9 0 0 0 wi false ds 0 (IntKind.i32.wrap x.to) 0 0), 1), (b2i (encE 9 0 0 0 wi false ds 0 (IntKind.i32.wrap x.to) 0 0 == 0), 1)] := lf (orHook_ok (hk_cut_ok hc) hkU_ok) (ocs [(7, 58, .int .u8 5), (7, 220, .bool true), (7, 223, .bool true), (7, 227, .bool true)] []) (by kernel_rfl) (by kernel_rfl) (by kernel_rfl)
theorem u9_16 (wi : Bool) (ds : Int) (hc : Cu x (xA 9 0 0 0 wi false ds 0 0 0 0)) : Ru x [(Int.tmod x.wh 6, 5), (b2i (eqD (xA 9 0 0 0 wi false ds 0 (IntKind.i32.wrap x.to) 0 0) (xA 9 0 0 0 wi false ds 0 0 0 0)), 0), (b2i (!vP 9 0 0 0 wi false ds 0 (IntKind.i32.wrap x.to) 0 0), 1), (b2i (encB 9 0 0 0 wi false ds 0 (IntKind.i32.wrap x.to) 0 0 == ([] : List UInt8)), 1), (b2i (encE 9 0 0 0 wi false ds 0 (IntKind.i32.wrap x.to) 0 0 == 2), 1)] := lf (orHook_ok (hk_cut_ok hc) hkU_ok) (ocs [(7, 58, .int .u8 5), (7, 220, .bool false), (7, 233, .bool true), (7, 237, .bool true), (7, 241, .bool true)] []) (by kernel_rfl) (by kernel_rfl) (by kernel_rfl)
theorem law9_0 (wi : Bool) (ds : Int) (hc : Cu x (xA 9 0 0 0 wi false ds 0 0 0 0)) (hv : vP9 0 0 0 wi false ds 0 0 0 0 = true) (hj : Int.tmod x.wh 6 = 0) (w : World) (hL : Laid h12 w) : Lw x w := by
  rcases Bool.eq_false_or_eq_true (decide (x.to ≥ 0)) with k1 | k1
  · rcases Bool.eq_false_or_eq_true (decide (x.to < 16)) with k2 | k2
    · have e : vP 9 0 0 0 wi false x.to 0 0 0 0 = true := by
        show vP9 0 0 0 wi false x.to 0 0 0 0 = true
        simp_all [vP9]
      exact u9_0 x wi ds hc (csA (csI' hj (csT' k1 (csT' k2 (csT' e csN'))))) w hL
    · have e : vP 9 0 0 0 wi false x.to 0 0 0 0 = false := by
        show vP9 0 0 0 wi false x.to 0 0 0 0 = false
        simp_all [vP9] <;> (try (intros; first | omega | (exfalso; omega)))
      have q : eqD (xA 9 0 0 0 wi false x.to 0 0 0 0) (xA 9 0 0 0 wi false ds 0 0 0 0) = false := by
        simp_all [vP9]
        try omega
      exact u9_1 x wi ds hc (csA (csI' hj (csT' k1 (csF' k2 (csF' q (csT' (eF e).1 (csT' (eF e).2.1 (csT' (eF e).2.2 csN')))))))) w hL
  · have e : vP 9 0 0 0 wi false x.to 0 0 0 0 = false := by
      show vP9 0 0 0 wi false x.to 0 0 0 0 = false
      simp_all [vP9] <;> (try (intros; first | omega | (exfalso; omega)))
    have q : eqD (xA 9 0 0 0 wi false x.to 0 0 0 0) (xA 9 0 0 0 wi false ds 0 0 0 0) = false := by
      simp_all [vP9]
      try omega
    exact u9_2 x wi ds hc (csA (csI' hj (csF' k1 (csF' q (csT' (eF e).1 (csT' (eF e).2.1 (csT' (eF e).2.2 csN'))))))) w hL
theorem law9_1 (wi : Bool) (ds : Int) (hc : Cu x (xA 9 0 0 0 wi false ds 0 0 0 0)) (hv : vP9 0 0 0 wi false ds 0 0 0 0 = true) (hj : Int.tmod x.wh 6 = 1) (w : World) (hL : Laid h12 w) : Lw x w := by
  rcases Bool.eq_false_or_eq_true (decide (x.to ≥ 0)) with k1 | k1
  · rcases Bool.eq_false_or_eq_true (decide (x.to < 16)) with k2 | k2
    · rcases Bool.eq_false_or_eq_true (eqD (xA 9 0 0 0 wi false ds x.to 0 0 0) (xA 9 0 0 0 wi false ds 0 0 0 0)) with k3 | k3
      · have e : vP 9 0 0 0 wi false ds x.to 0 0 0 = true := by
          show vP9 0 0 0 wi false ds x.to 0 0 0 = true
          simp_all [vP9]
        exact u9_3 x wi ds hc (csA (csI' hj (csT' k1 (csT' k2 (csT' k3 (csT' e (csT' (eT e) csN'))))))) w hL
      · have e : vP 9 0 0 0 wi false ds x.to 0 0 0 = false := by
          show vP9 0 0 0 wi false ds x.to 0 0 0 = false
          simp_all [vP9]
        exact u9_4 x wi ds hc (csA (csI' hj (csT' k1 (csT' k2 (csF' k3 (csT' (eF e).1 (csT' (eF e).2.1 (csT' (eF e).2.2 csN')))))))) w hL
    · rcases Bool.eq_false_or_eq_true (eqD (xA 9 0 0 0 wi false ds x.to 0 0 0) (xA 9 0 0 0 wi false ds 0 0 0 0)) with k4 | k4
      · have e : vP 9 0 0 0 wi false ds x.to 0 0 0 = true := by
          show vP9 0 0 0 wi false ds x.to 0 0 0 = true
          simp_all [vP9]
        exact u9_5 x wi ds hc (csA (csI' hj (csT' k1 (csF' k2 (csT' k4 (csT' e (csT' (eT e) csN'))))))) w hL
      · have e : vP 9 0 0 0 wi false ds x.to 0 0 0 = false := by
          show vP9 0 0 0 wi false ds x.to 0 0 0 = false
          simp_all [vP9]
        exact u9_6 x wi ds hc (csA (csI' hj (csT' k1 (csF' k2 (csF' k4 (csT' (eF e).1 (csT' (eF e).2.1 (csT' (eF e).2.2 csN')))))))) w hL
  · rcases Bool.eq_false_or_eq_true (eqD (xA 9 0 0 0 wi false ds x.to 0 0 0) (xA 9 0 0 0 wi false ds 0 0 0 0)) with k5 | k5
    · have e : vP 9 0 0 0 wi false ds x.to 0 0 0 = true := by
        show vP9 0 0 0 wi false ds x.to 0 0 0 = true
        simp_all [vP9]
      exact u9_7 x wi ds hc (csA (csI' hj (csF' k1 (csT' k5 (csT' e (csT' (eT e) csN')))))) w hL
    · have e : vP 9 0 0 0 wi false ds x.to 0 0 0 = false := by
        show vP9 0 0 0 wi false ds x.to 0 0 0 = false
        simp_all [vP9]
      exact u9_8 x wi ds hc (csA (csI' hj (csF' k1 (csF' k5 (csT' (eF e).1 (csT' (eF e).2.1 (csT' (eF e).2.2 csN'))))))) w hL
theorem law9_2 (wi : Bool) (ds : Int) (hc : Cu x (xA 9 0 0 0 wi false ds 0 0 0 0)) (hv : vP9 0 0 0 wi false ds 0 0 0 0 = true) (hj : Int.tmod x.wh 6 = 2) (w : World) (hL : Laid h12 w) : Lw x w := by
  rcases Bool.eq_false_or_eq_true (eqD (xA 9 0 0 x.to wi false ds 0 0 0 0) (xA 9 0 0 0 wi false ds 0 0 0 0)) with k1 | k1
  · have e : vP 9 0 0 x.to wi false ds 0 0 0 0 = true := by
      show vP9 0 0 x.to wi false ds 0 0 0 0 = true
      simp_all [vP9]
    exact u9_9 x wi ds hc (csA (csI' hj (csT' k1 (csT' e (csT' (eT e) csN'))))) w hL
  · have e : vP 9 0 0 x.to wi false ds 0 0 0 0 = false := by
      show vP9 0 0 x.to wi false ds 0 0 0 0 = false
      simp_all [vP9]
    exact u9_10 x wi ds hc (csA (csI' hj (csF' k1 (csT' (eF e).1 (csT' (eF e).2.1 (csT' (eF e).2.2 csN')))))) w hL
theorem law9_3 (wi : Bool) (ds : Int) (hc : Cu x (xA 9 0 0 0 wi false ds 0 0 0 0)) (hv : vP9 0 0 0 wi false ds 0 0 0 0 = true) (hj : Int.tmod x.wh 6 = 3) (w : World) (hL : Laid h12 w) : Lw x w := by
  rcases Bool.eq_false_or_eq_true (eqD (xA 9 0 x.to 0 wi false ds 0 0 0 0) (xA 9 0 0 0 wi false ds 0 0 0 0)) with k1 | k1
  · have e : vP 9 0 x.to 0 wi false ds 0 0 0 0 = true := by
      show vP9 0 x.to 0 wi false ds 0 0 0 0 = true
      simp_all [vP9]
    exact u9_11 x wi ds hc (csA (csI' hj (csT' k1 (csT' e (csT' (eT e) csN'))))) w hL
  · have e : vP 9 0 x.to 0 wi false ds 0 0 0 0 = false := by
      show vP9 0 x.to 0 wi false ds 0 0 0 0 = false
      simp_all [vP9]
    exact u9_12 x wi ds hc (csA (csI' hj (csF' k1 (csT' (eF e).1 (csT' (eF e).2.1 (csT' (eF e).2.2 csN')))))) w hL
theorem law9_4 (wi : Bool) (ds : Int) (hc : Cu x (xA 9 0 0 0 wi false ds 0 0 0 0)) (hv : vP9 0 0 0 wi false ds 0 0 0 0 = true) (hj : Int.tmod x.wh 6 = 4) (w : World) (hL : Laid h12 w) : Lw x w := by
  rcases Bool.eq_false_or_eq_true (eqD (xA 9 0 0 0 wi false ds 0 0 (IntKind.i32.wrap x.to) 0) (xA 9 0 0 0 wi false ds 0 0 0 0)) with k1 | k1
  · have e : vP 9 0 0 0 wi false ds 0 0 (IntKind.i32.wrap x.to) 0 = true := by
      show vP9 0 0 0 wi false ds 0 0 (IntKind.i32.wrap x.to) 0 = true
      simp_all [vP9]
    exact u9_13 x wi ds hc (csA (csI' hj (csT' k1 (csT' e (csT' (eT e) csN'))))) w hL
  · have e : vP 9 0 0 0 wi false ds 0 0 (IntKind.i32.wrap x.to) 0 = false := by
      show vP9 0 0 0 wi false ds 0 0 (IntKind.i32.wrap x.to) 0 = false
      simp_all [vP9]
    exact u9_14 x wi ds hc (csA (csI' hj (csF' k1 (csT' (eF e).1 (csT' (eF e).2.1 (csT' (eF e).2.2 csN')))))) w hL
theorem law9_5 (wi : Bool) (ds : Int) (hc : Cu x (xA 9 0 0 0 wi false ds 0 0 0 0)) (hv : vP9 0 0 0 wi false ds 0 0 0 0 = true) (hj : Int.tmod x.wh 6 = 5) (w : World) (hL : Laid h12 w) : Lw x w := by
  rcases Bool.eq_false_or_eq_true (eqD (xA 9 0 0 0 wi false ds 0 (IntKind.i32.wrap x.to) 0 0) (xA 9 0 0 0 wi false ds 0 0 0 0)) with k1 | k1
  · have e : vP 9 0 0 0 wi false ds 0 (IntKind.i32.wrap x.to) 0 0 = true := by
      show vP9 0 0 0 wi false ds 0 (IntKind.i32.wrap x.to) 0 0 = true
      simp_all [vP9]
    exact u9_15 x wi ds hc (csA (csI' hj (csT' k1 (csT' e (csT' (eT e) csN'))))) w hL
  · have e : vP 9 0 0 0 wi false ds 0 (IntKind.i32.wrap x.to) 0 0 = false := by
      show vP9 0 0 0 wi false ds 0 (IntKind.i32.wrap x.to) 0 0 = false
      simp_all [vP9]
    exact u9_16 x wi ds hc (csA (csI' hj (csF' k1 (csT' (eF e).1 (csT' (eF e).2.1 (csT' (eF e).2.2 csN')))))) w hL
theorem u10_0 (wi : Bool) (ds : Int) (sr : Int) (hc : Cu x (xA 10 0 0 0 wi false ds sr 0 0 0)) : Ru x [(Int.tmod x.wh 6, 0), (b2i (decide (x.to ≥ 0)), 1), (b2i (decide (x.to < 16)), 1), (b2i (vP 10 0 0 0 wi false x.to sr 0 0 0), 1)] := lf (orHook_ok (hk_cut_ok hc) hkU_ok) (ocs [(7, 58, .int .u8 0), (7, 81, .bool true), (7, 85, .bool true), (7, 101, .bool true)] []) (by kernel_rfl) (by kernel_rfl) (by kernel_rfl)
theorem u10_1 (wi : Bool) (ds : Int) (sr : Int) (hc : Cu x (xA 10 0 0 0 wi false ds sr 0 0 0)) : Ru x [(Int.tmod x.wh 6, 0), (b2i (decide (x.to ≥ 0)), 1), (b2i (decide (x.to < 16)), 0), (b2i (eqD (xA 10 0 0 0 wi false x.to sr 0 0 0) (xA 10 0 0 0 wi false ds sr 0 0 0)), 0), (b2i (!vP 10 0 0 0 wi false x.to sr 0 0 0), 1), (b2i (encB 10 0 0 0 wi false x.to sr 0 0 0 == ([] : List UInt8)), 1), (b2i (encE 10 0 0 0 wi false x.to sr 0 0 0 == 2), 1)] := lf (orHook_ok (hk_cut_ok hc) hkU_ok) (ocs [(7, 58, .int .u8 0), (7, 81, .bool true), (7, 85, .bool false), (7, 220, .bool false), (7, 233, .bool true), (7, 237, .bool true), (7, 241, .bool true)] []) (by kernel_rfl) (by kernel_rfl) (by kernel_rfl)
theorem u10_2 (wi : Bool) (ds : Int) (sr : Int) (hc : Cu x (xA 10 0 0 0 wi false ds sr 0 0 0)) : Ru x [(Int.tmod x.wh 6, 0), (b2i (decide (x.to ≥ 0)), 0), (b2i (eqD (xA 10 0 0 0 wi false x.to sr 0 0 0) (xA 10 0 0 0 wi false ds sr 0 0 0)), 0), (b2i (!vP 10 0 0 0 wi false x.to sr 0 0 0), 1), (b2i (encB 10 0 0 0 wi false x.to sr 0 0 0 == ([] : List UInt8)), 1), (b2i (encE 10 0 0 0 wi false x.to sr 0 0 0 == 2), 1)] := lf (orHook_ok (hk_cut_ok hc) hkU_ok) (ocs [(7, 58, .int .u8 0), (7, 81, .bool false), (7, 220, .bool false), (7, 233, .bool true), (7, 237, .bool true), (7, 241, .bool true)] []) (by kernel_rfl) (by kernel_rfl) (by kernel_rfl)
theorem u10_3 (wi : Bool) (ds : Int) (sr : Int) (hc : Cu x (xA 10 0 0 0 wi false ds sr 0 0 0)) : Ru x [(Int.tmod x.wh 6, 1), (b2i (decide (x.to ≥ 0)), 1), (b2i (decide (x.to < 16)), 1), (b2i (vP 10 0 0 0 wi false ds x.to 0 0 0), 1)] := lf (orHook_ok (hk_cut_ok hc) hkU_ok) (ocs [(7, 58, .int .u8 1), (7, 110, .bool true), (7, 114, .bool true), (7, 119, .bool true)] []) (by kernel_rfl) (by kernel_rfl) (by kernel_rfl)
theorem u10_4 (wi : Bool) (ds : Int) (sr : Int) (hc : Cu x (xA 10 0 0 0 wi false ds sr 0 0 0)) : Ru x [(Int.tmod x.wh 6, 1), (b2i (decide (x.to ≥ 0)), 1), (b2i (decide (x.to < 16)), 0), (b2i (eqD (xA 10 0 0 0 wi false ds x.to 0 0 0) (xA 10 0 0 0 wi false ds sr 0 0 0)), 0), (b2i (!vP 10 0 0 0 wi false ds x.to 0 0 0), 1), (b2i (encB 10 0 0 0 wi false ds x.to 0 0 0 == ([] : List UInt8)), 1), (b2i (encE 10 0 0 0 wi false ds x.to 0 0 0 == 2), 1)] := lf (orHook_ok (hk_cut_ok hc) hkU_ok) (ocs [(7, 58, .int .u8 1), (7, 110, .bool true), (7, 114, .bool false), (7, 220, .bool false), (7, 233, .bool true), (7, 237, .bool true), (7, 241, .bool true)] []) (by kernel_rfl) (by kernel_rfl) (by kernel_rfl)
theorem u10_5 (wi : Bool) (ds : Int) (sr : Int) (hc : Cu x (xA 10 0 0 0 wi false ds sr 0 0 0)) : Ru x [(Int.tmod x.wh 6, 1), (b2i (decide (x.to ≥ 0)), 0), (b2i (eqD (xA 10 0 0 0 wi false ds x.to 0 0 0) (xA 10 0 0 0 wi false ds sr 0 0 0)), 0), (b2i (!vP 10 0 0 0 wi false ds x.to 0 0 0), 1), (b2i (encB 10 0 0 0 wi false ds x.to 0 0 0 == ([] : List UInt8)), 1), (b2i (encE 10 0 0 0 wi false ds x.to 0 0 0 == 2), 1)] := lf (orHook_ok (hk_cut_ok hc) hkU_ok) (ocs [(7, 58, .int .u8 1), (7, 110, .bool false), (7, 220, .bool false), (7, 233, .bool true), (7, 237, .bool true), (7, 241, .bool true)] []) (by kernel_rfl) (by kernel_rfl) (by kernel_rfl)
theorem u10_6 (wi : Bool) (ds : Int) (sr : Int) (hc : Cu x (xA 10 0 0 0 wi false ds sr 0 0 0)) : Ru x [(Int.tmod x.wh 6, 2), (b2i (eqD (xA 10 0 0 x.to wi false ds sr 0 0 0) (xA 10 0 0 0 wi false ds sr 0 0 0)), 1), (b2i (vP 10 0 0 x.to wi false ds sr 0 0 0), 1), (b2i (encE 10 0 0 x.to wi false ds sr 0 0 0 == 0), 1)] := lf (orHook_ok (hk_cut_ok hc) hkU_ok) (ocs [(7, 58, .int .u8 2), (7, 220, .bool true), (7, 223, .bool true), (7, 227, .bool true)] []) (by kernel_rfl) (by kernel_rfl) (by kernel_rfl)
theorem u10_7 (wi : Bool) (ds : Int) (sr : Int) (hc : Cu x (xA 10 0 0 0 wi false ds sr 0 0 0)) : Ru x [(Int.tmod x.wh 6, 2), (b2i (eqD (xA 10 0 0 x.to wi false ds sr 0 0 0) (xA 10 0 0 0 wi false ds sr 0 0 0)), 0), (b2i (!vP 10 0 0 x.to wi false ds sr 0 0 0), 1), (b2i (encB 10 0 0 x.to wi false ds sr 0 0 0 == ([] : List UInt8)), 1), (b2i (encE 10 0 0 x.to wi false ds sr 0 0 0 == 2), 1)] := lf (orHook_ok (hk_cut_ok hc) hkU_ok) (ocs [(7, 58, .int .u8 2), (7, 220, .bool false), (7, 233, .bool true), (7, 237, .bool true), (7, 241, .bool true)] []) (by kernel_rfl) (by kernel_rfl) (by kernel_rfl)
theorem u10_8 (wi : Bool) (ds : Int) (sr : Int) (hc : Cu x (xA 10 0 0 0 wi false ds sr 0 0 0)) : Ru x [(Int.tmod x.wh 6, 3), (b2i (eqD (xA 10 0 x.to 0 wi false ds sr 0 0 0) (xA 10 0 0 0 wi false ds sr 0 0 0)), 1), (b2i (vP 10 0 x.to 0 wi false ds sr 0 0 0), 1), (b2i (encE 10 0 x.to 0 wi false ds sr 0 0 0 == 0), 1)] := lf (orHook_ok (hk_cut_ok hc) hkU_ok) (ocs [(7, 58, .int .u8 3), (7, 220, .bool true), (7, 223, .bool true), (7, 227, .bool true)] []) (by kernel_rfl) (by kernel_rfl) (by kernel_rfl)
theorem u10_9 (wi : Bool) (ds : Int) (sr : Int) (hc : Cu x (xA 10 0 0 0 wi false ds sr 0 0 0)) : Ru x [(Int.tmod x.wh 6, 3), (b2i (eqD (xA 10 0 x.to 0 wi false ds sr 0 0 0) (xA 10 0 0 0 wi false ds sr 0 0 0)), 0), (b2i (!vP 10 0 x.to 0 wi false ds sr 0 0 0), 1), (b2i (encB 10 0 x.to 0 wi false ds sr 0 0 0 == ([] : List UInt8)), 1), (b2i (encE 10 0 x.to 0 wi false ds sr 0 0 0 == 2), 1)] := lf (orHook_ok (hk_cut_ok hc) hkU_ok) (ocs [(7, 58, .int .u8 3), (7, 220, .bool false), (7, 233, .bool true), (7, 237, .bool true), (7, 241, .bool true)] []) (by kernel_rfl) (by kernel_rfl) (by kernel_rfl)
theorem u10_10 (wi : Bool) (ds : Int) (sr : Int) (hc : Cu x (xA 10 0 0 0 wi false ds sr 0 0 0)) : Ru x [(Int.tmod x.wh 6, 4), (b2i (eqD (xA 10 0 0 0 wi false ds sr 0 (IntKind.i32.wrap x.to) 0) (xA 10 0 0 0 wi false ds sr 0 0 0)), 1), (b2i (vP 10 0 0 0 wi false ds sr 0 (IntKind.i32.wrap x.to) 0), 1), (b2i (encE 10 0 0 0 wi false ds sr 0 (IntKind.i32.wrap x.to) 0 == 0), 1)] := lf (orHook_ok (hk_cut_ok hc) hkU_ok) (ocs [(7, 58, .int .u8 4), (7, 220, .bool true), (7, 223, .bool true), (7, 227, .bool true)] []) (by kernel_rfl) (by kernel_rfl) (by kernel_rfl)
theorem u10_11 (wi : Bool) (ds : Int) (sr : Int) (hc : Cu x (xA 10 0 0 0 wi false ds sr 0 0 0)) : Ru x [(Int.tmod x.wh 6, 4), (b2i (eqD (xA 10 0 0 0 wi false ds sr 0 (IntKind.i32.wrap x.to) 0) (xA 10 0 0 0 wi false ds sr 0 0 0)), 0), (b2i (!vP 10 0 0 0 wi false ds sr 0 (IntKind.i32.wrap x.to) 0), 1), (b2i (encB 10 0 0 0 wi false ds sr 0 (IntKind.i32.wrap x.to) 0 == ([] : List UInt8)), 1), (b2i (encE 10 0 0 0 wi false ds sr 0 (IntKind.i32.wrap x.to) 0 == 2), 1)] := lf (orHook_ok (hk_cut_ok hc) hkU_ok) (ocs [(7, 58, .int .u8 4), (7, 220, .bool false), (7, 233, .bool true), (7, 237, .bool true), (7, 241, .bool true)] []) (by kernel_rfl) (by kernel_rfl) (by kernel_rfl)
theorem u10_12 (wi : Bool) (ds : Int) (sr : Int) (hc : Cu x (xA 10 0 0 0 wi false ds sr 0 0 0)) : Ru x [(Int.tmod x.wh 6, 5), (b2i (eqD (xA 10 0 0 0 wi false ds sr (IntKind.i32.wrap x.to) 0 0) (xA 10 0 0 0 wi false ds sr 0 0 0)), 1), (b2i (vP 10 0 0 0 wi false ds sr (IntKind.i32.wrap x.to) 0 0), 1), (b2i (encE 10 0 0 0 wi false ds sr (IntKind.i32.wrap x.to) 0 0 == 0), 1)] := lf (orHook_ok (hk_cut_ok hc) hkU_ok) (ocs [(7, 58, .int .u8 5), (7, 220, .bool true), (7, 223, .bool true), (7, 227, .bool true)] []) (by kernel_rfl) (by kernel_rfl) (by kernel_rfl)
theorem u10_13 (wi : Bool) (ds : Int) (sr : Int) (hc : Cu x (xA 10 0 0 0 wi false ds sr 0 0 0)) : Ru x [(Int.tmod x.wh 6, 5), (b2i (eqD (xA 10 0 0 0 wi false ds sr (IntKind.i32.wrap x.to) 0 0) (xA 10 0 0 0 wi false ds sr 0 0 0)), 0), (b2i (!vP 10 0 0 0 wi false ds sr (IntKind.i32.wrap x.to) 0 0), 1), (b2i (encB 10 0 0 0 wi false ds sr (IntKind.i32.wrap x.to) 0 0 == ([] : List UInt8)), 1), (b2i (encE 10 0 0 0 wi false ds sr (IntKind.i32.wrap x.to) 0 0 == 2), 1)] := lf (orHook_ok (hk_cut_ok hc) hkU_ok) (ocs [(7, 58, .int .u8 5), (7, 220, .bool false), (7, 233, .bool true), (7, 237, .bool true), (7, 241, .bool true)] []) (by kernel_rfl) (by kernel_rfl) (by kernel_rfl)
theorem law10_0 (wi : Bool) (ds : Int) (sr : Int) (hc : Cu x (xA 10 0 0 0 wi false ds sr 0 0 0)) (hv : vP10 0 0 0 wi false ds sr 0 0 0 = true) (hj : Int.tmod x.wh 6 = 0) (w : World) (hL : Laid h12 w) : Lw x w := by
  rcases Bool.eq_false_or_eq_true (decide (x.to ≥ 0)) with k1 | k1
  · rcases Bool.eq_false_or_eq_true (decide (x.to < 16)) with k2 | k2
    · have e : vP 10 0 0 0 wi false x.to sr 0 0 0 = true := by
        show vP10 0 0 0 wi false x.to sr 0 0 0 = true
        simp_all [vP10]
      exact u10_0 x wi ds sr hc (csA (csI' hj (csT' k1 (csT' k2 (csT' e csN'))))) w hL
    · have e : vP 10 0 0 0 wi false x.to sr 0 0 0 = false := by
        show vP10 0 0 0 wi false x.to sr 0 0 0 = false
        simp_all [vP10] <;> (try (intros; first | omega | (exfalso; omega)))
      have q : eqD (xA 10 0 0 0 wi false x.to sr 0 0 0) (xA 10 0 0 0 wi false ds sr 0 0 0) = false := by
        simp_all [vP10]
        try omega
      exact u10_1 x wi ds sr hc (csA (csI' hj (csT' k1 (csF' k2 (csF' q (csT' (eF e).1 (csT' (eF e).2.1 (csT' (eF e).2.2 csN')))))))) w hL
  · have e : vP 10 0 0 0 wi false x.to sr 0 0 0 = false := by
      show vP10 0 0 0 wi false x.to sr 0 0 0 = false
      simp_all [vP10] <;> (try (intros; first | omega | (exfalso; omega)))
    have q : eqD (xA 10 0 0 0 wi false x.to sr 0 0 0) (xA 10 0 0 0 wi false ds sr 0 0 0) = false := by
      simp_all [vP10]
      try omega
    exact u10_2 x wi ds sr hc (csA (csI' hj (csF' k1 (csF' q (csT' (eF e).1 (csT' (eF e).2.1 (csT' (eF e).2.2 csN'))))))) w hL
theorem law10_1 (wi : Bool) (ds : Int) (sr : Int) (hc : Cu x (xA 10 0 0 0 wi false ds sr 0 0 0)) (hv : vP10 0 0 0 wi false ds sr 0 0 0 = true) (hj : Int.tmod x.wh 6 = 1) (w : World) (hL : Laid h12 w) : Lw x w := by
  rcases Bool.eq_false_or_eq_true (decide (x.to ≥ 0)) with k1 | k1
  · rcases Bool.eq_false_or_eq_true (decide (x.to < 16)) with k2 | k2
    · have e : vP 10 0 0 0 wi false ds x.to 0 0 0 = true := by
        show vP10 0 0 0 wi false ds x.to 0 0 0 = true
        simp_all [vP10]
      exact u10_3 x wi ds sr hc (csA (csI' hj (csT' k1 (csT' k2 (csT' e csN'))))) w hL
    · have e : vP 10 0 0 0 wi false ds x.to 0 0 0 = false := by
        show vP10 0 0 0 wi false ds x.to 0 0 0 = false
        simp_all [vP10] <;> (try (intros; first | omega | (exfalso; omega)))
      have q : eqD (xA 10 0 0 0 wi false ds x.to 0 0 0) (xA 10 0 0 0 wi false ds sr 0 0 0) = false := by
        simp_all [vP10]
        try omega
      exact u10_4 x wi ds sr hc (csA (csI' hj (csT' k1 (csF' k2 (csF' q (csT' (eF e).1 (csT' (eF e).2.1 (csT' (eF e).2.2 csN')))))))) w hL
  · have e : vP 10 0 0 0 wi false ds x.to 0 0 0 = false := by
      show vP10 0 0 0 wi false ds x.to 0 0 0 = false
      simp_all [vP10] <;> (try (intros; first | omega | (exfalso; omega)))
    have q : eqD (xA 10 0 0 0 wi false ds x.to 0 0 0) (xA 10 0 0 0 wi false ds sr 0 0 0) = false := by
      simp_all [vP10]
      try omega
    exact u10_5 x wi ds sr hc (csA (csI' hj (csF' k1 (csF' q (csT' (eF e).1 (csT' (eF e).2.1 (csT' (eF e).2.2 csN'))))))) w hL
theorem law10_2 (wi : Bool) (ds : Int) (sr : Int) (hc : Cu x (xA 10 0 0 0 wi false ds sr 0 0 0)) (hv : vP10 0 0 0 wi false ds sr 0 0 0 = true) (hj : Int.tmod x.wh 6 = 2) (w : World) (hL : Laid h12 w) : Lw x w := by
  rcases Bool.eq_false_or_eq_true (eqD (xA 10 0 0 x.to wi false ds sr 0 0 0) (xA 10 0 0 0 wi false ds sr 0 0 0)) with k1 | k1
  · have e : vP 10 0 0 x.to wi false ds sr 0 0 0 = true := by
      show vP10 0 0 x.to wi false ds sr 0 0 0 = true
      simp_all [vP10]
    exact u10_6 x wi ds sr hc (csA (csI' hj (csT' k1 (csT' e (csT' (eT e) csN'))))) w hL
  · have e : vP 10 0 0 x.to wi false ds sr 0 0 0 = false := by
      show vP10 0 0 x.to wi false ds sr 0 0 0 = false
      simp_all [vP10]
    exact u10_7 x wi ds sr hc (csA (csI' hj (csF' k1 (csT' (eF e).1 (csT' (eF e).2.1 (csT' (eF e).2.2 csN')))))) w hL
theorem law10_3 (wi : Bool) (ds : Int) (sr : Int) (hc : Cu x (xA 10 0 0 0 wi false ds sr 0 0 0)) (hv : vP10 0 0 0 wi false ds sr 0 0 0 = true) (hj : Int.tmod x.wh 6 = 3) (w : World) (hL : Laid h12 w) : Lw x w := by
  rcases Bool.eq_false_or_eq_true (eqD (xA 10 0 x.to 0 wi false ds sr 0 0 0) (xA 10 0 0 0 wi false ds sr 0 0 0)) with k1 | k1
  · have e : vP 10 0 x.to 0 wi false ds sr 0 0 0 = true := by
      show vP10 0 x.to 0 wi false ds sr 0 0 0 = true
      simp_all [vP10]
    exact u10_8 x wi ds sr hc (csA (csI' hj (csT' k1 (csT' e (csT' (eT e) csN'))))) w hL
  · have e : vP 10 0 x.to 0 wi false ds sr 0 0 0 = false := by
      show vP10 0 x.to 0 wi false ds sr 0 0 0 = false
      simp_all [vP10]
    exact u10_9 x wi ds sr hc (csA (csI' hj (csF' k1 (csT' (eF e).1 (csT' (eF e).2.1 (csT' (eF e).2.2 csN')))))) w hL
theorem law10_4 (wi : Bool) (ds : Int) (sr : Int) (hc : Cu x (xA 10 0 0 0 wi false ds sr 0 0 0)) (hv : vP10 0 0 0 wi false ds sr 0 0 0 = true) (hj : Int.tmod x.wh 6 = 4) (w : World) (hL : Laid h12 w) : Lw x w := by
  rcases Bool.eq_false_or_eq_true (eqD (xA 10 0 0 0 wi false ds sr 0 (IntKind.i32.wrap x.to) 0) (xA 10 0 0 0 wi false ds sr 0 0 0)) with k1 | k1
  · have e : vP 10 0 0 0 wi false ds sr 0 (IntKind.i32.wrap x.to) 0 = true := by
      show vP10 0 0 0 wi false ds sr 0 (IntKind.i32.wrap x.to) 0 = true
      simp_all [vP10]
    exact u10_10 x wi ds sr hc (csA (csI' hj (csT' k1 (csT' e (csT' (eT e) csN'))))) w hL
  · have e : vP 10 0 0 0 wi false ds sr 0 (IntKind.i32.wrap x.to) 0 = false := by
      show vP10 0 0 0 wi false ds sr 0 (IntKind.i32.wrap x.to) 0 = false
      simp_all [vP10]
    exact u10_11 x wi ds sr hc (csA (csI' hj (csF' k1 (csT' (eF e).1 (csT' (eF e).2.1 (csT' (eF e).2.2 csN')))))) w hL
theorem law10_5 (wi : Bool) (ds : Int) (sr : Int) (hc : Cu x (xA 10 0 0 0 wi false ds sr 0 0 0)) (hv : vP10 0 0 0 wi false ds sr 0 0 0 = true) (hj : Int.tmod x.wh 6 = 5) (w : World) (hL : Laid h12 w) : Lw x w := by
  rcases Bool.eq_false_or_eq_true (eqD (xA 10 0 0 0 wi false ds sr (IntKind.i32.wrap x.to) 0 0) (xA 10 0 0 0 wi false ds sr 0 0 0)) with k1 | k1
  · have e : vP 10 0 0 0 wi false ds sr (IntKind.i32.wrap x.to) 0 0 = true := by
      show vP10 0 0 0 wi false ds sr (IntKind.i32.wrap x.to) 0 0 = true
      simp_all [vP10]
    exact u10_12 x wi ds sr hc (csA (csI' hj (csT' k1 (csT' e (csT' (eT e) csN'))))) w hL
  · have e : vP 10 0 0 0 wi false ds sr (IntKind.i32.wrap x.to) 0 0 = false := by
      show vP10 0 0 0 wi false ds sr (IntKind.i32.wrap x.to) 0 0 = false
      simp_all [vP10]
    exact u10_13 x wi ds sr hc (csA (csI' hj (csF' k1 (csT' (eF e).1 (csT' (eF e).2.1 (csT' (eF e).2.2 csN')))))) w hL
theorem u11_0 (al : Int) (wi : Bool) (ds : Int) (im : Int) (hc : Cu x (xA 11 al 0 0 wi false ds 0 0 0 im)) : Ru x [(Int.tmod x.wh 6, 0), (b2i (decide (x.to ≥ 0)), 1), (b2i (decide (x.to < 16)), 1), (b2i (vP 11 al 0 0 wi false x.to 0 0 0 im), 1)] := lf (orHook_ok (hk_cut_ok hc) hkU_ok) (ocs [(7, 58, .int .u8 0), (7, 81, .bool true), (7, 85, .bool true), (7, 101, .bool true)] []) (by kernel_rfl) (by kernel_rfl) (by kernel_rfl)
theorem u11_1 (al : Int) (wi : Bool) (ds : Int) (im : Int) (hc : Cu x (xA 11 al 0 0 wi false ds 0 0 0 im)) : Ru x [(Int.tmod x.wh 6, 0), (b2i (decide (x.to ≥ 0)), 1), (b2i (decide (x.to < 16)), 0), (b2i (eqD (xA 11 al 0 0 wi false x.to 0 0 0 im) (xA 11 al 0 0 wi false ds 0 0 0 im)), 0), (b2i (!vP 11 al 0 0 wi false x.to 0 0 0 im), 1), (b2i (encB 11 al 0 0 wi false x.to 0 0 0 im == ([] : List UInt8)), 1), (b2i (encE 11 al 0 0 wi false x.to 0 0 0 im == 2), 1)] := lf (orHook_ok (hk_cut_ok hc) hkU_ok) (ocs [(7, 58, .int .u8 0), (7, 81, .bool true), (7, 85, .bool false), (7, 220, .bool false), (7, 233, .bool true), (7, 237, .bool true), (7, 241, .bool true)] []) (by kernel_rfl) (by kernel_rfl) (by kernel_rfl)
theorem u11_2 (al : Int) (wi : Bool) (ds : Int) (im : Int) (hc : Cu x (xA 11 al 0 0 wi false ds 0 0 0 im)) : Ru x [(Int.tmod x.wh 6, 0), (b2i (decide (x.to ≥ 0)), 0), (b2i (eqD (xA 11 al 0 0 wi false x.to 0 0 0 im) (xA 11 al 0 0 wi false ds 0 0 0 im)), 0), (b2i (!vP 11 al 0 0 wi false x.to 0 0 0 im), 1), (b2i (encB 11 al 0 0 wi false x.to 0 0 0 im == ([] : List UInt8)), 1), (b2i (encE 11 al 0 0 wi false x.to 0 0 0 im == 2), 1)] := lf (orHook_ok (hk_cut_ok hc) hkU_ok) (ocs [(7, 58, .int .u8 0), (7, 81, .bool false), (7, 220, .bool false), (7, 233, .bool true), (7, 237, .bool true), (7, 241, .bool true)] []) (by kernel_rfl) (by kernel_rfl) (by kernel_rfl)
theorem u11_3 (al : Int) (wi : Bool) (ds : Int) (im : Int) (hc : Cu x (xA 11 al 0 0 wi false ds 0 0 0 im)) : Ru x [(Int.tmod x.wh 6, 1), (b2i (decide (x.to ≥ 0)), 1), (b2i (decide (x.to < 16)), 1), (b2i (eqD (xA 11 al 0 0 wi false ds x.to 0 0 im) (xA 11 al 0 0 wi false ds 0 0 0 im)), 1), (b2i (vP 11 al 0 0 wi false ds x.to 0 0 im), 1), (b2i (encE 11 al 0 0 wi false ds x.to 0 0 im == 0), 1)] := lf (orHook_ok (hk_cut_ok hc) hkU_ok) (ocs [(7, 58, .int .u8 1), (7, 110, .bool true), (7, 114, .bool true), (7, 220, .bool true), (7, 223, .bool true), (7, 227, .bool true)] []) (by kernel_rfl) (by kernel_rfl) (by kernel_rfl)
theorem u11_4 (al : Int) (wi : Bool) (ds : Int) (im : Int) (hc : Cu x (xA 11 al 0 0 wi false ds 0 0 0 im)) : Ru x [(Int.tmod x.wh 6, 1), (b2i (decide (x.to ≥ 0)), 1), (b2i (decide (x.to < 16)), 1), (b2i (eqD (xA 11 al 0 0 wi false ds x.to 0 0 im) (xA 11 al 0 0 wi false ds 0 0 0 im)), 0), (b2i (!vP 11 al 0 0 wi false ds x.to 0 0 im), 1), (b2i (encB 11 al 0 0 wi false ds x.to 0 0 im == ([] : List UInt8)), 1), (b2i (encE 11 al 0 0 wi false ds x.to 0 0 im == 2), 1)] := lf (orHook_ok (hk_cut_ok hc) hkU_ok) (ocs [(7, 58, .int .u8 1), (7, 110, .bool true), (7, 114, .bool true), (7, 220, .bool false), (7, 233, .bool true), (7, 237, .bool true), (7, 241, .bool true)] []) (by kernel_rfl) (by kernel_rfl) (by kernel_rfl)
theorem u11_5 (al : Int) (wi : Bool) (ds : Int) (im : Int) (hc : Cu x (xA 11 al 0 0 wi false ds 0 0 0 im)) : Ru x [(Int.tmod x.wh 6, 1), (b2i (decide (x.to ≥ 0)), 1), (b2i (decide (x.to < 16)), 0), (b2i (eqD (xA 11 al 0 0 wi false ds x.to 0 0 im) (xA 11 al 0 0 wi false ds 0 0 0 im)), 1), (b2i (vP 11 al 0 0 wi false ds x.to 0 0 im), 1), (b2i (encE 11 al 0 0 wi false ds x.to 0 0 im == 0), 1)] := lf (orHook_ok (hk_cut_ok hc) hkU_ok) (ocs [(7, 58, .int .u8 1), (7, 110, .bool true), (7, 114, .bool false), (7, 220, .bool true), (7, 223, .bool true), (7, 227, .bool true)] []) (by kernel_rfl) (by kernel_rfl) (by kernel_rfl)
theorem u11_6 (al : Int) (wi : Bool) (ds : Int) (im : Int) (hc : Cu x (xA 11 al 0 0 wi false ds 0 0 0 im)) : Ru x [(Int.tmod x.wh 6, 1), (b2i (decide (x.to ≥ 0)), 1), (b2i (decide (x.to < 16)), 0), (b2i (eqD (xA 11 al 0 0 wi false ds x.to 0 0 im) (xA 11 al 0 0 wi false ds 0 0 0 im)), 0), (b2i (!vP 11 al 0 0 wi false ds x.to 0 0 im), 1), (b2i (encB 11 al 0 0 wi false ds x.to 0 0 im == ([] : List UInt8)), 1), (b2i (encE 11 al 0 0 wi false ds x.to 0 0 im == 2), 1)] := lf (orHook_ok (hk_cut_ok hc) hkU_ok) (ocs [(7, 58, .int .u8 1), (7, 110, .bool true), (7, 114, .bool false), (7, 220, .bool false), (7, 233, .bool true), (7, 237, .bool true), (7, 241, .bool true)] []) (by kernel_rfl) (by kernel_rfl) (by kernel_rfl)
theorem u11_7 (al : Int) (wi : Bool) (ds : Int) (im : Int) (hc : Cu x (xA 11 al 0 0 wi false ds 0 0 0 im)) : Ru x [(Int.tmod x.wh 6, 1), (b2i (decide (x.to ≥ 0)), 0), (b2i (eqD (xA 11 al 0 0 wi false ds x.to 0 0 im) (xA 11 al 0 0 wi false ds 0 0 0 im)), 1), (b2i (vP 11 al 0 0 wi false ds x.to 0 0 im), 1), (b2i (encE 11 al 0 0 wi false ds x.to 0 0 im == 0), 1)] := lf (orHook_ok (hk_cut_ok hc) hkU_ok) (ocs [(7, 58, .int .u8 1), (7, 110, .bool false), (7, 220, .bool true), (7, 223, .bool true), (7, 227, .bool true)] []) (by kernel_rfl) (by kernel_rfl) (by kernel_rfl)
theorem u11_8 (al : Int) (wi : Bool) (ds : Int) (im : Int) (hc : Cu x (xA 11 al 0 0 wi false ds 0 0 0 im)) : Ru x [(Int.tmod x.wh 6, 1), (b2i (decide (x.to ≥ 0)), 0), (b2i (eqD (xA 11 al 0 0 wi false ds x.to 0 0 im) (xA 11 al 0 0 wi false ds 0 0 0 im)), 0), (b2i (!vP 11 al 0 0 wi false ds x.to 0 0 im), 1), (b2i (encB 11 al 0 0 wi false ds x.to 0 0 im == ([] : List UInt8)), 1), (b2i (encE 11 al 0 0 wi false ds x.to 0 0 im == 2), 1)] := lf (orHook_ok (hk_cut_ok hc) hkU_ok) (ocs [(7, 58, .int .u8 1), (7, 110, .bool false), (7, 220, .bool false), (7, 233, .bool true), (7, 237, .bool true), (7, 241, .bool true)] []) (by kernel_rfl) (by kernel_rfl) (by kernel_rfl)
theorem u11_9 (al : Int) (wi : Bool) (ds : Int) (im : Int) (hc : Cu x (xA 11 al 0 0 wi false ds 0 0 0 im)) : Ru x [(Int.tmod x.wh 6, 2), (b2i (eqD (xA 11 al 0 x.to wi false ds 0 0 0 im) (xA 11 al 0 0 wi false ds 0 0 0 im)), 1), (b2i (vP 11 al 0 x.to wi false ds 0 0 0 im), 1), (b2i (encE 11 al 0 x.to wi false ds 0 0 0 im == 0), 1)] := lf (orHook_ok (hk_cut_ok hc) hkU_ok) (ocs [(7, 58, .int .u8 2), (7, 220, .bool true), (7, 223, .bool true), (7, 227, .bool true)] []) (by kernel_rfl) (by kernel_rfl) (by kernel_rfl)
theorem u11_10 (al : Int) (wi : Bool) (ds : Int) (im : Int) (hc : Cu x (xA 11 al 0 0 wi false ds 0 0 0 im)) : Ru x [(Int.tmod x.wh 6, 2), (b2i (eqD (xA 11 al 0 x.to wi false ds 0 0 0 im) (xA 11 al 0 0 wi false ds 0 0 0 im)), 0), (b2i (!vP 11 al 0 x.to wi false ds 0 0 0 im), 1), (b2i (encB 11 al 0 x.to wi false ds 0 0 0 im == ([] : List UInt8)), 1), (b2i (encE 11 al 0 x.to wi false ds 0 0 0 im == 2), 1)] := lf (orHook_ok (hk_cut_ok hc) hkU_ok) (ocs [(7, 58, .int .u8 2), (7, 220, .bool false), (7, 233, .bool true), (7, 237, .bool true), (7, 241, .bool true)] []) (by kernel_rfl) (by kernel_rfl) (by kernel_rfl)
theorem u11_11 (al : Int) (wi : Bool) (ds : Int) (im : Int) (hc : Cu x (xA 11 al 0 0 wi false ds 0 0 0 im)) : Ru x [(Int.tmod x.wh 6, 3), (b2i (eqD (xA 11 al x.to 0 wi false ds 0 0 0 im) (xA 11 al 0 0 wi false ds 0 0 0 im)), 1), (b2i (vP 11 al x.to 0 wi false ds 0 0 0 im), 1), (b2i (encE 11 al x.to 0 wi false ds 0 0 0 im == 0), 1)] := lf (orHook_ok (hk_cut_ok hc) hkU_ok) (ocs [(7, 58, .int .u8 3), (7, 220, .bool true), (7, 223, .bool true), (7, 227, .bool true)] []) (by kernel_rfl) (by kernel_rfl) (by kernel_rfl)
theorem u11_12 (al : Int) (wi : Bool) (ds : Int) (im : Int) (hc : Cu x (xA 11 al 0 0 wi false ds 0 0 0 im)) : Ru x [(Int.tmod x.wh 6, 3), (b2i (eqD (xA 11 al x.to 0 wi false ds 0 0 0 im) (xA 11 al 0 0 wi false ds 0 0 0 im)), 0), (b2i (!vP 11 al x.to 0 wi false ds 0 0 0 im), 1), (b2i (encB 11 al x.to 0 wi false ds 0 0 0 im == ([] : List UInt8)), 1), (b2i (encE 11 al x.to 0 wi false ds 0 0 0 im == 2), 1)] := lf (orHook_ok (hk_cut_ok hc) hkU_ok) (ocs [(7, 58, .int .u8 3), (7, 220, .bool false), (7, 233, .bool true), (7, 237, .bool true), (7, 241, .bool true)] []) (by kernel_rfl) (by kernel_rfl) (by kernel_rfl)
theorem u11_13 (al : Int) (wi : Bool) (ds : Int) (im : Int) (hc : Cu x (xA 11 al 0 0 wi false ds 0 0 0 im)) : Ru x [(Int.tmod x.wh 6, 4), (b2i (eqD (xA 11 al 0 0 wi false ds 0 0 (IntKind.i32.wrap x.to) im) (xA 11 al 0 0 wi false ds 0 0 0 im)), 1), (b2i (vP 11 al 0 0 wi false ds 0 0 (IntKind.i32.wrap x.to) im), 1), (b2i (encE 11 al 0 0 wi false ds 0 0 (IntKind.i32.wrap x.to) im == 0), 1)] := lf (orHook_ok (hk_cut_ok hc) hkU_ok) (ocs [(7, 58, .int .u8 4), (7, 220, .bool true), (7, 223, .bool true), (7, 227, .bool true)] []) (by kernel_rfl) (by kernel_rfl) (by kernel_rfl)
theorem u11_14 (al : Int) (wi : Bool) (ds : Int) (im : Int) (hc : Cu x (xA 11 al 0 0 wi false ds 0 0 0 im)) : Ru x [(Int.tmod x.wh 6, 4), (b2i (eqD (xA 11 al 0 0 wi false ds 0 0 (IntKind.i32.wrap x.to) im) (xA 11 al 0 0 wi false ds 0 0 0 im)), 0), (b2i (!vP 11 al 0 0 wi false ds 0 0 (IntKind.i32.wrap x.to) im), 1), (b2i (encB 11 al 0 0 wi false ds 0 0 (IntKind.i32.wrap x.to) im == ([] : List UInt8)), 1), (b2i (encE 11 al 0 0 wi false ds 0 0 (IntKind.i32.wrap x.to) im == 2), 1)] := lf (orHook_ok (hk_cut_ok hc) hkU_ok) (ocs [(7, 58, .int .u8 4), (7, 220, .bool false), (7, 233, .bool true), (7, 237, .bool true), (7, 241, .bool true)] []) (by kernel_rfl) (by kernel_rfl) (by kernel_rfl)
theorem u11_15 (al : Int) (wi : Bool) (ds : Int) (im : Int) (hc : Cu x (xA 11 al 0 0 wi false ds 0 0 0 im)) : Ru x [(Int.tmod x.wh 6, 5), (b2i (eqD (xA 11 al 0 0 wi false ds 0 (IntKind.i32.wrap x.to) 0 im) (xA 11 al 0 0 wi false ds 0 0 0 im)), 1), (b2i (vP 11 al 0 0 wi false ds 0 (IntKind.i32.wrap x.to) 0 im), 1), (b2i (encE 11 al 0 0 wi false ds 0 (IntKind.i32.wrap x.to) 0 im == 0), 1)] := lf (orHook_ok (hk_cut_ok hc) hkU_ok) (ocs [(7, 58, .int .u8 5), (7, 220, .bool true), (7, 223, .bool true), (7, 227, .bool true)] []) (by kernel_rfl) (by kernel_rfl) (by kernel_rfl)
theorem u11_16 (al : Int) (wi : Bool) (ds : Int) (im : Int) (hc : Cu x (xA 11 al 0 0 wi false ds 0 0 0 im)) : Ru x [(Int.tmod x.wh 6, 5), (b2i (eqD (xA 11 al 0 0 wi false ds 0 (IntKind.i32.wrap x.to) 0 im) (xA 11 al 0 0 wi false ds 0 0 0 im)), 0), (b2i (!vP 11 al 0 0 wi false ds 0 (IntKind.i32.wrap x.to) 0 im), 1), (b2i (encB 11 al 0 0 wi false ds 0 (IntKind.i32.wrap x.to) 0 im == ([] : List UInt8)), 1), (b2i (encE 11 al 0 0 wi false ds 0 (IntKind.i32.wrap x.to) 0 im == 2), 1)] := lf (orHook_ok (hk_cut_ok hc) hkU_ok) (ocs [(7, 58, .int .u8 5), (7, 220, .bool false), (7, 233, .bool true), (7, 237, .bool true), (7, 241, .bool true)] []) (by kernel_rfl) (by kernel_rfl) (by kernel_rfl)
theorem law11_0 (al : Int) (wi : Bool) (ds : Int) (im : Int) (hc : Cu x (xA 11 al 0 0 wi false ds 0 0 0 im)) (hv : vP11 al 0 0 wi false ds 0 0 0 im = true) (hj : Int.tmod x.wh 6 = 0) (w : World) (hL : Laid h12 w) : Lw x w := by
  rcases Bool.eq_false_or_eq_true (decide (x.to ≥ 0)) with k1 | k1
  · rcases Bool.eq_false_or_eq_true (decide (x.to < 16)) with k2 | k2
    · have e : vP 11 al 0 0 wi false x.to 0 0 0 im = true := by
        show vP11 al 0 0 wi false x.to 0 0 0 im = true
        simp_all [vP11]
      exact u11_0 x al wi ds im hc (csA (csI' hj (csT' k1 (csT' k2 (csT' e csN'))))) w hL
    · have e : vP 11 al 0 0 wi false x.to 0 0 0 im = false := by
        show vP11 al 0 0 wi false x.to 0 0 0 im = false
        simp_all [vP11] <;> (try (intros; first | omega | (exfalso; omega)))
      have q : eqD (xA 11 al 0 0 wi false x.to 0 0 0 im) (xA 11 al 0 0 wi false ds 0 0 0 im) = false := by
        simp_all [vP11]
        try omega
      exact u11_1 x al wi ds im hc (csA (csI' hj (csT' k1 (csF' k2 (csF' q (csT' (eF e).1 (csT' (eF e).2.1 (csT' (eF e).2.2 csN')))))))) w hL
  · have e : vP 11 al 0 0 wi false x.to 0 0 0 im = false := by
      show vP11 al 0 0 wi false x.to 0 0 0 im = false
      simp_all [vP11] <;> (try (intros; first | omega | (exfalso; omega)))
    have q : eqD (xA 11 al 0 0 wi false x.to 0 0 0 im) (xA 11 al 0 0 wi false ds 0 0 0 im) = false := by
      simp_all [vP11]
      try omega
    exact u11_2 x al wi ds im hc (csA (csI' hj (csF' k1 (csF' q (csT' (eF e).1 (csT' (eF e).2.1 (csT' (eF e).2.2 csN'))))))) w hL
theorem law11_1 (al : Int) (wi : Bool) (ds : Int) (im : Int) (hc : Cu x (xA 11 al 0 0 wi false ds 0 0 0 im)) (hv : vP11 al 0 0 wi false ds 0 0 0 im = true) (hj : Int.tmod x.wh 6 = 1) (w : World) (hL : Laid h12 w) : Lw x w := by
  rcases Bool.eq_false_or_eq_true (decide (x.to ≥ 0)) with k1 | k1
  · rcases Bool.eq_false_or_eq_true (decide (x.to < 16)) with k2 | k2
    · rcases Bool.eq_false_or_eq_true (eqD (xA 11 al 0 0 wi false ds x.to 0 0 im) (xA 11 al 0 0 wi false ds 0 0 0 im)) with k3 | k3
      · have e : vP 11 al 0 0 wi false ds x.to 0 0 im = true := by
          show vP11 al 0 0 wi false ds x.to 0 0 im = true
          simp_all [vP11]
        exact u11_3 x al wi ds im hc (csA (csI' hj (csT' k1 (csT' k2 (csT' k3 (csT' e (csT' (eT e) csN'))))))) w hL
      · have e : vP 11 al 0 0 wi false ds x.to 0 0 im = false := by
          show vP11 al 0 0 wi false ds x.to 0 0 im = false
          simp_all [vP11]
        exact u11_4 x al wi ds im hc (csA (csI' hj (csT' k1 (csT' k2 (csF' k3 (csT' (eF e).1 (csT' (eF e).2.1 (csT' (eF e).2.2 csN')))))))) w hL
    · rcases Bool.eq_false_or_eq_true (eqD (xA 11 al 0 0 wi false ds x.to 0 0 im) (xA 11 al 0 0 wi false ds 0 0 0 im)) with k4 | k4
      · have e : vP 11 al 0 0 wi false ds x.to 0 0 im = true := by
          show vP11 al 0 0 wi false ds x.to 0 0 im = true
          simp_all [vP11]
        exact u11_5 x al wi ds im hc (csA (csI' hj (csT' k1 (csF' k2 (csT' k4 (csT' e (csT' (eT e) csN'))))))) w hL
      · have e : vP 11 al 0 0 wi false ds x.to 0 0 im = false := by
          show vP11 al 0 0 wi false ds x.to 0 0 im = false
          simp_all [vP11]
        exact u11_6 x al wi ds im hc (csA (csI' hj (csT' k1 (csF' k2 (csF' k4 (csT' (eF e).1 (csT' (eF e).2.1 (csT' (eF e).2.2 csN')))))))) w hL
  · rcases Bool.eq_false_or_eq_true (eqD (xA 11 al 0 0 wi false ds x.to 0 0 im) (xA 11 al 0 0 wi false ds 0 0 0 im)) with k5 | k5
    · have e : vP 11 al 0 0 wi false ds x.to 0 0 im = true := by
        show vP11 al 0 0 wi false ds x.to 0 0 im = true
        simp_all [vP11]
      exact u11_7 x al wi ds im hc (csA (csI' hj (csF' k1 (csT' k5 (csT' e (csT' (eT e) csN')))))) w hL
    · have e : vP 11 al 0 0 wi false ds x.to 0 0 im = false := by
        show vP11 al 0 0 wi false ds x.to 0 0 im = false
        simp_all [vP11]
      exact u11_8 x al wi ds im hc (csA (csI' hj (csF' k1 (csF' k5 (csT' (eF e).1 (csT' (eF e).2.1 (csT' (eF e).2.2 csN'))))))) w hL
theorem law11_2 (al : Int) (wi : Bool) (ds : Int) (im : Int) (hc : Cu x (xA 11 al 0 0 wi false ds 0 0 0 im)) (hv : vP11 al 0 0 wi false ds 0 0 0 im = true) (hj : Int.tmod x.wh 6 = 2) (w : World) (hL : Laid h12 w) : Lw x w := by
  rcases Bool.eq_false_or_eq_true (eqD (xA 11 al 0 x.to wi false ds 0 0 0 im) (xA 11 al 0 0 wi false ds 0 0 0 im)) with k1 | k1
  · have e : vP 11 al 0 x.to wi false ds 0 0 0 im = true := by
      show vP11 al 0 x.to wi false ds 0 0 0 im = true
      simp_all [vP11]
    exact u11_9 x al wi ds im hc (csA (csI' hj (csT' k1 (csT' e (csT' (eT e) csN'))))) w hL
  · have e : vP 11 al 0 x.to wi false ds 0 0 0 im = false := by
      show vP11 al 0 x.to wi false ds 0 0 0 im = false
      simp_all [vP11]
    exact u11_10 x al wi ds im hc (csA (csI' hj (csF' k1 (csT' (eF e).1 (csT' (eF e).2.1 (csT' (eF e).2.2 csN')))))) w hL
theorem law11_3 (al : Int) (wi : Bool) (ds : Int) (im : Int) (hc : Cu x (xA 11 al 0 0 wi false ds 0 0 0 im)) (hv : vP11 al 0 0 wi false ds 0 0 0 im = true) (hj : Int.tmod x.wh 6 = 3) (w : World) (hL : Laid h12 w) : Lw x w := by
  rcases Bool.eq_false_or_eq_true (eqD (xA 11 al x.to 0 wi false ds 0 0 0 im) (xA 11 al 0 0 wi false ds 0 0 0 im)) with k1 | k1
  · have e : vP 11 al x.to 0 wi false ds 0 0 0 im = true := by
      show vP11 al x.to 0 wi false ds 0 0 0 im = true
      simp_all [vP11]
    exact u11_11 x al wi ds im hc (csA (csI' hj (csT' k1 (csT' e (csT' (eT e) csN'))))) w hL
  · have e : vP 11 al x.to 0 wi false ds 0 0 0 im = false := by
      show vP11 al x.to 0 wi false ds 0 0 0 im = false
      simp_all [vP11]
    exact u11_12 x al wi ds im hc (csA (csI' hj (csF' k1 (csT' (eF e).1 (csT' (eF e).2.1 (csT' (eF e).2.2 csN')))))) w hL
theorem law11_4 (al : Int) (wi : Bool) (ds : Int) (im : Int) (hc : Cu x (xA 11 al 0 0 wi false ds 0 0 0 im)) (hv : vP11 al 0 0 wi false ds 0 0 0 im = true) (hj : Int.tmod x.wh 6 = 4) (w : World) (hL : Laid h12 w) : Lw x w := by
  rcases Bool.eq_false_or_eq_true (eqD (xA 11 al 0 0 wi false ds 0 0 (IntKind.i32.wrap x.to) im) (xA 11 al 0 0 wi false ds 0 0 0 im)) with k1 | k1
  · have e : vP 11 al 0 0 wi false ds 0 0 (IntKind.i32.wrap x.to) im = true := by
      show vP11 al 0 0 wi false ds 0 0 (IntKind.i32.wrap x.to) im = true
      simp_all [vP11]
    exact u11_13 x al wi ds im hc (csA (csI' hj (csT' k1 (csT' e (csT' (eT e) csN'))))) w hL
  · have e : vP 11 al 0 0 wi false ds 0 0 (IntKind.i32.wrap x.to) im = false := by
      show vP11 al 0 0 wi false ds 0 0 (IntKind.i32.wrap x.to) im = false
      simp_all [vP11]
    exact u11_14 x al wi ds im hc (csA (csI' hj (csF' k1 (csT' (eF e).1 (csT' (eF e).2.1 (csT' (eF e).2.2 csN')))))) w hL
theorem law11_5 (al : Int) (wi : Bool) (ds : Int) (im : Int) (hc : Cu x (xA 11 al 0 0 wi false ds 0 0 0 im)) (hv : vP11 al 0 0 wi false ds 0 0 0 im = true) (hj : Int.tmod x.wh 6 = 5) (w : World) (hL : Laid h12 w) : Lw x w := by
  rcases Bool.eq_false_or_eq_true (eqD (xA 11 al 0 0 wi false ds 0 (IntKind.i32.wrap x.to) 0 im) (xA 11 al 0 0 wi false ds 0 0 0 im)) with k1 | k1
  · have e : vP 11 al 0 0 wi false ds 0 (IntKind.i32.wrap x.to) 0 im = true := by
      show vP11 al 0 0 wi false ds 0 (IntKind.i32.wrap x.to) 0 im = true
      simp_all [vP11]
    exact u11_15 x al wi ds im hc (csA (csI' hj (csT' k1 (csT' e (csT' (eT e) csN'))))) w hL
  · have e : vP 11 al 0 0 wi false ds 0 (IntKind.i32.wrap x.to) 0 im = false := by
      show vP11 al 0 0 wi false ds 0 (IntKind.i32.wrap x.to) 0 im = false
      simp_all [vP11]
    exact u11_16 x al wi ds im hc (csA (csI' hj (csF' k1 (csT' (eF e).1 (csT' (eF e).2.1 (csT' (eF e).2.2 csN')))))) w hL
theorem u12_0 (al : Int) (wi : Bool) (ds : Int) (hc : Cu x (xA 12 al 0 0 wi false ds 0 0 0 0)) : Ru x [(Int.tmod x.wh 6, 0), (b2i (decide (x.to ≥ 0)), 1), (b2i (decide (x.to < 16)), 1), (b2i (vP 12 al 0 0 wi false x.to 0 0 0 0), 1)] := lf (orHook_ok (hk_cut_ok hc) hkU_ok) (ocs [(7, 58, .int .u8 0), (7, 81, .bool true), (7, 85, .bool true), (7, 101, .bool true)] []) (by kernel_rfl) (by kernel_rfl) (by kernel_rfl)
theorem u12_1 (al : Int) (wi : Bool) (ds : Int) (hc : Cu x (xA 12 al 0 0 wi false ds 0 0 0 0)) : Ru x [(Int.tmod x.wh 6, 0), (b2i (decide (x.to ≥ 0)), 1), (b2i (decide (x.to < 16)), 0), (b2i (eqD (xA 12 al 0 0 wi false x.to 0 0 0 0) (xA 12 al 0 0 wi false ds 0 0 0 0)), 0), (b2i (!vP 12 al 0 0 wi false x.to 0 0 0 0), 1), (b2i (encB 12 al 0 0 wi false x.to 0 0 0 0 == ([] : List UInt8)), 1), (b2i (encE 12 al 0 0 wi false x.to 0 0 0 0 == 2), 1)] := lf (orHook_ok (hk_cut_ok hc) hkU_ok) (ocs [(7, 58, .int .u8 0), (7, 81, .bool true), (7, 85, .bool false), (7, 220, .bool false), (7, 233, .bool true), (7, 237, .bool true), (7, 241, .bool true)] []) (by kernel_rfl) (by kernel_rfl) (by kernel_rfl)
theorem u12_2 (al : Int) (wi : Bool) (ds : Int) (hc : Cu x (xA 12 al 0 0 wi false ds 0 0 0 0)) : Ru x [(Int.tmod x.wh 6, 0), (b2i (decide (x.to ≥ 0)), 0), (b2i (eqD (xA 12 al 0 0 wi false x.to 0 0 0 0) (xA 12 al 0 0 wi false ds 0 0 0 0)), 0), (b2i (!vP 12 al 0 0 wi false x.to 0 0 0 0), 1), (b2i (encB 12 al 0 0 wi false x.to 0 0 0 0 == ([] : List UInt8)), 1), (b2i (encE 12 al 0 0 wi false x.to 0 0 0 0 == 2), 1)] := lf (orHook_ok (hk_cut_ok hc) hkU_ok) (ocs [(7, 58, .int .u8 0), (7, 81, .bool false), (7, 220, .bool false), (7, 233, .bool true), (7, 237, .bool true), (7, 241, .bool true)] []) (by kernel_rfl) (by kernel_rfl) (by kernel_rfl)
theorem u12_3 (al : Int) (wi : Bool) (ds : Int) (hc : Cu x (xA 12 al 0 0 wi false ds 0 0 0 0)) : Ru x [(Int.tmod x.wh 6, 1), (b2i (decide (x.to ≥ 0)), 1), (b2i (decide (x.to < 16)), 1), (b2i (eqD (xA 12 al 0 0 wi false ds x.to 0 0 0) (xA 12 al 0 0 wi false ds 0 0 0 0)), 1), (b2i (vP 12 al 0 0 wi false ds x.to 0 0 0), 1), (b2i (encE 12 al 0 0 wi false ds x.to 0 0 0 == 0), 1)] := lf (orHook_ok (hk_cut_ok hc) hkU_ok) (ocs [(7, 58, .int .u8 1), (7, 110, .bool true), (7, 114, .bool true), (7, 220, .bool true), (7, 223, .bool true), (7, 227, .bool true)] []) (by kernel_rfl) (by kernel_rfl) (by kernel_rfl)
theorem u12_4 (al : Int) (wi : Bool) (ds : Int) (hc : Cu x (xA 12 al 0 0 wi false ds 0 0 0 0)) : Ru x [(Int.tmod x.wh 6, 1), (b2i (decide (x.to ≥ 0)), 1), (b2i (decide (x.to < 16)), 1), (b2i (eqD (xA 12 al 0 0 wi false ds x.to 0 0 0) (xA 12 al 0 0 wi false ds 0 0 0 0)), 0), (b2i (!vP 12 al 0 0 wi false ds x.to 0 0 0), 1), (b2i (encB 12 al 0 0 wi false ds x.to 0 0 0 == ([] : List UInt8)), 1), (b2i (encE 12 al 0 0 wi false ds x.to 0 0 0 == 2), 1)] := lf (orHook_ok (hk_cut_ok hc) hkU_ok) (ocs [(7, 58, .int .u8 1), (7, 110, .bool true), (7, 114, .bool true), (7, 220, .bool false), (7, 233, .bool true), (7, 237, .bool true), (7, 241, .bool true)] []) (by kernel_rfl) (by kernel_rfl) (by kernel_rfl)
theorem u12_5 (al : Int) (wi : Bool) (ds : Int) (hc : Cu x (xA 12 al 0 0 wi false ds 0 0 0 0)) : Ru x [(Int.tmod x.wh 6, 1), (b2i (decide (x.to ≥ 0)), 1), (b2i (decide (x.to < 16)), 0), (b2i (eqD (xA 12 al 0 0 wi false ds x.to 0 0 0) (xA 12 al 0 0 wi false ds 0 0 0 0)), 1), (b2i (vP 12 al 0 0 wi false ds x.to 0 0 0), 1), (b2i (encE 12 al 0 0 wi false ds x.to 0 0 0 == 0), 1)] := lf (orHook_ok (hk_cut_ok hc) hkU_ok) (ocs [(7, 58, .int .u8 1), (7, 110, .bool true), (7, 114, .bool false), (7, 220, .bool true), (7, 223, .bool true), (7, 227, .bool true)] []) (by kernel_rfl) (by kernel_rfl) (by kernel_rfl)
theorem u12_6 (al : Int) (wi : Bool) (ds : Int) (hc : Cu x (xA 12 al 0 0 wi false ds 0 0 0 0)) : Ru x [(Int.tmod x.wh 6, 1), (b2i (decide (x.to ≥ 0)), 1), (b2i (decide (x.to < 16)), 0), (b2i (eqD (xA 12 al 0 0 wi false ds x.to 0 0 0) (xA 12 al 0 0 wi false ds 0 0 0 0)), 0), (b2i (!vP 12 al 0 0 wi false ds x.to 0 0 0), 1), (b2i (encB 12 al 0 0 wi false ds x.to 0 0 0 == ([] : List UInt8)), 1), (b2i (encE 12 al 0 0 wi false ds x.to 0 0 0 == 2), 1)] := lf (orHook_ok (hk_cut_ok hc) hkU_ok) (ocs [(7, 58, .int .u8 1), (7, 110, .bool true), (7, 114, .bool false), (7, 220, .bool false), (7, 233, .bool true), (7, 237, .bool true), (7, 241, .bool true)] []) (by kernel_rfl) (by kernel_rfl) (by kernel_rfl)
theorem u12_7 (al : Int) (wi : Bool) (ds : Int) (hc : Cu x (xA 12 al 0 0 wi false ds 0 0 0 0)) : Ru x [(Int.tmod x.wh 6, 1), (b2i (decide (x.to ≥ 0)), 0), (b2i (eqD (xA 12 al 0 0 wi false ds x.to 0 0 0) (xA 12 al 0 0 wi false ds 0 0 0 0)), 1), (b2i (vP 12 al 0 0 wi false ds x.to 0 0 0), 1), (b2i (encE 12 al 0 0 wi false ds x.to 0 0 0 == 0), 1)] := lf (orHook_ok (hk_cut_ok hc) hkU_ok) (ocs [(7, 58, .int .u8 1), (7, 110, .bool false), (7, 220, .bool true), (7, 223, .bool true), (7, 227, .bool true)] []) (by kernel_rfl) (by kernel_rfl) (by kernel_rfl)
theorem u12_8 (al : Int) (wi : Bool) (ds : Int) (hc : Cu x (xA 12 al 0 0 wi false ds 0 0 0 0)) : Ru x [(Int.tmod x.wh 6, 1), (b2i (decide (x.to ≥ 0)), 0), (b2i (eqD (xA 12 al 0 0 wi false ds x.to 0 0 0) (xA 12 al 0 0 wi false ds 0 0 0 0)), 0), (b2i (!vP 12 al 0 0 wi false ds x.to 0 0 0), 1), (b2i (encB 12 al 0 0 wi false ds x.to 0 0 0 == ([] : List UInt8)), 1), (b2i (encE 12 al 0 0 wi false ds x.to 0 0 0 == 2), 1)] := lf (orHook_ok (hk_cut_ok hc) hkU_ok) (ocs [(7, 58, .int .u8 1), (7, 110, .bool false), (7, 220, .bool false), (7, 233, .bool true), (7, 237, .bool true), (7, 241, .bool true)] []) (by kernel_rfl) (by kernel_rfl) (by kernel_rfl)
theorem u12_9 (al : Int) (wi : Bool) (ds : Int) (hc : Cu x (xA 12 al 0 0 wi false ds 0 0 0 0)) : Ru x [(Int.tmod x.wh 6, 2), (b2i (eqD (xA 12 al 0 x.to wi false ds 0 0 0 0) (xA 12 al 0 0 wi false ds 0 0 0 0)), 1), (b2i (vP 12 al 0 x.to wi false ds 0 0 0 0), 1), (b2i (encE 12 al 0 x.to wi false ds 0 0 0 0 == 0), 1)] := lf (orHook_ok (hk_cut_ok hc) hkU_ok) (ocs [(7, 58, .int .u8 2), (7, 220, .bool true), (7, 223, .bool true), (7, 227, .bool true)] []) (by kernel_rfl) (by kernel_rfl) (by kernel_rfl)
theorem u12_10 (al : Int) (wi : Bool) (ds : Int) (hc : Cu x (xA 12 al 0 0 wi false ds 0 0 0 0)) : Ru x [(Int.tmod x.wh 6, 2), (b2i (eqD (xA 12 al 0 x.to wi false ds 0 0 0 0) (xA 12 al 0 0 wi false ds 0 0 0 0)), 0), (b2i (!vP 12 al 0 x.to wi false ds 0 0 0 0), 1), (b2i (encB 12 al 0 x.to wi false ds 0 0 0 0 == ([] : List UInt8)), 1), (b2i (encE 12 al 0 x.to wi false ds 0 0 0 0 == 2), 1)] := lf (orHook_ok (hk_cut_ok hc) hkU_ok) (ocs [(7, 58, .int .u8 2), (7, 220, .bool false), (7, 233, .bool true), (7, 237, .bool true), (7, 241, .bool true)] []) (by kernel_rfl) (by kernel_rfl) (by kernel_rfl)
theorem u12_11 (al : Int) (wi : Bool) (ds : Int) (hc : Cu x (xA 12 al 0 0 wi false ds 0 0 0 0)) : Ru x [(Int.tmod x.wh 6, 3), (b2i (eqD (xA 12 al x.to 0 wi false ds 0 0 0 0) (xA 12 al 0 0 wi false ds 0 0 0 0)), 1), (b2i (vP 12 al x.to 0 wi false ds 0 0 0 0), 1), (b2i (encE 12 al x.to 0 wi false ds 0 0 0 0 == 0), 1)] := lf (orHook_ok (hk_cut_ok hc) hkU_ok) (ocs [(7, 58, .int .u8 3), (7, 220, .bool true), (7, 223, .bool true), (7, 227, .bool true)] []) (by kernel_rfl) (by kernel_rfl) (by kernel_rfl)
theorem u12_12 (al : Int) (wi : Bool) (ds : Int) (hc : Cu x (xA 12 al 0 0 wi false ds 0 0 0 0)) : Ru x [(Int.tmod x.wh 6, 3), (b2i (eqD (xA 12 al x.to 0 wi false ds 0 0 0 0) (xA 12 al 0 0 wi false ds 0 0 0 0)), 0), (b2i (!vP 12 al x.to 0 wi false ds 0 0 0 0), 1), (b2i (encB 12 al x.to 0 wi false ds 0 0 0 0 == ([] : List UInt8)), 1), (b2i (encE 12 al x.to 0 wi false ds 0 0 0 0 == 2), 1)] := lf (orHook_ok (hk_cut_ok hc) hkU_ok) (ocs [(7, 58, .int .u8 3), (7, 220, .bool false), (7, 233, .bool true), (7, 237, .bool true), (7, 241, .bool true)] []) (by kernel_rfl) (by kernel_rfl) (by kernel_rfl)
theorem u12_13 (al : Int) (wi : Bool) (ds : Int) (hc : Cu x (xA 12 al 0 0 wi false ds 0 0 0 0)) : Ru x [(Int.tmod x.wh 6, 4), (b2i (eqD (xA 12 al 0 0 wi false ds 0 0 (IntKind.i32.wrap x.to) 0) (xA 12 al 0 0 wi false ds 0 0 0 0)), 1), (b2i (vP 12 al 0 0 wi false ds 0 0 (IntKind.i32.wrap x.to) 0), 1), (b2i (encE 12 al 0 0 wi false ds 0 0 (IntKind.i32.wrap x.to) 0 == 0), 1)] := lf (orHook_ok (hk_cut_ok hc) hkU_ok) (ocs [(7, 58, .int .u8 4), (7, 220, .bool true), (7, 223, .bool true), (7, 227, .bool true)] []) (by kernel_rfl) (by kernel_rfl) (by kernel_rfl)
theorem u12_14 (al : Int) (wi : Bool) (ds : Int) (hc : Cu x (xA 12 al 0 0 wi false ds 0 0 0 0)) : Ru x [(Int.tmod x.wh 6, 4), (b2i (eqD (xA 12 al 0 0 wi false ds 0 0 (IntKind.i32.wrap x.to) 0) (xA 12 al 0 0 wi false ds 0 0 0 0)), 0), (b2i (!vP 12 al 0 0 wi false ds 0 0 (IntKind.i32.wrap x.to) 0), 1), (b2i (encB 12 al 0 0 wi false ds 0 0 (IntKind.i32.wrap x.to) 0 == ([] : List UInt8)), 1), (b2i (encE 12 al 0 0 wi false ds 0 0 (IntKind.i32.wrap x.to) 0 == 2), 1)] := lf (orHook_ok (hk_cut_ok hc) hkU_ok) (ocs [(7, 58, .int .u8 4), (7, 220, .bool false), (7, 233, .bool true), (7, 237, .bool true), (7, 241, .bool true)] []) (by kernel_rfl) (by kernel_rfl) (by kernel_rfl)
theorem u12_15 (al : Int) (wi : Bool) (ds : Int) (hc : Cu x (xA 12 al 0 0 wi false ds 0 0 0 0)) : Ru x [(Int.tmod x.wh 6, 5), (b2i (eqD (xA 12 al 0 0 wi false ds 0 (IntKind.i32.wrap x.to) 0 0) (xA 12 al 0 0 wi false ds 0 0 0 0)), 1), (b2i (vP 12 al 0 0 wi false ds 0 (IntKind.i32.wrap x.to) 0 0), 1), (b2i (encE 12 al 0 0 wi false ds 0 (IntKind.i32.wrap x.to) 0 0 == 0), 1)] := lf (orHook_ok (hk_cut_ok hc) hkU_ok) (ocs [(7, 58, .int .u8 5), (7, 220, .bool true), (7, 223, .bool true), (7, 227, .bool true)] []) (by kernel_rfl) (by kernel_rfl) (by kernel_rfl)
theorem u12_16 (al : Int) (wi : Bool) (ds : Int) (hc : Cu x (xA 12 al 0 0 wi false ds 0 0 0 0)) : Ru x [(Int.tmod x.wh 6, 5), (b2i (eqD (xA 12 al 0 0 wi false ds 0 (IntKind.i32.wrap x.to) 0 0) (xA 12 al 0 0 wi false ds 0 0 0 0)), 0), (b2i (!vP 12 al 0 0 wi false ds 0 (IntKind.i32.wrap x.to) 0 0), 1), (b2i (encB 12 al 0 0 wi false ds 0 (IntKind.i32.wrap x.to) 0 0 == ([] : List UInt8)), 1), (b2i (encE 12 al 0 0 wi false ds 0 (IntKind.i32.wrap x.to) 0 0 == 2), 1)] := lf (orHook_ok (hk_cut_ok hc) hkU_ok) (ocs [(7, 58, .int .u8 5), (7, 220, .bool false), (7, 233, .bool true), (7, 237, .bool true), (7, 241, .bool true)] []) (by kernel_rfl) (by kernel_rfl) (by kernel_rfl)
theorem law12_0 (al : Int) (wi : Bool) (ds : Int) (hc : Cu x (xA 12 al 0 0 wi false ds 0 0 0 0)) (hv : vP12 al 0 0 wi false ds 0 0 0 0 = true) (hj : Int.tmod x.wh 6 = 0) (w : World) (hL : Laid h12 w) : Lw x w := by
  rcases Bool.eq_false_or_eq_true (decide (x.to ≥ 0)) with k1 | k1
  · rcases Bool.eq_false_or_eq_true (decide (x.to < 16)) with k2 | k2
    · have e : vP 12 al 0 0 wi false x.to 0 0 0 0 = true := by
        show vP12 al 0 0 wi false x.to 0 0 0 0 = true
        simp_all [vP12]
      exact u12_0 x al wi ds hc (csA (csI' hj (csT' k1 (csT' k2 (csT' e csN'))))) w hL
    · have e : vP 12 al 0 0 wi false x.to 0 0 0 0 = false := by
        show vP12 al 0 0 wi false x.to 0 0 0 0 = false
        simp_all [vP12] <;> (try (intros; first | omega | (exfalso; omega)))
      have q : eqD (xA 12 al 0 0 wi false x.to 0 0 0 0) (xA 12 al 0 0 wi false ds 0 0 0 0) = false := by
        simp_all [vP12]
        try omega
      exact u12_1 x al wi ds hc (csA (csI' hj (csT' k1 (csF' k2 (csF' q (csT' (eF e).1 (csT' (eF e).2.1 (csT' (eF e).2.2 csN')))))))) w hL
  · have e : vP 12 al 0 0 wi false x.to 0 0 0 0 = false := by
      show vP12 al 0 0 wi false x.to 0 0 0 0 = false
      simp_all [vP12] <;> (try (intros; first | omega | (exfalso; omega)))
    have q : eqD (xA 12 al 0 0 wi false x.to 0 0 0 0) (xA 12 al 0 0 wi false ds 0 0 0 0) = false := by
      simp_all [vP12]
      try omega
    exact u12_2 x al wi ds hc (csA (csI' hj (csF' k1 (csF' q (csT' (eF e).1 (csT' (eF e).2.1 (csT' (eF e).2.2 csN'))))))) w hL
theorem law12_1 (al : Int) (wi : Bool) (ds : Int) (hc : Cu x (xA 12 al 0 0 wi false ds 0 0 0 0)) (hv : vP12 al 0 0 wi false ds 0 0 0 0 = true) (hj : Int.tmod x.wh 6 = 1) (w : World) (hL : Laid h12 w) : Lw x w := by
  rcases Bool.eq_false_or_eq_true (decide (x.to ≥ 0)) with k1 | k1
  · rcases Bool.eq_false_or_eq_true (decide (x.to < 16)) with k2 | k2
    · rcases Bool.eq_false_or_eq_true (eqD (xA 12 al 0 0 wi false ds x.to 0 0 0) (xA 12 al 0 0 wi false ds 0 0 0 0)) with k3 | k3
      · have e : vP 12 al 0 0 wi false ds x.to 0 0 0 = true := by
          show vP12 al 0 0 wi false ds x.to 0 0 0 = true
          simp_all [vP12]
        exact u12_3 x al wi ds hc (csA (csI' hj (csT' k1 (csT' k2 (csT' k3 (csT' e (csT' (eT e) csN'))))))) w hL
      · have e : vP 12 al 0 0 wi false ds x.to 0 0 0 = false := by
          show vP12 al 0 0 wi false ds x.to 0 0 0 = false
          simp_all [vP12]
        exact u12_4 x al wi ds hc (csA (csI' hj (csT' k1 (csT' k2 (csF' k3 (csT' (eF e).1 (csT' (eF e).2.1 (csT' (eF e).2.2 csN')))))))) w hL
    · rcases Bool.eq_false_or_eq_true (eqD (xA 12 al 0 0 wi false ds x.to 0 0 0) (xA 12 al 0 0 wi false ds 0 0 0 0)) with k4 | k4
      · have e : vP 12 al 0 0 wi false ds x.to 0 0 0 = true := by
          show vP12 al 0 0 wi false ds x.to 0 0 0 = true
          simp_all [vP12]
        exact u12_5 x al wi ds hc (csA (csI' hj (csT' k1 (csF' k2 (csT' k4 (csT' e (csT' (eT e) csN'))))))) w hL
      · have e : vP 12 al 0 0 wi false ds x.to 0 0 0 = false := by
          show vP12 al 0 0 wi false ds x.to 0 0 0 = false
          simp_all [vP12]
        exact u12_6 x al wi ds hc (csA (csI' hj (csT' k1 (csF' k2 (csF' k4 (csT' (eF e).1 (csT' (eF e).2.1 (csT' (eF e).2.2 csN')))))))) w hL
  · rcases Bool.eq_false_or_eq_true (eqD (xA 12 al 0 0 wi false ds x.to 0 0 0) (xA 12 al 0 0 wi false ds 0 0 0 0)) with k5 | k5
    · have e : vP 12 al 0 0 wi false ds x.to 0 0 0 = true := by
        show vP12 al 0 0 wi false ds x.to 0 0 0 = true
        simp_all [vP12]
      exact u12_7 x al wi ds hc (csA (csI' hj (csF' k1 (csT' k5 (csT' e (csT' (eT e) csN')))))) w hL
    · have e : vP 12 al 0 0 wi false ds x.to 0 0 0 = false := by
        show vP12 al 0 0 wi false ds x.to 0 0 0 = false
        simp_all [vP12]
      exact u12_8 x al wi ds hc (csA (csI' hj (csF' k1 (csF' k5 (csT' (eF e).1 (csT' (eF e).2.1 (csT' (eF e).2.2 csN'))))))) w hL
theorem law12_2 (al : Int) (wi : Bool) (ds : Int) (hc : Cu x (xA 12 al 0 0 wi false ds 0 0 0 0)) (hv : vP12 al 0 0 wi false ds 0 0 0 0 = true) (hj : Int.tmod x.wh 6 = 2) (w : World) (hL : Laid h12 w) : Lw x w := by
  rcases Bool.eq_false_or_eq_true (eqD (xA 12 al 0 x.to wi false ds 0 0 0 0) (xA 12 al 0 0 wi false ds 0 0 0 0)) with k1 | k1
  · have e : vP 12 al 0 x.to wi false ds 0 0 0 0 = true := by
      show vP12 al 0 x.to wi false ds 0 0 0 0 = true
      simp_all [vP12]
    exact u12_9 x al wi ds hc (csA (csI' hj (csT' k1 (csT' e (csT' (eT e) csN'))))) w hL
  · have e : vP 12 al 0 x.to wi false ds 0 0 0 0 = false := by
      show vP12 al 0 x.to wi false ds 0 0 0 0 = false
      simp_all [vP12]
    exact u12_10 x al wi ds hc (csA (csI' hj (csF' k1 (csT' (eF e).1 (csT' (eF e).2.1 (csT' (eF e).2.2 csN')))))) w hL
theorem law12_3 (al : Int) (wi : Bool) (ds : Int) (hc : Cu x (xA 12 al 0 0 wi false ds 0 0 0 0)) (hv : vP12 al 0 0 wi false ds 0 0 0 0 = true) (hj : Int.tmod x.wh 6 = 3) (w : World) (hL : Laid h12 w) : Lw x w := by
  rcases Bool.eq_false_or_eq_true (eqD (xA 12 al x.to 0 wi false ds 0 0 0 0) (xA 12 al 0 0 wi false ds 0 0 0 0)) with k1 | k1
  · have e : vP 12 al x.to 0 wi false ds 0 0 0 0 = true := by
      show vP12 al x.to 0 wi false ds 0 0 0 0 = true
      simp_all [vP12]
    exact u12_11 x al wi ds hc (csA (csI' hj (csT' k1 (csT' e (csT' (eT e) csN'))))) w hL
  · have e : vP 12 al x.to 0 wi false ds 0 0 0 0 = false := by
      show vP12 al x.to 0 wi false ds 0 0 0 0 = false
      simp_all [vP12]
    exact u12_12 x al wi ds hc (csA (csI' hj (csF' k1 (csT' (eF e).1 (csT' (eF e).2.1 (csT' (eF e).2.2 csN')))))) w hL
theorem law12_4 (al : Int) (wi : Bool) (ds : Int) (hc : Cu x (xA 12 al 0 0 wi false ds 0 0 0 0)) (hv : vP12 al 0 0 wi false ds 0 0 0 0 = true) (hj : Int.tmod x.wh 6 = 4) (w : World) (hL : Laid h12 w) : Lw x w := by
  rcases Bool.eq_false_or_eq_true (eqD (xA 12 al 0 0 wi false ds 0 0 (IntKind.i32.wrap x.to) 0) (xA 12 al 0 0 wi false ds 0 0 0 0)) with k1 | k1
  · have e : vP 12 al 0 0 wi false ds 0 0 (IntKind.i32.wrap x.to) 0 = true := by
      show vP12 al 0 0 wi false ds 0 0 (IntKind.i32.wrap x.to) 0 = true
      simp_all [vP12]
    exact u12_13 x al wi ds hc (csA (csI' hj (csT' k1 (csT' e (csT' (eT e) csN'))))) w hL
  · have e : vP 12 al 0 0 wi false ds 0 0 (IntKind.i32.wrap x.to) 0 = false := by
      show vP12 al 0 0 wi false ds 0 0 (IntKind.i32.wrap x.to) 0 = false
      simp_all [vP12]
    exact u12_14 x al wi ds hc (csA (csI' hj (csF' k1 (csT' (eF e).1 (csT' (eF e).2.1 (csT' (eF e).2.2 csN')))))) w hL
theorem law12_5 (al : Int) (wi : Bool) (ds : Int) (hc : Cu x (xA 12 al 0 0 wi false ds 0 0 0 0)) (hv : vP12 al 0 0 wi false ds 0 0 0 0 = true) (hj : Int.tmod x.wh 6 = 5) (w : World) (hL : Laid h12 w) : Lw x w := by
  rcases Bool.eq_false_or_eq_true (eqD (xA 12 al 0 0 wi false ds 0 (IntKind.i32.wrap x.to) 0 0) (xA 12 al 0 0 wi false ds 0 0 0 0)) with k1 | k1
  · have e : vP 12 al 0 0 wi false ds 0 (IntKind.i32.wrap x.to) 0 0 = true := by
      show vP12 al 0 0 wi false ds 0 (IntKind.i32.wrap x.to) 0 0 = true
      simp_all [vP12]
    exact u12_15 x al wi ds hc (csA (csI' hj (csT' k1 (csT' e (csT' (eT e) csN'))))) w hL
  · have e : vP 12 al 0 0 wi false ds 0 (IntKind.i32.wrap x.to) 0 0 = false := by
      show vP12 al 0 0 wi false ds 0 (IntKind.i32.wrap x.to) 0 0 = false
      simp_all [vP12]
    exact u12_16 x al wi ds hc (csA (csI' hj (csF' k1 (csT' (eF e).1 (csT' (eF e).2.1 (csT' (eF e).2.2 csN')))))) w hL
end Go.Proofs.YtbaiokfjoglmiaaDoor.Ex
end
section
namespace Go.Proofs.YtbaiokfjoglmiaaDoor.Ex
open Go Go.RowKit
set_option linter.unusedVariables false
set_option linter.unusedSimpArgs false
set_option maxHeartbeats 0
set_option maxRecDepth 1000000
attribute [local simp] vP xA eqD eqW regS szOk ccOk aluOk shOk shiftS
variable (x : Rw)
theorem u13_0 (si : Int) (wi : Bool) (ds : Int) (sr : Int) (dp : Int) (hc : Cu x (xA 13 0 0 si wi false ds sr dp 0 0)) : Ru x [(Int.tmod x.wh 6, 0), (b2i (decide (x.to ≥ 0)), 1), (b2i (decide (x.to < 16)), 1), (b2i (vP 13 0 0 si wi false x.to sr dp 0 0), 1)] := lf (orHook_ok (hk_cut_ok hc) hkU_ok) (ocs [(7, 58, .int .u8 0), (7, 81, .bool true), (7, 85, .bool true), (7, 101, .bool true)] []) (by kernel_rfl) (by kernel_rfl) (by kernel_rfl)
theorem u13_1 (si : Int) (wi : Bool) (ds : Int) (sr : Int) (dp : Int) (hc : Cu x (xA 13 0 0 si wi false ds sr dp 0 0)) : Ru x [(Int.tmod x.wh 6, 0), (b2i (decide (x.to ≥ 0)), 1), (b2i (decide (x.to < 16)), 0), (b2i (eqD (xA 13 0 0 si wi false x.to sr dp 0 0) (xA 13 0 0 si wi false ds sr dp 0 0)), 0), (b2i (!vP 13 0 0 si wi false x.to sr dp 0 0), 1), (b2i (encB 13 0 0 si wi false x.to sr dp 0 0 == ([] : List UInt8)), 1), (b2i (encE 13 0 0 si wi false x.to sr dp 0 0 == 2), 1)] := lf (orHook_ok (hk_cut_ok hc) hkU_ok) (ocs [(7, 58, .int .u8 0), (7, 81, .bool true), (7, 85, .bool false), (7, 220, .bool false), (7, 233, .bool true), (7, 237, .bool true), (7, 241, .bool true)] []) (by kernel_rfl) (by kernel_rfl) (by kernel_rfl)
theorem u13_2 (si : Int) (wi : Bool) (ds : Int) (sr : Int) (dp : Int) (hc : Cu x (xA 13 0 0 si wi false ds sr dp 0 0)) : Ru x [(Int.tmod x.wh 6, 0), (b2i (decide (x.to ≥ 0)), 0), (b2i (eqD (xA 13 0 0 si wi false x.to sr dp 0 0) (xA 13 0 0 si wi false ds sr dp 0 0)), 0), (b2i (!vP 13 0 0 si wi false x.to sr dp 0 0), 1), (b2i (encB 13 0 0 si wi false x.to sr dp 0 0 == ([] : List UInt8)), 1), (b2i (encE 13 0 0 si wi false x.to sr dp 0 0 == 2), 1)] := lf (orHook_ok (hk_cut_ok hc) hkU_ok) (ocs [(7, 58, .int .u8 0), (7, 81, .bool false), (7, 220, .bool false), (7, 233, .bool true), (7, 237, .bool true), (7, 241, .bool true)] []) (by kernel_rfl) (by kernel_rfl) (by kernel_rfl)
theorem u13_3 (si : Int) (wi : Bool) (ds : Int) (sr : Int) (dp : Int) (hc : Cu x (xA 13 0 0 si wi false ds sr dp 0 0)) : Ru x [(Int.tmod x.wh 6, 1), (b2i (decide (x.to ≥ 0)), 1), (b2i (decide (x.to < 16)), 1), (b2i (vP 13 0 0 si wi false ds x.to dp 0 0), 1)] := lf (orHook_ok (hk_cut_ok hc) hkU_ok) (ocs [(7, 58, .int .u8 1), (7, 110, .bool true), (7, 114, .bool true), (7, 119, .bool true)] []) (by kernel_rfl) (by kernel_rfl) (by kernel_rfl)
theorem u13_4 (si : Int) (wi : Bool) (ds : Int) (sr : Int) (dp : Int) (hc : Cu x (xA 13 0 0 si wi false ds sr dp 0 0)) : Ru x [(Int.tmod x.wh 6, 1), (b2i (decide (x.to ≥ 0)), 1), (b2i (decide (x.to < 16)), 0), (b2i (eqD (xA 13 0 0 si wi false ds x.to dp 0 0) (xA 13 0 0 si wi false ds sr dp 0 0)), 0), (b2i (!vP 13 0 0 si wi false ds x.to dp 0 0), 1), (b2i (encB 13 0 0 si wi false ds x.to dp 0 0 == ([] : List UInt8)), 1), (b2i (encE 13 0 0 si wi false ds x.to dp 0 0 == 2), 1)] := lf (orHook_ok (hk_cut_ok hc) hkU_ok) (ocs [(7, 58, .int .u8 1), (7, 110, .bool true), (7, 114, .bool false), (7, 220, .bool false), (7, 233, .bool true), (7, 237, .bool true), (7, 241, .bool true)] []) (by kernel_rfl) (by kernel_rfl) (by kernel_rfl)
theorem u13_5 (si : Int) (wi : Bool) (ds : Int) (sr : Int) (dp : Int) (hc : Cu x (xA 13 0 0 si wi false ds sr dp 0 0)) : Ru x [(Int.tmod x.wh 6, 1), (b2i (decide (x.to ≥ 0)), 0), (b2i (eqD (xA 13 0 0 si wi false ds x.to dp 0 0) (xA 13 0 0 si wi false ds sr dp 0 0)), 0), (b2i (!vP 13 0 0 si wi false ds x.to dp 0 0), 1), (b2i (encB 13 0 0 si wi false ds x.to dp 0 0 == ([] : List UInt8)), 1), (b2i (encE 13 0 0 si wi false ds x.to dp 0 0 == 2), 1)] := lf (orHook_ok (hk_cut_ok hc) hkU_ok) (ocs [(7, 58, .int .u8 1), (7, 110, .bool false), (7, 220, .bool false), (7, 233, .bool true), (7, 237, .bool true), (7, 241, .bool true)] []) (by kernel_rfl) (by kernel_rfl) (by kernel_rfl)
theorem u13_6 (si : Int) (wi : Bool) (ds : Int) (sr : Int) (dp : Int) (hc : Cu x (xA 13 0 0 si wi false ds sr dp 0 0)) : Ru x [(Int.tmod x.wh 6, 2), (b2i (x.to == si), 1), (b2i (vP 13 0 0 x.to wi false ds sr dp 0 0 == (true)), 1)] := lf (orHook_ok (hk_cut_ok hc) hkU_ok) (ocs [(7, 58, .int .u8 2), (7, 140, .bool true), (7, 158, .bool true)] []) (by kernel_rfl) (by kernel_rfl) (by kernel_rfl)
theorem u13_7 (si : Int) (wi : Bool) (ds : Int) (sr : Int) (dp : Int) (hc : Cu x (xA 13 0 0 si wi false ds sr dp 0 0)) : Ru x [(Int.tmod x.wh 6, 2), (b2i (x.to == si), 0), (b2i (decide (si < 8)), 1), (b2i (x.to == 1), 1), (b2i (vP 13 0 0 x.to wi false ds sr dp 0 0 == (true)), 1)] := lf (orHook_ok (hk_cut_ok hc) hkU_ok) (ocs [(7, 58, .int .u8 2), (7, 140, .bool false), (7, 144, .bool true), (7, 147, .bool true), (7, 158, .bool true)] []) (by kernel_rfl) (by kernel_rfl) (by kernel_rfl)
theorem u13_8 (si : Int) (wi : Bool) (ds : Int) (sr : Int) (dp : Int) (hc : Cu x (xA 13 0 0 si wi false ds sr dp 0 0)) : Ru x [(Int.tmod x.wh 6, 2), (b2i (x.to == si), 0), (b2i (decide (si < 8)), 1), (b2i (x.to == 1), 0), (b2i (x.to == 2), 1), (b2i (vP 13 0 0 x.to wi false ds sr dp 0 0 == (true)), 1)] := lf (orHook_ok (hk_cut_ok hc) hkU_ok) (ocs [(7, 58, .int .u8 2), (7, 140, .bool false), (7, 144, .bool true), (7, 147, .bool false), (7, 151, .bool true), (7, 158, .bool true)] []) (by kernel_rfl) (by kernel_rfl) (by kernel_rfl)
theorem u13_9 (si : Int) (wi : Bool) (ds : Int) (sr : Int) (dp : Int) (hc : Cu x (xA 13 0 0 si wi false ds sr dp 0 0)) : Ru x [(Int.tmod x.wh 6, 2), (b2i (x.to == si), 0), (b2i (decide (si < 8)), 1), (b2i (x.to == 1), 0), (b2i (x.to == 2), 0), (b2i (vP 13 0 0 x.to wi false ds sr dp 0 0 == (x.to == 4)), 1)] := lf (orHook_ok (hk_cut_ok hc) hkU_ok) (ocs [(7, 58, .int .u8 2), (7, 140, .bool false), (7, 144, .bool true), (7, 147, .bool false), (7, 151, .bool false), (7, 158, .bool true)] []) (by kernel_rfl) (by kernel_rfl) (by kernel_rfl)
theorem u13_10 (si : Int) (wi : Bool) (ds : Int) (sr : Int) (dp : Int) (hc : Cu x (xA 13 0 0 si wi false ds sr dp 0 0)) : Ru x [(Int.tmod x.wh 6, 2), (b2i (x.to == si), 0), (b2i (decide (si < 8)), 0), (b2i (vP 13 0 0 x.to wi false ds sr dp 0 0 == (false)), 1)] := lf (orHook_ok (hk_cut_ok hc) hkU_ok) (ocs [(7, 58, .int .u8 2), (7, 140, .bool false), (7, 144, .bool false), (7, 158, .bool true)] []) (by kernel_rfl) (by kernel_rfl) (by kernel_rfl)
theorem u13_11 (si : Int) (wi : Bool) (ds : Int) (sr : Int) (dp : Int) (hc : Cu x (xA 13 0 0 si wi false ds sr dp 0 0)) : Ru x [(Int.tmod x.wh 6, 3), (b2i (eqD (xA 13 0 x.to si wi false ds sr dp 0 0) (xA 13 0 0 si wi false ds sr dp 0 0)), 1), (b2i (vP 13 0 x.to si wi false ds sr dp 0 0), 1), (b2i (encE 13 0 x.to si wi false ds sr dp 0 0 == 0), 1)] := lf (orHook_ok (hk_cut_ok hc) hkU_ok) (ocs [(7, 58, .int .u8 3), (7, 220, .bool true), (7, 223, .bool true), (7, 227, .bool true)] []) (by kernel_rfl) (by kernel_rfl) (by kernel_rfl)
theorem u13_12 (si : Int) (wi : Bool) (ds : Int) (sr : Int) (dp : Int) (hc : Cu x (xA 13 0 0 si wi false ds sr dp 0 0)) : Ru x [(Int.tmod x.wh 6, 3), (b2i (eqD (xA 13 0 x.to si wi false ds sr dp 0 0) (xA 13 0 0 si wi false ds sr dp 0 0)), 0), (b2i (!vP 13 0 x.to si wi false ds sr dp 0 0), 1), (b2i (encB 13 0 x.to si wi false ds sr dp 0 0 == ([] : List UInt8)), 1), (b2i (encE 13 0 x.to si wi false ds sr dp 0 0 == 2), 1)] := lf (orHook_ok (hk_cut_ok hc) hkU_ok) (ocs [(7, 58, .int .u8 3), (7, 220, .bool false), (7, 233, .bool true), (7, 237, .bool true), (7, 241, .bool true)] []) (by kernel_rfl) (by kernel_rfl) (by kernel_rfl)
theorem u13_13 (si : Int) (wi : Bool) (ds : Int) (sr : Int) (dp : Int) (hc : Cu x (xA 13 0 0 si wi false ds sr dp 0 0)) : Ru x [(Int.tmod x.wh 6, 4), (b2i (eqD (xA 13 0 0 si wi false ds sr dp (IntKind.i32.wrap x.to) 0) (xA 13 0 0 si wi false ds sr dp 0 0)), 1), (b2i (vP 13 0 0 si wi false ds sr dp (IntKind.i32.wrap x.to) 0), 1), (b2i (encE 13 0 0 si wi false ds sr dp (IntKind.i32.wrap x.to) 0 == 0), 1)] := lf (orHook_ok (hk_cut_ok hc) hkU_ok) (ocs [(7, 58, .int .u8 4), (7, 220, .bool true), (7, 223, .bool true), (7, 227, .bool true)] []) (by kernel_rfl) (by kernel_rfl) (by kernel_rfl)
theorem u13_14 (si : Int) (wi : Bool) (ds : Int) (sr : Int) (dp : Int) (hc : Cu x (xA 13 0 0 si wi false ds sr dp 0 0)) : Ru x [(Int.tmod x.wh 6, 4), (b2i (eqD (xA 13 0 0 si wi false ds sr dp (IntKind.i32.wrap x.to) 0) (xA 13 0 0 si wi false ds sr dp 0 0)), 0), (b2i (!vP 13 0 0 si wi false ds sr dp (IntKind.i32.wrap x.to) 0), 1), (b2i (encB 13 0 0 si wi false ds sr dp (IntKind.i32.wrap x.to) 0 == ([] : List UInt8)), 1), (b2i (encE 13 0 0 si wi false ds sr dp (IntKind.i32.wrap x.to) 0 == 2), 1)] := lf (orHook_ok (hk_cut_ok hc) hkU_ok) (ocs [(7, 58, .int .u8 4), (7, 220, .bool false), (7, 233, .bool true), (7, 237, .bool true), (7, 241, .bool true)] []) (by kernel_rfl) (by kernel_rfl) (by kernel_rfl)
theorem u13_15 (si : Int) (wi : Bool) (ds : Int) (sr : Int) (dp : Int) (hc : Cu x (xA 13 0 0 si wi false ds sr dp 0 0)) : Ru x [(Int.tmod x.wh 6, 5), (b2i (vP 13 0 0 si wi false ds sr (IntKind.i32.wrap x.to) 0 0), 1)] := lf (orHook_ok (hk_cut_ok hc) hkU_ok) (ocs [(7, 58, .int .u8 5), (7, 72, .bool true)] []) (by kernel_rfl) (by kernel_rfl) (by kernel_rfl)
theorem law13_0 (si : Int) (wi : Bool) (ds : Int) (sr : Int) (dp : Int) (hc : Cu x (xA 13 0 0 si wi false ds sr dp 0 0)) (hv : vP13 0 0 si wi false ds sr dp 0 0 = true) (hj : Int.tmod x.wh 6 = 0) (w : World) (hL : Laid h12 w) : Lw x w := by
  rcases Bool.eq_false_or_eq_true (decide (x.to ≥ 0)) with k1 | k1
  · rcases Bool.eq_false_or_eq_true (decide (x.to < 16)) with k2 | k2
    · have e : vP 13 0 0 si wi false x.to sr dp 0 0 = true := by
        show vP13 0 0 si wi false x.to sr dp 0 0 = true
        simp_all [vP13]
      exact u13_0 x si wi ds sr dp hc (csA (csI' hj (csT' k1 (csT' k2 (csT' e csN'))))) w hL
    · have e : vP 13 0 0 si wi false x.to sr dp 0 0 = false := by
        show vP13 0 0 si wi false x.to sr dp 0 0 = false
        simp_all [vP13] <;> (try (intros; first | omega | (exfalso; omega)))
      have q : eqD (xA 13 0 0 si wi false x.to sr dp 0 0) (xA 13 0 0 si wi false ds sr dp 0 0) = false := by
        simp_all [vP13]
        try omega
      exact u13_1 x si wi ds sr dp hc (csA (csI' hj (csT' k1 (csF' k2 (csF' q (csT' (eF e).1 (csT' (eF e).2.1 (csT' (eF e).2.2 csN')))))))) w hL
  · have e : vP 13 0 0 si wi false x.to sr dp 0 0 = false := by
      show vP13 0 0 si wi false x.to sr dp 0 0 = false
      simp_all [vP13] <;> (try (intros; first | omega | (exfalso; omega)))
    have q : eqD (xA 13 0 0 si wi false x.to sr dp 0 0) (xA 13 0 0 si wi false ds sr dp 0 0) = false := by
      simp_all [vP13]
      try omega
    exact u13_2 x si wi ds sr dp hc (csA (csI' hj (csF' k1 (csF' q (csT' (eF e).1 (csT' (eF e).2.1 (csT' (eF e).2.2 csN'))))))) w hL
theorem law13_1 (si : Int) (wi : Bool) (ds : Int) (sr : Int) (dp : Int) (hc : Cu x (xA 13 0 0 si wi false ds sr dp 0 0)) (hv : vP13 0 0 si wi false ds sr dp 0 0 = true) (hj : Int.tmod x.wh 6 = 1) (w : World) (hL : Laid h12 w) : Lw x w := by
  rcases Bool.eq_false_or_eq_true (decide (x.to ≥ 0)) with k1 | k1
  · rcases Bool.eq_false_or_eq_true (decide (x.to < 16)) with k2 | k2
    · have e : vP 13 0 0 si wi false ds x.to dp 0 0 = true := by
        show vP13 0 0 si wi false ds x.to dp 0 0 = true
        simp_all [vP13]
      exact u13_3 x si wi ds sr dp hc (csA (csI' hj (csT' k1 (csT' k2 (csT' e csN'))))) w hL
    · have e : vP 13 0 0 si wi false ds x.to dp 0 0 = false := by
        show vP13 0 0 si wi false ds x.to dp 0 0 = false
        simp_all [vP13] <;> (try (intros; first | omega | (exfalso; omega)))
      have q : eqD (xA 13 0 0 si wi false ds x.to dp 0 0) (xA 13 0 0 si wi false ds sr dp 0 0) = false := by
        simp_all [vP13]
        try omega
      exact u13_4 x si wi ds sr dp hc (csA (csI' hj (csT' k1 (csF' k2 (csF' q (csT' (eF e).1 (csT' (eF e).2.1 (csT' (eF e).2.2 csN')))))))) w hL
  · have e : vP 13 0 0 si wi false ds x.to dp 0 0 = false := by
      show vP13 0 0 si wi false ds x.to dp 0 0 = false
      simp_all [vP13] <;> (try (intros; first | omega | (exfalso; omega)))
    have q : eqD (xA 13 0 0 si wi false ds x.to dp 0 0) (xA 13 0 0 si wi false ds sr dp 0 0) = false := by
      simp_all [vP13]
      try omega
    exact u13_5 x si wi ds sr dp hc (csA (csI' hj (csF' k1 (csF' q (csT' (eF e).1 (csT' (eF e).2.1 (csT' (eF e).2.2 csN'))))))) w hL
theorem law13_2 (si : Int) (wi : Bool) (ds : Int) (sr : Int) (dp : Int) (hc : Cu x (xA 13 0 0 si wi false ds sr dp 0 0)) (hv : vP13 0 0 si wi false ds sr dp 0 0 = true) (hj : Int.tmod x.wh 6 = 2) (w : World) (hL : Laid h12 w) : Lw x w := by
  rcases Bool.eq_false_or_eq_true (x.to == si) with k1 | k1
  · have e : (vP 13 0 0 x.to wi false ds sr dp 0 0 == (true)) = true := by
      show (vP13 0 0 x.to wi false ds sr dp 0 0 == (true)) = true
      have h1 := szOut (andL (andL (andR (andR hv))))
      have h2 : wi = (si == 8) := eq_of_beq (andR (andL (andR (andR hv))))
      rcases h1 with rfl | rfl | rfl | rfl <;> simp_all [vP13] <;> (try (rw [Bool.eq_iff_iff]; simp; omega))
    exact u13_6 x si wi ds sr dp hc (csA (csI' hj (csT' k1 (csT' e csN')))) w hL
  · rcases Bool.eq_false_or_eq_true (decide (si < 8)) with k2 | k2
    · rcases Bool.eq_false_or_eq_true (x.to == 1) with k3 | k3
      · have e : (vP 13 0 0 x.to wi false ds sr dp 0 0 == (true)) = true := by
          show (vP13 0 0 x.to wi false ds sr dp 0 0 == (true)) = true
          have h1 := szOut (andL (andL (andR (andR hv))))
          have h2 : wi = (si == 8) := eq_of_beq (andR (andL (andR (andR hv))))
          rcases h1 with rfl | rfl | rfl | rfl <;> simp_all [vP13] <;> (try (rw [Bool.eq_iff_iff]; simp; omega))
        exact u13_7 x si wi ds sr dp hc (csA (csI' hj (csF' k1 (csT' k2 (csT' k3 (csT' e csN')))))) w hL
      · rcases Bool.eq_false_or_eq_true (x.to == 2) with k4 | k4
        · have e : (vP 13 0 0 x.to wi false ds sr dp 0 0 == (true)) = true := by
            show (vP13 0 0 x.to wi false ds sr dp 0 0 == (true)) = true
            have h1 := szOut (andL (andL (andR (andR hv))))
            have h2 : wi = (si == 8) := eq_of_beq (andR (andL (andR (andR hv))))
            rcases h1 with rfl | rfl | rfl | rfl <;> simp_all [vP13] <;> (try (rw [Bool.eq_iff_iff]; simp; omega))
          exact u13_8 x si wi ds sr dp hc (csA (csI' hj (csF' k1 (csT' k2 (csF' k3 (csT' k4 (csT' e csN'))))))) w hL
        · have e : (vP 13 0 0 x.to wi false ds sr dp 0 0 == (x.to == 4)) = true := by
            show (vP13 0 0 x.to wi false ds sr dp 0 0 == (x.to == 4)) = true
            have h1 := szOut (andL (andL (andR (andR hv))))
            have h2 : wi = (si == 8) := eq_of_beq (andR (andL (andR (andR hv))))
            rcases h1 with rfl | rfl | rfl | rfl <;> simp_all [vP13] <;> (try (rw [Bool.eq_iff_iff]; simp; omega))
          exact u13_9 x si wi ds sr dp hc (csA (csI' hj (csF' k1 (csT' k2 (csF' k3 (csF' k4 (csT' e csN'))))))) w hL
    · have e : (vP 13 0 0 x.to wi false ds sr dp 0 0 == (false)) = true := by
        show (vP13 0 0 x.to wi false ds sr dp 0 0 == (false)) = true
        have h1 := szOut (andL (andL (andR (andR hv))))
        have h2 : wi = (si == 8) := eq_of_beq (andR (andL (andR (andR hv))))
        rcases h1 with rfl | rfl | rfl | rfl <;> simp_all [vP13] <;> (try (rw [Bool.eq_iff_iff]; simp; omega))
      exact u13_10 x si wi ds sr dp hc (csA (csI' hj (csF' k1 (csF' k2 (csT' e csN'))))) w hL
theorem law13_3 (si : Int) (wi : Bool) (ds : Int) (sr : Int) (dp : Int) (hc : Cu x (xA 13 0 0 si wi false ds sr dp 0 0)) (hv : vP13 0 0 si wi false ds sr dp 0 0 = true) (hj : Int.tmod x.wh 6 = 3) (w : World) (hL : Laid h12 w) : Lw x w := by
  rcases Bool.eq_false_or_eq_true (eqD (xA 13 0 x.to si wi false ds sr dp 0 0) (xA 13 0 0 si wi false ds sr dp 0 0)) with k1 | k1
  · have e : vP 13 0 x.to si wi false ds sr dp 0 0 = true := by
      show vP13 0 x.to si wi false ds sr dp 0 0 = true
      simp_all [vP13]
    exact u13_11 x si wi ds sr dp hc (csA (csI' hj (csT' k1 (csT' e (csT' (eT e) csN'))))) w hL
  · have e : vP 13 0 x.to si wi false ds sr dp 0 0 = false := by
      show vP13 0 x.to si wi false ds sr dp 0 0 = false
      simp_all [vP13]
    exact u13_12 x si wi ds sr dp hc (csA (csI' hj (csF' k1 (csT' (eF e).1 (csT' (eF e).2.1 (csT' (eF e).2.2 csN')))))) w hL
theorem law13_4 (si : Int) (wi : Bool) (ds : Int) (sr : Int) (dp : Int) (hc : Cu x (xA 13 0 0 si wi false ds sr dp 0 0)) (hv : vP13 0 0 si wi false ds sr dp 0 0 = true) (hj : Int.tmod x.wh 6 = 4) (w : World) (hL : Laid h12 w) : Lw x w := by
  rcases Bool.eq_false_or_eq_true (eqD (xA 13 0 0 si wi false ds sr dp (IntKind.i32.wrap x.to) 0) (xA 13 0 0 si wi false ds sr dp 0 0)) with k1 | k1
  · have e : vP 13 0 0 si wi false ds sr dp (IntKind.i32.wrap x.to) 0 = true := by
      show vP13 0 0 si wi false ds sr dp (IntKind.i32.wrap x.to) 0 = true
      simp_all [vP13]
    exact u13_13 x si wi ds sr dp hc (csA (csI' hj (csT' k1 (csT' e (csT' (eT e) csN'))))) w hL
  · have e : vP 13 0 0 si wi false ds sr dp (IntKind.i32.wrap x.to) 0 = false := by
      show vP13 0 0 si wi false ds sr dp (IntKind.i32.wrap x.to) 0 = false
      simp_all [vP13]
    exact u13_14 x si wi ds sr dp hc (csA (csI' hj (csF' k1 (csT' (eF e).1 (csT' (eF e).2.1 (csT' (eF e).2.2 csN')))))) w hL
theorem law13_5 (si : Int) (wi : Bool) (ds : Int) (sr : Int) (dp : Int) (hc : Cu x (xA 13 0 0 si wi false ds sr dp 0 0)) (hv : vP13 0 0 si wi false ds sr dp 0 0 = true) (hj : Int.tmod x.wh 6 = 5) (w : World) (hL : Laid h12 w) : Lw x w := by
  have e : vP 13 0 0 si wi false ds sr (IntKind.i32.wrap x.to) 0 0 = true := by
    show vP13 0 0 si wi false ds sr (IntKind.i32.wrap x.to) 0 0 = true
    simp_all [vP13]
  exact u13_15 x si wi ds sr dp hc (csA (csI' hj (csT' e csN'))) w hL
end Go.Proofs.YtbaiokfjoglmiaaDoor.Ex
end
section
namespace Go.Proofs.YtbaiokfjoglmiaaDoor.Ex
open Go Go.RowKit
set_option linter.unusedVariables false
set_option linter.unusedSimpArgs false
set_option maxHeartbeats 0
set_option maxRecDepth 1000000
attribute [local simp] vP xA eqD eqW regS szOk ccOk aluOk shOk shiftS
variable (x : Rw)
theorem u14_0 (si : Int) (wi : Bool) (ds : Int) (sr : Int) (dp : Int) (hc : Cu x (xA 14 0 0 si wi false ds sr dp 0 0)) : Ru x [(Int.tmod x.wh 6, 0), (b2i (decide (x.to ≥ 0)), 1), (b2i (decide (x.to < 16)), 1), (b2i (vP 14 0 0 si wi false x.to sr dp 0 0), 1)] := lf (orHook_ok (hk_cut_ok hc) hkU_ok) (ocs [(7, 58, .int .u8 0), (7, 81, .bool true), (7, 85, .bool true), (7, 101, .bool true)] []) (by kernel_rfl) (by kernel_rfl) (by kernel_rfl)
theorem u14_1 (si : Int) (wi : Bool) (ds : Int) (sr : Int) (dp : Int) (hc : Cu x (xA 14 0 0 si wi false ds sr dp 0 0)) : Ru x [(Int.tmod x.wh 6, 0), (b2i (decide (x.to ≥ 0)), 1), (b2i (decide (x.to < 16)), 0), (b2i (eqD (xA 14 0 0 si wi false x.to sr dp 0 0) (xA 14 0 0 si wi false ds sr dp 0 0)), 0), (b2i (!vP 14 0 0 si wi false x.to sr dp 0 0), 1), (b2i (encB 14 0 0 si wi false x.to sr dp 0 0 == ([] : List UInt8)), 1), (b2i (encE 14 0 0 si wi false x.to sr dp 0 0 == 2), 1)] := lf (orHook_ok (hk_cut_ok hc) hkU_ok) (ocs [(7, 58, .int .u8 0), (7, 81, .bool true), (7, 85, .bool false), (7, 220, .bool false), (7, 233, .bool true), (7, 237, .bool true), (7, 241, .bool true)] []) (by kernel_rfl) (by kernel_rfl) (by kernel_rfl)
theorem u14_2 (si : Int) (wi : Bool) (ds : Int) (sr : Int) (dp : Int) (hc : Cu x (xA 14 0 0 si wi false ds sr dp 0 0)) : Ru x [(Int.tmod x.wh 6, 0), (b2i (decide (x.to ≥ 0)), 0), (b2i (eqD (xA 14 0 0 si wi false x.to sr dp 0 0) (xA 14 0 0 si wi false ds sr dp 0 0)), 0), (b2i (!vP 14 0 0 si wi false x.to sr dp 0 0), 1), (b2i (encB 14 0 0 si wi false x.to sr dp 0 0 == ([] : List UInt8)), 1), (b2i (encE 14 0 0 si wi false x.to sr dp 0 0 == 2), 1)] := lf (orHook_ok (hk_cut_ok hc) hkU_ok) (ocs [(7, 58, .int .u8 0), (7, 81, .bool false), (7, 220, .bool false), (7, 233, .bool true), (7, 237, .bool true), (7, 241, .bool true)] []) (by kernel_rfl) (by kernel_rfl) (by kernel_rfl)
theorem u14_3 (si : Int) (wi : Bool) (ds : Int) (sr : Int) (dp : Int) (hc : Cu x (xA 14 0 0 si wi false ds sr dp 0 0)) : Ru x [(Int.tmod x.wh 6, 1), (b2i (decide (x.to ≥ 0)), 1), (b2i (decide (x.to < 16)), 1), (b2i (vP 14 0 0 si wi false ds x.to dp 0 0), 1)] := lf (orHook_ok (hk_cut_ok hc) hkU_ok) (ocs [(7, 58, .int .u8 1), (7, 110, .bool true), (7, 114, .bool true), (7, 119, .bool true)] []) (by kernel_rfl) (by kernel_rfl) (by kernel_rfl)
theorem u14_4 (si : Int) (wi : Bool) (ds : Int) (sr : Int) (dp : Int) (hc : Cu x (xA 14 0 0 si wi false ds sr dp 0 0)) : Ru x [(Int.tmod x.wh 6, 1), (b2i (decide (x.to ≥ 0)), 1), (b2i (decide (x.to < 16)), 0), (b2i (eqD (xA 14 0 0 si wi false ds x.to dp 0 0) (xA 14 0 0 si wi false ds sr dp 0 0)), 0), (b2i (!vP 14 0 0 si wi false ds x.to dp 0 0), 1), (b2i (encB 14 0 0 si wi false ds x.to dp 0 0 == ([] : List UInt8)), 1), (b2i (encE 14 0 0 si wi false ds x.to dp 0 0 == 2), 1)] := lf (orHook_ok (hk_cut_ok hc) hkU_ok) (ocs [(7, 58, .int .u8 1), (7, 110, .bool true), (7, 114, .bool false), (7, 220, .bool false), (7, 233, .bool true), (7, 237, .bool true), (7, 241, .bool true)] []) (by kernel_rfl) (by kernel_rfl) (by kernel_rfl)
theorem u14_5 (si : Int) (wi : Bool) (ds : Int) (sr : Int) (dp : Int) (hc : Cu x (xA 14 0 0 si wi false ds sr dp 0 0)) : Ru x [(Int.tmod x.wh 6, 1), (b2i (decide (x.to ≥ 0)), 0), (b2i (eqD (xA 14 0 0 si wi false ds x.to dp 0 0) (xA 14 0 0 si wi false ds sr dp 0 0)), 0), (b2i (!vP 14 0 0 si wi false ds x.to dp 0 0), 1), (b2i (encB 14 0 0 si wi false ds x.to dp 0 0 == ([] : List UInt8)), 1), (b2i (encE 14 0 0 si wi false ds x.to dp 0 0 == 2), 1)] := lf (orHook_ok (hk_cut_ok hc) hkU_ok) (ocs [(7, 58, .int .u8 1), (7, 110, .bool false), (7, 220, .bool false), (7, 233, .bool true), (7, 237, .bool true), (7, 241, .bool true)] []) (by kernel_rfl) (by kernel_rfl) (by kernel_rfl)
theorem u14_6 (si : Int) (wi : Bool) (ds : Int) (sr : Int) (dp : Int) (hc : Cu x (xA 14 0 0 si wi false ds sr dp 0 0)) : Ru x [(Int.tmod x.wh 6, 2), (b2i (x.to == si), 1), (b2i (vP 14 0 0 x.to wi false ds sr dp 0 0 == (true)), 1)] := lf (orHook_ok (hk_cut_ok hc) hkU_ok) (ocs [(7, 58, .int .u8 2), (7, 140, .bool true), (7, 158, .bool true)] []) (by kernel_rfl) (by kernel_rfl) (by kernel_rfl)
theorem u14_7 (si : Int) (wi : Bool) (ds : Int) (sr : Int) (dp : Int) (hc : Cu x (xA 14 0 0 si wi false ds sr dp 0 0)) : Ru x [(Int.tmod x.wh 6, 2), (b2i (x.to == si), 0), (b2i (decide (si < 8)), 1), (b2i (x.to == 1), 1), (b2i (vP 14 0 0 x.to wi false ds sr dp 0 0 == (true)), 1)] := lf (orHook_ok (hk_cut_ok hc) hkU_ok) (ocs [(7, 58, .int .u8 2), (7, 140, .bool false), (7, 144, .bool true), (7, 147, .bool true), (7, 158, .bool true)] []) (by kernel_rfl) (by kernel_rfl) (by kernel_rfl)
theorem u14_8 (si : Int) (wi : Bool) (ds : Int) (sr : Int) (dp : Int) (hc : Cu x (xA 14 0 0 si wi false ds sr dp 0 0)) : Ru x [(Int.tmod x.wh 6, 2), (b2i (x.to == si), 0), (b2i (decide (si < 8)), 1), (b2i (x.to == 1), 0), (b2i (x.to == 2), 1), (b2i (vP 14 0 0 x.to wi false ds sr dp 0 0 == (true)), 1)] := lf (orHook_ok (hk_cut_ok hc) hkU_ok) (ocs [(7, 58, .int .u8 2), (7, 140, .bool false), (7, 144, .bool true), (7, 147, .bool false), (7, 151, .bool true), (7, 158, .bool true)] []) (by kernel_rfl) (by kernel_rfl) (by kernel_rfl)
theorem u14_9 (si : Int) (wi : Bool) (ds : Int) (sr : Int) (dp : Int) (hc : Cu x (xA 14 0 0 si wi false ds sr dp 0 0)) : Ru x [(Int.tmod x.wh 6, 2), (b2i (x.to == si), 0), (b2i (decide (si < 8)), 1), (b2i (x.to == 1), 0), (b2i (x.to == 2), 0), (b2i (vP 14 0 0 x.to wi false ds sr dp 0 0 == (x.to == 4)), 1)] := lf (orHook_ok (hk_cut_ok hc) hkU_ok) (ocs [(7, 58, .int .u8 2), (7, 140, .bool false), (7, 144, .bool true), (7, 147, .bool false), (7, 151, .bool false), (7, 158, .bool true)] []) (by kernel_rfl) (by kernel_rfl) (by kernel_rfl)
theorem u14_10 (si : Int) (wi : Bool) (ds : Int) (sr : Int) (dp : Int) (hc : Cu x (xA 14 0 0 si wi false ds sr dp 0 0)) : Ru x [(Int.tmod x.wh 6, 2), (b2i (x.to == si), 0), (b2i (decide (si < 8)), 0), (b2i (vP 14 0 0 x.to wi false ds sr dp 0 0 == (false)), 1)] := lf (orHook_ok (hk_cut_ok hc) hkU_ok) (ocs [(7, 58, .int .u8 2), (7, 140, .bool false), (7, 144, .bool false), (7, 158, .bool true)] []) (by kernel_rfl) (by kernel_rfl) (by kernel_rfl)
theorem u14_11 (si : Int) (wi : Bool) (ds : Int) (sr : Int) (dp : Int) (hc : Cu x (xA 14 0 0 si wi false ds sr dp 0 0)) : Ru x [(Int.tmod x.wh 6, 3), (b2i (eqD (xA 14 0 x.to si wi false ds sr dp 0 0) (xA 14 0 0 si wi false ds sr dp 0 0)), 1), (b2i (vP 14 0 x.to si wi false ds sr dp 0 0), 1), (b2i (encE 14 0 x.to si wi false ds sr dp 0 0 == 0), 1)] := lf (orHook_ok (hk_cut_ok hc) hkU_ok) (ocs [(7, 58, .int .u8 3), (7, 220, .bool true), (7, 223, .bool true), (7, 227, .bool true)] []) (by kernel_rfl) (by kernel_rfl) (by kernel_rfl)
theorem u14_12 (si : Int) (wi : Bool) (ds : Int) (sr : Int) (dp : Int) (hc : Cu x (xA 14 0 0 si wi false ds sr dp 0 0)) : Ru x [(Int.tmod x.wh 6, 3), (b2i (eqD (xA 14 0 x.to si wi false ds sr dp 0 0) (xA 14 0 0 si wi false ds sr dp 0 0)), 0), (b2i (!vP 14 0 x.to si wi false ds sr dp 0 0), 1), (b2i (encB 14 0 x.to si wi false ds sr dp 0 0 == ([] : List UInt8)), 1), (b2i (encE 14 0 x.to si wi false ds sr dp 0 0 == 2), 1)] := lf (orHook_ok (hk_cut_ok hc) hkU_ok) (ocs [(7, 58, .int .u8 3), (7, 220, .bool false), (7, 233, .bool true), (7, 237, .bool true), (7, 241, .bool true)] []) (by kernel_rfl) (by kernel_rfl) (by kernel_rfl)
theorem u14_13 (si : Int) (wi : Bool) (ds : Int) (sr : Int) (dp : Int) (hc : Cu x (xA 14 0 0 si wi false ds sr dp 0 0)) : Ru x [(Int.tmod x.wh 6, 4), (b2i (eqD (xA 14 0 0 si wi false ds sr dp (IntKind.i32.wrap x.to) 0) (xA 14 0 0 si wi false ds sr dp 0 0)), 1), (b2i (vP 14 0 0 si wi false ds sr dp (IntKind.i32.wrap x.to) 0), 1), (b2i (encE 14 0 0 si wi false ds sr dp (IntKind.i32.wrap x.to) 0 == 0), 1)] := lf (orHook_ok (hk_cut_ok hc) hkU_ok) (ocs [(7, 58, .int .u8 4), (7, 220, .bool true), (7, 223, .bool true), (7, 227, .bool true)] []) (by kernel_rfl) (by kernel_rfl) (by kernel_rfl)
theorem u14_14 (si : Int) (wi : Bool) (ds : Int) (sr : Int) (dp : Int) (hc : Cu x (xA 14 0 0 si wi false ds sr dp 0 0)) : Ru x [(Int.tmod x.wh 6, 4), (b2i (eqD (xA 14 0 0 si wi false ds sr dp (IntKind.i32.wrap x.to) 0) (xA 14 0 0 si wi false ds sr dp 0 0)), 0), (b2i (!vP 14 0 0 si wi false ds sr dp (IntKind.i32.wrap x.to) 0), 1), (b2i (encB 14 0 0 si wi false ds sr dp (IntKind.i32.wrap x.to) 0 == ([] : List UInt8)), 1), (b2i (encE 14 0 0 si wi false ds sr dp (IntKind.i32.wrap x.to) 0 == 2), 1)] := lf (orHook_ok (hk_cut_ok hc) hkU_ok) (ocs [(7, 58, .int .u8 4), (7, 220, .bool false), (7, 233, .bool true), (7, 237, .bool true), (7, 241, .bool true)] []) (by kernel_rfl) (by kernel_rfl) (by kernel_rfl)
theorem u14_15 (si : Int) (wi : Bool) (ds : Int) (sr : Int) (dp : Int) (hc : Cu x (xA 14 0 0 si wi false ds sr dp 0 0)) : Ru x [(Int.tmod x.wh 6, 5), (b2i (vP 14 0 0 si wi false ds sr (IntKind.i32.wrap x.to) 0 0), 1)] := lf (orHook_ok (hk_cut_ok hc) hkU_ok) (ocs [(7, 58, .int .u8 5), (7, 72, .bool true)] []) (by kernel_rfl) (by kernel_rfl) (by kernel_rfl)
theorem law14_0 (si : Int) (wi : Bool) (ds : Int) (sr : Int) (dp : Int) (hc : Cu x (xA 14 0 0 si wi false ds sr dp 0 0)) (hv : vP14 0 0 si wi false ds sr dp 0 0 = true) (hj : Int.tmod x.wh 6 = 0) (w : World) (hL : Laid h12 w) : Lw x w := by
  rcases Bool.eq_false_or_eq_true (decide (x.to ≥ 0)) with k1 | k1
  · rcases Bool.eq_false_or_eq_true (decide (x.to < 16)) with k2 | k2
    · have e : vP 14 0 0 si wi false x.to sr dp 0 0 = true := by
        show vP14 0 0 si wi false x.to sr dp 0 0 = true
        simp_all [vP14]
      exact u14_0 x si wi ds sr dp hc (csA (csI' hj (csT' k1 (csT' k2 (csT' e csN'))))) w hL
    · have e : vP 14 0 0 si wi false x.to sr dp 0 0 = false := by
        show vP14 0 0 si wi false x.to sr dp 0 0 = false
        simp_all [vP14] <;> (try (intros; first | omega | (exfalso; omega)))
      have q : eqD (xA 14 0 0 si wi false x.to sr dp 0 0) (xA 14 0 0 si wi false ds sr dp 0 0) = false := by
        simp_all [vP14]
        try omega
      exact u14_1 x si wi ds sr dp hc (csA (csI' hj (csT' k1 (csF' k2 (csF' q (csT' (eF e).1 (csT' (eF e).2.1 (csT' (eF e).2.2 csN')))))))) w hL
  · have e : vP 14 0 0 si wi false x.to sr dp 0 0 = false := by
      show vP14 0 0 si wi false x.to sr dp 0 0 = false
      simp_all [vP14] <;> (try (intros; first | omega | (exfalso; omega)))
    have q : eqD (xA 14 0 0 si wi false x.to sr dp 0 0) (xA 14 0 0 si wi false ds sr dp 0 0) = false := by
      simp_all [vP14]
      try omega
    exact u14_2 x si wi ds sr dp hc (csA (csI' hj (csF' k1 (csF' q (csT' (eF e).1 (csT' (eF e).2.1 (csT' (eF e).2.2 csN'))))))) w hL
theorem law14_1 (si : Int) (wi : Bool) (ds : Int) (sr : Int) (dp : Int) (hc : Cu x (xA 14 0 0 si wi false ds sr dp 0 0)) (hv : vP14 0 0 si wi false ds sr dp 0 0 = true) (hj : Int.tmod x.wh 6 = 1) (w : World) (hL : Laid h12 w) : Lw x w := by
  rcases Bool.eq_false_or_eq_true (decide (x.to ≥ 0)) with k1 | k1
  · rcases Bool.eq_false_or_eq_true (decide (x.to < 16)) with k2 | k2
    · have e : vP 14 0 0 si wi false ds x.to dp 0 0 = true := by
        show vP14 0 0 si wi false ds x.to dp 0 0 = true
        simp_all [vP14]
      exact u14_3 x si wi ds sr dp hc (csA (csI' hj (csT' k1 (csT' k2 (csT' e csN'))))) w hL
    · have e : vP 14 0 0 si wi false ds x.to dp 0 0 = false := by
        show vP14 0 0 si wi false ds x.to dp 0 0 = false
        simp_all [vP14] <;> (try (intros; first | omega | (exfalso; omega)))
      have q : eqD (xA 14 0 0 si wi false ds x.to dp 0 0) (xA 14 0 0 si wi false ds sr dp 0 0) = false := by
        simp_all [vP14]
        try omega
      exact u14_4 x si wi ds sr dp hc (csA (csI' hj (csT' k1 (csF' k2 (csF' q (csT' (eF e).1 (csT' (eF e).2.1 (csT' (eF e).2.2 csN')))))))) w hL
  · have e : vP 14 0 0 si wi false ds x.to dp 0 0 = false := by
      show vP14 0 0 si wi false ds x.to dp 0 0 = false
      simp_all [vP14] <;> (try (intros; first | omega | (exfalso; omega)))
    have q : eqD (xA 14 0 0 si wi false ds x.to dp 0 0) (xA 14 0 0 si wi false ds sr dp 0 0) = false := by
      simp_all [vP14]
      try omega
    exact u14_5 x si wi ds sr dp hc (csA (csI' hj (csF' k1 (csF' q (csT' (eF e).1 (csT' (eF e).2.1 (csT' (eF e).2.2 csN'))))))) w hL
theorem law14_2 (si : Int) (wi : Bool) (ds : Int) (sr : Int) (dp : Int) (hc : Cu x (xA 14 0 0 si wi false ds sr dp 0 0)) (hv : vP14 0 0 si wi false ds sr dp 0 0 = true) (hj : Int.tmod x.wh 6 = 2) (w : World) (hL : Laid h12 w) : Lw x w := by
  rcases Bool.eq_false_or_eq_true (x.to == si) with k1 | k1
  · have e : (vP 14 0 0 x.to wi false ds sr dp 0 0 == (true)) = true := by
      show (vP14 0 0 x.to wi false ds sr dp 0 0 == (true)) = true
      have h1 := szOut (andL (andL (andR (andR hv))))
      have h2 : wi = (si == 8) := eq_of_beq (andR (andL (andR (andR hv))))
      rcases h1 with rfl | rfl | rfl | rfl <;> simp_all [vP14] <;> (try (rw [Bool.eq_iff_iff]; simp; omega))
    exact u14_6 x si wi ds sr dp hc (csA (csI' hj (csT' k1 (csT' e csN')))) w hL
  · rcases Bool.eq_false_or_eq_true (decide (si < 8)) with k2 | k2
    · rcases Bool.eq_false_or_eq_true (x.to == 1) with k3 | k3
      · have e : (vP 14 0 0 x.to wi false ds sr dp 0 0 == (true)) = true := by
          show (vP14 0 0 x.to wi false ds sr dp 0 0 == (true)) = true
          have h1 := szOut (andL (andL (andR (andR hv))))
          have h2 : wi = (si == 8) := eq_of_beq (andR (andL (andR (andR hv))))
          rcases h1 with rfl | rfl | rfl | rfl <;> simp_all [vP14] <;> (try (rw [Bool.eq_iff_iff]; simp; omega))
        exact u14_7 x si wi ds sr dp hc (csA (csI' hj (csF' k1 (csT' k2 (csT' k3 (csT' e csN')))))) w hL
      · rcases Bool.eq_false_or_eq_true (x.to == 2) with k4 | k4
        · have e : (vP 14 0 0 x.to wi false ds sr dp 0 0 == (true)) = true := by
            show (vP14 0 0 x.to wi false ds sr dp 0 0 == (true)) = true
            have h1 := szOut (andL (andL (andR (andR hv))))
            have h2 : wi = (si == 8) := eq_of_beq (andR (andL (andR (andR hv))))
            rcases h1 with rfl | rfl | rfl | rfl <;> simp_all [vP14] <;> (try (rw [Bool.eq_iff_iff]; simp; omega))
          exact u14_8 x si wi ds sr dp hc (csA (csI' hj (csF' k1 (csT' k2 (csF' k3 (csT' k4 (csT' e csN'))))))) w hL
        · have e : (vP 14 0 0 x.to wi false ds sr dp 0 0 == (x.to == 4)) = true := by
            show (vP14 0 0 x.to wi false ds sr dp 0 0 == (x.to == 4)) = true
            have h1 := szOut (andL (andL (andR (andR hv))))
            have h2 : wi = (si == 8) := eq_of_beq (andR (andL (andR (andR hv))))
            rcases h1 with rfl | rfl | rfl | rfl <;> simp_all [vP14] <;> (try (rw [Bool.eq_iff_iff]; simp; omega))
          exact u14_9 x si wi ds sr dp hc (csA (csI' hj (csF' k1 (csT' k2 (csF' k3 (csF' k4 (csT' e csN'))))))) w hL
    · have e : (vP 14 0 0 x.to wi false ds sr dp 0 0 == (false)) = true := by
        show (vP14 0 0 x.to wi false ds sr dp 0 0 == (false)) = true
        have h1 := szOut (andL (andL (andR (andR hv))))
        have h2 : wi = (si == 8) := eq_of_beq (andR (andL (andR (andR hv))))
        rcases h1 with rfl | rfl | rfl | rfl <;> simp_all [vP14] <;> (try (rw [Bool.eq_iff_iff]; simp; omega))
      exact u14_10 x si wi ds sr dp hc (csA (csI' hj (csF' k1 (csF' k2 (csT' e csN'))))) w hL
theorem law14_3 (si : Int) (wi : Bool) (ds : Int) (sr : Int) (dp : Int) (hc : Cu x (xA 14 0 0 si wi false ds sr dp 0 0)) (hv : vP14 0 0 si wi false ds sr dp 0 0 = true) (hj : Int.tmod x.wh 6 = 3) (w : World) (hL : Laid h12 w) : Lw x w := by
  rcases Bool.eq_false_or_eq_true (eqD (xA 14 0 x.to si wi false ds sr dp 0 0) (xA 14 0 0 si wi false ds sr dp 0 0)) with k1 | k1
  · have e : vP 14 0 x.to si wi false ds sr dp 0 0 = true := by
      show vP14 0 x.to si wi false ds sr dp 0 0 = true
      simp_all [vP14]
    exact u14_11 x si wi ds sr dp hc (csA (csI' hj (csT' k1 (csT' e (csT' (eT e) csN'))))) w hL
  · have e : vP 14 0 x.to si wi false ds sr dp 0 0 = false := by
      show vP14 0 x.to si wi false ds sr dp 0 0 = false
      simp_all [vP14]
    exact u14_12 x si wi ds sr dp hc (csA (csI' hj (csF' k1 (csT' (eF e).1 (csT' (eF e).2.1 (csT' (eF e).2.2 csN')))))) w hL
theorem law14_4 (si : Int) (wi : Bool) (ds : Int) (sr : Int) (dp : Int) (hc : Cu x (xA 14 0 0 si wi false ds sr dp 0 0)) (hv : vP14 0 0 si wi false ds sr dp 0 0 = true) (hj : Int.tmod x.wh 6 = 4) (w : World) (hL : Laid h12 w) : Lw x w := by
  rcases Bool.eq_false_or_eq_true (eqD (xA 14 0 0 si wi false ds sr dp (IntKind.i32.wrap x.to) 0) (xA 14 0 0 si wi false ds sr dp 0 0)) with k1 | k1
  · have e : vP 14 0 0 si wi false ds sr dp (IntKind.i32.wrap x.to) 0 = true := by
      show vP14 0 0 si wi false ds sr dp (IntKind.i32.wrap x.to) 0 = true
      simp_all [vP14]
    exact u14_13 x si wi ds sr dp hc (csA (csI' hj (csT' k1 (csT' e (csT' (eT e) csN'))))) w hL
  · have e : vP 14 0 0 si wi false ds sr dp (IntKind.i32.wrap x.to) 0 = false := by
      show vP14 0 0 si wi false ds sr dp (IntKind.i32.wrap x.to) 0 = false
      simp_all [vP14]
    exact u14_14 x si wi ds sr dp hc (csA (csI' hj (csF' k1 (csT' (eF e).1 (csT' (eF e).2.1 (csT' (eF e).2.2 csN')))))) w hL
theorem law14_5 (si : Int) (wi : Bool) (ds : Int) (sr : Int) (dp : Int) (hc : Cu x (xA 14 0 0 si wi false ds sr dp 0 0)) (hv : vP14 0 0 si wi false ds sr dp 0 0 = true) (hj : Int.tmod x.wh 6 = 5) (w : World) (hL : Laid h12 w) : Lw x w := by
  have e : vP 14 0 0 si wi false ds sr (IntKind.i32.wrap x.to) 0 0 = true := by
    show vP14 0 0 si wi false ds sr (IntKind.i32.wrap x.to) 0 0 = true
    simp_all [vP14]
  exact u14_15 x si wi ds sr dp hc (csA (csI' hj (csT' e csN'))) w hL
end Go.Proofs.YtbaiokfjoglmiaaDoor.Ex
end
