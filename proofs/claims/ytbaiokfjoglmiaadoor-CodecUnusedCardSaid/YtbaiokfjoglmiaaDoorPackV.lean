/-
  Lemmas for the laws of this seat, part V: CdE1, CdE2.
-/
import Derived.Test.YtbaiokfjoglmiaaDoorPackU
section
namespace Go.Proofs.YtbaiokfjoglmiaaDoor.Ex
open Go Go.RowKit
set_option linter.unusedVariables false
set_option linter.unusedSimpArgs false
set_option maxHeartbeats 0
set_option maxRecDepth 1000000
attribute [local simp] vP xA eqD eqW regS szOk ccOk aluOk shOk shiftS
variable (x : Rw)
theorem u1_0 (wi : Bool) (ds : Int) (sr : Int) (hc : Cu x (xA 1 0 0 0 wi false ds sr 0 0 0)) : Ru x [(Int.tmod x.wh 6, 0), (b2i (decide (x.to ≥ 0)), 1), (b2i (decide (x.to < 16)), 1), (b2i (vP 1 0 0 0 wi false x.to sr 0 0 0), 1)] := lf (orHook_ok (hk_cut_ok hc) hkU_ok) (ocs [(7, 58, .int .u8 0), (7, 81, .bool true), (7, 85, .bool true), (7, 101, .bool true)] []) (by kernel_rfl) (by kernel_rfl) (by kernel_rfl)
theorem u1_1 (wi : Bool) (ds : Int) (sr : Int) (hc : Cu x (xA 1 0 0 0 wi false ds sr 0 0 0)) : Ru x [(Int.tmod x.wh 6, 0), (b2i (decide (x.to ≥ 0)), 1), (b2i (decide (x.to < 16)), 0), (b2i (eqD (xA 1 0 0 0 wi false x.to sr 0 0 0) (xA 1 0 0 0 wi false ds sr 0 0 0)), 0), (b2i (!vP 1 0 0 0 wi false x.to sr 0 0 0), 1), (b2i (encB 1 0 0 0 wi false x.to sr 0 0 0 == ([] : List UInt8)), 1), (b2i (encE 1 0 0 0 wi false x.to sr 0 0 0 == 2), 1)] := lf (orHook_ok (hk_cut_ok hc) hkU_ok) (ocs [(7, 58, .int .u8 0), (7, 81, .bool true), (7, 85, .bool false), (7, 220, .bool false), (7, 233, .bool true), (7, 237, .bool true), (7, 241, .bool true)] []) (by kernel_rfl) (by kernel_rfl) (by kernel_rfl)
theorem u1_2 (wi : Bool) (ds : Int) (sr : Int) (hc : Cu x (xA 1 0 0 0 wi false ds sr 0 0 0)) : Ru x [(Int.tmod x.wh 6, 0), (b2i (decide (x.to ≥ 0)), 0), (b2i (eqD (xA 1 0 0 0 wi false x.to sr 0 0 0) (xA 1 0 0 0 wi false ds sr 0 0 0)), 0), (b2i (!vP 1 0 0 0 wi false x.to sr 0 0 0), 1), (b2i (encB 1 0 0 0 wi false x.to sr 0 0 0 == ([] : List UInt8)), 1), (b2i (encE 1 0 0 0 wi false x.to sr 0 0 0 == 2), 1)] := lf (orHook_ok (hk_cut_ok hc) hkU_ok) (ocs [(7, 58, .int .u8 0), (7, 81, .bool false), (7, 220, .bool false), (7, 233, .bool true), (7, 237, .bool true), (7, 241, .bool true)] []) (by kernel_rfl) (by kernel_rfl) (by kernel_rfl)
theorem u1_3 (wi : Bool) (ds : Int) (sr : Int) (hc : Cu x (xA 1 0 0 0 wi false ds sr 0 0 0)) : Ru x [(Int.tmod x.wh 6, 1), (b2i (decide (x.to ≥ 0)), 1), (b2i (decide (x.to < 16)), 1), (b2i (vP 1 0 0 0 wi false ds x.to 0 0 0), 1)] := lf (orHook_ok (hk_cut_ok hc) hkU_ok) (ocs [(7, 58, .int .u8 1), (7, 110, .bool true), (7, 114, .bool true), (7, 119, .bool true)] []) (by kernel_rfl) (by kernel_rfl) (by kernel_rfl)
theorem u1_4 (wi : Bool) (ds : Int) (sr : Int) (hc : Cu x (xA 1 0 0 0 wi false ds sr 0 0 0)) : Ru x [(Int.tmod x.wh 6, 1), (b2i (decide (x.to ≥ 0)), 1), (b2i (decide (x.to < 16)), 0), (b2i (eqD (xA 1 0 0 0 wi false ds x.to 0 0 0) (xA 1 0 0 0 wi false ds sr 0 0 0)), 0), (b2i (!vP 1 0 0 0 wi false ds x.to 0 0 0), 1), (b2i (encB 1 0 0 0 wi false ds x.to 0 0 0 == ([] : List UInt8)), 1), (b2i (encE 1 0 0 0 wi false ds x.to 0 0 0 == 2), 1)] := lf (orHook_ok (hk_cut_ok hc) hkU_ok) (ocs [(7, 58, .int .u8 1), (7, 110, .bool true), (7, 114, .bool false), (7, 220, .bool false), (7, 233, .bool true), (7, 237, .bool true), (7, 241, .bool true)] []) (by kernel_rfl) (by kernel_rfl) (by kernel_rfl)
theorem u1_5 (wi : Bool) (ds : Int) (sr : Int) (hc : Cu x (xA 1 0 0 0 wi false ds sr 0 0 0)) : Ru x [(Int.tmod x.wh 6, 1), (b2i (decide (x.to ≥ 0)), 0), (b2i (eqD (xA 1 0 0 0 wi false ds x.to 0 0 0) (xA 1 0 0 0 wi false ds sr 0 0 0)), 0), (b2i (!vP 1 0 0 0 wi false ds x.to 0 0 0), 1), (b2i (encB 1 0 0 0 wi false ds x.to 0 0 0 == ([] : List UInt8)), 1), (b2i (encE 1 0 0 0 wi false ds x.to 0 0 0 == 2), 1)] := lf (orHook_ok (hk_cut_ok hc) hkU_ok) (ocs [(7, 58, .int .u8 1), (7, 110, .bool false), (7, 220, .bool false), (7, 233, .bool true), (7, 237, .bool true), (7, 241, .bool true)] []) (by kernel_rfl) (by kernel_rfl) (by kernel_rfl)
theorem u1_6 (wi : Bool) (ds : Int) (sr : Int) (hc : Cu x (xA 1 0 0 0 wi false ds sr 0 0 0)) : Ru x [(Int.tmod x.wh 6, 2), (b2i (eqD (xA 1 0 0 x.to wi false ds sr 0 0 0) (xA 1 0 0 0 wi false ds sr 0 0 0)), 1), (b2i (vP 1 0 0 x.to wi false ds sr 0 0 0), 1), (b2i (encE 1 0 0 x.to wi false ds sr 0 0 0 == 0), 1)] := lf (orHook_ok (hk_cut_ok hc) hkU_ok) (ocs [(7, 58, .int .u8 2), (7, 220, .bool true), (7, 223, .bool true), (7, 227, .bool true)] []) (by kernel_rfl) (by kernel_rfl) (by kernel_rfl)
theorem u1_7 (wi : Bool) (ds : Int) (sr : Int) (hc : Cu x (xA 1 0 0 0 wi false ds sr 0 0 0)) : Ru x [(Int.tmod x.wh 6, 2), (b2i (eqD (xA 1 0 0 x.to wi false ds sr 0 0 0) (xA 1 0 0 0 wi false ds sr 0 0 0)), 0), (b2i (!vP 1 0 0 x.to wi false ds sr 0 0 0), 1), (b2i (encB 1 0 0 x.to wi false ds sr 0 0 0 == ([] : List UInt8)), 1), (b2i (encE 1 0 0 x.to wi false ds sr 0 0 0 == 2), 1)] := lf (orHook_ok (hk_cut_ok hc) hkU_ok) (ocs [(7, 58, .int .u8 2), (7, 220, .bool false), (7, 233, .bool true), (7, 237, .bool true), (7, 241, .bool true)] []) (by kernel_rfl) (by kernel_rfl) (by kernel_rfl)
theorem u1_8 (wi : Bool) (ds : Int) (sr : Int) (hc : Cu x (xA 1 0 0 0 wi false ds sr 0 0 0)) : Ru x [(Int.tmod x.wh 6, 3), (b2i (eqD (xA 1 0 x.to 0 wi false ds sr 0 0 0) (xA 1 0 0 0 wi false ds sr 0 0 0)), 1), (b2i (vP 1 0 x.to 0 wi false ds sr 0 0 0), 1), (b2i (encE 1 0 x.to 0 wi false ds sr 0 0 0 == 0), 1)] := lf (orHook_ok (hk_cut_ok hc) hkU_ok) (ocs [(7, 58, .int .u8 3), (7, 220, .bool true), (7, 223, .bool true), (7, 227, .bool true)] []) (by kernel_rfl) (by kernel_rfl) (by kernel_rfl)
theorem u1_9 (wi : Bool) (ds : Int) (sr : Int) (hc : Cu x (xA 1 0 0 0 wi false ds sr 0 0 0)) : Ru x [(Int.tmod x.wh 6, 3), (b2i (eqD (xA 1 0 x.to 0 wi false ds sr 0 0 0) (xA 1 0 0 0 wi false ds sr 0 0 0)), 0), (b2i (!vP 1 0 x.to 0 wi false ds sr 0 0 0), 1), (b2i (encB 1 0 x.to 0 wi false ds sr 0 0 0 == ([] : List UInt8)), 1), (b2i (encE 1 0 x.to 0 wi false ds sr 0 0 0 == 2), 1)] := lf (orHook_ok (hk_cut_ok hc) hkU_ok) (ocs [(7, 58, .int .u8 3), (7, 220, .bool false), (7, 233, .bool true), (7, 237, .bool true), (7, 241, .bool true)] []) (by kernel_rfl) (by kernel_rfl) (by kernel_rfl)
theorem u1_10 (wi : Bool) (ds : Int) (sr : Int) (hc : Cu x (xA 1 0 0 0 wi false ds sr 0 0 0)) : Ru x [(Int.tmod x.wh 6, 4), (b2i (eqD (xA 1 0 0 0 wi false ds sr 0 (IntKind.i32.wrap x.to) 0) (xA 1 0 0 0 wi false ds sr 0 0 0)), 1), (b2i (vP 1 0 0 0 wi false ds sr 0 (IntKind.i32.wrap x.to) 0), 1), (b2i (encE 1 0 0 0 wi false ds sr 0 (IntKind.i32.wrap x.to) 0 == 0), 1)] := lf (orHook_ok (hk_cut_ok hc) hkU_ok) (ocs [(7, 58, .int .u8 4), (7, 220, .bool true), (7, 223, .bool true), (7, 227, .bool true)] []) (by kernel_rfl) (by kernel_rfl) (by kernel_rfl)
theorem u1_11 (wi : Bool) (ds : Int) (sr : Int) (hc : Cu x (xA 1 0 0 0 wi false ds sr 0 0 0)) : Ru x [(Int.tmod x.wh 6, 4), (b2i (eqD (xA 1 0 0 0 wi false ds sr 0 (IntKind.i32.wrap x.to) 0) (xA 1 0 0 0 wi false ds sr 0 0 0)), 0), (b2i (!vP 1 0 0 0 wi false ds sr 0 (IntKind.i32.wrap x.to) 0), 1), (b2i (encB 1 0 0 0 wi false ds sr 0 (IntKind.i32.wrap x.to) 0 == ([] : List UInt8)), 1), (b2i (encE 1 0 0 0 wi false ds sr 0 (IntKind.i32.wrap x.to) 0 == 2), 1)] := lf (orHook_ok (hk_cut_ok hc) hkU_ok) (ocs [(7, 58, .int .u8 4), (7, 220, .bool false), (7, 233, .bool true), (7, 237, .bool true), (7, 241, .bool true)] []) (by kernel_rfl) (by kernel_rfl) (by kernel_rfl)
theorem u1_12 (wi : Bool) (ds : Int) (sr : Int) (hc : Cu x (xA 1 0 0 0 wi false ds sr 0 0 0)) : Ru x [(Int.tmod x.wh 6, 5), (b2i (eqD (xA 1 0 0 0 wi false ds sr (IntKind.i32.wrap x.to) 0 0) (xA 1 0 0 0 wi false ds sr 0 0 0)), 1), (b2i (vP 1 0 0 0 wi false ds sr (IntKind.i32.wrap x.to) 0 0), 1), (b2i (encE 1 0 0 0 wi false ds sr (IntKind.i32.wrap x.to) 0 0 == 0), 1)] := lf (orHook_ok (hk_cut_ok hc) hkU_ok) (ocs [(7, 58, .int .u8 5), (7, 220, .bool true), (7, 223, .bool true), (7, 227, .bool true)] []) (by kernel_rfl) (by kernel_rfl) (by kernel_rfl)
theorem u1_13 (wi : Bool) (ds : Int) (sr : Int) (hc : Cu x (xA 1 0 0 0 wi false ds sr 0 0 0)) : Ru x [(Int.tmod x.wh 6, 5), (b2i (eqD (xA 1 0 0 0 wi false ds sr (IntKind.i32.wrap x.to) 0 0) (xA 1 0 0 0 wi false ds sr 0 0 0)), 0), (b2i (!vP 1 0 0 0 wi false ds sr (IntKind.i32.wrap x.to) 0 0), 1), (b2i (encB 1 0 0 0 wi false ds sr (IntKind.i32.wrap x.to) 0 0 == ([] : List UInt8)), 1), (b2i (encE 1 0 0 0 wi false ds sr (IntKind.i32.wrap x.to) 0 0 == 2), 1)] := lf (orHook_ok (hk_cut_ok hc) hkU_ok) (ocs [(7, 58, .int .u8 5), (7, 220, .bool false), (7, 233, .bool true), (7, 237, .bool true), (7, 241, .bool true)] []) (by kernel_rfl) (by kernel_rfl) (by kernel_rfl)
theorem law1_0 (wi : Bool) (ds : Int) (sr : Int) (hc : Cu x (xA 1 0 0 0 wi false ds sr 0 0 0)) (hv : vP1 0 0 0 wi false ds sr 0 0 0 = true) (hj : Int.tmod x.wh 6 = 0) (w : World) (hL : Laid h12 w) : Lw x w := by
  rcases Bool.eq_false_or_eq_true (decide (x.to ≥ 0)) with k1 | k1
  · rcases Bool.eq_false_or_eq_true (decide (x.to < 16)) with k2 | k2
    · have e : vP 1 0 0 0 wi false x.to sr 0 0 0 = true := by
        show vP1 0 0 0 wi false x.to sr 0 0 0 = true
        simp_all [vP1]
      exact u1_0 x wi ds sr hc (csA (csI' hj (csT' k1 (csT' k2 (csT' e csN'))))) w hL
    · have e : vP 1 0 0 0 wi false x.to sr 0 0 0 = false := by
        show vP1 0 0 0 wi false x.to sr 0 0 0 = false
        simp_all [vP1] <;> (try (intros; first | omega | (exfalso; omega)))
      have q : eqD (xA 1 0 0 0 wi false x.to sr 0 0 0) (xA 1 0 0 0 wi false ds sr 0 0 0) = false := by
        simp_all [vP1]
        try omega
      exact u1_1 x wi ds sr hc (csA (csI' hj (csT' k1 (csF' k2 (csF' q (csT' (eF e).1 (csT' (eF e).2.1 (csT' (eF e).2.2 csN')))))))) w hL
  · have e : vP 1 0 0 0 wi false x.to sr 0 0 0 = false := by
      show vP1 0 0 0 wi false x.to sr 0 0 0 = false
      simp_all [vP1] <;> (try (intros; first | omega | (exfalso; omega)))
    have q : eqD (xA 1 0 0 0 wi false x.to sr 0 0 0) (xA 1 0 0 0 wi false ds sr 0 0 0) = false := by
      simp_all [vP1]
      try omega
    exact u1_2 x wi ds sr hc (csA (csI' hj (csF' k1 (csF' q (csT' (eF e).1 (csT' (eF e).2.1 (csT' (eF e).2.2 csN'))))))) w hL
theorem law1_1 (wi : Bool) (ds : Int) (sr : Int) (hc : Cu x (xA 1 0 0 0 wi false ds sr 0 0 0)) (hv : vP1 0 0 0 wi false ds sr 0 0 0 = true) (hj : Int.tmod x.wh 6 = 1) (w : World) (hL : Laid h12 w) : Lw x w := by
  rcases Bool.eq_false_or_eq_true (decide (x.to ≥ 0)) with k1 | k1
  · rcases Bool.eq_false_or_eq_true (decide (x.to < 16)) with k2 | k2
    · have e : vP 1 0 0 0 wi false ds x.to 0 0 0 = true := by
        show vP1 0 0 0 wi false ds x.to 0 0 0 = true
        simp_all [vP1]
      exact u1_3 x wi ds sr hc (csA (csI' hj (csT' k1 (csT' k2 (csT' e csN'))))) w hL
    · have e : vP 1 0 0 0 wi false ds x.to 0 0 0 = false := by
        show vP1 0 0 0 wi false ds x.to 0 0 0 = false
        simp_all [vP1] <;> (try (intros; first | omega | (exfalso; omega)))
      have q : eqD (xA 1 0 0 0 wi false ds x.to 0 0 0) (xA 1 0 0 0 wi false ds sr 0 0 0) = false := by
        simp_all [vP1]
        try omega
      exact u1_4 x wi ds sr hc (csA (csI' hj (csT' k1 (csF' k2 (csF' q (csT' (eF e).1 (csT' (eF e).2.1 (csT' (eF e).2.2 csN')))))))) w hL
  · have e : vP 1 0 0 0 wi false ds x.to 0 0 0 = false := by
      show vP1 0 0 0 wi false ds x.to 0 0 0 = false
      simp_all [vP1] <;> (try (intros; first | omega | (exfalso; omega)))
    have q : eqD (xA 1 0 0 0 wi false ds x.to 0 0 0) (xA 1 0 0 0 wi false ds sr 0 0 0) = false := by
      simp_all [vP1]
      try omega
    exact u1_5 x wi ds sr hc (csA (csI' hj (csF' k1 (csF' q (csT' (eF e).1 (csT' (eF e).2.1 (csT' (eF e).2.2 csN'))))))) w hL
theorem law1_2 (wi : Bool) (ds : Int) (sr : Int) (hc : Cu x (xA 1 0 0 0 wi false ds sr 0 0 0)) (hv : vP1 0 0 0 wi false ds sr 0 0 0 = true) (hj : Int.tmod x.wh 6 = 2) (w : World) (hL : Laid h12 w) : Lw x w := by
  rcases Bool.eq_false_or_eq_true (eqD (xA 1 0 0 x.to wi false ds sr 0 0 0) (xA 1 0 0 0 wi false ds sr 0 0 0)) with k1 | k1
  · have e : vP 1 0 0 x.to wi false ds sr 0 0 0 = true := by
      show vP1 0 0 x.to wi false ds sr 0 0 0 = true
      simp_all [vP1]
    exact u1_6 x wi ds sr hc (csA (csI' hj (csT' k1 (csT' e (csT' (eT e) csN'))))) w hL
  · have e : vP 1 0 0 x.to wi false ds sr 0 0 0 = false := by
      show vP1 0 0 x.to wi false ds sr 0 0 0 = false
      simp_all [vP1]
    exact u1_7 x wi ds sr hc (csA (csI' hj (csF' k1 (csT' (eF e).1 (csT' (eF e).2.1 (csT' (eF e).2.2 csN')))))) w hL
theorem law1_3 (wi : Bool) (ds : Int) (sr : Int) (hc : Cu x (xA 1 0 0 0 wi false ds sr 0 0 0)) (hv : vP1 0 0 0 wi false ds sr 0 0 0 = true) (hj : Int.tmod x.wh 6 = 3) (w : World) (hL : Laid h12 w) : Lw x w := by
  rcases Bool.eq_false_or_eq_true (eqD (xA 1 0 x.to 0 wi false ds sr 0 0 0) (xA 1 0 0 0 wi false ds sr 0 0 0)) with k1 | k1
  · have e : vP 1 0 x.to 0 wi false ds sr 0 0 0 = true := by
      show vP1 0 x.to 0 wi false ds sr 0 0 0 = true
      simp_all [vP1]
    exact u1_8 x wi ds sr hc (csA (csI' hj (csT' k1 (csT' e (csT' (eT e) csN'))))) w hL
  · have e : vP 1 0 x.to 0 wi false ds sr 0 0 0 = false := by
      show vP1 0 x.to 0 wi false ds sr 0 0 0 = false
      simp_all [vP1]
    exact u1_9 x wi ds sr hc (csA (csI' hj (csF' k1 (csT' (eF e).1 (csT' (eF e).2.1 (csT' (eF e).2.2 csN')))))) w hL
theorem law1_4 (wi : Bool) (ds : Int) (sr : Int) (hc : Cu x (xA 1 0 0 0 wi false ds sr 0 0 0)) (hv : vP1 0 0 0 wi false ds sr 0 0 0 = true) (hj : Int.tmod x.wh 6 = 4) (w : World) (hL : Laid h12 w) : Lw x w := by
  rcases Bool.eq_false_or_eq_true (eqD (xA 1 0 0 0 wi false ds sr 0 (IntKind.i32.wrap x.to) 0) (xA 1 0 0 0 wi false ds sr 0 0 0)) with k1 | k1
  · have e : vP 1 0 0 0 wi false ds sr 0 (IntKind.i32.wrap x.to) 0 = true := by
      show vP1 0 0 0 wi false ds sr 0 (IntKind.i32.wrap x.to) 0 = true
      simp_all [vP1]
    exact u1_10 x wi ds sr hc (csA (csI' hj (csT' k1 (csT' e (csT' (eT e) csN'))))) w hL
  · have e : vP 1 0 0 0 wi false ds sr 0 (IntKind.i32.wrap x.to) 0 = false := by
      show vP1 0 0 0 wi false ds sr 0 (IntKind.i32.wrap x.to) 0 = false
      simp_all [vP1]
    exact u1_11 x wi ds sr hc (csA (csI' hj (csF' k1 (csT' (eF e).1 (csT' (eF e).2.1 (csT' (eF e).2.2 csN')))))) w hL
theorem law1_5 (wi : Bool) (ds : Int) (sr : Int) (hc : Cu x (xA 1 0 0 0 wi false ds sr 0 0 0)) (hv : vP1 0 0 0 wi false ds sr 0 0 0 = true) (hj : Int.tmod x.wh 6 = 5) (w : World) (hL : Laid h12 w) : Lw x w := by
  rcases Bool.eq_false_or_eq_true (eqD (xA 1 0 0 0 wi false ds sr (IntKind.i32.wrap x.to) 0 0) (xA 1 0 0 0 wi false ds sr 0 0 0)) with k1 | k1
  · have e : vP 1 0 0 0 wi false ds sr (IntKind.i32.wrap x.to) 0 0 = true := by
      show vP1 0 0 0 wi false ds sr (IntKind.i32.wrap x.to) 0 0 = true
      simp_all [vP1]
    exact u1_12 x wi ds sr hc (csA (csI' hj (csT' k1 (csT' e (csT' (eT e) csN'))))) w hL
  · have e : vP 1 0 0 0 wi false ds sr (IntKind.i32.wrap x.to) 0 0 = false := by
      show vP1 0 0 0 wi false ds sr (IntKind.i32.wrap x.to) 0 0 = false
      simp_all [vP1]
    exact u1_13 x wi ds sr hc (csA (csI' hj (csF' k1 (csT' (eF e).1 (csT' (eF e).2.1 (csT' (eF e).2.2 csN')))))) w hL
theorem u2_0 (wi : Bool) (ds : Int) (im : Int) (hc : Cu x (xA 2 0 0 0 wi false ds 0 0 0 im)) : Ru x [(Int.tmod x.wh 6, 0), (b2i (decide (x.to ≥ 0)), 1), (b2i (decide (x.to < 16)), 1), (b2i (vP 2 0 0 0 wi false x.to 0 0 0 im), 1)] := lf (orHook_ok (hk_cut_ok hc) hkU_ok) (ocs [(7, 58, .int .u8 0), (7, 81, .bool true), (7, 85, .bool true), (7, 101, .bool true)] []) (by kernel_rfl) (by kernel_rfl) (by kernel_rfl)
theorem u2_1 (wi : Bool) (ds : Int) (im : Int) (hc : Cu x (xA 2 0 0 0 wi false ds 0 0 0 im)) : Ru x [(Int.tmod x.wh 6, 0), (b2i (decide (x.to ≥ 0)), 1), (b2i (decide (x.to < 16)), 0), (b2i (eqD (xA 2 0 0 0 wi false x.to 0 0 0 im) (xA 2 0 0 0 wi false ds 0 0 0 im)), 0), (b2i (!vP 2 0 0 0 wi false x.to 0 0 0 im), 1), (b2i (encB 2 0 0 0 wi false x.to 0 0 0 im == ([] : List UInt8)), 1), (b2i (encE 2 0 0 0 wi false x.to 0 0 0 im == 2), 1)] := lf (orHook_ok (hk_cut_ok hc) hkU_ok) (ocs [(7, 58, .int .u8 0), (7, 81, .bool true), (7, 85, .bool false), (7, 220, .bool false), (7, 233, .bool true), (7, 237, .bool true), (7, 241, .bool true)] []) (by kernel_rfl) (by kernel_rfl) (by kernel_rfl)
theorem u2_2 (wi : Bool) (ds : Int) (im : Int) (hc : Cu x (xA 2 0 0 0 wi false ds 0 0 0 im)) : Ru x [(Int.tmod x.wh 6, 0), (b2i (decide (x.to ≥ 0)), 0), (b2i (eqD (xA 2 0 0 0 wi false x.to 0 0 0 im) (xA 2 0 0 0 wi false ds 0 0 0 im)), 0), (b2i (!vP 2 0 0 0 wi false x.to 0 0 0 im), 1), (b2i (encB 2 0 0 0 wi false x.to 0 0 0 im == ([] : List UInt8)), 1), (b2i (encE 2 0 0 0 wi false x.to 0 0 0 im == 2), 1)] := lf (orHook_ok (hk_cut_ok hc) hkU_ok) (ocs [(7, 58, .int .u8 0), (7, 81, .bool false), (7, 220, .bool false), (7, 233, .bool true), (7, 237, .bool true), (7, 241, .bool true)] []) (by kernel_rfl) (by kernel_rfl) (by kernel_rfl)
theorem u2_3 (wi : Bool) (ds : Int) (im : Int) (hc : Cu x (xA 2 0 0 0 wi false ds 0 0 0 im)) : Ru x [(Int.tmod x.wh 6, 1), (b2i (decide (x.to ≥ 0)), 1), (b2i (decide (x.to < 16)), 1), (b2i (eqD (xA 2 0 0 0 wi false ds x.to 0 0 im) (xA 2 0 0 0 wi false ds 0 0 0 im)), 1), (b2i (vP 2 0 0 0 wi false ds x.to 0 0 im), 1), (b2i (encE 2 0 0 0 wi false ds x.to 0 0 im == 0), 1)] := lf (orHook_ok (hk_cut_ok hc) hkU_ok) (ocs [(7, 58, .int .u8 1), (7, 110, .bool true), (7, 114, .bool true), (7, 220, .bool true), (7, 223, .bool true), (7, 227, .bool true)] []) (by kernel_rfl) (by kernel_rfl) (by kernel_rfl)
theorem u2_4 (wi : Bool) (ds : Int) (im : Int) (hc : Cu x (xA 2 0 0 0 wi false ds 0 0 0 im)) : Ru x [(Int.tmod x.wh 6, 1), (b2i (decide (x.to ≥ 0)), 1), (b2i (decide (x.to < 16)), 1), (b2i (eqD (xA 2 0 0 0 wi false ds x.to 0 0 im) (xA 2 0 0 0 wi false ds 0 0 0 im)), 0), (b2i (!vP 2 0 0 0 wi false ds x.to 0 0 im), 1), (b2i (encB 2 0 0 0 wi false ds x.to 0 0 im == ([] : List UInt8)), 1), (b2i (encE 2 0 0 0 wi false ds x.to 0 0 im == 2), 1)] := lf (orHook_ok (hk_cut_ok hc) hkU_ok) (ocs [(7, 58, .int .u8 1), (7, 110, .bool true), (7, 114, .bool true), (7, 220, .bool false), (7, 233, .bool true), (7, 237, .bool true), (7, 241, .bool true)] []) (by kernel_rfl) (by kernel_rfl) (by kernel_rfl)
theorem u2_5 (wi : Bool) (ds : Int) (im : Int) (hc : Cu x (xA 2 0 0 0 wi false ds 0 0 0 im)) : Ru x [(Int.tmod x.wh 6, 1), (b2i (decide (x.to ≥ 0)), 1), (b2i (decide (x.to < 16)), 0), (b2i (eqD (xA 2 0 0 0 wi false ds x.to 0 0 im) (xA 2 0 0 0 wi false ds 0 0 0 im)), 1), (b2i (vP 2 0 0 0 wi false ds x.to 0 0 im), 1), (b2i (encE 2 0 0 0 wi false ds x.to 0 0 im == 0), 1)] := lf (orHook_ok (hk_cut_ok hc) hkU_ok) (ocs [(7, 58, .int .u8 1), (7, 110, .bool true), (7, 114, .bool false), (7, 220, .bool true), (7, 223, .bool true), (7, 227, .bool true)] []) (by kernel_rfl) (by kernel_rfl) (by kernel_rfl)
theorem u2_6 (wi : Bool) (ds : Int) (im : Int) (hc : Cu x (xA 2 0 0 0 wi false ds 0 0 0 im)) : Ru x [(Int.tmod x.wh 6, 1), (b2i (decide (x.to ≥ 0)), 1), (b2i (decide (x.to < 16)), 0), (b2i (eqD (xA 2 0 0 0 wi false ds x.to 0 0 im) (xA 2 0 0 0 wi false ds 0 0 0 im)), 0), (b2i (!vP 2 0 0 0 wi false ds x.to 0 0 im), 1), (b2i (encB 2 0 0 0 wi false ds x.to 0 0 im == ([] : List UInt8)), 1), (b2i (encE 2 0 0 0 wi false ds x.to 0 0 im == 2), 1)] := lf (orHook_ok (hk_cut_ok hc) hkU_ok) (ocs [(7, 58, .int .u8 1), (7, 110, .bool true), (7, 114, .bool false), (7, 220, .bool false), (7, 233, .bool true), (7, 237, .bool true), (7, 241, .bool true)] []) (by kernel_rfl) (by kernel_rfl) (by kernel_rfl)
theorem u2_7 (wi : Bool) (ds : Int) (im : Int) (hc : Cu x (xA 2 0 0 0 wi false ds 0 0 0 im)) : Ru x [(Int.tmod x.wh 6, 1), (b2i (decide (x.to ≥ 0)), 0), (b2i (eqD (xA 2 0 0 0 wi false ds x.to 0 0 im) (xA 2 0 0 0 wi false ds 0 0 0 im)), 1), (b2i (vP 2 0 0 0 wi false ds x.to 0 0 im), 1), (b2i (encE 2 0 0 0 wi false ds x.to 0 0 im == 0), 1)] := lf (orHook_ok (hk_cut_ok hc) hkU_ok) (ocs [(7, 58, .int .u8 1), (7, 110, .bool false), (7, 220, .bool true), (7, 223, .bool true), (7, 227, .bool true)] []) (by kernel_rfl) (by kernel_rfl) (by kernel_rfl)
theorem u2_8 (wi : Bool) (ds : Int) (im : Int) (hc : Cu x (xA 2 0 0 0 wi false ds 0 0 0 im)) : Ru x [(Int.tmod x.wh 6, 1), (b2i (decide (x.to ≥ 0)), 0), (b2i (eqD (xA 2 0 0 0 wi false ds x.to 0 0 im) (xA 2 0 0 0 wi false ds 0 0 0 im)), 0), (b2i (!vP 2 0 0 0 wi false ds x.to 0 0 im), 1), (b2i (encB 2 0 0 0 wi false ds x.to 0 0 im == ([] : List UInt8)), 1), (b2i (encE 2 0 0 0 wi false ds x.to 0 0 im == 2), 1)] := lf (orHook_ok (hk_cut_ok hc) hkU_ok) (ocs [(7, 58, .int .u8 1), (7, 110, .bool false), (7, 220, .bool false), (7, 233, .bool true), (7, 237, .bool true), (7, 241, .bool true)] []) (by kernel_rfl) (by kernel_rfl) (by kernel_rfl)
theorem u2_9 (wi : Bool) (ds : Int) (im : Int) (hc : Cu x (xA 2 0 0 0 wi false ds 0 0 0 im)) : Ru x [(Int.tmod x.wh 6, 2), (b2i (eqD (xA 2 0 0 x.to wi false ds 0 0 0 im) (xA 2 0 0 0 wi false ds 0 0 0 im)), 1), (b2i (vP 2 0 0 x.to wi false ds 0 0 0 im), 1), (b2i (encE 2 0 0 x.to wi false ds 0 0 0 im == 0), 1)] := lf (orHook_ok (hk_cut_ok hc) hkU_ok) (ocs [(7, 58, .int .u8 2), (7, 220, .bool true), (7, 223, .bool true), (7, 227, .bool true)] []) (by kernel_rfl) (by kernel_rfl) (by kernel_rfl)
theorem u2_10 (wi : Bool) (ds : Int) (im : Int) (hc : Cu x (xA 2 0 0 0 wi false ds 0 0 0 im)) : Ru x [(Int.tmod x.wh 6, 2), (b2i (eqD (xA 2 0 0 x.to wi false ds 0 0 0 im) (xA 2 0 0 0 wi false ds 0 0 0 im)), 0), (b2i (!vP 2 0 0 x.to wi false ds 0 0 0 im), 1), (b2i (encB 2 0 0 x.to wi false ds 0 0 0 im == ([] : List UInt8)), 1), (b2i (encE 2 0 0 x.to wi false ds 0 0 0 im == 2), 1)] := lf (orHook_ok (hk_cut_ok hc) hkU_ok) (ocs [(7, 58, .int .u8 2), (7, 220, .bool false), (7, 233, .bool true), (7, 237, .bool true), (7, 241, .bool true)] []) (by kernel_rfl) (by kernel_rfl) (by kernel_rfl)
theorem u2_11 (wi : Bool) (ds : Int) (im : Int) (hc : Cu x (xA 2 0 0 0 wi false ds 0 0 0 im)) : Ru x [(Int.tmod x.wh 6, 3), (b2i (eqD (xA 2 0 x.to 0 wi false ds 0 0 0 im) (xA 2 0 0 0 wi false ds 0 0 0 im)), 1), (b2i (vP 2 0 x.to 0 wi false ds 0 0 0 im), 1), (b2i (encE 2 0 x.to 0 wi false ds 0 0 0 im == 0), 1)] := lf (orHook_ok (hk_cut_ok hc) hkU_ok) (ocs [(7, 58, .int .u8 3), (7, 220, .bool true), (7, 223, .bool true), (7, 227, .bool true)] []) (by kernel_rfl) (by kernel_rfl) (by kernel_rfl)
theorem u2_12 (wi : Bool) (ds : Int) (im : Int) (hc : Cu x (xA 2 0 0 0 wi false ds 0 0 0 im)) : Ru x [(Int.tmod x.wh 6, 3), (b2i (eqD (xA 2 0 x.to 0 wi false ds 0 0 0 im) (xA 2 0 0 0 wi false ds 0 0 0 im)), 0), (b2i (!vP 2 0 x.to 0 wi false ds 0 0 0 im), 1), (b2i (encB 2 0 x.to 0 wi false ds 0 0 0 im == ([] : List UInt8)), 1), (b2i (encE 2 0 x.to 0 wi false ds 0 0 0 im == 2), 1)] := lf (orHook_ok (hk_cut_ok hc) hkU_ok) (ocs [(7, 58, .int .u8 3), (7, 220, .bool false), (7, 233, .bool true), (7, 237, .bool true), (7, 241, .bool true)] []) (by kernel_rfl) (by kernel_rfl) (by kernel_rfl)
theorem u2_13 (wi : Bool) (ds : Int) (im : Int) (hc : Cu x (xA 2 0 0 0 wi false ds 0 0 0 im)) : Ru x [(Int.tmod x.wh 6, 4), (b2i (eqD (xA 2 0 0 0 wi false ds 0 0 (IntKind.i32.wrap x.to) im) (xA 2 0 0 0 wi false ds 0 0 0 im)), 1), (b2i (vP 2 0 0 0 wi false ds 0 0 (IntKind.i32.wrap x.to) im), 1), (b2i (encE 2 0 0 0 wi false ds 0 0 (IntKind.i32.wrap x.to) im == 0), 1)] := lf (orHook_ok (hk_cut_ok hc) hkU_ok) (ocs [(7, 58, .int .u8 4), (7, 220, .bool true), (7, 223, .bool true), (7, 227, .bool true)] []) (by kernel_rfl) (by kernel_rfl) (by kernel_rfl)
theorem u2_14 (wi : Bool) (ds : Int) (im : Int) (hc : Cu x (xA 2 0 0 0 wi false ds 0 0 0 im)) : Ru x [(Int.tmod x.wh 6, 4), (b2i (eqD (xA 2 0 0 0 wi false ds 0 0 (IntKind.i32.wrap x.to) im) (xA 2 0 0 0 wi false ds 0 0 0 im)), 0), (b2i (!vP 2 0 0 0 wi false ds 0 0 (IntKind.i32.wrap x.to) im), 1), (b2i (encB 2 0 0 0 wi false ds 0 0 (IntKind.i32.wrap x.to) im == ([] : List UInt8)), 1), (b2i (encE 2 0 0 0 wi false ds 0 0 (IntKind.i32.wrap x.to) im == 2), 1)] := lf (orHook_ok (hk_cut_ok hc) hkU_ok) (ocs [(7, 58, .int .u8 4), (7, 220, .bool false), (7, 233, .bool true), (7, 237, .bool true), (7, 241, .bool true)] []) (by kernel_rfl) (by kernel_rfl) (by kernel_rfl)
theorem u2_15 (wi : Bool) (ds : Int) (im : Int) (hc : Cu x (xA 2 0 0 0 wi false ds 0 0 0 im)) : Ru x [(Int.tmod x.wh 6, 5), (b2i (eqD (xA 2 0 0 0 wi false ds 0 (IntKind.i32.wrap x.to) 0 im) (xA 2 0 0 0 wi false ds 0 0 0 im)), 1), (b2i (vP 2 0 0 0 wi false ds 0 (IntKind.i32.wrap x.to) 0 im), 1), (b2i (encE 2 0 0 0 wi false ds 0 (IntKind.i32.wrap x.to) 0 im == 0), 1)] := lf (orHook_ok (hk_cut_ok hc) hkU_ok) (ocs [(7, 58, .int .u8 5), (7, 220, .bool true), (7, 223, .bool true), (7, 227, .bool true)] []) (by kernel_rfl) (by kernel_rfl) (by kernel_rfl)
theorem u2_16 (wi : Bool) (ds : Int) (im : Int) (hc : Cu x (xA 2 0 0 0 wi false ds 0 0 0 im)) : Ru x [(Int.tmod x.wh 6, 5), (b2i (eqD (xA 2 0 0 0 wi false ds 0 (IntKind.i32.wrap x.to) 0 im) (xA 2 0 0 0 wi false ds 0 0 0 im)), 0), (b2i (!vP 2 0 0 0 wi false ds 0 (IntKind.i32.wrap x.to) 0 im), 1), (b2i (encB 2 0 0 0 wi false ds 0 (IntKind.i32.wrap x.to) 0 im == ([] : List UInt8)), 1), (b2i (encE 2 0 0 0 wi false ds 0 (IntKind.i32.wrap x.to) 0 im == 2), 1)] := lf (orHook_ok (hk_cut_ok hc) hkU_ok) (ocs [(7, 58, .int .u8 5), (7, 220, .bool false), (7, 233, .bool true), (7, 237, .bool true), (7, 241, .bool true)] []) (by kernel_rfl) (by kernel_rfl) (by kernel_rfl)
theorem law2_0 (wi : Bool) (ds : Int) (im : Int) (hc : Cu x (xA 2 0 0 0 wi false ds 0 0 0 im)) (hv : vP2 0 0 0 wi false ds 0 0 0 im = true) (hj : Int.tmod x.wh 6 = 0) (w : World) (hL : Laid h12 w) : Lw x w := by
  have hI := (eq_of_beq (andR (andR (andR hv)))).symm
  have hR := andL (andR hv)
  have hG := andL (andR (andR hv))
  clear hv
  rcases Bool.eq_false_or_eq_true (decide (x.to ≥ 0)) with k1 | k1
  · rcases Bool.eq_false_or_eq_true (decide (x.to < 16)) with k2 | k2
    · have e : vP 2 0 0 0 wi false x.to 0 0 0 im = true := by
        show vP2 0 0 0 wi false x.to 0 0 0 im = true
        simp_all [vP2]
      exact u2_0 x wi ds im hc (csA (csI' hj (csT' k1 (csT' k2 (csT' e csN'))))) w hL
    · have e : vP 2 0 0 0 wi false x.to 0 0 0 im = false := by
        show vP2 0 0 0 wi false x.to 0 0 0 im = false
        simp_all [vP2] <;> (try (intros; first | omega | (exfalso; omega)))
      have q : eqD (xA 2 0 0 0 wi false x.to 0 0 0 im) (xA 2 0 0 0 wi false ds 0 0 0 im) = false := by
        simp_all [vP2]
        try omega
      exact u2_1 x wi ds im hc (csA (csI' hj (csT' k1 (csF' k2 (csF' q (csT' (eF e).1 (csT' (eF e).2.1 (csT' (eF e).2.2 csN')))))))) w hL
  · have e : vP 2 0 0 0 wi false x.to 0 0 0 im = false := by
      show vP2 0 0 0 wi false x.to 0 0 0 im = false
      simp_all [vP2] <;> (try (intros; first | omega | (exfalso; omega)))
    have q : eqD (xA 2 0 0 0 wi false x.to 0 0 0 im) (xA 2 0 0 0 wi false ds 0 0 0 im) = false := by
      simp_all [vP2]
      try omega
    exact u2_2 x wi ds im hc (csA (csI' hj (csF' k1 (csF' q (csT' (eF e).1 (csT' (eF e).2.1 (csT' (eF e).2.2 csN'))))))) w hL
theorem law2_1 (wi : Bool) (ds : Int) (im : Int) (hc : Cu x (xA 2 0 0 0 wi false ds 0 0 0 im)) (hv : vP2 0 0 0 wi false ds 0 0 0 im = true) (hj : Int.tmod x.wh 6 = 1) (w : World) (hL : Laid h12 w) : Lw x w := by
  have hI := (eq_of_beq (andR (andR (andR hv)))).symm
  have hR := andL (andR hv)
  have hG := andL (andR (andR hv))
  clear hv
  rcases Bool.eq_false_or_eq_true (decide (x.to ≥ 0)) with k1 | k1
  · rcases Bool.eq_false_or_eq_true (decide (x.to < 16)) with k2 | k2
    · rcases Bool.eq_false_or_eq_true (eqD (xA 2 0 0 0 wi false ds x.to 0 0 im) (xA 2 0 0 0 wi false ds 0 0 0 im)) with k3 | k3
      · have e : vP 2 0 0 0 wi false ds x.to 0 0 im = true := by
          show vP2 0 0 0 wi false ds x.to 0 0 im = true
          simp_all [vP2]
        exact u2_3 x wi ds im hc (csA (csI' hj (csT' k1 (csT' k2 (csT' k3 (csT' e (csT' (eT e) csN'))))))) w hL
      · have e : vP 2 0 0 0 wi false ds x.to 0 0 im = false := by
          show vP2 0 0 0 wi false ds x.to 0 0 im = false
          simp_all [vP2]
        exact u2_4 x wi ds im hc (csA (csI' hj (csT' k1 (csT' k2 (csF' k3 (csT' (eF e).1 (csT' (eF e).2.1 (csT' (eF e).2.2 csN')))))))) w hL
    · rcases Bool.eq_false_or_eq_true (eqD (xA 2 0 0 0 wi false ds x.to 0 0 im) (xA 2 0 0 0 wi false ds 0 0 0 im)) with k4 | k4
      · have e : vP 2 0 0 0 wi false ds x.to 0 0 im = true := by
          show vP2 0 0 0 wi false ds x.to 0 0 im = true
          simp_all [vP2]
        exact u2_5 x wi ds im hc (csA (csI' hj (csT' k1 (csF' k2 (csT' k4 (csT' e (csT' (eT e) csN'))))))) w hL
      · have e : vP 2 0 0 0 wi false ds x.to 0 0 im = false := by
          show vP2 0 0 0 wi false ds x.to 0 0 im = false
          simp_all [vP2]
        exact u2_6 x wi ds im hc (csA (csI' hj (csT' k1 (csF' k2 (csF' k4 (csT' (eF e).1 (csT' (eF e).2.1 (csT' (eF e).2.2 csN')))))))) w hL
  · rcases Bool.eq_false_or_eq_true (eqD (xA 2 0 0 0 wi false ds x.to 0 0 im) (xA 2 0 0 0 wi false ds 0 0 0 im)) with k5 | k5
    · have e : vP 2 0 0 0 wi false ds x.to 0 0 im = true := by
        show vP2 0 0 0 wi false ds x.to 0 0 im = true
        simp_all [vP2]
      exact u2_7 x wi ds im hc (csA (csI' hj (csF' k1 (csT' k5 (csT' e (csT' (eT e) csN')))))) w hL
    · have e : vP 2 0 0 0 wi false ds x.to 0 0 im = false := by
        show vP2 0 0 0 wi false ds x.to 0 0 im = false
        simp_all [vP2]
      exact u2_8 x wi ds im hc (csA (csI' hj (csF' k1 (csF' k5 (csT' (eF e).1 (csT' (eF e).2.1 (csT' (eF e).2.2 csN'))))))) w hL
theorem law2_2 (wi : Bool) (ds : Int) (im : Int) (hc : Cu x (xA 2 0 0 0 wi false ds 0 0 0 im)) (hv : vP2 0 0 0 wi false ds 0 0 0 im = true) (hj : Int.tmod x.wh 6 = 2) (w : World) (hL : Laid h12 w) : Lw x w := by
  have hI := (eq_of_beq (andR (andR (andR hv)))).symm
  have hR := andL (andR hv)
  have hG := andL (andR (andR hv))
  clear hv
  rcases Bool.eq_false_or_eq_true (eqD (xA 2 0 0 x.to wi false ds 0 0 0 im) (xA 2 0 0 0 wi false ds 0 0 0 im)) with k1 | k1
  · have e : vP 2 0 0 x.to wi false ds 0 0 0 im = true := by
      show vP2 0 0 x.to wi false ds 0 0 0 im = true
      simp_all [vP2]
    exact u2_9 x wi ds im hc (csA (csI' hj (csT' k1 (csT' e (csT' (eT e) csN'))))) w hL
  · have e : vP 2 0 0 x.to wi false ds 0 0 0 im = false := by
      show vP2 0 0 x.to wi false ds 0 0 0 im = false
      simp_all [vP2]
    exact u2_10 x wi ds im hc (csA (csI' hj (csF' k1 (csT' (eF e).1 (csT' (eF e).2.1 (csT' (eF e).2.2 csN')))))) w hL
theorem law2_3 (wi : Bool) (ds : Int) (im : Int) (hc : Cu x (xA 2 0 0 0 wi false ds 0 0 0 im)) (hv : vP2 0 0 0 wi false ds 0 0 0 im = true) (hj : Int.tmod x.wh 6 = 3) (w : World) (hL : Laid h12 w) : Lw x w := by
  have hI := (eq_of_beq (andR (andR (andR hv)))).symm
  have hR := andL (andR hv)
  have hG := andL (andR (andR hv))
  clear hv
  rcases Bool.eq_false_or_eq_true (eqD (xA 2 0 x.to 0 wi false ds 0 0 0 im) (xA 2 0 0 0 wi false ds 0 0 0 im)) with k1 | k1
  · have e : vP 2 0 x.to 0 wi false ds 0 0 0 im = true := by
      show vP2 0 x.to 0 wi false ds 0 0 0 im = true
      simp_all [vP2]
    exact u2_11 x wi ds im hc (csA (csI' hj (csT' k1 (csT' e (csT' (eT e) csN'))))) w hL
  · have e : vP 2 0 x.to 0 wi false ds 0 0 0 im = false := by
      show vP2 0 x.to 0 wi false ds 0 0 0 im = false
      simp_all [vP2]
    exact u2_12 x wi ds im hc (csA (csI' hj (csF' k1 (csT' (eF e).1 (csT' (eF e).2.1 (csT' (eF e).2.2 csN')))))) w hL
theorem law2_4 (wi : Bool) (ds : Int) (im : Int) (hc : Cu x (xA 2 0 0 0 wi false ds 0 0 0 im)) (hv : vP2 0 0 0 wi false ds 0 0 0 im = true) (hj : Int.tmod x.wh 6 = 4) (w : World) (hL : Laid h12 w) : Lw x w := by
  have hI := (eq_of_beq (andR (andR (andR hv)))).symm
  have hR := andL (andR hv)
  have hG := andL (andR (andR hv))
  clear hv
  rcases Bool.eq_false_or_eq_true (eqD (xA 2 0 0 0 wi false ds 0 0 (IntKind.i32.wrap x.to) im) (xA 2 0 0 0 wi false ds 0 0 0 im)) with k1 | k1
  · have e : vP 2 0 0 0 wi false ds 0 0 (IntKind.i32.wrap x.to) im = true := by
      show vP2 0 0 0 wi false ds 0 0 (IntKind.i32.wrap x.to) im = true
      simp_all [vP2]
    exact u2_13 x wi ds im hc (csA (csI' hj (csT' k1 (csT' e (csT' (eT e) csN'))))) w hL
  · have e : vP 2 0 0 0 wi false ds 0 0 (IntKind.i32.wrap x.to) im = false := by
      show vP2 0 0 0 wi false ds 0 0 (IntKind.i32.wrap x.to) im = false
      simp_all [vP2]
    exact u2_14 x wi ds im hc (csA (csI' hj (csF' k1 (csT' (eF e).1 (csT' (eF e).2.1 (csT' (eF e).2.2 csN')))))) w hL
theorem law2_5 (wi : Bool) (ds : Int) (im : Int) (hc : Cu x (xA 2 0 0 0 wi false ds 0 0 0 im)) (hv : vP2 0 0 0 wi false ds 0 0 0 im = true) (hj : Int.tmod x.wh 6 = 5) (w : World) (hL : Laid h12 w) : Lw x w := by
  have hI := (eq_of_beq (andR (andR (andR hv)))).symm
  have hR := andL (andR hv)
  have hG := andL (andR (andR hv))
  clear hv
  rcases Bool.eq_false_or_eq_true (eqD (xA 2 0 0 0 wi false ds 0 (IntKind.i32.wrap x.to) 0 im) (xA 2 0 0 0 wi false ds 0 0 0 im)) with k1 | k1
  · have e : vP 2 0 0 0 wi false ds 0 (IntKind.i32.wrap x.to) 0 im = true := by
      show vP2 0 0 0 wi false ds 0 (IntKind.i32.wrap x.to) 0 im = true
      simp_all [vP2]
    exact u2_15 x wi ds im hc (csA (csI' hj (csT' k1 (csT' e (csT' (eT e) csN'))))) w hL
  · have e : vP 2 0 0 0 wi false ds 0 (IntKind.i32.wrap x.to) 0 im = false := by
      show vP2 0 0 0 wi false ds 0 (IntKind.i32.wrap x.to) 0 im = false
      simp_all [vP2]
    exact u2_16 x wi ds im hc (csA (csI' hj (csF' k1 (csT' (eF e).1 (csT' (eF e).2.1 (csT' (eF e).2.2 csN')))))) w hL
theorem u3_0 (wi : Bool) (ds : Int) (im : Int) (hc : Cu x (xA 3 0 0 0 wi false ds 0 0 0 im)) : Ru x [(Int.tmod x.wh 6, 0), (b2i (decide (x.to ≥ 0)), 1), (b2i (decide (x.to < 16)), 1), (b2i (vP 3 0 0 0 wi false x.to 0 0 0 im), 1)] := lf (orHook_ok (hk_cut_ok hc) hkU_ok) (ocs [(7, 58, .int .u8 0), (7, 81, .bool true), (7, 85, .bool true), (7, 101, .bool true)] []) (by kernel_rfl) (by kernel_rfl) (by kernel_rfl)
theorem u3_1 (wi : Bool) (ds : Int) (im : Int) (hc : Cu x (xA 3 0 0 0 wi false ds 0 0 0 im)) : Ru x [(Int.tmod x.wh 6, 0), (b2i (decide (x.to ≥ 0)), 1), (b2i (decide (x.to < 16)), 0), (b2i (eqD (xA 3 0 0 0 wi false x.to 0 0 0 im) (xA 3 0 0 0 wi false ds 0 0 0 im)), 0), (b2i (!vP 3 0 0 0 wi false x.to 0 0 0 im), 1), (b2i (encB 3 0 0 0 wi false x.to 0 0 0 im == ([] : List UInt8)), 1), (b2i (encE 3 0 0 0 wi false x.to 0 0 0 im == 2), 1)] := lf (orHook_ok (hk_cut_ok hc) hkU_ok) (ocs [(7, 58, .int .u8 0), (7, 81, .bool true), (7, 85, .bool false), (7, 220, .bool false), (7, 233, .bool true), (7, 237, .bool true), (7, 241, .bool true)] []) (by kernel_rfl) (by kernel_rfl) (by kernel_rfl)
theorem u3_2 (wi : Bool) (ds : Int) (im : Int) (hc : Cu x (xA 3 0 0 0 wi false ds 0 0 0 im)) : Ru x [(Int.tmod x.wh 6, 0), (b2i (decide (x.to ≥ 0)), 0), (b2i (eqD (xA 3 0 0 0 wi false x.to 0 0 0 im) (xA 3 0 0 0 wi false ds 0 0 0 im)), 0), (b2i (!vP 3 0 0 0 wi false x.to 0 0 0 im), 1), (b2i (encB 3 0 0 0 wi false x.to 0 0 0 im == ([] : List UInt8)), 1), (b2i (encE 3 0 0 0 wi false x.to 0 0 0 im == 2), 1)] := lf (orHook_ok (hk_cut_ok hc) hkU_ok) (ocs [(7, 58, .int .u8 0), (7, 81, .bool false), (7, 220, .bool false), (7, 233, .bool true), (7, 237, .bool true), (7, 241, .bool true)] []) (by kernel_rfl) (by kernel_rfl) (by kernel_rfl)
theorem u3_3 (wi : Bool) (ds : Int) (im : Int) (hc : Cu x (xA 3 0 0 0 wi false ds 0 0 0 im)) : Ru x [(Int.tmod x.wh 6, 1), (b2i (decide (x.to ≥ 0)), 1), (b2i (decide (x.to < 16)), 1), (b2i (eqD (xA 3 0 0 0 wi false ds x.to 0 0 im) (xA 3 0 0 0 wi false ds 0 0 0 im)), 1), (b2i (vP 3 0 0 0 wi false ds x.to 0 0 im), 1), (b2i (encE 3 0 0 0 wi false ds x.to 0 0 im == 0), 1)] := lf (orHook_ok (hk_cut_ok hc) hkU_ok) (ocs [(7, 58, .int .u8 1), (7, 110, .bool true), (7, 114, .bool true), (7, 220, .bool true), (7, 223, .bool true), (7, 227, .bool true)] []) (by kernel_rfl) (by kernel_rfl) (by kernel_rfl)
theorem u3_4 (wi : Bool) (ds : Int) (im : Int) (hc : Cu x (xA 3 0 0 0 wi false ds 0 0 0 im)) : Ru x [(Int.tmod x.wh 6, 1), (b2i (decide (x.to ≥ 0)), 1), (b2i (decide (x.to < 16)), 1), (b2i (eqD (xA 3 0 0 0 wi false ds x.to 0 0 im) (xA 3 0 0 0 wi false ds 0 0 0 im)), 0), (b2i (!vP 3 0 0 0 wi false ds x.to 0 0 im), 1), (b2i (encB 3 0 0 0 wi false ds x.to 0 0 im == ([] : List UInt8)), 1), (b2i (encE 3 0 0 0 wi false ds x.to 0 0 im == 2), 1)] := lf (orHook_ok (hk_cut_ok hc) hkU_ok) (ocs [(7, 58, .int .u8 1), (7, 110, .bool true), (7, 114, .bool true), (7, 220, .bool false), (7, 233, .bool true), (7, 237, .bool true), (7, 241, .bool true)] []) (by kernel_rfl) (by kernel_rfl) (by kernel_rfl)
theorem u3_5 (wi : Bool) (ds : Int) (im : Int) (hc : Cu x (xA 3 0 0 0 wi false ds 0 0 0 im)) : Ru x [(Int.tmod x.wh 6, 1), (b2i (decide (x.to ≥ 0)), 1), (b2i (decide (x.to < 16)), 0), (b2i (eqD (xA 3 0 0 0 wi false ds x.to 0 0 im) (xA 3 0 0 0 wi false ds 0 0 0 im)), 1), (b2i (vP 3 0 0 0 wi false ds x.to 0 0 im), 1), (b2i (encE 3 0 0 0 wi false ds x.to 0 0 im == 0), 1)] := lf (orHook_ok (hk_cut_ok hc) hkU_ok) (ocs [(7, 58, .int .u8 1), (7, 110, .bool true), (7, 114, .bool false), (7, 220, .bool true), (7, 223, .bool true), (7, 227, .bool true)] []) (by kernel_rfl) (by kernel_rfl) (by kernel_rfl)
theorem u3_6 (wi : Bool) (ds : Int) (im : Int) (hc : Cu x (xA 3 0 0 0 wi false ds 0 0 0 im)) : Ru x [(Int.tmod x.wh 6, 1), (b2i (decide (x.to ≥ 0)), 1), (b2i (decide (x.to < 16)), 0), (b2i (eqD (xA 3 0 0 0 wi false ds x.to 0 0 im) (xA 3 0 0 0 wi false ds 0 0 0 im)), 0), (b2i (!vP 3 0 0 0 wi false ds x.to 0 0 im), 1), (b2i (encB 3 0 0 0 wi false ds x.to 0 0 im == ([] : List UInt8)), 1), (b2i (encE 3 0 0 0 wi false ds x.to 0 0 im == 2), 1)] := lf (orHook_ok (hk_cut_ok hc) hkU_ok) (ocs [(7, 58, .int .u8 1), (7, 110, .bool true), (7, 114, .bool false), (7, 220, .bool false), (7, 233, .bool true), (7, 237, .bool true), (7, 241, .bool true)] []) (by kernel_rfl) (by kernel_rfl) (by kernel_rfl)
theorem u3_7 (wi : Bool) (ds : Int) (im : Int) (hc : Cu x (xA 3 0 0 0 wi false ds 0 0 0 im)) : Ru x [(Int.tmod x.wh 6, 1), (b2i (decide (x.to ≥ 0)), 0), (b2i (eqD (xA 3 0 0 0 wi false ds x.to 0 0 im) (xA 3 0 0 0 wi false ds 0 0 0 im)), 1), (b2i (vP 3 0 0 0 wi false ds x.to 0 0 im), 1), (b2i (encE 3 0 0 0 wi false ds x.to 0 0 im == 0), 1)] := lf (orHook_ok (hk_cut_ok hc) hkU_ok) (ocs [(7, 58, .int .u8 1), (7, 110, .bool false), (7, 220, .bool true), (7, 223, .bool true), (7, 227, .bool true)] []) (by kernel_rfl) (by kernel_rfl) (by kernel_rfl)
theorem u3_8 (wi : Bool) (ds : Int) (im : Int) (hc : Cu x (xA 3 0 0 0 wi false ds 0 0 0 im)) : Ru x [(Int.tmod x.wh 6, 1), (b2i (decide (x.to ≥ 0)), 0), (b2i (eqD (xA 3 0 0 0 wi false ds x.to 0 0 im) (xA 3 0 0 0 wi false ds 0 0 0 im)), 0), (b2i (!vP 3 0 0 0 wi false ds x.to 0 0 im), 1), (b2i (encB 3 0 0 0 wi false ds x.to 0 0 im == ([] : List UInt8)), 1), (b2i (encE 3 0 0 0 wi false ds x.to 0 0 im == 2), 1)] := lf (orHook_ok (hk_cut_ok hc) hkU_ok) (ocs [(7, 58, .int .u8 1), (7, 110, .bool false), (7, 220, .bool false), (7, 233, .bool true), (7, 237, .bool true), (7, 241, .bool true)] []) (by kernel_rfl) (by kernel_rfl) (by kernel_rfl)
theorem u3_9 (wi : Bool) (ds : Int) (im : Int) (hc : Cu x (xA 3 0 0 0 wi false ds 0 0 0 im)) : Ru x [(Int.tmod x.wh 6, 2), (b2i (eqD (xA 3 0 0 x.to wi false ds 0 0 0 im) (xA 3 0 0 0 wi false ds 0 0 0 im)), 1), (b2i (vP 3 0 0 x.to wi false ds 0 0 0 im), 1), (b2i (encE 3 0 0 x.to wi false ds 0 0 0 im == 0), 1)] := lf (orHook_ok (hk_cut_ok hc) hkU_ok) (ocs [(7, 58, .int .u8 2), (7, 220, .bool true), (7, 223, .bool true), (7, 227, .bool true)] []) (by kernel_rfl) (by kernel_rfl) (by kernel_rfl)
theorem u3_10 (wi : Bool) (ds : Int) (im : Int) (hc : Cu x (xA 3 0 0 0 wi false ds 0 0 0 im)) : Ru x [(Int.tmod x.wh 6, 2), (b2i (eqD (xA 3 0 0 x.to wi false ds 0 0 0 im) (xA 3 0 0 0 wi false ds 0 0 0 im)), 0), (b2i (!vP 3 0 0 x.to wi false ds 0 0 0 im), 1), (b2i (encB 3 0 0 x.to wi false ds 0 0 0 im == ([] : List UInt8)), 1), (b2i (encE 3 0 0 x.to wi false ds 0 0 0 im == 2), 1)] := lf (orHook_ok (hk_cut_ok hc) hkU_ok) (ocs [(7, 58, .int .u8 2), (7, 220, .bool false), (7, 233, .bool true), (7, 237, .bool true), (7, 241, .bool true)] []) (by kernel_rfl) (by kernel_rfl) (by kernel_rfl)
theorem u3_11 (wi : Bool) (ds : Int) (im : Int) (hc : Cu x (xA 3 0 0 0 wi false ds 0 0 0 im)) : Ru x [(Int.tmod x.wh 6, 3), (b2i (eqD (xA 3 0 x.to 0 wi false ds 0 0 0 im) (xA 3 0 0 0 wi false ds 0 0 0 im)), 1), (b2i (vP 3 0 x.to 0 wi false ds 0 0 0 im), 1), (b2i (encE 3 0 x.to 0 wi false ds 0 0 0 im == 0), 1)] := lf (orHook_ok (hk_cut_ok hc) hkU_ok) (ocs [(7, 58, .int .u8 3), (7, 220, .bool true), (7, 223, .bool true), (7, 227, .bool true)] []) (by kernel_rfl) (by kernel_rfl) (by kernel_rfl)
theorem u3_12 (wi : Bool) (ds : Int) (im : Int) (hc : Cu x (xA 3 0 0 0 wi false ds 0 0 0 im)) : Ru x [(Int.tmod x.wh 6, 3), (b2i (eqD (xA 3 0 x.to 0 wi false ds 0 0 0 im) (xA 3 0 0 0 wi false ds 0 0 0 im)), 0), (b2i (!vP 3 0 x.to 0 wi false ds 0 0 0 im), 1), (b2i (encB 3 0 x.to 0 wi false ds 0 0 0 im == ([] : List UInt8)), 1), (b2i (encE 3 0 x.to 0 wi false ds 0 0 0 im == 2), 1)] := lf (orHook_ok (hk_cut_ok hc) hkU_ok) (ocs [(7, 58, .int .u8 3), (7, 220, .bool false), (7, 233, .bool true), (7, 237, .bool true), (7, 241, .bool true)] []) (by kernel_rfl) (by kernel_rfl) (by kernel_rfl)
theorem u3_13 (wi : Bool) (ds : Int) (im : Int) (hc : Cu x (xA 3 0 0 0 wi false ds 0 0 0 im)) : Ru x [(Int.tmod x.wh 6, 4), (b2i (eqD (xA 3 0 0 0 wi false ds 0 0 (IntKind.i32.wrap x.to) im) (xA 3 0 0 0 wi false ds 0 0 0 im)), 1), (b2i (vP 3 0 0 0 wi false ds 0 0 (IntKind.i32.wrap x.to) im), 1), (b2i (encE 3 0 0 0 wi false ds 0 0 (IntKind.i32.wrap x.to) im == 0), 1)] := lf (orHook_ok (hk_cut_ok hc) hkU_ok) (ocs [(7, 58, .int .u8 4), (7, 220, .bool true), (7, 223, .bool true), (7, 227, .bool true)] []) (by kernel_rfl) (by kernel_rfl) (by kernel_rfl)
theorem u3_14 (wi : Bool) (ds : Int) (im : Int) (hc : Cu x (xA 3 0 0 0 wi false ds 0 0 0 im)) : Ru x [(Int.tmod x.wh 6, 4), (b2i (eqD (xA 3 0 0 0 wi false ds 0 0 (IntKind.i32.wrap x.to) im) (xA 3 0 0 0 wi false ds 0 0 0 im)), 0), (b2i (!vP 3 0 0 0 wi false ds 0 0 (IntKind.i32.wrap x.to) im), 1), (b2i (encB 3 0 0 0 wi false ds 0 0 (IntKind.i32.wrap x.to) im == ([] : List UInt8)), 1), (b2i (encE 3 0 0 0 wi false ds 0 0 (IntKind.i32.wrap x.to) im == 2), 1)] := lf (orHook_ok (hk_cut_ok hc) hkU_ok) (ocs [(7, 58, .int .u8 4), (7, 220, .bool false), (7, 233, .bool true), (7, 237, .bool true), (7, 241, .bool true)] []) (by kernel_rfl) (by kernel_rfl) (by kernel_rfl)
theorem u3_15 (wi : Bool) (ds : Int) (im : Int) (hc : Cu x (xA 3 0 0 0 wi false ds 0 0 0 im)) : Ru x [(Int.tmod x.wh 6, 5), (b2i (eqD (xA 3 0 0 0 wi false ds 0 (IntKind.i32.wrap x.to) 0 im) (xA 3 0 0 0 wi false ds 0 0 0 im)), 1), (b2i (vP 3 0 0 0 wi false ds 0 (IntKind.i32.wrap x.to) 0 im), 1), (b2i (encE 3 0 0 0 wi false ds 0 (IntKind.i32.wrap x.to) 0 im == 0), 1)] := lf (orHook_ok (hk_cut_ok hc) hkU_ok) (ocs [(7, 58, .int .u8 5), (7, 220, .bool true), (7, 223, .bool true), (7, 227, .bool true)] []) (by kernel_rfl) (by kernel_rfl) (by kernel_rfl)
theorem u3_16 (wi : Bool) (ds : Int) (im : Int) (hc : Cu x (xA 3 0 0 0 wi false ds 0 0 0 im)) : Ru x [(Int.tmod x.wh 6, 5), (b2i (eqD (xA 3 0 0 0 wi false ds 0 (IntKind.i32.wrap x.to) 0 im) (xA 3 0 0 0 wi false ds 0 0 0 im)), 0), (b2i (!vP 3 0 0 0 wi false ds 0 (IntKind.i32.wrap x.to) 0 im), 1), (b2i (encB 3 0 0 0 wi false ds 0 (IntKind.i32.wrap x.to) 0 im == ([] : List UInt8)), 1), (b2i (encE 3 0 0 0 wi false ds 0 (IntKind.i32.wrap x.to) 0 im == 2), 1)] := lf (orHook_ok (hk_cut_ok hc) hkU_ok) (ocs [(7, 58, .int .u8 5), (7, 220, .bool false), (7, 233, .bool true), (7, 237, .bool true), (7, 241, .bool true)] []) (by kernel_rfl) (by kernel_rfl) (by kernel_rfl)
theorem law3_0 (wi : Bool) (ds : Int) (im : Int) (hc : Cu x (xA 3 0 0 0 wi false ds 0 0 0 im)) (hv : vP3 0 0 0 wi false ds 0 0 0 im = true) (hj : Int.tmod x.wh 6 = 0) (w : World) (hL : Laid h12 w) : Lw x w := by
  rcases Bool.eq_false_or_eq_true (decide (x.to ≥ 0)) with k1 | k1
  · rcases Bool.eq_false_or_eq_true (decide (x.to < 16)) with k2 | k2
    · have e : vP 3 0 0 0 wi false x.to 0 0 0 im = true := by
        show vP3 0 0 0 wi false x.to 0 0 0 im = true
        simp_all [vP3]
      exact u3_0 x wi ds im hc (csA (csI' hj (csT' k1 (csT' k2 (csT' e csN'))))) w hL
    · have e : vP 3 0 0 0 wi false x.to 0 0 0 im = false := by
        show vP3 0 0 0 wi false x.to 0 0 0 im = false
        simp_all [vP3] <;> (try (intros; first | omega | (exfalso; omega)))
      have q : eqD (xA 3 0 0 0 wi false x.to 0 0 0 im) (xA 3 0 0 0 wi false ds 0 0 0 im) = false := by
        simp_all [vP3]
        try omega
      exact u3_1 x wi ds im hc (csA (csI' hj (csT' k1 (csF' k2 (csF' q (csT' (eF e).1 (csT' (eF e).2.1 (csT' (eF e).2.2 csN')))))))) w hL
  · have e : vP 3 0 0 0 wi false x.to 0 0 0 im = false := by
      show vP3 0 0 0 wi false x.to 0 0 0 im = false
      simp_all [vP3] <;> (try (intros; first | omega | (exfalso; omega)))
    have q : eqD (xA 3 0 0 0 wi false x.to 0 0 0 im) (xA 3 0 0 0 wi false ds 0 0 0 im) = false := by
      simp_all [vP3]
      try omega
    exact u3_2 x wi ds im hc (csA (csI' hj (csF' k1 (csF' q (csT' (eF e).1 (csT' (eF e).2.1 (csT' (eF e).2.2 csN'))))))) w hL
theorem law3_1 (wi : Bool) (ds : Int) (im : Int) (hc : Cu x (xA 3 0 0 0 wi false ds 0 0 0 im)) (hv : vP3 0 0 0 wi false ds 0 0 0 im = true) (hj : Int.tmod x.wh 6 = 1) (w : World) (hL : Laid h12 w) : Lw x w := by
  rcases Bool.eq_false_or_eq_true (decide (x.to ≥ 0)) with k1 | k1
  · rcases Bool.eq_false_or_eq_true (decide (x.to < 16)) with k2 | k2
    · rcases Bool.eq_false_or_eq_true (eqD (xA 3 0 0 0 wi false ds x.to 0 0 im) (xA 3 0 0 0 wi false ds 0 0 0 im)) with k3 | k3
      · have e : vP 3 0 0 0 wi false ds x.to 0 0 im = true := by
          show vP3 0 0 0 wi false ds x.to 0 0 im = true
          simp_all [vP3]
        exact u3_3 x wi ds im hc (csA (csI' hj (csT' k1 (csT' k2 (csT' k3 (csT' e (csT' (eT e) csN'))))))) w hL
      · have e : vP 3 0 0 0 wi false ds x.to 0 0 im = false := by
          show vP3 0 0 0 wi false ds x.to 0 0 im = false
          simp_all [vP3]
        exact u3_4 x wi ds im hc (csA (csI' hj (csT' k1 (csT' k2 (csF' k3 (csT' (eF e).1 (csT' (eF e).2.1 (csT' (eF e).2.2 csN')))))))) w hL
    · rcases Bool.eq_false_or_eq_true (eqD (xA 3 0 0 0 wi false ds x.to 0 0 im) (xA 3 0 0 0 wi false ds 0 0 0 im)) with k4 | k4
      · have e : vP 3 0 0 0 wi false ds x.to 0 0 im = true := by
          show vP3 0 0 0 wi false ds x.to 0 0 im = true
          simp_all [vP3]
        exact u3_5 x wi ds im hc (csA (csI' hj (csT' k1 (csF' k2 (csT' k4 (csT' e (csT' (eT e) csN'))))))) w hL
      · have e : vP 3 0 0 0 wi false ds x.to 0 0 im = false := by
          show vP3 0 0 0 wi false ds x.to 0 0 im = false
          simp_all [vP3]
        exact u3_6 x wi ds im hc (csA (csI' hj (csT' k1 (csF' k2 (csF' k4 (csT' (eF e).1 (csT' (eF e).2.1 (csT' (eF e).2.2 csN')))))))) w hL
  · rcases Bool.eq_false_or_eq_true (eqD (xA 3 0 0 0 wi false ds x.to 0 0 im) (xA 3 0 0 0 wi false ds 0 0 0 im)) with k5 | k5
    · have e : vP 3 0 0 0 wi false ds x.to 0 0 im = true := by
        show vP3 0 0 0 wi false ds x.to 0 0 im = true
        simp_all [vP3]
      exact u3_7 x wi ds im hc (csA (csI' hj (csF' k1 (csT' k5 (csT' e (csT' (eT e) csN')))))) w hL
    · have e : vP 3 0 0 0 wi false ds x.to 0 0 im = false := by
        show vP3 0 0 0 wi false ds x.to 0 0 im = false
        simp_all [vP3]
      exact u3_8 x wi ds im hc (csA (csI' hj (csF' k1 (csF' k5 (csT' (eF e).1 (csT' (eF e).2.1 (csT' (eF e).2.2 csN'))))))) w hL
theorem law3_2 (wi : Bool) (ds : Int) (im : Int) (hc : Cu x (xA 3 0 0 0 wi false ds 0 0 0 im)) (hv : vP3 0 0 0 wi false ds 0 0 0 im = true) (hj : Int.tmod x.wh 6 = 2) (w : World) (hL : Laid h12 w) : Lw x w := by
  rcases Bool.eq_false_or_eq_true (eqD (xA 3 0 0 x.to wi false ds 0 0 0 im) (xA 3 0 0 0 wi false ds 0 0 0 im)) with k1 | k1
  · have e : vP 3 0 0 x.to wi false ds 0 0 0 im = true := by
      show vP3 0 0 x.to wi false ds 0 0 0 im = true
      simp_all [vP3]
    exact u3_9 x wi ds im hc (csA (csI' hj (csT' k1 (csT' e (csT' (eT e) csN'))))) w hL
  · have e : vP 3 0 0 x.to wi false ds 0 0 0 im = false := by
      show vP3 0 0 x.to wi false ds 0 0 0 im = false
      simp_all [vP3]
    exact u3_10 x wi ds im hc (csA (csI' hj (csF' k1 (csT' (eF e).1 (csT' (eF e).2.1 (csT' (eF e).2.2 csN')))))) w hL
theorem law3_3 (wi : Bool) (ds : Int) (im : Int) (hc : Cu x (xA 3 0 0 0 wi false ds 0 0 0 im)) (hv : vP3 0 0 0 wi false ds 0 0 0 im = true) (hj : Int.tmod x.wh 6 = 3) (w : World) (hL : Laid h12 w) : Lw x w := by
  rcases Bool.eq_false_or_eq_true (eqD (xA 3 0 x.to 0 wi false ds 0 0 0 im) (xA 3 0 0 0 wi false ds 0 0 0 im)) with k1 | k1
  · have e : vP 3 0 x.to 0 wi false ds 0 0 0 im = true := by
      show vP3 0 x.to 0 wi false ds 0 0 0 im = true
      simp_all [vP3]
    exact u3_11 x wi ds im hc (csA (csI' hj (csT' k1 (csT' e (csT' (eT e) csN'))))) w hL
  · have e : vP 3 0 x.to 0 wi false ds 0 0 0 im = false := by
      show vP3 0 x.to 0 wi false ds 0 0 0 im = false
      simp_all [vP3]
    exact u3_12 x wi ds im hc (csA (csI' hj (csF' k1 (csT' (eF e).1 (csT' (eF e).2.1 (csT' (eF e).2.2 csN')))))) w hL
theorem law3_4 (wi : Bool) (ds : Int) (im : Int) (hc : Cu x (xA 3 0 0 0 wi false ds 0 0 0 im)) (hv : vP3 0 0 0 wi false ds 0 0 0 im = true) (hj : Int.tmod x.wh 6 = 4) (w : World) (hL : Laid h12 w) : Lw x w := by
  rcases Bool.eq_false_or_eq_true (eqD (xA 3 0 0 0 wi false ds 0 0 (IntKind.i32.wrap x.to) im) (xA 3 0 0 0 wi false ds 0 0 0 im)) with k1 | k1
  · have e : vP 3 0 0 0 wi false ds 0 0 (IntKind.i32.wrap x.to) im = true := by
      show vP3 0 0 0 wi false ds 0 0 (IntKind.i32.wrap x.to) im = true
      simp_all [vP3]
    exact u3_13 x wi ds im hc (csA (csI' hj (csT' k1 (csT' e (csT' (eT e) csN'))))) w hL
  · have e : vP 3 0 0 0 wi false ds 0 0 (IntKind.i32.wrap x.to) im = false := by
      show vP3 0 0 0 wi false ds 0 0 (IntKind.i32.wrap x.to) im = false
      simp_all [vP3]
    exact u3_14 x wi ds im hc (csA (csI' hj (csF' k1 (csT' (eF e).1 (csT' (eF e).2.1 (csT' (eF e).2.2 csN')))))) w hL
theorem law3_5 (wi : Bool) (ds : Int) (im : Int) (hc : Cu x (xA 3 0 0 0 wi false ds 0 0 0 im)) (hv : vP3 0 0 0 wi false ds 0 0 0 im = true) (hj : Int.tmod x.wh 6 = 5) (w : World) (hL : Laid h12 w) : Lw x w := by
  rcases Bool.eq_false_or_eq_true (eqD (xA 3 0 0 0 wi false ds 0 (IntKind.i32.wrap x.to) 0 im) (xA 3 0 0 0 wi false ds 0 0 0 im)) with k1 | k1
  · have e : vP 3 0 0 0 wi false ds 0 (IntKind.i32.wrap x.to) 0 im = true := by
      show vP3 0 0 0 wi false ds 0 (IntKind.i32.wrap x.to) 0 im = true
      simp_all [vP3]
    exact u3_15 x wi ds im hc (csA (csI' hj (csT' k1 (csT' e (csT' (eT e) csN'))))) w hL
  · have e : vP 3 0 0 0 wi false ds 0 (IntKind.i32.wrap x.to) 0 im = false := by
      show vP3 0 0 0 wi false ds 0 (IntKind.i32.wrap x.to) 0 im = false
      simp_all [vP3]
    exact u3_16 x wi ds im hc (csA (csI' hj (csF' k1 (csT' (eF e).1 (csT' (eF e).2.1 (csT' (eF e).2.2 csN')))))) w hL
theorem u4_0 (al : Int) (wi : Bool) (ds : Int) (sr : Int) (hc : Cu x (xA 4 al 0 0 wi false ds sr 0 0 0)) : Ru x [(Int.tmod x.wh 6, 0), (b2i (decide (x.to ≥ 0)), 1), (b2i (decide (x.to < 16)), 1), (b2i (vP 4 al 0 0 wi false x.to sr 0 0 0), 1)] := lf (orHook_ok (hk_cut_ok hc) hkU_ok) (ocs [(7, 58, .int .u8 0), (7, 81, .bool true), (7, 85, .bool true), (7, 101, .bool true)] []) (by kernel_rfl) (by kernel_rfl) (by kernel_rfl)
theorem u4_1 (al : Int) (wi : Bool) (ds : Int) (sr : Int) (hc : Cu x (xA 4 al 0 0 wi false ds sr 0 0 0)) : Ru x [(Int.tmod x.wh 6, 0), (b2i (decide (x.to ≥ 0)), 1), (b2i (decide (x.to < 16)), 0), (b2i (eqD (xA 4 al 0 0 wi false x.to sr 0 0 0) (xA 4 al 0 0 wi false ds sr 0 0 0)), 0), (b2i (!vP 4 al 0 0 wi false x.to sr 0 0 0), 1), (b2i (encB 4 al 0 0 wi false x.to sr 0 0 0 == ([] : List UInt8)), 1), (b2i (encE 4 al 0 0 wi false x.to sr 0 0 0 == 2), 1)] := lf (orHook_ok (hk_cut_ok hc) hkU_ok) (ocs [(7, 58, .int .u8 0), (7, 81, .bool true), (7, 85, .bool false), (7, 220, .bool false), (7, 233, .bool true), (7, 237, .bool true), (7, 241, .bool true)] []) (by kernel_rfl) (by kernel_rfl) (by kernel_rfl)
theorem u4_2 (al : Int) (wi : Bool) (ds : Int) (sr : Int) (hc : Cu x (xA 4 al 0 0 wi false ds sr 0 0 0)) : Ru x [(Int.tmod x.wh 6, 0), (b2i (decide (x.to ≥ 0)), 0), (b2i (eqD (xA 4 al 0 0 wi false x.to sr 0 0 0) (xA 4 al 0 0 wi false ds sr 0 0 0)), 0), (b2i (!vP 4 al 0 0 wi false x.to sr 0 0 0), 1), (b2i (encB 4 al 0 0 wi false x.to sr 0 0 0 == ([] : List UInt8)), 1), (b2i (encE 4 al 0 0 wi false x.to sr 0 0 0 == 2), 1)] := lf (orHook_ok (hk_cut_ok hc) hkU_ok) (ocs [(7, 58, .int .u8 0), (7, 81, .bool false), (7, 220, .bool false), (7, 233, .bool true), (7, 237, .bool true), (7, 241, .bool true)] []) (by kernel_rfl) (by kernel_rfl) (by kernel_rfl)
theorem u4_3 (al : Int) (wi : Bool) (ds : Int) (sr : Int) (hc : Cu x (xA 4 al 0 0 wi false ds sr 0 0 0)) : Ru x [(Int.tmod x.wh 6, 1), (b2i (decide (x.to ≥ 0)), 1), (b2i (decide (x.to < 16)), 1), (b2i (vP 4 al 0 0 wi false ds x.to 0 0 0), 1)] := lf (orHook_ok (hk_cut_ok hc) hkU_ok) (ocs [(7, 58, .int .u8 1), (7, 110, .bool true), (7, 114, .bool true), (7, 119, .bool true)] []) (by kernel_rfl) (by kernel_rfl) (by kernel_rfl)
theorem u4_4 (al : Int) (wi : Bool) (ds : Int) (sr : Int) (hc : Cu x (xA 4 al 0 0 wi false ds sr 0 0 0)) : Ru x [(Int.tmod x.wh 6, 1), (b2i (decide (x.to ≥ 0)), 1), (b2i (decide (x.to < 16)), 0), (b2i (eqD (xA 4 al 0 0 wi false ds x.to 0 0 0) (xA 4 al 0 0 wi false ds sr 0 0 0)), 0), (b2i (!vP 4 al 0 0 wi false ds x.to 0 0 0), 1), (b2i (encB 4 al 0 0 wi false ds x.to 0 0 0 == ([] : List UInt8)), 1), (b2i (encE 4 al 0 0 wi false ds x.to 0 0 0 == 2), 1)] := lf (orHook_ok (hk_cut_ok hc) hkU_ok) (ocs [(7, 58, .int .u8 1), (7, 110, .bool true), (7, 114, .bool false), (7, 220, .bool false), (7, 233, .bool true), (7, 237, .bool true), (7, 241, .bool true)] []) (by kernel_rfl) (by kernel_rfl) (by kernel_rfl)
theorem u4_5 (al : Int) (wi : Bool) (ds : Int) (sr : Int) (hc : Cu x (xA 4 al 0 0 wi false ds sr 0 0 0)) : Ru x [(Int.tmod x.wh 6, 1), (b2i (decide (x.to ≥ 0)), 0), (b2i (eqD (xA 4 al 0 0 wi false ds x.to 0 0 0) (xA 4 al 0 0 wi false ds sr 0 0 0)), 0), (b2i (!vP 4 al 0 0 wi false ds x.to 0 0 0), 1), (b2i (encB 4 al 0 0 wi false ds x.to 0 0 0 == ([] : List UInt8)), 1), (b2i (encE 4 al 0 0 wi false ds x.to 0 0 0 == 2), 1)] := lf (orHook_ok (hk_cut_ok hc) hkU_ok) (ocs [(7, 58, .int .u8 1), (7, 110, .bool false), (7, 220, .bool false), (7, 233, .bool true), (7, 237, .bool true), (7, 241, .bool true)] []) (by kernel_rfl) (by kernel_rfl) (by kernel_rfl)
theorem u4_6 (al : Int) (wi : Bool) (ds : Int) (sr : Int) (hc : Cu x (xA 4 al 0 0 wi false ds sr 0 0 0)) : Ru x [(Int.tmod x.wh 6, 2), (b2i (eqD (xA 4 al 0 x.to wi false ds sr 0 0 0) (xA 4 al 0 0 wi false ds sr 0 0 0)), 1), (b2i (vP 4 al 0 x.to wi false ds sr 0 0 0), 1), (b2i (encE 4 al 0 x.to wi false ds sr 0 0 0 == 0), 1)] := lf (orHook_ok (hk_cut_ok hc) hkU_ok) (ocs [(7, 58, .int .u8 2), (7, 220, .bool true), (7, 223, .bool true), (7, 227, .bool true)] []) (by kernel_rfl) (by kernel_rfl) (by kernel_rfl)
theorem u4_7 (al : Int) (wi : Bool) (ds : Int) (sr : Int) (hc : Cu x (xA 4 al 0 0 wi false ds sr 0 0 0)) : Ru x [(Int.tmod x.wh 6, 2), (b2i (eqD (xA 4 al 0 x.to wi false ds sr 0 0 0) (xA 4 al 0 0 wi false ds sr 0 0 0)), 0), (b2i (!vP 4 al 0 x.to wi false ds sr 0 0 0), 1), (b2i (encB 4 al 0 x.to wi false ds sr 0 0 0 == ([] : List UInt8)), 1), (b2i (encE 4 al 0 x.to wi false ds sr 0 0 0 == 2), 1)] := lf (orHook_ok (hk_cut_ok hc) hkU_ok) (ocs [(7, 58, .int .u8 2), (7, 220, .bool false), (7, 233, .bool true), (7, 237, .bool true), (7, 241, .bool true)] []) (by kernel_rfl) (by kernel_rfl) (by kernel_rfl)
theorem u4_8 (al : Int) (wi : Bool) (ds : Int) (sr : Int) (hc : Cu x (xA 4 al 0 0 wi false ds sr 0 0 0)) : Ru x [(Int.tmod x.wh 6, 3), (b2i (eqD (xA 4 al x.to 0 wi false ds sr 0 0 0) (xA 4 al 0 0 wi false ds sr 0 0 0)), 1), (b2i (vP 4 al x.to 0 wi false ds sr 0 0 0), 1), (b2i (encE 4 al x.to 0 wi false ds sr 0 0 0 == 0), 1)] := lf (orHook_ok (hk_cut_ok hc) hkU_ok) (ocs [(7, 58, .int .u8 3), (7, 220, .bool true), (7, 223, .bool true), (7, 227, .bool true)] []) (by kernel_rfl) (by kernel_rfl) (by kernel_rfl)
theorem u4_9 (al : Int) (wi : Bool) (ds : Int) (sr : Int) (hc : Cu x (xA 4 al 0 0 wi false ds sr 0 0 0)) : Ru x [(Int.tmod x.wh 6, 3), (b2i (eqD (xA 4 al x.to 0 wi false ds sr 0 0 0) (xA 4 al 0 0 wi false ds sr 0 0 0)), 0), (b2i (!vP 4 al x.to 0 wi false ds sr 0 0 0), 1), (b2i (encB 4 al x.to 0 wi false ds sr 0 0 0 == ([] : List UInt8)), 1), (b2i (encE 4 al x.to 0 wi false ds sr 0 0 0 == 2), 1)] := lf (orHook_ok (hk_cut_ok hc) hkU_ok) (ocs [(7, 58, .int .u8 3), (7, 220, .bool false), (7, 233, .bool true), (7, 237, .bool true), (7, 241, .bool true)] []) (by kernel_rfl) (by kernel_rfl) (by kernel_rfl)
theorem u4_10 (al : Int) (wi : Bool) (ds : Int) (sr : Int) (hc : Cu x (xA 4 al 0 0 wi false ds sr 0 0 0)) : Ru x [(Int.tmod x.wh 6, 4), (b2i (eqD (xA 4 al 0 0 wi false ds sr 0 (IntKind.i32.wrap x.to) 0) (xA 4 al 0 0 wi false ds sr 0 0 0)), 1), (b2i (vP 4 al 0 0 wi false ds sr 0 (IntKind.i32.wrap x.to) 0), 1), (b2i (encE 4 al 0 0 wi false ds sr 0 (IntKind.i32.wrap x.to) 0 == 0), 1)] := lf (orHook_ok (hk_cut_ok hc) hkU_ok) (ocs [(7, 58, .int .u8 4), (7, 220, .bool true), (7, 223, .bool true), (7, 227, .bool true)] []) (by kernel_rfl) (by kernel_rfl) (by kernel_rfl)
theorem u4_11 (al : Int) (wi : Bool) (ds : Int) (sr : Int) (hc : Cu x (xA 4 al 0 0 wi false ds sr 0 0 0)) : Ru x [(Int.tmod x.wh 6, 4), (b2i (eqD (xA 4 al 0 0 wi false ds sr 0 (IntKind.i32.wrap x.to) 0) (xA 4 al 0 0 wi false ds sr 0 0 0)), 0), (b2i (!vP 4 al 0 0 wi false ds sr 0 (IntKind.i32.wrap x.to) 0), 1), (b2i (encB 4 al 0 0 wi false ds sr 0 (IntKind.i32.wrap x.to) 0 == ([] : List UInt8)), 1), (b2i (encE 4 al 0 0 wi false ds sr 0 (IntKind.i32.wrap x.to) 0 == 2), 1)] := lf (orHook_ok (hk_cut_ok hc) hkU_ok) (ocs [(7, 58, .int .u8 4), (7, 220, .bool false), (7, 233, .bool true), (7, 237, .bool true), (7, 241, .bool true)] []) (by kernel_rfl) (by kernel_rfl) (by kernel_rfl)
theorem u4_12 (al : Int) (wi : Bool) (ds : Int) (sr : Int) (hc : Cu x (xA 4 al 0 0 wi false ds sr 0 0 0)) : Ru x [(Int.tmod x.wh 6, 5), (b2i (eqD (xA 4 al 0 0 wi false ds sr (IntKind.i32.wrap x.to) 0 0) (xA 4 al 0 0 wi false ds sr 0 0 0)), 1), (b2i (vP 4 al 0 0 wi false ds sr (IntKind.i32.wrap x.to) 0 0), 1), (b2i (encE 4 al 0 0 wi false ds sr (IntKind.i32.wrap x.to) 0 0 == 0), 1)] := lf (orHook_ok (hk_cut_ok hc) hkU_ok) (ocs [(7, 58, .int .u8 5), (7, 220, .bool true), (7, 223, .bool true), (7, 227, .bool true)] []) (by kernel_rfl) (by kernel_rfl) (by kernel_rfl)
theorem u4_13 (al : Int) (wi : Bool) (ds : Int) (sr : Int) (hc : Cu x (xA 4 al 0 0 wi false ds sr 0 0 0)) : Ru x [(Int.tmod x.wh 6, 5), (b2i (eqD (xA 4 al 0 0 wi false ds sr (IntKind.i32.wrap x.to) 0 0) (xA 4 al 0 0 wi false ds sr 0 0 0)), 0), (b2i (!vP 4 al 0 0 wi false ds sr (IntKind.i32.wrap x.to) 0 0), 1), (b2i (encB 4 al 0 0 wi false ds sr (IntKind.i32.wrap x.to) 0 0 == ([] : List UInt8)), 1), (b2i (encE 4 al 0 0 wi false ds sr (IntKind.i32.wrap x.to) 0 0 == 2), 1)] := lf (orHook_ok (hk_cut_ok hc) hkU_ok) (ocs [(7, 58, .int .u8 5), (7, 220, .bool false), (7, 233, .bool true), (7, 237, .bool true), (7, 241, .bool true)] []) (by kernel_rfl) (by kernel_rfl) (by kernel_rfl)
theorem law4_0 (al : Int) (wi : Bool) (ds : Int) (sr : Int) (hc : Cu x (xA 4 al 0 0 wi false ds sr 0 0 0)) (hv : vP4 al 0 0 wi false ds sr 0 0 0 = true) (hj : Int.tmod x.wh 6 = 0) (w : World) (hL : Laid h12 w) : Lw x w := by
  rcases Bool.eq_false_or_eq_true (decide (x.to ≥ 0)) with k1 | k1
  · rcases Bool.eq_false_or_eq_true (decide (x.to < 16)) with k2 | k2
    · have e : vP 4 al 0 0 wi false x.to sr 0 0 0 = true := by
        show vP4 al 0 0 wi false x.to sr 0 0 0 = true
        simp_all [vP4]
      exact u4_0 x al wi ds sr hc (csA (csI' hj (csT' k1 (csT' k2 (csT' e csN'))))) w hL
    · have e : vP 4 al 0 0 wi false x.to sr 0 0 0 = false := by
        show vP4 al 0 0 wi false x.to sr 0 0 0 = false
        simp_all [vP4] <;> (try (intros; first | omega | (exfalso; omega)))
      have q : eqD (xA 4 al 0 0 wi false x.to sr 0 0 0) (xA 4 al 0 0 wi false ds sr 0 0 0) = false := by
        simp_all [vP4]
        try omega
      exact u4_1 x al wi ds sr hc (csA (csI' hj (csT' k1 (csF' k2 (csF' q (csT' (eF e).1 (csT' (eF e).2.1 (csT' (eF e).2.2 csN')))))))) w hL
  · have e : vP 4 al 0 0 wi false x.to sr 0 0 0 = false := by
      show vP4 al 0 0 wi false x.to sr 0 0 0 = false
      simp_all [vP4] <;> (try (intros; first | omega | (exfalso; omega)))
    have q : eqD (xA 4 al 0 0 wi false x.to sr 0 0 0) (xA 4 al 0 0 wi false ds sr 0 0 0) = false := by
      simp_all [vP4]
      try omega
    exact u4_2 x al wi ds sr hc (csA (csI' hj (csF' k1 (csF' q (csT' (eF e).1 (csT' (eF e).2.1 (csT' (eF e).2.2 csN'))))))) w hL
theorem law4_1 (al : Int) (wi : Bool) (ds : Int) (sr : Int) (hc : Cu x (xA 4 al 0 0 wi false ds sr 0 0 0)) (hv : vP4 al 0 0 wi false ds sr 0 0 0 = true) (hj : Int.tmod x.wh 6 = 1) (w : World) (hL : Laid h12 w) : Lw x w := by
  rcases Bool.eq_false_or_eq_true (decide (x.to ≥ 0)) with k1 | k1
  · rcases Bool.eq_false_or_eq_true (decide (x.to < 16)) with k2 | k2
    · have e : vP 4 al 0 0 wi false ds x.to 0 0 0 = true := by
        show vP4 al 0 0 wi false ds x.to 0 0 0 = true
        simp_all [vP4]
      exact u4_3 x al wi ds sr hc (csA (csI' hj (csT' k1 (csT' k2 (csT' e csN'))))) w hL
    · have e : vP 4 al 0 0 wi false ds x.to 0 0 0 = false := by
        show vP4 al 0 0 wi false ds x.to 0 0 0 = false
        simp_all [vP4] <;> (try (intros; first | omega | (exfalso; omega)))
      have q : eqD (xA 4 al 0 0 wi false ds x.to 0 0 0) (xA 4 al 0 0 wi false ds sr 0 0 0) = false := by
        simp_all [vP4]
        try omega
      exact u4_4 x al wi ds sr hc (csA (csI' hj (csT' k1 (csF' k2 (csF' q (csT' (eF e).1 (csT' (eF e).2.1 (csT' (eF e).2.2 csN')))))))) w hL
  · have e : vP 4 al 0 0 wi false ds x.to 0 0 0 = false := by
      show vP4 al 0 0 wi false ds x.to 0 0 0 = false
      simp_all [vP4] <;> (try (intros; first | omega | (exfalso; omega)))
    have q : eqD (xA 4 al 0 0 wi false ds x.to 0 0 0) (xA 4 al 0 0 wi false ds sr 0 0 0) = false := by
      simp_all [vP4]
      try omega
    exact u4_5 x al wi ds sr hc (csA (csI' hj (csF' k1 (csF' q (csT' (eF e).1 (csT' (eF e).2.1 (csT' (eF e).2.2 csN'))))))) w hL
theorem law4_2 (al : Int) (wi : Bool) (ds : Int) (sr : Int) (hc : Cu x (xA 4 al 0 0 wi false ds sr 0 0 0)) (hv : vP4 al 0 0 wi false ds sr 0 0 0 = true) (hj : Int.tmod x.wh 6 = 2) (w : World) (hL : Laid h12 w) : Lw x w := by
  rcases Bool.eq_false_or_eq_true (eqD (xA 4 al 0 x.to wi false ds sr 0 0 0) (xA 4 al 0 0 wi false ds sr 0 0 0)) with k1 | k1
  · have e : vP 4 al 0 x.to wi false ds sr 0 0 0 = true := by
      show vP4 al 0 x.to wi false ds sr 0 0 0 = true
      simp_all [vP4]
    exact u4_6 x al wi ds sr hc (csA (csI' hj (csT' k1 (csT' e (csT' (eT e) csN'))))) w hL
  · have e : vP 4 al 0 x.to wi false ds sr 0 0 0 = false := by
      show vP4 al 0 x.to wi false ds sr 0 0 0 = false
      simp_all [vP4]
    exact u4_7 x al wi ds sr hc (csA (csI' hj (csF' k1 (csT' (eF e).1 (csT' (eF e).2.1 (csT' (eF e).2.2 csN')))))) w hL
theorem law4_3 (al : Int) (wi : Bool) (ds : Int) (sr : Int) (hc : Cu x (xA 4 al 0 0 wi false ds sr 0 0 0)) (hv : vP4 al 0 0 wi false ds sr 0 0 0 = true) (hj : Int.tmod x.wh 6 = 3) (w : World) (hL : Laid h12 w) : Lw x w := by
  rcases Bool.eq_false_or_eq_true (eqD (xA 4 al x.to 0 wi false ds sr 0 0 0) (xA 4 al 0 0 wi false ds sr 0 0 0)) with k1 | k1
  · have e : vP 4 al x.to 0 wi false ds sr 0 0 0 = true := by
      show vP4 al x.to 0 wi false ds sr 0 0 0 = true
      simp_all [vP4]
    exact u4_8 x al wi ds sr hc (csA (csI' hj (csT' k1 (csT' e (csT' (eT e) csN'))))) w hL
  · have e : vP 4 al x.to 0 wi false ds sr 0 0 0 = false := by
      show vP4 al x.to 0 wi false ds sr 0 0 0 = false
      simp_all [vP4]
    exact u4_9 x al wi ds sr hc (csA (csI' hj (csF' k1 (csT' (eF e).1 (csT' (eF e).2.1 (csT' (eF e).2.2 csN')))))) w hL
theorem law4_4 (al : Int) (wi : Bool) (ds : Int) (sr : Int) (hc : Cu x (xA 4 al 0 0 wi false ds sr 0 0 0)) (hv : vP4 al 0 0 wi false ds sr 0 0 0 = true) (hj : Int.tmod x.wh 6 = 4) (w : World) (hL : Laid h12 w) : Lw x w := by
  rcases Bool.eq_false_or_eq_true (eqD (xA 4 al 0 0 wi false ds sr 0 (IntKind.i32.wrap x.to) 0) (xA 4 al 0 0 wi false ds sr 0 0 0)) with k1 | k1
  · have e : vP 4 al 0 0 wi false ds sr 0 (IntKind.i32.wrap x.to) 0 = true := by
      show vP4 al 0 0 wi false ds sr 0 (IntKind.i32.wrap x.to) 0 = true
      simp_all [vP4]
    exact u4_10 x al wi ds sr hc (csA (csI' hj (csT' k1 (csT' e (csT' (eT e) csN'))))) w hL
  · have e : vP 4 al 0 0 wi false ds sr 0 (IntKind.i32.wrap x.to) 0 = false := by
      show vP4 al 0 0 wi false ds sr 0 (IntKind.i32.wrap x.to) 0 = false
      simp_all [vP4]
    exact u4_11 x al wi ds sr hc (csA (csI' hj (csF' k1 (csT' (eF e).1 (csT' (eF e).2.1 (csT' (eF e).2.2 csN')))))) w hL
theorem law4_5 (al : Int) (wi : Bool) (ds : Int) (sr : Int) (hc : Cu x (xA 4 al 0 0 wi false ds sr 0 0 0)) (hv : vP4 al 0 0 wi false ds sr 0 0 0 = true) (hj : Int.tmod x.wh 6 = 5) (w : World) (hL : Laid h12 w) : Lw x w := by
  rcases Bool.eq_false_or_eq_true (eqD (xA 4 al 0 0 wi false ds sr (IntKind.i32.wrap x.to) 0 0) (xA 4 al 0 0 wi false ds sr 0 0 0)) with k1 | k1
  · have e : vP 4 al 0 0 wi false ds sr (IntKind.i32.wrap x.to) 0 0 = true := by
      show vP4 al 0 0 wi false ds sr (IntKind.i32.wrap x.to) 0 0 = true
      simp_all [vP4]
    exact u4_12 x al wi ds sr hc (csA (csI' hj (csT' k1 (csT' e (csT' (eT e) csN'))))) w hL
  · have e : vP 4 al 0 0 wi false ds sr (IntKind.i32.wrap x.to) 0 0 = false := by
      show vP4 al 0 0 wi false ds sr (IntKind.i32.wrap x.to) 0 0 = false
      simp_all [vP4]
    exact u4_13 x al wi ds sr hc (csA (csI' hj (csF' k1 (csT' (eF e).1 (csT' (eF e).2.1 (csT' (eF e).2.2 csN')))))) w hL
end Go.Proofs.YtbaiokfjoglmiaaDoor.Ex
end
section
namespace Go.Proofs.YtbaiokfjoglmiaaDoor.Ex
open Go Go.RowKit
set_option linter.unusedVariables false
set_option linter.unusedSimpArgs false
set_option maxHeartbeats 0
set_option maxRecDepth 1000000
attribute [local simp] vP xA eqD eqW regS szOk ccOk aluOk shOk shiftS
variable (x : Rw)
theorem u5_0 (al : Int) (wi : Bool) (ds : Int) (im : Int) (hc : Cu x (xA 5 al 0 0 wi false ds 0 0 0 im)) : Ru x [(Int.tmod x.wh 6, 0), (b2i (decide (x.to ≥ 0)), 1), (b2i (decide (x.to < 16)), 1), (b2i (vP 5 al 0 0 wi false x.to 0 0 0 im), 1)] := lf (orHook_ok (hk_cut_ok hc) hkU_ok) (ocs [(7, 58, .int .u8 0), (7, 81, .bool true), (7, 85, .bool true), (7, 101, .bool true)] []) (by kernel_rfl) (by kernel_rfl) (by kernel_rfl)
theorem u5_1 (al : Int) (wi : Bool) (ds : Int) (im : Int) (hc : Cu x (xA 5 al 0 0 wi false ds 0 0 0 im)) : Ru x [(Int.tmod x.wh 6, 0), (b2i (decide (x.to ≥ 0)), 1), (b2i (decide (x.to < 16)), 0), (b2i (eqD (xA 5 al 0 0 wi false x.to 0 0 0 im) (xA 5 al 0 0 wi false ds 0 0 0 im)), 0), (b2i (!vP 5 al 0 0 wi false x.to 0 0 0 im), 1), (b2i (encB 5 al 0 0 wi false x.to 0 0 0 im == ([] : List UInt8)), 1), (b2i (encE 5 al 0 0 wi false x.to 0 0 0 im == 2), 1)] := lf (orHook_ok (hk_cut_ok hc) hkU_ok) (ocs [(7, 58, .int .u8 0), (7, 81, .bool true), (7, 85, .bool false), (7, 220, .bool false), (7, 233, .bool true), (7, 237, .bool true), (7, 241, .bool true)] []) (by kernel_rfl) (by kernel_rfl) (by kernel_rfl)
theorem u5_2 (al : Int) (wi : Bool) (ds : Int) (im : Int) (hc : Cu x (xA 5 al 0 0 wi false ds 0 0 0 im)) : Ru x [(Int.tmod x.wh 6, 0), (b2i (decide (x.to ≥ 0)), 0), (b2i (eqD (xA 5 al 0 0 wi false x.to 0 0 0 im) (xA 5 al 0 0 wi false ds 0 0 0 im)), 0), (b2i (!vP 5 al 0 0 wi false x.to 0 0 0 im), 1), (b2i (encB 5 al 0 0 wi false x.to 0 0 0 im == ([] : List UInt8)), 1), (b2i (encE 5 al 0 0 wi false x.to 0 0 0 im == 2), 1)] := lf (orHook_ok (hk_cut_ok hc) hkU_ok) (ocs [(7, 58, .int .u8 0), (7, 81, .bool false), (7, 220, .bool false), (7, 233, .bool true), (7, 237, .bool true), (7, 241, .bool true)] []) (by kernel_rfl) (by kernel_rfl) (by kernel_rfl)
theorem u5_3 (al : Int) (wi : Bool) (ds : Int) (im : Int) (hc : Cu x (xA 5 al 0 0 wi false ds 0 0 0 im)) : Ru x [(Int.tmod x.wh 6, 1), (b2i (decide (x.to ≥ 0)), 1), (b2i (decide (x.to < 16)), 1), (b2i (eqD (xA 5 al 0 0 wi false ds x.to 0 0 im) (xA 5 al 0 0 wi false ds 0 0 0 im)), 1), (b2i (vP 5 al 0 0 wi false ds x.to 0 0 im), 1), (b2i (encE 5 al 0 0 wi false ds x.to 0 0 im == 0), 1)] := lf (orHook_ok (hk_cut_ok hc) hkU_ok) (ocs [(7, 58, .int .u8 1), (7, 110, .bool true), (7, 114, .bool true), (7, 220, .bool true), (7, 223, .bool true), (7, 227, .bool true)] []) (by kernel_rfl) (by kernel_rfl) (by kernel_rfl)
theorem u5_4 (al : Int) (wi : Bool) (ds : Int) (im : Int) (hc : Cu x (xA 5 al 0 0 wi false ds 0 0 0 im)) : Ru x [(Int.tmod x.wh 6, 1), (b2i (decide (x.to ≥ 0)), 1), (b2i (decide (x.to < 16)), 1), (b2i (eqD (xA 5 al 0 0 wi false ds x.to 0 0 im) (xA 5 al 0 0 wi false ds 0 0 0 im)), 0), (b2i (!vP 5 al 0 0 wi false ds x.to 0 0 im), 1), (b2i (encB 5 al 0 0 wi false ds x.to 0 0 im == ([] : List UInt8)), 1), (b2i (encE 5 al 0 0 wi false ds x.to 0 0 im == 2), 1)] := lf (orHook_ok (hk_cut_ok hc) hkU_ok) (ocs [(7, 58, .int .u8 1), (7, 110, .bool true), (7, 114, .bool true), (7, 220, .bool false), (7, 233, .bool true), (7, 237, .bool true), (7, 241, .bool true)] []) (by kernel_rfl) (by kernel_rfl) (by kernel_rfl)
theorem u5_5 (al : Int) (wi : Bool) (ds : Int) (im : Int) (hc : Cu x (xA 5 al 0 0 wi false ds 0 0 0 im)) : Ru x [(Int.tmod x.wh 6, 1), (b2i (decide (x.to ≥ 0)), 1), (b2i (decide (x.to < 16)), 0), (b2i (eqD (xA 5 al 0 0 wi false ds x.to 0 0 im) (xA 5 al 0 0 wi false ds 0 0 0 im)), 1), (b2i (vP 5 al 0 0 wi false ds x.to 0 0 im), 1), (b2i (encE 5 al 0 0 wi false ds x.to 0 0 im == 0), 1)] := lf (orHook_ok (hk_cut_ok hc) hkU_ok) (ocs [(7, 58, .int .u8 1), (7, 110, .bool true), (7, 114, .bool false), (7, 220, .bool true), (7, 223, .bool true), (7, 227, .bool true)] []) (by kernel_rfl) (by kernel_rfl) (by kernel_rfl)
theorem u5_6 (al : Int) (wi : Bool) (ds : Int) (im : Int) (hc : Cu x (xA 5 al 0 0 wi false ds 0 0 0 im)) : Ru x [(Int.tmod x.wh 6, 1), (b2i (decide (x.to ≥ 0)), 1), (b2i (decide (x.to < 16)), 0), (b2i (eqD (xA 5 al 0 0 wi false ds x.to 0 0 im) (xA 5 al 0 0 wi false ds 0 0 0 im)), 0), (b2i (!vP 5 al 0 0 wi false ds x.to 0 0 im), 1), (b2i (encB 5 al 0 0 wi false ds x.to 0 0 im == ([] : List UInt8)), 1), (b2i (encE 5 al 0 0 wi false ds x.to 0 0 im == 2), 1)] := lf (orHook_ok (hk_cut_ok hc) hkU_ok) (ocs [(7, 58, .int .u8 1), (7, 110, .bool true), (7, 114, .bool false), (7, 220, .bool false), (7, 233, .bool true), (7, 237, .bool true), (7, 241, .bool true)] []) (by kernel_rfl) (by kernel_rfl) (by kernel_rfl)
theorem u5_7 (al : Int) (wi : Bool) (ds : Int) (im : Int) (hc : Cu x (xA 5 al 0 0 wi false ds 0 0 0 im)) : Ru x [(Int.tmod x.wh 6, 1), (b2i (decide (x.to ≥ 0)), 0), (b2i (eqD (xA 5 al 0 0 wi false ds x.to 0 0 im) (xA 5 al 0 0 wi false ds 0 0 0 im)), 1), (b2i (vP 5 al 0 0 wi false ds x.to 0 0 im), 1), (b2i (encE 5 al 0 0 wi false ds x.to 0 0 im == 0), 1)] := lf (orHook_ok (hk_cut_ok hc) hkU_ok) (ocs [(7, 58, .int .u8 1), (7, 110, .bool false), (7, 220, .bool true), (7, 223, .bool true), (7, 227, .bool true)] []) (by kernel_rfl) (by kernel_rfl) (by kernel_rfl)
theorem u5_8 (al : Int) (wi : Bool) (ds : Int) (im : Int) (hc : Cu x (xA 5 al 0 0 wi false ds 0 0 0 im)) : Ru x [(Int.tmod x.wh 6, 1), (b2i (decide (x.to ≥ 0)), 0), (b2i (eqD (xA 5 al 0 0 wi false ds x.to 0 0 im) (xA 5 al 0 0 wi false ds 0 0 0 im)), 0), (b2i (!vP 5 al 0 0 wi false ds x.to 0 0 im), 1), (b2i (encB 5 al 0 0 wi false ds x.to 0 0 im == ([] : List UInt8)), 1), (b2i (encE 5 al 0 0 wi false ds x.to 0 0 im == 2), 1)] := lf (orHook_ok (hk_cut_ok hc) hkU_ok) (ocs [(7, 58, .int .u8 1), (7, 110, .bool false), (7, 220, .bool false), (7, 233, .bool true), (7, 237, .bool true), (7, 241, .bool true)] []) (by kernel_rfl) (by kernel_rfl) (by kernel_rfl)
theorem u5_9 (al : Int) (wi : Bool) (ds : Int) (im : Int) (hc : Cu x (xA 5 al 0 0 wi false ds 0 0 0 im)) : Ru x [(Int.tmod x.wh 6, 2), (b2i (eqD (xA 5 al 0 x.to wi false ds 0 0 0 im) (xA 5 al 0 0 wi false ds 0 0 0 im)), 1), (b2i (vP 5 al 0 x.to wi false ds 0 0 0 im), 1), (b2i (encE 5 al 0 x.to wi false ds 0 0 0 im == 0), 1)] := lf (orHook_ok (hk_cut_ok hc) hkU_ok) (ocs [(7, 58, .int .u8 2), (7, 220, .bool true), (7, 223, .bool true), (7, 227, .bool true)] []) (by kernel_rfl) (by kernel_rfl) (by kernel_rfl)
theorem u5_10 (al : Int) (wi : Bool) (ds : Int) (im : Int) (hc : Cu x (xA 5 al 0 0 wi false ds 0 0 0 im)) : Ru x [(Int.tmod x.wh 6, 2), (b2i (eqD (xA 5 al 0 x.to wi false ds 0 0 0 im) (xA 5 al 0 0 wi false ds 0 0 0 im)), 0), (b2i (!vP 5 al 0 x.to wi false ds 0 0 0 im), 1), (b2i (encB 5 al 0 x.to wi false ds 0 0 0 im == ([] : List UInt8)), 1), (b2i (encE 5 al 0 x.to wi false ds 0 0 0 im == 2), 1)] := lf (orHook_ok (hk_cut_ok hc) hkU_ok) (ocs [(7, 58, .int .u8 2), (7, 220, .bool false), (7, 233, .bool true), (7, 237, .bool true), (7, 241, .bool true)] []) (by kernel_rfl) (by kernel_rfl) (by kernel_rfl)
theorem u5_11 (al : Int) (wi : Bool) (ds : Int) (im : Int) (hc : Cu x (xA 5 al 0 0 wi false ds 0 0 0 im)) : Ru x [(Int.tmod x.wh 6, 3), (b2i (eqD (xA 5 al x.to 0 wi false ds 0 0 0 im) (xA 5 al 0 0 wi false ds 0 0 0 im)), 1), (b2i (vP 5 al x.to 0 wi false ds 0 0 0 im), 1), (b2i (encE 5 al x.to 0 wi false ds 0 0 0 im == 0), 1)] := lf (orHook_ok (hk_cut_ok hc) hkU_ok) (ocs [(7, 58, .int .u8 3), (7, 220, .bool true), (7, 223, .bool true), (7, 227, .bool true)] []) (by kernel_rfl) (by kernel_rfl) (by kernel_rfl)
theorem u5_12 (al : Int) (wi : Bool) (ds : Int) (im : Int) (hc : Cu x (xA 5 al 0 0 wi false ds 0 0 0 im)) : Ru x [(Int.tmod x.wh 6, 3), (b2i (eqD (xA 5 al x.to 0 wi false ds 0 0 0 im) (xA 5 al 0 0 wi false ds 0 0 0 im)), 0), (b2i (!vP 5 al x.to 0 wi false ds 0 0 0 im), 1), (b2i (encB 5 al x.to 0 wi false ds 0 0 0 im == ([] : List UInt8)), 1), (b2i (encE 5 al x.to 0 wi false ds 0 0 0 im == 2), 1)] := lf (orHook_ok (hk_cut_ok hc) hkU_ok) (ocs [(7, 58, .int .u8 3), (7, 220, .bool false), (7, 233, .bool true), (7, 237, .bool true), (7, 241, .bool true)] []) (by kernel_rfl) (by kernel_rfl) (by kernel_rfl)
theorem u5_13 (al : Int) (wi : Bool) (ds : Int) (im : Int) (hc : Cu x (xA 5 al 0 0 wi false ds 0 0 0 im)) : Ru x [(Int.tmod x.wh 6, 4), (b2i (eqD (xA 5 al 0 0 wi false ds 0 0 (IntKind.i32.wrap x.to) im) (xA 5 al 0 0 wi false ds 0 0 0 im)), 1), (b2i (vP 5 al 0 0 wi false ds 0 0 (IntKind.i32.wrap x.to) im), 1), (b2i (encE 5 al 0 0 wi false ds 0 0 (IntKind.i32.wrap x.to) im == 0), 1)] := lf (orHook_ok (hk_cut_ok hc) hkU_ok) (ocs [(7, 58, .int .u8 4), (7, 220, .bool true), (7, 223, .bool true), (7, 227, .bool true)] []) (by kernel_rfl) (by kernel_rfl) (by kernel_rfl)
theorem u5_14 (al : Int) (wi : Bool) (ds : Int) (im : Int) (hc : Cu x (xA 5 al 0 0 wi false ds 0 0 0 im)) : Ru x [(Int.tmod x.wh 6, 4), (b2i (eqD (xA 5 al 0 0 wi false ds 0 0 (IntKind.i32.wrap x.to) im) (xA 5 al 0 0 wi false ds 0 0 0 im)), 0), (b2i (!vP 5 al 0 0 wi false ds 0 0 (IntKind.i32.wrap x.to) im), 1), (b2i (encB 5 al 0 0 wi false ds 0 0 (IntKind.i32.wrap x.to) im == ([] : List UInt8)), 1), (b2i (encE 5 al 0 0 wi false ds 0 0 (IntKind.i32.wrap x.to) im == 2), 1)] := lf (orHook_ok (hk_cut_ok hc) hkU_ok) (ocs [(7, 58, .int .u8 4), (7, 220, .bool false), (7, 233, .bool true), (7, 237, .bool true), (7, 241, .bool true)] []) (by kernel_rfl) (by kernel_rfl) (by kernel_rfl)
theorem u5_15 (al : Int) (wi : Bool) (ds : Int) (im : Int) (hc : Cu x (xA 5 al 0 0 wi false ds 0 0 0 im)) : Ru x [(Int.tmod x.wh 6, 5), (b2i (eqD (xA 5 al 0 0 wi false ds 0 (IntKind.i32.wrap x.to) 0 im) (xA 5 al 0 0 wi false ds 0 0 0 im)), 1), (b2i (vP 5 al 0 0 wi false ds 0 (IntKind.i32.wrap x.to) 0 im), 1), (b2i (encE 5 al 0 0 wi false ds 0 (IntKind.i32.wrap x.to) 0 im == 0), 1)] := lf (orHook_ok (hk_cut_ok hc) hkU_ok) (ocs [(7, 58, .int .u8 5), (7, 220, .bool true), (7, 223, .bool true), (7, 227, .bool true)] []) (by kernel_rfl) (by kernel_rfl) (by kernel_rfl)
theorem u5_16 (al : Int) (wi : Bool) (ds : Int) (im : Int) (hc : Cu x (xA 5 al 0 0 wi false ds 0 0 0 im)) : Ru x [(Int.tmod x.wh 6, 5), (b2i (eqD (xA 5 al 0 0 wi false ds 0 (IntKind.i32.wrap x.to) 0 im) (xA 5 al 0 0 wi false ds 0 0 0 im)), 0), (b2i (!vP 5 al 0 0 wi false ds 0 (IntKind.i32.wrap x.to) 0 im), 1), (b2i (encB 5 al 0 0 wi false ds 0 (IntKind.i32.wrap x.to) 0 im == ([] : List UInt8)), 1), (b2i (encE 5 al 0 0 wi false ds 0 (IntKind.i32.wrap x.to) 0 im == 2), 1)] := lf (orHook_ok (hk_cut_ok hc) hkU_ok) (ocs [(7, 58, .int .u8 5), (7, 220, .bool false), (7, 233, .bool true), (7, 237, .bool true), (7, 241, .bool true)] []) (by kernel_rfl) (by kernel_rfl) (by kernel_rfl)
theorem law5_0 (al : Int) (wi : Bool) (ds : Int) (im : Int) (hc : Cu x (xA 5 al 0 0 wi false ds 0 0 0 im)) (hv : vP5 al 0 0 wi false ds 0 0 0 im = true) (hj : Int.tmod x.wh 6 = 0) (w : World) (hL : Laid h12 w) : Lw x w := by
  have hI := (eq_of_beq (andR (andR (andR hv)))).symm
  have hR := andL (andR hv)
  have hG := andL (andR (andR hv))
  clear hv
  rcases Bool.eq_false_or_eq_true (decide (x.to ≥ 0)) with k1 | k1
  · rcases Bool.eq_false_or_eq_true (decide (x.to < 16)) with k2 | k2
    · have e : vP 5 al 0 0 wi false x.to 0 0 0 im = true := by
        show vP5 al 0 0 wi false x.to 0 0 0 im = true
        simp_all [vP5]
      exact u5_0 x al wi ds im hc (csA (csI' hj (csT' k1 (csT' k2 (csT' e csN'))))) w hL
    · have e : vP 5 al 0 0 wi false x.to 0 0 0 im = false := by
        show vP5 al 0 0 wi false x.to 0 0 0 im = false
        simp_all [vP5] <;> (try (intros; first | omega | (exfalso; omega)))
      have q : eqD (xA 5 al 0 0 wi false x.to 0 0 0 im) (xA 5 al 0 0 wi false ds 0 0 0 im) = false := by
        simp_all [vP5]
        try omega
      exact u5_1 x al wi ds im hc (csA (csI' hj (csT' k1 (csF' k2 (csF' q (csT' (eF e).1 (csT' (eF e).2.1 (csT' (eF e).2.2 csN')))))))) w hL
  · have e : vP 5 al 0 0 wi false x.to 0 0 0 im = false := by
      show vP5 al 0 0 wi false x.to 0 0 0 im = false
      simp_all [vP5] <;> (try (intros; first | omega | (exfalso; omega)))
    have q : eqD (xA 5 al 0 0 wi false x.to 0 0 0 im) (xA 5 al 0 0 wi false ds 0 0 0 im) = false := by
      simp_all [vP5]
      try omega
    exact u5_2 x al wi ds im hc (csA (csI' hj (csF' k1 (csF' q (csT' (eF e).1 (csT' (eF e).2.1 (csT' (eF e).2.2 csN'))))))) w hL
theorem law5_1 (al : Int) (wi : Bool) (ds : Int) (im : Int) (hc : Cu x (xA 5 al 0 0 wi false ds 0 0 0 im)) (hv : vP5 al 0 0 wi false ds 0 0 0 im = true) (hj : Int.tmod x.wh 6 = 1) (w : World) (hL : Laid h12 w) : Lw x w := by
  have hI := (eq_of_beq (andR (andR (andR hv)))).symm
  have hR := andL (andR hv)
  have hG := andL (andR (andR hv))
  clear hv
  rcases Bool.eq_false_or_eq_true (decide (x.to ≥ 0)) with k1 | k1
  · rcases Bool.eq_false_or_eq_true (decide (x.to < 16)) with k2 | k2
    · rcases Bool.eq_false_or_eq_true (eqD (xA 5 al 0 0 wi false ds x.to 0 0 im) (xA 5 al 0 0 wi false ds 0 0 0 im)) with k3 | k3
      · have e : vP 5 al 0 0 wi false ds x.to 0 0 im = true := by
          show vP5 al 0 0 wi false ds x.to 0 0 im = true
          simp_all [vP5]
        exact u5_3 x al wi ds im hc (csA (csI' hj (csT' k1 (csT' k2 (csT' k3 (csT' e (csT' (eT e) csN'))))))) w hL
      · have e : vP 5 al 0 0 wi false ds x.to 0 0 im = false := by
          show vP5 al 0 0 wi false ds x.to 0 0 im = false
          simp_all [vP5]
        exact u5_4 x al wi ds im hc (csA (csI' hj (csT' k1 (csT' k2 (csF' k3 (csT' (eF e).1 (csT' (eF e).2.1 (csT' (eF e).2.2 csN')))))))) w hL
    · rcases Bool.eq_false_or_eq_true (eqD (xA 5 al 0 0 wi false ds x.to 0 0 im) (xA 5 al 0 0 wi false ds 0 0 0 im)) with k4 | k4
      · have e : vP 5 al 0 0 wi false ds x.to 0 0 im = true := by
          show vP5 al 0 0 wi false ds x.to 0 0 im = true
          simp_all [vP5]
        exact u5_5 x al wi ds im hc (csA (csI' hj (csT' k1 (csF' k2 (csT' k4 (csT' e (csT' (eT e) csN'))))))) w hL
      · have e : vP 5 al 0 0 wi false ds x.to 0 0 im = false := by
          show vP5 al 0 0 wi false ds x.to 0 0 im = false
          simp_all [vP5]
        exact u5_6 x al wi ds im hc (csA (csI' hj (csT' k1 (csF' k2 (csF' k4 (csT' (eF e).1 (csT' (eF e).2.1 (csT' (eF e).2.2 csN')))))))) w hL
  · rcases Bool.eq_false_or_eq_true (eqD (xA 5 al 0 0 wi false ds x.to 0 0 im) (xA 5 al 0 0 wi false ds 0 0 0 im)) with k5 | k5
    · have e : vP 5 al 0 0 wi false ds x.to 0 0 im = true := by
        show vP5 al 0 0 wi false ds x.to 0 0 im = true
        simp_all [vP5]
      exact u5_7 x al wi ds im hc (csA (csI' hj (csF' k1 (csT' k5 (csT' e (csT' (eT e) csN')))))) w hL
    · have e : vP 5 al 0 0 wi false ds x.to 0 0 im = false := by
        show vP5 al 0 0 wi false ds x.to 0 0 im = false
        simp_all [vP5]
      exact u5_8 x al wi ds im hc (csA (csI' hj (csF' k1 (csF' k5 (csT' (eF e).1 (csT' (eF e).2.1 (csT' (eF e).2.2 csN'))))))) w hL
theorem law5_2 (al : Int) (wi : Bool) (ds : Int) (im : Int) (hc : Cu x (xA 5 al 0 0 wi false ds 0 0 0 im)) (hv : vP5 al 0 0 wi false ds 0 0 0 im = true) (hj : Int.tmod x.wh 6 = 2) (w : World) (hL : Laid h12 w) : Lw x w := by
  have hI := (eq_of_beq (andR (andR (andR hv)))).symm
  have hR := andL (andR hv)
  have hG := andL (andR (andR hv))
  clear hv
  rcases Bool.eq_false_or_eq_true (eqD (xA 5 al 0 x.to wi false ds 0 0 0 im) (xA 5 al 0 0 wi false ds 0 0 0 im)) with k1 | k1
  · have e : vP 5 al 0 x.to wi false ds 0 0 0 im = true := by
      show vP5 al 0 x.to wi false ds 0 0 0 im = true
      simp_all [vP5]
    exact u5_9 x al wi ds im hc (csA (csI' hj (csT' k1 (csT' e (csT' (eT e) csN'))))) w hL
  · have e : vP 5 al 0 x.to wi false ds 0 0 0 im = false := by
      show vP5 al 0 x.to wi false ds 0 0 0 im = false
      simp_all [vP5]
    exact u5_10 x al wi ds im hc (csA (csI' hj (csF' k1 (csT' (eF e).1 (csT' (eF e).2.1 (csT' (eF e).2.2 csN')))))) w hL
theorem law5_3 (al : Int) (wi : Bool) (ds : Int) (im : Int) (hc : Cu x (xA 5 al 0 0 wi false ds 0 0 0 im)) (hv : vP5 al 0 0 wi false ds 0 0 0 im = true) (hj : Int.tmod x.wh 6 = 3) (w : World) (hL : Laid h12 w) : Lw x w := by
  have hI := (eq_of_beq (andR (andR (andR hv)))).symm
  have hR := andL (andR hv)
  have hG := andL (andR (andR hv))
  clear hv
  rcases Bool.eq_false_or_eq_true (eqD (xA 5 al x.to 0 wi false ds 0 0 0 im) (xA 5 al 0 0 wi false ds 0 0 0 im)) with k1 | k1
  · have e : vP 5 al x.to 0 wi false ds 0 0 0 im = true := by
      show vP5 al x.to 0 wi false ds 0 0 0 im = true
      simp_all [vP5]
    exact u5_11 x al wi ds im hc (csA (csI' hj (csT' k1 (csT' e (csT' (eT e) csN'))))) w hL
  · have e : vP 5 al x.to 0 wi false ds 0 0 0 im = false := by
      show vP5 al x.to 0 wi false ds 0 0 0 im = false
      simp_all [vP5]
    exact u5_12 x al wi ds im hc (csA (csI' hj (csF' k1 (csT' (eF e).1 (csT' (eF e).2.1 (csT' (eF e).2.2 csN')))))) w hL
theorem law5_4 (al : Int) (wi : Bool) (ds : Int) (im : Int) (hc : Cu x (xA 5 al 0 0 wi false ds 0 0 0 im)) (hv : vP5 al 0 0 wi false ds 0 0 0 im = true) (hj : Int.tmod x.wh 6 = 4) (w : World) (hL : Laid h12 w) : Lw x w := by
  have hI := (eq_of_beq (andR (andR (andR hv)))).symm
  have hR := andL (andR hv)
  have hG := andL (andR (andR hv))
  clear hv
  rcases Bool.eq_false_or_eq_true (eqD (xA 5 al 0 0 wi false ds 0 0 (IntKind.i32.wrap x.to) im) (xA 5 al 0 0 wi false ds 0 0 0 im)) with k1 | k1
  · have e : vP 5 al 0 0 wi false ds 0 0 (IntKind.i32.wrap x.to) im = true := by
      show vP5 al 0 0 wi false ds 0 0 (IntKind.i32.wrap x.to) im = true
      simp_all [vP5]
    exact u5_13 x al wi ds im hc (csA (csI' hj (csT' k1 (csT' e (csT' (eT e) csN'))))) w hL
  · have e : vP 5 al 0 0 wi false ds 0 0 (IntKind.i32.wrap x.to) im = false := by
      show vP5 al 0 0 wi false ds 0 0 (IntKind.i32.wrap x.to) im = false
      simp_all [vP5]
    exact u5_14 x al wi ds im hc (csA (csI' hj (csF' k1 (csT' (eF e).1 (csT' (eF e).2.1 (csT' (eF e).2.2 csN')))))) w hL
theorem law5_5 (al : Int) (wi : Bool) (ds : Int) (im : Int) (hc : Cu x (xA 5 al 0 0 wi false ds 0 0 0 im)) (hv : vP5 al 0 0 wi false ds 0 0 0 im = true) (hj : Int.tmod x.wh 6 = 5) (w : World) (hL : Laid h12 w) : Lw x w := by
  have hI := (eq_of_beq (andR (andR (andR hv)))).symm
  have hR := andL (andR hv)
  have hG := andL (andR (andR hv))
  clear hv
  rcases Bool.eq_false_or_eq_true (eqD (xA 5 al 0 0 wi false ds 0 (IntKind.i32.wrap x.to) 0 im) (xA 5 al 0 0 wi false ds 0 0 0 im)) with k1 | k1
  · have e : vP 5 al 0 0 wi false ds 0 (IntKind.i32.wrap x.to) 0 im = true := by
      show vP5 al 0 0 wi false ds 0 (IntKind.i32.wrap x.to) 0 im = true
      simp_all [vP5]
    exact u5_15 x al wi ds im hc (csA (csI' hj (csT' k1 (csT' e (csT' (eT e) csN'))))) w hL
  · have e : vP 5 al 0 0 wi false ds 0 (IntKind.i32.wrap x.to) 0 im = false := by
      show vP5 al 0 0 wi false ds 0 (IntKind.i32.wrap x.to) 0 im = false
      simp_all [vP5]
    exact u5_16 x al wi ds im hc (csA (csI' hj (csF' k1 (csT' (eF e).1 (csT' (eF e).2.1 (csT' (eF e).2.2 csN')))))) w hL
theorem u6_0 (wi : Bool) (ds : Int) (sr : Int) (hc : Cu x (xA 6 0 0 0 wi false ds sr 0 0 0)) : Ru x [(Int.tmod x.wh 6, 0), (b2i (decide (x.to ≥ 0)), 1), (b2i (decide (x.to < 16)), 1), (b2i (vP 6 0 0 0 wi false x.to sr 0 0 0), 1)] := lf (orHook_ok (hk_cut_ok hc) hkU_ok) (ocs [(7, 58, .int .u8 0), (7, 81, .bool true), (7, 85, .bool true), (7, 101, .bool true)] []) (by kernel_rfl) (by kernel_rfl) (by kernel_rfl)
theorem u6_1 (wi : Bool) (ds : Int) (sr : Int) (hc : Cu x (xA 6 0 0 0 wi false ds sr 0 0 0)) : Ru x [(Int.tmod x.wh 6, 0), (b2i (decide (x.to ≥ 0)), 1), (b2i (decide (x.to < 16)), 0), (b2i (eqD (xA 6 0 0 0 wi false x.to sr 0 0 0) (xA 6 0 0 0 wi false ds sr 0 0 0)), 0), (b2i (!vP 6 0 0 0 wi false x.to sr 0 0 0), 1), (b2i (encB 6 0 0 0 wi false x.to sr 0 0 0 == ([] : List UInt8)), 1), (b2i (encE 6 0 0 0 wi false x.to sr 0 0 0 == 2), 1)] := lf (orHook_ok (hk_cut_ok hc) hkU_ok) (ocs [(7, 58, .int .u8 0), (7, 81, .bool true), (7, 85, .bool false), (7, 220, .bool false), (7, 233, .bool true), (7, 237, .bool true), (7, 241, .bool true)] []) (by kernel_rfl) (by kernel_rfl) (by kernel_rfl)
theorem u6_2 (wi : Bool) (ds : Int) (sr : Int) (hc : Cu x (xA 6 0 0 0 wi false ds sr 0 0 0)) : Ru x [(Int.tmod x.wh 6, 0), (b2i (decide (x.to ≥ 0)), 0), (b2i (eqD (xA 6 0 0 0 wi false x.to sr 0 0 0) (xA 6 0 0 0 wi false ds sr 0 0 0)), 0), (b2i (!vP 6 0 0 0 wi false x.to sr 0 0 0), 1), (b2i (encB 6 0 0 0 wi false x.to sr 0 0 0 == ([] : List UInt8)), 1), (b2i (encE 6 0 0 0 wi false x.to sr 0 0 0 == 2), 1)] := lf (orHook_ok (hk_cut_ok hc) hkU_ok) (ocs [(7, 58, .int .u8 0), (7, 81, .bool false), (7, 220, .bool false), (7, 233, .bool true), (7, 237, .bool true), (7, 241, .bool true)] []) (by kernel_rfl) (by kernel_rfl) (by kernel_rfl)
theorem u6_3 (wi : Bool) (ds : Int) (sr : Int) (hc : Cu x (xA 6 0 0 0 wi false ds sr 0 0 0)) : Ru x [(Int.tmod x.wh 6, 1), (b2i (decide (x.to ≥ 0)), 1), (b2i (decide (x.to < 16)), 1), (b2i (vP 6 0 0 0 wi false ds x.to 0 0 0), 1)] := lf (orHook_ok (hk_cut_ok hc) hkU_ok) (ocs [(7, 58, .int .u8 1), (7, 110, .bool true), (7, 114, .bool true), (7, 119, .bool true)] []) (by kernel_rfl) (by kernel_rfl) (by kernel_rfl)
theorem u6_4 (wi : Bool) (ds : Int) (sr : Int) (hc : Cu x (xA 6 0 0 0 wi false ds sr 0 0 0)) : Ru x [(Int.tmod x.wh 6, 1), (b2i (decide (x.to ≥ 0)), 1), (b2i (decide (x.to < 16)), 0), (b2i (eqD (xA 6 0 0 0 wi false ds x.to 0 0 0) (xA 6 0 0 0 wi false ds sr 0 0 0)), 0), (b2i (!vP 6 0 0 0 wi false ds x.to 0 0 0), 1), (b2i (encB 6 0 0 0 wi false ds x.to 0 0 0 == ([] : List UInt8)), 1), (b2i (encE 6 0 0 0 wi false ds x.to 0 0 0 == 2), 1)] := lf (orHook_ok (hk_cut_ok hc) hkU_ok) (ocs [(7, 58, .int .u8 1), (7, 110, .bool true), (7, 114, .bool false), (7, 220, .bool false), (7, 233, .bool true), (7, 237, .bool true), (7, 241, .bool true)] []) (by kernel_rfl) (by kernel_rfl) (by kernel_rfl)
theorem u6_5 (wi : Bool) (ds : Int) (sr : Int) (hc : Cu x (xA 6 0 0 0 wi false ds sr 0 0 0)) : Ru x [(Int.tmod x.wh 6, 1), (b2i (decide (x.to ≥ 0)), 0), (b2i (eqD (xA 6 0 0 0 wi false ds x.to 0 0 0) (xA 6 0 0 0 wi false ds sr 0 0 0)), 0), (b2i (!vP 6 0 0 0 wi false ds x.to 0 0 0), 1), (b2i (encB 6 0 0 0 wi false ds x.to 0 0 0 == ([] : List UInt8)), 1), (b2i (encE 6 0 0 0 wi false ds x.to 0 0 0 == 2), 1)] := lf (orHook_ok (hk_cut_ok hc) hkU_ok) (ocs [(7, 58, .int .u8 1), (7, 110, .bool false), (7, 220, .bool false), (7, 233, .bool true), (7, 237, .bool true), (7, 241, .bool true)] []) (by kernel_rfl) (by kernel_rfl) (by kernel_rfl)
theorem u6_6 (wi : Bool) (ds : Int) (sr : Int) (hc : Cu x (xA 6 0 0 0 wi false ds sr 0 0 0)) : Ru x [(Int.tmod x.wh 6, 2), (b2i (eqD (xA 6 0 0 x.to wi false ds sr 0 0 0) (xA 6 0 0 0 wi false ds sr 0 0 0)), 1), (b2i (vP 6 0 0 x.to wi false ds sr 0 0 0), 1), (b2i (encE 6 0 0 x.to wi false ds sr 0 0 0 == 0), 1)] := lf (orHook_ok (hk_cut_ok hc) hkU_ok) (ocs [(7, 58, .int .u8 2), (7, 220, .bool true), (7, 223, .bool true), (7, 227, .bool true)] []) (by kernel_rfl) (by kernel_rfl) (by kernel_rfl)
theorem u6_7 (wi : Bool) (ds : Int) (sr : Int) (hc : Cu x (xA 6 0 0 0 wi false ds sr 0 0 0)) : Ru x [(Int.tmod x.wh 6, 2), (b2i (eqD (xA 6 0 0 x.to wi false ds sr 0 0 0) (xA 6 0 0 0 wi false ds sr 0 0 0)), 0), (b2i (!vP 6 0 0 x.to wi false ds sr 0 0 0), 1), (b2i (encB 6 0 0 x.to wi false ds sr 0 0 0 == ([] : List UInt8)), 1), (b2i (encE 6 0 0 x.to wi false ds sr 0 0 0 == 2), 1)] := lf (orHook_ok (hk_cut_ok hc) hkU_ok) (ocs [(7, 58, .int .u8 2), (7, 220, .bool false), (7, 233, .bool true), (7, 237, .bool true), (7, 241, .bool true)] []) (by kernel_rfl) (by kernel_rfl) (by kernel_rfl)
theorem u6_8 (wi : Bool) (ds : Int) (sr : Int) (hc : Cu x (xA 6 0 0 0 wi false ds sr 0 0 0)) : Ru x [(Int.tmod x.wh 6, 3), (b2i (eqD (xA 6 0 x.to 0 wi false ds sr 0 0 0) (xA 6 0 0 0 wi false ds sr 0 0 0)), 1), (b2i (vP 6 0 x.to 0 wi false ds sr 0 0 0), 1), (b2i (encE 6 0 x.to 0 wi false ds sr 0 0 0 == 0), 1)] := lf (orHook_ok (hk_cut_ok hc) hkU_ok) (ocs [(7, 58, .int .u8 3), (7, 220, .bool true), (7, 223, .bool true), (7, 227, .bool true)] []) (by kernel_rfl) (by kernel_rfl) (by kernel_rfl)
theorem u6_9 (wi : Bool) (ds : Int) (sr : Int) (hc : Cu x (xA 6 0 0 0 wi false ds sr 0 0 0)) : Ru x [(Int.tmod x.wh 6, 3), (b2i (eqD (xA 6 0 x.to 0 wi false ds sr 0 0 0) (xA 6 0 0 0 wi false ds sr 0 0 0)), 0), (b2i (!vP 6 0 x.to 0 wi false ds sr 0 0 0), 1), (b2i (encB 6 0 x.to 0 wi false ds sr 0 0 0 == ([] : List UInt8)), 1), (b2i (encE 6 0 x.to 0 wi false ds sr 0 0 0 == 2), 1)] := lf (orHook_ok (hk_cut_ok hc) hkU_ok) (ocs [(7, 58, .int .u8 3), (7, 220, .bool false), (7, 233, .bool true), (7, 237, .bool true), (7, 241, .bool true)] []) (by kernel_rfl) (by kernel_rfl) (by kernel_rfl)
theorem u6_10 (wi : Bool) (ds : Int) (sr : Int) (hc : Cu x (xA 6 0 0 0 wi false ds sr 0 0 0)) : Ru x [(Int.tmod x.wh 6, 4), (b2i (eqD (xA 6 0 0 0 wi false ds sr 0 (IntKind.i32.wrap x.to) 0) (xA 6 0 0 0 wi false ds sr 0 0 0)), 1), (b2i (vP 6 0 0 0 wi false ds sr 0 (IntKind.i32.wrap x.to) 0), 1), (b2i (encE 6 0 0 0 wi false ds sr 0 (IntKind.i32.wrap x.to) 0 == 0), 1)] := lf (orHook_ok (hk_cut_ok hc) hkU_ok) (ocs [(7, 58, .int .u8 4), (7, 220, .bool true), (7, 223, .bool true), (7, 227, .bool true)] []) (by kernel_rfl) (by kernel_rfl) (by kernel_rfl)
theorem u6_11 (wi : Bool) (ds : Int) (sr : Int) (hc : Cu x (xA 6 0 0 0 wi false ds sr 0 0 0)) : Ru x [(Int.tmod x.wh 6, 4), (b2i (eqD (xA 6 0 0 0 wi false ds sr 0 (IntKind.i32.wrap x.to) 0) (xA 6 0 0 0 wi false ds sr 0 0 0)), 0), (b2i (!vP 6 0 0 0 wi false ds sr 0 (IntKind.i32.wrap x.to) 0), 1), (b2i (encB 6 0 0 0 wi false ds sr 0 (IntKind.i32.wrap x.to) 0 == ([] : List UInt8)), 1), (b2i (encE 6 0 0 0 wi false ds sr 0 (IntKind.i32.wrap x.to) 0 == 2), 1)] := lf (orHook_ok (hk_cut_ok hc) hkU_ok) (ocs [(7, 58, .int .u8 4), (7, 220, .bool false), (7, 233, .bool true), (7, 237, .bool true), (7, 241, .bool true)] []) (by kernel_rfl) (by kernel_rfl) (by kernel_rfl)
theorem u6_12 (wi : Bool) (ds : Int) (sr : Int) (hc : Cu x (xA 6 0 0 0 wi false ds sr 0 0 0)) : Ru x [(Int.tmod x.wh 6, 5), (b2i (eqD (xA 6 0 0 0 wi false ds sr (IntKind.i32.wrap x.to) 0 0) (xA 6 0 0 0 wi false ds sr 0 0 0)), 1), (b2i (vP 6 0 0 0 wi false ds sr (IntKind.i32.wrap x.to) 0 0), 1), (b2i (encE 6 0 0 0 wi false ds sr (IntKind.i32.wrap x.to) 0 0 == 0), 1)] := lf (orHook_ok (hk_cut_ok hc) hkU_ok) (ocs [(7, 58, .int .u8 5), (7, 220, .bool true), (7, 223, .bool true), (7, 227, .bool true)] []) (by kernel_rfl) (by kernel_rfl) (by kernel_rfl)
theorem u6_13 (wi : Bool) (ds : Int) (sr : Int) (hc : Cu x (xA 6 0 0 0 wi false ds sr 0 0 0)) : Ru x [(Int.tmod x.wh 6, 5), (b2i (eqD (xA 6 0 0 0 wi false ds sr (IntKind.i32.wrap x.to) 0 0) (xA 6 0 0 0 wi false ds sr 0 0 0)), 0), (b2i (!vP 6 0 0 0 wi false ds sr (IntKind.i32.wrap x.to) 0 0), 1), (b2i (encB 6 0 0 0 wi false ds sr (IntKind.i32.wrap x.to) 0 0 == ([] : List UInt8)), 1), (b2i (encE 6 0 0 0 wi false ds sr (IntKind.i32.wrap x.to) 0 0 == 2), 1)] := lf (orHook_ok (hk_cut_ok hc) hkU_ok) (ocs [(7, 58, .int .u8 5), (7, 220, .bool false), (7, 233, .bool true), (7, 237, .bool true), (7, 241, .bool true)] []) (by kernel_rfl) (by kernel_rfl) (by kernel_rfl)
theorem law6_0 (wi : Bool) (ds : Int) (sr : Int) (hc : Cu x (xA 6 0 0 0 wi false ds sr 0 0 0)) (hv : vP6 0 0 0 wi false ds sr 0 0 0 = true) (hj : Int.tmod x.wh 6 = 0) (w : World) (hL : Laid h12 w) : Lw x w := by
  rcases Bool.eq_false_or_eq_true (decide (x.to ≥ 0)) with k1 | k1
  · rcases Bool.eq_false_or_eq_true (decide (x.to < 16)) with k2 | k2
    · have e : vP 6 0 0 0 wi false x.to sr 0 0 0 = true := by
        show vP6 0 0 0 wi false x.to sr 0 0 0 = true
        simp_all [vP6]
      exact u6_0 x wi ds sr hc (csA (csI' hj (csT' k1 (csT' k2 (csT' e csN'))))) w hL
    · have e : vP 6 0 0 0 wi false x.to sr 0 0 0 = false := by
        show vP6 0 0 0 wi false x.to sr 0 0 0 = false
        simp_all [vP6] <;> (try (intros; first | omega | (exfalso; omega)))
      have q : eqD (xA 6 0 0 0 wi false x.to sr 0 0 0) (xA 6 0 0 0 wi false ds sr 0 0 0) = false := by
        simp_all [vP6]
        try omega
      exact u6_1 x wi ds sr hc (csA (csI' hj (csT' k1 (csF' k2 (csF' q (csT' (eF e).1 (csT' (eF e).2.1 (csT' (eF e).2.2 csN')))))))) w hL
  · have e : vP 6 0 0 0 wi false x.to sr 0 0 0 = false := by
      show vP6 0 0 0 wi false x.to sr 0 0 0 = false
      simp_all [vP6] <;> (try (intros; first | omega | (exfalso; omega)))
    have q : eqD (xA 6 0 0 0 wi false x.to sr 0 0 0) (xA 6 0 0 0 wi false ds sr 0 0 0) = false := by
      simp_all [vP6]
      try omega
    exact u6_2 x wi ds sr hc (csA (csI' hj (csF' k1 (csF' q (csT' (eF e).1 (csT' (eF e).2.1 (csT' (eF e).2.2 csN'))))))) w hL
theorem law6_1 (wi : Bool) (ds : Int) (sr : Int) (hc : Cu x (xA 6 0 0 0 wi false ds sr 0 0 0)) (hv : vP6 0 0 0 wi false ds sr 0 0 0 = true) (hj : Int.tmod x.wh 6 = 1) (w : World) (hL : Laid h12 w) : Lw x w := by
  rcases Bool.eq_false_or_eq_true (decide (x.to ≥ 0)) with k1 | k1
  · rcases Bool.eq_false_or_eq_true (decide (x.to < 16)) with k2 | k2
    · have e : vP 6 0 0 0 wi false ds x.to 0 0 0 = true := by
        show vP6 0 0 0 wi false ds x.to 0 0 0 = true
        simp_all [vP6]
      exact u6_3 x wi ds sr hc (csA (csI' hj (csT' k1 (csT' k2 (csT' e csN'))))) w hL
    · have e : vP 6 0 0 0 wi false ds x.to 0 0 0 = false := by
        show vP6 0 0 0 wi false ds x.to 0 0 0 = false
        simp_all [vP6] <;> (try (intros; first | omega | (exfalso; omega)))
      have q : eqD (xA 6 0 0 0 wi false ds x.to 0 0 0) (xA 6 0 0 0 wi false ds sr 0 0 0) = false := by
        simp_all [vP6]
        try omega
      exact u6_4 x wi ds sr hc (csA (csI' hj (csT' k1 (csF' k2 (csF' q (csT' (eF e).1 (csT' (eF e).2.1 (csT' (eF e).2.2 csN')))))))) w hL
  · have e : vP 6 0 0 0 wi false ds x.to 0 0 0 = false := by
      show vP6 0 0 0 wi false ds x.to 0 0 0 = false
      simp_all [vP6] <;> (try (intros; first | omega | (exfalso; omega)))
    have q : eqD (xA 6 0 0 0 wi false ds x.to 0 0 0) (xA 6 0 0 0 wi false ds sr 0 0 0) = false := by
      simp_all [vP6]
      try omega
    exact u6_5 x wi ds sr hc (csA (csI' hj (csF' k1 (csF' q (csT' (eF e).1 (csT' (eF e).2.1 (csT' (eF e).2.2 csN'))))))) w hL
theorem law6_2 (wi : Bool) (ds : Int) (sr : Int) (hc : Cu x (xA 6 0 0 0 wi false ds sr 0 0 0)) (hv : vP6 0 0 0 wi false ds sr 0 0 0 = true) (hj : Int.tmod x.wh 6 = 2) (w : World) (hL : Laid h12 w) : Lw x w := by
  rcases Bool.eq_false_or_eq_true (eqD (xA 6 0 0 x.to wi false ds sr 0 0 0) (xA 6 0 0 0 wi false ds sr 0 0 0)) with k1 | k1
  · have e : vP 6 0 0 x.to wi false ds sr 0 0 0 = true := by
      show vP6 0 0 x.to wi false ds sr 0 0 0 = true
      simp_all [vP6]
    exact u6_6 x wi ds sr hc (csA (csI' hj (csT' k1 (csT' e (csT' (eT e) csN'))))) w hL
  · have e : vP 6 0 0 x.to wi false ds sr 0 0 0 = false := by
      show vP6 0 0 x.to wi false ds sr 0 0 0 = false
      simp_all [vP6]
    exact u6_7 x wi ds sr hc (csA (csI' hj (csF' k1 (csT' (eF e).1 (csT' (eF e).2.1 (csT' (eF e).2.2 csN')))))) w hL
theorem law6_3 (wi : Bool) (ds : Int) (sr : Int) (hc : Cu x (xA 6 0 0 0 wi false ds sr 0 0 0)) (hv : vP6 0 0 0 wi false ds sr 0 0 0 = true) (hj : Int.tmod x.wh 6 = 3) (w : World) (hL : Laid h12 w) : Lw x w := by
  rcases Bool.eq_false_or_eq_true (eqD (xA 6 0 x.to 0 wi false ds sr 0 0 0) (xA 6 0 0 0 wi false ds sr 0 0 0)) with k1 | k1
  · have e : vP 6 0 x.to 0 wi false ds sr 0 0 0 = true := by
      show vP6 0 x.to 0 wi false ds sr 0 0 0 = true
      simp_all [vP6]
    exact u6_8 x wi ds sr hc (csA (csI' hj (csT' k1 (csT' e (csT' (eT e) csN'))))) w hL
  · have e : vP 6 0 x.to 0 wi false ds sr 0 0 0 = false := by
      show vP6 0 x.to 0 wi false ds sr 0 0 0 = false
      simp_all [vP6]
    exact u6_9 x wi ds sr hc (csA (csI' hj (csF' k1 (csT' (eF e).1 (csT' (eF e).2.1 (csT' (eF e).2.2 csN')))))) w hL
theorem law6_4 (wi : Bool) (ds : Int) (sr : Int) (hc : Cu x (xA 6 0 0 0 wi false ds sr 0 0 0)) (hv : vP6 0 0 0 wi false ds sr 0 0 0 = true) (hj : Int.tmod x.wh 6 = 4) (w : World) (hL : Laid h12 w) : Lw x w := by
  rcases Bool.eq_false_or_eq_true (eqD (xA 6 0 0 0 wi false ds sr 0 (IntKind.i32.wrap x.to) 0) (xA 6 0 0 0 wi false ds sr 0 0 0)) with k1 | k1
  · have e : vP 6 0 0 0 wi false ds sr 0 (IntKind.i32.wrap x.to) 0 = true := by
      show vP6 0 0 0 wi false ds sr 0 (IntKind.i32.wrap x.to) 0 = true
      simp_all [vP6]
    exact u6_10 x wi ds sr hc (csA (csI' hj (csT' k1 (csT' e (csT' (eT e) csN'))))) w hL
  · have e : vP 6 0 0 0 wi false ds sr 0 (IntKind.i32.wrap x.to) 0 = false := by
      show vP6 0 0 0 wi false ds sr 0 (IntKind.i32.wrap x.to) 0 = false
      simp_all [vP6]
    exact u6_11 x wi ds sr hc (csA (csI' hj (csF' k1 (csT' (eF e).1 (csT' (eF e).2.1 (csT' (eF e).2.2 csN')))))) w hL
theorem law6_5 (wi : Bool) (ds : Int) (sr : Int) (hc : Cu x (xA 6 0 0 0 wi false ds sr 0 0 0)) (hv : vP6 0 0 0 wi false ds sr 0 0 0 = true) (hj : Int.tmod x.wh 6 = 5) (w : World) (hL : Laid h12 w) : Lw x w := by
  rcases Bool.eq_false_or_eq_true (eqD (xA 6 0 0 0 wi false ds sr (IntKind.i32.wrap x.to) 0 0) (xA 6 0 0 0 wi false ds sr 0 0 0)) with k1 | k1
  · have e : vP 6 0 0 0 wi false ds sr (IntKind.i32.wrap x.to) 0 0 = true := by
      show vP6 0 0 0 wi false ds sr (IntKind.i32.wrap x.to) 0 0 = true
      simp_all [vP6]
    exact u6_12 x wi ds sr hc (csA (csI' hj (csT' k1 (csT' e (csT' (eT e) csN'))))) w hL
  · have e : vP 6 0 0 0 wi false ds sr (IntKind.i32.wrap x.to) 0 0 = false := by
      show vP6 0 0 0 wi false ds sr (IntKind.i32.wrap x.to) 0 0 = false
      simp_all [vP6]
    exact u6_13 x wi ds sr hc (csA (csI' hj (csF' k1 (csT' (eF e).1 (csT' (eF e).2.1 (csT' (eF e).2.2 csN')))))) w hL
theorem u7_0 (wi : Bool) (ds : Int) (hc : Cu x (xA 7 0 0 0 wi false ds 0 0 0 0)) : Ru x [(Int.tmod x.wh 6, 0), (b2i (decide (x.to ≥ 0)), 1), (b2i (decide (x.to < 16)), 1), (b2i (vP 7 0 0 0 wi false x.to 0 0 0 0), 1)] := lf (orHook_ok (hk_cut_ok hc) hkU_ok) (ocs [(7, 58, .int .u8 0), (7, 81, .bool true), (7, 85, .bool true), (7, 101, .bool true)] []) (by kernel_rfl) (by kernel_rfl) (by kernel_rfl)
theorem u7_1 (wi : Bool) (ds : Int) (hc : Cu x (xA 7 0 0 0 wi false ds 0 0 0 0)) : Ru x [(Int.tmod x.wh 6, 0), (b2i (decide (x.to ≥ 0)), 1), (b2i (decide (x.to < 16)), 0), (b2i (eqD (xA 7 0 0 0 wi false x.to 0 0 0 0) (xA 7 0 0 0 wi false ds 0 0 0 0)), 0), (b2i (!vP 7 0 0 0 wi false x.to 0 0 0 0), 1), (b2i (encB 7 0 0 0 wi false x.to 0 0 0 0 == ([] : List UInt8)), 1), (b2i (encE 7 0 0 0 wi false x.to 0 0 0 0 == 2), 1)] := lf (orHook_ok (hk_cut_ok hc) hkU_ok) (ocs [(7, 58, .int .u8 0), (7, 81, .bool true), (7, 85, .bool false), (7, 220, .bool false), (7, 233, .bool true), (7, 237, .bool true), (7, 241, .bool true)] []) (by kernel_rfl) (by kernel_rfl) (by kernel_rfl)
theorem u7_2 (wi : Bool) (ds : Int) (hc : Cu x (xA 7 0 0 0 wi false ds 0 0 0 0)) : Ru x [(Int.tmod x.wh 6, 0), (b2i (decide (x.to ≥ 0)), 0), (b2i (eqD (xA 7 0 0 0 wi false x.to 0 0 0 0) (xA 7 0 0 0 wi false ds 0 0 0 0)), 0), (b2i (!vP 7 0 0 0 wi false x.to 0 0 0 0), 1), (b2i (encB 7 0 0 0 wi false x.to 0 0 0 0 == ([] : List UInt8)), 1), (b2i (encE 7 0 0 0 wi false x.to 0 0 0 0 == 2), 1)] := lf (orHook_ok (hk_cut_ok hc) hkU_ok) (ocs [(7, 58, .int .u8 0), (7, 81, .bool false), (7, 220, .bool false), (7, 233, .bool true), (7, 237, .bool true), (7, 241, .bool true)] []) (by kernel_rfl) (by kernel_rfl) (by kernel_rfl)
theorem u7_3 (wi : Bool) (ds : Int) (hc : Cu x (xA 7 0 0 0 wi false ds 0 0 0 0)) : Ru x [(Int.tmod x.wh 6, 1), (b2i (decide (x.to ≥ 0)), 1), (b2i (decide (x.to < 16)), 1), (b2i (eqD (xA 7 0 0 0 wi false ds x.to 0 0 0) (xA 7 0 0 0 wi false ds 0 0 0 0)), 1), (b2i (vP 7 0 0 0 wi false ds x.to 0 0 0), 1), (b2i (encE 7 0 0 0 wi false ds x.to 0 0 0 == 0), 1)] := lf (orHook_ok (hk_cut_ok hc) hkU_ok) (ocs [(7, 58, .int .u8 1), (7, 110, .bool true), (7, 114, .bool true), (7, 220, .bool true), (7, 223, .bool true), (7, 227, .bool true)] []) (by kernel_rfl) (by kernel_rfl) (by kernel_rfl)
theorem u7_4 (wi : Bool) (ds : Int) (hc : Cu x (xA 7 0 0 0 wi false ds 0 0 0 0)) : Ru x [(Int.tmod x.wh 6, 1), (b2i (decide (x.to ≥ 0)), 1), (b2i (decide (x.to < 16)), 1), (b2i (eqD (xA 7 0 0 0 wi false ds x.to 0 0 0) (xA 7 0 0 0 wi false ds 0 0 0 0)), 0), (b2i (!vP 7 0 0 0 wi false ds x.to 0 0 0), 1), (b2i (encB 7 0 0 0 wi false ds x.to 0 0 0 == ([] : List UInt8)), 1), (b2i (encE 7 0 0 0 wi false ds x.to 0 0 0 == 2), 1)] := lf (orHook_ok (hk_cut_ok hc) hkU_ok) (ocs [(7, 58, .int .u8 1), (7, 110, .bool true), (7, 114, .bool true), (7, 220, .bool false), (7, 233, .bool true), (7, 237, .bool true), (7, 241, .bool true)] []) (by kernel_rfl) (by kernel_rfl) (by kernel_rfl)
theorem u7_5 (wi : Bool) (ds : Int) (hc : Cu x (xA 7 0 0 0 wi false ds 0 0 0 0)) : Ru x [(Int.tmod x.wh 6, 1), (b2i (decide (x.to ≥ 0)), 1), (b2i (decide (x.to < 16)), 0), (b2i (eqD (xA 7 0 0 0 wi false ds x.to 0 0 0) (xA 7 0 0 0 wi false ds 0 0 0 0)), 1), (b2i (vP 7 0 0 0 wi false ds x.to 0 0 0), 1), (b2i (encE 7 0 0 0 wi false ds x.to 0 0 0 == 0), 1)] := lf (orHook_ok (hk_cut_ok hc) hkU_ok) (ocs [(7, 58, .int .u8 1), (7, 110, .bool true), (7, 114, .bool false), (7, 220, .bool true), (7, 223, .bool true), (7, 227, .bool true)] []) (by kernel_rfl) (by kernel_rfl) (by kernel_rfl)
theorem u7_6 (wi : Bool) (ds : Int) (hc : Cu x (xA 7 0 0 0 wi false ds 0 0 0 0)) : Ru x [(Int.tmod x.wh 6, 1), (b2i (decide (x.to ≥ 0)), 1), (b2i (decide (x.to < 16)), 0), (b2i (eqD (xA 7 0 0 0 wi false ds x.to 0 0 0) (xA 7 0 0 0 wi false ds 0 0 0 0)), 0), (b2i (!vP 7 0 0 0 wi false ds x.to 0 0 0), 1), (b2i (encB 7 0 0 0 wi false ds x.to 0 0 0 == ([] : List UInt8)), 1), (b2i (encE 7 0 0 0 wi false ds x.to 0 0 0 == 2), 1)] := lf (orHook_ok (hk_cut_ok hc) hkU_ok) (ocs [(7, 58, .int .u8 1), (7, 110, .bool true), (7, 114, .bool false), (7, 220, .bool false), (7, 233, .bool true), (7, 237, .bool true), (7, 241, .bool true)] []) (by kernel_rfl) (by kernel_rfl) (by kernel_rfl)
theorem u7_7 (wi : Bool) (ds : Int) (hc : Cu x (xA 7 0 0 0 wi false ds 0 0 0 0)) : Ru x [(Int.tmod x.wh 6, 1), (b2i (decide (x.to ≥ 0)), 0), (b2i (eqD (xA 7 0 0 0 wi false ds x.to 0 0 0) (xA 7 0 0 0 wi false ds 0 0 0 0)), 1), (b2i (vP 7 0 0 0 wi false ds x.to 0 0 0), 1), (b2i (encE 7 0 0 0 wi false ds x.to 0 0 0 == 0), 1)] := lf (orHook_ok (hk_cut_ok hc) hkU_ok) (ocs [(7, 58, .int .u8 1), (7, 110, .bool false), (7, 220, .bool true), (7, 223, .bool true), (7, 227, .bool true)] []) (by kernel_rfl) (by kernel_rfl) (by kernel_rfl)
theorem u7_8 (wi : Bool) (ds : Int) (hc : Cu x (xA 7 0 0 0 wi false ds 0 0 0 0)) : Ru x [(Int.tmod x.wh 6, 1), (b2i (decide (x.to ≥ 0)), 0), (b2i (eqD (xA 7 0 0 0 wi false ds x.to 0 0 0) (xA 7 0 0 0 wi false ds 0 0 0 0)), 0), (b2i (!vP 7 0 0 0 wi false ds x.to 0 0 0), 1), (b2i (encB 7 0 0 0 wi false ds x.to 0 0 0 == ([] : List UInt8)), 1), (b2i (encE 7 0 0 0 wi false ds x.to 0 0 0 == 2), 1)] := lf (orHook_ok (hk_cut_ok hc) hkU_ok) (ocs [(7, 58, .int .u8 1), (7, 110, .bool false), (7, 220, .bool false), (7, 233, .bool true), (7, 237, .bool true), (7, 241, .bool true)] []) (by kernel_rfl) (by kernel_rfl) (by kernel_rfl)
theorem u7_9 (wi : Bool) (ds : Int) (hc : Cu x (xA 7 0 0 0 wi false ds 0 0 0 0)) : Ru x [(Int.tmod x.wh 6, 2), (b2i (eqD (xA 7 0 0 x.to wi false ds 0 0 0 0) (xA 7 0 0 0 wi false ds 0 0 0 0)), 1), (b2i (vP 7 0 0 x.to wi false ds 0 0 0 0), 1), (b2i (encE 7 0 0 x.to wi false ds 0 0 0 0 == 0), 1)] := lf (orHook_ok (hk_cut_ok hc) hkU_ok) (ocs [(7, 58, .int .u8 2), (7, 220, .bool true), (7, 223, .bool true), (7, 227, .bool true)] []) (by kernel_rfl) (by kernel_rfl) (by kernel_rfl)
theorem u7_10 (wi : Bool) (ds : Int) (hc : Cu x (xA 7 0 0 0 wi false ds 0 0 0 0)) : Ru x [(Int.tmod x.wh 6, 2), (b2i (eqD (xA 7 0 0 x.to wi false ds 0 0 0 0) (xA 7 0 0 0 wi false ds 0 0 0 0)), 0), (b2i (!vP 7 0 0 x.to wi false ds 0 0 0 0), 1), (b2i (encB 7 0 0 x.to wi false ds 0 0 0 0 == ([] : List UInt8)), 1), (b2i (encE 7 0 0 x.to wi false ds 0 0 0 0 == 2), 1)] := lf (orHook_ok (hk_cut_ok hc) hkU_ok) (ocs [(7, 58, .int .u8 2), (7, 220, .bool false), (7, 233, .bool true), (7, 237, .bool true), (7, 241, .bool true)] []) (by kernel_rfl) (by kernel_rfl) (by kernel_rfl)
theorem u7_11 (wi : Bool) (ds : Int) (hc : Cu x (xA 7 0 0 0 wi false ds 0 0 0 0)) : Ru x [(Int.tmod x.wh 6, 3), (b2i (eqD (xA 7 0 x.to 0 wi false ds 0 0 0 0) (xA 7 0 0 0 wi false ds 0 0 0 0)), 1), (b2i (vP 7 0 x.to 0 wi false ds 0 0 0 0), 1), (b2i (encE 7 0 x.to 0 wi false ds 0 0 0 0 == 0), 1)] := lf (orHook_ok (hk_cut_ok hc) hkU_ok) (ocs [(7, 58, .int .u8 3), (7, 220, .bool true), (7, 223, .bool true), (7, 227, .bool true)] []) (by kernel_rfl) (by kernel_rfl) (by kernel_rfl)
theorem u7_12 (wi : Bool) (ds : Int) (hc : Cu x (xA 7 0 0 0 wi false ds 0 0 0 0)) : Ru x [(Int.tmod x.wh 6, 3), (b2i (eqD (xA 7 0 x.to 0 wi false ds 0 0 0 0) (xA 7 0 0 0 wi false ds 0 0 0 0)), 0), (b2i (!vP 7 0 x.to 0 wi false ds 0 0 0 0), 1), (b2i (encB 7 0 x.to 0 wi false ds 0 0 0 0 == ([] : List UInt8)), 1), (b2i (encE 7 0 x.to 0 wi false ds 0 0 0 0 == 2), 1)] := lf (orHook_ok (hk_cut_ok hc) hkU_ok) (ocs [(7, 58, .int .u8 3), (7, 220, .bool false), (7, 233, .bool true), (7, 237, .bool true), (7, 241, .bool true)] []) (by kernel_rfl) (by kernel_rfl) (by kernel_rfl)
theorem u7_13 (wi : Bool) (ds : Int) (hc : Cu x (xA 7 0 0 0 wi false ds 0 0 0 0)) : Ru x [(Int.tmod x.wh 6, 4), (b2i (eqD (xA 7 0 0 0 wi false ds 0 0 (IntKind.i32.wrap x.to) 0) (xA 7 0 0 0 wi false ds 0 0 0 0)), 1), (b2i (vP 7 0 0 0 wi false ds 0 0 (IntKind.i32.wrap x.to) 0), 1), (b2i (encE 7 0 0 0 wi false ds 0 0 (IntKind.i32.wrap x.to) 0 == 0), 1)] := lf (orHook_ok (hk_cut_ok hc) hkU_ok) (ocs [(7, 58, .int .u8 4), (7, 220, .bool true), (7, 223, .bool true), (7, 227, .bool true)] []) (by kernel_rfl) (by kernel_rfl) (by kernel_rfl)
theorem u7_14 (wi : Bool) (ds : Int) (hc : Cu x (xA 7 0 0 0 wi false ds 0 0 0 0)) : Ru x [(Int.tmod x.wh 6, 4), (b2i (eqD (xA 7 0 0 0 wi false ds 0 0 (IntKind.i32.wrap x.to) 0) (xA 7 0 0 0 wi false ds 0 0 0 0)), 0), (b2i (!vP 7 0 0 0 wi false ds 0 0 (IntKind.i32.wrap x.to) 0), 1), (b2i (encB 7 0 0 0 wi false ds 0 0 (IntKind.i32.wrap x.to) 0 == ([] : List UInt8)), 1), (b2i (encE 7 0 0 0 wi false ds 0 0 (IntKind.i32.wrap x.to) 0 == 2), 1)] := lf (orHook_ok (hk_cut_ok hc) hkU_ok) (ocs [(7, 58, .int .u8 4), (7, 220, .bool false), (7, 233, .bool true), (7, 237, .bool true), (7, 241, .bool true)] []) (by kernel_rfl) (by kernel_rfl) (by kernel_rfl)
theorem u7_15 (wi : Bool) (ds : Int) (hc : Cu x (xA 7 0 0 0 wi false ds 0 0 0 0)) : Ru x [(Int.tmod x.wh 6, 5), (b2i (eqD (xA 7 0 0 0 wi false ds 0 (IntKind.i32.wrap x.to) 0 0) (xA 7 0 0 0 wi false ds 0 0 0 0)), 1), (b2i (vP 7 0 0 0 wi false ds 0 (IntKind.i32.wrap x.to) 0 0), 1), (b2i (encE 7 0 0 0 wi false ds 0 (IntKind.i32.wrap x.to) 0 0 == 0), 1)] := lf (orHook_ok (hk_cut_ok hc) hkU_ok) (ocs [(7, 58, .int .u8 5), (7, 220, .bool true), (7, 223, .bool true), (7, 227, .bool true)] []) (by kernel_rfl) (by kernel_rfl) (by kernel_rfl)
theorem u7_16 (wi : Bool) (ds : Int) (hc : Cu x (xA 7 0 0 0 wi false ds 0 0 0 0)) : Ru x [(Int.tmod x.wh 6, 5), (b2i (eqD (xA 7 0 0 0 wi false ds 0 (IntKind.i32.wrap x.to) 0 0) (xA 7 0 0 0 wi false ds 0 0 0 0)), 0), (b2i (!vP 7 0 0 0 wi false ds 0 (IntKind.i32.wrap x.to) 0 0), 1), (b2i (encB 7 0 0 0 wi false ds 0 (IntKind.i32.wrap x.to) 0 0 == ([] : List UInt8)), 1), (b2i (encE 7 0 0 0 wi false ds 0 (IntKind.i32.wrap x.to) 0 0 == 2), 1)] := lf (orHook_ok (hk_cut_ok hc) hkU_ok) (ocs [(7, 58, .int .u8 5), (7, 220, .bool false), (7, 233, .bool true), (7, 237, .bool true), (7, 241, .bool true)] []) (by kernel_rfl) (by kernel_rfl) (by kernel_rfl)
theorem law7_0 (wi : Bool) (ds : Int) (hc : Cu x (xA 7 0 0 0 wi false ds 0 0 0 0)) (hv : vP7 0 0 0 wi false ds 0 0 0 0 = true) (hj : Int.tmod x.wh 6 = 0) (w : World) (hL : Laid h12 w) : Lw x w := by
  rcases Bool.eq_false_or_eq_true (decide (x.to ≥ 0)) with k1 | k1
  · rcases Bool.eq_false_or_eq_true (decide (x.to < 16)) with k2 | k2
    · have e : vP 7 0 0 0 wi false x.to 0 0 0 0 = true := by
        show vP7 0 0 0 wi false x.to 0 0 0 0 = true
        simp_all [vP7]
      exact u7_0 x wi ds hc (csA (csI' hj (csT' k1 (csT' k2 (csT' e csN'))))) w hL
    · have e : vP 7 0 0 0 wi false x.to 0 0 0 0 = false := by
        show vP7 0 0 0 wi false x.to 0 0 0 0 = false
        simp_all [vP7] <;> (try (intros; first | omega | (exfalso; omega)))
      have q : eqD (xA 7 0 0 0 wi false x.to 0 0 0 0) (xA 7 0 0 0 wi false ds 0 0 0 0) = false := by
        simp_all [vP7]
        try omega
      exact u7_1 x wi ds hc (csA (csI' hj (csT' k1 (csF' k2 (csF' q (csT' (eF e).1 (csT' (eF e).2.1 (csT' (eF e).2.2 csN')))))))) w hL
  · have e : vP 7 0 0 0 wi false x.to 0 0 0 0 = false := by
      show vP7 0 0 0 wi false x.to 0 0 0 0 = false
      simp_all [vP7] <;> (try (intros; first | omega | (exfalso; omega)))
    have q : eqD (xA 7 0 0 0 wi false x.to 0 0 0 0) (xA 7 0 0 0 wi false ds 0 0 0 0) = false := by
      simp_all [vP7]
      try omega
    exact u7_2 x wi ds hc (csA (csI' hj (csF' k1 (csF' q (csT' (eF e).1 (csT' (eF e).2.1 (csT' (eF e).2.2 csN'))))))) w hL
theorem law7_1 (wi : Bool) (ds : Int) (hc : Cu x (xA 7 0 0 0 wi false ds 0 0 0 0)) (hv : vP7 0 0 0 wi false ds 0 0 0 0 = true) (hj : Int.tmod x.wh 6 = 1) (w : World) (hL : Laid h12 w) : Lw x w := by
  rcases Bool.eq_false_or_eq_true (decide (x.to ≥ 0)) with k1 | k1
  · rcases Bool.eq_false_or_eq_true (decide (x.to < 16)) with k2 | k2
    · rcases Bool.eq_false_or_eq_true (eqD (xA 7 0 0 0 wi false ds x.to 0 0 0) (xA 7 0 0 0 wi false ds 0 0 0 0)) with k3 | k3
      · have e : vP 7 0 0 0 wi false ds x.to 0 0 0 = true := by
          show vP7 0 0 0 wi false ds x.to 0 0 0 = true
          simp_all [vP7]
        exact u7_3 x wi ds hc (csA (csI' hj (csT' k1 (csT' k2 (csT' k3 (csT' e (csT' (eT e) csN'))))))) w hL
      · have e : vP 7 0 0 0 wi false ds x.to 0 0 0 = false := by
          show vP7 0 0 0 wi false ds x.to 0 0 0 = false
          simp_all [vP7]
        exact u7_4 x wi ds hc (csA (csI' hj (csT' k1 (csT' k2 (csF' k3 (csT' (eF e).1 (csT' (eF e).2.1 (csT' (eF e).2.2 csN')))))))) w hL
    · rcases Bool.eq_false_or_eq_true (eqD (xA 7 0 0 0 wi false ds x.to 0 0 0) (xA 7 0 0 0 wi false ds 0 0 0 0)) with k4 | k4
      · have e : vP 7 0 0 0 wi false ds x.to 0 0 0 = true := by
          show vP7 0 0 0 wi false ds x.to 0 0 0 = true
          simp_all [vP7]
        exact u7_5 x wi ds hc (csA (csI' hj (csT' k1 (csF' k2 (csT' k4 (csT' e (csT' (eT e) csN'))))))) w hL
      · have e : vP 7 0 0 0 wi false ds x.to 0 0 0 = false := by
          show vP7 0 0 0 wi false ds x.to 0 0 0 = false
          simp_all [vP7]
        exact u7_6 x wi ds hc (csA (csI' hj (csT' k1 (csF' k2 (csF' k4 (csT' (eF e).1 (csT' (eF e).2.1 (csT' (eF e).2.2 csN')))))))) w hL
  · rcases Bool.eq_false_or_eq_true (eqD (xA 7 0 0 0 wi false ds x.to 0 0 0) (xA 7 0 0 0 wi false ds 0 0 0 0)) with k5 | k5
    · have e : vP 7 0 0 0 wi false ds x.to 0 0 0 = true := by
        show vP7 0 0 0 wi false ds x.to 0 0 0 = true
        simp_all [vP7]
      exact u7_7 x wi ds hc (csA (csI' hj (csF' k1 (csT' k5 (csT' e (csT' (eT e) csN')))))) w hL
    · have e : vP 7 0 0 0 wi false ds x.to 0 0 0 = false := by
        show vP7 0 0 0 wi false ds x.to 0 0 0 = false
        simp_all [vP7]
      exact u7_8 x wi ds hc (csA (csI' hj (csF' k1 (csF' k5 (csT' (eF e).1 (csT' (eF e).2.1 (csT' (eF e).2.2 csN'))))))) w hL
theorem law7_2 (wi : Bool) (ds : Int) (hc : Cu x (xA 7 0 0 0 wi false ds 0 0 0 0)) (hv : vP7 0 0 0 wi false ds 0 0 0 0 = true) (hj : Int.tmod x.wh 6 = 2) (w : World) (hL : Laid h12 w) : Lw x w := by
  rcases Bool.eq_false_or_eq_true (eqD (xA 7 0 0 x.to wi false ds 0 0 0 0) (xA 7 0 0 0 wi false ds 0 0 0 0)) with k1 | k1
  · have e : vP 7 0 0 x.to wi false ds 0 0 0 0 = true := by
      show vP7 0 0 x.to wi false ds 0 0 0 0 = true
      simp_all [vP7]
    exact u7_9 x wi ds hc (csA (csI' hj (csT' k1 (csT' e (csT' (eT e) csN'))))) w hL
  · have e : vP 7 0 0 x.to wi false ds 0 0 0 0 = false := by
      show vP7 0 0 x.to wi false ds 0 0 0 0 = false
      simp_all [vP7]
    exact u7_10 x wi ds hc (csA (csI' hj (csF' k1 (csT' (eF e).1 (csT' (eF e).2.1 (csT' (eF e).2.2 csN')))))) w hL
theorem law7_3 (wi : Bool) (ds : Int) (hc : Cu x (xA 7 0 0 0 wi false ds 0 0 0 0)) (hv : vP7 0 0 0 wi false ds 0 0 0 0 = true) (hj : Int.tmod x.wh 6 = 3) (w : World) (hL : Laid h12 w) : Lw x w := by
  rcases Bool.eq_false_or_eq_true (eqD (xA 7 0 x.to 0 wi false ds 0 0 0 0) (xA 7 0 0 0 wi false ds 0 0 0 0)) with k1 | k1
  · have e : vP 7 0 x.to 0 wi false ds 0 0 0 0 = true := by
      show vP7 0 x.to 0 wi false ds 0 0 0 0 = true
      simp_all [vP7]
    exact u7_11 x wi ds hc (csA (csI' hj (csT' k1 (csT' e (csT' (eT e) csN'))))) w hL
  · have e : vP 7 0 x.to 0 wi false ds 0 0 0 0 = false := by
      show vP7 0 x.to 0 wi false ds 0 0 0 0 = false
      simp_all [vP7]
    exact u7_12 x wi ds hc (csA (csI' hj (csF' k1 (csT' (eF e).1 (csT' (eF e).2.1 (csT' (eF e).2.2 csN')))))) w hL
theorem law7_4 (wi : Bool) (ds : Int) (hc : Cu x (xA 7 0 0 0 wi false ds 0 0 0 0)) (hv : vP7 0 0 0 wi false ds 0 0 0 0 = true) (hj : Int.tmod x.wh 6 = 4) (w : World) (hL : Laid h12 w) : Lw x w := by
  rcases Bool.eq_false_or_eq_true (eqD (xA 7 0 0 0 wi false ds 0 0 (IntKind.i32.wrap x.to) 0) (xA 7 0 0 0 wi false ds 0 0 0 0)) with k1 | k1
  · have e : vP 7 0 0 0 wi false ds 0 0 (IntKind.i32.wrap x.to) 0 = true := by
      show vP7 0 0 0 wi false ds 0 0 (IntKind.i32.wrap x.to) 0 = true
      simp_all [vP7]
    exact u7_13 x wi ds hc (csA (csI' hj (csT' k1 (csT' e (csT' (eT e) csN'))))) w hL
  · have e : vP 7 0 0 0 wi false ds 0 0 (IntKind.i32.wrap x.to) 0 = false := by
      show vP7 0 0 0 wi false ds 0 0 (IntKind.i32.wrap x.to) 0 = false
      simp_all [vP7]
    exact u7_14 x wi ds hc (csA (csI' hj (csF' k1 (csT' (eF e).1 (csT' (eF e).2.1 (csT' (eF e).2.2 csN')))))) w hL
theorem law7_5 (wi : Bool) (ds : Int) (hc : Cu x (xA 7 0 0 0 wi false ds 0 0 0 0)) (hv : vP7 0 0 0 wi false ds 0 0 0 0 = true) (hj : Int.tmod x.wh 6 = 5) (w : World) (hL : Laid h12 w) : Lw x w := by
  rcases Bool.eq_false_or_eq_true (eqD (xA 7 0 0 0 wi false ds 0 (IntKind.i32.wrap x.to) 0 0) (xA 7 0 0 0 wi false ds 0 0 0 0)) with k1 | k1
  · have e : vP 7 0 0 0 wi false ds 0 (IntKind.i32.wrap x.to) 0 0 = true := by
      show vP7 0 0 0 wi false ds 0 (IntKind.i32.wrap x.to) 0 0 = true
      simp_all [vP7]
    exact u7_15 x wi ds hc (csA (csI' hj (csT' k1 (csT' e (csT' (eT e) csN'))))) w hL
  · have e : vP 7 0 0 0 wi false ds 0 (IntKind.i32.wrap x.to) 0 0 = false := by
      show vP7 0 0 0 wi false ds 0 (IntKind.i32.wrap x.to) 0 0 = false
      simp_all [vP7]
    exact u7_16 x wi ds hc (csA (csI' hj (csF' k1 (csT' (eF e).1 (csT' (eF e).2.1 (csT' (eF e).2.2 csN')))))) w hL
theorem u8_0 (wi : Bool) (ds : Int) (hc : Cu x (xA 8 0 0 0 wi false ds 0 0 0 0)) : Ru x [(Int.tmod x.wh 6, 0), (b2i (decide (x.to ≥ 0)), 1), (b2i (decide (x.to < 16)), 1), (b2i (vP 8 0 0 0 wi false x.to 0 0 0 0), 1)] := lf (orHook_ok (hk_cut_ok hc) hkU_ok) (ocs [(7, 58, .int .u8 0), (7, 81, .bool true), (7, 85, .bool true), (7, 101, .bool true)] []) (by kernel_rfl) (by kernel_rfl) (by kernel_rfl)
theorem u8_1 (wi : Bool) (ds : Int) (hc : Cu x (xA 8 0 0 0 wi false ds 0 0 0 0)) : Ru x [(Int.tmod x.wh 6, 0), (b2i (decide (x.to ≥ 0)), 1), (b2i (decide (x.to < 16)), 0), (b2i (eqD (xA 8 0 0 0 wi false x.to 0 0 0 0) (xA 8 0 0 0 wi false ds 0 0 0 0)), 0), (b2i (!vP 8 0 0 0 wi false x.to 0 0 0 0), 1), (b2i (encB 8 0 0 0 wi false x.to 0 0 0 0 == ([] : List UInt8)), 1), (b2i (encE 8 0 0 0 wi false x.to 0 0 0 0 == 2), 1)] := lf (orHook_ok (hk_cut_ok hc) hkU_ok) (ocs [(7, 58, .int .u8 0), (7, 81, .bool true), (7, 85, .bool false), (7, 220, .bool false), (7, 233, .bool true), (7, 237, .bool true), (7, 241, .bool true)] []) (by kernel_rfl) (by kernel_rfl) (by kernel_rfl)
theorem u8_2 (wi : Bool) (ds : Int) (hc : Cu x (xA 8 0 0 0 wi false ds 0 0 0 0)) : Ru x [(Int.tmod x.wh 6, 0), (b2i (decide (x.to ≥ 0)), 0), (b2i (eqD (xA 8 0 0 0 wi false x.to 0 0 0 0) (xA 8 0 0 0 wi false ds 0 0 0 0)), 0), (b2i (!vP 8 0 0 0 wi false x.to 0 0 0 0), 1), (b2i (encB 8 0 0 0 wi false x.to 0 0 0 0 == ([] : List UInt8)), 1), (b2i (encE 8 0 0 0 wi false x.to 0 0 0 0 == 2), 1)] := lf (orHook_ok (hk_cut_ok hc) hkU_ok) (ocs [(7, 58, .int .u8 0), (7, 81, .bool false), (7, 220, .bool false), (7, 233, .bool true), (7, 237, .bool true), (7, 241, .bool true)] []) (by kernel_rfl) (by kernel_rfl) (by kernel_rfl)
theorem u8_3 (wi : Bool) (ds : Int) (hc : Cu x (xA 8 0 0 0 wi false ds 0 0 0 0)) : Ru x [(Int.tmod x.wh 6, 1), (b2i (decide (x.to ≥ 0)), 1), (b2i (decide (x.to < 16)), 1), (b2i (eqD (xA 8 0 0 0 wi false ds x.to 0 0 0) (xA 8 0 0 0 wi false ds 0 0 0 0)), 1), (b2i (vP 8 0 0 0 wi false ds x.to 0 0 0), 1), (b2i (encE 8 0 0 0 wi false ds x.to 0 0 0 == 0), 1)] := lf (orHook_ok (hk_cut_ok hc) hkU_ok) (ocs [(7, 58, .int .u8 1), (7, 110, .bool true), (7, 114, .bool true), (7, 220, .bool true), (7, 223, .bool true), (7, 227, .bool true)] []) (by kernel_rfl) (by kernel_rfl) (by kernel_rfl)
theorem u8_4 (wi : Bool) (ds : Int) (hc : Cu x (xA 8 0 0 0 wi false ds 0 0 0 0)) : Ru x [(Int.tmod x.wh 6, 1), (b2i (decide (x.to ≥ 0)), 1), (b2i (decide (x.to < 16)), 1), (b2i (eqD (xA 8 0 0 0 wi false ds x.to 0 0 0) (xA 8 0 0 0 wi false ds 0 0 0 0)), 0), (b2i (!vP 8 0 0 0 wi false ds x.to 0 0 0), 1), (b2i (encB 8 0 0 0 wi false ds x.to 0 0 0 == ([] : List UInt8)), 1), (b2i (encE 8 0 0 0 wi false ds x.to 0 0 0 == 2), 1)] := lf (orHook_ok (hk_cut_ok hc) hkU_ok) (ocs [(7, 58, .int .u8 1), (7, 110, .bool true), (7, 114, .bool true), (7, 220, .bool false), (7, 233, .bool true), (7, 237, .bool true), (7, 241, .bool true)] []) (by kernel_rfl) (by kernel_rfl) (by kernel_rfl)
theorem u8_5 (wi : Bool) (ds : Int) (hc : Cu x (xA 8 0 0 0 wi false ds 0 0 0 0)) : Ru x [(Int.tmod x.wh 6, 1), (b2i (decide (x.to ≥ 0)), 1), (b2i (decide (x.to < 16)), 0), (b2i (eqD (xA 8 0 0 0 wi false ds x.to 0 0 0) (xA 8 0 0 0 wi false ds 0 0 0 0)), 1), (b2i (vP 8 0 0 0 wi false ds x.to 0 0 0), 1), (b2i (encE 8 0 0 0 wi false ds x.to 0 0 0 == 0), 1)] := lf (orHook_ok (hk_cut_ok hc) hkU_ok) (ocs [(7, 58, .int .u8 1), (7, 110, .bool true), (7, 114, .bool false), (7, 220, .bool true), (7, 223, .bool true), (7, 227, .bool true)] []) (by kernel_rfl) (by kernel_rfl) (by kernel_rfl)
theorem u8_6 (wi : Bool) (ds : Int) (hc : Cu x (xA 8 0 0 0 wi false ds 0 0 0 0)) : Ru x [(Int.tmod x.wh 6, 1), (b2i (decide (x.to ≥ 0)), 1), (b2i (decide (x.to < 16)), 0), (b2i (eqD (xA 8 0 0 0 wi false ds x.to 0 0 0) (xA 8 0 0 0 wi false ds 0 0 0 0)), 0), (b2i (!vP 8 0 0 0 wi false ds x.to 0 0 0), 1), (b2i (encB 8 0 0 0 wi false ds x.to 0 0 0 == ([] : List UInt8)), 1), (b2i (encE 8 0 0 0 wi false ds x.to 0 0 0 == 2), 1)] := lf (orHook_ok (hk_cut_ok hc) hkU_ok) (ocs [(7, 58, .int .u8 1), (7, 110, .bool true), (7, 114, .bool false), (7, 220, .bool false), (7, 233, .bool true), (7, 237, .bool true), (7, 241, .bool true)] []) (by kernel_rfl) (by kernel_rfl) (by kernel_rfl)
theorem u8_7 (wi : Bool) (ds : Int) (hc : Cu x (xA 8 0 0 0 wi false ds 0 0 0 0)) : Ru x [(Int.tmod x.wh 6, 1), (b2i (decide (x.to ≥ 0)), 0), (b2i (eqD (xA 8 0 0 0 wi false ds x.to 0 0 0) (xA 8 0 0 0 wi false ds 0 0 0 0)), 1), (b2i (vP 8 0 0 0 wi false ds x.to 0 0 0), 1), (b2i (encE 8 0 0 0 wi false ds x.to 0 0 0 == 0), 1)] := lf (orHook_ok (hk_cut_ok hc) hkU_ok) (ocs [(7, 58, .int .u8 1), (7, 110, .bool false), (7, 220, .bool true), (7, 223, .bool true), (7, 227, .bool true)] []) (by kernel_rfl) (by kernel_rfl) (by kernel_rfl)
theorem u8_8 (wi : Bool) (ds : Int) (hc : Cu x (xA 8 0 0 0 wi false ds 0 0 0 0)) : Ru x [(Int.tmod x.wh 6, 1), (b2i (decide (x.to ≥ 0)), 0), (b2i (eqD (xA 8 0 0 0 wi false ds x.to 0 0 0) (xA 8 0 0 0 wi false ds 0 0 0 0)), 0), (b2i (!vP 8 0 0 0 wi false ds x.to 0 0 0), 1), (b2i (encB 8 0 0 0 wi false ds x.to 0 0 0 == ([] : List UInt8)), 1), (b2i (encE 8 0 0 0 wi false ds x.to 0 0 0 == 2), 1)] := lf (orHook_ok (hk_cut_ok hc) hkU_ok) (ocs [(7, 58, .int .u8 1), (7, 110, .bool false), (7, 220, .bool false), (7, 233, .bool true), (7, 237, .bool true), (7, 241, .bool true)] []) (by kernel_rfl) (by kernel_rfl) (by kernel_rfl)
theorem u8_9 (wi : Bool) (ds : Int) (hc : Cu x (xA 8 0 0 0 wi false ds 0 0 0 0)) : Ru x [(Int.tmod x.wh 6, 2), (b2i (eqD (xA 8 0 0 x.to wi false ds 0 0 0 0) (xA 8 0 0 0 wi false ds 0 0 0 0)), 1), (b2i (vP 8 0 0 x.to wi false ds 0 0 0 0), 1), (b2i (encE 8 0 0 x.to wi false ds 0 0 0 0 == 0), 1)] := lf (orHook_ok (hk_cut_ok hc) hkU_ok) (ocs [(7, 58, .int .u8 2), (7, 220, .bool true), (7, 223, .bool true), (7, 227, .bool true)] []) (by kernel_rfl) (by kernel_rfl) (by kernel_rfl)
theorem u8_10 (wi : Bool) (ds : Int) (hc : Cu x (xA 8 0 0 0 wi false ds 0 0 0 0)) : Ru x [(Int.tmod x.wh 6, 2), (b2i (eqD (xA 8 0 0 x.to wi false ds 0 0 0 0) (xA 8 0 0 0 wi false ds 0 0 0 0)), 0), (b2i (!vP 8 0 0 x.to wi false ds 0 0 0 0), 1), (b2i (encB 8 0 0 x.to wi false ds 0 0 0 0 == ([] : List UInt8)), 1), (b2i (encE 8 0 0 x.to wi false ds 0 0 0 0 == 2), 1)] := lf (orHook_ok (hk_cut_ok hc) hkU_ok) (ocs [(7, 58, .int .u8 2), (7, 220, .bool false), (7, 233, .bool true), (7, 237, .bool true), (7, 241, .bool true)] []) (by kernel_rfl) (by kernel_rfl) (by kernel_rfl)
theorem u8_11 (wi : Bool) (ds : Int) (hc : Cu x (xA 8 0 0 0 wi false ds 0 0 0 0)) : Ru x [(Int.tmod x.wh 6, 3), (b2i (eqD (xA 8 0 x.to 0 wi false ds 0 0 0 0) (xA 8 0 0 0 wi false ds 0 0 0 0)), 1), (b2i (vP 8 0 x.to 0 wi false ds 0 0 0 0), 1), (b2i (encE 8 0 x.to 0 wi false ds 0 0 0 0 == 0), 1)] := lf (orHook_ok (hk_cut_ok hc) hkU_ok) (ocs [(7, 58, .int .u8 3), (7, 220, .bool true), (7, 223, .bool true), (7, 227, .bool true)] []) (by kernel_rfl) (by kernel_rfl) (by kernel_rfl)
theorem u8_12 (wi : Bool) (ds : Int) (hc : Cu x (xA 8 0 0 0 wi false ds 0 0 0 0)) : Ru x [(Int.tmod x.wh 6, 3), (b2i (eqD (xA 8 0 x.to 0 wi false ds 0 0 0 0) (xA 8 0 0 0 wi false ds 0 0 0 0)), 0), (b2i (!vP 8 0 x.to 0 wi false ds 0 0 0 0), 1), (b2i (encB 8 0 x.to 0 wi false ds 0 0 0 0 == ([] : List UInt8)), 1), (b2i (encE 8 0 x.to 0 wi false ds 0 0 0 0 == 2), 1)] := lf (orHook_ok (hk_cut_ok hc) hkU_ok) (ocs [(7, 58, .int .u8 3), (7, 220, .bool false), (7, 233, .bool true), (7, 237, .bool true), (7, 241, .bool true)] []) (by kernel_rfl) (by kernel_rfl) (by kernel_rfl)
theorem u8_13 (wi : Bool) (ds : Int) (hc : Cu x (xA 8 0 0 0 wi false ds 0 0 0 0)) : Ru x [(Int.tmod x.wh 6, 4), (b2i (eqD (xA 8 0 0 0 wi false ds 0 0 (IntKind.i32.wrap x.to) 0) (xA 8 0 0 0 wi false ds 0 0 0 0)), 1), (b2i (vP 8 0 0 0 wi false ds 0 0 (IntKind.i32.wrap x.to) 0), 1), (b2i (encE 8 0 0 0 wi false ds 0 0 (IntKind.i32.wrap x.to) 0 == 0), 1)] := lf (orHook_ok (hk_cut_ok hc) hkU_ok) (ocs [(7, 58, .int .u8 4), (7, 220, .bool true), (7, 223, .bool true), (7, 227, .bool true)] []) (by kernel_rfl) (by kernel_rfl) (by kernel_rfl)
theorem u8_14 (wi : Bool) (ds : Int) (hc : Cu x (xA 8 0 0 0 wi false ds 0 0 0 0)) : Ru x [(Int.tmod x.wh 6, 4), (b2i (eqD (xA 8 0 0 0 wi false ds 0 0 (IntKind.i32.wrap x.to) 0) (xA 8 0 0 0 wi false ds 0 0 0 0)), 0), (b2i (!vP 8 0 0 0 wi false ds 0 0 (IntKind.i32.wrap x.to) 0), 1), (b2i (encB 8 0 0 0 wi false ds 0 0 (IntKind.i32.wrap x.to) 0 == ([] : List UInt8)), 1), (b2i (encE 8 0 0 0 wi false ds 0 0 (IntKind.i32.wrap x.to) 0 == 2), 1)] := lf (orHook_ok (hk_cut_ok hc) hkU_ok) (ocs [(7, 58, .int .u8 4), (7, 220, .bool false), (7, 233, .bool true), (7, 237, .bool true), (7, 241, .bool true)] []) (by kernel_rfl) (by kernel_rfl) (by kernel_rfl)
theorem u8_15 (wi : Bool) (ds : Int) (hc : Cu x (xA 8 0 0 0 wi false ds 0 0 0 0)) : Ru x [(Int.tmod x.wh 6, 5), (b2i (eqD (xA 8 0 0 0 wi false ds 0 (IntKind.i32.wrap x.to) 0 0) (xA 8 0 0 0 wi false ds 0 0 0 0)), 1), (b2i (vP 8 0 0 0 wi false ds 0 (IntKind.i32.wrap x.to) 0 0), 1), (b2i (encE 8 0 0 0 wi false ds 0 (IntKind.i32.wrap x.to) 0 0 == 0), 1)] := lf (orHook_ok (hk_cut_ok hc) hkU_ok) (ocs [(7, 58, .int .u8 5), (7, 220, .bool true), (7, 223, .bool true), (7, 227, .bool true)] []) (by kernel_rfl) (by kernel_rfl) (by kernel_rfl)
theorem u8_16 (wi : Bool) (ds : Int) (hc : Cu x (xA 8 0 0 0 wi false ds 0 0 0 0)) : Ru x [(Int.tmod x.wh 6, 5), (b2i (eqD (xA 8 0 0 0 wi false ds 0 (IntKind.i32.wrap x.to) 0 0) (xA 8 0 0 0 wi false ds 0 0 0 0)), 0), (b2i (!vP 8 0 0 0 wi false ds 0 (IntKind.i32.wrap x.to) 0 0), 1), (b2i (encB 8 0 0 0 wi false ds 0 (IntKind.i32.wrap x.to) 0 0 == ([] : List UInt8)), 1), (b2i (encE 8 0 0 0 wi false ds 0 (IntKind.i32.wrap x.to) 0 0 == 2), 1)] := lf (orHook_ok (hk_cut_ok hc) hkU_ok) (ocs [(7, 58, .int .u8 5), (7, 220, .bool false), (7, 233, .bool true), (7, 237, .bool true), (7, 241, .bool true)] []) (by kernel_rfl) (by kernel_rfl) (by kernel_rfl)
theorem law8_0 (wi : Bool) (ds : Int) (hc : Cu x (xA 8 0 0 0 wi false ds 0 0 0 0)) (hv : vP8 0 0 0 wi false ds 0 0 0 0 = true) (hj : Int.tmod x.wh 6 = 0) (w : World) (hL : Laid h12 w) : Lw x w := by
  rcases Bool.eq_false_or_eq_true (decide (x.to ≥ 0)) with k1 | k1
  · rcases Bool.eq_false_or_eq_true (decide (x.to < 16)) with k2 | k2
    · have e : vP 8 0 0 0 wi false x.to 0 0 0 0 = true := by
        show vP8 0 0 0 wi false x.to 0 0 0 0 = true
        simp_all [vP8]
      exact u8_0 x wi ds hc (csA (csI' hj (csT' k1 (csT' k2 (csT' e csN'))))) w hL
    · have e : vP 8 0 0 0 wi false x.to 0 0 0 0 = false := by
        show vP8 0 0 0 wi false x.to 0 0 0 0 = false
        simp_all [vP8] <;> (try (intros; first | omega | (exfalso; omega)))
      have q : eqD (xA 8 0 0 0 wi false x.to 0 0 0 0) (xA 8 0 0 0 wi false ds 0 0 0 0) = false := by
        simp_all [vP8]
        try omega
      exact u8_1 x wi ds hc (csA (csI' hj (csT' k1 (csF' k2 (csF' q (csT' (eF e).1 (csT' (eF e).2.1 (csT' (eF e).2.2 csN')))))))) w hL
  · have e : vP 8 0 0 0 wi false x.to 0 0 0 0 = false := by
      show vP8 0 0 0 wi false x.to 0 0 0 0 = false
      simp_all [vP8] <;> (try (intros; first | omega | (exfalso; omega)))
    have q : eqD (xA 8 0 0 0 wi false x.to 0 0 0 0) (xA 8 0 0 0 wi false ds 0 0 0 0) = false := by
      simp_all [vP8]
      try omega
    exact u8_2 x wi ds hc (csA (csI' hj (csF' k1 (csF' q (csT' (eF e).1 (csT' (eF e).2.1 (csT' (eF e).2.2 csN'))))))) w hL
theorem law8_1 (wi : Bool) (ds : Int) (hc : Cu x (xA 8 0 0 0 wi false ds 0 0 0 0)) (hv : vP8 0 0 0 wi false ds 0 0 0 0 = true) (hj : Int.tmod x.wh 6 = 1) (w : World) (hL : Laid h12 w) : Lw x w := by
  rcases Bool.eq_false_or_eq_true (decide (x.to ≥ 0)) with k1 | k1
  · rcases Bool.eq_false_or_eq_true (decide (x.to < 16)) with k2 | k2
    · rcases Bool.eq_false_or_eq_true (eqD (xA 8 0 0 0 wi false ds x.to 0 0 0) (xA 8 0 0 0 wi false ds 0 0 0 0)) with k3 | k3
      · have e : vP 8 0 0 0 wi false ds x.to 0 0 0 = true := by
          show vP8 0 0 0 wi false ds x.to 0 0 0 = true
          simp_all [vP8]
        exact u8_3 x wi ds hc (csA (csI' hj (csT' k1 (csT' k2 (csT' k3 (csT' e (csT' (eT e) csN'))))))) w hL
      · have e : vP 8 0 0 0 wi false ds x.to 0 0 0 = false := by
          show vP8 0 0 0 wi false ds x.to 0 0 0 = false
          simp_all [vP8]
        exact u8_4 x wi ds hc (csA (csI' hj (csT' k1 (csT' k2 (csF' k3 (csT' (eF e).1 (csT' (eF e).2.1 (csT' (eF e).2.2 csN')))))))) w hL
    · rcases Bool.eq_false_or_eq_true (eqD (xA 8 0 0 0 wi false ds x.to 0 0 0) (xA 8 0 0 0 wi false ds 0 0 0 0)) with k4 | k4
      · have e : vP 8 0 0 0 wi false ds x.to 0 0 0 = true := by
          show vP8 0 0 0 wi false ds x.to 0 0 0 = true
          simp_all [vP8]
        exact u8_5 x wi ds hc (csA (csI' hj (csT' k1 (csF' k2 (csT' k4 (csT' e (csT' (eT e) csN'))))))) w hL
      · have e : vP 8 0 0 0 wi false ds x.to 0 0 0 = false := by
          show vP8 0 0 0 wi false ds x.to 0 0 0 = false
          simp_all [vP8]
        exact u8_6 x wi ds hc (csA (csI' hj (csT' k1 (csF' k2 (csF' k4 (csT' (eF e).1 (csT' (eF e).2.1 (csT' (eF e).2.2 csN')))))))) w hL
  · rcases Bool.eq_false_or_eq_true (eqD (xA 8 0 0 0 wi false ds x.to 0 0 0) (xA 8 0 0 0 wi false ds 0 0 0 0)) with k5 | k5
    · have e : vP 8 0 0 0 wi false ds x.to 0 0 0 = true := by
        show vP8 0 0 0 wi false ds x.to 0 0 0 = true
        simp_all [vP8]
      exact u8_7 x wi ds hc (csA (csI' hj (csF' k1 (csT' k5 (csT' e (csT' (eT e) csN')))))) w hL
    · have e : vP 8 0 0 0 wi false ds x.to 0 0 0 = false := by
        show vP8 0 0 0 wi false ds x.to 0 0 0 = false
        simp_all [vP8]
      exact u8_8 x wi ds hc (csA (csI' hj (csF' k1 (csF' k5 (csT' (eF e).1 (csT' (eF e).2.1 (csT' (eF e).2.2 csN'))))))) w hL
theorem law8_2 (wi : Bool) (ds : Int) (hc : Cu x (xA 8 0 0 0 wi false ds 0 0 0 0)) (hv : vP8 0 0 0 wi false ds 0 0 0 0 = true) (hj : Int.tmod x.wh 6 = 2) (w : World) (hL : Laid h12 w) : Lw x w := by
  rcases Bool.eq_false_or_eq_true (eqD (xA 8 0 0 x.to wi false ds 0 0 0 0) (xA 8 0 0 0 wi false ds 0 0 0 0)) with k1 | k1
  · have e : vP 8 0 0 x.to wi false ds 0 0 0 0 = true := by
      show vP8 0 0 x.to wi false ds 0 0 0 0 = true
      simp_all [vP8]
    exact u8_9 x wi ds hc (csA (csI' hj (csT' k1 (csT' e (csT' (eT e) csN'))))) w hL
  · have e : vP 8 0 0 x.to wi false ds 0 0 0 0 = false := by
      show vP8 0 0 x.to wi false ds 0 0 0 0 = false
      simp_all [vP8]
    exact u8_10 x wi ds hc (csA (csI' hj (csF' k1 (csT' (eF e).1 (csT' (eF e).2.1 (csT' (eF e).2.2 csN')))))) w hL
theorem law8_3 (wi : Bool) (ds : Int) (hc : Cu x (xA 8 0 0 0 wi false ds 0 0 0 0)) (hv : vP8 0 0 0 wi false ds 0 0 0 0 = true) (hj : Int.tmod x.wh 6 = 3) (w : World) (hL : Laid h12 w) : Lw x w := by
  rcases Bool.eq_false_or_eq_true (eqD (xA 8 0 x.to 0 wi false ds 0 0 0 0) (xA 8 0 0 0 wi false ds 0 0 0 0)) with k1 | k1
  · have e : vP 8 0 x.to 0 wi false ds 0 0 0 0 = true := by
      show vP8 0 x.to 0 wi false ds 0 0 0 0 = true
      simp_all [vP8]
    exact u8_11 x wi ds hc (csA (csI' hj (csT' k1 (csT' e (csT' (eT e) csN'))))) w hL
  · have e : vP 8 0 x.to 0 wi false ds 0 0 0 0 = false := by
      show vP8 0 x.to 0 wi false ds 0 0 0 0 = false
      simp_all [vP8]
    exact u8_12 x wi ds hc (csA (csI' hj (csF' k1 (csT' (eF e).1 (csT' (eF e).2.1 (csT' (eF e).2.2 csN')))))) w hL
theorem law8_4 (wi : Bool) (ds : Int) (hc : Cu x (xA 8 0 0 0 wi false ds 0 0 0 0)) (hv : vP8 0 0 0 wi false ds 0 0 0 0 = true) (hj : Int.tmod x.wh 6 = 4) (w : World) (hL : Laid h12 w) : Lw x w := by
  rcases Bool.eq_false_or_eq_true (eqD (xA 8 0 0 0 wi false ds 0 0 (IntKind.i32.wrap x.to) 0) (xA 8 0 0 0 wi false ds 0 0 0 0)) with k1 | k1
  · have e : vP 8 0 0 0 wi false ds 0 0 (IntKind.i32.wrap x.to) 0 = true := by
      show vP8 0 0 0 wi false ds 0 0 (IntKind.i32.wrap x.to) 0 = true
      simp_all [vP8]
    exact u8_13 x wi ds hc (csA (csI' hj (csT' k1 (csT' e (csT' (eT e) csN'))))) w hL
  · have e : vP 8 0 0 0 wi false ds 0 0 (IntKind.i32.wrap x.to) 0 = false := by
      show vP8 0 0 0 wi false ds 0 0 (IntKind.i32.wrap x.to) 0 = false
      simp_all [vP8]
    exact u8_14 x wi ds hc (csA (csI' hj (csF' k1 (csT' (eF e).1 (csT' (eF e).2.1 (csT' (eF e).2.2 csN')))))) w hL
theorem law8_5 (wi : Bool) (ds : Int) (hc : Cu x (xA 8 0 0 0 wi false ds 0 0 0 0)) (hv : vP8 0 0 0 wi false ds 0 0 0 0 = true) (hj : Int.tmod x.wh 6 = 5) (w : World) (hL : Laid h12 w) : Lw x w := by
  rcases Bool.eq_false_or_eq_true (eqD (xA 8 0 0 0 wi false ds 0 (IntKind.i32.wrap x.to) 0 0) (xA 8 0 0 0 wi false ds 0 0 0 0)) with k1 | k1
  · have e : vP 8 0 0 0 wi false ds 0 (IntKind.i32.wrap x.to) 0 0 = true := by
      show vP8 0 0 0 wi false ds 0 (IntKind.i32.wrap x.to) 0 0 = true
      simp_all [vP8]
    exact u8_15 x wi ds hc (csA (csI' hj (csT' k1 (csT' e (csT' (eT e) csN'))))) w hL
  · have e : vP 8 0 0 0 wi false ds 0 (IntKind.i32.wrap x.to) 0 0 = false := by
      show vP8 0 0 0 wi false ds 0 (IntKind.i32.wrap x.to) 0 0 = false
      simp_all [vP8]
    exact u8_16 x wi ds hc (csA (csI' hj (csF' k1 (csT' (eF e).1 (csT' (eF e).2.1 (csT' (eF e).2.2 csN')))))) w hL
end Go.Proofs.YtbaiokfjoglmiaaDoor.Ex
end
