/-
  Layer 11: codec.Encode, all of it.
-/
import Derived.Test.YtbaiokfjoglmiaaDoorCd6
namespace Go.Proofs.YtbaiokfjoglmiaaDoor.Ex
open Go Go.RowKit
set_option linter.unusedVariables false
set_option linter.unusedSimpArgs false
set_option maxHeartbeats 0
set_option maxRecDepth 1000000
theorem immR1 (re : Int) : immR re 1 = [ub (IntKind.u8.wrap re)] := by
  have h := u64_lt re
  show [UInt8.ofNat (IntKind.u8.wrap (Int.tmod (IntKind.u64.wrap re) 256)).toNat] = [ub (IntKind.u8.wrap re)]
  rw [Int.tmod_eq_emod_of_nonneg h.1, wru]
  unfold ub
  simp only [wr8]
  rw [show re % 18446744073709551616 % 256 % 256 = re % 256 by omega]
theorem c_pe1 (al co si : Int) (wi sh : Bool) (ds sr dp re im : Int) (hv : vP1 al co si wi sh ds sr dp re im = true) (w : World) (hL : Laid h12 w) : Calls Tryd.prog 13 #[.agg ⟨(xA 1 al co si wi sh ds sr dp re im)⟩] w fun e w' => e = .returned (.tuple ⟨[.string ⟨⟨encS1 al co si wi sh ds sr dp re im⟩⟩, .int .i64 0]⟩) ∧ Gr w w' := by
  have hA := andL hv
  have hR := andL (andR hv)
  have hD := andL hR
  have hS := andR hR
  have hC := andL (andR (andR hv))
  obtain rfl : al = 0 := eq_of_beq (α := Int) (andL (andR hA))
  obtain rfl : co = 0 := eq_of_beq (α := Int) (andL (andR (andR hA)))
  obtain rfl : si = 0 := eq_of_beq (α := Int) (andL (andR (andR (andR hA))))
  obtain rfl : sh = false := eq_of_beq (α := Bool) (andL (andR (andR (andR (andR (andR hA))))))
  obtain rfl : dp = 0 := eq_of_beq (α := Int) (andL (andR (andR (andR (andR (andR (andR (andR (andR hA)))))))))
  obtain rfl : re = 0 := eq_of_beq (α := Int) (andL (andR (andR (andR (andR (andR (andR (andR (andR (andR hA))))))))))
  obtain rfl : im = 0 := eq_of_beq (α := Int) (andL (andR (andR (andR (andR (andR (andR (andR (andR (andR (andR hA)))))))))))
  cases wi with
  | true =>
    rcases reg_cases hD with ⟨d, rfl, h1⟩ | ⟨d, rfl, h1⟩
    · rcases reg_cases hS with ⟨s, rfl, h2⟩ | ⟨s, rfl, h2⟩
      · exact retZ (by simp only [encS1, modP_eq (b := 192) (m := (Int.ofNat s)) (e := (Int.ofNat d)) (by decide) (by decide) (reg_out hS) (reg_out hD), td_lo h1, td_lo h2] <;> rfl) (pe1_0 d s (csF' (notT hv) (csF' (ge_lo h2) (csF' (ge_lo h1) csN'))) w hL)
      · exact retZ (by simp only [encS1, modP_eq (b := 192) (m := (Int.ofNat (s + 8))) (e := (Int.ofNat d)) (by decide) (by decide) (reg_out hS) (reg_out hD), td_lo h1, td_hi h2] <;> rfl) (pe1_1 d s (csF' (notT hv) (csT' (ge_hi h2) (csF' (ge_lo h1) csN'))) w hL)
    · rcases reg_cases hS with ⟨s, rfl, h2⟩ | ⟨s, rfl, h2⟩
      · exact retZ (by simp only [encS1, modP_eq (b := 192) (m := (Int.ofNat s)) (e := (Int.ofNat (d + 8))) (by decide) (by decide) (reg_out hS) (reg_out hD), td_hi h1, td_lo h2] <;> rfl) (pe1_2 d s (csF' (notT hv) (csF' (ge_lo h2) (csT' (ge_hi h1) csN'))) w hL)
      · exact retZ (by simp only [encS1, modP_eq (b := 192) (m := (Int.ofNat (s + 8))) (e := (Int.ofNat (d + 8))) (by decide) (by decide) (reg_out hS) (reg_out hD), td_hi h1, td_hi h2] <;> rfl) (pe1_3 d s (csF' (notT hv) (csT' (ge_hi h2) (csT' (ge_hi h1) csN'))) w hL)
  | false =>
    rcases reg_cases hD with ⟨d, rfl, h1⟩ | ⟨d, rfl, h1⟩
    · rcases reg_cases hS with ⟨s, rfl, h2⟩ | ⟨s, rfl, h2⟩
      · exact retZ (by simp only [encS1, modP_eq (b := 192) (m := (Int.ofNat s)) (e := (Int.ofNat d)) (by decide) (by decide) (reg_out hS) (reg_out hD), td_lo h1, td_lo h2] <;> rfl) (pe1_4 d s (csF' (notT hv) (csF' (ge_lo h2) (csF' (ge_lo h1) csN'))) w hL)
      · exact retZ (by simp only [encS1, modP_eq (b := 192) (m := (Int.ofNat (s + 8))) (e := (Int.ofNat d)) (by decide) (by decide) (reg_out hS) (reg_out hD), td_lo h1, td_hi h2] <;> rfl) (pe1_5 d s (csF' (notT hv) (csT' (ge_hi h2) (csF' (ge_lo h1) csN'))) w hL)
    · rcases reg_cases hS with ⟨s, rfl, h2⟩ | ⟨s, rfl, h2⟩
      · exact retZ (by simp only [encS1, modP_eq (b := 192) (m := (Int.ofNat s)) (e := (Int.ofNat (d + 8))) (by decide) (by decide) (reg_out hS) (reg_out hD), td_hi h1, td_lo h2] <;> rfl) (pe1_6 d s (csF' (notT hv) (csF' (ge_lo h2) (csT' (ge_hi h1) csN'))) w hL)
      · exact retZ (by simp only [encS1, modP_eq (b := 192) (m := (Int.ofNat (s + 8))) (e := (Int.ofNat (d + 8))) (by decide) (by decide) (reg_out hS) (reg_out hD), td_hi h1, td_hi h2] <;> rfl) (pe1_7 d s (csF' (notT hv) (csT' (ge_hi h2) (csT' (ge_hi h1) csN'))) w hL)
theorem c_pe2 (al co si : Int) (wi sh : Bool) (ds sr dp re im : Int) (hv : vP2 al co si wi sh ds sr dp re im = true) (w : World) (hL : Laid h12 w) : Calls Tryd.prog 13 #[.agg ⟨(xA 2 al co si wi sh ds sr dp re im)⟩] w fun e w' => e = .returned (.tuple ⟨[.string ⟨⟨encS2 al co si wi sh ds sr dp re im⟩⟩, .int .i64 0]⟩) ∧ Gr w w' := by
  have hA := andL hv
  have hR := andL (andR hv)
  have hD := andL hR
  have hS := andR hR
  have hC := andL (andR (andR hv))
  obtain rfl : al = 0 := eq_of_beq (α := Int) (andL (andR hA))
  obtain rfl : co = 0 := eq_of_beq (α := Int) (andL (andR (andR hA)))
  obtain rfl : si = 0 := eq_of_beq (α := Int) (andL (andR (andR (andR hA))))
  obtain rfl : sh = false := eq_of_beq (α := Bool) (andL (andR (andR (andR (andR (andR hA))))))
  obtain rfl : sr = 0 := eq_of_beq (α := Int) (andL (andR (andR (andR (andR (andR (andR (andR hA))))))))
  obtain rfl : dp = 0 := eq_of_beq (α := Int) (andL (andR (andR (andR (andR (andR (andR (andR (andR hA)))))))))
  obtain rfl : re = 0 := eq_of_beq (α := Int) (andL (andR (andR (andR (andR (andR (andR (andR (andR (andR hA))))))))))
  obtain rfl : wi = true := hC
  rcases reg_cases hD with ⟨d, rfl, h1⟩ | ⟨d, rfl, h1⟩
  · exact retZ (by simp only [encS2, modP_eq (b := 192) (m := 0) (e := (Int.ofNat d)) (by decide) (by decide) (by decide) (reg_out hD), immP_eq, td_lo h1] <;> rfl) (pe2_0 d im (csF' (notT hv) (csF' (ge_lo h1) csN')) w hL)
  · exact retZ (by simp only [encS2, modP_eq (b := 192) (m := 0) (e := (Int.ofNat (d + 8))) (by decide) (by decide) (by decide) (reg_out hD), immP_eq, td_hi h1] <;> rfl) (pe2_1 d im (csF' (notT hv) (csT' (ge_hi h1) csN')) w hL)
theorem c_pe3 (al co si : Int) (wi sh : Bool) (ds sr dp re im : Int) (hv : vP3 al co si wi sh ds sr dp re im = true) (w : World) (hL : Laid h12 w) : Calls Tryd.prog 13 #[.agg ⟨(xA 3 al co si wi sh ds sr dp re im)⟩] w fun e w' => e = .returned (.tuple ⟨[.string ⟨⟨encS3 al co si wi sh ds sr dp re im⟩⟩, .int .i64 0]⟩) ∧ Gr w w' := by
  have hA := andL hv
  have hR := andL (andR hv)
  have hD := andL hR
  have hS := andR hR
  have hC := andL (andR (andR hv))
  obtain rfl : al = 0 := eq_of_beq (α := Int) (andL (andR hA))
  obtain rfl : co = 0 := eq_of_beq (α := Int) (andL (andR (andR hA)))
  obtain rfl : si = 0 := eq_of_beq (α := Int) (andL (andR (andR (andR hA))))
  obtain rfl : sh = false := eq_of_beq (α := Bool) (andL (andR (andR (andR (andR (andR hA))))))
  obtain rfl : sr = 0 := eq_of_beq (α := Int) (andL (andR (andR (andR (andR (andR (andR (andR hA))))))))
  obtain rfl : dp = 0 := eq_of_beq (α := Int) (andL (andR (andR (andR (andR (andR (andR (andR (andR hA)))))))))
  obtain rfl : re = 0 := eq_of_beq (α := Int) (andL (andR (andR (andR (andR (andR (andR (andR (andR (andR hA))))))))))
  obtain rfl : wi = true := hC
  rcases reg_cases hD with ⟨d, rfl, h1⟩ | ⟨d, rfl, h1⟩
  · exact retZ (by simp only [encS3, codP_eq (b := 184) (d := (Int.ofNat d)) (by decide) (by decide) (reg_out hD), immP_eq, td_lo h1] <;> rfl) (pe3_0 d im (csF' (notT hv) (csF' (ge_lo h1) csN')) w hL)
  · exact retZ (by simp only [encS3, codP_eq (b := 184) (d := (Int.ofNat (d + 8))) (by decide) (by decide) (reg_out hD), immP_eq, td_hi h1] <;> rfl) (pe3_1 d im (csF' (notT hv) (csT' (ge_hi h1) csN')) w hL)
theorem c_pe4 (al co si : Int) (wi sh : Bool) (ds sr dp re im : Int) (hv : vP4 al co si wi sh ds sr dp re im = true) (w : World) (hL : Laid h12 w) : Calls Tryd.prog 13 #[.agg ⟨(xA 4 al co si wi sh ds sr dp re im)⟩] w fun e w' => e = .returned (.tuple ⟨[.string ⟨⟨encS4 al co si wi sh ds sr dp re im⟩⟩, .int .i64 0]⟩) ∧ Gr w w' := by
  have hA := andL hv
  have hR := andL (andR hv)
  have hD := andL hR
  have hS := andR hR
  have hC := andL (andR (andR hv))
  obtain rfl : co = 0 := eq_of_beq (α := Int) (andL (andR (andR hA)))
  obtain rfl : si = 0 := eq_of_beq (α := Int) (andL (andR (andR (andR hA))))
  obtain rfl : sh = false := eq_of_beq (α := Bool) (andL (andR (andR (andR (andR (andR hA))))))
  obtain rfl : dp = 0 := eq_of_beq (α := Int) (andL (andR (andR (andR (andR (andR (andR (andR (andR hA)))))))))
  obtain rfl : re = 0 := eq_of_beq (α := Int) (andL (andR (andR (andR (andR (andR (andR (andR (andR (andR hA))))))))))
  obtain rfl : im = 0 := eq_of_beq (α := Int) (andL (andR (andR (andR (andR (andR (andR (andR (andR (andR (andR hA)))))))))))
  have ha := alu_out hC
  cases wi with
  | true =>
    rcases reg_cases hD with ⟨d, rfl, h1⟩ | ⟨d, rfl, h1⟩
    · rcases reg_cases hS with ⟨s, rfl, h2⟩ | ⟨s, rfl, h2⟩
      · exact retZ (by simp only [encS4, modP_eq (b := 192) (m := (Int.ofNat s)) (e := (Int.ofNat d)) (by decide) (by decide) (reg_out hS) (reg_out hD), aluP_eq ha, td_lo h1, td_lo h2] <;> rfl) (pe4_0 al d s (csF' (notT hv) (csF' (ge_lo h2) (csF' (ge_lo h1) csN'))) w hL)
      · exact retZ (by simp only [encS4, modP_eq (b := 192) (m := (Int.ofNat (s + 8))) (e := (Int.ofNat d)) (by decide) (by decide) (reg_out hS) (reg_out hD), aluP_eq ha, td_lo h1, td_hi h2] <;> rfl) (pe4_1 al d s (csF' (notT hv) (csT' (ge_hi h2) (csF' (ge_lo h1) csN'))) w hL)
    · rcases reg_cases hS with ⟨s, rfl, h2⟩ | ⟨s, rfl, h2⟩
      · exact retZ (by simp only [encS4, modP_eq (b := 192) (m := (Int.ofNat s)) (e := (Int.ofNat (d + 8))) (by decide) (by decide) (reg_out hS) (reg_out hD), aluP_eq ha, td_hi h1, td_lo h2] <;> rfl) (pe4_2 al d s (csF' (notT hv) (csF' (ge_lo h2) (csT' (ge_hi h1) csN'))) w hL)
      · exact retZ (by simp only [encS4, modP_eq (b := 192) (m := (Int.ofNat (s + 8))) (e := (Int.ofNat (d + 8))) (by decide) (by decide) (reg_out hS) (reg_out hD), aluP_eq ha, td_hi h1, td_hi h2] <;> rfl) (pe4_3 al d s (csF' (notT hv) (csT' (ge_hi h2) (csT' (ge_hi h1) csN'))) w hL)
  | false =>
    rcases reg_cases hD with ⟨d, rfl, h1⟩ | ⟨d, rfl, h1⟩
    · rcases reg_cases hS with ⟨s, rfl, h2⟩ | ⟨s, rfl, h2⟩
      · exact retZ (by simp only [encS4, modP_eq (b := 192) (m := (Int.ofNat s)) (e := (Int.ofNat d)) (by decide) (by decide) (reg_out hS) (reg_out hD), aluP_eq ha, td_lo h1, td_lo h2] <;> rfl) (pe4_4 al d s (csF' (notT hv) (csF' (ge_lo h2) (csF' (ge_lo h1) csN'))) w hL)
      · exact retZ (by simp only [encS4, modP_eq (b := 192) (m := (Int.ofNat (s + 8))) (e := (Int.ofNat d)) (by decide) (by decide) (reg_out hS) (reg_out hD), aluP_eq ha, td_lo h1, td_hi h2] <;> rfl) (pe4_5 al d s (csF' (notT hv) (csT' (ge_hi h2) (csF' (ge_lo h1) csN'))) w hL)
    · rcases reg_cases hS with ⟨s, rfl, h2⟩ | ⟨s, rfl, h2⟩
      · exact retZ (by simp only [encS4, modP_eq (b := 192) (m := (Int.ofNat s)) (e := (Int.ofNat (d + 8))) (by decide) (by decide) (reg_out hS) (reg_out hD), aluP_eq ha, td_hi h1, td_lo h2] <;> rfl) (pe4_6 al d s (csF' (notT hv) (csF' (ge_lo h2) (csT' (ge_hi h1) csN'))) w hL)
      · exact retZ (by simp only [encS4, modP_eq (b := 192) (m := (Int.ofNat (s + 8))) (e := (Int.ofNat (d + 8))) (by decide) (by decide) (reg_out hS) (reg_out hD), aluP_eq ha, td_hi h1, td_hi h2] <;> rfl) (pe4_7 al d s (csF' (notT hv) (csT' (ge_hi h2) (csT' (ge_hi h1) csN'))) w hL)
theorem c_pe5 (al co si : Int) (wi sh : Bool) (ds sr dp re im : Int) (hv : vP5 al co si wi sh ds sr dp re im = true) (w : World) (hL : Laid h12 w) : Calls Tryd.prog 13 #[.agg ⟨(xA 5 al co si wi sh ds sr dp re im)⟩] w fun e w' => e = .returned (.tuple ⟨[.string ⟨⟨encS5 al co si wi sh ds sr dp re im⟩⟩, .int .i64 0]⟩) ∧ Gr w w' := by
  have hA := andL hv
  have hR := andL (andR hv)
  have hD := andL hR
  have hS := andR hR
  have hC := andL (andR (andR hv))
  obtain rfl : co = 0 := eq_of_beq (α := Int) (andL (andR (andR hA)))
  obtain rfl : si = 0 := eq_of_beq (α := Int) (andL (andR (andR (andR hA))))
  obtain rfl : sh = false := eq_of_beq (α := Bool) (andL (andR (andR (andR (andR (andR hA))))))
  obtain rfl : sr = 0 := eq_of_beq (α := Int) (andL (andR (andR (andR (andR (andR (andR (andR hA))))))))
  obtain rfl : dp = 0 := eq_of_beq (α := Int) (andL (andR (andR (andR (andR (andR (andR (andR (andR hA)))))))))
  obtain rfl : re = 0 := eq_of_beq (α := Int) (andL (andR (andR (andR (andR (andR (andR (andR (andR (andR hA))))))))))
  have ha := alu_out hC
  cases wi with
  | true =>
    rcases reg_cases hD with ⟨d, rfl, h1⟩ | ⟨d, rfl, h1⟩
    · exact retZ (by simp only [encS5, modP_eq (b := 192) (m := al) (e := (Int.ofNat d)) (by decide) (by decide) ⟨ha.1, Int.lt_trans ha.2 (by decide)⟩ (reg_out hD), immP_eq, td_lo h1] <;> rfl) (pe5_0 al d im (csF' (notT hv) (csF' (ge_no ha) (csF' (ge_lo h1) csN'))) w hL)
    · exact retZ (by simp only [encS5, modP_eq (b := 192) (m := al) (e := (Int.ofNat (d + 8))) (by decide) (by decide) ⟨ha.1, Int.lt_trans ha.2 (by decide)⟩ (reg_out hD), immP_eq, td_hi h1] <;> rfl) (pe5_1 al d im (csF' (notT hv) (csF' (ge_no ha) (csT' (ge_hi h1) csN'))) w hL)
  | false =>
    rcases reg_cases hD with ⟨d, rfl, h1⟩ | ⟨d, rfl, h1⟩
    · exact retZ (by simp only [encS5, modP_eq (b := 192) (m := al) (e := (Int.ofNat d)) (by decide) (by decide) ⟨ha.1, Int.lt_trans ha.2 (by decide)⟩ (reg_out hD), immP_eq, td_lo h1] <;> rfl) (pe5_2 al d im (csF' (notT hv) (csF' (ge_no ha) (csF' (ge_lo h1) csN'))) w hL)
    · exact retZ (by simp only [encS5, modP_eq (b := 192) (m := al) (e := (Int.ofNat (d + 8))) (by decide) (by decide) ⟨ha.1, Int.lt_trans ha.2 (by decide)⟩ (reg_out hD), immP_eq, td_hi h1] <;> rfl) (pe5_3 al d im (csF' (notT hv) (csF' (ge_no ha) (csT' (ge_hi h1) csN'))) w hL)
theorem c_pe6 (al co si : Int) (wi sh : Bool) (ds sr dp re im : Int) (hv : vP6 al co si wi sh ds sr dp re im = true) (w : World) (hL : Laid h12 w) : Calls Tryd.prog 13 #[.agg ⟨(xA 6 al co si wi sh ds sr dp re im)⟩] w fun e w' => e = .returned (.tuple ⟨[.string ⟨⟨encS6 al co si wi sh ds sr dp re im⟩⟩, .int .i64 0]⟩) ∧ Gr w w' := by
  have hA := andL hv
  have hR := andL (andR hv)
  have hD := andL hR
  have hS := andR hR
  have hC := andL (andR (andR hv))
  obtain rfl : al = 0 := eq_of_beq (α := Int) (andL (andR hA))
  obtain rfl : co = 0 := eq_of_beq (α := Int) (andL (andR (andR hA)))
  obtain rfl : si = 0 := eq_of_beq (α := Int) (andL (andR (andR (andR hA))))
  obtain rfl : sh = false := eq_of_beq (α := Bool) (andL (andR (andR (andR (andR (andR hA))))))
  obtain rfl : dp = 0 := eq_of_beq (α := Int) (andL (andR (andR (andR (andR (andR (andR (andR (andR hA)))))))))
  obtain rfl : re = 0 := eq_of_beq (α := Int) (andL (andR (andR (andR (andR (andR (andR (andR (andR (andR hA))))))))))
  obtain rfl : im = 0 := eq_of_beq (α := Int) (andL (andR (andR (andR (andR (andR (andR (andR (andR (andR (andR hA)))))))))))
  cases wi with
  | true =>
    rcases reg_cases hD with ⟨d, rfl, h1⟩ | ⟨d, rfl, h1⟩
    · rcases reg_cases hS with ⟨s, rfl, h2⟩ | ⟨s, rfl, h2⟩
      · exact retZ (by simp only [encS6, modP_eq (b := 192) (m := (Int.ofNat s)) (e := (Int.ofNat d)) (by decide) (by decide) (reg_out hS) (reg_out hD), td_lo h1, td_lo h2] <;> rfl) (pe6_0 d s (csF' (notT hv) (csF' (ge_lo h2) (csF' (ge_lo h1) csN'))) w hL)
      · exact retZ (by simp only [encS6, modP_eq (b := 192) (m := (Int.ofNat (s + 8))) (e := (Int.ofNat d)) (by decide) (by decide) (reg_out hS) (reg_out hD), td_lo h1, td_hi h2] <;> rfl) (pe6_1 d s (csF' (notT hv) (csT' (ge_hi h2) (csF' (ge_lo h1) csN'))) w hL)
    · rcases reg_cases hS with ⟨s, rfl, h2⟩ | ⟨s, rfl, h2⟩
      · exact retZ (by simp only [encS6, modP_eq (b := 192) (m := (Int.ofNat s)) (e := (Int.ofNat (d + 8))) (by decide) (by decide) (reg_out hS) (reg_out hD), td_hi h1, td_lo h2] <;> rfl) (pe6_2 d s (csF' (notT hv) (csF' (ge_lo h2) (csT' (ge_hi h1) csN'))) w hL)
      · exact retZ (by simp only [encS6, modP_eq (b := 192) (m := (Int.ofNat (s + 8))) (e := (Int.ofNat (d + 8))) (by decide) (by decide) (reg_out hS) (reg_out hD), td_hi h1, td_hi h2] <;> rfl) (pe6_3 d s (csF' (notT hv) (csT' (ge_hi h2) (csT' (ge_hi h1) csN'))) w hL)
  | false =>
    rcases reg_cases hD with ⟨d, rfl, h1⟩ | ⟨d, rfl, h1⟩
    · rcases reg_cases hS with ⟨s, rfl, h2⟩ | ⟨s, rfl, h2⟩
      · exact retZ (by simp only [encS6, modP_eq (b := 192) (m := (Int.ofNat s)) (e := (Int.ofNat d)) (by decide) (by decide) (reg_out hS) (reg_out hD), td_lo h1, td_lo h2] <;> rfl) (pe6_4 d s (csF' (notT hv) (csF' (ge_lo h2) (csF' (ge_lo h1) csN'))) w hL)
      · exact retZ (by simp only [encS6, modP_eq (b := 192) (m := (Int.ofNat (s + 8))) (e := (Int.ofNat d)) (by decide) (by decide) (reg_out hS) (reg_out hD), td_lo h1, td_hi h2] <;> rfl) (pe6_5 d s (csF' (notT hv) (csT' (ge_hi h2) (csF' (ge_lo h1) csN'))) w hL)
    · rcases reg_cases hS with ⟨s, rfl, h2⟩ | ⟨s, rfl, h2⟩
      · exact retZ (by simp only [encS6, modP_eq (b := 192) (m := (Int.ofNat s)) (e := (Int.ofNat (d + 8))) (by decide) (by decide) (reg_out hS) (reg_out hD), td_hi h1, td_lo h2] <;> rfl) (pe6_6 d s (csF' (notT hv) (csF' (ge_lo h2) (csT' (ge_hi h1) csN'))) w hL)
      · exact retZ (by simp only [encS6, modP_eq (b := 192) (m := (Int.ofNat (s + 8))) (e := (Int.ofNat (d + 8))) (by decide) (by decide) (reg_out hS) (reg_out hD), td_hi h1, td_hi h2] <;> rfl) (pe6_7 d s (csF' (notT hv) (csT' (ge_hi h2) (csT' (ge_hi h1) csN'))) w hL)
theorem c_pe7 (al co si : Int) (wi sh : Bool) (ds sr dp re im : Int) (hv : vP7 al co si wi sh ds sr dp re im = true) (w : World) (hL : Laid h12 w) : Calls Tryd.prog 13 #[.agg ⟨(xA 7 al co si wi sh ds sr dp re im)⟩] w fun e w' => e = .returned (.tuple ⟨[.string ⟨⟨encS7 al co si wi sh ds sr dp re im⟩⟩, .int .i64 0]⟩) ∧ Gr w w' := by
  have hA := andL hv
  have hR := andL (andR hv)
  have hD := andL hR
  have hS := andR hR
  have hC := andL (andR (andR hv))
  obtain rfl : al = 0 := eq_of_beq (α := Int) (andL (andR hA))
  obtain rfl : co = 0 := eq_of_beq (α := Int) (andL (andR (andR hA)))
  obtain rfl : si = 0 := eq_of_beq (α := Int) (andL (andR (andR (andR hA))))
  obtain rfl : sh = false := eq_of_beq (α := Bool) (andL (andR (andR (andR (andR (andR hA))))))
  obtain rfl : sr = 0 := eq_of_beq (α := Int) (andL (andR (andR (andR (andR (andR (andR (andR hA))))))))
  obtain rfl : dp = 0 := eq_of_beq (α := Int) (andL (andR (andR (andR (andR (andR (andR (andR (andR hA)))))))))
  obtain rfl : re = 0 := eq_of_beq (α := Int) (andL (andR (andR (andR (andR (andR (andR (andR (andR (andR hA))))))))))
  obtain rfl : im = 0 := eq_of_beq (α := Int) (andL (andR (andR (andR (andR (andR (andR (andR (andR (andR (andR hA)))))))))))
  cases wi with
  | true =>
    rcases reg_cases hD with ⟨d, rfl, h1⟩ | ⟨d, rfl, h1⟩
    · exact retZ (by simp only [encS7, modP_eq (b := 192) (m := 3) (e := (Int.ofNat d)) (by decide) (by decide) (by decide) (reg_out hD), td_lo h1] <;> rfl) (pe7_0 d (csF' (notT hv) (csF' (ge_lo h1) csN')) w hL)
    · exact retZ (by simp only [encS7, modP_eq (b := 192) (m := 3) (e := (Int.ofNat (d + 8))) (by decide) (by decide) (by decide) (reg_out hD), td_hi h1] <;> rfl) (pe7_1 d (csF' (notT hv) (csT' (ge_hi h1) csN')) w hL)
  | false =>
    rcases reg_cases hD with ⟨d, rfl, h1⟩ | ⟨d, rfl, h1⟩
    · exact retZ (by simp only [encS7, modP_eq (b := 192) (m := 3) (e := (Int.ofNat d)) (by decide) (by decide) (by decide) (reg_out hD), td_lo h1] <;> rfl) (pe7_2 d (csF' (notT hv) (csF' (ge_lo h1) csN')) w hL)
    · exact retZ (by simp only [encS7, modP_eq (b := 192) (m := 3) (e := (Int.ofNat (d + 8))) (by decide) (by decide) (by decide) (reg_out hD), td_hi h1] <;> rfl) (pe7_3 d (csF' (notT hv) (csT' (ge_hi h1) csN')) w hL)
theorem c_pe8 (al co si : Int) (wi sh : Bool) (ds sr dp re im : Int) (hv : vP8 al co si wi sh ds sr dp re im = true) (w : World) (hL : Laid h12 w) : Calls Tryd.prog 13 #[.agg ⟨(xA 8 al co si wi sh ds sr dp re im)⟩] w fun e w' => e = .returned (.tuple ⟨[.string ⟨⟨encS8 al co si wi sh ds sr dp re im⟩⟩, .int .i64 0]⟩) ∧ Gr w w' := by
  have hA := andL hv
  have hR := andL (andR hv)
  have hD := andL hR
  have hS := andR hR
  have hC := andL (andR (andR hv))
  obtain rfl : al = 0 := eq_of_beq (α := Int) (andL (andR hA))
  obtain rfl : co = 0 := eq_of_beq (α := Int) (andL (andR (andR hA)))
  obtain rfl : si = 0 := eq_of_beq (α := Int) (andL (andR (andR (andR hA))))
  obtain rfl : sh = false := eq_of_beq (α := Bool) (andL (andR (andR (andR (andR (andR hA))))))
  obtain rfl : sr = 0 := eq_of_beq (α := Int) (andL (andR (andR (andR (andR (andR (andR (andR hA))))))))
  obtain rfl : dp = 0 := eq_of_beq (α := Int) (andL (andR (andR (andR (andR (andR (andR (andR (andR hA)))))))))
  obtain rfl : re = 0 := eq_of_beq (α := Int) (andL (andR (andR (andR (andR (andR (andR (andR (andR (andR hA))))))))))
  obtain rfl : im = 0 := eq_of_beq (α := Int) (andL (andR (andR (andR (andR (andR (andR (andR (andR (andR (andR hA)))))))))))
  cases wi with
  | true =>
    rcases reg_cases hD with ⟨d, rfl, h1⟩ | ⟨d, rfl, h1⟩
    · exact retZ (by simp only [encS8, modP_eq (b := 192) (m := 4) (e := (Int.ofNat d)) (by decide) (by decide) (by decide) (reg_out hD), td_lo h1] <;> rfl) (pe8_0 d (csF' (notT hv) (csF' (ge_lo h1) csN')) w hL)
    · exact retZ (by simp only [encS8, modP_eq (b := 192) (m := 4) (e := (Int.ofNat (d + 8))) (by decide) (by decide) (by decide) (reg_out hD), td_hi h1] <;> rfl) (pe8_1 d (csF' (notT hv) (csT' (ge_hi h1) csN')) w hL)
  | false =>
    rcases reg_cases hD with ⟨d, rfl, h1⟩ | ⟨d, rfl, h1⟩
    · exact retZ (by simp only [encS8, modP_eq (b := 192) (m := 4) (e := (Int.ofNat d)) (by decide) (by decide) (by decide) (reg_out hD), td_lo h1] <;> rfl) (pe8_2 d (csF' (notT hv) (csF' (ge_lo h1) csN')) w hL)
    · exact retZ (by simp only [encS8, modP_eq (b := 192) (m := 4) (e := (Int.ofNat (d + 8))) (by decide) (by decide) (by decide) (reg_out hD), td_hi h1] <;> rfl) (pe8_3 d (csF' (notT hv) (csT' (ge_hi h1) csN')) w hL)
theorem c_pe9 (al co si : Int) (wi sh : Bool) (ds sr dp re im : Int) (hv : vP9 al co si wi sh ds sr dp re im = true) (w : World) (hL : Laid h12 w) : Calls Tryd.prog 13 #[.agg ⟨(xA 9 al co si wi sh ds sr dp re im)⟩] w fun e w' => e = .returned (.tuple ⟨[.string ⟨⟨encS9 al co si wi sh ds sr dp re im⟩⟩, .int .i64 0]⟩) ∧ Gr w w' := by
  have hA := andL hv
  have hR := andL (andR hv)
  have hD := andL hR
  have hS := andR hR
  have hC := andL (andR (andR hv))
  obtain rfl : al = 0 := eq_of_beq (α := Int) (andL (andR hA))
  obtain rfl : co = 0 := eq_of_beq (α := Int) (andL (andR (andR hA)))
  obtain rfl : si = 0 := eq_of_beq (α := Int) (andL (andR (andR (andR hA))))
  obtain rfl : sh = false := eq_of_beq (α := Bool) (andL (andR (andR (andR (andR (andR hA))))))
  obtain rfl : sr = 0 := eq_of_beq (α := Int) (andL (andR (andR (andR (andR (andR (andR (andR hA))))))))
  obtain rfl : dp = 0 := eq_of_beq (α := Int) (andL (andR (andR (andR (andR (andR (andR (andR (andR hA)))))))))
  obtain rfl : re = 0 := eq_of_beq (α := Int) (andL (andR (andR (andR (andR (andR (andR (andR (andR (andR hA))))))))))
  obtain rfl : im = 0 := eq_of_beq (α := Int) (andL (andR (andR (andR (andR (andR (andR (andR (andR (andR (andR hA)))))))))))
  cases wi with
  | true =>
    rcases reg_cases hD with ⟨d, rfl, h1⟩ | ⟨d, rfl, h1⟩
    · exact retZ (by simp only [encS9, modP_eq (b := 192) (m := 6) (e := (Int.ofNat d)) (by decide) (by decide) (by decide) (reg_out hD), td_lo h1] <;> rfl) (pe9_0 d (csF' (notT hv) (csF' (ge_lo h1) csN')) w hL)
    · exact retZ (by simp only [encS9, modP_eq (b := 192) (m := 6) (e := (Int.ofNat (d + 8))) (by decide) (by decide) (by decide) (reg_out hD), td_hi h1] <;> rfl) (pe9_1 d (csF' (notT hv) (csT' (ge_hi h1) csN')) w hL)
  | false =>
    rcases reg_cases hD with ⟨d, rfl, h1⟩ | ⟨d, rfl, h1⟩
    · exact retZ (by simp only [encS9, modP_eq (b := 192) (m := 6) (e := (Int.ofNat d)) (by decide) (by decide) (by decide) (reg_out hD), td_lo h1] <;> rfl) (pe9_2 d (csF' (notT hv) (csF' (ge_lo h1) csN')) w hL)
    · exact retZ (by simp only [encS9, modP_eq (b := 192) (m := 6) (e := (Int.ofNat (d + 8))) (by decide) (by decide) (by decide) (reg_out hD), td_hi h1] <;> rfl) (pe9_3 d (csF' (notT hv) (csT' (ge_hi h1) csN')) w hL)
theorem c_pe10 (al co si : Int) (wi sh : Bool) (ds sr dp re im : Int) (hv : vP10 al co si wi sh ds sr dp re im = true) (w : World) (hL : Laid h12 w) : Calls Tryd.prog 13 #[.agg ⟨(xA 10 al co si wi sh ds sr dp re im)⟩] w fun e w' => e = .returned (.tuple ⟨[.string ⟨⟨encS10 al co si wi sh ds sr dp re im⟩⟩, .int .i64 0]⟩) ∧ Gr w w' := by
  have hA := andL hv
  have hR := andL (andR hv)
  have hD := andL hR
  have hS := andR hR
  have hC := andL (andR (andR hv))
  obtain rfl : al = 0 := eq_of_beq (α := Int) (andL (andR hA))
  obtain rfl : co = 0 := eq_of_beq (α := Int) (andL (andR (andR hA)))
  obtain rfl : si = 0 := eq_of_beq (α := Int) (andL (andR (andR (andR hA))))
  obtain rfl : sh = false := eq_of_beq (α := Bool) (andL (andR (andR (andR (andR (andR hA))))))
  obtain rfl : dp = 0 := eq_of_beq (α := Int) (andL (andR (andR (andR (andR (andR (andR (andR (andR hA)))))))))
  obtain rfl : re = 0 := eq_of_beq (α := Int) (andL (andR (andR (andR (andR (andR (andR (andR (andR (andR hA))))))))))
  obtain rfl : im = 0 := eq_of_beq (α := Int) (andL (andR (andR (andR (andR (andR (andR (andR (andR (andR (andR hA)))))))))))
  cases wi with
  | true =>
    rcases reg_cases hD with ⟨d, rfl, h1⟩ | ⟨d, rfl, h1⟩
    · rcases reg_cases hS with ⟨s, rfl, h2⟩ | ⟨s, rfl, h2⟩
      · exact retZ (by simp only [encS10, modP_eq (b := 192) (m := (Int.ofNat d)) (e := (Int.ofNat s)) (by decide) (by decide) (reg_out hD) (reg_out hS), td_lo h1, td_lo h2] <;> rfl) (pe10_0 d s (csF' (notT hv) (csF' (ge_lo h1) (csF' (ge_lo h2) csN'))) w hL)
      · exact retZ (by simp only [encS10, modP_eq (b := 192) (m := (Int.ofNat d)) (e := (Int.ofNat (s + 8))) (by decide) (by decide) (reg_out hD) (reg_out hS), td_lo h1, td_hi h2] <;> rfl) (pe10_1 d s (csF' (notT hv) (csF' (ge_lo h1) (csT' (ge_hi h2) csN'))) w hL)
    · rcases reg_cases hS with ⟨s, rfl, h2⟩ | ⟨s, rfl, h2⟩
      · exact retZ (by simp only [encS10, modP_eq (b := 192) (m := (Int.ofNat (d + 8))) (e := (Int.ofNat s)) (by decide) (by decide) (reg_out hD) (reg_out hS), td_hi h1, td_lo h2] <;> rfl) (pe10_2 d s (csF' (notT hv) (csT' (ge_hi h1) (csF' (ge_lo h2) csN'))) w hL)
      · exact retZ (by simp only [encS10, modP_eq (b := 192) (m := (Int.ofNat (d + 8))) (e := (Int.ofNat (s + 8))) (by decide) (by decide) (reg_out hD) (reg_out hS), td_hi h1, td_hi h2] <;> rfl) (pe10_3 d s (csF' (notT hv) (csT' (ge_hi h1) (csT' (ge_hi h2) csN'))) w hL)
  | false =>
    rcases reg_cases hD with ⟨d, rfl, h1⟩ | ⟨d, rfl, h1⟩
    · rcases reg_cases hS with ⟨s, rfl, h2⟩ | ⟨s, rfl, h2⟩
      · exact retZ (by simp only [encS10, modP_eq (b := 192) (m := (Int.ofNat d)) (e := (Int.ofNat s)) (by decide) (by decide) (reg_out hD) (reg_out hS), td_lo h1, td_lo h2] <;> rfl) (pe10_4 d s (csF' (notT hv) (csF' (ge_lo h1) (csF' (ge_lo h2) csN'))) w hL)
      · exact retZ (by simp only [encS10, modP_eq (b := 192) (m := (Int.ofNat d)) (e := (Int.ofNat (s + 8))) (by decide) (by decide) (reg_out hD) (reg_out hS), td_lo h1, td_hi h2] <;> rfl) (pe10_5 d s (csF' (notT hv) (csF' (ge_lo h1) (csT' (ge_hi h2) csN'))) w hL)
    · rcases reg_cases hS with ⟨s, rfl, h2⟩ | ⟨s, rfl, h2⟩
      · exact retZ (by simp only [encS10, modP_eq (b := 192) (m := (Int.ofNat (d + 8))) (e := (Int.ofNat s)) (by decide) (by decide) (reg_out hD) (reg_out hS), td_hi h1, td_lo h2] <;> rfl) (pe10_6 d s (csF' (notT hv) (csT' (ge_hi h1) (csF' (ge_lo h2) csN'))) w hL)
      · exact retZ (by simp only [encS10, modP_eq (b := 192) (m := (Int.ofNat (d + 8))) (e := (Int.ofNat (s + 8))) (by decide) (by decide) (reg_out hD) (reg_out hS), td_hi h1, td_hi h2] <;> rfl) (pe10_7 d s (csF' (notT hv) (csT' (ge_hi h1) (csT' (ge_hi h2) csN'))) w hL)
theorem c_pe11 (al co si : Int) (wi sh : Bool) (ds sr dp re im : Int) (hv : vP11 al co si wi sh ds sr dp re im = true) (w : World) (hL : Laid h12 w) : Calls Tryd.prog 13 #[.agg ⟨(xA 11 al co si wi sh ds sr dp re im)⟩] w fun e w' => e = .returned (.tuple ⟨[.string ⟨⟨encS11 al co si wi sh ds sr dp re im⟩⟩, .int .i64 0]⟩) ∧ Gr w w' := by
  have hA := andL hv
  have hR := andL (andR hv)
  have hD := andL hR
  have hS := andR hR
  have hC := andL (andR (andR hv))
  obtain rfl : co = 0 := eq_of_beq (α := Int) (andL (andR (andR hA)))
  obtain rfl : si = 0 := eq_of_beq (α := Int) (andL (andR (andR (andR hA))))
  obtain rfl : sh = false := eq_of_beq (α := Bool) (andL (andR (andR (andR (andR (andR hA))))))
  obtain rfl : sr = 0 := eq_of_beq (α := Int) (andL (andR (andR (andR (andR (andR (andR (andR hA))))))))
  obtain rfl : dp = 0 := eq_of_beq (α := Int) (andL (andR (andR (andR (andR (andR (andR (andR (andR hA)))))))))
  obtain rfl : re = 0 := eq_of_beq (α := Int) (andL (andR (andR (andR (andR (andR (andR (andR (andR (andR hA))))))))))
  have ha := sh_out hC
  cases wi with
  | true =>
    rcases reg_cases hD with ⟨d, rfl, h1⟩ | ⟨d, rfl, h1⟩
    · exact retZ (by simp only [encS11, modP_eq (b := 192) (m := al) (e := (Int.ofNat d)) (by decide) (by decide) ⟨ha.1, Int.lt_trans ha.2 (by decide)⟩ (reg_out hD), immP_eq, td_lo h1] <;> rfl) (pe11_0 al d im (csF' (notT hv) (csF' (ge_no ha) (csF' (ge_lo h1) csN'))) w hL)
    · exact retZ (by simp only [encS11, modP_eq (b := 192) (m := al) (e := (Int.ofNat (d + 8))) (by decide) (by decide) ⟨ha.1, Int.lt_trans ha.2 (by decide)⟩ (reg_out hD), immP_eq, td_hi h1] <;> rfl) (pe11_1 al d im (csF' (notT hv) (csF' (ge_no ha) (csT' (ge_hi h1) csN'))) w hL)
  | false =>
    rcases reg_cases hD with ⟨d, rfl, h1⟩ | ⟨d, rfl, h1⟩
    · exact retZ (by simp only [encS11, modP_eq (b := 192) (m := al) (e := (Int.ofNat d)) (by decide) (by decide) ⟨ha.1, Int.lt_trans ha.2 (by decide)⟩ (reg_out hD), immP_eq, td_lo h1] <;> rfl) (pe11_2 al d im (csF' (notT hv) (csF' (ge_no ha) (csF' (ge_lo h1) csN'))) w hL)
    · exact retZ (by simp only [encS11, modP_eq (b := 192) (m := al) (e := (Int.ofNat (d + 8))) (by decide) (by decide) ⟨ha.1, Int.lt_trans ha.2 (by decide)⟩ (reg_out hD), immP_eq, td_hi h1] <;> rfl) (pe11_3 al d im (csF' (notT hv) (csF' (ge_no ha) (csT' (ge_hi h1) csN'))) w hL)
theorem c_pe12 (al co si : Int) (wi sh : Bool) (ds sr dp re im : Int) (hv : vP12 al co si wi sh ds sr dp re im = true) (w : World) (hL : Laid h12 w) : Calls Tryd.prog 13 #[.agg ⟨(xA 12 al co si wi sh ds sr dp re im)⟩] w fun e w' => e = .returned (.tuple ⟨[.string ⟨⟨encS12 al co si wi sh ds sr dp re im⟩⟩, .int .i64 0]⟩) ∧ Gr w w' := by
  have hA := andL hv
  have hR := andL (andR hv)
  have hD := andL hR
  have hS := andR hR
  have hC := andL (andR (andR hv))
  obtain rfl : co = 0 := eq_of_beq (α := Int) (andL (andR (andR hA)))
  obtain rfl : si = 0 := eq_of_beq (α := Int) (andL (andR (andR (andR hA))))
  obtain rfl : sh = false := eq_of_beq (α := Bool) (andL (andR (andR (andR (andR (andR hA))))))
  obtain rfl : sr = 0 := eq_of_beq (α := Int) (andL (andR (andR (andR (andR (andR (andR (andR hA))))))))
  obtain rfl : dp = 0 := eq_of_beq (α := Int) (andL (andR (andR (andR (andR (andR (andR (andR (andR hA)))))))))
  obtain rfl : re = 0 := eq_of_beq (α := Int) (andL (andR (andR (andR (andR (andR (andR (andR (andR (andR hA))))))))))
  obtain rfl : im = 0 := eq_of_beq (α := Int) (andL (andR (andR (andR (andR (andR (andR (andR (andR (andR (andR hA)))))))))))
  have ha := sh_out hC
  cases wi with
  | true =>
    rcases reg_cases hD with ⟨d, rfl, h1⟩ | ⟨d, rfl, h1⟩
    · exact retZ (by simp only [encS12, modP_eq (b := 192) (m := al) (e := (Int.ofNat d)) (by decide) (by decide) ⟨ha.1, Int.lt_trans ha.2 (by decide)⟩ (reg_out hD), td_lo h1] <;> rfl) (pe12_0 al d (csF' (notT hv) (csF' (ge_no ha) (csF' (ge_lo h1) csN'))) w hL)
    · exact retZ (by simp only [encS12, modP_eq (b := 192) (m := al) (e := (Int.ofNat (d + 8))) (by decide) (by decide) ⟨ha.1, Int.lt_trans ha.2 (by decide)⟩ (reg_out hD), td_hi h1] <;> rfl) (pe12_1 al d (csF' (notT hv) (csF' (ge_no ha) (csT' (ge_hi h1) csN'))) w hL)
  | false =>
    rcases reg_cases hD with ⟨d, rfl, h1⟩ | ⟨d, rfl, h1⟩
    · exact retZ (by simp only [encS12, modP_eq (b := 192) (m := al) (e := (Int.ofNat d)) (by decide) (by decide) ⟨ha.1, Int.lt_trans ha.2 (by decide)⟩ (reg_out hD), td_lo h1] <;> rfl) (pe12_2 al d (csF' (notT hv) (csF' (ge_no ha) (csF' (ge_lo h1) csN'))) w hL)
    · exact retZ (by simp only [encS12, modP_eq (b := 192) (m := al) (e := (Int.ofNat (d + 8))) (by decide) (by decide) ⟨ha.1, Int.lt_trans ha.2 (by decide)⟩ (reg_out hD), td_hi h1] <;> rfl) (pe12_3 al d (csF' (notT hv) (csF' (ge_no ha) (csT' (ge_hi h1) csN'))) w hL)
theorem c_pe13 (al co si : Int) (wi sh : Bool) (ds sr dp re im : Int) (hv : vP13 al co si wi sh ds sr dp re im = true) (w : World) (hL : Laid h12 w) : Calls Tryd.prog 13 #[.agg ⟨(xA 13 al co si wi sh ds sr dp re im)⟩] w fun e w' => e = .returned (.tuple ⟨[.string ⟨⟨encS13 al co si wi sh ds sr dp re im⟩⟩, .int .i64 0]⟩) ∧ Gr w w' := by
  have hA := andL hv
  have hR := andL (andR hv)
  have hD := andL hR
  have hS := andR hR
  have hC := andL (andR (andR hv))
  obtain rfl : al = 0 := eq_of_beq (α := Int) (andL (andR hA))
  obtain rfl : co = 0 := eq_of_beq (α := Int) (andL (andR (andR hA)))
  obtain rfl : sh = false := eq_of_beq (α := Bool) (andL (andR (andR (andR (andR (andR hA))))))
  obtain rfl : re = 0 := eq_of_beq (α := Int) (andL (andR (andR (andR (andR (andR (andR (andR (andR (andR hA))))))))))
  obtain rfl : im = 0 := eq_of_beq (α := Int) (andL (andR (andR (andR (andR (andR (andR (andR (andR (andR (andR hA)))))))))))
  have hsz := szOut (andL hC)
  have hw : wi = (si == 8) := eq_of_beq (andR hC)
  rcases hsz with rfl | rfl | rfl | rfl
  · obtain rfl : wi = false := hw
    rcases reg_cases hD with ⟨d, rfl, h1⟩ | ⟨d, rfl, h1⟩
    · rcases reg_cases hS with ⟨s, rfl, h2⟩ | ⟨s, rfl, h2⟩
      · rcases Bool.eq_false_or_eq_true (Int.tmod (Int.ofNat s) 8 == 4) with h4 | h4
        · exact retZ (by simp only [encS13, modP_eq (b := 128) (m := (Int.ofNat d)) (e := (Int.ofNat s)) (by decide) (by decide) (reg_out hD) (reg_out hS), immP_eq, td_lo h1, td_lo h2, h4] <;> rfl) (pe13_0 d s dp (csF' (notT hv) (csF' (ge_lo h1) (csF' (ge_lo h2) (csT' h4 csN')))) w hL)
        · exact retZ (by simp only [encS13, modP_eq (b := 128) (m := (Int.ofNat d)) (e := (Int.ofNat s)) (by decide) (by decide) (reg_out hD) (reg_out hS), immP_eq, td_lo h1, td_lo h2, h4] <;> rfl) (pe13_1 d s dp (csF' (notT hv) (csF' (ge_lo h1) (csF' (ge_lo h2) (csF' h4 csN')))) w hL)
      · rcases Bool.eq_false_or_eq_true (Int.tmod (Int.ofNat (s + 8)) 8 == 4) with h4 | h4
        · exact retZ (by simp only [encS13, modP_eq (b := 128) (m := (Int.ofNat d)) (e := (Int.ofNat (s + 8))) (by decide) (by decide) (reg_out hD) (reg_out hS), immP_eq, td_lo h1, td_hi h2, h4] <;> rfl) (pe13_2 d s dp (csF' (notT hv) (csF' (ge_lo h1) (csT' (ge_hi h2) (csT' h4 csN')))) w hL)
        · exact retZ (by simp only [encS13, modP_eq (b := 128) (m := (Int.ofNat d)) (e := (Int.ofNat (s + 8))) (by decide) (by decide) (reg_out hD) (reg_out hS), immP_eq, td_lo h1, td_hi h2, h4] <;> rfl) (pe13_3 d s dp (csF' (notT hv) (csF' (ge_lo h1) (csT' (ge_hi h2) (csF' h4 csN')))) w hL)
    · rcases reg_cases hS with ⟨s, rfl, h2⟩ | ⟨s, rfl, h2⟩
      · rcases Bool.eq_false_or_eq_true (Int.tmod (Int.ofNat s) 8 == 4) with h4 | h4
        · exact retZ (by simp only [encS13, modP_eq (b := 128) (m := (Int.ofNat (d + 8))) (e := (Int.ofNat s)) (by decide) (by decide) (reg_out hD) (reg_out hS), immP_eq, td_hi h1, td_lo h2, h4] <;> rfl) (pe13_4 d s dp (csF' (notT hv) (csT' (ge_hi h1) (csF' (ge_lo h2) (csT' h4 csN')))) w hL)
        · exact retZ (by simp only [encS13, modP_eq (b := 128) (m := (Int.ofNat (d + 8))) (e := (Int.ofNat s)) (by decide) (by decide) (reg_out hD) (reg_out hS), immP_eq, td_hi h1, td_lo h2, h4] <;> rfl) (pe13_5 d s dp (csF' (notT hv) (csT' (ge_hi h1) (csF' (ge_lo h2) (csF' h4 csN')))) w hL)
      · rcases Bool.eq_false_or_eq_true (Int.tmod (Int.ofNat (s + 8)) 8 == 4) with h4 | h4
        · exact retZ (by simp only [encS13, modP_eq (b := 128) (m := (Int.ofNat (d + 8))) (e := (Int.ofNat (s + 8))) (by decide) (by decide) (reg_out hD) (reg_out hS), immP_eq, td_hi h1, td_hi h2, h4] <;> rfl) (pe13_6 d s dp (csF' (notT hv) (csT' (ge_hi h1) (csT' (ge_hi h2) (csT' h4 csN')))) w hL)
        · exact retZ (by simp only [encS13, modP_eq (b := 128) (m := (Int.ofNat (d + 8))) (e := (Int.ofNat (s + 8))) (by decide) (by decide) (reg_out hD) (reg_out hS), immP_eq, td_hi h1, td_hi h2, h4] <;> rfl) (pe13_7 d s dp (csF' (notT hv) (csT' (ge_hi h1) (csT' (ge_hi h2) (csF' h4 csN')))) w hL)
  · obtain rfl : wi = false := hw
    rcases reg_cases hD with ⟨d, rfl, h1⟩ | ⟨d, rfl, h1⟩
    · rcases reg_cases hS with ⟨s, rfl, h2⟩ | ⟨s, rfl, h2⟩
      · rcases Bool.eq_false_or_eq_true (Int.tmod (Int.ofNat s) 8 == 4) with h4 | h4
        · exact retZ (by simp only [encS13, modP_eq (b := 128) (m := (Int.ofNat d)) (e := (Int.ofNat s)) (by decide) (by decide) (reg_out hD) (reg_out hS), immP_eq, td_lo h1, td_lo h2, h4] <;> rfl) (pe13_8 d s dp (csF' (notT hv) (csF' (ge_lo h1) (csF' (ge_lo h2) (csT' h4 csN')))) w hL)
        · exact retZ (by simp only [encS13, modP_eq (b := 128) (m := (Int.ofNat d)) (e := (Int.ofNat s)) (by decide) (by decide) (reg_out hD) (reg_out hS), immP_eq, td_lo h1, td_lo h2, h4] <;> rfl) (pe13_9 d s dp (csF' (notT hv) (csF' (ge_lo h1) (csF' (ge_lo h2) (csF' h4 csN')))) w hL)
      · rcases Bool.eq_false_or_eq_true (Int.tmod (Int.ofNat (s + 8)) 8 == 4) with h4 | h4
        · exact retZ (by simp only [encS13, modP_eq (b := 128) (m := (Int.ofNat d)) (e := (Int.ofNat (s + 8))) (by decide) (by decide) (reg_out hD) (reg_out hS), immP_eq, td_lo h1, td_hi h2, h4] <;> rfl) (pe13_10 d s dp (csF' (notT hv) (csF' (ge_lo h1) (csT' (ge_hi h2) (csT' h4 csN')))) w hL)
        · exact retZ (by simp only [encS13, modP_eq (b := 128) (m := (Int.ofNat d)) (e := (Int.ofNat (s + 8))) (by decide) (by decide) (reg_out hD) (reg_out hS), immP_eq, td_lo h1, td_hi h2, h4] <;> rfl) (pe13_11 d s dp (csF' (notT hv) (csF' (ge_lo h1) (csT' (ge_hi h2) (csF' h4 csN')))) w hL)
    · rcases reg_cases hS with ⟨s, rfl, h2⟩ | ⟨s, rfl, h2⟩
      · rcases Bool.eq_false_or_eq_true (Int.tmod (Int.ofNat s) 8 == 4) with h4 | h4
        · exact retZ (by simp only [encS13, modP_eq (b := 128) (m := (Int.ofNat (d + 8))) (e := (Int.ofNat s)) (by decide) (by decide) (reg_out hD) (reg_out hS), immP_eq, td_hi h1, td_lo h2, h4] <;> rfl) (pe13_12 d s dp (csF' (notT hv) (csT' (ge_hi h1) (csF' (ge_lo h2) (csT' h4 csN')))) w hL)
        · exact retZ (by simp only [encS13, modP_eq (b := 128) (m := (Int.ofNat (d + 8))) (e := (Int.ofNat s)) (by decide) (by decide) (reg_out hD) (reg_out hS), immP_eq, td_hi h1, td_lo h2, h4] <;> rfl) (pe13_13 d s dp (csF' (notT hv) (csT' (ge_hi h1) (csF' (ge_lo h2) (csF' h4 csN')))) w hL)
      · rcases Bool.eq_false_or_eq_true (Int.tmod (Int.ofNat (s + 8)) 8 == 4) with h4 | h4
        · exact retZ (by simp only [encS13, modP_eq (b := 128) (m := (Int.ofNat (d + 8))) (e := (Int.ofNat (s + 8))) (by decide) (by decide) (reg_out hD) (reg_out hS), immP_eq, td_hi h1, td_hi h2, h4] <;> rfl) (pe13_14 d s dp (csF' (notT hv) (csT' (ge_hi h1) (csT' (ge_hi h2) (csT' h4 csN')))) w hL)
        · exact retZ (by simp only [encS13, modP_eq (b := 128) (m := (Int.ofNat (d + 8))) (e := (Int.ofNat (s + 8))) (by decide) (by decide) (reg_out hD) (reg_out hS), immP_eq, td_hi h1, td_hi h2, h4] <;> rfl) (pe13_15 d s dp (csF' (notT hv) (csT' (ge_hi h1) (csT' (ge_hi h2) (csF' h4 csN')))) w hL)
  · obtain rfl : wi = false := hw
    rcases reg_cases hD with ⟨d, rfl, h1⟩ | ⟨d, rfl, h1⟩
    · rcases reg_cases hS with ⟨s, rfl, h2⟩ | ⟨s, rfl, h2⟩
      · rcases Bool.eq_false_or_eq_true (Int.tmod (Int.ofNat s) 8 == 4) with h4 | h4
        · exact retZ (by simp only [encS13, modP_eq (b := 128) (m := (Int.ofNat d)) (e := (Int.ofNat s)) (by decide) (by decide) (reg_out hD) (reg_out hS), immP_eq, td_lo h1, td_lo h2, h4] <;> rfl) (pe13_16 d s dp (csF' (notT hv) (csF' (ge_lo h1) (csF' (ge_lo h2) (csT' h4 csN')))) w hL)
        · exact retZ (by simp only [encS13, modP_eq (b := 128) (m := (Int.ofNat d)) (e := (Int.ofNat s)) (by decide) (by decide) (reg_out hD) (reg_out hS), immP_eq, td_lo h1, td_lo h2, h4] <;> rfl) (pe13_17 d s dp (csF' (notT hv) (csF' (ge_lo h1) (csF' (ge_lo h2) (csF' h4 csN')))) w hL)
      · rcases Bool.eq_false_or_eq_true (Int.tmod (Int.ofNat (s + 8)) 8 == 4) with h4 | h4
        · exact retZ (by simp only [encS13, modP_eq (b := 128) (m := (Int.ofNat d)) (e := (Int.ofNat (s + 8))) (by decide) (by decide) (reg_out hD) (reg_out hS), immP_eq, td_lo h1, td_hi h2, h4] <;> rfl) (pe13_18 d s dp (csF' (notT hv) (csF' (ge_lo h1) (csT' (ge_hi h2) (csT' h4 csN')))) w hL)
        · exact retZ (by simp only [encS13, modP_eq (b := 128) (m := (Int.ofNat d)) (e := (Int.ofNat (s + 8))) (by decide) (by decide) (reg_out hD) (reg_out hS), immP_eq, td_lo h1, td_hi h2, h4] <;> rfl) (pe13_19 d s dp (csF' (notT hv) (csF' (ge_lo h1) (csT' (ge_hi h2) (csF' h4 csN')))) w hL)
    · rcases reg_cases hS with ⟨s, rfl, h2⟩ | ⟨s, rfl, h2⟩
      · rcases Bool.eq_false_or_eq_true (Int.tmod (Int.ofNat s) 8 == 4) with h4 | h4
        · exact retZ (by simp only [encS13, modP_eq (b := 128) (m := (Int.ofNat (d + 8))) (e := (Int.ofNat s)) (by decide) (by decide) (reg_out hD) (reg_out hS), immP_eq, td_hi h1, td_lo h2, h4] <;> rfl) (pe13_20 d s dp (csF' (notT hv) (csT' (ge_hi h1) (csF' (ge_lo h2) (csT' h4 csN')))) w hL)
        · exact retZ (by simp only [encS13, modP_eq (b := 128) (m := (Int.ofNat (d + 8))) (e := (Int.ofNat s)) (by decide) (by decide) (reg_out hD) (reg_out hS), immP_eq, td_hi h1, td_lo h2, h4] <;> rfl) (pe13_21 d s dp (csF' (notT hv) (csT' (ge_hi h1) (csF' (ge_lo h2) (csF' h4 csN')))) w hL)
      · rcases Bool.eq_false_or_eq_true (Int.tmod (Int.ofNat (s + 8)) 8 == 4) with h4 | h4
        · exact retZ (by simp only [encS13, modP_eq (b := 128) (m := (Int.ofNat (d + 8))) (e := (Int.ofNat (s + 8))) (by decide) (by decide) (reg_out hD) (reg_out hS), immP_eq, td_hi h1, td_hi h2, h4] <;> rfl) (pe13_22 d s dp (csF' (notT hv) (csT' (ge_hi h1) (csT' (ge_hi h2) (csT' h4 csN')))) w hL)
        · exact retZ (by simp only [encS13, modP_eq (b := 128) (m := (Int.ofNat (d + 8))) (e := (Int.ofNat (s + 8))) (by decide) (by decide) (reg_out hD) (reg_out hS), immP_eq, td_hi h1, td_hi h2, h4] <;> rfl) (pe13_23 d s dp (csF' (notT hv) (csT' (ge_hi h1) (csT' (ge_hi h2) (csF' h4 csN')))) w hL)
  · obtain rfl : wi = true := hw
    rcases reg_cases hD with ⟨d, rfl, h1⟩ | ⟨d, rfl, h1⟩
    · rcases reg_cases hS with ⟨s, rfl, h2⟩ | ⟨s, rfl, h2⟩
      · rcases Bool.eq_false_or_eq_true (Int.tmod (Int.ofNat s) 8 == 4) with h4 | h4
        · exact retZ (by simp only [encS13, modP_eq (b := 128) (m := (Int.ofNat d)) (e := (Int.ofNat s)) (by decide) (by decide) (reg_out hD) (reg_out hS), immP_eq, td_lo h1, td_lo h2, h4] <;> rfl) (pe13_24 d s dp (csF' (notT hv) (csF' (ge_lo h1) (csF' (ge_lo h2) (csT' h4 csN')))) w hL)
        · exact retZ (by simp only [encS13, modP_eq (b := 128) (m := (Int.ofNat d)) (e := (Int.ofNat s)) (by decide) (by decide) (reg_out hD) (reg_out hS), immP_eq, td_lo h1, td_lo h2, h4] <;> rfl) (pe13_25 d s dp (csF' (notT hv) (csF' (ge_lo h1) (csF' (ge_lo h2) (csF' h4 csN')))) w hL)
      · rcases Bool.eq_false_or_eq_true (Int.tmod (Int.ofNat (s + 8)) 8 == 4) with h4 | h4
        · exact retZ (by simp only [encS13, modP_eq (b := 128) (m := (Int.ofNat d)) (e := (Int.ofNat (s + 8))) (by decide) (by decide) (reg_out hD) (reg_out hS), immP_eq, td_lo h1, td_hi h2, h4] <;> rfl) (pe13_26 d s dp (csF' (notT hv) (csF' (ge_lo h1) (csT' (ge_hi h2) (csT' h4 csN')))) w hL)
        · exact retZ (by simp only [encS13, modP_eq (b := 128) (m := (Int.ofNat d)) (e := (Int.ofNat (s + 8))) (by decide) (by decide) (reg_out hD) (reg_out hS), immP_eq, td_lo h1, td_hi h2, h4] <;> rfl) (pe13_27 d s dp (csF' (notT hv) (csF' (ge_lo h1) (csT' (ge_hi h2) (csF' h4 csN')))) w hL)
    · rcases reg_cases hS with ⟨s, rfl, h2⟩ | ⟨s, rfl, h2⟩
      · rcases Bool.eq_false_or_eq_true (Int.tmod (Int.ofNat s) 8 == 4) with h4 | h4
        · exact retZ (by simp only [encS13, modP_eq (b := 128) (m := (Int.ofNat (d + 8))) (e := (Int.ofNat s)) (by decide) (by decide) (reg_out hD) (reg_out hS), immP_eq, td_hi h1, td_lo h2, h4] <;> rfl) (pe13_28 d s dp (csF' (notT hv) (csT' (ge_hi h1) (csF' (ge_lo h2) (csT' h4 csN')))) w hL)
        · exact retZ (by simp only [encS13, modP_eq (b := 128) (m := (Int.ofNat (d + 8))) (e := (Int.ofNat s)) (by decide) (by decide) (reg_out hD) (reg_out hS), immP_eq, td_hi h1, td_lo h2, h4] <;> rfl) (pe13_29 d s dp (csF' (notT hv) (csT' (ge_hi h1) (csF' (ge_lo h2) (csF' h4 csN')))) w hL)
      · rcases Bool.eq_false_or_eq_true (Int.tmod (Int.ofNat (s + 8)) 8 == 4) with h4 | h4
        · exact retZ (by simp only [encS13, modP_eq (b := 128) (m := (Int.ofNat (d + 8))) (e := (Int.ofNat (s + 8))) (by decide) (by decide) (reg_out hD) (reg_out hS), immP_eq, td_hi h1, td_hi h2, h4] <;> rfl) (pe13_30 d s dp (csF' (notT hv) (csT' (ge_hi h1) (csT' (ge_hi h2) (csT' h4 csN')))) w hL)
        · exact retZ (by simp only [encS13, modP_eq (b := 128) (m := (Int.ofNat (d + 8))) (e := (Int.ofNat (s + 8))) (by decide) (by decide) (reg_out hD) (reg_out hS), immP_eq, td_hi h1, td_hi h2, h4] <;> rfl) (pe13_31 d s dp (csF' (notT hv) (csT' (ge_hi h1) (csT' (ge_hi h2) (csF' h4 csN')))) w hL)
theorem c_pe14 (al co si : Int) (wi sh : Bool) (ds sr dp re im : Int) (hv : vP14 al co si wi sh ds sr dp re im = true) (w : World) (hL : Laid h12 w) : Calls Tryd.prog 13 #[.agg ⟨(xA 14 al co si wi sh ds sr dp re im)⟩] w fun e w' => e = .returned (.tuple ⟨[.string ⟨⟨encS14 al co si wi sh ds sr dp re im⟩⟩, .int .i64 0]⟩) ∧ Gr w w' := by
  have hA := andL hv
  have hR := andL (andR hv)
  have hD := andL hR
  have hS := andR hR
  have hC := andL (andR (andR hv))
  obtain rfl : al = 0 := eq_of_beq (α := Int) (andL (andR hA))
  obtain rfl : co = 0 := eq_of_beq (α := Int) (andL (andR (andR hA)))
  obtain rfl : sh = false := eq_of_beq (α := Bool) (andL (andR (andR (andR (andR (andR hA))))))
  obtain rfl : re = 0 := eq_of_beq (α := Int) (andL (andR (andR (andR (andR (andR (andR (andR (andR (andR hA))))))))))
  obtain rfl : im = 0 := eq_of_beq (α := Int) (andL (andR (andR (andR (andR (andR (andR (andR (andR (andR (andR hA)))))))))))
  have hsz := szOut (andL hC)
  have hw : wi = (si == 8) := eq_of_beq (andR hC)
  rcases hsz with rfl | rfl | rfl | rfl
  · obtain rfl : wi = false := hw
    rcases reg_cases hD with ⟨d, rfl, h1⟩ | ⟨d, rfl, h1⟩
    · rcases reg_cases hS with ⟨s, rfl, h2⟩ | ⟨s, rfl, h2⟩
      · rcases Bool.eq_false_or_eq_true (Int.tmod (Int.ofNat d) 8 == 4) with h4 | h4
        · exact retZ (by simp only [encS14, modP_eq (b := 128) (m := (Int.ofNat s)) (e := (Int.ofNat d)) (by decide) (by decide) (reg_out hS) (reg_out hD), immP_eq, td_lo h1, td_lo h2, h4] <;> rfl) (pe14_0 d s dp (csF' (notT hv) (csF' (ge_lo h2) (csF' (ge_lo h1) (csT' h4 csN')))) w hL)
        · exact retZ (by simp only [encS14, modP_eq (b := 128) (m := (Int.ofNat s)) (e := (Int.ofNat d)) (by decide) (by decide) (reg_out hS) (reg_out hD), immP_eq, td_lo h1, td_lo h2, h4] <;> rfl) (pe14_1 d s dp (csF' (notT hv) (csF' (ge_lo h2) (csF' (ge_lo h1) (csF' h4 csN')))) w hL)
      · rcases Bool.eq_false_or_eq_true (Int.tmod (Int.ofNat d) 8 == 4) with h4 | h4
        · exact retZ (by simp only [encS14, modP_eq (b := 128) (m := (Int.ofNat (s + 8))) (e := (Int.ofNat d)) (by decide) (by decide) (reg_out hS) (reg_out hD), immP_eq, td_lo h1, td_hi h2, h4] <;> rfl) (pe14_2 d s dp (csF' (notT hv) (csT' (ge_hi h2) (csF' (ge_lo h1) (csT' h4 csN')))) w hL)
        · exact retZ (by simp only [encS14, modP_eq (b := 128) (m := (Int.ofNat (s + 8))) (e := (Int.ofNat d)) (by decide) (by decide) (reg_out hS) (reg_out hD), immP_eq, td_lo h1, td_hi h2, h4] <;> rfl) (pe14_3 d s dp (csF' (notT hv) (csT' (ge_hi h2) (csF' (ge_lo h1) (csF' h4 csN')))) w hL)
    · rcases reg_cases hS with ⟨s, rfl, h2⟩ | ⟨s, rfl, h2⟩
      · rcases Bool.eq_false_or_eq_true (Int.tmod (Int.ofNat (d + 8)) 8 == 4) with h4 | h4
        · exact retZ (by simp only [encS14, modP_eq (b := 128) (m := (Int.ofNat s)) (e := (Int.ofNat (d + 8))) (by decide) (by decide) (reg_out hS) (reg_out hD), immP_eq, td_hi h1, td_lo h2, h4] <;> rfl) (pe14_4 d s dp (csF' (notT hv) (csF' (ge_lo h2) (csT' (ge_hi h1) (csT' h4 csN')))) w hL)
        · exact retZ (by simp only [encS14, modP_eq (b := 128) (m := (Int.ofNat s)) (e := (Int.ofNat (d + 8))) (by decide) (by decide) (reg_out hS) (reg_out hD), immP_eq, td_hi h1, td_lo h2, h4] <;> rfl) (pe14_5 d s dp (csF' (notT hv) (csF' (ge_lo h2) (csT' (ge_hi h1) (csF' h4 csN')))) w hL)
      · rcases Bool.eq_false_or_eq_true (Int.tmod (Int.ofNat (d + 8)) 8 == 4) with h4 | h4
        · exact retZ (by simp only [encS14, modP_eq (b := 128) (m := (Int.ofNat (s + 8))) (e := (Int.ofNat (d + 8))) (by decide) (by decide) (reg_out hS) (reg_out hD), immP_eq, td_hi h1, td_hi h2, h4] <;> rfl) (pe14_6 d s dp (csF' (notT hv) (csT' (ge_hi h2) (csT' (ge_hi h1) (csT' h4 csN')))) w hL)
        · exact retZ (by simp only [encS14, modP_eq (b := 128) (m := (Int.ofNat (s + 8))) (e := (Int.ofNat (d + 8))) (by decide) (by decide) (reg_out hS) (reg_out hD), immP_eq, td_hi h1, td_hi h2, h4] <;> rfl) (pe14_7 d s dp (csF' (notT hv) (csT' (ge_hi h2) (csT' (ge_hi h1) (csF' h4 csN')))) w hL)
  · obtain rfl : wi = false := hw
    rcases reg_cases hD with ⟨d, rfl, h1⟩ | ⟨d, rfl, h1⟩
    · rcases reg_cases hS with ⟨s, rfl, h2⟩ | ⟨s, rfl, h2⟩
      · rcases Bool.eq_false_or_eq_true (Int.tmod (Int.ofNat d) 8 == 4) with h4 | h4
        · exact retZ (by simp only [encS14, modP_eq (b := 128) (m := (Int.ofNat s)) (e := (Int.ofNat d)) (by decide) (by decide) (reg_out hS) (reg_out hD), immP_eq, td_lo h1, td_lo h2, h4] <;> rfl) (pe14_8 d s dp (csF' (notT hv) (csF' (ge_lo h2) (csF' (ge_lo h1) (csT' h4 csN')))) w hL)
        · exact retZ (by simp only [encS14, modP_eq (b := 128) (m := (Int.ofNat s)) (e := (Int.ofNat d)) (by decide) (by decide) (reg_out hS) (reg_out hD), immP_eq, td_lo h1, td_lo h2, h4] <;> rfl) (pe14_9 d s dp (csF' (notT hv) (csF' (ge_lo h2) (csF' (ge_lo h1) (csF' h4 csN')))) w hL)
      · rcases Bool.eq_false_or_eq_true (Int.tmod (Int.ofNat d) 8 == 4) with h4 | h4
        · exact retZ (by simp only [encS14, modP_eq (b := 128) (m := (Int.ofNat (s + 8))) (e := (Int.ofNat d)) (by decide) (by decide) (reg_out hS) (reg_out hD), immP_eq, td_lo h1, td_hi h2, h4] <;> rfl) (pe14_10 d s dp (csF' (notT hv) (csT' (ge_hi h2) (csF' (ge_lo h1) (csT' h4 csN')))) w hL)
        · exact retZ (by simp only [encS14, modP_eq (b := 128) (m := (Int.ofNat (s + 8))) (e := (Int.ofNat d)) (by decide) (by decide) (reg_out hS) (reg_out hD), immP_eq, td_lo h1, td_hi h2, h4] <;> rfl) (pe14_11 d s dp (csF' (notT hv) (csT' (ge_hi h2) (csF' (ge_lo h1) (csF' h4 csN')))) w hL)
    · rcases reg_cases hS with ⟨s, rfl, h2⟩ | ⟨s, rfl, h2⟩
      · rcases Bool.eq_false_or_eq_true (Int.tmod (Int.ofNat (d + 8)) 8 == 4) with h4 | h4
        · exact retZ (by simp only [encS14, modP_eq (b := 128) (m := (Int.ofNat s)) (e := (Int.ofNat (d + 8))) (by decide) (by decide) (reg_out hS) (reg_out hD), immP_eq, td_hi h1, td_lo h2, h4] <;> rfl) (pe14_12 d s dp (csF' (notT hv) (csF' (ge_lo h2) (csT' (ge_hi h1) (csT' h4 csN')))) w hL)
        · exact retZ (by simp only [encS14, modP_eq (b := 128) (m := (Int.ofNat s)) (e := (Int.ofNat (d + 8))) (by decide) (by decide) (reg_out hS) (reg_out hD), immP_eq, td_hi h1, td_lo h2, h4] <;> rfl) (pe14_13 d s dp (csF' (notT hv) (csF' (ge_lo h2) (csT' (ge_hi h1) (csF' h4 csN')))) w hL)
      · rcases Bool.eq_false_or_eq_true (Int.tmod (Int.ofNat (d + 8)) 8 == 4) with h4 | h4
        · exact retZ (by simp only [encS14, modP_eq (b := 128) (m := (Int.ofNat (s + 8))) (e := (Int.ofNat (d + 8))) (by decide) (by decide) (reg_out hS) (reg_out hD), immP_eq, td_hi h1, td_hi h2, h4] <;> rfl) (pe14_14 d s dp (csF' (notT hv) (csT' (ge_hi h2) (csT' (ge_hi h1) (csT' h4 csN')))) w hL)
        · exact retZ (by simp only [encS14, modP_eq (b := 128) (m := (Int.ofNat (s + 8))) (e := (Int.ofNat (d + 8))) (by decide) (by decide) (reg_out hS) (reg_out hD), immP_eq, td_hi h1, td_hi h2, h4] <;> rfl) (pe14_15 d s dp (csF' (notT hv) (csT' (ge_hi h2) (csT' (ge_hi h1) (csF' h4 csN')))) w hL)
  · obtain rfl : wi = false := hw
    rcases reg_cases hD with ⟨d, rfl, h1⟩ | ⟨d, rfl, h1⟩
    · rcases reg_cases hS with ⟨s, rfl, h2⟩ | ⟨s, rfl, h2⟩
      · rcases Bool.eq_false_or_eq_true (Int.tmod (Int.ofNat d) 8 == 4) with h4 | h4
        · exact retZ (by simp only [encS14, modP_eq (b := 128) (m := (Int.ofNat s)) (e := (Int.ofNat d)) (by decide) (by decide) (reg_out hS) (reg_out hD), immP_eq, td_lo h1, td_lo h2, h4] <;> rfl) (pe14_16 d s dp (csF' (notT hv) (csF' (ge_lo h2) (csF' (ge_lo h1) (csT' h4 csN')))) w hL)
        · exact retZ (by simp only [encS14, modP_eq (b := 128) (m := (Int.ofNat s)) (e := (Int.ofNat d)) (by decide) (by decide) (reg_out hS) (reg_out hD), immP_eq, td_lo h1, td_lo h2, h4] <;> rfl) (pe14_17 d s dp (csF' (notT hv) (csF' (ge_lo h2) (csF' (ge_lo h1) (csF' h4 csN')))) w hL)
      · rcases Bool.eq_false_or_eq_true (Int.tmod (Int.ofNat d) 8 == 4) with h4 | h4
        · exact retZ (by simp only [encS14, modP_eq (b := 128) (m := (Int.ofNat (s + 8))) (e := (Int.ofNat d)) (by decide) (by decide) (reg_out hS) (reg_out hD), immP_eq, td_lo h1, td_hi h2, h4] <;> rfl) (pe14_18 d s dp (csF' (notT hv) (csT' (ge_hi h2) (csF' (ge_lo h1) (csT' h4 csN')))) w hL)
        · exact retZ (by simp only [encS14, modP_eq (b := 128) (m := (Int.ofNat (s + 8))) (e := (Int.ofNat d)) (by decide) (by decide) (reg_out hS) (reg_out hD), immP_eq, td_lo h1, td_hi h2, h4] <;> rfl) (pe14_19 d s dp (csF' (notT hv) (csT' (ge_hi h2) (csF' (ge_lo h1) (csF' h4 csN')))) w hL)
    · rcases reg_cases hS with ⟨s, rfl, h2⟩ | ⟨s, rfl, h2⟩
      · rcases Bool.eq_false_or_eq_true (Int.tmod (Int.ofNat (d + 8)) 8 == 4) with h4 | h4
        · exact retZ (by simp only [encS14, modP_eq (b := 128) (m := (Int.ofNat s)) (e := (Int.ofNat (d + 8))) (by decide) (by decide) (reg_out hS) (reg_out hD), immP_eq, td_hi h1, td_lo h2, h4] <;> rfl) (pe14_20 d s dp (csF' (notT hv) (csF' (ge_lo h2) (csT' (ge_hi h1) (csT' h4 csN')))) w hL)
        · exact retZ (by simp only [encS14, modP_eq (b := 128) (m := (Int.ofNat s)) (e := (Int.ofNat (d + 8))) (by decide) (by decide) (reg_out hS) (reg_out hD), immP_eq, td_hi h1, td_lo h2, h4] <;> rfl) (pe14_21 d s dp (csF' (notT hv) (csF' (ge_lo h2) (csT' (ge_hi h1) (csF' h4 csN')))) w hL)
      · rcases Bool.eq_false_or_eq_true (Int.tmod (Int.ofNat (d + 8)) 8 == 4) with h4 | h4
        · exact retZ (by simp only [encS14, modP_eq (b := 128) (m := (Int.ofNat (s + 8))) (e := (Int.ofNat (d + 8))) (by decide) (by decide) (reg_out hS) (reg_out hD), immP_eq, td_hi h1, td_hi h2, h4] <;> rfl) (pe14_22 d s dp (csF' (notT hv) (csT' (ge_hi h2) (csT' (ge_hi h1) (csT' h4 csN')))) w hL)
        · exact retZ (by simp only [encS14, modP_eq (b := 128) (m := (Int.ofNat (s + 8))) (e := (Int.ofNat (d + 8))) (by decide) (by decide) (reg_out hS) (reg_out hD), immP_eq, td_hi h1, td_hi h2, h4] <;> rfl) (pe14_23 d s dp (csF' (notT hv) (csT' (ge_hi h2) (csT' (ge_hi h1) (csF' h4 csN')))) w hL)
  · obtain rfl : wi = true := hw
    rcases reg_cases hD with ⟨d, rfl, h1⟩ | ⟨d, rfl, h1⟩
    · rcases reg_cases hS with ⟨s, rfl, h2⟩ | ⟨s, rfl, h2⟩
      · rcases Bool.eq_false_or_eq_true (Int.tmod (Int.ofNat d) 8 == 4) with h4 | h4
        · exact retZ (by simp only [encS14, modP_eq (b := 128) (m := (Int.ofNat s)) (e := (Int.ofNat d)) (by decide) (by decide) (reg_out hS) (reg_out hD), immP_eq, td_lo h1, td_lo h2, h4] <;> rfl) (pe14_24 d s dp (csF' (notT hv) (csF' (ge_lo h2) (csF' (ge_lo h1) (csT' h4 csN')))) w hL)
        · exact retZ (by simp only [encS14, modP_eq (b := 128) (m := (Int.ofNat s)) (e := (Int.ofNat d)) (by decide) (by decide) (reg_out hS) (reg_out hD), immP_eq, td_lo h1, td_lo h2, h4] <;> rfl) (pe14_25 d s dp (csF' (notT hv) (csF' (ge_lo h2) (csF' (ge_lo h1) (csF' h4 csN')))) w hL)
      · rcases Bool.eq_false_or_eq_true (Int.tmod (Int.ofNat d) 8 == 4) with h4 | h4
        · exact retZ (by simp only [encS14, modP_eq (b := 128) (m := (Int.ofNat (s + 8))) (e := (Int.ofNat d)) (by decide) (by decide) (reg_out hS) (reg_out hD), immP_eq, td_lo h1, td_hi h2, h4] <;> rfl) (pe14_26 d s dp (csF' (notT hv) (csT' (ge_hi h2) (csF' (ge_lo h1) (csT' h4 csN')))) w hL)
        · exact retZ (by simp only [encS14, modP_eq (b := 128) (m := (Int.ofNat (s + 8))) (e := (Int.ofNat d)) (by decide) (by decide) (reg_out hS) (reg_out hD), immP_eq, td_lo h1, td_hi h2, h4] <;> rfl) (pe14_27 d s dp (csF' (notT hv) (csT' (ge_hi h2) (csF' (ge_lo h1) (csF' h4 csN')))) w hL)
    · rcases reg_cases hS with ⟨s, rfl, h2⟩ | ⟨s, rfl, h2⟩
      · rcases Bool.eq_false_or_eq_true (Int.tmod (Int.ofNat (d + 8)) 8 == 4) with h4 | h4
        · exact retZ (by simp only [encS14, modP_eq (b := 128) (m := (Int.ofNat s)) (e := (Int.ofNat (d + 8))) (by decide) (by decide) (reg_out hS) (reg_out hD), immP_eq, td_hi h1, td_lo h2, h4] <;> rfl) (pe14_28 d s dp (csF' (notT hv) (csF' (ge_lo h2) (csT' (ge_hi h1) (csT' h4 csN')))) w hL)
        · exact retZ (by simp only [encS14, modP_eq (b := 128) (m := (Int.ofNat s)) (e := (Int.ofNat (d + 8))) (by decide) (by decide) (reg_out hS) (reg_out hD), immP_eq, td_hi h1, td_lo h2, h4] <;> rfl) (pe14_29 d s dp (csF' (notT hv) (csF' (ge_lo h2) (csT' (ge_hi h1) (csF' h4 csN')))) w hL)
      · rcases Bool.eq_false_or_eq_true (Int.tmod (Int.ofNat (d + 8)) 8 == 4) with h4 | h4
        · exact retZ (by simp only [encS14, modP_eq (b := 128) (m := (Int.ofNat (s + 8))) (e := (Int.ofNat (d + 8))) (by decide) (by decide) (reg_out hS) (reg_out hD), immP_eq, td_hi h1, td_hi h2, h4] <;> rfl) (pe14_30 d s dp (csF' (notT hv) (csT' (ge_hi h2) (csT' (ge_hi h1) (csT' h4 csN')))) w hL)
        · exact retZ (by simp only [encS14, modP_eq (b := 128) (m := (Int.ofNat (s + 8))) (e := (Int.ofNat (d + 8))) (by decide) (by decide) (reg_out hS) (reg_out hD), immP_eq, td_hi h1, td_hi h2, h4] <;> rfl) (pe14_31 d s dp (csF' (notT hv) (csT' (ge_hi h2) (csT' (ge_hi h1) (csF' h4 csN')))) w hL)
theorem c_pe15 (al co si : Int) (wi sh : Bool) (ds sr dp re im : Int) (hv : vP15 al co si wi sh ds sr dp re im = true) (w : World) (hL : Laid h12 w) : Calls Tryd.prog 13 #[.agg ⟨(xA 15 al co si wi sh ds sr dp re im)⟩] w fun e w' => e = .returned (.tuple ⟨[.string ⟨⟨encS15 al co si wi sh ds sr dp re im⟩⟩, .int .i64 0]⟩) ∧ Gr w w' := by
  have hA := andL hv
  have hR := andL (andR hv)
  have hD := andL hR
  have hS := andR hR
  have hC := andL (andR (andR hv))
  obtain rfl : al = 0 := eq_of_beq (α := Int) (andL (andR hA))
  obtain rfl : co = 0 := eq_of_beq (α := Int) (andL (andR (andR hA)))
  obtain rfl : si = 0 := eq_of_beq (α := Int) (andL (andR (andR (andR hA))))
  obtain rfl : wi = false := eq_of_beq (α := Bool) (andL (andR (andR (andR (andR hA)))))
  obtain rfl : ds = 0 := eq_of_beq (α := Int) (andL (andR (andR (andR (andR (andR (andR hA)))))))
  obtain rfl : sr = 0 := eq_of_beq (α := Int) (andL (andR (andR (andR (andR (andR (andR (andR hA))))))))
  obtain rfl : dp = 0 := eq_of_beq (α := Int) (andL (andR (andR (andR (andR (andR (andR (andR (andR hA)))))))))
  obtain rfl : im = 0 := eq_of_beq (α := Int) (andL (andR (andR (andR (andR (andR (andR (andR (andR (andR (andR hA)))))))))))
  cases sh with
  | true =>
    exact retZ (by simp only [encS15, immR1] <;> rfl) (pe15_0 re (csF' (notT hv) csN') w hL)
  | false =>
    exact retZ (by simp only [encS15, immP_eq] <;> rfl) (pe15_1 re (csF' (notT hv) csN') w hL)
theorem c_pe16 (al co si : Int) (wi sh : Bool) (ds sr dp re im : Int) (hv : vP16 al co si wi sh ds sr dp re im = true) (w : World) (hL : Laid h12 w) : Calls Tryd.prog 13 #[.agg ⟨(xA 16 al co si wi sh ds sr dp re im)⟩] w fun e w' => e = .returned (.tuple ⟨[.string ⟨⟨encS16 al co si wi sh ds sr dp re im⟩⟩, .int .i64 0]⟩) ∧ Gr w w' := by
  have hA := andL hv
  have hR := andL (andR hv)
  have hD := andL hR
  have hS := andR hR
  have hC := andL (andR (andR hv))
  obtain rfl : al = 0 := eq_of_beq (α := Int) (andL (andR hA))
  obtain rfl : si = 0 := eq_of_beq (α := Int) (andL (andR (andR (andR hA))))
  obtain rfl : wi = false := eq_of_beq (α := Bool) (andL (andR (andR (andR (andR hA)))))
  obtain rfl : ds = 0 := eq_of_beq (α := Int) (andL (andR (andR (andR (andR (andR (andR hA)))))))
  obtain rfl : sr = 0 := eq_of_beq (α := Int) (andL (andR (andR (andR (andR (andR (andR (andR hA))))))))
  obtain rfl : dp = 0 := eq_of_beq (α := Int) (andL (andR (andR (andR (andR (andR (andR (andR (andR hA)))))))))
  obtain rfl : im = 0 := eq_of_beq (α := Int) (andL (andR (andR (andR (andR (andR (andR (andR (andR (andR (andR hA)))))))))))
  have hc := cc_out hC
  cases sh with
  | true =>
    exact retZ (by simp only [encS16, cndP_eq (b := 112) (by decide) (by decide) hc, immR1] <;> rfl) (pe16_0 co re (csF' (notT hv) csN') w hL)
  | false =>
    exact retZ (by simp only [encS16, cndP_eq (b := 128) (by decide) (by decide) hc, immP_eq] <;> rfl) (pe16_1 co re (csF' (notT hv) csN') w hL)
theorem c_pe17 (al co si : Int) (wi sh : Bool) (ds sr dp re im : Int) (hv : vP17 al co si wi sh ds sr dp re im = true) (w : World) (hL : Laid h12 w) : Calls Tryd.prog 13 #[.agg ⟨(xA 17 al co si wi sh ds sr dp re im)⟩] w fun e w' => e = .returned (.tuple ⟨[.string ⟨⟨encS17 al co si wi sh ds sr dp re im⟩⟩, .int .i64 0]⟩) ∧ Gr w w' := by
  have hA := andL hv
  have hR := andL (andR hv)
  have hD := andL hR
  have hS := andR hR
  have hC := andL (andR (andR hv))
  obtain rfl : al = 0 := eq_of_beq (α := Int) (andL (andR hA))
  obtain rfl : co = 0 := eq_of_beq (α := Int) (andL (andR (andR hA)))
  obtain rfl : si = 0 := eq_of_beq (α := Int) (andL (andR (andR (andR hA))))
  obtain rfl : wi = false := eq_of_beq (α := Bool) (andL (andR (andR (andR (andR hA)))))
  obtain rfl : sh = false := eq_of_beq (α := Bool) (andL (andR (andR (andR (andR (andR hA))))))
  obtain rfl : sr = 0 := eq_of_beq (α := Int) (andL (andR (andR (andR (andR (andR (andR (andR hA))))))))
  obtain rfl : dp = 0 := eq_of_beq (α := Int) (andL (andR (andR (andR (andR (andR (andR (andR (andR hA)))))))))
  obtain rfl : re = 0 := eq_of_beq (α := Int) (andL (andR (andR (andR (andR (andR (andR (andR (andR (andR hA))))))))))
  obtain rfl : im = 0 := eq_of_beq (α := Int) (andL (andR (andR (andR (andR (andR (andR (andR (andR (andR (andR hA)))))))))))
  rcases reg_cases hD with ⟨d, rfl, h1⟩ | ⟨d, rfl, h1⟩
  · exact retZ (by simp only [encS17, codP_eq (b := 80) (d := (Int.ofNat d)) (by decide) (by decide) (reg_out hD), td_lo h1] <;> rfl) (pe17_0 d (csF' (notT hv) (csF' (ge_lo h1) csN')) w hL)
  · exact retZ (by simp only [encS17, codP_eq (b := 80) (d := (Int.ofNat (d + 8))) (by decide) (by decide) (reg_out hD), td_hi h1] <;> rfl) (pe17_1 d (csF' (notT hv) (csT' (ge_hi h1) csN')) w hL)
theorem c_pe18 (al co si : Int) (wi sh : Bool) (ds sr dp re im : Int) (hv : vP18 al co si wi sh ds sr dp re im = true) (w : World) (hL : Laid h12 w) : Calls Tryd.prog 13 #[.agg ⟨(xA 18 al co si wi sh ds sr dp re im)⟩] w fun e w' => e = .returned (.tuple ⟨[.string ⟨⟨encS18 al co si wi sh ds sr dp re im⟩⟩, .int .i64 0]⟩) ∧ Gr w w' := by
  have hA := andL hv
  have hR := andL (andR hv)
  have hD := andL hR
  have hS := andR hR
  have hC := andL (andR (andR hv))
  obtain rfl : al = 0 := eq_of_beq (α := Int) (andL (andR hA))
  obtain rfl : co = 0 := eq_of_beq (α := Int) (andL (andR (andR hA)))
  obtain rfl : si = 0 := eq_of_beq (α := Int) (andL (andR (andR (andR hA))))
  obtain rfl : wi = false := eq_of_beq (α := Bool) (andL (andR (andR (andR (andR hA)))))
  obtain rfl : sh = false := eq_of_beq (α := Bool) (andL (andR (andR (andR (andR (andR hA))))))
  obtain rfl : sr = 0 := eq_of_beq (α := Int) (andL (andR (andR (andR (andR (andR (andR (andR hA))))))))
  obtain rfl : dp = 0 := eq_of_beq (α := Int) (andL (andR (andR (andR (andR (andR (andR (andR (andR hA)))))))))
  obtain rfl : re = 0 := eq_of_beq (α := Int) (andL (andR (andR (andR (andR (andR (andR (andR (andR (andR hA))))))))))
  obtain rfl : im = 0 := eq_of_beq (α := Int) (andL (andR (andR (andR (andR (andR (andR (andR (andR (andR (andR hA)))))))))))
  rcases reg_cases hD with ⟨d, rfl, h1⟩ | ⟨d, rfl, h1⟩
  · exact retZ (by simp only [encS18, codP_eq (b := 88) (d := (Int.ofNat d)) (by decide) (by decide) (reg_out hD), td_lo h1] <;> rfl) (pe18_0 d (csF' (notT hv) (csF' (ge_lo h1) csN')) w hL)
  · exact retZ (by simp only [encS18, codP_eq (b := 88) (d := (Int.ofNat (d + 8))) (by decide) (by decide) (reg_out hD), td_hi h1] <;> rfl) (pe18_1 d (csF' (notT hv) (csT' (ge_hi h1) csN')) w hL)
theorem c_pe19 (al co si : Int) (wi sh : Bool) (ds sr dp re im : Int) (hv : vP19 al co si wi sh ds sr dp re im = true) (w : World) (hL : Laid h12 w) : Calls Tryd.prog 13 #[.agg ⟨(xA 19 al co si wi sh ds sr dp re im)⟩] w fun e w' => e = .returned (.tuple ⟨[.string ⟨⟨encS19 al co si wi sh ds sr dp re im⟩⟩, .int .i64 0]⟩) ∧ Gr w w' := by
  have hA := andL hv
  have hR := andL (andR hv)
  have hD := andL hR
  have hS := andR hR
  have hC := andL (andR (andR hv))
  obtain rfl : al = 0 := eq_of_beq (α := Int) (andL (andR hA))
  obtain rfl : co = 0 := eq_of_beq (α := Int) (andL (andR (andR hA)))
  obtain rfl : si = 0 := eq_of_beq (α := Int) (andL (andR (andR (andR hA))))
  obtain rfl : wi = false := eq_of_beq (α := Bool) (andL (andR (andR (andR (andR hA)))))
  obtain rfl : sh = false := eq_of_beq (α := Bool) (andL (andR (andR (andR (andR (andR hA))))))
  obtain rfl : ds = 0 := eq_of_beq (α := Int) (andL (andR (andR (andR (andR (andR (andR hA)))))))
  obtain rfl : sr = 0 := eq_of_beq (α := Int) (andL (andR (andR (andR (andR (andR (andR (andR hA))))))))
  obtain rfl : dp = 0 := eq_of_beq (α := Int) (andL (andR (andR (andR (andR (andR (andR (andR (andR hA)))))))))
  obtain rfl : re = 0 := eq_of_beq (α := Int) (andL (andR (andR (andR (andR (andR (andR (andR (andR (andR hA))))))))))
  obtain rfl : im = 0 := eq_of_beq (α := Int) (andL (andR (andR (andR (andR (andR (andR (andR (andR (andR (andR hA)))))))))))
  exact retZ (by simp only [encS19] <;> rfl) (pe19_0  (csF' (notT hv) csN') w hL)
theorem c_pe20 (al co si : Int) (wi sh : Bool) (ds sr dp re im : Int) (hv : vP20 al co si wi sh ds sr dp re im = true) (w : World) (hL : Laid h12 w) : Calls Tryd.prog 13 #[.agg ⟨(xA 20 al co si wi sh ds sr dp re im)⟩] w fun e w' => e = .returned (.tuple ⟨[.string ⟨⟨encS20 al co si wi sh ds sr dp re im⟩⟩, .int .i64 0]⟩) ∧ Gr w w' := by
  have hA := andL hv
  have hR := andL (andR hv)
  have hD := andL hR
  have hS := andR hR
  have hC := andL (andR (andR hv))
  obtain rfl : al = 0 := eq_of_beq (α := Int) (andL (andR hA))
  obtain rfl : co = 0 := eq_of_beq (α := Int) (andL (andR (andR hA)))
  obtain rfl : si = 0 := eq_of_beq (α := Int) (andL (andR (andR (andR hA))))
  obtain rfl : wi = false := eq_of_beq (α := Bool) (andL (andR (andR (andR (andR hA)))))
  obtain rfl : sh = false := eq_of_beq (α := Bool) (andL (andR (andR (andR (andR (andR hA))))))
  obtain rfl : ds = 0 := eq_of_beq (α := Int) (andL (andR (andR (andR (andR (andR (andR hA)))))))
  obtain rfl : sr = 0 := eq_of_beq (α := Int) (andL (andR (andR (andR (andR (andR (andR (andR hA))))))))
  obtain rfl : dp = 0 := eq_of_beq (α := Int) (andL (andR (andR (andR (andR (andR (andR (andR (andR hA)))))))))
  obtain rfl : im = 0 := eq_of_beq (α := Int) (andL (andR (andR (andR (andR (andR (andR (andR (andR (andR (andR hA)))))))))))
  exact retZ (by simp only [encS20, immP_eq] <;> rfl) (pe20_0 re (csF' (notT hv) csN') w hL)
theorem c_pe21 (al co si : Int) (wi sh : Bool) (ds sr dp re im : Int) (hv : vP21 al co si wi sh ds sr dp re im = true) (w : World) (hL : Laid h12 w) : Calls Tryd.prog 13 #[.agg ⟨(xA 21 al co si wi sh ds sr dp re im)⟩] w fun e w' => e = .returned (.tuple ⟨[.string ⟨⟨encS21 al co si wi sh ds sr dp re im⟩⟩, .int .i64 0]⟩) ∧ Gr w w' := by
  have hA := andL hv
  have hR := andL (andR hv)
  have hD := andL hR
  have hS := andR hR
  have hC := andL (andR (andR hv))
  obtain rfl : al = 0 := eq_of_beq (α := Int) (andL (andR hA))
  obtain rfl : co = 0 := eq_of_beq (α := Int) (andL (andR (andR hA)))
  obtain rfl : si = 0 := eq_of_beq (α := Int) (andL (andR (andR (andR hA))))
  obtain rfl : wi = false := eq_of_beq (α := Bool) (andL (andR (andR (andR (andR hA)))))
  obtain rfl : sh = false := eq_of_beq (α := Bool) (andL (andR (andR (andR (andR (andR hA))))))
  obtain rfl : ds = 0 := eq_of_beq (α := Int) (andL (andR (andR (andR (andR (andR (andR hA)))))))
  obtain rfl : sr = 0 := eq_of_beq (α := Int) (andL (andR (andR (andR (andR (andR (andR (andR hA))))))))
  obtain rfl : dp = 0 := eq_of_beq (α := Int) (andL (andR (andR (andR (andR (andR (andR (andR (andR hA)))))))))
  obtain rfl : re = 0 := eq_of_beq (α := Int) (andL (andR (andR (andR (andR (andR (andR (andR (andR (andR hA))))))))))
  obtain rfl : im = 0 := eq_of_beq (α := Int) (andL (andR (andR (andR (andR (andR (andR (andR (andR (andR (andR hA)))))))))))
  exact retZ (by simp only [encS21] <;> rfl) (pe21_0  (csF' (notT hv) csN') w hL)
theorem pe_bad (k : Int) (al co si : Int) (wi sh : Bool) (ds sr dp re im : Int) : Lf h12 13 [.agg ⟨(xA k al co si wi sh ds sr dp re im)⟩] (.tuple ⟨[.string ⟨⟨[]⟩⟩, .int .i64 2]⟩) [(b2i (!vP k al co si wi sh ds sr dp re im), 1)] := lf hkE_ok (ocs [(13, 11, .bool true)] []) (by kernel_rfl) (by kernel_rfl) (by kernel_rfl)
def encB (k : Int) (al co si : Int) (wi sh : Bool) (ds sr dp re im : Int) : List UInt8 := if vP k al co si wi sh ds sr dp re im then encS k al co si wi sh ds sr dp re im else []
def encE (k : Int) (al co si : Int) (wi sh : Bool) (ds sr dp re im : Int) : Int := if vP k al co si wi sh ds sr dp re im then 0 else 2
theorem c_penc (k : Int) (al co si : Int) (wi sh : Bool) (ds sr dp re im : Int) (w : World) (hL : Laid h12 w) : Calls Tryd.prog 13 #[.agg ⟨(xA k al co si wi sh ds sr dp re im)⟩] w fun e w' => e = .returned (.tuple ⟨[.string ⟨⟨encB k al co si wi sh ds sr dp re im⟩⟩, .int .i64 (encE k al co si wi sh ds sr dp re im)]⟩) ∧ Gr w w' := by
  rcases Bool.eq_false_or_eq_true (vP k al co si wi sh ds sr dp re im) with h | h
  · by_cases hk : 1 ≤ k ∧ k ≤ 21
    · rcases kinds (k := k) (by simp only [decide_eq_false_iff_not]; omega) (by simp only [decide_eq_false_iff_not]; omega) with rfl | rfl | rfl | rfl | rfl | rfl | rfl | rfl | rfl | rfl | rfl | rfl | rfl | rfl | rfl | rfl | rfl | rfl | rfl | rfl | rfl
      · exact retZ (by simp only [encB, encE, h]; rfl) (c_pe1 al co si wi sh ds sr dp re im h w hL)
      · exact retZ (by simp only [encB, encE, h]; rfl) (c_pe2 al co si wi sh ds sr dp re im h w hL)
      · exact retZ (by simp only [encB, encE, h]; rfl) (c_pe3 al co si wi sh ds sr dp re im h w hL)
      · exact retZ (by simp only [encB, encE, h]; rfl) (c_pe4 al co si wi sh ds sr dp re im h w hL)
      · exact retZ (by simp only [encB, encE, h]; rfl) (c_pe5 al co si wi sh ds sr dp re im h w hL)
      · exact retZ (by simp only [encB, encE, h]; rfl) (c_pe6 al co si wi sh ds sr dp re im h w hL)
      · exact retZ (by simp only [encB, encE, h]; rfl) (c_pe7 al co si wi sh ds sr dp re im h w hL)
      · exact retZ (by simp only [encB, encE, h]; rfl) (c_pe8 al co si wi sh ds sr dp re im h w hL)
      · exact retZ (by simp only [encB, encE, h]; rfl) (c_pe9 al co si wi sh ds sr dp re im h w hL)
      · exact retZ (by simp only [encB, encE, h]; rfl) (c_pe10 al co si wi sh ds sr dp re im h w hL)
      · exact retZ (by simp only [encB, encE, h]; rfl) (c_pe11 al co si wi sh ds sr dp re im h w hL)
      · exact retZ (by simp only [encB, encE, h]; rfl) (c_pe12 al co si wi sh ds sr dp re im h w hL)
      · exact retZ (by simp only [encB, encE, h]; rfl) (c_pe13 al co si wi sh ds sr dp re im h w hL)
      · exact retZ (by simp only [encB, encE, h]; rfl) (c_pe14 al co si wi sh ds sr dp re im h w hL)
      · exact retZ (by simp only [encB, encE, h]; rfl) (c_pe15 al co si wi sh ds sr dp re im h w hL)
      · exact retZ (by simp only [encB, encE, h]; rfl) (c_pe16 al co si wi sh ds sr dp re im h w hL)
      · exact retZ (by simp only [encB, encE, h]; rfl) (c_pe17 al co si wi sh ds sr dp re im h w hL)
      · exact retZ (by simp only [encB, encE, h]; rfl) (c_pe18 al co si wi sh ds sr dp re im h w hL)
      · exact retZ (by simp only [encB, encE, h]; rfl) (c_pe19 al co si wi sh ds sr dp re im h w hL)
      · exact retZ (by simp only [encB, encE, h]; rfl) (c_pe20 al co si wi sh ds sr dp re im h w hL)
      · exact retZ (by simp only [encB, encE, h]; rfl) (c_pe21 al co si wi sh ds sr dp re im h w hL)
    · exfalso
      have nd : ∀ n : Int, 1 ≤ n → n ≤ 21 → ¬ k = n := fun n h1 h2 => by omega
      unfold vP at h
      rw [if_neg (nd 1 (by omega) (by omega)), if_neg (nd 2 (by omega) (by omega)), if_neg (nd 3 (by omega) (by omega)), if_neg (nd 4 (by omega) (by omega)), if_neg (nd 5 (by omega) (by omega)), if_neg (nd 6 (by omega) (by omega)), if_neg (nd 7 (by omega) (by omega)), if_neg (nd 8 (by omega) (by omega)), if_neg (nd 9 (by omega) (by omega)), if_neg (nd 10 (by omega) (by omega)), if_neg (nd 11 (by omega) (by omega)), if_neg (nd 12 (by omega) (by omega)), if_neg (nd 13 (by omega) (by omega)), if_neg (nd 14 (by omega) (by omega)), if_neg (nd 15 (by omega) (by omega)), if_neg (nd 16 (by omega) (by omega)), if_neg (nd 17 (by omega) (by omega)), if_neg (nd 18 (by omega) (by omega)), if_neg (nd 19 (by omega) (by omega)), if_neg (nd 20 (by omega) (by omega)), if_neg (nd 21 (by omega) (by omega))] at h
      cases h
  · exact retZ (by simp only [encB, encE, h]; rfl) (pe_bad k al co si wi sh ds sr dp re im (csT' (by rw [h]; rfl) csN') w hL)
def hk_enc : Hook := fun f args h =>
  if Nat.beq f 13 && hasG h12 h then
    match args with
    | [.agg ⟨[.int .i64 p0, .int .i64 p1, .int .i64 p2, .int .i64 p3, .bool p4, .bool p5, .int .i64 p6, .int .i64 p7, .int .i32 p8, .int .i32 p9, .int .i64 p10]⟩] => some (.tuple ⟨[.string ⟨⟨encB p0 p1 p2 p3 p4 p5 p6 p7 p8 p9 p10⟩⟩, .int .i64 (encE p0 p1 p2 p3 p4 p5 p6 p7 p8 p9 p10)]⟩, [])
    | _ => none
  else none
theorem hk_enc_ok : HookOk Tryd.prog hk_enc := by
  intro f args h v cs hv hc wb k s w H
  unfold hk_enc at hv
  split at hv
  · rename_i hf
    simp only [Bool.and_eq_true] at hf
    obtain rfl := Nat.eq_of_beq_eq_true hf.1
    split at hv
    · cases hv
      exact c_penc _ _ _ _ _ _ _ _ _ _ _ w (H.laid hf.2 rfl)
    · cases hv
  · cases hv
end Go.Proofs.YtbaiokfjoglmiaaDoor.Ex
