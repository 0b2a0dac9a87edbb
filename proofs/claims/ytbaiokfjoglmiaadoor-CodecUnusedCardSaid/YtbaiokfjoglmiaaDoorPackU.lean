/-
  Lemmas for the laws of this seat, part U: Cd9, CdD, SlHook, CdB, CdE0.
-/
import Derived.Test.YtbaiokfjoglmiaaDoorPackT
section
namespace Go.Proofs.YtbaiokfjoglmiaaDoor.Ex
open Go Go.RowKit
set_option linter.unusedVariables false
set_option linter.unusedSimpArgs false
set_option maxHeartbeats 0
set_option maxRecDepth 1000000
theorem immR1 (re : Int) : immR re 1 = [ub (IntKind.u8.wrap re)] := by
  have h := u64_lt re
  show [UInt8.ofNat (IntKind.u8.wrap (Int.tmod (IntKind.u64.wrap re) 256)).toNat] = [ub (IntKind.u8.wrap re)]
  rw [Int.tmod_eq_emod_of_nonneg h.1, wru]
  unfold ub
  simp only [wr8]
  rw [show re % 18446744073709551616 % 256 % 256 = re % 256 by omega]
theorem c_pe1 (al co si : Int) (wi sh : Bool) (ds sr dp re im : Int) (hv : vP1 al co si wi sh ds sr dp re im = true) (w : World) (hL : Laid h12 w) : Calls Tryd.prog 13 #[.agg ⟨(xA 1 al co si wi sh ds sr dp re im)⟩] w fun e w' => e = .returned (.tuple ⟨[.string ⟨⟨encS1 al co si wi sh ds sr dp re im⟩⟩, .int .i64 0]⟩) ∧ Gr w w' := by
  have hA := andL hv
  have hR := andL (andR hv)
  have hD := andL hR
  have hS := andR hR
  have hC := andL (andR (andR hv))
  obtain rfl : al = 0 := eq_of_beq (α := Int) (andL (andR hA))
  obtain rfl : co = 0 := eq_of_beq (α := Int) (andL (andR (andR hA)))
  obtain rfl : si = 0 := eq_of_beq (α := Int) (andL (andR (andR (andR hA))))
  obtain rfl : sh = false := eq_of_beq (α := Bool) (andL (andR (andR (andR (andR (andR hA))))))
  obtain rfl : dp = 0 := eq_of_beq (α := Int) (andL (andR (andR (andR (andR (andR (andR (andR (andR hA)))))))))
  obtain rfl : re = 0 := eq_of_beq (α := Int) (andL (andR (andR (andR (andR (andR (andR (andR (andR (andR hA))))))))))
  obtain rfl : im = 0 := eq_of_beq (α := Int) (andL (andR (andR (andR (andR (andR (andR (andR (andR (andR (andR hA)))))))))))
  cases wi with
  | true =>
    rcases reg_cases hD with ⟨d, rfl, h1⟩ | ⟨d, rfl, h1⟩
    · rcases reg_cases hS with ⟨s, rfl, h2⟩ | ⟨s, rfl, h2⟩
      · exact retZ (by simp only [encS1, modP_eq (b := 192) (m := (Int.ofNat s)) (e := (Int.ofNat d)) (by decide) (by decide) (reg_out hS) (reg_out hD), td_lo h1, td_lo h2] <;> rfl) (pe1_0 d s (csF' (notT hv) (csF' (ge_lo h2) (csF' (ge_lo h1) csN'))) w hL)
      · exact retZ (by simp only [encS1, modP_eq (b := 192) (m := (Int.ofNat (s + 8))) (e := (Int.ofNat d)) (by decide) (by decide) (reg_out hS) (reg_out hD), td_lo h1, td_hi h2] <;> rfl) (pe1_1 d s (csF' (notT hv) (csT' (ge_hi h2) (csF' (ge_lo h1) csN'))) w hL)
    · rcases reg_cases hS with ⟨s, rfl, h2⟩ | ⟨s, rfl, h2⟩
      · exact retZ (by simp only [encS1, modP_eq (b := 192) (m := (Int.ofNat s)) (e := (Int.ofNat (d + 8))) (by decide) (by decide) (reg_out hS) (reg_out hD), td_hi h1, td_lo h2] <;> rfl) (pe1_2 d s (csF' (notT hv) (csF' (ge_lo h2) (csT' (ge_hi h1) csN'))) w hL)
      · exact retZ (by simp only [encS1, modP_eq (b := 192) (m := (Int.ofNat (s + 8))) (e := (Int.ofNat (d + 8))) (by decide) (by decide) (reg_out hS) (reg_out hD), td_hi h1, td_hi h2] <;> rfl) (pe1_3 d s (csF' (notT hv) (csT' (ge_hi h2) (csT' (ge_hi h1) csN'))) w hL)
  | false =>
    rcases reg_cases hD with ⟨d, rfl, h1⟩ | ⟨d, rfl, h1⟩
    · rcases reg_cases hS with ⟨s, rfl, h2⟩ | ⟨s, rfl, h2⟩
      · exact retZ (by simp only [encS1, modP_eq (b := 192) (m := (Int.ofNat s)) (e := (Int.ofNat d)) (by decide) (by decide) (reg_out hS) (reg_out hD), td_lo h1, td_lo h2] <;> rfl) (pe1_4 d s (csF' (notT hv) (csF' (ge_lo h2) (csF' (ge_lo h1) csN'))) w hL)
      · exact retZ (by simp only [encS1, modP_eq (b := 192) (m := (Int.ofNat (s + 8))) (e := (Int.ofNat d)) (by decide) (by decide) (reg_out hS) (reg_out hD), td_lo h1, td_hi h2] <;> rfl) (pe1_5 d s (csF' (notT hv) (csT' (ge_hi h2) (csF' (ge_lo h1) csN'))) w hL)
    · rcases reg_cases hS with ⟨s, rfl, h2⟩ | ⟨s, rfl, h2⟩
      · exact retZ (by simp only [encS1, modP_eq (b := 192) (m := (Int.ofNat s)) (e := (Int.ofNat (d + 8))) (by decide) (by decide) (reg_out hS) (reg_out hD), td_hi h1, td_lo h2] <;> rfl) (pe1_6 d s (csF' (notT hv) (csF' (ge_lo h2) (csT' (ge_hi h1) csN'))) w hL)
      · exact retZ (by simp only [encS1, modP_eq (b := 192) (m := (Int.ofNat (s + 8))) (e := (Int.ofNat (d + 8))) (by decide) (by decide) (reg_out hS) (reg_out hD), td_hi h1, td_hi h2] <;> rfl) (pe1_7 d s (csF' (notT hv) (csT' (ge_hi h2) (csT' (ge_hi h1) csN'))) w hL)
theorem c_pe2 (al co si : Int) (wi sh : Bool) (ds sr dp re im : Int) (hv : vP2 al co si wi sh ds sr dp re im = true) (w : World) (hL : Laid h12 w) : Calls Tryd.prog 13 #[.agg ⟨(xA 2 al co si wi sh ds sr dp re im)⟩] w fun e w' => e = .returned (.tuple ⟨[.string ⟨⟨encS2 al co si wi sh ds sr dp re im⟩⟩, .int .i64 0]⟩) ∧ Gr w w' := by
  have hA := andL hv
  have hR := andL (andR hv)
  have hD := andL hR
  have hS := andR hR
  have hC := andL (andR (andR hv))
  obtain rfl : al = 0 := eq_of_beq (α := Int) (andL (andR hA))
  obtain rfl : co = 0 := eq_of_beq (α := Int) (andL (andR (andR hA)))
  obtain rfl : si = 0 := eq_of_beq (α := Int) (andL (andR (andR (andR hA))))
  obtain rfl : sh = false := eq_of_beq (α := Bool) (andL (andR (andR (andR (andR (andR hA))))))
  obtain rfl : sr = 0 := eq_of_beq (α := Int) (andL (andR (andR (andR (andR (andR (andR (andR hA))))))))
  obtain rfl : dp = 0 := eq_of_beq (α := Int) (andL (andR (andR (andR (andR (andR (andR (andR (andR hA)))))))))
  obtain rfl : re = 0 := eq_of_beq (α := Int) (andL (andR (andR (andR (andR (andR (andR (andR (andR (andR hA))))))))))
  obtain rfl : wi = true := hC
  rcases reg_cases hD with ⟨d, rfl, h1⟩ | ⟨d, rfl, h1⟩
  · exact retZ (by simp only [encS2, modP_eq (b := 192) (m := 0) (e := (Int.ofNat d)) (by decide) (by decide) (by decide) (reg_out hD), immP_eq, td_lo h1] <;> rfl) (pe2_0 d im (csF' (notT hv) (csF' (ge_lo h1) csN')) w hL)
  · exact retZ (by simp only [encS2, modP_eq (b := 192) (m := 0) (e := (Int.ofNat (d + 8))) (by decide) (by decide) (by decide) (reg_out hD), immP_eq, td_hi h1] <;> rfl) (pe2_1 d im (csF' (notT hv) (csT' (ge_hi h1) csN')) w hL)
theorem c_pe3 (al co si : Int) (wi sh : Bool) (ds sr dp re im : Int) (hv : vP3 al co si wi sh ds sr dp re im = true) (w : World) (hL : Laid h12 w) : Calls Tryd.prog 13 #[.agg ⟨(xA 3 al co si wi sh ds sr dp re im)⟩] w fun e w' => e = .returned (.tuple ⟨[.string ⟨⟨encS3 al co si wi sh ds sr dp re im⟩⟩, .int .i64 0]⟩) ∧ Gr w w' := by
  have hA := andL hv
  have hR := andL (andR hv)
  have hD := andL hR
  have hS := andR hR
  have hC := andL (andR (andR hv))
  obtain rfl : al = 0 := eq_of_beq (α := Int) (andL (andR hA))
  obtain rfl : co = 0 := eq_of_beq (α := Int) (andL (andR (andR hA)))
  obtain rfl : si = 0 := eq_of_beq (α := Int) (andL (andR (andR (andR hA))))
  obtain rfl : sh = false := eq_of_beq (α := Bool) (andL (andR (andR (andR (andR (andR hA))))))
  obtain rfl : sr = 0 := eq_of_beq (α := Int) (andL (andR (andR (andR (andR (andR (andR (andR hA))))))))
  obtain rfl : dp = 0 := eq_of_beq (α := Int) (andL (andR (andR (andR (andR (andR (andR (andR (andR hA)))))))))
  obtain rfl : re = 0 := eq_of_beq (α := Int) (andL (andR (andR (andR (andR (andR (andR (andR (andR (andR hA))))))))))
  obtain rfl : wi = true := hC
  rcases reg_cases hD with ⟨d, rfl, h1⟩ | ⟨d, rfl, h1⟩
  · exact retZ (by simp only [encS3, codP_eq (b := 184) (d := (Int.ofNat d)) (by decide) (by decide) (reg_out hD), immP_eq, td_lo h1] <;> rfl) (pe3_0 d im (csF' (notT hv) (csF' (ge_lo h1) csN')) w hL)
  · exact retZ (by simp only [encS3, codP_eq (b := 184) (d := (Int.ofNat (d + 8))) (by decide) (by decide) (reg_out hD), immP_eq, td_hi h1] <;> rfl) (pe3_1 d im (csF' (notT hv) (csT' (ge_hi h1) csN')) w hL)
theorem c_pe4 (al co si : Int) (wi sh : Bool) (ds sr dp re im : Int) (hv : vP4 al co si wi sh ds sr dp re im = true) (w : World) (hL : Laid h12 w) : Calls Tryd.prog 13 #[.agg ⟨(xA 4 al co si wi sh ds sr dp re im)⟩] w fun e w' => e = .returned (.tuple ⟨[.string ⟨⟨encS4 al co si wi sh ds sr dp re im⟩⟩, .int .i64 0]⟩) ∧ Gr w w' := by
  have hA := andL hv
  have hR := andL (andR hv)
  have hD := andL hR
  have hS := andR hR
  have hC := andL (andR (andR hv))
  obtain rfl : co = 0 := eq_of_beq (α := Int) (andL (andR (andR hA)))
  obtain rfl : si = 0 := eq_of_beq (α := Int) (andL (andR (andR (andR hA))))
  obtain rfl : sh = false := eq_of_beq (α := Bool) (andL (andR (andR (andR (andR (andR hA))))))
  obtain rfl : dp = 0 := eq_of_beq (α := Int) (andL (andR (andR (andR (andR (andR (andR (andR (andR hA)))))))))
  obtain rfl : re = 0 := eq_of_beq (α := Int) (andL (andR (andR (andR (andR (andR (andR (andR (andR (andR hA))))))))))
  obtain rfl : im = 0 := eq_of_beq (α := Int) (andL (andR (andR (andR (andR (andR (andR (andR (andR (andR (andR hA)))))))))))
  have ha := alu_out hC
  cases wi with
  | true =>
    rcases reg_cases hD with ⟨d, rfl, h1⟩ | ⟨d, rfl, h1⟩
    · rcases reg_cases hS with ⟨s, rfl, h2⟩ | ⟨s, rfl, h2⟩
      · exact retZ (by simp only [encS4, modP_eq (b := 192) (m := (Int.ofNat s)) (e := (Int.ofNat d)) (by decide) (by decide) (reg_out hS) (reg_out hD), aluP_eq ha, td_lo h1, td_lo h2] <;> rfl) (pe4_0 al d s (csF' (notT hv) (csF' (ge_lo h2) (csF' (ge_lo h1) csN'))) w hL)
      · exact retZ (by simp only [encS4, modP_eq (b := 192) (m := (Int.ofNat (s + 8))) (e := (Int.ofNat d)) (by decide) (by decide) (reg_out hS) (reg_out hD), aluP_eq ha, td_lo h1, td_hi h2] <;> rfl) (pe4_1 al d s (csF' (notT hv) (csT' (ge_hi h2) (csF' (ge_lo h1) csN'))) w hL)
    · rcases reg_cases hS with ⟨s, rfl, h2⟩ | ⟨s, rfl, h2⟩
      · exact retZ (by simp only [encS4, modP_eq (b := 192) (m := (Int.ofNat s)) (e := (Int.ofNat (d + 8))) (by decide) (by decide) (reg_out hS) (reg_out hD), aluP_eq ha, td_hi h1, td_lo h2] <;> rfl) (pe4_2 al d s (csF' (notT hv) (csF' (ge_lo h2) (csT' (ge_hi h1) csN'))) w hL)
      · exact retZ (by simp only [encS4, modP_eq (b := 192) (m := (Int.ofNat (s + 8))) (e := (Int.ofNat (d + 8))) (by decide) (by decide) (reg_out hS) (reg_out hD), aluP_eq ha, td_hi h1, td_hi h2] <;> rfl) (pe4_3 al d s (csF' (notT hv) (csT' (ge_hi h2) (csT' (ge_hi h1) csN'))) w hL)
  | false =>
    rcases reg_cases hD with ⟨d, rfl, h1⟩ | ⟨d, rfl, h1⟩
    · rcases reg_cases hS with ⟨s, rfl, h2⟩ | ⟨s, rfl, h2⟩
      · exact retZ (by simp only [encS4, modP_eq (b := 192) (m := (Int.ofNat s)) (e := (Int.ofNat d)) (by decide) (by decide) (reg_out hS) (reg_out hD), aluP_eq ha, td_lo h1, td_lo h2] <;> rfl) (pe4_4 al d s (csF' (notT hv) (csF' (ge_lo h2) (csF' (ge_lo h1) csN'))) w hL)
      · exact retZ (by simp only [encS4, modP_eq (b := 192) (m := (Int.ofNat (s + 8))) (e := (Int.ofNat d)) (by decide) (by decide) (reg_out hS) (reg_out hD), aluP_eq ha, td_lo h1, td_hi h2] <;> rfl) (pe4_5 al d s (csF' (notT hv) (csT' (ge_hi h2) (csF' (ge_lo h1) csN'))) w hL)
    · rcases reg_cases hS with ⟨s, rfl, h2⟩ | ⟨s, rfl, h2⟩
      · exact retZ (by simp only [encS4, modP_eq (b := 192) (m := (Int.ofNat s)) (e := (Int.ofNat (d + 8))) (by decide) (by decide) (reg_out hS) (reg_out hD), aluP_eq ha, td_hi h1, td_lo h2] <;> rfl) (pe4_6 al d s (csF' (notT hv) (csF' (ge_lo h2) (csT' (ge_hi h1) csN'))) w hL)
      · exact retZ (by simp only [encS4, modP_eq (b := 192) (m := (Int.ofNat (s + 8))) (e := (Int.ofNat (d + 8))) (by decide) (by decide) (reg_out hS) (reg_out hD), aluP_eq ha, td_hi h1, td_hi h2] <;> rfl) (pe4_7 al d s (csF' (notT hv) (csT' (ge_hi h2) (csT' (ge_hi h1) csN'))) w hL)
theorem c_pe5 (al co si : Int) (wi sh : Bool) (ds sr dp re im : Int) (hv : vP5 al co si wi sh ds sr dp re im = true) (w : World) (hL : Laid h12 w) : Calls Tryd.prog 13 #[.agg ⟨(xA 5 al co si wi sh ds sr dp re im)⟩] w fun e w' => e = .returned (.tuple ⟨[.string ⟨⟨encS5 al co si wi sh ds sr dp re im⟩⟩, .int .i64 0]⟩) ∧ Gr w w' := by
  have hA := andL hv
  have hR := andL (andR hv)
  have hD := andL hR
  have hS := andR hR
  have hC := andL (andR (andR hv))
  obtain rfl : co = 0 := eq_of_beq (α := Int) (andL (andR (andR hA)))
  obtain rfl : si = 0 := eq_of_beq (α := Int) (andL (andR (andR (andR hA))))
  obtain rfl : sh = false := eq_of_beq (α := Bool) (andL (andR (andR (andR (andR (andR hA))))))
  obtain rfl : sr = 0 := eq_of_beq (α := Int) (andL (andR (andR (andR (andR (andR (andR (andR hA))))))))
  obtain rfl : dp = 0 := eq_of_beq (α := Int) (andL (andR (andR (andR (andR (andR (andR (andR (andR hA)))))))))
  obtain rfl : re = 0 := eq_of_beq (α := Int) (andL (andR (andR (andR (andR (andR (andR (andR (andR (andR hA))))))))))
  have ha := alu_out hC
  cases wi with
  | true =>
    rcases reg_cases hD with ⟨d, rfl, h1⟩ | ⟨d, rfl, h1⟩
    · exact retZ (by simp only [encS5, modP_eq (b := 192) (m := al) (e := (Int.ofNat d)) (by decide) (by decide) ⟨ha.1, Int.lt_trans ha.2 (by decide)⟩ (reg_out hD), immP_eq, td_lo h1] <;> rfl) (pe5_0 al d im (csF' (notT hv) (csF' (ge_no ha) (csF' (ge_lo h1) csN'))) w hL)
    · exact retZ (by simp only [encS5, modP_eq (b := 192) (m := al) (e := (Int.ofNat (d + 8))) (by decide) (by decide) ⟨ha.1, Int.lt_trans ha.2 (by decide)⟩ (reg_out hD), immP_eq, td_hi h1] <;> rfl) (pe5_1 al d im (csF' (notT hv) (csF' (ge_no ha) (csT' (ge_hi h1) csN'))) w hL)
  | false =>
    rcases reg_cases hD with ⟨d, rfl, h1⟩ | ⟨d, rfl, h1⟩
    · exact retZ (by simp only [encS5, modP_eq (b := 192) (m := al) (e := (Int.ofNat d)) (by decide) (by decide) ⟨ha.1, Int.lt_trans ha.2 (by decide)⟩ (reg_out hD), immP_eq, td_lo h1] <;> rfl) (pe5_2 al d im (csF' (notT hv) (csF' (ge_no ha) (csF' (ge_lo h1) csN'))) w hL)
    · exact retZ (by simp only [encS5, modP_eq (b := 192) (m := al) (e := (Int.ofNat (d + 8))) (by decide) (by decide) ⟨ha.1, Int.lt_trans ha.2 (by decide)⟩ (reg_out hD), immP_eq, td_hi h1] <;> rfl) (pe5_3 al d im (csF' (notT hv) (csF' (ge_no ha) (csT' (ge_hi h1) csN'))) w hL)
theorem c_pe6 (al co si : Int) (wi sh : Bool) (ds sr dp re im : Int) (hv : vP6 al co si wi sh ds sr dp re im = true) (w : World) (hL : Laid h12 w) : Calls Tryd.prog 13 #[.agg ⟨(xA 6 al co si wi sh ds sr dp re im)⟩] w fun e w' => e = .returned (.tuple ⟨[.string ⟨⟨encS6 al co si wi sh ds sr dp re im⟩⟩, .int .i64 0]⟩) ∧ Gr w w' := by
  have hA := andL hv
  have hR := andL (andR hv)
  have hD := andL hR
  have hS := andR hR
  have hC := andL (andR (andR hv))
  obtain rfl : al = 0 := eq_of_beq (α := Int) (andL (andR hA))
  obtain rfl : co = 0 := eq_of_beq (α := Int) (andL (andR (andR hA)))
  obtain rfl : si = 0 := eq_of_beq (α := Int) (andL (andR (andR (andR hA))))
  obtain rfl : sh = false := eq_of_beq (α := Bool) (andL (andR (andR (andR (andR (andR hA))))))
  obtain rfl : dp = 0 := eq_of_beq (α := Int) (andL (andR (andR (andR (andR (andR (andR (andR (andR hA)))))))))
  obtain rfl : re = 0 := eq_of_beq (α := Int) (andL (andR (andR (andR (andR (andR (andR (andR (andR (andR hA))))))))))
  obtain rfl : im = 0 := eq_of_beq (α := Int) (andL (andR (andR (andR (andR (andR (andR (andR (andR (andR (andR hA)))))))))))
  cases wi with
  | true =>
    rcases reg_cases hD with ⟨d, rfl, h1⟩ | ⟨d, rfl, h1⟩
    · rcases reg_cases hS with ⟨s, rfl, h2⟩ | ⟨s, rfl, h2⟩
      · exact retZ (by simp only [encS6, modP_eq (b := 192) (m := (Int.ofNat s)) (e := (Int.ofNat d)) (by decide) (by decide) (reg_out hS) (reg_out hD), td_lo h1, td_lo h2] <;> rfl) (pe6_0 d s (csF' (notT hv) (csF' (ge_lo h2) (csF' (ge_lo h1) csN'))) w hL)
      · exact retZ (by simp only [encS6, modP_eq (b := 192) (m := (Int.ofNat (s + 8))) (e := (Int.ofNat d)) (by decide) (by decide) (reg_out hS) (reg_out hD), td_lo h1, td_hi h2] <;> rfl) (pe6_1 d s (csF' (notT hv) (csT' (ge_hi h2) (csF' (ge_lo h1) csN'))) w hL)
    · rcases reg_cases hS with ⟨s, rfl, h2⟩ | ⟨s, rfl, h2⟩
      · exact retZ (by simp only [encS6, modP_eq (b := 192) (m := (Int.ofNat s)) (e := (Int.ofNat (d + 8))) (by decide) (by decide) (reg_out hS) (reg_out hD), td_hi h1, td_lo h2] <;> rfl) (pe6_2 d s (csF' (notT hv) (csF' (ge_lo h2) (csT' (ge_hi h1) csN'))) w hL)
      · exact retZ (by simp only [encS6, modP_eq (b := 192) (m := (Int.ofNat (s + 8))) (e := (Int.ofNat (d + 8))) (by decide) (by decide) (reg_out hS) (reg_out hD), td_hi h1, td_hi h2] <;> rfl) (pe6_3 d s (csF' (notT hv) (csT' (ge_hi h2) (csT' (ge_hi h1) csN'))) w hL)
  | false =>
    rcases reg_cases hD with ⟨d, rfl, h1⟩ | ⟨d, rfl, h1⟩
    · rcases reg_cases hS with ⟨s, rfl, h2⟩ | ⟨s, rfl, h2⟩
      · exact retZ (by simp only [encS6, modP_eq (b := 192) (m := (Int.ofNat s)) (e := (Int.ofNat d)) (by decide) (by decide) (reg_out hS) (reg_out hD), td_lo h1, td_lo h2] <;> rfl) (pe6_4 d s (csF' (notT hv) (csF' (ge_lo h2) (csF' (ge_lo h1) csN'))) w hL)
      · exact retZ (by simp only [encS6, modP_eq (b := 192) (m := (Int.ofNat (s + 8))) (e := (Int.ofNat d)) (by decide) (by decide) (reg_out hS) (reg_out hD), td_lo h1, td_hi h2] <;> rfl) (pe6_5 d s (csF' (notT hv) (csT' (ge_hi h2) (csF' (ge_lo h1) csN'))) w hL)
    · rcases reg_cases hS with ⟨s, rfl, h2⟩ | ⟨s, rfl, h2⟩
      · exact retZ (by simp only [encS6, modP_eq (b := 192) (m := (Int.ofNat s)) (e := (Int.ofNat (d + 8))) (by decide) (by decide) (reg_out hS) (reg_out hD), td_hi h1, td_lo h2] <;> rfl) (pe6_6 d s (csF' (notT hv) (csF' (ge_lo h2) (csT' (ge_hi h1) csN'))) w hL)
      · exact retZ (by simp only [encS6, modP_eq (b := 192) (m := (Int.ofNat (s + 8))) (e := (Int.ofNat (d + 8))) (by decide) (by decide) (reg_out hS) (reg_out hD), td_hi h1, td_hi h2] <;> rfl) (pe6_7 d s (csF' (notT hv) (csT' (ge_hi h2) (csT' (ge_hi h1) csN'))) w hL)
theorem c_pe7 (al co si : Int) (wi sh : Bool) (ds sr dp re im : Int) (hv : vP7 al co si wi sh ds sr dp re im = true) (w : World) (hL : Laid h12 w) : Calls Tryd.prog 13 #[.agg ⟨(xA 7 al co si wi sh ds sr dp re im)⟩] w fun e w' => e = .returned (.tuple ⟨[.string ⟨⟨encS7 al co si wi sh ds sr dp re im⟩⟩, .int .i64 0]⟩) ∧ Gr w w' := by
  have hA := andL hv
  have hR := andL (andR hv)
  have hD := andL hR
  have hS := andR hR
  have hC := andL (andR (andR hv))
  obtain rfl : al = 0 := eq_of_beq (α := Int) (andL (andR hA))
  obtain rfl : co = 0 := eq_of_beq (α := Int) (andL (andR (andR hA)))
  obtain rfl : si = 0 := eq_of_beq (α := Int) (andL (andR (andR (andR hA))))
  obtain rfl : sh = false := eq_of_beq (α := Bool) (andL (andR (andR (andR (andR (andR hA))))))
  obtain rfl : sr = 0 := eq_of_beq (α := Int) (andL (andR (andR (andR (andR (andR (andR (andR hA))))))))
  obtain rfl : dp = 0 := eq_of_beq (α := Int) (andL (andR (andR (andR (andR (andR (andR (andR (andR hA)))))))))
  obtain rfl : re = 0 := eq_of_beq (α := Int) (andL (andR (andR (andR (andR (andR (andR (andR (andR (andR hA))))))))))
  obtain rfl : im = 0 := eq_of_beq (α := Int) (andL (andR (andR (andR (andR (andR (andR (andR (andR (andR (andR hA)))))))))))
  cases wi with
  | true =>
    rcases reg_cases hD with ⟨d, rfl, h1⟩ | ⟨d, rfl, h1⟩
    · exact retZ (by simp only [encS7, modP_eq (b := 192) (m := 3) (e := (Int.ofNat d)) (by decide) (by decide) (by decide) (reg_out hD), td_lo h1] <;> rfl) (pe7_0 d (csF' (notT hv) (csF' (ge_lo h1) csN')) w hL)
    · exact retZ (by simp only [encS7, modP_eq (b := 192) (m := 3) (e := (Int.ofNat (d + 8))) (by decide) (by decide) (by decide) (reg_out hD), td_hi h1] <;> rfl) (pe7_1 d (csF' (notT hv) (csT' (ge_hi h1) csN')) w hL)
  | false =>
    rcases reg_cases hD with ⟨d, rfl, h1⟩ | ⟨d, rfl, h1⟩
    · exact retZ (by simp only [encS7, modP_eq (b := 192) (m := 3) (e := (Int.ofNat d)) (by decide) (by decide) (by decide) (reg_out hD), td_lo h1] <;> rfl) (pe7_2 d (csF' (notT hv) (csF' (ge_lo h1) csN')) w hL)
    · exact retZ (by simp only [encS7, modP_eq (b := 192) (m := 3) (e := (Int.ofNat (d + 8))) (by decide) (by decide) (by decide) (reg_out hD), td_hi h1] <;> rfl) (pe7_3 d (csF' (notT hv) (csT' (ge_hi h1) csN')) w hL)
theorem c_pe8 (al co si : Int) (wi sh : Bool) (ds sr dp re im : Int) (hv : vP8 al co si wi sh ds sr dp re im = true) (w : World) (hL : Laid h12 w) : Calls Tryd.prog 13 #[.agg ⟨(xA 8 al co si wi sh ds sr dp re im)⟩] w fun e w' => e = .returned (.tuple ⟨[.string ⟨⟨encS8 al co si wi sh ds sr dp re im⟩⟩, .int .i64 0]⟩) ∧ Gr w w' := by
  have hA := andL hv
  have hR := andL (andR hv)
  have hD := andL hR
  have hS := andR hR
  have hC := andL (andR (andR hv))
  obtain rfl : al = 0 := eq_of_beq (α := Int) (andL (andR hA))
  obtain rfl : co = 0 := eq_of_beq (α := Int) (andL (andR (andR hA)))
  obtain rfl : si = 0 := eq_of_beq (α := Int) (andL (andR (andR (andR hA))))
  obtain rfl : sh = false := eq_of_beq (α := Bool) (andL (andR (andR (andR (andR (andR hA))))))
  obtain rfl : sr = 0 := eq_of_beq (α := Int) (andL (andR (andR (andR (andR (andR (andR (andR hA))))))))
  obtain rfl : dp = 0 := eq_of_beq (α := Int) (andL (andR (andR (andR (andR (andR (andR (andR (andR hA)))))))))
  obtain rfl : re = 0 := eq_of_beq (α := Int) (andL (andR (andR (andR (andR (andR (andR (andR (andR (andR hA))))))))))
  obtain rfl : im = 0 := eq_of_beq (α := Int) (andL (andR (andR (andR (andR (andR (andR (andR (andR (andR (andR hA)))))))))))
  cases wi with
  | true =>
    rcases reg_cases hD with ⟨d, rfl, h1⟩ | ⟨d, rfl, h1⟩
    · exact retZ (by simp only [encS8, modP_eq (b := 192) (m := 4) (e := (Int.ofNat d)) (by decide) (by decide) (by decide) (reg_out hD), td_lo h1] <;> rfl) (pe8_0 d (csF' (notT hv) (csF' (ge_lo h1) csN')) w hL)
    · exact retZ (by simp only [encS8, modP_eq (b := 192) (m := 4) (e := (Int.ofNat (d + 8))) (by decide) (by decide) (by decide) (reg_out hD), td_hi h1] <;> rfl) (pe8_1 d (csF' (notT hv) (csT' (ge_hi h1) csN')) w hL)
  | false =>
    rcases reg_cases hD with ⟨d, rfl, h1⟩ | ⟨d, rfl, h1⟩
    · exact retZ (by simp only [encS8, modP_eq (b := 192) (m := 4) (e := (Int.ofNat d)) (by decide) (by decide) (by decide) (reg_out hD), td_lo h1] <;> rfl) (pe8_2 d (csF' (notT hv) (csF' (ge_lo h1) csN')) w hL)
    · exact retZ (by simp only [encS8, modP_eq (b := 192) (m := 4) (e := (Int.ofNat (d + 8))) (by decide) (by decide) (by decide) (reg_out hD), td_hi h1] <;> rfl) (pe8_3 d (csF' (notT hv) (csT' (ge_hi h1) csN')) w hL)
theorem c_pe9 (al co si : Int) (wi sh : Bool) (ds sr dp re im : Int) (hv : vP9 al co si wi sh ds sr dp re im = true) (w : World) (hL : Laid h12 w) : Calls Tryd.prog 13 #[.agg ⟨(xA 9 al co si wi sh ds sr dp re im)⟩] w fun e w' => e = .returned (.tuple ⟨[.string ⟨⟨encS9 al co si wi sh ds sr dp re im⟩⟩, .int .i64 0]⟩) ∧ Gr w w' := by
  have hA := andL hv
  have hR := andL (andR hv)
  have hD := andL hR
  have hS := andR hR
  have hC := andL (andR (andR hv))
  obtain rfl : al = 0 := eq_of_beq (α := Int) (andL (andR hA))
  obtain rfl : co = 0 := eq_of_beq (α := Int) (andL (andR (andR hA)))
  obtain rfl : si = 0 := eq_of_beq (α := Int) (andL (andR (andR (andR hA))))
  obtain rfl : sh = false := eq_of_beq (α := Bool) (andL (andR (andR (andR (andR (andR hA))))))
  obtain rfl : sr = 0 := eq_of_beq (α := Int) (andL (andR (andR (andR (andR (andR (andR (andR hA))))))))
  obtain rfl : dp = 0 := eq_of_beq (α := Int) (andL (andR (andR (andR (andR (andR (andR (andR (andR hA)))))))))
  obtain rfl : re = 0 := eq_of_beq (α := Int) (andL (andR (andR (andR (andR (andR (andR (andR (andR (andR hA))))))))))
  obtain rfl : im = 0 := eq_of_beq (α := Int) (andL (andR (andR (andR (andR (andR (andR (andR (andR (andR (andR hA)))))))))))
  cases wi with
  | true =>
    rcases reg_cases hD with ⟨d, rfl, h1⟩ | ⟨d, rfl, h1⟩
    · exact retZ (by simp only [encS9, modP_eq (b := 192) (m := 6) (e := (Int.ofNat d)) (by decide) (by decide) (by decide) (reg_out hD), td_lo h1] <;> rfl) (pe9_0 d (csF' (notT hv) (csF' (ge_lo h1) csN')) w hL)
    · exact retZ (by simp only [encS9, modP_eq (b := 192) (m := 6) (e := (Int.ofNat (d + 8))) (by decide) (by decide) (by decide) (reg_out hD), td_hi h1] <;> rfl) (pe9_1 d (csF' (notT hv) (csT' (ge_hi h1) csN')) w hL)
  | false =>
    rcases reg_cases hD with ⟨d, rfl, h1⟩ | ⟨d, rfl, h1⟩
    · exact retZ (by simp only [encS9, modP_eq (b := 192) (m := 6) (e := (Int.ofNat d)) (by decide) (by decide) (by decide) (reg_out hD), td_lo h1] <;> rfl) (pe9_2 d (csF' (notT hv) (csF' (ge_lo h1) csN')) w hL)
    · exact retZ (by simp only [encS9, modP_eq (b := 192) (m := 6) (e := (Int.ofNat (d + 8))) (by decide) (by decide) (by decide) (reg_out hD), td_hi h1] <;> rfl) (pe9_3 d (csF' (notT hv) (csT' (ge_hi h1) csN')) w hL)
theorem c_pe10 (al co si : Int) (wi sh : Bool) (ds sr dp re im : Int) (hv : vP10 al co si wi sh ds sr dp re im = true) (w : World) (hL : Laid h12 w) : Calls Tryd.prog 13 #[.agg ⟨(xA 10 al co si wi sh ds sr dp re im)⟩] w fun e w' => e = .returned (.tuple ⟨[.string ⟨⟨encS10 al co si wi sh ds sr dp re im⟩⟩, .int .i64 0]⟩) ∧ Gr w w' := by
  have hA := andL hv
  have hR := andL (andR hv)
  have hD := andL hR
  have hS := andR hR
  have hC := andL (andR (andR hv))
  obtain rfl : al = 0 := eq_of_beq (α := Int) (andL (andR hA))
  obtain rfl : co = 0 := eq_of_beq (α := Int) (andL (andR (andR hA)))
  obtain rfl : si = 0 := eq_of_beq (α := Int) (andL (andR (andR (andR hA))))
  obtain rfl : sh = false := eq_of_beq (α := Bool) (andL (andR (andR (andR (andR (andR hA))))))
  obtain rfl : dp = 0 := eq_of_beq (α := Int) (andL (andR (andR (andR (andR (andR (andR (andR (andR hA)))))))))
  obtain rfl : re = 0 := eq_of_beq (α := Int) (andL (andR (andR (andR (andR (andR (andR (andR (andR (andR hA))))))))))
  obtain rfl : im = 0 := eq_of_beq (α := Int) (andL (andR (andR (andR (andR (andR (andR (andR (andR (andR (andR hA)))))))))))
  cases wi with
  | true =>
    rcases reg_cases hD with ⟨d, rfl, h1⟩ | ⟨d, rfl, h1⟩
    · rcases reg_cases hS with ⟨s, rfl, h2⟩ | ⟨s, rfl, h2⟩
      · exact retZ (by simp only [encS10, modP_eq (b := 192) (m := (Int.ofNat d)) (e := (Int.ofNat s)) (by decide) (by decide) (reg_out hD) (reg_out hS), td_lo h1, td_lo h2] <;> rfl) (pe10_0 d s (csF' (notT hv) (csF' (ge_lo h1) (csF' (ge_lo h2) csN'))) w hL)
      · exact retZ (by simp only [encS10, modP_eq (b := 192) (m := (Int.ofNat d)) (e := (Int.ofNat (s + 8))) (by decide) (by decide) (reg_out hD) (reg_out hS), td_lo h1, td_hi h2] <;> rfl) (pe10_1 d s (csF' (notT hv) (csF' (ge_lo h1) (csT' (ge_hi h2) csN'))) w hL)
    · rcases reg_cases hS with ⟨s, rfl, h2⟩ | ⟨s, rfl, h2⟩
      · exact retZ (by simp only [encS10, modP_eq (b := 192) (m := (Int.ofNat (d + 8))) (e := (Int.ofNat s)) (by decide) (by decide) (reg_out hD) (reg_out hS), td_hi h1, td_lo h2] <;> rfl) (pe10_2 d s (csF' (notT hv) (csT' (ge_hi h1) (csF' (ge_lo h2) csN'))) w hL)
      · exact retZ (by simp only [encS10, modP_eq (b := 192) (m := (Int.ofNat (d + 8))) (e := (Int.ofNat (s + 8))) (by decide) (by decide) (reg_out hD) (reg_out hS), td_hi h1, td_hi h2] <;> rfl) (pe10_3 d s (csF' (notT hv) (csT' (ge_hi h1) (csT' (ge_hi h2) csN'))) w hL)
  | false =>
    rcases reg_cases hD with ⟨d, rfl, h1⟩ | ⟨d, rfl, h1⟩
    · rcases reg_cases hS with ⟨s, rfl, h2⟩ | ⟨s, rfl, h2⟩
      · exact retZ (by simp only [encS10, modP_eq (b := 192) (m := (Int.ofNat d)) (e := (Int.ofNat s)) (by decide) (by decide) (reg_out hD) (reg_out hS), td_lo h1, td_lo h2] <;> rfl) (pe10_4 d s (csF' (notT hv) (csF' (ge_lo h1) (csF' (ge_lo h2) csN'))) w hL)
      · exact retZ (by simp only [encS10, modP_eq (b := 192) (m := (Int.ofNat d)) (e := (Int.ofNat (s + 8))) (by decide) (by decide) (reg_out hD) (reg_out hS), td_lo h1, td_hi h2] <;> rfl) (pe10_5 d s (csF' (notT hv) (csF' (ge_lo h1) (csT' (ge_hi h2) csN'))) w hL)
    · rcases reg_cases hS with ⟨s, rfl, h2⟩ | ⟨s, rfl, h2⟩
      · exact retZ (by simp only [encS10, modP_eq (b := 192) (m := (Int.ofNat (d + 8))) (e := (Int.ofNat s)) (by decide) (by decide) (reg_out hD) (reg_out hS), td_hi h1, td_lo h2] <;> rfl) (pe10_6 d s (csF' (notT hv) (csT' (ge_hi h1) (csF' (ge_lo h2) csN'))) w hL)
      · exact retZ (by simp only [encS10, modP_eq (b := 192) (m := (Int.ofNat (d + 8))) (e := (Int.ofNat (s + 8))) (by decide) (by decide) (reg_out hD) (reg_out hS), td_hi h1, td_hi h2] <;> rfl) (pe10_7 d s (csF' (notT hv) (csT' (ge_hi h1) (csT' (ge_hi h2) csN'))) w hL)
theorem c_pe11 (al co si : Int) (wi sh : Bool) (ds sr dp re im : Int) (hv : vP11 al co si wi sh ds sr dp re im = true) (w : World) (hL : Laid h12 w) : Calls Tryd.prog 13 #[.agg ⟨(xA 11 al co si wi sh ds sr dp re im)⟩] w fun e w' => e = .returned (.tuple ⟨[.string ⟨⟨encS11 al co si wi sh ds sr dp re im⟩⟩, .int .i64 0]⟩) ∧ Gr w w' := by
  have hA := andL hv
  have hR := andL (andR hv)
  have hD := andL hR
  have hS := andR hR
  have hC := andL (andR (andR hv))
  obtain rfl : co = 0 := eq_of_beq (α := Int) (andL (andR (andR hA)))
  obtain rfl : si = 0 := eq_of_beq (α := Int) (andL (andR (andR (andR hA))))
  obtain rfl : sh = false := eq_of_beq (α := Bool) (andL (andR (andR (andR (andR (andR hA))))))
  obtain rfl : sr = 0 := eq_of_beq (α := Int) (andL (andR (andR (andR (andR (andR (andR (andR hA))))))))
  obtain rfl : dp = 0 := eq_of_beq (α := Int) (andL (andR (andR (andR (andR (andR (andR (andR (andR hA)))))))))
  obtain rfl : re = 0 := eq_of_beq (α := Int) (andL (andR (andR (andR (andR (andR (andR (andR (andR (andR hA))))))))))
  have ha := sh_out hC
  cases wi with
  | true =>
    rcases reg_cases hD with ⟨d, rfl, h1⟩ | ⟨d, rfl, h1⟩
    · exact retZ (by simp only [encS11, modP_eq (b := 192) (m := al) (e := (Int.ofNat d)) (by decide) (by decide) ⟨ha.1, Int.lt_trans ha.2 (by decide)⟩ (reg_out hD), immP_eq, td_lo h1] <;> rfl) (pe11_0 al d im (csF' (notT hv) (csF' (ge_no ha) (csF' (ge_lo h1) csN'))) w hL)
    · exact retZ (by simp only [encS11, modP_eq (b := 192) (m := al) (e := (Int.ofNat (d + 8))) (by decide) (by decide) ⟨ha.1, Int.lt_trans ha.2 (by decide)⟩ (reg_out hD), immP_eq, td_hi h1] <;> rfl) (pe11_1 al d im (csF' (notT hv) (csF' (ge_no ha) (csT' (ge_hi h1) csN'))) w hL)
  | false =>
    rcases reg_cases hD with ⟨d, rfl, h1⟩ | ⟨d, rfl, h1⟩
    · exact retZ (by simp only [encS11, modP_eq (b := 192) (m := al) (e := (Int.ofNat d)) (by decide) (by decide) ⟨ha.1, Int.lt_trans ha.2 (by decide)⟩ (reg_out hD), immP_eq, td_lo h1] <;> rfl) (pe11_2 al d im (csF' (notT hv) (csF' (ge_no ha) (csF' (ge_lo h1) csN'))) w hL)
    · exact retZ (by simp only [encS11, modP_eq (b := 192) (m := al) (e := (Int.ofNat (d + 8))) (by decide) (by decide) ⟨ha.1, Int.lt_trans ha.2 (by decide)⟩ (reg_out hD), immP_eq, td_hi h1] <;> rfl) (pe11_3 al d im (csF' (notT hv) (csF' (ge_no ha) (csT' (ge_hi h1) csN'))) w hL)
theorem c_pe12 (al co si : Int) (wi sh : Bool) (ds sr dp re im : Int) (hv : vP12 al co si wi sh ds sr dp re im = true) (w : World) (hL : Laid h12 w) : Calls Tryd.prog 13 #[.agg ⟨(xA 12 al co si wi sh ds sr dp re im)⟩] w fun e w' => e = .returned (.tuple ⟨[.string ⟨⟨encS12 al co si wi sh ds sr dp re im⟩⟩, .int .i64 0]⟩) ∧ Gr w w' := by
  have hA := andL hv
  have hR := andL (andR hv)
  have hD := andL hR
  have hS := andR hR
  have hC := andL (andR (andR hv))
  obtain rfl : co = 0 := eq_of_beq (α := Int) (andL (andR (andR hA)))
  obtain rfl : si = 0 := eq_of_beq (α := Int) (andL (andR (andR (andR hA))))
  obtain rfl : sh = false := eq_of_beq (α := Bool) (andL (andR (andR (andR (andR (andR hA))))))
  obtain rfl : sr = 0 := eq_of_beq (α := Int) (andL (andR (andR (andR (andR (andR (andR (andR hA))))))))
  obtain rfl : dp = 0 := eq_of_beq (α := Int) (andL (andR (andR (andR (andR (andR (andR (andR (andR hA)))))))))
  obtain rfl : re = 0 := eq_of_beq (α := Int) (andL (andR (andR (andR (andR (andR (andR (andR (andR (andR hA))))))))))
  obtain rfl : im = 0 := eq_of_beq (α := Int) (andL (andR (andR (andR (andR (andR (andR (andR (andR (andR (andR hA)))))))))))
  have ha := sh_out hC
  cases wi with
  | true =>
    rcases reg_cases hD with ⟨d, rfl, h1⟩ | ⟨d, rfl, h1⟩
    · exact retZ (by simp only [encS12, modP_eq (b := 192) (m := al) (e := (Int.ofNat d)) (by decide) (by decide) ⟨ha.1, Int.lt_trans ha.2 (by decide)⟩ (reg_out hD), td_lo h1] <;> rfl) (pe12_0 al d (csF' (notT hv) (csF' (ge_no ha) (csF' (ge_lo h1) csN'))) w hL)
    · exact retZ (by simp only [encS12, modP_eq (b := 192) (m := al) (e := (Int.ofNat (d + 8))) (by decide) (by decide) ⟨ha.1, Int.lt_trans ha.2 (by decide)⟩ (reg_out hD), td_hi h1] <;> rfl) (pe12_1 al d (csF' (notT hv) (csF' (ge_no ha) (csT' (ge_hi h1) csN'))) w hL)
  | false =>
    rcases reg_cases hD with ⟨d, rfl, h1⟩ | ⟨d, rfl, h1⟩
    · exact retZ (by simp only [encS12, modP_eq (b := 192) (m := al) (e := (Int.ofNat d)) (by decide) (by decide) ⟨ha.1, Int.lt_trans ha.2 (by decide)⟩ (reg_out hD), td_lo h1] <;> rfl) (pe12_2 al d (csF' (notT hv) (csF' (ge_no ha) (csF' (ge_lo h1) csN'))) w hL)
    · exact retZ (by simp only [encS12, modP_eq (b := 192) (m := al) (e := (Int.ofNat (d + 8))) (by decide) (by decide) ⟨ha.1, Int.lt_trans ha.2 (by decide)⟩ (reg_out hD), td_hi h1] <;> rfl) (pe12_3 al d (csF' (notT hv) (csF' (ge_no ha) (csT' (ge_hi h1) csN'))) w hL)
theorem c_pe13 (al co si : Int) (wi sh : Bool) (ds sr dp re im : Int) (hv : vP13 al co si wi sh ds sr dp re im = true) (w : World) (hL : Laid h12 w) : Calls Tryd.prog 13 #[.agg ⟨(xA 13 al co si wi sh ds sr dp re im)⟩] w fun e w' => e = .returned (.tuple ⟨[.string ⟨⟨encS13 al co si wi sh ds sr dp re im⟩⟩, .int .i64 0]⟩) ∧ Gr w w' := by
  have hA := andL hv
  have hR := andL (andR hv)
  have hD := andL hR
  have hS := andR hR
  have hC := andL (andR (andR hv))
  obtain rfl : al = 0 := eq_of_beq (α := Int) (andL (andR hA))
  obtain rfl : co = 0 := eq_of_beq (α := Int) (andL (andR (andR hA)))
  obtain rfl : sh = false := eq_of_beq (α := Bool) (andL (andR (andR (andR (andR (andR hA))))))
  obtain rfl : re = 0 := eq_of_beq (α := Int) (andL (andR (andR (andR (andR (andR (andR (andR (andR (andR hA))))))))))
  obtain rfl : im = 0 := eq_of_beq (α := Int) (andL (andR (andR (andR (andR (andR (andR (andR (andR (andR (andR hA)))))))))))
  have hsz := szOut (andL hC)
  have hw : wi = (si == 8) := eq_of_beq (andR hC)
  rcases hsz with rfl | rfl | rfl | rfl
  · obtain rfl : wi = false := hw
    rcases reg_cases hD with ⟨d, rfl, h1⟩ | ⟨d, rfl, h1⟩
    · rcases reg_cases hS with ⟨s, rfl, h2⟩ | ⟨s, rfl, h2⟩
      · rcases Bool.eq_false_or_eq_true (Int.tmod (Int.ofNat s) 8 == 4) with h4 | h4
        · exact retZ (by simp only [encS13, modP_eq (b := 128) (m := (Int.ofNat d)) (e := (Int.ofNat s)) (by decide) (by decide) (reg_out hD) (reg_out hS), immP_eq, td_lo h1, td_lo h2, h4] <;> rfl) (pe13_0 d s dp (csF' (notT hv) (csF' (ge_lo h1) (csF' (ge_lo h2) (csT' h4 csN')))) w hL)
        · exact retZ (by simp only [encS13, modP_eq (b := 128) (m := (Int.ofNat d)) (e := (Int.ofNat s)) (by decide) (by decide) (reg_out hD) (reg_out hS), immP_eq, td_lo h1, td_lo h2, h4] <;> rfl) (pe13_1 d s dp (csF' (notT hv) (csF' (ge_lo h1) (csF' (ge_lo h2) (csF' h4 csN')))) w hL)
      · rcases Bool.eq_false_or_eq_true (Int.tmod (Int.ofNat (s + 8)) 8 == 4) with h4 | h4
        · exact retZ (by simp only [encS13, modP_eq (b := 128) (m := (Int.ofNat d)) (e := (Int.ofNat (s + 8))) (by decide) (by decide) (reg_out hD) (reg_out hS), immP_eq, td_lo h1, td_hi h2, h4] <;> rfl) (pe13_2 d s dp (csF' (notT hv) (csF' (ge_lo h1) (csT' (ge_hi h2) (csT' h4 csN')))) w hL)
        · exact retZ (by simp only [encS13, modP_eq (b := 128) (m := (Int.ofNat d)) (e := (Int.ofNat (s + 8))) (by decide) (by decide) (reg_out hD) (reg_out hS), immP_eq, td_lo h1, td_hi h2, h4] <;> rfl) (pe13_3 d s dp (csF' (notT hv) (csF' (ge_lo h1) (csT' (ge_hi h2) (csF' h4 csN')))) w hL)
    · rcases reg_cases hS with ⟨s, rfl, h2⟩ | ⟨s, rfl, h2⟩
      · rcases Bool.eq_false_or_eq_true (Int.tmod (Int.ofNat s) 8 == 4) with h4 | h4
        · exact retZ (by simp only [encS13, modP_eq (b := 128) (m := (Int.ofNat (d + 8))) (e := (Int.ofNat s)) (by decide) (by decide) (reg_out hD) (reg_out hS), immP_eq, td_hi h1, td_lo h2, h4] <;> rfl) (pe13_4 d s dp (csF' (notT hv) (csT' (ge_hi h1) (csF' (ge_lo h2) (csT' h4 csN')))) w hL)
        · exact retZ (by simp only [encS13, modP_eq (b := 128) (m := (Int.ofNat (d + 8))) (e := (Int.ofNat s)) (by decide) (by decide) (reg_out hD) (reg_out hS), immP_eq, td_hi h1, td_lo h2, h4] <;> rfl) (pe13_5 d s dp (csF' (notT hv) (csT' (ge_hi h1) (csF' (ge_lo h2) (csF' h4 csN')))) w hL)
      · rcases Bool.eq_false_or_eq_true (Int.tmod (Int.ofNat (s + 8)) 8 == 4) with h4 | h4
        · exact retZ (by simp only [encS13, modP_eq (b := 128) (m := (Int.ofNat (d + 8))) (e := (Int.ofNat (s + 8))) (by decide) (by decide) (reg_out hD) (reg_out hS), immP_eq, td_hi h1, td_hi h2, h4] <;> rfl) (pe13_6 d s dp (csF' (notT hv) (csT' (ge_hi h1) (csT' (ge_hi h2) (csT' h4 csN')))) w hL)
        · exact retZ (by simp only [encS13, modP_eq (b := 128) (m := (Int.ofNat (d + 8))) (e := (Int.ofNat (s + 8))) (by decide) (by decide) (reg_out hD) (reg_out hS), immP_eq, td_hi h1, td_hi h2, h4] <;> rfl) (pe13_7 d s dp (csF' (notT hv) (csT' (ge_hi h1) (csT' (ge_hi h2) (csF' h4 csN')))) w hL)
  · obtain rfl : wi = false := hw
    rcases reg_cases hD with ⟨d, rfl, h1⟩ | ⟨d, rfl, h1⟩
    · rcases reg_cases hS with ⟨s, rfl, h2⟩ | ⟨s, rfl, h2⟩
      · rcases Bool.eq_false_or_eq_true (Int.tmod (Int.ofNat s) 8 == 4) with h4 | h4
        · exact retZ (by simp only [encS13, modP_eq (b := 128) (m := (Int.ofNat d)) (e := (Int.ofNat s)) (by decide) (by decide) (reg_out hD) (reg_out hS), immP_eq, td_lo h1, td_lo h2, h4] <;> rfl) (pe13_8 d s dp (csF' (notT hv) (csF' (ge_lo h1) (csF' (ge_lo h2) (csT' h4 csN')))) w hL)
        · exact retZ (by simp only [encS13, modP_eq (b := 128) (m := (Int.ofNat d)) (e := (Int.ofNat s)) (by decide) (by decide) (reg_out hD) (reg_out hS), immP_eq, td_lo h1, td_lo h2, h4] <;> rfl) (pe13_9 d s dp (csF' (notT hv) (csF' (ge_lo h1) (csF' (ge_lo h2) (csF' h4 csN')))) w hL)
      · rcases Bool.eq_false_or_eq_true (Int.tmod (Int.ofNat (s + 8)) 8 == 4) with h4 | h4
        · exact retZ (by simp only [encS13, modP_eq (b := 128) (m := (Int.ofNat d)) (e := (Int.ofNat (s + 8))) (by decide) (by decide) (reg_out hD) (reg_out hS), immP_eq, td_lo h1, td_hi h2, h4] <;> rfl) (pe13_10 d s dp (csF' (notT hv) (csF' (ge_lo h1) (csT' (ge_hi h2) (csT' h4 csN')))) w hL)
        · exact retZ (by simp only [encS13, modP_eq (b := 128) (m := (Int.ofNat d)) (e := (Int.ofNat (s + 8))) (by decide) (by decide) (reg_out hD) (reg_out hS), immP_eq, td_lo h1, td_hi h2, h4] <;> rfl) (pe13_11 d s dp (csF' (notT hv) (csF' (ge_lo h1) (csT' (ge_hi h2) (csF' h4 csN')))) w hL)
    · rcases reg_cases hS with ⟨s, rfl, h2⟩ | ⟨s, rfl, h2⟩
      · rcases Bool.eq_false_or_eq_true (Int.tmod (Int.ofNat s) 8 == 4) with h4 | h4
        · exact retZ (by simp only [encS13, modP_eq (b := 128) (m := (Int.ofNat (d + 8))) (e := (Int.ofNat s)) (by decide) (by decide) (reg_out hD) (reg_out hS), immP_eq, td_hi h1, td_lo h2, h4] <;> rfl) (pe13_12 d s dp (csF' (notT hv) (csT' (ge_hi h1) (csF' (ge_lo h2) (csT' h4 csN')))) w hL)
        · exact retZ (by simp only [encS13, modP_eq (b := 128) (m := (Int.ofNat (d + 8))) (e := (Int.ofNat s)) (by decide) (by decide) (reg_out hD) (reg_out hS), immP_eq, td_hi h1, td_lo h2, h4] <;> rfl) (pe13_13 d s dp (csF' (notT hv) (csT' (ge_hi h1) (csF' (ge_lo h2) (csF' h4 csN')))) w hL)
      · rcases Bool.eq_false_or_eq_true (Int.tmod (Int.ofNat (s + 8)) 8 == 4) with h4 | h4
        · exact retZ (by simp only [encS13, modP_eq (b := 128) (m := (Int.ofNat (d + 8))) (e := (Int.ofNat (s + 8))) (by decide) (by decide) (reg_out hD) (reg_out hS), immP_eq, td_hi h1, td_hi h2, h4] <;> rfl) (pe13_14 d s dp (csF' (notT hv) (csT' (ge_hi h1) (csT' (ge_hi h2) (csT' h4 csN')))) w hL)
        · exact retZ (by simp only [encS13, modP_eq (b := 128) (m := (Int.ofNat (d + 8))) (e := (Int.ofNat (s + 8))) (by decide) (by decide) (reg_out hD) (reg_out hS), immP_eq, td_hi h1, td_hi h2, h4] <;> rfl) (pe13_15 d s dp (csF' (notT hv) (csT' (ge_hi h1) (csT' (ge_hi h2) (csF' h4 csN')))) w hL)
  · obtain rfl : wi = false := hw
    rcases reg_cases hD with ⟨d, rfl, h1⟩ | ⟨d, rfl, h1⟩
    · rcases reg_cases hS with ⟨s, rfl, h2⟩ | ⟨s, rfl, h2⟩
      · rcases Bool.eq_false_or_eq_true (Int.tmod (Int.ofNat s) 8 == 4) with h4 | h4
        · exact retZ (by simp only [encS13, modP_eq (b := 128) (m := (Int.ofNat d)) (e := (Int.ofNat s)) (by decide) (by decide) (reg_out hD) (reg_out hS), immP_eq, td_lo h1, td_lo h2, h4] <;> rfl) (pe13_16 d s dp (csF' (notT hv) (csF' (ge_lo h1) (csF' (ge_lo h2) (csT' h4 csN')))) w hL)
        · exact retZ (by simp only [encS13, modP_eq (b := 128) (m := (Int.ofNat d)) (e := (Int.ofNat s)) (by decide) (by decide) (reg_out hD) (reg_out hS), immP_eq, td_lo h1, td_lo h2, h4] <;> rfl) (pe13_17 d s dp (csF' (notT hv) (csF' (ge_lo h1) (csF' (ge_lo h2) (csF' h4 csN')))) w hL)
      · rcases Bool.eq_false_or_eq_true (Int.tmod (Int.ofNat (s + 8)) 8 == 4) with h4 | h4
        · exact retZ (by simp only [encS13, modP_eq (b := 128) (m := (Int.ofNat d)) (e := (Int.ofNat (s + 8))) (by decide) (by decide) (reg_out hD) (reg_out hS), immP_eq, td_lo h1, td_hi h2, h4] <;> rfl) (pe13_18 d s dp (csF' (notT hv) (csF' (ge_lo h1) (csT' (ge_hi h2) (csT' h4 csN')))) w hL)
        · exact retZ (by simp only [encS13, modP_eq (b := 128) (m := (Int.ofNat d)) (e := (Int.ofNat (s + 8))) (by decide) (by decide) (reg_out hD) (reg_out hS), immP_eq, td_lo h1, td_hi h2, h4] <;> rfl) (pe13_19 d s dp (csF' (notT hv) (csF' (ge_lo h1) (csT' (ge_hi h2) (csF' h4 csN')))) w hL)
    · rcases reg_cases hS with ⟨s, rfl, h2⟩ | ⟨s, rfl, h2⟩
      · rcases Bool.eq_false_or_eq_true (Int.tmod (Int.ofNat s) 8 == 4) with h4 | h4
        · exact retZ (by simp only [encS13, modP_eq (b := 128) (m := (Int.ofNat (d + 8))) (e := (Int.ofNat s)) (by decide) (by decide) (reg_out hD) (reg_out hS), immP_eq, td_hi h1, td_lo h2, h4] <;> rfl) (pe13_20 d s dp (csF' (notT hv) (csT' (ge_hi h1) (csF' (ge_lo h2) (csT' h4 csN')))) w hL)
        · exact retZ (by simp only [encS13, modP_eq (b := 128) (m := (Int.ofNat (d + 8))) (e := (Int.ofNat s)) (by decide) (by decide) (reg_out hD) (reg_out hS), immP_eq, td_hi h1, td_lo h2, h4] <;> rfl) (pe13_21 d s dp (csF' (notT hv) (csT' (ge_hi h1) (csF' (ge_lo h2) (csF' h4 csN')))) w hL)
      · rcases Bool.eq_false_or_eq_true (Int.tmod (Int.ofNat (s + 8)) 8 == 4) with h4 | h4
        · exact retZ (by simp only [encS13, modP_eq (b := 128) (m := (Int.ofNat (d + 8))) (e := (Int.ofNat (s + 8))) (by decide) (by decide) (reg_out hD) (reg_out hS), immP_eq, td_hi h1, td_hi h2, h4] <;> rfl) (pe13_22 d s dp (csF' (notT hv) (csT' (ge_hi h1) (csT' (ge_hi h2) (csT' h4 csN')))) w hL)
        · exact retZ (by simp only [encS13, modP_eq (b := 128) (m := (Int.ofNat (d + 8))) (e := (Int.ofNat (s + 8))) (by decide) (by decide) (reg_out hD) (reg_out hS), immP_eq, td_hi h1, td_hi h2, h4] <;> rfl) (pe13_23 d s dp (csF' (notT hv) (csT' (ge_hi h1) (csT' (ge_hi h2) (csF' h4 csN')))) w hL)
  · obtain rfl : wi = true := hw
    rcases reg_cases hD with ⟨d, rfl, h1⟩ | ⟨d, rfl, h1⟩
    · rcases reg_cases hS with ⟨s, rfl, h2⟩ | ⟨s, rfl, h2⟩
      · rcases Bool.eq_false_or_eq_true (Int.tmod (Int.ofNat s) 8 == 4) with h4 | h4
        · exact retZ (by simp only [encS13, modP_eq (b := 128) (m := (Int.ofNat d)) (e := (Int.ofNat s)) (by decide) (by decide) (reg_out hD) (reg_out hS), immP_eq, td_lo h1, td_lo h2, h4] <;> rfl) (pe13_24 d s dp (csF' (notT hv) (csF' (ge_lo h1) (csF' (ge_lo h2) (csT' h4 csN')))) w hL)
        · exact retZ (by simp only [encS13, modP_eq (b := 128) (m := (Int.ofNat d)) (e := (Int.ofNat s)) (by decide) (by decide) (reg_out hD) (reg_out hS), immP_eq, td_lo h1, td_lo h2, h4] <;> rfl) (pe13_25 d s dp (csF' (notT hv) (csF' (ge_lo h1) (csF' (ge_lo h2) (csF' h4 csN')))) w hL)
      · rcases Bool.eq_false_or_eq_true (Int.tmod (Int.ofNat (s + 8)) 8 == 4) with h4 | h4
        · exact retZ (by simp only [encS13, modP_eq (b := 128) (m := (Int.ofNat d)) (e := (Int.ofNat (s + 8))) (by decide) (by decide) (reg_out hD) (reg_out hS), immP_eq, td_lo h1, td_hi h2, h4] <;> rfl) (pe13_26 d s dp (csF' (notT hv) (csF' (ge_lo h1) (csT' (ge_hi h2) (csT' h4 csN')))) w hL)
        · exact retZ (by simp only [encS13, modP_eq (b := 128) (m := (Int.ofNat d)) (e := (Int.ofNat (s + 8))) (by decide) (by decide) (reg_out hD) (reg_out hS), immP_eq, td_lo h1, td_hi h2, h4] <;> rfl) (pe13_27 d s dp (csF' (notT hv) (csF' (ge_lo h1) (csT' (ge_hi h2) (csF' h4 csN')))) w hL)
    · rcases reg_cases hS with ⟨s, rfl, h2⟩ | ⟨s, rfl, h2⟩
      · rcases Bool.eq_false_or_eq_true (Int.tmod (Int.ofNat s) 8 == 4) with h4 | h4
        · exact retZ (by simp only [encS13, modP_eq (b := 128) (m := (Int.ofNat (d + 8))) (e := (Int.ofNat s)) (by decide) (by decide) (reg_out hD) (reg_out hS), immP_eq, td_hi h1, td_lo h2, h4] <;> rfl) (pe13_28 d s dp (csF' (notT hv) (csT' (ge_hi h1) (csF' (ge_lo h2) (csT' h4 csN')))) w hL)
        · exact retZ (by simp only [encS13, modP_eq (b := 128) (m := (Int.ofNat (d + 8))) (e := (Int.ofNat s)) (by decide) (by decide) (reg_out hD) (reg_out hS), immP_eq, td_hi h1, td_lo h2, h4] <;> rfl) (pe13_29 d s dp (csF' (notT hv) (csT' (ge_hi h1) (csF' (ge_lo h2) (csF' h4 csN')))) w hL)
      · rcases Bool.eq_false_or_eq_true (Int.tmod (Int.ofNat (s + 8)) 8 == 4) with h4 | h4
        · exact retZ (by simp only [encS13, modP_eq (b := 128) (m := (Int.ofNat (d + 8))) (e := (Int.ofNat (s + 8))) (by decide) (by decide) (reg_out hD) (reg_out hS), immP_eq, td_hi h1, td_hi h2, h4] <;> rfl) (pe13_30 d s dp (csF' (notT hv) (csT' (ge_hi h1) (csT' (ge_hi h2) (csT' h4 csN')))) w hL)
        · exact retZ (by simp only [encS13, modP_eq (b := 128) (m := (Int.ofNat (d + 8))) (e := (Int.ofNat (s + 8))) (by decide) (by decide) (reg_out hD) (reg_out hS), immP_eq, td_hi h1, td_hi h2, h4] <;> rfl) (pe13_31 d s dp (csF' (notT hv) (csT' (ge_hi h1) (csT' (ge_hi h2) (csF' h4 csN')))) w hL)
theorem c_pe14 (al co si : Int) (wi sh : Bool) (ds sr dp re im : Int) (hv : vP14 al co si wi sh ds sr dp re im = true) (w : World) (hL : Laid h12 w) : Calls Tryd.prog 13 #[.agg ⟨(xA 14 al co si wi sh ds sr dp re im)⟩] w fun e w' => e = .returned (.tuple ⟨[.string ⟨⟨encS14 al co si wi sh ds sr dp re im⟩⟩, .int .i64 0]⟩) ∧ Gr w w' := by
  have hA := andL hv
  have hR := andL (andR hv)
  have hD := andL hR
  have hS := andR hR
  have hC := andL (andR (andR hv))
  obtain rfl : al = 0 := eq_of_beq (α := Int) (andL (andR hA))
  obtain rfl : co = 0 := eq_of_beq (α := Int) (andL (andR (andR hA)))
  obtain rfl : sh = false := eq_of_beq (α := Bool) (andL (andR (andR (andR (andR (andR hA))))))
  obtain rfl : re = 0 := eq_of_beq (α := Int) (andL (andR (andR (andR (andR (andR (andR (andR (andR (andR hA))))))))))
  obtain rfl : im = 0 := eq_of_beq (α := Int) (andL (andR (andR (andR (andR (andR (andR (andR (andR (andR (andR hA)))))))))))
  have hsz := szOut (andL hC)
  have hw : wi = (si == 8) := eq_of_beq (andR hC)
  rcases hsz with rfl | rfl | rfl | rfl
  · obtain rfl : wi = false := hw
    rcases reg_cases hD with ⟨d, rfl, h1⟩ | ⟨d, rfl, h1⟩
    · rcases reg_cases hS with ⟨s, rfl, h2⟩ | ⟨s, rfl, h2⟩
      · rcases Bool.eq_false_or_eq_true (Int.tmod (Int.ofNat d) 8 == 4) with h4 | h4
        · exact retZ (by simp only [encS14, modP_eq (b := 128) (m := (Int.ofNat s)) (e := (Int.ofNat d)) (by decide) (by decide) (reg_out hS) (reg_out hD), immP_eq, td_lo h1, td_lo h2, h4] <;> rfl) (pe14_0 d s dp (csF' (notT hv) (csF' (ge_lo h2) (csF' (ge_lo h1) (csT' h4 csN')))) w hL)
        · exact retZ (by simp only [encS14, modP_eq (b := 128) (m := (Int.ofNat s)) (e := (Int.ofNat d)) (by decide) (by decide) (reg_out hS) (reg_out hD), immP_eq, td_lo h1, td_lo h2, h4] <;> rfl) (pe14_1 d s dp (csF' (notT hv) (csF' (ge_lo h2) (csF' (ge_lo h1) (csF' h4 csN')))) w hL)
      · rcases Bool.eq_false_or_eq_true (Int.tmod (Int.ofNat d) 8 == 4) with h4 | h4
        · exact retZ (by simp only [encS14, modP_eq (b := 128) (m := (Int.ofNat (s + 8))) (e := (Int.ofNat d)) (by decide) (by decide) (reg_out hS) (reg_out hD), immP_eq, td_lo h1, td_hi h2, h4] <;> rfl) (pe14_2 d s dp (csF' (notT hv) (csT' (ge_hi h2) (csF' (ge_lo h1) (csT' h4 csN')))) w hL)
        · exact retZ (by simp only [encS14, modP_eq (b := 128) (m := (Int.ofNat (s + 8))) (e := (Int.ofNat d)) (by decide) (by decide) (reg_out hS) (reg_out hD), immP_eq, td_lo h1, td_hi h2, h4] <;> rfl) (pe14_3 d s dp (csF' (notT hv) (csT' (ge_hi h2) (csF' (ge_lo h1) (csF' h4 csN')))) w hL)
    · rcases reg_cases hS with ⟨s, rfl, h2⟩ | ⟨s, rfl, h2⟩
      · rcases Bool.eq_false_or_eq_true (Int.tmod (Int.ofNat (d + 8)) 8 == 4) with h4 | h4
        · exact retZ (by simp only [encS14, modP_eq (b := 128) (m := (Int.ofNat s)) (e := (Int.ofNat (d + 8))) (by decide) (by decide) (reg_out hS) (reg_out hD), immP_eq, td_hi h1, td_lo h2, h4] <;> rfl) (pe14_4 d s dp (csF' (notT hv) (csF' (ge_lo h2) (csT' (ge_hi h1) (csT' h4 csN')))) w hL)
        · exact retZ (by simp only [encS14, modP_eq (b := 128) (m := (Int.ofNat s)) (e := (Int.ofNat (d + 8))) (by decide) (by decide) (reg_out hS) (reg_out hD), immP_eq, td_hi h1, td_lo h2, h4] <;> rfl) (pe14_5 d s dp (csF' (notT hv) (csF' (ge_lo h2) (csT' (ge_hi h1) (csF' h4 csN')))) w hL)
      · rcases Bool.eq_false_or_eq_true (Int.tmod (Int.ofNat (d + 8)) 8 == 4) with h4 | h4
        · exact retZ (by simp only [encS14, modP_eq (b := 128) (m := (Int.ofNat (s + 8))) (e := (Int.ofNat (d + 8))) (by decide) (by decide) (reg_out hS) (reg_out hD), immP_eq, td_hi h1, td_hi h2, h4] <;> rfl) (pe14_6 d s dp (csF' (notT hv) (csT' (ge_hi h2) (csT' (ge_hi h1) (csT' h4 csN')))) w hL)
        · exact retZ (by simp only [encS14, modP_eq (b := 128) (m := (Int.ofNat (s + 8))) (e := (Int.ofNat (d + 8))) (by decide) (by decide) (reg_out hS) (reg_out hD), immP_eq, td_hi h1, td_hi h2, h4] <;> rfl) (pe14_7 d s dp (csF' (notT hv) (csT' (ge_hi h2) (csT' (ge_hi h1) (csF' h4 csN')))) w hL)
  · obtain rfl : wi = false := hw
    rcases reg_cases hD with ⟨d, rfl, h1⟩ | ⟨d, rfl, h1⟩
    · rcases reg_cases hS with ⟨s, rfl, h2⟩ | ⟨s, rfl, h2⟩
      · rcases Bool.eq_false_or_eq_true (Int.tmod (Int.ofNat d) 8 == 4) with h4 | h4
        · exact retZ (by simp only [encS14, modP_eq (b := 128) (m := (Int.ofNat s)) (e := (Int.ofNat d)) (by decide) (by decide) (reg_out hS) (reg_out hD), immP_eq, td_lo h1, td_lo h2, h4] <;> rfl) (pe14_8 d s dp (csF' (notT hv) (csF' (ge_lo h2) (csF' (ge_lo h1) (csT' h4 csN')))) w hL)
        · exact retZ (by simp only [encS14, modP_eq (b := 128) (m := (Int.ofNat s)) (e := (Int.ofNat d)) (by decide) (by decide) (reg_out hS) (reg_out hD), immP_eq, td_lo h1, td_lo h2, h4] <;> rfl) (pe14_9 d s dp (csF' (notT hv) (csF' (ge_lo h2) (csF' (ge_lo h1) (csF' h4 csN')))) w hL)
      · rcases Bool.eq_false_or_eq_true (Int.tmod (Int.ofNat d) 8 == 4) with h4 | h4
        · exact retZ (by simp only [encS14, modP_eq (b := 128) (m := (Int.ofNat (s + 8))) (e := (Int.ofNat d)) (by decide) (by decide) (reg_out hS) (reg_out hD), immP_eq, td_lo h1, td_hi h2, h4] <;> rfl) (pe14_10 d s dp (csF' (notT hv) (csT' (ge_hi h2) (csF' (ge_lo h1) (csT' h4 csN')))) w hL)
        · exact retZ (by simp only [encS14, modP_eq (b := 128) (m := (Int.ofNat (s + 8))) (e := (Int.ofNat d)) (by decide) (by decide) (reg_out hS) (reg_out hD), immP_eq, td_lo h1, td_hi h2, h4] <;> rfl) (pe14_11 d s dp (csF' (notT hv) (csT' (ge_hi h2) (csF' (ge_lo h1) (csF' h4 csN')))) w hL)
    · rcases reg_cases hS with ⟨s, rfl, h2⟩ | ⟨s, rfl, h2⟩
      · rcases Bool.eq_false_or_eq_true (Int.tmod (Int.ofNat (d + 8)) 8 == 4) with h4 | h4
        · exact retZ (by simp only [encS14, modP_eq (b := 128) (m := (Int.ofNat s)) (e := (Int.ofNat (d + 8))) (by decide) (by decide) (reg_out hS) (reg_out hD), immP_eq, td_hi h1, td_lo h2, h4] <;> rfl) (pe14_12 d s dp (csF' (notT hv) (csF' (ge_lo h2) (csT' (ge_hi h1) (csT' h4 csN')))) w hL)
        · exact retZ (by simp only [encS14, modP_eq (b := 128) (m := (Int.ofNat s)) (e := (Int.ofNat (d + 8))) (by decide) (by decide) (reg_out hS) (reg_out hD), immP_eq, td_hi h1, td_lo h2, h4] <;> rfl) (pe14_13 d s dp (csF' (notT hv) (csF' (ge_lo h2) (csT' (ge_hi h1) (csF' h4 csN')))) w hL)
      · rcases Bool.eq_false_or_eq_true (Int.tmod (Int.ofNat (d + 8)) 8 == 4) with h4 | h4
        · exact retZ (by simp only [encS14, modP_eq (b := 128) (m := (Int.ofNat (s + 8))) (e := (Int.ofNat (d + 8))) (by decide) (by decide) (reg_out hS) (reg_out hD), immP_eq, td_hi h1, td_hi h2, h4] <;> rfl) (pe14_14 d s dp (csF' (notT hv) (csT' (ge_hi h2) (csT' (ge_hi h1) (csT' h4 csN')))) w hL)
        · exact retZ (by simp only [encS14, modP_eq (b := 128) (m := (Int.ofNat (s + 8))) (e := (Int.ofNat (d + 8))) (by decide) (by decide) (reg_out hS) (reg_out hD), immP_eq, td_hi h1, td_hi h2, h4] <;> rfl) (pe14_15 d s dp (csF' (notT hv) (csT' (ge_hi h2) (csT' (ge_hi h1) (csF' h4 csN')))) w hL)
  · obtain rfl : wi = false := hw
    rcases reg_cases hD with ⟨d, rfl, h1⟩ | ⟨d, rfl, h1⟩
    · rcases reg_cases hS with ⟨s, rfl, h2⟩ | ⟨s, rfl, h2⟩
      · rcases Bool.eq_false_or_eq_true (Int.tmod (Int.ofNat d) 8 == 4) with h4 | h4
        · exact retZ (by simp only [encS14, modP_eq (b := 128) (m := (Int.ofNat s)) (e := (Int.ofNat d)) (by decide) (by decide) (reg_out hS) (reg_out hD), immP_eq, td_lo h1, td_lo h2, h4] <;> rfl) (pe14_16 d s dp (csF' (notT hv) (csF' (ge_lo h2) (csF' (ge_lo h1) (csT' h4 csN')))) w hL)
        · exact retZ (by simp only [encS14, modP_eq (b := 128) (m := (Int.ofNat s)) (e := (Int.ofNat d)) (by decide) (by decide) (reg_out hS) (reg_out hD), immP_eq, td_lo h1, td_lo h2, h4] <;> rfl) (pe14_17 d s dp (csF' (notT hv) (csF' (ge_lo h2) (csF' (ge_lo h1) (csF' h4 csN')))) w hL)
      · rcases Bool.eq_false_or_eq_true (Int.tmod (Int.ofNat d) 8 == 4) with h4 | h4
        · exact retZ (by simp only [encS14, modP_eq (b := 128) (m := (Int.ofNat (s + 8))) (e := (Int.ofNat d)) (by decide) (by decide) (reg_out hS) (reg_out hD), immP_eq, td_lo h1, td_hi h2, h4] <;> rfl) (pe14_18 d s dp (csF' (notT hv) (csT' (ge_hi h2) (csF' (ge_lo h1) (csT' h4 csN')))) w hL)
        · exact retZ (by simp only [encS14, modP_eq (b := 128) (m := (Int.ofNat (s + 8))) (e := (Int.ofNat d)) (by decide) (by decide) (reg_out hS) (reg_out hD), immP_eq, td_lo h1, td_hi h2, h4] <;> rfl) (pe14_19 d s dp (csF' (notT hv) (csT' (ge_hi h2) (csF' (ge_lo h1) (csF' h4 csN')))) w hL)
    · rcases reg_cases hS with ⟨s, rfl, h2⟩ | ⟨s, rfl, h2⟩
      · rcases Bool.eq_false_or_eq_true (Int.tmod (Int.ofNat (d + 8)) 8 == 4) with h4 | h4
        · exact retZ (by simp only [encS14, modP_eq (b := 128) (m := (Int.ofNat s)) (e := (Int.ofNat (d + 8))) (by decide) (by decide) (reg_out hS) (reg_out hD), immP_eq, td_hi h1, td_lo h2, h4] <;> rfl) (pe14_20 d s dp (csF' (notT hv) (csF' (ge_lo h2) (csT' (ge_hi h1) (csT' h4 csN')))) w hL)
        · exact retZ (by simp only [encS14, modP_eq (b := 128) (m := (Int.ofNat s)) (e := (Int.ofNat (d + 8))) (by decide) (by decide) (reg_out hS) (reg_out hD), immP_eq, td_hi h1, td_lo h2, h4] <;> rfl) (pe14_21 d s dp (csF' (notT hv) (csF' (ge_lo h2) (csT' (ge_hi h1) (csF' h4 csN')))) w hL)
      · rcases Bool.eq_false_or_eq_true (Int.tmod (Int.ofNat (d + 8)) 8 == 4) with h4 | h4
        · exact retZ (by simp only [encS14, modP_eq (b := 128) (m := (Int.ofNat (s + 8))) (e := (Int.ofNat (d + 8))) (by decide) (by decide) (reg_out hS) (reg_out hD), immP_eq, td_hi h1, td_hi h2, h4] <;> rfl) (pe14_22 d s dp (csF' (notT hv) (csT' (ge_hi h2) (csT' (ge_hi h1) (csT' h4 csN')))) w hL)
        · exact retZ (by simp only [encS14, modP_eq (b := 128) (m := (Int.ofNat (s + 8))) (e := (Int.ofNat (d + 8))) (by decide) (by decide) (reg_out hS) (reg_out hD), immP_eq, td_hi h1, td_hi h2, h4] <;> rfl) (pe14_23 d s dp (csF' (notT hv) (csT' (ge_hi h2) (csT' (ge_hi h1) (csF' h4 csN')))) w hL)
  · obtain rfl : wi = true := hw
    rcases reg_cases hD with ⟨d, rfl, h1⟩ | ⟨d, rfl, h1⟩
    · rcases reg_cases hS with ⟨s, rfl, h2⟩ | ⟨s, rfl, h2⟩
      · rcases Bool.eq_false_or_eq_true (Int.tmod (Int.ofNat d) 8 == 4) with h4 | h4
        · exact retZ (by simp only [encS14, modP_eq (b := 128) (m := (Int.ofNat s)) (e := (Int.ofNat d)) (by decide) (by decide) (reg_out hS) (reg_out hD), immP_eq, td_lo h1, td_lo h2, h4] <;> rfl) (pe14_24 d s dp (csF' (notT hv) (csF' (ge_lo h2) (csF' (ge_lo h1) (csT' h4 csN')))) w hL)
        · exact retZ (by simp only [encS14, modP_eq (b := 128) (m := (Int.ofNat s)) (e := (Int.ofNat d)) (by decide) (by decide) (reg_out hS) (reg_out hD), immP_eq, td_lo h1, td_lo h2, h4] <;> rfl) (pe14_25 d s dp (csF' (notT hv) (csF' (ge_lo h2) (csF' (ge_lo h1) (csF' h4 csN')))) w hL)
      · rcases Bool.eq_false_or_eq_true (Int.tmod (Int.ofNat d) 8 == 4) with h4 | h4
        · exact retZ (by simp only [encS14, modP_eq (b := 128) (m := (Int.ofNat (s + 8))) (e := (Int.ofNat d)) (by decide) (by decide) (reg_out hS) (reg_out hD), immP_eq, td_lo h1, td_hi h2, h4] <;> rfl) (pe14_26 d s dp (csF' (notT hv) (csT' (ge_hi h2) (csF' (ge_lo h1) (csT' h4 csN')))) w hL)
        · exact retZ (by simp only [encS14, modP_eq (b := 128) (m := (Int.ofNat (s + 8))) (e := (Int.ofNat d)) (by decide) (by decide) (reg_out hS) (reg_out hD), immP_eq, td_lo h1, td_hi h2, h4] <;> rfl) (pe14_27 d s dp (csF' (notT hv) (csT' (ge_hi h2) (csF' (ge_lo h1) (csF' h4 csN')))) w hL)
    · rcases reg_cases hS with ⟨s, rfl, h2⟩ | ⟨s, rfl, h2⟩
      · rcases Bool.eq_false_or_eq_true (Int.tmod (Int.ofNat (d + 8)) 8 == 4) with h4 | h4
        · exact retZ (by simp only [encS14, modP_eq (b := 128) (m := (Int.ofNat s)) (e := (Int.ofNat (d + 8))) (by decide) (by decide) (reg_out hS) (reg_out hD), immP_eq, td_hi h1, td_lo h2, h4] <;> rfl) (pe14_28 d s dp (csF' (notT hv) (csF' (ge_lo h2) (csT' (ge_hi h1) (csT' h4 csN')))) w hL)
        · exact retZ (by simp only [encS14, modP_eq (b := 128) (m := (Int.ofNat s)) (e := (Int.ofNat (d + 8))) (by decide) (by decide) (reg_out hS) (reg_out hD), immP_eq, td_hi h1, td_lo h2, h4] <;> rfl) (pe14_29 d s dp (csF' (notT hv) (csF' (ge_lo h2) (csT' (ge_hi h1) (csF' h4 csN')))) w hL)
      · rcases Bool.eq_false_or_eq_true (Int.tmod (Int.ofNat (d + 8)) 8 == 4) with h4 | h4
        · exact retZ (by simp only [encS14, modP_eq (b := 128) (m := (Int.ofNat (s + 8))) (e := (Int.ofNat (d + 8))) (by decide) (by decide) (reg_out hS) (reg_out hD), immP_eq, td_hi h1, td_hi h2, h4] <;> rfl) (pe14_30 d s dp (csF' (notT hv) (csT' (ge_hi h2) (csT' (ge_hi h1) (csT' h4 csN')))) w hL)
        · exact retZ (by simp only [encS14, modP_eq (b := 128) (m := (Int.ofNat (s + 8))) (e := (Int.ofNat (d + 8))) (by decide) (by decide) (reg_out hS) (reg_out hD), immP_eq, td_hi h1, td_hi h2, h4] <;> rfl) (pe14_31 d s dp (csF' (notT hv) (csT' (ge_hi h2) (csT' (ge_hi h1) (csF' h4 csN')))) w hL)
theorem c_pe15 (al co si : Int) (wi sh : Bool) (ds sr dp re im : Int) (hv : vP15 al co si wi sh ds sr dp re im = true) (w : World) (hL : Laid h12 w) : Calls Tryd.prog 13 #[.agg ⟨(xA 15 al co si wi sh ds sr dp re im)⟩] w fun e w' => e = .returned (.tuple ⟨[.string ⟨⟨encS15 al co si wi sh ds sr dp re im⟩⟩, .int .i64 0]⟩) ∧ Gr w w' := by
  have hA := andL hv
  have hR := andL (andR hv)
  have hD := andL hR
  have hS := andR hR
  have hC := andL (andR (andR hv))
  obtain rfl : al = 0 := eq_of_beq (α := Int) (andL (andR hA))
  obtain rfl : co = 0 := eq_of_beq (α := Int) (andL (andR (andR hA)))
  obtain rfl : si = 0 := eq_of_beq (α := Int) (andL (andR (andR (andR hA))))
  obtain rfl : wi = false := eq_of_beq (α := Bool) (andL (andR (andR (andR (andR hA)))))
  obtain rfl : ds = 0 := eq_of_beq (α := Int) (andL (andR (andR (andR (andR (andR (andR hA)))))))
  obtain rfl : sr = 0 := eq_of_beq (α := Int) (andL (andR (andR (andR (andR (andR (andR (andR hA))))))))
  obtain rfl : dp = 0 := eq_of_beq (α := Int) (andL (andR (andR (andR (andR (andR (andR (andR (andR hA)))))))))
  obtain rfl : im = 0 := eq_of_beq (α := Int) (andL (andR (andR (andR (andR (andR (andR (andR (andR (andR (andR hA)))))))))))
  cases sh with
  | true =>
    exact retZ (by simp only [encS15, immR1] <;> rfl) (pe15_0 re (csF' (notT hv) csN') w hL)
  | false =>
    exact retZ (by simp only [encS15, immP_eq] <;> rfl) (pe15_1 re (csF' (notT hv) csN') w hL)
theorem c_pe16 (al co si : Int) (wi sh : Bool) (ds sr dp re im : Int) (hv : vP16 al co si wi sh ds sr dp re im = true) (w : World) (hL : Laid h12 w) : Calls Tryd.prog 13 #[.agg ⟨(xA 16 al co si wi sh ds sr dp re im)⟩] w fun e w' => e = .returned (.tuple ⟨[.string ⟨⟨encS16 al co si wi sh ds sr dp re im⟩⟩, .int .i64 0]⟩) ∧ Gr w w' := by
  have hA := andL hv
  have hR := andL (andR hv)
  have hD := andL hR
  have hS := andR hR
  have hC := andL (andR (andR hv))
  obtain rfl : al = 0 := eq_of_beq (α := Int) (andL (andR hA))
  obtain rfl : si = 0 := eq_of_beq (α := Int) (andL (andR (andR (andR hA))))
  obtain rfl : wi = false := eq_of_beq (α := Bool) (andL (andR (andR (andR (andR hA)))))
  obtain rfl : ds = 0 := eq_of_beq (α := Int) (andL (andR (andR (andR (andR (andR (andR hA)))))))
  obtain rfl : sr = 0 := eq_of_beq (α := Int) (andL (andR (andR (andR (andR (andR (andR (andR hA))))))))
  obtain rfl : dp = 0 := eq_of_beq (α := Int) (andL (andR (andR (andR (andR (andR (andR (andR (andR hA)))))))))
  obtain rfl : im = 0 := eq_of_beq (α := Int) (andL (andR (andR (andR (andR (andR (andR (andR (andR (andR (andR hA)))))))))))
  have hc := cc_out hC
  cases sh with
  | true =>
    exact retZ (by simp only [encS16, cndP_eq (b := 112) (by decide) (by decide) hc, immR1] <;> rfl) (pe16_0 co re (csF' (notT hv) csN') w hL)
  | false =>
    exact retZ (by simp only [encS16, cndP_eq (b := 128) (by decide) (by decide) hc, immP_eq] <;> rfl) (pe16_1 co re (csF' (notT hv) csN') w hL)
theorem c_pe17 (al co si : Int) (wi sh : Bool) (ds sr dp re im : Int) (hv : vP17 al co si wi sh ds sr dp re im = true) (w : World) (hL : Laid h12 w) : Calls Tryd.prog 13 #[.agg ⟨(xA 17 al co si wi sh ds sr dp re im)⟩] w fun e w' => e = .returned (.tuple ⟨[.string ⟨⟨encS17 al co si wi sh ds sr dp re im⟩⟩, .int .i64 0]⟩) ∧ Gr w w' := by
  have hA := andL hv
  have hR := andL (andR hv)
  have hD := andL hR
  have hS := andR hR
  have hC := andL (andR (andR hv))
  obtain rfl : al = 0 := eq_of_beq (α := Int) (andL (andR hA))
  obtain rfl : co = 0 := eq_of_beq (α := Int) (andL (andR (andR hA)))
  obtain rfl : si = 0 := eq_of_beq (α := Int) (andL (andR (andR (andR hA))))
  obtain rfl : wi = false := eq_of_beq (α := Bool) (andL (andR (andR (andR (andR hA)))))
  obtain rfl : sh = false := eq_of_beq (α := Bool) (andL (andR (andR (andR (andR (andR hA))))))
  obtain rfl : sr = 0 := eq_of_beq (α := Int) (andL (andR (andR (andR (andR (andR (andR (andR hA))))))))
  obtain rfl : dp = 0 := eq_of_beq (α := Int) (andL (andR (andR (andR (andR (andR (andR (andR (andR hA)))))))))
  obtain rfl : re = 0 := eq_of_beq (α := Int) (andL (andR (andR (andR (andR (andR (andR (andR (andR (andR hA))))))))))
  obtain rfl : im = 0 := eq_of_beq (α := Int) (andL (andR (andR (andR (andR (andR (andR (andR (andR (andR (andR hA)))))))))))
  rcases reg_cases hD with ⟨d, rfl, h1⟩ | ⟨d, rfl, h1⟩
  · exact retZ (by simp only [encS17, codP_eq (b := 80) (d := (Int.ofNat d)) (by decide) (by decide) (reg_out hD), td_lo h1] <;> rfl) (pe17_0 d (csF' (notT hv) (csF' (ge_lo h1) csN')) w hL)
  · exact retZ (by simp only [encS17, codP_eq (b := 80) (d := (Int.ofNat (d + 8))) (by decide) (by decide) (reg_out hD), td_hi h1] <;> rfl) (pe17_1 d (csF' (notT hv) (csT' (ge_hi h1) csN')) w hL)
theorem c_pe18 (al co si : Int) (wi sh : Bool) (ds sr dp re im : Int) (hv : vP18 al co si wi sh ds sr dp re im = true) (w : World) (hL : Laid h12 w) : Calls Tryd.prog 13 #[.agg ⟨(xA 18 al co si wi sh ds sr dp re im)⟩] w fun e w' => e = .returned (.tuple ⟨[.string ⟨⟨encS18 al co si wi sh ds sr dp re im⟩⟩, .int .i64 0]⟩) ∧ Gr w w' := by
  have hA := andL hv
  have hR := andL (andR hv)
  have hD := andL hR
  have hS := andR hR
  have hC := andL (andR (andR hv))
  obtain rfl : al = 0 := eq_of_beq (α := Int) (andL (andR hA))
  obtain rfl : co = 0 := eq_of_beq (α := Int) (andL (andR (andR hA)))
  obtain rfl : si = 0 := eq_of_beq (α := Int) (andL (andR (andR (andR hA))))
  obtain rfl : wi = false := eq_of_beq (α := Bool) (andL (andR (andR (andR (andR hA)))))
  obtain rfl : sh = false := eq_of_beq (α := Bool) (andL (andR (andR (andR (andR (andR hA))))))
  obtain rfl : sr = 0 := eq_of_beq (α := Int) (andL (andR (andR (andR (andR (andR (andR (andR hA))))))))
  obtain rfl : dp = 0 := eq_of_beq (α := Int) (andL (andR (andR (andR (andR (andR (andR (andR (andR hA)))))))))
  obtain rfl : re = 0 := eq_of_beq (α := Int) (andL (andR (andR (andR (andR (andR (andR (andR (andR (andR hA))))))))))
  obtain rfl : im = 0 := eq_of_beq (α := Int) (andL (andR (andR (andR (andR (andR (andR (andR (andR (andR (andR hA)))))))))))
  rcases reg_cases hD with ⟨d, rfl, h1⟩ | ⟨d, rfl, h1⟩
  · exact retZ (by simp only [encS18, codP_eq (b := 88) (d := (Int.ofNat d)) (by decide) (by decide) (reg_out hD), td_lo h1] <;> rfl) (pe18_0 d (csF' (notT hv) (csF' (ge_lo h1) csN')) w hL)
  · exact retZ (by simp only [encS18, codP_eq (b := 88) (d := (Int.ofNat (d + 8))) (by decide) (by decide) (reg_out hD), td_hi h1] <;> rfl) (pe18_1 d (csF' (notT hv) (csT' (ge_hi h1) csN')) w hL)
theorem c_pe19 (al co si : Int) (wi sh : Bool) (ds sr dp re im : Int) (hv : vP19 al co si wi sh ds sr dp re im = true) (w : World) (hL : Laid h12 w) : Calls Tryd.prog 13 #[.agg ⟨(xA 19 al co si wi sh ds sr dp re im)⟩] w fun e w' => e = .returned (.tuple ⟨[.string ⟨⟨encS19 al co si wi sh ds sr dp re im⟩⟩, .int .i64 0]⟩) ∧ Gr w w' := by
  have hA := andL hv
  have hR := andL (andR hv)
  have hD := andL hR
  have hS := andR hR
  have hC := andL (andR (andR hv))
  obtain rfl : al = 0 := eq_of_beq (α := Int) (andL (andR hA))
  obtain rfl : co = 0 := eq_of_beq (α := Int) (andL (andR (andR hA)))
  obtain rfl : si = 0 := eq_of_beq (α := Int) (andL (andR (andR (andR hA))))
  obtain rfl : wi = false := eq_of_beq (α := Bool) (andL (andR (andR (andR (andR hA)))))
  obtain rfl : sh = false := eq_of_beq (α := Bool) (andL (andR (andR (andR (andR (andR hA))))))
  obtain rfl : ds = 0 := eq_of_beq (α := Int) (andL (andR (andR (andR (andR (andR (andR hA)))))))
  obtain rfl : sr = 0 := eq_of_beq (α := Int) (andL (andR (andR (andR (andR (andR (andR (andR hA))))))))
  obtain rfl : dp = 0 := eq_of_beq (α := Int) (andL (andR (andR (andR (andR (andR (andR (andR (andR hA)))))))))
  obtain rfl : re = 0 := eq_of_beq (α := Int) (andL (andR (andR (andR (andR (andR (andR (andR (andR (andR hA))))))))))
  obtain rfl : im = 0 := eq_of_beq (α := Int) (andL (andR (andR (andR (andR (andR (andR (andR (andR (andR (andR hA)))))))))))
  exact retZ (by simp only [encS19] <;> rfl) (pe19_0  (csF' (notT hv) csN') w hL)
theorem c_pe20 (al co si : Int) (wi sh : Bool) (ds sr dp re im : Int) (hv : vP20 al co si wi sh ds sr dp re im = true) (w : World) (hL : Laid h12 w) : Calls Tryd.prog 13 #[.agg ⟨(xA 20 al co si wi sh ds sr dp re im)⟩] w fun e w' => e = .returned (.tuple ⟨[.string ⟨⟨encS20 al co si wi sh ds sr dp re im⟩⟩, .int .i64 0]⟩) ∧ Gr w w' := by
  have hA := andL hv
  have hR := andL (andR hv)
  have hD := andL hR
  have hS := andR hR
  have hC := andL (andR (andR hv))
  obtain rfl : al = 0 := eq_of_beq (α := Int) (andL (andR hA))
  obtain rfl : co = 0 := eq_of_beq (α := Int) (andL (andR (andR hA)))
  obtain rfl : si = 0 := eq_of_beq (α := Int) (andL (andR (andR (andR hA))))
  obtain rfl : wi = false := eq_of_beq (α := Bool) (andL (andR (andR (andR (andR hA)))))
  obtain rfl : sh = false := eq_of_beq (α := Bool) (andL (andR (andR (andR (andR (andR hA))))))
  obtain rfl : ds = 0 := eq_of_beq (α := Int) (andL (andR (andR (andR (andR (andR (andR hA)))))))
  obtain rfl : sr = 0 := eq_of_beq (α := Int) (andL (andR (andR (andR (andR (andR (andR (andR hA))))))))
  obtain rfl : dp = 0 := eq_of_beq (α := Int) (andL (andR (andR (andR (andR (andR (andR (andR (andR hA)))))))))
  obtain rfl : im = 0 := eq_of_beq (α := Int) (andL (andR (andR (andR (andR (andR (andR (andR (andR (andR (andR hA)))))))))))
  exact retZ (by simp only [encS20, immP_eq] <;> rfl) (pe20_0 re (csF' (notT hv) csN') w hL)
theorem c_pe21 (al co si : Int) (wi sh : Bool) (ds sr dp re im : Int) (hv : vP21 al co si wi sh ds sr dp re im = true) (w : World) (hL : Laid h12 w) : Calls Tryd.prog 13 #[.agg ⟨(xA 21 al co si wi sh ds sr dp re im)⟩] w fun e w' => e = .returned (.tuple ⟨[.string ⟨⟨encS21 al co si wi sh ds sr dp re im⟩⟩, .int .i64 0]⟩) ∧ Gr w w' := by
  have hA := andL hv
  have hR := andL (andR hv)
  have hD := andL hR
  have hS := andR hR
  have hC := andL (andR (andR hv))
  obtain rfl : al = 0 := eq_of_beq (α := Int) (andL (andR hA))
  obtain rfl : co = 0 := eq_of_beq (α := Int) (andL (andR (andR hA)))
  obtain rfl : si = 0 := eq_of_beq (α := Int) (andL (andR (andR (andR hA))))
  obtain rfl : wi = false := eq_of_beq (α := Bool) (andL (andR (andR (andR (andR hA)))))
  obtain rfl : sh = false := eq_of_beq (α := Bool) (andL (andR (andR (andR (andR (andR hA))))))
  obtain rfl : ds = 0 := eq_of_beq (α := Int) (andL (andR (andR (andR (andR (andR (andR hA)))))))
  obtain rfl : sr = 0 := eq_of_beq (α := Int) (andL (andR (andR (andR (andR (andR (andR (andR hA))))))))
  obtain rfl : dp = 0 := eq_of_beq (α := Int) (andL (andR (andR (andR (andR (andR (andR (andR (andR hA)))))))))
  obtain rfl : re = 0 := eq_of_beq (α := Int) (andL (andR (andR (andR (andR (andR (andR (andR (andR (andR hA))))))))))
  obtain rfl : im = 0 := eq_of_beq (α := Int) (andL (andR (andR (andR (andR (andR (andR (andR (andR (andR (andR hA)))))))))))
  exact retZ (by simp only [encS21] <;> rfl) (pe21_0  (csF' (notT hv) csN') w hL)
theorem pe_bad (k : Int) (al co si : Int) (wi sh : Bool) (ds sr dp re im : Int) : Lf h12 13 [.agg ⟨(xA k al co si wi sh ds sr dp re im)⟩] (.tuple ⟨[.string ⟨⟨[]⟩⟩, .int .i64 2]⟩) [(b2i (!vP k al co si wi sh ds sr dp re im), 1)] := lf hkE_ok (ocs [(13, 11, .bool true)] []) (by kernel_rfl) (by kernel_rfl) (by kernel_rfl)
def encB (k : Int) (al co si : Int) (wi sh : Bool) (ds sr dp re im : Int) : List UInt8 := if vP k al co si wi sh ds sr dp re im then encS k al co si wi sh ds sr dp re im else []
def encE (k : Int) (al co si : Int) (wi sh : Bool) (ds sr dp re im : Int) : Int := if vP k al co si wi sh ds sr dp re im then 0 else 2
theorem c_penc (k : Int) (al co si : Int) (wi sh : Bool) (ds sr dp re im : Int) (w : World) (hL : Laid h12 w) : Calls Tryd.prog 13 #[.agg ⟨(xA k al co si wi sh ds sr dp re im)⟩] w fun e w' => e = .returned (.tuple ⟨[.string ⟨⟨encB k al co si wi sh ds sr dp re im⟩⟩, .int .i64 (encE k al co si wi sh ds sr dp re im)]⟩) ∧ Gr w w' := by
  rcases Bool.eq_false_or_eq_true (vP k al co si wi sh ds sr dp re im) with h | h
  · by_cases hk : 1 ≤ k ∧ k ≤ 21
    · rcases kinds (k := k) (by simp only [decide_eq_false_iff_not]; omega) (by simp only [decide_eq_false_iff_not]; omega) with rfl | rfl | rfl | rfl | rfl | rfl | rfl | rfl | rfl | rfl | rfl | rfl | rfl | rfl | rfl | rfl | rfl | rfl | rfl | rfl | rfl
      · exact retZ (by simp only [encB, encE, h]; rfl) (c_pe1 al co si wi sh ds sr dp re im h w hL)
      · exact retZ (by simp only [encB, encE, h]; rfl) (c_pe2 al co si wi sh ds sr dp re im h w hL)
      · exact retZ (by simp only [encB, encE, h]; rfl) (c_pe3 al co si wi sh ds sr dp re im h w hL)
      · exact retZ (by simp only [encB, encE, h]; rfl) (c_pe4 al co si wi sh ds sr dp re im h w hL)
      · exact retZ (by simp only [encB, encE, h]; rfl) (c_pe5 al co si wi sh ds sr dp re im h w hL)
      · exact retZ (by simp only [encB, encE, h]; rfl) (c_pe6 al co si wi sh ds sr dp re im h w hL)
      · exact retZ (by simp only [encB, encE, h]; rfl) (c_pe7 al co si wi sh ds sr dp re im h w hL)
      · exact retZ (by simp only [encB, encE, h]; rfl) (c_pe8 al co si wi sh ds sr dp re im h w hL)
      · exact retZ (by simp only [encB, encE, h]; rfl) (c_pe9 al co si wi sh ds sr dp re im h w hL)
      · exact retZ (by simp only [encB, encE, h]; rfl) (c_pe10 al co si wi sh ds sr dp re im h w hL)
      · exact retZ (by simp only [encB, encE, h]; rfl) (c_pe11 al co si wi sh ds sr dp re im h w hL)
      · exact retZ (by simp only [encB, encE, h]; rfl) (c_pe12 al co si wi sh ds sr dp re im h w hL)
      · exact retZ (by simp only [encB, encE, h]; rfl) (c_pe13 al co si wi sh ds sr dp re im h w hL)
      · exact retZ (by simp only [encB, encE, h]; rfl) (c_pe14 al co si wi sh ds sr dp re im h w hL)
      · exact retZ (by simp only [encB, encE, h]; rfl) (c_pe15 al co si wi sh ds sr dp re im h w hL)
      · exact retZ (by simp only [encB, encE, h]; rfl) (c_pe16 al co si wi sh ds sr dp re im h w hL)
      · exact retZ (by simp only [encB, encE, h]; rfl) (c_pe17 al co si wi sh ds sr dp re im h w hL)
      · exact retZ (by simp only [encB, encE, h]; rfl) (c_pe18 al co si wi sh ds sr dp re im h w hL)
      · exact retZ (by simp only [encB, encE, h]; rfl) (c_pe19 al co si wi sh ds sr dp re im h w hL)
      · exact retZ (by simp only [encB, encE, h]; rfl) (c_pe20 al co si wi sh ds sr dp re im h w hL)
      · exact retZ (by simp only [encB, encE, h]; rfl) (c_pe21 al co si wi sh ds sr dp re im h w hL)
    · exfalso
      have nd : ∀ n : Int, 1 ≤ n → n ≤ 21 → ¬ k = n := fun n h1 h2 => by omega
      unfold vP at h
      rw [if_neg (nd 1 (by omega) (by omega)), if_neg (nd 2 (by omega) (by omega)), if_neg (nd 3 (by omega) (by omega)), if_neg (nd 4 (by omega) (by omega)), if_neg (nd 5 (by omega) (by omega)), if_neg (nd 6 (by omega) (by omega)), if_neg (nd 7 (by omega) (by omega)), if_neg (nd 8 (by omega) (by omega)), if_neg (nd 9 (by omega) (by omega)), if_neg (nd 10 (by omega) (by omega)), if_neg (nd 11 (by omega) (by omega)), if_neg (nd 12 (by omega) (by omega)), if_neg (nd 13 (by omega) (by omega)), if_neg (nd 14 (by omega) (by omega)), if_neg (nd 15 (by omega) (by omega)), if_neg (nd 16 (by omega) (by omega)), if_neg (nd 17 (by omega) (by omega)), if_neg (nd 18 (by omega) (by omega)), if_neg (nd 19 (by omega) (by omega)), if_neg (nd 20 (by omega) (by omega)), if_neg (nd 21 (by omega) (by omega))] at h
      cases h
  · exact retZ (by simp only [encB, encE, h]; rfl) (pe_bad k al co si wi sh ds sr dp re im (csT' (by rw [h]; rfl) csN') w hL)
def hk_enc : Hook := fun f args h =>
  if Nat.beq f 13 && hasG h12 h then
    match args with
    | [.agg ⟨[.int .i64 p0, .int .i64 p1, .int .i64 p2, .int .i64 p3, .bool p4, .bool p5, .int .i64 p6, .int .i64 p7, .int .i32 p8, .int .i32 p9, .int .i64 p10]⟩] => some (.tuple ⟨[.string ⟨⟨encB p0 p1 p2 p3 p4 p5 p6 p7 p8 p9 p10⟩⟩, .int .i64 (encE p0 p1 p2 p3 p4 p5 p6 p7 p8 p9 p10)]⟩, [])
    | _ => none
  else none
theorem hk_enc_ok : HookOk Tryd.prog hk_enc := by
  intro f args h v cs hv hc wb k s w H
  unfold hk_enc at hv
  split at hv
  · rename_i hf
    simp only [Bool.and_eq_true] at hf
    obtain rfl := Nat.eq_of_beq_eq_true hf.1
    split at hv
    · cases hv
      exact c_penc _ _ _ _ _ _ _ _ _ _ _ w (H.laid hf.2 rfl)
    · cases hv
  · cases hv
end Go.Proofs.YtbaiokfjoglmiaaDoor.Ex
end
section
namespace Go.Proofs.YtbaiokfjoglmiaaDoor.Ex
open Go Go.RowKit
set_option linter.unusedVariables false
set_option linter.unusedSimpArgs false
set_option maxHeartbeats 0
set_option maxRecDepth 1000000
def kE (k : Int) : Int := IntKind.i64.wrap (1 + Int.tmod (IntKind.i64.wrap (Int.tmod k 21 + 21)) 21)
def ixE (n a : Int) : Int := Int.tmod (IntKind.i64.wrap (Int.tmod a n + n)) n
def anE (c x : Int) : Int := IntKind.i64.wrap ((BitVec.ofInt IntKind.i64.bits x &&& BitVec.ofInt IntKind.i64.bits c).toNat : Int)
def woE (x : Int) : Int := IntKind.i64.wrap (IntKind.i32.wrap x)
def shE (x : Int) : Int := IntKind.i32.wrap (IntKind.i8.wrap x)
def cutOrc (K i : Int) (s : Nat) : Orc := fun f t _ =>
  if Nat.beq f 20 then (if Nat.beq t 12 then some (.int .i64 K) else if Nat.beq t s then some (.int .i64 i) else none) else none
theorem i64_wrap (x : Int) : IntKind.i64.wrap x = if x % 18446744073709551616 ≥ 9223372036854775808 then x % 18446744073709551616 - 18446744073709551616 else x % 18446744073709551616 := by
  simp [IntKind.wrap, IntKind.signed, IntKind.bits]
theorem tm_bd (x n : Int) (h : 0 < n) : -n < Int.tmod x n ∧ Int.tmod x n < n := by
  have h1 := Int.lt_tmod_of_pos x h
  have h2 := Int.tmod_lt_of_pos x h
  exact ⟨h1, h2⟩
theorem ix_bd (n a : Int) (h : 0 < n) (h2 : n < 1000) : 0 ≤ ixE n a ∧ ixE n a < n := by
  have h1 := tm_bd a n h
  unfold ixE
  rw [wr64 (by omega) (by omega)]
  exact ⟨Int.tmod_nonneg _ (by omega), Int.tmod_lt_of_pos _ h⟩
theorem kE_bd (k : Int) : 1 ≤ kE k ∧ kE k ≤ 21 := by
  have h := ix_bd 21 k (by decide) (by decide)
  unfold kE
  rw [show Int.tmod (IntKind.i64.wrap (Int.tmod k 21 + 21)) 21 = ixE 21 k from rfl, wr64 (by omega) (by omega)]
  omega
theorem an_bd (n : Nat) (c x : Int) (hc : (BitVec.ofInt 64 c).toNat < n) (hn : n < 1000) : 0 ≤ anE c x ∧ anE c x < n := by
  have h : (BitVec.ofInt 64 x &&& BitVec.ofInt 64 c).toNat < n := by
    rw [BitVec.toNat_and]
    exact Nat.lt_of_le_of_lt Nat.and_le_right hc
  unfold anE
  have e : IntKind.i64.bits = 64 := rfl
  rw [e, wr64 (by omega) (by omega)]
  omega
theorem an15 (x : Int) : regS (anE 15 x) = true := by
  have h := an_bd 16 15 x (by decide) (by decide)
  simp only [regS, Bool.and_eq_true, decide_eq_true_eq]
  omega
theorem wo_eq (x : Int) : (woE x == IntKind.i64.wrap (IntKind.i32.wrap (woE x))) = true := by
  have h : -2147483648 ≤ IntKind.i32.wrap x ∧ IntKind.i32.wrap x < 2147483648 := by
    rw [show IntKind.i32.wrap x = if x % 4294967296 ≥ 2147483648 then x % 4294967296 - 4294967296 else x % 4294967296 by simp [IntKind.wrap, IntKind.signed, IntKind.bits]]
    split <;> omega
  unfold woE
  rw [wr64 (x := IntKind.i32.wrap x) (by omega) (by omega), beq_iff_eq]
  have e : ∀ y : Int, -2147483648 ≤ y → y < 2147483648 → IntKind.i32.wrap y = y := fun y h1 h2 => by
    rw [show IntKind.i32.wrap y = if y % 4294967296 ≥ 2147483648 then y % 4294967296 - 4294967296 else y % 4294967296 by simp [IntKind.wrap, IntKind.signed, IntKind.bits]]
    split <;> omega
  rw [e _ h.1 h.2, wr64 (by omega) (by omega)]
theorem sh_eq (x : Int) : (shE x == IntKind.i32.wrap (IntKind.i8.wrap (shE x))) = true := by
  have w8 : ∀ y : Int, IntKind.i8.wrap y = if y % 256 ≥ 128 then y % 256 - 256 else y % 256 := fun y => by simp [IntKind.wrap, IntKind.signed, IntKind.bits]
  have w32 : ∀ y : Int, IntKind.i32.wrap y = if y % 4294967296 ≥ 2147483648 then y % 4294967296 - 4294967296 else y % 4294967296 := fun y => by simp [IntKind.wrap, IntKind.signed, IntKind.bits]
  unfold shE
  rw [beq_iff_eq]
  have h : -128 ≤ IntKind.i8.wrap x ∧ IntKind.i8.wrap x < 128 := by rw [w8]; split <;> omega
  generalize IntKind.i8.wrap x = y at h
  have e : IntKind.i32.wrap y = y := by rw [w32]; split <;> omega
  rw [e, w8, w32]
  split <;> split <;> omega
theorem cut1_0 (k : Int) (al co si : Int) (wi sh : Bool) (ds sr dp re im : Int) : Lf [] 20 [.agg ⟨(xA k al co si wi sh ds sr dp re im)⟩] (.agg ⟨(xA 1 0 0 0 wi false (anE 15 ds) (anE 15 sr) 0 0 0)⟩) [(kE k, 1)] := lf hkZ_ok (cutOrc 1 0 99999) (by kernel_rfl) (by kernel_rfl) (by kernel_rfl)
theorem cut2_0 (k : Int) (al co si : Int) (wi sh : Bool) (ds sr dp re im : Int) : Lf [] 20 [.agg ⟨(xA k al co si wi sh ds sr dp re im)⟩] (.agg ⟨(xA 2 0 0 0 true false (anE 15 ds) 0 0 0 (woE im))⟩) [(kE k, 2)] := lf hkZ_ok (cutOrc 2 0 99999) (by kernel_rfl) (by kernel_rfl) (by kernel_rfl)
theorem cut3_0 (k : Int) (al co si : Int) (wi sh : Bool) (ds sr dp re im : Int) : Lf [] 20 [.agg ⟨(xA k al co si wi sh ds sr dp re im)⟩] (.agg ⟨(xA 3 0 0 0 true false (anE 15 ds) 0 0 0 im)⟩) [(kE k, 3)] := lf hkZ_ok (cutOrc 3 0 99999) (by kernel_rfl) (by kernel_rfl) (by kernel_rfl)
theorem cut4_0 (k : Int) (al co si : Int) (wi sh : Bool) (ds sr dp re im : Int) : Lf [] 20 [.agg ⟨(xA k al co si wi sh ds sr dp re im)⟩] (.agg ⟨(xA 4 0 0 0 wi false (anE 15 ds) (anE 15 sr) 0 0 0)⟩) [(kE k, 4), (ixE 6 al, 0)] := lf hkZ_ok (cutOrc 4 0 44) (by kernel_rfl) (by kernel_rfl) (by kernel_rfl)
theorem cut4_1 (k : Int) (al co si : Int) (wi sh : Bool) (ds sr dp re im : Int) : Lf [] 20 [.agg ⟨(xA k al co si wi sh ds sr dp re im)⟩] (.agg ⟨(xA 4 1 0 0 wi false (anE 15 ds) (anE 15 sr) 0 0 0)⟩) [(kE k, 4), (ixE 6 al, 1)] := lf hkZ_ok (cutOrc 4 1 44) (by kernel_rfl) (by kernel_rfl) (by kernel_rfl)
theorem cut4_2 (k : Int) (al co si : Int) (wi sh : Bool) (ds sr dp re im : Int) : Lf [] 20 [.agg ⟨(xA k al co si wi sh ds sr dp re im)⟩] (.agg ⟨(xA 4 4 0 0 wi false (anE 15 ds) (anE 15 sr) 0 0 0)⟩) [(kE k, 4), (ixE 6 al, 2)] := lf hkZ_ok (cutOrc 4 2 44) (by kernel_rfl) (by kernel_rfl) (by kernel_rfl)
theorem cut4_3 (k : Int) (al co si : Int) (wi sh : Bool) (ds sr dp re im : Int) : Lf [] 20 [.agg ⟨(xA k al co si wi sh ds sr dp re im)⟩] (.agg ⟨(xA 4 5 0 0 wi false (anE 15 ds) (anE 15 sr) 0 0 0)⟩) [(kE k, 4), (ixE 6 al, 3)] := lf hkZ_ok (cutOrc 4 3 44) (by kernel_rfl) (by kernel_rfl) (by kernel_rfl)
theorem cut4_4 (k : Int) (al co si : Int) (wi sh : Bool) (ds sr dp re im : Int) : Lf [] 20 [.agg ⟨(xA k al co si wi sh ds sr dp re im)⟩] (.agg ⟨(xA 4 6 0 0 wi false (anE 15 ds) (anE 15 sr) 0 0 0)⟩) [(kE k, 4), (ixE 6 al, 4)] := lf hkZ_ok (cutOrc 4 4 44) (by kernel_rfl) (by kernel_rfl) (by kernel_rfl)
theorem cut4_5 (k : Int) (al co si : Int) (wi sh : Bool) (ds sr dp re im : Int) : Lf [] 20 [.agg ⟨(xA k al co si wi sh ds sr dp re im)⟩] (.agg ⟨(xA 4 7 0 0 wi false (anE 15 ds) (anE 15 sr) 0 0 0)⟩) [(kE k, 4), (ixE 6 al, 5)] := lf hkZ_ok (cutOrc 4 5 44) (by kernel_rfl) (by kernel_rfl) (by kernel_rfl)
theorem cut5_0 (k : Int) (al co si : Int) (wi sh : Bool) (ds sr dp re im : Int) : Lf [] 20 [.agg ⟨(xA k al co si wi sh ds sr dp re im)⟩] (.agg ⟨(xA 5 0 0 0 wi false (anE 15 ds) 0 0 0 (woE im))⟩) [(kE k, 5), (ixE 6 al, 0)] := lf hkZ_ok (cutOrc 5 0 61) (by kernel_rfl) (by kernel_rfl) (by kernel_rfl)
theorem cut5_1 (k : Int) (al co si : Int) (wi sh : Bool) (ds sr dp re im : Int) : Lf [] 20 [.agg ⟨(xA k al co si wi sh ds sr dp re im)⟩] (.agg ⟨(xA 5 1 0 0 wi false (anE 15 ds) 0 0 0 (woE im))⟩) [(kE k, 5), (ixE 6 al, 1)] := lf hkZ_ok (cutOrc 5 1 61) (by kernel_rfl) (by kernel_rfl) (by kernel_rfl)
theorem cut5_2 (k : Int) (al co si : Int) (wi sh : Bool) (ds sr dp re im : Int) : Lf [] 20 [.agg ⟨(xA k al co si wi sh ds sr dp re im)⟩] (.agg ⟨(xA 5 4 0 0 wi false (anE 15 ds) 0 0 0 (woE im))⟩) [(kE k, 5), (ixE 6 al, 2)] := lf hkZ_ok (cutOrc 5 2 61) (by kernel_rfl) (by kernel_rfl) (by kernel_rfl)
theorem cut5_3 (k : Int) (al co si : Int) (wi sh : Bool) (ds sr dp re im : Int) : Lf [] 20 [.agg ⟨(xA k al co si wi sh ds sr dp re im)⟩] (.agg ⟨(xA 5 5 0 0 wi false (anE 15 ds) 0 0 0 (woE im))⟩) [(kE k, 5), (ixE 6 al, 3)] := lf hkZ_ok (cutOrc 5 3 61) (by kernel_rfl) (by kernel_rfl) (by kernel_rfl)
theorem cut5_4 (k : Int) (al co si : Int) (wi sh : Bool) (ds sr dp re im : Int) : Lf [] 20 [.agg ⟨(xA k al co si wi sh ds sr dp re im)⟩] (.agg ⟨(xA 5 6 0 0 wi false (anE 15 ds) 0 0 0 (woE im))⟩) [(kE k, 5), (ixE 6 al, 4)] := lf hkZ_ok (cutOrc 5 4 61) (by kernel_rfl) (by kernel_rfl) (by kernel_rfl)
theorem cut5_5 (k : Int) (al co si : Int) (wi sh : Bool) (ds sr dp re im : Int) : Lf [] 20 [.agg ⟨(xA k al co si wi sh ds sr dp re im)⟩] (.agg ⟨(xA 5 7 0 0 wi false (anE 15 ds) 0 0 0 (woE im))⟩) [(kE k, 5), (ixE 6 al, 5)] := lf hkZ_ok (cutOrc 5 5 61) (by kernel_rfl) (by kernel_rfl) (by kernel_rfl)
theorem cut6_0 (k : Int) (al co si : Int) (wi sh : Bool) (ds sr dp re im : Int) : Lf [] 20 [.agg ⟨(xA k al co si wi sh ds sr dp re im)⟩] (.agg ⟨(xA 6 0 0 0 wi false (anE 15 ds) (anE 15 sr) 0 0 0)⟩) [(kE k, 6)] := lf hkZ_ok (cutOrc 6 0 99999) (by kernel_rfl) (by kernel_rfl) (by kernel_rfl)
theorem cut7_0 (k : Int) (al co si : Int) (wi sh : Bool) (ds sr dp re im : Int) : Lf [] 20 [.agg ⟨(xA k al co si wi sh ds sr dp re im)⟩] (.agg ⟨(xA 7 0 0 0 wi false (anE 15 ds) 0 0 0 0)⟩) [(kE k, 7)] := lf hkZ_ok (cutOrc 7 0 99999) (by kernel_rfl) (by kernel_rfl) (by kernel_rfl)
theorem cut8_0 (k : Int) (al co si : Int) (wi sh : Bool) (ds sr dp re im : Int) : Lf [] 20 [.agg ⟨(xA k al co si wi sh ds sr dp re im)⟩] (.agg ⟨(xA 8 0 0 0 wi false (anE 15 ds) 0 0 0 0)⟩) [(kE k, 8)] := lf hkZ_ok (cutOrc 8 0 99999) (by kernel_rfl) (by kernel_rfl) (by kernel_rfl)
theorem cut9_0 (k : Int) (al co si : Int) (wi sh : Bool) (ds sr dp re im : Int) : Lf [] 20 [.agg ⟨(xA k al co si wi sh ds sr dp re im)⟩] (.agg ⟨(xA 9 0 0 0 wi false (anE 15 ds) 0 0 0 0)⟩) [(kE k, 9)] := lf hkZ_ok (cutOrc 9 0 99999) (by kernel_rfl) (by kernel_rfl) (by kernel_rfl)
theorem cut10_0 (k : Int) (al co si : Int) (wi sh : Bool) (ds sr dp re im : Int) : Lf [] 20 [.agg ⟨(xA k al co si wi sh ds sr dp re im)⟩] (.agg ⟨(xA 10 0 0 0 wi false (anE 15 ds) (anE 15 sr) 0 0 0)⟩) [(kE k, 10)] := lf hkZ_ok (cutOrc 10 0 99999) (by kernel_rfl) (by kernel_rfl) (by kernel_rfl)
theorem cut11_0 (k : Int) (al co si : Int) (wi sh : Bool) (ds sr dp re im : Int) : Lf [] 20 [.agg ⟨(xA k al co si wi sh ds sr dp re im)⟩] (.agg ⟨(xA 11 4 0 0 wi false (anE 15 ds) 0 0 0 (anE 31 im))⟩) [(kE k, 11), (ixE 3 al, 0)] := lf hkZ_ok (cutOrc 11 0 102) (by kernel_rfl) (by kernel_rfl) (by kernel_rfl)
theorem cut11_1 (k : Int) (al co si : Int) (wi sh : Bool) (ds sr dp re im : Int) : Lf [] 20 [.agg ⟨(xA k al co si wi sh ds sr dp re im)⟩] (.agg ⟨(xA 11 5 0 0 wi false (anE 15 ds) 0 0 0 (anE 31 im))⟩) [(kE k, 11), (ixE 3 al, 1)] := lf hkZ_ok (cutOrc 11 1 102) (by kernel_rfl) (by kernel_rfl) (by kernel_rfl)
theorem cut11_2 (k : Int) (al co si : Int) (wi sh : Bool) (ds sr dp re im : Int) : Lf [] 20 [.agg ⟨(xA k al co si wi sh ds sr dp re im)⟩] (.agg ⟨(xA 11 7 0 0 wi false (anE 15 ds) 0 0 0 (anE 31 im))⟩) [(kE k, 11), (ixE 3 al, 2)] := lf hkZ_ok (cutOrc 11 2 102) (by kernel_rfl) (by kernel_rfl) (by kernel_rfl)
theorem cut12_0 (k : Int) (al co si : Int) (wi sh : Bool) (ds sr dp re im : Int) : Lf [] 20 [.agg ⟨(xA k al co si wi sh ds sr dp re im)⟩] (.agg ⟨(xA 12 4 0 0 wi false (anE 15 ds) 0 0 0 0)⟩) [(kE k, 12), (ixE 3 al, 0)] := lf hkZ_ok (cutOrc 12 0 121) (by kernel_rfl) (by kernel_rfl) (by kernel_rfl)
theorem cut12_1 (k : Int) (al co si : Int) (wi sh : Bool) (ds sr dp re im : Int) : Lf [] 20 [.agg ⟨(xA k al co si wi sh ds sr dp re im)⟩] (.agg ⟨(xA 12 5 0 0 wi false (anE 15 ds) 0 0 0 0)⟩) [(kE k, 12), (ixE 3 al, 1)] := lf hkZ_ok (cutOrc 12 1 121) (by kernel_rfl) (by kernel_rfl) (by kernel_rfl)
theorem cut12_2 (k : Int) (al co si : Int) (wi sh : Bool) (ds sr dp re im : Int) : Lf [] 20 [.agg ⟨(xA k al co si wi sh ds sr dp re im)⟩] (.agg ⟨(xA 12 7 0 0 wi false (anE 15 ds) 0 0 0 0)⟩) [(kE k, 12), (ixE 3 al, 2)] := lf hkZ_ok (cutOrc 12 2 121) (by kernel_rfl) (by kernel_rfl) (by kernel_rfl)
theorem cut13_0 (k : Int) (al co si : Int) (wi sh : Bool) (ds sr dp re im : Int) : Lf [] 20 [.agg ⟨(xA k al co si wi sh ds sr dp re im)⟩] (.agg ⟨(xA 13 0 0 1 false false (anE 15 ds) (anE 15 sr) dp 0 0)⟩) [(kE k, 13), (anE 3 si, 0)] := lf hkZ_ok (cutOrc 13 0 134) (by kernel_rfl) (by kernel_rfl) (by kernel_rfl)
theorem cut13_1 (k : Int) (al co si : Int) (wi sh : Bool) (ds sr dp re im : Int) : Lf [] 20 [.agg ⟨(xA k al co si wi sh ds sr dp re im)⟩] (.agg ⟨(xA 13 0 0 2 false false (anE 15 ds) (anE 15 sr) dp 0 0)⟩) [(kE k, 13), (anE 3 si, 1)] := lf hkZ_ok (cutOrc 13 1 134) (by kernel_rfl) (by kernel_rfl) (by kernel_rfl)
theorem cut13_2 (k : Int) (al co si : Int) (wi sh : Bool) (ds sr dp re im : Int) : Lf [] 20 [.agg ⟨(xA k al co si wi sh ds sr dp re im)⟩] (.agg ⟨(xA 13 0 0 4 false false (anE 15 ds) (anE 15 sr) dp 0 0)⟩) [(kE k, 13), (anE 3 si, 2)] := lf hkZ_ok (cutOrc 13 2 134) (by kernel_rfl) (by kernel_rfl) (by kernel_rfl)
theorem cut13_3 (k : Int) (al co si : Int) (wi sh : Bool) (ds sr dp re im : Int) : Lf [] 20 [.agg ⟨(xA k al co si wi sh ds sr dp re im)⟩] (.agg ⟨(xA 13 0 0 8 true false (anE 15 ds) (anE 15 sr) dp 0 0)⟩) [(kE k, 13), (anE 3 si, 3)] := lf hkZ_ok (cutOrc 13 3 134) (by kernel_rfl) (by kernel_rfl) (by kernel_rfl)
theorem cut14_0 (k : Int) (al co si : Int) (wi sh : Bool) (ds sr dp re im : Int) : Lf [] 20 [.agg ⟨(xA k al co si wi sh ds sr dp re im)⟩] (.agg ⟨(xA 14 0 0 1 false false (anE 15 ds) (anE 15 sr) dp 0 0)⟩) [(kE k, 14), (anE 3 si, 0)] := lf hkZ_ok (cutOrc 14 0 134) (by kernel_rfl) (by kernel_rfl) (by kernel_rfl)
theorem cut14_1 (k : Int) (al co si : Int) (wi sh : Bool) (ds sr dp re im : Int) : Lf [] 20 [.agg ⟨(xA k al co si wi sh ds sr dp re im)⟩] (.agg ⟨(xA 14 0 0 2 false false (anE 15 ds) (anE 15 sr) dp 0 0)⟩) [(kE k, 14), (anE 3 si, 1)] := lf hkZ_ok (cutOrc 14 1 134) (by kernel_rfl) (by kernel_rfl) (by kernel_rfl)
theorem cut14_2 (k : Int) (al co si : Int) (wi sh : Bool) (ds sr dp re im : Int) : Lf [] 20 [.agg ⟨(xA k al co si wi sh ds sr dp re im)⟩] (.agg ⟨(xA 14 0 0 4 false false (anE 15 ds) (anE 15 sr) dp 0 0)⟩) [(kE k, 14), (anE 3 si, 2)] := lf hkZ_ok (cutOrc 14 2 134) (by kernel_rfl) (by kernel_rfl) (by kernel_rfl)
theorem cut14_3 (k : Int) (al co si : Int) (wi sh : Bool) (ds sr dp re im : Int) : Lf [] 20 [.agg ⟨(xA k al co si wi sh ds sr dp re im)⟩] (.agg ⟨(xA 14 0 0 8 true false (anE 15 ds) (anE 15 sr) dp 0 0)⟩) [(kE k, 14), (anE 3 si, 3)] := lf hkZ_ok (cutOrc 14 3 134) (by kernel_rfl) (by kernel_rfl) (by kernel_rfl)
theorem cut15_0_1 (k : Int) (al co si : Int) (wi : Bool) (ds sr dp re im : Int) : Lf [] 20 [.agg ⟨(xA k al co si wi true ds sr dp re im)⟩] (.agg ⟨(xA 15 0 0 0 false true 0 0 0 (shE re) 0)⟩) [(kE k, 15)] := lf hkZ_ok (cutOrc 15 0 99999) (by kernel_rfl) (by kernel_rfl) (by kernel_rfl)
theorem cut15_0_0 (k : Int) (al co si : Int) (wi : Bool) (ds sr dp re im : Int) : Lf [] 20 [.agg ⟨(xA k al co si wi false ds sr dp re im)⟩] (.agg ⟨(xA 15 0 0 0 false false 0 0 0 re 0)⟩) [(kE k, 15)] := lf hkZ_ok (cutOrc 15 0 99999) (by kernel_rfl) (by kernel_rfl) (by kernel_rfl)
theorem cut16_0_1 (k : Int) (al co si : Int) (wi : Bool) (ds sr dp re im : Int) : Lf [] 20 [.agg ⟨(xA k al co si wi true ds sr dp re im)⟩] (.agg ⟨(xA 16 0 2 0 false true 0 0 0 (shE re) 0)⟩) [(kE k, 16), (ixE 10 co, 0)] := lf hkZ_ok (cutOrc 16 0 178) (by kernel_rfl) (by kernel_rfl) (by kernel_rfl)
theorem cut16_1_1 (k : Int) (al co si : Int) (wi : Bool) (ds sr dp re im : Int) : Lf [] 20 [.agg ⟨(xA k al co si wi true ds sr dp re im)⟩] (.agg ⟨(xA 16 0 3 0 false true 0 0 0 (shE re) 0)⟩) [(kE k, 16), (ixE 10 co, 1)] := lf hkZ_ok (cutOrc 16 1 178) (by kernel_rfl) (by kernel_rfl) (by kernel_rfl)
theorem cut16_2_1 (k : Int) (al co si : Int) (wi : Bool) (ds sr dp re im : Int) : Lf [] 20 [.agg ⟨(xA k al co si wi true ds sr dp re im)⟩] (.agg ⟨(xA 16 0 4 0 false true 0 0 0 (shE re) 0)⟩) [(kE k, 16), (ixE 10 co, 2)] := lf hkZ_ok (cutOrc 16 2 178) (by kernel_rfl) (by kernel_rfl) (by kernel_rfl)
theorem cut16_3_1 (k : Int) (al co si : Int) (wi : Bool) (ds sr dp re im : Int) : Lf [] 20 [.agg ⟨(xA k al co si wi true ds sr dp re im)⟩] (.agg ⟨(xA 16 0 5 0 false true 0 0 0 (shE re) 0)⟩) [(kE k, 16), (ixE 10 co, 3)] := lf hkZ_ok (cutOrc 16 3 178) (by kernel_rfl) (by kernel_rfl) (by kernel_rfl)
theorem cut16_4_1 (k : Int) (al co si : Int) (wi : Bool) (ds sr dp re im : Int) : Lf [] 20 [.agg ⟨(xA k al co si wi true ds sr dp re im)⟩] (.agg ⟨(xA 16 0 6 0 false true 0 0 0 (shE re) 0)⟩) [(kE k, 16), (ixE 10 co, 4)] := lf hkZ_ok (cutOrc 16 4 178) (by kernel_rfl) (by kernel_rfl) (by kernel_rfl)
theorem cut16_5_1 (k : Int) (al co si : Int) (wi : Bool) (ds sr dp re im : Int) : Lf [] 20 [.agg ⟨(xA k al co si wi true ds sr dp re im)⟩] (.agg ⟨(xA 16 0 7 0 false true 0 0 0 (shE re) 0)⟩) [(kE k, 16), (ixE 10 co, 5)] := lf hkZ_ok (cutOrc 16 5 178) (by kernel_rfl) (by kernel_rfl) (by kernel_rfl)
theorem cut16_6_1 (k : Int) (al co si : Int) (wi : Bool) (ds sr dp re im : Int) : Lf [] 20 [.agg ⟨(xA k al co si wi true ds sr dp re im)⟩] (.agg ⟨(xA 16 0 12 0 false true 0 0 0 (shE re) 0)⟩) [(kE k, 16), (ixE 10 co, 6)] := lf hkZ_ok (cutOrc 16 6 178) (by kernel_rfl) (by kernel_rfl) (by kernel_rfl)
theorem cut16_7_1 (k : Int) (al co si : Int) (wi : Bool) (ds sr dp re im : Int) : Lf [] 20 [.agg ⟨(xA k al co si wi true ds sr dp re im)⟩] (.agg ⟨(xA 16 0 13 0 false true 0 0 0 (shE re) 0)⟩) [(kE k, 16), (ixE 10 co, 7)] := lf hkZ_ok (cutOrc 16 7 178) (by kernel_rfl) (by kernel_rfl) (by kernel_rfl)
theorem cut16_8_1 (k : Int) (al co si : Int) (wi : Bool) (ds sr dp re im : Int) : Lf [] 20 [.agg ⟨(xA k al co si wi true ds sr dp re im)⟩] (.agg ⟨(xA 16 0 14 0 false true 0 0 0 (shE re) 0)⟩) [(kE k, 16), (ixE 10 co, 8)] := lf hkZ_ok (cutOrc 16 8 178) (by kernel_rfl) (by kernel_rfl) (by kernel_rfl)
theorem cut16_9_1 (k : Int) (al co si : Int) (wi : Bool) (ds sr dp re im : Int) : Lf [] 20 [.agg ⟨(xA k al co si wi true ds sr dp re im)⟩] (.agg ⟨(xA 16 0 15 0 false true 0 0 0 (shE re) 0)⟩) [(kE k, 16), (ixE 10 co, 9)] := lf hkZ_ok (cutOrc 16 9 178) (by kernel_rfl) (by kernel_rfl) (by kernel_rfl)
theorem cut16_0_0 (k : Int) (al co si : Int) (wi : Bool) (ds sr dp re im : Int) : Lf [] 20 [.agg ⟨(xA k al co si wi false ds sr dp re im)⟩] (.agg ⟨(xA 16 0 2 0 false false 0 0 0 re 0)⟩) [(kE k, 16), (ixE 10 co, 0)] := lf hkZ_ok (cutOrc 16 0 178) (by kernel_rfl) (by kernel_rfl) (by kernel_rfl)
theorem cut16_1_0 (k : Int) (al co si : Int) (wi : Bool) (ds sr dp re im : Int) : Lf [] 20 [.agg ⟨(xA k al co si wi false ds sr dp re im)⟩] (.agg ⟨(xA 16 0 3 0 false false 0 0 0 re 0)⟩) [(kE k, 16), (ixE 10 co, 1)] := lf hkZ_ok (cutOrc 16 1 178) (by kernel_rfl) (by kernel_rfl) (by kernel_rfl)
theorem cut16_2_0 (k : Int) (al co si : Int) (wi : Bool) (ds sr dp re im : Int) : Lf [] 20 [.agg ⟨(xA k al co si wi false ds sr dp re im)⟩] (.agg ⟨(xA 16 0 4 0 false false 0 0 0 re 0)⟩) [(kE k, 16), (ixE 10 co, 2)] := lf hkZ_ok (cutOrc 16 2 178) (by kernel_rfl) (by kernel_rfl) (by kernel_rfl)
theorem cut16_3_0 (k : Int) (al co si : Int) (wi : Bool) (ds sr dp re im : Int) : Lf [] 20 [.agg ⟨(xA k al co si wi false ds sr dp re im)⟩] (.agg ⟨(xA 16 0 5 0 false false 0 0 0 re 0)⟩) [(kE k, 16), (ixE 10 co, 3)] := lf hkZ_ok (cutOrc 16 3 178) (by kernel_rfl) (by kernel_rfl) (by kernel_rfl)
theorem cut16_4_0 (k : Int) (al co si : Int) (wi : Bool) (ds sr dp re im : Int) : Lf [] 20 [.agg ⟨(xA k al co si wi false ds sr dp re im)⟩] (.agg ⟨(xA 16 0 6 0 false false 0 0 0 re 0)⟩) [(kE k, 16), (ixE 10 co, 4)] := lf hkZ_ok (cutOrc 16 4 178) (by kernel_rfl) (by kernel_rfl) (by kernel_rfl)
theorem cut16_5_0 (k : Int) (al co si : Int) (wi : Bool) (ds sr dp re im : Int) : Lf [] 20 [.agg ⟨(xA k al co si wi false ds sr dp re im)⟩] (.agg ⟨(xA 16 0 7 0 false false 0 0 0 re 0)⟩) [(kE k, 16), (ixE 10 co, 5)] := lf hkZ_ok (cutOrc 16 5 178) (by kernel_rfl) (by kernel_rfl) (by kernel_rfl)
theorem cut16_6_0 (k : Int) (al co si : Int) (wi : Bool) (ds sr dp re im : Int) : Lf [] 20 [.agg ⟨(xA k al co si wi false ds sr dp re im)⟩] (.agg ⟨(xA 16 0 12 0 false false 0 0 0 re 0)⟩) [(kE k, 16), (ixE 10 co, 6)] := lf hkZ_ok (cutOrc 16 6 178) (by kernel_rfl) (by kernel_rfl) (by kernel_rfl)
theorem cut16_7_0 (k : Int) (al co si : Int) (wi : Bool) (ds sr dp re im : Int) : Lf [] 20 [.agg ⟨(xA k al co si wi false ds sr dp re im)⟩] (.agg ⟨(xA 16 0 13 0 false false 0 0 0 re 0)⟩) [(kE k, 16), (ixE 10 co, 7)] := lf hkZ_ok (cutOrc 16 7 178) (by kernel_rfl) (by kernel_rfl) (by kernel_rfl)
theorem cut16_8_0 (k : Int) (al co si : Int) (wi : Bool) (ds sr dp re im : Int) : Lf [] 20 [.agg ⟨(xA k al co si wi false ds sr dp re im)⟩] (.agg ⟨(xA 16 0 14 0 false false 0 0 0 re 0)⟩) [(kE k, 16), (ixE 10 co, 8)] := lf hkZ_ok (cutOrc 16 8 178) (by kernel_rfl) (by kernel_rfl) (by kernel_rfl)
theorem cut16_9_0 (k : Int) (al co si : Int) (wi : Bool) (ds sr dp re im : Int) : Lf [] 20 [.agg ⟨(xA k al co si wi false ds sr dp re im)⟩] (.agg ⟨(xA 16 0 15 0 false false 0 0 0 re 0)⟩) [(kE k, 16), (ixE 10 co, 9)] := lf hkZ_ok (cutOrc 16 9 178) (by kernel_rfl) (by kernel_rfl) (by kernel_rfl)
theorem cut17_0 (k : Int) (al co si : Int) (wi sh : Bool) (ds sr dp re im : Int) : Lf [] 20 [.agg ⟨(xA k al co si wi sh ds sr dp re im)⟩] (.agg ⟨(xA 17 0 0 0 false false (anE 15 ds) 0 0 0 0)⟩) [(kE k, 17)] := lf hkZ_ok (cutOrc 17 0 99999) (by kernel_rfl) (by kernel_rfl) (by kernel_rfl)
theorem cut18_0 (k : Int) (al co si : Int) (wi sh : Bool) (ds sr dp re im : Int) : Lf [] 20 [.agg ⟨(xA k al co si wi sh ds sr dp re im)⟩] (.agg ⟨(xA 18 0 0 0 false false (anE 15 ds) 0 0 0 0)⟩) [(kE k, 18)] := lf hkZ_ok (cutOrc 18 0 99999) (by kernel_rfl) (by kernel_rfl) (by kernel_rfl)
theorem cut19_0 (k : Int) (al co si : Int) (wi sh : Bool) (ds sr dp re im : Int) : Lf [] 20 [.agg ⟨(xA k al co si wi sh ds sr dp re im)⟩] (.agg ⟨(xA 19 0 0 0 false false 0 0 0 0 0)⟩) [(kE k, 19)] := lf hkZ_ok (cutOrc 19 0 99999) (by kernel_rfl) (by kernel_rfl) (by kernel_rfl)
theorem cut20_0_1 (k : Int) (al co si : Int) (wi : Bool) (ds sr dp re im : Int) : Lf [] 20 [.agg ⟨(xA k al co si wi true ds sr dp re im)⟩] (.agg ⟨(xA 20 0 0 0 false false 0 0 0 re 0)⟩) [(kE k, 20)] := lf hkZ_ok (cutOrc 20 0 99999) (by kernel_rfl) (by kernel_rfl) (by kernel_rfl)
theorem cut20_0_0 (k : Int) (al co si : Int) (wi : Bool) (ds sr dp re im : Int) : Lf [] 20 [.agg ⟨(xA k al co si wi false ds sr dp re im)⟩] (.agg ⟨(xA 20 0 0 0 false false 0 0 0 re 0)⟩) [(kE k, 20)] := lf hkZ_ok (cutOrc 20 0 99999) (by kernel_rfl) (by kernel_rfl) (by kernel_rfl)
theorem cut21_0 (k : Int) (al co si : Int) (wi sh : Bool) (ds sr dp re im : Int) : Lf [] 20 [.agg ⟨(xA k al co si wi sh ds sr dp re im)⟩] (.agg ⟨(xA 21 0 0 0 false false 0 0 0 0 0)⟩) [(kE k, 21)] := lf hkZ_ok (cutOrc 21 0 99999) (by kernel_rfl) (by kernel_rfl) (by kernel_rfl)
end Go.Proofs.YtbaiokfjoglmiaaDoor.Ex
end
section
namespace Go.Proofs.YtbaiokfjoglmiaaDoor.Ex
open Go Go.RowKit
theorem orHook2_ok {P : Program} {a b : Hook} (ha : HookOk2 P a) (hb : HookOk2 P b) : HookOk2 P (orHook a b) := by
  intro f args h v cs hv
  unfold orHook at hv
  split at hv
  · rename_i r hr
    cases hv
    exact ha f args h v cs hr
  · exact hb f args h v cs hv
/-- Some blocks of a memory, as a memory of their own. -/
theorem HR.pick {wb : World} {k : Nat} {s : Ren} {h : List AO} {w : World} (H : HR wb k s h w) (h1 : List AO) (f : Nat → Nat)
    (hf : ∀ (i : Nat) (o : AO), h1[i]? = some o → o.live = true → ∃ o', h[f i]? = some o' ∧ o'.live = true ∧ o'.es = o.es ∧ o'.cs = o.cs ∧ o.cs.all flat = true ∧ isM o = false)
    (hinj : ∀ (i j : Nat) (a b : AO), h1[i]? = some a → h1[j]? = some b → a.live = true → b.live = true → f i = f j → i = j)
    (hg : ∀ (i : Nat) (o : AO), h1[i]? = some o → o.live = true → o.es = some GM → f i = i) :
    HR w h1.length (fun i => match h1[i]? with | some o => if o.live then s (f i) else none | none => none) h1 w := by
  have inv : ∀ i p, (match h1[i]? with | some o => if o.live then s (f i) else none | none => none) = some p → ∃ o, h1[i]? = some o ∧ o.live = true ∧ s (f i) = some p := by
    intro i p hp
    cases ho : h1[i]? with
    | none => rw [ho] at hp; cases hp
    | some o =>
      rw [ho] at hp
      simp only at hp
      split at hp
      · rename_i hl; exact ⟨o, rfl, hl, hp⟩
      · cases hp
  refine ⟨Gr.refl w, Nat.le_refl _, fun i hi => by rw [List.getElem?_eq_none hi], fun i p hp => ?_, fun i o ho hl => ?_, fun i j a b p q hi hj ha hb hp hq e => ?_, fun g p hp hes => ?_⟩
  · obtain ⟨o, ho, hl, hs⟩ := inv i p hp
    have := (H.plc _ p hs).2.2
    have hi := (List.getElem?_eq_some_iff.1 ho).1
    exact ⟨fun _ => this, fun h => absurd h (by omega), this⟩
  · obtain ⟨o', h1', h2, h3, h4, h5, h6⟩ := hf i o ho hl
    obtain ⟨p, hp, he, hb⟩ := H.obj _ o' h1' h2
    have hm : isM o' = false := by unfold isM at h6 ⊢; rw [h3]; exact h6
    have B := hb.2 hm
    refine ⟨p, by rw [ho]; simp only [hl, if_true]; exact hp, by rw [he, h3], ObjAt.block h6 ?_⟩
    rw [h4] at B
    exact ⟨B.fit, B.all, B.shp, B.free, fun x v hv => by
      obtain ⟨v', g1, g2⟩ := B.rel x v hv
      have hfl := all_get h5 hv
      exact ⟨v', g1, by rw [g2.eq_of_flat hfl]; exact .same hfl⟩⟩
  · obtain ⟨a', i1, i2, _, _, _, _⟩ := hf i a hi ha
    obtain ⟨b', j1, j2, _, _, _, _⟩ := hf j b hj hb
    obtain ⟨_, _, _, hs1⟩ := inv i p hp
    obtain ⟨_, _, _, hs2⟩ := inv j q hq
    exact hinj i j a b hi hj ha hb (H.sep _ _ a' b' p q i1 j1 i2 j2 hs1 hs2 e)
  · obtain ⟨o, ho, hl, hs⟩ := inv g p hp
    obtain ⟨o', h1', h2, h3, _, _, _⟩ := hf g o ho hl
    obtain ⟨p', hp', he, _⟩ := H.obj _ o' h1' h2
    rw [hs] at hp'
    cases hp'
    have e := hg g o ho hl (by rw [← h3, ← he, hes])
    rw [e] at hs
    exact H.gl g p hs hes
/-- A call: flat arguments ahead, and a slice of some cells behind; what it comes to. -/
structure SlCall where
  pre : List Value
  cs : List Value
  len : Nat
  v : Value
def slHeap (h0 : List AO) (e : SlCall) : List AO := h0 ++ [⟨true, none, e.cs⟩]
def slArgs (h0 : List AO) (e : SlCall) : List Value := e.pre ++ [.slice (some ⟨h0.length, 0, none⟩) e.len e.len]
def SlOk (P : Program) (h0 : List AO) (g : FuncId) (e : SlCall) : Prop :=
  ∀ (w : World) (s : Ren) (args' : List Value), HR w (slHeap h0 e).length s (slHeap h0 e) w → LR s (slArgs h0 e) args' → Calls P g ⟨args'⟩ w fun x w' => x = .returned e.v ∧ Gr w w'
noncomputable def reckonSl (P : Program) (hk : Hook) (L f : Nat) (h0 : List AO) (g : FuncId) (e : SlCall) : Option (Value × Cs) :=
  match callA P ⟨ex P (aOp P) (drawE P) (liftH hk) noOrc accQ L f, liftH hk, fun _ _ => none, accQ⟩ g (slArgs h0 e) (slHeap h0 e) with
  | some (v, _, m) => if quietB (slHeap h0 e).length m.1 then some (v, m.2) else none
  | none => none
theorem reckonSl_ok {P : Program} (hng : NoNG P) {hk : Hook} (hhk : HookOk2 P hk) (L f : Nat) (h0 : List AO) {g : FuncId} {e : SlCall} {cs : Cs} (hv : flat e.v = true) (h : reckonSl P hk L f h0 g e = some (e.v, cs)) (hc : cs.map (·.1) = cs.map (·.2)) : SlOk P h0 g e := by
  intro w s args' H ha
  unfold reckonSl at h
  split at h
  · rename_i v h' m hr
    split at h
    · rename_i hq
      simp only [Option.some.injEq, Prod.mk.injEq] at h
      obtain ⟨rfl, rfl⟩ := h
      refine (callA_ok (ex_ok accQ_eq hng (aOp_ok P hng) (drawE_ok P) (drawE_low P) (lift_ok hhk) L f _) hr ⟨quietB_ok hq, map_same hc⟩ ha H).mono ?_
      rintro x w' ⟨s', v', rfl, _, H', hvr⟩
      rw [hvr.eq_of_flat hv]
      exact ⟨rfl, H'.grown⟩
    · cases h
  · cases h
/-- Does a call hand in that? -/
def slHit (h : List AO) (e : SlCall) (args : List Value) : Option Nat :=
  match args.drop e.pre.length with
  | [.slice (some a) l c] =>
    if eqML (args.take e.pre.length) e.pre && Nat.beq a.off 0 && a.spot.isNone && Nat.beq l e.len && Nat.beq c e.len then
      match h[a.block]? with
      | some o => if o.live && o.es.isNone && eqL o.cs e.cs then some a.block else none
      | none => none
    else none
  | _ => none
def slFind (h : List AO) : List SlCall → List Value → Option SlCall
  | [], _ => none
  | e :: r, args => if (slHit h e args).isSome then some e else slFind h r args
def slHook (h0 : List AO) (g : FuncId) (t : List SlCall) : Hook := fun f args h =>
  if Nat.beq f g then
    match slFind h t args with
    | some e => if hasG h0 h then some (e.v, []) else none
    | none => none
  else none
theorem slFind_spec {h : List AO} : ∀ {t : List SlCall} {args : List Value} {e : SlCall}, slFind h t args = some e → e ∈ t ∧ ∃ b, slHit h e args = some b
  | [], _, _, hh => by cases hh
  | q :: r, args, e, hh => by
    simp only [slFind] at hh
    split at hh
    · rename_i hi
      cases hh
      exact ⟨by simp, Option.isSome_iff_exists.1 hi⟩
    · obtain ⟨h1, h2⟩ := slFind_spec hh
      exact ⟨List.mem_cons_of_mem _ h1, h2⟩
theorem slHook_ok {P : Program} {h0 : List AO} (hf : h0.all (fun o => !o.live || (match o.es with | some e => Nat.beq e GM | none => false) && o.cs.all flat) = true) {g : FuncId} {t : List SlCall}
    (hpre : t.all (fun e => e.pre.all flat && e.cs.all flat) = true) (ht : ∀ e ∈ t, SlOk P h0 g e) : HookOk2 P (slHook h0 g t) := by
  intro f args h v cs hv _ wb k s w args' H ha
  unfold slHook at hv
  split at hv
  · rename_i hc
    obtain rfl := Nat.eq_of_beq_eq_true hc
    split at hv
    · rename_i e he
      split at hv
      · rename_i hg
        cases hv
        obtain ⟨hmem, b, hb⟩ := slFind_spec he
        have hfl := List.all_eq_true.1 hpre e hmem
        simp only [Bool.and_eq_true] at hfl
        unfold slHit at hb
        split at hb
        · rename_i a l c hd
          split at hb
          · rename_i hq
            simp only [Bool.and_eq_true] at hq
            obtain ⟨⟨⟨⟨q1, q2⟩, q3⟩, q4⟩, q5⟩ := hq
            split at hb
            · rename_i o ho
              split at hb
              · rename_i hlo
                simp only [Bool.and_eq_true] at hlo
                obtain ⟨⟨l1, l2⟩, l3⟩ := hlo
                cases hb
                have hocs := eqL_ok l3
                have hoes : o.es = none := Option.isNone_iff_eq_none.1 l2
                have hargs : args = e.pre ++ [.slice (some ⟨a.block, 0, none⟩) e.len e.len] := by
                  have h1 := List.take_append_drop e.pre.length args
                  rw [hd, eqML_ok q1] at h1
                  obtain ⟨ab, ao, asp⟩ := a
                  obtain rfl : ao = 0 := Nat.eq_of_beq_eq_true q2
                  obtain rfl : asp = none := Option.isNone_iff_eq_none.1 q3
                  obtain rfl := Nat.eq_of_beq_eq_true q4
                  obtain rfl := Nat.eq_of_beq_eq_true q5
                  exact h1.symm
                obtain ⟨ab, ao, asp⟩ := a
                simp only at ho hargs
                obtain ⟨pb, hpb, hpe, _⟩ := H.obj ab o ho l1
                have glo : ∀ (i : Nat) (q : AO), h0[i]? = some q → q.live = true → q.es = some GM ∧ q.cs.all flat = true := by
                  intro i q hq hl
                  have h1 := List.all_eq_true.1 hf q (List.mem_of_getElem? hq)
                  simp only [hl, Bool.not_true, Bool.false_or, Bool.and_eq_true] at h1
                  refine ⟨?_, h1.2⟩
                  cases hes : q.es with
                  | none => rw [hes] at h1; cases h1.1
                  | some z => rw [hes] at h1; rw [Nat.eq_of_beq_eq_true h1.1]
                have cases1 : ∀ (i : Nat) (q : AO), (slHeap h0 e)[i]? = some q → (i < h0.length ∧ h0[i]? = some q) ∨ (i = h0.length ∧ q = ⟨true, none, e.cs⟩) := by
                  intro i q hq
                  unfold slHeap at hq
                  by_cases hi : i < h0.length
                  · rw [List.getElem?_append_left hi] at hq; exact .inl ⟨hi, hq⟩
                  · have h2 := (List.getElem?_eq_some_iff.1 hq).1
                    simp only [List.length_append, List.length_singleton] at h2
                    obtain rfl : i = h0.length := by omega
                    rw [List.getElem?_append_right (by omega)] at hq
                    simp at hq
                    exact .inr ⟨rfl, hq.symm⟩
                have HP := H.pick (slHeap h0 e) (fun i => if i < h0.length then i else ab)
                  (fun i q hq hl => by
                    rcases cases1 i q hq with ⟨hi, h2⟩ | ⟨rfl, rfl⟩
                    · obtain ⟨p, p1, p2, p3, p4⟩ := hasG_at hg i q h2 hl
                      obtain ⟨g1, g2⟩ := glo i q h2 hl
                      exact ⟨p, by simp only [hi, if_true]; exact p1, p2, by rw [p3, g1], p4, g2, by unfold isM; rw [g1]; rfl⟩
                    · exact ⟨o, by simp only [Nat.lt_irrefl, if_false]; exact ho, l1, hoes, hocs, hfl.2, rfl⟩)
                  (fun i j x y hi hj hx hy hij => by
                    rcases cases1 i x hi with ⟨i1, i2⟩ | ⟨rfl, rfl⟩
                    · rcases cases1 j y hj with ⟨j1, j2⟩ | ⟨rfl, rfl⟩
                      · simpa [i1, j1] using hij
                      · exfalso
                        obtain ⟨p, p1, _, p3, _⟩ := hasG_at hg i x i2 hx
                        simp only [i1, if_true, Nat.lt_irrefl, if_false] at hij
                        rw [hij, ho] at p1
                        cases p1
                        rw [hoes] at p3
                        cases p3
                    · rcases cases1 j y hj with ⟨j1, j2⟩ | ⟨rfl, rfl⟩
                      · exfalso
                        obtain ⟨p, p1, _, p3, _⟩ := hasG_at hg j y j2 hy
                        simp only [j1, if_true, Nat.lt_irrefl, if_false] at hij
                        rw [← hij, ho] at p1
                        cases p1
                        rw [hoes] at p3
                        cases p3
                      · rfl)
                  (fun i q hq hl hes => by
                    rcases cases1 i q hq with ⟨hi, h2⟩ | ⟨rfl, rfl⟩
                    · simp only [hi, if_true]
                    · cases hes)
                refine ht e hmem w _ args' HP ?_
                rw [hargs] at ha
                refine ⟨by unfold slArgs; rw [← ha.1]; simp, fun i x y hx hy => ?_⟩
                unfold slArgs at hx
                by_cases hi : i < e.pre.length
                · rw [List.getElem?_append_left hi] at hx
                  have h3 := ha.2 i x y (by rw [List.getElem?_append_left hi]; exact hx) hy
                  have hxf := all_get hfl.1 hx
                  rw [h3.eq_of_flat hxf]
                  exact .same hxf
                · have h2 := (List.getElem?_eq_some_iff.1 hx).1
                  simp only [List.length_append, List.length_singleton] at h2
                  obtain rfl : i = e.pre.length := by omega
                  rw [List.getElem?_append_right (by omega)] at hx
                  simp at hx
                  subst hx
                  have h3 := ha.2 e.pre.length (.slice (some ⟨ab, 0, none⟩) e.len e.len) y (by rw [List.getElem?_append_right (by omega)]; simp) hy
                  obtain ⟨p, c', _, hp, hcap, rfl⟩ := h3.slice_inv
                  refine VR.slice (a := ⟨h0.length, 0, none⟩) rfl ?_ hcap
                  show (match (slHeap h0 e)[h0.length]? with | some o => if o.live then s (if h0.length < h0.length then h0.length else ab) else none | none => none) = some p
                  have e1 : (slHeap h0 e)[h0.length]? = some ⟨true, none, e.cs⟩ := by unfold slHeap; rw [List.getElem?_append_right (by omega)]; simp
                  rw [e1]
                  simp only [if_true, Nat.lt_irrefl, if_false]
                  exact hp
              · cases hb
            · cases hb
          · cases hb
        · cases hb
      · cases hv
    · cases hv
  · cases hv
end Go.Proofs.YtbaiokfjoglmiaaDoor.Ex
end
section
namespace Go.Proofs.YtbaiokfjoglmiaaDoor.Ex
open Go Go.RowKit
set_option linter.unusedVariables false
set_option linter.unusedSimpArgs false
set_option maxHeartbeats 0
set_option maxRecDepth 1000000
/-- A hook of one function: others are not looked at. -/
def onlyH (g : FuncId) (hk : Hook) : Hook := fun f args h => if Nat.beq f g then hk f args h else none
theorem only_ok {P : Program} {g : FuncId} {hk : Hook} (hh : HookOk2 P hk) : HookOk2 P (onlyH g hk) := by
  intro f args h v cs hv
  unfold onlyH at hv
  split at hv
  · exact hh f args h v cs hv
  · cases hv
theorem nh_ok : HookOk2 Tryd.prog (guardH noHook) := guard_ok (noHook_ok _)
def tbfirewalllaw11is : Tab := [
  ([.string ⟨#[72, 137, 216]⟩, .agg ⟨[.int .i64 1, .int .i64 0, .int .i64 0, .int .i64 0, .bool true, .bool false, .int .i64 0, .int .i64 3, .int .i32 0, .int .i32 0, .int .i64 0]⟩], .bool true),
  ([.string ⟨#[65, 137, 192]⟩, .agg ⟨[.int .i64 1, .int .i64 0, .int .i64 0, .int .i64 0, .bool false, .bool false, .int .i64 8, .int .i64 0, .int .i32 0, .int .i32 0, .int .i64 0]⟩], .bool true),
  ([.string ⟨#[72, 129, 196, 248, 255, 255, 255]⟩, .agg ⟨[.int .i64 5, .int .i64 0, .int .i64 0, .int .i64 0, .bool true, .bool false, .int .i64 4, .int .i64 0, .int .i32 0, .int .i32 0, .int .i64 (-8)]⟩], .bool true),
  ([.string ⟨#[15, 182, 132, 36, 4, 0, 0, 0]⟩, .agg ⟨[.int .i64 13, .int .i64 0, .int .i64 0, .int .i64 1, .bool false, .bool false, .int .i64 0, .int .i64 4, .int .i32 4, .int .i32 0, .int .i64 0]⟩], .bool true),
  ([.string ⟨#[77, 139, 140, 36, 0, 0, 0, 0]⟩, .agg ⟨[.int .i64 13, .int .i64 0, .int .i64 0, .int .i64 8, .bool true, .bool false, .int .i64 9, .int .i64 12, .int .i32 0, .int .i32 0, .int .i64 0]⟩], .bool true),
  ([.string ⟨#[64, 136, 183, 0, 0, 0, 0]⟩, .agg ⟨[.int .i64 14, .int .i64 0, .int .i64 0, .int .i64 1, .bool false, .bool false, .int .i64 7, .int .i64 6, .int .i32 0, .int .i32 0, .int .i64 0]⟩], .bool true),
  ([.string ⟨#[102, 68, 137, 135, 0, 0, 0, 0]⟩, .agg ⟨[.int .i64 14, .int .i64 0, .int .i64 0, .int .i64 2, .bool false, .bool false, .int .i64 7, .int .i64 8, .int .i32 0, .int .i32 0, .int .i64 0]⟩], .bool true),
  ([.string ⟨#[116, 254]⟩, .agg ⟨[.int .i64 16, .int .i64 0, .int .i64 4, .int .i64 0, .bool false, .bool true, .int .i64 0, .int .i64 0, .int .i32 0, .int .i32 (-2), .int .i64 0]⟩], .bool true),
  ([.string ⟨#[233, 0, 1, 0, 0]⟩, .agg ⟨[.int .i64 15, .int .i64 0, .int .i64 0, .int .i64 0, .bool false, .bool false, .int .i64 0, .int .i64 0, .int .i32 0, .int .i32 256, .int .i64 0]⟩], .bool true),
  ([.string ⟨#[65, 84]⟩, .agg ⟨[.int .i64 17, .int .i64 0, .int .i64 0, .int .i64 0, .bool false, .bool false, .int .i64 12, .int .i64 0, .int .i32 0, .int .i32 0, .int .i64 0]⟩], .bool true),
  ([.string ⟨#[15, 174, 232]⟩, .agg ⟨[.int .i64 21, .int .i64 0, .int .i64 0, .int .i64 0, .bool false, .bool false, .int .i64 0, .int .i64 0, .int .i32 0, .int .i32 0, .int .i64 0]⟩], .bool true)]
set_option maxHeartbeats 0 in
set_option maxRecDepth 1000000 in
theorem tbfirewalllaw11is_0 (w : World) (hL : Laid h12 w) : Calls Tryd.prog 50 ⟨[.string ⟨#[72, 137, 216]⟩, .agg ⟨[.int .i64 1, .int .i64 0, .int .i64 0, .int .i64 0, .bool true, .bool false, .int .i64 0, .int .i64 3, .int .i32 0, .int .i32 0, .int .i64 0]⟩]⟩ w fun e w' => e = .returned (.bool true) ∧ Gr w w' :=
  reckonX_ok noNG nh_ok 100000 300 h12 rfl rfl (by kernel_rfl) w hL
set_option maxHeartbeats 0 in
set_option maxRecDepth 1000000 in
theorem tbfirewalllaw11is_1 (w : World) (hL : Laid h12 w) : Calls Tryd.prog 50 ⟨[.string ⟨#[65, 137, 192]⟩, .agg ⟨[.int .i64 1, .int .i64 0, .int .i64 0, .int .i64 0, .bool false, .bool false, .int .i64 8, .int .i64 0, .int .i32 0, .int .i32 0, .int .i64 0]⟩]⟩ w fun e w' => e = .returned (.bool true) ∧ Gr w w' :=
  reckonX_ok noNG nh_ok 100000 300 h12 rfl rfl (by kernel_rfl) w hL
set_option maxHeartbeats 0 in
set_option maxRecDepth 1000000 in
theorem tbfirewalllaw11is_2 (w : World) (hL : Laid h12 w) : Calls Tryd.prog 50 ⟨[.string ⟨#[72, 129, 196, 248, 255, 255, 255]⟩, .agg ⟨[.int .i64 5, .int .i64 0, .int .i64 0, .int .i64 0, .bool true, .bool false, .int .i64 4, .int .i64 0, .int .i32 0, .int .i32 0, .int .i64 (-8)]⟩]⟩ w fun e w' => e = .returned (.bool true) ∧ Gr w w' :=
  reckonX_ok noNG nh_ok 100000 300 h12 rfl rfl (by kernel_rfl) w hL
set_option maxHeartbeats 0 in
set_option maxRecDepth 1000000 in
theorem tbfirewalllaw11is_3 (w : World) (hL : Laid h12 w) : Calls Tryd.prog 50 ⟨[.string ⟨#[15, 182, 132, 36, 4, 0, 0, 0]⟩, .agg ⟨[.int .i64 13, .int .i64 0, .int .i64 0, .int .i64 1, .bool false, .bool false, .int .i64 0, .int .i64 4, .int .i32 4, .int .i32 0, .int .i64 0]⟩]⟩ w fun e w' => e = .returned (.bool true) ∧ Gr w w' :=
  reckonX_ok noNG nh_ok 100000 300 h12 rfl rfl (by kernel_rfl) w hL
set_option maxHeartbeats 0 in
set_option maxRecDepth 1000000 in
theorem tbfirewalllaw11is_4 (w : World) (hL : Laid h12 w) : Calls Tryd.prog 50 ⟨[.string ⟨#[77, 139, 140, 36, 0, 0, 0, 0]⟩, .agg ⟨[.int .i64 13, .int .i64 0, .int .i64 0, .int .i64 8, .bool true, .bool false, .int .i64 9, .int .i64 12, .int .i32 0, .int .i32 0, .int .i64 0]⟩]⟩ w fun e w' => e = .returned (.bool true) ∧ Gr w w' :=
  reckonX_ok noNG nh_ok 100000 300 h12 rfl rfl (by kernel_rfl) w hL
set_option maxHeartbeats 0 in
set_option maxRecDepth 1000000 in
theorem tbfirewalllaw11is_5 (w : World) (hL : Laid h12 w) : Calls Tryd.prog 50 ⟨[.string ⟨#[64, 136, 183, 0, 0, 0, 0]⟩, .agg ⟨[.int .i64 14, .int .i64 0, .int .i64 0, .int .i64 1, .bool false, .bool false, .int .i64 7, .int .i64 6, .int .i32 0, .int .i32 0, .int .i64 0]⟩]⟩ w fun e w' => e = .returned (.bool true) ∧ Gr w w' :=
  reckonX_ok noNG nh_ok 100000 300 h12 rfl rfl (by kernel_rfl) w hL
set_option maxHeartbeats 0 in
set_option maxRecDepth 1000000 in
theorem tbfirewalllaw11is_6 (w : World) (hL : Laid h12 w) : Calls Tryd.prog 50 ⟨[.string ⟨#[102, 68, 137, 135, 0, 0, 0, 0]⟩, .agg ⟨[.int .i64 14, .int .i64 0, .int .i64 0, .int .i64 2, .bool false, .bool false, .int .i64 7, .int .i64 8, .int .i32 0, .int .i32 0, .int .i64 0]⟩]⟩ w fun e w' => e = .returned (.bool true) ∧ Gr w w' :=
  reckonX_ok noNG nh_ok 100000 300 h12 rfl rfl (by kernel_rfl) w hL
set_option maxHeartbeats 0 in
set_option maxRecDepth 1000000 in
theorem tbfirewalllaw11is_7 (w : World) (hL : Laid h12 w) : Calls Tryd.prog 50 ⟨[.string ⟨#[116, 254]⟩, .agg ⟨[.int .i64 16, .int .i64 0, .int .i64 4, .int .i64 0, .bool false, .bool true, .int .i64 0, .int .i64 0, .int .i32 0, .int .i32 (-2), .int .i64 0]⟩]⟩ w fun e w' => e = .returned (.bool true) ∧ Gr w w' :=
  reckonX_ok noNG nh_ok 100000 300 h12 rfl rfl (by kernel_rfl) w hL
set_option maxHeartbeats 0 in
set_option maxRecDepth 1000000 in
theorem tbfirewalllaw11is_8 (w : World) (hL : Laid h12 w) : Calls Tryd.prog 50 ⟨[.string ⟨#[233, 0, 1, 0, 0]⟩, .agg ⟨[.int .i64 15, .int .i64 0, .int .i64 0, .int .i64 0, .bool false, .bool false, .int .i64 0, .int .i64 0, .int .i32 0, .int .i32 256, .int .i64 0]⟩]⟩ w fun e w' => e = .returned (.bool true) ∧ Gr w w' :=
  reckonX_ok noNG nh_ok 100000 300 h12 rfl rfl (by kernel_rfl) w hL
set_option maxHeartbeats 0 in
set_option maxRecDepth 1000000 in
theorem tbfirewalllaw11is_9 (w : World) (hL : Laid h12 w) : Calls Tryd.prog 50 ⟨[.string ⟨#[65, 84]⟩, .agg ⟨[.int .i64 17, .int .i64 0, .int .i64 0, .int .i64 0, .bool false, .bool false, .int .i64 12, .int .i64 0, .int .i32 0, .int .i32 0, .int .i64 0]⟩]⟩ w fun e w' => e = .returned (.bool true) ∧ Gr w w' :=
  reckonX_ok noNG nh_ok 100000 300 h12 rfl rfl (by kernel_rfl) w hL
set_option maxHeartbeats 0 in
set_option maxRecDepth 1000000 in
theorem tbfirewalllaw11is_10 (w : World) (hL : Laid h12 w) : Calls Tryd.prog 50 ⟨[.string ⟨#[15, 174, 232]⟩, .agg ⟨[.int .i64 21, .int .i64 0, .int .i64 0, .int .i64 0, .bool false, .bool false, .int .i64 0, .int .i64 0, .int .i32 0, .int .i32 0, .int .i64 0]⟩]⟩ w fun e w' => e = .returned (.bool true) ∧ Gr w w' :=
  reckonX_ok noNG nh_ok 100000 300 h12 rfl rfl (by kernel_rfl) w hL
theorem tbfirewalllaw11is_tab : TabOk Tryd.prog h12 50 tbfirewalllaw11is :=
  ⟨tbfirewalllaw11is_0, tbfirewalllaw11is_1, tbfirewalllaw11is_2, tbfirewalllaw11is_3, tbfirewalllaw11is_4, tbfirewalllaw11is_5, tbfirewalllaw11is_6, tbfirewalllaw11is_7, tbfirewalllaw11is_8, tbfirewalllaw11is_9, tbfirewalllaw11is_10, trivial⟩
def tbfirewalllaw11is_hk : Hook := onlyH 50 (guardH (memoHook h12 50 tbfirewalllaw11is))
theorem tbfirewalllaw11is_hk_ok : HookOk2 Tryd.prog tbfirewalllaw11is_hk := only_ok (guard_ok (memoHook_ok rfl tbfirewalllaw11is_tab))
def tbfirewalllaw11no : Tab := [
  ([.string ⟨#[72, 195]⟩], .bool true),
  ([.string ⟨#[64, 137, 216]⟩], .bool true),
  ([.string ⟨#[72, 139, 0]⟩], .bool true)]
set_option maxHeartbeats 0 in
set_option maxRecDepth 1000000 in
theorem tbfirewalllaw11no_0 (w : World) (hL : Laid h12 w) : Calls Tryd.prog 51 ⟨[.string ⟨#[72, 195]⟩]⟩ w fun e w' => e = .returned (.bool true) ∧ Gr w w' :=
  reckonX_ok noNG nh_ok 100000 300 h12 rfl rfl (by kernel_rfl) w hL
set_option maxHeartbeats 0 in
set_option maxRecDepth 1000000 in
theorem tbfirewalllaw11no_1 (w : World) (hL : Laid h12 w) : Calls Tryd.prog 51 ⟨[.string ⟨#[64, 137, 216]⟩]⟩ w fun e w' => e = .returned (.bool true) ∧ Gr w w' :=
  reckonX_ok noNG nh_ok 100000 300 h12 rfl rfl (by kernel_rfl) w hL
set_option maxHeartbeats 0 in
set_option maxRecDepth 1000000 in
theorem tbfirewalllaw11no_2 (w : World) (hL : Laid h12 w) : Calls Tryd.prog 51 ⟨[.string ⟨#[72, 139, 0]⟩]⟩ w fun e w' => e = .returned (.bool true) ∧ Gr w w' :=
  reckonX_ok noNG nh_ok 100000 300 h12 rfl rfl (by kernel_rfl) w hL
theorem tbfirewalllaw11no_tab : TabOk Tryd.prog h12 51 tbfirewalllaw11no :=
  ⟨tbfirewalllaw11no_0, tbfirewalllaw11no_1, tbfirewalllaw11no_2, trivial⟩
def tbfirewalllaw11no_hk : Hook := onlyH 51 (guardH (memoHook h12 51 tbfirewalllaw11no))
theorem tbfirewalllaw11no_hk_ok : HookOk2 Tryd.prog tbfirewalllaw11no_hk := only_ok (guard_ok (memoHook_ok rfl tbfirewalllaw11no_tab))
def hkCd : Hook := orHook tbfirewalllaw11is_hk (orHook tbfirewalllaw11no_hk ((guardH noHook)))
theorem hkCd_ok : HookOk2 Tryd.prog hkCd := orHook2_ok tbfirewalllaw11is_hk_ok (orHook2_ok tbfirewalllaw11no_hk_ok ((guard_ok (noHook_ok _))))
theorem coded_any (w : World) (hL : Laid h12 w) : Calls Tryd.prog 17 #[] w fun e w' => e = .returned (.bool true) ∧ Gr w w' :=
  reckonX_ok noNG hkCd_ok 100000 300 h12 rfl rfl (by kernel_rfl) w hL
def codedHook : Hook := memoHook h12 17 [([], .bool true)]
theorem codedHook_ok : HookOk Tryd.prog codedHook := memoHook_ok rfl ⟨fun w hL => coded_any w hL, trivial⟩
end Go.Proofs.YtbaiokfjoglmiaaDoor.Ex
end
section
namespace Go.Proofs.YtbaiokfjoglmiaaDoor.Ex
open Go Go.RowKit
set_option linter.unusedVariables false
set_option linter.unusedSimpArgs false
set_option maxHeartbeats 0
set_option maxRecDepth 1000000
/-- What such a cut comes to, as a hook. -/
def CutIs (k r1 r2 r3 : Int) (q4 q5 : Bool) (r6 r7 r8 r9 r10 : Int) (res : List Value) : Prop := ∀ (w : World), Calls Tryd.prog 20 #[.agg ⟨xA k r1 r2 r3 q4 q5 r6 r7 r8 r9 r10⟩] w fun e w' => e = .returned (.agg ⟨res⟩) ∧ Gr w w'
def rawCs (k r1 r2 r3 : Int) (q4 q5 : Bool) (r6 r7 r8 r9 r10 : Int) : Cs := [(k, k), (r1, r1), (r2, r2), (r3, r3), (b2i q4, b2i q4), (b2i q5, b2i q5), (r6, r6), (r7, r7), (r8, r8), (r9, r9), (r10, r10)]
def hk_cut (k r1 r2 r3 : Int) (q4 q5 : Bool) (r6 r7 r8 r9 r10 : Int) (res : List Value) : Hook := fun f args _ =>
  if Nat.beq f 20 then
    match args with
    | [.agg ⟨[.int .i64 p0, .int .i64 p1, .int .i64 p2, .int .i64 p3, .bool p4, .bool p5, .int .i64 p6, .int .i64 p7, .int .i32 p8, .int .i32 p9, .int .i64 p10]⟩] =>
      some (.agg ⟨res⟩, [(p0, k), (p1, r1), (p2, r2), (p3, r3), (b2i p4, b2i q4), (b2i p5, b2i q5), (p6, r6), (p7, r7), (p8, r8), (p9, r9), (p10, r10)])
    | _ => none
  else none
theorem hk_cut_ok {k r1 r2 r3 : Int} {q4 q5 : Bool} {r6 r7 r8 r9 r10 : Int} {res : List Value} (hh : CutIs k r1 r2 r3 q4 q5 r6 r7 r8 r9 r10 res) : HookOk Tryd.prog (hk_cut k r1 r2 r3 q4 q5 r6 r7 r8 r9 r10 res) := by
  intro f args h v cs hv hc wb kk s w H
  unfold hk_cut at hv
  split at hv
  · rename_i hf
    obtain rfl := Nat.eq_of_beq_eq_true hf
    split at hv
    · cases hv
      simp only [List.mem_cons, List.not_mem_nil, or_false, forall_eq_or_imp, forall_eq] at hc
      obtain ⟨h0, h1, h2, h3, h4, h5, h6, h7, h8, h9, h10⟩ := hc
      have h4 := b2i_inj h4
      have h5 := b2i_inj h5
      subst h0 h1 h2 h3 h4 h5 h6 h7 h8 h9 h10
      exact hh w
    · cases hv
  · cases hv
theorem csA {k r1 r2 r3 : Int} {q4 q5 : Bool} {r6 r7 r8 r9 r10 : Int} {l : Cs} (r : l.map (·.1) = l.map (·.2)) : ((rawCs k r1 r2 r3 q4 q5 r6 r7 r8 r9 r10 ++ l)).map (·.1) = ((rawCs k r1 r2 r3 q4 q5 r6 r7 r8 r9 r10 ++ l)).map (·.2) := by
  rw [List.map_append, List.map_append, r]
  rfl
theorem eF {k al co si : Int} {wi sh : Bool} {ds sr dp re im : Int} (h : vP k al co si wi sh ds sr dp re im = false) : (!vP k al co si wi sh ds sr dp re im) = true ∧ (encB k al co si wi sh ds sr dp re im == ([] : List UInt8)) = true ∧ (encE k al co si wi sh ds sr dp re im == 2) = true := by
  unfold encB encE
  rw [h]
  exact ⟨rfl, rfl, rfl⟩
theorem eT {k al co si : Int} {wi sh : Bool} {ds sr dp re im : Int} (h : vP k al co si wi sh ds sr dp re im = true) : (encE k al co si wi sh ds sr dp re im == 0) = true := by
  unfold encE
  rw [h]
  rfl
structure Rw where
  k : Int
  r1 : Int
  r2 : Int
  r3 : Int
  q4 : Bool
  q5 : Bool
  r6 : Int
  r7 : Int
  r8 : Int
  r9 : Int
  r10 : Int
  wh : Int
  to : Int
def Cu (x : Rw) (res : List Value) : Prop := CutIs x.k x.r1 x.r2 x.r3 x.q4 x.q5 x.r6 x.r7 x.r8 x.r9 x.r10 res
def Ru (x : Rw) (cs : Cs) : Prop := Lf h12 7 [.agg ⟨(xA x.k x.r1 x.r2 x.r3 x.q4 x.q5 x.r6 x.r7 x.r8 x.r9 x.r10)⟩, .int .u8 x.wh, .int .i64 x.to] (.bool true) (rawCs x.k x.r1 x.r2 x.r3 x.q4 x.q5 x.r6 x.r7 x.r8 x.r9 x.r10 ++ cs)
def Lw (x : Rw) (w : World) : Prop := Calls Tryd.prog 7 #[.agg ⟨(xA x.k x.r1 x.r2 x.r3 x.q4 x.q5 x.r6 x.r7 x.r8 x.r9 x.r10)⟩, .int .u8 x.wh, .int .i64 x.to] w fun e w' => e = .returned (.bool true) ∧ Gr w w'
def hkU : Hook := orHook hk_enc (orHook hk_valid (orHook codedHook (hkZ)))
theorem hkU_ok : HookOk Tryd.prog hkU := orHook_ok hk_enc_ok (orHook_ok hk_valid_ok (orHook_ok codedHook_ok (hkZ_ok)))
end Go.Proofs.YtbaiokfjoglmiaaDoor.Ex
end
