/-
  Lemmas for the laws of this seat, part G: CrG, CrH, CrI, CrJ, CrK.
-/
import Derived.Test.YtokeopmmnpmfeaaDoorPackF
import Derived.Test.YtokeopmmnpmfeaaDoorCrF
import Derived.Test.YtokeopmmnpmfeaaDoorCdB
section
namespace Go.Proofs.YtokeopmmnpmfeaaDoor.Ex
set_option maxRecDepth 20000

open Go Go.RowKit
set_option maxHeartbeats 0
set_option maxRecDepth 1000000
set_option linter.unusedVariables false
set_option linter.unusedSectionVars false
theorem rs1 (al co si : Int) (wi sh : Bool) (ds sr dp re im : Int) (hv : vP1 al co si wi sh ds sr dp re im = true) (t : List UInt8) (hre : -2147483648 ≤ re ∧ re ≤ 2147483647) (hdp : -2147483648 ≤ dp ∧ dp ≤ 2147483647) (him : -9223372036854775808 ≤ im ∧ im ≤ 9223372036854775807) : readR (bf (encS1 al co si wi sh ds sr dp re im ++ t)) = (⟨1, al, co, si, wi, sh, ds, sr, dp, re, im⟩ : XX) := by
  have hA := andL hv
  have hR := andL (andR hv)
  have hD := andL hR
  have hS := andR hR
  have hC := andL (andR (andR hv))
  have hN := andR (andR (andR hv))
  obtain rfl : al = 0 := eq_of_beq (α := Int) (andL (andR hA))
  obtain rfl : co = 0 := eq_of_beq (α := Int) (andL (andR (andR hA)))
  obtain rfl : si = 0 := eq_of_beq (α := Int) (andL (andR (andR (andR hA))))
  obtain rfl : sh = false := eq_of_beq (α := Bool) (andL (andR (andR (andR (andR (andR hA))))))
  obtain rfl : dp = 0 := eq_of_beq (α := Int) (andL (andR (andR (andR (andR (andR (andR (andR (andR hA)))))))))
  obtain rfl : re = 0 := eq_of_beq (α := Int) (andL (andR (andR (andR (andR (andR (andR (andR (andR (andR hA))))))))))
  obtain rfl : im = 0 := eq_of_beq (α := Int) (andL (andR (andR (andR (andR (andR (andR (andR (andR (andR (andR hA)))))))))))
  exact List.map_inj_left.1 (rr1 t wi) (ds, sr) (rg2_mem (rg_mem hD) (rg_mem hS))
theorem rs2 (al co si : Int) (wi sh : Bool) (ds sr dp re im : Int) (hv : vP2 al co si wi sh ds sr dp re im = true) (t : List UInt8) (hre : -2147483648 ≤ re ∧ re ≤ 2147483647) (hdp : -2147483648 ≤ dp ∧ dp ≤ 2147483647) (him : -9223372036854775808 ≤ im ∧ im ≤ 9223372036854775807) : readR (bf (encS2 al co si wi sh ds sr dp re im ++ t)) = (⟨2, al, co, si, wi, sh, ds, sr, dp, re, im⟩ : XX) := by
  have hA := andL hv
  have hR := andL (andR hv)
  have hD := andL hR
  have hS := andR hR
  have hC := andL (andR (andR hv))
  have hN := andR (andR (andR hv))
  obtain rfl : al = 0 := eq_of_beq (α := Int) (andL (andR hA))
  obtain rfl : co = 0 := eq_of_beq (α := Int) (andL (andR (andR hA)))
  obtain rfl : si = 0 := eq_of_beq (α := Int) (andL (andR (andR (andR hA))))
  obtain rfl : sh = false := eq_of_beq (α := Bool) (andL (andR (andR (andR (andR (andR hA))))))
  obtain rfl : sr = 0 := eq_of_beq (α := Int) (andL (andR (andR (andR (andR (andR (andR (andR hA))))))))
  obtain rfl : dp = 0 := eq_of_beq (α := Int) (andL (andR (andR (andR (andR (andR (andR (andR (andR hA)))))))))
  obtain rfl : re = 0 := eq_of_beq (α := Int) (andL (andR (andR (andR (andR (andR (andR (andR (andR (andR hA))))))))))
  obtain rfl : wi = true := hC
  obtain ⟨a, b, c, d, h4⟩ := imm4 im
  unfold encS2
  rw [h4]
  refine (List.map_inj_left.1 (rr2 a b c d t) ds (rg_mem hD)).trans ?_
  rw [u4 h4 (word_of hN)]
theorem rs3 (al co si : Int) (wi sh : Bool) (ds sr dp re im : Int) (hv : vP3 al co si wi sh ds sr dp re im = true) (t : List UInt8) (hre : -2147483648 ≤ re ∧ re ≤ 2147483647) (hdp : -2147483648 ≤ dp ∧ dp ≤ 2147483647) (him : -9223372036854775808 ≤ im ∧ im ≤ 9223372036854775807) : readR (bf (encS3 al co si wi sh ds sr dp re im ++ t)) = (⟨3, al, co, si, wi, sh, ds, sr, dp, re, im⟩ : XX) := by
  have hA := andL hv
  have hR := andL (andR hv)
  have hD := andL hR
  have hS := andR hR
  have hC := andL (andR (andR hv))
  have hN := andR (andR (andR hv))
  obtain rfl : al = 0 := eq_of_beq (α := Int) (andL (andR hA))
  obtain rfl : co = 0 := eq_of_beq (α := Int) (andL (andR (andR hA)))
  obtain rfl : si = 0 := eq_of_beq (α := Int) (andL (andR (andR (andR hA))))
  obtain rfl : sh = false := eq_of_beq (α := Bool) (andL (andR (andR (andR (andR (andR hA))))))
  obtain rfl : sr = 0 := eq_of_beq (α := Int) (andL (andR (andR (andR (andR (andR (andR (andR hA))))))))
  obtain rfl : dp = 0 := eq_of_beq (α := Int) (andL (andR (andR (andR (andR (andR (andR (andR (andR hA)))))))))
  obtain rfl : re = 0 := eq_of_beq (α := Int) (andL (andR (andR (andR (andR (andR (andR (andR (andR (andR hA))))))))))
  obtain rfl : wi = true := hC
  obtain ⟨a, b, c, d, e, f, g, h, h8⟩ := imm8 im
  unfold encS3
  rw [h8]
  refine (List.map_inj_left.1 (rr3 a b c d e f g h t) ds (rg_mem hD)).trans ?_
  rw [u8 h8 him]
theorem rs4 (al co si : Int) (wi sh : Bool) (ds sr dp re im : Int) (hv : vP4 al co si wi sh ds sr dp re im = true) (t : List UInt8) (hre : -2147483648 ≤ re ∧ re ≤ 2147483647) (hdp : -2147483648 ≤ dp ∧ dp ≤ 2147483647) (him : -9223372036854775808 ≤ im ∧ im ≤ 9223372036854775807) : readR (bf (encS4 al co si wi sh ds sr dp re im ++ t)) = (⟨4, al, co, si, wi, sh, ds, sr, dp, re, im⟩ : XX) := by
  have hA := andL hv
  have hR := andL (andR hv)
  have hD := andL hR
  have hS := andR hR
  have hC := andL (andR (andR hv))
  have hN := andR (andR (andR hv))
  obtain rfl : co = 0 := eq_of_beq (α := Int) (andL (andR (andR hA)))
  obtain rfl : si = 0 := eq_of_beq (α := Int) (andL (andR (andR (andR hA))))
  obtain rfl : sh = false := eq_of_beq (α := Bool) (andL (andR (andR (andR (andR (andR hA))))))
  obtain rfl : dp = 0 := eq_of_beq (α := Int) (andL (andR (andR (andR (andR (andR (andR (andR (andR hA)))))))))
  obtain rfl : re = 0 := eq_of_beq (α := Int) (andL (andR (andR (andR (andR (andR (andR (andR (andR (andR hA))))))))))
  obtain rfl : im = 0 := eq_of_beq (α := Int) (andL (andR (andR (andR (andR (andR (andR (andR (andR (andR (andR hA)))))))))))
  exact List.map_inj_left.1 (rr4 t al hC wi) (ds, sr) (rg2_mem (rg_mem hD) (rg_mem hS))
theorem rs5 (al co si : Int) (wi sh : Bool) (ds sr dp re im : Int) (hv : vP5 al co si wi sh ds sr dp re im = true) (t : List UInt8) (hre : -2147483648 ≤ re ∧ re ≤ 2147483647) (hdp : -2147483648 ≤ dp ∧ dp ≤ 2147483647) (him : -9223372036854775808 ≤ im ∧ im ≤ 9223372036854775807) : readR (bf (encS5 al co si wi sh ds sr dp re im ++ t)) = (⟨5, al, co, si, wi, sh, ds, sr, dp, re, im⟩ : XX) := by
  have hA := andL hv
  have hR := andL (andR hv)
  have hD := andL hR
  have hS := andR hR
  have hC := andL (andR (andR hv))
  have hN := andR (andR (andR hv))
  obtain rfl : co = 0 := eq_of_beq (α := Int) (andL (andR (andR hA)))
  obtain rfl : si = 0 := eq_of_beq (α := Int) (andL (andR (andR (andR hA))))
  obtain rfl : sh = false := eq_of_beq (α := Bool) (andL (andR (andR (andR (andR (andR hA))))))
  obtain rfl : sr = 0 := eq_of_beq (α := Int) (andL (andR (andR (andR (andR (andR (andR (andR hA))))))))
  obtain rfl : dp = 0 := eq_of_beq (α := Int) (andL (andR (andR (andR (andR (andR (andR (andR (andR hA)))))))))
  obtain rfl : re = 0 := eq_of_beq (α := Int) (andL (andR (andR (andR (andR (andR (andR (andR (andR (andR hA))))))))))
  obtain ⟨a, b, c, d, h4⟩ := imm4 im
  unfold encS5
  rw [h4]
  refine (List.map_inj_left.1 (rr5 a b c d t al hC wi) ds (rg_mem hD)).trans ?_
  rw [u4 h4 (word_of hN)]
theorem rs6 (al co si : Int) (wi sh : Bool) (ds sr dp re im : Int) (hv : vP6 al co si wi sh ds sr dp re im = true) (t : List UInt8) (hre : -2147483648 ≤ re ∧ re ≤ 2147483647) (hdp : -2147483648 ≤ dp ∧ dp ≤ 2147483647) (him : -9223372036854775808 ≤ im ∧ im ≤ 9223372036854775807) : readR (bf (encS6 al co si wi sh ds sr dp re im ++ t)) = (⟨6, al, co, si, wi, sh, ds, sr, dp, re, im⟩ : XX) := by
  have hA := andL hv
  have hR := andL (andR hv)
  have hD := andL hR
  have hS := andR hR
  have hC := andL (andR (andR hv))
  have hN := andR (andR (andR hv))
  obtain rfl : al = 0 := eq_of_beq (α := Int) (andL (andR hA))
  obtain rfl : co = 0 := eq_of_beq (α := Int) (andL (andR (andR hA)))
  obtain rfl : si = 0 := eq_of_beq (α := Int) (andL (andR (andR (andR hA))))
  obtain rfl : sh = false := eq_of_beq (α := Bool) (andL (andR (andR (andR (andR (andR hA))))))
  obtain rfl : dp = 0 := eq_of_beq (α := Int) (andL (andR (andR (andR (andR (andR (andR (andR (andR hA)))))))))
  obtain rfl : re = 0 := eq_of_beq (α := Int) (andL (andR (andR (andR (andR (andR (andR (andR (andR (andR hA))))))))))
  obtain rfl : im = 0 := eq_of_beq (α := Int) (andL (andR (andR (andR (andR (andR (andR (andR (andR (andR (andR hA)))))))))))
  exact List.map_inj_left.1 (rr6 t wi) (ds, sr) (rg2_mem (rg_mem hD) (rg_mem hS))
theorem rs7 (al co si : Int) (wi sh : Bool) (ds sr dp re im : Int) (hv : vP7 al co si wi sh ds sr dp re im = true) (t : List UInt8) (hre : -2147483648 ≤ re ∧ re ≤ 2147483647) (hdp : -2147483648 ≤ dp ∧ dp ≤ 2147483647) (him : -9223372036854775808 ≤ im ∧ im ≤ 9223372036854775807) : readR (bf (encS7 al co si wi sh ds sr dp re im ++ t)) = (⟨7, al, co, si, wi, sh, ds, sr, dp, re, im⟩ : XX) := by
  have hA := andL hv
  have hR := andL (andR hv)
  have hD := andL hR
  have hS := andR hR
  have hC := andL (andR (andR hv))
  have hN := andR (andR (andR hv))
  obtain rfl : al = 0 := eq_of_beq (α := Int) (andL (andR hA))
  obtain rfl : co = 0 := eq_of_beq (α := Int) (andL (andR (andR hA)))
  obtain rfl : si = 0 := eq_of_beq (α := Int) (andL (andR (andR (andR hA))))
  obtain rfl : sh = false := eq_of_beq (α := Bool) (andL (andR (andR (andR (andR (andR hA))))))
  obtain rfl : sr = 0 := eq_of_beq (α := Int) (andL (andR (andR (andR (andR (andR (andR (andR hA))))))))
  obtain rfl : dp = 0 := eq_of_beq (α := Int) (andL (andR (andR (andR (andR (andR (andR (andR (andR hA)))))))))
  obtain rfl : re = 0 := eq_of_beq (α := Int) (andL (andR (andR (andR (andR (andR (andR (andR (andR (andR hA))))))))))
  obtain rfl : im = 0 := eq_of_beq (α := Int) (andL (andR (andR (andR (andR (andR (andR (andR (andR (andR (andR hA)))))))))))
  exact List.map_inj_left.1 (rr7 t wi) ds (rg_mem hD)
theorem rs8 (al co si : Int) (wi sh : Bool) (ds sr dp re im : Int) (hv : vP8 al co si wi sh ds sr dp re im = true) (t : List UInt8) (hre : -2147483648 ≤ re ∧ re ≤ 2147483647) (hdp : -2147483648 ≤ dp ∧ dp ≤ 2147483647) (him : -9223372036854775808 ≤ im ∧ im ≤ 9223372036854775807) : readR (bf (encS8 al co si wi sh ds sr dp re im ++ t)) = (⟨8, al, co, si, wi, sh, ds, sr, dp, re, im⟩ : XX) := by
  have hA := andL hv
  have hR := andL (andR hv)
  have hD := andL hR
  have hS := andR hR
  have hC := andL (andR (andR hv))
  have hN := andR (andR (andR hv))
  obtain rfl : al = 0 := eq_of_beq (α := Int) (andL (andR hA))
  obtain rfl : co = 0 := eq_of_beq (α := Int) (andL (andR (andR hA)))
  obtain rfl : si = 0 := eq_of_beq (α := Int) (andL (andR (andR (andR hA))))
  obtain rfl : sh = false := eq_of_beq (α := Bool) (andL (andR (andR (andR (andR (andR hA))))))
  obtain rfl : sr = 0 := eq_of_beq (α := Int) (andL (andR (andR (andR (andR (andR (andR (andR hA))))))))
  obtain rfl : dp = 0 := eq_of_beq (α := Int) (andL (andR (andR (andR (andR (andR (andR (andR (andR hA)))))))))
  obtain rfl : re = 0 := eq_of_beq (α := Int) (andL (andR (andR (andR (andR (andR (andR (andR (andR (andR hA))))))))))
  obtain rfl : im = 0 := eq_of_beq (α := Int) (andL (andR (andR (andR (andR (andR (andR (andR (andR (andR (andR hA)))))))))))
  exact List.map_inj_left.1 (rr8 t wi) ds (rg_mem hD)
theorem rs9 (al co si : Int) (wi sh : Bool) (ds sr dp re im : Int) (hv : vP9 al co si wi sh ds sr dp re im = true) (t : List UInt8) (hre : -2147483648 ≤ re ∧ re ≤ 2147483647) (hdp : -2147483648 ≤ dp ∧ dp ≤ 2147483647) (him : -9223372036854775808 ≤ im ∧ im ≤ 9223372036854775807) : readR (bf (encS9 al co si wi sh ds sr dp re im ++ t)) = (⟨9, al, co, si, wi, sh, ds, sr, dp, re, im⟩ : XX) := by
  have hA := andL hv
  have hR := andL (andR hv)
  have hD := andL hR
  have hS := andR hR
  have hC := andL (andR (andR hv))
  have hN := andR (andR (andR hv))
  obtain rfl : al = 0 := eq_of_beq (α := Int) (andL (andR hA))
  obtain rfl : co = 0 := eq_of_beq (α := Int) (andL (andR (andR hA)))
  obtain rfl : si = 0 := eq_of_beq (α := Int) (andL (andR (andR (andR hA))))
  obtain rfl : sh = false := eq_of_beq (α := Bool) (andL (andR (andR (andR (andR (andR hA))))))
  obtain rfl : sr = 0 := eq_of_beq (α := Int) (andL (andR (andR (andR (andR (andR (andR (andR hA))))))))
  obtain rfl : dp = 0 := eq_of_beq (α := Int) (andL (andR (andR (andR (andR (andR (andR (andR (andR hA)))))))))
  obtain rfl : re = 0 := eq_of_beq (α := Int) (andL (andR (andR (andR (andR (andR (andR (andR (andR (andR hA))))))))))
  obtain rfl : im = 0 := eq_of_beq (α := Int) (andL (andR (andR (andR (andR (andR (andR (andR (andR (andR (andR hA)))))))))))
  exact List.map_inj_left.1 (rr9 t wi) ds (rg_mem hD)
theorem rs10 (al co si : Int) (wi sh : Bool) (ds sr dp re im : Int) (hv : vP10 al co si wi sh ds sr dp re im = true) (t : List UInt8) (hre : -2147483648 ≤ re ∧ re ≤ 2147483647) (hdp : -2147483648 ≤ dp ∧ dp ≤ 2147483647) (him : -9223372036854775808 ≤ im ∧ im ≤ 9223372036854775807) : readR (bf (encS10 al co si wi sh ds sr dp re im ++ t)) = (⟨10, al, co, si, wi, sh, ds, sr, dp, re, im⟩ : XX) := by
  have hA := andL hv
  have hR := andL (andR hv)
  have hD := andL hR
  have hS := andR hR
  have hC := andL (andR (andR hv))
  have hN := andR (andR (andR hv))
  obtain rfl : al = 0 := eq_of_beq (α := Int) (andL (andR hA))
  obtain rfl : co = 0 := eq_of_beq (α := Int) (andL (andR (andR hA)))
  obtain rfl : si = 0 := eq_of_beq (α := Int) (andL (andR (andR (andR hA))))
  obtain rfl : sh = false := eq_of_beq (α := Bool) (andL (andR (andR (andR (andR (andR hA))))))
  obtain rfl : dp = 0 := eq_of_beq (α := Int) (andL (andR (andR (andR (andR (andR (andR (andR (andR hA)))))))))
  obtain rfl : re = 0 := eq_of_beq (α := Int) (andL (andR (andR (andR (andR (andR (andR (andR (andR (andR hA))))))))))
  obtain rfl : im = 0 := eq_of_beq (α := Int) (andL (andR (andR (andR (andR (andR (andR (andR (andR (andR (andR hA)))))))))))
  exact List.map_inj_left.1 (rr10 t wi) (ds, sr) (rg2_mem (rg_mem hD) (rg_mem hS))
theorem rs11 (al co si : Int) (wi sh : Bool) (ds sr dp re im : Int) (hv : vP11 al co si wi sh ds sr dp re im = true) (t : List UInt8) (hre : -2147483648 ≤ re ∧ re ≤ 2147483647) (hdp : -2147483648 ≤ dp ∧ dp ≤ 2147483647) (him : -9223372036854775808 ≤ im ∧ im ≤ 9223372036854775807) : readR (bf (encS11 al co si wi sh ds sr dp re im ++ t)) = (⟨11, al, co, si, wi, sh, ds, sr, dp, re, im⟩ : XX) := by
  have hA := andL hv
  have hR := andL (andR hv)
  have hD := andL hR
  have hS := andR hR
  have hC := andL (andR (andR hv))
  have hN := andR (andR (andR hv))
  obtain rfl : co = 0 := eq_of_beq (α := Int) (andL (andR (andR hA)))
  obtain rfl : si = 0 := eq_of_beq (α := Int) (andL (andR (andR (andR hA))))
  obtain rfl : sh = false := eq_of_beq (α := Bool) (andL (andR (andR (andR (andR (andR hA))))))
  obtain rfl : sr = 0 := eq_of_beq (α := Int) (andL (andR (andR (andR (andR (andR (andR (andR hA))))))))
  obtain rfl : dp = 0 := eq_of_beq (α := Int) (andL (andR (andR (andR (andR (andR (andR (andR (andR hA)))))))))
  obtain rfl : re = 0 := eq_of_beq (α := Int) (andL (andR (andR (andR (andR (andR (andR (andR (andR (andR hA))))))))))
  have hi : -128 ≤ im ∧ im ≤ 127 := by
    simp only [shiftS, Bool.and_eq_true, Bool.or_eq_true, decide_eq_true_eq] at hN
    omega
  obtain ⟨a, h1⟩ := imm1 im
  unfold encS11
  rw [h1]
  refine (List.map_inj_left.1 (rr11 a t al hC wi) ds (rg_mem hD)).trans ?_
  rw [u1 h1 hi]
theorem rs12 (al co si : Int) (wi sh : Bool) (ds sr dp re im : Int) (hv : vP12 al co si wi sh ds sr dp re im = true) (t : List UInt8) (hre : -2147483648 ≤ re ∧ re ≤ 2147483647) (hdp : -2147483648 ≤ dp ∧ dp ≤ 2147483647) (him : -9223372036854775808 ≤ im ∧ im ≤ 9223372036854775807) : readR (bf (encS12 al co si wi sh ds sr dp re im ++ t)) = (⟨12, al, co, si, wi, sh, ds, sr, dp, re, im⟩ : XX) := by
  have hA := andL hv
  have hR := andL (andR hv)
  have hD := andL hR
  have hS := andR hR
  have hC := andL (andR (andR hv))
  have hN := andR (andR (andR hv))
  obtain rfl : co = 0 := eq_of_beq (α := Int) (andL (andR (andR hA)))
  obtain rfl : si = 0 := eq_of_beq (α := Int) (andL (andR (andR (andR hA))))
  obtain rfl : sh = false := eq_of_beq (α := Bool) (andL (andR (andR (andR (andR (andR hA))))))
  obtain rfl : sr = 0 := eq_of_beq (α := Int) (andL (andR (andR (andR (andR (andR (andR (andR hA))))))))
  obtain rfl : dp = 0 := eq_of_beq (α := Int) (andL (andR (andR (andR (andR (andR (andR (andR (andR hA)))))))))
  obtain rfl : re = 0 := eq_of_beq (α := Int) (andL (andR (andR (andR (andR (andR (andR (andR (andR (andR hA))))))))))
  obtain rfl : im = 0 := eq_of_beq (α := Int) (andL (andR (andR (andR (andR (andR (andR (andR (andR (andR (andR hA)))))))))))
  exact List.map_inj_left.1 (rr12 t al hC wi) ds (rg_mem hD)
theorem rs13 (al co si : Int) (wi sh : Bool) (ds sr dp re im : Int) (hv : vP13 al co si wi sh ds sr dp re im = true) (t : List UInt8) (hre : -2147483648 ≤ re ∧ re ≤ 2147483647) (hdp : -2147483648 ≤ dp ∧ dp ≤ 2147483647) (him : -9223372036854775808 ≤ im ∧ im ≤ 9223372036854775807) : readR (bf (encS13 al co si wi sh ds sr dp re im ++ t)) = (⟨13, al, co, si, wi, sh, ds, sr, dp, re, im⟩ : XX) := by
  have hA := andL hv
  have hR := andL (andR hv)
  have hD := andL hR
  have hS := andR hR
  have hC := andL (andR (andR hv))
  have hN := andR (andR (andR hv))
  obtain rfl : al = 0 := eq_of_beq (α := Int) (andL (andR hA))
  obtain rfl : co = 0 := eq_of_beq (α := Int) (andL (andR (andR hA)))
  obtain rfl : sh = false := eq_of_beq (α := Bool) (andL (andR (andR (andR (andR (andR hA))))))
  obtain rfl : re = 0 := eq_of_beq (α := Int) (andL (andR (andR (andR (andR (andR (andR (andR (andR (andR hA))))))))))
  obtain rfl : im = 0 := eq_of_beq (α := Int) (andL (andR (andR (andR (andR (andR (andR (andR (andR (andR (andR hA)))))))))))
  have hz := andL hC
  obtain rfl : wi = (si == 8) := eq_of_beq (α := Bool) (andR hC)
  obtain ⟨a, b, c, d, h4⟩ := imm4 dp
  unfold encS13
  rw [h4]
  refine (List.map_inj_left.1 (rr13 a b c d t si hz) (ds, sr) (rg2_mem (rg_mem hD) (rg_mem hS))).trans ?_
  rw [u4 h4 hdp, i32_id dp hdp.1 hdp.2]
theorem rs14 (al co si : Int) (wi sh : Bool) (ds sr dp re im : Int) (hv : vP14 al co si wi sh ds sr dp re im = true) (t : List UInt8) (hre : -2147483648 ≤ re ∧ re ≤ 2147483647) (hdp : -2147483648 ≤ dp ∧ dp ≤ 2147483647) (him : -9223372036854775808 ≤ im ∧ im ≤ 9223372036854775807) : readR (bf (encS14 al co si wi sh ds sr dp re im ++ t)) = (⟨14, al, co, si, wi, sh, ds, sr, dp, re, im⟩ : XX) := by
  have hA := andL hv
  have hR := andL (andR hv)
  have hD := andL hR
  have hS := andR hR
  have hC := andL (andR (andR hv))
  have hN := andR (andR (andR hv))
  obtain rfl : al = 0 := eq_of_beq (α := Int) (andL (andR hA))
  obtain rfl : co = 0 := eq_of_beq (α := Int) (andL (andR (andR hA)))
  obtain rfl : sh = false := eq_of_beq (α := Bool) (andL (andR (andR (andR (andR (andR hA))))))
  obtain rfl : re = 0 := eq_of_beq (α := Int) (andL (andR (andR (andR (andR (andR (andR (andR (andR (andR hA))))))))))
  obtain rfl : im = 0 := eq_of_beq (α := Int) (andL (andR (andR (andR (andR (andR (andR (andR (andR (andR (andR hA)))))))))))
  have hz := andL hC
  obtain rfl : wi = (si == 8) := eq_of_beq (α := Bool) (andR hC)
  obtain ⟨a, b, c, d, h4⟩ := imm4 dp
  unfold encS14
  rw [h4]
  refine (List.map_inj_left.1 (rr14 a b c d t si hz) (ds, sr) (rg2_mem (rg_mem hD) (rg_mem hS))).trans ?_
  rw [u4 h4 hdp, i32_id dp hdp.1 hdp.2]
theorem rs15 (al co si : Int) (wi sh : Bool) (ds sr dp re im : Int) (hv : vP15 al co si wi sh ds sr dp re im = true) (t : List UInt8) (hre : -2147483648 ≤ re ∧ re ≤ 2147483647) (hdp : -2147483648 ≤ dp ∧ dp ≤ 2147483647) (him : -9223372036854775808 ≤ im ∧ im ≤ 9223372036854775807) : readR (bf (encS15 al co si wi sh ds sr dp re im ++ t)) = (⟨15, al, co, si, wi, sh, ds, sr, dp, re, im⟩ : XX) := by
  have hA := andL hv
  have hR := andL (andR hv)
  have hD := andL hR
  have hS := andR hR
  have hC := andL (andR (andR hv))
  have hN := andR (andR (andR hv))
  obtain rfl : al = 0 := eq_of_beq (α := Int) (andL (andR hA))
  obtain rfl : co = 0 := eq_of_beq (α := Int) (andL (andR (andR hA)))
  obtain rfl : si = 0 := eq_of_beq (α := Int) (andL (andR (andR (andR hA))))
  obtain rfl : wi = false := eq_of_beq (α := Bool) (andL (andR (andR (andR (andR hA)))))
  obtain rfl : ds = 0 := eq_of_beq (α := Int) (andL (andR (andR (andR (andR (andR (andR hA)))))))
  obtain rfl : sr = 0 := eq_of_beq (α := Int) (andL (andR (andR (andR (andR (andR (andR (andR hA))))))))
  obtain rfl : dp = 0 := eq_of_beq (α := Int) (andL (andR (andR (andR (andR (andR (andR (andR (andR hA)))))))))
  obtain rfl : im = 0 := eq_of_beq (α := Int) (andL (andR (andR (andR (andR (andR (andR (andR (andR (andR (andR hA)))))))))))
  unfold encS15
  cases sh
  · obtain ⟨a, b, c, d, h4⟩ := imm4 re
    rw [h4]
    refine (rr15 a b c d t).trans ?_
    rw [u4 h4 hre, i32_id re hre.1 hre.2]
  · have hb := byte_of (x := re) (by simpa using hN)
    obtain ⟨a, h1⟩ := imm1 re
    rw [h1]
    refine (rr15s a t).trans ?_
    rw [u1 h1 hb, i32_id re hre.1 hre.2]
theorem rs16 (al co si : Int) (wi sh : Bool) (ds sr dp re im : Int) (hv : vP16 al co si wi sh ds sr dp re im = true) (t : List UInt8) (hre : -2147483648 ≤ re ∧ re ≤ 2147483647) (hdp : -2147483648 ≤ dp ∧ dp ≤ 2147483647) (him : -9223372036854775808 ≤ im ∧ im ≤ 9223372036854775807) : readR (bf (encS16 al co si wi sh ds sr dp re im ++ t)) = (⟨16, al, co, si, wi, sh, ds, sr, dp, re, im⟩ : XX) := by
  have hA := andL hv
  have hR := andL (andR hv)
  have hD := andL hR
  have hS := andR hR
  have hC := andL (andR (andR hv))
  have hN := andR (andR (andR hv))
  obtain rfl : al = 0 := eq_of_beq (α := Int) (andL (andR hA))
  obtain rfl : si = 0 := eq_of_beq (α := Int) (andL (andR (andR (andR hA))))
  obtain rfl : wi = false := eq_of_beq (α := Bool) (andL (andR (andR (andR (andR hA)))))
  obtain rfl : ds = 0 := eq_of_beq (α := Int) (andL (andR (andR (andR (andR (andR (andR hA)))))))
  obtain rfl : sr = 0 := eq_of_beq (α := Int) (andL (andR (andR (andR (andR (andR (andR (andR hA))))))))
  obtain rfl : dp = 0 := eq_of_beq (α := Int) (andL (andR (andR (andR (andR (andR (andR (andR (andR hA)))))))))
  obtain rfl : im = 0 := eq_of_beq (α := Int) (andL (andR (andR (andR (andR (andR (andR (andR (andR (andR (andR hA)))))))))))
  unfold encS16
  cases sh
  · obtain ⟨a, b, c, d, h4⟩ := imm4 re
    rw [h4]
    refine (List.map_inj_left.1 (rr16 a b c d t) co (cc_mem hC)).trans ?_
    rw [u4 h4 hre, i32_id re hre.1 hre.2]
  · have hb := byte_of (x := re) (by simpa using hN)
    obtain ⟨a, h1⟩ := imm1 re
    rw [h1]
    refine (List.map_inj_left.1 (rr16s a t) co (cc_mem hC)).trans ?_
    rw [u1 h1 hb, i32_id re hre.1 hre.2]
theorem rs17 (al co si : Int) (wi sh : Bool) (ds sr dp re im : Int) (hv : vP17 al co si wi sh ds sr dp re im = true) (t : List UInt8) (hre : -2147483648 ≤ re ∧ re ≤ 2147483647) (hdp : -2147483648 ≤ dp ∧ dp ≤ 2147483647) (him : -9223372036854775808 ≤ im ∧ im ≤ 9223372036854775807) : readR (bf (encS17 al co si wi sh ds sr dp re im ++ t)) = (⟨17, al, co, si, wi, sh, ds, sr, dp, re, im⟩ : XX) := by
  have hA := andL hv
  have hR := andL (andR hv)
  have hD := andL hR
  have hS := andR hR
  have hC := andL (andR (andR hv))
  have hN := andR (andR (andR hv))
  obtain rfl : al = 0 := eq_of_beq (α := Int) (andL (andR hA))
  obtain rfl : co = 0 := eq_of_beq (α := Int) (andL (andR (andR hA)))
  obtain rfl : si = 0 := eq_of_beq (α := Int) (andL (andR (andR (andR hA))))
  obtain rfl : wi = false := eq_of_beq (α := Bool) (andL (andR (andR (andR (andR hA)))))
  obtain rfl : sh = false := eq_of_beq (α := Bool) (andL (andR (andR (andR (andR (andR hA))))))
  obtain rfl : sr = 0 := eq_of_beq (α := Int) (andL (andR (andR (andR (andR (andR (andR (andR hA))))))))
  obtain rfl : dp = 0 := eq_of_beq (α := Int) (andL (andR (andR (andR (andR (andR (andR (andR (andR hA)))))))))
  obtain rfl : re = 0 := eq_of_beq (α := Int) (andL (andR (andR (andR (andR (andR (andR (andR (andR (andR hA))))))))))
  obtain rfl : im = 0 := eq_of_beq (α := Int) (andL (andR (andR (andR (andR (andR (andR (andR (andR (andR (andR hA)))))))))))
  exact List.map_inj_left.1 (rr17 t) ds (rg_mem hD)
theorem rs18 (al co si : Int) (wi sh : Bool) (ds sr dp re im : Int) (hv : vP18 al co si wi sh ds sr dp re im = true) (t : List UInt8) (hre : -2147483648 ≤ re ∧ re ≤ 2147483647) (hdp : -2147483648 ≤ dp ∧ dp ≤ 2147483647) (him : -9223372036854775808 ≤ im ∧ im ≤ 9223372036854775807) : readR (bf (encS18 al co si wi sh ds sr dp re im ++ t)) = (⟨18, al, co, si, wi, sh, ds, sr, dp, re, im⟩ : XX) := by
  have hA := andL hv
  have hR := andL (andR hv)
  have hD := andL hR
  have hS := andR hR
  have hC := andL (andR (andR hv))
  have hN := andR (andR (andR hv))
  obtain rfl : al = 0 := eq_of_beq (α := Int) (andL (andR hA))
  obtain rfl : co = 0 := eq_of_beq (α := Int) (andL (andR (andR hA)))
  obtain rfl : si = 0 := eq_of_beq (α := Int) (andL (andR (andR (andR hA))))
  obtain rfl : wi = false := eq_of_beq (α := Bool) (andL (andR (andR (andR (andR hA)))))
  obtain rfl : sh = false := eq_of_beq (α := Bool) (andL (andR (andR (andR (andR (andR hA))))))
  obtain rfl : sr = 0 := eq_of_beq (α := Int) (andL (andR (andR (andR (andR (andR (andR (andR hA))))))))
  obtain rfl : dp = 0 := eq_of_beq (α := Int) (andL (andR (andR (andR (andR (andR (andR (andR (andR hA)))))))))
  obtain rfl : re = 0 := eq_of_beq (α := Int) (andL (andR (andR (andR (andR (andR (andR (andR (andR (andR hA))))))))))
  obtain rfl : im = 0 := eq_of_beq (α := Int) (andL (andR (andR (andR (andR (andR (andR (andR (andR (andR (andR hA)))))))))))
  exact List.map_inj_left.1 (rr18 t) ds (rg_mem hD)
theorem rs19 (al co si : Int) (wi sh : Bool) (ds sr dp re im : Int) (hv : vP19 al co si wi sh ds sr dp re im = true) (t : List UInt8) (hre : -2147483648 ≤ re ∧ re ≤ 2147483647) (hdp : -2147483648 ≤ dp ∧ dp ≤ 2147483647) (him : -9223372036854775808 ≤ im ∧ im ≤ 9223372036854775807) : readR (bf (encS19 al co si wi sh ds sr dp re im ++ t)) = (⟨19, al, co, si, wi, sh, ds, sr, dp, re, im⟩ : XX) := by
  have hA := andL hv
  have hR := andL (andR hv)
  have hD := andL hR
  have hS := andR hR
  have hC := andL (andR (andR hv))
  have hN := andR (andR (andR hv))
  obtain rfl : al = 0 := eq_of_beq (α := Int) (andL (andR hA))
  obtain rfl : co = 0 := eq_of_beq (α := Int) (andL (andR (andR hA)))
  obtain rfl : si = 0 := eq_of_beq (α := Int) (andL (andR (andR (andR hA))))
  obtain rfl : wi = false := eq_of_beq (α := Bool) (andL (andR (andR (andR (andR hA)))))
  obtain rfl : sh = false := eq_of_beq (α := Bool) (andL (andR (andR (andR (andR (andR hA))))))
  obtain rfl : ds = 0 := eq_of_beq (α := Int) (andL (andR (andR (andR (andR (andR (andR hA)))))))
  obtain rfl : sr = 0 := eq_of_beq (α := Int) (andL (andR (andR (andR (andR (andR (andR (andR hA))))))))
  obtain rfl : dp = 0 := eq_of_beq (α := Int) (andL (andR (andR (andR (andR (andR (andR (andR (andR hA)))))))))
  obtain rfl : re = 0 := eq_of_beq (α := Int) (andL (andR (andR (andR (andR (andR (andR (andR (andR (andR hA))))))))))
  obtain rfl : im = 0 := eq_of_beq (α := Int) (andL (andR (andR (andR (andR (andR (andR (andR (andR (andR (andR hA)))))))))))
  exact rr19 t
theorem rs20 (al co si : Int) (wi sh : Bool) (ds sr dp re im : Int) (hv : vP20 al co si wi sh ds sr dp re im = true) (t : List UInt8) (hre : -2147483648 ≤ re ∧ re ≤ 2147483647) (hdp : -2147483648 ≤ dp ∧ dp ≤ 2147483647) (him : -9223372036854775808 ≤ im ∧ im ≤ 9223372036854775807) : readR (bf (encS20 al co si wi sh ds sr dp re im ++ t)) = (⟨20, al, co, si, wi, sh, ds, sr, dp, re, im⟩ : XX) := by
  have hA := andL hv
  have hR := andL (andR hv)
  have hD := andL hR
  have hS := andR hR
  have hC := andL (andR (andR hv))
  have hN := andR (andR (andR hv))
  obtain rfl : al = 0 := eq_of_beq (α := Int) (andL (andR hA))
  obtain rfl : co = 0 := eq_of_beq (α := Int) (andL (andR (andR hA)))
  obtain rfl : si = 0 := eq_of_beq (α := Int) (andL (andR (andR (andR hA))))
  obtain rfl : wi = false := eq_of_beq (α := Bool) (andL (andR (andR (andR (andR hA)))))
  obtain rfl : sh = false := eq_of_beq (α := Bool) (andL (andR (andR (andR (andR (andR hA))))))
  obtain rfl : ds = 0 := eq_of_beq (α := Int) (andL (andR (andR (andR (andR (andR (andR hA)))))))
  obtain rfl : sr = 0 := eq_of_beq (α := Int) (andL (andR (andR (andR (andR (andR (andR (andR hA))))))))
  obtain rfl : dp = 0 := eq_of_beq (α := Int) (andL (andR (andR (andR (andR (andR (andR (andR (andR hA)))))))))
  obtain rfl : im = 0 := eq_of_beq (α := Int) (andL (andR (andR (andR (andR (andR (andR (andR (andR (andR (andR hA)))))))))))
  obtain ⟨a, b, c, d, h4⟩ := imm4 re
  unfold encS20
  rw [h4]
  refine (rr20 a b c d t).trans ?_
  rw [u4 h4 hre, i32_id re hre.1 hre.2]
theorem rs21 (al co si : Int) (wi sh : Bool) (ds sr dp re im : Int) (hv : vP21 al co si wi sh ds sr dp re im = true) (t : List UInt8) (hre : -2147483648 ≤ re ∧ re ≤ 2147483647) (hdp : -2147483648 ≤ dp ∧ dp ≤ 2147483647) (him : -9223372036854775808 ≤ im ∧ im ≤ 9223372036854775807) : readR (bf (encS21 al co si wi sh ds sr dp re im ++ t)) = (⟨21, al, co, si, wi, sh, ds, sr, dp, re, im⟩ : XX) := by
  have hA := andL hv
  have hR := andL (andR hv)
  have hD := andL hR
  have hS := andR hR
  have hC := andL (andR (andR hv))
  have hN := andR (andR (andR hv))
  obtain rfl : al = 0 := eq_of_beq (α := Int) (andL (andR hA))
  obtain rfl : co = 0 := eq_of_beq (α := Int) (andL (andR (andR hA)))
  obtain rfl : si = 0 := eq_of_beq (α := Int) (andL (andR (andR (andR hA))))
  obtain rfl : wi = false := eq_of_beq (α := Bool) (andL (andR (andR (andR (andR hA)))))
  obtain rfl : sh = false := eq_of_beq (α := Bool) (andL (andR (andR (andR (andR (andR hA))))))
  obtain rfl : ds = 0 := eq_of_beq (α := Int) (andL (andR (andR (andR (andR (andR (andR hA)))))))
  obtain rfl : sr = 0 := eq_of_beq (α := Int) (andL (andR (andR (andR (andR (andR (andR (andR hA))))))))
  obtain rfl : dp = 0 := eq_of_beq (α := Int) (andL (andR (andR (andR (andR (andR (andR (andR (andR hA)))))))))
  obtain rfl : re = 0 := eq_of_beq (α := Int) (andL (andR (andR (andR (andR (andR (andR (andR (andR (andR hA))))))))))
  obtain rfl : im = 0 := eq_of_beq (α := Int) (andL (andR (andR (andR (andR (andR (andR (andR (andR (andR (andR hA)))))))))))
  exact rr21 t
theorem read_encR (k : Int) (al co si : Int) (wi sh : Bool) (ds sr dp re im : Int) (hv : vP k al co si wi sh ds sr dp re im = true) (t : List UInt8) (hre : -2147483648 ≤ re ∧ re ≤ 2147483647) (hdp : -2147483648 ≤ dp ∧ dp ≤ 2147483647) (him : -9223372036854775808 ≤ im ∧ im ≤ 9223372036854775807) : readR (bf (encS k al co si wi sh ds sr dp re im ++ t)) = (⟨k, al, co, si, wi, sh, ds, sr, dp, re, im⟩ : XX) := by
  by_cases hk : 1 ≤ k ∧ k ≤ 21
  · rcases kinds (k := k) (by simp only [decide_eq_false_iff_not]; omega) (by simp only [decide_eq_false_iff_not]; omega) with rfl | rfl | rfl | rfl | rfl | rfl | rfl | rfl | rfl | rfl | rfl | rfl | rfl | rfl | rfl | rfl | rfl | rfl | rfl | rfl | rfl
    · exact rs1 al co si wi sh ds sr dp re im hv t hre hdp him
    · exact rs2 al co si wi sh ds sr dp re im hv t hre hdp him
    · exact rs3 al co si wi sh ds sr dp re im hv t hre hdp him
    · exact rs4 al co si wi sh ds sr dp re im hv t hre hdp him
    · exact rs5 al co si wi sh ds sr dp re im hv t hre hdp him
    · exact rs6 al co si wi sh ds sr dp re im hv t hre hdp him
    · exact rs7 al co si wi sh ds sr dp re im hv t hre hdp him
    · exact rs8 al co si wi sh ds sr dp re im hv t hre hdp him
    · exact rs9 al co si wi sh ds sr dp re im hv t hre hdp him
    · exact rs10 al co si wi sh ds sr dp re im hv t hre hdp him
    · exact rs11 al co si wi sh ds sr dp re im hv t hre hdp him
    · exact rs12 al co si wi sh ds sr dp re im hv t hre hdp him
    · exact rs13 al co si wi sh ds sr dp re im hv t hre hdp him
    · exact rs14 al co si wi sh ds sr dp re im hv t hre hdp him
    · exact rs15 al co si wi sh ds sr dp re im hv t hre hdp him
    · exact rs16 al co si wi sh ds sr dp re im hv t hre hdp him
    · exact rs17 al co si wi sh ds sr dp re im hv t hre hdp him
    · exact rs18 al co si wi sh ds sr dp re im hv t hre hdp him
    · exact rs19 al co si wi sh ds sr dp re im hv t hre hdp him
    · exact rs20 al co si wi sh ds sr dp re im hv t hre hdp him
    · exact rs21 al co si wi sh ds sr dp re im hv t hre hdp him
  · exfalso
    have nd : ∀ n : Int, 1 ≤ n → n ≤ 21 → ¬ k = n := fun n h1 h2 => by omega
    unfold vP at hv
    rw [if_neg (nd 1 (by omega) (by omega)), if_neg (nd 2 (by omega) (by omega)), if_neg (nd 3 (by omega) (by omega)), if_neg (nd 4 (by omega) (by omega)), if_neg (nd 5 (by omega) (by omega)), if_neg (nd 6 (by omega) (by omega)), if_neg (nd 7 (by omega) (by omega)), if_neg (nd 8 (by omega) (by omega)), if_neg (nd 9 (by omega) (by omega)), if_neg (nd 10 (by omega) (by omega)), if_neg (nd 11 (by omega) (by omega)), if_neg (nd 12 (by omega) (by omega)), if_neg (nd 13 (by omega) (by omega)), if_neg (nd 14 (by omega) (by omega)), if_neg (nd 15 (by omega) (by omega)), if_neg (nd 16 (by omega) (by omega)), if_neg (nd 17 (by omega) (by omega)), if_neg (nd 18 (by omega) (by omega)), if_neg (nd 19 (by omega) (by omega)), if_neg (nd 20 (by omega) (by omega)), if_neg (nd 21 (by omega) (by omega))] at hv
    cases hv
end Go.Proofs.YtokeopmmnpmfeaaDoor.Ex
end
section
namespace Go.Proofs.YtokeopmmnpmfeaaDoor.Ex
set_option maxRecDepth 20000

open Go Go.RowKit
set_option maxHeartbeats 0
set_option maxRecDepth 1000000
set_option linter.unusedVariables false
set_option linter.unusedSectionVars false
theorem Rng.ite {c : Prop} [Decidable c] {x y : XX} (hx : Rng x) (hy : Rng y) : Rng (if c then x else y) := by split <;> assumption
theorem nR1_rng (s : ByteArray) (j : Nat) : -9223372036854775808 ≤ nR1 (rbt s) j ∧ nR1 (rbt s) j ≤ 9223372036854775807 := by
  have h := leB_rng s 1 j
  rw [show (256 ^ 1 : Nat) = 256 from by decide] at h
  unfold nR1
  by_cases c : leB (rbt s) j 1 < 128
  · rw [decide_eq_true c, cond_true]; omega
  · rw [decide_eq_false c, cond_false]; omega
theorem nR4_rng (s : ByteArray) (j : Nat) : -9223372036854775808 ≤ nR4 (rbt s) j ∧ nR4 (rbt s) j ≤ 9223372036854775807 := by
  have h := leB_rng s 4 j
  rw [show (256 ^ 4 : Nat) = 4294967296 from by decide] at h
  unfold nR4
  by_cases c : leB (rbt s) j 4 < 2147483648
  · rw [decide_eq_true c, cond_true]; omega
  · rw [decide_eq_false c, cond_false]; omega
theorem nR8_rng (s : ByteArray) (j : Nat) : -9223372036854775808 ≤ nR8 (rbt s) j ∧ nR8 (rbt s) j ≤ 9223372036854775807 := by
  have h := leB_rng s 8 j
  rw [show (256 ^ 8 : Nat) = 18446744073709551616 from by decide] at h
  unfold nR8
  by_cases c : leB (rbt s) j 8 < 9223372036854775808
  · rw [decide_eq_true c, cond_true]; omega
  · rw [decide_eq_false c, cond_false]; omega
theorem firR_rng (s : ByteArray) (j : Nat) (h w : Bool) : Rng (firR (rbt s) j h w) := by
  have n1 := nR1_rng s (j + 2)
  have n4 := nR4_rng s (j + 2)
  have n8 := nR8_rng s (j + 1)
  unfold firR
  generalize nR1 (rbt s) (j + 2) = qa at n1 ⊢
  generalize nR4 (rbt s) (j + 2) = qb at n4 ⊢
  generalize nR8 (rbt s) (j + 1) = qc at n8 ⊢
  generalize nR1 (rbt s) (j + 1) = qd
  generalize nR4 (rbt s) (j + 1) = qe
  exact Rng.ite ⟨z32, z32, z64⟩ (Rng.ite ⟨z32, z32, z64⟩ (Rng.ite ⟨z32, z32, z64⟩ (Rng.ite ⟨z32, z32, n4⟩ (Rng.ite ⟨z32, z32, n4⟩ (Rng.ite ⟨z32, z32, n8⟩ (Rng.ite ⟨z32, z32, z64⟩ (Rng.ite ⟨z32, z32, z64⟩ (Rng.ite ⟨z32, z32, z64⟩ (Rng.ite ⟨z32, z32, n1⟩ (Rng.ite ⟨z32, z32, z64⟩ (Rng.ite ⟨z32, z32, z64⟩ (Rng.ite ⟨z32, z32, z64⟩ (Rng.ite ⟨z32, z32, z64⟩ (Rng.ite ⟨i32_rng _, z32, z64⟩ (Rng.ite ⟨i32_rng _, z32, z64⟩ (Rng.ite ⟨i32_rng _, z32, z64⟩ (Rng.ite ⟨z32, z32, z64⟩ (Rng.ite ⟨z32, z32, z64⟩ (Rng.ite ⟨z32, z32, z64⟩ (Rng.ite ⟨i32_rng _, z32, z64⟩ ⟨z32, z32, z64⟩))))))))))))))))))))
theorem secR_rng (s : ByteArray) (j : Nat) (w : Bool) : Rng (secR (rbt s) j w) := by
  unfold secR
  generalize nR4 (rbt s) (j + 1) = qe
  exact Rng.ite ⟨z32, z32, z64⟩ (Rng.ite ⟨z32, z32, z64⟩ (Rng.ite ⟨z32, z32, z64⟩ (Rng.ite ⟨i32_rng _, z32, z64⟩ ⟨z32, z32, z64⟩)))
theorem regR_rng {x : XX} (r : Rng x) (b : Nat → Int) (j : Nat) (high : Int) : Rng (regR b j x high) := by
  unfold regR
  split
  · exact ⟨r.re, r.dp, r.im⟩
  split
  · exact ⟨r.re, r.dp, r.im⟩
  split
  · exact ⟨r.re, r.dp, r.im⟩
  split
  · exact ⟨r.re, r.dp, r.im⟩
  split
  · exact ⟨r.re, i32_rng _, r.im⟩
  split
  · exact ⟨r.re, i32_rng _, r.im⟩
  exact r
theorem readR_rng (s : ByteArray) : Rng (readR (rbt s)) := by
  have hp : ∀ h w high j, Rng (preR (rbt s) h w high j) := fun h w high j => by
    unfold preR
    split
    · exact regR_rng (secR_rng s _ w) _ _ _
    · exact regR_rng (firR_rng s _ h w) _ _ _
  have hr : ∀ h i, Rng (rexR (rbt s) h i) := fun h i => by
    unfold rexR
    split
    · exact hp _ _ _ _
    · exact hp _ _ _ _
  unfold readR
  split
  · exact hr _ _
  · exact hr _ _
theorem read_byR {x : XX} (h : x.may = true) (r : Rng x) (t : List UInt8) : readR (bf (x.by ++ t)) = x :=
  read_encR x.k x.al x.co x.si x.wi x.sh x.ds x.sr x.dp x.re x.im h t r.re r.dp r.im
theorem exT_list (s : ByteArray) (a : Int) : (exT s a).data.toList = s.data.toList.drop a.toNat := by
  unfold exT
  rw [ext_list, List.take_of_length_le]
  rw [List.length_drop, size_list]
  exact Nat.le_refl _
theorem rbt_bf (s : ByteArray) : rbt s = bf s.data.toList := rfl
theorem bt_bf {s : ByteArray} {a : Int} (h : inD s a = true) : bt s a = bf (s.data.toList.drop a.toNat) := by
  unfold inD at h
  simp only [Bool.and_eq_true, decide_eq_true_eq] at h
  have hl : (s.data.toList.take a.toNat).length = a.toNat := by
    rw [List.length_take, ← size_list]
    omega
  have := bt_app (s := s) (p := s.data.toList.take a.toNat) (l := s.data.toList.drop a.toNat) (List.take_append_drop ..).symm
  rw [hl, show ((a.toNat : Nat) : Int) = a by omega] at this
  exact this
/-- That an instruction may be, and its bytes stand at a text's beginning. -/
def AtL (x : XX) (L : List UInt8) : Prop := x.may = true ∧ x.by <+: L
theorem szE_len (E : List UInt8) : szE E = (E.length : Int) := rfl
theorem rdGo_iff (t : ByteArray) : rdGo encB encE t = true ↔ AtL (readR (rbt t)) t.data.toList := by
  unfold rdGo AtL
  simp only [Bool.and_eq_true, Bool.not_eq_true', beq_iff_eq, ext_list, List.drop_zero, Nat.sub_zero, szE_len, Int.toNat_natCast]
  constructor
  · rintro ⟨h1, h2, h3⟩
    have hm := may_of h1
    rw [by_of hm] at h3
    exact ⟨hm, by rw [← h3]; exact List.take_prefix _ _⟩
  · rintro ⟨hm, hp⟩
    have hl := hp.length_le
    rw [← size_list] at hl
    refine ⟨by rw [e_of hm]; rfl, by rw [by_of hm]; exact decide_eq_false (by omega), ?_⟩
    rw [by_of hm]
    exact (List.prefix_iff_eq_take.1 hp).symm
theorem goD_iff {s : ByteArray} {a : Int} : goD s a = true ↔ AtL (readB (bt s a)) (s.data.toList.drop a.toNat) := by
  have e : (s.extract a.toNat s.size).data.toList = s.data.toList.drop a.toNat := exT_list s a
  unfold goD AtL
  rw [Bool.and_eq_true, Bool.not_eq_true', pfx_iff, e]
  constructor
  · rintro ⟨h1, h2⟩
    have hm := may_of h1
    exact ⟨hm, by rw [← by_of hm]; exact h2⟩
  · rintro ⟨hm, hp⟩
    refine ⟨by rw [e_of hm]; rfl, ?_⟩
    show EncB.of encB (readB (bt s a)) <+: _
    rw [by_of hm]
    exact hp
theorem both {s : ByteArray} {a : Int} (h : inD s a = true) : (goD s a = rdGo encB encE (exT s a)) ∧ (goD s a = true → readR (rbt (exT s a)) = readB (bt s a)) := by
  have eb := bt_bf h
  have er : rbt (exT s a) = bf (s.data.toList.drop a.toNat) := by rw [rbt_bf, exT_list]
  have f1 : goD s a = true → readR (rbt (exT s a)) = readB (bt s a) := fun hg => by
    obtain ⟨hm, q, hq⟩ := goD_iff.1 hg
    rw [er, ← hq]
    exact read_byR hm (readB_rng _) q
  have f2 : rdGo encB encE (exT s a) = true → readB (bt s a) = readR (rbt (exT s a)) := fun hg => by
    obtain ⟨hm, q, hq⟩ := (rdGo_iff _).1 hg
    rw [exT_list] at hq
    rw [eb, ← hq]
    exact read_by hm (readR_rng _) q
  refine ⟨?_, f1⟩
  cases g : goD s a with
  | true =>
    have := goD_iff.1 g
    rw [← f1 g, ← exT_list] at this
    exact ((rdGo_iff _).2 this).symm
  | false =>
    cases g2 : rdGo encB encE (exT s a) with
    | false => rfl
    | true =>
      have := (rdGo_iff _).1 g2
      rw [← f2 g2, exT_list] at this
      rw [goD_iff.2 this] at g
      cases g
/-- THE PROGRAM AND THE DOCUMENT DECODE ALIKE, whatever the text is, and the place. -/
theorem rdV_dV (s : ByteArray) (a : Int) : rdV encB encE s a = dV s a := by
  unfold rdV
  cases hi : inD s a with
  | false =>
    have hc : (decide (a < 0) || decide (a ≥ (s.size : Int))) = true := by
      unfold inD at hi
      simp only [Bool.and_eq_false_iff, decide_eq_false_iff_not] at hi
      simp only [Bool.or_eq_true, decide_eq_true_eq]
      omega
    rw [hc, dV_out hi]
    rfl
  | true =>
    have hc : (decide (a < 0) || decide (a ≥ (s.size : Int))) = false := by
      unfold inD at hi
      simp only [Bool.and_eq_true, decide_eq_true_eq] at hi
      simp only [Bool.or_eq_false_iff, decide_eq_false_iff_not]
      omega
    obtain ⟨h1, h2⟩ := both hi
    rw [hc, cond_false, ← h1]
    unfold dV dX dN dE okD
    rw [hi, Bool.true_and]
    cases g : goD s a with
    | true => rw [h2 g]; rfl
    | false => rfl
end Go.Proofs.YtokeopmmnpmfeaaDoor.Ex
end
section
namespace Go.Proofs.YtokeopmmnpmfeaaDoor.Ex
set_option maxRecDepth 20000

open Go Go.RowKit
set_option maxHeartbeats 0
set_option maxRecDepth 1000000
set_option linter.unusedVariables false
set_option linter.unusedSectionVars false
noncomputable abbrev UUU : Value := .tuple ⟨[]⟩
abbrev cbF : FuncId := 3
noncomputable abbrev cbLp : Code := theLoopN Tryd.prog cbF 0
theorem cb_one : oneLoopN Tryd.prog cbF 0 = true := by kernel_rfl
def hkRDec : Hook := fun f args _ =>
  if Nat.beq f deF then
    match args with
    | [.string s, .int .i64 a] => some (dV s a, [])
    | _ => none
  else none
theorem hkRDec_ok (hE : HookOk Tryd.prog (hkRen encB encE)) : HookOk Tryd.prog hkRDec := by
  intro f args h v cs hv hc wb k s w H
  unfold hkRDec at hv
  split at hv
  · rename_i hf
    obtain rfl := Nat.eq_of_beq_eq_true hf
    split at hv
    · rename_i t a
      cases hv
      rw [← rdV_dV]
      exact c_rdec hE t a w
    · cases hv
  · cases hv
noncomputable def cb3 : Hook3 := or3 (liftP hkDec) (or3 (liftP hkRDec) (liftH (guardH codedHook)))
theorem cb3_ok (hE : HookOk Tryd.prog (hkRen encB encE)) : HookOk3 Tryd.prog cb3 := or3_ok (liftP_ok hkDec_ok) (or3_ok (liftP_ok (hkRDec_ok hE)) (lift_ok (guard_ok codedHook_ok)))
noncomputable def cbE (s : ByteArray) (a : Int) : List Value := [.string s, .int .i64 a, UUU, UUU, .bool false, .int .i64 (-1), UUU, UUU, UUU, UUU, UUU, UUU, UUU, .string s, .int .i64 (s.size : Int), .bool false, UUU, UUU, UUU, UUU, UUU, UUU, UUU, UUU, UUU, UUU, UUU, UUU, UUU, UUU, UUU, UUU, UUU, UUU, UUU, UUU, UUU, UUU, UUU, UUU, UUU, UUU, UUU, UUU, UUU, UUU, UUU, UUU, UUU, UUU, UUU, UUU, UUU, UUU, UUU, UUU, UUU, UUU, UUU]
noncomputable def cbT (s : ByteArray) (a : Int) (j : Nat) (p r : Value) (β : Nat → Value) : List Value := [.string s, .int .i64 a, β 2, β 3, .bool false, .int .i64 ((j : Int) - 1), β 6, p, β 8, β 9, r, β 11, β 12, β 13, β 14, β 15, β 16, β 17, β 18, β 19, β 20, β 21, β 22, β 23, β 24, β 25, β 26, β 27, β 28, β 29, β 30, β 31, β 32, β 33, β 34, β 35, β 36, β 37, β 38, β 39, β 40, β 41, β 42, β 43, β 44, β 45, β 46, β 47, β 48, β 49, β 50, β 51, β 52, β 53, β 54, β 55, β 56, β 57, β 58]
def cbZ : List Bool := [false, false, true, true, false, false, true, false, true, true, false, true, true, true, true, true, true, true, true, true, true, true, true, true, true, true, true, true, true, true, true, true, true, true, true, true, true, true, true, true, true, true, true, true, true, true, true, true, true, true, true, true, true, true, true, true, true, true, true]
noncomputable def cbN (β : Nat → Value) : List Value := [β 0, β 1, β 2, β 3, .bool false, β 5, β 6, β 7, β 8, β 9, β 10, β 11, β 12, β 13, β 14, β 15, β 16, β 17, β 18, β 19, β 20, β 21, β 22, β 23, β 24, β 25, β 26, β 27, β 28, β 29, β 30, β 31, β 32, β 33, β 34, β 35, β 36, β 37, β 38, β 39, β 40, β 41, β 42, β 43, β 44, β 45, β 46, β 47, β 48, β 49, β 50, β 51, β 52, β 53, β 54, β 55, β 56, β 57, β 58]
def cbNs : List Bool := [true, true, true, true, false, true, true, true, true, true, true, true, true, true, true, true, true, true, true, true, true, true, true, true, true, true, true, true, true, true, true, true, true, true, true, true, true, true, true, true, true, true, true, true, true, true, true, true, true, true, true, true, true, true, true, true, true, true, true]
noncomputable def cbH (G1 G2 : AO) : List AO := h12 ++ [G1, G2]
def cbO (j : Nat) (last : Bool) : Orc := fun f t _ =>
  if Nat.beq f cbF then
    match t with
    | 21 => some (.bool true)
    | 23 => some (.int .i64 (((j + 1 : Nat) : Int) - 1))
    | 29 => some (.bool last)
    | 47 => some (.bool false)
    | 51 => some (.bool false)
    | 56 => some (.bool false)
    | _ => none
  else none
def cbX (s : ByteArray) (i : Int) : AO := ⟨true, none, (dX s i).cells⟩
end Go.Proofs.YtokeopmmnpmfeaaDoor.Ex
end
section
namespace Go.Proofs.YtokeopmmnpmfeaaDoor.Ex
set_option maxRecDepth 20000

open Go Go.RowKit
set_option maxHeartbeats 0
set_option maxRecDepth 1000000
set_option linter.unusedVariables false
set_option linter.unusedSectionVars false
theorem Stop.toQ {c : Code} {n q : Nat} {t t' : List Value} {h h' : List AO} {e : Exit} {m : Mk} (a : Stop Tryd.prog c n t h e t' h' m) : StopQ Tryd.prog c n q t h e t' h' m :=
  fun wb k hm hkq s m0 act w H m' => rounds_mono (fun e' a'' w'' hp => ⟨hp.1, let ⟨s'', h3, h4⟩ := hp.2; ⟨s'', fun i p _ hp => h3 i p hp, h4⟩⟩) n act w (a wb k hm s m0 act w H m')
noncomputable def cbP (s : ByteArray) (j : Nat) (i : Int) (last : Bool) : Cs := [(b2i (decide ((j : Int) - 1 ≤ wi ((s.size : Int) + 1))), 1), (b2i ((j : Int) - 1 == wi ((s.size : Int) + 1)), b2i last), (1, 1), (b2i (decide ((s.size : Int) ≤ 1000)), 1), (1, 1), (b2i (!(eqD (dX s i).cells (dX s i).cells)), 0), (b2i (dN s i != dN s i), 0), (b2i (dE s i != dE s i), 0), (wi ((j : Int) - 1 + 1), ((j + 1 : Nat) : Int) - 1)]
def cbC (last : Bool) (k : Nat) : Bool := Nat.ble 6 k && Nat.ble k 12 || (Nat.ble 17 k && Nat.ble k 29 || (Nat.ble 31 k && Nat.ble k 57 || last && Nat.beq k 30))
def cbSO : Orc := fun f t _ => if Nat.beq f cbF then (match t with | 21 => some (.bool false) | _ => none) else none
def cbLO (b : Bool) : Orc := fun f t _ => if Nat.beq f cbF then (match t with | 15 => some (.bool b) | _ => none) else none
abbrev pA (b : Nat) : Value := .pointer (some ⟨b, 0, none⟩)
theorem cb_n (s : ByteArray) (a : Int) (j : Nat) (p r : Value) (G1 G2 : AO) (β : Nat → Value) : (hopRunL Tryd.prog cb3 (cbO j false) noLoop cbF cbLp 1 1 [3, 4] (cbT s a j p r β) (cbH G1 G2)).map (fun q => (maskR 1 cbZ q.1, q.2)) = some ((cbT s a (j + 1) (pA 1) (pA 2) fun k => bif cbC false k then .bool true else .bool (okR 1 (β k))).map (reV (keepF 1 [3, 4]) 6), cbH (cbX s ((j : Int) - 1)) (cbX s ((j : Int) - 1)), some 3, inter (cbP s j ((j : Int) - 1) false)) := by kernel_rfl
theorem cb_l (s : ByteArray) (a : Int) (j : Nat) (p r : Value) (G1 G2 : AO) (β : Nat → Value) : (hopRunL Tryd.prog cb3 (cbO j true) noLoop cbF cbLp 1 1 [3, 4] (cbT s a j p r β) (cbH G1 G2)).map (fun q => (maskR 1 cbZ q.1, q.2)) = some ((cbT s a (j + 1) (pA 1) (pA 2) fun k => bif cbC true k then .bool true else .bool (okR 1 (β k))).map (reV (keepF 1 [3, 4]) 6), cbH (cbX s a) (cbX s a), some 3, inter (cbP s j a true)) := by kernel_rfl
theorem cb_stop (s : ByteArray) (a : Int) (j : Nat) (p r : Value) (G1 G2 : AO) (β : Nat → Value) : (loopN (bodyL Tryd.prog cb3 cbSO noLoop cbF cbLp) 1 ⟨cbT s a j p r β, cbH G1 G2, (none, [])⟩).map (fun r => (r.1, maskQ cbNs r.2.t, r.2.h, r.2.m.1, inter r.2.m.2)) = some (.exit 0, cbN fun _ => .bool true, cbH G1 G2, none, inter [(b2i (decide ((j : Int) - 1 ≤ wi ((s.size : Int) + 1))), 0)]) := by kernel_rfl
theorem cbE_eq (s : ByteArray) (a : Int) : cbT s a 0 UUU UUU (fun k => (cbE s a).getD k (.bool true)) = cbE s a := by kernel_rfl
theorem cbE_ok (s : ByteArray) (a : Int) : FlR 1 (fun k => (cbE s a).getD k (.bool true)) := by
  have h : (cbE s a).all (okR 1) = true := by kernel_rfl
  intro k
  show okR 1 ((cbE s a).getD k (.bool true)) = true
  rw [List.getD_eq_getElem?_getD]
  cases e : (cbE s a)[k]? with
  | none => rfl
  | some v => exact List.all_eq_true.1 h v (List.mem_of_getElem? e)
theorem eqD_self (x : XX) : eqD x.cells x.cells = true := by simp [XX.cells, xD, eqD, eqW]
theorem cbP_ok {s : ByteArray} {j : Nat} {i : Int} {last : Bool} (hs : s.size ≤ 300) (hj : j ≤ s.size + 2) (hl : (j = s.size + 2) = (last = true)) : AE (cbP s j i last) := by
  have w1 : wi ((s.size : Int) + 1) = (s.size : Int) + 1 := wi_id (by omega) (by omega)
  have w2 : wi ((j : Int) - 1 + 1) = ((j + 1 : Nat) : Int) - 1 := (wi_id (by omega) (by omega)).trans (by omega)
  have h3 : (b2i ((j : Int) - 1 == wi ((s.size : Int) + 1)), b2i last).1 = (b2i ((j : Int) - 1 == wi ((s.size : Int) + 1)), b2i last).2 := by
    show b2i _ = b2i last
    rw [w1]
    cases last with
    | true => exact eqT (by have := hl.mpr rfl; omega)
    | false => exact eqF (fun e => by have : j = s.size + 2 := by omega
                                      have := hl.mp this
                                      cases this)
  exact AE.cons (b1 (by rw [w1]; omega)) (AE.cons h3 (AE.cons rfl (AE.cons (b1 (by omega)) (AE.cons rfl (AE.cons (bfR (by rw [eqD_self]; rfl)) (AE.cons (bfR (by simp)) (AE.cons (bfR (by simp)) (AE.cons w2 AE.nil))))))))
noncomputable def cbQ (s : ByteArray) (a : Int) (β : Nat → Value) (G1 G2 : AO) : LoopQ := ⟨cbF, 0, fun _ => true, cbE s a, h12, .exit 0, cbN β, cbH G1 G2, (some 3, [])⟩
noncomputable def cbL (s : ByteArray) (a : Int) : Cs := [(b2i (decide ((s.size : Int) > 300)), 0), prP (cbE s a = cbE s a), prP (h12 = h12)]
theorem cb_run (s : ByteArray) (a : Int) (β : Nat → Value) (G1 G2 : AO) : reckonPI Tryd.prog cb3 (cbLO false) (loopQHook [cbQ s a β G1 G2]) 100000 300 h12 cbF [.string s, .int .i64 a] = some (.bool true, inter (cbL s a)) := by kernel_rfl
theorem cb_long (s : ByteArray) (a : Int) : reckonPI Tryd.prog cb3 (cbLO true) noLoop 100000 300 h12 cbF [.string s, .int .i64 a] = some (.bool true, inter [(b2i (decide ((s.size : Int) > 300)), 1)]) := by kernel_rfl
theorem cb_dead (s : ByteArray) (a : Int) (j : Nat) : deadAt cbZ (cbT s a j (pA 1) (pA 2) fun _ => .bool true) = true := by kernel_rfl
theorem cb_re (s : ByteArray) (i : Int) : (cbH (cbX s i) (cbX s i)).map (reO (keepF 1 [3, 4])) = cbH (cbX s i) (cbX s i) := by kernel_rfl
theorem cb_ref (s : ByteArray) (a : Int) (j : Nat) (i : Int) : hopC (cbT s a j (pA 1) (pA 2) fun _ => .bool true) (cbH (cbX s i) (cbX s i)) = true := by kernel_rfl
section
variable (hE : HookOk Tryd.prog (hkRen encB encE)) {s : ByteArray} (a : Int) (hs : s.size ≤ 300)
include hE hs
theorem cb_step (j : Nat) (hj : j ≤ s.size + 2) {p r : Value} {β : Nat → Value} {G1 G2 : AO} (hβ : FlR 1 β) : ∃ β' G1' G2', FlR 1 β' ∧ HopQ Tryd.prog cbLp 1 1 (cbT s a j p r β) (cbH G1 G2) (cbT s a (j + 1) (pA 1) (pA 2) β') (cbH G1' G2') (some 3, []) := by
  by_cases c : j = s.size + 2
  · obtain ⟨β', f, Q⟩ := hopR2_ok noNG (cb3_ok hE) noLoop_low (noLoop_ok _) cb_one [3, 4] (T := cbT s a (j + 1) (pA 1) (pA 2)) (ds := cbZ) (fun β => rfl) (cbC true) hβ (cb_l s a j p r G1 G2 β) (cb_re s a) (by decide) (by show 1 ≤ 3; decide) (cb_dead s a (j + 1)) (cb_ref s a (j + 1) a) (cbP_ok hs hj (by simp [c]))
    exact ⟨β', _, _, f, Q⟩
  · obtain ⟨β', f, Q⟩ := hopR2_ok noNG (cb3_ok hE) noLoop_low (noLoop_ok _) cb_one [3, 4] (T := cbT s a (j + 1) (pA 1) (pA 2)) (ds := cbZ) (fun β => rfl) (cbC false) hβ (cb_n s a j p r G1 G2 β) (cb_re s _) (by decide) (by show 1 ≤ 3; decide) (cb_dead s a (j + 1)) (cb_ref s a (j + 1) _) (cbP_ok hs hj (by simp [c]))
    exact ⟨β', _, _, f, Q⟩
theorem cb_rounds : ∀ (d j : Nat) (p r : Value) (β : Nat → Value) (G1 G2 : AO), FlR 1 β → j + d = s.size + 3 → ∃ p' r' β' G1' G2', HopQ Tryd.prog cbLp d 1 (cbT s a j p r β) (cbH G1 G2) (cbT s a (s.size + 3) p' r' β') (cbH G1' G2') (some 3, [])
  | 0, j, p, r, β, G1, G2, hβ, h => by
    obtain rfl : j = s.size + 3 := by omega
    exact ⟨p, r, β, G1, G2, HopQ.zero _ _ _ _⟩
  | d + 1, j, p, r, β, G1, G2, hβ, h => by
    obtain ⟨β1, A1, A2, f1, q1⟩ := cb_step hE a hs j (by omega) (p := p) (r := r) (G1 := G1) (G2 := G2) hβ
    obtain ⟨p2, r2, β2, B1, B2, q2⟩ := cb_rounds d (j + 1) (pA 1) (pA 2) β1 A1 A2 f1 (by omega)
    refine ⟨p2, r2, β2, B1, B2, ?_⟩
    rw [show d + 1 = 1 + d by omega]
    exact q1.trans q2 (fun _ _ h => h) (fun _ _ h => h)
theorem cb_loop : ∃ β G1 G2, LoopQOk Tryd.prog (cbQ s a β G1 G2) := by
  obtain ⟨p, r, β, G1, G2, q⟩ := cb_rounds hE a hs (s.size + 3) 0 UUU UUU _ dead dead (cbE_ok s a) (by omega)
  rw [cbE_eq] at q
  have q := HopQ.pad (h := h12) 2 q
  obtain ⟨β2, q2⟩ := stopM_ok noNG (cb3_ok hE) noLoop_low (noLoop_ok _) cb_one (fun β => rfl) (cb_stop s a (s.size + 3) p r G1 G2 β) (AE.cons (b0 (by rw [wi_id (x := (s.size : Int) + 1) (by omega) (by omega)]; omega)) AE.nil)
  have S := q.stop ((Stop.toQ q2).weak (m3 := (some 3, [])) (bndW rfl)) (fun _ _ h => h) (fun _ _ h => h)
  exact ⟨β2, G1, G2, loopQ_ok (N := s.size + 3 + 1) cb_one (S.stop (by kernel_rfl))⟩
end
theorem law_bytes (hE : HookOk Tryd.prog (hkRen encB encE)) (s : ByteArray) (a : Int) (w : World) (hL : Laid h12 w) : Calls Tryd.prog cbF #[.string s, .int .i64 a] w fun e w' => e = .returned (.bool true) ∧ Gr w w' := by
  by_cases c : (s.size : Int) > 300
  · exact reckonP_ok noNG (cb3_ok hE) noLoop_low (noLoop_ok _) _ 100000 300 h12 rfl rfl (cb_long s a) (AE.cons (b1 c) AE.nil) w hL
  · obtain ⟨β, G1, G2, q⟩ := cb_loop hE (s := s) a (by omega)
    exact reckonP_ok noNG (cb3_ok hE) (loopQHook_low _) (loopQHook_ok (fun e he => by rw [List.mem_singleton.1 he]; exact q)) _ 100000 300 h12 rfl rfl (cb_run s a β G1 G2) (AE.cons (b0 c) (AE.consP (prP_ok rfl) (AE.consP (prP_ok rfl) AE.nil))) w hL
end Go.Proofs.YtokeopmmnpmfeaaDoor.Ex
end
section
namespace Go.Proofs.YtokeopmmnpmfeaaDoor.Ex
set_option maxRecDepth 20000

open Go Go.RowKit
set_option maxHeartbeats 0
set_option maxRecDepth 1000000
set_option linter.unusedVariables false
set_option linter.unusedSectionVars false
theorem hkRen_ok : HookOk Tryd.prog (hkRen encB encE) := by
  intro f args h v cs hv hc wb k s w H
  unfold hkRen at hv
  split at hv
  · rename_i hf
    obtain rfl := Nat.eq_of_beq_eq_true hf
    split at hv
    · cases hv
      exact c_renc _ _ _ _ _ _ _ _ _ _ _ w
    · cases hv
  · cases hv
theorem codecBytes_walk (s : ByteArray) (a : Int) (w : World) (hL : Laid h12 w) : Calls Tryd.prog cbF #[.string s, .int .i64 a] w fun e w' => e = .returned (.bool true) ∧ Gr w w' := law_bytes hkRen_ok s a w hL
end Go.Proofs.YtokeopmmnpmfeaaDoor.Ex
end
