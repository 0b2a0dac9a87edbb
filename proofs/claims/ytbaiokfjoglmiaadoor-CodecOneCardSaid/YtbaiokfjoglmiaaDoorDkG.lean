/-
  Layer 11: an instruction that may be is read off its bytes, whatever stands behind them.
-/
import Derived.Test.YtbaiokfjoglmiaaDoorDkF
namespace Go.Proofs.YtbaiokfjoglmiaaDoor.Ex
open Go Go.RowKit
set_option linter.unusedVariables false
set_option maxHeartbeats 0
set_option maxRecDepth 1000000
theorem i32_rng (x : Int) : -2147483648 ≤ IntKind.i32.wrap x ∧ IntKind.i32.wrap x ≤ 2147483647 := by
  simp only [IntKind.wrap, IntKind.bits, IntKind.signed]
  simp
  omega
theorem i8_rng (x : Int) : -128 ≤ IntKind.i8.wrap x ∧ IntKind.i8.wrap x ≤ 127 := by
  simp only [IntKind.wrap, IntKind.bits, IntKind.signed]
  simp
  omega
theorem i64_idD (x : Int) (h1 : -9223372036854775808 ≤ x) (h2 : x ≤ 9223372036854775807) : IntKind.i64.wrap x = x := by
  simp only [IntKind.wrap, IntKind.bits, IntKind.signed]
  simp
  omega
theorem word_of {x : Int} (h : (x == IntKind.i64.wrap (IntKind.i32.wrap x)) = true) : -2147483648 ≤ x ∧ x ≤ 2147483647 := by
  have h1 := i32_rng x
  have h2 : x = IntKind.i64.wrap (IntKind.i32.wrap x) := eq_of_beq h
  rw [i64_idD _ (by omega) (by omega)] at h2
  omega
theorem byte_of {x : Int} (h : (x == IntKind.i32.wrap (IntKind.i8.wrap x)) = true) : -128 ≤ x ∧ x ≤ 127 := by
  have h1 := i8_rng x
  have h2 : x = IntKind.i32.wrap (IntKind.i8.wrap x) := eq_of_beq h
  rw [i32_id _ (by omega) (by omega)] at h2
  omega
theorem imm4 (x : Int) : ∃ a b c d, immR x 4 = [a, b, c, d] := ⟨_, _, _, _, rfl⟩
theorem imm1 (x : Int) : ∃ a, immR x 1 = [a] := ⟨_, rfl⟩
theorem imm8 (x : Int) : ∃ a b c d e f g h, immR x 8 = [a, b, c, d, e, f, g, h] := ⟨_, _, _, _, _, _, _, _, rfl⟩
theorem v4 {x : Int} {a b c d : UInt8} (e : immR x 4 = [a, b, c, d]) (h : -2147483648 ≤ x ∧ x ≤ 2147483647) : sgV 32 [iv a, iv b, iv c, iv d] = x := by
  have := sg4 x h.1 h.2
  rw [e] at this
  exact this
theorem v1 {x : Int} {a : UInt8} (e : immR x 1 = [a]) (h : -128 ≤ x ∧ x ≤ 127) : sgV 8 [iv a] = x := by
  have := sg1 x h.1 h.2
  rw [e] at this
  exact this
theorem v8 {x : Int} {a b c d f g h i : UInt8} (e : immR x 8 = [a, b, c, d, f, g, h, i]) (hr : -9223372036854775808 ≤ x ∧ x ≤ 9223372036854775807) : sgV 64 [iv a, iv b, iv c, iv d, iv f, iv g, iv h, iv i] = x := by
  have := sg8 x hr.1 hr.2
  rw [e] at this
  exact this
theorem re1 (al co si : Int) (wi sh : Bool) (ds sr dp re im : Int) (hv : vP1 al co si wi sh ds sr dp re im = true) (t : List UInt8) (hre : -2147483648 ≤ re ∧ re ≤ 2147483647) (hdp : -2147483648 ≤ dp ∧ dp ≤ 2147483647) (him : -9223372036854775808 ≤ im ∧ im ≤ 9223372036854775807) : readB (bf (encS1 al co si wi sh ds sr dp re im ++ t)) = (⟨1, al, co, si, wi, sh, ds, sr, dp, re, im⟩ : XX) := by
  have hA := andL hv
  have hR := andL (andR hv)
  have hD := andL hR
  have hS := andR hR
  have hC := andL (andR (andR hv))
  have hN := andR (andR (andR hv))
  obtain rfl : al = 0 := eq_of_beq (α := Int) (andL (andR hA))
  obtain rfl : co = 0 := eq_of_beq (α := Int) (andL (andR (andR hA)))
  obtain rfl : si = 0 := eq_of_beq (α := Int) (andL (andR (andR (andR hA))))
  obtain rfl : sh = false := eq_of_beq (α := Bool) (andL (andR (andR (andR (andR (andR hA))))))
  obtain rfl : dp = 0 := eq_of_beq (α := Int) (andL (andR (andR (andR (andR (andR (andR (andR (andR hA)))))))))
  obtain rfl : re = 0 := eq_of_beq (α := Int) (andL (andR (andR (andR (andR (andR (andR (andR (andR (andR hA))))))))))
  obtain rfl : im = 0 := eq_of_beq (α := Int) (andL (andR (andR (andR (andR (andR (andR (andR (andR (andR (andR hA)))))))))))
  exact List.map_inj_left.1 (rd1 t wi) (ds, sr) (rg2_mem (rg_mem hD) (rg_mem hS))
theorem re2 (al co si : Int) (wi sh : Bool) (ds sr dp re im : Int) (hv : vP2 al co si wi sh ds sr dp re im = true) (t : List UInt8) (hre : -2147483648 ≤ re ∧ re ≤ 2147483647) (hdp : -2147483648 ≤ dp ∧ dp ≤ 2147483647) (him : -9223372036854775808 ≤ im ∧ im ≤ 9223372036854775807) : readB (bf (encS2 al co si wi sh ds sr dp re im ++ t)) = (⟨2, al, co, si, wi, sh, ds, sr, dp, re, im⟩ : XX) := by
  have hA := andL hv
  have hR := andL (andR hv)
  have hD := andL hR
  have hS := andR hR
  have hC := andL (andR (andR hv))
  have hN := andR (andR (andR hv))
  obtain rfl : al = 0 := eq_of_beq (α := Int) (andL (andR hA))
  obtain rfl : co = 0 := eq_of_beq (α := Int) (andL (andR (andR hA)))
  obtain rfl : si = 0 := eq_of_beq (α := Int) (andL (andR (andR (andR hA))))
  obtain rfl : sh = false := eq_of_beq (α := Bool) (andL (andR (andR (andR (andR (andR hA))))))
  obtain rfl : sr = 0 := eq_of_beq (α := Int) (andL (andR (andR (andR (andR (andR (andR (andR hA))))))))
  obtain rfl : dp = 0 := eq_of_beq (α := Int) (andL (andR (andR (andR (andR (andR (andR (andR (andR hA)))))))))
  obtain rfl : re = 0 := eq_of_beq (α := Int) (andL (andR (andR (andR (andR (andR (andR (andR (andR (andR hA))))))))))
  obtain rfl : wi = true := hC
  obtain ⟨a, b, c, d, h4⟩ := imm4 im
  unfold encS2
  rw [h4]
  refine (List.map_inj_left.1 (rd2 a b c d t) ds (rg_mem hD)).trans ?_
  rw [v4 h4 (word_of hN)]
theorem re3 (al co si : Int) (wi sh : Bool) (ds sr dp re im : Int) (hv : vP3 al co si wi sh ds sr dp re im = true) (t : List UInt8) (hre : -2147483648 ≤ re ∧ re ≤ 2147483647) (hdp : -2147483648 ≤ dp ∧ dp ≤ 2147483647) (him : -9223372036854775808 ≤ im ∧ im ≤ 9223372036854775807) : readB (bf (encS3 al co si wi sh ds sr dp re im ++ t)) = (⟨3, al, co, si, wi, sh, ds, sr, dp, re, im⟩ : XX) := by
  have hA := andL hv
  have hR := andL (andR hv)
  have hD := andL hR
  have hS := andR hR
  have hC := andL (andR (andR hv))
  have hN := andR (andR (andR hv))
  obtain rfl : al = 0 := eq_of_beq (α := Int) (andL (andR hA))
  obtain rfl : co = 0 := eq_of_beq (α := Int) (andL (andR (andR hA)))
  obtain rfl : si = 0 := eq_of_beq (α := Int) (andL (andR (andR (andR hA))))
  obtain rfl : sh = false := eq_of_beq (α := Bool) (andL (andR (andR (andR (andR (andR hA))))))
  obtain rfl : sr = 0 := eq_of_beq (α := Int) (andL (andR (andR (andR (andR (andR (andR (andR hA))))))))
  obtain rfl : dp = 0 := eq_of_beq (α := Int) (andL (andR (andR (andR (andR (andR (andR (andR (andR hA)))))))))
  obtain rfl : re = 0 := eq_of_beq (α := Int) (andL (andR (andR (andR (andR (andR (andR (andR (andR (andR hA))))))))))
  obtain rfl : wi = true := hC
  obtain ⟨a, b, c, d, e, f, g, h, h8⟩ := imm8 im
  unfold encS3
  rw [h8]
  refine (List.map_inj_left.1 (rd3 a b c d e f g h t) ds (rg_mem hD)).trans ?_
  rw [v8 h8 him]
theorem re4 (al co si : Int) (wi sh : Bool) (ds sr dp re im : Int) (hv : vP4 al co si wi sh ds sr dp re im = true) (t : List UInt8) (hre : -2147483648 ≤ re ∧ re ≤ 2147483647) (hdp : -2147483648 ≤ dp ∧ dp ≤ 2147483647) (him : -9223372036854775808 ≤ im ∧ im ≤ 9223372036854775807) : readB (bf (encS4 al co si wi sh ds sr dp re im ++ t)) = (⟨4, al, co, si, wi, sh, ds, sr, dp, re, im⟩ : XX) := by
  have hA := andL hv
  have hR := andL (andR hv)
  have hD := andL hR
  have hS := andR hR
  have hC := andL (andR (andR hv))
  have hN := andR (andR (andR hv))
  obtain rfl : co = 0 := eq_of_beq (α := Int) (andL (andR (andR hA)))
  obtain rfl : si = 0 := eq_of_beq (α := Int) (andL (andR (andR (andR hA))))
  obtain rfl : sh = false := eq_of_beq (α := Bool) (andL (andR (andR (andR (andR (andR hA))))))
  obtain rfl : dp = 0 := eq_of_beq (α := Int) (andL (andR (andR (andR (andR (andR (andR (andR (andR hA)))))))))
  obtain rfl : re = 0 := eq_of_beq (α := Int) (andL (andR (andR (andR (andR (andR (andR (andR (andR (andR hA))))))))))
  obtain rfl : im = 0 := eq_of_beq (α := Int) (andL (andR (andR (andR (andR (andR (andR (andR (andR (andR (andR hA)))))))))))
  exact List.map_inj_left.1 (rd4 t al hC wi) (ds, sr) (rg2_mem (rg_mem hD) (rg_mem hS))
theorem re5 (al co si : Int) (wi sh : Bool) (ds sr dp re im : Int) (hv : vP5 al co si wi sh ds sr dp re im = true) (t : List UInt8) (hre : -2147483648 ≤ re ∧ re ≤ 2147483647) (hdp : -2147483648 ≤ dp ∧ dp ≤ 2147483647) (him : -9223372036854775808 ≤ im ∧ im ≤ 9223372036854775807) : readB (bf (encS5 al co si wi sh ds sr dp re im ++ t)) = (⟨5, al, co, si, wi, sh, ds, sr, dp, re, im⟩ : XX) := by
  have hA := andL hv
  have hR := andL (andR hv)
  have hD := andL hR
  have hS := andR hR
  have hC := andL (andR (andR hv))
  have hN := andR (andR (andR hv))
  obtain rfl : co = 0 := eq_of_beq (α := Int) (andL (andR (andR hA)))
  obtain rfl : si = 0 := eq_of_beq (α := Int) (andL (andR (andR (andR hA))))
  obtain rfl : sh = false := eq_of_beq (α := Bool) (andL (andR (andR (andR (andR (andR hA))))))
  obtain rfl : sr = 0 := eq_of_beq (α := Int) (andL (andR (andR (andR (andR (andR (andR (andR hA))))))))
  obtain rfl : dp = 0 := eq_of_beq (α := Int) (andL (andR (andR (andR (andR (andR (andR (andR (andR hA)))))))))
  obtain rfl : re = 0 := eq_of_beq (α := Int) (andL (andR (andR (andR (andR (andR (andR (andR (andR (andR hA))))))))))
  obtain ⟨a, b, c, d, h4⟩ := imm4 im
  unfold encS5
  rw [h4]
  refine (List.map_inj_left.1 (rd5 a b c d t al hC wi) ds (rg_mem hD)).trans ?_
  rw [v4 h4 (word_of hN)]
theorem re6 (al co si : Int) (wi sh : Bool) (ds sr dp re im : Int) (hv : vP6 al co si wi sh ds sr dp re im = true) (t : List UInt8) (hre : -2147483648 ≤ re ∧ re ≤ 2147483647) (hdp : -2147483648 ≤ dp ∧ dp ≤ 2147483647) (him : -9223372036854775808 ≤ im ∧ im ≤ 9223372036854775807) : readB (bf (encS6 al co si wi sh ds sr dp re im ++ t)) = (⟨6, al, co, si, wi, sh, ds, sr, dp, re, im⟩ : XX) := by
  have hA := andL hv
  have hR := andL (andR hv)
  have hD := andL hR
  have hS := andR hR
  have hC := andL (andR (andR hv))
  have hN := andR (andR (andR hv))
  obtain rfl : al = 0 := eq_of_beq (α := Int) (andL (andR hA))
  obtain rfl : co = 0 := eq_of_beq (α := Int) (andL (andR (andR hA)))
  obtain rfl : si = 0 := eq_of_beq (α := Int) (andL (andR (andR (andR hA))))
  obtain rfl : sh = false := eq_of_beq (α := Bool) (andL (andR (andR (andR (andR (andR hA))))))
  obtain rfl : dp = 0 := eq_of_beq (α := Int) (andL (andR (andR (andR (andR (andR (andR (andR (andR hA)))))))))
  obtain rfl : re = 0 := eq_of_beq (α := Int) (andL (andR (andR (andR (andR (andR (andR (andR (andR (andR hA))))))))))
  obtain rfl : im = 0 := eq_of_beq (α := Int) (andL (andR (andR (andR (andR (andR (andR (andR (andR (andR (andR hA)))))))))))
  exact List.map_inj_left.1 (rd6 t wi) (ds, sr) (rg2_mem (rg_mem hD) (rg_mem hS))
theorem re7 (al co si : Int) (wi sh : Bool) (ds sr dp re im : Int) (hv : vP7 al co si wi sh ds sr dp re im = true) (t : List UInt8) (hre : -2147483648 ≤ re ∧ re ≤ 2147483647) (hdp : -2147483648 ≤ dp ∧ dp ≤ 2147483647) (him : -9223372036854775808 ≤ im ∧ im ≤ 9223372036854775807) : readB (bf (encS7 al co si wi sh ds sr dp re im ++ t)) = (⟨7, al, co, si, wi, sh, ds, sr, dp, re, im⟩ : XX) := by
  have hA := andL hv
  have hR := andL (andR hv)
  have hD := andL hR
  have hS := andR hR
  have hC := andL (andR (andR hv))
  have hN := andR (andR (andR hv))
  obtain rfl : al = 0 := eq_of_beq (α := Int) (andL (andR hA))
  obtain rfl : co = 0 := eq_of_beq (α := Int) (andL (andR (andR hA)))
  obtain rfl : si = 0 := eq_of_beq (α := Int) (andL (andR (andR (andR hA))))
  obtain rfl : sh = false := eq_of_beq (α := Bool) (andL (andR (andR (andR (andR (andR hA))))))
  obtain rfl : sr = 0 := eq_of_beq (α := Int) (andL (andR (andR (andR (andR (andR (andR (andR hA))))))))
  obtain rfl : dp = 0 := eq_of_beq (α := Int) (andL (andR (andR (andR (andR (andR (andR (andR (andR hA)))))))))
  obtain rfl : re = 0 := eq_of_beq (α := Int) (andL (andR (andR (andR (andR (andR (andR (andR (andR (andR hA))))))))))
  obtain rfl : im = 0 := eq_of_beq (α := Int) (andL (andR (andR (andR (andR (andR (andR (andR (andR (andR (andR hA)))))))))))
  exact List.map_inj_left.1 (rd7 t wi) ds (rg_mem hD)
theorem re8 (al co si : Int) (wi sh : Bool) (ds sr dp re im : Int) (hv : vP8 al co si wi sh ds sr dp re im = true) (t : List UInt8) (hre : -2147483648 ≤ re ∧ re ≤ 2147483647) (hdp : -2147483648 ≤ dp ∧ dp ≤ 2147483647) (him : -9223372036854775808 ≤ im ∧ im ≤ 9223372036854775807) : readB (bf (encS8 al co si wi sh ds sr dp re im ++ t)) = (⟨8, al, co, si, wi, sh, ds, sr, dp, re, im⟩ : XX) := by
  have hA := andL hv
  have hR := andL (andR hv)
  have hD := andL hR
  have hS := andR hR
  have hC := andL (andR (andR hv))
  have hN := andR (andR (andR hv))
  obtain rfl : al = 0 := eq_of_beq (α := Int) (andL (andR hA))
  obtain rfl : co = 0 := eq_of_beq (α := Int) (andL (andR (andR hA)))
  obtain rfl : si = 0 := eq_of_beq (α := Int) (andL (andR (andR (andR hA))))
  obtain rfl : sh = false := eq_of_beq (α := Bool) (andL (andR (andR (andR (andR (andR hA))))))
  obtain rfl : sr = 0 := eq_of_beq (α := Int) (andL (andR (andR (andR (andR (andR (andR (andR hA))))))))
  obtain rfl : dp = 0 := eq_of_beq (α := Int) (andL (andR (andR (andR (andR (andR (andR (andR (andR hA)))))))))
  obtain rfl : re = 0 := eq_of_beq (α := Int) (andL (andR (andR (andR (andR (andR (andR (andR (andR (andR hA))))))))))
  obtain rfl : im = 0 := eq_of_beq (α := Int) (andL (andR (andR (andR (andR (andR (andR (andR (andR (andR (andR hA)))))))))))
  exact List.map_inj_left.1 (rd8 t wi) ds (rg_mem hD)
theorem re9 (al co si : Int) (wi sh : Bool) (ds sr dp re im : Int) (hv : vP9 al co si wi sh ds sr dp re im = true) (t : List UInt8) (hre : -2147483648 ≤ re ∧ re ≤ 2147483647) (hdp : -2147483648 ≤ dp ∧ dp ≤ 2147483647) (him : -9223372036854775808 ≤ im ∧ im ≤ 9223372036854775807) : readB (bf (encS9 al co si wi sh ds sr dp re im ++ t)) = (⟨9, al, co, si, wi, sh, ds, sr, dp, re, im⟩ : XX) := by
  have hA := andL hv
  have hR := andL (andR hv)
  have hD := andL hR
  have hS := andR hR
  have hC := andL (andR (andR hv))
  have hN := andR (andR (andR hv))
  obtain rfl : al = 0 := eq_of_beq (α := Int) (andL (andR hA))
  obtain rfl : co = 0 := eq_of_beq (α := Int) (andL (andR (andR hA)))
  obtain rfl : si = 0 := eq_of_beq (α := Int) (andL (andR (andR (andR hA))))
  obtain rfl : sh = false := eq_of_beq (α := Bool) (andL (andR (andR (andR (andR (andR hA))))))
  obtain rfl : sr = 0 := eq_of_beq (α := Int) (andL (andR (andR (andR (andR (andR (andR (andR hA))))))))
  obtain rfl : dp = 0 := eq_of_beq (α := Int) (andL (andR (andR (andR (andR (andR (andR (andR (andR hA)))))))))
  obtain rfl : re = 0 := eq_of_beq (α := Int) (andL (andR (andR (andR (andR (andR (andR (andR (andR (andR hA))))))))))
  obtain rfl : im = 0 := eq_of_beq (α := Int) (andL (andR (andR (andR (andR (andR (andR (andR (andR (andR (andR hA)))))))))))
  exact List.map_inj_left.1 (rd9 t wi) ds (rg_mem hD)
theorem re10 (al co si : Int) (wi sh : Bool) (ds sr dp re im : Int) (hv : vP10 al co si wi sh ds sr dp re im = true) (t : List UInt8) (hre : -2147483648 ≤ re ∧ re ≤ 2147483647) (hdp : -2147483648 ≤ dp ∧ dp ≤ 2147483647) (him : -9223372036854775808 ≤ im ∧ im ≤ 9223372036854775807) : readB (bf (encS10 al co si wi sh ds sr dp re im ++ t)) = (⟨10, al, co, si, wi, sh, ds, sr, dp, re, im⟩ : XX) := by
  have hA := andL hv
  have hR := andL (andR hv)
  have hD := andL hR
  have hS := andR hR
  have hC := andL (andR (andR hv))
  have hN := andR (andR (andR hv))
  obtain rfl : al = 0 := eq_of_beq (α := Int) (andL (andR hA))
  obtain rfl : co = 0 := eq_of_beq (α := Int) (andL (andR (andR hA)))
  obtain rfl : si = 0 := eq_of_beq (α := Int) (andL (andR (andR (andR hA))))
  obtain rfl : sh = false := eq_of_beq (α := Bool) (andL (andR (andR (andR (andR (andR hA))))))
  obtain rfl : dp = 0 := eq_of_beq (α := Int) (andL (andR (andR (andR (andR (andR (andR (andR (andR hA)))))))))
  obtain rfl : re = 0 := eq_of_beq (α := Int) (andL (andR (andR (andR (andR (andR (andR (andR (andR (andR hA))))))))))
  obtain rfl : im = 0 := eq_of_beq (α := Int) (andL (andR (andR (andR (andR (andR (andR (andR (andR (andR (andR hA)))))))))))
  exact List.map_inj_left.1 (rd10 t wi) (ds, sr) (rg2_mem (rg_mem hD) (rg_mem hS))
theorem re11 (al co si : Int) (wi sh : Bool) (ds sr dp re im : Int) (hv : vP11 al co si wi sh ds sr dp re im = true) (t : List UInt8) (hre : -2147483648 ≤ re ∧ re ≤ 2147483647) (hdp : -2147483648 ≤ dp ∧ dp ≤ 2147483647) (him : -9223372036854775808 ≤ im ∧ im ≤ 9223372036854775807) : readB (bf (encS11 al co si wi sh ds sr dp re im ++ t)) = (⟨11, al, co, si, wi, sh, ds, sr, dp, re, im⟩ : XX) := by
  have hA := andL hv
  have hR := andL (andR hv)
  have hD := andL hR
  have hS := andR hR
  have hC := andL (andR (andR hv))
  have hN := andR (andR (andR hv))
  obtain rfl : co = 0 := eq_of_beq (α := Int) (andL (andR (andR hA)))
  obtain rfl : si = 0 := eq_of_beq (α := Int) (andL (andR (andR (andR hA))))
  obtain rfl : sh = false := eq_of_beq (α := Bool) (andL (andR (andR (andR (andR (andR hA))))))
  obtain rfl : sr = 0 := eq_of_beq (α := Int) (andL (andR (andR (andR (andR (andR (andR (andR hA))))))))
  obtain rfl : dp = 0 := eq_of_beq (α := Int) (andL (andR (andR (andR (andR (andR (andR (andR (andR hA)))))))))
  obtain rfl : re = 0 := eq_of_beq (α := Int) (andL (andR (andR (andR (andR (andR (andR (andR (andR (andR hA))))))))))
  have hi : -128 ≤ im ∧ im ≤ 127 := by
    simp only [shiftS, Bool.and_eq_true, Bool.or_eq_true, decide_eq_true_eq] at hN
    omega
  obtain ⟨a, h1⟩ := imm1 im
  unfold encS11
  rw [h1]
  refine (List.map_inj_left.1 (rd11 a t al hC wi) ds (rg_mem hD)).trans ?_
  rw [v1 h1 hi]
theorem re12 (al co si : Int) (wi sh : Bool) (ds sr dp re im : Int) (hv : vP12 al co si wi sh ds sr dp re im = true) (t : List UInt8) (hre : -2147483648 ≤ re ∧ re ≤ 2147483647) (hdp : -2147483648 ≤ dp ∧ dp ≤ 2147483647) (him : -9223372036854775808 ≤ im ∧ im ≤ 9223372036854775807) : readB (bf (encS12 al co si wi sh ds sr dp re im ++ t)) = (⟨12, al, co, si, wi, sh, ds, sr, dp, re, im⟩ : XX) := by
  have hA := andL hv
  have hR := andL (andR hv)
  have hD := andL hR
  have hS := andR hR
  have hC := andL (andR (andR hv))
  have hN := andR (andR (andR hv))
  obtain rfl : co = 0 := eq_of_beq (α := Int) (andL (andR (andR hA)))
  obtain rfl : si = 0 := eq_of_beq (α := Int) (andL (andR (andR (andR hA))))
  obtain rfl : sh = false := eq_of_beq (α := Bool) (andL (andR (andR (andR (andR (andR hA))))))
  obtain rfl : sr = 0 := eq_of_beq (α := Int) (andL (andR (andR (andR (andR (andR (andR (andR hA))))))))
  obtain rfl : dp = 0 := eq_of_beq (α := Int) (andL (andR (andR (andR (andR (andR (andR (andR (andR hA)))))))))
  obtain rfl : re = 0 := eq_of_beq (α := Int) (andL (andR (andR (andR (andR (andR (andR (andR (andR (andR hA))))))))))
  obtain rfl : im = 0 := eq_of_beq (α := Int) (andL (andR (andR (andR (andR (andR (andR (andR (andR (andR (andR hA)))))))))))
  exact List.map_inj_left.1 (rd12 t al hC wi) ds (rg_mem hD)
theorem re13 (al co si : Int) (wi sh : Bool) (ds sr dp re im : Int) (hv : vP13 al co si wi sh ds sr dp re im = true) (t : List UInt8) (hre : -2147483648 ≤ re ∧ re ≤ 2147483647) (hdp : -2147483648 ≤ dp ∧ dp ≤ 2147483647) (him : -9223372036854775808 ≤ im ∧ im ≤ 9223372036854775807) : readB (bf (encS13 al co si wi sh ds sr dp re im ++ t)) = (⟨13, al, co, si, wi, sh, ds, sr, dp, re, im⟩ : XX) := by
  have hA := andL hv
  have hR := andL (andR hv)
  have hD := andL hR
  have hS := andR hR
  have hC := andL (andR (andR hv))
  have hN := andR (andR (andR hv))
  obtain rfl : al = 0 := eq_of_beq (α := Int) (andL (andR hA))
  obtain rfl : co = 0 := eq_of_beq (α := Int) (andL (andR (andR hA)))
  obtain rfl : sh = false := eq_of_beq (α := Bool) (andL (andR (andR (andR (andR (andR hA))))))
  obtain rfl : re = 0 := eq_of_beq (α := Int) (andL (andR (andR (andR (andR (andR (andR (andR (andR (andR hA))))))))))
  obtain rfl : im = 0 := eq_of_beq (α := Int) (andL (andR (andR (andR (andR (andR (andR (andR (andR (andR (andR hA)))))))))))
  have hz := andL hC
  obtain rfl : wi = (si == 8) := eq_of_beq (α := Bool) (andR hC)
  obtain ⟨a, b, c, d, h4⟩ := imm4 dp
  unfold encS13
  rw [h4]
  refine (List.map_inj_left.1 (rd13 a b c d t si hz) (ds, sr) (rg2_mem (rg_mem hD) (rg_mem hS))).trans ?_
  rw [v4 h4 hdp, i32_id dp hdp.1 hdp.2]
theorem re14 (al co si : Int) (wi sh : Bool) (ds sr dp re im : Int) (hv : vP14 al co si wi sh ds sr dp re im = true) (t : List UInt8) (hre : -2147483648 ≤ re ∧ re ≤ 2147483647) (hdp : -2147483648 ≤ dp ∧ dp ≤ 2147483647) (him : -9223372036854775808 ≤ im ∧ im ≤ 9223372036854775807) : readB (bf (encS14 al co si wi sh ds sr dp re im ++ t)) = (⟨14, al, co, si, wi, sh, ds, sr, dp, re, im⟩ : XX) := by
  have hA := andL hv
  have hR := andL (andR hv)
  have hD := andL hR
  have hS := andR hR
  have hC := andL (andR (andR hv))
  have hN := andR (andR (andR hv))
  obtain rfl : al = 0 := eq_of_beq (α := Int) (andL (andR hA))
  obtain rfl : co = 0 := eq_of_beq (α := Int) (andL (andR (andR hA)))
  obtain rfl : sh = false := eq_of_beq (α := Bool) (andL (andR (andR (andR (andR (andR hA))))))
  obtain rfl : re = 0 := eq_of_beq (α := Int) (andL (andR (andR (andR (andR (andR (andR (andR (andR (andR hA))))))))))
  obtain rfl : im = 0 := eq_of_beq (α := Int) (andL (andR (andR (andR (andR (andR (andR (andR (andR (andR (andR hA)))))))))))
  have hz := andL hC
  obtain rfl : wi = (si == 8) := eq_of_beq (α := Bool) (andR hC)
  obtain ⟨a, b, c, d, h4⟩ := imm4 dp
  unfold encS14
  rw [h4]
  refine (List.map_inj_left.1 (rd14 a b c d t si hz) (ds, sr) (rg2_mem (rg_mem hD) (rg_mem hS))).trans ?_
  rw [v4 h4 hdp, i32_id dp hdp.1 hdp.2]
theorem re15 (al co si : Int) (wi sh : Bool) (ds sr dp re im : Int) (hv : vP15 al co si wi sh ds sr dp re im = true) (t : List UInt8) (hre : -2147483648 ≤ re ∧ re ≤ 2147483647) (hdp : -2147483648 ≤ dp ∧ dp ≤ 2147483647) (him : -9223372036854775808 ≤ im ∧ im ≤ 9223372036854775807) : readB (bf (encS15 al co si wi sh ds sr dp re im ++ t)) = (⟨15, al, co, si, wi, sh, ds, sr, dp, re, im⟩ : XX) := by
  have hA := andL hv
  have hR := andL (andR hv)
  have hD := andL hR
  have hS := andR hR
  have hC := andL (andR (andR hv))
  have hN := andR (andR (andR hv))
  obtain rfl : al = 0 := eq_of_beq (α := Int) (andL (andR hA))
  obtain rfl : co = 0 := eq_of_beq (α := Int) (andL (andR (andR hA)))
  obtain rfl : si = 0 := eq_of_beq (α := Int) (andL (andR (andR (andR hA))))
  obtain rfl : wi = false := eq_of_beq (α := Bool) (andL (andR (andR (andR (andR hA)))))
  obtain rfl : ds = 0 := eq_of_beq (α := Int) (andL (andR (andR (andR (andR (andR (andR hA)))))))
  obtain rfl : sr = 0 := eq_of_beq (α := Int) (andL (andR (andR (andR (andR (andR (andR (andR hA))))))))
  obtain rfl : dp = 0 := eq_of_beq (α := Int) (andL (andR (andR (andR (andR (andR (andR (andR (andR hA)))))))))
  obtain rfl : im = 0 := eq_of_beq (α := Int) (andL (andR (andR (andR (andR (andR (andR (andR (andR (andR (andR hA)))))))))))
  unfold encS15
  cases sh
  · obtain ⟨a, b, c, d, h4⟩ := imm4 re
    rw [h4]
    refine (rd15 a b c d t).trans ?_
    rw [v4 h4 hre, i32_id re hre.1 hre.2]
  · have hb := byte_of (x := re) (by simpa using hN)
    obtain ⟨a, h1⟩ := imm1 re
    rw [h1]
    refine (rd15s a t).trans ?_
    rw [v1 h1 hb, i32_id re hre.1 hre.2]
theorem re16 (al co si : Int) (wi sh : Bool) (ds sr dp re im : Int) (hv : vP16 al co si wi sh ds sr dp re im = true) (t : List UInt8) (hre : -2147483648 ≤ re ∧ re ≤ 2147483647) (hdp : -2147483648 ≤ dp ∧ dp ≤ 2147483647) (him : -9223372036854775808 ≤ im ∧ im ≤ 9223372036854775807) : readB (bf (encS16 al co si wi sh ds sr dp re im ++ t)) = (⟨16, al, co, si, wi, sh, ds, sr, dp, re, im⟩ : XX) := by
  have hA := andL hv
  have hR := andL (andR hv)
  have hD := andL hR
  have hS := andR hR
  have hC := andL (andR (andR hv))
  have hN := andR (andR (andR hv))
  obtain rfl : al = 0 := eq_of_beq (α := Int) (andL (andR hA))
  obtain rfl : si = 0 := eq_of_beq (α := Int) (andL (andR (andR (andR hA))))
  obtain rfl : wi = false := eq_of_beq (α := Bool) (andL (andR (andR (andR (andR hA)))))
  obtain rfl : ds = 0 := eq_of_beq (α := Int) (andL (andR (andR (andR (andR (andR (andR hA)))))))
  obtain rfl : sr = 0 := eq_of_beq (α := Int) (andL (andR (andR (andR (andR (andR (andR (andR hA))))))))
  obtain rfl : dp = 0 := eq_of_beq (α := Int) (andL (andR (andR (andR (andR (andR (andR (andR (andR hA)))))))))
  obtain rfl : im = 0 := eq_of_beq (α := Int) (andL (andR (andR (andR (andR (andR (andR (andR (andR (andR (andR hA)))))))))))
  unfold encS16
  cases sh
  · obtain ⟨a, b, c, d, h4⟩ := imm4 re
    rw [h4]
    refine (List.map_inj_left.1 (rd16 a b c d t) co (cc_mem hC)).trans ?_
    rw [v4 h4 hre, i32_id re hre.1 hre.2]
  · have hb := byte_of (x := re) (by simpa using hN)
    obtain ⟨a, h1⟩ := imm1 re
    rw [h1]
    refine (List.map_inj_left.1 (rd16s a t) co (cc_mem hC)).trans ?_
    rw [v1 h1 hb, i32_id re hre.1 hre.2]
theorem re17 (al co si : Int) (wi sh : Bool) (ds sr dp re im : Int) (hv : vP17 al co si wi sh ds sr dp re im = true) (t : List UInt8) (hre : -2147483648 ≤ re ∧ re ≤ 2147483647) (hdp : -2147483648 ≤ dp ∧ dp ≤ 2147483647) (him : -9223372036854775808 ≤ im ∧ im ≤ 9223372036854775807) : readB (bf (encS17 al co si wi sh ds sr dp re im ++ t)) = (⟨17, al, co, si, wi, sh, ds, sr, dp, re, im⟩ : XX) := by
  have hA := andL hv
  have hR := andL (andR hv)
  have hD := andL hR
  have hS := andR hR
  have hC := andL (andR (andR hv))
  have hN := andR (andR (andR hv))
  obtain rfl : al = 0 := eq_of_beq (α := Int) (andL (andR hA))
  obtain rfl : co = 0 := eq_of_beq (α := Int) (andL (andR (andR hA)))
  obtain rfl : si = 0 := eq_of_beq (α := Int) (andL (andR (andR (andR hA))))
  obtain rfl : wi = false := eq_of_beq (α := Bool) (andL (andR (andR (andR (andR hA)))))
  obtain rfl : sh = false := eq_of_beq (α := Bool) (andL (andR (andR (andR (andR (andR hA))))))
  obtain rfl : sr = 0 := eq_of_beq (α := Int) (andL (andR (andR (andR (andR (andR (andR (andR hA))))))))
  obtain rfl : dp = 0 := eq_of_beq (α := Int) (andL (andR (andR (andR (andR (andR (andR (andR (andR hA)))))))))
  obtain rfl : re = 0 := eq_of_beq (α := Int) (andL (andR (andR (andR (andR (andR (andR (andR (andR (andR hA))))))))))
  obtain rfl : im = 0 := eq_of_beq (α := Int) (andL (andR (andR (andR (andR (andR (andR (andR (andR (andR (andR hA)))))))))))
  exact List.map_inj_left.1 (rd17 t) ds (rg_mem hD)
theorem re18 (al co si : Int) (wi sh : Bool) (ds sr dp re im : Int) (hv : vP18 al co si wi sh ds sr dp re im = true) (t : List UInt8) (hre : -2147483648 ≤ re ∧ re ≤ 2147483647) (hdp : -2147483648 ≤ dp ∧ dp ≤ 2147483647) (him : -9223372036854775808 ≤ im ∧ im ≤ 9223372036854775807) : readB (bf (encS18 al co si wi sh ds sr dp re im ++ t)) = (⟨18, al, co, si, wi, sh, ds, sr, dp, re, im⟩ : XX) := by
  have hA := andL hv
  have hR := andL (andR hv)
  have hD := andL hR
  have hS := andR hR
  have hC := andL (andR (andR hv))
  have hN := andR (andR (andR hv))
  obtain rfl : al = 0 := eq_of_beq (α := Int) (andL (andR hA))
  obtain rfl : co = 0 := eq_of_beq (α := Int) (andL (andR (andR hA)))
  obtain rfl : si = 0 := eq_of_beq (α := Int) (andL (andR (andR (andR hA))))
  obtain rfl : wi = false := eq_of_beq (α := Bool) (andL (andR (andR (andR (andR hA)))))
  obtain rfl : sh = false := eq_of_beq (α := Bool) (andL (andR (andR (andR (andR (andR hA))))))
  obtain rfl : sr = 0 := eq_of_beq (α := Int) (andL (andR (andR (andR (andR (andR (andR (andR hA))))))))
  obtain rfl : dp = 0 := eq_of_beq (α := Int) (andL (andR (andR (andR (andR (andR (andR (andR (andR hA)))))))))
  obtain rfl : re = 0 := eq_of_beq (α := Int) (andL (andR (andR (andR (andR (andR (andR (andR (andR (andR hA))))))))))
  obtain rfl : im = 0 := eq_of_beq (α := Int) (andL (andR (andR (andR (andR (andR (andR (andR (andR (andR (andR hA)))))))))))
  exact List.map_inj_left.1 (rd18 t) ds (rg_mem hD)
theorem re19 (al co si : Int) (wi sh : Bool) (ds sr dp re im : Int) (hv : vP19 al co si wi sh ds sr dp re im = true) (t : List UInt8) (hre : -2147483648 ≤ re ∧ re ≤ 2147483647) (hdp : -2147483648 ≤ dp ∧ dp ≤ 2147483647) (him : -9223372036854775808 ≤ im ∧ im ≤ 9223372036854775807) : readB (bf (encS19 al co si wi sh ds sr dp re im ++ t)) = (⟨19, al, co, si, wi, sh, ds, sr, dp, re, im⟩ : XX) := by
  have hA := andL hv
  have hR := andL (andR hv)
  have hD := andL hR
  have hS := andR hR
  have hC := andL (andR (andR hv))
  have hN := andR (andR (andR hv))
  obtain rfl : al = 0 := eq_of_beq (α := Int) (andL (andR hA))
  obtain rfl : co = 0 := eq_of_beq (α := Int) (andL (andR (andR hA)))
  obtain rfl : si = 0 := eq_of_beq (α := Int) (andL (andR (andR (andR hA))))
  obtain rfl : wi = false := eq_of_beq (α := Bool) (andL (andR (andR (andR (andR hA)))))
  obtain rfl : sh = false := eq_of_beq (α := Bool) (andL (andR (andR (andR (andR (andR hA))))))
  obtain rfl : ds = 0 := eq_of_beq (α := Int) (andL (andR (andR (andR (andR (andR (andR hA)))))))
  obtain rfl : sr = 0 := eq_of_beq (α := Int) (andL (andR (andR (andR (andR (andR (andR (andR hA))))))))
  obtain rfl : dp = 0 := eq_of_beq (α := Int) (andL (andR (andR (andR (andR (andR (andR (andR (andR hA)))))))))
  obtain rfl : re = 0 := eq_of_beq (α := Int) (andL (andR (andR (andR (andR (andR (andR (andR (andR (andR hA))))))))))
  obtain rfl : im = 0 := eq_of_beq (α := Int) (andL (andR (andR (andR (andR (andR (andR (andR (andR (andR (andR hA)))))))))))
  exact rd19 t
theorem re20 (al co si : Int) (wi sh : Bool) (ds sr dp re im : Int) (hv : vP20 al co si wi sh ds sr dp re im = true) (t : List UInt8) (hre : -2147483648 ≤ re ∧ re ≤ 2147483647) (hdp : -2147483648 ≤ dp ∧ dp ≤ 2147483647) (him : -9223372036854775808 ≤ im ∧ im ≤ 9223372036854775807) : readB (bf (encS20 al co si wi sh ds sr dp re im ++ t)) = (⟨20, al, co, si, wi, sh, ds, sr, dp, re, im⟩ : XX) := by
  have hA := andL hv
  have hR := andL (andR hv)
  have hD := andL hR
  have hS := andR hR
  have hC := andL (andR (andR hv))
  have hN := andR (andR (andR hv))
  obtain rfl : al = 0 := eq_of_beq (α := Int) (andL (andR hA))
  obtain rfl : co = 0 := eq_of_beq (α := Int) (andL (andR (andR hA)))
  obtain rfl : si = 0 := eq_of_beq (α := Int) (andL (andR (andR (andR hA))))
  obtain rfl : wi = false := eq_of_beq (α := Bool) (andL (andR (andR (andR (andR hA)))))
  obtain rfl : sh = false := eq_of_beq (α := Bool) (andL (andR (andR (andR (andR (andR hA))))))
  obtain rfl : ds = 0 := eq_of_beq (α := Int) (andL (andR (andR (andR (andR (andR (andR hA)))))))
  obtain rfl : sr = 0 := eq_of_beq (α := Int) (andL (andR (andR (andR (andR (andR (andR (andR hA))))))))
  obtain rfl : dp = 0 := eq_of_beq (α := Int) (andL (andR (andR (andR (andR (andR (andR (andR (andR hA)))))))))
  obtain rfl : im = 0 := eq_of_beq (α := Int) (andL (andR (andR (andR (andR (andR (andR (andR (andR (andR (andR hA)))))))))))
  obtain ⟨a, b, c, d, h4⟩ := imm4 re
  unfold encS20
  rw [h4]
  refine (rd20 a b c d t).trans ?_
  rw [v4 h4 hre, i32_id re hre.1 hre.2]
theorem re21 (al co si : Int) (wi sh : Bool) (ds sr dp re im : Int) (hv : vP21 al co si wi sh ds sr dp re im = true) (t : List UInt8) (hre : -2147483648 ≤ re ∧ re ≤ 2147483647) (hdp : -2147483648 ≤ dp ∧ dp ≤ 2147483647) (him : -9223372036854775808 ≤ im ∧ im ≤ 9223372036854775807) : readB (bf (encS21 al co si wi sh ds sr dp re im ++ t)) = (⟨21, al, co, si, wi, sh, ds, sr, dp, re, im⟩ : XX) := by
  have hA := andL hv
  have hR := andL (andR hv)
  have hD := andL hR
  have hS := andR hR
  have hC := andL (andR (andR hv))
  have hN := andR (andR (andR hv))
  obtain rfl : al = 0 := eq_of_beq (α := Int) (andL (andR hA))
  obtain rfl : co = 0 := eq_of_beq (α := Int) (andL (andR (andR hA)))
  obtain rfl : si = 0 := eq_of_beq (α := Int) (andL (andR (andR (andR hA))))
  obtain rfl : wi = false := eq_of_beq (α := Bool) (andL (andR (andR (andR (andR hA)))))
  obtain rfl : sh = false := eq_of_beq (α := Bool) (andL (andR (andR (andR (andR (andR hA))))))
  obtain rfl : ds = 0 := eq_of_beq (α := Int) (andL (andR (andR (andR (andR (andR (andR hA)))))))
  obtain rfl : sr = 0 := eq_of_beq (α := Int) (andL (andR (andR (andR (andR (andR (andR (andR hA))))))))
  obtain rfl : dp = 0 := eq_of_beq (α := Int) (andL (andR (andR (andR (andR (andR (andR (andR (andR hA)))))))))
  obtain rfl : re = 0 := eq_of_beq (α := Int) (andL (andR (andR (andR (andR (andR (andR (andR (andR (andR hA))))))))))
  obtain rfl : im = 0 := eq_of_beq (α := Int) (andL (andR (andR (andR (andR (andR (andR (andR (andR (andR (andR hA)))))))))))
  exact rd21 t
theorem read_enc (k : Int) (al co si : Int) (wi sh : Bool) (ds sr dp re im : Int) (hv : vP k al co si wi sh ds sr dp re im = true) (t : List UInt8) (hre : -2147483648 ≤ re ∧ re ≤ 2147483647) (hdp : -2147483648 ≤ dp ∧ dp ≤ 2147483647) (him : -9223372036854775808 ≤ im ∧ im ≤ 9223372036854775807) : readB (bf (encS k al co si wi sh ds sr dp re im ++ t)) = (⟨k, al, co, si, wi, sh, ds, sr, dp, re, im⟩ : XX) := by
  by_cases hk : 1 ≤ k ∧ k ≤ 21
  · rcases kinds (k := k) (by simp only [decide_eq_false_iff_not]; omega) (by simp only [decide_eq_false_iff_not]; omega) with rfl | rfl | rfl | rfl | rfl | rfl | rfl | rfl | rfl | rfl | rfl | rfl | rfl | rfl | rfl | rfl | rfl | rfl | rfl | rfl | rfl
    · exact re1 al co si wi sh ds sr dp re im hv t hre hdp him
    · exact re2 al co si wi sh ds sr dp re im hv t hre hdp him
    · exact re3 al co si wi sh ds sr dp re im hv t hre hdp him
    · exact re4 al co si wi sh ds sr dp re im hv t hre hdp him
    · exact re5 al co si wi sh ds sr dp re im hv t hre hdp him
    · exact re6 al co si wi sh ds sr dp re im hv t hre hdp him
    · exact re7 al co si wi sh ds sr dp re im hv t hre hdp him
    · exact re8 al co si wi sh ds sr dp re im hv t hre hdp him
    · exact re9 al co si wi sh ds sr dp re im hv t hre hdp him
    · exact re10 al co si wi sh ds sr dp re im hv t hre hdp him
    · exact re11 al co si wi sh ds sr dp re im hv t hre hdp him
    · exact re12 al co si wi sh ds sr dp re im hv t hre hdp him
    · exact re13 al co si wi sh ds sr dp re im hv t hre hdp him
    · exact re14 al co si wi sh ds sr dp re im hv t hre hdp him
    · exact re15 al co si wi sh ds sr dp re im hv t hre hdp him
    · exact re16 al co si wi sh ds sr dp re im hv t hre hdp him
    · exact re17 al co si wi sh ds sr dp re im hv t hre hdp him
    · exact re18 al co si wi sh ds sr dp re im hv t hre hdp him
    · exact re19 al co si wi sh ds sr dp re im hv t hre hdp him
    · exact re20 al co si wi sh ds sr dp re im hv t hre hdp him
    · exact re21 al co si wi sh ds sr dp re im hv t hre hdp him
  · exfalso
    have nd : ∀ n : Int, 1 ≤ n → n ≤ 21 → ¬ k = n := fun n h1 h2 => by omega
    unfold vP at hv
    rw [if_neg (nd 1 (by omega) (by omega)), if_neg (nd 2 (by omega) (by omega)), if_neg (nd 3 (by omega) (by omega)), if_neg (nd 4 (by omega) (by omega)), if_neg (nd 5 (by omega) (by omega)), if_neg (nd 6 (by omega) (by omega)), if_neg (nd 7 (by omega) (by omega)), if_neg (nd 8 (by omega) (by omega)), if_neg (nd 9 (by omega) (by omega)), if_neg (nd 10 (by omega) (by omega)), if_neg (nd 11 (by omega) (by omega)), if_neg (nd 12 (by omega) (by omega)), if_neg (nd 13 (by omega) (by omega)), if_neg (nd 14 (by omega) (by omega)), if_neg (nd 15 (by omega) (by omega)), if_neg (nd 16 (by omega) (by omega)), if_neg (nd 17 (by omega) (by omega)), if_neg (nd 18 (by omega) (by omega)), if_neg (nd 19 (by omega) (by omega)), if_neg (nd 20 (by omega) (by omega)), if_neg (nd 21 (by omega) (by omega))] at hv
    cases hv
end Go.Proofs.YtbaiokfjoglmiaaDoor.Ex
