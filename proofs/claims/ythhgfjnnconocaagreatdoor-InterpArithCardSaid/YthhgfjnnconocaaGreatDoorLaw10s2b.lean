/-
  Layer 10: a program that reckons with two numbers, of 32 bits.
-/
import Derived.Test.YthhgfjnnconocaaGreatDoorLaw10s0m
namespace Go.Proofs.YthhgfjnnconocaaGreatDoor.Ex
open Go Go.RowKit
set_option maxHeartbeats 0
set_option maxRecDepth 1000000
set_option linter.unusedVariables false
theorem pn_6 (ρ : Nat → Int) (h1 : (inU (cst (ρ 33) (ρ 32))).1 = (inU (cst (ρ 33) (ρ 32))).2) (h2 : (inU (cst (ρ 35) (ρ 34))).1 = (inU (cst (ρ 35) (ρ 34))).2) : CallAt Tryz.prog 8 pn_A (pn_pH.map (instO (setR 36 (108) ρ))) (pvM false (108 - 12) (ρ 32) (ρ 33) (ρ 34) (ρ 35)) :=
  callR_ok noNG (hkJ3_ok false) noLoop_low (noLoop_ok _) jOrc 100000 300 (cs := [inU (cst (ρ 33) (ρ 32)), inU (cst (ρ 35) (ρ 34)), inU 0, inU (N (aluS (108 - 12) false (aX (108 - 12) (cst (ρ 33) (ρ 32))) (BitVec.ofInt 64 (cst (ρ 35) (ρ 34)))))]) (by kernel_rfl) (by
    intro c hc
    simp only [List.mem_cons, List.not_mem_nil, or_false] at hc
    rcases hc with rfl | rfl | rfl | rfl
    · exact h1
    · exact h2
    · exact inU_0
    · exact inU_N _)
theorem pn_7 (ρ : Nat → Int) (h1 : (inU (cst (ρ 33) (ρ 32))).1 = (inU (cst (ρ 33) (ρ 32))).2) (h2 : (inU (cst (ρ 35) (ρ 34))).1 = (inU (cst (ρ 35) (ρ 34))).2) : CallAt Tryz.prog 8 pn_A (pn_pH.map (instO (setR 36 (124) ρ))) (pvM false (124 - 12) (ρ 32) (ρ 33) (ρ 34) (ρ 35)) :=
  callR_ok noNG (hkJ3_ok false) noLoop_low (noLoop_ok _) jOrc 100000 300 (cs := [inU (cst (ρ 33) (ρ 32)), inU (cst (ρ 35) (ρ 34)), inU 0, inU (N (aluS (124 - 12) false (aX (124 - 12) (cst (ρ 33) (ρ 32))) (BitVec.ofInt 64 (cst (ρ 35) (ρ 34)))))]) (by kernel_rfl) (by
    intro c hc
    simp only [List.mem_cons, List.not_mem_nil, or_false] at hc
    rcases hc with rfl | rfl | rfl | rfl
    · exact h1
    · exact h2
    · exact inU_0
    · exact inU_N _)
theorem pn_8 (ρ : Nat → Int) (h1 : (inU (cst (ρ 33) (ρ 32))).1 = (inU (cst (ρ 33) (ρ 32))).2) (h2 : (inU (cst (ρ 35) (ρ 34))).1 = (inU (cst (ρ 35) (ρ 34))).2) : CallAt Tryz.prog 8 pn_A (pn_pH.map (instO (setR 36 (156) ρ))) (pvM false (156 - 12) (ρ 32) (ρ 33) (ρ 34) (ρ 35)) :=
  callR_ok noNG (hkJ3_ok false) noLoop_low (noLoop_ok _) jOrc 100000 300 (cs := [inU (cst (ρ 33) (ρ 32)), inU (cst (ρ 35) (ρ 34)), inU 0, inU (N (aluS (156 - 12) false (aX (156 - 12) (cst (ρ 33) (ρ 32))) (BitVec.ofInt 64 (cst (ρ 35) (ρ 34)))))]) (by kernel_rfl) (by
    intro c hc
    simp only [List.mem_cons, List.not_mem_nil, or_false] at hc
    rcases hc with rfl | rfl | rfl | rfl
    · exact h1
    · exact h2
    · exact inU_0
    · exact inU_N _)
theorem pn_9 (ρ : Nat → Int) (h1 : (inU (cst (ρ 33) (ρ 32))).1 = (inU (cst (ρ 33) (ρ 32))).2) (h2 : (inU (cst (ρ 35) (ρ 34))).1 = (inU (cst (ρ 35) (ρ 34))).2) : CallAt Tryz.prog 8 pn_A (pn_pH.map (instO (setR 36 (172) ρ))) (pvM false (172 - 12) (ρ 32) (ρ 33) (ρ 34) (ρ 35)) :=
  callR_ok noNG (hkJ3_ok false) noLoop_low (noLoop_ok _) jOrc 100000 300 (cs := [inU (cst (ρ 33) (ρ 32)), inU (cst (ρ 35) (ρ 34)), inU 0, inU (N (aluS (172 - 12) false (aX (172 - 12) (cst (ρ 33) (ρ 32))) (BitVec.ofInt 64 (cst (ρ 35) (ρ 34)))))]) (by kernel_rfl) (by
    intro c hc
    simp only [List.mem_cons, List.not_mem_nil, or_false] at hc
    rcases hc with rfl | rfl | rfl | rfl
    · exact h1
    · exact h2
    · exact inU_0
    · exact inU_N _)
theorem pn_10 (ρ : Nat → Int) (h1 : (inU (cst (ρ 33) (ρ 32))).1 = (inU (cst (ρ 33) (ρ 32))).2) (h2 : (inU (cst (ρ 35) (ρ 34))).1 = (inU (cst (ρ 35) (ρ 34))).2) : CallAt Tryz.prog 8 pn_A (pn_pH.map (instO (setR 36 (188) ρ))) (pvM false (188 - 12) (ρ 32) (ρ 33) (ρ 34) (ρ 35)) :=
  callR_ok noNG (hkJ3_ok false) noLoop_low (noLoop_ok _) jOrc 100000 300 (cs := [inU 0, inU (cst (ρ 35) (ρ 34)), inU 0, inU (N (aluS (188 - 12) false (aX (188 - 12) (cst (ρ 33) (ρ 32))) (BitVec.ofInt 64 (cst (ρ 35) (ρ 34)))))]) (by kernel_rfl) (by
    intro c hc
    simp only [List.mem_cons, List.not_mem_nil, or_false] at hc
    rcases hc with rfl | rfl | rfl | rfl
    · exact inU_0
    · exact h2
    · exact inU_0
    · exact inU_N _)
theorem pn_11 (ρ : Nat → Int) (h1 : (inU (cst (ρ 33) (ρ 32))).1 = (inU (cst (ρ 33) (ρ 32))).2) (h2 : (inU (cst (ρ 35) (ρ 34))).1 = (inU (cst (ρ 35) (ρ 34))).2) : CallAt Tryz.prog 8 pn_A (pn_pH.map (instO (setR 36 (204) ρ))) (pvM false (204 - 12) (ρ 32) (ρ 33) (ρ 34) (ρ 35)) :=
  callR_ok noNG (hkJ3_ok false) noLoop_low (noLoop_ok _) jOrc 100000 300 (cs := [inU (cst (ρ 33) (ρ 32)), inU (cst (ρ 35) (ρ 34)), inU 0, inU (N (aluS (204 - 12) false (aX (204 - 12) (cst (ρ 33) (ρ 32))) (BitVec.ofInt 64 (cst (ρ 35) (ρ 34)))))]) (by kernel_rfl) (by
    intro c hc
    simp only [List.mem_cons, List.not_mem_nil, or_false] at hc
    rcases hc with rfl | rfl | rfl | rfl
    · exact h1
    · exact h2
    · exact inU_0
    · exact inU_N _)
end Go.Proofs.YthhgfjnnconocaaGreatDoor.Ex
