/-
  Layer 10: a program that reckons with two numbers, of 32 bits.
-/
import Derived.Test.YthhgfjnnconocaaGreatDoorLaw10s0m
namespace Go.Proofs.YthhgfjnnconocaaGreatDoor.Ex
open Go Go.RowKit
set_option maxHeartbeats 0
set_option maxRecDepth 1000000
set_option linter.unusedVariables false
theorem pn_0 (ρ : Nat → Int) (h1 : (inU (cst (ρ 33) (ρ 32))).1 = (inU (cst (ρ 33) (ρ 32))).2) (h2 : (inU (cst (ρ 35) (ρ 34))).1 = (inU (cst (ρ 35) (ρ 34))).2) : CallAt Tryz.prog 8 pn_A (pn_pH.map (instO (setR 36 (12) ρ))) (pvM false (12 - 12) (ρ 32) (ρ 33) (ρ 34) (ρ 35)) :=
  callR_ok noNG (hkJ3_ok false) noLoop_low (noLoop_ok _) jOrc 100000 300 (cs := [inU (cst (ρ 33) (ρ 32)), inU (cst (ρ 35) (ρ 34)), inU 0, inU (N (aluS (12 - 12) false (aX (12 - 12) (cst (ρ 33) (ρ 32))) (BitVec.ofInt 64 (cst (ρ 35) (ρ 34)))))]) (by kernel_rfl) (by
    intro c hc
    simp only [List.mem_cons, List.not_mem_nil, or_false] at hc
    rcases hc with rfl | rfl | rfl | rfl
    · exact h1
    · exact h2
    · exact inU_0
    · exact inU_N _)
theorem pn_1 (ρ : Nat → Int) (h1 : (inU (cst (ρ 33) (ρ 32))).1 = (inU (cst (ρ 33) (ρ 32))).2) (h2 : (inU (cst (ρ 35) (ρ 34))).1 = (inU (cst (ρ 35) (ρ 34))).2) : CallAt Tryz.prog 8 pn_A (pn_pH.map (instO (setR 36 (28) ρ))) (pvM false (28 - 12) (ρ 32) (ρ 33) (ρ 34) (ρ 35)) :=
  callR_ok noNG (hkJ3_ok false) noLoop_low (noLoop_ok _) jOrc 100000 300 (cs := [inU (cst (ρ 33) (ρ 32)), inU (cst (ρ 35) (ρ 34)), inU 0, inU (N (aluS (28 - 12) false (aX (28 - 12) (cst (ρ 33) (ρ 32))) (BitVec.ofInt 64 (cst (ρ 35) (ρ 34)))))]) (by kernel_rfl) (by
    intro c hc
    simp only [List.mem_cons, List.not_mem_nil, or_false] at hc
    rcases hc with rfl | rfl | rfl | rfl
    · exact h1
    · exact h2
    · exact inU_0
    · exact inU_N _)
theorem pn_2 (ρ : Nat → Int) (h1 : (inU (cst (ρ 33) (ρ 32))).1 = (inU (cst (ρ 33) (ρ 32))).2) (h2 : (inU (cst (ρ 35) (ρ 34))).1 = (inU (cst (ρ 35) (ρ 34))).2) : CallAt Tryz.prog 8 pn_A (pn_pH.map (instO (setR 36 (44) ρ))) (pvM false (44 - 12) (ρ 32) (ρ 33) (ρ 34) (ρ 35)) :=
  callR_ok noNG (hkJ3_ok false) noLoop_low (noLoop_ok _) jOrc 100000 300 (cs := [inU (cst (ρ 33) (ρ 32)), inU (cst (ρ 35) (ρ 34)), inU 0, inU (N (aluS (44 - 12) false (aX (44 - 12) (cst (ρ 33) (ρ 32))) (BitVec.ofInt 64 (cst (ρ 35) (ρ 34)))))]) (by kernel_rfl) (by
    intro c hc
    simp only [List.mem_cons, List.not_mem_nil, or_false] at hc
    rcases hc with rfl | rfl | rfl | rfl
    · exact h1
    · exact h2
    · exact inU_0
    · exact inU_N _)
theorem pn_3 (ρ : Nat → Int) (h1 : (inU (cst (ρ 33) (ρ 32))).1 = (inU (cst (ρ 33) (ρ 32))).2) (h2 : (inU (cst (ρ 35) (ρ 34))).1 = (inU (cst (ρ 35) (ρ 34))).2) : CallAt Tryz.prog 8 pn_A (pn_pH.map (instO (setR 36 (60) ρ))) (pvM false (60 - 12) (ρ 32) (ρ 33) (ρ 34) (ρ 35)) :=
  callR_ok noNG (hkJ3_ok false) noLoop_low (noLoop_ok _) jOrc 100000 300 (cs := [inU (cst (ρ 33) (ρ 32)), inU (cst (ρ 35) (ρ 34)), inU 0, inU (N (aluS (60 - 12) false (aX (60 - 12) (cst (ρ 33) (ρ 32))) (BitVec.ofInt 64 (cst (ρ 35) (ρ 34)))))]) (by kernel_rfl) (by
    intro c hc
    simp only [List.mem_cons, List.not_mem_nil, or_false] at hc
    rcases hc with rfl | rfl | rfl | rfl
    · exact h1
    · exact h2
    · exact inU_0
    · exact inU_N _)
theorem pn_4 (ρ : Nat → Int) (h1 : (inU (cst (ρ 33) (ρ 32))).1 = (inU (cst (ρ 33) (ρ 32))).2) (h2 : (inU (cst (ρ 35) (ρ 34))).1 = (inU (cst (ρ 35) (ρ 34))).2) : CallAt Tryz.prog 8 pn_A (pn_pH.map (instO (setR 36 (76) ρ))) (pvM false (76 - 12) (ρ 32) (ρ 33) (ρ 34) (ρ 35)) :=
  callR_ok noNG (hkJ3_ok false) noLoop_low (noLoop_ok _) jOrc 100000 300 (cs := [inU (cst (ρ 33) (ρ 32)), inU (cst (ρ 35) (ρ 34)), inU 0, inU (N (aluS (76 - 12) false (aX (76 - 12) (cst (ρ 33) (ρ 32))) (BitVec.ofInt 64 (cst (ρ 35) (ρ 34)))))]) (by kernel_rfl) (by
    intro c hc
    simp only [List.mem_cons, List.not_mem_nil, or_false] at hc
    rcases hc with rfl | rfl | rfl | rfl
    · exact h1
    · exact h2
    · exact inU_0
    · exact inU_N _)
theorem pn_5 (ρ : Nat → Int) (h1 : (inU (cst (ρ 33) (ρ 32))).1 = (inU (cst (ρ 33) (ρ 32))).2) (h2 : (inU (cst (ρ 35) (ρ 34))).1 = (inU (cst (ρ 35) (ρ 34))).2) : CallAt Tryz.prog 8 pn_A (pn_pH.map (instO (setR 36 (92) ρ))) (pvM false (92 - 12) (ρ 32) (ρ 33) (ρ 34) (ρ 35)) :=
  callR_ok noNG (hkJ3_ok false) noLoop_low (noLoop_ok _) jOrc 100000 300 (cs := [inU (cst (ρ 33) (ρ 32)), inU (cst (ρ 35) (ρ 34)), inU 0, inU (N (aluS (92 - 12) false (aX (92 - 12) (cst (ρ 33) (ρ 32))) (BitVec.ofInt 64 (cst (ρ 35) (ρ 34)))))]) (by kernel_rfl) (by
    intro c hc
    simp only [List.mem_cons, List.not_mem_nil, or_false] at hc
    rcases hc with rfl | rfl | rfl | rfl
    · exact h1
    · exact h2
    · exact inU_0
    · exact inU_N _)
end Go.Proofs.YthhgfjnnconocaaGreatDoor.Ex
