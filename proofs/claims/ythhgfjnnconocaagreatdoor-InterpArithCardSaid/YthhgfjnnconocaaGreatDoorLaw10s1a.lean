/-
  Layer 10: a program that reckons with two numbers, of 64 bits.
-/
import Derived.Test.YthhgfjnnconocaaGreatDoorLaw10s0m
namespace Go.Proofs.YthhgfjnnconocaaGreatDoor.Ex
open Go Go.RowKit
set_option maxHeartbeats 0
set_option maxRecDepth 1000000
set_option linter.unusedVariables false
theorem pw_0 (ρ : Nat → Int) (h1 : (inU (cst (ρ 9) (ρ 8))).1 = (inU (cst (ρ 9) (ρ 8))).2) (h2 : (inU (cst (ρ 11) (ρ 10))).1 = (inU (cst (ρ 11) (ρ 10))).2) : CallAt Tryz.prog 8 pw_A (pw_pH.map (instO (setR 12 (15) ρ))) (pvM true (15 - 15) (ρ 8) (ρ 9) (ρ 10) (ρ 11)) :=
  callR_ok noNG (hkJ3_ok false) noLoop_low (noLoop_ok _) jOrc 100000 300 (cs := [inU (cst (ρ 9) (ρ 8)), inU (cst (ρ 11) (ρ 10)), inU 0, inU (N (aluS (15 - 15) true (aX (15 - 15) (cst (ρ 9) (ρ 8))) (BitVec.ofInt 64 (cst (ρ 11) (ρ 10)))))]) (by kernel_rfl) (by
    intro c hc
    simp only [List.mem_cons, List.not_mem_nil, or_false] at hc
    rcases hc with rfl | rfl | rfl | rfl
    · exact h1
    · exact h2
    · exact inU_0
    · exact inU_N _)
theorem pw_1 (ρ : Nat → Int) (h1 : (inU (cst (ρ 9) (ρ 8))).1 = (inU (cst (ρ 9) (ρ 8))).2) (h2 : (inU (cst (ρ 11) (ρ 10))).1 = (inU (cst (ρ 11) (ρ 10))).2) : CallAt Tryz.prog 8 pw_A (pw_pH.map (instO (setR 12 (31) ρ))) (pvM true (31 - 15) (ρ 8) (ρ 9) (ρ 10) (ρ 11)) :=
  callR_ok noNG (hkJ3_ok false) noLoop_low (noLoop_ok _) jOrc 100000 300 (cs := [inU (cst (ρ 9) (ρ 8)), inU (cst (ρ 11) (ρ 10)), inU 0, inU (N (aluS (31 - 15) true (aX (31 - 15) (cst (ρ 9) (ρ 8))) (BitVec.ofInt 64 (cst (ρ 11) (ρ 10)))))]) (by kernel_rfl) (by
    intro c hc
    simp only [List.mem_cons, List.not_mem_nil, or_false] at hc
    rcases hc with rfl | rfl | rfl | rfl
    · exact h1
    · exact h2
    · exact inU_0
    · exact inU_N _)
theorem pw_2 (ρ : Nat → Int) (h1 : (inU (cst (ρ 9) (ρ 8))).1 = (inU (cst (ρ 9) (ρ 8))).2) (h2 : (inU (cst (ρ 11) (ρ 10))).1 = (inU (cst (ρ 11) (ρ 10))).2) : CallAt Tryz.prog 8 pw_A (pw_pH.map (instO (setR 12 (47) ρ))) (pvM true (47 - 15) (ρ 8) (ρ 9) (ρ 10) (ρ 11)) :=
  callR_ok noNG (hkJ3_ok false) noLoop_low (noLoop_ok _) jOrc 100000 300 (cs := [inU (cst (ρ 9) (ρ 8)), inU (cst (ρ 11) (ρ 10)), inU 0, inU (N (aluS (47 - 15) true (aX (47 - 15) (cst (ρ 9) (ρ 8))) (BitVec.ofInt 64 (cst (ρ 11) (ρ 10)))))]) (by kernel_rfl) (by
    intro c hc
    simp only [List.mem_cons, List.not_mem_nil, or_false] at hc
    rcases hc with rfl | rfl | rfl | rfl
    · exact h1
    · exact h2
    · exact inU_0
    · exact inU_N _)
theorem pw_3 (ρ : Nat → Int) (h1 : (inU (cst (ρ 9) (ρ 8))).1 = (inU (cst (ρ 9) (ρ 8))).2) (h2 : (inU (cst (ρ 11) (ρ 10))).1 = (inU (cst (ρ 11) (ρ 10))).2) : CallAt Tryz.prog 8 pw_A (pw_pH.map (instO (setR 12 (63) ρ))) (pvM true (63 - 15) (ρ 8) (ρ 9) (ρ 10) (ρ 11)) :=
  callR_ok noNG (hkJ3_ok false) noLoop_low (noLoop_ok _) jOrc 100000 300 (cs := [inU (cst (ρ 9) (ρ 8)), inU (cst (ρ 11) (ρ 10)), inU 0, inU (N (aluS (63 - 15) true (aX (63 - 15) (cst (ρ 9) (ρ 8))) (BitVec.ofInt 64 (cst (ρ 11) (ρ 10)))))]) (by kernel_rfl) (by
    intro c hc
    simp only [List.mem_cons, List.not_mem_nil, or_false] at hc
    rcases hc with rfl | rfl | rfl | rfl
    · exact h1
    · exact h2
    · exact inU_0
    · exact inU_N _)
theorem pw_4 (ρ : Nat → Int) (h1 : (inU (cst (ρ 9) (ρ 8))).1 = (inU (cst (ρ 9) (ρ 8))).2) (h2 : (inU (cst (ρ 11) (ρ 10))).1 = (inU (cst (ρ 11) (ρ 10))).2) : CallAt Tryz.prog 8 pw_A (pw_pH.map (instO (setR 12 (79) ρ))) (pvM true (79 - 15) (ρ 8) (ρ 9) (ρ 10) (ρ 11)) :=
  callR_ok noNG (hkJ3_ok false) noLoop_low (noLoop_ok _) jOrc 100000 300 (cs := [inU (cst (ρ 9) (ρ 8)), inU (cst (ρ 11) (ρ 10)), inU 0, inU (N (aluS (79 - 15) true (aX (79 - 15) (cst (ρ 9) (ρ 8))) (BitVec.ofInt 64 (cst (ρ 11) (ρ 10)))))]) (by kernel_rfl) (by
    intro c hc
    simp only [List.mem_cons, List.not_mem_nil, or_false] at hc
    rcases hc with rfl | rfl | rfl | rfl
    · exact h1
    · exact h2
    · exact inU_0
    · exact inU_N _)
theorem pw_5 (ρ : Nat → Int) (h1 : (inU (cst (ρ 9) (ρ 8))).1 = (inU (cst (ρ 9) (ρ 8))).2) (h2 : (inU (cst (ρ 11) (ρ 10))).1 = (inU (cst (ρ 11) (ρ 10))).2) : CallAt Tryz.prog 8 pw_A (pw_pH.map (instO (setR 12 (95) ρ))) (pvM true (95 - 15) (ρ 8) (ρ 9) (ρ 10) (ρ 11)) :=
  callR_ok noNG (hkJ3_ok false) noLoop_low (noLoop_ok _) jOrc 100000 300 (cs := [inU (cst (ρ 9) (ρ 8)), inU (cst (ρ 11) (ρ 10)), inU 0, inU (N (aluS (95 - 15) true (aX (95 - 15) (cst (ρ 9) (ρ 8))) (BitVec.ofInt 64 (cst (ρ 11) (ρ 10)))))]) (by kernel_rfl) (by
    intro c hc
    simp only [List.mem_cons, List.not_mem_nil, or_false] at hc
    rcases hc with rfl | rfl | rfl | rfl
    · exact h1
    · exact h2
    · exact inU_0
    · exact inU_N _)
end Go.Proofs.YthhgfjnnconocaaGreatDoor.Ex
