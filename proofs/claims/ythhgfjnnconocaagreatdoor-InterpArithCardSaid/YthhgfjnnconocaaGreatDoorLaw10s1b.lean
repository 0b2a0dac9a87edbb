/-
  Layer 10: a program that reckons with two numbers, of 64 bits.
-/
import Derived.Test.YthhgfjnnconocaaGreatDoorLaw10s0m
namespace Go.Proofs.YthhgfjnnconocaaGreatDoor.Ex
open Go Go.RowKit
set_option maxHeartbeats 0
set_option maxRecDepth 1000000
set_option linter.unusedVariables false
theorem pw_6 (ρ : Nat → Int) (h1 : (inU (cst (ρ 9) (ρ 8))).1 = (inU (cst (ρ 9) (ρ 8))).2) (h2 : (inU (cst (ρ 11) (ρ 10))).1 = (inU (cst (ρ 11) (ρ 10))).2) : CallAt Tryz.prog 8 pw_A (pw_pH.map (instO (setR 12 (111) ρ))) (pvM true (111 - 15) (ρ 8) (ρ 9) (ρ 10) (ρ 11)) :=
  callR_ok noNG (hkJ3_ok false) noLoop_low (noLoop_ok _) jOrc 100000 300 (cs := [inU (cst (ρ 9) (ρ 8)), inU (cst (ρ 11) (ρ 10)), inU 0, inU (N (aluS (111 - 15) true (aX (111 - 15) (cst (ρ 9) (ρ 8))) (BitVec.ofInt 64 (cst (ρ 11) (ρ 10)))))]) (by kernel_rfl) (by
    intro c hc
    simp only [List.mem_cons, List.not_mem_nil, or_false] at hc
    rcases hc with rfl | rfl | rfl | rfl
    · exact h1
    · exact h2
    · exact inU_0
    · exact inU_N _)
theorem pw_7 (ρ : Nat → Int) (h1 : (inU (cst (ρ 9) (ρ 8))).1 = (inU (cst (ρ 9) (ρ 8))).2) (h2 : (inU (cst (ρ 11) (ρ 10))).1 = (inU (cst (ρ 11) (ρ 10))).2) : CallAt Tryz.prog 8 pw_A (pw_pH.map (instO (setR 12 (127) ρ))) (pvM true (127 - 15) (ρ 8) (ρ 9) (ρ 10) (ρ 11)) :=
  callR_ok noNG (hkJ3_ok false) noLoop_low (noLoop_ok _) jOrc 100000 300 (cs := [inU (cst (ρ 9) (ρ 8)), inU (cst (ρ 11) (ρ 10)), inU 0, inU (N (aluS (127 - 15) true (aX (127 - 15) (cst (ρ 9) (ρ 8))) (BitVec.ofInt 64 (cst (ρ 11) (ρ 10)))))]) (by kernel_rfl) (by
    intro c hc
    simp only [List.mem_cons, List.not_mem_nil, or_false] at hc
    rcases hc with rfl | rfl | rfl | rfl
    · exact h1
    · exact h2
    · exact inU_0
    · exact inU_N _)
theorem pw_8 (ρ : Nat → Int) (h1 : (inU (cst (ρ 9) (ρ 8))).1 = (inU (cst (ρ 9) (ρ 8))).2) (h2 : (inU (cst (ρ 11) (ρ 10))).1 = (inU (cst (ρ 11) (ρ 10))).2) : CallAt Tryz.prog 8 pw_A (pw_pH.map (instO (setR 12 (159) ρ))) (pvM true (159 - 15) (ρ 8) (ρ 9) (ρ 10) (ρ 11)) :=
  callR_ok noNG (hkJ3_ok false) noLoop_low (noLoop_ok _) jOrc 100000 300 (cs := [inU (cst (ρ 9) (ρ 8)), inU (cst (ρ 11) (ρ 10)), inU 0, inU (N (aluS (159 - 15) true (aX (159 - 15) (cst (ρ 9) (ρ 8))) (BitVec.ofInt 64 (cst (ρ 11) (ρ 10)))))]) (by kernel_rfl) (by
    intro c hc
    simp only [List.mem_cons, List.not_mem_nil, or_false] at hc
    rcases hc with rfl | rfl | rfl | rfl
    · exact h1
    · exact h2
    · exact inU_0
    · exact inU_N _)
theorem pw_9 (ρ : Nat → Int) (h1 : (inU (cst (ρ 9) (ρ 8))).1 = (inU (cst (ρ 9) (ρ 8))).2) (h2 : (inU (cst (ρ 11) (ρ 10))).1 = (inU (cst (ρ 11) (ρ 10))).2) : CallAt Tryz.prog 8 pw_A (pw_pH.map (instO (setR 12 (175) ρ))) (pvM true (175 - 15) (ρ 8) (ρ 9) (ρ 10) (ρ 11)) :=
  callR_ok noNG (hkJ3_ok false) noLoop_low (noLoop_ok _) jOrc 100000 300 (cs := [inU (cst (ρ 9) (ρ 8)), inU (cst (ρ 11) (ρ 10)), inU 0, inU (N (aluS (175 - 15) true (aX (175 - 15) (cst (ρ 9) (ρ 8))) (BitVec.ofInt 64 (cst (ρ 11) (ρ 10)))))]) (by kernel_rfl) (by
    intro c hc
    simp only [List.mem_cons, List.not_mem_nil, or_false] at hc
    rcases hc with rfl | rfl | rfl | rfl
    · exact h1
    · exact h2
    · exact inU_0
    · exact inU_N _)
theorem pw_10 (ρ : Nat → Int) (h1 : (inU (cst (ρ 9) (ρ 8))).1 = (inU (cst (ρ 9) (ρ 8))).2) (h2 : (inU (cst (ρ 11) (ρ 10))).1 = (inU (cst (ρ 11) (ρ 10))).2) : CallAt Tryz.prog 8 pw_A (pw_pH.map (instO (setR 12 (191) ρ))) (pvM true (191 - 15) (ρ 8) (ρ 9) (ρ 10) (ρ 11)) :=
  callR_ok noNG (hkJ3_ok false) noLoop_low (noLoop_ok _) jOrc 100000 300 (cs := [inU 0, inU (cst (ρ 11) (ρ 10)), inU 0, inU (N (aluS (191 - 15) true (aX (191 - 15) (cst (ρ 9) (ρ 8))) (BitVec.ofInt 64 (cst (ρ 11) (ρ 10)))))]) (by kernel_rfl) (by
    intro c hc
    simp only [List.mem_cons, List.not_mem_nil, or_false] at hc
    rcases hc with rfl | rfl | rfl | rfl
    · exact inU_0
    · exact h2
    · exact inU_0
    · exact inU_N _)
theorem pw_11 (ρ : Nat → Int) (h1 : (inU (cst (ρ 9) (ρ 8))).1 = (inU (cst (ρ 9) (ρ 8))).2) (h2 : (inU (cst (ρ 11) (ρ 10))).1 = (inU (cst (ρ 11) (ρ 10))).2) : CallAt Tryz.prog 8 pw_A (pw_pH.map (instO (setR 12 (207) ρ))) (pvM true (207 - 15) (ρ 8) (ρ 9) (ρ 10) (ρ 11)) :=
  callR_ok noNG (hkJ3_ok false) noLoop_low (noLoop_ok _) jOrc 100000 300 (cs := [inU (cst (ρ 9) (ρ 8)), inU (cst (ρ 11) (ρ 10)), inU 0, inU (N (aluS (207 - 15) true (aX (207 - 15) (cst (ρ 9) (ρ 8))) (BitVec.ofInt 64 (cst (ρ 11) (ρ 10)))))]) (by kernel_rfl) (by
    intro c hc
    simp only [List.mem_cons, List.not_mem_nil, or_false] at hc
    rcases hc with rfl | rfl | rfl | rfl
    · exact h1
    · exact h2
    · exact inU_0
    · exact inU_N _)
end Go.Proofs.YthhgfjnnconocaaGreatDoor.Ex
