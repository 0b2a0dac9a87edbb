/-
  Layer 10: a program whose condition of 64 bits does not hold.
-/
import Derived.Test.YthhgfjnnconocaaGreatDoorLaw10s0p
namespace Go.Proofs.YthhgfjnnconocaaGreatDoor.Ex
open Go Go.RowKit
set_option maxHeartbeats 0
set_option maxRecDepth 1000000
set_option linter.unusedVariables false
theorem qwF_0 (ρ : Nat → Int) (h1 : (inU (cst (ρ 17) (ρ 16))).1 = (inU (cst (ρ 17) (ρ 16))).2) (h2 : (inU (cst (ρ 19) (ρ 18))).1 = (inU (cst (ρ 19) (ρ 18))).2) (hj : condS 16 true (BitVec.ofInt 64 (cst (ρ 17) (ρ 16))) (BitVec.ofInt 64 (cst (ρ 19) (ρ 18))) = false) : CallAt Tryz.prog 8 qw_A (qw_pH.map (instO (setR 20 (29) ρ))) (qv false) :=
  callR_ok noNG (hkJ3_ok false) noLoop_low (noLoop_ok _) jOrc 100000 300 (cs := [inU 0, inU 1, inU (cst (ρ 17) (ρ 16)), inU (cst (ρ 19) (ρ 18)), (b2i (condS 16 true (BitVec.ofInt 64 (cst (ρ 17) (ρ 16))) (BitVec.ofInt 64 (cst (ρ 19) (ρ 18)))), b2i false), inU 0, inU 0]) (by kernel_rfl) (by
    intro c hc
    simp only [List.mem_cons, List.not_mem_nil, or_false] at hc
    rcases hc with rfl | rfl | rfl | rfl | rfl | rfl | rfl
    · exact inU_0
    · exact inU_1
    · exact h1
    · exact h2
    · exact congrArg b2i hj
    · exact inU_0
    · exact inU_0)
theorem qwF_1 (ρ : Nat → Int) (h1 : (inU (cst (ρ 17) (ρ 16))).1 = (inU (cst (ρ 17) (ρ 16))).2) (h2 : (inU (cst (ρ 19) (ρ 18))).1 = (inU (cst (ρ 19) (ρ 18))).2) (hj : condS 80 true (BitVec.ofInt 64 (cst (ρ 17) (ρ 16))) (BitVec.ofInt 64 (cst (ρ 19) (ρ 18))) = false) : CallAt Tryz.prog 8 qw_A (qw_pH.map (instO (setR 20 (93) ρ))) (qv false) :=
  callR_ok noNG (hkJ3_ok false) noLoop_low (noLoop_ok _) jOrc 100000 300 (cs := [inU 0, inU 1, inU (cst (ρ 17) (ρ 16)), inU (cst (ρ 19) (ρ 18)), (b2i (condS 80 true (BitVec.ofInt 64 (cst (ρ 17) (ρ 16))) (BitVec.ofInt 64 (cst (ρ 19) (ρ 18)))), b2i false), inU 0, inU 0]) (by kernel_rfl) (by
    intro c hc
    simp only [List.mem_cons, List.not_mem_nil, or_false] at hc
    rcases hc with rfl | rfl | rfl | rfl | rfl | rfl | rfl
    · exact inU_0
    · exact inU_1
    · exact h1
    · exact h2
    · exact congrArg b2i hj
    · exact inU_0
    · exact inU_0)
theorem qwF_2 (ρ : Nat → Int) (h1 : (inU (cst (ρ 17) (ρ 16))).1 = (inU (cst (ρ 17) (ρ 16))).2) (h2 : (inU (cst (ρ 19) (ρ 18))).1 = (inU (cst (ρ 19) (ρ 18))).2) (hj : condS 32 true (BitVec.ofInt 64 (cst (ρ 17) (ρ 16))) (BitVec.ofInt 64 (cst (ρ 19) (ρ 18))) = false) : CallAt Tryz.prog 8 qw_A (qw_pH.map (instO (setR 20 (45) ρ))) (qv false) :=
  callR_ok noNG (hkJ3_ok false) noLoop_low (noLoop_ok _) jOrc 100000 300 (cs := [inU 0, inU 1, inU (cst (ρ 17) (ρ 16)), inU (cst (ρ 19) (ρ 18)), (b2i (condS 32 true (BitVec.ofInt 64 (cst (ρ 17) (ρ 16))) (BitVec.ofInt 64 (cst (ρ 19) (ρ 18)))), b2i false), inU 0, inU 0]) (by kernel_rfl) (by
    intro c hc
    simp only [List.mem_cons, List.not_mem_nil, or_false] at hc
    rcases hc with rfl | rfl | rfl | rfl | rfl | rfl | rfl
    · exact inU_0
    · exact inU_1
    · exact h1
    · exact h2
    · exact congrArg b2i hj
    · exact inU_0
    · exact inU_0)
theorem qwF_3 (ρ : Nat → Int) (h1 : (inU (cst (ρ 17) (ρ 16))).1 = (inU (cst (ρ 17) (ρ 16))).2) (h2 : (inU (cst (ρ 19) (ρ 18))).1 = (inU (cst (ρ 19) (ρ 18))).2) (hj : condS 48 true (BitVec.ofInt 64 (cst (ρ 17) (ρ 16))) (BitVec.ofInt 64 (cst (ρ 19) (ρ 18))) = false) : CallAt Tryz.prog 8 qw_A (qw_pH.map (instO (setR 20 (61) ρ))) (qv false) :=
  callR_ok noNG (hkJ3_ok false) noLoop_low (noLoop_ok _) jOrc 100000 300 (cs := [inU 0, inU 1, inU (cst (ρ 17) (ρ 16)), inU (cst (ρ 19) (ρ 18)), (b2i (condS 48 true (BitVec.ofInt 64 (cst (ρ 17) (ρ 16))) (BitVec.ofInt 64 (cst (ρ 19) (ρ 18)))), b2i false), inU 0, inU 0]) (by kernel_rfl) (by
    intro c hc
    simp only [List.mem_cons, List.not_mem_nil, or_false] at hc
    rcases hc with rfl | rfl | rfl | rfl | rfl | rfl | rfl
    · exact inU_0
    · exact inU_1
    · exact h1
    · exact h2
    · exact congrArg b2i hj
    · exact inU_0
    · exact inU_0)
theorem qwF_4 (ρ : Nat → Int) (h1 : (inU (cst (ρ 17) (ρ 16))).1 = (inU (cst (ρ 17) (ρ 16))).2) (h2 : (inU (cst (ρ 19) (ρ 18))).1 = (inU (cst (ρ 19) (ρ 18))).2) (hj : condS 160 true (BitVec.ofInt 64 (cst (ρ 17) (ρ 16))) (BitVec.ofInt 64 (cst (ρ 19) (ρ 18))) = false) : CallAt Tryz.prog 8 qw_A (qw_pH.map (instO (setR 20 (173) ρ))) (qv false) :=
  callR_ok noNG (hkJ3_ok false) noLoop_low (noLoop_ok _) jOrc 100000 300 (cs := [inU 0, inU 1, inU (cst (ρ 17) (ρ 16)), inU (cst (ρ 19) (ρ 18)), (b2i (condS 160 true (BitVec.ofInt 64 (cst (ρ 17) (ρ 16))) (BitVec.ofInt 64 (cst (ρ 19) (ρ 18)))), b2i false), inU 0, inU 0]) (by kernel_rfl) (by
    intro c hc
    simp only [List.mem_cons, List.not_mem_nil, or_false] at hc
    rcases hc with rfl | rfl | rfl | rfl | rfl | rfl | rfl
    · exact inU_0
    · exact inU_1
    · exact h1
    · exact h2
    · exact congrArg b2i hj
    · exact inU_0
    · exact inU_0)
theorem qwF_5 (ρ : Nat → Int) (h1 : (inU (cst (ρ 17) (ρ 16))).1 = (inU (cst (ρ 17) (ρ 16))).2) (h2 : (inU (cst (ρ 19) (ρ 18))).1 = (inU (cst (ρ 19) (ρ 18))).2) (hj : condS 176 true (BitVec.ofInt 64 (cst (ρ 17) (ρ 16))) (BitVec.ofInt 64 (cst (ρ 19) (ρ 18))) = false) : CallAt Tryz.prog 8 qw_A (qw_pH.map (instO (setR 20 (189) ρ))) (qv false) :=
  callR_ok noNG (hkJ3_ok false) noLoop_low (noLoop_ok _) jOrc 100000 300 (cs := [inU 0, inU 1, inU (cst (ρ 17) (ρ 16)), inU (cst (ρ 19) (ρ 18)), (b2i (condS 176 true (BitVec.ofInt 64 (cst (ρ 17) (ρ 16))) (BitVec.ofInt 64 (cst (ρ 19) (ρ 18)))), b2i false), inU 0, inU 0]) (by kernel_rfl) (by
    intro c hc
    simp only [List.mem_cons, List.not_mem_nil, or_false] at hc
    rcases hc with rfl | rfl | rfl | rfl | rfl | rfl | rfl
    · exact inU_0
    · exact inU_1
    · exact h1
    · exact h2
    · exact congrArg b2i hj
    · exact inU_0
    · exact inU_0)
theorem qwF_6 (ρ : Nat → Int) (h1 : (inU (cst (ρ 17) (ρ 16))).1 = (inU (cst (ρ 17) (ρ 16))).2) (h2 : (inU (cst (ρ 19) (ρ 18))).1 = (inU (cst (ρ 19) (ρ 18))).2) (hj : condS 96 true (BitVec.ofInt 64 (cst (ρ 17) (ρ 16))) (BitVec.ofInt 64 (cst (ρ 19) (ρ 18))) = false) : CallAt Tryz.prog 8 qw_A (qw_pH.map (instO (setR 20 (109) ρ))) (qv false) :=
  callR_ok noNG (hkJ3_ok false) noLoop_low (noLoop_ok _) jOrc 100000 300 (cs := [inU 0, inU 1, inU (cst (ρ 17) (ρ 16)), inU (cst (ρ 19) (ρ 18)), (b2i (condS 96 true (BitVec.ofInt 64 (cst (ρ 17) (ρ 16))) (BitVec.ofInt 64 (cst (ρ 19) (ρ 18)))), b2i false), inU 0, inU 0]) (by kernel_rfl) (by
    intro c hc
    simp only [List.mem_cons, List.not_mem_nil, or_false] at hc
    rcases hc with rfl | rfl | rfl | rfl | rfl | rfl | rfl
    · exact inU_0
    · exact inU_1
    · exact h1
    · exact h2
    · exact congrArg b2i hj
    · exact inU_0
    · exact inU_0)
theorem qwF_7 (ρ : Nat → Int) (h1 : (inU (cst (ρ 17) (ρ 16))).1 = (inU (cst (ρ 17) (ρ 16))).2) (h2 : (inU (cst (ρ 19) (ρ 18))).1 = (inU (cst (ρ 19) (ρ 18))).2) (hj : condS 112 true (BitVec.ofInt 64 (cst (ρ 17) (ρ 16))) (BitVec.ofInt 64 (cst (ρ 19) (ρ 18))) = false) : CallAt Tryz.prog 8 qw_A (qw_pH.map (instO (setR 20 (125) ρ))) (qv false) :=
  callR_ok noNG (hkJ3_ok false) noLoop_low (noLoop_ok _) jOrc 100000 300 (cs := [inU 0, inU 1, inU (cst (ρ 17) (ρ 16)), inU (cst (ρ 19) (ρ 18)), (b2i (condS 112 true (BitVec.ofInt 64 (cst (ρ 17) (ρ 16))) (BitVec.ofInt 64 (cst (ρ 19) (ρ 18)))), b2i false), inU 0, inU 0]) (by kernel_rfl) (by
    intro c hc
    simp only [List.mem_cons, List.not_mem_nil, or_false] at hc
    rcases hc with rfl | rfl | rfl | rfl | rfl | rfl | rfl
    · exact inU_0
    · exact inU_1
    · exact h1
    · exact h2
    · exact congrArg b2i hj
    · exact inU_0
    · exact inU_0)
theorem qwF_8 (ρ : Nat → Int) (h1 : (inU (cst (ρ 17) (ρ 16))).1 = (inU (cst (ρ 17) (ρ 16))).2) (h2 : (inU (cst (ρ 19) (ρ 18))).1 = (inU (cst (ρ 19) (ρ 18))).2) (hj : condS 192 true (BitVec.ofInt 64 (cst (ρ 17) (ρ 16))) (BitVec.ofInt 64 (cst (ρ 19) (ρ 18))) = false) : CallAt Tryz.prog 8 qw_A (qw_pH.map (instO (setR 20 (205) ρ))) (qv false) :=
  callR_ok noNG (hkJ3_ok false) noLoop_low (noLoop_ok _) jOrc 100000 300 (cs := [inU 0, inU 1, inU (cst (ρ 17) (ρ 16)), inU (cst (ρ 19) (ρ 18)), (b2i (condS 192 true (BitVec.ofInt 64 (cst (ρ 17) (ρ 16))) (BitVec.ofInt 64 (cst (ρ 19) (ρ 18)))), b2i false), inU 0, inU 0]) (by kernel_rfl) (by
    intro c hc
    simp only [List.mem_cons, List.not_mem_nil, or_false] at hc
    rcases hc with rfl | rfl | rfl | rfl | rfl | rfl | rfl
    · exact inU_0
    · exact inU_1
    · exact h1
    · exact h2
    · exact congrArg b2i hj
    · exact inU_0
    · exact inU_0)
theorem qwF_9 (ρ : Nat → Int) (h1 : (inU (cst (ρ 17) (ρ 16))).1 = (inU (cst (ρ 17) (ρ 16))).2) (h2 : (inU (cst (ρ 19) (ρ 18))).1 = (inU (cst (ρ 19) (ρ 18))).2) (hj : condS 208 true (BitVec.ofInt 64 (cst (ρ 17) (ρ 16))) (BitVec.ofInt 64 (cst (ρ 19) (ρ 18))) = false) : CallAt Tryz.prog 8 qw_A (qw_pH.map (instO (setR 20 (221) ρ))) (qv false) :=
  callR_ok noNG (hkJ3_ok false) noLoop_low (noLoop_ok _) jOrc 100000 300 (cs := [inU 0, inU 1, inU (cst (ρ 17) (ρ 16)), inU (cst (ρ 19) (ρ 18)), (b2i (condS 208 true (BitVec.ofInt 64 (cst (ρ 17) (ρ 16))) (BitVec.ofInt 64 (cst (ρ 19) (ρ 18)))), b2i false), inU 0, inU 0]) (by kernel_rfl) (by
    intro c hc
    simp only [List.mem_cons, List.not_mem_nil, or_false] at hc
    rcases hc with rfl | rfl | rfl | rfl | rfl | rfl | rfl
    · exact inU_0
    · exact inU_1
    · exact h1
    · exact h2
    · exact congrArg b2i hj
    · exact inU_0
    · exact inU_0)
theorem qwF_10 (ρ : Nat → Int) (h1 : (inU (cst (ρ 17) (ρ 16))).1 = (inU (cst (ρ 17) (ρ 16))).2) (h2 : (inU (cst (ρ 19) (ρ 18))).1 = (inU (cst (ρ 19) (ρ 18))).2) (hj : condS 64 true (BitVec.ofInt 64 (cst (ρ 17) (ρ 16))) (BitVec.ofInt 64 (cst (ρ 19) (ρ 18))) = false) : CallAt Tryz.prog 8 qw_A (qw_pH.map (instO (setR 20 (77) ρ))) (qv false) :=
  callR_ok noNG (hkJ3_ok false) noLoop_low (noLoop_ok _) jOrc 100000 300 (cs := [inU 0, inU 1, inU (cst (ρ 17) (ρ 16)), inU (cst (ρ 19) (ρ 18)), (b2i (condS 64 true (BitVec.ofInt 64 (cst (ρ 17) (ρ 16))) (BitVec.ofInt 64 (cst (ρ 19) (ρ 18)))), b2i false), inU 0, inU 0]) (by kernel_rfl) (by
    intro c hc
    simp only [List.mem_cons, List.not_mem_nil, or_false] at hc
    rcases hc with rfl | rfl | rfl | rfl | rfl | rfl | rfl
    · exact inU_0
    · exact inU_1
    · exact h1
    · exact h2
    · exact congrArg b2i hj
    · exact inU_0
    · exact inU_0)
noncomputable def qwF_E : CallW := ⟨8, qw_A, qw_pH, fun _ => qv false, fun ρ => [inU (cst (ρ 17) (ρ 16)), inU (cst (ρ 19) (ρ 18)), (b2i (condS ((ρ 20) - 13) true (BitVec.ofInt 64 (cst (ρ 17) (ρ 16))) (BitVec.ofInt 64 (cst (ρ 19) (ρ 18)))), b2i false), (b2i (op11 ((ρ 20) - 13)), 1)]⟩
theorem qwF_ok : CallWOk Tryz.prog qwF_E := by
  intro ρ hc
  have h1 := hc (inU (cst (ρ 17) (ρ 16))) (by simp [qwF_E])
  have h2 := hc (inU (cst (ρ 19) (ρ 18))) (by simp [qwF_E])
  have eA : qw_A.map (inst ρ 4) = qw_A := by kernel_rfl
  show CallAt Tryz.prog 8 (qw_A.map (inst ρ 4)) (qw_pH.map (instO ρ)) (qv false)
  rw [eA]
  have h3 : condS (ρ 20 - 13) true (BitVec.ofInt 64 (cst (ρ 17) (ρ 16))) (BitVec.ofInt 64 (cst (ρ 19) (ρ 18))) = false := b2i_inj (hc (b2i (condS (ρ 20 - 13) true (BitVec.ofInt 64 (cst (ρ 17) (ρ 16))) (BitVec.ofInt 64 (cst (ρ 19) (ρ 18)))), b2i false) (by simp [qwF_E]))
  have h4 : op11 (ρ 20 - 13) = true := b2i_inj (b := true) (hc (b2i (op11 (ρ 20 - 13)), 1) (by simp [qwF_E]))
  have hop : ρ 20 = 13 + (ρ 20 - 13) := by omega
  have hρ : ρ = setR 20 (13 + (ρ 20 - 13)) ρ := by
    funext j
    unfold setR
    cases hj : Nat.beq j 20 with
    | true => rw [Nat.eq_of_beq_eq_true hj]; exact hop
    | false => rfl
  have key := mem11 (P := fun y => condS y true (BitVec.ofInt 64 (cst (ρ 17) (ρ 16))) (BitVec.ofInt 64 (cst (ρ 19) (ρ 18))) = false → CallAt Tryz.prog 8 qw_A (qw_pH.map (instO (setR 20 (13 + y) ρ))) (qv false)) (ρ 20 - 13) h4 (fun h => qwF_0 ρ h1 h2 h) (fun h => qwF_1 ρ h1 h2 h) (fun h => qwF_2 ρ h1 h2 h) (fun h => qwF_3 ρ h1 h2 h) (fun h => qwF_4 ρ h1 h2 h) (fun h => qwF_5 ρ h1 h2 h) (fun h => qwF_6 ρ h1 h2 h) (fun h => qwF_7 ρ h1 h2 h) (fun h => qwF_8 ρ h1 h2 h) (fun h => qwF_9 ρ h1 h2 h) (fun h => qwF_10 ρ h1 h2 h) h3
  rw [← hρ] at key
  exact key
end Go.Proofs.YthhgfjnnconocaaGreatDoor.Ex
