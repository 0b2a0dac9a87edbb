/-
  Layer 10: a program whose condition of 32 bits does not hold.
-/
import Derived.Test.YthhgfjnnconocaaGreatDoorLaw10s0p
namespace Go.Proofs.YthhgfjnnconocaaGreatDoor.Ex
open Go Go.RowKit
set_option maxHeartbeats 0
set_option maxRecDepth 1000000
set_option linter.unusedVariables false
theorem pT6 {a b : Bool} (h : a = b) : ((b2i a, b2i b) : Int × Int).1 = ((b2i a, b2i b) : Int × Int).2 := congrArg b2i h
theorem qnF_0 (ρ : Nat → Int) (h1 : (inU (cst (ρ 41) (ρ 40))).1 = (inU (cst (ρ 41) (ρ 40))).2) (h2 : (inU (cst (ρ 43) (ρ 42))).1 = (inU (cst (ρ 43) (ρ 42))).2) (hj : condS 16 false (BitVec.ofInt 64 (cst (ρ 41) (ρ 40))) (BitVec.ofInt 64 (cst (ρ 43) (ρ 42))) = false) : CallAt Tryz.prog 8 qn_A (qn_pH.map (instO (setR 44 (30) ρ))) (qv false) :=
  callR_ok noNG (hkJ3_ok false) noLoop_low (noLoop_ok _) jOrc 100000 300 (cs := [inU 0, inU 1, inU (cst (ρ 41) (ρ 40)), inU (cst (ρ 43) (ρ 42)), (b2i (condS 16 false (BitVec.ofInt 64 (cst (ρ 41) (ρ 40))) (BitVec.ofInt 64 (cst (ρ 43) (ρ 42)))), b2i false), inU 0, inU 0]) (by kernel_rfl) (by
    intro c hc
    simp only [List.mem_cons, List.not_mem_nil, or_false] at hc
    rcases hc with rfl | rfl | rfl | rfl | rfl | rfl | rfl
    · exact inU_0
    · exact inU_1
    · exact h1
    · exact h2
    · exact pT6 hj
    · exact inU_0
    · exact inU_0)
theorem qnF_1 (ρ : Nat → Int) (h1 : (inU (cst (ρ 41) (ρ 40))).1 = (inU (cst (ρ 41) (ρ 40))).2) (h2 : (inU (cst (ρ 43) (ρ 42))).1 = (inU (cst (ρ 43) (ρ 42))).2) (hj : condS 80 false (BitVec.ofInt 64 (cst (ρ 41) (ρ 40))) (BitVec.ofInt 64 (cst (ρ 43) (ρ 42))) = false) : CallAt Tryz.prog 8 qn_A (qn_pH.map (instO (setR 44 (94) ρ))) (qv false) :=
  callR_ok noNG (hkJ3_ok false) noLoop_low (noLoop_ok _) jOrc 100000 300 (cs := [inU 0, inU 1, inU (cst (ρ 41) (ρ 40)), inU (cst (ρ 43) (ρ 42)), (b2i (condS 80 false (BitVec.ofInt 64 (cst (ρ 41) (ρ 40))) (BitVec.ofInt 64 (cst (ρ 43) (ρ 42)))), b2i false), inU 0, inU 0]) (by kernel_rfl) (by
    intro c hc
    simp only [List.mem_cons, List.not_mem_nil, or_false] at hc
    rcases hc with rfl | rfl | rfl | rfl | rfl | rfl | rfl
    · exact inU_0
    · exact inU_1
    · exact h1
    · exact h2
    · exact pT6 hj
    · exact inU_0
    · exact inU_0)
theorem qnF_2 (ρ : Nat → Int) (h1 : (inU (cst (ρ 41) (ρ 40))).1 = (inU (cst (ρ 41) (ρ 40))).2) (h2 : (inU (cst (ρ 43) (ρ 42))).1 = (inU (cst (ρ 43) (ρ 42))).2) (hj : condS 32 false (BitVec.ofInt 64 (cst (ρ 41) (ρ 40))) (BitVec.ofInt 64 (cst (ρ 43) (ρ 42))) = false) : CallAt Tryz.prog 8 qn_A (qn_pH.map (instO (setR 44 (46) ρ))) (qv false) :=
  callR_ok noNG (hkJ3_ok false) noLoop_low (noLoop_ok _) jOrc 100000 300 (cs := [inU 0, inU 1, inU (cst (ρ 41) (ρ 40)), inU (cst (ρ 43) (ρ 42)), (b2i (condS 32 false (BitVec.ofInt 64 (cst (ρ 41) (ρ 40))) (BitVec.ofInt 64 (cst (ρ 43) (ρ 42)))), b2i false), inU 0, inU 0]) (by kernel_rfl) (by
    intro c hc
    simp only [List.mem_cons, List.not_mem_nil, or_false] at hc
    rcases hc with rfl | rfl | rfl | rfl | rfl | rfl | rfl
    · exact inU_0
    · exact inU_1
    · exact h1
    · exact h2
    · exact pT6 hj
    · exact inU_0
    · exact inU_0)
theorem qnF_3 (ρ : Nat → Int) (h1 : (inU (cst (ρ 41) (ρ 40))).1 = (inU (cst (ρ 41) (ρ 40))).2) (h2 : (inU (cst (ρ 43) (ρ 42))).1 = (inU (cst (ρ 43) (ρ 42))).2) (hj : condS 48 false (BitVec.ofInt 64 (cst (ρ 41) (ρ 40))) (BitVec.ofInt 64 (cst (ρ 43) (ρ 42))) = false) : CallAt Tryz.prog 8 qn_A (qn_pH.map (instO (setR 44 (62) ρ))) (qv false) :=
  callR_ok noNG (hkJ3_ok false) noLoop_low (noLoop_ok _) jOrc 100000 300 (cs := [inU 0, inU 1, inU (cst (ρ 41) (ρ 40)), inU (cst (ρ 43) (ρ 42)), (b2i (condS 48 false (BitVec.ofInt 64 (cst (ρ 41) (ρ 40))) (BitVec.ofInt 64 (cst (ρ 43) (ρ 42)))), b2i false), inU 0, inU 0]) (by kernel_rfl) (by
    intro c hc
    simp only [List.mem_cons, List.not_mem_nil, or_false] at hc
    rcases hc with rfl | rfl | rfl | rfl | rfl | rfl | rfl
    · exact inU_0
    · exact inU_1
    · exact h1
    · exact h2
    · exact pT6 hj
    · exact inU_0
    · exact inU_0)
theorem qnF_4 (ρ : Nat → Int) (h1 : (inU (cst (ρ 41) (ρ 40))).1 = (inU (cst (ρ 41) (ρ 40))).2) (h2 : (inU (cst (ρ 43) (ρ 42))).1 = (inU (cst (ρ 43) (ρ 42))).2) (hj : condS 160 false (BitVec.ofInt 64 (cst (ρ 41) (ρ 40))) (BitVec.ofInt 64 (cst (ρ 43) (ρ 42))) = false) : CallAt Tryz.prog 8 qn_A (qn_pH.map (instO (setR 44 (174) ρ))) (qv false) :=
  callR_ok noNG (hkJ3_ok false) noLoop_low (noLoop_ok _) jOrc 100000 300 (cs := [inU 0, inU 1, inU (cst (ρ 41) (ρ 40)), inU (cst (ρ 43) (ρ 42)), (b2i (condS 160 false (BitVec.ofInt 64 (cst (ρ 41) (ρ 40))) (BitVec.ofInt 64 (cst (ρ 43) (ρ 42)))), b2i false), inU 0, inU 0]) (by kernel_rfl) (by
    intro c hc
    simp only [List.mem_cons, List.not_mem_nil, or_false] at hc
    rcases hc with rfl | rfl | rfl | rfl | rfl | rfl | rfl
    · exact inU_0
    · exact inU_1
    · exact h1
    · exact h2
    · exact pT6 hj
    · exact inU_0
    · exact inU_0)
theorem qnF_5 (ρ : Nat → Int) (h1 : (inU (cst (ρ 41) (ρ 40))).1 = (inU (cst (ρ 41) (ρ 40))).2) (h2 : (inU (cst (ρ 43) (ρ 42))).1 = (inU (cst (ρ 43) (ρ 42))).2) (hj : condS 176 false (BitVec.ofInt 64 (cst (ρ 41) (ρ 40))) (BitVec.ofInt 64 (cst (ρ 43) (ρ 42))) = false) : CallAt Tryz.prog 8 qn_A (qn_pH.map (instO (setR 44 (190) ρ))) (qv false) :=
  callR_ok noNG (hkJ3_ok false) noLoop_low (noLoop_ok _) jOrc 100000 300 (cs := [inU 0, inU 1, inU (cst (ρ 41) (ρ 40)), inU (cst (ρ 43) (ρ 42)), (b2i (condS 176 false (BitVec.ofInt 64 (cst (ρ 41) (ρ 40))) (BitVec.ofInt 64 (cst (ρ 43) (ρ 42)))), b2i false), inU 0, inU 0]) (by kernel_rfl) (by
    intro c hc
    simp only [List.mem_cons, List.not_mem_nil, or_false] at hc
    rcases hc with rfl | rfl | rfl | rfl | rfl | rfl | rfl
    · exact inU_0
    · exact inU_1
    · exact h1
    · exact h2
    · exact pT6 hj
    · exact inU_0
    · exact inU_0)
theorem qnF_6 (ρ : Nat → Int) (h1 : (inU (cst (ρ 41) (ρ 40))).1 = (inU (cst (ρ 41) (ρ 40))).2) (h2 : (inU (cst (ρ 43) (ρ 42))).1 = (inU (cst (ρ 43) (ρ 42))).2) (hj : condS 96 false (BitVec.ofInt 64 (cst (ρ 41) (ρ 40))) (BitVec.ofInt 64 (cst (ρ 43) (ρ 42))) = false) : CallAt Tryz.prog 8 qn_A (qn_pH.map (instO (setR 44 (110) ρ))) (qv false) :=
  callR_ok noNG (hkJ3_ok false) noLoop_low (noLoop_ok _) jOrc 100000 300 (cs := [inU 0, inU 1, inU (cst (ρ 41) (ρ 40)), inU (cst (ρ 43) (ρ 42)), (b2i (condS 96 false (BitVec.ofInt 64 (cst (ρ 41) (ρ 40))) (BitVec.ofInt 64 (cst (ρ 43) (ρ 42)))), b2i false), inU 0, inU 0]) (by kernel_rfl) (by
    intro c hc
    simp only [List.mem_cons, List.not_mem_nil, or_false] at hc
    rcases hc with rfl | rfl | rfl | rfl | rfl | rfl | rfl
    · exact inU_0
    · exact inU_1
    · exact h1
    · exact h2
    · exact pT6 hj
    · exact inU_0
    · exact inU_0)
theorem qnF_7 (ρ : Nat → Int) (h1 : (inU (cst (ρ 41) (ρ 40))).1 = (inU (cst (ρ 41) (ρ 40))).2) (h2 : (inU (cst (ρ 43) (ρ 42))).1 = (inU (cst (ρ 43) (ρ 42))).2) (hj : condS 112 false (BitVec.ofInt 64 (cst (ρ 41) (ρ 40))) (BitVec.ofInt 64 (cst (ρ 43) (ρ 42))) = false) : CallAt Tryz.prog 8 qn_A (qn_pH.map (instO (setR 44 (126) ρ))) (qv false) :=
  callR_ok noNG (hkJ3_ok false) noLoop_low (noLoop_ok _) jOrc 100000 300 (cs := [inU 0, inU 1, inU (cst (ρ 41) (ρ 40)), inU (cst (ρ 43) (ρ 42)), (b2i (condS 112 false (BitVec.ofInt 64 (cst (ρ 41) (ρ 40))) (BitVec.ofInt 64 (cst (ρ 43) (ρ 42)))), b2i false), inU 0, inU 0]) (by kernel_rfl) (by
    intro c hc
    simp only [List.mem_cons, List.not_mem_nil, or_false] at hc
    rcases hc with rfl | rfl | rfl | rfl | rfl | rfl | rfl
    · exact inU_0
    · exact inU_1
    · exact h1
    · exact h2
    · exact pT6 hj
    · exact inU_0
    · exact inU_0)
theorem qnF_8 (ρ : Nat → Int) (h1 : (inU (cst (ρ 41) (ρ 40))).1 = (inU (cst (ρ 41) (ρ 40))).2) (h2 : (inU (cst (ρ 43) (ρ 42))).1 = (inU (cst (ρ 43) (ρ 42))).2) (hj : condS 192 false (BitVec.ofInt 64 (cst (ρ 41) (ρ 40))) (BitVec.ofInt 64 (cst (ρ 43) (ρ 42))) = false) : CallAt Tryz.prog 8 qn_A (qn_pH.map (instO (setR 44 (206) ρ))) (qv false) :=
  callR_ok noNG (hkJ3_ok false) noLoop_low (noLoop_ok _) jOrc 100000 300 (cs := [inU 0, inU 1, inU (cst (ρ 41) (ρ 40)), inU (cst (ρ 43) (ρ 42)), (b2i (condS 192 false (BitVec.ofInt 64 (cst (ρ 41) (ρ 40))) (BitVec.ofInt 64 (cst (ρ 43) (ρ 42)))), b2i false), inU 0, inU 0]) (by kernel_rfl) (by
    intro c hc
    simp only [List.mem_cons, List.not_mem_nil, or_false] at hc
    rcases hc with rfl | rfl | rfl | rfl | rfl | rfl | rfl
    · exact inU_0
    · exact inU_1
    · exact h1
    · exact h2
    · exact pT6 hj
    · exact inU_0
    · exact inU_0)
theorem qnF_9 (ρ : Nat → Int) (h1 : (inU (cst (ρ 41) (ρ 40))).1 = (inU (cst (ρ 41) (ρ 40))).2) (h2 : (inU (cst (ρ 43) (ρ 42))).1 = (inU (cst (ρ 43) (ρ 42))).2) (hj : condS 208 false (BitVec.ofInt 64 (cst (ρ 41) (ρ 40))) (BitVec.ofInt 64 (cst (ρ 43) (ρ 42))) = false) : CallAt Tryz.prog 8 qn_A (qn_pH.map (instO (setR 44 (222) ρ))) (qv false) :=
  callR_ok noNG (hkJ3_ok false) noLoop_low (noLoop_ok _) jOrc 100000 300 (cs := [inU 0, inU 1, inU (cst (ρ 41) (ρ 40)), inU (cst (ρ 43) (ρ 42)), (b2i (condS 208 false (BitVec.ofInt 64 (cst (ρ 41) (ρ 40))) (BitVec.ofInt 64 (cst (ρ 43) (ρ 42)))), b2i false), inU 0, inU 0]) (by kernel_rfl) (by
    intro c hc
    simp only [List.mem_cons, List.not_mem_nil, or_false] at hc
    rcases hc with rfl | rfl | rfl | rfl | rfl | rfl | rfl
    · exact inU_0
    · exact inU_1
    · exact h1
    · exact h2
    · exact pT6 hj
    · exact inU_0
    · exact inU_0)
theorem qnF_10 (ρ : Nat → Int) (h1 : (inU (cst (ρ 41) (ρ 40))).1 = (inU (cst (ρ 41) (ρ 40))).2) (h2 : (inU (cst (ρ 43) (ρ 42))).1 = (inU (cst (ρ 43) (ρ 42))).2) (hj : condS 64 false (BitVec.ofInt 64 (cst (ρ 41) (ρ 40))) (BitVec.ofInt 64 (cst (ρ 43) (ρ 42))) = false) : CallAt Tryz.prog 8 qn_A (qn_pH.map (instO (setR 44 (78) ρ))) (qv false) :=
  callR_ok noNG (hkJ3_ok false) noLoop_low (noLoop_ok _) jOrc 100000 300 (cs := [inU 0, inU 1, inU (cst (ρ 41) (ρ 40)), inU (cst (ρ 43) (ρ 42)), (b2i (condS 64 false (BitVec.ofInt 64 (cst (ρ 41) (ρ 40))) (BitVec.ofInt 64 (cst (ρ 43) (ρ 42)))), b2i false), inU 0, inU 0]) (by kernel_rfl) (by
    intro c hc
    simp only [List.mem_cons, List.not_mem_nil, or_false] at hc
    rcases hc with rfl | rfl | rfl | rfl | rfl | rfl | rfl
    · exact inU_0
    · exact inU_1
    · exact h1
    · exact h2
    · exact pT6 hj
    · exact inU_0
    · exact inU_0)
noncomputable def qnF_E : CallW := ⟨8, qn_A, qn_pH, fun _ => qv false, fun ρ => [inU (cst (ρ 41) (ρ 40)), inU (cst (ρ 43) (ρ 42)), (b2i (condS ((ρ 44) - 14) false (BitVec.ofInt 64 (cst (ρ 41) (ρ 40))) (BitVec.ofInt 64 (cst (ρ 43) (ρ 42)))), b2i false), (b2i (op11 ((ρ 44) - 14)), 1)]⟩
theorem qnF_ok : CallWOk Tryz.prog qnF_E := by
  intro ρ hc
  have h1 := hc (inU (cst (ρ 41) (ρ 40))) (by simp [qnF_E])
  have h2 := hc (inU (cst (ρ 43) (ρ 42))) (by simp [qnF_E])
  have eA : qn_A.map (inst ρ 4) = qn_A := by kernel_rfl
  show CallAt Tryz.prog 8 (qn_A.map (inst ρ 4)) (qn_pH.map (instO ρ)) (qv false)
  rw [eA]
  have h3 : condS (ρ 44 - 14) false (BitVec.ofInt 64 (cst (ρ 41) (ρ 40))) (BitVec.ofInt 64 (cst (ρ 43) (ρ 42))) = false := b2i_inj (hc (b2i (condS (ρ 44 - 14) false (BitVec.ofInt 64 (cst (ρ 41) (ρ 40))) (BitVec.ofInt 64 (cst (ρ 43) (ρ 42)))), b2i false) (by simp [qnF_E]))
  have h4 : op11 (ρ 44 - 14) = true := b2i_inj (b := true) (hc (b2i (op11 (ρ 44 - 14)), 1) (by simp [qnF_E]))
  have hop : ρ 44 = 14 + (ρ 44 - 14) := by omega
  have hρ : ρ = setR 44 (14 + (ρ 44 - 14)) ρ := by
    funext j
    unfold setR
    cases hj : Nat.beq j 44 with
    | true => rw [Nat.eq_of_beq_eq_true hj]; exact hop
    | false => rfl
  have key := mem11 (P := fun y => condS y false (BitVec.ofInt 64 (cst (ρ 41) (ρ 40))) (BitVec.ofInt 64 (cst (ρ 43) (ρ 42))) = false → CallAt Tryz.prog 8 qn_A (qn_pH.map (instO (setR 44 (14 + y) ρ))) (qv false)) (ρ 44 - 14) h4 (fun h => qnF_0 ρ h1 h2 h) (fun h => qnF_1 ρ h1 h2 h) (fun h => qnF_2 ρ h1 h2 h) (fun h => qnF_3 ρ h1 h2 h) (fun h => qnF_4 ρ h1 h2 h) (fun h => qnF_5 ρ h1 h2 h) (fun h => qnF_6 ρ h1 h2 h) (fun h => qnF_7 ρ h1 h2 h) (fun h => qnF_8 ρ h1 h2 h) (fun h => qnF_9 ρ h1 h2 h) (fun h => qnF_10 ρ h1 h2 h) h3
  rw [← hρ] at key
  exact key
end Go.Proofs.YthhgfjnnconocaaGreatDoor.Ex
