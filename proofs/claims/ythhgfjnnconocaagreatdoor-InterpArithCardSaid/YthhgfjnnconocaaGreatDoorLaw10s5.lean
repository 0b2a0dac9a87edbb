/-
  Layer 10: a program whose condition of 32 bits holds.
-/
import Derived.Test.YthhgfjnnconocaaGreatDoorLaw10s0p
namespace Go.Proofs.YthhgfjnnconocaaGreatDoor.Ex
open Go Go.RowKit
set_option maxHeartbeats 0
set_option maxRecDepth 1000000
set_option linter.unusedVariables false
theorem pT5 {a b : Bool} (h : a = b) : ((b2i a, b2i b) : Int × Int).1 = ((b2i a, b2i b) : Int × Int).2 := congrArg b2i h
theorem qnT_0 (ρ : Nat → Int) (h1 : (inU (cst (ρ 41) (ρ 40))).1 = (inU (cst (ρ 41) (ρ 40))).2) (h2 : (inU (cst (ρ 43) (ρ 42))).1 = (inU (cst (ρ 43) (ρ 42))).2) (hj : condS 16 false (BitVec.ofInt 64 (cst (ρ 41) (ρ 40))) (BitVec.ofInt 64 (cst (ρ 43) (ρ 42))) = true) : CallAt Tryz.prog 8 qn_A (qn_pH.map (instO (setR 44 (30) ρ))) (qv true) :=
  callR_ok noNG (hkJ3_ok true) noLoop_low (noLoop_ok _) jOrc 100000 300 (cs := [inU 0, inU 1, inU (cst (ρ 41) (ρ 40)), inU (cst (ρ 43) (ρ 42)), (b2i (condS 16 false (BitVec.ofInt 64 (cst (ρ 41) (ρ 40))) (BitVec.ofInt 64 (cst (ρ 43) (ρ 42)))), b2i true)]) (by kernel_rfl) (by
    intro c hc
    simp only [List.mem_cons, List.not_mem_nil, or_false] at hc
    rcases hc with rfl | rfl | rfl | rfl | rfl
    · exact inU_0
    · exact inU_1
    · exact h1
    · exact h2
    · exact pT5 hj)
theorem qnT_1 (ρ : Nat → Int) (h1 : (inU (cst (ρ 41) (ρ 40))).1 = (inU (cst (ρ 41) (ρ 40))).2) (h2 : (inU (cst (ρ 43) (ρ 42))).1 = (inU (cst (ρ 43) (ρ 42))).2) (hj : condS 80 false (BitVec.ofInt 64 (cst (ρ 41) (ρ 40))) (BitVec.ofInt 64 (cst (ρ 43) (ρ 42))) = true) : CallAt Tryz.prog 8 qn_A (qn_pH.map (instO (setR 44 (94) ρ))) (qv true) :=
  callR_ok noNG (hkJ3_ok true) noLoop_low (noLoop_ok _) jOrc 100000 300 (cs := [inU 0, inU 1, inU (cst (ρ 41) (ρ 40)), inU (cst (ρ 43) (ρ 42)), (b2i (condS 80 false (BitVec.ofInt 64 (cst (ρ 41) (ρ 40))) (BitVec.ofInt 64 (cst (ρ 43) (ρ 42)))), b2i true)]) (by kernel_rfl) (by
    intro c hc
    simp only [List.mem_cons, List.not_mem_nil, or_false] at hc
    rcases hc with rfl | rfl | rfl | rfl | rfl
    · exact inU_0
    · exact inU_1
    · exact h1
    · exact h2
    · exact pT5 hj)
theorem qnT_2 (ρ : Nat → Int) (h1 : (inU (cst (ρ 41) (ρ 40))).1 = (inU (cst (ρ 41) (ρ 40))).2) (h2 : (inU (cst (ρ 43) (ρ 42))).1 = (inU (cst (ρ 43) (ρ 42))).2) (hj : condS 32 false (BitVec.ofInt 64 (cst (ρ 41) (ρ 40))) (BitVec.ofInt 64 (cst (ρ 43) (ρ 42))) = true) : CallAt Tryz.prog 8 qn_A (qn_pH.map (instO (setR 44 (46) ρ))) (qv true) :=
  callR_ok noNG (hkJ3_ok true) noLoop_low (noLoop_ok _) jOrc 100000 300 (cs := [inU 0, inU 1, inU (cst (ρ 41) (ρ 40)), inU (cst (ρ 43) (ρ 42)), (b2i (condS 32 false (BitVec.ofInt 64 (cst (ρ 41) (ρ 40))) (BitVec.ofInt 64 (cst (ρ 43) (ρ 42)))), b2i true)]) (by kernel_rfl) (by
    intro c hc
    simp only [List.mem_cons, List.not_mem_nil, or_false] at hc
    rcases hc with rfl | rfl | rfl | rfl | rfl
    · exact inU_0
    · exact inU_1
    · exact h1
    · exact h2
    · exact pT5 hj)
theorem qnT_3 (ρ : Nat → Int) (h1 : (inU (cst (ρ 41) (ρ 40))).1 = (inU (cst (ρ 41) (ρ 40))).2) (h2 : (inU (cst (ρ 43) (ρ 42))).1 = (inU (cst (ρ 43) (ρ 42))).2) (hj : condS 48 false (BitVec.ofInt 64 (cst (ρ 41) (ρ 40))) (BitVec.ofInt 64 (cst (ρ 43) (ρ 42))) = true) : CallAt Tryz.prog 8 qn_A (qn_pH.map (instO (setR 44 (62) ρ))) (qv true) :=
  callR_ok noNG (hkJ3_ok true) noLoop_low (noLoop_ok _) jOrc 100000 300 (cs := [inU 0, inU 1, inU (cst (ρ 41) (ρ 40)), inU (cst (ρ 43) (ρ 42)), (b2i (condS 48 false (BitVec.ofInt 64 (cst (ρ 41) (ρ 40))) (BitVec.ofInt 64 (cst (ρ 43) (ρ 42)))), b2i true)]) (by kernel_rfl) (by
    intro c hc
    simp only [List.mem_cons, List.not_mem_nil, or_false] at hc
    rcases hc with rfl | rfl | rfl | rfl | rfl
    · exact inU_0
    · exact inU_1
    · exact h1
    · exact h2
    · exact pT5 hj)
theorem qnT_4 (ρ : Nat → Int) (h1 : (inU (cst (ρ 41) (ρ 40))).1 = (inU (cst (ρ 41) (ρ 40))).2) (h2 : (inU (cst (ρ 43) (ρ 42))).1 = (inU (cst (ρ 43) (ρ 42))).2) (hj : condS 160 false (BitVec.ofInt 64 (cst (ρ 41) (ρ 40))) (BitVec.ofInt 64 (cst (ρ 43) (ρ 42))) = true) : CallAt Tryz.prog 8 qn_A (qn_pH.map (instO (setR 44 (174) ρ))) (qv true) :=
  callR_ok noNG (hkJ3_ok true) noLoop_low (noLoop_ok _) jOrc 100000 300 (cs := [inU 0, inU 1, inU (cst (ρ 41) (ρ 40)), inU (cst (ρ 43) (ρ 42)), (b2i (condS 160 false (BitVec.ofInt 64 (cst (ρ 41) (ρ 40))) (BitVec.ofInt 64 (cst (ρ 43) (ρ 42)))), b2i true)]) (by kernel_rfl) (by
    intro c hc
    simp only [List.mem_cons, List.not_mem_nil, or_false] at hc
    rcases hc with rfl | rfl | rfl | rfl | rfl
    · exact inU_0
    · exact inU_1
    · exact h1
    · exact h2
    · exact pT5 hj)
theorem qnT_5 (ρ : Nat → Int) (h1 : (inU (cst (ρ 41) (ρ 40))).1 = (inU (cst (ρ 41) (ρ 40))).2) (h2 : (inU (cst (ρ 43) (ρ 42))).1 = (inU (cst (ρ 43) (ρ 42))).2) (hj : condS 176 false (BitVec.ofInt 64 (cst (ρ 41) (ρ 40))) (BitVec.ofInt 64 (cst (ρ 43) (ρ 42))) = true) : CallAt Tryz.prog 8 qn_A (qn_pH.map (instO (setR 44 (190) ρ))) (qv true) :=
  callR_ok noNG (hkJ3_ok true) noLoop_low (noLoop_ok _) jOrc 100000 300 (cs := [inU 0, inU 1, inU (cst (ρ 41) (ρ 40)), inU (cst (ρ 43) (ρ 42)), (b2i (condS 176 false (BitVec.ofInt 64 (cst (ρ 41) (ρ 40))) (BitVec.ofInt 64 (cst (ρ 43) (ρ 42)))), b2i true)]) (by kernel_rfl) (by
    intro c hc
    simp only [List.mem_cons, List.not_mem_nil, or_false] at hc
    rcases hc with rfl | rfl | rfl | rfl | rfl
    · exact inU_0
    · exact inU_1
    · exact h1
    · exact h2
    · exact pT5 hj)
theorem qnT_6 (ρ : Nat → Int) (h1 : (inU (cst (ρ 41) (ρ 40))).1 = (inU (cst (ρ 41) (ρ 40))).2) (h2 : (inU (cst (ρ 43) (ρ 42))).1 = (inU (cst (ρ 43) (ρ 42))).2) (hj : condS 96 false (BitVec.ofInt 64 (cst (ρ 41) (ρ 40))) (BitVec.ofInt 64 (cst (ρ 43) (ρ 42))) = true) : CallAt Tryz.prog 8 qn_A (qn_pH.map (instO (setR 44 (110) ρ))) (qv true) :=
  callR_ok noNG (hkJ3_ok true) noLoop_low (noLoop_ok _) jOrc 100000 300 (cs := [inU 0, inU 1, inU (cst (ρ 41) (ρ 40)), inU (cst (ρ 43) (ρ 42)), (b2i (condS 96 false (BitVec.ofInt 64 (cst (ρ 41) (ρ 40))) (BitVec.ofInt 64 (cst (ρ 43) (ρ 42)))), b2i true)]) (by kernel_rfl) (by
    intro c hc
    simp only [List.mem_cons, List.not_mem_nil, or_false] at hc
    rcases hc with rfl | rfl | rfl | rfl | rfl
    · exact inU_0
    · exact inU_1
    · exact h1
    · exact h2
    · exact pT5 hj)
theorem qnT_7 (ρ : Nat → Int) (h1 : (inU (cst (ρ 41) (ρ 40))).1 = (inU (cst (ρ 41) (ρ 40))).2) (h2 : (inU (cst (ρ 43) (ρ 42))).1 = (inU (cst (ρ 43) (ρ 42))).2) (hj : condS 112 false (BitVec.ofInt 64 (cst (ρ 41) (ρ 40))) (BitVec.ofInt 64 (cst (ρ 43) (ρ 42))) = true) : CallAt Tryz.prog 8 qn_A (qn_pH.map (instO (setR 44 (126) ρ))) (qv true) :=
  callR_ok noNG (hkJ3_ok true) noLoop_low (noLoop_ok _) jOrc 100000 300 (cs := [inU 0, inU 1, inU (cst (ρ 41) (ρ 40)), inU (cst (ρ 43) (ρ 42)), (b2i (condS 112 false (BitVec.ofInt 64 (cst (ρ 41) (ρ 40))) (BitVec.ofInt 64 (cst (ρ 43) (ρ 42)))), b2i true)]) (by kernel_rfl) (by
    intro c hc
    simp only [List.mem_cons, List.not_mem_nil, or_false] at hc
    rcases hc with rfl | rfl | rfl | rfl | rfl
    · exact inU_0
    · exact inU_1
    · exact h1
    · exact h2
    · exact pT5 hj)
theorem qnT_8 (ρ : Nat → Int) (h1 : (inU (cst (ρ 41) (ρ 40))).1 = (inU (cst (ρ 41) (ρ 40))).2) (h2 : (inU (cst (ρ 43) (ρ 42))).1 = (inU (cst (ρ 43) (ρ 42))).2) (hj : condS 192 false (BitVec.ofInt 64 (cst (ρ 41) (ρ 40))) (BitVec.ofInt 64 (cst (ρ 43) (ρ 42))) = true) : CallAt Tryz.prog 8 qn_A (qn_pH.map (instO (setR 44 (206) ρ))) (qv true) :=
  callR_ok noNG (hkJ3_ok true) noLoop_low (noLoop_ok _) jOrc 100000 300 (cs := [inU 0, inU 1, inU (cst (ρ 41) (ρ 40)), inU (cst (ρ 43) (ρ 42)), (b2i (condS 192 false (BitVec.ofInt 64 (cst (ρ 41) (ρ 40))) (BitVec.ofInt 64 (cst (ρ 43) (ρ 42)))), b2i true)]) (by kernel_rfl) (by
    intro c hc
    simp only [List.mem_cons, List.not_mem_nil, or_false] at hc
    rcases hc with rfl | rfl | rfl | rfl | rfl
    · exact inU_0
    · exact inU_1
    · exact h1
    · exact h2
    · exact pT5 hj)
theorem qnT_9 (ρ : Nat → Int) (h1 : (inU (cst (ρ 41) (ρ 40))).1 = (inU (cst (ρ 41) (ρ 40))).2) (h2 : (inU (cst (ρ 43) (ρ 42))).1 = (inU (cst (ρ 43) (ρ 42))).2) (hj : condS 208 false (BitVec.ofInt 64 (cst (ρ 41) (ρ 40))) (BitVec.ofInt 64 (cst (ρ 43) (ρ 42))) = true) : CallAt Tryz.prog 8 qn_A (qn_pH.map (instO (setR 44 (222) ρ))) (qv true) :=
  callR_ok noNG (hkJ3_ok true) noLoop_low (noLoop_ok _) jOrc 100000 300 (cs := [inU 0, inU 1, inU (cst (ρ 41) (ρ 40)), inU (cst (ρ 43) (ρ 42)), (b2i (condS 208 false (BitVec.ofInt 64 (cst (ρ 41) (ρ 40))) (BitVec.ofInt 64 (cst (ρ 43) (ρ 42)))), b2i true)]) (by kernel_rfl) (by
    intro c hc
    simp only [List.mem_cons, List.not_mem_nil, or_false] at hc
    rcases hc with rfl | rfl | rfl | rfl | rfl
    · exact inU_0
    · exact inU_1
    · exact h1
    · exact h2
    · exact pT5 hj)
theorem qnT_10 (ρ : Nat → Int) (h1 : (inU (cst (ρ 41) (ρ 40))).1 = (inU (cst (ρ 41) (ρ 40))).2) (h2 : (inU (cst (ρ 43) (ρ 42))).1 = (inU (cst (ρ 43) (ρ 42))).2) (hj : condS 64 false (BitVec.ofInt 64 (cst (ρ 41) (ρ 40))) (BitVec.ofInt 64 (cst (ρ 43) (ρ 42))) = true) : CallAt Tryz.prog 8 qn_A (qn_pH.map (instO (setR 44 (78) ρ))) (qv true) :=
  callR_ok noNG (hkJ3_ok true) noLoop_low (noLoop_ok _) jOrc 100000 300 (cs := [inU 0, inU 1, inU (cst (ρ 41) (ρ 40)), inU (cst (ρ 43) (ρ 42)), (b2i (condS 64 false (BitVec.ofInt 64 (cst (ρ 41) (ρ 40))) (BitVec.ofInt 64 (cst (ρ 43) (ρ 42)))), b2i true)]) (by kernel_rfl) (by
    intro c hc
    simp only [List.mem_cons, List.not_mem_nil, or_false] at hc
    rcases hc with rfl | rfl | rfl | rfl | rfl
    · exact inU_0
    · exact inU_1
    · exact h1
    · exact h2
    · exact pT5 hj)
noncomputable def qnT_E : CallW := ⟨8, qn_A, qn_pH, fun _ => qv true, fun ρ => [inU (cst (ρ 41) (ρ 40)), inU (cst (ρ 43) (ρ 42)), (b2i (condS ((ρ 44) - 14) false (BitVec.ofInt 64 (cst (ρ 41) (ρ 40))) (BitVec.ofInt 64 (cst (ρ 43) (ρ 42)))), b2i true), (b2i (op11 ((ρ 44) - 14)), 1)]⟩
theorem qnT_ok : CallWOk Tryz.prog qnT_E := by
  intro ρ hc
  have h1 := hc (inU (cst (ρ 41) (ρ 40))) (by simp [qnT_E])
  have h2 := hc (inU (cst (ρ 43) (ρ 42))) (by simp [qnT_E])
  have eA : qn_A.map (inst ρ 4) = qn_A := by kernel_rfl
  show CallAt Tryz.prog 8 (qn_A.map (inst ρ 4)) (qn_pH.map (instO ρ)) (qv true)
  rw [eA]
  have h3 : condS (ρ 44 - 14) false (BitVec.ofInt 64 (cst (ρ 41) (ρ 40))) (BitVec.ofInt 64 (cst (ρ 43) (ρ 42))) = true := b2i_inj (hc (b2i (condS (ρ 44 - 14) false (BitVec.ofInt 64 (cst (ρ 41) (ρ 40))) (BitVec.ofInt 64 (cst (ρ 43) (ρ 42)))), b2i true) (by simp [qnT_E]))
  have h4 : op11 (ρ 44 - 14) = true := b2i_inj (b := true) (hc (b2i (op11 (ρ 44 - 14)), 1) (by simp [qnT_E]))
  have hop : ρ 44 = 14 + (ρ 44 - 14) := by omega
  have hρ : ρ = setR 44 (14 + (ρ 44 - 14)) ρ := by
    funext j
    unfold setR
    cases hj : Nat.beq j 44 with
    | true => rw [Nat.eq_of_beq_eq_true hj]; exact hop
    | false => rfl
  have key := mem11 (P := fun y => condS y false (BitVec.ofInt 64 (cst (ρ 41) (ρ 40))) (BitVec.ofInt 64 (cst (ρ 43) (ρ 42))) = true → CallAt Tryz.prog 8 qn_A (qn_pH.map (instO (setR 44 (14 + y) ρ))) (qv true)) (ρ 44 - 14) h4 (fun h => qnT_0 ρ h1 h2 h) (fun h => qnT_1 ρ h1 h2 h) (fun h => qnT_2 ρ h1 h2 h) (fun h => qnT_3 ρ h1 h2 h) (fun h => qnT_4 ρ h1 h2 h) (fun h => qnT_5 ρ h1 h2 h) (fun h => qnT_6 ρ h1 h2 h) (fun h => qnT_7 ρ h1 h2 h) (fun h => qnT_8 ρ h1 h2 h) (fun h => qnT_9 ρ h1 h2 h) (fun h => qnT_10 ρ h1 h2 h) h3
  rw [← hρ] at key
  exact key
end Go.Proofs.YthhgfjnnconocaaGreatDoor.Ex
