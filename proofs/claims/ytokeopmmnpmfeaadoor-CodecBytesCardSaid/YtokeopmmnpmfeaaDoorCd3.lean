/-
  Layer 11: firewallref11.Valid, kind by kind.
-/
import Derived.Test.YtokeopmmnpmfeaaDoorCd2
namespace Go.Proofs.YtokeopmmnpmfeaaDoor.Ex
set_option maxRecDepth 20000

open Go Go.RowKit
set_option linter.unusedVariables false
set_option linter.unusedSimpArgs false
set_option maxHeartbeats 0
set_option maxRecDepth 1000000
variable (al co si : Int) (wi sh : Bool) (ds sr dp re im : Int)
def vR1 : Bool := (true) && (eqD (xA 1 al co si wi sh ds sr dp re im) (xA 1 0 0 0 wi false ds sr 0 0 0) && (regS ds && regS sr))
theorem c_r1 (w : World) : Calls Tryd.prog 31 #[.agg ⟨(xA 1 al co si wi sh ds sr dp re im)⟩] w fun e w' => e = .returned (.bool (vR1 al co si wi sh ds sr dp re im)) ∧ Gr w w' :=
  treeOk hkR1_ok (.k 31 220 (eqD (xA 1 al co si wi sh ds sr dp re im) (xA 1 0 0 0 wi false ds sr 0 0 0)) (.k 31 225 (regS ds) (.r (regS sr)) (.r false)) (.r false)) (by simp only [DT.ev, vR1, shiftS, relS, szR] <;> cases (eqD (xA 1 al co si wi sh ds sr dp re im) (xA 1 0 0 0 wi false ds sr 0 0 0)) <;> cases (regS ds) <;> cases (regS sr) <;> rfl) (Laid.nil w)
def vR2 : Bool := (wordS im) && (eqD (xA 2 al co si wi sh ds sr dp re im) (xA 2 0 0 0 true false ds 0 0 0 im) && (regS ds && regS sr))
theorem c_r2 (w : World) : Calls Tryd.prog 31 #[.agg ⟨(xA 2 al co si wi sh ds sr dp re im)⟩] w fun e w' => e = .returned (.bool (vR2 al co si wi sh ds sr dp re im)) ∧ Gr w w' :=
  treeOk hkR1_ok (.k 31 215 (wordS im) (.k 31 220 (eqD (xA 2 al co si wi sh ds sr dp re im) (xA 2 0 0 0 true false ds 0 0 0 im)) (.k 31 225 (regS ds) (.r (regS sr)) (.r false)) (.r false)) (.r false)) (by simp only [DT.ev, vR2, shiftS, relS, szR] <;> cases (wordS im) <;> cases (eqD (xA 2 al co si wi sh ds sr dp re im) (xA 2 0 0 0 true false ds 0 0 0 im)) <;> cases (regS ds) <;> cases (regS sr) <;> rfl) (Laid.nil w)
def vR3 : Bool := (true) && (eqD (xA 3 al co si wi sh ds sr dp re im) (xA 3 0 0 0 true false ds 0 0 0 im) && (regS ds && regS sr))
theorem c_r3 (w : World) : Calls Tryd.prog 31 #[.agg ⟨(xA 3 al co si wi sh ds sr dp re im)⟩] w fun e w' => e = .returned (.bool (vR3 al co si wi sh ds sr dp re im)) ∧ Gr w w' :=
  treeOk hkR1_ok (.k 31 220 (eqD (xA 3 al co si wi sh ds sr dp re im) (xA 3 0 0 0 true false ds 0 0 0 im)) (.k 31 225 (regS ds) (.r (regS sr)) (.r false)) (.r false)) (by simp only [DT.ev, vR3, shiftS, relS, szR] <;> cases (eqD (xA 3 al co si wi sh ds sr dp re im) (xA 3 0 0 0 true false ds 0 0 0 im)) <;> cases (regS ds) <;> cases (regS sr) <;> rfl) (Laid.nil w)
def vR4 : Bool := (aluOk al) && (eqD (xA 4 al co si wi sh ds sr dp re im) (xA 4 al 0 0 wi false ds sr 0 0 0) && (regS ds && regS sr))
theorem c_r4 (w : World) : Calls Tryd.prog 31 #[.agg ⟨(xA 4 al co si wi sh ds sr dp re im)⟩] w fun e w' => e = .returned (.bool (vR4 al co si wi sh ds sr dp re im)) ∧ Gr w w' :=
  treeOk hkR1_ok (.k 31 215 (aluOk al) (.k 31 220 (eqD (xA 4 al co si wi sh ds sr dp re im) (xA 4 al 0 0 wi false ds sr 0 0 0)) (.k 31 225 (regS ds) (.r (regS sr)) (.r false)) (.r false)) (.r false)) (by simp only [DT.ev, vR4, shiftS, relS, szR] <;> cases (aluOk al) <;> cases (eqD (xA 4 al co si wi sh ds sr dp re im) (xA 4 al 0 0 wi false ds sr 0 0 0)) <;> cases (regS ds) <;> cases (regS sr) <;> rfl) (Laid.nil w)
def vR5 : Bool := (aluOk al && wordS im) && (eqD (xA 5 al co si wi sh ds sr dp re im) (xA 5 al 0 0 wi false ds 0 0 0 im) && (regS ds && regS sr))
theorem c_r5 (w : World) : Calls Tryd.prog 31 #[.agg ⟨(xA 5 al co si wi sh ds sr dp re im)⟩] w fun e w' => e = .returned (.bool (vR5 al co si wi sh ds sr dp re im)) ∧ Gr w w' :=
  treeOk hkR1_ok (.k 31 57 (aluOk al) (.k 31 215 (wordS im) (.k 31 220 (eqD (xA 5 al co si wi sh ds sr dp re im) (xA 5 al 0 0 wi false ds 0 0 0 im)) (.k 31 225 (regS ds) (.r (regS sr)) (.r false)) (.r false)) (.r false)) (.r false)) (by simp only [DT.ev, vR5, shiftS, relS, szR] <;> cases (aluOk al) <;> cases (wordS im) <;> cases (eqD (xA 5 al co si wi sh ds sr dp re im) (xA 5 al 0 0 wi false ds 0 0 0 im)) <;> cases (regS ds) <;> cases (regS sr) <;> rfl) (Laid.nil w)
def vR6 : Bool := (true) && (eqD (xA 6 al co si wi sh ds sr dp re im) (xA 6 0 0 0 wi false ds sr 0 0 0) && (regS ds && regS sr))
theorem c_r6 (w : World) : Calls Tryd.prog 31 #[.agg ⟨(xA 6 al co si wi sh ds sr dp re im)⟩] w fun e w' => e = .returned (.bool (vR6 al co si wi sh ds sr dp re im)) ∧ Gr w w' :=
  treeOk hkR1_ok (.k 31 220 (eqD (xA 6 al co si wi sh ds sr dp re im) (xA 6 0 0 0 wi false ds sr 0 0 0)) (.k 31 225 (regS ds) (.r (regS sr)) (.r false)) (.r false)) (by simp only [DT.ev, vR6, shiftS, relS, szR] <;> cases (eqD (xA 6 al co si wi sh ds sr dp re im) (xA 6 0 0 0 wi false ds sr 0 0 0)) <;> cases (regS ds) <;> cases (regS sr) <;> rfl) (Laid.nil w)
def vR7 : Bool := (true) && (eqD (xA 7 al co si wi sh ds sr dp re im) (xA 7 0 0 0 wi false ds 0 0 0 0) && (regS ds && regS sr))
theorem c_r7 (w : World) : Calls Tryd.prog 31 #[.agg ⟨(xA 7 al co si wi sh ds sr dp re im)⟩] w fun e w' => e = .returned (.bool (vR7 al co si wi sh ds sr dp re im)) ∧ Gr w w' :=
  treeOk hkR1_ok (.k 31 220 (eqD (xA 7 al co si wi sh ds sr dp re im) (xA 7 0 0 0 wi false ds 0 0 0 0)) (.k 31 225 (regS ds) (.r (regS sr)) (.r false)) (.r false)) (by simp only [DT.ev, vR7, shiftS, relS, szR] <;> cases (eqD (xA 7 al co si wi sh ds sr dp re im) (xA 7 0 0 0 wi false ds 0 0 0 0)) <;> cases (regS ds) <;> cases (regS sr) <;> rfl) (Laid.nil w)
def vR8 : Bool := (true) && (eqD (xA 8 al co si wi sh ds sr dp re im) (xA 8 0 0 0 wi false ds 0 0 0 0) && (regS ds && regS sr))
theorem c_r8 (w : World) : Calls Tryd.prog 31 #[.agg ⟨(xA 8 al co si wi sh ds sr dp re im)⟩] w fun e w' => e = .returned (.bool (vR8 al co si wi sh ds sr dp re im)) ∧ Gr w w' :=
  treeOk hkR1_ok (.k 31 220 (eqD (xA 8 al co si wi sh ds sr dp re im) (xA 8 0 0 0 wi false ds 0 0 0 0)) (.k 31 225 (regS ds) (.r (regS sr)) (.r false)) (.r false)) (by simp only [DT.ev, vR8, shiftS, relS, szR] <;> cases (eqD (xA 8 al co si wi sh ds sr dp re im) (xA 8 0 0 0 wi false ds 0 0 0 0)) <;> cases (regS ds) <;> cases (regS sr) <;> rfl) (Laid.nil w)
def vR9 : Bool := (true) && (eqD (xA 9 al co si wi sh ds sr dp re im) (xA 9 0 0 0 wi false ds 0 0 0 0) && (regS ds && regS sr))
theorem c_r9 (w : World) : Calls Tryd.prog 31 #[.agg ⟨(xA 9 al co si wi sh ds sr dp re im)⟩] w fun e w' => e = .returned (.bool (vR9 al co si wi sh ds sr dp re im)) ∧ Gr w w' :=
  treeOk hkR1_ok (.k 31 220 (eqD (xA 9 al co si wi sh ds sr dp re im) (xA 9 0 0 0 wi false ds 0 0 0 0)) (.k 31 225 (regS ds) (.r (regS sr)) (.r false)) (.r false)) (by simp only [DT.ev, vR9, shiftS, relS, szR] <;> cases (eqD (xA 9 al co si wi sh ds sr dp re im) (xA 9 0 0 0 wi false ds 0 0 0 0)) <;> cases (regS ds) <;> cases (regS sr) <;> rfl) (Laid.nil w)
def vR10 : Bool := (true) && (eqD (xA 10 al co si wi sh ds sr dp re im) (xA 10 0 0 0 wi false ds sr 0 0 0) && (regS ds && regS sr))
theorem c_r10 (w : World) : Calls Tryd.prog 31 #[.agg ⟨(xA 10 al co si wi sh ds sr dp re im)⟩] w fun e w' => e = .returned (.bool (vR10 al co si wi sh ds sr dp re im)) ∧ Gr w w' :=
  treeOk hkR1_ok (.k 31 220 (eqD (xA 10 al co si wi sh ds sr dp re im) (xA 10 0 0 0 wi false ds sr 0 0 0)) (.k 31 225 (regS ds) (.r (regS sr)) (.r false)) (.r false)) (by simp only [DT.ev, vR10, shiftS, relS, szR] <;> cases (eqD (xA 10 al co si wi sh ds sr dp re im) (xA 10 0 0 0 wi false ds sr 0 0 0)) <;> cases (regS ds) <;> cases (regS sr) <;> rfl) (Laid.nil w)
def vR11 : Bool := (shOk al && shiftS wi im) && (eqD (xA 11 al co si wi sh ds sr dp re im) (xA 11 al 0 0 wi false ds 0 0 0 im) && (regS ds && regS sr))
theorem c_r11 (w : World) : Calls Tryd.prog 31 #[.agg ⟨(xA 11 al co si wi sh ds sr dp re im)⟩] w fun e w' => e = .returned (.bool (vR11 al co si wi sh ds sr dp re im)) ∧ Gr w w' :=
  treeOk hkR1_ok (.k 31 110 (shOk al) (.k 31 115 (decide (im ≥ 0)) (.k 31 119 (decide (im < 32)) (.k 31 220 (eqD (xA 11 al co si wi sh ds sr dp re im) (xA 11 al 0 0 wi false ds 0 0 0 im)) (.k 31 225 (regS ds) (.r (regS sr)) (.r false)) (.r false)) (.k 31 123 (decide (im < 64)) (.k 31 215 (wi) (.k 31 220 (eqD (xA 11 al co si wi sh ds sr dp re im) (xA 11 al 0 0 wi false ds 0 0 0 im)) (.k 31 225 (regS ds) (.r (regS sr)) (.r false)) (.r false)) (.r false)) (.r false))) (.r false)) (.r false)) (by simp only [DT.ev, vR11, shiftS, relS, szR] <;> cases (shOk al) <;> cases (decide (im ≥ 0)) <;> cases (decide (im < 32)) <;> cases (eqD (xA 11 al co si wi sh ds sr dp re im) (xA 11 al 0 0 wi false ds 0 0 0 im)) <;> cases (regS ds) <;> cases (regS sr) <;> cases (decide (im < 64)) <;> cases (wi) <;> rfl) (Laid.nil w)
def vR12 : Bool := (shOk al) && (eqD (xA 12 al co si wi sh ds sr dp re im) (xA 12 al 0 0 wi false ds 0 0 0 0) && (regS ds && regS sr))
theorem c_r12 (w : World) : Calls Tryd.prog 31 #[.agg ⟨(xA 12 al co si wi sh ds sr dp re im)⟩] w fun e w' => e = .returned (.bool (vR12 al co si wi sh ds sr dp re im)) ∧ Gr w w' :=
  treeOk hkR1_ok (.k 31 215 (shOk al) (.k 31 220 (eqD (xA 12 al co si wi sh ds sr dp re im) (xA 12 al 0 0 wi false ds 0 0 0 0)) (.k 31 225 (regS ds) (.r (regS sr)) (.r false)) (.r false)) (.r false)) (by simp only [DT.ev, vR12, shiftS, relS, szR] <;> cases (shOk al) <;> cases (eqD (xA 12 al co si wi sh ds sr dp re im) (xA 12 al 0 0 wi false ds 0 0 0 0)) <;> cases (regS ds) <;> cases (regS sr) <;> rfl) (Laid.nil w)
def vR13 : Bool := (szR si) && (eqD (xA 13 al co si wi sh ds sr dp re im) (xA 13 0 0 si (si == 8) false ds sr dp 0 0) && (regS ds && regS sr))
theorem c_r13 (w : World) : Calls Tryd.prog 31 #[.agg ⟨(xA 13 al co si wi sh ds sr dp re im)⟩] w fun e w' => e = .returned (.bool (vR13 al co si wi sh ds sr dp re im)) ∧ Gr w w' :=
  treeOk hkR1_ok (.o (1 == si) (.k 31 220 (eqD (xA 13 al co si wi sh ds sr dp re im) (xA 13 0 0 si (si == 8) false ds sr dp 0 0)) (.k 31 225 (regS ds) (.r (regS sr)) (.r false)) (.r false)) (.o (2 == si) (.k 31 220 (eqD (xA 13 al co si wi sh ds sr dp re im) (xA 13 0 0 si (si == 8) false ds sr dp 0 0)) (.k 31 225 (regS ds) (.r (regS sr)) (.r false)) (.r false)) (.o (4 == si) (.k 31 220 (eqD (xA 13 al co si wi sh ds sr dp re im) (xA 13 0 0 si (si == 8) false ds sr dp 0 0)) (.k 31 225 (regS ds) (.r (regS sr)) (.r false)) (.r false)) (.o (8 == si) (.k 31 220 (eqD (xA 13 al co si wi sh ds sr dp re im) (xA 13 0 0 si (si == 8) false ds sr dp 0 0)) (.k 31 225 (regS ds) (.r (regS sr)) (.r false)) (.r false)) (.r false))))) (by simp only [DT.ev, vR13, shiftS, relS, szR] <;> cases (1 == si) <;> cases (eqD (xA 13 al co si wi sh ds sr dp re im) (xA 13 0 0 si (si == 8) false ds sr dp 0 0)) <;> cases (regS ds) <;> cases (regS sr) <;> cases (2 == si) <;> cases (4 == si) <;> cases (8 == si) <;> rfl) (Laid.nil w)
def vR14 : Bool := (szR si) && (eqD (xA 14 al co si wi sh ds sr dp re im) (xA 14 0 0 si (si == 8) false ds sr dp 0 0) && (regS ds && regS sr))
theorem c_r14 (w : World) : Calls Tryd.prog 31 #[.agg ⟨(xA 14 al co si wi sh ds sr dp re im)⟩] w fun e w' => e = .returned (.bool (vR14 al co si wi sh ds sr dp re im)) ∧ Gr w w' :=
  treeOk hkR1_ok (.o (1 == si) (.k 31 220 (eqD (xA 14 al co si wi sh ds sr dp re im) (xA 14 0 0 si (si == 8) false ds sr dp 0 0)) (.k 31 225 (regS ds) (.r (regS sr)) (.r false)) (.r false)) (.o (2 == si) (.k 31 220 (eqD (xA 14 al co si wi sh ds sr dp re im) (xA 14 0 0 si (si == 8) false ds sr dp 0 0)) (.k 31 225 (regS ds) (.r (regS sr)) (.r false)) (.r false)) (.o (4 == si) (.k 31 220 (eqD (xA 14 al co si wi sh ds sr dp re im) (xA 14 0 0 si (si == 8) false ds sr dp 0 0)) (.k 31 225 (regS ds) (.r (regS sr)) (.r false)) (.r false)) (.o (8 == si) (.k 31 220 (eqD (xA 14 al co si wi sh ds sr dp re im) (xA 14 0 0 si (si == 8) false ds sr dp 0 0)) (.k 31 225 (regS ds) (.r (regS sr)) (.r false)) (.r false)) (.r false))))) (by simp only [DT.ev, vR14, shiftS, relS, szR] <;> cases (1 == si) <;> cases (eqD (xA 14 al co si wi sh ds sr dp re im) (xA 14 0 0 si (si == 8) false ds sr dp 0 0)) <;> cases (regS ds) <;> cases (regS sr) <;> cases (2 == si) <;> cases (4 == si) <;> cases (8 == si) <;> rfl) (Laid.nil w)
def vR15 : Bool := (relS sh re) && (eqD (xA 15 al co si wi sh ds sr dp re im) (xA 15 0 0 0 false sh 0 0 0 re 0) && (regS ds && regS sr))
theorem c_r15 (w : World) : Calls Tryd.prog 31 #[.agg ⟨(xA 15 al co si wi sh ds sr dp re im)⟩] w fun e w' => e = .returned (.bool (vR15 al co si wi sh ds sr dp re im)) ∧ Gr w w' :=
  treeOk hkR1_ok (.k 31 178 (!sh) (.k 31 220 (eqD (xA 15 al co si wi sh ds sr dp re im) (xA 15 0 0 0 false sh 0 0 0 re 0)) (.k 31 225 (regS ds) (.r (regS sr)) (.r false)) (.r false)) (.k 31 182 (decide (re ≥ -128)) (.k 31 215 (decide (re ≤ 127)) (.k 31 220 (eqD (xA 15 al co si wi sh ds sr dp re im) (xA 15 0 0 0 false sh 0 0 0 re 0)) (.k 31 225 (regS ds) (.r (regS sr)) (.r false)) (.r false)) (.r false)) (.r false))) (by simp only [DT.ev, vR15, shiftS, relS, szR] <;> cases (eqD (xA 15 al co si wi sh ds sr dp re im) (xA 15 0 0 0 false sh 0 0 0 re 0)) <;> cases (regS ds) <;> cases (regS sr) <;> cases (decide (re ≥ -128)) <;> cases (decide (re ≤ 127)) <;> cases (sh) <;> rfl) (Laid.nil w)
def vR16 : Bool := (relS sh re && ccR co) && (eqD (xA 16 al co si wi sh ds sr dp re im) (xA 16 0 co 0 false sh 0 0 0 re 0) && (regS ds && regS sr))
theorem c_r16 (w : World) : Calls Tryd.prog 31 #[.agg ⟨(xA 16 al co si wi sh ds sr dp re im)⟩] w fun e w' => e = .returned (.bool (vR16 al co si wi sh ds sr dp re im)) ∧ Gr w w' :=
  treeOk hkR1_ok (.k 31 178 (!sh) (.k 31 215 (ccR co) (.k 31 220 (eqD (xA 16 al co si wi sh ds sr dp re im) (xA 16 0 co 0 false sh 0 0 0 re 0)) (.k 31 225 (regS ds) (.r (regS sr)) (.r false)) (.r false)) (.r false)) (.k 31 182 (decide (re ≥ -128)) (.k 31 195 (decide (re ≤ 127)) (.k 31 215 (ccR co) (.k 31 220 (eqD (xA 16 al co si wi sh ds sr dp re im) (xA 16 0 co 0 false sh 0 0 0 re 0)) (.k 31 225 (regS ds) (.r (regS sr)) (.r false)) (.r false)) (.r false)) (.r false)) (.r false))) (by simp only [DT.ev, vR16, shiftS, relS, szR] <;> cases (ccR co) <;> cases (eqD (xA 16 al co si wi sh ds sr dp re im) (xA 16 0 co 0 false sh 0 0 0 re 0)) <;> cases (regS ds) <;> cases (regS sr) <;> cases (decide (re ≥ -128)) <;> cases (decide (re ≤ 127)) <;> cases (sh) <;> rfl) (Laid.nil w)
def vR17 : Bool := (true) && (eqD (xA 17 al co si wi sh ds sr dp re im) (xA 17 0 0 0 false false ds 0 0 0 0) && (regS ds && regS sr))
theorem c_r17 (w : World) : Calls Tryd.prog 31 #[.agg ⟨(xA 17 al co si wi sh ds sr dp re im)⟩] w fun e w' => e = .returned (.bool (vR17 al co si wi sh ds sr dp re im)) ∧ Gr w w' :=
  treeOk hkR1_ok (.k 31 220 (eqD (xA 17 al co si wi sh ds sr dp re im) (xA 17 0 0 0 false false ds 0 0 0 0)) (.k 31 225 (regS ds) (.r (regS sr)) (.r false)) (.r false)) (by simp only [DT.ev, vR17, shiftS, relS, szR] <;> cases (eqD (xA 17 al co si wi sh ds sr dp re im) (xA 17 0 0 0 false false ds 0 0 0 0)) <;> cases (regS ds) <;> cases (regS sr) <;> rfl) (Laid.nil w)
def vR18 : Bool := (true) && (eqD (xA 18 al co si wi sh ds sr dp re im) (xA 18 0 0 0 false false ds 0 0 0 0) && (regS ds && regS sr))
theorem c_r18 (w : World) : Calls Tryd.prog 31 #[.agg ⟨(xA 18 al co si wi sh ds sr dp re im)⟩] w fun e w' => e = .returned (.bool (vR18 al co si wi sh ds sr dp re im)) ∧ Gr w w' :=
  treeOk hkR1_ok (.k 31 220 (eqD (xA 18 al co si wi sh ds sr dp re im) (xA 18 0 0 0 false false ds 0 0 0 0)) (.k 31 225 (regS ds) (.r (regS sr)) (.r false)) (.r false)) (by simp only [DT.ev, vR18, shiftS, relS, szR] <;> cases (eqD (xA 18 al co si wi sh ds sr dp re im) (xA 18 0 0 0 false false ds 0 0 0 0)) <;> cases (regS ds) <;> cases (regS sr) <;> rfl) (Laid.nil w)
def vR19 : Bool := (true) && (eqD (xA 19 al co si wi sh ds sr dp re im) (xA 19 0 0 0 false false 0 0 0 0 0) && (regS ds && regS sr))
theorem c_r19 (w : World) : Calls Tryd.prog 31 #[.agg ⟨(xA 19 al co si wi sh ds sr dp re im)⟩] w fun e w' => e = .returned (.bool (vR19 al co si wi sh ds sr dp re im)) ∧ Gr w w' :=
  treeOk hkR1_ok (.k 31 220 (eqD (xA 19 al co si wi sh ds sr dp re im) (xA 19 0 0 0 false false 0 0 0 0 0)) (.k 31 225 (regS ds) (.r (regS sr)) (.r false)) (.r false)) (by simp only [DT.ev, vR19, shiftS, relS, szR] <;> cases (eqD (xA 19 al co si wi sh ds sr dp re im) (xA 19 0 0 0 false false 0 0 0 0 0)) <;> cases (regS ds) <;> cases (regS sr) <;> rfl) (Laid.nil w)
def vR20 : Bool := (true) && (eqD (xA 20 al co si wi sh ds sr dp re im) (xA 20 0 0 0 false false 0 0 0 re 0) && (regS ds && regS sr))
theorem c_r20 (w : World) : Calls Tryd.prog 31 #[.agg ⟨(xA 20 al co si wi sh ds sr dp re im)⟩] w fun e w' => e = .returned (.bool (vR20 al co si wi sh ds sr dp re im)) ∧ Gr w w' :=
  treeOk hkR1_ok (.k 31 220 (eqD (xA 20 al co si wi sh ds sr dp re im) (xA 20 0 0 0 false false 0 0 0 re 0)) (.k 31 225 (regS ds) (.r (regS sr)) (.r false)) (.r false)) (by simp only [DT.ev, vR20, shiftS, relS, szR] <;> cases (eqD (xA 20 al co si wi sh ds sr dp re im) (xA 20 0 0 0 false false 0 0 0 re 0)) <;> cases (regS ds) <;> cases (regS sr) <;> rfl) (Laid.nil w)
def vR21 : Bool := (true) && (eqD (xA 21 al co si wi sh ds sr dp re im) (xA 21 0 0 0 false false 0 0 0 0 0) && (regS ds && regS sr))
theorem c_r21 (w : World) : Calls Tryd.prog 31 #[.agg ⟨(xA 21 al co si wi sh ds sr dp re im)⟩] w fun e w' => e = .returned (.bool (vR21 al co si wi sh ds sr dp re im)) ∧ Gr w w' :=
  treeOk hkR1_ok (.k 31 220 (eqD (xA 21 al co si wi sh ds sr dp re im) (xA 21 0 0 0 false false 0 0 0 0 0)) (.k 31 225 (regS ds) (.r (regS sr)) (.r false)) (.r false)) (by simp only [DT.ev, vR21, shiftS, relS, szR] <;> cases (eqD (xA 21 al co si wi sh ds sr dp re im) (xA 21 0 0 0 false false 0 0 0 0 0)) <;> cases (regS ds) <;> cases (regS sr) <;> rfl) (Laid.nil w)
def rvxCs (k : Int) : Cs := [(b2i (k == 1), 0), (b2i (k == 6), 0), (b2i (k == 10), 0), (b2i (k == 4), 0), (b2i (k == 5), 0), (b2i (k == 2), 0), (b2i (k == 3), 0), (b2i (k == 7), 0), (b2i (k == 8), 0), (b2i (k == 9), 0), (b2i (k == 11), 0), (b2i (k == 12), 0), (b2i (k == 13), 0), (b2i (k == 14), 0), (b2i (k == 15), 0), (b2i (k == 16), 0), (b2i (k == 17), 0), (b2i (k == 18), 0), (b2i (k == 19), 0), (b2i (k == 21), 0), (b2i (k == 20), 0)]
def vR (k : Int) (al co si : Int) (wi sh : Bool) (ds sr dp re im : Int) : Bool :=
  if k = 1 then vR1 al co si wi sh ds sr dp re im else if k = 2 then vR2 al co si wi sh ds sr dp re im else if k = 3 then vR3 al co si wi sh ds sr dp re im else if k = 4 then vR4 al co si wi sh ds sr dp re im else if k = 5 then vR5 al co si wi sh ds sr dp re im else if k = 6 then vR6 al co si wi sh ds sr dp re im else if k = 7 then vR7 al co si wi sh ds sr dp re im else if k = 8 then vR8 al co si wi sh ds sr dp re im else if k = 9 then vR9 al co si wi sh ds sr dp re im else if k = 10 then vR10 al co si wi sh ds sr dp re im else if k = 11 then vR11 al co si wi sh ds sr dp re im else if k = 12 then vR12 al co si wi sh ds sr dp re im else if k = 13 then vR13 al co si wi sh ds sr dp re im else if k = 14 then vR14 al co si wi sh ds sr dp re im else if k = 15 then vR15 al co si wi sh ds sr dp re im else if k = 16 then vR16 al co si wi sh ds sr dp re im else if k = 17 then vR17 al co si wi sh ds sr dp re im else if k = 18 then vR18 al co si wi sh ds sr dp re im else if k = 19 then vR19 al co si wi sh ds sr dp re im else if k = 20 then vR20 al co si wi sh ds sr dp re im else if k = 21 then vR21 al co si wi sh ds sr dp re im else false
theorem rvx_0 (k : Int) (al co si : Int) (wi sh : Bool) (ds sr dp re im : Int) : Lf [] 31 [.agg ⟨(xA k al co si wi sh ds sr dp re im)⟩] (.bool false) (rvxCs k) := lfk hkR1_ok (ocs [(31, 11, .bool false), (31, 12, .bool false), (31, 13, .bool false), (31, 24, .bool false), (31, 41, .bool false), (31, 63, .bool false), (31, 75, .bool false), (31, 84, .bool false), (31, 85, .bool false), (31, 86, .bool false), (31, 94, .bool false), (31, 130, .bool false), (31, 144, .bool false), (31, 145, .bool false), (31, 167, .bool false), (31, 168, .bool false), (31, 201, .bool false), (31, 202, .bool false), (31, 207, .bool false), (31, 208, .bool false), (31, 210, .bool false)] [])
theorem c_rvalid (k : Int) (al co si : Int) (wi sh : Bool) (ds sr dp re im : Int) (w : World) : Calls Tryd.prog 31 #[.agg ⟨(xA k al co si wi sh ds sr dp re im)⟩] w fun e w' => e = .returned (.bool (vR k al co si wi sh ds sr dp re im)) ∧ Gr w w' := by
  by_cases hk : 1 ≤ k ∧ k ≤ 21
  · rcases kinds (k := k) (by simp only [decide_eq_false_iff_not]; omega) (by simp only [decide_eq_false_iff_not]; omega) with rfl | rfl | rfl | rfl | rfl | rfl | rfl | rfl | rfl | rfl | rfl | rfl | rfl | rfl | rfl | rfl | rfl | rfl | rfl | rfl | rfl
    · exact c_r1 al co si wi sh ds sr dp re im w
    · exact c_r2 al co si wi sh ds sr dp re im w
    · exact c_r3 al co si wi sh ds sr dp re im w
    · exact c_r4 al co si wi sh ds sr dp re im w
    · exact c_r5 al co si wi sh ds sr dp re im w
    · exact c_r6 al co si wi sh ds sr dp re im w
    · exact c_r7 al co si wi sh ds sr dp re im w
    · exact c_r8 al co si wi sh ds sr dp re im w
    · exact c_r9 al co si wi sh ds sr dp re im w
    · exact c_r10 al co si wi sh ds sr dp re im w
    · exact c_r11 al co si wi sh ds sr dp re im w
    · exact c_r12 al co si wi sh ds sr dp re im w
    · exact c_r13 al co si wi sh ds sr dp re im w
    · exact c_r14 al co si wi sh ds sr dp re im w
    · exact c_r15 al co si wi sh ds sr dp re im w
    · exact c_r16 al co si wi sh ds sr dp re im w
    · exact c_r17 al co si wi sh ds sr dp re im w
    · exact c_r18 al co si wi sh ds sr dp re im w
    · exact c_r19 al co si wi sh ds sr dp re im w
    · exact c_r20 al co si wi sh ds sr dp re im w
    · exact c_r21 al co si wi sh ds sr dp re im w
  · have ne : ∀ n : Int, 1 ≤ n → n ≤ 21 → (k == n) = false := fun n h1 h2 => by
      rw [beq_eq_false_iff_ne]
      omega
    have nd : ∀ n : Int, 1 ≤ n → n ≤ 21 → ¬ k = n := fun n h1 h2 => by omega
    refine retZ ?_ (rvx_0 k al co si wi sh ds sr dp re im ?_ w (Laid.nil w))
    · unfold vR
      simp only [if_neg (nd 1 (by omega) (by omega)), if_neg (nd 2 (by omega) (by omega)), if_neg (nd 3 (by omega) (by omega)), if_neg (nd 4 (by omega) (by omega)), if_neg (nd 5 (by omega) (by omega)), if_neg (nd 6 (by omega) (by omega)), if_neg (nd 7 (by omega) (by omega)), if_neg (nd 8 (by omega) (by omega)), if_neg (nd 9 (by omega) (by omega)), if_neg (nd 10 (by omega) (by omega)), if_neg (nd 11 (by omega) (by omega)), if_neg (nd 12 (by omega) (by omega)), if_neg (nd 13 (by omega) (by omega)), if_neg (nd 14 (by omega) (by omega)), if_neg (nd 15 (by omega) (by omega)), if_neg (nd 16 (by omega) (by omega)), if_neg (nd 17 (by omega) (by omega)), if_neg (nd 18 (by omega) (by omega)), if_neg (nd 19 (by omega) (by omega)), if_neg (nd 20 (by omega) (by omega)), if_neg (nd 21 (by omega) (by omega))]
    · unfold rvxCs
      simp only [ne 1 (by omega) (by omega), ne 2 (by omega) (by omega), ne 3 (by omega) (by omega), ne 4 (by omega) (by omega), ne 5 (by omega) (by omega), ne 6 (by omega) (by omega), ne 7 (by omega) (by omega), ne 8 (by omega) (by omega), ne 9 (by omega) (by omega), ne 10 (by omega) (by omega), ne 11 (by omega) (by omega), ne 12 (by omega) (by omega), ne 13 (by omega) (by omega), ne 14 (by omega) (by omega), ne 15 (by omega) (by omega), ne 16 (by omega) (by omega), ne 17 (by omega) (by omega), ne 18 (by omega) (by omega), ne 19 (by omega) (by omega), ne 20 (by omega) (by omega), ne 21 (by omega) (by omega)]
      rfl
def hk_rvalid : Hook := fun f args h =>
  if Nat.beq f 31 then
    match args with
    | [.agg ⟨[.int .i64 p0, .int .i64 p1, .int .i64 p2, .int .i64 p3, .bool p4, .bool p5, .int .i64 p6, .int .i64 p7, .int .i32 p8, .int .i32 p9, .int .i64 p10]⟩] => some (.bool (vR p0 p1 p2 p3 p4 p5 p6 p7 p8 p9 p10), [])
    | _ => none
  else none
theorem hk_rvalid_ok : HookOk Tryd.prog hk_rvalid := by
  intro f args h v cs hv hc wb k s w H
  unfold hk_rvalid at hv
  split at hv
  · rename_i hf
    obtain rfl := Nat.eq_of_beq_eq_true hf
    split at hv
    · cases hv
      exact c_rvalid _ _ _ _ _ _ _ _ _ _ _ w
    · cases hv
  · cases hv
end Go.Proofs.YtokeopmmnpmfeaaDoor.Ex
