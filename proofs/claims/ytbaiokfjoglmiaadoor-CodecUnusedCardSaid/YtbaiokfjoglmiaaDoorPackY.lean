/-
  Lemmas for the laws of this seat, part Y: CdF, PostGr.
-/
import Derived.Test.YtbaiokfjoglmiaaDoorPackX
import Derived.ChangeSame
section
namespace Go.Proofs.YtbaiokfjoglmiaaDoor.Ex
open Go Go.RowKit
set_option linter.unusedVariables false
set_option linter.unusedSimpArgs false
set_option maxHeartbeats 0
set_option maxRecDepth 1000000
theorem bAnd {a b : Bool} (h : a = true) (g : b = true) : (a && b) = true := by rw [h, g]; rfl
theorem an31 (wi : Bool) (x : Int) : shiftS wi (anE 31 x) = true := by
  have h := an_bd 32 31 x (by decide) (by decide)
  unfold shiftS
  rw [decide_eq_true (show anE 31 x ≥ 0 by omega), decide_eq_true (show anE 31 x < 32 by omega)]
  rfl
theorem byJ {wh : Int} {P : Prop} (h : 0 ≤ wh) (p0 : Int.tmod wh 6 = 0 → P) (p1 : Int.tmod wh 6 = 1 → P) (p2 : Int.tmod wh 6 = 2 → P) (p3 : Int.tmod wh 6 = 3 → P) (p4 : Int.tmod wh 6 = 4 → P) (p5 : Int.tmod wh 6 = 5 → P) : P := by
  have h1 := Int.tmod_nonneg 6 h
  have h2 := Int.tmod_lt_of_pos wh (show (0 : Int) < 6 by decide)
  generalize Int.tmod wh 6 = t at *
  rcases (show t = 0 ∨ t = 1 ∨ t = 2 ∨ t = 3 ∨ t = 4 ∨ t = 5 by omega) with h | h | h | h | h | h
  · exact p0 h
  · exact p1 h
  · exact p2 h
  · exact p3 h
  · exact p4 h
  · exact p5 h
variable (x : Rw)
theorem cls1_0 (hw : 0 ≤ x.wh) (hk : kE x.k = 1) (w : World) (hL : Laid h12 w) : Lw x w := by
  have hc : Cu x (xA 1 0 0 0 x.q4 false (anE 15 x.r6) (anE 15 x.r7) 0 0 0) := by
    unfold Cu
    exact fun w => cut1_0 x.k x.r1 x.r2 x.r3 x.q4 x.q5 x.r6 x.r7 x.r8 x.r9 x.r10 (csI' hk csN') w (Laid.nil w)
  have hv : vP1 0 0 0 x.q4 false (anE 15 x.r6) (anE 15 x.r7) 0 0 0 = true := bAnd (by simp [xA, eqD, eqW]) (bAnd (bAnd (by first | exact an15 _ | rfl) (by first | exact an15 _ | rfl)) (bAnd rfl (by first | exact wo_eq _ | exact sh_eq _ | exact an31 _ _ | rfl)))
  exact byJ hw (fun j => law1_0 x x.q4 (anE 15 x.r6) (anE 15 x.r7) hc hv j w hL) (fun j => law1_1 x x.q4 (anE 15 x.r6) (anE 15 x.r7) hc hv j w hL) (fun j => law1_2 x x.q4 (anE 15 x.r6) (anE 15 x.r7) hc hv j w hL) (fun j => law1_3 x x.q4 (anE 15 x.r6) (anE 15 x.r7) hc hv j w hL) (fun j => law1_4 x x.q4 (anE 15 x.r6) (anE 15 x.r7) hc hv j w hL) (fun j => law1_5 x x.q4 (anE 15 x.r6) (anE 15 x.r7) hc hv j w hL)
theorem kind1 (hw : 0 ≤ x.wh) (hk : kE x.k = 1) (w : World) (hL : Laid h12 w) : Lw x w := by
  exact cls1_0 x hw hk w hL
theorem cls2_0 (hw : 0 ≤ x.wh) (hk : kE x.k = 2) (w : World) (hL : Laid h12 w) : Lw x w := by
  have hc : Cu x (xA 2 0 0 0 true false (anE 15 x.r6) 0 0 0 (woE x.r10)) := by
    unfold Cu
    exact fun w => cut2_0 x.k x.r1 x.r2 x.r3 x.q4 x.q5 x.r6 x.r7 x.r8 x.r9 x.r10 (csI' hk csN') w (Laid.nil w)
  have hv : vP2 0 0 0 true false (anE 15 x.r6) 0 0 0 (woE x.r10) = true := bAnd (by simp [xA, eqD, eqW]) (bAnd (bAnd (by first | exact an15 _ | rfl) (by first | exact an15 _ | rfl)) (bAnd rfl (by first | exact wo_eq _ | exact sh_eq _ | exact an31 _ _ | rfl)))
  exact byJ hw (fun j => law2_0 x true (anE 15 x.r6) (woE x.r10) hc hv j w hL) (fun j => law2_1 x true (anE 15 x.r6) (woE x.r10) hc hv j w hL) (fun j => law2_2 x true (anE 15 x.r6) (woE x.r10) hc hv j w hL) (fun j => law2_3 x true (anE 15 x.r6) (woE x.r10) hc hv j w hL) (fun j => law2_4 x true (anE 15 x.r6) (woE x.r10) hc hv j w hL) (fun j => law2_5 x true (anE 15 x.r6) (woE x.r10) hc hv j w hL)
theorem kind2 (hw : 0 ≤ x.wh) (hk : kE x.k = 2) (w : World) (hL : Laid h12 w) : Lw x w := by
  exact cls2_0 x hw hk w hL
theorem cls3_0 (hw : 0 ≤ x.wh) (hk : kE x.k = 3) (w : World) (hL : Laid h12 w) : Lw x w := by
  have hc : Cu x (xA 3 0 0 0 true false (anE 15 x.r6) 0 0 0 x.r10) := by
    unfold Cu
    exact fun w => cut3_0 x.k x.r1 x.r2 x.r3 x.q4 x.q5 x.r6 x.r7 x.r8 x.r9 x.r10 (csI' hk csN') w (Laid.nil w)
  have hv : vP3 0 0 0 true false (anE 15 x.r6) 0 0 0 x.r10 = true := bAnd (by simp [xA, eqD, eqW]) (bAnd (bAnd (by first | exact an15 _ | rfl) (by first | exact an15 _ | rfl)) (bAnd rfl (by first | exact wo_eq _ | exact sh_eq _ | exact an31 _ _ | rfl)))
  exact byJ hw (fun j => law3_0 x true (anE 15 x.r6) x.r10 hc hv j w hL) (fun j => law3_1 x true (anE 15 x.r6) x.r10 hc hv j w hL) (fun j => law3_2 x true (anE 15 x.r6) x.r10 hc hv j w hL) (fun j => law3_3 x true (anE 15 x.r6) x.r10 hc hv j w hL) (fun j => law3_4 x true (anE 15 x.r6) x.r10 hc hv j w hL) (fun j => law3_5 x true (anE 15 x.r6) x.r10 hc hv j w hL)
theorem kind3 (hw : 0 ≤ x.wh) (hk : kE x.k = 3) (w : World) (hL : Laid h12 w) : Lw x w := by
  exact cls3_0 x hw hk w hL
theorem cls4_0 (hw : 0 ≤ x.wh) (hk : kE x.k = 4) (hi : ixE 6 x.r1 = 0) (w : World) (hL : Laid h12 w) : Lw x w := by
  have hc : Cu x (xA 4 0 0 0 x.q4 false (anE 15 x.r6) (anE 15 x.r7) 0 0 0) := by
    unfold Cu
    exact fun w => cut4_0 x.k x.r1 x.r2 x.r3 x.q4 x.q5 x.r6 x.r7 x.r8 x.r9 x.r10 (csI' hk (csI' hi csN')) w (Laid.nil w)
  have hv : vP4 0 0 0 x.q4 false (anE 15 x.r6) (anE 15 x.r7) 0 0 0 = true := bAnd (by simp [xA, eqD, eqW]) (bAnd (bAnd (by first | exact an15 _ | rfl) (by first | exact an15 _ | rfl)) (bAnd rfl (by first | exact wo_eq _ | exact sh_eq _ | exact an31 _ _ | rfl)))
  exact byJ hw (fun j => law4_0 x 0 x.q4 (anE 15 x.r6) (anE 15 x.r7) hc hv j w hL) (fun j => law4_1 x 0 x.q4 (anE 15 x.r6) (anE 15 x.r7) hc hv j w hL) (fun j => law4_2 x 0 x.q4 (anE 15 x.r6) (anE 15 x.r7) hc hv j w hL) (fun j => law4_3 x 0 x.q4 (anE 15 x.r6) (anE 15 x.r7) hc hv j w hL) (fun j => law4_4 x 0 x.q4 (anE 15 x.r6) (anE 15 x.r7) hc hv j w hL) (fun j => law4_5 x 0 x.q4 (anE 15 x.r6) (anE 15 x.r7) hc hv j w hL)
theorem cls4_1 (hw : 0 ≤ x.wh) (hk : kE x.k = 4) (hi : ixE 6 x.r1 = 1) (w : World) (hL : Laid h12 w) : Lw x w := by
  have hc : Cu x (xA 4 1 0 0 x.q4 false (anE 15 x.r6) (anE 15 x.r7) 0 0 0) := by
    unfold Cu
    exact fun w => cut4_1 x.k x.r1 x.r2 x.r3 x.q4 x.q5 x.r6 x.r7 x.r8 x.r9 x.r10 (csI' hk (csI' hi csN')) w (Laid.nil w)
  have hv : vP4 1 0 0 x.q4 false (anE 15 x.r6) (anE 15 x.r7) 0 0 0 = true := bAnd (by simp [xA, eqD, eqW]) (bAnd (bAnd (by first | exact an15 _ | rfl) (by first | exact an15 _ | rfl)) (bAnd rfl (by first | exact wo_eq _ | exact sh_eq _ | exact an31 _ _ | rfl)))
  exact byJ hw (fun j => law4_0 x 1 x.q4 (anE 15 x.r6) (anE 15 x.r7) hc hv j w hL) (fun j => law4_1 x 1 x.q4 (anE 15 x.r6) (anE 15 x.r7) hc hv j w hL) (fun j => law4_2 x 1 x.q4 (anE 15 x.r6) (anE 15 x.r7) hc hv j w hL) (fun j => law4_3 x 1 x.q4 (anE 15 x.r6) (anE 15 x.r7) hc hv j w hL) (fun j => law4_4 x 1 x.q4 (anE 15 x.r6) (anE 15 x.r7) hc hv j w hL) (fun j => law4_5 x 1 x.q4 (anE 15 x.r6) (anE 15 x.r7) hc hv j w hL)
theorem cls4_2 (hw : 0 ≤ x.wh) (hk : kE x.k = 4) (hi : ixE 6 x.r1 = 2) (w : World) (hL : Laid h12 w) : Lw x w := by
  have hc : Cu x (xA 4 4 0 0 x.q4 false (anE 15 x.r6) (anE 15 x.r7) 0 0 0) := by
    unfold Cu
    exact fun w => cut4_2 x.k x.r1 x.r2 x.r3 x.q4 x.q5 x.r6 x.r7 x.r8 x.r9 x.r10 (csI' hk (csI' hi csN')) w (Laid.nil w)
  have hv : vP4 4 0 0 x.q4 false (anE 15 x.r6) (anE 15 x.r7) 0 0 0 = true := bAnd (by simp [xA, eqD, eqW]) (bAnd (bAnd (by first | exact an15 _ | rfl) (by first | exact an15 _ | rfl)) (bAnd rfl (by first | exact wo_eq _ | exact sh_eq _ | exact an31 _ _ | rfl)))
  exact byJ hw (fun j => law4_0 x 4 x.q4 (anE 15 x.r6) (anE 15 x.r7) hc hv j w hL) (fun j => law4_1 x 4 x.q4 (anE 15 x.r6) (anE 15 x.r7) hc hv j w hL) (fun j => law4_2 x 4 x.q4 (anE 15 x.r6) (anE 15 x.r7) hc hv j w hL) (fun j => law4_3 x 4 x.q4 (anE 15 x.r6) (anE 15 x.r7) hc hv j w hL) (fun j => law4_4 x 4 x.q4 (anE 15 x.r6) (anE 15 x.r7) hc hv j w hL) (fun j => law4_5 x 4 x.q4 (anE 15 x.r6) (anE 15 x.r7) hc hv j w hL)
theorem cls4_3 (hw : 0 ≤ x.wh) (hk : kE x.k = 4) (hi : ixE 6 x.r1 = 3) (w : World) (hL : Laid h12 w) : Lw x w := by
  have hc : Cu x (xA 4 5 0 0 x.q4 false (anE 15 x.r6) (anE 15 x.r7) 0 0 0) := by
    unfold Cu
    exact fun w => cut4_3 x.k x.r1 x.r2 x.r3 x.q4 x.q5 x.r6 x.r7 x.r8 x.r9 x.r10 (csI' hk (csI' hi csN')) w (Laid.nil w)
  have hv : vP4 5 0 0 x.q4 false (anE 15 x.r6) (anE 15 x.r7) 0 0 0 = true := bAnd (by simp [xA, eqD, eqW]) (bAnd (bAnd (by first | exact an15 _ | rfl) (by first | exact an15 _ | rfl)) (bAnd rfl (by first | exact wo_eq _ | exact sh_eq _ | exact an31 _ _ | rfl)))
  exact byJ hw (fun j => law4_0 x 5 x.q4 (anE 15 x.r6) (anE 15 x.r7) hc hv j w hL) (fun j => law4_1 x 5 x.q4 (anE 15 x.r6) (anE 15 x.r7) hc hv j w hL) (fun j => law4_2 x 5 x.q4 (anE 15 x.r6) (anE 15 x.r7) hc hv j w hL) (fun j => law4_3 x 5 x.q4 (anE 15 x.r6) (anE 15 x.r7) hc hv j w hL) (fun j => law4_4 x 5 x.q4 (anE 15 x.r6) (anE 15 x.r7) hc hv j w hL) (fun j => law4_5 x 5 x.q4 (anE 15 x.r6) (anE 15 x.r7) hc hv j w hL)
theorem cls4_4 (hw : 0 ≤ x.wh) (hk : kE x.k = 4) (hi : ixE 6 x.r1 = 4) (w : World) (hL : Laid h12 w) : Lw x w := by
  have hc : Cu x (xA 4 6 0 0 x.q4 false (anE 15 x.r6) (anE 15 x.r7) 0 0 0) := by
    unfold Cu
    exact fun w => cut4_4 x.k x.r1 x.r2 x.r3 x.q4 x.q5 x.r6 x.r7 x.r8 x.r9 x.r10 (csI' hk (csI' hi csN')) w (Laid.nil w)
  have hv : vP4 6 0 0 x.q4 false (anE 15 x.r6) (anE 15 x.r7) 0 0 0 = true := bAnd (by simp [xA, eqD, eqW]) (bAnd (bAnd (by first | exact an15 _ | rfl) (by first | exact an15 _ | rfl)) (bAnd rfl (by first | exact wo_eq _ | exact sh_eq _ | exact an31 _ _ | rfl)))
  exact byJ hw (fun j => law4_0 x 6 x.q4 (anE 15 x.r6) (anE 15 x.r7) hc hv j w hL) (fun j => law4_1 x 6 x.q4 (anE 15 x.r6) (anE 15 x.r7) hc hv j w hL) (fun j => law4_2 x 6 x.q4 (anE 15 x.r6) (anE 15 x.r7) hc hv j w hL) (fun j => law4_3 x 6 x.q4 (anE 15 x.r6) (anE 15 x.r7) hc hv j w hL) (fun j => law4_4 x 6 x.q4 (anE 15 x.r6) (anE 15 x.r7) hc hv j w hL) (fun j => law4_5 x 6 x.q4 (anE 15 x.r6) (anE 15 x.r7) hc hv j w hL)
theorem cls4_5 (hw : 0 ≤ x.wh) (hk : kE x.k = 4) (hi : ixE 6 x.r1 = 5) (w : World) (hL : Laid h12 w) : Lw x w := by
  have hc : Cu x (xA 4 7 0 0 x.q4 false (anE 15 x.r6) (anE 15 x.r7) 0 0 0) := by
    unfold Cu
    exact fun w => cut4_5 x.k x.r1 x.r2 x.r3 x.q4 x.q5 x.r6 x.r7 x.r8 x.r9 x.r10 (csI' hk (csI' hi csN')) w (Laid.nil w)
  have hv : vP4 7 0 0 x.q4 false (anE 15 x.r6) (anE 15 x.r7) 0 0 0 = true := bAnd (by simp [xA, eqD, eqW]) (bAnd (bAnd (by first | exact an15 _ | rfl) (by first | exact an15 _ | rfl)) (bAnd rfl (by first | exact wo_eq _ | exact sh_eq _ | exact an31 _ _ | rfl)))
  exact byJ hw (fun j => law4_0 x 7 x.q4 (anE 15 x.r6) (anE 15 x.r7) hc hv j w hL) (fun j => law4_1 x 7 x.q4 (anE 15 x.r6) (anE 15 x.r7) hc hv j w hL) (fun j => law4_2 x 7 x.q4 (anE 15 x.r6) (anE 15 x.r7) hc hv j w hL) (fun j => law4_3 x 7 x.q4 (anE 15 x.r6) (anE 15 x.r7) hc hv j w hL) (fun j => law4_4 x 7 x.q4 (anE 15 x.r6) (anE 15 x.r7) hc hv j w hL) (fun j => law4_5 x 7 x.q4 (anE 15 x.r6) (anE 15 x.r7) hc hv j w hL)
theorem kind4 (hw : 0 ≤ x.wh) (hk : kE x.k = 4) (w : World) (hL : Laid h12 w) : Lw x w := by
  have hb := ix_bd 6 x.r1 (by decide) (by decide)
  rcases (show ixE 6 x.r1 = 0 ∨ ixE 6 x.r1 = 1 ∨ ixE 6 x.r1 = 2 ∨ ixE 6 x.r1 = 3 ∨ ixE 6 x.r1 = 4 ∨ ixE 6 x.r1 = 5 by omega) with hi | hi | hi | hi | hi | hi
  · exact cls4_0 x hw hk hi w hL
  · exact cls4_1 x hw hk hi w hL
  · exact cls4_2 x hw hk hi w hL
  · exact cls4_3 x hw hk hi w hL
  · exact cls4_4 x hw hk hi w hL
  · exact cls4_5 x hw hk hi w hL
theorem cls5_0 (hw : 0 ≤ x.wh) (hk : kE x.k = 5) (hi : ixE 6 x.r1 = 0) (w : World) (hL : Laid h12 w) : Lw x w := by
  have hc : Cu x (xA 5 0 0 0 x.q4 false (anE 15 x.r6) 0 0 0 (woE x.r10)) := by
    unfold Cu
    exact fun w => cut5_0 x.k x.r1 x.r2 x.r3 x.q4 x.q5 x.r6 x.r7 x.r8 x.r9 x.r10 (csI' hk (csI' hi csN')) w (Laid.nil w)
  have hv : vP5 0 0 0 x.q4 false (anE 15 x.r6) 0 0 0 (woE x.r10) = true := bAnd (by simp [xA, eqD, eqW]) (bAnd (bAnd (by first | exact an15 _ | rfl) (by first | exact an15 _ | rfl)) (bAnd rfl (by first | exact wo_eq _ | exact sh_eq _ | exact an31 _ _ | rfl)))
  exact byJ hw (fun j => law5_0 x 0 x.q4 (anE 15 x.r6) (woE x.r10) hc hv j w hL) (fun j => law5_1 x 0 x.q4 (anE 15 x.r6) (woE x.r10) hc hv j w hL) (fun j => law5_2 x 0 x.q4 (anE 15 x.r6) (woE x.r10) hc hv j w hL) (fun j => law5_3 x 0 x.q4 (anE 15 x.r6) (woE x.r10) hc hv j w hL) (fun j => law5_4 x 0 x.q4 (anE 15 x.r6) (woE x.r10) hc hv j w hL) (fun j => law5_5 x 0 x.q4 (anE 15 x.r6) (woE x.r10) hc hv j w hL)
theorem cls5_1 (hw : 0 ≤ x.wh) (hk : kE x.k = 5) (hi : ixE 6 x.r1 = 1) (w : World) (hL : Laid h12 w) : Lw x w := by
  have hc : Cu x (xA 5 1 0 0 x.q4 false (anE 15 x.r6) 0 0 0 (woE x.r10)) := by
    unfold Cu
    exact fun w => cut5_1 x.k x.r1 x.r2 x.r3 x.q4 x.q5 x.r6 x.r7 x.r8 x.r9 x.r10 (csI' hk (csI' hi csN')) w (Laid.nil w)
  have hv : vP5 1 0 0 x.q4 false (anE 15 x.r6) 0 0 0 (woE x.r10) = true := bAnd (by simp [xA, eqD, eqW]) (bAnd (bAnd (by first | exact an15 _ | rfl) (by first | exact an15 _ | rfl)) (bAnd rfl (by first | exact wo_eq _ | exact sh_eq _ | exact an31 _ _ | rfl)))
  exact byJ hw (fun j => law5_0 x 1 x.q4 (anE 15 x.r6) (woE x.r10) hc hv j w hL) (fun j => law5_1 x 1 x.q4 (anE 15 x.r6) (woE x.r10) hc hv j w hL) (fun j => law5_2 x 1 x.q4 (anE 15 x.r6) (woE x.r10) hc hv j w hL) (fun j => law5_3 x 1 x.q4 (anE 15 x.r6) (woE x.r10) hc hv j w hL) (fun j => law5_4 x 1 x.q4 (anE 15 x.r6) (woE x.r10) hc hv j w hL) (fun j => law5_5 x 1 x.q4 (anE 15 x.r6) (woE x.r10) hc hv j w hL)
theorem cls5_2 (hw : 0 ≤ x.wh) (hk : kE x.k = 5) (hi : ixE 6 x.r1 = 2) (w : World) (hL : Laid h12 w) : Lw x w := by
  have hc : Cu x (xA 5 4 0 0 x.q4 false (anE 15 x.r6) 0 0 0 (woE x.r10)) := by
    unfold Cu
    exact fun w => cut5_2 x.k x.r1 x.r2 x.r3 x.q4 x.q5 x.r6 x.r7 x.r8 x.r9 x.r10 (csI' hk (csI' hi csN')) w (Laid.nil w)
  have hv : vP5 4 0 0 x.q4 false (anE 15 x.r6) 0 0 0 (woE x.r10) = true := bAnd (by simp [xA, eqD, eqW]) (bAnd (bAnd (by first | exact an15 _ | rfl) (by first | exact an15 _ | rfl)) (bAnd rfl (by first | exact wo_eq _ | exact sh_eq _ | exact an31 _ _ | rfl)))
  exact byJ hw (fun j => law5_0 x 4 x.q4 (anE 15 x.r6) (woE x.r10) hc hv j w hL) (fun j => law5_1 x 4 x.q4 (anE 15 x.r6) (woE x.r10) hc hv j w hL) (fun j => law5_2 x 4 x.q4 (anE 15 x.r6) (woE x.r10) hc hv j w hL) (fun j => law5_3 x 4 x.q4 (anE 15 x.r6) (woE x.r10) hc hv j w hL) (fun j => law5_4 x 4 x.q4 (anE 15 x.r6) (woE x.r10) hc hv j w hL) (fun j => law5_5 x 4 x.q4 (anE 15 x.r6) (woE x.r10) hc hv j w hL)
theorem cls5_3 (hw : 0 ≤ x.wh) (hk : kE x.k = 5) (hi : ixE 6 x.r1 = 3) (w : World) (hL : Laid h12 w) : Lw x w := by
  have hc : Cu x (xA 5 5 0 0 x.q4 false (anE 15 x.r6) 0 0 0 (woE x.r10)) := by
    unfold Cu
    exact fun w => cut5_3 x.k x.r1 x.r2 x.r3 x.q4 x.q5 x.r6 x.r7 x.r8 x.r9 x.r10 (csI' hk (csI' hi csN')) w (Laid.nil w)
  have hv : vP5 5 0 0 x.q4 false (anE 15 x.r6) 0 0 0 (woE x.r10) = true := bAnd (by simp [xA, eqD, eqW]) (bAnd (bAnd (by first | exact an15 _ | rfl) (by first | exact an15 _ | rfl)) (bAnd rfl (by first | exact wo_eq _ | exact sh_eq _ | exact an31 _ _ | rfl)))
  exact byJ hw (fun j => law5_0 x 5 x.q4 (anE 15 x.r6) (woE x.r10) hc hv j w hL) (fun j => law5_1 x 5 x.q4 (anE 15 x.r6) (woE x.r10) hc hv j w hL) (fun j => law5_2 x 5 x.q4 (anE 15 x.r6) (woE x.r10) hc hv j w hL) (fun j => law5_3 x 5 x.q4 (anE 15 x.r6) (woE x.r10) hc hv j w hL) (fun j => law5_4 x 5 x.q4 (anE 15 x.r6) (woE x.r10) hc hv j w hL) (fun j => law5_5 x 5 x.q4 (anE 15 x.r6) (woE x.r10) hc hv j w hL)
theorem cls5_4 (hw : 0 ≤ x.wh) (hk : kE x.k = 5) (hi : ixE 6 x.r1 = 4) (w : World) (hL : Laid h12 w) : Lw x w := by
  have hc : Cu x (xA 5 6 0 0 x.q4 false (anE 15 x.r6) 0 0 0 (woE x.r10)) := by
    unfold Cu
    exact fun w => cut5_4 x.k x.r1 x.r2 x.r3 x.q4 x.q5 x.r6 x.r7 x.r8 x.r9 x.r10 (csI' hk (csI' hi csN')) w (Laid.nil w)
  have hv : vP5 6 0 0 x.q4 false (anE 15 x.r6) 0 0 0 (woE x.r10) = true := bAnd (by simp [xA, eqD, eqW]) (bAnd (bAnd (by first | exact an15 _ | rfl) (by first | exact an15 _ | rfl)) (bAnd rfl (by first | exact wo_eq _ | exact sh_eq _ | exact an31 _ _ | rfl)))
  exact byJ hw (fun j => law5_0 x 6 x.q4 (anE 15 x.r6) (woE x.r10) hc hv j w hL) (fun j => law5_1 x 6 x.q4 (anE 15 x.r6) (woE x.r10) hc hv j w hL) (fun j => law5_2 x 6 x.q4 (anE 15 x.r6) (woE x.r10) hc hv j w hL) (fun j => law5_3 x 6 x.q4 (anE 15 x.r6) (woE x.r10) hc hv j w hL) (fun j => law5_4 x 6 x.q4 (anE 15 x.r6) (woE x.r10) hc hv j w hL) (fun j => law5_5 x 6 x.q4 (anE 15 x.r6) (woE x.r10) hc hv j w hL)
theorem cls5_5 (hw : 0 ≤ x.wh) (hk : kE x.k = 5) (hi : ixE 6 x.r1 = 5) (w : World) (hL : Laid h12 w) : Lw x w := by
  have hc : Cu x (xA 5 7 0 0 x.q4 false (anE 15 x.r6) 0 0 0 (woE x.r10)) := by
    unfold Cu
    exact fun w => cut5_5 x.k x.r1 x.r2 x.r3 x.q4 x.q5 x.r6 x.r7 x.r8 x.r9 x.r10 (csI' hk (csI' hi csN')) w (Laid.nil w)
  have hv : vP5 7 0 0 x.q4 false (anE 15 x.r6) 0 0 0 (woE x.r10) = true := bAnd (by simp [xA, eqD, eqW]) (bAnd (bAnd (by first | exact an15 _ | rfl) (by first | exact an15 _ | rfl)) (bAnd rfl (by first | exact wo_eq _ | exact sh_eq _ | exact an31 _ _ | rfl)))
  exact byJ hw (fun j => law5_0 x 7 x.q4 (anE 15 x.r6) (woE x.r10) hc hv j w hL) (fun j => law5_1 x 7 x.q4 (anE 15 x.r6) (woE x.r10) hc hv j w hL) (fun j => law5_2 x 7 x.q4 (anE 15 x.r6) (woE x.r10) hc hv j w hL) (fun j => law5_3 x 7 x.q4 (anE 15 x.r6) (woE x.r10) hc hv j w hL) (fun j => law5_4 x 7 x.q4 (anE 15 x.r6) (woE x.r10) hc hv j w hL) (fun j => law5_5 x 7 x.q4 (anE 15 x.r6) (woE x.r10) hc hv j w hL)
theorem kind5 (hw : 0 ≤ x.wh) (hk : kE x.k = 5) (w : World) (hL : Laid h12 w) : Lw x w := by
  have hb := ix_bd 6 x.r1 (by decide) (by decide)
  rcases (show ixE 6 x.r1 = 0 ∨ ixE 6 x.r1 = 1 ∨ ixE 6 x.r1 = 2 ∨ ixE 6 x.r1 = 3 ∨ ixE 6 x.r1 = 4 ∨ ixE 6 x.r1 = 5 by omega) with hi | hi | hi | hi | hi | hi
  · exact cls5_0 x hw hk hi w hL
  · exact cls5_1 x hw hk hi w hL
  · exact cls5_2 x hw hk hi w hL
  · exact cls5_3 x hw hk hi w hL
  · exact cls5_4 x hw hk hi w hL
  · exact cls5_5 x hw hk hi w hL
theorem cls6_0 (hw : 0 ≤ x.wh) (hk : kE x.k = 6) (w : World) (hL : Laid h12 w) : Lw x w := by
  have hc : Cu x (xA 6 0 0 0 x.q4 false (anE 15 x.r6) (anE 15 x.r7) 0 0 0) := by
    unfold Cu
    exact fun w => cut6_0 x.k x.r1 x.r2 x.r3 x.q4 x.q5 x.r6 x.r7 x.r8 x.r9 x.r10 (csI' hk csN') w (Laid.nil w)
  have hv : vP6 0 0 0 x.q4 false (anE 15 x.r6) (anE 15 x.r7) 0 0 0 = true := bAnd (by simp [xA, eqD, eqW]) (bAnd (bAnd (by first | exact an15 _ | rfl) (by first | exact an15 _ | rfl)) (bAnd rfl (by first | exact wo_eq _ | exact sh_eq _ | exact an31 _ _ | rfl)))
  exact byJ hw (fun j => law6_0 x x.q4 (anE 15 x.r6) (anE 15 x.r7) hc hv j w hL) (fun j => law6_1 x x.q4 (anE 15 x.r6) (anE 15 x.r7) hc hv j w hL) (fun j => law6_2 x x.q4 (anE 15 x.r6) (anE 15 x.r7) hc hv j w hL) (fun j => law6_3 x x.q4 (anE 15 x.r6) (anE 15 x.r7) hc hv j w hL) (fun j => law6_4 x x.q4 (anE 15 x.r6) (anE 15 x.r7) hc hv j w hL) (fun j => law6_5 x x.q4 (anE 15 x.r6) (anE 15 x.r7) hc hv j w hL)
theorem kind6 (hw : 0 ≤ x.wh) (hk : kE x.k = 6) (w : World) (hL : Laid h12 w) : Lw x w := by
  exact cls6_0 x hw hk w hL
theorem cls7_0 (hw : 0 ≤ x.wh) (hk : kE x.k = 7) (w : World) (hL : Laid h12 w) : Lw x w := by
  have hc : Cu x (xA 7 0 0 0 x.q4 false (anE 15 x.r6) 0 0 0 0) := by
    unfold Cu
    exact fun w => cut7_0 x.k x.r1 x.r2 x.r3 x.q4 x.q5 x.r6 x.r7 x.r8 x.r9 x.r10 (csI' hk csN') w (Laid.nil w)
  have hv : vP7 0 0 0 x.q4 false (anE 15 x.r6) 0 0 0 0 = true := bAnd (by simp [xA, eqD, eqW]) (bAnd (bAnd (by first | exact an15 _ | rfl) (by first | exact an15 _ | rfl)) (bAnd rfl (by first | exact wo_eq _ | exact sh_eq _ | exact an31 _ _ | rfl)))
  exact byJ hw (fun j => law7_0 x x.q4 (anE 15 x.r6) hc hv j w hL) (fun j => law7_1 x x.q4 (anE 15 x.r6) hc hv j w hL) (fun j => law7_2 x x.q4 (anE 15 x.r6) hc hv j w hL) (fun j => law7_3 x x.q4 (anE 15 x.r6) hc hv j w hL) (fun j => law7_4 x x.q4 (anE 15 x.r6) hc hv j w hL) (fun j => law7_5 x x.q4 (anE 15 x.r6) hc hv j w hL)
theorem kind7 (hw : 0 ≤ x.wh) (hk : kE x.k = 7) (w : World) (hL : Laid h12 w) : Lw x w := by
  exact cls7_0 x hw hk w hL
theorem cls8_0 (hw : 0 ≤ x.wh) (hk : kE x.k = 8) (w : World) (hL : Laid h12 w) : Lw x w := by
  have hc : Cu x (xA 8 0 0 0 x.q4 false (anE 15 x.r6) 0 0 0 0) := by
    unfold Cu
    exact fun w => cut8_0 x.k x.r1 x.r2 x.r3 x.q4 x.q5 x.r6 x.r7 x.r8 x.r9 x.r10 (csI' hk csN') w (Laid.nil w)
  have hv : vP8 0 0 0 x.q4 false (anE 15 x.r6) 0 0 0 0 = true := bAnd (by simp [xA, eqD, eqW]) (bAnd (bAnd (by first | exact an15 _ | rfl) (by first | exact an15 _ | rfl)) (bAnd rfl (by first | exact wo_eq _ | exact sh_eq _ | exact an31 _ _ | rfl)))
  exact byJ hw (fun j => law8_0 x x.q4 (anE 15 x.r6) hc hv j w hL) (fun j => law8_1 x x.q4 (anE 15 x.r6) hc hv j w hL) (fun j => law8_2 x x.q4 (anE 15 x.r6) hc hv j w hL) (fun j => law8_3 x x.q4 (anE 15 x.r6) hc hv j w hL) (fun j => law8_4 x x.q4 (anE 15 x.r6) hc hv j w hL) (fun j => law8_5 x x.q4 (anE 15 x.r6) hc hv j w hL)
theorem kind8 (hw : 0 ≤ x.wh) (hk : kE x.k = 8) (w : World) (hL : Laid h12 w) : Lw x w := by
  exact cls8_0 x hw hk w hL
theorem cls9_0 (hw : 0 ≤ x.wh) (hk : kE x.k = 9) (w : World) (hL : Laid h12 w) : Lw x w := by
  have hc : Cu x (xA 9 0 0 0 x.q4 false (anE 15 x.r6) 0 0 0 0) := by
    unfold Cu
    exact fun w => cut9_0 x.k x.r1 x.r2 x.r3 x.q4 x.q5 x.r6 x.r7 x.r8 x.r9 x.r10 (csI' hk csN') w (Laid.nil w)
  have hv : vP9 0 0 0 x.q4 false (anE 15 x.r6) 0 0 0 0 = true := bAnd (by simp [xA, eqD, eqW]) (bAnd (bAnd (by first | exact an15 _ | rfl) (by first | exact an15 _ | rfl)) (bAnd rfl (by first | exact wo_eq _ | exact sh_eq _ | exact an31 _ _ | rfl)))
  exact byJ hw (fun j => law9_0 x x.q4 (anE 15 x.r6) hc hv j w hL) (fun j => law9_1 x x.q4 (anE 15 x.r6) hc hv j w hL) (fun j => law9_2 x x.q4 (anE 15 x.r6) hc hv j w hL) (fun j => law9_3 x x.q4 (anE 15 x.r6) hc hv j w hL) (fun j => law9_4 x x.q4 (anE 15 x.r6) hc hv j w hL) (fun j => law9_5 x x.q4 (anE 15 x.r6) hc hv j w hL)
theorem kind9 (hw : 0 ≤ x.wh) (hk : kE x.k = 9) (w : World) (hL : Laid h12 w) : Lw x w := by
  exact cls9_0 x hw hk w hL
theorem cls10_0 (hw : 0 ≤ x.wh) (hk : kE x.k = 10) (w : World) (hL : Laid h12 w) : Lw x w := by
  have hc : Cu x (xA 10 0 0 0 x.q4 false (anE 15 x.r6) (anE 15 x.r7) 0 0 0) := by
    unfold Cu
    exact fun w => cut10_0 x.k x.r1 x.r2 x.r3 x.q4 x.q5 x.r6 x.r7 x.r8 x.r9 x.r10 (csI' hk csN') w (Laid.nil w)
  have hv : vP10 0 0 0 x.q4 false (anE 15 x.r6) (anE 15 x.r7) 0 0 0 = true := bAnd (by simp [xA, eqD, eqW]) (bAnd (bAnd (by first | exact an15 _ | rfl) (by first | exact an15 _ | rfl)) (bAnd rfl (by first | exact wo_eq _ | exact sh_eq _ | exact an31 _ _ | rfl)))
  exact byJ hw (fun j => law10_0 x x.q4 (anE 15 x.r6) (anE 15 x.r7) hc hv j w hL) (fun j => law10_1 x x.q4 (anE 15 x.r6) (anE 15 x.r7) hc hv j w hL) (fun j => law10_2 x x.q4 (anE 15 x.r6) (anE 15 x.r7) hc hv j w hL) (fun j => law10_3 x x.q4 (anE 15 x.r6) (anE 15 x.r7) hc hv j w hL) (fun j => law10_4 x x.q4 (anE 15 x.r6) (anE 15 x.r7) hc hv j w hL) (fun j => law10_5 x x.q4 (anE 15 x.r6) (anE 15 x.r7) hc hv j w hL)
theorem kind10 (hw : 0 ≤ x.wh) (hk : kE x.k = 10) (w : World) (hL : Laid h12 w) : Lw x w := by
  exact cls10_0 x hw hk w hL
theorem cls11_0 (hw : 0 ≤ x.wh) (hk : kE x.k = 11) (hi : ixE 3 x.r1 = 0) (w : World) (hL : Laid h12 w) : Lw x w := by
  have hc : Cu x (xA 11 4 0 0 x.q4 false (anE 15 x.r6) 0 0 0 (anE 31 x.r10)) := by
    unfold Cu
    exact fun w => cut11_0 x.k x.r1 x.r2 x.r3 x.q4 x.q5 x.r6 x.r7 x.r8 x.r9 x.r10 (csI' hk (csI' hi csN')) w (Laid.nil w)
  have hv : vP11 4 0 0 x.q4 false (anE 15 x.r6) 0 0 0 (anE 31 x.r10) = true := bAnd (by simp [xA, eqD, eqW]) (bAnd (bAnd (by first | exact an15 _ | rfl) (by first | exact an15 _ | rfl)) (bAnd rfl (by first | exact wo_eq _ | exact sh_eq _ | exact an31 _ _ | rfl)))
  exact byJ hw (fun j => law11_0 x 4 x.q4 (anE 15 x.r6) (anE 31 x.r10) hc hv j w hL) (fun j => law11_1 x 4 x.q4 (anE 15 x.r6) (anE 31 x.r10) hc hv j w hL) (fun j => law11_2 x 4 x.q4 (anE 15 x.r6) (anE 31 x.r10) hc hv j w hL) (fun j => law11_3 x 4 x.q4 (anE 15 x.r6) (anE 31 x.r10) hc hv j w hL) (fun j => law11_4 x 4 x.q4 (anE 15 x.r6) (anE 31 x.r10) hc hv j w hL) (fun j => law11_5 x 4 x.q4 (anE 15 x.r6) (anE 31 x.r10) hc hv j w hL)
theorem cls11_1 (hw : 0 ≤ x.wh) (hk : kE x.k = 11) (hi : ixE 3 x.r1 = 1) (w : World) (hL : Laid h12 w) : Lw x w := by
  have hc : Cu x (xA 11 5 0 0 x.q4 false (anE 15 x.r6) 0 0 0 (anE 31 x.r10)) := by
    unfold Cu
    exact fun w => cut11_1 x.k x.r1 x.r2 x.r3 x.q4 x.q5 x.r6 x.r7 x.r8 x.r9 x.r10 (csI' hk (csI' hi csN')) w (Laid.nil w)
  have hv : vP11 5 0 0 x.q4 false (anE 15 x.r6) 0 0 0 (anE 31 x.r10) = true := bAnd (by simp [xA, eqD, eqW]) (bAnd (bAnd (by first | exact an15 _ | rfl) (by first | exact an15 _ | rfl)) (bAnd rfl (by first | exact wo_eq _ | exact sh_eq _ | exact an31 _ _ | rfl)))
  exact byJ hw (fun j => law11_0 x 5 x.q4 (anE 15 x.r6) (anE 31 x.r10) hc hv j w hL) (fun j => law11_1 x 5 x.q4 (anE 15 x.r6) (anE 31 x.r10) hc hv j w hL) (fun j => law11_2 x 5 x.q4 (anE 15 x.r6) (anE 31 x.r10) hc hv j w hL) (fun j => law11_3 x 5 x.q4 (anE 15 x.r6) (anE 31 x.r10) hc hv j w hL) (fun j => law11_4 x 5 x.q4 (anE 15 x.r6) (anE 31 x.r10) hc hv j w hL) (fun j => law11_5 x 5 x.q4 (anE 15 x.r6) (anE 31 x.r10) hc hv j w hL)
theorem cls11_2 (hw : 0 ≤ x.wh) (hk : kE x.k = 11) (hi : ixE 3 x.r1 = 2) (w : World) (hL : Laid h12 w) : Lw x w := by
  have hc : Cu x (xA 11 7 0 0 x.q4 false (anE 15 x.r6) 0 0 0 (anE 31 x.r10)) := by
    unfold Cu
    exact fun w => cut11_2 x.k x.r1 x.r2 x.r3 x.q4 x.q5 x.r6 x.r7 x.r8 x.r9 x.r10 (csI' hk (csI' hi csN')) w (Laid.nil w)
  have hv : vP11 7 0 0 x.q4 false (anE 15 x.r6) 0 0 0 (anE 31 x.r10) = true := bAnd (by simp [xA, eqD, eqW]) (bAnd (bAnd (by first | exact an15 _ | rfl) (by first | exact an15 _ | rfl)) (bAnd rfl (by first | exact wo_eq _ | exact sh_eq _ | exact an31 _ _ | rfl)))
  exact byJ hw (fun j => law11_0 x 7 x.q4 (anE 15 x.r6) (anE 31 x.r10) hc hv j w hL) (fun j => law11_1 x 7 x.q4 (anE 15 x.r6) (anE 31 x.r10) hc hv j w hL) (fun j => law11_2 x 7 x.q4 (anE 15 x.r6) (anE 31 x.r10) hc hv j w hL) (fun j => law11_3 x 7 x.q4 (anE 15 x.r6) (anE 31 x.r10) hc hv j w hL) (fun j => law11_4 x 7 x.q4 (anE 15 x.r6) (anE 31 x.r10) hc hv j w hL) (fun j => law11_5 x 7 x.q4 (anE 15 x.r6) (anE 31 x.r10) hc hv j w hL)
theorem kind11 (hw : 0 ≤ x.wh) (hk : kE x.k = 11) (w : World) (hL : Laid h12 w) : Lw x w := by
  have hb := ix_bd 3 x.r1 (by decide) (by decide)
  rcases (show ixE 3 x.r1 = 0 ∨ ixE 3 x.r1 = 1 ∨ ixE 3 x.r1 = 2 by omega) with hi | hi | hi
  · exact cls11_0 x hw hk hi w hL
  · exact cls11_1 x hw hk hi w hL
  · exact cls11_2 x hw hk hi w hL
theorem cls12_0 (hw : 0 ≤ x.wh) (hk : kE x.k = 12) (hi : ixE 3 x.r1 = 0) (w : World) (hL : Laid h12 w) : Lw x w := by
  have hc : Cu x (xA 12 4 0 0 x.q4 false (anE 15 x.r6) 0 0 0 0) := by
    unfold Cu
    exact fun w => cut12_0 x.k x.r1 x.r2 x.r3 x.q4 x.q5 x.r6 x.r7 x.r8 x.r9 x.r10 (csI' hk (csI' hi csN')) w (Laid.nil w)
  have hv : vP12 4 0 0 x.q4 false (anE 15 x.r6) 0 0 0 0 = true := bAnd (by simp [xA, eqD, eqW]) (bAnd (bAnd (by first | exact an15 _ | rfl) (by first | exact an15 _ | rfl)) (bAnd rfl (by first | exact wo_eq _ | exact sh_eq _ | exact an31 _ _ | rfl)))
  exact byJ hw (fun j => law12_0 x 4 x.q4 (anE 15 x.r6) hc hv j w hL) (fun j => law12_1 x 4 x.q4 (anE 15 x.r6) hc hv j w hL) (fun j => law12_2 x 4 x.q4 (anE 15 x.r6) hc hv j w hL) (fun j => law12_3 x 4 x.q4 (anE 15 x.r6) hc hv j w hL) (fun j => law12_4 x 4 x.q4 (anE 15 x.r6) hc hv j w hL) (fun j => law12_5 x 4 x.q4 (anE 15 x.r6) hc hv j w hL)
theorem cls12_1 (hw : 0 ≤ x.wh) (hk : kE x.k = 12) (hi : ixE 3 x.r1 = 1) (w : World) (hL : Laid h12 w) : Lw x w := by
  have hc : Cu x (xA 12 5 0 0 x.q4 false (anE 15 x.r6) 0 0 0 0) := by
    unfold Cu
    exact fun w => cut12_1 x.k x.r1 x.r2 x.r3 x.q4 x.q5 x.r6 x.r7 x.r8 x.r9 x.r10 (csI' hk (csI' hi csN')) w (Laid.nil w)
  have hv : vP12 5 0 0 x.q4 false (anE 15 x.r6) 0 0 0 0 = true := bAnd (by simp [xA, eqD, eqW]) (bAnd (bAnd (by first | exact an15 _ | rfl) (by first | exact an15 _ | rfl)) (bAnd rfl (by first | exact wo_eq _ | exact sh_eq _ | exact an31 _ _ | rfl)))
  exact byJ hw (fun j => law12_0 x 5 x.q4 (anE 15 x.r6) hc hv j w hL) (fun j => law12_1 x 5 x.q4 (anE 15 x.r6) hc hv j w hL) (fun j => law12_2 x 5 x.q4 (anE 15 x.r6) hc hv j w hL) (fun j => law12_3 x 5 x.q4 (anE 15 x.r6) hc hv j w hL) (fun j => law12_4 x 5 x.q4 (anE 15 x.r6) hc hv j w hL) (fun j => law12_5 x 5 x.q4 (anE 15 x.r6) hc hv j w hL)
theorem cls12_2 (hw : 0 ≤ x.wh) (hk : kE x.k = 12) (hi : ixE 3 x.r1 = 2) (w : World) (hL : Laid h12 w) : Lw x w := by
  have hc : Cu x (xA 12 7 0 0 x.q4 false (anE 15 x.r6) 0 0 0 0) := by
    unfold Cu
    exact fun w => cut12_2 x.k x.r1 x.r2 x.r3 x.q4 x.q5 x.r6 x.r7 x.r8 x.r9 x.r10 (csI' hk (csI' hi csN')) w (Laid.nil w)
  have hv : vP12 7 0 0 x.q4 false (anE 15 x.r6) 0 0 0 0 = true := bAnd (by simp [xA, eqD, eqW]) (bAnd (bAnd (by first | exact an15 _ | rfl) (by first | exact an15 _ | rfl)) (bAnd rfl (by first | exact wo_eq _ | exact sh_eq _ | exact an31 _ _ | rfl)))
  exact byJ hw (fun j => law12_0 x 7 x.q4 (anE 15 x.r6) hc hv j w hL) (fun j => law12_1 x 7 x.q4 (anE 15 x.r6) hc hv j w hL) (fun j => law12_2 x 7 x.q4 (anE 15 x.r6) hc hv j w hL) (fun j => law12_3 x 7 x.q4 (anE 15 x.r6) hc hv j w hL) (fun j => law12_4 x 7 x.q4 (anE 15 x.r6) hc hv j w hL) (fun j => law12_5 x 7 x.q4 (anE 15 x.r6) hc hv j w hL)
theorem kind12 (hw : 0 ≤ x.wh) (hk : kE x.k = 12) (w : World) (hL : Laid h12 w) : Lw x w := by
  have hb := ix_bd 3 x.r1 (by decide) (by decide)
  rcases (show ixE 3 x.r1 = 0 ∨ ixE 3 x.r1 = 1 ∨ ixE 3 x.r1 = 2 by omega) with hi | hi | hi
  · exact cls12_0 x hw hk hi w hL
  · exact cls12_1 x hw hk hi w hL
  · exact cls12_2 x hw hk hi w hL
theorem cls13_0 (hw : 0 ≤ x.wh) (hk : kE x.k = 13) (hi : anE 3 x.r3 = 0) (w : World) (hL : Laid h12 w) : Lw x w := by
  have hc : Cu x (xA 13 0 0 1 false false (anE 15 x.r6) (anE 15 x.r7) x.r8 0 0) := by
    unfold Cu
    exact fun w => cut13_0 x.k x.r1 x.r2 x.r3 x.q4 x.q5 x.r6 x.r7 x.r8 x.r9 x.r10 (csI' hk (csI' hi csN')) w (Laid.nil w)
  have hv : vP13 0 0 1 false false (anE 15 x.r6) (anE 15 x.r7) x.r8 0 0 = true := bAnd (by simp [xA, eqD, eqW]) (bAnd (bAnd (by first | exact an15 _ | rfl) (by first | exact an15 _ | rfl)) (bAnd rfl (by first | exact wo_eq _ | exact sh_eq _ | exact an31 _ _ | rfl)))
  exact byJ hw (fun j => law13_0 x 1 false (anE 15 x.r6) (anE 15 x.r7) x.r8 hc hv j w hL) (fun j => law13_1 x 1 false (anE 15 x.r6) (anE 15 x.r7) x.r8 hc hv j w hL) (fun j => law13_2 x 1 false (anE 15 x.r6) (anE 15 x.r7) x.r8 hc hv j w hL) (fun j => law13_3 x 1 false (anE 15 x.r6) (anE 15 x.r7) x.r8 hc hv j w hL) (fun j => law13_4 x 1 false (anE 15 x.r6) (anE 15 x.r7) x.r8 hc hv j w hL) (fun j => law13_5 x 1 false (anE 15 x.r6) (anE 15 x.r7) x.r8 hc hv j w hL)
theorem cls13_1 (hw : 0 ≤ x.wh) (hk : kE x.k = 13) (hi : anE 3 x.r3 = 1) (w : World) (hL : Laid h12 w) : Lw x w := by
  have hc : Cu x (xA 13 0 0 2 false false (anE 15 x.r6) (anE 15 x.r7) x.r8 0 0) := by
    unfold Cu
    exact fun w => cut13_1 x.k x.r1 x.r2 x.r3 x.q4 x.q5 x.r6 x.r7 x.r8 x.r9 x.r10 (csI' hk (csI' hi csN')) w (Laid.nil w)
  have hv : vP13 0 0 2 false false (anE 15 x.r6) (anE 15 x.r7) x.r8 0 0 = true := bAnd (by simp [xA, eqD, eqW]) (bAnd (bAnd (by first | exact an15 _ | rfl) (by first | exact an15 _ | rfl)) (bAnd rfl (by first | exact wo_eq _ | exact sh_eq _ | exact an31 _ _ | rfl)))
  exact byJ hw (fun j => law13_0 x 2 false (anE 15 x.r6) (anE 15 x.r7) x.r8 hc hv j w hL) (fun j => law13_1 x 2 false (anE 15 x.r6) (anE 15 x.r7) x.r8 hc hv j w hL) (fun j => law13_2 x 2 false (anE 15 x.r6) (anE 15 x.r7) x.r8 hc hv j w hL) (fun j => law13_3 x 2 false (anE 15 x.r6) (anE 15 x.r7) x.r8 hc hv j w hL) (fun j => law13_4 x 2 false (anE 15 x.r6) (anE 15 x.r7) x.r8 hc hv j w hL) (fun j => law13_5 x 2 false (anE 15 x.r6) (anE 15 x.r7) x.r8 hc hv j w hL)
theorem cls13_2 (hw : 0 ≤ x.wh) (hk : kE x.k = 13) (hi : anE 3 x.r3 = 2) (w : World) (hL : Laid h12 w) : Lw x w := by
  have hc : Cu x (xA 13 0 0 4 false false (anE 15 x.r6) (anE 15 x.r7) x.r8 0 0) := by
    unfold Cu
    exact fun w => cut13_2 x.k x.r1 x.r2 x.r3 x.q4 x.q5 x.r6 x.r7 x.r8 x.r9 x.r10 (csI' hk (csI' hi csN')) w (Laid.nil w)
  have hv : vP13 0 0 4 false false (anE 15 x.r6) (anE 15 x.r7) x.r8 0 0 = true := bAnd (by simp [xA, eqD, eqW]) (bAnd (bAnd (by first | exact an15 _ | rfl) (by first | exact an15 _ | rfl)) (bAnd rfl (by first | exact wo_eq _ | exact sh_eq _ | exact an31 _ _ | rfl)))
  exact byJ hw (fun j => law13_0 x 4 false (anE 15 x.r6) (anE 15 x.r7) x.r8 hc hv j w hL) (fun j => law13_1 x 4 false (anE 15 x.r6) (anE 15 x.r7) x.r8 hc hv j w hL) (fun j => law13_2 x 4 false (anE 15 x.r6) (anE 15 x.r7) x.r8 hc hv j w hL) (fun j => law13_3 x 4 false (anE 15 x.r6) (anE 15 x.r7) x.r8 hc hv j w hL) (fun j => law13_4 x 4 false (anE 15 x.r6) (anE 15 x.r7) x.r8 hc hv j w hL) (fun j => law13_5 x 4 false (anE 15 x.r6) (anE 15 x.r7) x.r8 hc hv j w hL)
theorem cls13_3 (hw : 0 ≤ x.wh) (hk : kE x.k = 13) (hi : anE 3 x.r3 = 3) (w : World) (hL : Laid h12 w) : Lw x w := by
  have hc : Cu x (xA 13 0 0 8 true false (anE 15 x.r6) (anE 15 x.r7) x.r8 0 0) := by
    unfold Cu
    exact fun w => cut13_3 x.k x.r1 x.r2 x.r3 x.q4 x.q5 x.r6 x.r7 x.r8 x.r9 x.r10 (csI' hk (csI' hi csN')) w (Laid.nil w)
  have hv : vP13 0 0 8 true false (anE 15 x.r6) (anE 15 x.r7) x.r8 0 0 = true := bAnd (by simp [xA, eqD, eqW]) (bAnd (bAnd (by first | exact an15 _ | rfl) (by first | exact an15 _ | rfl)) (bAnd rfl (by first | exact wo_eq _ | exact sh_eq _ | exact an31 _ _ | rfl)))
  exact byJ hw (fun j => law13_0 x 8 true (anE 15 x.r6) (anE 15 x.r7) x.r8 hc hv j w hL) (fun j => law13_1 x 8 true (anE 15 x.r6) (anE 15 x.r7) x.r8 hc hv j w hL) (fun j => law13_2 x 8 true (anE 15 x.r6) (anE 15 x.r7) x.r8 hc hv j w hL) (fun j => law13_3 x 8 true (anE 15 x.r6) (anE 15 x.r7) x.r8 hc hv j w hL) (fun j => law13_4 x 8 true (anE 15 x.r6) (anE 15 x.r7) x.r8 hc hv j w hL) (fun j => law13_5 x 8 true (anE 15 x.r6) (anE 15 x.r7) x.r8 hc hv j w hL)
theorem kind13 (hw : 0 ≤ x.wh) (hk : kE x.k = 13) (w : World) (hL : Laid h12 w) : Lw x w := by
  have hb := an_bd 4 3 x.r3 (by decide) (by decide)
  rcases (show anE 3 x.r3 = 0 ∨ anE 3 x.r3 = 1 ∨ anE 3 x.r3 = 2 ∨ anE 3 x.r3 = 3 by omega) with hi | hi | hi | hi
  · exact cls13_0 x hw hk hi w hL
  · exact cls13_1 x hw hk hi w hL
  · exact cls13_2 x hw hk hi w hL
  · exact cls13_3 x hw hk hi w hL
theorem cls14_0 (hw : 0 ≤ x.wh) (hk : kE x.k = 14) (hi : anE 3 x.r3 = 0) (w : World) (hL : Laid h12 w) : Lw x w := by
  have hc : Cu x (xA 14 0 0 1 false false (anE 15 x.r6) (anE 15 x.r7) x.r8 0 0) := by
    unfold Cu
    exact fun w => cut14_0 x.k x.r1 x.r2 x.r3 x.q4 x.q5 x.r6 x.r7 x.r8 x.r9 x.r10 (csI' hk (csI' hi csN')) w (Laid.nil w)
  have hv : vP14 0 0 1 false false (anE 15 x.r6) (anE 15 x.r7) x.r8 0 0 = true := bAnd (by simp [xA, eqD, eqW]) (bAnd (bAnd (by first | exact an15 _ | rfl) (by first | exact an15 _ | rfl)) (bAnd rfl (by first | exact wo_eq _ | exact sh_eq _ | exact an31 _ _ | rfl)))
  exact byJ hw (fun j => law14_0 x 1 false (anE 15 x.r6) (anE 15 x.r7) x.r8 hc hv j w hL) (fun j => law14_1 x 1 false (anE 15 x.r6) (anE 15 x.r7) x.r8 hc hv j w hL) (fun j => law14_2 x 1 false (anE 15 x.r6) (anE 15 x.r7) x.r8 hc hv j w hL) (fun j => law14_3 x 1 false (anE 15 x.r6) (anE 15 x.r7) x.r8 hc hv j w hL) (fun j => law14_4 x 1 false (anE 15 x.r6) (anE 15 x.r7) x.r8 hc hv j w hL) (fun j => law14_5 x 1 false (anE 15 x.r6) (anE 15 x.r7) x.r8 hc hv j w hL)
theorem cls14_1 (hw : 0 ≤ x.wh) (hk : kE x.k = 14) (hi : anE 3 x.r3 = 1) (w : World) (hL : Laid h12 w) : Lw x w := by
  have hc : Cu x (xA 14 0 0 2 false false (anE 15 x.r6) (anE 15 x.r7) x.r8 0 0) := by
    unfold Cu
    exact fun w => cut14_1 x.k x.r1 x.r2 x.r3 x.q4 x.q5 x.r6 x.r7 x.r8 x.r9 x.r10 (csI' hk (csI' hi csN')) w (Laid.nil w)
  have hv : vP14 0 0 2 false false (anE 15 x.r6) (anE 15 x.r7) x.r8 0 0 = true := bAnd (by simp [xA, eqD, eqW]) (bAnd (bAnd (by first | exact an15 _ | rfl) (by first | exact an15 _ | rfl)) (bAnd rfl (by first | exact wo_eq _ | exact sh_eq _ | exact an31 _ _ | rfl)))
  exact byJ hw (fun j => law14_0 x 2 false (anE 15 x.r6) (anE 15 x.r7) x.r8 hc hv j w hL) (fun j => law14_1 x 2 false (anE 15 x.r6) (anE 15 x.r7) x.r8 hc hv j w hL) (fun j => law14_2 x 2 false (anE 15 x.r6) (anE 15 x.r7) x.r8 hc hv j w hL) (fun j => law14_3 x 2 false (anE 15 x.r6) (anE 15 x.r7) x.r8 hc hv j w hL) (fun j => law14_4 x 2 false (anE 15 x.r6) (anE 15 x.r7) x.r8 hc hv j w hL) (fun j => law14_5 x 2 false (anE 15 x.r6) (anE 15 x.r7) x.r8 hc hv j w hL)
theorem cls14_2 (hw : 0 ≤ x.wh) (hk : kE x.k = 14) (hi : anE 3 x.r3 = 2) (w : World) (hL : Laid h12 w) : Lw x w := by
  have hc : Cu x (xA 14 0 0 4 false false (anE 15 x.r6) (anE 15 x.r7) x.r8 0 0) := by
    unfold Cu
    exact fun w => cut14_2 x.k x.r1 x.r2 x.r3 x.q4 x.q5 x.r6 x.r7 x.r8 x.r9 x.r10 (csI' hk (csI' hi csN')) w (Laid.nil w)
  have hv : vP14 0 0 4 false false (anE 15 x.r6) (anE 15 x.r7) x.r8 0 0 = true := bAnd (by simp [xA, eqD, eqW]) (bAnd (bAnd (by first | exact an15 _ | rfl) (by first | exact an15 _ | rfl)) (bAnd rfl (by first | exact wo_eq _ | exact sh_eq _ | exact an31 _ _ | rfl)))
  exact byJ hw (fun j => law14_0 x 4 false (anE 15 x.r6) (anE 15 x.r7) x.r8 hc hv j w hL) (fun j => law14_1 x 4 false (anE 15 x.r6) (anE 15 x.r7) x.r8 hc hv j w hL) (fun j => law14_2 x 4 false (anE 15 x.r6) (anE 15 x.r7) x.r8 hc hv j w hL) (fun j => law14_3 x 4 false (anE 15 x.r6) (anE 15 x.r7) x.r8 hc hv j w hL) (fun j => law14_4 x 4 false (anE 15 x.r6) (anE 15 x.r7) x.r8 hc hv j w hL) (fun j => law14_5 x 4 false (anE 15 x.r6) (anE 15 x.r7) x.r8 hc hv j w hL)
theorem cls14_3 (hw : 0 ≤ x.wh) (hk : kE x.k = 14) (hi : anE 3 x.r3 = 3) (w : World) (hL : Laid h12 w) : Lw x w := by
  have hc : Cu x (xA 14 0 0 8 true false (anE 15 x.r6) (anE 15 x.r7) x.r8 0 0) := by
    unfold Cu
    exact fun w => cut14_3 x.k x.r1 x.r2 x.r3 x.q4 x.q5 x.r6 x.r7 x.r8 x.r9 x.r10 (csI' hk (csI' hi csN')) w (Laid.nil w)
  have hv : vP14 0 0 8 true false (anE 15 x.r6) (anE 15 x.r7) x.r8 0 0 = true := bAnd (by simp [xA, eqD, eqW]) (bAnd (bAnd (by first | exact an15 _ | rfl) (by first | exact an15 _ | rfl)) (bAnd rfl (by first | exact wo_eq _ | exact sh_eq _ | exact an31 _ _ | rfl)))
  exact byJ hw (fun j => law14_0 x 8 true (anE 15 x.r6) (anE 15 x.r7) x.r8 hc hv j w hL) (fun j => law14_1 x 8 true (anE 15 x.r6) (anE 15 x.r7) x.r8 hc hv j w hL) (fun j => law14_2 x 8 true (anE 15 x.r6) (anE 15 x.r7) x.r8 hc hv j w hL) (fun j => law14_3 x 8 true (anE 15 x.r6) (anE 15 x.r7) x.r8 hc hv j w hL) (fun j => law14_4 x 8 true (anE 15 x.r6) (anE 15 x.r7) x.r8 hc hv j w hL) (fun j => law14_5 x 8 true (anE 15 x.r6) (anE 15 x.r7) x.r8 hc hv j w hL)
theorem kind14 (hw : 0 ≤ x.wh) (hk : kE x.k = 14) (w : World) (hL : Laid h12 w) : Lw x w := by
  have hb := an_bd 4 3 x.r3 (by decide) (by decide)
  rcases (show anE 3 x.r3 = 0 ∨ anE 3 x.r3 = 1 ∨ anE 3 x.r3 = 2 ∨ anE 3 x.r3 = 3 by omega) with hi | hi | hi | hi
  · exact cls14_0 x hw hk hi w hL
  · exact cls14_1 x hw hk hi w hL
  · exact cls14_2 x hw hk hi w hL
  · exact cls14_3 x hw hk hi w hL
theorem cls15_0_1 (hw : 0 ≤ x.wh) (hk : kE x.k = 15) (hq : x.q5 = true) (w : World) (hL : Laid h12 w) : Lw x w := by
  have hc : Cu x (xA 15 0 0 0 false true 0 0 0 (shE x.r9) 0) := by
    unfold Cu
    rw [hq]
    exact fun w => cut15_0_1 x.k x.r1 x.r2 x.r3 x.q4 x.r6 x.r7 x.r8 x.r9 x.r10 (csI' hk csN') w (Laid.nil w)
  have hv : vP15 0 0 0 false true 0 0 0 (shE x.r9) 0 = true := bAnd (by simp [xA, eqD, eqW]) (bAnd (bAnd (by first | exact an15 _ | rfl) (by first | exact an15 _ | rfl)) (bAnd rfl (by first | exact wo_eq _ | exact sh_eq _ | exact an31 _ _ | rfl)))
  exact byJ hw (fun j => law15_0 x true (shE x.r9) hc hv j w hL) (fun j => law15_1 x true (shE x.r9) hc hv j w hL) (fun j => law15_2 x true (shE x.r9) hc hv j w hL) (fun j => law15_3 x true (shE x.r9) hc hv j w hL) (fun j => law15_4 x true (shE x.r9) hc hv j w hL) (fun j => law15_5 x true (shE x.r9) hc hv j w hL)
theorem cls15_0_0 (hw : 0 ≤ x.wh) (hk : kE x.k = 15) (hq : x.q5 = false) (w : World) (hL : Laid h12 w) : Lw x w := by
  have hc : Cu x (xA 15 0 0 0 false false 0 0 0 x.r9 0) := by
    unfold Cu
    rw [hq]
    exact fun w => cut15_0_0 x.k x.r1 x.r2 x.r3 x.q4 x.r6 x.r7 x.r8 x.r9 x.r10 (csI' hk csN') w (Laid.nil w)
  have hv : vP15 0 0 0 false false 0 0 0 x.r9 0 = true := bAnd (by simp [xA, eqD, eqW]) (bAnd (bAnd (by first | exact an15 _ | rfl) (by first | exact an15 _ | rfl)) (bAnd rfl (by first | exact wo_eq _ | exact sh_eq _ | exact an31 _ _ | rfl)))
  exact byJ hw (fun j => law15_0 x false x.r9 hc hv j w hL) (fun j => law15_1 x false x.r9 hc hv j w hL) (fun j => law15_2 x false x.r9 hc hv j w hL) (fun j => law15_3 x false x.r9 hc hv j w hL) (fun j => law15_4 x false x.r9 hc hv j w hL) (fun j => law15_5 x false x.r9 hc hv j w hL)
theorem kind15 (hw : 0 ≤ x.wh) (hk : kE x.k = 15) (w : World) (hL : Laid h12 w) : Lw x w := by
  rcases Bool.eq_false_or_eq_true x.q5 with hq | hq
  · exact cls15_0_1 x hw hk hq w hL
  · exact cls15_0_0 x hw hk hq w hL
theorem cls16_0_1 (hw : 0 ≤ x.wh) (hk : kE x.k = 16) (hi : ixE 10 x.r2 = 0) (hq : x.q5 = true) (w : World) (hL : Laid h12 w) : Lw x w := by
  have hc : Cu x (xA 16 0 2 0 false true 0 0 0 (shE x.r9) 0) := by
    unfold Cu
    rw [hq]
    exact fun w => cut16_0_1 x.k x.r1 x.r2 x.r3 x.q4 x.r6 x.r7 x.r8 x.r9 x.r10 (csI' hk (csI' hi csN')) w (Laid.nil w)
  have hv : vP16 0 2 0 false true 0 0 0 (shE x.r9) 0 = true := bAnd (by simp [xA, eqD, eqW]) (bAnd (bAnd (by first | exact an15 _ | rfl) (by first | exact an15 _ | rfl)) (bAnd rfl (by first | exact wo_eq _ | exact sh_eq _ | exact an31 _ _ | rfl)))
  exact byJ hw (fun j => law16_0 x 2 true (shE x.r9) hc hv j w hL) (fun j => law16_1 x 2 true (shE x.r9) hc hv j w hL) (fun j => law16_2 x 2 true (shE x.r9) hc hv j w hL) (fun j => law16_3 x 2 true (shE x.r9) hc hv j w hL) (fun j => law16_4 x 2 true (shE x.r9) hc hv j w hL) (fun j => law16_5 x 2 true (shE x.r9) hc hv j w hL)
theorem cls16_1_1 (hw : 0 ≤ x.wh) (hk : kE x.k = 16) (hi : ixE 10 x.r2 = 1) (hq : x.q5 = true) (w : World) (hL : Laid h12 w) : Lw x w := by
  have hc : Cu x (xA 16 0 3 0 false true 0 0 0 (shE x.r9) 0) := by
    unfold Cu
    rw [hq]
    exact fun w => cut16_1_1 x.k x.r1 x.r2 x.r3 x.q4 x.r6 x.r7 x.r8 x.r9 x.r10 (csI' hk (csI' hi csN')) w (Laid.nil w)
  have hv : vP16 0 3 0 false true 0 0 0 (shE x.r9) 0 = true := bAnd (by simp [xA, eqD, eqW]) (bAnd (bAnd (by first | exact an15 _ | rfl) (by first | exact an15 _ | rfl)) (bAnd rfl (by first | exact wo_eq _ | exact sh_eq _ | exact an31 _ _ | rfl)))
  exact byJ hw (fun j => law16_0 x 3 true (shE x.r9) hc hv j w hL) (fun j => law16_1 x 3 true (shE x.r9) hc hv j w hL) (fun j => law16_2 x 3 true (shE x.r9) hc hv j w hL) (fun j => law16_3 x 3 true (shE x.r9) hc hv j w hL) (fun j => law16_4 x 3 true (shE x.r9) hc hv j w hL) (fun j => law16_5 x 3 true (shE x.r9) hc hv j w hL)
theorem cls16_2_1 (hw : 0 ≤ x.wh) (hk : kE x.k = 16) (hi : ixE 10 x.r2 = 2) (hq : x.q5 = true) (w : World) (hL : Laid h12 w) : Lw x w := by
  have hc : Cu x (xA 16 0 4 0 false true 0 0 0 (shE x.r9) 0) := by
    unfold Cu
    rw [hq]
    exact fun w => cut16_2_1 x.k x.r1 x.r2 x.r3 x.q4 x.r6 x.r7 x.r8 x.r9 x.r10 (csI' hk (csI' hi csN')) w (Laid.nil w)
  have hv : vP16 0 4 0 false true 0 0 0 (shE x.r9) 0 = true := bAnd (by simp [xA, eqD, eqW]) (bAnd (bAnd (by first | exact an15 _ | rfl) (by first | exact an15 _ | rfl)) (bAnd rfl (by first | exact wo_eq _ | exact sh_eq _ | exact an31 _ _ | rfl)))
  exact byJ hw (fun j => law16_0 x 4 true (shE x.r9) hc hv j w hL) (fun j => law16_1 x 4 true (shE x.r9) hc hv j w hL) (fun j => law16_2 x 4 true (shE x.r9) hc hv j w hL) (fun j => law16_3 x 4 true (shE x.r9) hc hv j w hL) (fun j => law16_4 x 4 true (shE x.r9) hc hv j w hL) (fun j => law16_5 x 4 true (shE x.r9) hc hv j w hL)
theorem cls16_3_1 (hw : 0 ≤ x.wh) (hk : kE x.k = 16) (hi : ixE 10 x.r2 = 3) (hq : x.q5 = true) (w : World) (hL : Laid h12 w) : Lw x w := by
  have hc : Cu x (xA 16 0 5 0 false true 0 0 0 (shE x.r9) 0) := by
    unfold Cu
    rw [hq]
    exact fun w => cut16_3_1 x.k x.r1 x.r2 x.r3 x.q4 x.r6 x.r7 x.r8 x.r9 x.r10 (csI' hk (csI' hi csN')) w (Laid.nil w)
  have hv : vP16 0 5 0 false true 0 0 0 (shE x.r9) 0 = true := bAnd (by simp [xA, eqD, eqW]) (bAnd (bAnd (by first | exact an15 _ | rfl) (by first | exact an15 _ | rfl)) (bAnd rfl (by first | exact wo_eq _ | exact sh_eq _ | exact an31 _ _ | rfl)))
  exact byJ hw (fun j => law16_0 x 5 true (shE x.r9) hc hv j w hL) (fun j => law16_1 x 5 true (shE x.r9) hc hv j w hL) (fun j => law16_2 x 5 true (shE x.r9) hc hv j w hL) (fun j => law16_3 x 5 true (shE x.r9) hc hv j w hL) (fun j => law16_4 x 5 true (shE x.r9) hc hv j w hL) (fun j => law16_5 x 5 true (shE x.r9) hc hv j w hL)
theorem cls16_4_1 (hw : 0 ≤ x.wh) (hk : kE x.k = 16) (hi : ixE 10 x.r2 = 4) (hq : x.q5 = true) (w : World) (hL : Laid h12 w) : Lw x w := by
  have hc : Cu x (xA 16 0 6 0 false true 0 0 0 (shE x.r9) 0) := by
    unfold Cu
    rw [hq]
    exact fun w => cut16_4_1 x.k x.r1 x.r2 x.r3 x.q4 x.r6 x.r7 x.r8 x.r9 x.r10 (csI' hk (csI' hi csN')) w (Laid.nil w)
  have hv : vP16 0 6 0 false true 0 0 0 (shE x.r9) 0 = true := bAnd (by simp [xA, eqD, eqW]) (bAnd (bAnd (by first | exact an15 _ | rfl) (by first | exact an15 _ | rfl)) (bAnd rfl (by first | exact wo_eq _ | exact sh_eq _ | exact an31 _ _ | rfl)))
  exact byJ hw (fun j => law16_0 x 6 true (shE x.r9) hc hv j w hL) (fun j => law16_1 x 6 true (shE x.r9) hc hv j w hL) (fun j => law16_2 x 6 true (shE x.r9) hc hv j w hL) (fun j => law16_3 x 6 true (shE x.r9) hc hv j w hL) (fun j => law16_4 x 6 true (shE x.r9) hc hv j w hL) (fun j => law16_5 x 6 true (shE x.r9) hc hv j w hL)
theorem cls16_5_1 (hw : 0 ≤ x.wh) (hk : kE x.k = 16) (hi : ixE 10 x.r2 = 5) (hq : x.q5 = true) (w : World) (hL : Laid h12 w) : Lw x w := by
  have hc : Cu x (xA 16 0 7 0 false true 0 0 0 (shE x.r9) 0) := by
    unfold Cu
    rw [hq]
    exact fun w => cut16_5_1 x.k x.r1 x.r2 x.r3 x.q4 x.r6 x.r7 x.r8 x.r9 x.r10 (csI' hk (csI' hi csN')) w (Laid.nil w)
  have hv : vP16 0 7 0 false true 0 0 0 (shE x.r9) 0 = true := bAnd (by simp [xA, eqD, eqW]) (bAnd (bAnd (by first | exact an15 _ | rfl) (by first | exact an15 _ | rfl)) (bAnd rfl (by first | exact wo_eq _ | exact sh_eq _ | exact an31 _ _ | rfl)))
  exact byJ hw (fun j => law16_0 x 7 true (shE x.r9) hc hv j w hL) (fun j => law16_1 x 7 true (shE x.r9) hc hv j w hL) (fun j => law16_2 x 7 true (shE x.r9) hc hv j w hL) (fun j => law16_3 x 7 true (shE x.r9) hc hv j w hL) (fun j => law16_4 x 7 true (shE x.r9) hc hv j w hL) (fun j => law16_5 x 7 true (shE x.r9) hc hv j w hL)
theorem cls16_6_1 (hw : 0 ≤ x.wh) (hk : kE x.k = 16) (hi : ixE 10 x.r2 = 6) (hq : x.q5 = true) (w : World) (hL : Laid h12 w) : Lw x w := by
  have hc : Cu x (xA 16 0 12 0 false true 0 0 0 (shE x.r9) 0) := by
    unfold Cu
    rw [hq]
    exact fun w => cut16_6_1 x.k x.r1 x.r2 x.r3 x.q4 x.r6 x.r7 x.r8 x.r9 x.r10 (csI' hk (csI' hi csN')) w (Laid.nil w)
  have hv : vP16 0 12 0 false true 0 0 0 (shE x.r9) 0 = true := bAnd (by simp [xA, eqD, eqW]) (bAnd (bAnd (by first | exact an15 _ | rfl) (by first | exact an15 _ | rfl)) (bAnd rfl (by first | exact wo_eq _ | exact sh_eq _ | exact an31 _ _ | rfl)))
  exact byJ hw (fun j => law16_0 x 12 true (shE x.r9) hc hv j w hL) (fun j => law16_1 x 12 true (shE x.r9) hc hv j w hL) (fun j => law16_2 x 12 true (shE x.r9) hc hv j w hL) (fun j => law16_3 x 12 true (shE x.r9) hc hv j w hL) (fun j => law16_4 x 12 true (shE x.r9) hc hv j w hL) (fun j => law16_5 x 12 true (shE x.r9) hc hv j w hL)
theorem cls16_7_1 (hw : 0 ≤ x.wh) (hk : kE x.k = 16) (hi : ixE 10 x.r2 = 7) (hq : x.q5 = true) (w : World) (hL : Laid h12 w) : Lw x w := by
  have hc : Cu x (xA 16 0 13 0 false true 0 0 0 (shE x.r9) 0) := by
    unfold Cu
    rw [hq]
    exact fun w => cut16_7_1 x.k x.r1 x.r2 x.r3 x.q4 x.r6 x.r7 x.r8 x.r9 x.r10 (csI' hk (csI' hi csN')) w (Laid.nil w)
  have hv : vP16 0 13 0 false true 0 0 0 (shE x.r9) 0 = true := bAnd (by simp [xA, eqD, eqW]) (bAnd (bAnd (by first | exact an15 _ | rfl) (by first | exact an15 _ | rfl)) (bAnd rfl (by first | exact wo_eq _ | exact sh_eq _ | exact an31 _ _ | rfl)))
  exact byJ hw (fun j => law16_0 x 13 true (shE x.r9) hc hv j w hL) (fun j => law16_1 x 13 true (shE x.r9) hc hv j w hL) (fun j => law16_2 x 13 true (shE x.r9) hc hv j w hL) (fun j => law16_3 x 13 true (shE x.r9) hc hv j w hL) (fun j => law16_4 x 13 true (shE x.r9) hc hv j w hL) (fun j => law16_5 x 13 true (shE x.r9) hc hv j w hL)
theorem cls16_8_1 (hw : 0 ≤ x.wh) (hk : kE x.k = 16) (hi : ixE 10 x.r2 = 8) (hq : x.q5 = true) (w : World) (hL : Laid h12 w) : Lw x w := by
  have hc : Cu x (xA 16 0 14 0 false true 0 0 0 (shE x.r9) 0) := by
    unfold Cu
    rw [hq]
    exact fun w => cut16_8_1 x.k x.r1 x.r2 x.r3 x.q4 x.r6 x.r7 x.r8 x.r9 x.r10 (csI' hk (csI' hi csN')) w (Laid.nil w)
  have hv : vP16 0 14 0 false true 0 0 0 (shE x.r9) 0 = true := bAnd (by simp [xA, eqD, eqW]) (bAnd (bAnd (by first | exact an15 _ | rfl) (by first | exact an15 _ | rfl)) (bAnd rfl (by first | exact wo_eq _ | exact sh_eq _ | exact an31 _ _ | rfl)))
  exact byJ hw (fun j => law16_0 x 14 true (shE x.r9) hc hv j w hL) (fun j => law16_1 x 14 true (shE x.r9) hc hv j w hL) (fun j => law16_2 x 14 true (shE x.r9) hc hv j w hL) (fun j => law16_3 x 14 true (shE x.r9) hc hv j w hL) (fun j => law16_4 x 14 true (shE x.r9) hc hv j w hL) (fun j => law16_5 x 14 true (shE x.r9) hc hv j w hL)
theorem cls16_9_1 (hw : 0 ≤ x.wh) (hk : kE x.k = 16) (hi : ixE 10 x.r2 = 9) (hq : x.q5 = true) (w : World) (hL : Laid h12 w) : Lw x w := by
  have hc : Cu x (xA 16 0 15 0 false true 0 0 0 (shE x.r9) 0) := by
    unfold Cu
    rw [hq]
    exact fun w => cut16_9_1 x.k x.r1 x.r2 x.r3 x.q4 x.r6 x.r7 x.r8 x.r9 x.r10 (csI' hk (csI' hi csN')) w (Laid.nil w)
  have hv : vP16 0 15 0 false true 0 0 0 (shE x.r9) 0 = true := bAnd (by simp [xA, eqD, eqW]) (bAnd (bAnd (by first | exact an15 _ | rfl) (by first | exact an15 _ | rfl)) (bAnd rfl (by first | exact wo_eq _ | exact sh_eq _ | exact an31 _ _ | rfl)))
  exact byJ hw (fun j => law16_0 x 15 true (shE x.r9) hc hv j w hL) (fun j => law16_1 x 15 true (shE x.r9) hc hv j w hL) (fun j => law16_2 x 15 true (shE x.r9) hc hv j w hL) (fun j => law16_3 x 15 true (shE x.r9) hc hv j w hL) (fun j => law16_4 x 15 true (shE x.r9) hc hv j w hL) (fun j => law16_5 x 15 true (shE x.r9) hc hv j w hL)
theorem cls16_0_0 (hw : 0 ≤ x.wh) (hk : kE x.k = 16) (hi : ixE 10 x.r2 = 0) (hq : x.q5 = false) (w : World) (hL : Laid h12 w) : Lw x w := by
  have hc : Cu x (xA 16 0 2 0 false false 0 0 0 x.r9 0) := by
    unfold Cu
    rw [hq]
    exact fun w => cut16_0_0 x.k x.r1 x.r2 x.r3 x.q4 x.r6 x.r7 x.r8 x.r9 x.r10 (csI' hk (csI' hi csN')) w (Laid.nil w)
  have hv : vP16 0 2 0 false false 0 0 0 x.r9 0 = true := bAnd (by simp [xA, eqD, eqW]) (bAnd (bAnd (by first | exact an15 _ | rfl) (by first | exact an15 _ | rfl)) (bAnd rfl (by first | exact wo_eq _ | exact sh_eq _ | exact an31 _ _ | rfl)))
  exact byJ hw (fun j => law16_0 x 2 false x.r9 hc hv j w hL) (fun j => law16_1 x 2 false x.r9 hc hv j w hL) (fun j => law16_2 x 2 false x.r9 hc hv j w hL) (fun j => law16_3 x 2 false x.r9 hc hv j w hL) (fun j => law16_4 x 2 false x.r9 hc hv j w hL) (fun j => law16_5 x 2 false x.r9 hc hv j w hL)
theorem cls16_1_0 (hw : 0 ≤ x.wh) (hk : kE x.k = 16) (hi : ixE 10 x.r2 = 1) (hq : x.q5 = false) (w : World) (hL : Laid h12 w) : Lw x w := by
  have hc : Cu x (xA 16 0 3 0 false false 0 0 0 x.r9 0) := by
    unfold Cu
    rw [hq]
    exact fun w => cut16_1_0 x.k x.r1 x.r2 x.r3 x.q4 x.r6 x.r7 x.r8 x.r9 x.r10 (csI' hk (csI' hi csN')) w (Laid.nil w)
  have hv : vP16 0 3 0 false false 0 0 0 x.r9 0 = true := bAnd (by simp [xA, eqD, eqW]) (bAnd (bAnd (by first | exact an15 _ | rfl) (by first | exact an15 _ | rfl)) (bAnd rfl (by first | exact wo_eq _ | exact sh_eq _ | exact an31 _ _ | rfl)))
  exact byJ hw (fun j => law16_0 x 3 false x.r9 hc hv j w hL) (fun j => law16_1 x 3 false x.r9 hc hv j w hL) (fun j => law16_2 x 3 false x.r9 hc hv j w hL) (fun j => law16_3 x 3 false x.r9 hc hv j w hL) (fun j => law16_4 x 3 false x.r9 hc hv j w hL) (fun j => law16_5 x 3 false x.r9 hc hv j w hL)
theorem cls16_2_0 (hw : 0 ≤ x.wh) (hk : kE x.k = 16) (hi : ixE 10 x.r2 = 2) (hq : x.q5 = false) (w : World) (hL : Laid h12 w) : Lw x w := by
  have hc : Cu x (xA 16 0 4 0 false false 0 0 0 x.r9 0) := by
    unfold Cu
    rw [hq]
    exact fun w => cut16_2_0 x.k x.r1 x.r2 x.r3 x.q4 x.r6 x.r7 x.r8 x.r9 x.r10 (csI' hk (csI' hi csN')) w (Laid.nil w)
  have hv : vP16 0 4 0 false false 0 0 0 x.r9 0 = true := bAnd (by simp [xA, eqD, eqW]) (bAnd (bAnd (by first | exact an15 _ | rfl) (by first | exact an15 _ | rfl)) (bAnd rfl (by first | exact wo_eq _ | exact sh_eq _ | exact an31 _ _ | rfl)))
  exact byJ hw (fun j => law16_0 x 4 false x.r9 hc hv j w hL) (fun j => law16_1 x 4 false x.r9 hc hv j w hL) (fun j => law16_2 x 4 false x.r9 hc hv j w hL) (fun j => law16_3 x 4 false x.r9 hc hv j w hL) (fun j => law16_4 x 4 false x.r9 hc hv j w hL) (fun j => law16_5 x 4 false x.r9 hc hv j w hL)
theorem cls16_3_0 (hw : 0 ≤ x.wh) (hk : kE x.k = 16) (hi : ixE 10 x.r2 = 3) (hq : x.q5 = false) (w : World) (hL : Laid h12 w) : Lw x w := by
  have hc : Cu x (xA 16 0 5 0 false false 0 0 0 x.r9 0) := by
    unfold Cu
    rw [hq]
    exact fun w => cut16_3_0 x.k x.r1 x.r2 x.r3 x.q4 x.r6 x.r7 x.r8 x.r9 x.r10 (csI' hk (csI' hi csN')) w (Laid.nil w)
  have hv : vP16 0 5 0 false false 0 0 0 x.r9 0 = true := bAnd (by simp [xA, eqD, eqW]) (bAnd (bAnd (by first | exact an15 _ | rfl) (by first | exact an15 _ | rfl)) (bAnd rfl (by first | exact wo_eq _ | exact sh_eq _ | exact an31 _ _ | rfl)))
  exact byJ hw (fun j => law16_0 x 5 false x.r9 hc hv j w hL) (fun j => law16_1 x 5 false x.r9 hc hv j w hL) (fun j => law16_2 x 5 false x.r9 hc hv j w hL) (fun j => law16_3 x 5 false x.r9 hc hv j w hL) (fun j => law16_4 x 5 false x.r9 hc hv j w hL) (fun j => law16_5 x 5 false x.r9 hc hv j w hL)
theorem cls16_4_0 (hw : 0 ≤ x.wh) (hk : kE x.k = 16) (hi : ixE 10 x.r2 = 4) (hq : x.q5 = false) (w : World) (hL : Laid h12 w) : Lw x w := by
  have hc : Cu x (xA 16 0 6 0 false false 0 0 0 x.r9 0) := by
    unfold Cu
    rw [hq]
    exact fun w => cut16_4_0 x.k x.r1 x.r2 x.r3 x.q4 x.r6 x.r7 x.r8 x.r9 x.r10 (csI' hk (csI' hi csN')) w (Laid.nil w)
  have hv : vP16 0 6 0 false false 0 0 0 x.r9 0 = true := bAnd (by simp [xA, eqD, eqW]) (bAnd (bAnd (by first | exact an15 _ | rfl) (by first | exact an15 _ | rfl)) (bAnd rfl (by first | exact wo_eq _ | exact sh_eq _ | exact an31 _ _ | rfl)))
  exact byJ hw (fun j => law16_0 x 6 false x.r9 hc hv j w hL) (fun j => law16_1 x 6 false x.r9 hc hv j w hL) (fun j => law16_2 x 6 false x.r9 hc hv j w hL) (fun j => law16_3 x 6 false x.r9 hc hv j w hL) (fun j => law16_4 x 6 false x.r9 hc hv j w hL) (fun j => law16_5 x 6 false x.r9 hc hv j w hL)
theorem cls16_5_0 (hw : 0 ≤ x.wh) (hk : kE x.k = 16) (hi : ixE 10 x.r2 = 5) (hq : x.q5 = false) (w : World) (hL : Laid h12 w) : Lw x w := by
  have hc : Cu x (xA 16 0 7 0 false false 0 0 0 x.r9 0) := by
    unfold Cu
    rw [hq]
    exact fun w => cut16_5_0 x.k x.r1 x.r2 x.r3 x.q4 x.r6 x.r7 x.r8 x.r9 x.r10 (csI' hk (csI' hi csN')) w (Laid.nil w)
  have hv : vP16 0 7 0 false false 0 0 0 x.r9 0 = true := bAnd (by simp [xA, eqD, eqW]) (bAnd (bAnd (by first | exact an15 _ | rfl) (by first | exact an15 _ | rfl)) (bAnd rfl (by first | exact wo_eq _ | exact sh_eq _ | exact an31 _ _ | rfl)))
  exact byJ hw (fun j => law16_0 x 7 false x.r9 hc hv j w hL) (fun j => law16_1 x 7 false x.r9 hc hv j w hL) (fun j => law16_2 x 7 false x.r9 hc hv j w hL) (fun j => law16_3 x 7 false x.r9 hc hv j w hL) (fun j => law16_4 x 7 false x.r9 hc hv j w hL) (fun j => law16_5 x 7 false x.r9 hc hv j w hL)
theorem cls16_6_0 (hw : 0 ≤ x.wh) (hk : kE x.k = 16) (hi : ixE 10 x.r2 = 6) (hq : x.q5 = false) (w : World) (hL : Laid h12 w) : Lw x w := by
  have hc : Cu x (xA 16 0 12 0 false false 0 0 0 x.r9 0) := by
    unfold Cu
    rw [hq]
    exact fun w => cut16_6_0 x.k x.r1 x.r2 x.r3 x.q4 x.r6 x.r7 x.r8 x.r9 x.r10 (csI' hk (csI' hi csN')) w (Laid.nil w)
  have hv : vP16 0 12 0 false false 0 0 0 x.r9 0 = true := bAnd (by simp [xA, eqD, eqW]) (bAnd (bAnd (by first | exact an15 _ | rfl) (by first | exact an15 _ | rfl)) (bAnd rfl (by first | exact wo_eq _ | exact sh_eq _ | exact an31 _ _ | rfl)))
  exact byJ hw (fun j => law16_0 x 12 false x.r9 hc hv j w hL) (fun j => law16_1 x 12 false x.r9 hc hv j w hL) (fun j => law16_2 x 12 false x.r9 hc hv j w hL) (fun j => law16_3 x 12 false x.r9 hc hv j w hL) (fun j => law16_4 x 12 false x.r9 hc hv j w hL) (fun j => law16_5 x 12 false x.r9 hc hv j w hL)
theorem cls16_7_0 (hw : 0 ≤ x.wh) (hk : kE x.k = 16) (hi : ixE 10 x.r2 = 7) (hq : x.q5 = false) (w : World) (hL : Laid h12 w) : Lw x w := by
  have hc : Cu x (xA 16 0 13 0 false false 0 0 0 x.r9 0) := by
    unfold Cu
    rw [hq]
    exact fun w => cut16_7_0 x.k x.r1 x.r2 x.r3 x.q4 x.r6 x.r7 x.r8 x.r9 x.r10 (csI' hk (csI' hi csN')) w (Laid.nil w)
  have hv : vP16 0 13 0 false false 0 0 0 x.r9 0 = true := bAnd (by simp [xA, eqD, eqW]) (bAnd (bAnd (by first | exact an15 _ | rfl) (by first | exact an15 _ | rfl)) (bAnd rfl (by first | exact wo_eq _ | exact sh_eq _ | exact an31 _ _ | rfl)))
  exact byJ hw (fun j => law16_0 x 13 false x.r9 hc hv j w hL) (fun j => law16_1 x 13 false x.r9 hc hv j w hL) (fun j => law16_2 x 13 false x.r9 hc hv j w hL) (fun j => law16_3 x 13 false x.r9 hc hv j w hL) (fun j => law16_4 x 13 false x.r9 hc hv j w hL) (fun j => law16_5 x 13 false x.r9 hc hv j w hL)
theorem cls16_8_0 (hw : 0 ≤ x.wh) (hk : kE x.k = 16) (hi : ixE 10 x.r2 = 8) (hq : x.q5 = false) (w : World) (hL : Laid h12 w) : Lw x w := by
  have hc : Cu x (xA 16 0 14 0 false false 0 0 0 x.r9 0) := by
    unfold Cu
    rw [hq]
    exact fun w => cut16_8_0 x.k x.r1 x.r2 x.r3 x.q4 x.r6 x.r7 x.r8 x.r9 x.r10 (csI' hk (csI' hi csN')) w (Laid.nil w)
  have hv : vP16 0 14 0 false false 0 0 0 x.r9 0 = true := bAnd (by simp [xA, eqD, eqW]) (bAnd (bAnd (by first | exact an15 _ | rfl) (by first | exact an15 _ | rfl)) (bAnd rfl (by first | exact wo_eq _ | exact sh_eq _ | exact an31 _ _ | rfl)))
  exact byJ hw (fun j => law16_0 x 14 false x.r9 hc hv j w hL) (fun j => law16_1 x 14 false x.r9 hc hv j w hL) (fun j => law16_2 x 14 false x.r9 hc hv j w hL) (fun j => law16_3 x 14 false x.r9 hc hv j w hL) (fun j => law16_4 x 14 false x.r9 hc hv j w hL) (fun j => law16_5 x 14 false x.r9 hc hv j w hL)
theorem cls16_9_0 (hw : 0 ≤ x.wh) (hk : kE x.k = 16) (hi : ixE 10 x.r2 = 9) (hq : x.q5 = false) (w : World) (hL : Laid h12 w) : Lw x w := by
  have hc : Cu x (xA 16 0 15 0 false false 0 0 0 x.r9 0) := by
    unfold Cu
    rw [hq]
    exact fun w => cut16_9_0 x.k x.r1 x.r2 x.r3 x.q4 x.r6 x.r7 x.r8 x.r9 x.r10 (csI' hk (csI' hi csN')) w (Laid.nil w)
  have hv : vP16 0 15 0 false false 0 0 0 x.r9 0 = true := bAnd (by simp [xA, eqD, eqW]) (bAnd (bAnd (by first | exact an15 _ | rfl) (by first | exact an15 _ | rfl)) (bAnd rfl (by first | exact wo_eq _ | exact sh_eq _ | exact an31 _ _ | rfl)))
  exact byJ hw (fun j => law16_0 x 15 false x.r9 hc hv j w hL) (fun j => law16_1 x 15 false x.r9 hc hv j w hL) (fun j => law16_2 x 15 false x.r9 hc hv j w hL) (fun j => law16_3 x 15 false x.r9 hc hv j w hL) (fun j => law16_4 x 15 false x.r9 hc hv j w hL) (fun j => law16_5 x 15 false x.r9 hc hv j w hL)
theorem kind16 (hw : 0 ≤ x.wh) (hk : kE x.k = 16) (w : World) (hL : Laid h12 w) : Lw x w := by
  rcases Bool.eq_false_or_eq_true x.q5 with hq | hq
  · have hb := ix_bd 10 x.r2 (by decide) (by decide)
    rcases (show ixE 10 x.r2 = 0 ∨ ixE 10 x.r2 = 1 ∨ ixE 10 x.r2 = 2 ∨ ixE 10 x.r2 = 3 ∨ ixE 10 x.r2 = 4 ∨ ixE 10 x.r2 = 5 ∨ ixE 10 x.r2 = 6 ∨ ixE 10 x.r2 = 7 ∨ ixE 10 x.r2 = 8 ∨ ixE 10 x.r2 = 9 by omega) with hi | hi | hi | hi | hi | hi | hi | hi | hi | hi
    · exact cls16_0_1 x hw hk hi hq w hL
    · exact cls16_1_1 x hw hk hi hq w hL
    · exact cls16_2_1 x hw hk hi hq w hL
    · exact cls16_3_1 x hw hk hi hq w hL
    · exact cls16_4_1 x hw hk hi hq w hL
    · exact cls16_5_1 x hw hk hi hq w hL
    · exact cls16_6_1 x hw hk hi hq w hL
    · exact cls16_7_1 x hw hk hi hq w hL
    · exact cls16_8_1 x hw hk hi hq w hL
    · exact cls16_9_1 x hw hk hi hq w hL
  · have hb := ix_bd 10 x.r2 (by decide) (by decide)
    rcases (show ixE 10 x.r2 = 0 ∨ ixE 10 x.r2 = 1 ∨ ixE 10 x.r2 = 2 ∨ ixE 10 x.r2 = 3 ∨ ixE 10 x.r2 = 4 ∨ ixE 10 x.r2 = 5 ∨ ixE 10 x.r2 = 6 ∨ ixE 10 x.r2 = 7 ∨ ixE 10 x.r2 = 8 ∨ ixE 10 x.r2 = 9 by omega) with hi | hi | hi | hi | hi | hi | hi | hi | hi | hi
    · exact cls16_0_0 x hw hk hi hq w hL
    · exact cls16_1_0 x hw hk hi hq w hL
    · exact cls16_2_0 x hw hk hi hq w hL
    · exact cls16_3_0 x hw hk hi hq w hL
    · exact cls16_4_0 x hw hk hi hq w hL
    · exact cls16_5_0 x hw hk hi hq w hL
    · exact cls16_6_0 x hw hk hi hq w hL
    · exact cls16_7_0 x hw hk hi hq w hL
    · exact cls16_8_0 x hw hk hi hq w hL
    · exact cls16_9_0 x hw hk hi hq w hL
theorem cls17_0 (hw : 0 ≤ x.wh) (hk : kE x.k = 17) (w : World) (hL : Laid h12 w) : Lw x w := by
  have hc : Cu x (xA 17 0 0 0 false false (anE 15 x.r6) 0 0 0 0) := by
    unfold Cu
    exact fun w => cut17_0 x.k x.r1 x.r2 x.r3 x.q4 x.q5 x.r6 x.r7 x.r8 x.r9 x.r10 (csI' hk csN') w (Laid.nil w)
  have hv : vP17 0 0 0 false false (anE 15 x.r6) 0 0 0 0 = true := bAnd (by simp [xA, eqD, eqW]) (bAnd (bAnd (by first | exact an15 _ | rfl) (by first | exact an15 _ | rfl)) (bAnd rfl (by first | exact wo_eq _ | exact sh_eq _ | exact an31 _ _ | rfl)))
  exact byJ hw (fun j => law17_0 x (anE 15 x.r6) hc hv j w hL) (fun j => law17_1 x (anE 15 x.r6) hc hv j w hL) (fun j => law17_2 x (anE 15 x.r6) hc hv j w hL) (fun j => law17_3 x (anE 15 x.r6) hc hv j w hL) (fun j => law17_4 x (anE 15 x.r6) hc hv j w hL) (fun j => law17_5 x (anE 15 x.r6) hc hv j w hL)
theorem kind17 (hw : 0 ≤ x.wh) (hk : kE x.k = 17) (w : World) (hL : Laid h12 w) : Lw x w := by
  exact cls17_0 x hw hk w hL
theorem cls18_0 (hw : 0 ≤ x.wh) (hk : kE x.k = 18) (w : World) (hL : Laid h12 w) : Lw x w := by
  have hc : Cu x (xA 18 0 0 0 false false (anE 15 x.r6) 0 0 0 0) := by
    unfold Cu
    exact fun w => cut18_0 x.k x.r1 x.r2 x.r3 x.q4 x.q5 x.r6 x.r7 x.r8 x.r9 x.r10 (csI' hk csN') w (Laid.nil w)
  have hv : vP18 0 0 0 false false (anE 15 x.r6) 0 0 0 0 = true := bAnd (by simp [xA, eqD, eqW]) (bAnd (bAnd (by first | exact an15 _ | rfl) (by first | exact an15 _ | rfl)) (bAnd rfl (by first | exact wo_eq _ | exact sh_eq _ | exact an31 _ _ | rfl)))
  exact byJ hw (fun j => law18_0 x (anE 15 x.r6) hc hv j w hL) (fun j => law18_1 x (anE 15 x.r6) hc hv j w hL) (fun j => law18_2 x (anE 15 x.r6) hc hv j w hL) (fun j => law18_3 x (anE 15 x.r6) hc hv j w hL) (fun j => law18_4 x (anE 15 x.r6) hc hv j w hL) (fun j => law18_5 x (anE 15 x.r6) hc hv j w hL)
theorem kind18 (hw : 0 ≤ x.wh) (hk : kE x.k = 18) (w : World) (hL : Laid h12 w) : Lw x w := by
  exact cls18_0 x hw hk w hL
theorem cls19_0 (hw : 0 ≤ x.wh) (hk : kE x.k = 19) (w : World) (hL : Laid h12 w) : Lw x w := by
  have hc : Cu x (xA 19 0 0 0 false false 0 0 0 0 0) := by
    unfold Cu
    exact fun w => cut19_0 x.k x.r1 x.r2 x.r3 x.q4 x.q5 x.r6 x.r7 x.r8 x.r9 x.r10 (csI' hk csN') w (Laid.nil w)
  have hv : vP19 0 0 0 false false 0 0 0 0 0 = true := bAnd (by simp [xA, eqD, eqW]) (bAnd (bAnd (by first | exact an15 _ | rfl) (by first | exact an15 _ | rfl)) (bAnd rfl (by first | exact wo_eq _ | exact sh_eq _ | exact an31 _ _ | rfl)))
  exact byJ hw (fun j => law19_0 x  hc hv j w hL) (fun j => law19_1 x  hc hv j w hL) (fun j => law19_2 x  hc hv j w hL) (fun j => law19_3 x  hc hv j w hL) (fun j => law19_4 x  hc hv j w hL) (fun j => law19_5 x  hc hv j w hL)
theorem kind19 (hw : 0 ≤ x.wh) (hk : kE x.k = 19) (w : World) (hL : Laid h12 w) : Lw x w := by
  exact cls19_0 x hw hk w hL
theorem cls20_0_1 (hw : 0 ≤ x.wh) (hk : kE x.k = 20) (hq : x.q5 = true) (w : World) (hL : Laid h12 w) : Lw x w := by
  have hc : Cu x (xA 20 0 0 0 false false 0 0 0 x.r9 0) := by
    unfold Cu
    rw [hq]
    exact fun w => cut20_0_1 x.k x.r1 x.r2 x.r3 x.q4 x.r6 x.r7 x.r8 x.r9 x.r10 (csI' hk csN') w (Laid.nil w)
  have hv : vP20 0 0 0 false false 0 0 0 x.r9 0 = true := bAnd (by simp [xA, eqD, eqW]) (bAnd (bAnd (by first | exact an15 _ | rfl) (by first | exact an15 _ | rfl)) (bAnd rfl (by first | exact wo_eq _ | exact sh_eq _ | exact an31 _ _ | rfl)))
  exact byJ hw (fun j => law20_0 x x.r9 hc hv j w hL) (fun j => law20_1 x x.r9 hc hv j w hL) (fun j => law20_2 x x.r9 hc hv j w hL) (fun j => law20_3 x x.r9 hc hv j w hL) (fun j => law20_4 x x.r9 hc hv j w hL) (fun j => law20_5 x x.r9 hc hv j w hL)
theorem cls20_0_0 (hw : 0 ≤ x.wh) (hk : kE x.k = 20) (hq : x.q5 = false) (w : World) (hL : Laid h12 w) : Lw x w := by
  have hc : Cu x (xA 20 0 0 0 false false 0 0 0 x.r9 0) := by
    unfold Cu
    rw [hq]
    exact fun w => cut20_0_0 x.k x.r1 x.r2 x.r3 x.q4 x.r6 x.r7 x.r8 x.r9 x.r10 (csI' hk csN') w (Laid.nil w)
  have hv : vP20 0 0 0 false false 0 0 0 x.r9 0 = true := bAnd (by simp [xA, eqD, eqW]) (bAnd (bAnd (by first | exact an15 _ | rfl) (by first | exact an15 _ | rfl)) (bAnd rfl (by first | exact wo_eq _ | exact sh_eq _ | exact an31 _ _ | rfl)))
  exact byJ hw (fun j => law20_0 x x.r9 hc hv j w hL) (fun j => law20_1 x x.r9 hc hv j w hL) (fun j => law20_2 x x.r9 hc hv j w hL) (fun j => law20_3 x x.r9 hc hv j w hL) (fun j => law20_4 x x.r9 hc hv j w hL) (fun j => law20_5 x x.r9 hc hv j w hL)
theorem kind20 (hw : 0 ≤ x.wh) (hk : kE x.k = 20) (w : World) (hL : Laid h12 w) : Lw x w := by
  rcases Bool.eq_false_or_eq_true x.q5 with hq | hq
  · exact cls20_0_1 x hw hk hq w hL
  · exact cls20_0_0 x hw hk hq w hL
theorem cls21_0 (hw : 0 ≤ x.wh) (hk : kE x.k = 21) (w : World) (hL : Laid h12 w) : Lw x w := by
  have hc : Cu x (xA 21 0 0 0 false false 0 0 0 0 0) := by
    unfold Cu
    exact fun w => cut21_0 x.k x.r1 x.r2 x.r3 x.q4 x.q5 x.r6 x.r7 x.r8 x.r9 x.r10 (csI' hk csN') w (Laid.nil w)
  have hv : vP21 0 0 0 false false 0 0 0 0 0 = true := bAnd (by simp [xA, eqD, eqW]) (bAnd (bAnd (by first | exact an15 _ | rfl) (by first | exact an15 _ | rfl)) (bAnd rfl (by first | exact wo_eq _ | exact sh_eq _ | exact an31 _ _ | rfl)))
  exact byJ hw (fun j => law21_0 x  hc hv j w hL) (fun j => law21_1 x  hc hv j w hL) (fun j => law21_2 x  hc hv j w hL) (fun j => law21_3 x  hc hv j w hL) (fun j => law21_4 x  hc hv j w hL) (fun j => law21_5 x  hc hv j w hL)
theorem kind21 (hw : 0 ≤ x.wh) (hk : kE x.k = 21) (w : World) (hL : Laid h12 w) : Lw x w := by
  exact cls21_0 x hw hk w hL
theorem unusedAll (hw : 0 ≤ x.wh) (w : World) (hL : Laid h12 w) : Lw x w := by
  have hb := kE_bd x.k
  rcases (show kE x.k = 1 ∨ kE x.k = 2 ∨ kE x.k = 3 ∨ kE x.k = 4 ∨ kE x.k = 5 ∨ kE x.k = 6 ∨ kE x.k = 7 ∨ kE x.k = 8 ∨ kE x.k = 9 ∨ kE x.k = 10 ∨ kE x.k = 11 ∨ kE x.k = 12 ∨ kE x.k = 13 ∨ kE x.k = 14 ∨ kE x.k = 15 ∨ kE x.k = 16 ∨ kE x.k = 17 ∨ kE x.k = 18 ∨ kE x.k = 19 ∨ kE x.k = 20 ∨ kE x.k = 21 by omega) with hk | hk | hk | hk | hk | hk | hk | hk | hk | hk | hk | hk | hk | hk | hk | hk | hk | hk | hk | hk | hk
  · exact kind1 x hw hk w hL
  · exact kind2 x hw hk w hL
  · exact kind3 x hw hk w hL
  · exact kind4 x hw hk w hL
  · exact kind5 x hw hk w hL
  · exact kind6 x hw hk w hL
  · exact kind7 x hw hk w hL
  · exact kind8 x hw hk w hL
  · exact kind9 x hw hk w hL
  · exact kind10 x hw hk w hL
  · exact kind11 x hw hk w hL
  · exact kind12 x hw hk w hL
  · exact kind13 x hw hk w hL
  · exact kind14 x hw hk w hL
  · exact kind15 x hw hk w hL
  · exact kind16 x hw hk w hL
  · exact kind17 x hw hk w hL
  · exact kind18 x hw hk w hL
  · exact kind19 x hw hk w hL
  · exact kind20 x hw hk w hL
  · exact kind21 x hw hk w hL
theorem u8_ge {a : Int} (h : (Lit.int .u8 a).wf = true) : 0 ≤ a := by
  simp [Lit.wf, IntKind.min, IntKind.max, IntKind.signed, IntKind.bits] at h
  omega
theorem codecUnused_walk (k r1 r2 r3 : Int) (q4 q5 : Bool) (r6 r7 r8 r9 r10 wh to : Int) (hw : 0 ≤ wh) (w : World) (hT : TabAt w) : Calls Tryd.prog 7 #[.agg ⟨(xA k r1 r2 r3 q4 q5 r6 r7 r8 r9 r10)⟩, .int .u8 wh, .int .i64 to] w fun e w' => e = .returned (.bool true) ∧ Gr w w' :=
  unusedAll ⟨k, r1, r2, r3, q4, q5, r6, r7, r8, r9, r10, wh, to⟩ hw w (laid_of_tab hT)
end Go.Proofs.YtbaiokfjoglmiaaDoor.Ex
end
section
namespace Go.Proofs.YtbaiokfjoglmiaaDoor.Ex
open Go Go.RowKit Go.WideShapes Go.ChangeShapes

theorem gr_frame {W W' : World} (h : Gr W W') (may : MemPlace → Prop) : W.keptBut W' may := by
  refine ⟨h.1.1, h.1.2, fun i hi => ?_⟩
  rw [h.2.1 i hi]
  split <;> simp_all
section
variable {H : Type} {enc : TypeId × Value → H} {P : Program}
theorem post_of_gr {f : Func} {s : ChangeSpec} {apart fresh handsOn again : Bool} {W W' : World} {args : Array Value} {v : Value} {ds gs : List (DataW H)} {before pa pv : List MemPlace}
    (hW : DataW.Whole enc P f.params.toList s.vars apart W args.toList ds gs before)
    (hres : ∀ (b : Nat) (sp : Nat → Bool) (hd : Bool), DataW.TrodAll enc P W' b sp hd f.resultTypes.toList (v.resultList f.resultTypes.size) (s.fn H (ds ++ gs)).results [])
    (hargs : ∀ sp : Nat → Bool, (∀ p ∈ before, sp p.block = true) → DataW.TrodAll enc P W' 0 sp true f.params.toList args.toList (s.fn H (ds ++ gs)).args pa)
    (hvars : ∀ sp : Nat → Bool, (∀ p ∈ before, sp p.block = true) → DataW.TrodVars enc P W' sp s.vars (s.fn H (ds ++ gs)).vars pv)
    (hps : before = pa ++ pv) (hg : Gr W W')
    (hok : ∀ (j : Nat) (t : TypeId) (r : Value), f.resultTypes[j]? = some t → (v.resultList f.resultTypes.size)[j]? = some r → Value.okWide P W' .any 0 t r) :
    s.post enc P f apart fresh handsOn again W args v W' := by
  have hlt : ∀ p ∈ before, p.block < W.heap.size := fun p hp => hW.lt p hp
  have hold : ∀ p ∈ before, (fun b => decide (b < W.heap.size)) p.block = true := fun p hp => by simpa using hlt p hp
  refine ⟨ds, gs, before, [], pa, pv, hW, hres _ _ _, hargs _ hold, hvars _ hold, World.keptBut_mono (fun p hp => ⟨hp, ?_⟩) (gr_frame hg (· ∈ before)), fun _ => ?_⟩
  · rw [hps, List.mem_append] at hp
    exact Or.inr hp
  · obtain ⟨_, _, _, _, _, hz, hn⟩ := hW
    refine ⟨hok, _, _, ([] ++ pa) ++ pv, ⟨[] ++ pa, pv, trodAll_append (hargs _ (fun _ _ => rfl)) (hres _ _ _), hvars _ (fun _ _ => rfl), rfl, ?_, ?_⟩, ?_⟩
    · intro b off hp
      have hin : MemPlace.cell b off ∈ before := by rw [hps]; simpa using hp
      rw [gr_frozen hg (hlt _ hin)]
      exact hz b off hin
    · intro ha
      have := hn ha
      rw [hps] at this
      simpa using this
    · intro p hp _
      rw [hps]
      simpa using hp
end
end Go.Proofs.YtbaiokfjoglmiaaDoor.Ex
end
