/-
  Layer 11: the law CodecBack, reckoned.
-/
import Derived.Test.YtbaiokfjoglmiaaDoorDkJ
import Derived.Test.YtbaiokfjoglmiaaDoorDkL
namespace Go.Proofs.YtbaiokfjoglmiaaDoor.Ex
open Go Go.RowKit
set_option linter.unusedVariables false
set_option linter.unusedSimpArgs false
set_option maxHeartbeats 0
set_option maxRecDepth 1000000
/-- What one instruction is cut to. -/
def hkCut (k al co si : Int) (wi sh : Bool) (ds sr dp re im : Int) (X : XX) : Hook := fun f args _ =>
  if Nat.beq f 20 then
    match args with
    | [.agg ⟨[.int .i64 k', .int .i64 al', .int .i64 co', .int .i64 si', .bool wi', .bool sh', .int .i64 ds', .int .i64 sr', .int .i32 dp', .int .i32 re', .int .i64 im']⟩] =>
      some (.agg ⟨X.cells⟩, [(k', k), (al', al), (co', co), (si', si), (b2i wi', b2i wi), (b2i sh', b2i sh), (ds', ds), (sr', sr), (dp', dp), (re', re), (im', im)])
    | _ => none
  else none
theorem hkCut_ok {k al co si : Int} {wi sh : Bool} {ds sr dp re im : Int} {X : XX} (h0 : ∀ w, Calls Tryd.prog 20 ⟨[.agg ⟨xA k al co si wi sh ds sr dp re im⟩]⟩ w fun e w' => e = .returned (.agg ⟨X.cells⟩) ∧ Gr w w') : HookOk Tryd.prog (hkCut k al co si wi sh ds sr dp re im X) := by
  intro f args h v cs hv hc wb kk s w H
  unfold hkCut at hv
  split at hv
  · rename_i hf
    obtain rfl := Nat.eq_of_beq_eq_true hf
    split at hv
    · cases hv
      simp only [List.mem_cons, List.not_mem_nil, or_false, forall_eq_or_imp, forall_eq] at hc
      obtain ⟨rfl, rfl, rfl, rfl, e1, e2, rfl, rfl, rfl, rfl, rfl⟩ := hc
      obtain rfl := b2i_inj e1
      obtain rfl := b2i_inj e2
      exact h0 w
    · cases hv
  · cases hv
def oBack (l : List (Nat × Value)) : Orc := fun f t _ => if Nat.beq f 5 then (l.find? (fun p => Nat.beq p.1 t)).map (·.2) else none
def cCut (k al co si : Int) (wi sh : Bool) (ds sr dp re im : Int) : Cs := [(k, k), (al, al), (co, co), (si, si), (b2i wi, b2i wi), (b2i sh, b2i sh), (ds, ds), (sr, sr), (dp, dp), (re, re), (im, im)]
def bX (X : XX) : ByteArray := ⟨⟨EncB.of encB X⟩⟩
def sA (A : ByteArray) (X : XX) : ByteArray := ⟨⟨A.data.toList ++ (bX X).data.toList⟩⟩
def sB (A C : ByteArray) (X : XX) : ByteArray := ⟨⟨(sA A X).data.toList ++ C.data.toList⟩⟩
def nB (X : XX) : Int := IntKind.i64.wrap (((bX X).size : Int) - 1)
def bY (X : XX) : ByteArray := (bX X).extract 0 (nB X).toNat
def sC (A : ByteArray) (X : XX) : ByteArray := ⟨⟨A.data.toList ++ (bY X).data.toList⟩⟩
def cB (A C : ByteArray) (X : XX) : Cs := [(b2i (!X.may), 0), (b2i (EncE.of encE X != 0), 0), (b2i (decide (((bX X).size : Int) < 1)), 0), (b2i (decide (((bX X).size : Int) > 10)), 0),
  (b2i (decide (((A.size + (bX X).size : Nat) : Int) ≤ 9223372036854775807)), 1), (b2i (decide ((((sA A X).size + C.size : Nat) : Int) ≤ 9223372036854775807)), 1), (b2i (decide (((sB A C X).size : Int) ≤ 1000)), 1),
  (b2i (decide (0 ≤ nB X) && decide (nB X ≤ ((bX X).size : Int))), 1), (b2i (decide (((A.size + (bY X).size : Nat) : Int) ≤ 9223372036854775807)), 1), (b2i (decide (((sC A X).size : Int) ≤ 1000)), 1),
  (b2i (eqD (dX (sB A C X) (A.size : Int)).cells X.cells), 1), (b2i (dN (sB A C X) (A.size : Int) == ((bX X).size : Int)), 1), (b2i (dE (sB A C X) (A.size : Int) == 0), 1), (b2i (dN (sC A X) (A.size : Int) == 0), 1), (b2i (dE (sC A X) (A.size : Int) == 110), 1)]
def cG (A C : ByteArray) : Cs := [(b2i (decide ((A.size : Int) > 50)), 0), (b2i (decide ((C.size : Int) > 50)), 0)]
section
variable (k al co si : Int) (wi sh : Bool) (ds sr dp re im : Int) (A C : ByteArray)
def GoalB (w : World) : Prop := Calls Tryd.prog 5 ⟨[.agg ⟨xA k al co si wi sh ds sr dp re im⟩, .string A, .string C]⟩ w fun e w' => e = .returned (.bool true) ∧ Gr w w'
theorem back_a (h : (A.size : Int) > 50) (w : World) (hL : Laid h12 w) : GoalB k al co si wi sh ds sr dp re im A C w :=
  lawL hkL_ok (oBack [(18, .bool true)]) (cs := [(b2i (decide ((A.size : Int) > 50)), 1)]) rfl (by kernel_rfl) (AllD.cons (b1 (decide_eq_true h)) AllD.nil) w hL
theorem back_b (h : ¬ (A.size : Int) > 50) (h2 : (C.size : Int) > 50) (w : World) (hL : Laid h12 w) : GoalB k al co si wi sh ds sr dp re im A C w :=
  lawL hkL_ok (oBack [(18, .bool false), (22, .bool true)]) (cs := [(b2i (decide ((A.size : Int) > 50)), 0), (b2i (decide ((C.size : Int) > 50)), 1)]) rfl (by kernel_rfl) (AllD.cons (b0 (decide_eq_false h)) (AllD.cons (b1 (decide_eq_true h2)) AllD.nil)) w hL
theorem back_c {X : XX} (h0 : ∀ w, Calls Tryd.prog 20 ⟨[.agg ⟨xA k al co si wi sh ds sr dp re im⟩]⟩ w fun e w' => e = .returned (.agg ⟨X.cells⟩) ∧ Gr w w') (he : AllD (cG A C ++ (cCut k al co si wi sh ds sr dp re im ++ cB A C X))) (w : World) (hL : Laid h12 w) : GoalB k al co si wi sh ds sr dp re im A C w :=
  lawL (orHook_ok (hkCut_ok h0) hkL_ok) (oBack [(18, .bool false), (22, .bool false), (34, .bool false), (37, .bool false), (42, .bool false), (47, .bool false), (52, .nilIface), (54, .nilIface), (67, .nilIface), (68, .nilIface), (77, .bool true), (82, .bool true), (86, .bool true), (90, .bool true), (94, .bool true)])
    (cs := cG A C ++ (cCut k al co si wi sh ds sr dp re im ++ cB A C X)) rfl (by kernel_rfl) he w hL
end
theorem cCut_ok (k al co si : Int) (wi sh : Bool) (ds sr dp re im : Int) : AllD (cCut k al co si wi sh ds sr dp re im) := by
  intro c hc
  simp only [cCut, List.mem_cons, List.not_mem_nil, or_false] at hc
  rcases hc with rfl | rfl | rfl | rfl | rfl | rfl | rfl | rfl | rfl | rfl | rfl <;> rfl
theorem size_mk (l : List UInt8) : (⟨⟨l⟩⟩ : ByteArray).size = l.length := rfl
theorem cB_ok {A C : ByteArray} {X : XX} (hm : X.may = true) (hr : Rng X) (hA : ¬ (A.size : Int) > 50) (hC : ¬ (C.size : Int) > 50) : AllD (cB A C X) := by
  have hl := by_len hm
  have eb : bX X = ⟨⟨X.by⟩⟩ := by unfold bX; rw [by_of hm]
  have es : ((bX X).size : Int) = (X.by.length : Int) := by rw [eb]; rfl
  have esn : (bX X).size = X.by.length := by rw [eb]; rfl
  have en : nB X = (X.by.length : Int) - 1 := by unfold nB; rw [es, i64_idD _ (by omega) (by omega)]
  have ey : (bY X).data.toList = X.by.take (X.by.length - 1) := by
    unfold bY
    rw [ext_list, en, eb, List.drop_zero, Nat.sub_zero]
    congr 1
    omega
  have eyl : (bY X).size = X.by.length - 1 := by rw [size_list, ey, List.length_take]; omega
  have hAl := size_list A
  have hCl := size_list C
  have eSA : (sA A X).size = A.size + X.by.length := by unfold sA; rw [size_mk, List.length_append, eb, ← hAl]
  have eSB : (sB A C X).data.toList = A.data.toList ++ (X.by ++ C.data.toList) := by
    unfold sB sA
    rw [eb]
    exact List.append_assoc _ _ _
  have eSBl : (sB A C X).size = A.size + (X.by.length + C.size) := by rw [size_list, eSB, List.length_append, List.length_append, ← hAl, ← hCl]
  have eSC : (sC A X).data.toList = A.data.toList ++ X.by.take (X.by.length - 1) := by
    unfold sC
    rw [ey]
  have eSCl : (sC A X).size = A.size + (X.by.length - 1) := by rw [size_list, eSC, List.length_append, List.length_take, ← hAl]; omega
  obtain ⟨g1, g2, g3⟩ := back_ok hm hr eSB
  have g4 := cut_no hm hr eSC
  rw [← hAl] at g1 g2 g3 g4
  unfold cB
  rw [hm, e_of hm, es, en, g1, g2, g3, dN_no g4, dE_no g4, eqD_cells]
  refine AllD.cons rfl (AllD.cons rfl (AllD.cons (b0 (decide_eq_false (by omega))) (AllD.cons (b0 (decide_eq_false (by omega))) (AllD.cons (b1 (decide_eq_true (by rw [esn]; omega))) (AllD.cons (b1 (decide_eq_true (by rw [eSA]; omega))) (AllD.cons (b1 (decide_eq_true (by rw [eSBl]; omega))) (AllD.cons ?_ (AllD.cons (b1 (decide_eq_true (by rw [eyl]; omega))) (AllD.cons (b1 (decide_eq_true (by rw [eSCl]; omega))) (AllD.cons rfl (AllD.cons (b1 (by simp)) (AllD.cons rfl (AllD.cons rfl (AllD.cons rfl AllD.nil))))))))))))))
  exact b1 (by rw [decide_eq_true (show 0 ≤ (X.by.length : Int) - 1 by omega), decide_eq_true (show (X.by.length : Int) - 1 ≤ (X.by.length : Int) by omega)]; rfl)
theorem wf64 {x : Int} (h : (Lit.int .i64 x).wf = true) : -9223372036854775808 ≤ x ∧ x ≤ 9223372036854775807 := by
  simp [Lit.wf, IntKind.min, IntKind.max, IntKind.signed, IntKind.bits] at h
  omega
theorem wf32 {x : Int} (h : (Lit.int .i32 x).wf = true) : -2147483648 ≤ x ∧ x ≤ 2147483647 := by
  simp [Lit.wf, IntKind.min, IntKind.max, IntKind.signed, IntKind.bits] at h
  omega
theorem codecBack_walk (k al co si : Int) (wi sh : Bool) (ds sr dp re im : Int) (A C : ByteArray) (hdp : (Lit.int .i32 dp).wf = true) (hre : (Lit.int .i32 re).wf = true) (him : (Lit.int .i64 im).wf = true) (w : World) (hL : Laid h12 w) :
    Calls Tryd.prog 5 ⟨[.agg ⟨xA k al co si wi sh ds sr dp re im⟩, .string A, .string C]⟩ w fun e w' => e = .returned (.bool true) ∧ Gr w w' := by
  by_cases hA : (A.size : Int) > 50
  · exact back_a k al co si wi sh ds sr dp re im A C hA w hL
  by_cases hC : (C.size : Int) > 50
  · exact back_b k al co si wi sh ds sr dp re im A C hA hC w hL
  obtain ⟨X, hm, hr, h0⟩ := cut_any k al co si wi sh ds sr dp re im (wf32 hre) (wf32 hdp) (wf64 him)
  exact back_c k al co si wi sh ds sr dp re im A C h0 (ap (AllD.cons (b0 (decide_eq_false hA)) (AllD.cons (b0 (decide_eq_false hC)) AllD.nil)) (ap (cCut_ok k al co si wi sh ds sr dp re im) (cB_ok hm hr hA hC))) w hL
end Go.Proofs.YtbaiokfjoglmiaaDoor.Ex
