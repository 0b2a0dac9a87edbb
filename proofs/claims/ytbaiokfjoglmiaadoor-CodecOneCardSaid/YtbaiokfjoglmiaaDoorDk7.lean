/-
  Layer 11: what the ways through decoding ask for.
-/
import Derived.Test.YtbaiokfjoglmiaaDoorPackW
namespace Go.Proofs.YtbaiokfjoglmiaaDoor.Ex
open Go Go.RowKit
set_option linter.unusedVariables false
set_option linter.unusedSimpArgs false
set_option maxHeartbeats 0
set_option maxRecDepth 1000000
theorem atN_eq (a : Int) : ∀ j : Nat, atN a j = a + j
  | 0 => by simp [atN]
  | j + 1 => by rw [atN, atN_eq a j]; push_cast; omega
theorem ap {a b : Cs} (ha : AllD a) (hb : AllD b) : AllD (a ++ b) := fun c hc => (List.mem_append.1 hc).elim (ha c) (hb c)
theorem AllD.cons {p : Int × Int} {b : Cs} (ha : p.1 = p.2) (hb : AllD b) : AllD (p :: b) := fun c hc => by
  rcases List.mem_cons.1 hc with rfl | h
  · exact ha
  · exact hb c h
theorem AllD.nil : AllD [] := fun c hc => by cases hc
theorem oneT {e : Bool} (h : e = true) : AllD (q1 e) := AllD.cons (by rw [h]; rfl) AllD.nil
theorem oneF {e : Bool} (h : e = false) : AllD (q0 e) := AllD.cons (by rw [h]; rfl) AllD.nil
theorem nc {x n : Int} {l : List Int} (h : (x == n) = false) (r : AllD (ne x l)) : AllD (ne x (n :: l)) := AllD.cons (by rw [h]; rfl) r
theorem rex0 : (andB 0 8 != 0) = false := by decide
theorem sg_ok (l : List Int) : AllD (sgC l) := by
  refine AllD.cons ?_ (AllD.cons rfl AllD.nil)
  have h1 : 0 ≤ nmV l := N_nonneg _
  have h2 : nmV l < 18446744073709551616 := by unfold nmV N; have := (numS ⟨⟨l.map ubD⟩⟩).isLt; omega
  simp only [decide_eq_true h1, decide_eq_true h2]
  rfl
/-- What is known of a place in a text. -/
structure Cx (eB : EncB) (eE : EncE) (s : ByteArray) (a : Int) (w : World) : Prop where
  hE : HookOk2 Tryd.prog (hkD eB eE)
  h0 : (eE.of XX.z != 0) = true
  ha : 0 ≤ a
  hlt : a < (s.size : Int)
  hz : a + 20 ≤ 9223372036854775807
  hs : (s.size : Int) ≤ 9223372036854775807
  hL : Laid hDk w
def GoalD (eB : EncB) (eE : EncE) (s : ByteArray) (a : Int) (w : World) : Prop := Calls Tryd.prog 18 ⟨[.string s, .int .i64 a]⟩ w fun e w' => e = .returned (decV eB eE s a (readB (bt s a))) ∧ Gr w w'
section
variable {eB : EncB} {eE : EncE} {s : ByteArray} {a : Int} {w : World}
theorem Cx.p (C : Cx eB eE s a w) (j : Nat) (hj : j ≤ 19 := by decide) : AllD (pkC s a j) := by
  have e := atN_eq a j
  have ha := C.ha
  have hz := C.hz
  refine AllD.cons ?_ (AllD.cons ?_ AllD.nil)
  · simp only [decide_eq_true (show 0 ≤ atN a j by omega), decide_eq_true (show atN a j ≤ 9223372036854775807 by omega)]
    rfl
  · simp only [decide_eq_true C.hs]
    rfl
theorem Cx.t (C : Cx eB eE s a w) (j : Nat) (hj : j ≤ 18 := by decide) : AllD (tkC s a j) := by
  have e := atN_eq a j
  have ha := C.ha
  have hz := C.hz
  refine ap (C.p j (by omega)) (AllD.cons ?_ AllD.nil)
  have e2 : IntKind.i64.wrap (atN a j + 1) = atN a j + 1 := by
    simp only [IntKind.wrap, IntKind.bits, IntKind.signed]
    simp
    omega
  exact e2
theorem Cx.st (C : Cx eB eE s a w) : AllD (stC s a) := by
  have ha := C.ha
  have hlt := C.hlt
  refine AllD.cons ?_ (AllD.cons ?_ AllD.nil)
  · simp only [decide_eq_false (show ¬ a < 0 by omega)]
    rfl
  · simp only [decide_eq_false (show ¬ a ≥ (s.size : Int) by omega)]
    rfl
theorem Cx.sl (C : Cx eB eE s a w) : b2i (decide (0 ≤ a) && decide (a ≤ (s.size : Int))) = 1 := by
  have hlt := C.hlt
  simp only [decide_eq_true C.ha, decide_eq_true (show a ≤ (s.size : Int) by omega)]
  rfl
theorem Cx.l3 (C : Cx eB eE s a w) {p k : Way} (hP : AllD (p.c s a (bt s a))) (he : WE p k) (hf : WF p k) (ht : WT p k) (hx : readB (bt s a) = k.x (bt s a)) (hc : AllD (k.c s a (bt s a))) : GoalD eB eE s a w := by
  unfold GoalD
  rw [hx]
  unfold decV
  rcases Bool.eq_false_or_eq_true (eE.of (k.x (bt s a)) != 0) with t1 | t1
  · rw [t1, cond_true]
    exact he eB eE C.hE s a (ap hP (ap hc (AllD.cons (by rw [t1]; rfl) AllD.nil))) w C.hL
  · rw [t1, cond_false]
    rcases Bool.eq_false_or_eq_true (!(pfxB (s.extract a.toNat s.size) ⟨⟨eB.of (k.x (bt s a))⟩⟩)) with t2 | t2
    · rw [t2, cond_true]
      exact hf eB eE C.hE s a (ap hP (ap hc (AllD.cons (by rw [t1]; rfl) (AllD.cons C.sl (AllD.cons (by rw [t2]; rfl) AllD.nil))))) w C.hL
    · rw [t2, cond_false]
      exact ht eB eE C.hE s a (ap hP (ap hc (AllD.cons (by rw [t1]; rfl) (AllD.cons C.sl (AllD.cons (by rw [t2]; rfl) AllD.nil))))) w C.hL
theorem Cx.l1 (C : Cx eB eE s a w) {p k : Way} (hP : AllD (p.c s a (bt s a))) (he : WE p k) (hx : readB (bt s a) = k.x (bt s a)) (hk : k.x (bt s a) = XX.z) (hc : AllD (k.c s a (bt s a))) : GoalD eB eE s a w := by
  have t1 : (eE.of (k.x (bt s a)) != 0) = true := by rw [hk]; exact C.h0
  unfold GoalD
  rw [hx]
  unfold decV
  rw [t1, cond_true]
  exact he eB eE C.hE s a (ap hP (ap hc (AllD.cons (by rw [t1]; rfl) AllD.nil))) w C.hL
end
end Go.Proofs.YtbaiokfjoglmiaaDoor.Ex
