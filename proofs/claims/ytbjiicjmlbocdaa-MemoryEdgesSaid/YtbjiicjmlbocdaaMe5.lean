/-
  The law MemoryEdges: its loop, for every number of bytes.
-/
import Derived.Test.YtbjiicjmlbocdaaMe3
import Derived.Test.YtbjiicjmlbocdaaMe4a
import Derived.Test.YtbjiicjmlbocdaaMe4b
import Derived.Test.YtbjiicjmlbocdaaMe4c
import Derived.Test.YtbjiicjmlbocdaaMe4d
namespace Go.Proofs.Ytbjiicjmlbocdaa.Ex
open Go Go.RowKit
set_option maxHeartbeats 0
set_option maxRecDepth 1000000
set_option linter.unusedVariables false
set_option linter.unusedSectionVars false
abbrev meF : FuncId := 3
noncomputable abbrev meL : Code := theLoopN Try.prog meF 1
def meWn (fr : Bool) : Int := bif fr then 0 else 71
theorem me_one : oneLoopN Try.prog meF 1 = true := by kernel_rfl
theorem u8_refF {ok : Nat → Bool} {n : Nat} : ∀ {cs : List Value}, cs.all isU8 = true → cs.all (refF ok n) = true := by
  intro cs h
  refine List.all_eq_true.2 fun v hv => ?_
  have := List.all_eq_true.1 h v hv
  refine refF_scal n ?_
  revert this
  unfold isU8
  split
  · intro _; rfl
  · intro h; cases h
theorem me_split (m k : Nat) (F : Int) (fr : Bool) (cs : List Value) (x2 : Int) : meH m k F fr cs x2 = ⟨true, none, List.replicate (m : Int).toNat (.int .u8 0)⟩ :: (((meH m k F fr [] x2).drop 1).take 9 ++ (⟨true, some 1, cs⟩ :: (meH m k F fr [] x2).drop 11)) := rfl
theorem me_hopC (m : Nat) (F a b wn : Int) (fr : Bool) (i : Int) (cs : List Value) (x2 : Int) (hcs : cs.all isU8 = true) : hopC (meT m F a b wn fr i fun _ => .bool true) (meH m m F fr cs x2) = true := by
  have hl : (meH m m F fr cs x2).length = 20 := by kernel_rfl
  unfold hopC
  rw [hl, me_split, List.all_cons, List.all_append, List.all_cons]
  have a1 : (meT m F a b wn fr i fun _ => .bool true).all (refF (fun x => decide (x < 20)) 6) = true := by kernel_rfl
  have a2 : (((meH m m F fr [] x2).drop 1).take 9).all (refO fun x => decide (x < 20)) = true := by kernel_rfl
  have a3 : ((meH m m F fr [] x2).drop 11).all (refO fun x => decide (x < 20)) = true := by kernel_rfl
  have a4 : refO (fun x => decide (x < 20)) ⟨true, some 1, cs⟩ = true := by
    unfold refO
    simp only [Bool.not_true, Bool.false_or]
    exact u8_refF hcs
  have a5 : refO (fun x => decide (x < 20)) ⟨true, none, List.replicate (m : Int).toNat (.int .u8 0)⟩ = true := by
    unfold refO
    simp only [Bool.not_true, Bool.false_or]
    exact List.all_eq_true.2 fun v hv => by rw [List.eq_of_mem_replicate hv]; rfl
  rw [a1, a2, a3, a4, a5]
  rfl
theorem me_dead (m : Nat) (F a b wn : Int) (fr : Bool) (i : Int) : deadAt meDs (meT m F a b wn fr i fun _ => .bool true) = true := by kernel_rfl
theorem me_deadB (m : Nat) (F : Int) (fr : Bool) (cs : List Value) (x2 : Int) : deadB (meH m m F fr cs x2) = true := by kernel_rfl
theorem me_mk {m : Nat} {F a b i : Int} {t : List Value} {cs cs' : List Value} {x2 x2' : Int} {fr : Bool} {lo : Option Nat} {orc : Orc} {ps : Cs}
    (hr : (hopRunL Try.prog meH3 orc noLoop meF meL 1 20 [] t (meH m m F fr cs x2)).map (fun r => (maskL meDs r.1, r.2)) = some (meT m F a b (meWn fr) fr i fun _ => .bool true, meH m m F fr cs' x2', lo, inter ps))
    (hlo : loB 20 lo (some 7) = true) (hcs : cs'.all isU8 = true) (hp : AE ps) : ∃ β', Fl β' ∧ HopQ Try.prog meL 1 20 t (meH m m F fr cs x2) (meT m F a b (meWn fr) fr i β') (meH m m F fr cs' x2') (some 7, []) := by
  obtain ⟨β', h1, h2⟩ := hopJ0_ok noNG meH3_ok noLoop_low (noLoop_ok _) me_one (meT_un m F a b (meWn fr) fr i) hr (me_dead m F a b (meWn fr) fr i) (by kernel_rfl) (me_deadB m F fr cs' x2') (me_hopC m F a b (meWn fr) fr i cs' x2' hcs) hp
  exact ⟨β', h1, h2.weak (bndW hlo)⟩
theorem laP_any {m : Nat} {F i off : Int} {c : Nat} (hm : m ≤ 40) (hm1 : 1 ≤ m) (hF : 100 ≤ F) (hF2 : F ≤ 4294967395) (hi : -9 ≤ i) (hi2 : i < m + 10)
    (hc : (c = 0 ∧ i < 0) ∨ (1 ≤ c ∧ c ≤ 4 ∧ 0 ≤ i ∧ i < m ∧ off = i ∧ ∀ n, (n = 1 ∨ n = 2 ∨ n = 4 ∨ n = 8) → meFit c n = decide (i + n ≤ m)) ∨ (c = 5 ∧ i = m ∧ off = 0) ∨ (c = 6 ∧ (m : Int) < i ∧ off = i - m)) :
    ∀ n, (n = 1 ∨ n = 2 ∨ n = 4 ∨ n = 8) → AE (laP m i c n) ∧ AE (fdP m F i off c n) := by
  intro n hn
  have n1 : 1 ≤ n ∧ n ≤ 8 := by omega
  rcases hc with ⟨rfl, h⟩ | ⟨h1, h2, h3, h4, ho, h5⟩ | ⟨rfl, h, rfl⟩ | ⟨rfl, h, rfl⟩
  · exact ⟨la_A h, fd_A h⟩
  · rw [ho]
    have hf := h5 n hn
    have q1 := la_B (m := m) (i := i) (n := n) hf h3 h4 hm n1.1 n1.2
    have q2 := fd_B (m := m) (F := F) (i := i) (n := n) hf hm hF hF2 h3 h4 n1.1 n1.2
    have : c = 1 ∨ c = 2 ∨ c = 3 ∨ c = 4 := by omega
    rcases this with rfl | rfl | rfl | rfl <;> exact ⟨q1, q2⟩
  · exact ⟨la_C h hm n1.1 n1.2, fd_C h (by rcases hn with rfl | rfl | rfl | rfl <;> rfl) n1.1 n1.2⟩
  · exact ⟨la_D h (by omega) hm n1.1 n1.2, fd_D h (by omega)⟩
theorem fit_ns {P : Int → Prop} (h1 : P 1) (h2 : P 2) (h4 : P 4) (h8 : P 8) : ∀ n, (n = 1 ∨ n = 2 ∨ n = 4 ∨ n = 8) → P n := by
  rintro n (rfl | rfl | rfl | rfl)
  · exact h1
  · exact h2
  · exact h4
  · exact h8
theorem one_ok (x2 : Int) : MeOk 1 [.int .u8 x2] := ⟨rfl, rfl⟩
section
variable {m : Nat} {F : Int} (hm1 : 1 ≤ m) (hm : m ≤ 40) (hF : 100 ≤ F) (hF2 : F ≤ 4294967395)
include hm1 hm hF hF2
/-- One round. -/
theorem me_step (a b : Int) (fr : Bool) (i x2 : Int) (cs : List Value) (β : Nat → Value) (hcs : MeOk m cs) (hi : -9 ≤ i) (hi2 : i < m + 10) :
    ∃ β' cs' x2', Fl β' ∧ MeOk m cs' ∧ HopQ Try.prog meL 1 20 (meT m F a b (meWn fr) fr i β) (meH m m F fr cs x2) (meT m F a b (meWn fr) fr (i + 1) β') (meH m m F fr cs' x2') (some 7, []) := by
  by_cases c0 : i < 0
  · obtain ⟨p1, _⟩ := me_any (off := 0) (c := 0) (fr := fr) (F := F) (i := i) hcs (Int.le_refl _) (fun n _ h => by cases h) hm (laP_any hm hm1 hF hF2 hi hi2 (.inl ⟨rfl, c0⟩)) hm hF hF2 hi hi2
    cases fr
    · obtain ⟨β', h1, h2⟩ := me_mk (fr := false) (me_h0_f m F a b i x2 cs β) rfl hcs.1 p1; exact ⟨β', _, _, h1, hcs, h2⟩
    · obtain ⟨β', h1, h2⟩ := me_mk (fr := true) (me_h0_t m F a b i x2 cs β) rfl hcs.1 p1; exact ⟨β', _, _, h1, hcs, h2⟩
  by_cases c5 : i = m
  · obtain ⟨p1, _⟩ := me_any (off := 0) (c := 5) (fr := fr) (F := F) (i := i) (one_ok x2) (Int.le_refl _) (fit_ns (fun _ => by omega) (fun h => by cases h) (fun h => by cases h) (fun h => by cases h)) (by omega) (laP_any hm hm1 hF hF2 hi hi2 (.inr (.inr (.inl ⟨rfl, c5, rfl⟩)))) hm hF hF2 hi hi2
    cases fr
    · obtain ⟨β', h1, h2⟩ := me_mk (fr := false) (me_h5_f m F a b i x2 cs β) rfl hcs.1 p1; exact ⟨β', _, _, h1, hcs, h2⟩
    · obtain ⟨β', h1, h2⟩ := me_mk (fr := true) (me_h5_t m F a b i x2 cs β) rfl hcs.1 p1; exact ⟨β', _, _, h1, hcs, h2⟩
  by_cases c6 : (m : Int) < i
  · obtain ⟨p1, _⟩ := me_any (off := i - m) (c := 6) (fr := fr) (F := F) (i := i) hcs (by omega) (fun n _ h => by cases h) hm (laP_any hm hm1 hF hF2 hi hi2 (.inr (.inr (.inr ⟨rfl, c6, rfl⟩)))) hm hF hF2 hi hi2
    cases fr
    · obtain ⟨β', h1, h2⟩ := me_mk (fr := false) (me_h6_f m F a b i x2 cs β) rfl hcs.1 p1; exact ⟨β', _, _, h1, hcs, h2⟩
    · obtain ⟨β', h1, h2⟩ := me_mk (fr := true) (me_h6_t m F a b i x2 cs β) rfl hcs.1 p1; exact ⟨β', _, _, h1, hcs, h2⟩
  by_cases c4 : i + 8 ≤ m
  · have hf := fit_ns (P := fun n => meFit 4 n = decide (i + n ≤ m)) (decide_eq_true (by omega)).symm (decide_eq_true (by omega)).symm (decide_eq_true (by omega)).symm (decide_eq_true (by omega)).symm
    obtain ⟨p1, k⟩ := me_any (off := i) (c := 4) (fr := fr) (F := F) (i := i) hcs (by omega) (fun n hn h => of_decide_eq_true ((hf n hn).symm.trans h)) hm (laP_any hm hm1 hF hF2 hi hi2 (.inr (.inl ⟨by decide, by decide, by omega, by omega, rfl, hf⟩))) hm hF hF2 hi hi2
    cases fr
    · obtain ⟨β', h1, h2⟩ := me_mk (fr := false) (me_h4_f m F a b i x2 cs β) rfl k.1 p1; exact ⟨β', _, _, h1, k, h2⟩
    · obtain ⟨β', h1, h2⟩ := me_mk (fr := true) (me_h4_t m F a b i x2 cs β) rfl k.1 p1; exact ⟨β', _, _, h1, k, h2⟩
  by_cases c3 : i + 4 ≤ m
  · have hf := fit_ns (P := fun n => meFit 3 n = decide (i + n ≤ m)) (decide_eq_true (by omega)).symm (decide_eq_true (by omega)).symm (decide_eq_true (by omega)).symm (decide_eq_false (by omega)).symm
    obtain ⟨p1, k⟩ := me_any (off := i) (c := 3) (fr := fr) (F := F) (i := i) hcs (by omega) (fun n hn h => of_decide_eq_true ((hf n hn).symm.trans h)) hm (laP_any hm hm1 hF hF2 hi hi2 (.inr (.inl ⟨by decide, by decide, by omega, by omega, rfl, hf⟩))) hm hF hF2 hi hi2
    cases fr
    · obtain ⟨β', h1, h2⟩ := me_mk (fr := false) (me_h3_f m F a b i x2 cs β) rfl k.1 p1; exact ⟨β', _, _, h1, k, h2⟩
    · obtain ⟨β', h1, h2⟩ := me_mk (fr := true) (me_h3_t m F a b i x2 cs β) rfl k.1 p1; exact ⟨β', _, _, h1, k, h2⟩
  by_cases c2 : i + 2 ≤ m
  · have hf := fit_ns (P := fun n => meFit 2 n = decide (i + n ≤ m)) (decide_eq_true (by omega)).symm (decide_eq_true (by omega)).symm (decide_eq_false (by omega)).symm (decide_eq_false (by omega)).symm
    obtain ⟨p1, k⟩ := me_any (off := i) (c := 2) (fr := fr) (F := F) (i := i) hcs (by omega) (fun n hn h => of_decide_eq_true ((hf n hn).symm.trans h)) hm (laP_any hm hm1 hF hF2 hi hi2 (.inr (.inl ⟨by decide, by decide, by omega, by omega, rfl, hf⟩))) hm hF hF2 hi hi2
    cases fr
    · obtain ⟨β', h1, h2⟩ := me_mk (fr := false) (me_h2_f m F a b i x2 cs β) rfl k.1 p1; exact ⟨β', _, _, h1, k, h2⟩
    · obtain ⟨β', h1, h2⟩ := me_mk (fr := true) (me_h2_t m F a b i x2 cs β) rfl k.1 p1; exact ⟨β', _, _, h1, k, h2⟩
  · have hf := fit_ns (P := fun n => meFit 1 n = decide (i + n ≤ m)) (decide_eq_true (by omega)).symm (decide_eq_false (by omega)).symm (decide_eq_false (by omega)).symm (decide_eq_false (by omega)).symm
    obtain ⟨p1, k⟩ := me_any (off := i) (c := 1) (fr := fr) (F := F) (i := i) hcs (by omega) (fun n hn h => of_decide_eq_true ((hf n hn).symm.trans h)) hm (laP_any hm hm1 hF hF2 hi hi2 (.inr (.inl ⟨by decide, by decide, by omega, by omega, rfl, hf⟩))) hm hF hF2 hi hi2
    cases fr
    · obtain ⟨β', h1, h2⟩ := me_mk (fr := false) (me_h1_f m F a b i x2 cs β) rfl k.1 p1; exact ⟨β', _, _, h1, k, h2⟩
    · obtain ⟨β', h1, h2⟩ := me_mk (fr := true) (me_h1_t m F a b i x2 cs β) rfl k.1 p1; exact ⟨β', _, _, h1, k, h2⟩
/-- The first round. -/
theorem me_first (a b : Int) (fr : Bool) (x2 : Int) (cs : List Value) (hcs : MeOk m cs) :
    ∃ β', Fl β' ∧ HopQ Try.prog meL 1 20 (meET m F a b (meWn fr) fr) (meH m m F fr cs x2) (meT m F a b (meWn fr) fr (-9 + 1) β') (meH m m F fr cs x2) (some 7, []) := by
  obtain ⟨p1, _⟩ := me_any (off := 0) (c := 0) (fr := fr) (F := F) (i := -9) hcs (Int.le_refl _) (fun n _ h => by cases h) hm (laP_any hm hm1 hF hF2 (by omega) (by omega) (.inl ⟨rfl, by omega⟩)) hm hF hF2 (by omega) (by omega)
  cases fr
  · exact me_mk (fr := false) (me_e0_f m F a b x2 cs) rfl hcs.1 p1
  · exact me_mk (fr := true) (me_e0_t m F a b x2 cs) rfl hcs.1 p1
/-- So many rounds. -/
theorem me_rounds (a b : Int) (fr : Bool) : ∀ (d : Nat) (i x2 : Int) (cs : List Value) (β : Nat → Value), Fl β → MeOk m cs → -9 ≤ i → i + d ≤ m + 10 →
    ∃ β' cs' x2', Fl β' ∧ MeOk m cs' ∧ HopQ Try.prog meL d 20 (meT m F a b (meWn fr) fr i β) (meH m m F fr cs x2) (meT m F a b (meWn fr) fr (i + d) β') (meH m m F fr cs' x2') (some 7, [])
  | 0, i, x2, cs, β, hβ, hcs, h1, h2 => by
    refine ⟨β, cs, x2, hβ, hcs, ?_⟩
    rw [show i + ((0 : Nat) : Int) = i by omega]
    exact HopQ.zero _ _ _ _
  | d + 1, i, x2, cs, β, hβ, hcs, h1, h2 => by
    obtain ⟨β1, cs1, y1, f1, o1, q1⟩ := me_step hm1 hm hF hF2 a b fr i x2 cs β hcs h1 (by omega)
    obtain ⟨β2, cs2, y2, f2, o2, q2⟩ := me_rounds a b fr d (i + 1) y1 cs1 β1 f1 o1 (by omega) (by omega)
    refine ⟨β2, cs2, y2, f2, o2, ?_⟩
    rw [show d + 1 = 1 + d by omega, show i + ((1 + d : Nat) : Int) = i + 1 + d by omega]
    exact q1.trans q2 (fun _ _ h => h) (fun _ _ h => h)
theorem me_last (a b : Int) (fr : Bool) (x2 : Int) (cs : List Value) (β : Nat → Value) (hβ : Fl β) (hcs : MeOk m cs) :
    ∃ β', Fl β' ∧ StopQ Try.prog meL 1 20 (meT m F a b (meWn fr) fr (m + 10) β) (meH m m F fr cs x2) (.exit 0) (meT m F a b (meWn fr) fr (m + 10) β') (meH m m F fr cs x2) (some 7, []) := by
  have hp : AE [(b2i (decide (((m : Int) + 10) < wi (m + 10))), 0)] := AE.cons (b0 (by rw [wi_id (by omega) (by omega)]; omega)) AE.nil
  cases fr
  · obtain ⟨β', h1, h2⟩ := stopJ0_ok noNG meH3_ok noLoop_low (noLoop_ok _) me_one (meT_un m F a b (meWn false) false (m + 10)) _ hβ (me_s_f m F a b (m + 10) x2 cs β) (me_dead m F a b (meWn false) false (m + 10)) (by kernel_rfl) (me_deadB m F false cs x2) (me_hopC m F a b (meWn false) false (m + 10) cs x2 hcs.1) hp
    exact ⟨β', h1, h2.weak (bndW rfl)⟩
  · obtain ⟨β', h1, h2⟩ := stopJ0_ok noNG meH3_ok noLoop_low (noLoop_ok _) me_one (meT_un m F a b (meWn true) true (m + 10)) _ hβ (me_s_t m F a b (m + 10) x2 cs β) (me_dead m F a b (meWn true) true (m + 10)) (by kernel_rfl) (me_deadB m F true cs x2) (me_hopC m F a b (meWn true) true (m + 10) cs x2 hcs.1) hp
    exact ⟨β', h1, h2.weak (bndW rfl)⟩
/-- The loop. -/
theorem me_loop (a b : Int) (fr : Bool) (cs : List Value) (x2 : Int) (hcs : MeOk m cs) :
    ∃ β' cs' x2', ∀ k, k = m → LoopQOk Try.prog ⟨meF, 1, fun _ => true, meET m F a b (meWn fr) fr, meH m k F fr cs x2, .exit 0, meT m F a b (meWn fr) fr (m + 10) β', meH m m F fr cs' x2', (some 7, [])⟩ := by
  obtain ⟨β1, f1, q1⟩ := me_first hm1 hm hF hF2 a b fr x2 cs hcs
  obtain ⟨β2, cs2, y2, f2, o2, q2⟩ := me_rounds hm1 hm hF hF2 a b fr (m + 18) (-9 + 1) x2 cs β1 f1 hcs (by omega) (by omega)
  rw [show (-9 + 1 + ((m + 18 : Nat) : Int)) = m + 10 by omega] at q2
  obtain ⟨β3, f3, q3⟩ := me_last hm1 hm hF hF2 a b fr y2 cs2 β2 f2 o2
  refine ⟨β3, cs2, y2, fun k hk => ?_⟩
  subst hk
  have st := (q1.trans (m3 := (some 7, [])) q2 (fun _ _ h => h) (fun _ _ h => h)).stop (m3 := (some 7, [])) q3 (fun _ _ h => h) (fun _ _ h => h)
  exact loopQ_ok (N := 1 + (k + 18) + 1) me_one (StopQ.stop st (by kernel_rfl))
end
end Go.Proofs.Ytbjiicjmlbocdaa.Ex
