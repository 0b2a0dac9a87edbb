/-
  The law MemoryEdges: what its rounds ask holds.
-/
import Derived.Test.YtbjiicjmlbocdaaMe2
namespace Go.Proofs.Ytbjiicjmlbocdaa.Ex
open Go Go.RowKit
set_option maxHeartbeats 400000
set_option linter.unusedVariables false
theorem wr64' (x : Int) : wu x = x % 18446744073709551616 := by simp [wu, IntKind.wrap, IntKind.signed, IntKind.bits]
theorem wu_id {x : Int} (h1 : 0 ≤ x) (h2 : x < 18446744073709551616) : wu x = x := by rw [wr64']; omega
theorem wi_id {x : Int} (h1 : -9223372036854775808 ≤ x) (h2 : x < 9223372036854775808) : wi x = x := by
  unfold wi IntKind.wrap
  have e : (2 : Int) ^ IntKind.i64.bits = 18446744073709551616 := rfl
  have e2 : (2 : Int) ^ (IntKind.i64.bits - 1) = 9223372036854775808 := rfl
  simp only [e, e2]
  split
  · rename_i h
    simp at h
    omega
  · rename_i h
    simp [IntKind.signed] at h
    omega
theorem b1 {p : Prop} [Decidable p] (h : p) : b2i (decide p) = 1 := by rw [decide_eq_true h]; rfl
theorem b0 {p : Prop} [Decidable p] (h : ¬p) : b2i (decide p) = 0 := by rw [decide_eq_false h]; rfl
theorem bt {x : Bool} (h : x = true) : b2i x = 1 := by rw [h]; rfl
theorem bf {x : Bool} (h : x = false) : b2i x = 0 := by rw [h]; rfl
def AE (cs : Cs) : Prop := ∀ c ∈ cs, c.1 = c.2
theorem AE.nil : AE [] := fun _ h => by cases h
theorem AE.cons {a b : Int} {l : Cs} (h : a = b) (hl : AE l) : AE ((a, b) :: l) := fun c hc => by
  rcases List.mem_cons.1 hc with rfl | hc
  · exact h
  · exact hl c hc
theorem AE.app {l m : Cs} (h : AE l) (hm : AE m) : AE (l ++ m) := fun c hc => by
  rcases List.mem_append.1 hc with hc | hc
  · exact h c hc
  · exact hm c hc
theorem AE.bif {x : Bool} {l : Cs} (h : x = true → AE l) : AE (bif x then l else []) := by cases x; exact AE.nil; exact h rfl
/-- The cells of a region of so many bytes. -/
def MeOk (m : Nat) (cs : List Value) : Prop := cs.all isU8 = true ∧ cs.length = m
theorem b1N_len {n : Int} (h : n = 1 ∨ n = 2 ∨ n = 4 ∨ n = 8) : ((b1N n).length : Int) = n := by rcases h with rfl | rfl | rfl | rfl <;> rfl
theorem b1N_u8 (n : Int) : ((b1N n).map fun c => Value.int .u8 (c.toNat : Int)).all isU8 = true := List.all_eq_true.2 fun v hv => by obtain ⟨c, _, rfl⟩ := List.mem_map.1 hv; rfl
theorem meW_ok {m : Nat} {cs : List Value} {o n : Int} (hn : n = 1 ∨ n = 2 ∨ n = 4 ∨ n = 8) (h : MeOk m cs) (h1 : 0 ≤ o) (h2 : o + n ≤ m) : MeOk m (meW cs o n) := by
  have hl := b1N_len hn
  constructor
  · show (splice cs _ ((b1N n).map fun c => Value.int .u8 (c.toNat : Int))).all isU8 = true
    unfold splice
    simp only [List.all_append, Bool.and_eq_true]
    refine ⟨⟨List.all_eq_true.2 fun v hv => List.all_eq_true.1 h.1 v (List.mem_of_mem_take hv), b1N_u8 n⟩, List.all_eq_true.2 fun v hv => List.all_eq_true.1 h.1 v (List.mem_of_mem_drop hv)⟩
  · show (splice cs (0 + o.toNat * 1) ((b1N n).map fun c => Value.int .u8 (c.toNat : Int))).length = m
    rw [splice_length, h.2]
    rw [List.length_map, h.2]
    omega
theorem fd_B {m : Nat} {F i n : Int} {fit : Bool} (hf : fit = decide (i + n ≤ m)) (hm : m ≤ 40) (hF : 100 ≤ F) (hF2 : F ≤ 4294967395) (h0 : 0 ≤ i) (h1 : i < m) (hn : 1 ≤ n) (hn8 : n ≤ 8) :
    AE ([(b2i (decide (F + m > F + i)), 1), (b2i (decide (F > F + i)), 0), (wu (F + i - F), i), (b2i (decide (i ≥ wu m)), 0), (b2i (decide (wu (wu m - i) < wu n)), b2i !fit)] ++ (bif fit then [(wi i, i)] else [])) := by
  have e1 : wu (m : Int) = m := wu_id (by omega) (by omega)
  have e2 : wu ((m : Int) - i) = m - i := wu_id (by omega) (by omega)
  have e3 : wu n = n := wu_id (by omega) (by omega)
  refine AE.app (AE.cons (b1 (by omega)) (AE.cons (b0 (by omega)) (AE.cons (by rw [show F + i - F = i from by omega]; exact wu_id (by omega) (by omega)) (AE.cons (b0 (by rw [e1]; omega)) (AE.cons ?_ AE.nil))))) (AE.bif fun _ => AE.cons (wi_id (by omega) (by omega)) AE.nil)
  rw [e1, e2, e3, hf]
  congr 1
  by_cases h : i + n ≤ m
  · rw [decide_eq_true h]; simp; omega
  · rw [decide_eq_false h]; simp; omega
theorem fd_A {m : Nat} {F i : Int} (h0 : i < 0) : AE [(b2i (decide (F + m > F + i)), 1), (b2i (decide (F > F + i)), 1)] :=
  AE.cons (b1 (by omega)) (AE.cons (b1 (by omega)) AE.nil)
theorem fd_C {m : Nat} {F i n : Int} {fit : Bool} (hi : i = m) (hf : fit = decide (n ≤ 1)) (hn : 1 ≤ n) (hn8 : n ≤ 8) :
    AE ([(b2i (decide (F + m > F + i)), 0), (wu (F + i - (F + m)), 0), (b2i (decide ((0 : Int) ≥ wu 1)), 0), (b2i (decide (wu (wu 1 - 0) < wu n)), b2i !fit)] ++ (bif fit then [(wi 0, 0)] else [])) := by
  have e1 : wu 1 = 1 := rfl
  have e3 : wu n = n := wu_id (by omega) (by omega)
  refine AE.app (AE.cons (b0 (by omega)) (AE.cons (by rw [show F + i - (F + m) = 0 from by omega]; rfl) (AE.cons (b0 (by rw [e1]; omega)) (AE.cons ?_ AE.nil)))) (AE.bif fun _ => AE.cons rfl AE.nil)
  rw [e1, show (1 : Int) - 0 = 1 from rfl, e1, e3, hf]
  congr 1
  by_cases h : n ≤ 1
  · rw [decide_eq_true h]; simp; omega
  · rw [decide_eq_false h]; simp; omega
theorem fd_D {m : Nat} {F i : Int} (hi : m < i) (h2 : i < m + 1000) : AE [(b2i (decide (F + m > F + i)), 0), (wu (F + i - (F + m)), i - m), (b2i (decide (i - m ≥ wu 1)), 1)] := by
  have e1 : wu 1 = 1 := rfl
  exact AE.cons (b0 (by omega)) (AE.cons (by rw [show F + i - (F + m) = i - m from by omega]; exact wu_id (by omega) (by omega)) (AE.cons (b1 (by rw [e1]; omega)) AE.nil))
theorem la_B {m : Nat} {i n : Int} {fit : Bool} (hf : fit = decide (i + n ≤ m)) (h0 : 0 ≤ i) (h1 : i < m) (hm : m ≤ 40) (hn : 1 ≤ n) (hn8 : n ≤ 8) : AE ([(b2i (decide (i ≥ 0)), 1), (b2i (decide (wi (i + n) ≤ m)), b2i fit)] ++ (bif fit then [] else [(b2i (i == (m : Int)), 0)])) := by
  have e1 : wi (i + n) = i + n := wi_id (by omega) (by omega)
  refine AE.app (AE.cons (b1 h0) (AE.cons (by rw [e1, hf]) AE.nil)) ?_
  cases fit
  · exact AE.cons (bf (by rw [beq_eq_false_iff_ne]; omega)) AE.nil
  · exact AE.nil
theorem la_A {m : Nat} {i : Int} (h0 : i < 0) : AE [(b2i (decide (i ≥ 0)), 0), (b2i (i == (m : Int)), 0)] :=
  AE.cons (b0 (by omega)) (AE.cons (bf (by rw [beq_eq_false_iff_ne]; omega)) AE.nil)
theorem la_C {m : Nat} {i n : Int} (h0 : i = m) (hm : m ≤ 40) (hn : 1 ≤ n) (hn8 : n ≤ 8) : AE [(b2i (decide (i ≥ 0)), 1), (b2i (decide (wi (i + n) ≤ m)), 0), (b2i (i == (m : Int)), 1)] :=
  AE.cons (b1 (by omega)) (AE.cons (b0 (by rw [wi_id (by omega) (by omega)]; omega)) (AE.cons (bt (by rw [beq_iff_eq]; omega)) AE.nil))
theorem la_D {m : Nat} {i n : Int} (h0 : m < i) (h2 : i < m + 1000) (hm : m ≤ 40) (hn : 1 ≤ n) (hn8 : n ≤ 8) : AE [(b2i (decide (i ≥ 0)), 1), (b2i (decide (wi (i + n) ≤ m)), 0), (b2i (i == (m : Int)), 0)] :=
  AE.cons (b1 (by omega)) (AE.cons (b0 (by rw [wi_id (by omega) (by omega)]; omega)) (AE.cons (bf (by rw [beq_eq_false_iff_ne]; omega)) AE.nil))
theorem tx_ok {m : Nat} {o n : Int} {cs : List Value} (h : MeOk m cs) (h0 : 0 ≤ o) (h1 : o + n ≤ m) (hm : m ≤ 40) (hn : 1 ≤ n) : AE (txP m o n cs) := by
  refine AE.cons (wi_id (by omega) (by omega)) (AE.cons (bt ?_) (AE.cons (bt ?_) AE.nil))
  · simp only [slP, Bool.and_eq_true, Bool.or_eq_true, decide_eq_true_eq]
    omega
  · rw [h.1, h.2]
    simp only [Bool.true_and, decide_eq_true_eq]
    omega
theorem rd_ok {m : Nat} {o n : Int} {cs : List Value} (h : MeOk m cs) (h0 : 0 ≤ o) (h1 : o + n ≤ m) (hm : m ≤ 40) (hn : 1 ≤ n) (hn8 : n ≤ 8) : AE (rdP m o n cs) := by
  refine AE.app (tx_ok h h0 h1 hm hn) (AE.cons (b1 ?_) AE.nil)
  show (((cs.drop (0 + o.toNat * 1)).take ((o + n).toNat - o.toNat)).map u8Of).length ≤ 8
  simp only [List.length_map, List.length_take, List.length_drop]
  omega
theorem wr_ok {m : Nat} {o n : Int} {cs : List Value} (hn : n = 1 ∨ n = 2 ∨ n = 4 ∨ n = 8) (h : MeOk m cs) (h0 : 0 ≤ o) (h1 : o + n ≤ m) (hm : m ≤ 40) : AE (wrP m o n cs) := by
  have hl := b1N_len hn
  refine AE.cons (bt ?_) (AE.cons (bt ?_) AE.nil)
  · simp only [slP, Bool.and_eq_true, Bool.or_eq_true, decide_eq_true_eq]
    omega
  · rw [h.2]
    show (decide ((b1N n).length ≤ _) && decide (0 + o.toNat * 1 + (b1N n).length ≤ m)) = true
    simp only [Bool.and_eq_true, decide_eq_true_eq]
    omega
theorem nx_ok {m : Nat} {o n : Int} {c : Nat} {fr : Bool} {cs : List Value} (hn : n = 1 ∨ n = 2 ∨ n = 4 ∨ n = 8) (h : MeOk m cs) (h0 : 0 ≤ o) (h1 : meFit c n = true → o + n ≤ m) : MeOk m (nxC o c fr cs n) := by
  unfold nxC
  cases hf : meFit c n
  · exact h
  · cases fr
    · exact h
    · exact meW_ok hn h h0 (h1 hf)
theorem sz_any {m : Nat} {F i off : Int} {c : Nat} {fr : Bool} {s : Nat} {cs : List Value} {n : Int} (hn : n = 1 ∨ n = 2 ∨ n = 4 ∨ n = 8) (h : MeOk s cs) (h0 : 0 ≤ off) (h1 : meFit c n = true → off + n ≤ s) (hs : s ≤ 40) (hl : AE (laP m i c n)) (hf : AE (fdP m F i off c n)) : AE (szP m F i off c fr s cs n) := by
  refine AE.app hl (AE.app hf (AE.app (AE.bif fun e => rd_ok h h0 (h1 e) hs (by omega) (by omega)) (AE.app hf (AE.app (AE.bif fun e => ?_) (AE.app hf (AE.bif fun e => tx_ok (nx_ok hn h h0 h1) h0 (h1 e) hs (by omega)))))))
  rw [Bool.and_eq_true] at e
  exact wr_ok hn h h0 (h1 e.1) hs
theorem me_any {m : Nat} {F i off : Int} {c : Nat} {fr : Bool} {s : Nat} {cs : List Value} (h : MeOk s cs) (h0 : 0 ≤ off) (h1 : ∀ n, (n = 1 ∨ n = 2 ∨ n = 4 ∨ n = 8) → meFit c n = true → off + n ≤ s) (hs : s ≤ 40) (hl : ∀ n, (n = 1 ∨ n = 2 ∨ n = 4 ∨ n = 8) → AE (laP m i c n) ∧ AE (fdP m F i off c n))
    (hm : m ≤ 40) (hF : 100 ≤ F) (hF2 : F ≤ 4294967395) (hi : -9 ≤ i) (hi2 : i < m + 10) : AE (meCs m F i off c fr s cs) ∧ MeOk s (meN off c fr cs) := by
  have k1 := nx_ok (fr := fr) (c := c) (.inl rfl) h h0 (h1 1 (.inl rfl))
  have k2 := nx_ok (fr := fr) (c := c) (.inr (.inl rfl)) k1 h0 (h1 2 (.inr (.inl rfl)))
  have k4 := nx_ok (fr := fr) (c := c) (.inr (.inr (.inl rfl))) k2 h0 (h1 4 (.inr (.inr (.inl rfl))))
  have k8 := nx_ok (fr := fr) (c := c) (.inr (.inr (.inr rfl))) k4 h0 (h1 8 (.inr (.inr (.inr rfl))))
  refine ⟨AE.app (AE.cons (b1 ?_) (AE.cons ?_ AE.nil)) (AE.app (sz_any (.inl rfl) h h0 (h1 1 (.inl rfl)) hs (hl 1 (.inl rfl)).1 (hl 1 (.inl rfl)).2) (AE.app (sz_any (.inr (.inl rfl)) k1 h0 (h1 2 (.inr (.inl rfl))) hs (hl 2 (.inr (.inl rfl))).1 (hl 2 (.inr (.inl rfl))).2)
    (AE.app (sz_any (.inr (.inr (.inl rfl))) k2 h0 (h1 4 (.inr (.inr (.inl rfl)))) hs (hl 4 (.inr (.inr (.inl rfl)))).1 (hl 4 (.inr (.inr (.inl rfl)))).2)
    (AE.app (sz_any (.inr (.inr (.inr rfl))) k4 h0 (h1 8 (.inr (.inr (.inr rfl)))) hs (hl 8 (.inr (.inr (.inr rfl)))).1 (hl 8 (.inr (.inr (.inr rfl)))).2) (AE.cons (wi_id (by omega) (by omega)) AE.nil))))), k8⟩
  · rw [wi_id (by omega) (by omega)]; omega
  · rw [wu_id (x := (m : Int)) (by omega) (by omega), wu_id (x := F + m) (by omega) (by omega), wi_id (by omega) (by omega), wr64', wr64']
    omega
end Go.Proofs.Ytbjiicjmlbocdaa.Ex
