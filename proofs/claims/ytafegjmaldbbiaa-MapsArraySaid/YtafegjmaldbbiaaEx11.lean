/-
  Runs that the kernel reckons, part 11: whatever order the head takes, what it leaves is the same.
-/
import Derived.Test.YtafegjmaldbbiaaEx10
namespace Go.Proofs.Ytafegjmaldbbiaa.Ex
open Go Go.RowKit

def waits (o : Oper) (j : Nat) : Bool := o.after.toList.any fun e => Region.binds .any e && e.on == j
def depsB (ops : Array Oper) (n : Nat) : Bool :=
  (List.range n).all fun i =>
    match ops[i]? with
    | none => false
    | some o => (o.after.toList.all fun e => !Region.binds .any e || decide (e.on < i)) &&
      (List.range n).all fun j =>
        match ops[j]? with
        | none => false
        | some p =>
          match p.dst with
          | none => true
          | some d => (i == j || o.dst != some d) && (!(o.looksAt ops).contains d || i == j || (if j < i then waits o j else waits p i))
theorem depsB_spec {ops : Array Oper} {n : Nat} (h : depsB ops n = true) {i : Nat} (hi : i < n) {o : Oper} (ho : ops[i]? = some o) :
    (∀ e ∈ o.after, Region.binds .any e = true → e.on < i) ∧ ∀ j p d, j < n → ops[j]? = some p → p.dst = some d → i ≠ j →
      o.dst ≠ some d ∧ (d ∈ o.looksAt ops → (j < i → waits o j = true) ∧ (i < j → waits p i = true)) := by
  have h1 := List.all_eq_true.1 h i (List.mem_range.2 hi)
  simp only [ho, Bool.and_eq_true] at h1
  refine ⟨fun e he hb => ?_, fun j p d hj hp hd hne => ?_⟩
  · have := List.all_eq_true.1 h1.1 e (by simpa using he)
    simpa [hb] using this
  · have h2 := List.all_eq_true.1 h1.2 j (List.mem_range.2 hj)
    simp only [hp, hd, Bool.and_eq_true] at h2
    have hne' : (i == j) = false := by simpa using hne
    refine ⟨?_, fun hm => ?_⟩
    · have := h2.1
      simpa [hne'] using this
    · have h3 := h2.2
      have hc : (o.looksAt ops).contains d = true := by simpa using hm
      simp only [hc, hne', Bool.not_true, Bool.false_or] at h3
      refine ⟨fun hlt => by rwa [if_pos hlt] at h3, fun hlt => by rwa [if_neg (by omega)] at h3⟩
theorem waits_spec {o : Oper} {j : Nat} (h : waits o j = true) : ∃ e ∈ o.after, Region.binds .any e = true ∧ e.on = j := by
  obtain ⟨e, he, hb⟩ := List.any_eq_true.1 h
  simp only [Bool.and_eq_true, beq_iff_eq] at hb
  exact ⟨e, by simpa using he, hb.1, hb.2⟩

def disj (a : Addr) (n : Nat) (b : Addr) (m : Nat) : Bool := a.block != b.block || decide (a.off + n ≤ b.off) || decide (b.off + m ≤ a.off)
/-- The stores lie apart from one another, and from what is read unless the store waits for it. -/
def memB (ops : Array Oper) (n : Nat) (es : List HE) : Bool :=
  (List.range n).all fun j =>
    match es[j]? with
    | none => false
    | some e =>
      match e.st with
      | none => true
      | some (b, vs) => (List.range n).all fun i => i == j ||
        match es[i]?, ops[j]? with
        | some f, some oj =>
          (match f.st with | none => true | some (a, us) => disj a us.length b vs.length) &&
          (match f.rd with | .none => true | .any => waits oj i | .cells a m => waits oj i || disj a m b vs.length)
        | _, _ => false
theorem memB_spec {ops : Array Oper} {n : Nat} {es : List HE} (h : memB ops n es = true) {j : Nat} (hj : j < n) {e : HE} (he : es[j]? = some e) {b : Addr} {vs : List Value} (hs : e.st = some (b, vs)) {i : Nat} (hi : i < n) (hne : i ≠ j)
    {f : HE} (hf : es[i]? = some f) {oj : Oper} (ho : ops[j]? = some oj) : (∀ a us, f.st = some (a, us) → disj a us.length b vs.length = true) ∧ (f.rd = .any → waits oj i = true) ∧ (∀ a m, f.rd = .cells a m → waits oj i = true ∨ disj a m b vs.length = true) := by
  have h1 := List.all_eq_true.1 h j (List.mem_range.2 hj)
  simp only [he, hs] at h1
  have h2 := List.all_eq_true.1 h1 i (List.mem_range.2 hi)
  have hne' : (i == j) = false := by simpa using hne
  simp only [hne', Bool.false_or, hf, ho, Bool.and_eq_true] at h2
  refine ⟨fun a us hst => ?_, fun hr => ?_, fun a m hr => ?_⟩
  · have := h2.1; rw [hst] at this; exact this
  · have := h2.2; rw [hr] at this; exact this
  · have := h2.2; rw [hr] at this; simpa using this
theorem disj_spec {a b : Addr} {n m : Nat} (h : disj a n b m = true) (hb : a.block = b.block) : a.off + n ≤ b.off ∨ b.off + m ≤ a.off := by
  simp only [disj, hb, Bool.or_eq_true, decide_eq_true_eq, bne_self_eq_false, Bool.false_eq_true, false_or] at h
  exact h

/-- What temporaries are when some of the head's operations are done. -/
structure MT (ops : Array Oper) (n : Nat) (t0 : List Value) (E : Nat → HE) (done : Nat → Bool) (t : List Value) : Prop where
  tl : t.length = t0.length
  t1 : ∀ i o d, i < n → ops[i]? = some o → o.dst = some d → done i = true → d < t0.length → t[d]? = some (E i).v
  t2 : ∀ x, (∀ i o, i < n → ops[i]? = some o → done i = true → o.dst ≠ some x) → t[x]? = t0[x]?
/-- A block as it is behind the stores that are done. -/
def BlkAt (n : Nat) (E : Nat → HE) (done : Nat → Bool) (x : Nat) (o o' : AO) : Prop :=
  o'.live = o.live ∧ o'.es = o.es ∧ o'.cs.length = o.cs.length ∧
    (∀ i a vs y, i < n → (E i).st = some (a, vs) → done i = true → a.block = x → y < vs.length → o'.cs[a.off + y]? = vs[y]?) ∧
    (∀ z, (∀ i a vs, i < n → (E i).st = some (a, vs) → done i = true → a.block = x → ¬ (a.off ≤ z ∧ z < a.off + vs.length)) → o'.cs[z]? = o.cs[z]?)
/-- What blocks are. -/
structure MH (n : Nat) (h0 : List AO) (E : Nat → HE) (N : Nat → List AO) (done : Nat → Bool) (h : List AO) (s : Ren) : Prop where
  hl : h.length = h0.length + (N n).length
  h1 : ∀ (x : Nat) (o : AO), h0[x]? = some o → ∃ o', h[x]? = some o' ∧ BlkAt n E done x o o'
  h2 : ∀ i y cs, i < n → (E i).b[y]? = some cs → done i = true → h[h0.length + (N i).length + y]? = some cs
  h3 : ∀ i y cs, i < n → (E i).b[y]? = some cs → done i = false → h[h0.length + (N i).length + y]? = some dead ∧ s (h0.length + (N i).length + y) = none

section
variable {P : Program} {rec : Rec} {ops : Array Oper} {n : Nat} {t0 t' : List Value} {h0 l' : List AO} {es : List HE} {T : Nat → List Value} {E : Nat → HE} {N : Nat → List AO}

theorem N_pre (S : HeadSpec P rec ops h0 ops.toList 0 n t0 [] t' l' es T E N) {i : Nat} : ∀ (j : Nat), i ≤ j → j ≤ n → (N i).length ≤ (N j).length ∧ ∀ x, x < (N i).length → (N j)[x]? = (N i)[x]? := by
  intro j
  induction j with
  | zero => intro h _; obtain rfl : i = 0 := by omega
            exact ⟨Nat.le_refl _, fun _ _ => rfl⟩
  | succ j ih =>
    intro h hj
    by_cases e : i = j + 1
    · subst e; exact ⟨Nat.le_refl _, fun _ _ => rfl⟩
    · obtain ⟨g1, g2⟩ := ih (by omega) (by omega)
      obtain ⟨o, _, _, _, g3⟩ := S.step j (by omega) (by omega)
      rw [g3]
      exact ⟨by simp [addNew]; omega, fun x hx => by simp only [addNew]; rw [List.getElem?_append_left (by omega)]; exact g2 x hx⟩
theorem N_next (S : HeadSpec P rec ops h0 ops.toList 0 n t0 [] t' l' es T E N) {i : Nat} (hi : i < n) : N (i + 1) = N i ++ (E i).b := by
  obtain ⟨o, _, _, _, g3⟩ := S.step i (by omega) hi
  exact g3
theorem N_at (S : HeadSpec P rec ops h0 ops.toList 0 n t0 [] t' l' es T E N) {i : Nat} (hi : i < n) {y : Nat} {cs : AO} (hb : (E i).b[y]? = some cs) :
    (N n)[(N i).length + y]? = some cs ∧ ∀ j, i < j → j ≤ n → (N i).length + y < (N j).length := by
  have g3 := N_next S hi
  have hy : y < (E i).b.length := (List.getElem?_eq_some_iff.1 hb).1
  have e : (N (i + 1)).length = (N i).length + (E i).b.length := by rw [g3]; simp
  refine ⟨?_, fun j hj hjn => ?_⟩
  · rw [(N_pre S n (i := i + 1) (by omega) (Nat.le_refl _)).2 _ (by omega), g3, List.getElem?_append_right (by omega)]
    rw [show (N i).length + y - (N i).length = y by omega]
    exact hb
  · have := (N_pre S j (i := i + 1) (by omega) hjn).1
    omega
theorem N_sur (S : HeadSpec P rec ops h0 ops.toList 0 n t0 [] t' l' es T E N) : ∀ (j : Nat), j ≤ n → ∀ x, x < (N j).length → ∃ i y cs, i < j ∧ (E i).b[y]? = some cs ∧ (N i).length + y = x := by
  intro j
  induction j with
  | zero => intro _ x hx; rw [S.l0] at hx; simp at hx
  | succ j ih =>
    intro hj x hx
    have g3 := N_next S (i := j) (by omega)
    by_cases hlt : x < (N j).length
    · obtain ⟨i, y, cs, h1, h2, h3⟩ := ih (by omega) x hlt
      exact ⟨i, y, cs, by omega, h2, h3⟩
    · rw [g3] at hx
      simp at hx
      have hy : x - (N j).length < (E j).b.length := by omega
      exact ⟨j, x - (N j).length, _, by omega, List.getElem?_eq_getElem hy, by omega⟩
theorem N_fit (S : HeadSpec P rec ops h0 ops.toList 0 n t0 [] t' l' es T E N) {i : Nat} (hi : i < n) : (N i).length + (E i).b.length ≤ (N n).length := by
  have e : (N (i + 1)).length = (N i).length + (E i).b.length := by rw [N_next S hi]; simp
  have := (N_pre S n (i := i + 1) (by omega) (Nat.le_refl _)).1
  omega
theorem op_at (S : HeadSpec P rec ops h0 ops.toList 0 n t0 [] t' l' es T E N) {i : Nat} (hi : i < n) : ∃ o, ops[i]? = some o ∧ headStep P rec ops o (T i) h0 (h0.length + (N i).length) (N i) = some (E i) ∧ T (i + 1) = putA (T i) o.dst (E i).v := by
  obtain ⟨o, g1, g2, g3, _⟩ := S.step i (by omega) hi
  exact ⟨o, by rw [← Array.getElem?_toList]; simpa using g1, g2, g3⟩
theorem eff_at (S : HeadSpec P rec ops h0 ops.toList 0 n t0 [] t' l' es T E N) {i : Nat} (hi : i < n) : es[i]? = some (E i) := by
  have := S.eff i (by omega) hi
  simpa using this
theorem putA_length (t : List Value) (d : Option Tmp) (v : Value) : (putA t d v).length = t.length := by cases d <;> simp [putA]
theorem putA_other (t : List Value) {d : Option Tmp} (v : Value) {x : Nat} (h : d ≠ some x) : (putA t d v)[x]? = t[x]? := by
  cases d with
  | none => rfl
  | some d => simp only [putA]; rw [List.getElem?_set, if_neg (fun e => h (by rw [e]))]
theorem putA_same (t : List Value) {d : Nat} (v : Value) (h : d < t.length) : (putA t (some d) v)[d]? = some v := by
  simp only [putA]; rw [List.getElem?_set, if_pos rfl, if_pos h]
/-- The text's own order. -/
theorem lex_ok (S : HeadSpec P rec ops h0 ops.toList 0 n t0 [] t' l' es T E N) (hd : depsB ops n = true) : ∀ (i : Nat), i ≤ n → (T i).length = t0.length ∧
    (∀ j o d, j < i → ops[j]? = some o → o.dst = some d → d < t0.length → (T i)[d]? = some (E j).v) ∧ (∀ x, (∀ j o, j < i → ops[j]? = some o → o.dst ≠ some x) → (T i)[x]? = t0[x]?) := by
  intro i
  induction i with
  | zero => intro _; rw [S.t0]; exact ⟨rfl, fun j o d h => absurd h (by omega), fun _ _ => rfl⟩
  | succ i ih =>
    intro hi
    obtain ⟨g1, g2, g3⟩ := ih (by omega)
    obtain ⟨o, ho, _, hT⟩ := op_at S (i := i) (by omega)
    rw [hT]
    refine ⟨by rw [putA_length]; exact g1, fun j p d hj hp hpd hdl => ?_, fun x hx => ?_⟩
    · by_cases e : j = i
      · subst e
        rw [ho] at hp
        cases hp
        rw [hpd]
        exact putA_same _ _ (by rw [g1]; exact hdl)
      · rw [putA_other _ _ ((depsB_spec hd (by omega) ho).2 j p d (by omega) hp hpd (by omega)).1]
        exact g2 j p d (by omega) hp hpd hdl
    · rw [putA_other _ _ (hx i o (by omega) ho)]
      exact g3 x fun j p hj hp => hx j p (by omega) hp
theorem mt_next (hd : depsB ops n = true) {done : Nat → Bool} {t : List Value} (M : MT ops n t0 E done t) {i : Nat} (hi : i < n) {o : Oper} (ho : ops[i]? = some o) : MT ops n t0 E (fun j => done j || j == i) (putA t o.dst (E i).v) := by
  refine ⟨by rw [putA_length]; exact M.tl, fun j p d hj hp hpd hdn hdl => ?_, fun x hx => ?_⟩
  · by_cases e : j = i
    · subst e
      rw [ho] at hp
      cases hp
      rw [hpd]
      exact putA_same _ _ (by rw [M.tl]; exact hdl)
    · rw [putA_other _ _ ((depsB_spec hd hi ho).2 j p d hj hp hpd (by omega)).1]
      exact M.t1 j p d hj hp hpd (by simpa [e] using hdn) hdl
  · rw [putA_other _ _ (hx i o hi ho (by simp))]
    exact M.t2 x fun j p hj hp hdn => hx j p hj hp (by simp [hdn])
theorem blk_next {done : Nat → Bool} {x : Nat} {o o' : AO} (h : BlkAt n E done x o o') {i : Nat} (hst : (E i).st = none) : BlkAt n E (fun j => done j || j == i) x o o' := by
  obtain ⟨g1, g2, g3, g4, g5⟩ := h
  refine ⟨g1, g2, g3, fun j a vs y hj hs hdn hb hy => ?_, fun z hz => g5 z fun j a vs hj hs hdn hb => hz j a vs hj hs (by simp [hdn]) hb⟩
  have e : j ≠ i := fun e => by rw [e, hst] at hs; cases hs
  exact g4 j a vs y hj hs (by simpa [e] using hdn) hb hy
theorem mh_still {done : Nat → Bool} {h : List AO} {s : Ren} (M : MH n h0 E N done h s) {i : Nat} (hst : (E i).st = none) (hb : (E i).b = []) : MH n h0 E N (fun j => done j || j == i) h s := by
  refine ⟨M.hl, fun x o hx => ?_, fun j y cs hj hc hdn => ?_, fun j y cs hj hc hdn => ?_⟩
  · obtain ⟨o', g1, g2⟩ := M.h1 x o hx
    exact ⟨o', g1, blk_next g2 hst⟩
  · have e : j ≠ i := fun e => by rw [e, hb] at hc; simp at hc
    exact M.h2 j y cs hj hc (by simpa [e] using hdn)
  · exact M.h3 j y cs hj hc (by cases hq : done j with | false => rfl | true => simp [hq] at hdn)
theorem mh_new (S : HeadSpec P rec ops h0 ops.toList 0 n t0 [] t' l' es T E N) {done : Nat → Bool} {h : List AO} {s : Ren} (M : MH n h0 E N done h s) {i : Nat} (hi : i < n) (hst : (E i).st = none)
    (s' : Ren) (hs : ∀ q, ¬ (h0.length + (N i).length ≤ q ∧ q < h0.length + (N i).length + (E i).b.length) → s' q = s q) : MH n h0 E N (fun j => done j || j == i) (layL h (h0.length + (N i).length) (E i).b) s' := by
  have hfit : h0.length + (N i).length + (E i).b.length ≤ h.length := by rw [M.hl]; have := N_fit S hi; omega
  have slot : ∀ j y cs, j < n → (E j).b[y]? = some cs → j ≠ i → ¬ (h0.length + (N i).length ≤ h0.length + (N j).length + y ∧ h0.length + (N j).length + y < h0.length + (N i).length + (E i).b.length) := by
    intro j y cs hj hc hne
    rcases Nat.lt_or_ge j i with hlt | hge
    · have := (N_at S hj hc).2 i hlt (by omega); omega
    · have h1 := (N_pre S j (i := i + 1) (by omega) (by omega)).1
      have h2 : (N (i + 1)).length = (N i).length + (E i).b.length := by rw [N_next S hi]; simp
      omega
  refine ⟨by rw [layL_length hfit]; exact M.hl, fun x o hx => ?_, fun j y cs' hj hc hdn => ?_, fun j y cs' hj hc hdn => ?_⟩
  · obtain ⟨o', g1, g2⟩ := M.h1 x o hx
    have hxl := (List.getElem?_eq_some_iff.1 hx).1
    exact ⟨o', by rw [layL_get hfit, if_neg (by omega)]; exact g1, blk_next g2 hst⟩
  · by_cases e : j = i
    · subst e
      have hy : y < (E j).b.length := (List.getElem?_eq_some_iff.1 hc).1
      rw [layL_get hfit, if_pos ⟨by omega, by omega⟩, show h0.length + (N j).length + y - (h0.length + (N j).length) = y by omega]
      exact hc
    · rw [layL_get hfit, if_neg (slot j y cs' hj hc e)]
      exact M.h2 j y cs' hj hc (by simpa [e] using hdn)
  · have e : j ≠ i := fun e => by simp [e] at hdn
    obtain ⟨g1, g2⟩ := M.h3 j y cs' hj hc (by cases hq : done j with | false => rfl | true => simp [hq] at hdn)
    have hne := slot j y cs' hj hc e
    exact ⟨by rw [layL_get hfit, if_neg hne]; exact g1, by rw [hs _ hne]; exact g2⟩
theorem mh_store (S : HeadSpec P rec ops h0 ops.toList 0 n t0 [] t' l' es T E N) (hmem : memB ops n es = true) {done : Nat → Bool} {h h' : List AO} {s : Ren} (M : MH n h0 E N done h s) {i : Nat} (hi : i < n) (hb : (E i).b = []) {a : Addr} {vs : List Value} (hst : (E i).st = some (a, vs))
    {o0 : AO} (ho0 : h0[a.block]? = some o0) (_hfit : a.off + vs.length ≤ o0.cs.length) (hs : astore h a vs = some h') : MH n h0 E N (fun j => done j || j == i) h' s := by
  obtain ⟨o1, ho1, g1, g2, g3, g4, g5⟩ := M.h1 _ _ ho0
  have hal : a.block < h0.length := (List.getElem?_eq_some_iff.1 ho0).1
  have hah : a.block < h.length := (List.getElem?_eq_some_iff.1 ho1).1
  unfold astore at hs
  rw [ho1] at hs
  simp only at hs
  split at hs
  · rename_i hc
    cases hs
    simp at hc
    have hf1 : a.off + vs.length ≤ o1.cs.length := hc.2
    refine ⟨by simp [M.hl], fun x o hx => ?_, fun j y cs hj hbj hdn => ?_, fun j y cs hj hbj hdn => ?_⟩
    · by_cases ex : a.block = x
      · subst ex
        rw [ho0] at hx
        cases hx
        refine ⟨⟨true, o1.es, splice o1.cs a.off vs⟩, by rw [List.getElem?_set, if_pos rfl, if_pos hah], by rw [← g1]; exact hc.1.1.symm, g2, by simp only [splice_length hf1]; exact g3, fun j b us y hj hsj hdn hbj hy => ?_, fun z hz => ?_⟩
        · simp only
          rw [splice_get hf1]
          by_cases e : j = i
          · subst e
            rw [hst] at hsj
            cases hsj
            rw [if_pos ⟨by omega, by omega⟩]
            congr 1
            omega
          · obtain ⟨oi, hoi, _, _⟩ := op_at S hi
            have hdj := disj_spec ((memB_spec hmem hi (eff_at S hi) hst hj e (eff_at S hj) hoi).1 b us hsj) hbj
            rw [if_neg (by omega)]
            exact g4 j b us y hj hsj (by simpa [e] using hdn) hbj hy
        · simp only
          have hz1 := hz i a vs hi hst (by simp) rfl
          rw [splice_get hf1, if_neg hz1]
          exact g5 z fun j b us hj hsj hdn hbj => hz j b us hj hsj (by simp [hdn]) hbj
      · obtain ⟨o', q1, q2, q3, q4, q5, q6⟩ := M.h1 x o hx
        refine ⟨o', by rw [List.getElem?_set, if_neg ex]; exact q1, q2, q3, q4, fun j b us y hj hsj hdn hbj hy => ?_, fun z hz => q6 z fun j b us hj hsj hdn hbj => hz j b us hj hsj (by simp [hdn]) hbj⟩
        have e : j ≠ i := fun e => by
          subst e
          rw [hst] at hsj
          cases hsj
          exact ex hbj
        exact q5 j b us y hj hsj (by simpa [e] using hdn) hbj hy
    · have e : j ≠ i := fun e => by rw [e, hb] at hbj; simp at hbj
      rw [List.getElem?_set, if_neg (by omega)]
      exact M.h2 j y cs hj hbj (by simpa [e] using hdn)
    · obtain ⟨q1, q2⟩ := M.h3 j y cs hj hbj (by cases hq : done j with | false => rfl | true => simp [hq] at hdn)
      exact ⟨by rw [List.getElem?_set, if_neg (by omega)]; exact q1, q2⟩
  · cases hs
/-- All stores, in the text's order. -/
def storesOf (es : List HE) : List (Addr × List Value) := es.filterMap (·.st)
theorem mt_full (S : HeadSpec P rec ops h0 ops.toList 0 n t0 [] t' l' es T E N) (hd : depsB ops n = true) {done : Nat → Bool} {t : List Value} (M : MT ops n t0 E done t) (hall : ∀ i, i < n → done i = true) : t = t' := by
  obtain ⟨g1, g2, g3⟩ := lex_ok S hd n (Nat.le_refl _)
  rw [S.tn] at g1 g2 g3
  refine List.ext_getElem? fun x => ?_
  by_cases hx : x < t0.length
  · by_cases hw : ∃ i o, i < n ∧ ops[i]? = some o ∧ o.dst = some x
    · obtain ⟨i, o, hi, ho, hdx⟩ := hw
      rw [M.t1 i o x hi ho hdx (hall i hi) hx, g2 i o x hi ho hdx hx]
    · have hn : ∀ j o, j < n → ops[j]? = some o → o.dst ≠ some x := fun j o hj ho e => hw ⟨j, o, hj, ho, e⟩
      rw [M.t2 x fun j o hj ho _ => hn j o hj ho, g3 x hn]
  · rw [List.getElem?_eq_none (by rw [M.tl]; omega), List.getElem?_eq_none (by rw [g1]; omega)]
/-- Two memories behind all of the head are the same. -/
theorem mh_same (S : HeadSpec P rec ops h0 ops.toList 0 n t0 [] t' l' es T E N) {done done' : Nat → Bool} {h h' : List AO} {s s' : Ren} (M : MH n h0 E N done h s) (M' : MH n h0 E N done' h' s') (hall : ∀ i, i < n → done i = true) (hall' : ∀ i, i < n → done' i = true) : h = h' := by
  refine List.ext_getElem? fun x => ?_
  by_cases hx : x < h0.length
  · obtain ⟨o, ho⟩ : ∃ o, h0[x]? = some o := ⟨_, List.getElem?_eq_getElem hx⟩
    obtain ⟨a, a1, a2, a3, a4, a5, a6⟩ := M.h1 x o ho
    obtain ⟨b, b1, b2, b3, b4, b5, b6⟩ := M'.h1 x o ho
    rw [a1, b1]
    obtain ⟨la, ea, ca⟩ := a
    obtain ⟨lb, eb, cb⟩ := b
    simp only at a2 a3 a4 a5 a6 b2 b3 b4 b5 b6
    have hc : ca = cb := by
      refine List.ext_getElem? fun z => ?_
      by_cases hz : ∃ i c vs, i < n ∧ (E i).st = some (c, vs) ∧ c.block = x ∧ c.off ≤ z ∧ z < c.off + vs.length
      · obtain ⟨i, c, vs, hi, hs, hb, g1, g2⟩ := hz
        have := a5 i c vs (z - c.off) hi hs (hall i hi) hb (by omega)
        rw [show c.off + (z - c.off) = z by omega] at this
        have := b5 i c vs (z - c.off) hi hs (hall' i hi) hb (by omega)
        rw [show c.off + (z - c.off) = z by omega] at this
        simp_all
      · rw [a6 z fun i c vs hi hs _ hb hh => hz ⟨i, c, vs, hi, hs, hb, hh⟩, b6 z fun i c vs hi hs _ hb hh => hz ⟨i, c, vs, hi, hs, hb, hh⟩]
    rw [hc, a2, a3, b2, b3]
  · by_cases hx2 : x < h0.length + (N n).length
    · obtain ⟨i, y, cs, hi, hb, hl⟩ := N_sur S n (Nat.le_refl _) (x - h0.length) (by omega)
      have e := M.h2 i y cs hi hb (hall i hi)
      have e' := M'.h2 i y cs hi hb (hall' i hi)
      rw [Nat.add_assoc, hl, show h0.length + (x - h0.length) = x by omega] at e e'
      rw [e, e']
    · rw [List.getElem?_eq_none (by rw [M.hl]; omega), List.getElem?_eq_none (by rw [M'.hl]; omega)]
theorem mt_start : MT ops n t0 E (fun _ => false) t0 := ⟨rfl, fun _ _ _ _ _ _ h => by simp at h, fun _ _ => rfl⟩
theorem mh_start (S : HeadSpec P rec ops h0 ops.toList 0 n t0 [] t' l' es T E N) {s : Ren} (hs : ∀ i, h0.length ≤ i → s i = none) : MH n h0 E N (fun _ => false) (h0 ++ List.replicate (N n).length dead) s := by
  refine ⟨by simp, fun x o hx => ⟨o, by rw [List.getElem?_append_left (List.getElem?_eq_some_iff.1 hx).1]; exact hx, rfl, rfl, rfl, fun _ _ _ _ _ _ h => by simp at h, fun _ _ => rfl⟩, fun _ _ _ _ _ h => by simp at h, fun i y cs hi hb _ => ⟨?_, hs _ (by omega)⟩⟩
  have := (N_at S hi hb).2 n (by omega) (Nat.le_refl _)
  rw [List.getElem?_append_right (by omega), List.getElem?_replicate, if_pos (by omega)]
end
end Go.Proofs.Ytafegjmaldbbiaa.Ex
