/-
  Lemmas for the laws of this seat, part D: Ex19, Ex23, Ex24, Ex25, Ex26, Ex27, SkU, Cr1, Cr2, Cr3, Dk7.
-/
import Derived.Test.YtokeopmmnpmfeaaDoorPackC
section
namespace Go.Proofs.YtokeopmmnpmfeaaDoor.Ex
set_option maxRecDepth 20000

open Go Go.RowKit
set_option linter.unusedVariables false

/-- A value with its blocks told by other numbers. -/
def reV (f : Nat → Nat) : Nat → Value → Value
  | 0, v => v
  | n + 1, v =>
    match v with
    | .pointer (some a) => .pointer (some ⟨f a.block, a.off, a.spot⟩)
    | .slice (some a) l c => .slice (some ⟨f a.block, a.off, a.spot⟩) l c
    | .map (some i) => .map (some (f i))
    | .agg cs => .agg ⟨cs.toList.map (reV f n)⟩
    | .tuple cs => .tuple ⟨cs.toList.map (reV f n)⟩
    | .iface t x => .iface t (reV f n x)
    | .func (.func g) a b => .func (.func g) ⟨a.toList.map (reV f n)⟩ ⟨b.toList.map (reV f n)⟩
    | v => v
theorem LR.unmap {s t : Ren} {g : Value → Value} {ok : Value → Bool} (hg : ∀ {v v' : Value}, VR s (g v) v' → ok v = true → VR t v v') {xs ys : List Value} (h : LR s (xs.map g) ys) (ho : xs.all ok = true) : LR t xs ys := by
  refine ⟨by simpa using h.1, fun i x y hx hy => hg (h.2 i (g x) y (by rw [List.getElem?_map, hx]; rfl) hy) (all_get ho hx)⟩
theorem VR.ren {s t : Ren} {f : Nat → Nat} {ok : Nat → Bool} (hst : ∀ j p, ok j = true → s (f j) = some p → t j = some p) : ∀ (n : Nat) {v v' : Value}, VR s (reV f n v) v' → refF ok n v = true → VR t v v'
  | 0, v, v', h, hr => by
    have hf : flat v = true := flat_of_scal hr
    have h' : VR s v v' := h
    rw [h'.eq_of_flat hf]
    exact .same hf
  | n + 1, v, v', h, hr => by
    have ih := fun {v v' : Value} => VR.ren hst n (v := v) (v' := v')
    have plain : ∀ u : Value, VR s u v' → scal u = true → VR t u v' := fun u hu hs => by
      have hf := flat_of_scal hs
      rw [hu.eq_of_flat hf]
      exact .same hf
    cases v with
    | pointer a =>
      cases a with
      | none => exact plain _ h rfl
      | some a =>
        obtain ⟨p, h1, h2, rfl⟩ := VR.ptr_inv (a := ⟨f a.block, a.off, a.spot⟩) h
        exact VR.ptr (a := a) h1 (hst _ _ hr h2)
    | slice a l c =>
      cases a with
      | none => exact plain _ h rfl
      | some a =>
        obtain ⟨p, c', h1, h2, h3, rfl⟩ := VR.slice_inv (a := ⟨f a.block, a.off, a.spot⟩) h
        exact VR.slice (a := a) h1 (hst _ _ hr h2) h3
    | map i =>
      cases i with
      | none => exact plain _ h rfl
      | some i =>
        obtain ⟨p, h1, rfl⟩ := VR.map_inv (i := f i) h
        exact VR.map (hst _ _ hr h1)
    | agg cs =>
      obtain ⟨xs⟩ := cs
      obtain ⟨ys, rfl, hl⟩ := VR.agg_inv (xs := xs.map (reV f n)) h
      have := hl.unmap ih hr
      exact VR.agg this.1 this.2
    | tuple cs =>
      obtain ⟨xs⟩ := cs
      obtain ⟨ys, rfl, hl⟩ := VR.tuple_inv (xs := xs.map (reV f n)) h
      have := hl.unmap ih hr
      exact VR.tuple this.1 this.2
    | iface t' x =>
      obtain ⟨y, rfl, hv⟩ := VR.iface_inv (x := reV f n x) h
      exact VR.iface (ih hv hr)
    | func g a b =>
      cases g with
      | func g =>
        obtain ⟨xs⟩ := a
        obtain ⟨us⟩ := b
        obtain ⟨ys, vs, rfl, hl, hl'⟩ := VR.func_inv (xs := xs.map (reV f n)) (us := us.map (reV f n)) h
        simp only [refF, Bool.and_eq_true] at hr
        have h1 := hl.unmap ih hr.1
        have h2 := hl'.unmap ih hr.2
        exact VR.func h1.1 h1.2 h2.1 h2.2
      | _ => simp [refF, scal] at hr
    | _ => exact plain _ h hr
def reO (f : Nat → Nat) (o : AO) : AO := ⟨o.live, o.es, o.cs.map (reV f 6)⟩
theorem ObjAt.ren {s t : Ren} {f : Nat → Nat} {ok : Nat → Bool} (hst : ∀ j p, ok j = true → s (f j) = some p → t j = some p) {p : Pl} {o : AO} {w : World} (h : ObjAt s p (reO f o) w) (hb : o.cs.all (refF ok 6) = true) : ObjAt t p o w := by
  refine ⟨fun hm => ?_, fun hm => ?_⟩
  · obtain ⟨cs', h1, h2⟩ := h.1 hm
    have h1 : LR s (o.cs.map (reV f 6)) cs' := h1
    exact ⟨cs', h1.unmap (VR.ren hst 6) hb, h2⟩
  · have B := h.2 hm
    refine ⟨by simpa [reO] using B.fit, B.all, B.shp, fun g1 g2 g3 g4 g5 => B.free g1 g2 g3 g4 (by simpa [reO] using g5), fun x v hv => ?_⟩
    obtain ⟨v', h1, h2⟩ := B.rel x (reV f 6 v) (by simp only [reO, List.getElem?_map, hv, Option.map_some])
    exact ⟨v', h1, h2.ren hst 6 (all_get hb hv)⟩
/-- Blocks told by other numbers, others given up. -/
theorem HR.renum {wb : Wb} {k : Nat} {s : Ren} {h1 : List AO} {w : World} (H : HR wb k s h1 w) {f : Nat → Nat} {q : Nat} {h2 : List AO} (hkq : k ≤ q) (hq : q ≤ h2.length) (hid : ∀ j, j < q → f j = j) (hge : ∀ j, q ≤ j → j < h2.length → q ≤ f j)
    (hinj : ∀ i j, i < h2.length → j < h2.length → f i = f j → i = j) (ho : ∀ j o, h2[j]? = some o → h1[f j]? = some (reO f o)) (hl : ∀ j o, h2[j]? = some o → q ≤ j → o.live = true ∧ o.es ≠ some GM)
    (hr : h2.all (refO fun x => decide (x < h2.length)) = true) : HR wb k (fun j => if j < h2.length then s (f j) else none) h2 w := by
  have hst : ∀ j p, (fun x => decide (x < h2.length)) j = true → s (f j) = some p → (fun j => if j < h2.length then s (f j) else none) j = some p := by
    intro j p hj hs
    simp only [decide_eq_true_eq] at hj
    simp only [if_pos hj]
    exact hs
  have at' : ∀ i p, (if i < h2.length then s (f i) else none) = some p → i < h2.length ∧ s (f i) = some p := by
    intro i p hp
    split at hp
    · rename_i hi; exact ⟨hi, hp⟩
    · cases hp
  refine ⟨H.grown, by omega, fun i hi => if_neg (by omega), fun i p hp => ?_, fun i o hi hv => ?_, fun i j a b p q' hi hj ha hb hp hq' e => ?_, fun g p hp hg => ?_⟩
  · obtain ⟨hi, hs⟩ := at' i p hp
    obtain ⟨c1, c2, c3⟩ := H.plc _ p hs
    by_cases hiq : i < q
    · rw [hid i hiq] at c1 c2
      exact ⟨c1, c2, c3⟩
    · exact ⟨fun hlt => absurd hlt (by omega), fun _ => c2 (by have := hge i (by omega) hi; omega), c3⟩
  · have hlt := (List.getElem?_eq_some_iff.1 hi).1
    obtain ⟨p, hp, he, hob⟩ := H.obj _ _ (ho i o hi) hv
    have hro := all_get' hr hi hv
    exact ⟨p, by rw [if_pos hlt]; exact hp, he, hob.ren hst hro⟩
  · have hlt := (List.getElem?_eq_some_iff.1 hi).1
    have hlt2 := (List.getElem?_eq_some_iff.1 hj).1
    rw [if_pos hlt] at hp
    rw [if_pos hlt2] at hq'
    exact hinj i j hlt hlt2 (H.sep _ _ _ _ p q' (ho i a hi) (ho j b hj) ha hb hp hq' e)
  · obtain ⟨hi, hs⟩ := at' g p hp
    by_cases hgq : g < q
    · rw [hid g hgq] at hs
      exact H.gl g p hs hg
    · have hx := List.getElem?_eq_getElem hi
      obtain ⟨h3, h4⟩ := hl g _ hx (by omega)
      obtain ⟨p', hp', he, _⟩ := H.obj _ _ (ho g _ hx) h3
      rw [hs] at hp'
      cases hp'
      exact absurd (he.symm.trans hg) h4
where
  all_get' {h2 : List AO} {ok : Nat → Bool} (hr : h2.all (refO ok) = true) {i : Nat} {o : AO} (hi : h2[i]? = some o) (hv : o.live = true) : o.cs.all (refF ok 6) = true := by
    have := List.all_eq_true.1 hr o (List.mem_of_getElem? hi)
    simpa [refO, hv] using this
/-- The first blocks keep their numbers; behind them stand those that are named. -/
def keepF (q : Nat) (keep : List Nat) (j : Nat) : Nat := bif Nat.blt j q then j else keep.getD (j - q) 0
def upB (q : Nat) : Nat → List Nat → Bool
  | _, [] => true
  | n, x :: l => Nat.ble n x && upB q (x + 1) l
theorem upB_spec {q : Nat} : ∀ {n : Nat} {l : List Nat}, upB q n l = true → (∀ (i x : Nat), l[i]? = some x → n ≤ x) ∧ ∀ (i j x : Nat), l[i]? = some x → l[j]? = some x → i = j
  | n, [], _ => ⟨fun i x h => by simp at h, fun i j x h => by simp at h⟩
  | n, y :: l, h => by
    simp only [upB, Bool.and_eq_true] at h
    obtain ⟨h1, h2⟩ := upB_spec h.2
    have hy := Nat.le_of_ble_eq_true h.1
    refine ⟨fun i x hx => ?_, fun i j x hx hj => ?_⟩
    · cases i with
      | zero => simp at hx; omega
      | succ i => have := h1 i x (by simpa using hx); omega
    · cases i with
      | zero =>
        cases j with
        | zero => rfl
        | succ j => simp at hx; subst hx; have := h1 j y (by simpa using hj); omega
      | succ i =>
        cases j with
        | zero => simp at hj; subst hj; have := h1 i y (by simpa using hx); omega
        | succ j => rw [h2 i j x (by simpa using hx) (by simpa using hj)]
def aliveB (o : AO) : Bool := o.live && (match o.es with | some e => !(Nat.beq e GM) | none => true)
/-- So many rounds lead from a state to another one; of the blocks the first ones keep their numbers. -/
def HopQ (P : Program) (c : Code) (n q : Nat) (t : List Value) (h : List AO) (t' : List Value) (h' : List AO) (mE : Mk) : Prop :=
  ∀ (wb : Wb) (k : Nat), Bnd k mE → k ≤ q → ∀ (s : Ren) (m : Mk) (a : Act) (w : World), SR wb k s ⟨t, h, m⟩ a w → ∀ (N : Nat) (Q : Exit → Act → World → Prop),
    (∀ s' a' w', (∀ i p, i < q → s i = some p → s' i = some p) → SR wb k s' ⟨t', h', m⟩ a' w' → Code.rounds P c Q N a' w') → Code.rounds P c Q (n + N) a w
/-- A state behind a run, with the blocks that are kept. -/
def keepS (q : Nat) (keep : List Nat) (x : St) : Option (List Value × List AO × Option Nat × List Int) :=
  if Nat.ble q x.h.length && (upB q q keep && keep.all fun i => aliveB (x.h.getD i dead)) then some (x.t, x.h.take q ++ keep.map fun i => x.h.getD i dead, x.m.1, inter x.m.2) else none
def hopC (t : List Value) (h : List AO) : Bool := t.all (refF (fun x => decide (x < h.length)) 6) && h.all (refO fun x => decide (x < h.length))
theorem keepS_ok {q : Nat} {keep : List Nat} {x : St} {t2 : List Value} {h2 : List AO} {lo : Option Nat} {cs : Cs} (hr : keepS q keep x = some (t2.map (reV (keepF q keep) 6), h2.map (reO (keepF q keep)), lo, inter cs)) (hb : hopC t2 h2 = true) :
    x.m = (lo, cs) ∧ ∀ (wb : Wb) (k : Nat) (s : Ren) (m : Mk) (a : Act) (w : World), k ≤ q → SR wb k s x a w → ∃ s', (∀ i p, i < q → s i = some p → s' i = some p) ∧ SR wb k s' ⟨t2, h2, m⟩ a w := by
  unfold keepS at hr
  split at hr
  · rename_i hcond
    simp only [Option.some.injEq, Prod.mk.injEq] at hr
    obtain ⟨ht, hh, hlo, hin⟩ := hr
    have hcs := inter_inj hin
    simp only [Bool.and_eq_true] at hcond
    obtain ⟨g2, g3, g4⟩ := hcond
    have g2 := Nat.le_of_ble_eq_true g2
    obtain ⟨u1, u2⟩ := upB_spec g3
    simp only [hopC, Bool.and_eq_true] at hb
    have hlen : h2.length = q + keep.length := by
      have := congrArg List.length hh
      simp only [List.length_append, List.length_take, List.length_map] at this
      omega
    have hlt : ∀ j, j < q → keepF q keep j = j := by
      intro j hj
      have : Nat.blt j q = true := by simpa [Nat.blt_eq] using hj
      simp [keepF, this]
    have hgt : ∀ j, q ≤ j → keepF q keep j = keep.getD (j - q) 0 := by
      intro j hj
      have : Nat.blt j q = false := by
        cases hb : Nat.blt j q with
        | false => rfl
        | true => rw [Nat.blt_eq] at hb; omega
      simp [keepF, this]
    have hkl : ∀ (i y : Nat), keep[i]? = some y → y < x.h.length := by
      intro i y hy
      by_cases hlt : y < x.h.length
      · exact hlt
      · have := List.all_eq_true.1 g4 y (List.mem_of_getElem? hy)
        rw [List.getD_eq_getElem?_getD, List.getElem?_eq_none (by omega)] at this
        simp [aliveB, dead] at this
    have hkeep : ∀ j, q ≤ j → j < h2.length → ∃ y, keep[j - q]? = some y ∧ keepF q keep j = y := by
      intro j h1 h3
      have hj : j - q < keep.length := by omega
      exact ⟨keep[j - q], List.getElem?_eq_getElem hj, by rw [hgt j h1, List.getD_eq_getElem?_getD, List.getElem?_eq_getElem hj]; rfl⟩
    have hat : ∀ j o, h2[j]? = some o → x.h[keepF q keep j]? = some (reO (keepF q keep) o) := by
      intro j o ho
      have hj := (List.getElem?_eq_some_iff.1 ho).1
      have e : (x.h.take q ++ keep.map fun i => x.h.getD i dead)[j]? = some (reO (keepF q keep) o) := by
        rw [hh, List.getElem?_map, ho]; rfl
      by_cases hjq : j < q
      · rw [hlt j hjq]
        rw [List.getElem?_append_left (by rw [List.length_take]; omega), List.getElem?_take, if_pos hjq] at e
        exact e
      · obtain ⟨y, hy, hfy⟩ := hkeep j (by omega) hj
        rw [hfy]
        rw [List.getElem?_append_right (by rw [List.length_take]; omega), List.length_take, Nat.min_eq_left g2, List.getElem?_map, hy] at e
        simp only [Option.map_some, Option.some.injEq] at e
        have hyl := hkl _ _ hy
        rw [List.getElem?_eq_getElem hyl, ← e, List.getD_eq_getElem?_getD, List.getElem?_eq_getElem hyl]
        rfl
    refine ⟨by rw [← hlo, ← hcs], fun wb k s m a w hkq H' => ?_⟩
    have HH := H'.h.renum (f := keepF q keep) (q := q) (h2 := h2) hkq (by omega) hlt
      (fun j h1 h3 => by
        obtain ⟨y, hy, hfy⟩ := hkeep j h1 h3
        rw [hfy]; exact u1 _ _ hy)
      (fun i j hi hj e => by
        by_cases h1 : i < q
        · rw [hlt i h1] at e
          by_cases h3 : j < q
          · rw [hlt j h3] at e; exact e
          · obtain ⟨y, hy, hfy⟩ := hkeep j (by omega) hj
            have := u1 _ _ hy
            omega
        · obtain ⟨y, hy, hfy⟩ := hkeep i (by omega) hi
          by_cases h3 : j < q
          · rw [hlt j h3] at e
            have := u1 _ _ hy
            omega
          · obtain ⟨z, hz, hfz⟩ := hkeep j (by omega) hj
            rw [hfy, hfz] at e
            subst e
            have := u2 _ _ _ hy hz
            omega) hat
      (fun j o ho hjq => by
        have hj := (List.getElem?_eq_some_iff.1 ho).1
        obtain ⟨y, hy, hfy⟩ := hkeep j hjq hj
        have e := hat j o ho
        rw [hfy] at e
        have hl := List.all_eq_true.1 g4 y (List.mem_of_getElem? hy)
        rw [List.getD_eq_getElem?_getD, e] at hl
        simp only [Option.getD_some, aliveB, reO, Bool.and_eq_true] at hl
        refine ⟨hl.1, fun hg => ?_⟩
        rw [hg] at hl
        simp [Nat.beq_refl] at hl) hb.2
    refine ⟨_, fun i p hi hp => ?_, ⟨?_, H'.d, HH⟩⟩
    · show (if i < h2.length then s (keepF q keep i) else none) = some p
      rw [if_pos (by omega), hlt i hi]
      exact hp
    · have h5 : LR s (t2.map (reV (keepF q keep) 6)) a.tmps.toList := by
        have := H'.t
        rw [ht] at this
        exact this
      refine h5.unmap (VR.ren (ok := fun y => decide (y < h2.length)) (fun j p hj hs => ?_) 6) hb.1
      simp only [decide_eq_true_eq] at hj
      show (if j < h2.length then s (keepF q keep j) else none) = some p
      rw [if_pos hj]
      exact hs
  · cases hr
section
variable {P : Program} {c : Code}
theorem HopQ.zero (q : Nat) (t : List Value) (h : List AO) (m : Mk) : HopQ P c 0 q t h t h m := by
  intro wb k hm hkq s m a w H N Q hQ
  rw [Nat.zero_add]
  exact hQ s a w (fun _ _ _ h => h) H
theorem HopQ.trans {n N q : Nat} {t t1 t2 : List Value} {h h1 h2 : List AO} {m1 m2 m3 : Mk} (a : HopQ P c n q t h t1 h1 m1) (b : HopQ P c N q t1 h1 t2 h2 m2) (hm1 : ∀ k, k ≤ q → Bnd k m3 → Bnd k m1) (hm2 : ∀ k, k ≤ q → Bnd k m3 → Bnd k m2) : HopQ P c (n + N) q t h t2 h2 m3 := by
  intro wb k hm hkq s m act w H M Q hQ
  rw [Nat.add_assoc]
  exact a wb k (hm1 k hkq hm) hkq s m act w H (N + M) Q fun s' a' w' hle H' => b wb k (hm2 k hkq hm) hkq s' m a' w' H' M Q fun s'' a'' w'' hle' H'' => hQ s'' a'' w'' (fun i p hi hp => hle' i p hi (hle i p hi hp)) H''
/-- Within so many rounds the loop ends, of the blocks the first ones keep their numbers. -/
def StopQ (P : Program) (c : Code) (n q : Nat) (t : List Value) (h : List AO) (e : Exit) (t' : List Value) (h' : List AO) (mE : Mk) : Prop :=
  ∀ (wb : Wb) (k : Nat), Bnd k mE → k ≤ q → ∀ (s : Ren) (m : Mk) (a : Act) (w : World), SR wb k s ⟨t, h, m⟩ a w → ∀ (m' : Mk), Code.rounds P c (fun e' a' w' => e' = e ∧ ∃ s', (∀ i p, i < q → s i = some p → s' i = some p) ∧ SR wb k s' ⟨t', h', m'⟩ a' w') n a w
theorem rounds_mono {A B : Exit → Act → World → Prop} (h : ∀ e a w, A e a w → B e a w) : ∀ (n : Nat) (a : Act) (w : World), Code.rounds P c A n a w → Code.rounds P c B n a w := by
  intro n
  induction n with
  | zero => intro a w h; exact h
  | succ n ih =>
    intro a w h0
    rw [rounds_succ] at h0 ⊢
    refine Code.wp_mono (fun e' a' w' hp => ?_) h0
    cases e' <;> first | exact ih _ _ hp | exact h _ _ _ hp
theorem HopQ.stop {n N q : Nat} {t t1 t2 : List Value} {h h1 h2 : List AO} {e : Exit} {m1 m2 m3 : Mk} (a : HopQ P c n q t h t1 h1 m1) (b : StopQ P c N q t1 h1 e t2 h2 m2) (hm1 : ∀ k, k ≤ q → Bnd k m3 → Bnd k m1) (hm2 : ∀ k, k ≤ q → Bnd k m3 → Bnd k m2) : StopQ P c (n + N) q t h e t2 h2 m3 := by
  intro wb k hm hkq s m act w H m'
  refine a wb k (hm1 k hkq hm) hkq s m act w H N _ fun s' a' w' hle H' => ?_
  exact rounds_mono (fun e' a'' w'' hp => ⟨hp.1, let ⟨s'', h3, h4⟩ := hp.2; ⟨s'', fun i p hi hq => h3 i p hi (hle i p hi hq), h4⟩⟩) N a' w' (b wb k (hm2 k hkq hm) hkq s' m a' w' H' m')
theorem StopQ.stop {n q : Nat} {t t2 : List Value} {h h2 : List AO} {e : Exit} {m : Mk} (a : StopQ P c n q t h e t2 h2 m) (hq : h.length = q) : Stop P c n t h e t2 h2 m := by
  intro wb k hm s m0 act w H m'
  have hkq : k ≤ q := by have : k ≤ h.length := H.h.kle; omega
  refine rounds_mono (fun e' a'' w'' hp => ⟨hp.1, let ⟨s'', h3, h4⟩ := hp.2; ⟨s'', fun i p hi => ?_, h4⟩⟩) n act w (a wb k hm hkq s m0 act w H m')
  have hlt : i < q := by
    rcases Nat.lt_or_ge i q with h1 | h1
    · exact h1
    · have e1 : s i = none := H.h.dom i (by show h.length ≤ i; omega)
      rw [e1] at hi; cases hi
  exact h3 i p hlt hi
end
def loB (q : Nat) (lo lo3 : Option Nat) : Bool :=
  match lo with
  | none => true
  | some i => Nat.ble q i || (match lo3 with | some j => Nat.ble j i | none => false)
theorem bndW {q : Nat} {lo lo3 : Option Nat} (h : loB q lo lo3 = true) : ∀ k, k ≤ q → Bnd k (lo3, []) → Bnd k (lo, []) := by
  intro k hk hm
  refine ⟨fun i hi => ?_, fun c hc => by cases hc⟩
  simp only at hi
  subst hi
  simp only [loB, Bool.or_eq_true] at h
  rcases h with h | h
  · have := Nat.le_of_ble_eq_true h
    omega
  · cases lo3 with
    | none => cases h
    | some j =>
      have h1 := Nat.le_of_ble_eq_true h
      have h2 := hm.1 j rfl
      omega
/-! Patterns: a number that is not known stands as a hole. -/
def holeOf : Value → Option (Nat × IntKind)
  | .tuple vs =>
    match vs.toList with
    | [.chan (some j), .int k _] => some (j, k)
    | _ => none
  | _ => none
def inst (ρ : Nat → Int) : Nat → Value → Value
  | 0, v => v
  | n + 1, p =>
    match holeOf p with
    | some (j, k) => .int k (ρ j)
    | none =>
      match p with
      | .agg a => .agg ⟨a.toList.map (inst ρ n)⟩
      | .tuple a => .tuple ⟨a.toList.map (inst ρ n)⟩
      | x => x
def instO (ρ : Nat → Int) (o : AO) : AO := ⟨o.live, o.es, o.cs.map (inst ρ 4)⟩
/-- A loop, from a state of a pattern on to its end. -/
structure LoopP where
  f : FuncId
  t : List Value
  h : List AO
  e : Exit
  t' : (Nat → Int) → List Value
  h' : (Nat → Int) → List AO
  lo : Option Nat
  cond : (Nat → Int) → Cs
def LoopP.at (e : LoopP) (ρ : Nat → Int) : LoopT := ⟨e.f, e.t.map (inst ρ 4), e.h.map (instO ρ), e.e, e.t' ρ, e.h' ρ, (e.lo, [])⟩
/-- A run that reads a package's variables, with loops that are told. -/
noncomputable def reckonPI (P : Program) (hk : Hook3) (orc : Orc) (lh : LoopHook) (L f : Nat) (h0 : List AO) (g : FuncId) (args : List Value) : Option (Value × List Int) :=
  match callA P ⟨exG P (aOp P) (drawE P) hk orc accQ lh L f, hk, fun _ _ => none, accQ⟩ g args h0 with
  | some (v, _, m) => if quietB h0.length m.1 then some (v, inter m.2) else none
  | none => none
theorem reckonP_ok {P : Program} (hng : NoNG P) {hk : Hook3} (hhk : HookOk3 P hk) {lh : LoopHook} (hll : LoopLow lh) (hlo : LoopsOk P lh) (orc : Orc) (L f : Nat) (h0 : List AO) {g : FuncId} {args : List Value} {v : Value} {cs : Cs} (ha : args.all flat = true) (hv : flat v = true) (h : reckonPI P hk orc lh L f h0 g args = some (v, inter cs))
    (he : ∀ c ∈ cs, c.1 = c.2) (w : World) (hL : Laid h0 w) : Calls P g ⟨args⟩ w fun e w' => e = .returned v ∧ Gr w w' := by
  unfold reckonPI at h
  split at h
  · rename_i v' h' m hr
    split at h
    · rename_i hq
      simp only [Option.some.injEq, Prod.mk.injEq] at h
      obtain ⟨rfl, h2⟩ := h
      have h3 := inter_inj h2
      refine (callA_ok (exG_ok accQ_eq hng (aOp_ok P hng) (drawE_ok P) (drawE_low P) hhk hll hlo L f _) hr (wb := w) (k := h0.length) (s := placeG h0 w) ⟨quietB_ok hq, by rw [h3]; exact he⟩ (LR.ofFlat ha) (HR.start hL)).mono ?_
      rintro e w' ⟨s', u, rfl, _, H, hvr⟩
      rw [hvr.eq_of_flat hv]
      exact ⟨rfl, H.grown.gr⟩
    · cases h
  · cases h
end Go.Proofs.YtokeopmmnpmfeaaDoor.Ex
end
section
namespace Go.Proofs.YtokeopmmnpmfeaaDoor.Ex
set_option maxRecDepth 20000

open Go Go.RowKit
set_option linter.unusedVariables false
/-- A proposition as a pair: it must hold. -/
noncomputable def prP (p : Prop) : Int × Int := (b2i (@decide p (Classical.propDecidable p)), 1)
theorem prP_of {p : Prop} (h : (prP p).1 = (prP p).2) : p := by
  have h1 : @decide p (Classical.propDecidable p) = true := b2i_inj (b := true) h
  exact @of_decide_eq_true p (Classical.propDecidable p) h1
theorem prP_ok {p : Prop} (h : p) : (prP p).1 = (prP p).2 := by
  have h1 : @decide p (Classical.propDecidable p) = true := @decide_eq_true p (Classical.propDecidable p) h
  unfold prP
  rw [h1]
  rfl
/-- How many loops stand in a piece of code. -/
def nIn (c : Code) : Nat := (loopsIn c).length
/-- The number of the first region in a piece of code. -/
def regC : Code → Option Nat
  | .region i _ _ => some i
  | .seq a b => match regC a with | some i => some i | none => regC b
  | .cond _ a b => match regC a with | some i => some i | none => regC b
  | .block _ c => regC c
  | .loop c => regC c
  | .scope c => regC c
  | _ => none
/-- Is a loop the one that is named: by how many loops stand in it; from 1000 on by its first region. -/
def isN (c : Code) (n : Nat) : Bool := bif Nat.ble 1000 n then (match regC c with | some i => Nat.beq i (n - 1000) | none => false) else Nat.beq (nIn c) n
theorem loopsIn_trans : ∀ {b c c' : Code}, c ∈ loopsIn b → c' ∈ loopsIn c → c' ∈ loopsIn b := by
  intro b
  induction b with
  | seq x y hx hy => intro c c' h h'; simp only [loopsIn, List.mem_append] at h ⊢; exact h.imp (hx · h') (hy · h')
  | cond g x y hx hy => intro c c' h h'; simp only [loopsIn, List.mem_append] at h ⊢; exact h.imp (hx · h') (hy · h')
  | block i x hx => intro c c' h h'; simp only [loopsIn] at h ⊢; exact hx h h'
  | loop x hx =>
    intro c c' h h'
    simp only [loopsIn, List.mem_cons] at h ⊢
    rcases h with rfl | h
    · exact .inr h'
    · exact .inr (hx h h')
  | scope x hx => intro c c' h h'; simp only [loopsIn] at h ⊢; exact hx h h'
  | _ => intro c c' h h'; simp [loopsIn] at h
/-- A loop, from a state on to its end: the one of its function in which so many loops stand. -/
structure LoopQ where
  f : FuncId
  n : Nat
  sel : St → Bool
  t : List Value
  h : List AO
  e : Exit
  t' : List Value
  h' : List AO
  m : Mk
noncomputable def loopQHook : List LoopQ → LoopHook
  | [] => fun _ _ _ => none
  | e :: l => fun fid c x =>
    if Nat.beq fid e.f && (isN c e.n && e.sel x) then some (e.e, ⟨e.t', e.h', low x.m (low (none, [prP (x.t = e.t), prP (x.h = e.h)]) e.m)⟩)
    else loopQHook l fid c x
def LoopQOk (P : Program) (e : LoopQ) : Prop := ∀ (fn : Func) (c : Code), P.funcs[e.f]? = some fn → fn.body = some c → ∀ c' ∈ loopsIn c, isN c' e.n = true →
  ∀ (wb : Wb) (k : Nat), Bnd k e.m → ∀ (s : Ren) (m m' : Mk) (a : Act) (w : World), SR wb k s ⟨e.t, e.h, m⟩ a w → (Code.loop c').wp P (Post wb k s ⟨e.t', e.h', m'⟩ e.e) a w
theorem loopQHook_low : ∀ (l : List LoopQ), LoopLow (loopQHook l)
  | [] => by intro f c x x' e h; cases h
  | q :: l => by
    intro f c x x' e h k hm
    unfold loopQHook at h
    split at h
    · cases h
      exact (bnd_low hm).1
    · exact loopQHook_low l f c x x' e h k hm
theorem loopQHook_ok {P : Program} : ∀ {l : List LoopQ}, (∀ e ∈ l, LoopQOk P e) → LoopsOk P (loopQHook l)
  | [], _ => by intro f fn c _ _ c' _ x x' e h; cases h
  | q :: l, hq => by
    intro f fn c hf hb c' hc x x' e h wb k s a w hm H
    unfold loopQHook at h
    split at h
    · rename_i hi
      cases h
      simp only [Bool.and_eq_true] at hi
      obtain ⟨h1, h2, h3⟩ := hi
      obtain rfl := Nat.eq_of_beq_eq_true h1
      obtain ⟨xt, xh, xm⟩ := x
      obtain ⟨hm1, hm2⟩ := bnd_low hm
      obtain ⟨hm3, hm4⟩ := bnd_low hm2
      have e1 : xt = q.t := prP_of (hm3.2 _ List.mem_cons_self)
      have e2 : xh = q.h := prP_of (hm3.2 _ (List.mem_cons_of_mem _ List.mem_cons_self))
      subst e1 e2
      exact hq q List.mem_cons_self fn c hf hb c' hc h2 wb k hm4 s xm _ a w H
    · exact loopQHook_ok (fun e he => hq e (List.mem_cons_of_mem _ he)) f fn c hf hb c' hc x x' e h wb k s a w hm H
/-- The loop of a function in which so many loops stand. -/
def loopsN (P : Program) (f : FuncId) (n : Nat) : List Code :=
  match P.funcs[f]? with
  | some fn =>
    match fn.body with
    | some c => (loopsIn c).filter fun c' => isN c' n
    | none => []
  | none => []
def theLoopN (P : Program) (f : FuncId) (n : Nat) : Code :=
  match loopsN P f n with
  | [c'] => c'
  | _ => .skip
def oneLoopN (P : Program) (f : FuncId) (n : Nat) : Bool :=
  match loopsN P f n with
  | [_] => true
  | _ => false
section
variable {P : Program}
theorem loopQ_ok {e : LoopQ} {N : Nat} (h1 : oneLoopN P e.f e.n = true) (hs : Stop P (theLoopN P e.f e.n) N e.t e.h e.e e.t' e.h' e.m) : LoopQOk P e := by
  intro fn c hf hb c' hc hn wb k hm s m m' a w H
  unfold oneLoopN at h1
  unfold theLoopN at hs
  have hmem : c' ∈ loopsN P e.f e.n := by
    unfold loopsN
    rw [hf]
    simp only [hb]
    exact List.mem_filter.2 ⟨hc, hn⟩
  split at h1
  · rename_i c0 hl
    rw [hl] at hmem hs
    rw [List.mem_singleton.1 hmem]
    exact wp_loop_rounds N (hs wb k hm s m a w H m')
  · cases h1
theorem loopV_of {lh : LoopHook} (hlo : LoopsOk P lh) {f : FuncId} {n : Nat} (h1 : oneLoopN P f n = true) : ∀ c' ∈ loopsIn (theLoopN P f n), LoopV P lh f c' := by
  unfold oneLoopN at h1
  unfold theLoopN
  split at h1
  · rename_i c0 hl
    intro c' hc
    have hmem : c0 ∈ loopsN P f n := by rw [hl]; exact List.mem_singleton.2 rfl
    unfold loopsN at hmem
    split at hmem
    · rename_i fn hf
      split at hmem
      · rename_i b hb
        exact hlo f fn b hf hb c' (loopsIn_trans (List.mem_filter.1 hmem).1 hc)
      · cases hmem
    · cases hmem
  · cases h1
noncomputable def bodyL (P : Program) (hk : Hook3) (orc : Orc) (lh : LoopHook) (fid : FuncId) (c : Code) : St → Option (Exit × St) := exG P (aOp P) (drawE P) hk orc accQ lh 100000 300 fid c
theorem bodyL_ok (hng : NoNG P) {hk : Hook3} (hhk : HookOk3 P hk) {lh : LoopHook} (hll : LoopLow lh) (hlo : LoopsOk P lh) (orc : Orc) (fid : FuncId) (c : Code) (hv : ∀ c' ∈ loopsIn c, LoopV P lh fid c') (wb : Wb) (k : Nat) (s : Ren) (x x' : St) (e : Exit) (a : Act) (w : World) (h : bodyL P hk orc lh fid c x = some (e, x')) (hm : Bnd k x'.m) (H : SR wb k s x a w) : c.wp P (Post wb k s x' e) a w :=
  exG_run accQ_eq hng (aOp_ok P hng) (drawE_ok P) (drawE_low P) hhk hll hlo 100000 300 wb k s fid c x x' e a w hv h hm H
theorem bodyL_low {hk : Hook3} (orc : Orc) {lh : LoopHook} (hll : LoopLow lh) (fid : FuncId) (c : Code) (k : Nat) (x x' : St) (e : Exit) (h : bodyL P hk orc lh fid c x = some (e, x')) (hm : Bnd k x'.m) : Bnd k x.m :=
  exG_low (drawE_low P) hll 100000 k 300 fid c x x' e h hm
noncomputable def hopRunL (P : Program) (hk : Hook3) (orc : Orc) (lh : LoopHook) (fid : FuncId) (c : Code) (n q : Nat) (keep : List Nat) (t : List Value) (h : List AO) : Option (List Value × List AO × Option Nat × List Int) :=
  match iterB (bodyL P hk orc lh fid c) n ⟨t, h, (none, [])⟩ with
  | some x => keepS q keep x
  | none => none
theorem hopL_ok (hng : NoNG P) {hk : Hook3} (hhk : HookOk3 P hk) {lh : LoopHook} (hll : LoopLow lh) (hlo : LoopsOk P lh) {orc : Orc} {fid : FuncId} {nn : Nat} (h1 : oneLoopN P fid nn = true) {n q : Nat} (keep : List Nat) {t t2 : List Value} {h h2 : List AO} {lo : Option Nat} {cs : Cs}
    (hr : hopRunL P hk orc lh fid (theLoopN P fid nn) n q keep t h = some (t2.map (reV (keepF q keep) 6), h2.map (reO (keepF q keep)), lo, inter cs)) (hb : hopC t2 h2 = true) (hc : ∀ c ∈ cs, c.1 = c.2) : HopQ P (theLoopN P fid nn) n q t h t2 h2 (lo, []) := by
  unfold hopRunL at hr
  split at hr
  · rename_i x hx
    obtain ⟨hm2, hk2⟩ := keepS_ok hr hb
    intro wb k hm hkq s m a w H N Q hQ
    refine iterB_ok (bodyL_ok hng hhk hll hlo orc fid _ (loopV_of hlo h1)) wb k (bodyL_low orc hll fid _ k) n ⟨t, h, (none, [])⟩ x hx (by rw [hm2]; exact ⟨hm.1, hc⟩) s a w ⟨H.t, H.d, H.h⟩ N Q fun s' a' w' hle H' => ?_
    obtain ⟨s2, h1, h3⟩ := hk2 wb k s' m a' w' hkq H'
    exact hQ s2 a' w' (fun i p hi hp => h1 i p hi (hle i p hp)) h3
  · cases hr
theorem stopL_any {body : St → Option (Exit × St)} {c : Code}
    (hb : ∀ (wb : Wb) (k : Nat) (s : Ren) (x x' : St) (e : Exit) (a : Act) (w : World), body x = some (e, x') → Bnd k x'.m → SR wb k s x a w → c.wp P (Post wb k s x' e) a w)
    (hl : ∀ (k : Nat) (x x' : St) (e : Exit), body x = some (e, x') → Bnd k x'.m → Bnd k x.m) {n : Nat} {t t' : List Value} {h h' : List AO} {e : Exit} {mE : Mk} (hr : loopN body n ⟨t, h, (none, [])⟩ = some (e, ⟨t', h', mE⟩)) : Stop P c n t h e t' h' mE := by
  intro wb k hm s m a w H m'
  have h1 := loopN_ok hb wb k (hl k) n ⟨t, h, (none, [])⟩ ⟨t', h', mE⟩ e hr hm s a w ⟨H.t, H.d, H.h⟩
  have mono : ∀ (n : Nat) (a : Act) (w : World), Code.rounds P c (Post wb k s ⟨t', h', mE⟩ e) n a w → Code.rounds P c (Post wb k s ⟨t', h', m'⟩ e) n a w := by
    intro n
    induction n with
    | zero => intro a w h; exact h
    | succ n ih =>
      intro a w h0
      rw [rounds_succ] at h0 ⊢
      refine Code.wp_mono (fun e' a' w' hp => ?_) h0
      cases e' <;> first | exact ih _ _ hp | exact ⟨hp.1, let ⟨s', h1, h2⟩ := hp.2; ⟨s', h1, ⟨h2.t, h2.d, h2.h⟩⟩⟩
  exact mono n a w h1
end
end Go.Proofs.YtokeopmmnpmfeaaDoor.Ex
end
section
namespace Go.Proofs.YtokeopmmnpmfeaaDoor.Ex
set_option maxRecDepth 20000

open Go Go.RowKit
set_option linter.unusedVariables false
def unmask (β : Nat → Value) : Nat → List Bool → List Value → List Value
  | i, d :: ds, v :: vs => (bif d then β i else v) :: unmask β (i + 1) ds vs
  | _, _, vs => vs
theorem unmask_all {β : Nat → Value} {p : Value → Bool} (hβ : ∀ k, p (β k) = true) : ∀ {i : Nat} {ds : List Bool} {ts : List Value}, ts.all p = true → (unmask β i ds ts).all p = true
  | i, [], ts, h => by cases ts <;> exact h
  | i, d :: ds, [], h => h
  | i, d :: ds, v :: vs, h => by
    simp only [List.all_cons, Bool.and_eq_true] at h
    simp only [unmask, List.all_cons, Bool.and_eq_true]
    refine ⟨?_, unmask_all hβ h.2⟩
    cases d
    · exact h.1
    · exact hβ i
def deadAt (ds : List Bool) (ts : List Value) : Bool :=
  match ds, ts with
  | d :: ds, t :: ts => (!d || (match t with | .bool true => true | _ => false)) && deadAt ds ts
  | _, _ => true
theorem deadAt_ok : ∀ {ds : List Bool} {ts : List Value}, deadAt ds ts = true → ∀ (j : Nat), ds[j]? = some true → ∀ t, ts[j]? = some t → t = .bool true
  | [], ts, _, j, hj, _, _ => by simp at hj
  | d :: ds, [], _, j, _, t, ht => by simp at ht
  | d :: ds, v :: ts, h, 0, hj, t, ht => by
    simp only [List.getElem?_cons_zero, Option.some.injEq] at hj ht
    subst hj ht
    simp only [deadAt, Bool.and_eq_true, Bool.not_true, Bool.false_or] at h
    have h1 := h.1
    split at h1
    · rfl
    · cases h1
  | d :: ds, v :: ts, h, j + 1, hj, t, ht => by
    simp only [deadAt, Bool.and_eq_true] at h
    exact deadAt_ok h.2 j (by simpa using hj) t (by simpa using ht)
section
variable {P : Program}
theorem map_id_mem {g : Value → Value} : ∀ {l : List Value}, (∀ v ∈ l, g v = v) → l.map g = l
  | [], _ => rfl
  | x :: l, h => by rw [List.map_cons, h x List.mem_cons_self, map_id_mem fun v hv => h v (List.mem_cons_of_mem _ hv)]
theorem reV_id {f : Nat → Nat} {ok : Nat → Bool} (hf : ∀ j, ok j = true → f j = j) : ∀ (n : Nat) {v : Value}, refF ok n v = true → reV f n v = v
  | 0, v, _ => rfl
  | n + 1, v, h => by
    have all : ∀ {l : List Value}, l.all (refF ok n) = true → l.map (reV f n) = l := fun {l} hl => map_id_mem fun v hv => reV_id hf n (List.all_eq_true.1 hl v hv)
    cases v with
    | pointer a => cases a with
      | none => rfl
      | some a =>
        show Value.pointer (some ⟨f a.block, a.off, a.spot⟩) = _
        rw [hf _ h]
    | slice a l c => cases a with
      | none => rfl
      | some a =>
        show Value.slice (some ⟨f a.block, a.off, a.spot⟩) l c = _
        rw [hf _ h]
    | map r => cases r with
      | none => rfl
      | some r =>
        show Value.map (some (f r)) = _
        rw [hf _ h]
    | func g a b =>
      cases g with
      | func g =>
        obtain ⟨a⟩ := a
        obtain ⟨b⟩ := b
        simp only [refF, Bool.and_eq_true] at h
        show Value.func (.func g) ⟨a.map (reV f n)⟩ ⟨b.map (reV f n)⟩ = _
        rw [all h.1, all h.2]
      | _ => rfl
    | agg cs =>
      obtain ⟨cs⟩ := cs
      show Value.agg ⟨cs.map (reV f n)⟩ = _
      rw [all h]
    | tuple cs =>
      obtain ⟨cs⟩ := cs
      show Value.tuple ⟨cs.map (reV f n)⟩ = _
      rw [all h]
    | iface t x =>
      show Value.iface t (reV f n x) = _
      rw [reV_id hf n (v := x) h]
    | _ => rfl
theorem HopQ.weak {c : Code} {n q : Nat} {t t1 : List Value} {h h1 : List AO} {m1 m3 : Mk} (a : HopQ P c n q t h t1 h1 m1) (hm1 : ∀ k, k ≤ q → Bnd k m3 → Bnd k m1) : HopQ P c n q t h t1 h1 m3 :=
  fun wb k hm hkq => a wb k (hm1 k hkq hm) hkq
theorem StopQ.weak {c : Code} {n q : Nat} {t t1 : List Value} {h h1 : List AO} {e : Exit} {m1 m3 : Mk} (a : StopQ P c n q t h e t1 h1 m1) (hm1 : ∀ k, k ≤ q → Bnd k m3 → Bnd k m1) : StopQ P c n q t h e t1 h1 m3 :=
  fun wb k hm hkq => a wb k (hm1 k hkq hm) hkq
end
end Go.Proofs.YtokeopmmnpmfeaaDoor.Ex
end
section
namespace Go.Proofs.YtokeopmmnpmfeaaDoor.Ex
set_option maxRecDepth 20000

open Go Go.RowKit
set_option linter.unusedVariables false
def okR (q : Nat) (v : Value) : Bool := refF (fun x => decide (x < q)) 6 v
def maskR (q : Nat) : List Bool → List Value → List Value
  | d :: ds, v :: vs => (bif d then .bool (okR q v) else v) :: maskR q ds vs
  | _, vs => vs
def FlR (q : Nat) (β : Nat → Value) : Prop := ∀ k, okR q (β k) = true
theorem refF_mono {a b : Nat → Bool} (h : ∀ x, a x = true → b x = true) : ∀ (n : Nat) {v : Value}, refF a n v = true → refF b n v = true
  | 0, v, hv => hv
  | n + 1, v, hv => by
    have all : ∀ {l : List Value}, l.all (refF a n) = true → l.all (refF b n) = true := fun {l} hl => List.all_eq_true.2 fun v hm => refF_mono h n (List.all_eq_true.1 hl v hm)
    cases v with
    | pointer x => cases x with
      | none => exact hv
      | some x => exact h _ hv
    | slice x l c => cases x with
      | none => exact hv
      | some x => exact h _ hv
    | map r => cases r with
      | none => exact hv
      | some r => exact h _ hv
    | func g x y =>
      cases g with
      | func g =>
        simp only [refF, Bool.and_eq_true] at hv ⊢
        exact ⟨all hv.1, all hv.2⟩
      | _ => exact hv
    | agg cs => exact all hv
    | tuple cs => exact all hv
    | iface t x => exact refF_mono h n (v := x) hv
    | _ => exact hv
theorem unmaskR_of {q : Nat} {g : Value → Value} {β : Nat → Value} (hg : ∀ k, g (β k) = β k) : ∀ {i : Nat} {ds : List Bool} {xs ts : List Value}, maskR q ds xs = ts.map g → (∀ j x, xs[j]? = some x → okR q x = true → β (i + j) = x) → (∀ (j : Nat), ds[j]? = some true → ∀ t, ts[j]? = some t → g t = .bool true) → xs = (unmask β i ds ts).map g
  | i, [], xs, ts, h, _, _ => by
    have e : maskR q [] xs = xs := by cases xs <;> rfl
    have e2 : unmask β i [] ts = ts := by cases ts <;> rfl
    rw [e2, ← h, e]
  | i, d :: ds, [], ts, h, _, _ => by
    cases ts with
    | nil => rfl
    | cons t ts => simp [maskR] at h
  | i, d :: ds, x :: xs, [], h, _, _ => by simp [maskR] at h
  | i, d :: ds, x :: xs, t :: ts, h, hb, ht => by
    simp only [maskR, List.map_cons, List.cons.injEq] at h
    obtain ⟨h1, h2⟩ := h
    have ih := unmaskR_of hg (i := i + 1) h2 (fun j y hy hf => by rw [show i + 1 + j = i + (j + 1) by omega]; exact hb (j + 1) y (by simpa using hy) hf) (fun j hj t' ht' => ht (j + 1) (by simpa using hj) t' (by simpa using ht'))
    simp only [unmask, List.map_cons, ← ih]
    congr 1
    cases d
    · exact h1
    · have h3 := ht 0 rfl t rfl
      simp only [cond_true] at h1 ⊢
      rw [h3] at h1
      injection h1 with h4
      have h5 := hb 0 x rfl h4
      rw [Nat.add_zero] at h5
      rw [hg, h5]
noncomputable def atR (q : Nat) (xs : List Value) (k : Nat) : Value := match xs[k]? with
  | some x => bif okR q x then x else .bool true
  | none => .bool true
theorem atR_fl (q : Nat) (xs : List Value) : FlR q (atR q xs) := by
  intro k
  unfold atR
  split
  · rename_i x _
    cases h : okR q x with
    | false => rfl
    | true => simp [h]
  · rfl
/-- The state behind the rounds: its temporaries, but for those that are not told; its blocks, those that are kept by new numbers. -/
theorem keepR {q q0 : Nat} {keep : List Nat} {ds : List Bool} {T : (Nat → Value) → List Value} (hun : ∀ β, unmask β 0 ds (T fun _ => .bool true) = T β) (chg : Nat → Bool) {β : Nat → Value} (hβ : FlR q0 β) {o : Option (List Value × List AO × Option Nat × List Int)} {h2 hh : List AO} {lo : Option Nat} {cs : Cs}
    (hr : o.map (fun r => (maskR q0 ds r.1, r.2)) = some ((T fun k => bif chg k then .bool true else .bool (okR q0 (β k))).map (reV (keepF q keep) 6), hh, lo, inter cs)) (hh2 : h2.map (reO (keepF q keep)) = hh) (hq : q0 ≤ q) (hl : q0 ≤ h2.length) (hd : deadAt ds (T fun _ => .bool true) = true) (hb : hopC (T fun _ => .bool true) h2 = true) :
    ∃ β', FlR q0 β' ∧ o = some ((T β').map (reV (keepF q keep) 6), h2.map (reO (keepF q keep)), lo, inter cs) ∧ hopC (T β') h2 = true := by
  have e : (T fun k => bif chg k then .bool true else .bool (okR q0 (β k))) = T fun _ => .bool true := congrArg T (funext fun k => by cases chg k <;> simp [hβ k])
  rw [e] at hr
  have hid : ∀ j, (fun x => decide (x < q0)) j = true → keepF q keep j = j := by
    intro j hj
    have : Nat.blt j q = true := by
      rw [Nat.blt_eq]
      have := of_decide_eq_true hj
      omega
    simp [keepF, this]
  cases o with
  | none => cases hr
  | some r =>
    obtain ⟨xt, r2⟩ := r
    simp only [Option.map_some, Option.some.injEq, Prod.mk.injEq] at hr
    obtain ⟨h1, h3⟩ := hr
    subst h3
    have hfl := atR_fl q0 xt
    refine ⟨atR q0 xt, hfl, ?_, ?_⟩
    · rw [← hun (atR q0 xt), hh2]
      have := unmaskR_of (q := q0) (g := reV (keepF q keep) 6) (β := atR q0 xt) (fun k => reV_id hid 6 (hfl k)) (i := 0) h1 (fun j x hx hf => by
        rw [Nat.zero_add]
        unfold atR
        rw [hx]
        simp [hf]) (fun j hj t ht => by
        rw [deadAt_ok hd j hj t ht]
        rfl)
      rw [← this]
    · rw [← hun (atR q0 xt)]
      simp only [hopC, Bool.and_eq_true] at hb ⊢
      exact ⟨unmask_all (fun k => refF_mono (fun x hx => decide_eq_true (by have := of_decide_eq_true hx; omega)) 6 (hfl k)) hb.1, hb.2⟩
section
variable {P : Program}
theorem hopR2_ok (hng : NoNG P) {hk : Hook3} (hhk : HookOk3 P hk) {lh : LoopHook} (hll : LoopLow lh) (hlo : LoopsOk P lh) {orc : Orc} {fid : FuncId} {nn : Nat} (h1 : oneLoopN P fid nn = true) {n q q0 : Nat} (keep : List Nat) {t : List Value} {h h2 hh : List AO} {lo : Option Nat} {cs : Cs}
    {ds : List Bool} {T : (Nat → Value) → List Value} (hun : ∀ β, unmask β 0 ds (T fun _ => .bool true) = T β) (chg : Nat → Bool) {β : Nat → Value} (hβ : FlR q0 β)
    (hr : (hopRunL P hk orc lh fid (theLoopN P fid nn) n q keep t h).map (fun r => (maskR q0 ds r.1, r.2)) = some ((T fun k => bif chg k then .bool true else .bool (okR q0 (β k))).map (reV (keepF q keep) 6), hh, lo, inter cs)) (hh2 : h2.map (reO (keepF q keep)) = hh)
    (hq : q0 ≤ q) (hl : q0 ≤ h2.length) (hd : deadAt ds (T fun _ => .bool true) = true) (hb : hopC (T fun _ => .bool true) h2 = true) (hc : ∀ c ∈ cs, c.1 = c.2) : ∃ β', FlR q0 β' ∧ HopQ P (theLoopN P fid nn) n q t h (T β') h2 (lo, []) := by
  obtain ⟨β', hf, ho, hb'⟩ := keepR hun chg hβ hr hh2 hq hl hd hb
  exact ⟨β', hf, hopL_ok hng hhk hll hlo h1 keep ho hb' hc⟩
end
end Go.Proofs.YtokeopmmnpmfeaaDoor.Ex
end
section
namespace Go.Proofs.YtokeopmmnpmfeaaDoor.Ex
set_option maxRecDepth 20000

open Go Go.RowKit
set_option linter.unusedVariables false
def maskQ : List Bool → List Value → List Value
  | d :: ds, v :: vs => (bif d then .bool true else v) :: maskQ ds vs
  | _, vs => vs
theorem unmaskQ_of {β : Nat → Value} : ∀ {i : Nat} {ds : List Bool} {xs ts : List Value}, maskQ ds xs = ts → (∀ j x, xs[j]? = some x → β (i + j) = x) → xs = unmask β i ds ts
  | i, [], xs, ts, h, _ => by
    have e : maskQ [] xs = xs := by cases xs <;> rfl
    have e2 : unmask β i [] ts = ts := by cases ts <;> rfl
    rw [e2, ← h, e]
  | i, d :: ds, [], ts, h, _ => by
    cases ts with
    | nil => rfl
    | cons t ts => simp [maskQ] at h
  | i, d :: ds, x :: xs, [], h, _ => by simp [maskQ] at h
  | i, d :: ds, x :: xs, t :: ts, h, hb => by
    simp only [maskQ, List.cons.injEq] at h
    obtain ⟨h1, h2⟩ := h
    have ih := unmaskQ_of (β := β) (i := i + 1) h2 (fun j y hy => by rw [show i + 1 + j = i + (j + 1) by omega]; exact hb (j + 1) y (by simpa using hy))
    simp only [unmask, ← ih]
    congr 1
    cases d
    · exact h1
    · have h5 := hb 0 x rfl
      rw [Nat.add_zero] at h5
      exact h5.symm
def atQ (xs : List Value) (k : Nat) : Value := xs.getD k .nilFunc
theorem atQ_at {xs : List Value} {j : Nat} {x : Value} (h : xs[j]? = some x) : atQ xs j = x := by
  unfold atQ
  rw [List.getD_eq_getElem?_getD, h]
  rfl
section
variable {P : Program} {c : Code}
theorem Hop.trans {n N : Nat} {t t1 t2 : List Value} {h h1 h2 : List AO} {m1 m2 m3 : Mk} (a : Hop P c n t h t1 h1 m1) (b : Hop P c N t1 h1 t2 h2 m2) (hm1 : ∀ k, Bnd k m3 → Bnd k m1) (hm2 : ∀ k, Bnd k m3 → Bnd k m2) : Hop P c (n + N) t h t2 h2 m3 := by
  intro wb k hm s m act w H M Q hQ
  rw [Nat.add_assoc]
  exact a wb k (hm1 k hm) s m act w H (N + M) Q fun s' a' w' hle H' => b wb k (hm2 k hm) s' m a' w' H' M Q fun s'' a'' w'' hle' H'' => hQ s'' a'' w'' (hle.trans hle') H''
theorem Hop.zero (t : List Value) (h : List AO) (m : Mk) : Hop P c 0 t h t h m := by
  intro wb k hm s m a w H N Q hQ
  rw [Nat.zero_add]
  exact hQ s a w (Le.refl s) H
theorem stopM_ok (hng : NoNG P) {hk : Hook3} (hhk : HookOk3 P hk) {lh : LoopHook} (hll : LoopLow lh) (hlo : LoopsOk P lh) {orc : Orc} {fid : FuncId} {nn : Nat} (h1 : oneLoopN P fid nn = true) {n : Nat} {t : List Value} {h h2 : List AO} {e : Exit} {lo : Option Nat} {cs : Cs}
    {ds : List Bool} {T : (Nat → Value) → List Value} (hun : ∀ β, unmask β 0 ds (T fun _ => .bool true) = T β)
    (hr : (loopN (bodyL P hk orc lh fid (theLoopN P fid nn)) n ⟨t, h, (none, [])⟩).map (fun r => (r.1, maskQ ds r.2.t, r.2.h, r.2.m.1, inter r.2.m.2)) = some (e, T fun _ => .bool true, h2, lo, inter cs)) (hc : ∀ c ∈ cs, c.1 = c.2) : ∃ β', Stop P (theLoopN P fid nn) n t h e (T β') h2 (lo, []) := by
  cases hx : loopN (bodyL P hk orc lh fid (theLoopN P fid nn)) n ⟨t, h, (none, [])⟩ with
  | none => rw [hx] at hr; cases hr
  | some x =>
    obtain ⟨e1, xt, xh, xm⟩ := x
    rw [hx] at hr
    simp only [Option.map_some, Option.some.injEq, Prod.mk.injEq] at hr
    obtain ⟨rfl, g1, g2, g3, g4⟩ := hr
    have g4 := inter_inj g4
    subst g2
    refine ⟨atQ xt, ?_⟩
    have e := unmaskQ_of (β := atQ xt) (i := 0) g1 (fun j x hx => by rw [Nat.zero_add]; exact atQ_at hx)
    rw [hun] at e
    rw [← e]
    intro wb k hm s m a w H m'
    have st := stopL_any (bodyL_ok hng hhk hll hlo orc fid _ (loopV_of hlo h1)) (bodyL_low orc hll fid _) hx wb k (by
      obtain ⟨x1, x2⟩ := xm
      simp only at g3 g4
      subst g3 g4
      exact ⟨hm.1, hc⟩) s m a w H m'
    exact st
end
end Go.Proofs.YtokeopmmnpmfeaaDoor.Ex
end
section
namespace Go.Proofs.YtokeopmmnpmfeaaDoor.Ex
set_option maxRecDepth 20000

open Go Go.RowKit
set_option linter.unusedVariables false
section
variable {P : Program}
theorem okR_mono {a b : Nat} (h : a ≤ b) {v : Value} (hv : okR a v = true) : okR b v = true := refF_mono (fun x hx => decide_eq_true (by have := of_decide_eq_true hx; omega)) 6 hv
theorem FlR.mono {a b : Nat} {β : Nat → Value} (h : a ≤ b) (hf : FlR a β) : FlR b β := fun k => okR_mono h (hf k)
end
end Go.Proofs.YtokeopmmnpmfeaaDoor.Ex
end
section
namespace Go.Proofs.YtokeopmmnpmfeaaDoor.Ex
set_option maxRecDepth 20000

open Go Go.RowKit
set_option linter.unusedVariables false
set_option linter.unusedSectionVars false
noncomputable def wi (x : Int) : Int := IntKind.i64.wrap x
theorem wi_id {x : Int} (h1 : -9223372036854775808 ≤ x) (h2 : x < 9223372036854775808) : wi x = x := by
  unfold wi IntKind.wrap
  have e : (2 : Int) ^ IntKind.i64.bits = 18446744073709551616 := rfl
  have e2 : (2 : Int) ^ (IntKind.i64.bits - 1) = 9223372036854775808 := rfl
  simp only [e, e2]
  split
  · rename_i h
    simp at h
    omega
  · rename_i h
    simp [IntKind.signed] at h
    omega
theorem b1 {p : Prop} [Decidable p] (h : p) : b2i (decide p) = 1 := by rw [decide_eq_true h]; rfl
theorem b0 {p : Prop} [Decidable p] (h : ¬p) : b2i (decide p) = 0 := by rw [decide_eq_false h]; rfl
theorem btR {x : Bool} (h : x = true) : b2i x = 1 := by rw [h]; rfl
theorem bfR {x : Bool} (h : x = false) : b2i x = 0 := by rw [h]; rfl
def AE (cs : Cs) : Prop := ∀ c ∈ cs, c.1 = c.2
theorem AE.nil : AE [] := fun _ h => by cases h
theorem AE.cons {a b : Int} {l : Cs} (h : a = b) (hl : AE l) : AE ((a, b) :: l) := fun c hc => by
  rcases List.mem_cons.1 hc with rfl | hc
  · exact h
  · exact hl c hc
theorem AE.consP {c : Int × Int} {l : Cs} (h : c.1 = c.2) (hl : AE l) : AE (c :: l) := fun d hd => by
  rcases List.mem_cons.1 hd with rfl | hd
  · exact h
  · exact hl d hd
theorem AE.app {l m : Cs} (h : AE l) (hm : AE m) : AE (l ++ m) := fun c hc => by
  rcases List.mem_append.1 hc with hc | hc
  · exact h c hc
  · exact hm c hc
/-- A contract whose arguments and whose answer stand still: that they are flat goes into the pairs. -/
def liftP (hk : FuncId → List Value → List AO → Option (Value × Cs)) : Hook3 := fun f args h =>
  match hk f args h with
  | some (v, cs) => some (v, [], (b2i (args.all flat && flat v), 1) :: cs)
  | none => none
theorem liftP_ok {P : Program} {hk : FuncId → List Value → List AO → Option (Value × Cs)} (hh : HookOk P hk) : HookOk3 P (liftP hk) := by
  intro f args h v new cs hv hc wb k s w args' hb H ha
  unfold liftP at hv
  split at hv
  · rename_i u cs0 hu
    cases hv
    have hf := b2i_inj (b := true) (hc _ (List.mem_cons_self ..))
    simp only [Bool.and_eq_true] at hf
    obtain rfl := ha.eq_of_flat hf.1
    refine (hh f args' h _ _ hu (fun c hc' => hc c (List.mem_cons_of_mem _ hc')) wb k s w H).mono ?_
    rintro e w' ⟨rfl, hg⟩
    exact ⟨s, _, rfl, Le.refl s, H.grow hg, .same hf.2⟩
  · cases hv
def or3 (a b : Hook3) : Hook3 := fun f args h =>
  match a f args h with
  | some r => some r
  | none => b f args h
theorem or3_ok {P : Program} {a b : Hook3} (ha : HookOk3 P a) (hb : HookOk3 P b) : HookOk3 P (or3 a b) := by
  intro f args h v new cs hv
  unfold or3 at hv
  split at hv
  · rename_i r hr
    cases hv
    exact ha f args h v new cs hr
  · exact hb f args h v new cs hv

/-! Heaps whose blocks hold flat values alone. -/
section
variable {P : Program}
/-- A block that nothing is told of at the end of what is told ahead of the rounds. -/
theorem HopQ.pad {c : Code} {n q : Nat} {t t1 : List Value} {h h1 : List AO} {m : Mk} (r : Nat) (a : HopQ P c n q t (h ++ List.replicate r dead) t1 h1 m) : HopQ P c n q t h t1 h1 m :=
  fun wb k hm hkq s m0 act w H N Q hQ => a wb k hm hkq s m0 act w ⟨H.t, H.d, H.h.pad r⟩ N Q hQ
theorem StopQ.pad {c : Code} {n q : Nat} {t t1 : List Value} {h h1 : List AO} {e : Exit} {m : Mk} (r : Nat) (a : StopQ P c n q t (h ++ List.replicate r dead) e t1 h1 m) : StopQ P c n q t h e t1 h1 m :=
  fun wb k hm hkq s m0 act w H m' => a wb k hm hkq s m0 act w ⟨H.t, H.d, H.h.pad r⟩ m'
end
end Go.Proofs.YtokeopmmnpmfeaaDoor.Ex
end
section
namespace Go.Proofs.YtokeopmmnpmfeaaDoor.Ex
set_option maxRecDepth 20000

open Go Go.RowKit
set_option maxHeartbeats 0
set_option maxRecDepth 1000000
set_option linter.unusedVariables false
set_option linter.unusedSectionVars false
def oS (l : List (Nat × Nat × Value)) : Orc := fun f t _ =>
  match l.find? (fun p => Nat.beq p.1 f && Nat.beq p.2.1 t) with
  | some p => some p.2.2
  | none => none
theorem rq {hk : Hook3} (hhk : HookOk3 Tryd.prog hk) (orc : Orc) {g : FuncId} {args : List Value} {v : Value} {cs : Cs} (hf : args.all flat = true) (hv : flat v = true)
    (h : reckonPI Tryd.prog hk orc noLoop 100000 300 [] g args = some (v, inter cs)) (he : AE cs) (w : World) : Calls Tryd.prog g ⟨args⟩ w fun e w' => e = .returned v ∧ Gr w w' :=
  reckonP_ok noNG hhk noLoop_low (noLoop_ok _) orc 100000 300 [] hf hv h he w (Laid.nil w)
def nh3 : Hook3 := liftH (guardH noHook)
theorem nh3_ok : HookOk3 Tryd.prog nh3 := lift_ok (guard_ok (noHook_ok _))
abbrev atF : FuncId := 12
/-- The byte of a text at a place; 0 behind its end. -/
def bfl (l : List UInt8) (j : Nat) : Int := ((l.getD j 0).toNat : Int)
def rbt (s : ByteArray) (j : Nat) : Int := bfl s.data.toList j
theorem bfl_rng (l : List UInt8) (j : Nat) : 0 ≤ bfl l j ∧ bfl l j < 256 := by
  have := (l.getD j 0).toNat_lt
  unfold bfl
  omega
theorem at_hi (s : ByteArray) (j : Nat) (he : AE [(b2i (decide ((j : Int) ≥ (s.size : Int))), 1)]) (w : World) : Calls Tryd.prog atF #[.string s, .int .i64 (j : Int)] w fun e w' => e = .returned (.int .i64 0) ∧ Gr w w' :=
  rq nh3_ok (oS [(atF, 8, .bool true)]) rfl rfl (by kernel_rfl) he w
theorem at_lo (s : ByteArray) (j : Nat) (he : AE [(b2i (decide ((j : Int) ≥ (s.size : Int))), 0), (b2i (decide (0 ≤ (j : Int)) && decide ((j : Int) < (s.size : Int))), 1), (IntKind.i64.wrap (byteI s j), rbt s j)]) (w : World) : Calls Tryd.prog atF #[.string s, .int .i64 (j : Int)] w fun e w' => e = .returned (.int .i64 (rbt s j)) ∧ Gr w w' :=
  rq nh3_ok (oS [(atF, 8, .bool false), (atF, 11, .nilIface), (atF, 12, .int .i64 (rbt s j))]) rfl rfl (by kernel_rfl) he w
theorem size_l (s : ByteArray) : s.size = s.data.toList.length := Array.length_toList.symm
theorem rbt_hi {s : ByteArray} {j : Nat} (h : s.size ≤ j) : rbt s j = 0 := by
  unfold rbt bfl
  rw [List.getD_eq_getElem?_getD, List.getElem?_eq_none (by rw [← size_l]; exact h)]
  rfl
theorem byteI_rbt (s : ByteArray) (j : Nat) : byteI s j = rbt s j := rfl
theorem c_at (s : ByteArray) (j : Nat) (w : World) : Calls Tryd.prog atF #[.string s, .int .i64 (j : Int)] w fun e w' => e = .returned (.int .i64 (rbt s j)) ∧ Gr w w' := by
  by_cases h : s.size ≤ j
  · rw [rbt_hi h]
    exact at_hi s j (AE.cons (b1 (by omega)) AE.nil) w
  · refine at_lo s j (AE.cons (b0 (by omega)) (AE.cons (btR ?_) (AE.cons ?_ AE.nil))) w
    · rw [decide_eq_true (by omega : (0 : Int) ≤ j), decide_eq_true (by omega : (j : Int) < s.size)]
      rfl
    · show IntKind.i64.wrap (byteI s j) = rbt s j
      rw [byteI_rbt]
      have := bfl_rng s.data.toList j
      exact wi_id (by unfold rbt; omega) (by unfold rbt; omega)
def hkAt : Hook := fun f args _ =>
  if Nat.beq f atF then
    match args with
    | [.string s, .int .i64 i] => some (.int .i64 (rbt s i.toNat), [(b2i (decide (0 ≤ i)), 1)])
    | _ => none
  else none
theorem hkAt_ok : HookOk Tryd.prog hkAt := by
  intro f args h v cs hv hc wb k s w H
  unfold hkAt at hv
  split at hv
  · rename_i hf
    obtain rfl := Nat.eq_of_beq_eq_true hf
    split at hv
    · rename_i t i
      cases hv
      have c1 := hc _ (List.mem_cons_self ..)
      have d1 : decide (0 ≤ i) = true := b2i_inj (b := true) c1
      obtain ⟨j, rfl⟩ := Int.eq_ofNat_of_zero_le (of_decide_eq_true d1)
      exact c_at t j w
    · cases hv
  · cases hv
noncomputable def at3 : Hook3 := liftP hkAt
theorem at3_ok : HookOk3 Tryd.prog at3 := liftP_ok hkAt_ok
abbrev nmF : FuncId := 30
abbrev sgF : FuncId := 48
def kOf (v : Value) : Nat := match v with
  | .int _ k => k.toNat
  | _ => 0
end Go.Proofs.YtokeopmmnpmfeaaDoor.Ex
end
section
namespace Go.Proofs.YtokeopmmnpmfeaaDoor.Ex
set_option maxRecDepth 20000

open Go Go.RowKit
set_option maxHeartbeats 0
set_option maxRecDepth 1000000
set_option linter.unusedVariables false
set_option linter.unusedSectionVars false
/-- The number of so many bytes from a place on. -/
def leB (b : Nat → Int) (j : Nat) : Nat → Int
  | 0 => 0
  | m + 1 => b j + 256 * leB b (j + 1) m
def nR1 (b : Nat → Int) (j : Nat) : Int := bif decide (leB b j 1 < 128) then leB b j 1 else leB b j 1 - 256
def nR4 (b : Nat → Int) (j : Nat) : Int := bif decide (leB b j 4 < 2147483648) then leB b j 4 else leB b j 4 - 4294967296
def nR8 (b : Nat → Int) (j : Nat) : Int := bif decide (leB b j 8 < 9223372036854775808) then leB b j 8 else leB b j 8 - 18446744073709551616
noncomputable def nmO (s : ByteArray) (j n : Nat) (lo : Bool) (r : Int) : Orc := fun f t x =>
  if Nat.beq f nmF then
    match t with
    | 20 => some (.int .i64 ((j + kOf (x.getD 19 .nilFunc) : Nat) : Int))
    | 23 => some (.int .u64 (leB (rbt s) (j + kOf (x.getD 19 .nilFunc)) (n - kOf (x.getD 19 .nilFunc))))
    | 28 => some (.int .i64 r)
    | _ => none
  else if Nat.beq f sgF then (match t with | 20 => some (.bool lo) | _ => none)
  else none
noncomputable def nmR (s : ByteArray) (j n k : Nat) : Cs := [(wi ((j : Int) + (k : Int)), ((j + k : Nat) : Int)), (1, 1), (1, 1), (IntKind.u64.wrap (IntKind.u64.wrap (leB (rbt s) (j + k + 1) (n - k - 1) * 256) + IntKind.u64.wrap (rbt s (j + k))), leB (rbt s) (j + k) (n - k))]
noncomputable def nmRs (s : ByteArray) (j n : Nat) : Nat → Cs
  | 0 => []
  | k + 1 => nmR s j n k ++ nmRs s j n k
noncomputable def nmL (v p q : Int) (r : Int) : Cs := [(b2i (decide (v.tmod p < q)), 1), (IntKind.i64.wrap (v.tmod p), r)]
noncomputable def nmG (v p q : Int) (r : Int) : Cs := [(b2i (decide (v.tmod p < q)), 0), (IntKind.i64.wrap (IntKind.u64.wrap (v.tmod p - p)), r)]
end Go.Proofs.YtokeopmmnpmfeaaDoor.Ex
end
section
namespace Go.Proofs.YtokeopmmnpmfeaaDoor.Ex
set_option maxRecDepth 20000

open Go Go.RowKit
set_option maxHeartbeats 0
set_option maxRecDepth 1000000
set_option linter.unusedVariables false
set_option linter.unusedSectionVars false
theorem nm_1l (s : ByteArray) (j : Nat) (r : Int) (he : AE (nmRs s j 1 1 ++ nmL (leB (rbt s) j 1) 256 128 r)) (w : World) : Calls Tryd.prog nmF #[.string s, .int .i64 (j : Int), .int .i64 1] w fun e w' => e = .returned (.int .i64 r) ∧ Gr w w' :=
  rq at3_ok (nmO s j 1 true r) rfl rfl (by kernel_rfl) he w
theorem nm_1g (s : ByteArray) (j : Nat) (r : Int) (he : AE (nmRs s j 1 1 ++ nmG (leB (rbt s) j 1) 256 128 r)) (w : World) : Calls Tryd.prog nmF #[.string s, .int .i64 (j : Int), .int .i64 1] w fun e w' => e = .returned (.int .i64 r) ∧ Gr w w' :=
  rq at3_ok (nmO s j 1 false r) rfl rfl (by kernel_rfl) he w
theorem nm_4l (s : ByteArray) (j : Nat) (r : Int) (he : AE (nmRs s j 4 4 ++ nmL (leB (rbt s) j 4) 4294967296 2147483648 r)) (w : World) : Calls Tryd.prog nmF #[.string s, .int .i64 (j : Int), .int .i64 4] w fun e w' => e = .returned (.int .i64 r) ∧ Gr w w' :=
  rq at3_ok (nmO s j 4 true r) rfl rfl (by kernel_rfl) he w
theorem nm_4g (s : ByteArray) (j : Nat) (r : Int) (he : AE (nmRs s j 4 4 ++ nmG (leB (rbt s) j 4) 4294967296 2147483648 r)) (w : World) : Calls Tryd.prog nmF #[.string s, .int .i64 (j : Int), .int .i64 4] w fun e w' => e = .returned (.int .i64 r) ∧ Gr w w' :=
  rq at3_ok (nmO s j 4 false r) rfl rfl (by kernel_rfl) he w
theorem nm_8l (s : ByteArray) (j : Nat) (r : Int) (he : AE (nmRs s j 8 8 ++ [(IntKind.i64.wrap (leB (rbt s) j 8), r)])) (w : World) : Calls Tryd.prog nmF #[.string s, .int .i64 (j : Int), .int .i64 8] w fun e w' => e = .returned (.int .i64 r) ∧ Gr w w' :=
  rq at3_ok (nmO s j 8 true r) rfl rfl (by kernel_rfl) he w
theorem leB_rng (s : ByteArray) : ∀ (m j : Nat), 0 ≤ leB (rbt s) j m ∧ leB (rbt s) j m < ((256 ^ m : Nat) : Int)
  | 0, j => by unfold leB; decide
  | m + 1, j => by
    have h1 := leB_rng s m (j + 1)
    have h2 := bfl_rng s.data.toList j
    have e : ((256 ^ (m + 1) : Nat) : Int) = 256 * ((256 ^ m : Nat) : Int) := by rw [Nat.pow_succ]; omega
    unfold leB
    rw [e]
    unfold rbt at *
    omega
theorem wu0 {x : Int} (h0 : 0 ≤ x) (h1 : x < 18446744073709551616) : IntKind.u64.wrap x = x := by
  simp [IntKind.wrap, IntKind.signed, IntKind.bits]
  omega
theorem nmRs_ok (s : ByteArray) {j n : Nat} (hn : n ≤ 8) (hj : j < 1000000) : ∀ k, k ≤ n → AE (nmRs s j n k)
  | 0, _ => AE.nil
  | k + 1, h => by
    have h1 := leB_rng s (n - k - 1) (j + k + 1)
    have h2 := bfl_rng s.data.toList (j + k)
    have hp : (256 ^ (n - k - 1) : Nat) ≤ 256 ^ 7 := Nat.pow_le_pow_right (by decide) (by omega)
    have hp' : ((256 ^ (n - k - 1) : Nat) : Int) ≤ 72057594037927936 := by
      have : (256 ^ 7 : Nat) = 72057594037927936 := by decide
      omega
    have e : leB (rbt s) (j + k) (n - k) = rbt s (j + k) + 256 * leB (rbt s) (j + k + 1) (n - k - 1) := by
      rw [show n - k = (n - k - 1) + 1 by omega]
      rfl
    refine AE.app (AE.cons ?_ (AE.cons rfl (AE.cons rfl (AE.cons ?_ AE.nil)))) (nmRs_ok s hn hj k (by omega))
    · rw [wi_id (by omega) (by omega)]
      omega
    · rw [e]
      unfold rbt at *
      rw [wu0 (x := leB _ _ _ * 256) (by omega) (by omega), wu0 (x := bfl _ _) (by omega) (by omega), wu0 (by omega) (by omega)]
      omega
theorem nmL_ok {v p q r : Int} (h0 : 0 ≤ v) (h1 : v < q) (hq : q ≤ 9223372036854775808) (hp : q ≤ p) (hr : r = v) : AE (nmL v p q r) := by
  have e : v.tmod p = v := by rw [Int.tmod_eq_emod_of_nonneg h0]; exact Int.emod_eq_of_lt h0 (by omega)
  refine AE.cons (b1 (by rw [e]; exact h1)) (AE.cons ?_ AE.nil)
  rw [e, hr]
  exact wi_id (by omega) (by omega)
theorem nmG_ok {v p q r : Int} (h0 : 0 ≤ v) (h1 : ¬ v < q) (hp : v < p) (hpq : p = 2 * q) (hq : 1 ≤ q) (hq2 : q ≤ 2147483648) (hr : r = v - p) : AE (nmG v p q r) := by
  have e : v.tmod p = v := by rw [Int.tmod_eq_emod_of_nonneg h0]; exact Int.emod_eq_of_lt h0 hp
  refine AE.cons (b0 (by rw [e]; exact h1)) (AE.cons ?_ AE.nil)
  rw [e, hr]
  show IntKind.i64.wrap (IntKind.u64.wrap (v - p)) = v - p
  simp [IntKind.wrap, IntKind.signed, IntKind.bits]
  omega
theorem c_num1 (s : ByteArray) {j : Nat} (hj : j < 1000000) (w : World) : Calls Tryd.prog nmF #[.string s, .int .i64 (j : Int), .int .i64 1] w fun e w' => e = .returned (.int .i64 (nR1 (rbt s) j)) ∧ Gr w w' := by
  have h := leB_rng s 1 j
  by_cases c : leB (rbt s) j 1 < 128
  · exact nm_1l s j _ (AE.app (nmRs_ok s (by decide) hj 1 (by decide)) (nmL_ok h.1 c (by decide) (by decide) (by unfold nR1; rw [decide_eq_true c]; rfl))) w
  · exact nm_1g s j _ (AE.app (nmRs_ok s (by decide) hj 1 (by decide)) (nmG_ok h.1 c (by have := h.2; omega) (by decide) (by decide) (by decide) (by unfold nR1; rw [decide_eq_false c]; rfl))) w
theorem c_num4 (s : ByteArray) {j : Nat} (hj : j < 1000000) (w : World) : Calls Tryd.prog nmF #[.string s, .int .i64 (j : Int), .int .i64 4] w fun e w' => e = .returned (.int .i64 (nR4 (rbt s) j)) ∧ Gr w w' := by
  have h := leB_rng s 4 j
  by_cases c : leB (rbt s) j 4 < 2147483648
  · exact nm_4l s j _ (AE.app (nmRs_ok s (by decide) hj 4 (by decide)) (nmL_ok h.1 c (by decide) (by decide) (by unfold nR4; rw [decide_eq_true c]; rfl))) w
  · exact nm_4g s j _ (AE.app (nmRs_ok s (by decide) hj 4 (by decide)) (nmG_ok h.1 c (by have := h.2; omega) (by decide) (by decide) (by decide) (by unfold nR4; rw [decide_eq_false c]; rfl))) w
theorem c_num8 (s : ByteArray) {j : Nat} (hj : j < 1000000) (w : World) : Calls Tryd.prog nmF #[.string s, .int .i64 (j : Int), .int .i64 8] w fun e w' => e = .returned (.int .i64 (nR8 (rbt s) j)) ∧ Gr w w' := by
  have h := leB_rng s 8 j
  refine nm_8l s j _ (AE.app (nmRs_ok s (by decide) hj 8 (by decide)) (AE.cons ?_ AE.nil)) w
  show IntKind.i64.wrap (leB (rbt s) j 8) = nR8 (rbt s) j
  have h2 := h.2
  have e256 : (256 ^ 8 : Nat) = 18446744073709551616 := by decide
  unfold nR8
  by_cases c : leB (rbt s) j 8 < 9223372036854775808
  · rw [decide_eq_true c]
    exact wi_id (by omega) (by omega)
  · rw [decide_eq_false c]
    simp [IntKind.wrap, IntKind.signed, IntKind.bits]
    omega
def hkNum1 : Hook := fun f args _ =>
  if Nat.beq f nmF then
    match args with
    | [.string s, .int .i64 i, .int .i64 1] => some (.int .i64 (nR1 (rbt s) i.toNat), [(b2i (decide (0 ≤ i) && decide (i < 1000000)), 1)])
    | _ => none
  else none
theorem hkNum1_ok : HookOk Tryd.prog hkNum1 := by
  intro f args h v cs hv hc wb k s w H
  unfold hkNum1 at hv
  split at hv
  · rename_i hf
    obtain rfl := Nat.eq_of_beq_eq_true hf
    split at hv
    · rename_i t i
      cases hv
      have c1 := hc _ (List.mem_cons_self ..)
      have d1 : (decide (0 ≤ i) && decide (i < 1000000)) = true := b2i_inj (b := true) c1
      simp only [Bool.and_eq_true, decide_eq_true_eq] at d1
      obtain ⟨j, rfl⟩ := Int.eq_ofNat_of_zero_le d1.1
      have hj : j < 1000000 := by omega
      rw [Int.toNat_natCast]
      exact c_num1 t hj w
    · cases hv
  · cases hv
def hkNum4 : Hook := fun f args _ =>
  if Nat.beq f nmF then
    match args with
    | [.string s, .int .i64 i, .int .i64 4] => some (.int .i64 (nR4 (rbt s) i.toNat), [(b2i (decide (0 ≤ i) && decide (i < 1000000)), 1)])
    | _ => none
  else none
theorem hkNum4_ok : HookOk Tryd.prog hkNum4 := by
  intro f args h v cs hv hc wb k s w H
  unfold hkNum4 at hv
  split at hv
  · rename_i hf
    obtain rfl := Nat.eq_of_beq_eq_true hf
    split at hv
    · rename_i t i
      cases hv
      have c1 := hc _ (List.mem_cons_self ..)
      have d1 : (decide (0 ≤ i) && decide (i < 1000000)) = true := b2i_inj (b := true) c1
      simp only [Bool.and_eq_true, decide_eq_true_eq] at d1
      obtain ⟨j, rfl⟩ := Int.eq_ofNat_of_zero_le d1.1
      have hj : j < 1000000 := by omega
      rw [Int.toNat_natCast]
      exact c_num4 t hj w
    · cases hv
  · cases hv
def hkNum8 : Hook := fun f args _ =>
  if Nat.beq f nmF then
    match args with
    | [.string s, .int .i64 i, .int .i64 8] => some (.int .i64 (nR8 (rbt s) i.toNat), [(b2i (decide (0 ≤ i) && decide (i < 1000000)), 1)])
    | _ => none
  else none
theorem hkNum8_ok : HookOk Tryd.prog hkNum8 := by
  intro f args h v cs hv hc wb k s w H
  unfold hkNum8 at hv
  split at hv
  · rename_i hf
    obtain rfl := Nat.eq_of_beq_eq_true hf
    split at hv
    · rename_i t i
      cases hv
      have c1 := hc _ (List.mem_cons_self ..)
      have d1 : (decide (0 ≤ i) && decide (i < 1000000)) = true := b2i_inj (b := true) c1
      simp only [Bool.and_eq_true, decide_eq_true_eq] at d1
      obtain ⟨j, rfl⟩ := Int.eq_ofNat_of_zero_le d1.1
      have hj : j < 1000000 := by omega
      rw [Int.toNat_natCast]
      exact c_num8 t hj w
    · cases hv
  · cases hv
noncomputable def nu3 : Hook3 := or3 (liftP hkAt) (or3 (liftP hkNum1) (or3 (liftP hkNum4) (liftP hkNum8)))
theorem nu3_ok : HookOk3 Tryd.prog nu3 := or3_ok (liftP_ok hkAt_ok) (or3_ok (liftP_ok hkNum1_ok) (or3_ok (liftP_ok hkNum4_ok) (liftP_ok hkNum8_ok)))
end Go.Proofs.YtokeopmmnpmfeaaDoor.Ex
end
section
namespace Go.Proofs.YtokeopmmnpmfeaaDoor.Ex
set_option maxRecDepth 20000

open Go Go.RowKit
set_option linter.unusedVariables false
set_option linter.unusedSimpArgs false
set_option maxHeartbeats 0
set_option maxRecDepth 1000000
theorem atN_eq (a : Int) : ∀ j : Nat, atN a j = a + j
  | 0 => by simp [atN]
  | j + 1 => by rw [atN, atN_eq a j]; push_cast; omega
theorem ap {a b : Cs} (ha : AllD a) (hb : AllD b) : AllD (a ++ b) := fun c hc => (List.mem_append.1 hc).elim (ha c) (hb c)
theorem AllD.cons {p : Int × Int} {b : Cs} (ha : p.1 = p.2) (hb : AllD b) : AllD (p :: b) := fun c hc => by
  rcases List.mem_cons.1 hc with rfl | h
  · exact ha
  · exact hb c h
theorem AllD.nil : AllD [] := fun c hc => by cases hc
theorem oneT {e : Bool} (h : e = true) : AllD (q1 e) := AllD.cons (by rw [h]; rfl) AllD.nil
theorem oneF {e : Bool} (h : e = false) : AllD (q0 e) := AllD.cons (by rw [h]; rfl) AllD.nil
theorem nc {x n : Int} {l : List Int} (h : (x == n) = false) (r : AllD (ne x l)) : AllD (ne x (n :: l)) := AllD.cons (by rw [h]; rfl) r
theorem rex0 : (andB 0 8 != 0) = false := by decide
theorem sg_ok (l : List Int) : AllD (sgC l) := by
  refine AllD.cons ?_ (AllD.cons rfl AllD.nil)
  have h1 : 0 ≤ nmV l := N_nonneg _
  have h2 : nmV l < 18446744073709551616 := by unfold nmV N; have := (numS ⟨⟨l.map ubD⟩⟩).isLt; omega
  simp only [decide_eq_true h1, decide_eq_true h2]
  rfl
/-- What is known of a place in a text. -/
structure Cx (eB : EncB) (eE : EncE) (s : ByteArray) (a : Int) (w : World) : Prop where
  hE : HookOk2 Tryd.prog (hkD eB eE)
  h0 : (eE.of XX.z != 0) = true
  ha : 0 ≤ a
  hlt : a < (s.size : Int)
  hz : a + 20 ≤ 9223372036854775807
  hs : (s.size : Int) ≤ 9223372036854775807
  hL : Laid hDk w
def GoalD (eB : EncB) (eE : EncE) (s : ByteArray) (a : Int) (w : World) : Prop := Calls Tryd.prog 5 ⟨[.string s, .int .i64 a]⟩ w fun e w' => e = .returned (decV eB eE s a (readB (bt s a))) ∧ Gr w w'
section
variable {eB : EncB} {eE : EncE} {s : ByteArray} {a : Int} {w : World}
theorem Cx.p (C : Cx eB eE s a w) (j : Nat) (hj : j ≤ 19 := by decide) : AllD (pkC s a j) := by
  have e := atN_eq a j
  have ha := C.ha
  have hz := C.hz
  refine AllD.cons ?_ (AllD.cons ?_ AllD.nil)
  · simp only [decide_eq_true (show 0 ≤ atN a j by omega), decide_eq_true (show atN a j ≤ 9223372036854775807 by omega)]
    rfl
  · simp only [decide_eq_true C.hs]
    rfl
theorem Cx.t (C : Cx eB eE s a w) (j : Nat) (hj : j ≤ 18 := by decide) : AllD (tkC s a j) := by
  have e := atN_eq a j
  have ha := C.ha
  have hz := C.hz
  refine ap (C.p j (by omega)) (AllD.cons ?_ AllD.nil)
  have e2 : IntKind.i64.wrap (atN a j + 1) = atN a j + 1 := by
    simp only [IntKind.wrap, IntKind.bits, IntKind.signed]
    simp
    omega
  exact e2
theorem Cx.st (C : Cx eB eE s a w) : AllD (stC s a) := by
  have ha := C.ha
  have hlt := C.hlt
  refine AllD.cons ?_ (AllD.cons ?_ AllD.nil)
  · simp only [decide_eq_false (show ¬ a < 0 by omega)]
    rfl
  · simp only [decide_eq_false (show ¬ a ≥ (s.size : Int) by omega)]
    rfl
theorem Cx.sl (C : Cx eB eE s a w) : b2i (decide (0 ≤ a) && decide (a ≤ (s.size : Int))) = 1 := by
  have hlt := C.hlt
  simp only [decide_eq_true C.ha, decide_eq_true (show a ≤ (s.size : Int) by omega)]
  rfl
theorem Cx.l3 (C : Cx eB eE s a w) {p k : Way} (hP : AllD (p.c s a (bt s a))) (he : WE p k) (hf : WF p k) (ht : WT p k) (hx : readB (bt s a) = k.x (bt s a)) (hc : AllD (k.c s a (bt s a))) : GoalD eB eE s a w := by
  unfold GoalD
  rw [hx]
  unfold decV
  rcases Bool.eq_false_or_eq_true (eE.of (k.x (bt s a)) != 0) with t1 | t1
  · rw [t1, cond_true]
    exact he eB eE C.hE s a (ap hP (ap hc (AllD.cons (by rw [t1]; rfl) AllD.nil))) w C.hL
  · rw [t1, cond_false]
    rcases Bool.eq_false_or_eq_true (!(pfxB (s.extract a.toNat s.size) ⟨⟨eB.of (k.x (bt s a))⟩⟩)) with t2 | t2
    · rw [t2, cond_true]
      exact hf eB eE C.hE s a (ap hP (ap hc (AllD.cons (by rw [t1]; rfl) (AllD.cons C.sl (AllD.cons (by rw [t2]; rfl) AllD.nil))))) w C.hL
    · rw [t2, cond_false]
      exact ht eB eE C.hE s a (ap hP (ap hc (AllD.cons (by rw [t1]; rfl) (AllD.cons C.sl (AllD.cons (by rw [t2]; rfl) AllD.nil))))) w C.hL
theorem Cx.l1 (C : Cx eB eE s a w) {p k : Way} (hP : AllD (p.c s a (bt s a))) (he : WE p k) (hx : readB (bt s a) = k.x (bt s a)) (hk : k.x (bt s a) = XX.z) (hc : AllD (k.c s a (bt s a))) : GoalD eB eE s a w := by
  have t1 : (eE.of (k.x (bt s a)) != 0) = true := by rw [hk]; exact C.h0
  unfold GoalD
  rw [hx]
  unfold decV
  rw [t1, cond_true]
  exact he eB eE C.hE s a (ap hP (ap hc (AllD.cons (by rw [t1]; rfl) AllD.nil))) w C.hL
end
end Go.Proofs.YtokeopmmnpmfeaaDoor.Ex
end
