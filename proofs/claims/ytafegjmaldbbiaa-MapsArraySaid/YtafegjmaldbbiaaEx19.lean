/-
  Runs that the kernel reckons, part 19: rounds of a loop behind which blocks are given up, or told by other numbers; loops told by patterns.
-/
import Derived.Test.YtafegjmaldbbiaaEx18
import Derived.Test.YtafegjmaldbbiaaExI
namespace Go.Proofs.Ytafegjmaldbbiaa.Ex
open Go Go.RowKit
set_option linter.unusedVariables false

/-- So many times the same, and what stands behind. -/
noncomputable def rp (n : Nat) (x : Value) (l : List Value) : List Value := Nat.rec (motive := fun _ => List Value) l (fun _ ih => x :: ih) n
noncomputable def rpO (n : Nat) (x : AO) (l : List AO) : List AO := Nat.rec (motive := fun _ => List AO) l (fun _ ih => x :: ih) n
/-- A value with its blocks told by other numbers. -/
def reV (f : Nat → Nat) : Nat → Value → Value
  | 0, v => v
  | n + 1, v =>
    match v with
    | .pointer (some a) => .pointer (some ⟨f a.block, a.off, a.spot⟩)
    | .slice (some a) l c => .slice (some ⟨f a.block, a.off, a.spot⟩) l c
    | .map (some i) => .map (some (f i))
    | .agg cs => .agg ⟨cs.toList.map (reV f n)⟩
    | .tuple cs => .tuple ⟨cs.toList.map (reV f n)⟩
    | .iface t x => .iface t (reV f n x)
    | .func (.func g) a b => .func (.func g) ⟨a.toList.map (reV f n)⟩ ⟨b.toList.map (reV f n)⟩
    | v => v
theorem LR.unmap {s t : Ren} {g : Value → Value} {ok : Value → Bool} (hg : ∀ {v v' : Value}, VR s (g v) v' → ok v = true → VR t v v') {xs ys : List Value} (h : LR s (xs.map g) ys) (ho : xs.all ok = true) : LR t xs ys := by
  refine ⟨by simpa using h.1, fun i x y hx hy => hg (h.2 i (g x) y (by rw [List.getElem?_map, hx]; rfl) hy) (all_get ho hx)⟩
theorem VR.ren {s t : Ren} {f : Nat → Nat} {ok : Nat → Bool} (hst : ∀ j p, ok j = true → s (f j) = some p → t j = some p) : ∀ (n : Nat) {v v' : Value}, VR s (reV f n v) v' → refF ok n v = true → VR t v v'
  | 0, v, v', h, hr => by
    have hf : flat v = true := flat_of_scal hr
    have h' : VR s v v' := h
    rw [h'.eq_of_flat hf]
    exact .same hf
  | n + 1, v, v', h, hr => by
    have ih := fun {v v' : Value} => VR.ren hst n (v := v) (v' := v')
    have plain : ∀ u : Value, VR s u v' → scal u = true → VR t u v' := fun u hu hs => by
      have hf := flat_of_scal hs
      rw [hu.eq_of_flat hf]
      exact .same hf
    cases v with
    | pointer a =>
      cases a with
      | none => exact plain _ h rfl
      | some a =>
        obtain ⟨p, h1, h2, rfl⟩ := VR.ptr_inv (a := ⟨f a.block, a.off, a.spot⟩) h
        exact VR.ptr (a := a) h1 (hst _ _ hr h2)
    | slice a l c =>
      cases a with
      | none => exact plain _ h rfl
      | some a =>
        obtain ⟨p, c', h1, h2, h3, rfl⟩ := VR.slice_inv (a := ⟨f a.block, a.off, a.spot⟩) h
        exact VR.slice (a := a) h1 (hst _ _ hr h2) h3
    | map i =>
      cases i with
      | none => exact plain _ h rfl
      | some i =>
        obtain ⟨p, h1, rfl⟩ := VR.map_inv (i := f i) h
        exact VR.map (hst _ _ hr h1)
    | agg cs =>
      obtain ⟨xs⟩ := cs
      obtain ⟨ys, rfl, hl⟩ := VR.agg_inv (xs := xs.map (reV f n)) h
      have := hl.unmap ih hr
      exact VR.agg this.1 this.2
    | tuple cs =>
      obtain ⟨xs⟩ := cs
      obtain ⟨ys, rfl, hl⟩ := VR.tuple_inv (xs := xs.map (reV f n)) h
      have := hl.unmap ih hr
      exact VR.tuple this.1 this.2
    | iface t' x =>
      obtain ⟨y, rfl, hv⟩ := VR.iface_inv (x := reV f n x) h
      exact VR.iface (ih hv hr)
    | func g a b =>
      cases g with
      | func g =>
        obtain ⟨xs⟩ := a
        obtain ⟨us⟩ := b
        obtain ⟨ys, vs, rfl, hl, hl'⟩ := VR.func_inv (xs := xs.map (reV f n)) (us := us.map (reV f n)) h
        simp only [refF, Bool.and_eq_true] at hr
        have h1 := hl.unmap ih hr.1
        have h2 := hl'.unmap ih hr.2
        exact VR.func h1.1 h1.2 h2.1 h2.2
      | _ => simp [refF, scal] at hr
    | _ => exact plain _ h hr
def reO (f : Nat → Nat) (o : AO) : AO := ⟨o.live, o.es, o.cs.map (reV f 6)⟩
theorem ObjAt.ren {s t : Ren} {f : Nat → Nat} {ok : Nat → Bool} (hst : ∀ j p, ok j = true → s (f j) = some p → t j = some p) {p : Pl} {o : AO} {w : World} (h : ObjAt s p (reO f o) w) (hb : o.cs.all (refF ok 6) = true) : ObjAt t p o w := by
  refine ⟨fun hm => ?_, fun hm => ?_⟩
  · obtain ⟨cs', h1, h2⟩ := h.1 hm
    have h1 : LR s (o.cs.map (reV f 6)) cs' := h1
    exact ⟨cs', h1.unmap (VR.ren hst 6) hb, h2⟩
  · have B := h.2 hm
    refine ⟨by simpa [reO] using B.fit, B.all, B.shp, fun g1 g2 g3 g4 g5 => B.free g1 g2 g3 g4 (by simpa [reO] using g5), fun x v hv => ?_⟩
    obtain ⟨v', h1, h2⟩ := B.rel x (reV f 6 v) (by simp only [reO, List.getElem?_map, hv, Option.map_some])
    exact ⟨v', h1, h2.ren hst 6 (all_get hb hv)⟩
/-- Blocks told by other numbers, others given up. -/
theorem HR.renum {wb : Wb} {k : Nat} {s : Ren} {h1 : List AO} {w : World} (H : HR wb k s h1 w) {f : Nat → Nat} {q : Nat} {h2 : List AO} (hkq : k ≤ q) (hq : q ≤ h2.length) (hid : ∀ j, j < q → f j = j) (hge : ∀ j, q ≤ j → j < h2.length → q ≤ f j)
    (hinj : ∀ i j, i < h2.length → j < h2.length → f i = f j → i = j) (ho : ∀ j o, h2[j]? = some o → h1[f j]? = some (reO f o)) (hl : ∀ j o, h2[j]? = some o → q ≤ j → o.live = true ∧ o.es ≠ some GM)
    (hr : h2.all (refO fun x => decide (x < h2.length)) = true) : HR wb k (fun j => if j < h2.length then s (f j) else none) h2 w := by
  have hst : ∀ j p, (fun x => decide (x < h2.length)) j = true → s (f j) = some p → (fun j => if j < h2.length then s (f j) else none) j = some p := by
    intro j p hj hs
    simp only [decide_eq_true_eq] at hj
    simp only [if_pos hj]
    exact hs
  have at' : ∀ i p, (if i < h2.length then s (f i) else none) = some p → i < h2.length ∧ s (f i) = some p := by
    intro i p hp
    split at hp
    · rename_i hi; exact ⟨hi, hp⟩
    · cases hp
  refine ⟨H.grown, by omega, fun i hi => if_neg (by omega), fun i p hp => ?_, fun i o hi hv => ?_, fun i j a b p q' hi hj ha hb hp hq' e => ?_, fun g p hp hg => ?_⟩
  · obtain ⟨hi, hs⟩ := at' i p hp
    obtain ⟨c1, c2, c3⟩ := H.plc _ p hs
    by_cases hiq : i < q
    · rw [hid i hiq] at c1 c2
      exact ⟨c1, c2, c3⟩
    · exact ⟨fun hlt => absurd hlt (by omega), fun _ => c2 (by have := hge i (by omega) hi; omega), c3⟩
  · have hlt := (List.getElem?_eq_some_iff.1 hi).1
    obtain ⟨p, hp, he, hob⟩ := H.obj _ _ (ho i o hi) hv
    have hro := all_get' hr hi hv
    exact ⟨p, by rw [if_pos hlt]; exact hp, he, hob.ren hst hro⟩
  · have hlt := (List.getElem?_eq_some_iff.1 hi).1
    have hlt2 := (List.getElem?_eq_some_iff.1 hj).1
    rw [if_pos hlt] at hp
    rw [if_pos hlt2] at hq'
    exact hinj i j hlt hlt2 (H.sep _ _ _ _ p q' (ho i a hi) (ho j b hj) ha hb hp hq' e)
  · obtain ⟨hi, hs⟩ := at' g p hp
    by_cases hgq : g < q
    · rw [hid g hgq] at hs
      exact H.gl g p hs hg
    · have hx := List.getElem?_eq_getElem hi
      obtain ⟨h3, h4⟩ := hl g _ hx (by omega)
      obtain ⟨p', hp', he, _⟩ := H.obj _ _ (ho g _ hx) h3
      rw [hs] at hp'
      cases hp'
      exact absurd (he.symm.trans hg) h4
where
  all_get' {h2 : List AO} {ok : Nat → Bool} (hr : h2.all (refO ok) = true) {i : Nat} {o : AO} (hi : h2[i]? = some o) (hv : o.live = true) : o.cs.all (refF ok 6) = true := by
    have := List.all_eq_true.1 hr o (List.mem_of_getElem? hi)
    simpa [refO, hv] using this
/-- The first blocks keep their numbers; behind them stand those that are named. -/
def keepF (q : Nat) (keep : List Nat) (j : Nat) : Nat := bif Nat.blt j q then j else keep.getD (j - q) 0
def upB (q : Nat) : Nat → List Nat → Bool
  | _, [] => true
  | n, x :: l => Nat.ble n x && upB q (x + 1) l
theorem upB_spec {q : Nat} : ∀ {n : Nat} {l : List Nat}, upB q n l = true → (∀ (i x : Nat), l[i]? = some x → n ≤ x) ∧ ∀ (i j x : Nat), l[i]? = some x → l[j]? = some x → i = j
  | n, [], _ => ⟨fun i x h => by simp at h, fun i j x h => by simp at h⟩
  | n, y :: l, h => by
    simp only [upB, Bool.and_eq_true] at h
    obtain ⟨h1, h2⟩ := upB_spec h.2
    have hy := Nat.le_of_ble_eq_true h.1
    refine ⟨fun i x hx => ?_, fun i j x hx hj => ?_⟩
    · cases i with
      | zero => simp at hx; omega
      | succ i => have := h1 i x (by simpa using hx); omega
    · cases i with
      | zero =>
        cases j with
        | zero => rfl
        | succ j => simp at hx; subst hx; have := h1 j y (by simpa using hj); omega
      | succ i =>
        cases j with
        | zero => simp at hj; subst hj; have := h1 i y (by simpa using hx); omega
        | succ j => rw [h2 i j x (by simpa using hx) (by simpa using hj)]
def aliveB (o : AO) : Bool := o.live && (match o.es with | some e => !(Nat.beq e GM) | none => true)
/-- So many rounds lead from a state to another one; of the blocks the first ones keep their numbers. -/
def HopQ (P : Program) (c : Code) (n q : Nat) (t : List Value) (h : List AO) (t' : List Value) (h' : List AO) (mE : Mk) : Prop :=
  ∀ (wb : Wb) (k : Nat), Bnd k mE → k ≤ q → ∀ (s : Ren) (m : Mk) (a : Act) (w : World), SR wb k s ⟨t, h, m⟩ a w → ∀ (N : Nat) (Q : Exit → Act → World → Prop),
    (∀ s' a' w', (∀ i p, i < q → s i = some p → s' i = some p) → SR wb k s' ⟨t', h', m⟩ a' w' → Code.rounds P c Q N a' w') → Code.rounds P c Q (n + N) a w
/-- A state behind a run, with the blocks that are kept. -/
def keepS (q : Nat) (keep : List Nat) (x : St) : Option (List Value × List AO × Option Nat × List Int) :=
  if Nat.ble q x.h.length && (upB q q keep && keep.all fun i => aliveB (x.h.getD i dead)) then some (x.t, x.h.take q ++ keep.map fun i => x.h.getD i dead, x.m.1, inter x.m.2) else none
def hopC (t : List Value) (h : List AO) : Bool := t.all (refF (fun x => decide (x < h.length)) 6) && h.all (refO fun x => decide (x < h.length))
theorem keepS_ok {q : Nat} {keep : List Nat} {x : St} {t2 : List Value} {h2 : List AO} {lo : Option Nat} {cs : Cs} (hr : keepS q keep x = some (t2.map (reV (keepF q keep) 6), h2.map (reO (keepF q keep)), lo, inter cs)) (hb : hopC t2 h2 = true) :
    x.m = (lo, cs) ∧ ∀ (wb : Wb) (k : Nat) (s : Ren) (m : Mk) (a : Act) (w : World), k ≤ q → SR wb k s x a w → ∃ s', (∀ i p, i < q → s i = some p → s' i = some p) ∧ SR wb k s' ⟨t2, h2, m⟩ a w := by
  unfold keepS at hr
  split at hr
  · rename_i hcond
    simp only [Option.some.injEq, Prod.mk.injEq] at hr
    obtain ⟨ht, hh, hlo, hin⟩ := hr
    have hcs := inter_inj hin
    simp only [Bool.and_eq_true] at hcond
    obtain ⟨g2, g3, g4⟩ := hcond
    have g2 := Nat.le_of_ble_eq_true g2
    obtain ⟨u1, u2⟩ := upB_spec g3
    simp only [hopC, Bool.and_eq_true] at hb
    have hlen : h2.length = q + keep.length := by
      have := congrArg List.length hh
      simp only [List.length_append, List.length_take, List.length_map] at this
      omega
    have hlt : ∀ j, j < q → keepF q keep j = j := by
      intro j hj
      have : Nat.blt j q = true := by simpa [Nat.blt_eq] using hj
      simp [keepF, this]
    have hgt : ∀ j, q ≤ j → keepF q keep j = keep.getD (j - q) 0 := by
      intro j hj
      have : Nat.blt j q = false := by
        cases hb : Nat.blt j q with
        | false => rfl
        | true => rw [Nat.blt_eq] at hb; omega
      simp [keepF, this]
    have hkl : ∀ (i y : Nat), keep[i]? = some y → y < x.h.length := by
      intro i y hy
      by_cases hlt : y < x.h.length
      · exact hlt
      · have := List.all_eq_true.1 g4 y (List.mem_of_getElem? hy)
        rw [List.getD_eq_getElem?_getD, List.getElem?_eq_none (by omega)] at this
        simp [aliveB, dead] at this
    have hkeep : ∀ j, q ≤ j → j < h2.length → ∃ y, keep[j - q]? = some y ∧ keepF q keep j = y := by
      intro j h1 h3
      have hj : j - q < keep.length := by omega
      exact ⟨keep[j - q], List.getElem?_eq_getElem hj, by rw [hgt j h1, List.getD_eq_getElem?_getD, List.getElem?_eq_getElem hj]; rfl⟩
    have hat : ∀ j o, h2[j]? = some o → x.h[keepF q keep j]? = some (reO (keepF q keep) o) := by
      intro j o ho
      have hj := (List.getElem?_eq_some_iff.1 ho).1
      have e : (x.h.take q ++ keep.map fun i => x.h.getD i dead)[j]? = some (reO (keepF q keep) o) := by
        rw [hh, List.getElem?_map, ho]; rfl
      by_cases hjq : j < q
      · rw [hlt j hjq]
        rw [List.getElem?_append_left (by rw [List.length_take]; omega), List.getElem?_take, if_pos hjq] at e
        exact e
      · obtain ⟨y, hy, hfy⟩ := hkeep j (by omega) hj
        rw [hfy]
        rw [List.getElem?_append_right (by rw [List.length_take]; omega), List.length_take, Nat.min_eq_left g2, List.getElem?_map, hy] at e
        simp only [Option.map_some, Option.some.injEq] at e
        have hyl := hkl _ _ hy
        rw [List.getElem?_eq_getElem hyl, ← e, List.getD_eq_getElem?_getD, List.getElem?_eq_getElem hyl]
        rfl
    refine ⟨by rw [← hlo, ← hcs], fun wb k s m a w hkq H' => ?_⟩
    have HH := H'.h.renum (f := keepF q keep) (q := q) (h2 := h2) hkq (by omega) hlt
      (fun j h1 h3 => by
        obtain ⟨y, hy, hfy⟩ := hkeep j h1 h3
        rw [hfy]; exact u1 _ _ hy)
      (fun i j hi hj e => by
        by_cases h1 : i < q
        · rw [hlt i h1] at e
          by_cases h3 : j < q
          · rw [hlt j h3] at e; exact e
          · obtain ⟨y, hy, hfy⟩ := hkeep j (by omega) hj
            have := u1 _ _ hy
            omega
        · obtain ⟨y, hy, hfy⟩ := hkeep i (by omega) hi
          by_cases h3 : j < q
          · rw [hlt j h3] at e
            have := u1 _ _ hy
            omega
          · obtain ⟨z, hz, hfz⟩ := hkeep j (by omega) hj
            rw [hfy, hfz] at e
            subst e
            have := u2 _ _ _ hy hz
            omega) hat
      (fun j o ho hjq => by
        have hj := (List.getElem?_eq_some_iff.1 ho).1
        obtain ⟨y, hy, hfy⟩ := hkeep j hjq hj
        have e := hat j o ho
        rw [hfy] at e
        have hl := List.all_eq_true.1 g4 y (List.mem_of_getElem? hy)
        rw [List.getD_eq_getElem?_getD, e] at hl
        simp only [Option.getD_some, aliveB, reO, Bool.and_eq_true] at hl
        refine ⟨hl.1, fun hg => ?_⟩
        rw [hg] at hl
        simp [Nat.beq_refl] at hl) hb.2
    refine ⟨_, fun i p hi hp => ?_, ⟨?_, H'.d, HH⟩⟩
    · show (if i < h2.length then s (keepF q keep i) else none) = some p
      rw [if_pos (by omega), hlt i hi]
      exact hp
    · have h5 : LR s (t2.map (reV (keepF q keep) 6)) a.tmps.toList := by
        have := H'.t
        rw [ht] at this
        exact this
      refine h5.unmap (VR.ren (ok := fun y => decide (y < h2.length)) (fun j p hj hs => ?_) 6) hb.1
      simp only [decide_eq_true_eq] at hj
      show (if j < h2.length then s (keepF q keep j) else none) = some p
      rw [if_pos hj]
      exact hs
  · cases hr
/-- So many rounds: the state behind them, with the blocks that are kept. -/
noncomputable def hopRun (P : Program) (hk : Hook3) (orc : Orc) (fid : FuncId) (c : Code) (n q : Nat) (keep : List Nat) (t : List Value) (h : List AO) : Option (List Value × List AO × Option Nat × List Int) :=
  match iterB (bodyE P hk orc fid c) n ⟨t, h, (none, [])⟩ with
  | some x => keepS q keep x
  | none => none
theorem hopR_ok {P : Program} (hng : NoNG P) {hk : Hook3} (hhk : HookOk3 P hk) {orc : Orc} {fid : FuncId} {c : Code} {n q : Nat} (keep : List Nat) {t t2 : List Value} {h h2 : List AO} {lo : Option Nat} {cs : Cs}
    (hr : hopRun P hk orc fid c n q keep t h = some (t2.map (reV (keepF q keep) 6), h2.map (reO (keepF q keep)), lo, inter cs)) (hb : hopC t2 h2 = true) (hc : ∀ c ∈ cs, c.1 = c.2) : HopQ P c n q t h t2 h2 (lo, []) := by
  unfold hopRun at hr
  split at hr
  · rename_i x hx
    obtain ⟨hm2, hk2⟩ := keepS_ok hr hb
    intro wb k hm hkq s m a w H N Q hQ
    refine iterB_ok (bodyE_ok hng hhk orc fid c) wb k (bodyE_low orc fid c k) n ⟨t, h, (none, [])⟩ x hx (by rw [hm2]; exact ⟨hm.1, hc⟩) s a w ⟨H.t, H.d, H.h⟩ N Q fun s' a' w' hle H' => ?_
    obtain ⟨s2, h1, h3⟩ := hk2 wb k s' m a' w' hkq H'
    exact hQ s2 a' w' (fun i p hi hp => h1 i p hi (hle i p hp)) h3
  · cases hr
section
variable {P : Program} {c : Code}
theorem HopQ.zero (q : Nat) (t : List Value) (h : List AO) (m : Mk) : HopQ P c 0 q t h t h m := by
  intro wb k hm hkq s m a w H N Q hQ
  rw [Nat.zero_add]
  exact hQ s a w (fun _ _ _ h => h) H
theorem HopQ.trans {n N q : Nat} {t t1 t2 : List Value} {h h1 h2 : List AO} {m1 m2 m3 : Mk} (a : HopQ P c n q t h t1 h1 m1) (b : HopQ P c N q t1 h1 t2 h2 m2) (hm1 : ∀ k, k ≤ q → Bnd k m3 → Bnd k m1) (hm2 : ∀ k, k ≤ q → Bnd k m3 → Bnd k m2) : HopQ P c (n + N) q t h t2 h2 m3 := by
  intro wb k hm hkq s m act w H M Q hQ
  rw [Nat.add_assoc]
  exact a wb k (hm1 k hkq hm) hkq s m act w H (N + M) Q fun s' a' w' hle H' => b wb k (hm2 k hkq hm) hkq s' m a' w' H' M Q fun s'' a'' w'' hle' H'' => hQ s'' a'' w'' (fun i p hi hp => hle' i p hi (hle i p hi hp)) H''
/-- Within so many rounds the loop ends, of the blocks the first ones keep their numbers. -/
def StopQ (P : Program) (c : Code) (n q : Nat) (t : List Value) (h : List AO) (e : Exit) (t' : List Value) (h' : List AO) (mE : Mk) : Prop :=
  ∀ (wb : Wb) (k : Nat), Bnd k mE → k ≤ q → ∀ (s : Ren) (m : Mk) (a : Act) (w : World), SR wb k s ⟨t, h, m⟩ a w → ∀ (m' : Mk), Code.rounds P c (fun e' a' w' => e' = e ∧ ∃ s', (∀ i p, i < q → s i = some p → s' i = some p) ∧ SR wb k s' ⟨t', h', m'⟩ a' w') n a w
theorem rounds_mono {A B : Exit → Act → World → Prop} (h : ∀ e a w, A e a w → B e a w) : ∀ (n : Nat) (a : Act) (w : World), Code.rounds P c A n a w → Code.rounds P c B n a w := by
  intro n
  induction n with
  | zero => intro a w h; exact h
  | succ n ih =>
    intro a w h0
    rw [rounds_succ] at h0 ⊢
    refine Code.wp_mono (fun e' a' w' hp => ?_) h0
    cases e' <;> first | exact ih _ _ hp | exact h _ _ _ hp
theorem HopQ.stop {n N q : Nat} {t t1 t2 : List Value} {h h1 h2 : List AO} {e : Exit} {m1 m2 m3 : Mk} (a : HopQ P c n q t h t1 h1 m1) (b : StopQ P c N q t1 h1 e t2 h2 m2) (hm1 : ∀ k, k ≤ q → Bnd k m3 → Bnd k m1) (hm2 : ∀ k, k ≤ q → Bnd k m3 → Bnd k m2) : StopQ P c (n + N) q t h e t2 h2 m3 := by
  intro wb k hm hkq s m act w H m'
  refine a wb k (hm1 k hkq hm) hkq s m act w H N _ fun s' a' w' hle H' => ?_
  exact rounds_mono (fun e' a'' w'' hp => ⟨hp.1, let ⟨s'', h3, h4⟩ := hp.2; ⟨s'', fun i p hi hq => h3 i p hi (hle i p hi hq), h4⟩⟩) N a' w' (b wb k (hm2 k hkq hm) hkq s' m a' w' H' m')
theorem StopQ.stop {n q : Nat} {t t2 : List Value} {h h2 : List AO} {e : Exit} {m : Mk} (a : StopQ P c n q t h e t2 h2 m) (hq : h.length = q) : Stop P c n t h e t2 h2 m := by
  intro wb k hm s m0 act w H m'
  have hkq : k ≤ q := by have : k ≤ h.length := H.h.kle; omega
  refine rounds_mono (fun e' a'' w'' hp => ⟨hp.1, let ⟨s'', h3, h4⟩ := hp.2; ⟨s'', fun i p hi => ?_, h4⟩⟩) n act w (a wb k hm hkq s m0 act w H m')
  have hlt : i < q := by
    rcases Nat.lt_or_ge i q with h1 | h1
    · exact h1
    · have e1 : s i = none := H.h.dom i (by show h.length ≤ i; omega)
      rw [e1] at hi; cases hi
  exact h3 i p hlt hi
end
/-- The end of a loop, with the blocks that are kept. -/
noncomputable def stopRun (P : Program) (hk : Hook3) (orc : Orc) (fid : FuncId) (c : Code) (n q : Nat) (keep : List Nat) (t : List Value) (h : List AO) : Option (Exit × Option (List Value × List AO × Option Nat × List Int)) :=
  match loopN (bodyE P hk orc fid c) n ⟨t, h, (none, [])⟩ with
  | some (e, x) => some (e, keepS q keep x)
  | none => none
theorem stopR_ok {P : Program} (hng : NoNG P) {hk : Hook3} (hhk : HookOk3 P hk) {orc : Orc} {fid : FuncId} {c : Code} {n q : Nat} (keep : List Nat) {t t2 : List Value} {h h2 : List AO} {e : Exit} {lo : Option Nat} {cs : Cs}
    (hr : stopRun P hk orc fid c n q keep t h = some (e, some (t2.map (reV (keepF q keep) 6), h2.map (reO (keepF q keep)), lo, inter cs))) (hb : hopC t2 h2 = true) (hc : ∀ c ∈ cs, c.1 = c.2) : StopQ P c n q t h e t2 h2 (lo, []) := by
  unfold stopRun at hr
  split at hr
  · rename_i e1 x hx
    simp only [Option.some.injEq, Prod.mk.injEq] at hr
    obtain ⟨rfl, hr⟩ := hr
    obtain ⟨hm2, hk2⟩ := keepS_ok hr hb
    intro wb k hm hkq s m a w H m'
    obtain ⟨xt, xh, xm⟩ := x
    have st := stop_ok hng hhk hx wb k (by rw [show xm = (lo, cs) from hm2]; exact ⟨hm.1, hc⟩) s m a w H xm
    exact rounds_mono (fun e' a' w' hp => ⟨hp.1, let ⟨s', h1, h2⟩ := hp.2; let ⟨s2, h3, h4⟩ := hk2 wb k s' m' a' w' hkq h2; ⟨s2, fun i p hi hq => h3 i p hi (h1 i p hq), h4⟩⟩) n a w st
  · cases hr

def loB (q : Nat) (lo lo3 : Option Nat) : Bool :=
  match lo with
  | none => true
  | some i => Nat.ble q i || (match lo3 with | some j => Nat.ble j i | none => false)
theorem bndW {q : Nat} {lo lo3 : Option Nat} (h : loB q lo lo3 = true) : ∀ k, k ≤ q → Bnd k (lo3, []) → Bnd k (lo, []) := by
  intro k hk hm
  refine ⟨fun i hi => ?_, fun c hc => by cases hc⟩
  simp only at hi
  subst hi
  simp only [loB, Bool.or_eq_true] at h
  rcases h with h | h
  · have := Nat.le_of_ble_eq_true h
    omega
  · cases lo3 with
    | none => cases h
    | some j =>
      have h1 := Nat.le_of_ble_eq_true h
      have h2 := hm.1 j rfl
      omega
theorem no_cs {P : Int × Int → Prop} : ∀ c ∈ ([] : Cs), P c := fun _ h => by cases h

/-! Patterns: a number that is not known stands as a hole. -/
def hole (j : Nat) (k : IntKind) : Value := .tuple ⟨[.chan (some j), .int k 0]⟩
def holeOf : Value → Option (Nat × IntKind)
  | .tuple vs =>
    match vs.toList with
    | [.chan (some j), .int k _] => some (j, k)
    | _ => none
  | _ => none
abbrev Bs := List (Nat × Int)
def matchL (m : Value → Value → Option Bs) : List Value → List Value → Option Bs
  | [], [] => some []
  | x :: xs, y :: ys =>
    match m x y with
    | some a =>
      match matchL m xs ys with
      | some b => some (a ++ b)
      | none => none
    | none => none
  | _, _ => none
def matchV : Nat → Value → Value → Option Bs
  | 0, _, _ => none
  | n + 1, p, v =>
    match holeOf p with
    | some (j, k) =>
      match v with
      | .int k' m => if Nat.beq (kIx k') (kIx k) then some [(j, m)] else none
      | _ => none
    | none =>
      match p, v with
      | .agg a, .agg b => matchL (matchV n) a.toList b.toList
      | .tuple a, .tuple b => matchL (matchV n) a.toList b.toList
      | x, y => if eqI x y then some [] else none
def inst (ρ : Nat → Int) : Nat → Value → Value
  | 0, v => v
  | n + 1, p =>
    match holeOf p with
    | some (j, k) => .int k (ρ j)
    | none =>
      match p with
      | .agg a => .agg ⟨a.toList.map (inst ρ n)⟩
      | .tuple a => .tuple ⟨a.toList.map (inst ρ n)⟩
      | x => x
theorem matchL_ok {ρ : Nat → Int} {m : Value → Value → Option Bs} {g : Value → Value} (hm : ∀ x y bs, m x y = some bs → (∀ b ∈ bs, ρ b.1 = b.2) → g x = y) : ∀ {xs ys : List Value} {bs : Bs}, matchL m xs ys = some bs → (∀ b ∈ bs, ρ b.1 = b.2) → xs.map g = ys
  | [], [], _, _, _ => rfl
  | x :: xs, y :: ys, bs, h, hb => by
    simp only [matchL] at h
    split at h
    · rename_i a ha
      split at h
      · rename_i b hb'
        cases h
        rw [List.map_cons, hm x y a ha fun c hc => hb c (List.mem_append_left _ hc), matchL_ok hm hb' fun c hc => hb c (List.mem_append_right _ hc)]
      · cases h
    · cases h
  | [], _ :: _, _, h, _ => by cases h
  | _ :: _, [], _, h, _ => by cases h
theorem matchV_ok {ρ : Nat → Int} : ∀ (n : Nat) (p v : Value) (bs : Bs), matchV n p v = some bs → (∀ b ∈ bs, ρ b.1 = b.2) → inst ρ n p = v
  | 0, p, v, bs, h, _ => by cases h
  | n + 1, p, v, bs, h, hb => by
    unfold matchV at h
    unfold inst
    split at h
    · rename_i j k hh
      split at h
      · rename_i k' m
        split at h
        · rename_i hk
          cases h
          rw [kIx_inj hk, hb (j, m) (List.mem_singleton.2 rfl)]
        · cases h
      · cases h
    · rename_i hh
      split at h
      · rename_i a b
        simp only
        rw [matchL_ok (matchV_ok n) h hb]
      · rename_i a b
        simp only
        rw [matchL_ok (matchV_ok n) h hb]
      · rename_i x y hne1 hne2
        split at h
        · rename_i he
          obtain rfl := eqI_ok he
          split
          · rename_i a; exact absurd rfl (hne1 a a rfl)
          · rename_i a; exact absurd rfl (hne2 a a rfl)
          · rfl
        · cases h
def matchH : List AO → List AO → Option Bs
  | [], [] => some []
  | o :: l, p :: h =>
    if o.live == p.live && eqEs o.es p.es then
      match matchL (matchV 4) o.cs p.cs with
      | some a =>
        match matchH l h with
        | some b => some (a ++ b)
        | none => none
      | none => none
    else none
  | _, _ => none
def instO (ρ : Nat → Int) (o : AO) : AO := ⟨o.live, o.es, o.cs.map (inst ρ 4)⟩
theorem matchH_ok {ρ : Nat → Int} : ∀ {l h : List AO} {bs : Bs}, matchH l h = some bs → (∀ b ∈ bs, ρ b.1 = b.2) → l.map (instO ρ) = h
  | [], [], _, _, _ => rfl
  | o :: l, p :: h, bs, hh, hb => by
    simp only [matchH] at hh
    split at hh
    · rename_i hc
      split at hh
      · rename_i a ha
        split at hh
        · rename_i b hb'
          cases hh
          simp only [Bool.and_eq_true] at hc
          obtain ⟨pl, pe, pc⟩ := p
          have h1 := eq_of_beq hc.1
          have h2 := eqEs_ok hc.2
          have h3 := matchL_ok (ρ := ρ) (matchV_ok 4) ha fun c hm => hb c (List.mem_append_left _ hm)
          simp only at h1 h2 h3
          rw [List.map_cons, matchH_ok hb' fun c hm => hb c (List.mem_append_right _ hm), instO, h1, h2, h3]
        · cases hh
      · cases hh
    · cases hh
  | [], _ :: _, _, h, _ => by cases h
  | _ :: _, [], _, h, _ => by cases h
def lookB : Bs → Nat → Int
  | [], _ => 0
  | b :: l, j => bif Nat.beq b.1 j then b.2 else lookB l j
def freshB : Bs → Bool
  | [] => true
  | b :: l => l.all (fun c => !(Nat.beq c.1 b.1)) && freshB l
theorem lookB_ok : ∀ {l : Bs}, freshB l = true → ∀ b ∈ l, lookB l b.1 = b.2
  | [], _, b, hb => by cases hb
  | a :: l, h, b, hb => by
    simp only [freshB, Bool.and_eq_true] at h
    rcases List.mem_cons.1 hb with rfl | hm
    · simp [lookB, Nat.beq_refl]
    · have := List.all_eq_true.1 h.1 b hm
      have hne : Nat.beq a.1 b.1 = false := by
        cases hx : Nat.beq a.1 b.1 with
        | false => rfl
        | true =>
          have e := Nat.eq_of_beq_eq_true hx
          rw [e, Nat.beq_refl] at this
          cases this
      simp only [lookB, hne, cond_false]
      exact lookB_ok h.2 b hm
/-- A loop, from a state of a pattern on to its end. -/
structure LoopP where
  f : FuncId
  t : List Value
  h : List AO
  e : Exit
  t' : (Nat → Int) → List Value
  h' : (Nat → Int) → List AO
  lo : Option Nat
  cond : (Nat → Int) → Cs
def LoopP.at (e : LoopP) (ρ : Nat → Int) : LoopT := ⟨e.f, e.t.map (inst ρ 4), e.h.map (instO ρ), e.e, e.t' ρ, e.h' ρ, (e.lo, [])⟩
def matchS (e : LoopP) (fid : FuncId) (x : St) : Option Bs :=
  if Nat.beq fid e.f && Nat.beq x.h.length e.h.length then
    match matchL (matchV 4) e.t x.t with
    | some a =>
      match matchH e.h x.h with
      | some b => if freshB (a ++ b) then some (a ++ b) else none
      | none => none
    | none => none
  else none
def loopPHook : List LoopP → LoopHook
  | [] => fun _ _ _ => none
  | e :: l => fun fid c x =>
    match matchS e fid x with
    | some bs => some (e.e, ⟨e.t' (lookB bs), e.h' (lookB bs), low x.m (e.lo, e.cond (lookB bs))⟩)
    | none => loopPHook l fid c x
def LoopPOk (P : Program) (e : LoopP) : Prop := ∀ ρ : Nat → Int, (∀ c ∈ e.cond ρ, c.1 = c.2) → LoopTOk P (e.at ρ)
theorem loopPHook_low : ∀ (l : List LoopP), LoopLow (loopPHook l)
  | [] => by intro f c x x' e h; cases h
  | q :: l => by
    intro f c x x' e h k hm
    unfold loopPHook at h
    split at h
    · cases h
      exact (bnd_low hm).1
    · exact loopPHook_low l f c x x' e h k hm
theorem loopPHook_ok {P : Program} : ∀ {l : List LoopP}, (∀ e ∈ l, LoopPOk P e) → LoopsOk P (loopPHook l)
  | [], _ => by intro f fn c _ _ c' _ x x' e h; cases h
  | q :: l, hq => by
    intro f fn c hf hb c' hc x x' e h wb k s a w hm H
    unfold loopPHook at h
    split at h
    · rename_i bs hbs
      cases h
      unfold matchS at hbs
      split at hbs
      · rename_i hcond
        simp only [Bool.and_eq_true] at hcond
        obtain rfl := Nat.eq_of_beq_eq_true hcond.1
        split at hbs
        · rename_i a1 ha1
          split at hbs
          · rename_i b1 hb1
            split at hbs
            · rename_i hfr
              cases hbs
              have lk := lookB_ok hfr
              obtain ⟨xt, xh, xm⟩ := x
              have e1 := matchL_ok (matchV_ok 4) ha1 fun b hb => lk b (List.mem_append_left _ hb)
              have e2 := matchH_ok hb1 fun b hb => lk b (List.mem_append_right _ hb)
              simp only at e1 e2
              obtain ⟨hm1, hm2⟩ := bnd_low hm
              have := hq q List.mem_cons_self (lookB (a1 ++ b1)) hm2.2 fn c hf hb c' hc wb k ⟨hm2.1, fun c hc => by cases hc⟩ s xm (low xm (q.lo, q.cond (lookB (a1 ++ b1)))) a w
              exact this ⟨by show LR s (q.t.map (inst (lookB (a1 ++ b1)) 4)) _; rw [e1]; exact H.t, H.d, by show HR wb k s (q.h.map (instO (lookB (a1 ++ b1)))) w; rw [e2]; exact H.h⟩
            · cases hbs
          · cases hbs
        · cases hbs
      · cases hbs
    · exact loopPHook_ok (fun e he => hq e (List.mem_cons_of_mem _ he)) f fn c hf hb c' hc x x' e h wb k s a w hm H
/-- A run that reads a package's variables, with loops that are told. -/
noncomputable def reckonPI (P : Program) (hk : Hook3) (orc : Orc) (lh : LoopHook) (L f : Nat) (h0 : List AO) (g : FuncId) (args : List Value) : Option (Value × List Int) :=
  match callA P ⟨exG P (aOp P) (drawE P) hk orc accQ lh L f, hk, fun _ _ => none, accQ⟩ g args h0 with
  | some (v, _, m) => if quietB h0.length m.1 then some (v, inter m.2) else none
  | none => none
theorem reckonP_ok {P : Program} (hng : NoNG P) {hk : Hook3} (hhk : HookOk3 P hk) {lh : LoopHook} (hll : LoopLow lh) (hlo : LoopsOk P lh) (orc : Orc) (L f : Nat) (h0 : List AO) {g : FuncId} {args : List Value} {v : Value} {cs : Cs} (ha : args.all flat = true) (hv : flat v = true) (h : reckonPI P hk orc lh L f h0 g args = some (v, inter cs))
    (he : ∀ c ∈ cs, c.1 = c.2) (w : World) (hL : Laid h0 w) : Calls P g ⟨args⟩ w fun e w' => e = .returned v ∧ Gr w w' := by
  unfold reckonPI at h
  split at h
  · rename_i v' h' m hr
    split at h
    · rename_i hq
      simp only [Option.some.injEq, Prod.mk.injEq] at h
      obtain ⟨rfl, h2⟩ := h
      have h3 := inter_inj h2
      refine (callA_ok (exG_ok accQ_eq hng (aOp_ok P hng) (drawE_ok P) (drawE_low P) hhk hll hlo L f _) hr (wb := w) (k := h0.length) (s := placeG h0 w) ⟨quietB_ok hq, by rw [h3]; exact he⟩ (LR.ofFlat ha) (HR.start hL)).mono ?_
      rintro e w' ⟨s', u, rfl, _, H, hvr⟩
      rw [hvr.eq_of_flat hv]
      exact ⟨rfl, H.grown.gr⟩
    · cases h
  · cases h
end Go.Proofs.Ytafegjmaldbbiaa.Ex
