/-
  Lemmas for the laws of this seat, part E: Ex25, Ex26, Ex27, Ex28, Ex29, SlHook, Sk0, Is1, Is2, Is3, Is4, NumsMath, NumsMath2, NumsN, Bytes, Is5, Is6, Is8, Is9, Is10, PostGr.
-/
import Derived.Test.YthhgfjnnconocaaGreatDoorPackD
import Derived.Test.YthhgfjnnconocaaGreatDoorProg
import Derived.Handy
import Derived.Lib.SlBytesRow
import Derived.ChangeSame
section
namespace Go.Proofs.YthhgfjnnconocaaGreatDoor.Ex
set_option maxRecDepth 20000

open Go Go.RowKit
set_option linter.unusedVariables false
def okR (q : Nat) (v : Value) : Bool := refF (fun x => decide (x < q)) 6 v
def FlR (q : Nat) (β : Nat → Value) : Prop := ∀ k, okR q (β k) = true
theorem refF_mono {a b : Nat → Bool} (h : ∀ x, a x = true → b x = true) : ∀ (n : Nat) {v : Value}, refF a n v = true → refF b n v = true
  | 0, v, hv => hv
  | n + 1, v, hv => by
    have all : ∀ {l : List Value}, l.all (refF a n) = true → l.all (refF b n) = true := fun {l} hl => List.all_eq_true.2 fun v hm => refF_mono h n (List.all_eq_true.1 hl v hm)
    cases v with
    | pointer x => cases x with
      | none => exact hv
      | some x => exact h _ hv
    | slice x l c => cases x with
      | none => exact hv
      | some x => exact h _ hv
    | map r => cases r with
      | none => exact hv
      | some r => exact h _ hv
    | func g x y =>
      cases g with
      | func g =>
        simp only [refF, Bool.and_eq_true] at hv ⊢
        exact ⟨all hv.1, all hv.2⟩
      | _ => exact hv
    | agg cs => exact all hv
    | tuple cs => exact all hv
    | iface t x => exact refF_mono h n (v := x) hv
    | _ => exact hv
section
variable {P : Program}
end
end Go.Proofs.YthhgfjnnconocaaGreatDoor.Ex
end
section
namespace Go.Proofs.YthhgfjnnconocaaGreatDoor.Ex
set_option maxRecDepth 20000

open Go Go.RowKit
set_option linter.unusedVariables false
def maskQ : List Bool → List Value → List Value
  | d :: ds, v :: vs => (bif d then .bool true else v) :: maskQ ds vs
  | _, vs => vs
theorem unmaskQ_of {β : Nat → Value} : ∀ {i : Nat} {ds : List Bool} {xs ts : List Value}, maskQ ds xs = ts → (∀ j x, xs[j]? = some x → β (i + j) = x) → xs = unmask β i ds ts
  | i, [], xs, ts, h, _ => by
    have e : maskQ [] xs = xs := by cases xs <;> rfl
    have e2 : unmask β i [] ts = ts := by cases ts <;> rfl
    rw [e2, ← h, e]
  | i, d :: ds, [], ts, h, _ => by
    cases ts with
    | nil => rfl
    | cons t ts => simp [maskQ] at h
  | i, d :: ds, x :: xs, [], h, _ => by simp [maskQ] at h
  | i, d :: ds, x :: xs, t :: ts, h, hb => by
    simp only [maskQ, List.cons.injEq] at h
    obtain ⟨h1, h2⟩ := h
    have ih := unmaskQ_of (β := β) (i := i + 1) h2 (fun j y hy => by rw [show i + 1 + j = i + (j + 1) by omega]; exact hb (j + 1) y (by simpa using hy))
    simp only [unmask, ← ih]
    congr 1
    cases d
    · exact h1
    · have h5 := hb 0 x rfl
      rw [Nat.add_zero] at h5
      exact h5.symm
def atQ (xs : List Value) (k : Nat) : Value := xs.getD k .nilFunc
theorem atQ_at {xs : List Value} {j : Nat} {x : Value} (h : xs[j]? = some x) : atQ xs j = x := by
  unfold atQ
  rw [List.getD_eq_getElem?_getD, h]
  rfl
section
variable {P : Program} {c : Code}
theorem Hop.trans {n N : Nat} {t t1 t2 : List Value} {h h1 h2 : List AO} {m1 m2 m3 : Mk} (a : Hop P c n t h t1 h1 m1) (b : Hop P c N t1 h1 t2 h2 m2) (hm1 : ∀ k, Bnd k m3 → Bnd k m1) (hm2 : ∀ k, Bnd k m3 → Bnd k m2) : Hop P c (n + N) t h t2 h2 m3 := by
  intro wb k hm s m act w H M Q hQ
  rw [Nat.add_assoc]
  exact a wb k (hm1 k hm) s m act w H (N + M) Q fun s' a' w' hle H' => b wb k (hm2 k hm) s' m a' w' H' M Q fun s'' a'' w'' hle' H'' => hQ s'' a'' w'' (hle.trans hle') H''
theorem Hop.zero (t : List Value) (h : List AO) (m : Mk) : Hop P c 0 t h t h m := by
  intro wb k hm s m a w H N Q hQ
  rw [Nat.zero_add]
  exact hQ s a w (Le.refl s) H
theorem Hop.stop' {n N : Nat} {t t1 t2 : List Value} {h h1 h2 : List AO} {e : Exit} {m1 m2 m3 : Mk} (a : Hop P c n t h t1 h1 m1) (b : Stop P c N t1 h1 e t2 h2 m2) (hm1 : ∀ k, Bnd k m3 → Bnd k m1) (hm2 : ∀ k, Bnd k m3 → Bnd k m2) : Stop P c (n + N) t h e t2 h2 m3 := by
  intro wb k hm s m act w H m'
  exact a wb k (hm1 k hm) s m act w H N _ fun s' a' w' hle H' => rounds_le hle N a' w' (b wb k (hm2 k hm) s' m a' w' H' m')
theorem hopM_ok (hng : NoNG P) {hk : Hook3} (hhk : HookOk3 P hk) {lh : LoopHook} (hll : LoopLow lh) (hlo : LoopsOk P lh) {orc : Orc} {fid : FuncId} {nn : Nat} (h1 : oneLoopN P fid nn = true) {n : Nat} {t : List Value} {h h2 : List AO} {lo : Option Nat} {cs : Cs}
    {ds : List Bool} {T : (Nat → Value) → List Value} (hun : ∀ β, unmask β 0 ds (T fun _ => .bool true) = T β)
    (hr : (iterB (bodyL P hk orc lh fid (theLoopN P fid nn)) n ⟨t, h, (none, [])⟩).map (fun x => (maskQ ds x.t, x.h, x.m.1, inter x.m.2)) = some (T fun _ => .bool true, h2, lo, inter cs)) (hc : ∀ c ∈ cs, c.1 = c.2) : ∃ β', Hop P (theLoopN P fid nn) n t h (T β') h2 (lo, []) := by
  cases hx : iterB (bodyL P hk orc lh fid (theLoopN P fid nn)) n ⟨t, h, (none, [])⟩ with
  | none => rw [hx] at hr; cases hr
  | some x =>
    obtain ⟨xt, xh, xm⟩ := x
    rw [hx] at hr
    simp only [Option.map_some, Option.some.injEq, Prod.mk.injEq] at hr
    obtain ⟨g1, g2, g3, g4⟩ := hr
    have g4 := inter_inj g4
    subst g2
    refine ⟨atQ xt, ?_⟩
    have e := unmaskQ_of (β := atQ xt) (i := 0) g1 (fun j x hx => by rw [Nat.zero_add]; exact atQ_at hx)
    rw [hun] at e
    rw [← e]
    intro wb k hm s m a w H N Q hQ
    exact iterB_ok (bodyL_ok hng hhk hll hlo orc fid _ (loopV_of hlo h1)) wb k (bodyL_low orc hll fid _ k) n ⟨t, h, (none, [])⟩ ⟨xt, xh, xm⟩ hx (by
      obtain ⟨x1, x2⟩ := xm
      simp only at g3 g4
      subst g3 g4
      exact ⟨hm.1, hc⟩) s a w ⟨H.t, H.d, H.h⟩ N Q fun s' a' w' hle H' => hQ s' a' w' hle ⟨H'.t, H'.d, H'.h⟩
theorem stopM_ok (hng : NoNG P) {hk : Hook3} (hhk : HookOk3 P hk) {lh : LoopHook} (hll : LoopLow lh) (hlo : LoopsOk P lh) {orc : Orc} {fid : FuncId} {nn : Nat} (h1 : oneLoopN P fid nn = true) {n : Nat} {t : List Value} {h h2 : List AO} {e : Exit} {lo : Option Nat} {cs : Cs}
    {ds : List Bool} {T : (Nat → Value) → List Value} (hun : ∀ β, unmask β 0 ds (T fun _ => .bool true) = T β)
    (hr : (loopN (bodyL P hk orc lh fid (theLoopN P fid nn)) n ⟨t, h, (none, [])⟩).map (fun r => (r.1, maskQ ds r.2.t, r.2.h, r.2.m.1, inter r.2.m.2)) = some (e, T fun _ => .bool true, h2, lo, inter cs)) (hc : ∀ c ∈ cs, c.1 = c.2) : ∃ β', Stop P (theLoopN P fid nn) n t h e (T β') h2 (lo, []) := by
  cases hx : loopN (bodyL P hk orc lh fid (theLoopN P fid nn)) n ⟨t, h, (none, [])⟩ with
  | none => rw [hx] at hr; cases hr
  | some x =>
    obtain ⟨e1, xt, xh, xm⟩ := x
    rw [hx] at hr
    simp only [Option.map_some, Option.some.injEq, Prod.mk.injEq] at hr
    obtain ⟨rfl, g1, g2, g3, g4⟩ := hr
    have g4 := inter_inj g4
    subst g2
    refine ⟨atQ xt, ?_⟩
    have e := unmaskQ_of (β := atQ xt) (i := 0) g1 (fun j x hx => by rw [Nat.zero_add]; exact atQ_at hx)
    rw [hun] at e
    rw [← e]
    intro wb k hm s m a w H m'
    have st := stopL_any (bodyL_ok hng hhk hll hlo orc fid _ (loopV_of hlo h1)) (bodyL_low orc hll fid _) hx wb k (by
      obtain ⟨x1, x2⟩ := xm
      simp only at g3 g4
      subst g3 g4
      exact ⟨hm.1, hc⟩) s m a w H m'
    exact st
end
end Go.Proofs.YthhgfjnnconocaaGreatDoor.Ex
end
section
namespace Go.Proofs.YthhgfjnnconocaaGreatDoor.Ex
set_option maxRecDepth 20000

open Go Go.RowKit
set_option linter.unusedVariables false
section
variable {P : Program}
theorem okR_mono {a b : Nat} (h : a ≤ b) {v : Value} (hv : okR a v = true) : okR b v = true := refF_mono (fun x hx => decide_eq_true (by have := of_decide_eq_true hx; omega)) 6 hv
theorem FlR.mono {a b : Nat} {β : Nat → Value} (h : a ≤ b) (hf : FlR a β) : FlR b β := fun k => okR_mono h (hf k)
end
end Go.Proofs.YthhgfjnnconocaaGreatDoor.Ex
end
section
namespace Go.Proofs.YthhgfjnnconocaaGreatDoor.Ex
set_option maxRecDepth 20000

open Go Go.RowKit
set_option linter.unusedVariables false
theorem VR.back {s t : Ren} {f : Nat → Nat} {ok : Nat → Bool} (hst : ∀ j p, ok j = true → t j = some p → s (f j) = some p) : ∀ (n : Nat) {v v' : Value}, VR t v v' → refF ok n v = true → VR s (reV f n v) v'
  | 0, v, v', h, hr => by
    have hf : flat v = true := flat_of_scal hr
    rw [h.eq_of_flat hf]
    exact .same hf
  | n + 1, v, v', h, hr => by
    have ih := fun {v v' : Value} => VR.back hst n (v := v) (v' := v')
    have mp : ∀ {xs ys : List Value}, xs.length = ys.length → (∀ (i : Nat) (x y : Value), xs[i]? = some x → ys[i]? = some y → VR t x y) → xs.all (refF ok n) = true → (xs.map (reV f n)).length = ys.length ∧ ∀ (i : Nat) (x y : Value), (xs.map (reV f n))[i]? = some x → ys[i]? = some y → VR s x y := by
      intro xs ys hl hh ho
      refine ⟨by simpa using hl, fun i x y hx hy => ?_⟩
      rw [List.getElem?_map] at hx
      cases hx0 : xs[i]? with
      | none => rw [hx0] at hx; cases hx
      | some x0 =>
        rw [hx0] at hx
        cases hx
        exact ih (hh i x0 y hx0 hy) (all_get ho hx0)
    cases h with
    | same h => rw [reV_flat _ h]; exact .same h
    | ptr hs hp => exact .ptr hs (hst _ _ hr hp)
    | slice hs hp hc => exact .slice hs (hst _ _ hr hp) hc
    | agg hl hh => exact .agg (mp hl hh hr).1 (mp hl hh hr).2
    | tuple hl hh => exact .tuple (mp hl hh hr).1 (mp hl hh hr).2
    | func hl hh hl' hh' =>
      simp only [refF, Bool.and_eq_true] at hr
      exact .func (mp hl hh hr.1).1 (mp hl hh hr.1).2 (mp hl' hh' hr.2).1 (mp hl' hh' hr.2).2
    | iface hx => exact .iface (ih hx hr)
    | map hp => exact .map (hst _ _ hr hp)
theorem LR.back {s t : Ren} {f : Nat → Nat} {ok : Nat → Bool} (hst : ∀ j p, ok j = true → t j = some p → s (f j) = some p) (n : Nat) {xs ys : List Value} (h : LR t xs ys) (ho : xs.all (refF ok n) = true) : LR s (xs.map (reV f n)) ys := by
  refine ⟨by simpa using h.1, fun i x y hx hy => ?_⟩
  rw [List.getElem?_map] at hx
  cases hx0 : xs[i]? with
  | none => rw [hx0] at hx; cases hx
  | some x0 =>
    rw [hx0] at hx
    cases hx
    exact (h.2 i x0 y hx0 hy).back hst n (all_get ho hx0)
theorem ObjAt.back {s t : Ren} {f : Nat → Nat} {ok : Nat → Bool} (hst : ∀ j p, ok j = true → t j = some p → s (f j) = some p) {p : Pl} {o : AO} {w : World} (h : ObjAt t p o w) (hb : o.cs.all (refF ok 6) = true) : ObjAt s p (reO f o) w := by
  refine ⟨fun hm => ?_, fun hm => ?_⟩
  · obtain ⟨cs', h1, h2⟩ := h.1 hm
    exact ⟨cs', h1.back hst 6 hb, h2⟩
  · have B := h.2 hm
    refine ⟨by simpa [reO] using B.fit, B.all, B.shp, fun g1 g2 g3 g4 g5 => B.free g1 g2 g3 g4 (by simpa [reO] using g5), fun x v hv => ?_⟩
    simp only [reO, List.getElem?_map] at hv
    cases hx0 : o.cs[x]? with
    | none => rw [hx0] at hv; cases hv
    | some v0 =>
      rw [hx0] at hv
      cases hv
      obtain ⟨v', h1, h2⟩ := B.rel x v0 hx0
      exact ⟨v', h1, h2.back hst 6 (all_get hb hx0)⟩
/-- Blocks at the end are given up. -/
theorem HR.cut {wb : Wb} {k : Nat} {s : Ren} {h : List AO} {w : World} (H : HR wb k s h w) {q : Nat} (hkq : k ≤ q) (hq : q ≤ h.length) (hr : (h.take q).all (refO fun x => decide (x < q)) = true) : HR wb k (fun j => if j < q then s j else none) (h.take q) w := by
  have hl : (h.take q).length = q := by simp; omega
  have at' : ∀ i p, (if i < q then s i else none) = some p → i < q ∧ s i = some p := by
    intro i p hp
    split at hp
    · rename_i hi; exact ⟨hi, hp⟩
    · cases hp
  have old : ∀ i o, (h.take q)[i]? = some o → i < q ∧ h[i]? = some o := by
    intro i o ho
    rw [List.getElem?_take] at ho
    split at ho
    · rename_i hi; exact ⟨hi, ho⟩
    · cases ho
  refine ⟨H.grown, by omega, fun i hi => if_neg (by omega), fun i p hp => H.plc i p (at' i p hp).2, fun i o ho hv => ?_, fun i j a b p r hi hj ha hb hp hr' e => ?_, fun g p hp hg => H.gl g p (at' g p hp).2 hg⟩
  · obtain ⟨hi, ho'⟩ := old i o ho
    obtain ⟨p, hp, he, hob⟩ := H.obj i o ho' hv
    refine ⟨p, by rw [if_pos hi]; exact hp, he, hob.refs (ok := fun x => decide (x < q)) (fun x hx => ?_) ?_⟩
    · simp only [decide_eq_true_eq] at hx
      simp only [if_pos hx]
    · have := List.all_eq_true.1 hr o (List.mem_of_getElem? ho)
      simpa [refO, hv] using this
  · exact H.sep i j a b p r (old i a hi).2 (old j b hj).2 ha hb (at' i p hp).2 (at' j r hr').2 e
/-- What a call comes to, from a memory of some blocks on: the first k stay; it is told for whatever else there is. -/
def EffCall (P : Program) (g : FuncId) (k : Nat) (hS : List AO) (aS : List Value) (v : Value) (hE : List AO) : Prop :=
  ∀ (wb : Wb) (s : Ren) (w : World) (args' : List Value), HR wb k s hS w → LR s aS args' → Calls P g ⟨args'⟩ w (CallPost wb k s v hE)
noncomputable def effR (P : Program) (hk : Hook3) (orc : Orc) (lh : LoopHook) (hS : List AO) (g : FuncId) (aS : List Value) : Option (Value × List AO × Option Nat × List Int) :=
  match callA P ⟨exG P (aOp P) (drawE P) hk orc accQ lh 100000 300, hk, fun _ _ => none, accQ⟩ g aS hS with
  | some (v, h', m) => some (v, h', m.1, inter m.2)
  | none => none
theorem effR_ok {P : Program} (hng : NoNG P) {hk : Hook3} (hhk : HookOk3 P hk) {lh : LoopHook} (hll : LoopLow lh) (hlo : LoopsOk P lh) {orc : Orc} {hS : List AO} {g : FuncId} {aS : List Value} {v : Value} {h' : List AO} {lo : Option Nat} {cs : Cs} {k : Nat}
    (hr : effR P hk orc lh hS g aS = some (v, h', lo, inter cs)) (hb : BndO k lo) (hc : ∀ c ∈ cs, c.1 = c.2) : EffCall P g k hS aS v h' := by
  unfold effR at hr
  split at hr
  · rename_i v0 h0 m hca
    simp only [Option.some.injEq, Prod.mk.injEq] at hr
    obtain ⟨rfl, rfl, rfl, h2⟩ := hr
    have h3 := inter_inj h2
    intro wb s w args' H ha
    exact callA_ok (exG_ok accQ_eq hng (aOp_ok P hng) (drawE_ok P) (drawE_low P) hhk hll hlo 100000 300 _) hca ⟨hb, by rw [h3]; exact hc⟩ ha H
  · cases hr
/-- What stands behind the first blocks is given up. -/
theorem EffCall.cut {P : Program} {g : FuncId} {k : Nat} {hS : List AO} {aS : List Value} {v : Value} {h' : List AO} (E : EffCall P g k hS aS v h') (hkq : k ≤ hS.length) (hq : hS.length ≤ h'.length) (hr : (h'.take hS.length).all (refO fun x => decide (x < hS.length)) = true) (hv : flat v = true) :
    EffCall P g k hS aS v (h'.take hS.length) := by
  intro wb s w args' H ha
  refine (E wb s w args' H ha).mono ?_
  rintro e w' ⟨s', v', rfl, hle, H', hvr⟩
  refine ⟨_, v', rfl, fun i p hp => ?_, H'.cut hkq hq hr, by rw [hvr.eq_of_flat hv]; exact .same hv⟩
  have hi : i < hS.length := by
    rcases Nat.lt_or_ge i hS.length with h | h
    · exact h
    · rw [H.dom i h] at hp; cases hp
  simp only [if_pos hi]
  exact hle i p hp
/-- FROM A SMALL MEMORY TO ANY: the blocks of the small one stand at the places f in the large one; the last one of them may be written. -/
theorem eff_up {P : Program} {g : FuncId} {q : Nat} {hS : List AO} {aS : List Value} {v : Value} {hE : List AO} (E : EffCall P g q hS aS v hE) (hl : hS.length = q + 1) (hlE : hE.length = q + 1) {o1 : AO} (hE1 : hE[q]? = some o1) (hl1 : o1.live = true)
    (hrS : hS.all (refO fun x => decide (x < q + 1)) = true) (hrE : o1.cs.all (refF (fun x => decide (x < q + 1)) 6) = true) (haS : aS.all (refF (fun x => decide (x < q + 1)) 6) = true) (hv : flat v = true)
    {wb : Wb} {k : Nat} {s : Ren} {h : List AO} {w : World} (H : HR wb k s h w) {f : Nat → Nat} (hinj : ∀ i j, i ≤ q → j ≤ q → f i = f j → i = j)
    (hlv : ∀ j, j ≤ q → ∃ o, h[f j]? = some o ∧ o.live = true ∧ o.es ≠ some GM) (hb : ∀ j o, hS[j]? = some o → o.live = true → h[f j]? = some (reO f o)) (hqS : ∃ o, hS[q]? = some o ∧ o.live = true) (hk : k ≤ f q)
    {args args' : List Value} (hargs : args = aS.map (reV f 6)) (ha : LR s args args') :
    Calls P g ⟨args'⟩ w fun e w' => ∃ s' v', e = .returned v' ∧ Le s s' ∧ HR wb k s' (setC h (f q) (o1.cs.map (reV f 6))) w' ∧ VR s' v v' := by
  have pl : ∀ j, j ≤ q → ∃ o p, h[f j]? = some o ∧ o.live = true ∧ s (f j) = some p ∧ p.es = o.es ∧ o.es ≠ some GM := by
    intro j hj
    obtain ⟨o, h1, h2, h3⟩ := hlv j hj
    obtain ⟨p, hp, he, _⟩ := H.obj _ o h1 h2
    exact ⟨o, p, h1, h2, hp, he, h3⟩
  obtain ⟨ob, pb, hob, hobl, hpb, hpe, hpg⟩ := pl q (Nat.le_refl _)
  have at' : ∀ i p, (if i ≤ q then s (f i) else none) = some p → i ≤ q ∧ s (f i) = some p := by
    intro i p hp
    split at hp
    · rename_i hi; exact ⟨hi, hp⟩
    · cases hp
  have hst : ∀ j p, (fun x => decide (x < q + 1)) j = true → s (f j) = some p → (fun j => if j ≤ q then s (f j) else none) j = some p := by
    intro j p hj hs
    simp only [decide_eq_true_eq] at hj
    simp only [if_pos (show j ≤ q by omega)]
    exact hs
  have S : HR ⟨w, fun n => n = pb.blk⟩ q (fun j => if j ≤ q then s (f j) else none) hS w := by
    refine ⟨GrB.refl w _, by omega, fun i hi => if_neg (by omega), fun i p hp => ?_, fun i o ho hlo => ?_, fun i j a b p r hi hj hla hlb hp hr e => ?_, fun gg p hp hg => ?_⟩
    · obtain ⟨hi, hs⟩ := at' i p hp
      have hlt := (H.plc _ p hs).2.2
      refine ⟨fun hiq => ⟨hlt, fun e => ?_⟩, fun hqi => .inr ?_, hlt⟩
      · obtain ⟨oi, pi, h1, h2, h3, _, _⟩ := pl i hi
        rw [hs] at h3
        cases h3
        have := hinj i q hi (Nat.le_refl _) (H.sep _ _ oi ob _ _ h1 hob h2 hobl hs hpb e)
        omega
      · obtain rfl : i = q := by omega
        rw [hs] at hpb
        cases hpb
        rfl
    · have hiq : i ≤ q := by
        have := (List.getElem?_eq_some_iff.1 ho).1
        omega
      obtain ⟨p, hp, he, hoa⟩ := H.obj _ _ (hb i o ho hlo) hlo
      refine ⟨p, by rw [if_pos hiq]; exact hp, he, hoa.ren hst ?_⟩
      have := List.all_eq_true.1 hrS o (List.mem_of_getElem? ho)
      simpa [refO, hlo] using this
    · obtain ⟨hi', hs1⟩ := at' i p hp
      obtain ⟨hj', hs2⟩ := at' j r hr
      exact hinj i j hi' hj' (H.sep _ _ _ _ p r (hb i a hi hla) (hb j b hj hlb) hla hlb hs1 hs2 e)
    · obtain ⟨hg', hs⟩ := at' gg p hp
      obtain ⟨oi, pi, h1, h2, h3, h4, h5⟩ := pl gg hg'
      rw [hs] at h3
      cases h3
      exact absurd (h4.symm.trans hg) h5
  have ha' : LR (fun j => if j ≤ q then s (f j) else none) aS args' := by
    rw [hargs] at ha
    exact ha.unmap (VR.ren hst 6) haS
  refine (E _ _ w args' S ha').mono ?_
  rintro e w' ⟨t, v', rfl, hle, H', hvr⟩
  have hgr := H'.grown
  obtain ⟨p1, hp1, he1, hoa1⟩ := H'.obj q o1 hE1 hl1
  have hp1' : p1 = pb := by
    have := hle q pb (by simp only [if_pos (Nat.le_refl q)]; exact hpb)
    rw [hp1] at this
    exact Option.some.inj this
  subst hp1'
  have hset : setC h (f q) (o1.cs.map (reV f 6)) = h.set (f q) ⟨ob.live, ob.es, o1.cs.map (reV f 6)⟩ := by
    unfold setC
    rw [hob]
  have hbl : f q < h.length := (List.getElem?_eq_some_iff.1 hob).1
  have old : ∀ i o, (h.set (f q) ⟨ob.live, ob.es, o1.cs.map (reV f 6)⟩)[i]? = some o → o.live = true → ∃ o', h[i]? = some o' ∧ o'.live = true ∧ o'.es = o.es ∧ (i ≠ f q → o' = o) := by
    intro i o ho hlo
    rw [List.getElem?_set] at ho
    by_cases ei : f q = i
    · subst ei
      rw [if_pos rfl, if_pos hbl] at ho
      cases ho
      exact ⟨ob, hob, hobl, rfl, fun h => absurd rfl h⟩
    · rw [if_neg ei] at ho
      exact ⟨o, ho, hlo, rfl, fun _ => rfl⟩
  refine ⟨s, v', rfl, Le.refl s, ?_, by rw [hvr.eq_of_flat hv]; exact .same hv⟩
  rw [hset]
  refine ⟨⟨⟨hgr.1.1.trans H.grown.1.1, hgr.1.2.trans H.grown.1.2⟩, fun n hn hx => ?_, Nat.le_trans H.grown.2.2 hgr.2.2⟩, by simpa using H.kle, fun i hi => H.dom i (by simpa using hi), fun i p hp => ?_, fun i o ho hlo => ?_, fun i j a b p r hi hj hla hlb hp hr e => ?_, H.gl⟩
  · refine (hgr.2.1 n (Nat.lt_of_lt_of_le hn H.grown.2.2) ?_).trans (H.grown.2.1 n hn hx)
    intro e
    have e : n = p1.blk := e
    subst e
    exact ((H.plc _ _ hpb).2.1 hk).elim (fun h => by omega) hx
  · obtain ⟨c1, c2, c3⟩ := H.plc i p hp
    exact ⟨c1, c2, Nat.lt_of_lt_of_le c3 hgr.2.2⟩
  · obtain ⟨o', ho', hlo', hes, hne⟩ := old i o ho hlo
    by_cases ei : i = f q
    · subst ei
      rw [List.getElem?_set, if_pos rfl, if_pos hbl] at ho
      cases ho
      have back : ObjAt s p1 (reO f o1) w' := hoa1.back (ok := fun x => decide (x < q + 1)) (fun j p hj ht => by
        simp only [decide_eq_true_eq] at hj
        obtain ⟨oj, pj, h1, h2, h3, h4, h5⟩ := pl j (by omega)
        have := hle j pj (by simp only [if_pos (show j ≤ q by omega)]; exact h3)
        rw [ht] at this
        rw [h3, Option.some.inj this]) hrE
      refine ⟨p1, hpb, hpe, ?_⟩
      have e2 : (⟨ob.live, ob.es, o1.cs.map (reV f 6)⟩ : AO) = reO f o1 := by
        unfold reO
        rw [hobl, hl1, ← hpe, he1]
      rw [e2]
      exact back
    · obtain rfl := hne ei
      obtain ⟨p, hp, he, hoa⟩ := H.obj i _ ho' hlo'
      refine ⟨p, hp, he, hoa.heap (hgr.2.1 _ (H.plc i p hp).2.2 fun e => ei ?_)⟩
      exact H.sep _ _ _ ob p p1 ho' hob hlo' hobl hp hpb e
  · obtain ⟨a', h1, h2, _, _⟩ := old i a hi hla
    obtain ⟨b', h3, h4, _, _⟩ := old j b hj hlb
    exact H.sep _ _ a' b' p r h1 h3 h2 h4 hp hr e
end Go.Proofs.YthhgfjnnconocaaGreatDoor.Ex
end
section
namespace Go.Proofs.YthhgfjnnconocaaGreatDoor.Ex
set_option maxRecDepth 20000

open Go Go.RowKit
set_option linter.unusedVariables false
/-- FROM A SMALL MEMORY TO ANY: nothing of it is written. -/
theorem read_up {P : Program} {g : FuncId} {q : Nat} {hS : List AO} {aS : List Value} {v : Value} {hE : List AO} (E : EffCall P g q hS aS v hE) (hl : hS.length = q)
    (hrS : hS.all (refO fun x => decide (x < q)) = true) (haS : aS.all (refF (fun x => decide (x < q)) 6) = true) (hv : flat v = true)
    {wb : Wb} {k : Nat} {s : Ren} {h : List AO} {w : World} (H : HR wb k s h w) {f : Nat → Nat} (hinj : ∀ i j, i < q → j < q → f i = f j → i = j)
    (hlv : ∀ j, j < q → ∃ o, h[f j]? = some o ∧ o.live = true ∧ o.es ≠ some GM) (hb : ∀ j o, hS[j]? = some o → o.live = true → h[f j]? = some (reO f o))
    {args args' : List Value} (hargs : args = aS.map (reV f 6)) (ha : LR s args args') :
    Calls P g ⟨args'⟩ w fun e w' => e = .returned v ∧ Gr w w' := by
  have pl : ∀ j, j < q → ∃ o p, h[f j]? = some o ∧ o.live = true ∧ s (f j) = some p ∧ p.es = o.es ∧ o.es ≠ some GM := by
    intro j hj
    obtain ⟨o, h1, h2, h3⟩ := hlv j hj
    obtain ⟨p, hp, he, _⟩ := H.obj _ o h1 h2
    exact ⟨o, p, h1, h2, hp, he, h3⟩
  have at' : ∀ i p, (if i < q then s (f i) else none) = some p → i < q ∧ s (f i) = some p := by
    intro i p hp
    split at hp
    · rename_i hi; exact ⟨hi, hp⟩
    · cases hp
  have hst : ∀ j p, (fun x => decide (x < q)) j = true → s (f j) = some p → (fun j => if j < q then s (f j) else none) j = some p := by
    intro j p hj hs
    simp only [decide_eq_true_eq] at hj
    simp only [if_pos hj]
    exact hs
  have S : HR w q (fun j => if j < q then s (f j) else none) hS w := by
    refine ⟨GrB.refl w _, by omega, fun i hi => if_neg (by omega), fun i p hp => ?_, fun i o ho hlo => ?_, fun i j a b p r hi hj hla hlb hp hr e => ?_, fun gg p hp hg => ?_⟩
    · obtain ⟨hi, hs⟩ := at' i p hp
      have hlt := (H.plc _ p hs).2.2
      exact ⟨fun _ => ⟨hlt, fun f => f⟩, fun hqi => absurd hi (by omega), hlt⟩
    · have hiq : i < q := by
        have := (List.getElem?_eq_some_iff.1 ho).1
        omega
      obtain ⟨p, hp, he, hoa⟩ := H.obj _ _ (hb i o ho hlo) hlo
      refine ⟨p, by rw [if_pos hiq]; exact hp, he, hoa.ren hst ?_⟩
      have := List.all_eq_true.1 hrS o (List.mem_of_getElem? ho)
      simpa [refO, hlo] using this
    · obtain ⟨hi', hs1⟩ := at' i p hp
      obtain ⟨hj', hs2⟩ := at' j r hr
      exact hinj i j hi' hj' (H.sep _ _ _ _ p r (hb i a hi hla) (hb j b hj hlb) hla hlb hs1 hs2 e)
    · obtain ⟨hg', hs⟩ := at' gg p hp
      obtain ⟨oi, pi, h1, h2, h3, h4, h5⟩ := pl gg hg'
      rw [hs] at h3
      cases h3
      exact absurd (h4.symm.trans hg) h5
  have ha' : LR (fun j => if j < q then s (f j) else none) aS args' := by
    rw [hargs] at ha
    exact ha.unmap (VR.ren hst 6) haS
  refine (E _ _ w args' S ha').mono ?_
  rintro e w' ⟨t, v', rfl, hle, H', hvr⟩
  rw [hvr.eq_of_flat hv]
  exact ⟨rfl, H'.grown.gr⟩
end Go.Proofs.YthhgfjnnconocaaGreatDoor.Ex
end
section
namespace Go.Proofs.YthhgfjnnconocaaGreatDoor.Ex
set_option maxRecDepth 20000

open Go Go.RowKit
/-- Some blocks of a memory, as a memory of their own. -/
theorem HR.pick {wb : Wb} {k : Nat} {s : Ren} {h : List AO} {w : World} (H : HR wb k s h w) (h1 : List AO) (f : Nat → Nat)
    (hf : ∀ (i : Nat) (o : AO), h1[i]? = some o → o.live = true → ∃ o', h[f i]? = some o' ∧ o'.live = true ∧ o'.es = o.es ∧ o'.cs = o.cs ∧ o.cs.all flat = true ∧ isM o = false)
    (hinj : ∀ (i j : Nat) (a b : AO), h1[i]? = some a → h1[j]? = some b → a.live = true → b.live = true → f i = f j → i = j)
    (hg : ∀ (i : Nat) (o : AO), h1[i]? = some o → o.live = true → o.es = some GM → f i = i) :
    HR w h1.length (fun i => match h1[i]? with | some o => if o.live then s (f i) else none | none => none) h1 w := by
  have inv : ∀ i p, (match h1[i]? with | some o => if o.live then s (f i) else none | none => none) = some p → ∃ o, h1[i]? = some o ∧ o.live = true ∧ s (f i) = some p := by
    intro i p hp
    cases ho : h1[i]? with
    | none => rw [ho] at hp; cases hp
    | some o =>
      rw [ho] at hp
      simp only at hp
      split at hp
      · rename_i hl; exact ⟨o, rfl, hl, hp⟩
      · cases hp
  refine ⟨GrB.refl w _, Nat.le_refl _, fun i hi => by rw [List.getElem?_eq_none hi], fun i p hp => ?_, fun i o ho hl => ?_, fun i j a b p q hi hj ha hb hp hq e => ?_, fun g p hp hes => ?_⟩
  · obtain ⟨o, ho, hl, hs⟩ := inv i p hp
    have := (H.plc _ p hs).2.2
    have hi := (List.getElem?_eq_some_iff.1 ho).1
    exact ⟨fun _ => ⟨this, fun f => f⟩, fun h => absurd h (by omega), this⟩
  · obtain ⟨o', h1', h2, h3, h4, h5, h6⟩ := hf i o ho hl
    obtain ⟨p, hp, he, hb⟩ := H.obj _ o' h1' h2
    have hm : isM o' = false := by unfold isM at h6 ⊢; rw [h3]; exact h6
    have B := hb.2 hm
    refine ⟨p, by rw [ho]; simp only [hl, if_true]; exact hp, by rw [he, h3], ObjAt.block h6 ?_⟩
    rw [h4] at B
    exact ⟨B.fit, B.all, B.shp, B.free, fun x v hv => by
      obtain ⟨v', g1, g2⟩ := B.rel x v hv
      have hfl := all_get h5 hv
      exact ⟨v', g1, by rw [g2.eq_of_flat hfl]; exact .same hfl⟩⟩
  · obtain ⟨a', i1, i2, _, _, _, _⟩ := hf i a hi ha
    obtain ⟨b', j1, j2, _, _, _, _⟩ := hf j b hj hb
    obtain ⟨_, _, _, hs1⟩ := inv i p hp
    obtain ⟨_, _, _, hs2⟩ := inv j q hq
    exact hinj i j a b hi hj ha hb (H.sep _ _ a' b' p q i1 j1 i2 j2 hs1 hs2 e)
  · obtain ⟨o, ho, hl, hs⟩ := inv g p hp
    obtain ⟨o', h1', h2, h3, _, _, _⟩ := hf g o ho hl
    obtain ⟨p', hp', he, _⟩ := H.obj _ o' h1' h2
    rw [hs] at hp'
    cases hp'
    have e := hg g o ho hl (by rw [← h3, ← he, hes])
    rw [e] at hs
    exact H.gl g p hs hes
end Go.Proofs.YthhgfjnnconocaaGreatDoor.Ex
end
section
namespace Go.Proofs.YthhgfjnnconocaaGreatDoor.Ex
set_option maxRecDepth 20000

open Go Go.RowKit
set_option linter.unusedVariables false
set_option linter.unusedSectionVars false
noncomputable def wu (x : Int) : Int := IntKind.u64.wrap x
noncomputable def wi (x : Int) : Int := IntKind.i64.wrap x
theorem wr64' (x : Int) : wu x = x % 18446744073709551616 := by simp [wu, IntKind.wrap, IntKind.signed, IntKind.bits]
theorem wu_id {x : Int} (h1 : 0 ≤ x) (h2 : x < 18446744073709551616) : wu x = x := by rw [wr64']; omega
theorem wi_id {x : Int} (h1 : -9223372036854775808 ≤ x) (h2 : x < 9223372036854775808) : wi x = x := by
  unfold wi IntKind.wrap
  have e : (2 : Int) ^ IntKind.i64.bits = 18446744073709551616 := rfl
  have e2 : (2 : Int) ^ (IntKind.i64.bits - 1) = 9223372036854775808 := rfl
  simp only [e, e2]
  split
  · rename_i h
    simp at h
    omega
  · rename_i h
    simp [IntKind.signed] at h
    omega
theorem b1 {p : Prop} [Decidable p] (h : p) : b2i (decide p) = 1 := by rw [decide_eq_true h]; rfl
theorem b0 {p : Prop} [Decidable p] (h : ¬p) : b2i (decide p) = 0 := by rw [decide_eq_false h]; rfl
theorem bt {x : Bool} (h : x = true) : b2i x = 1 := by rw [h]; rfl
def AE (cs : Cs) : Prop := ∀ c ∈ cs, c.1 = c.2
theorem AE.nil : AE [] := fun _ h => by cases h
theorem AE.cons {a b : Int} {l : Cs} (h : a = b) (hl : AE l) : AE ((a, b) :: l) := fun c hc => by
  rcases List.mem_cons.1 hc with rfl | hc
  · exact h
  · exact hl c hc
theorem AE.consP {c : Int × Int} {l : Cs} (h : c.1 = c.2) (hl : AE l) : AE (c :: l) := fun d hd => by
  rcases List.mem_cons.1 hd with rfl | hd
  · exact h
  · exact hl d hd
theorem AE.app {l m : Cs} (h : AE l) (hm : AE m) : AE (l ++ m) := fun c hc => by
  rcases List.mem_append.1 hc with hc | hc
  · exact h c hc
  · exact hm c hc
/-- That a told value is what is there. -/
theorem same_ok {a b : Option Out} (h : a = b) : (b2i (sameC a b), (1 : Int)).1 = (b2i (sameC a b), (1 : Int)).2 := bt (sameC_of h)

/-! Heaps whose blocks hold flat values alone. -/
section
variable {P : Program}
/-- A block that nothing is told of at the end of what is told ahead of the rounds. -/
theorem HopQ.pad {c : Code} {n q : Nat} {t t1 : List Value} {h h1 : List AO} {m : Mk} (r : Nat) (a : HopQ P c n q t (h ++ List.replicate r dead) t1 h1 m) : HopQ P c n q t h t1 h1 m :=
  fun wb k hm hkq s m0 act w H N Q hQ => a wb k hm hkq s m0 act w ⟨H.t, H.d, H.h.pad r⟩ N Q hQ
theorem StopQ.pad {c : Code} {n q : Nat} {t t1 : List Value} {h h1 : List AO} {e : Exit} {m : Mk} (r : Nat) (a : StopQ P c n q t (h ++ List.replicate r dead) e t1 h1 m) : StopQ P c n q t h e t1 h1 m :=
  fun wb k hm hkq s m0 act w H m' => a wb k hm hkq s m0 act w ⟨H.t, H.d, H.h.pad r⟩ m'
end
end Go.Proofs.YthhgfjnnconocaaGreatDoor.Ex
end
section
namespace Go.Proofs.YthhgfjnnconocaaGreatDoor.Ex
set_option maxRecDepth 20000

open Go Go.RowKit
set_option maxHeartbeats 0
set_option maxRecDepth 1000000
set_option linter.unusedVariables false
set_option linter.unusedSectionVars false
def nil3 : Hook3 := fun _ _ _ => none
theorem nil3_ok : HookOk3 Tryz.prog nil3 := by intro f args h v new cs hv; cases hv
abbrev ntF : FuncId := 94
noncomputable abbrev ntLp : Code := theLoopN Tryz.prog ntF 0
theorem nt_one : oneLoopN Tryz.prog ntF 0 = true := by kernel_rfl
/-- Bytes D .. of place d: j of them are noted. -/
noncomputable def ntO (D d j : Nat) (g : Bool) : Orc := fun f t _ =>
  if Nat.beq f ntF then
    match t with
    | 15 => some (.int .i64 (D : Int))
    | 20 => some (.int .i64 ((D + 8 : Nat) : Int))
    | 21 => some (.bool g)
    | 23 => some (.int .i64 ((D + (j + 1) : Nat) : Int))
    | 28 => some .nilIface
    | 31 => some (.int .i64 (d : Int))
    | 35 => some .nilIface
    | t => if Nat.beq t 2000028 then some .nilIface else if Nat.beq t 2000035 then some .nilIface else none
  else if Nat.beq f 91 then
    match t with
    | 4 => some (.bool true)
    | 7 => some (.bool true)
    | _ => none
  else none
noncomputable def ntT (A : Int) (tag : Bool) (D j : Nat) (β : Nat → Value) : List Value := [.pointer (some ⟨2, 0, none⟩), .int .u64 A, .int .i64 8, .bool tag, β 4, β 5, β 6, β 7, .int .i64 (D : Int), .int .i64 ((D + j : Nat) : Int), β 10, β 11, β 12, β 13, β 14, β 15, β 16, β 17, β 18, β 19, β 20, β 21, β 22, β 23, β 24, β 25, β 26, β 27, β 28, β 29, β 30, β 31, β 32, β 33, β 34, β 35]
def ntTs : List Bool := [false, false, false, false, true, true, true, true, false, false, true, true, true, true, true, true, true, true, true, true, true, true, true, true, true, true, true, true, true, true, true, true, true, true, true, true]
noncomputable def ntH (C : List Value) : List AO := [dead, dead, ⟨true, none, C⟩]
noncomputable def ntN (β : Nat → Value) : List Value := [β 0, β 1, β 2, β 3, β 4, β 5, β 6, β 7, β 8, β 9, β 10, β 11, β 12, β 13, β 14, β 15, β 16, β 17, β 18, β 19, β 20, β 21, β 22, β 23, β 24, β 25, β 26, β 27, β 28, β 29, β 30, β 31, β 32, β 33, β 34, β 35]
def ntNs : List Bool := [true, true, true, true, true, true, true, true, true, true, true, true, true, true, true, true, true, true, true, true, true, true, true, true, true, true, true, true, true, true, true, true, true, true, true, true]
noncomputable def ntW (C : List Value) (D d j : Nat) (tag : Bool) : List Value := splice (splice C (0 + 37 + (D + j) * 1) [.bool true]) (0 + 549 + d * 1) [.bool tag]
noncomputable def ntP (C : List Value) (D d j : Nat) (tag : Bool) : Cs := [(IntKind.i64.wrap ((D : Int) + 8), ((D + 8 : Nat) : Int)), (b2i (decide (((D + j : Nat) : Int) < ((D + 8 : Nat) : Int))), 1), (b2i (decide (0 ≤ ((D + j : Nat) : Int)) && decide (((D + j : Nat) : Int) < (512 : Nat))), 1), (1, 1), (b2i (decide (0 + 37 + (D + j) * 1 + 1 ≤ C.length)), 1),
  (IntKind.i64.wrap (((D + j : Nat) : Int).tdiv 8), (d : Int)), (b2i (decide (0 ≤ (d : Int)) && decide ((d : Int) < (64 : Nat))), 1), (1, 1), (b2i (decide (0 + 549 + d * 1 + 1 ≤ (splice C (0 + 37 + (D + j) * 1) [.bool true]).length)), 1), (IntKind.i64.wrap (((D + j : Nat) : Int) + 1), ((D + (j + 1) : Nat) : Int))]
theorem nt_hop (C : List Value) (A : Int) (tag : Bool) (D d j : Nat) (β : Nat → Value) : (iterB (bodyL Tryz.prog nil3 (ntO D d j true) noLoop ntF ntLp) 1 ⟨ntT A tag D j β, ntH C, (none, [])⟩).map (fun x => (maskQ ntTs x.t, x.h, x.m.1, inter x.m.2)) = some (ntT A tag D (j + 1) fun _ => .bool true, ntH (ntW C D d j tag), some 2, inter (ntP C D d j tag)) := by kernel_rfl
theorem nt_end (C : List Value) (A : Int) (tag : Bool) (D d : Nat) (β : Nat → Value) : (loopN (bodyL Tryz.prog nil3 (ntO D d 8 false) noLoop ntF ntLp) 1 ⟨ntT A tag D 8 β, ntH C, (none, [])⟩).map (fun r => (r.1, maskQ ntNs r.2.t, r.2.h, r.2.m.1, inter r.2.m.2)) = some (.exit 0, ntN fun _ => .bool true, ntH C, none, inter [(IntKind.i64.wrap ((D : Int) + 8), ((D + 8 : Nat) : Int)), (b2i (decide (((D + 8 : Nat) : Int) < ((D + 8 : Nat) : Int))), 0)]) := by kernel_rfl
noncomputable def ntE (A : Int) (tag : Bool) (D : Nat) : List Value := [.pointer (some ⟨2, 0, none⟩), .int .u64 A, .int .i64 8, .bool tag, .tuple ⟨[]⟩, .tuple ⟨[]⟩, .tuple ⟨[]⟩, .tuple ⟨[]⟩, .int .i64 (D : Int), .int .i64 (D : Int), .int .u64 A, .bool true, .bool false, .int .u64 A, .int .u64 (IntKind.u64.wrap (A - 131072)), .int .i64 (D : Int), .int .i64 (D : Int), .tuple ⟨[]⟩, .tuple ⟨[]⟩, .tuple ⟨[]⟩, .tuple ⟨[]⟩, .tuple ⟨[]⟩, .tuple ⟨[]⟩, .tuple ⟨[]⟩, .tuple ⟨[]⟩, .tuple ⟨[]⟩, .tuple ⟨[]⟩, .tuple ⟨[]⟩, .tuple ⟨[]⟩, .tuple ⟨[]⟩, .tuple ⟨[]⟩, .tuple ⟨[]⟩, .tuple ⟨[]⟩, .tuple ⟨[]⟩, .tuple ⟨[]⟩, .tuple ⟨[]⟩]
end Go.Proofs.YthhgfjnnconocaaGreatDoor.Ex
end
section
namespace Go.Proofs.YthhgfjnnconocaaGreatDoor.Ex
set_option maxRecDepth 20000

open Go Go.RowKit
set_option maxHeartbeats 0
set_option maxRecDepth 1000000
set_option linter.unusedVariables false
set_option linter.unusedSectionVars false
noncomputable def ntC (C : List Value) (D d : Nat) (tag : Bool) : Nat → List Value
  | 0 => C
  | j + 1 => ntW (ntC C D d tag j) D d j tag
theorem ntW_len {C : List Value} {D d j : Nat} {tag : Bool} (hl : C.length = 613) (hD : D + j < 512) (hd : d < 64) : (ntW C D d j tag).length = 613 := by
  unfold ntW
  have h1 : (splice C (0 + 37 + (D + j) * 1) [.bool true]).length = 613 := by rw [splice_length (by rw [hl]; show 0 + 37 + (D + j) * 1 + 1 ≤ 613; omega), hl]
  rw [splice_length (by rw [h1]; show 0 + 549 + d * 1 + 1 ≤ 613; omega), h1]
theorem ntC_len {C : List Value} {D d : Nat} {tag : Bool} (hl : C.length = 613) (hD : D + 8 ≤ 512) (hd : d < 64) : ∀ j, j ≤ 8 → (ntC C D d tag j).length = 613
  | 0, _ => hl
  | j + 1, h => ntW_len (ntC_len hl hD hd j (by omega)) (by omega) hd
theorem map_splice (g : Value → Value) (C vs : List Value) (o : Nat) : (splice C o vs).map g = splice (C.map g) o (vs.map g) := by
  unfold splice
  simp [List.map_append, List.map_take, List.map_drop]
theorem ntC_map {f : Nat → Nat} (C : List Value) (D d : Nat) (tag : Bool) : ∀ j, (ntC C D d tag j).map (reV f 6) = ntC (C.map (reV f 6)) D d tag j
  | 0 => rfl
  | j + 1 => by
    show (ntW (ntC C D d tag j) D d j tag).map (reV f 6) = ntW (ntC (C.map (reV f 6)) D d tag j) D d j tag
    unfold ntW
    rw [map_splice, map_splice, ntC_map C D d tag j]
    rfl
theorem all_splice {p : Value → Bool} {C vs : List Value} {o : Nat} (h : C.all p = true) (hv : vs.all p = true) : (splice C o vs).all p = true := by
  unfold splice
  rw [List.all_append, List.all_append, Bool.and_eq_true, Bool.and_eq_true]
  refine ⟨⟨List.all_eq_true.2 fun v hm => List.all_eq_true.1 h v (List.mem_of_mem_take hm), hv⟩, List.all_eq_true.2 fun v hm => List.all_eq_true.1 h v (List.mem_of_mem_drop hm)⟩
theorem ntC_all {p : Value → Bool} (hp : ∀ b, p (.bool b) = true) {C : List Value} (h : C.all p = true) (D d : Nat) (tag : Bool) : ∀ j, (ntC C D d tag j).all p = true
  | 0 => h
  | j + 1 => all_splice (all_splice (ntC_all hp h D d tag j) (by simp [hp])) (by simp [hp])
noncomputable def ntQ (C : List Value) (A : Int) (tag : Bool) (D d : Nat) (β : Nat → Value) : LoopQ := ⟨ntF, 0, fun _ => true, ntE A tag D, ntH C, .exit 0, ntN β, ntH (ntC C D d tag 8), (some 2, [])⟩
def ntA (A : Int) (tag : Bool) : List Value := [.pointer (some ⟨2, 0, none⟩), .int .u64 A, .int .i64 8, .bool tag]
noncomputable def ntR (C : List Value) (A : Int) (tag : Bool) (D : Nat) : Cs := [(b2i (decide (A ≥ 131072)), 1), (b2i (decide (A < 131584)), 1), (IntKind.i64.wrap (IntKind.u64.wrap (A - 131072)), (D : Int)), prP (ntE A tag D = ntE A tag D), prP (ntH C = ntH C)]
theorem nt_run (C : List Value) (A : Int) (tag : Bool) (D d : Nat) (β : Nat → Value) : effR Tryz.prog nil3 (ntO D d 0 true) (loopQHook [ntQ C A tag D d β]) (ntH C) ntF (ntA A tag) = some (.tuple ⟨[]⟩, ntH (ntC C D d tag 8), some 2, inter (ntR C A tag D)) := by kernel_rfl
theorem ntE_eq (A : Int) (tag : Bool) (D : Nat) : ntT A tag D 0 (fun k => (ntE A tag D).getD k (.bool true)) = ntE A tag D := by kernel_rfl
theorem nt_unT (A : Int) (tag : Bool) (D j : Nat) : ∀ β, unmask β 0 ntTs (ntT A tag D j fun _ => .bool true) = ntT A tag D j β := fun β => rfl
theorem nt_unN : ∀ β, unmask β 0 ntNs (ntN fun _ => .bool true) = ntN β := fun β => rfl
theorem i64w {x : Int} (h1 : 0 ≤ x) (h2 : x < 1000000) : IntKind.i64.wrap x = x := wi_id (by omega) (by omega)
section
variable {C : List Value} {A : Int} {tag : Bool} {D d : Nat} (hl : C.length = 613) (hD : D = 8 * d) (hd : d < 64)
include hl hD hd
theorem ntP_ok {j : Nat} (hj : j < 8) : AE (ntP (ntC C D d tag j) D d j tag) := by
  have len := ntC_len (D := D) (tag := tag) hl (by omega) hd j (by omega)
  have h1 : (splice (ntC C D d tag j) (0 + 37 + (D + j) * 1) [.bool true]).length = 613 := by rw [splice_length (by rw [len]; show 0 + 37 + (D + j) * 1 + 1 ≤ 613; omega), len]
  refine AE.cons ?_ (AE.cons (b1 (by omega)) (AE.cons (bt ?_) (AE.cons rfl (AE.cons (b1 (by rw [len]; omega)) (AE.cons ?_ (AE.cons (bt ?_) (AE.cons rfl (AE.cons (b1 (by rw [h1]; omega)) (AE.cons ?_ AE.nil)))))))))
  · show IntKind.i64.wrap ((D : Int) + 8) = ((D + 8 : Nat) : Int)
    rw [i64w (by omega) (by omega)]
    omega
  · rw [Bool.and_eq_true]
    exact ⟨decide_eq_true (by omega), decide_eq_true (by omega)⟩
  · show IntKind.i64.wrap (((D + j : Nat) : Int).tdiv 8) = (d : Int)
    have e : ((D + j : Nat) : Int).tdiv 8 = (d : Int) := by
      rw [Int.tdiv_eq_ediv_of_nonneg (by omega)]
      omega
    rw [e, i64w (by omega) (by omega)]
  · rw [Bool.and_eq_true]
    exact ⟨decide_eq_true (by omega), decide_eq_true (by omega)⟩
  · show IntKind.i64.wrap (((D + j : Nat) : Int) + 1) = ((D + (j + 1) : Nat) : Int)
    rw [i64w (by omega) (by omega)]
    omega
theorem nt_rounds (n : Nat) : ∀ (j : Nat) (β : Nat → Value), j + n ≤ 8 → ∃ β', Hop Tryz.prog ntLp n (ntT A tag D j β) (ntH (ntC C D d tag j)) (ntT A tag D (j + n) β') (ntH (ntC C D d tag (j + n))) (some 2, []) := by
  induction n with
  | zero => exact fun j β _ => ⟨β, Hop.zero _ _ _⟩
  | succ n ih =>
    intro j β hj
    obtain ⟨β1, q1⟩ := hopM_ok noNG nil3_ok noLoop_low (noLoop_ok _) nt_one (nt_unT A tag D (j + 1)) (nt_hop (ntC C D d tag j) A tag D d j β) (ntP_ok hl hD hd (by omega))
    obtain ⟨β2, q2⟩ := ih (j + 1) β1 (by omega)
    refine ⟨β2, ?_⟩
    rw [show j + (n + 1) = j + 1 + n by omega, show n + 1 = 1 + n by omega]
    exact q1.trans q2 (fun _ h => h) (fun _ h => h)
theorem c_note (hA : A = 131072 + (D : Int)) : EffCall Tryz.prog ntF 2 (ntH C) (ntA A tag) (.tuple ⟨[]⟩) (ntH (ntC C D d tag 8)) := by
  obtain ⟨β1, q1⟩ := nt_rounds (A := A) (tag := tag) hl hD hd 8 0 (fun k => (ntE A tag D).getD k (.bool true)) (by omega)
  obtain ⟨β2, q2⟩ := stopM_ok noNG nil3_ok noLoop_low (noLoop_ok _) nt_one nt_unN (nt_end (ntC C D d tag 8) A tag D d β1) (AE.cons (by show IntKind.i64.wrap ((D : Int) + 8) = ((D + 8 : Nat) : Int); rw [i64w (by omega) (by omega)]; omega) (AE.cons (b0 (by omega)) AE.nil))
  rw [ntE_eq] at q1
  have s := q1.stop' (m3 := (some 2, [])) q2 (fun _ h => h) (fun k h => (show Bnd k (none, []) from ⟨fun i hi => (by cases hi), fun c hc => absurd hc (by simp)⟩))
  refine effR_ok noNG nil3_ok (loopQHook_low _) (loopQHook_ok fun e he => by rw [List.mem_singleton.1 he]; exact loopQ_ok nt_one s) (nt_run C A tag D d β2) (fun i hi => by cases hi; exact Nat.le_refl 2) ?_
  refine AE.cons (b1 (by omega)) (AE.cons (b1 (by omega)) (AE.cons ?_ (AE.consP (prP_ok rfl) (AE.consP (prP_ok rfl) AE.nil))))
  show IntKind.i64.wrap (IntKind.u64.wrap (A - 131072)) = (D : Int)
  have e : IntKind.u64.wrap (A - 131072) = A - 131072 := wu_id (by omega) (by omega)
  rw [e, i64w (by omega) (by omega)]
  omega
end
/-- Where a run's blocks stand: the program, the world, the run. -/
def f3 (b0 b1 b : Nat) : Nat → Nat := fun j => bif Nat.beq j 0 then b0 else bif Nat.beq j 1 then b1 else b
def okB (o : Option AO) : Bool := match o with
  | some o => o.live && (match o.es with | some e => !(Nat.beq e GM) | none => true)
  | none => false
theorem okB_spec {o : Option AO} (h : okB o = true) : ∃ x, o = some x ∧ x.live = true ∧ x.es ≠ some GM := by
  unfold okB at h
  split at h
  · rename_i x
    simp only [Bool.and_eq_true] at h
    refine ⟨x, rfl, h.1, fun hg => ?_⟩
    have h2 := h.2
    rw [hg] at h2
    simp at h2
  · cases h
/-- The first cells (what the registers have, and so on) stay told one by one. -/
noncomputable def ntX (C : List Value) (D d : Nat) (tag : Bool) : List Value := C.take 37 ++ (ntC C D d tag 8).drop 37
theorem take_splice {C vs : List Value} {o k : Nat} (h : k ≤ o) (ho : o ≤ C.length) : (splice C o vs).take k = C.take k := by
  unfold splice
  rw [List.append_assoc, List.take_append_of_le_length (by rw [List.length_take]; omega), List.take_take, Nat.min_eq_left h]
theorem ntC_take {C : List Value} {D d : Nat} {tag : Bool} (hl : C.length = 613) (hD : D + 8 ≤ 512) (hd : d < 64) : ∀ j, j ≤ 8 → (ntC C D d tag j).take 37 = C.take 37
  | 0, _ => rfl
  | j + 1, h => by
    have len := ntC_len (D := D) (tag := tag) hl hD hd j (by omega)
    show (ntW (ntC C D d tag j) D d j tag).take 37 = _
    unfold ntW
    have h1 : (splice (ntC C D d tag j) (0 + 37 + (D + j) * 1) [.bool true]).length = 613 := by rw [splice_length (by rw [len]; show 0 + 37 + (D + j) * 1 + 1 ≤ 613; omega), len]
    rw [take_splice (by omega) (by rw [h1]; omega), take_splice (by omega) (by rw [len]; omega)]
    exact ntC_take hl hD hd j (by omega)
theorem ntX_eq {C : List Value} {D d : Nat} {tag : Bool} (hl : C.length = 613) (hD : D + 8 ≤ 512) (hd : d < 64) : ntX C D d tag = ntC C D d tag 8 := by
  unfold ntX
  rw [← ntC_take (tag := tag) hl hD hd 8 (Nat.le_refl 8), List.take_append_drop]
noncomputable def hkNote (D d : Nat) : Hook3 := fun f args h =>
  if Nat.beq f ntF then
    match args with
    | [.pointer (some ⟨b, 0, none⟩), .int .u64 A, .int .i64 8, .bool tag] =>
      match h[b]? with
      | some ⟨true, none, .slice (some ⟨b0, o0, none⟩) l c :: .pointer (some ⟨b1, o1, none⟩) :: rest⟩ =>
        if okB h[b0]? && (okB h[b1]? && (!(Nat.beq b0 b1) && (!(Nat.beq b0 b) && !(Nat.beq b1 b)))) then
          some (.tuple ⟨[]⟩, [⟨false, some (EFF + b), ntX (.slice (some ⟨b0, o0, none⟩) l c :: .pointer (some ⟨b1, o1, none⟩) :: rest) D d tag⟩], [prP (A = 131072 + (D : Int) ∧ D = 8 * d ∧ d < 64 ∧ rest.length = 611 ∧ rest.all Ex.flat = true)])
        else none
      | _ => none
    | _ => none
  else none
theorem effB_at (b : Nat) (cs : List Value) : effB ⟨false, some (EFF + b), cs⟩ = some b := by
  have h : Nat.ble EFF (EFF + b) = true := Nat.ble_eq_true_of_le (by omega)
  unfold effB
  simp only [cond_false, h, cond_true, Nat.add_sub_cancel_left]
theorem hookH_one (h : List AO) (b : Nat) (cs : List Value) : hookH h [⟨false, some (EFF + b), cs⟩] = setC h b cs := by
  unfold hookH
  rw [effB_at]
  rfl
theorem effL_one (b : Nat) (cs : List Value) : effL [⟨false, some (EFF + b), cs⟩] = some b := by
  unfold effL
  rw [effB_at]
  rfl
theorem refF_fl {ok : Nat → Bool} {v : Value} (h : flat v = true) : refF ok 6 v = true := refF_flat 4 h
theorem hkNote_ok (D d : Nat) : HookOk3 Tryz.prog (hkNote D d) := by
  intro f args h v new cs hv hc wb k s w args' hbd H ha
  unfold hkNote at hv
  split at hv
  · rename_i hf
    obtain rfl := Nat.eq_of_beq_eq_true hf
    split at hv
    · rename_i b A tag
      split at hv
      · rename_i b0 o0 l c b1 o1 rest hb
        split at hv
        · rename_i hcond
          cases hv
          simp only [Bool.and_eq_true, Bool.not_eq_true'] at hcond
          obtain ⟨k0, k1, n01, n0, n1⟩ := hcond
          obtain ⟨x0, g0, l0, e0⟩ := okB_spec k0
          obtain ⟨x1, g1, l1, e1⟩ := okB_spec k1
          have m01 : b0 ≠ b1 := fun e => by rw [e] at n01; simp at n01
          have m0 : b0 ≠ b := fun e => by rw [e] at n0; simp at n0
          have m1 : b1 ≠ b := fun e => by rw [e] at n1; simp at n1
          obtain ⟨hA, hD, hd, hrl, hrf⟩ := prP_of (hc _ (List.mem_cons_self ..))
          rw [effL_one] at hbd
          rw [hookH_one]
          have hS : (.slice (some ⟨0, o0, none⟩) l c :: .pointer (some ⟨1, o1, none⟩) :: rest : List Value).length = 613 := by simp [hrl]
          have E := c_note (A := A) (tag := tag) hS hD hd hA
          have refs : (.slice (some ⟨0, o0, none⟩) l c :: .pointer (some ⟨1, o1, none⟩) :: rest : List Value).all (refF (fun x => decide (x < 2 + 1)) 6) = true := by
            rw [List.all_cons, List.all_cons]
            exact (Bool.and_eq_true _ _).mpr ⟨rfl, (Bool.and_eq_true _ _).mpr ⟨rfl, List.all_eq_true.2 fun v hm => refF_fl (List.all_eq_true.1 hrf v hm)⟩⟩
          have mapR : (.slice (some ⟨0, o0, none⟩) l c :: .pointer (some ⟨1, o1, none⟩) :: rest : List Value).map (reV (f3 b0 b1 b) 6) = .slice (some ⟨b0, o0, none⟩) l c :: .pointer (some ⟨b1, o1, none⟩) :: rest := by
            rw [List.map_cons, List.map_cons, map_id_all (fun v hv => reV_flat 6 hv) (l := rest) hrf]
            rfl
          have up := eff_up (q := 2) E rfl rfl (o1 := ⟨true, none, _⟩) rfl rfl (by
              show (true && (true && ((!true || (.slice (some ⟨0, o0, none⟩) l c :: .pointer (some ⟨1, o1, none⟩) :: rest : List Value).all (refF (fun x => decide (x < 2 + 1)) 6)) && true))) = true
              rw [refs]; rfl) (ntC_all (fun _ => rfl) refs D d tag 8) rfl rfl H (f := f3 b0 b1 b) (fun i j hi hj e => by
              rcases (by omega : i = 0 ∨ i = 1 ∨ i = 2) with rfl | rfl | rfl <;> rcases (by omega : j = 0 ∨ j = 1 ∨ j = 2) with rfl | rfl | rfl <;>
                first | rfl | exact absurd e m01 | exact absurd e m0 | exact absurd e m1 | exact absurd e.symm m01 | exact absurd e.symm m0 | exact absurd e.symm m1)
            (fun j hj => by
              rcases (by omega : j = 0 ∨ j = 1 ∨ j = 2) with rfl | rfl | rfl
              · exact ⟨x0, g0, l0, e0⟩
              · exact ⟨x1, g1, l1, e1⟩
              · exact ⟨_, hb, rfl, fun h => by cases h⟩)
            (fun j o ho hlo => by
              match j, ho with
              | 0, ho => cases ho; cases hlo
              | 1, ho => cases ho; cases hlo
              | 2, ho =>
                cases ho
                show h[b]? = some ⟨true, none, (.slice (some ⟨0, o0, none⟩) l c :: .pointer (some ⟨1, o1, none⟩) :: rest : List Value).map (reV (f3 b0 b1 b) 6)⟩
                rw [mapR]
                exact hb
              | n + 3, ho => cases ho) ⟨_, rfl, rfl⟩ (hbd _ rfl) (args := [.pointer (some ⟨b, 0, none⟩), .int .u64 A, .int .i64 8, .bool tag]) rfl ha
          rw [ntC_map, mapR] at up
          rw [ntX_eq (by simp [hrl]) (by omega) hd]
          exact up
        · cases hv
      · cases hv
    · cases hv
  · cases hv
end Go.Proofs.YthhgfjnnconocaaGreatDoor.Ex
end
section
namespace Go.Proofs.YthhgfjnnconocaaGreatDoor.Ex
set_option maxRecDepth 20000

open Go Go.RowKit
set_option maxHeartbeats 0
set_option maxRecDepth 1000000
set_option linter.unusedVariables false
set_option linter.unusedSectionVars false
def tld (v : Value) : Value := .tuple ⟨[.nilIface, v]⟩
noncomputable def ld1P (cs : List Value) (o : Nat) (v : Value) : Cs := [(b2i (decide (o < cs.length)), 1), (b2i (sameC (some (.value (cs.getD o .nilFunc), [], none)) (some (.value v, [], none))), 1)]
theorem ld1P_ok {cs : List Value} {o : Nat} {v : Value} (h1 : o < cs.length) (h2 : cs.getD o .nilFunc = v) : AE (ld1P cs o v) :=
  AE.cons (b1 h1) (AE.consP (same_ok (by rw [h2])) AE.nil)
abbrev rdF : FuncId := 88
noncomputable abbrev rdLp : Code := theLoopN Tryz.prog rdF 0
theorem rd_one : oneLoopN Tryz.prog rdF 0 = true := by kernel_rfl
/-- Byte j of those from F on: w: is it written; tag: is it of an address; n8, al: are they 8, at a place. -/
noncomputable def rdO (F n j : Nat) (g w tag n8 al : Bool) : Orc := fun f t _ =>
  if Nat.beq f rdF then
    match t with
    | 16 => some (.int .i64 (F : Int))
    | 21 => some (.int .i64 ((F + n : Nat) : Int))
    | 22 => some (.bool g)
    | 24 => some (.int .i64 ((F + (j + 1) : Nat) : Int))
    | 29 => some .nilIface
    | 30 => some (tld (.bool w))
    | 36 => some (.int .i64 (((F + j) / 8 : Nat) : Int))
    | 39 => some .nilIface
    | 40 => some (tld (.bool tag))
    | _ => none
  else if Nat.beq f 91 then
    match t with
    | 4 => some (.bool true)
    | 7 => some (.bool true)
    | _ => none
  else if Nat.beq f 90 then
    match t with
    | 4 => some (.bool true)
    | 7 => some (.bool false)
    | _ => none
  else if Nat.beq f 92 then
    match t with
    | 6 => some (.bool n8)
    | 10 => some (.bool al)
    | _ => none
  else none
noncomputable def rdT (A : Int) (n F j : Nat) (acc : Bool) (β : Nat → Value) : List Value := [.pointer (some ⟨2, 0, none⟩), .int .u64 A, .int .i64 (n : Int), β 3, β 4, β 5, .bool acc, β 7, .int .i64 (F : Int), .int .i64 ((F + j : Nat) : Int), β 10, β 11, β 12, β 13, β 14, β 15, β 16, β 17, β 18, β 19, β 20, β 21, β 22, β 23, β 24, β 25, β 26, β 27, β 28, β 29, β 30, β 31, β 32, β 33, β 34, β 35, β 36, β 37, β 38, β 39, β 40, β 41, β 42, β 43, β 44, β 45, β 46, β 47, β 48, β 49]
def rdTs : List Bool := [false, false, false, true, true, true, false, true, false, false, true, true, true, true, true, true, true, true, true, true, true, true, true, true, true, true, true, true, true, true, true, true, true, true, true, true, true, true, true, true, true, true, true, true, true, true, true, true, true, true]
noncomputable def rdN (A : Int) (n : Nat) (acc : Bool) (β : Nat → Value) : List Value := [β 0, .int .u64 A, .int .i64 (n : Int), β 3, β 4, β 5, .bool acc, β 7, β 8, β 9, β 10, β 11, β 12, β 13, β 14, β 15, β 16, β 17, β 18, β 19, β 20, β 21, β 22, β 23, β 24, β 25, β 26, β 27, β 28, β 29, β 30, β 31, β 32, β 33, β 34, β 35, β 36, β 37, β 38, β 39, β 40, β 41, β 42, β 43, β 44, β 45, β 46, β 47, β 48, β 49]
def rdNs : List Bool := [true, false, false, true, true, true, false, true, true, true, true, true, true, true, true, true, true, true, true, true, true, true, true, true, true, true, true, true, true, true, true, true, true, true, true, true, true, true, true, true, true, true, true, true, true, true, true, true, true, true]
noncomputable def rdX (β : Nat → Value) : List Value := [β 0, β 1, β 2, β 3, β 4, β 5, .bool false, .int .i64 101, β 8, β 9, β 10, β 11, β 12, β 13, β 14, β 15, β 16, β 17, β 18, β 19, β 20, β 21, β 22, β 23, β 24, β 25, β 26, β 27, β 28, β 29, β 30, β 31, β 32, β 33, β 34, β 35, β 36, β 37, β 38, β 39, β 40, β 41, β 42, β 43, β 44, β 45, β 46, β 47, β 48, β 49]
def rdXs : List Bool := [true, true, true, true, true, true, false, false, true, true, true, true, true, true, true, true, true, true, true, true, true, true, true, true, true, true, true, true, true, true, true, true, true, true, true, true, true, true, true, true, true, true, true, true, true, true, true, true, true, true]
noncomputable def rdE (A : Int) (n F : Nat) : List Value := [.pointer (some ⟨2, 0, none⟩), .int .u64 A, .int .i64 (n : Int), .tuple ⟨[]⟩, .tuple ⟨[]⟩, .tuple ⟨[]⟩, .bool false, .int .i64 0, .int .i64 (F : Int), .int .i64 (F : Int), .int .u64 A, .bool false, .int .u64 A, .bool true, .int .u64 A, .int .u64 (IntKind.u64.wrap (A - 131072)), .int .i64 (F : Int), .int .i64 (F : Int), .tuple ⟨[]⟩, .tuple ⟨[]⟩, .tuple ⟨[]⟩, .tuple ⟨[]⟩, .tuple ⟨[]⟩, .tuple ⟨[]⟩, .tuple ⟨[]⟩, .tuple ⟨[]⟩, .tuple ⟨[]⟩, .tuple ⟨[]⟩, .tuple ⟨[]⟩, .tuple ⟨[]⟩, .tuple ⟨[]⟩, .tuple ⟨[]⟩, .tuple ⟨[]⟩, .tuple ⟨[]⟩, .tuple ⟨[]⟩, .tuple ⟨[]⟩, .tuple ⟨[]⟩, .tuple ⟨[]⟩, .tuple ⟨[]⟩, .tuple ⟨[]⟩, .tuple ⟨[]⟩, .tuple ⟨[]⟩, .tuple ⟨[]⟩, .tuple ⟨[]⟩, .tuple ⟨[]⟩, .tuple ⟨[]⟩, .tuple ⟨[]⟩, .tuple ⟨[]⟩, .tuple ⟨[]⟩, .tuple ⟨[]⟩]
noncomputable def rdA0 (F n j : Nat) : Cs := [(IntKind.i64.wrap ((F : Int) + (n : Int)), ((F + n : Nat) : Int))]
noncomputable def rdP (C : List Value) (F n j : Nat) (w : Bool) : Cs := rdA0 F n j ++ ([(b2i (decide (((F + j : Nat) : Int) < ((F + n : Nat) : Int))), 1), (b2i (decide (0 ≤ ((F + j : Nat) : Int)) && decide (((F + j : Nat) : Int) < (512 : Nat))), 1)] ++ ld1P C (0 + 37 + (F + j) * 1) (.bool w))
noncomputable def rdG (C : List Value) (F j : Nat) (tag : Bool) : Cs := [(IntKind.i64.wrap (((F + j : Nat) : Int).tdiv 8), (((F + j) / 8 : Nat) : Int)), (b2i (decide (0 ≤ (((F + j) / 8 : Nat) : Int)) && decide ((((F + j) / 8 : Nat) : Int) < (64 : Nat))), 1)] ++ ld1P C (0 + 549 + (F + j) / 8 * 1) (.bool tag)
noncomputable def rdI (F j : Nat) : Cs := [(IntKind.i64.wrap (((F + j : Nat) : Int) + 1), ((F + (j + 1) : Nat) : Int))]
theorem rd_hFF (C : List Value) (A : Int) (n F j : Nat) (β : Nat → Value) : (iterB (bodyL Tryz.prog nil3 (rdO F n j true true false true true) noLoop rdF rdLp) 1 ⟨rdT A n F j false β, ntH C, (none, [])⟩).map (fun x => (maskQ rdTs x.t, x.h, x.m.1, inter x.m.2)) = some (rdT A n F (j + 1) false fun _ => .bool true, ntH C, none, inter (rdP C F n j true ++ (rdG C F j false ++ rdI F j))) := by kernel_rfl
theorem rd_hFT (C : List Value) (A : Int) (n F j : Nat) (β : Nat → Value) : (iterB (bodyL Tryz.prog nil3 (rdO F n j true true true true true) noLoop rdF rdLp) 1 ⟨rdT A n F j false β, ntH C, (none, [])⟩).map (fun x => (maskQ rdTs x.t, x.h, x.m.1, inter x.m.2)) = some (rdT A n F (j + 1) true fun _ => .bool true, ntH C, none, inter (rdP C F n j true ++ (rdG C F j true ++ rdI F j))) := by kernel_rfl
theorem rd_hTT (C : List Value) (A : Int) (n F j : Nat) (β : Nat → Value) : (iterB (bodyL Tryz.prog nil3 (rdO F n j true true true true true) noLoop rdF rdLp) 1 ⟨rdT A n F j true β, ntH C, (none, [])⟩).map (fun x => (maskQ rdTs x.t, x.h, x.m.1, inter x.m.2)) = some (rdT A n F (j + 1) true fun _ => .bool true, ntH C, none, inter (rdP C F n j true ++ (rdI F j))) := by kernel_rfl
theorem rd_retF (C : List Value) (A : Int) (n F j : Nat) (β : Nat → Value) : (loopN (bodyL Tryz.prog nil3 (rdO F n j true false false true true) noLoop rdF rdLp) 1 ⟨rdT A n F j false β, ntH C, (none, [])⟩).map (fun r => (r.1, maskQ rdXs r.2.t, r.2.h, r.2.m.1, inter r.2.m.2)) = some (.ret, rdX fun _ => .bool true, ntH C, none, inter (rdP C F n j false)) := by kernel_rfl
theorem rd_endF (C : List Value) (A : Int) (n F : Nat) (β : Nat → Value) : (loopN (bodyL Tryz.prog nil3 (rdO F n n false true true true true) noLoop rdF rdLp) 1 ⟨rdT A n F n false β, ntH C, (none, [])⟩).map (fun r => (r.1, maskQ rdNs r.2.t, r.2.h, r.2.m.1, inter r.2.m.2)) = some (.exit 0, rdN A n false fun _ => .bool true, ntH C, none, inter (rdA0 F n n ++ [(b2i (decide (((F + n : Nat) : Int) < ((F + n : Nat) : Int))), 0)])) := by kernel_rfl
theorem rd_retT (C : List Value) (A : Int) (n F j : Nat) (β : Nat → Value) : (loopN (bodyL Tryz.prog nil3 (rdO F n j true false false true true) noLoop rdF rdLp) 1 ⟨rdT A n F j true β, ntH C, (none, [])⟩).map (fun r => (r.1, maskQ rdXs r.2.t, r.2.h, r.2.m.1, inter r.2.m.2)) = some (.ret, rdX fun _ => .bool true, ntH C, none, inter (rdP C F n j false)) := by kernel_rfl
theorem rd_endT (C : List Value) (A : Int) (n F : Nat) (β : Nat → Value) : (loopN (bodyL Tryz.prog nil3 (rdO F n n false true true true true) noLoop rdF rdLp) 1 ⟨rdT A n F n true β, ntH C, (none, [])⟩).map (fun r => (r.1, maskQ rdNs r.2.t, r.2.h, r.2.m.1, inter r.2.m.2)) = some (.exit 0, rdN A n true fun _ => .bool true, ntH C, none, inter (rdA0 F n n ++ [(b2i (decide (((F + n : Nat) : Int) < ((F + n : Nat) : Int))), 0)])) := by kernel_rfl
noncomputable def rdQ (C : List Value) (A : Int) (n F : Nat) (e : Exit) (t : List Value) : LoopQ := ⟨rdF, 0, fun _ => true, rdE A n F, ntH C, e, t, ntH C, (none, [])⟩
def rdA (A : Int) (n : Nat) : List Value := [.pointer (some ⟨2, 0, none⟩), .int .u64 A, .int .i64 (n : Int)]
noncomputable def rdR (C : List Value) (A : Int) (n F : Nat) : Cs := [(b2i (decide (A ≥ 65536)), 1), (b2i (decide (A < 65552)), 0), (b2i (decide (A ≥ 131072)), 1), (b2i (decide (A < 131584)), 1), (IntKind.i64.wrap (IntKind.u64.wrap (A - 131072)), (F : Int)), prP (rdE A n F = rdE A n F), prP (ntH C = ntH C)]
def rdV (t : Bool) (e : Int) : Value := .tuple ⟨[.bool t, .int .i64 e]⟩
theorem rd_runX (C : List Value) (A : Int) (n F : Nat) (β : Nat → Value) : effR Tryz.prog nil3 (rdO F n 0 true true true true true) (loopQHook [rdQ C A n F .ret (rdX β)]) (ntH C) rdF (rdA A n) = some (rdV false 101, ntH C, none, inter (rdR C A n F)) := by kernel_rfl
theorem rd_run0 (C : List Value) (A : Int) (n F : Nat) (β : Nat → Value) : effR Tryz.prog nil3 (rdO F n 0 true true true true true) (loopQHook [rdQ C A n F (.exit 0) (rdN A n false β)]) (ntH C) rdF (rdA A n) = some (rdV false 0, ntH C, none, inter (rdR C A n F)) := by kernel_rfl
theorem rd_run1 (C : List Value) (A : Int) (n F : Nat) (β : Nat → Value) : effR Tryz.prog nil3 (rdO F n 0 true true true true true) (loopQHook [rdQ C A n F (.exit 0) (rdN A n true β)]) (ntH C) rdF (rdA A n) = some (rdV true 0, ntH C, none, inter (rdR C A n F ++ [(b2i ((n : Int) == 8), 1), (b2i (A.tmod 8 == 0), 1)])) := by kernel_rfl
theorem rd_runL (C : List Value) (A : Int) (n F : Nat) (β : Nat → Value) : effR Tryz.prog nil3 (rdO F n 0 true true true false true) (loopQHook [rdQ C A n F (.exit 0) (rdN A n true β)]) (ntH C) rdF (rdA A n) = some (rdV false 102, ntH C, none, inter (rdR C A n F ++ [(b2i ((n : Int) == 8), 0)])) := by kernel_rfl
end Go.Proofs.YthhgfjnnconocaaGreatDoor.Ex
end
section
namespace Go.Proofs.YthhgfjnnconocaaGreatDoor.Ex
set_option maxRecDepth 20000

open Go Go.RowKit
set_option maxHeartbeats 0
set_option maxRecDepth 1000000
set_option linter.unusedVariables false
set_option linter.unusedSectionVars false
/-- Of the bytes from F on, m are written (each in a place that bears tag); the next one is not, if there is one. -/
structure RdC (C : List Value) (A : Int) (n F m : Nat) (tag : Bool) : Prop where
  hl : C.length = 613
  hA : A = 131072 + (F : Int)
  hF : F + n ≤ 512
  hm : m ≤ n
  h0 : 1 ≤ n
  hn : n ≤ 8
  wr : ∀ i, i < m → C.getD (0 + 37 + (F + i) * 1) .nilFunc = .bool true
  tg : ∀ i, i < m → C.getD (0 + 549 + (F + i) / 8 * 1) .nilFunc = .bool tag
  un : m < n → C.getD (0 + 37 + (F + m) * 1) .nilFunc = .bool false
  al : tag = true → m = n → n = 8 → F % 8 = 0
def accB (tag : Bool) (j : Nat) : Bool := bif Nat.beq j 0 then false else tag
theorem accB_s (tag : Bool) (j : Nat) : accB tag (j + 1) = tag := rfl
theorem rd_unT (A : Int) (n F j : Nat) (acc : Bool) : ∀ β, unmask β 0 rdTs (rdT A n F j acc fun _ => .bool true) = rdT A n F j acc β := fun β => rfl
theorem rd_unN (A : Int) (n : Nat) (acc : Bool) : ∀ β, unmask β 0 rdNs (rdN A n acc fun _ => .bool true) = rdN A n acc β := fun β => rfl
theorem rd_unX : ∀ β, unmask β 0 rdXs (rdX fun _ => .bool true) = rdX β := fun β => rfl
theorem rdE_eq (A : Int) (n F : Nat) : rdT A n F 0 false (fun k => (rdE A n F).getD k (.bool true)) = rdE A n F := by kernel_rfl
theorem bnd_none (k : Nat) : Bnd k (none, []) := ⟨fun i hi => (by cases hi), fun c hc => absurd hc (by simp)⟩
section
variable {C : List Value} {A : Int} {n F m : Nat} {tag : Bool} (R : RdC C A n F m tag)
include R
theorem rdA0_ok (j : Nat) : AE (rdA0 F n j) := by
  have h1 := R.hF
  refine AE.cons ?_ AE.nil
  show IntKind.i64.wrap ((F : Int) + (n : Int)) = ((F + n : Nat) : Int)
  rw [i64w (by omega) (by omega)]
  omega
theorem rdP_ok {j : Nat} {w : Bool} (hj : j < n) (hw : C.getD (0 + 37 + (F + j) * 1) .nilFunc = .bool w) : AE (rdP C F n j w) := by
  have h1 := R.hF
  have h2 := R.hl
  refine AE.app (rdA0_ok R j) (AE.app (AE.cons (b1 (by omega)) (AE.cons (bt ?_) AE.nil)) (ld1P_ok (by rw [h2]; omega) hw))
  rw [Bool.and_eq_true]
  exact ⟨decide_eq_true (by omega), decide_eq_true (by omega)⟩
theorem rdG_ok {j : Nat} (hj : j < m) : AE (rdG C F j tag) := by
  have h1 := R.hF
  have h2 := R.hl
  have h3 := R.hm
  refine AE.app (AE.cons ?_ (AE.cons (bt ?_) AE.nil)) (ld1P_ok (by rw [h2]; omega) (R.tg j hj))
  · show IntKind.i64.wrap (((F + j : Nat) : Int).tdiv 8) = (((F + j) / 8 : Nat) : Int)
    have e : ((F + j : Nat) : Int).tdiv 8 = (((F + j) / 8 : Nat) : Int) := by
      rw [Int.tdiv_eq_ediv_of_nonneg (by omega)]
      omega
    rw [e, i64w (by omega) (by omega)]
  · rw [Bool.and_eq_true]
    exact ⟨decide_eq_true (by omega), decide_eq_true (by omega)⟩
theorem rdI_ok {j : Nat} (hj : j < n) : AE (rdI F j) := by
  have h1 := R.hF
  refine AE.cons ?_ AE.nil
  show IntKind.i64.wrap (((F + j : Nat) : Int) + 1) = ((F + (j + 1) : Nat) : Int)
  rw [i64w (by omega) (by omega)]
  omega
theorem rd_one_round {j : Nat} (hj : j < m) (β : Nat → Value) : ∃ β', Hop Tryz.prog rdLp 1 (rdT A n F j (accB tag j) β) (ntH C) (rdT A n F (j + 1) (accB tag (j + 1)) β') (ntH C) (none, []) := by
  have hm := R.hm
  have p1 := rdP_ok R (w := true) (by omega) (R.wr j hj)
  have p2 := rdG_ok R hj
  have p3 := rdI_ok R (j := j) (by omega)
  rw [accB_s]
  cases htg : tag with
  | false =>
    rw [htg] at p2
    have e : accB false j = false := by unfold accB; cases Nat.beq j 0 <;> rfl
    rw [e]
    exact hopM_ok noNG nil3_ok noLoop_low (noLoop_ok _) rd_one (rd_unT A n F (j + 1) false) (rd_hFF C A n F j β) (AE.app p1 (AE.app p2 p3))
  | true =>
    rw [htg] at p2
    cases j with
    | zero => exact hopM_ok noNG nil3_ok noLoop_low (noLoop_ok _) rd_one (rd_unT A n F (0 + 1) true) (rd_hFT C A n F 0 β) (AE.app p1 (AE.app p2 p3))
    | succ j => exact hopM_ok noNG nil3_ok noLoop_low (noLoop_ok _) rd_one (rd_unT A n F (j + 1 + 1) true) (rd_hTT C A n F (j + 1) β) (AE.app p1 p3)
theorem rd_rounds (x : Nat) : ∀ (j : Nat) (β : Nat → Value), j + x ≤ m → ∃ β', Hop Tryz.prog rdLp x (rdT A n F j (accB tag j) β) (ntH C) (rdT A n F (j + x) (accB tag (j + x)) β') (ntH C) (none, []) := by
  induction x with
  | zero => exact fun j β _ => ⟨β, Hop.zero _ _ _⟩
  | succ x ih =>
    intro j β hj
    obtain ⟨β1, q1⟩ := rd_one_round R (show j < m by omega) β
    obtain ⟨β2, q2⟩ := ih (j + 1) β1 (by omega)
    refine ⟨β2, ?_⟩
    rw [show j + (x + 1) = j + 1 + x by omega, show x + 1 = 1 + x by omega]
    exact q1.trans q2 (fun _ h => h) (fun _ h => h)
theorem rdR_ok : AE (rdR C A n F) := by
  have h1 := R.hF
  have h2 := R.hA
  have h3 := R.h0
  refine AE.cons (b1 (by omega)) (AE.cons (b0 (by omega)) (AE.cons (b1 (by omega)) (AE.cons (b1 (by omega)) (AE.cons ?_ (AE.consP (prP_ok rfl) (AE.consP (prP_ok rfl) AE.nil))))))
  show IntKind.i64.wrap (IntKind.u64.wrap (A - 131072)) = (F : Int)
  have e : IntKind.u64.wrap (A - 131072) = A - 131072 := wu_id (by omega) (by omega)
  rw [e, i64w (by omega) (by omega)]
  omega
theorem rd_stopX (h : m < n) : ∃ β, Stop Tryz.prog rdLp (m + 1) (rdE A n F) (ntH C) .ret (rdX β) (ntH C) (none, []) := by
  obtain ⟨β1, q1⟩ := rd_rounds R m 0 (fun k => (rdE A n F).getD k (.bool true)) (by omega)
  rw [Nat.zero_add] at q1
  have e : accB tag 0 = false := rfl
  rw [e, rdE_eq] at q1
  have P := rdP_ok R h (R.un h)
  cases ha : accB tag m with
  | false =>
    rw [ha] at q1
    obtain ⟨β2, q2⟩ := stopM_ok noNG nil3_ok noLoop_low (noLoop_ok _) rd_one rd_unX (rd_retF C A n F m β1) P
    exact ⟨β2, q1.stop' (m3 := (none, [])) q2 (fun _ h => h) (fun k _ => bnd_none k)⟩
  | true =>
    rw [ha] at q1
    obtain ⟨β2, q2⟩ := stopM_ok noNG nil3_ok noLoop_low (noLoop_ok _) rd_one rd_unX (rd_retT C A n F m β1) P
    exact ⟨β2, q1.stop' (m3 := (none, [])) q2 (fun _ h => h) (fun k _ => bnd_none k)⟩
theorem rd_stopN (h : m = n) : ∃ β, Stop Tryz.prog rdLp (n + 1) (rdE A n F) (ntH C) (.exit 0) (rdN A n tag β) (ntH C) (none, []) := by
  have h0 := R.h0
  subst h
  obtain ⟨β1, q1⟩ := rd_rounds R m 0 (fun k => (rdE A m F).getD k (.bool true)) (by omega)
  rw [Nat.zero_add] at q1
  have e : accB tag 0 = false := rfl
  have e2 : accB tag m = tag := by
    cases m with
    | zero => omega
    | succ m => rfl
  rw [e, e2, rdE_eq] at q1
  have P : AE (rdA0 F m m ++ [(b2i (decide (((F + m : Nat) : Int) < ((F + m : Nat) : Int))), 0)]) := AE.app (rdA0_ok R m) (AE.cons (b0 (by omega)) AE.nil)
  cases tag with
  | false =>
    obtain ⟨β2, q2⟩ := stopM_ok noNG nil3_ok noLoop_low (noLoop_ok _) rd_one (rd_unN A m false) (rd_endF C A m F β1) P
    exact ⟨β2, q1.stop' (m3 := (none, [])) q2 (fun _ h => h) (fun k _ => bnd_none k)⟩
  | true =>
    obtain ⟨β2, q2⟩ := stopM_ok noNG nil3_ok noLoop_low (noLoop_ok _) rd_one (rd_unN A m true) (rd_endT C A m F β1) P
    exact ⟨β2, q1.stop' (m3 := (none, [])) q2 (fun _ h => h) (fun k _ => bnd_none k)⟩
end
/-- What the call answers: n bytes, m of them written. -/
def rdVal (n m : Nat) (tag : Bool) : Value := bif Nat.beq m n then (bif tag then (bif Nat.beq n 8 then rdV true 0 else rdV false 102) else rdV false 0) else rdV false 101
theorem rdVal_flat (n m : Nat) (tag : Bool) : flat (rdVal n m tag) = true := by
  unfold rdVal
  cases Nat.beq m n <;> cases tag <;> cases Nat.beq n 8 <;> rfl
theorem c_read {C : List Value} {A : Int} {n F m : Nat} {tag : Bool} (R : RdC C A n F m tag) : EffCall Tryz.prog rdF 3 (ntH C) (rdA A n) (rdVal n m tag) (ntH C) := by
  have low : ∀ i, (none : Option Nat) = some i → 3 ≤ i := fun i hi => by cases hi
  have hm := R.hm
  rcases Nat.lt_or_ge m n with h | h
  · obtain ⟨β, s⟩ := rd_stopX R h
    have e : rdVal n m tag = rdV false 101 := by
      unfold rdVal
      have : Nat.beq m n = false := by
        cases hb : Nat.beq m n with
        | false => rfl
        | true =>
          have := Nat.eq_of_beq_eq_true hb
          omega
      rw [this]
      rfl
    rw [e]
    exact effR_ok noNG nil3_ok (loopQHook_low _) (loopQHook_ok fun e he => by rw [List.mem_singleton.1 he]; exact loopQ_ok rd_one s) (rd_runX C A n F β) low (rdR_ok R)
  · have h : m = n := by omega
    subst h
    obtain ⟨β, s⟩ := rd_stopN R rfl
    have e0 : Nat.beq m m = true := Nat.beq_refl m
    cases tag with
    | false =>
      have e : rdVal m m false = rdV false 0 := by unfold rdVal; rw [e0]; rfl
      rw [e]
      exact effR_ok noNG nil3_ok (loopQHook_low _) (loopQHook_ok fun e he => by rw [List.mem_singleton.1 he]; exact loopQ_ok rd_one s) (rd_run0 C A m F β) low (rdR_ok R)
    | true =>
      cases h8 : Nat.beq m 8 with
      | true =>
        have e : rdVal m m true = rdV true 0 := by unfold rdVal; rw [e0, h8]; rfl
        have h88 := Nat.eq_of_beq_eq_true h8
        subst h88
        rw [e]
        have a1 := R.al rfl rfl rfl
        have a2 := R.hA
        refine effR_ok noNG nil3_ok (loopQHook_low _) (loopQHook_ok fun e he => by rw [List.mem_singleton.1 he]; exact loopQ_ok rd_one s) (rd_run1 C A 8 F β) low (AE.app (rdR_ok R) (AE.cons (bt rfl) (AE.cons (bt ?_) AE.nil)))
        have : A.tmod 8 = 0 := by
          rw [Int.tmod_eq_emod_of_nonneg (by omega)]
          omega
        rw [this]
        rfl
      | false =>
        have e : rdVal m m true = rdV false 102 := by unfold rdVal; rw [e0, h8]; rfl
        have h88 : m ≠ 8 := fun h => by subst h; cases h8
        rw [e]
        refine effR_ok noNG nil3_ok (loopQHook_low _) (loopQHook_ok fun e he => by rw [List.mem_singleton.1 he]; exact loopQ_ok rd_one s) (rd_runL C A m F β) low (AE.app (rdR_ok R) (AE.cons ?_ AE.nil))
        have : ((m : Int) == 8) = false := by
          rw [beq_eq_false_iff_ne]
          omega
        rw [this]
        rfl
noncomputable def hkRead (n F m : Nat) (tag : Bool) : FuncId → List Value → List AO → Option (Value × Cs) := fun f args h =>
  if Nat.beq f rdF then
    match args with
    | [.pointer (some ⟨b, 0, none⟩), .int .u64 A, .int .i64 _n] =>
      match h[b]? with
      | some ⟨true, none, .slice (some ⟨b0, o0, none⟩) l c :: .pointer (some ⟨b1, o1, none⟩) :: rest⟩ =>
        if okB h[b0]? && (okB h[b1]? && (!(Nat.beq b0 b1) && (!(Nat.beq b0 b) && !(Nat.beq b1 b)))) then
          some (rdVal n m tag, [prP (_n = (n : Int) ∧ rest.all Ex.flat = true ∧ RdC (.slice (some ⟨0, o0, none⟩) l c :: .pointer (some ⟨1, o1, none⟩) :: rest) A n F m tag)])
        else none
      | _ => none
    | _ => none
  else none
theorem hkRead_ok (n F m : Nat) (tag : Bool) : HookOk2 Tryz.prog (hkRead n F m tag) := by
  intro f args h v cs hv hc wb k s w args' H ha
  unfold hkRead at hv
  split at hv
  · rename_i hf
    obtain rfl := Nat.eq_of_beq_eq_true hf
    split at hv
    · rename_i b A _n
      split at hv
      · rename_i b0 o0 l c b1 o1 rest hb
        split at hv
        · rename_i hcond
          cases hv
          simp only [Bool.and_eq_true, Bool.not_eq_true'] at hcond
          obtain ⟨k0, k1, n01, n0, n1⟩ := hcond
          obtain ⟨x0, g0, l0, e0⟩ := okB_spec k0
          obtain ⟨x1, g1, l1, e1⟩ := okB_spec k1
          have m01 : b0 ≠ b1 := fun e => by rw [e] at n01; simp at n01
          have m0 : b0 ≠ b := fun e => by rw [e] at n0; simp at n0
          have m1 : b1 ≠ b := fun e => by rw [e] at n1; simp at n1
          obtain ⟨hn, hrf, R⟩ := prP_of (hc _ (List.mem_cons_self ..))
          subst hn
          have E := c_read R
          have refs : (.slice (some ⟨0, o0, none⟩) l c :: .pointer (some ⟨1, o1, none⟩) :: rest : List Value).all (refF (fun x => decide (x < 3)) 6) = true := by
            rw [List.all_cons, List.all_cons]
            exact (Bool.and_eq_true _ _).mpr ⟨rfl, (Bool.and_eq_true _ _).mpr ⟨rfl, List.all_eq_true.2 fun v hm => refF_fl (List.all_eq_true.1 hrf v hm)⟩⟩
          have mapR : (.slice (some ⟨0, o0, none⟩) l c :: .pointer (some ⟨1, o1, none⟩) :: rest : List Value).map (reV (f3 b0 b1 b) 6) = .slice (some ⟨b0, o0, none⟩) l c :: .pointer (some ⟨b1, o1, none⟩) :: rest := by
            rw [List.map_cons, List.map_cons, map_id_all (fun v hv => reV_flat 6 hv) (l := rest) hrf]
            rfl
          exact read_up (q := 3) E rfl (by
              show (true && (true && ((!true || (.slice (some ⟨0, o0, none⟩) l c :: .pointer (some ⟨1, o1, none⟩) :: rest : List Value).all (refF (fun x => decide (x < 3)) 6)) && true))) = true
              rw [refs]; rfl) rfl (rdVal_flat n m tag) H (f := f3 b0 b1 b) (fun i j hi hj e => by
              rcases (by omega : i = 0 ∨ i = 1 ∨ i = 2) with rfl | rfl | rfl <;> rcases (by omega : j = 0 ∨ j = 1 ∨ j = 2) with rfl | rfl | rfl <;>
                first | rfl | exact absurd e m01 | exact absurd e m0 | exact absurd e m1 | exact absurd e.symm m01 | exact absurd e.symm m0 | exact absurd e.symm m1)
            (fun j hj => by
              rcases (by omega : j = 0 ∨ j = 1 ∨ j = 2) with rfl | rfl | rfl
              · exact ⟨x0, g0, l0, e0⟩
              · exact ⟨x1, g1, l1, e1⟩
              · exact ⟨_, hb, rfl, fun h => by cases h⟩)
            (fun j o ho hlo => by
              match j, ho with
              | 0, ho => cases ho; cases hlo
              | 1, ho => cases ho; cases hlo
              | 2, ho =>
                cases ho
                show h[b]? = some ⟨true, none, (.slice (some ⟨0, o0, none⟩) l c :: .pointer (some ⟨1, o1, none⟩) :: rest : List Value).map (reV (f3 b0 b1 b) 6)⟩
                rw [mapR]
                exact hb
              | n + 3, ho => cases ho) (args := [.pointer (some ⟨b, 0, none⟩), .int .u64 A, .int .i64 (n : Int)]) rfl ha
        · cases hv
      · cases hv
    · cases hv
  · cases hv
noncomputable def hkPart (n F m : Nat) : FuncId → List Value → List AO → Option (Value × Cs) := fun f args h =>
  if Nat.beq f rdF then
    match args with
    | [.pointer (some ⟨b, 0, none⟩), .int .u64 A, .int .i64 _n] =>
      match h[b]? with
      | some ⟨true, none, .slice (some ⟨b0, o0, none⟩) l c :: .pointer (some ⟨b1, o1, none⟩) :: rest⟩ =>
        if okB h[b0]? && (okB h[b1]? && (!(Nat.beq b0 b1) && (!(Nat.beq b0 b) && !(Nat.beq b1 b)))) then
          some (rdV false 101, [prP (_n = (n : Int) ∧ rest.all Ex.flat = true ∧ m < n ∧ ∃ tag, RdC (.slice (some ⟨0, o0, none⟩) l c :: .pointer (some ⟨1, o1, none⟩) :: rest) A n F m tag)])
        else none
      | _ => none
    | _ => none
  else none
theorem hkPart_ok (n F m : Nat) : HookOk2 Tryz.prog (hkPart n F m) := by
  intro f args h v cs hv hc wb k s w args' H ha
  unfold hkPart at hv
  split at hv
  · rename_i hf
    obtain rfl := Nat.eq_of_beq_eq_true hf
    split at hv
    · rename_i b A _n
      split at hv
      · rename_i b0 o0 l c b1 o1 rest hb
        split at hv
        · rename_i hcond
          cases hv
          simp only [Bool.and_eq_true, Bool.not_eq_true'] at hcond
          obtain ⟨k0, k1, n01, n0, n1⟩ := hcond
          obtain ⟨x0, g0, l0, e0⟩ := okB_spec k0
          obtain ⟨x1, g1, l1, e1⟩ := okB_spec k1
          have m01 : b0 ≠ b1 := fun e => by rw [e] at n01; simp at n01
          have m0 : b0 ≠ b := fun e => by rw [e] at n0; simp at n0
          have m1 : b1 ≠ b := fun e => by rw [e] at n1; simp at n1
          obtain ⟨hn, hrf, hmn, tag, R⟩ := prP_of (hc _ (List.mem_cons_self ..))
          subst hn
          have E := c_read R
          have e : rdVal n m tag = rdV false 101 := by
            unfold rdVal
            cases hb : Nat.beq m n with
            | false => rfl
            | true => exact absurd (Nat.eq_of_beq_eq_true hb) (by omega)
          rw [e] at E
          have refs : (.slice (some ⟨0, o0, none⟩) l c :: .pointer (some ⟨1, o1, none⟩) :: rest : List Value).all (refF (fun x => decide (x < 3)) 6) = true := by
            rw [List.all_cons, List.all_cons]
            exact (Bool.and_eq_true _ _).mpr ⟨rfl, (Bool.and_eq_true _ _).mpr ⟨rfl, List.all_eq_true.2 fun v hm => refF_fl (List.all_eq_true.1 hrf v hm)⟩⟩
          have mapR : (.slice (some ⟨0, o0, none⟩) l c :: .pointer (some ⟨1, o1, none⟩) :: rest : List Value).map (reV (f3 b0 b1 b) 6) = .slice (some ⟨b0, o0, none⟩) l c :: .pointer (some ⟨b1, o1, none⟩) :: rest := by
            rw [List.map_cons, List.map_cons, map_id_all (fun v hv => reV_flat 6 hv) (l := rest) hrf]
            rfl
          exact read_up (q := 3) E rfl (by
              show (true && (true && ((!true || (.slice (some ⟨0, o0, none⟩) l c :: .pointer (some ⟨1, o1, none⟩) :: rest : List Value).all (refF (fun x => decide (x < 3)) 6)) && true))) = true
              rw [refs]; rfl) rfl rfl H (f := f3 b0 b1 b) (fun i j hi hj e => by
              rcases (by omega : i = 0 ∨ i = 1 ∨ i = 2) with rfl | rfl | rfl <;> rcases (by omega : j = 0 ∨ j = 1 ∨ j = 2) with rfl | rfl | rfl <;>
                first | rfl | exact absurd e m01 | exact absurd e m0 | exact absurd e m1 | exact absurd e.symm m01 | exact absurd e.symm m0 | exact absurd e.symm m1)
            (fun j hj => by
              rcases (by omega : j = 0 ∨ j = 1 ∨ j = 2) with rfl | rfl | rfl
              · exact ⟨x0, g0, l0, e0⟩
              · exact ⟨x1, g1, l1, e1⟩
              · exact ⟨_, hb, rfl, fun h => by cases h⟩)
            (fun j o ho hlo => by
              match j, ho with
              | 0, ho => cases ho; cases hlo
              | 1, ho => cases ho; cases hlo
              | 2, ho =>
                cases ho
                show h[b]? = some ⟨true, none, (.slice (some ⟨0, o0, none⟩) l c :: .pointer (some ⟨1, o1, none⟩) :: rest : List Value).map (reV (f3 b0 b1 b) 6)⟩
                rw [mapR]
                exact hb
              | n + 3, ho => cases ho) (args := [.pointer (some ⟨b, 0, none⟩), .int .u64 A, .int .i64 (n : Int)]) rfl ha
        · cases hv
      · cases hv
    · cases hv
  · cases hv
end Go.Proofs.YthhgfjnnconocaaGreatDoor.Ex
end
section
namespace Go.Proofs.YthhgfjnnconocaaGreatDoor
set_option maxRecDepth 20000

def lowS (v : BitVec 64) (b : Int) : BitVec 64 := if b ≤ 0 then 0 else if 64 ≤ b then v else v &&& (1#64 <<< b.toNat - 1#64)
/-- The number of the first k of some bytes. -/
def numF (f : Nat → BitVec 8) : Nat → BitVec 64
  | 0 => 0#64
  | k + 1 => numF f k ||| ((f k).setWidth 64 <<< (8 * k))
def byteAt (s : ByteArray) (i : Nat) : BitVec 8 := (s.data.toList.getD i 0).toBitVec
def numS (s : ByteArray) : BitVec 64 := numF (byteAt s) (min s.size 8)
theorem numF_succ (f : Nat → BitVec 8) (k : Nat) : numF f (k + 1) = numF f k ||| ((f k).setWidth 64 <<< (8 * k)) := rfl
theorem byteAt_get (s : ByteArray) (k : Nat) (h : k < s.size) : BitVec.ofNat 64 s[k].toNat = (byteAt s k).setWidth 64 := by
  unfold byteAt
  have h' : k < s.data.toList.length := by simpa using h
  rw [List.getD_eq_getElem?_getD, List.getElem?_eq_getElem h']
  rw [← BitVec.ofNat_toNat]; rfl
theorem numS_eq (s : ByteArray) (k : Nat) (h : k = min s.size 8) : numF (byteAt s) k = numS s := by rw [h]; rfl

theorem numF_bit (f : Nat → BitVec 8) (k j : Nat) : (numF f k).getLsbD j = (decide (j < 64) && decide (j < 8 * k) && (f (j / 8)).getLsbD (j % 8)) := by
  induction k with
  | zero => simp [numF]
  | succ k ih =>
    rw [numF_succ, BitVec.getLsbD_or, ih, BitVec.getLsbD_shiftLeft, BitVec.getLsbD_setWidth]
    by_cases h64 : j < 64
    · by_cases h1 : j < 8 * k
      · have h2 : j < 8 * (k + 1) := by omega
        simp [h64, h1, h2]
      · by_cases h2 : j < 8 * (k + 1)
        · have e1 : j / 8 = k := by omega
          have e2 : j - 8 * k = j % 8 := by omega
          have e3 : j % 8 < 64 := by omega
          simp [h64, h1, h2, e1, e2, e3]
        · have e2 : 8 ≤ j - 8 * k := by omega
          simp [h64, h1, h2, BitVec.getLsbD_of_ge _ _ e2]
    · simp [h64]

def byteOf (v : BitVec 64) (i : Nat) : BitVec 8 := (v >>> (8 * i)).setWidth 8
def bytesN (v : BitVec 64) (n : Nat) : ByteArray := ⟨((List.range n).map fun i => UInt8.ofBitVec (byteOf v i)).toArray⟩
theorem bytesN_size (v : BitVec 64) (n : Nat) : (bytesN v n).size = n := by
  show (bytesN v n).data.size = n
  simp [bytesN]
theorem bytesN_list (v : BitVec 64) (n : Nat) : (bytesN v n).data.toList = (List.range n).map fun i => UInt8.ofBitVec (byteOf v i) := by simp [bytesN]
theorem bytesN_get (v : BitVec 64) (n i : Nat) (h : i < (bytesN v n).size) : ((bytesN v n)[i].toNat : Int) = N (byteOf v i) := by
  have e : (bytesN v n)[i] = (bytesN v n).data[i]'(by simpa using h) := rfl
  rw [e]
  simp [bytesN, N]
theorem byteAt_bytesN (v : BitVec 64) (n i : Nat) (h : i < n) : byteAt (bytesN v n) i = byteOf v i := by
  unfold byteAt
  rw [bytesN_list, List.getD_eq_getElem?_getD]
  simp [h]

/-- nums.Bytes: the text of a number's n lowest bytes. -/
def bytesS (v : BitVec 64) (n : Int) : ByteArray := if n < 0 ∨ 8 < n then ⟨#[]⟩ else bytesN v n.toNat

theorem low_mod (v : BitVec 64) (b : Nat) : v % (1#64 <<< b) = v &&& (1#64 <<< b - 1#64) ∨ 64 ≤ b := by
  by_cases h : b < 64
  · left
    apply BitVec.eq_of_toNat_eq
    have hp : 2 ^ b < 2 ^ 64 := Nat.pow_lt_pow_right (by decide) h
    have e1 : (1#64 <<< b).toNat = 2 ^ b := by
      rw [BitVec.toNat_shiftLeft]; simp [Nat.shiftLeft_eq]; exact hp
    have hp0 : 0 < 2 ^ b := Nat.two_pow_pos b
    have e2 : (1#64 <<< b - 1#64).toNat = 2 ^ b - 1 := by
      rw [BitVec.toNat_sub, e1]; simp; omega
    rw [BitVec.toNat_umod, BitVec.toNat_and, e1, e2, Nat.and_two_pow_sub_one_eq_mod]
  · right; omega
theorem low_of_mod (v : BitVec 64) (b : Int) (h0 : 0 < b) (h1 : b < 64) : v % (1#64 <<< b.toNat) = lowS v b := by
  unfold lowS
  rw [if_neg (by omega), if_neg (by omega)]
  exact (low_mod v b.toNat).resolve_right (by omega)
theorem low_toNat (v : BitVec 64) (b : Int) (h0 : 0 < b) (h1 : b < 64) : (lowS v b).toNat = v.toNat % 2 ^ b.toNat := by
  rw [← low_of_mod v b h0 h1, BitVec.toNat_umod, BitVec.toNat_shiftLeft]
  have hp : 2 ^ b.toNat < 2 ^ 64 := Nat.pow_lt_pow_right (by decide) (by omega)
  simp only [BitVec.toNat_ofNat, Nat.shiftLeft_eq]
  rw [Nat.mod_eq_of_lt (a := 1) (by decide), Nat.one_mul, Nat.mod_eq_of_lt hp]
theorem low_bit (v : BitVec 64) (b : Int) (i : Nat) : (lowS v b).getLsbD i = (decide ((i : Int) < b) && v.getLsbD i) := by
  by_cases h0 : b ≤ 0
  · unfold lowS; rw [if_pos h0]
    have : ¬ (i : Int) < b := by omega
    simp [this]
  · by_cases h1 : 64 ≤ b
    · unfold lowS; rw [if_neg h0, if_pos h1]
      by_cases hi : i < 64
      · have : (i : Int) < b := by omega
        simp [this]
      · simp [BitVec.getLsbD_of_ge v i (by omega)]
    · have e := low_toNat v b (by omega) (by omega)
      rw [BitVec.getLsbD, e, Nat.testBit_mod_two_pow]
      congr 1
      simp only [decide_eq_decide]; omega
end Go.Proofs.YthhgfjnnconocaaGreatDoor
end
section
namespace Go.Proofs.YthhgfjnnconocaaGreatDoor
set_option maxRecDepth 20000

/-! What the laws ask. -/
theorem bytesS_size (v : BitVec 64) (n : Nat) (h : n ≤ 8) : (bytesS v n).size = n := by
  unfold bytesS
  rw [if_neg (by omega), Int.toNat_natCast, bytesN_size]
end Go.Proofs.YthhgfjnnconocaaGreatDoor
end
section
namespace Go.Proofs.YthhgfjnnconocaaGreatDoor
set_option maxRecDepth 20000

open Go.RowKit

attribute [local go_sem] u64_wrap u8_wrap BitVec.ofInt_add BitVec.ofInt_mul ofInt_sub' ofInt_N ofInt_Nw ofInt_Z ofInt_pow ofInt_shl wrap64_N mul_shl1 N_shr Z_shr u64_and u64_or N_div8 N_div16 N_div24 N_div32 N_div40 N_div48 N_div56
theorem ret64 {a b : BitVec 64} (h : a = b) : Ending.returned (.int .u64 (N a)) = .returned (.int .u64 (N b)) := by rw [h]
set_option maxHeartbeats 400000 in
theorem num_any (s : ByteArray) (w : World) (hs : s.size ≤ maxLen) :
    Calls Tryz.prog 43 #[.string s] w fun e w' => e = .returned (.int .u64 (N (numS s))) ∧ w = w' := by
  unfold maxLen at hs
  go_enter Tryz.func43, Tryz.ntmps43
  go_wp2
  all_goals
    go_loop [3, 8] (fun v i => ∃ k : Nat, k ≤ s.size ∧ k ≤ 8 ∧ i = .int .i64 k ∧ v = .int .u64 (N (numF (byteAt s) k))) (fun _ i => 8 - (intOf i).toNat)
    case atStart => exact ⟨0, by omega, by omega, rfl, rfl⟩
    case round =>
      obtain ⟨k, hk, hk8, rfl, rfl⟩ := hrel
      by_cases hlt : k < s.size ∧ k < 8
      · obtain ⟨ha, hb⟩ := hlt
        go_wp2
        go_round
        case rel => exact ⟨k + 1, by omega, by omega, by go_num, by rw [numF_succ, ← byteAt_get s k ha]⟩
        case measure => simp [intOf]; omega
      · go_wp2
        all_goals
          go_ret
          exact ⟨ret64 (numS_eq s k (by omega)), rfl⟩

end Go.Proofs.YthhgfjnnconocaaGreatDoor
end
section
namespace Go.Proofs.YthhgfjnnconocaaGreatDoor
set_option maxRecDepth 20000

open Go.RowKit

attribute [local go_sem] u64_wrap u8_wrap BitVec.ofInt_add BitVec.ofInt_mul ofInt_sub' ofInt_N ofInt_Nw ofInt_Z ofInt_pow ofInt_shl wrap64_N mul_shl1 N_shr Z_shr u64_and u64_or N_div8 N_div16 N_div24 N_div32 N_div40 N_div48 N_div56
theorem bytes_lit (w : World) (arr : Array Value) (T : TypeId) (v : BitVec 64) (n : Nat) (h : ∀ i, i < n → arr[i]? = some (.int .u8 (N (byteOf v i)))) :
    Lib.Bytes (w.alloc (.cells arr T)) w.heap.size 0 (bytesN v n) := by
  intro i hi
  rw [bytesN_get v n i hi]
  rw [bytesN_size] at hi
  have := h i hi
  simp [go_sem, this]

theorem conv_bytes (w : World) (b : Nat) (s : ByteArray) (n cap : Nat) (hn : s.size = n) (hc : Lib.Bytes w b 0 s) :
    (convert 100 9 (.slice (some ⟨b, 0, none⟩) n cap)).run Tryz.prog w = .ok (.string s) w := by
  subst hn
  exact Lib.run_convert_whole w _ _ _ Tryz.underlying100 Tryz.underlying5 Tryz.underlying9 b 0 s hc cap

set_option maxRecDepth 100000 in
set_option maxHeartbeats 1000000 in
theorem bytes_in (v : BitVec 64) (n : Nat) (hn : n ≤ 8) (w : World) :
    Calls Tryz.prog 119 #[.int .u64 (N v), .int .i64 n] w fun e w' => e = .returned (.string (bytesN v n)) ∧ Grown w w' := by
  rcases (by omega : n = 0 ∨ n = 1 ∨ n = 2 ∨ n = 3 ∨ n = 4 ∨ n = 5 ∨ n = 6 ∨ n = 7 ∨ n = 8) with rfl | rfl | rfl | rfl | rfl | rfl | rfl | rfl | rfl
  all_goals
    clear hn
    go_enter Tryz.func119, Tryz.ntmps119
    go_wp2
    go_rounds 9
    rw [conv_bytes _ _ (bytesN v _) _ _ (bytesN_size _ _) (bytes_lit _ _ _ _ _ ?_)]
    focus
      go_wp2
      go_ret
      exact ⟨rfl, by go_grown⟩
    intro i hi
    rcases (by omega : i = 0 ∨ i = 1 ∨ i = 2 ∨ i = 3 ∨ i = 4 ∨ i = 5 ∨ i = 6 ∨ i = 7) with rfl | rfl | rfl | rfl | rfl | rfl | rfl | rfl <;> first | omega | simp [byteOf]

set_option maxHeartbeats 400000 in
theorem bytes_out (v : BitVec 64) (n : Int) (hn : n < 0 ∨ 8 < n) (w : World) :
    Calls Tryz.prog 119 #[.int .u64 (N v), .int .i64 n] w fun e w' => e = .returned (.string ⟨#[]⟩) ∧ Grown w w' := by
  by_cases h0 : n < 0
  · clear hn
    go_enter Tryz.func119, Tryz.ntmps119
    go_wp2
    go_ret
    exact ⟨rfl, by go_grown⟩
  · have h8 : 8 < n := by omega
    clear hn
    go_enter Tryz.func119, Tryz.ntmps119
    go_wp2
    go_ret
    exact ⟨rfl, by go_grown⟩

theorem bytes_any (v : BitVec 64) (n : Int) (w : World) :
    Calls Tryz.prog 119 #[.int .u64 (N v), .int .i64 n] w fun e w' => e = .returned (.string (bytesS v n)) ∧ Grown w w' := by
  unfold bytesS
  by_cases h : n < 0 ∨ 8 < n
  · rw [if_pos h]; exact bytes_out v n h w
  · rw [if_neg h]
    obtain ⟨k, rfl⟩ := Int.eq_ofNat_of_zero_le (show 0 ≤ n by omega)
    rw [Int.toNat_natCast]
    exact bytes_in v k (by omega) w
end Go.Proofs.YthhgfjnnconocaaGreatDoor
end
section
namespace Go.Proofs.YthhgfjnnconocaaGreatDoor.Ex
set_option maxRecDepth 20000

open Go Go.RowKit
set_option maxHeartbeats 0
set_option maxRecDepth 1000000
set_option linter.unusedVariables false
set_option linter.unusedSectionVars false
def isU (v : Int) : Bool := decide (0 ≤ v) && decide (v < 18446744073709551616)
def numHk : Hook := fun f args _ =>
  if Nat.beq f 119 then
    match args with
    | [.int .u64 v, .int .i64 n] => some (.string (bytesS (BitVec.ofInt 64 v) n), [(b2i (isU v), 1)])
    | _ => none
  else if Nat.beq f 43 then
    match args with
    | [.string s] => some (.int .u64 (N (numS s)), [(b2i (decide (s.size ≤ 8)), 1)])
    | _ => none
  else none
theorem numHk_ok : HookOk Tryz.prog numHk := by
  intro f args h v cs hv hc wb k s w H
  unfold numHk at hv
  split at hv
  · rename_i hf
    obtain rfl := Nat.eq_of_beq_eq_true hf
    split at hv
    · cases hv
      rename_i v n
      have h0 : isU v = true := b2i_inj (b := true) (hc _ (List.mem_singleton.2 rfl))
      simp only [isU, Bool.and_eq_true, decide_eq_true_eq] at h0
      have h1 := bytes_any (BitVec.ofInt 64 v) n w
      rw [N_ofInt v h0.1 (by simpa using h0.2)] at h1
      exact h1.mono fun e w' ⟨he, hw⟩ => ⟨he, Gr.of_grown hw⟩
    · cases hv
  split at hv
  · rename_i hf
    obtain rfl := Nat.eq_of_beq_eq_true hf
    split at hv
    · cases hv
      rename_i b
      have h8 : b.size ≤ 8 := by
        have h0 := b2i_inj (b := true) (hc _ (List.mem_singleton.2 rfl))
        simpa using h0
      exact (num_any b w (Nat.le_trans h8 (by unfold maxLen; decide))).mono fun e w' ⟨he, hw⟩ => ⟨he, hw ▸ Gr.refl w⟩
    · cases hv
  · cases hv
def blkAt (t : Nat) (x : List Value) : Nat :=
  match (x[t]? : Option Value) with
  | some (.slice (some a) _ _) => a.block
  | some (.pointer (some a)) => a.block
  | _ => 0
def onInt (t : Nat) (x : List Value) (g : Int → Option Value) : Option Value :=
  match (x[t]? : Option Value) with
  | some (.int _ n) => g n
  | _ => none
/-- D: the place that is stored to; k: how far behind it is loaded; q: how much; b: of which Own is asked (numbers of blocks), what of each. -/
noncomputable def isOrc (V : Int) (D k : Nat) (q : Int) (full far : Bool) (own41 own49 : Nat → Bool) : Orc := fun f t x =>
  if Nat.beq f 5 then
    match t with
    | 27 => some (.int .i16 ((D : Int) - 512))
    | 29 => some (.int .u8 (k : Int))
    | 30 => some (.int .i16 (k : Int))
    | 34 => some (.int .u8 q)
    | 38 => some (.int .u8 q)
    | 53 => some (.int .i16 (((D + k : Nat) : Int) - 512))
    | 93 => some (.bool full)
    | 96 => some (.int .i16 (8 * (k : Int)))
    | 111 => some (.bool true)
    | 122 => some (.int .i16 (((D + k : Nat) : Int) - 512))
    | 125 => some (.bool far)
    | _ => none
  else if Nat.beq f 8 then (if Nat.beq t 65 then some .nilFunc else none)
  else if Nat.beq f 51 then (if Nat.beq t 85 then some .nilFunc else none)
  else if Nat.beq f 84 then (if Nat.beq t 46 then some (.int .u64 V) else none)
  else if Nat.beq f 87 then (if Nat.beq t 16 then onInt 2 x fun n => some (.int .u64 (131584 + n)) else none)
  else if Nat.beq f 118 then
    match t with
    | 37 => onInt 36 x fun n => bif decide (n ≤ 131072) then some (.bool true) else some (.bool false)
    | 41 => onInt 36 x fun n => bif n == 131072 then (bif own41 (blkAt 8 x) then some (.bool true) else some (.bool false)) else some (.bool false)
    | 49 => bif own49 (blkAt 8 x) then some (.bool true) else some (.bool false)
    | _ => none
  else if Nat.beq f 72 then (if Nat.beq t 14 then onInt 12 x fun n => bif decide (n ≤ 131072) then some (.bool false) else some (.bool true) else none)
  else if Nat.beq f 42 then
    match t with
    | 32 => onInt 29 x fun n => some (.int .u64 (n - 131072))
    | 38 => some (.bool false)
    | 48 => some (.bool false)
    | 53 => onInt 52 x fun n => some (.int .i64 n)
    | _ => none
  else if Nat.beq f 93 then
    match t with
    | 38 => some .nilIface
    | 42 => some .nilIface
    | _ => none
  else if Nat.beq f 13 then
    match t with
    | 35 => some .nilIface
    | 36 => some .nilIface
    | _ => none
  else if Nat.beq f 91 then
    match t with
    | 4 => some (.bool true)
    | 7 => some (.bool true)
    | _ => none
  else if Nat.beq f 90 then
    match t with
    | 4 => some (.bool true)
    | 7 => some (.bool false)
    | _ => none
  else if Nat.beq f 92 then
    match t with
    | 10 => some (.bool true)
    | _ => none
  else none
noncomputable def hkReadT (thr n F m : Nat) : FuncId → List Value → List AO → Option (Value × Cs) := fun f args h =>
  match args with
  | .pointer (some ⟨b, _, _⟩) :: _ => bif Nat.blt thr b then hkRead n F m true f args h else hkRead n F m false f args h
  | _ => none
theorem hkReadT_ok (thr n F m : Nat) : HookOk2 Tryz.prog (hkReadT thr n F m) := by
  intro f args h v cs hv
  unfold hkReadT at hv
  split at hv
  · cases hb : Nat.blt thr _ with
    | true => rw [hb] at hv; exact hkRead_ok n F m true f _ h v cs hv
    | false => rw [hb] at hv; exact hkRead_ok n F m false f _ h v cs hv
  · cases hv
end Go.Proofs.YthhgfjnnconocaaGreatDoor.Ex
end
section
namespace Go.Proofs.YthhgfjnnconocaaGreatDoor.Ex
set_option maxRecDepth 20000

open Go Go.RowKit
set_option maxHeartbeats 0
set_option maxRecDepth 1000000
set_option linter.unusedVariables false
set_option linter.unusedSectionVars false
noncomputable def u8C (L : List UInt8) : List Value := L.map fun c => Value.int .u8 c.toNat
noncomputable def z512 : List UInt8 := List.replicate 512 0
noncomputable def slP (s o u : Int) : Bool := (decide (0 ≤ u) && decide (u ≤ s)) && ((decide (0 ≤ o) && decide (o ≤ u)) && (decide (o = 0) || decide (o < s)))
noncomputable def mTx (cs : List Value) (o u : Int) : ByteArray := ⟨⟨((cs.drop (0 + o.toNat * 1)).take (u.toNat - o.toNat)).map u8Of⟩⟩
noncomputable def cvP (cs : List Value) (o u : Int) : Int × Int := (b2i (cs.all isU8 && decide (0 + o.toNat * 1 + (u.toNat - o.toNat) ≤ cs.length)), 1)
noncomputable def wrC (cs : List Value) (o V : Int) : List Value := splice cs (0 + o.toNat * 1) ((bytesS (BitVec.ofInt 64 V) 8).data.toList.map fun c => Value.int .u8 c.toNat)
noncomputable def cstI (h l : Int) : Int := IntKind.u64.wrap ((BitVec.ofInt IntKind.u64.bits (IntKind.u64.wrap (IntKind.u64.wrap (IntKind.u32.wrap h) * 2 ^ min (Int.toNat 32) IntKind.u64.bits)) ||| BitVec.ofInt IntKind.u64.bits (IntKind.u64.wrap (IntKind.u32.wrap l))).toNat : Int)
noncomputable def loW (b : Int) : Int := IntKind.i32.wrap (IntKind.u32.wrap b)
noncomputable def hiW (b : Int) : Int := IntKind.i32.wrap (IntKind.u32.wrap (b.fdiv (2 ^ min (Int.toNat 32) IntKind.u64.bits)))
noncomputable def lawP (q : Int) (a c : Int) (D k : Nat) : Cs := [(IntKind.i16.wrap (-8 * IntKind.i16.wrap (1 + IntKind.i16.wrap (a.tmod 64))), (D : Int) - 512), (c.tmod 16, (k : Int)), (IntKind.i16.wrap (k : Int), (k : Int)), ((IntKind.u8.wrap (c.tdiv 16)).tmod 4, q), ((IntKind.u8.wrap (c.tdiv 16)).tmod 4, q), (IntKind.i16.wrap ((D : Int) - 512 + (k : Int)), ((D + k : Nat) : Int) - 512), (1, 1), (1, 1)]
noncomputable def askP (x : Int) : Cs := [(wu (131584 + wu (wi x)), 131584 + x)]
noncomputable def ownP (x n : Int) (c41 c49 : Bool) : Cs := [(b2i (decide (131584 + x ≥ 65536)), 1), (b2i (decide (wu (131584 + x - 65536) < 16)), 0), (b2i (decide (131584 + x ≥ 65552)), 1), (b2i (decide (wu (131584 + x - 65552) < 8)), 0), (b2i (decide (131584 + x ≥ 131072)), 1), (b2i (decide (wu (131584 + x - 131072) < 512)), b2i c41)]
  ++ (bif c41 then [(b2i (decide (wu n ≤ wu (512 - wu (131584 + x - 131072)))), b2i c49)] else [])
noncomputable def inaP (x : Int) : Cs := [(b2i (decide (131584 + x ≥ 65536)), 1), (b2i (decide (131584 + x < 65552)), 0)]
noncomputable def onsP (x : Int) : Cs := [(b2i (decide (131584 + x ≥ 131072)), 1), (b2i (decide (131584 + x < 131584)), 1), (b2i ((131584 + x).tmod 8 == 0), 1)]
noncomputable def findP (x n : Int) : Cs := [(b2i (decide (131072 > 131584 + x)), 0), (b2i (decide (262144 > 131584 + x)), 1), (wu (131584 + x - 131072), 131584 + x - 131072), (b2i (decide (131584 + x - 131072 ≥ 512)), 0), (b2i (decide (wu (512 - (131584 + x - 131072)) < n)), 0), (wi (131584 + x - 131072), 131584 + x - 131072)]
noncomputable def wrP (cs : List Value) (x V : Int) : Cs := [(b2i (slP 512 (131584 + x - 131072) 512), 1), (b2i (isU V), 1), (b2i (decide ((bytesS (BitVec.ofInt 64 V) 8).size ≤ 512 - (131584 + x - 131072).toNat) && decide (0 + (131584 + x - 131072).toNat * 1 + (bytesS (BitVec.ofInt 64 V) 8).size ≤ cs.length)), 1)]
noncomputable def ntcP (rest : List Value) (x : Int) (D d : Nat) : Cs := [prP (131584 + x = 131072 + (D : Int) ∧ D = 8 * d ∧ d < 64 ∧ rest.length = 611 ∧ rest.all Ex.flat = true)]
/-- The registers: 1 and 10 as they are set, and r3. -/
def rgV (h t : Bool) (v : Int) : List Value := [.bool h, .bool t, .int .u64 v]
noncomputable def rgs (h3 : Bool) (V : Int) : List Value := rgV false false 0 ++ (rgV true true 65536 ++ (rgV false false 0 ++ (rgV h3 false V ++ (rgV false false 0 ++ (rgV false false 0 ++ (rgV false false 0 ++ (rgV false false 0 ++ (rgV false false 0 ++ (rgV false false 0 ++ rgV true true 131584)))))))))
noncomputable def rest0 (pc : Int) (h3 : Bool) (V : Int) : List Value := .int .i64 pc :: .bool false :: (rgs h3 V ++ List.replicate 576 (.bool false))
noncomputable def run0 (b0 l b1 : Nat) (pc : Int) (h3 : Bool) (V : Int) : List Value := .slice (some ⟨b0, 0, none⟩) l l :: .pointer (some ⟨b1, 0, none⟩) :: rest0 pc h3 V
noncomputable def rest1 (b0 l b1 : Nat) (pc pc' : Int) (h3 : Bool) (V : Int) (D d : Nat) (tag : Bool) : List Value := .int .i64 pc' :: .bool false :: (rgs h3 V ++ (ntC (run0 b0 l b1 pc h3 V) D d tag 8).drop 37)
noncomputable def rdcP (rest : List Value) (l n m : Nat) (x : Int) (F : Nat) (tag : Bool) : Cs := [prP ((n : Int) = (n : Int) ∧ rest.all Ex.flat = true ∧ RdC (.slice (some ⟨0, 0, none⟩) l l :: .pointer (some ⟨1, 0, none⟩) :: rest) (131584 + x) n F m tag)]
noncomputable def rdP2 (cs : List Value) (x n : Int) : Cs := [(b2i (slP 512 (131584 + x - 131072) (wi (131584 + x - 131072 + n))), 1), cvP cs (131584 + x - 131072) (wi (131584 + x - 131072 + n)), (b2i (decide ((mTx cs (131584 + x - 131072) (wi (131584 + x - 131072 + n))).size ≤ 8)), 1)]
noncomputable def modI (s : Nat) (x : Int) : Int := bif Nat.beq s 8 then x else x.tmod (2 ^ (8 * s) : Nat)
noncomputable def tailP (cs : List Value) (s k : Nat) (x b : Int) : Cs := [(b2i (decide (IntKind.i16.wrap ((k : Int) + s) ≤ 8)), 1), (IntKind.i16.wrap (8 * (k : Int)), 8 * (k : Int)), (b2i (N (numS (mTx cs (131584 + x - 131072) (wi (131584 + x - 131072 + s)))) == modI s (b.fdiv (2 ^ min (8 * (k : Int)).toNat IntKind.u64.bits))), 1)]
noncomputable def dx (D : Nat) : Int := (D : Int) - 512
noncomputable def dy (D k : Nat) : Int := ((D + k : Nat) : Int) - 512
noncomputable def fullP (q : Int) (s : Nat) (b0 b1 c0 c1 : Nat) (V a b c : Int) (D d k : Nat) : Cs :=
  lawP q a c D k ++ ([(cstI (hiW b) (loW b), V)] ++ (askP (dx D) ++ (ownP (dx D) 8 true true ++ (inaP (dx D) ++ (findP (dx D) 8 ++ (wrP (u8C z512) (dx D) V ++ (ntcP (rest0 2 true V) (dx D) D d
  ++ (askP (dy D k) ++ (ownP (dy D k) s true true ++ (rdcP (rest1 b0 5 b1 2 3 true V D d false) 5 s s (dy D k) (D + k) false ++ (findP (dy D k) s ++ (rdP2 (wrC (u8C z512) (131584 + dx D - 131072) V) (dy D k) s
  ++ (askP (dx D) ++ (ownP (dx D) 8 true true ++ (inaP (dx D) ++ (onsP (dx D) ++ (findP (dx D) 8 ++ (wrP (wrC (u8C z512) (131584 + dx D - 131072) V) (dx D) 131584 ++ (ntcP (rest0 0 false 0) (dx D) D d
  ++ (askP (dy D k) ++ (ownP (dy D k) s true true ++ (rdcP (rest1 c0 3 c1 0 1 false 0 D d true) 3 s s (dy D k) (D + k) true
  ++ ((bif Nat.beq s 8 then findP (dy D k) s ++ rdP2 (wrC (wrC (u8C z512) (131584 + dx D - 131072) V) (131584 + dx D - 131072) 131584) (dy D k) s else [])
  ++ tailP (wrC (u8C z512) (131584 + dx D - 131072) V) s k (dy D k) b)))))))))))))))))))))))
noncomputable def ptcP (rest : List Value) (l n m : Nat) (x : Int) (F : Nat) : Cs := [prP ((n : Int) = (n : Int) ∧ rest.all Ex.flat = true ∧ m < n ∧ ∃ tag, RdC (.slice (some ⟨0, 0, none⟩) l l :: .pointer (some ⟨1, 0, none⟩) :: rest) (131584 + x) n F m tag)]
noncomputable def endP (s : Nat) (D k : Nat) (far : Bool) : Cs := [(b2i (decide (IntKind.i16.wrap ((k : Int) + s) ≤ 8)), 0), (IntKind.i16.wrap (dx D + (k : Int)), dy D k), (b2i (decide (IntKind.i16.wrap (dy D k + s) > 0)), b2i far)]
noncomputable def partP (q : Int) (s : Nat) (b0 b1 c0 c1 : Nat) (V a b c : Int) (D d k : Nat) : Cs :=
  lawP q a c D k ++ ([(cstI (hiW b) (loW b), V)] ++ (askP (dx D) ++ (ownP (dx D) 8 true true ++ (inaP (dx D) ++ (findP (dx D) 8 ++ (wrP (u8C z512) (dx D) V ++ (ntcP (rest0 2 true V) (dx D) D d
  ++ (askP (dy D k) ++ (ownP (dy D k) s true true ++ (ptcP (rest1 b0 5 b1 2 3 true V D d false) 5 s (8 - k) (dy D k) (D + k)
  ++ (askP (dx D) ++ (ownP (dx D) 8 true true ++ (inaP (dx D) ++ (onsP (dx D) ++ (findP (dx D) 8 ++ (wrP (wrC (u8C z512) (131584 + dx D - 131072) V) (dx D) 131584 ++ (ntcP (rest0 0 false 0) (dx D) D d
  ++ (askP (dy D k) ++ (ownP (dy D k) s true true ++ (ptcP (rest1 c0 3 c1 0 1 false 0 D d true) 3 s (8 - k) (dy D k) (D + k)
  ++ endP s D k false))))))))))))))))))))
noncomputable def farP (q : Int) (s : Nat) (c41 c49 : Bool) (V a b c : Int) (D d k : Nat) : Cs :=
  lawP q a c D k ++ ([(cstI (hiW b) (loW b), V)] ++ (askP (dx D) ++ (ownP (dx D) 8 true true ++ (inaP (dx D) ++ (findP (dx D) 8 ++ (wrP (u8C z512) (dx D) V ++ (ntcP (rest0 2 true V) (dx D) D d
  ++ (askP (dy D k) ++ (ownP (dy D k) s c41 c49
  ++ (askP (dx D) ++ (ownP (dx D) 8 true true ++ (inaP (dx D) ++ (onsP (dx D) ++ (findP (dx D) 8 ++ (wrP (wrC (u8C z512) (131584 + dx D - 131072) V) (dx D) 131584 ++ (ntcP (rest0 0 false 0) (dx D) D d
  ++ (askP (dy D k) ++ (ownP (dy D k) s c41 c49
  ++ endP s D k true))))))))))))))))))
def goesHk : Hook := orHook (memoHook h10 7 [([], .bool true)]) repHook
/-- The calls of a run: the whole is read, or a part of it is not written, or it is not the world's own. -/
noncomputable def fuHk (s D d k : Nat) : Hook3 := orHook3 (hkNote D d) (orHook3 (liftH (hkReadT 50 s (D + k) s)) (liftH (guardH (orHook numHk goesHk))))
noncomputable def paHk (s D d k : Nat) : Hook3 := orHook3 (hkNote D d) (orHook3 (liftH (hkPart s (D + k) (8 - k))) (liftH (guardH (orHook numHk goesHk))))
def yesB (b : Nat) : Bool := true
def no2B (b : Nat) : Bool := bif Nat.beq b 62 then false else bif Nat.beq b 75 then false else true
end Go.Proofs.YthhgfjnnconocaaGreatDoor.Ex
end
section
namespace Go.Proofs.YthhgfjnnconocaaGreatDoor.Ex
set_option maxRecDepth 20000

open Go Go.RowKit
set_option maxHeartbeats 0
set_option maxRecDepth 1000000
set_option linter.unusedVariables false
set_option linter.unusedSectionVars false
theorem w16_id {x : Int} (h1 : -32768 ≤ x) (h2 : x < 32768) : IntKind.i16.wrap x = x := by
  unfold IntKind.wrap
  have e : (2 : Int) ^ IntKind.i16.bits = 65536 := rfl
  have e2 : (2 : Int) ^ (IntKind.i16.bits - 1) = 32768 := rfl
  simp only [e, e2]
  split
  · rename_i h
    simp at h
    omega
  · rename_i h
    simp [IntKind.signed] at h
    omega
theorem w8_id {x : Int} (h1 : 0 ≤ x) (h2 : x < 256) : IntKind.u8.wrap x = x := by
  unfold IntKind.wrap
  have e : (2 : Int) ^ IntKind.u8.bits = 256 := rfl
  simp only [e]
  split
  · rename_i h
    simp [IntKind.signed] at h
  · omega
theorem lawP_ok {q a c : Int} {D k : Nat} (ha0 : 0 ≤ a) (ha : a < 256) (hc0 : 0 ≤ c) (hc : c < 256) (hD : (D : Int) = 512 - 8 * (1 + a % 64)) (hk : (k : Int) = c % 16) (hq : q = c / 16 % 4) : AE (lawP q a c D k) := by
  have e1 : a.tmod 64 = a % 64 := Int.tmod_eq_emod_of_nonneg ha0
  have e2 : c.tmod 16 = c % 16 := Int.tmod_eq_emod_of_nonneg hc0
  have e3 : c.tdiv 16 = c / 16 := Int.tdiv_eq_ediv_of_nonneg hc0
  have e4 : (c / 16).tmod 4 = c / 16 % 4 := Int.tmod_eq_emod_of_nonneg (by omega)
  unfold lawP
  rw [e1, e2, e3, w8_id (x := c / 16) (by omega) (by omega), e4, w16_id (x := a % 64) (by omega) (by omega), w16_id (x := 1 + a % 64) (by omega) (by omega), w16_id (x := -8 * (1 + a % 64)) (by omega) (by omega), w16_id (x := (k : Int)) (by omega) (by omega), w16_id (x := (D : Int) - 512 + (k : Int)) (by omega) (by omega)]
  exact AE.cons (by omega) (AE.cons hk.symm (AE.cons rfl (AE.cons hq.symm (AE.cons hq.symm (AE.cons (by omega) (AE.cons rfl (AE.cons rfl AE.nil)))))))
theorem askP_ok {x : Int} (h1 : -512 ≤ x) (h2 : x ≤ 600) : AE (askP x) := by
  unfold askP
  rw [wi_id (by omega) (by omega), wr64', wr64']
  exact AE.cons (by omega) AE.nil
theorem ownP_ok {x n : Int} {c41 c49 : Bool} (h1 : -512 ≤ x) (h2 : x ≤ 600) (hn : 1 ≤ n) (hn8 : n ≤ 8) (e1 : c41 = decide (x < 0)) (e2 : c41 = true → c49 = decide (x + n ≤ 0)) : AE (ownP x n c41 c49) := by
  unfold ownP
  rw [wu_id (x := 131584 + x - 65536) (by omega) (by omega), wu_id (x := 131584 + x - 65552) (by omega) (by omega), wu_id (x := 131584 + x - 131072) (by omega) (by omega), wu_id (x := n) (by omega) (by omega)]
  refine AE.app (AE.cons (b1 (by omega)) (AE.cons (b0 (by omega)) (AE.cons (b1 (by omega)) (AE.cons (b0 (by omega)) (AE.cons (b1 (by omega)) (AE.cons ?_ AE.nil)))))) ?_
  · rw [e1]
    congr 1
    exact decide_eq_decide.2 (by omega)
  · cases c41 with
    | false => exact AE.nil
    | true =>
      have hx : x < 0 := of_decide_eq_true e1.symm
      refine AE.cons ?_ AE.nil
      rw [wu_id (x := 512 - (131584 + x - 131072)) (by omega) (by omega), e2 rfl]
      congr 1
      exact decide_eq_decide.2 (by omega)
theorem inaP_ok {x : Int} (h1 : -512 ≤ x) : AE (inaP x) := AE.cons (b1 (by omega)) (AE.cons (b0 (by omega)) AE.nil)
theorem onsP_ok {D d : Nat} (hD : D = 8 * d) (hd : d < 64) : AE (onsP (dx D)) := by
  unfold dx
  refine AE.cons (b1 (by omega)) (AE.cons (b1 (by omega)) (AE.cons (bt ?_) AE.nil))
  have : (131584 + ((D : Int) - 512)).tmod 8 = 0 := by
    rw [Int.tmod_eq_emod_of_nonneg (by omega)]
    omega
  rw [this]
  rfl
theorem findP_ok {x n : Int} (h1 : -512 ≤ x) (h2 : x + n ≤ 0) (hn : 1 ≤ n) : AE (findP x n) := by
  unfold findP
  rw [wu_id (x := 131584 + x - 131072) (by omega) (by omega), wi_id (x := 131584 + x - 131072) (by omega) (by omega), wu_id (x := 512 - (131584 + x - 131072)) (by omega) (by omega)]
  exact AE.cons (b0 (by omega)) (AE.cons (b1 (by omega)) (AE.cons rfl (AE.cons (b0 (by omega)) (AE.cons (b0 (by omega)) (AE.cons rfl AE.nil)))))
theorem wrP_ok {cs : List Value} {V : Int} {D : Nat} (hl : cs.length = 512) (hD : D + 8 ≤ 512) (h0 : 0 ≤ V) (h1 : V < 18446744073709551616) : AE (wrP cs (dx D) V) := by
  unfold wrP dx
  have hs : (bytesS (BitVec.ofInt 64 V) ((8 : Nat) : Int)).size = 8 := bytesS_size _ 8 (by omega)
  have hs : (bytesS (BitVec.ofInt 64 V) 8).size = 8 := hs
  refine AE.cons (bt ?_) (AE.cons (bt ?_) (AE.cons (bt ?_) AE.nil))
  · simp only [slP, Bool.and_eq_true, Bool.or_eq_true, decide_eq_true_eq]
    omega
  · simp only [isU, Bool.and_eq_true, decide_eq_true_eq]
    omega
  · rw [hs, hl]
    simp only [Bool.and_eq_true, decide_eq_true_eq]
    omega
theorem rgs_len (h3 : Bool) (V : Int) : (rgs h3 V).length = 33 := rfl
theorem rest0_len (pc : Int) (h3 : Bool) (V : Int) : (rest0 pc h3 V).length = 611 := by simp [rest0, rgs_len]
theorem rest0_flat (pc : Int) (h3 : Bool) (V : Int) : (rest0 pc h3 V).all Ex.flat = true := by
  unfold rest0
  rw [List.all_cons, List.all_cons, List.all_append]
  simp only [Bool.and_eq_true]
  exact ⟨rfl, rfl, rfl, List.all_eq_true.2 fun v hv => by rw [List.eq_of_mem_replicate hv]; rfl⟩
theorem ntcP_ok {rest : List Value} {D d : Nat} (hD : D = 8 * d) (hd : d < 64) (hl : rest.length = 611) (hf : rest.all Ex.flat = true) : AE (ntcP rest (dx D) D d) :=
  AE.consP (prP_ok ⟨by unfold dx; omega, hD, hd, hl, hf⟩) AE.nil
theorem run0_len (b0 l b1 : Nat) (pc : Int) (h3 : Bool) (V : Int) : (run0 b0 l b1 pc h3 V).length = 613 := by simp [run0, rest0_len]
theorem run0_get (b0 l b1 : Nat) (pc : Int) (h3 : Bool) (V : Int) {i : Nat} (h1 : 37 ≤ i) (h2 : i < 613) : (run0 b0 l b1 pc h3 V)[i]? = some (.bool false) := by
  have e : run0 b0 l b1 pc h3 V = (.slice (some ⟨b0, 0, none⟩) l l :: .pointer (some ⟨b1, 0, none⟩) :: .int .i64 pc :: .bool false :: rgs h3 V) ++ List.replicate 576 (.bool false) := rfl
  have hl : (.slice (some ⟨b0, 0, none⟩) l l :: .pointer (some ⟨b1, 0, none⟩) :: .int .i64 pc :: .bool false :: rgs h3 V : List Value).length = 37 := by simp [rgs_len]
  rw [e, List.getElem?_append_right (by omega), hl, List.getElem?_replicate, if_pos (by omega)]
theorem ntC_get {C : List Value} {D d : Nat} {tag : Bool} (hl : C.length = 613) (hD : D + 8 ≤ 512) (hd : d < 64) : ∀ j, j ≤ 8 → ∀ i, (ntC C D d tag j)[i]? = if 37 + D ≤ i ∧ i < 37 + D + j then some (.bool true) else if i = 549 + d ∧ 0 < j then some (.bool tag) else C[i]?
  | 0, _, i => by
    rw [if_neg (by omega), if_neg (by omega)]
    rfl
  | j + 1, hj, i => by
    have len := ntC_len (D := D) (tag := tag) hl hD hd j (by omega)
    have h1 : (splice (ntC C D d tag j) (0 + 37 + (D + j) * 1) [.bool true]).length = 613 := by rw [splice_length (by rw [len]; show 0 + 37 + (D + j) * 1 + 1 ≤ 613; omega), len]
    show (ntW (ntC C D d tag j) D d j tag)[i]? = _
    unfold ntW
    rw [splice_get (by rw [h1]; show 0 + 549 + d * 1 + 1 ≤ 613; omega), splice_get (by rw [len]; show 0 + 37 + (D + j) * 1 + 1 ≤ 613; omega), ntC_get hl hD hd j (by omega) i]
    simp only [List.length_cons, List.length_nil]
    by_cases h2 : i = 549 + d
    · subst h2
      rw [if_pos (by omega), if_neg (by omega), if_pos (by omega), show 549 + d - (0 + 549 + d * 1) = 0 by omega]
      rfl
    · rw [if_neg (by omega)]
      by_cases h3 : i = 37 + D + j
      · subst h3
        rw [if_pos (by omega), if_pos (by omega), show 37 + D + j - (0 + 37 + (D + j) * 1) = 0 by omega]
        rfl
      · rw [if_neg (by omega)]
        by_cases h4 : 37 + D ≤ i ∧ i < 37 + D + j
        · rw [if_pos h4, if_pos (by omega)]
        · rw [if_neg h4, if_neg (by omega), if_neg (by omega), if_neg (by omega)]
theorem rest1_split (b0 l b1 : Nat) (pc pc' : Int) (h3 : Bool) (V : Int) (D d : Nat) (tag : Bool) :
    (.slice (some ⟨0, 0, none⟩) l l :: .pointer (some ⟨1, 0, none⟩) :: rest1 b0 l b1 pc pc' h3 V D d tag : List Value) = (.slice (some ⟨0, 0, none⟩) l l :: .pointer (some ⟨1, 0, none⟩) :: .int .i64 pc' :: .bool false :: rgs h3 V) ++ (ntC (run0 b0 l b1 pc h3 V) D d tag 8).drop 37 := rfl
section
variable {b0 l b1 : Nat} {pc pc' : Int} {h3 : Bool} {V : Int} {D d : Nat} {tag : Bool} (hD : D = 8 * d) (hd : d < 64)
include hD hd
theorem rest1_get {i : Nat} (h1 : 37 ≤ i) (h2 : i < 613) : (.slice (some ⟨0, 0, none⟩) l l :: .pointer (some ⟨1, 0, none⟩) :: rest1 b0 l b1 pc pc' h3 V D d tag : List Value)[i]? = if 37 + D ≤ i ∧ i < 37 + D + 8 then some (.bool true) else if i = 549 + d then some (.bool tag) else some (.bool false) := by
  have hl : (.slice (some ⟨0, 0, none⟩) l l :: .pointer (some ⟨1, 0, none⟩) :: .int .i64 pc' :: .bool false :: rgs h3 V : List Value).length = 37 := by simp [rgs_len]
  rw [rest1_split, List.getElem?_append_right (by omega), hl, List.getElem?_drop, show 37 + (i - 37) = i by omega, ntC_get (run0_len ..) (by omega) hd 8 (Nat.le_refl 8), run0_get b0 l b1 pc h3 V h1 h2]
  by_cases h4 : 37 + D ≤ i ∧ i < 37 + D + 8
  · rw [if_pos h4, if_pos h4]
  · rw [if_neg h4, if_neg h4]
    by_cases h5 : i = 549 + d
    · rw [if_pos ⟨h5, by omega⟩, if_pos h5]
    · rw [if_neg (by omega), if_neg h5]
theorem rest1_flat : (rest1 b0 l b1 pc pc' h3 V D d tag).all Ex.flat = true := by
  unfold rest1
  rw [List.all_cons, List.all_cons, List.all_append]
  simp only [Bool.and_eq_true]
  refine ⟨rfl, rfl, rfl, List.all_eq_true.2 fun v hv => ?_⟩
  obtain ⟨i, hi⟩ := List.mem_iff_getElem?.1 hv
  have hi2 : i < 576 := by
    have := (List.getElem?_eq_some_iff.1 hi).1
    rw [List.length_drop, ntC_len (run0_len ..) (by omega) hd 8 (Nat.le_refl 8)] at this
    omega
  rw [List.getElem?_drop, ntC_get (run0_len ..) (by omega) hd 8 (Nat.le_refl 8), run0_get b0 l b1 pc h3 V (by omega) (by omega)] at hi
  split at hi
  · cases hi; rfl
  · split at hi <;> (cases hi; rfl)
theorem rd_ok {k s m : Nat} (hs1 : 1 ≤ s) (hs8 : s ≤ 8) (hF : D + k + s ≤ 512) (hm : m ≤ s) (hm8 : m ≤ 8 - k) (hun : m < s → m = 8 - k) :
    RdC (.slice (some ⟨0, 0, none⟩) l l :: .pointer (some ⟨1, 0, none⟩) :: rest1 b0 l b1 pc pc' h3 V D d tag) (131584 + dy D k) s (D + k) m tag := by
  refine ⟨?_, by unfold dy; omega, hF, hm, hs1, hs8, fun i hi => ?_, fun i hi => ?_, fun h => ?_, fun _ h1 h2 => by omega⟩
  · rw [rest1_split, List.length_append, List.length_drop, ntC_len (run0_len ..) (by omega) hd 8 (Nat.le_refl 8)]
    simp [rgs_len]
  · rw [List.getD_eq_getElem?_getD, rest1_get hD hd (by omega) (by omega), if_pos (by omega)]
    rfl
  · rw [List.getD_eq_getElem?_getD, rest1_get hD hd (by omega) (by omega), if_neg (by omega), if_pos (by omega)]
    rfl
  · have := hun h
    rw [List.getD_eq_getElem?_getD, rest1_get hD hd (by omega) (by omega), if_neg (by omega), if_neg (by omega)]
    rfl
theorem rdcP_ok {k s : Nat} (hs1 : 1 ≤ s) (hs8 : s ≤ 8) (hk : k + s ≤ 8) : AE (rdcP (rest1 b0 l b1 pc pc' h3 V D d tag) l s s (dy D k) (D + k) tag) :=
  AE.consP (prP_ok ⟨rfl, rest1_flat hD hd, rd_ok hD hd hs1 hs8 (by omega) (Nat.le_refl s) (by omega) (fun h => by omega)⟩) AE.nil
theorem ptcP_ok {k s : Nat} (hs1 : 1 ≤ s) (hs8 : s ≤ 8) (hk : 8 < k + s) (hF : D + k + s ≤ 512) : AE (ptcP (rest1 b0 l b1 pc pc' h3 V D d tag) l s (8 - k) (dy D k) (D + k)) :=
  AE.consP (prP_ok ⟨rfl, rest1_flat hD hd, by omega, tag, rd_ok hD hd hs1 hs8 hF (by omega) (Nat.le_refl _) (fun _ => rfl)⟩) AE.nil
end
theorem u8C_back (M : List UInt8) : (u8C M).map u8Of = M := by
  unfold u8C
  rw [List.map_map]
  conv => rhs; rw [← List.map_id M]
  apply List.map_congr_left
  intro c _
  simp [u8Of]
theorem u8C_len (M : List UInt8) : (u8C M).length = M.length := by simp [u8C]
theorem u8C_u8 (M : List UInt8) : (u8C M).all isU8 = true := List.all_eq_true.2 fun v hv => by obtain ⟨c, _, rfl⟩ := List.mem_map.1 hv; rfl
theorem mTx_eq (M : List UInt8) (o u : Int) : mTx (u8C M) o u = ⟨⟨(M.drop o.toNat).take (u.toNat - o.toNat)⟩⟩ := by
  unfold mTx
  rw [List.map_take, List.map_drop, u8C_back]
  simp
noncomputable def wrM (L : List UInt8) (D : Nat) (V : Int) : List UInt8 := L.take D ++ (bytesS (BitVec.ofInt 64 V) 8).data.toList ++ L.drop (D + (bytesS (BitVec.ofInt 64 V) 8).data.toList.length)
theorem wrC_eq (L : List UInt8) (D : Nat) (V : Int) : wrC (u8C L) (131584 + dx D - 131072) V = u8C (wrM L D V) := by
  unfold wrC dx
  rw [show 131584 + ((D : Int) - 512) - 131072 = (D : Int) by omega]
  simp [wrM, splice, u8C, List.map_append, List.map_take, List.map_drop]
theorem by8 (V : Int) : (bytesS (BitVec.ofInt 64 V) 8).data.toList.length = 8 := by
  have hs : (bytesS (BitVec.ofInt 64 V) ((8 : Nat) : Int)).size = 8 := bytesS_size _ 8 (by omega)
  have hs : (bytesS (BitVec.ofInt 64 V) 8).size = 8 := hs
  rw [← hs]
  exact Array.length_toList
theorem wrM_len {L : List UInt8} {D : Nat} {V : Int} (hl : L.length = 512) (hD : D + 8 ≤ 512) : (wrM L D V).length = 512 := by
  unfold wrM
  rw [List.length_append, List.length_append, List.length_take, List.length_drop, by8, hl]
  omega
theorem rdP2_ok {M : List UInt8} (hM : M.length = 512) {D k s : Nat} (h : D + k + s ≤ 512) (h1 : 1 ≤ s) (h8 : s ≤ 8) : AE (rdP2 (u8C M) (dy D k) s) := by
  unfold rdP2 dy
  rw [show 131584 + (((D + k : Nat) : Int) - 512) - 131072 = ((D + k : Nat) : Int) by omega, wi_id (x := ((D + k : Nat) : Int) + (s : Int)) (by omega) (by omega), mTx_eq]
  refine AE.cons (bt ?_) (AE.consP ?_ (AE.cons (b1 ?_) AE.nil))
  · simp only [slP, Bool.and_eq_true, Bool.or_eq_true, decide_eq_true_eq]
    omega
  · unfold cvP
    apply bt
    rw [u8C_u8, u8C_len, hM]
    simp only [Bool.true_and, decide_eq_true_eq]
    omega
  · show (List.length _ ≤ 8)
    rw [List.length_take]
    omega
end Go.Proofs.YthhgfjnnconocaaGreatDoor.Ex
end
section
namespace Go.Proofs.YthhgfjnnconocaaGreatDoor.Ex
set_option maxRecDepth 20000

open Go Go.RowKit
set_option maxHeartbeats 0
set_option maxRecDepth 1000000
set_option linter.unusedVariables false
set_option linter.unusedSectionVars false
theorem u32_modI (x : Int) : IntKind.u32.wrap x = x % 4294967296 := by
  simp only [IntKind.wrap, IntKind.bits, IntKind.signed]
  simp
theorem u64_modI (x : Int) : IntKind.u64.wrap x = x % 18446744073709551616 := by
  simp only [IntKind.wrap, IntKind.bits, IntKind.signed]
  simp
theorem u32_i32I (x : Int) : IntKind.u32.wrap (IntKind.i32.wrap x) = IntKind.u32.wrap x := by
  simp only [u32_modI]
  simp only [IntKind.wrap, IntKind.bits, IntKind.signed]
  simp
  omega
theorem cstI_eq (a h : Int) (h0 : 0 ≤ a) (h1 : a < 18446744073709551616) (hh : h % 4294967296 = a / 4294967296) : cstI (IntKind.i32.wrap (IntKind.u32.wrap h)) (IntKind.i32.wrap (IntKind.u32.wrap a)) = a := by
  have e1 : IntKind.u64.wrap (IntKind.u32.wrap (IntKind.i32.wrap (IntKind.u32.wrap h))) = a / 4294967296 := by
    rw [u32_i32I, u32_modI, u32_modI, u64_modI]
    omega
  have e2 : IntKind.u64.wrap (IntKind.u32.wrap (IntKind.i32.wrap (IntKind.u32.wrap a))) = a % 4294967296 := by
    rw [u32_i32I, u32_modI, u32_modI, u64_modI]
    omega
  unfold cstI
  rw [e1, e2]
  obtain ⟨n, rfl⟩ := Int.eq_ofNat_of_zero_le h0
  have e3 : (2 : Int) ^ min (Int.toNat 32) IntKind.u64.bits = 4294967296 := by decide
  have e4 : IntKind.u64.wrap ((n : Int) / 4294967296 * 4294967296) = ((n / 4294967296 * 4294967296 : Nat) : Int) := by
    rw [u64_modI]
    omega
  have e5 : (n : Int) % 4294967296 = ((n % 4294967296 : Nat) : Int) := by omega
  rw [e3, e4, e5]
  have e6 : ∀ x y : Nat, (BitVec.ofInt IntKind.u64.bits (x : Int) ||| BitVec.ofInt IntKind.u64.bits (y : Int)).toNat = (BitVec.ofNat 64 x ||| BitVec.ofNat 64 y).toNat := fun x y => by
    show (BitVec.ofInt 64 (x : Int) ||| BitVec.ofInt 64 (y : Int)).toNat = _
    rw [BitVec.ofInt_natCast, BitVec.ofInt_natCast]
  rw [e6, BitVec.toNat_or, BitVec.toNat_ofNat, BitVec.toNat_ofNat]
  have hn : n < 18446744073709551616 := by omega
  rw [Nat.mod_eq_of_lt (a := n / 4294967296 * 4294967296) (by omega), Nat.mod_eq_of_lt (a := n % 4294967296) (by omega)]
  have e7 : n / 4294967296 * 4294967296 = (n / 4294967296) <<< 32 := by rw [Nat.shiftLeft_eq]
  rw [e7, ← Nat.shiftLeft_add_eq_or_of_lt (by omega : n % 4294967296 < 2 ^ 32), Nat.shiftLeft_eq, u64_modI]
  omega
theorem cstI_A (a : Int) (h0 : 0 ≤ a) (h1 : a < 18446744073709551616) : cstI (hiW a) (loW a) = a := by
  unfold hiW loW
  have e3 : (2 : Int) ^ min (Int.toNat 32) IntKind.u64.bits = 4294967296 := by decide
  rw [e3]
  refine cstI_eq a _ h0 h1 ?_
  rw [Int.fdiv_eq_ediv_of_nonneg _ (by omega)]
  omega
theorem sub_list {L : List UInt8} {D k s : Nat} {V : Int} (hl : L.length = 512) (hD : D + 8 ≤ 512) (hk : k + s ≤ 8) : ((wrM L D V).drop (D + k)).take s = (((bytesS (BitVec.ofInt 64 V) 8).data.toList).drop k).take s := by
  unfold wrM
  rw [List.append_assoc, List.drop_append, List.drop_of_length_le (by rw [List.length_take]; omega), List.nil_append, List.length_take, hl, show D + k - min D 512 = k by omega, List.drop_append_of_le_length (by rw [by8]; omega), List.take_append_of_le_length (by rw [List.length_drop, by8]; omega)]
theorem num_sub (v : BitVec 64) {k s : Nat} (hk : k + s ≤ 8) : numS ⟨⟨((bytesN v 8).data.toList.drop k).take s⟩⟩ = lowS (v >>> (8 * k)) (8 * (s : Int)) := by
  have hl : (bytesN v 8).data.toList.length = 8 := by rw [bytesN_list]; simp
  have hsz : (⟨⟨((bytesN v 8).data.toList.drop k).take s⟩⟩ : ByteArray).size = s := by
    show (List.length _) = s
    rw [List.length_take, List.length_drop, hl]
    omega
  unfold numS
  rw [hsz, show min s 8 = s by omega]
  apply BitVec.eq_of_getLsbD_eq
  intro i hi
  rw [numF_bit, low_bit]
  by_cases hn : i < 8 * s
  · have hn' : (i : Int) < 8 * (s : Int) := by omega
    have hb : byteAt ⟨⟨((bytesN v 8).data.toList.drop k).take s⟩⟩ (i / 8) = byteOf v (k + i / 8) := by
      rw [← byteAt_bytesN v 8 (k + i / 8) (by omega)]
      unfold byteAt
      congr 1
      show (((bytesN v 8).data.toList.drop k).take s).getD (i / 8) 0 = _
      rw [List.getD_eq_getElem?_getD, List.getD_eq_getElem?_getD, List.getElem?_take, if_pos (by omega), List.getElem?_drop]
    rw [hb]
    unfold byteOf
    rw [BitVec.getLsbD_setWidth, BitVec.getLsbD_ushiftRight, BitVec.getLsbD_ushiftRight]
    simp only [hi, hn, hn', decide_true, Bool.true_and, show i % 8 < 8 by omega, show 8 * (k + i / 8) + i % 8 = 8 * k + i by omega]
  · have hn' : ¬ (i : Int) < 8 * (s : Int) := by omega
    simp only [hn, hn', decide_false, Bool.false_and, Bool.and_false]
theorem N_low (w : BitVec 64) {s : Nat} (h1 : 1 ≤ s) (h8 : s < 8) : N (lowS w (8 * (s : Int))) = N w % ((2 ^ (8 * s) : Nat) : Int) := by
  unfold lowS
  rw [if_neg (by omega), if_neg (by omega), show (8 * (s : Int)).toNat = 8 * s by omega, ← (low_mod w (8 * s)).resolve_right (by omega)]
  unfold N
  have e : (1#64 <<< (8 * s)).toNat = 2 ^ (8 * s) := by
    rw [BitVec.toNat_shiftLeft, Nat.shiftLeft_eq]
    have : 2 ^ (8 * s) < 2 ^ 64 := Nat.pow_lt_pow_right (by omega) (by omega)
    simp only [BitVec.toNat_ofNat]
    rw [show 1 % 2 ^ 64 = 1 from rfl, Nat.one_mul, Nat.mod_eq_of_lt this]
  rw [BitVec.toNat_umod, e]
  exact Int.natCast_emod _ _
theorem val_ok {b : Int} (h0 : 0 ≤ b) (h1 : b < 18446744073709551616) {D k s : Nat} (hD : D + 8 ≤ 512) (hs1 : 1 ≤ s) (hk : k + s ≤ 8) :
    N (numS (mTx (u8C (wrM z512 D b)) (131584 + dy D k - 131072) (wi (131584 + dy D k - 131072 + s)))) = modI s (b.fdiv (2 ^ min (8 * (k : Int)).toNat IntKind.u64.bits)) := by
  have hz : z512.length = 512 := by unfold z512; simp
  have eo : 131584 + dy D k - 131072 = ((D + k : Nat) : Int) := by unfold dy; omega
  have e8 : bytesS (BitVec.ofInt 64 b) 8 = bytesN (BitVec.ofInt 64 b) 8 := rfl
  have eb : N (BitVec.ofInt 64 b) = b := N_ofInt b h0 (by simpa using h1)
  have em : min (8 * (k : Int)).toNat IntKind.u64.bits = 8 * k := by
    have : IntKind.u64.bits = 64 := rfl
    omega
  rw [eo, wi_id (x := ((D + k : Nat) : Int) + (s : Int)) (by omega) (by omega), mTx_eq, show (((D + k : Nat) : Int)).toNat = D + k from rfl, show (((D + k : Nat) : Int) + (s : Int)).toNat - (D + k) = s by omega, sub_list hz hD hk, e8, num_sub _ hk, em, Int.fdiv_eq_ediv_of_nonneg _ (by rw [show (2 : Int) ^ (8 * k) = ((2 ^ (8 * k) : Nat) : Int) by simp]; exact Int.natCast_nonneg _)]
  have ed : b / (2 : Int) ^ (8 * k) = N (BitVec.ofInt 64 b >>> (8 * k)) := by rw [← N_shr, eb]
  rw [ed]
  unfold modI
  cases h8 : Nat.beq s 8 with
  | true =>
    obtain rfl := Nat.eq_of_beq_eq_true h8
    show N (lowS _ (8 * ((8 : Nat) : Int))) = _
    unfold lowS
    rw [if_neg (by omega), if_pos (by omega)]
    rfl
  | false =>
    have hne : s ≠ 8 := fun h => by subst h; cases h8
    rw [N_low _ hs1 (by omega)]
    exact (Int.tmod_eq_emod_of_nonneg (N_nonneg _)).symm
end Go.Proofs.YthhgfjnnconocaaGreatDoor.Ex
end
section
namespace Go.Proofs.YthhgfjnnconocaaGreatDoor.Ex
set_option maxRecDepth 20000

open Go Go.RowKit
set_option maxHeartbeats 0
set_option maxRecDepth 1000000
set_option linter.unusedVariables false
set_option linter.unusedSectionVars false
section
variable {q a b c : Int} {D d k s : Nat} (hb0 : 0 ≤ b) (hb : b < 18446744073709551616) (hD : D = 8 * d) (hd : d < 64) (hs1 : 1 ≤ s) (hs8 : s ≤ 8) (hk : k < 16) (hl : AE (lawP q a c D k))
include hb0 hb hD hd hs1 hs8 hk hl
theorem st1_ok : AE (lawP q a c D k ++ ([(cstI (hiW b) (loW b), b)] ++ (askP (dx D) ++ (ownP (dx D) 8 true true ++ (inaP (dx D) ++ (findP (dx D) 8 ++ (wrP (u8C z512) (dx D) b ++ ntcP (rest0 2 true b) (dx D) D d))))))) := by
  have x1 : dx D + 8 ≤ 0 := by unfold dx; omega
  have x0 : -512 ≤ dx D := by unfold dx; omega
  have hz : (u8C z512).length = 512 := by rw [u8C_len]; unfold z512; simp
  exact AE.app hl (AE.app (AE.cons (cstI_A b hb0 hb) AE.nil) (AE.app (askP_ok x0 (by omega)) (AE.app (ownP_ok x0 (by omega) (by omega) (by omega) (decide_eq_true (by omega)).symm (fun _ => (decide_eq_true x1).symm)) (AE.app (inaP_ok x0) (AE.app (findP_ok x0 x1 (by omega)) (AE.app (wrP_ok hz (by omega) hb0 hb) (ntcP_ok hD hd (rest0_len ..) (rest0_flat ..))))))))
theorem st2_ok : AE (askP (dx D) ++ (ownP (dx D) 8 true true ++ (inaP (dx D) ++ (onsP (dx D) ++ (findP (dx D) 8 ++ (wrP (wrC (u8C z512) (131584 + dx D - 131072) b) (dx D) 131584 ++ ntcP (rest0 0 false 0) (dx D) D d)))))) := by
  have x1 : dx D + 8 ≤ 0 := by unfold dx; omega
  have x0 : -512 ≤ dx D := by unfold dx; omega
  have hz : z512.length = 512 := by unfold z512; simp
  have hz2 : (wrC (u8C z512) (131584 + dx D - 131072) b).length = 512 := by rw [wrC_eq, u8C_len]; exact wrM_len hz (by omega)
  exact AE.app (askP_ok x0 (by omega)) (AE.app (ownP_ok x0 (by omega) (by omega) (by omega) (decide_eq_true (by omega)).symm (fun _ => (decide_eq_true x1).symm)) (AE.app (inaP_ok x0) (AE.app (onsP_ok hD hd) (AE.app (findP_ok x0 x1 (by omega)) (AE.app (wrP_ok hz2 (by omega) (by omega) (by omega)) (ntcP_ok hD hd (rest0_len ..) (rest0_flat ..)))))))
theorem fullP_ok (hks : k + s ≤ 8) : AE (fullP q s 8 41 10 41 b a b c D d k) := by
  have s1 := st1_ok hb0 hb hD hd hs1 hs8 hk hl
  have s2 := st2_ok hb0 hb hD hd hs1 hs8 hk hl
  have y0 : -512 ≤ dy D k := by unfold dy; omega
  have y1 : dy D k + s ≤ 0 := by unfold dy; omega
  have hz : z512.length = 512 := by unfold z512; simp
  have own : AE (ownP (dy D k) s true true) := ownP_ok y0 (by omega) (by omega) (by omega) (decide_eq_true (by omega)).symm (fun _ => (decide_eq_true y1).symm)
  have fnd : AE (findP (dy D k) s) := findP_ok y0 y1 (by omega)
  have tl : AE (tailP (wrC (u8C z512) (131584 + dx D - 131072) b) s k (dy D k) b) := by
    unfold tailP
    rw [w16_id (x := (k : Int) + s) (by omega) (by omega), w16_id (x := 8 * (k : Int)) (by omega) (by omega), wrC_eq, val_ok hb0 hb (by omega) hs1 hks]
    exact AE.cons (b1 (by omega)) (AE.cons rfl (AE.cons (bt (beq_self_eq_true _)) AE.nil))
  have r2 : AE (rdP2 (wrC (u8C z512) (131584 + dx D - 131072) b) (dy D k) s) := by
    rw [wrC_eq]
    exact rdP2_ok (wrM_len hz (by omega)) (by omega) hs1 hs8
  have r3 : AE (rdP2 (wrC (wrC (u8C z512) (131584 + dx D - 131072) b) (131584 + dx D - 131072) 131584) (dy D k) s) := by
    rw [wrC_eq, wrC_eq]
    exact rdP2_ok (wrM_len (wrM_len hz (by omega)) (by omega)) (by omega) hs1 hs8
  have r4 : AE (bif Nat.beq s 8 then findP (dy D k) s ++ rdP2 (wrC (wrC (u8C z512) (131584 + dx D - 131072) b) (131584 + dx D - 131072) 131584) (dy D k) s else []) := by
    cases Nat.beq s 8
    · exact AE.nil
    · exact AE.app fnd r3
  have rest := AE.app s1 (AE.app (askP_ok y0 (by omega)) (AE.app own (AE.app (rdcP_ok (b0 := 8) (l := 5) (b1 := 41) (pc := 2) (pc' := 3) (h3 := true) (V := b) (tag := false) hD hd hs1 hs8 hks) (AE.app fnd (AE.app r2 (AE.app s2 (AE.app (askP_ok y0 (by omega)) (AE.app own (AE.app (rdcP_ok (b0 := 10) (l := 3) (b1 := 41) (pc := 0) (pc' := 1) (h3 := false) (V := 0) (tag := true) hD hd hs1 hs8 hks) (AE.app r4 tl))))))))))
  unfold fullP
  simpa only [List.append_assoc] using rest
theorem partP_ok (hks : 8 < k + s) (hF : D + k + s ≤ 512) : AE (partP q s 8 41 10 41 b a b c D d k) := by
  have s1 := st1_ok hb0 hb hD hd hs1 hs8 hk hl
  have s2 := st2_ok hb0 hb hD hd hs1 hs8 hk hl
  have y0 : -512 ≤ dy D k := by unfold dy; omega
  have y1 : dy D k + s ≤ 0 := by unfold dy; omega
  have own : AE (ownP (dy D k) s true true) := ownP_ok y0 (by omega) (by omega) (by omega) (decide_eq_true (by omega)).symm (fun _ => (decide_eq_true y1).symm)
  have tl : AE (endP s D k false) := by
    unfold endP dx dy
    rw [w16_id (x := (k : Int) + s) (by omega) (by omega), w16_id (x := (D : Int) - 512 + (k : Int)) (by omega) (by omega), w16_id (x := ((D + k : Nat) : Int) - 512 + (s : Int)) (by omega) (by omega)]
    exact AE.cons (b0 (by omega)) (AE.cons (by omega) (AE.cons (b0 (by omega)) AE.nil))
  have rest := AE.app s1 (AE.app (askP_ok y0 (by omega)) (AE.app own (AE.app (ptcP_ok (b0 := 8) (l := 5) (b1 := 41) (pc := 2) (pc' := 3) (h3 := true) (V := b) (tag := false) hD hd hs1 hs8 hks hF) (AE.app s2 (AE.app (askP_ok y0 (by omega)) (AE.app own (AE.app (ptcP_ok (b0 := 10) (l := 3) (b1 := 41) (pc := 0) (pc' := 1) (h3 := false) (V := 0) (tag := true) hD hd hs1 hs8 hks hF) tl)))))))
  unfold partP
  simpa only [List.append_assoc] using rest
theorem farP_ok (c41 c49 : Bool) (hks : 8 < k + s) (hF : 512 < D + k + s) (e1 : c41 = decide (dy D k < 0)) (e2 : c41 = true → c49 = decide (dy D k + s ≤ 0)) : AE (farP q s c41 c49 b a b c D d k) := by
  have s1 := st1_ok hb0 hb hD hd hs1 hs8 hk hl
  have s2 := st2_ok hb0 hb hD hd hs1 hs8 hk hl
  have y0 : -512 ≤ dy D k := by unfold dy; omega
  have y1 : dy D k ≤ 600 := by unfold dy; omega
  have own : AE (ownP (dy D k) s c41 c49) := ownP_ok y0 y1 (by omega) (by omega) e1 e2
  have tl : AE (endP s D k true) := by
    unfold endP dx dy
    rw [w16_id (x := (k : Int) + s) (by omega) (by omega), w16_id (x := (D : Int) - 512 + (k : Int)) (by omega) (by omega), w16_id (x := ((D + k : Nat) : Int) - 512 + (s : Int)) (by omega) (by omega)]
    exact AE.cons (b0 (by omega)) (AE.cons (by omega) (AE.cons (b1 (by omega)) AE.nil))
  have rest := AE.app s1 (AE.app (askP_ok y0 y1) (AE.app own (AE.app s2 (AE.app (askP_ok y0 y1) (AE.app own tl)))))
  unfold farP
  simpa only [List.append_assoc] using rest
end
end Go.Proofs.YthhgfjnnconocaaGreatDoor.Ex
end
section
namespace Go.Proofs.YthhgfjnnconocaaGreatDoor.Ex
set_option maxRecDepth 20000

open Go Go.RowKit Go.WideShapes Go.ChangeShapes

theorem gr_frame {W W' : World} (h : Gr W W') (may : MemPlace → Prop) : W.keptBut W' may := by
  refine ⟨h.1.1, h.1.2, fun i hi => ?_⟩
  rw [h.2.1 i hi]
  split <;> simp_all
section
variable {H : Type} {enc : TypeId × Value → H} {P : Program}
theorem post_of_gr {f : Func} {s : ChangeSpec} {apart fresh handsOn again : Bool} {W W' : World} {args : Array Value} {v : Value} {ds gs : List (DataW H)} {before pa pv : List MemPlace}
    (hW : DataW.Whole enc P f.params.toList s.vars apart W args.toList ds gs before)
    (hres : ∀ (b : Nat) (sp : Nat → Bool) (hd : Bool), DataW.TrodAll enc P W' b sp hd f.resultTypes.toList (v.resultList f.resultTypes.size) (s.fn H (ds ++ gs)).results [])
    (hargs : ∀ sp : Nat → Bool, (∀ p ∈ before, sp p.block = true) → DataW.TrodAll enc P W' 0 sp true f.params.toList args.toList (s.fn H (ds ++ gs)).args pa)
    (hvars : ∀ sp : Nat → Bool, (∀ p ∈ before, sp p.block = true) → DataW.TrodVars enc P W' sp s.vars (s.fn H (ds ++ gs)).vars pv)
    (hps : before = pa ++ pv) (hg : Gr W W')
    (hok : ∀ (j : Nat) (t : TypeId) (r : Value), f.resultTypes[j]? = some t → (v.resultList f.resultTypes.size)[j]? = some r → Value.okWide P W' .any 0 t r) :
    s.post enc P f apart fresh handsOn again W args v W' := by
  have hlt : ∀ p ∈ before, p.block < W.heap.size := fun p hp => hW.lt p hp
  have hold : ∀ p ∈ before, (fun b => decide (b < W.heap.size)) p.block = true := fun p hp => by simpa using hlt p hp
  refine ⟨ds, gs, before, [], pa, pv, hW, hres _ _ _, hargs _ hold, hvars _ hold, World.keptBut_mono (fun p hp => ⟨hp, ?_⟩) (gr_frame hg (· ∈ before)), fun _ => ?_⟩
  · rw [hps, List.mem_append] at hp
    exact Or.inr hp
  · obtain ⟨_, _, _, _, _, hz, hn⟩ := hW
    refine ⟨hok, _, _, ([] ++ pa) ++ pv, ⟨[] ++ pa, pv, trodAll_append (hargs _ (fun _ _ => rfl)) (hres _ _ _), hvars _ (fun _ _ => rfl), rfl, ?_, ?_⟩, ?_⟩
    · intro b off hp
      have hin : MemPlace.cell b off ∈ before := by rw [hps]; simpa using hp
      rw [gr_frozen hg (hlt _ hin)]
      exact hz b off hin
    · intro ha
      have := hn ha
      rw [hps] at this
      simpa using this
    · intro p hp _
      rw [hps]
      simpa using hp
end
end Go.Proofs.YthhgfjnnconocaaGreatDoor.Ex
end
