/-
  Lemmas for the laws of this seat, part N: Ex24, Ex25, Ex26, Ex27, SlHook, Sk0, Ar0, Ex28, Ex29, Mk0, Mk1, Mk2, Mk3, Mk4, Mk5, Plain, PostGr.
-/
import Derived.Test.YtafegjmaldbbiaaPackM
import Derived.ProofKit
import Derived.WalkKit
import Derived.OpenShut
import Derived.ShutString
import Derived.ChangeSame
section
namespace Go.Proofs.Ytafegjmaldbbiaa.Ex
open Go Go.RowKit
set_option linter.unusedVariables false
def unmask (β : Nat → Value) : Nat → List Bool → List Value → List Value
  | i, d :: ds, v :: vs => (bif d then β i else v) :: unmask β (i + 1) ds vs
  | _, _, vs => vs
def maskL : List Bool → List Value → List Value
  | d :: ds, v :: vs => (bif d then .bool (flat v) else v) :: maskL ds vs
  | _, vs => vs
theorem reV_scal {f : Nat → Nat} : ∀ (n : Nat) {v : Value}, scal v = true → reV f n v = v
  | 0, v, _ => rfl
  | n + 1, v, h => by
    cases v with
    | pointer a => cases a with
      | none => rfl
      | some a => simp [scal] at h
    | slice a l c => cases a with
      | none => rfl
      | some a => simp [scal] at h
    | map r => cases r with
      | none => rfl
      | some r => simp [scal] at h
    | func g a b =>
      cases g with
      | func g =>
        obtain ⟨a⟩ := a
        obtain ⟨b⟩ := b
        simp only [scal, Bool.and_eq_true, List.isEmpty_iff] at h
        obtain ⟨h1, h2⟩ := h
        subst h1 h2
        rfl
      | _ => simp [scal] at h
    | agg cs => simp [scal] at h
    | tuple cs => simp [scal] at h
    | iface t x => simp [scal] at h
    | _ => rfl
theorem map_id_all {g : Value → Value} {p : Value → Bool} (hg : ∀ v, p v = true → g v = v) : ∀ {l : List Value}, l.all p = true → l.map g = l
  | [], _ => rfl
  | x :: l, h => by
    simp only [List.all_cons, Bool.and_eq_true] at h
    rw [List.map_cons, hg x h.1, map_id_all hg h.2]
theorem reV_flat1 {f : Nat → Nat} : ∀ (n : Nat) {v : Value}, flat1 v = true → reV f n v = v
  | 0, v, _ => rfl
  | n + 1, v, h => by
    cases v with
    | agg cs =>
      obtain ⟨cs⟩ := cs
      show Value.agg ⟨cs.map (reV f n)⟩ = _
      rw [map_id_all (fun v hv => reV_scal n hv) (l := cs) h]
    | _ => exact reV_scal _ h
theorem reV_flat {f : Nat → Nat} : ∀ (n : Nat) {v : Value}, flat v = true → reV f n v = v
  | 0, v, _ => rfl
  | n + 1, v, h => by
    cases v with
    | tuple cs =>
      obtain ⟨cs⟩ := cs
      show Value.tuple ⟨cs.map (reV f n)⟩ = _
      rw [map_id_all (fun v hv => reV_flat1 n hv) (l := cs) h]
    | iface t x =>
      show Value.iface t (reV f n x) = _
      rw [reV_flat1 n (v := x) h]
    | _ => exact reV_flat1 _ h
theorem refF_flat1 {ok : Nat → Bool} (n : Nat) {v : Value} (h : flat1 v = true) : refF ok (n + 1) v = true := by
  cases v with
  | agg cs =>
    show cs.toList.all (refF ok n) = true
    exact List.all_eq_true.2 fun x hx => refF_scal n (List.all_eq_true.1 h x hx)
  | _ => exact refF_scal _ h
theorem refF_flat {ok : Nat → Bool} (n : Nat) {v : Value} (h : flat v = true) : refF ok (n + 2) v = true := by
  cases v with
  | tuple cs =>
    show cs.toList.all (refF ok (n + 1)) = true
    exact List.all_eq_true.2 fun x hx => refF_flat1 n (List.all_eq_true.1 h x hx)
  | iface t x => exact refF_flat1 n (v := x) h
  | _ => exact refF_flat1 _ h
theorem unmask_all {β : Nat → Value} {p : Value → Bool} (hβ : ∀ k, p (β k) = true) : ∀ {i : Nat} {ds : List Bool} {ts : List Value}, ts.all p = true → (unmask β i ds ts).all p = true
  | i, [], ts, h => by cases ts <;> exact h
  | i, d :: ds, [], h => h
  | i, d :: ds, v :: vs, h => by
    simp only [List.all_cons, Bool.and_eq_true] at h
    simp only [unmask, List.all_cons, Bool.and_eq_true]
    refine ⟨?_, unmask_all hβ h.2⟩
    cases d
    · exact h.1
    · exact hβ i
theorem unmask_of {g : Value → Value} {β : Nat → Value} (hg : ∀ k, g (β k) = β k) : ∀ {i : Nat} {ds : List Bool} {xs ts : List Value}, maskL ds xs = ts.map g → (∀ j x, xs[j]? = some x → flat x = true → β (i + j) = x) → (∀ (j : Nat), ds[j]? = some true → ∀ t, ts[j]? = some t → g t = .bool true) → xs = (unmask β i ds ts).map g
  | i, [], xs, ts, h, _, _ => by
    have e : maskL [] xs = xs := by cases xs <;> rfl
    have e2 : unmask β i [] ts = ts := by cases ts <;> rfl
    rw [e2, ← h, e]
  | i, d :: ds, [], ts, h, _, _ => by
    cases ts with
    | nil => rfl
    | cons t ts => simp [maskL] at h
  | i, d :: ds, x :: xs, [], h, _, _ => by simp [maskL] at h
  | i, d :: ds, x :: xs, t :: ts, h, hb, ht => by
    simp only [maskL, List.map_cons, List.cons.injEq] at h
    obtain ⟨h1, h2⟩ := h
    have ih := unmask_of hg (i := i + 1) h2 (fun j y hy hf => by rw [show i + 1 + j = i + (j + 1) by omega]; exact hb (j + 1) y (by simpa using hy) hf) (fun j hj t' ht' => ht (j + 1) (by simpa using hj) t' (by simpa using ht'))
    simp only [unmask, List.map_cons, ← ih]
    congr 1
    cases d
    · exact h1
    · have h3 := ht 0 rfl t rfl
      simp only [cond_true] at h1 ⊢
      rw [h3] at h1
      injection h1 with h4
      have h5 := hb 0 x rfl h4
      rw [Nat.add_zero] at h5
      rw [hg, h5]
def Fl (β : Nat → Value) : Prop := ∀ k, flat (β k) = true
/-- What stands at the places that are not told. -/
noncomputable def atD (xs : List Value) (k : Nat) : Value := match xs[k]? with
  | some x => bif flat x then x else .bool true
  | none => .bool true
theorem atD_fl (xs : List Value) : Fl (atD xs) := by
  intro k
  unfold atD
  split
  · rename_i x _
    cases h : flat x with
    | false => rfl
    | true => simp [h]
  · rfl
def deadAt (ds : List Bool) (ts : List Value) : Bool :=
  match ds, ts with
  | d :: ds, t :: ts => (!d || (match t with | .bool true => true | _ => false)) && deadAt ds ts
  | _, _ => true
theorem deadAt_ok : ∀ {ds : List Bool} {ts : List Value}, deadAt ds ts = true → ∀ (j : Nat), ds[j]? = some true → ∀ t, ts[j]? = some t → t = .bool true
  | [], ts, _, j, hj, _, _ => by simp at hj
  | d :: ds, [], _, j, _, t, ht => by simp at ht
  | d :: ds, v :: ts, h, 0, hj, t, ht => by
    simp only [List.getElem?_cons_zero, Option.some.injEq] at hj ht
    subst hj ht
    simp only [deadAt, Bool.and_eq_true, Bool.not_true, Bool.false_or] at h
    have h1 := h.1
    split at h1
    · rfl
    · cases h1
  | d :: ds, v :: ts, h, j + 1, hj, t, ht => by
    simp only [deadAt, Bool.and_eq_true] at h
    exact deadAt_ok h.2 j (by simpa using hj) t (by simpa using ht)
theorem keepM {q : Nat} {keep : List Nat} {ds : List Bool} {T : (Nat → Value) → List Value} (hun : ∀ β, unmask β 0 ds (T fun _ => .bool true) = T β) (chg : Nat → Bool) {β : Nat → Value} (hβ : Fl β) {o : Option (List Value × List AO × Option Nat × List Int)} {h2 : List AO} {lo : Option Nat} {cs : Cs}
    (hr : o.map (fun r => (maskL ds r.1, r.2)) = some ((T fun k => bif chg k then .bool true else .bool (flat (β k))).map (reV (keepF q keep) 6), h2.map (reO (keepF q keep)), lo, inter cs)) (hd : deadAt ds (T fun _ => .bool true) = true) (hb : hopC (T fun _ => .bool true) h2 = true) :
    ∃ β', Fl β' ∧ o = some ((T β').map (reV (keepF q keep) 6), h2.map (reO (keepF q keep)), lo, inter cs) ∧ hopC (T β') h2 = true := by
  have e : (T fun k => bif chg k then .bool true else .bool (flat (β k))) = T fun _ => .bool true := congrArg T (funext fun k => by cases chg k <;> simp [hβ k])
  rw [e] at hr
  cases o with
  | none => cases hr
  | some r =>
    obtain ⟨xt, r2⟩ := r
    simp only [Option.map_some, Option.some.injEq, Prod.mk.injEq] at hr
    obtain ⟨h1, h3⟩ := hr
    subst h3
    have hfl := atD_fl xt
    refine ⟨atD xt, hfl, ?_, ?_⟩
    · rw [← hun (atD xt)]
      have := unmask_of (g := reV (keepF q keep) 6) (β := atD xt) (fun k => reV_flat 6 (hfl k)) (i := 0) h1 (fun j x hx hf => by
        rw [Nat.zero_add]
        unfold atD
        rw [hx]
        simp [hf]) (fun j hj t ht => by
        rw [deadAt_ok hd j hj t ht]
        rfl)
      rw [← this]
    · rw [← hun (atD xt)]
      simp only [hopC, Bool.and_eq_true] at hb ⊢
      exact ⟨unmask_all (fun k => refF_flat 4 (hfl k)) hb.1, hb.2⟩
section
variable {P : Program}
theorem hopJ_ok (hng : NoNG P) {hk : Hook3} (hhk : HookOk3 P hk) {lh : LoopHook} (hll : LoopLow lh) (hlo : LoopsOk P lh) {orc : Orc} {fid : FuncId} {nn : Nat} (h1 : oneLoopN P fid nn = true) {n q : Nat} (keep : List Nat) {t : List Value} {h h2 : List AO} {lo : Option Nat} {cs : Cs}
    {ds : List Bool} {T : (Nat → Value) → List Value} (hun : ∀ β, unmask β 0 ds (T fun _ => .bool true) = T β) (chg : Nat → Bool) {β : Nat → Value} (hβ : Fl β)
    (hr : (hopRunL P hk orc lh fid (theLoopN P fid nn) n q keep t h).map (fun r => (maskL ds r.1, r.2)) = some ((T fun k => bif chg k then .bool true else .bool (flat (β k))).map (reV (keepF q keep) 6), h2.map (reO (keepF q keep)), lo, inter cs))
    (hd : deadAt ds (T fun _ => .bool true) = true) (hb : hopC (T fun _ => .bool true) h2 = true) (hc : ∀ c ∈ cs, c.1 = c.2) : ∃ β', Fl β' ∧ HopQ P (theLoopN P fid nn) n q t h (T β') h2 (lo, []) := by
  obtain ⟨β', hf, ho, hb'⟩ := keepM hun chg hβ hr hd hb
  exact ⟨β', hf, hopL_ok hng hhk hll hlo h1 keep ho hb' hc⟩
theorem stopJ_ok (hng : NoNG P) {hk : Hook3} (hhk : HookOk3 P hk) {lh : LoopHook} (hll : LoopLow lh) (hlo : LoopsOk P lh) {orc : Orc} {fid : FuncId} {nn : Nat} (h1 : oneLoopN P fid nn = true) {n q : Nat} (keep : List Nat) {t : List Value} {h h2 : List AO} {e : Exit} {lo : Option Nat} {cs : Cs}
    {ds : List Bool} {T : (Nat → Value) → List Value} (hun : ∀ β, unmask β 0 ds (T fun _ => .bool true) = T β) (chg : Nat → Bool) {β : Nat → Value} (hβ : Fl β)
    (he : (stopRunL P hk orc lh fid (theLoopN P fid nn) n q keep t h).map (fun r => (r.1, r.2.map fun r => (maskL ds r.1, r.2))) = some (e, some ((T fun k => bif chg k then .bool true else .bool (flat (β k))).map (reV (keepF q keep) 6), h2.map (reO (keepF q keep)), lo, inter cs)))
    (hd : deadAt ds (T fun _ => .bool true) = true) (hb : hopC (T fun _ => .bool true) h2 = true) (hc : ∀ c ∈ cs, c.1 = c.2) : ∃ β', Fl β' ∧ StopQ P (theLoopN P fid nn) n q t h e (T β') h2 (lo, []) := by
  cases hx : stopRunL P hk orc lh fid (theLoopN P fid nn) n q keep t h with
  | none => rw [hx] at he; cases he
  | some r =>
    obtain ⟨e1, o⟩ := r
    rw [hx] at he
    simp only [Option.map_some, Option.some.injEq, Prod.mk.injEq] at he
    obtain ⟨rfl, hr⟩ := he
    obtain ⟨β', hf, ho, hb'⟩ := keepM hun chg hβ hr hd hb
    subst ho
    exact ⟨β', hf, stopL_ok hng hhk hll hlo h1 keep hx hb' hc⟩
theorem map_id_mem {g : Value → Value} : ∀ {l : List Value}, (∀ v ∈ l, g v = v) → l.map g = l
  | [], _ => rfl
  | x :: l, h => by rw [List.map_cons, h x List.mem_cons_self, map_id_mem fun v hv => h v (List.mem_cons_of_mem _ hv)]
theorem reV_id {f : Nat → Nat} {ok : Nat → Bool} (hf : ∀ j, ok j = true → f j = j) : ∀ (n : Nat) {v : Value}, refF ok n v = true → reV f n v = v
  | 0, v, _ => rfl
  | n + 1, v, h => by
    have all : ∀ {l : List Value}, l.all (refF ok n) = true → l.map (reV f n) = l := fun {l} hl => map_id_mem fun v hv => reV_id hf n (List.all_eq_true.1 hl v hv)
    cases v with
    | pointer a => cases a with
      | none => rfl
      | some a =>
        show Value.pointer (some ⟨f a.block, a.off, a.spot⟩) = _
        rw [hf _ h]
    | slice a l c => cases a with
      | none => rfl
      | some a =>
        show Value.slice (some ⟨f a.block, a.off, a.spot⟩) l c = _
        rw [hf _ h]
    | map r => cases r with
      | none => rfl
      | some r =>
        show Value.map (some (f r)) = _
        rw [hf _ h]
    | func g a b =>
      cases g with
      | func g =>
        obtain ⟨a⟩ := a
        obtain ⟨b⟩ := b
        simp only [refF, Bool.and_eq_true] at h
        show Value.func (.func g) ⟨a.map (reV f n)⟩ ⟨b.map (reV f n)⟩ = _
        rw [all h.1, all h.2]
      | _ => rfl
    | agg cs =>
      obtain ⟨cs⟩ := cs
      show Value.agg ⟨cs.map (reV f n)⟩ = _
      rw [all h]
    | tuple cs =>
      obtain ⟨cs⟩ := cs
      show Value.tuple ⟨cs.map (reV f n)⟩ = _
      rw [all h]
    | iface t x =>
      show Value.iface t (reV f n x) = _
      rw [reV_id hf n (v := x) h]
    | _ => rfl
theorem keepF_id (q : Nat) : ∀ j, (fun x => decide (x < q)) j = true → keepF q [] j = j := by
  intro j hj
  have : Nat.blt j q = true := by simpa [Nat.blt_eq] using hj
  simp [keepF, this]
theorem hopC_id {q : Nat} {t2 : List Value} {h2 : List AO} (hq : h2.length = q) (hd : h2.all (·.live) = true ∨ True) (hb : hopC t2 h2 = true) : t2.map (reV (keepF q []) 6) = t2 ∧ ∀ o ∈ h2, o.live = true → reO (keepF q []) o = o := by
  subst hq
  simp only [hopC, Bool.and_eq_true] at hb
  refine ⟨map_id_mem fun v hv => reV_id (keepF_id _) 6 (List.all_eq_true.1 hb.1 v hv), fun o ho hl => ?_⟩
  have h1 := List.all_eq_true.1 hb.2 o ho
  simp only [refO, hl, Bool.not_true, Bool.false_or] at h1
  obtain ⟨ol, oe, oc⟩ := o
  show AO.mk ol oe (oc.map (reV _ 6)) = _
  rw [map_id_mem fun v hv => reV_id (keepF_id _) 6 (List.all_eq_true.1 h1 v hv)]
/-- Blocks that are given up have no cells. -/
def deadB (h : List AO) : Bool := h.all fun o => o.live || o.cs.isEmpty
theorem reH_id {q : Nat} {t2 : List Value} {h2 : List AO} (hq : h2.length = q) (hd : deadB h2 = true) (hb : hopC t2 h2 = true) : h2.map (reO (keepF q [])) = h2 := by
  obtain ⟨_, h1⟩ := hopC_id hq (.inr trivial) hb
  have : ∀ {l : List AO}, (∀ o ∈ l, reO (keepF q []) o = o) → l.map (reO (keepF q [])) = l := by
    intro l
    induction l with
    | nil => intro _; rfl
    | cons x l ih => intro h; rw [List.map_cons, h x List.mem_cons_self, ih fun v hv => h v (List.mem_cons_of_mem _ hv)]
  refine this fun o ho => ?_
  cases hl : o.live with
  | true => exact h1 o ho hl
  | false =>
    have := List.all_eq_true.1 hd o ho
    simp only [hl, Bool.false_or, List.isEmpty_iff] at this
    obtain ⟨ol, oe, oc⟩ := o
    simp only at this
    subst this
    rfl
/-- The same where all blocks that are told keep their numbers. -/
theorem hopJ0_ok (hng : NoNG P) {hk : Hook3} (hhk : HookOk3 P hk) {lh : LoopHook} (hll : LoopLow lh) (hlo : LoopsOk P lh) {orc : Orc} {fid : FuncId} {nn : Nat} (h1 : oneLoopN P fid nn = true) {n q : Nat} {t : List Value} {h h2 : List AO} {lo : Option Nat} {cs : Cs}
    {ds : List Bool} {T : (Nat → Value) → List Value} (hun : ∀ β, unmask β 0 ds (T fun _ => .bool true) = T β)
    (hr : (hopRunL P hk orc lh fid (theLoopN P fid nn) n q [] t h).map (fun r => (maskL ds r.1, r.2)) = some (T fun _ => .bool true, h2, lo, inter cs))
    (hd : deadAt ds (T fun _ => .bool true) = true) (hq : h2.length = q) (hdb : deadB h2 = true) (hb : hopC (T fun _ => .bool true) h2 = true) (hc : ∀ c ∈ cs, c.1 = c.2) : ∃ β', Fl β' ∧ HopQ P (theLoopN P fid nn) n q t h (T β') h2 (lo, []) := by
  refine hopJ_ok hng hhk hll hlo (orc := orc) h1 [] hun (fun _ => true) (β := fun _ => .bool true) (fun _ => rfl) ?_ hd hb hc
  rw [hr]
  simp only [cond_true, (hopC_id hq (.inr trivial) hb).1, reH_id hq hdb hb]
theorem stopJ0_ok (hng : NoNG P) {hk : Hook3} (hhk : HookOk3 P hk) {lh : LoopHook} (hll : LoopLow lh) (hlo : LoopsOk P lh) {orc : Orc} {fid : FuncId} {nn : Nat} (h1 : oneLoopN P fid nn = true) {n q : Nat} {t : List Value} {h h2 : List AO} {e : Exit} {lo : Option Nat} {cs : Cs}
    {ds : List Bool} {T : (Nat → Value) → List Value} (hun : ∀ β, unmask β 0 ds (T fun _ => .bool true) = T β) (chg : Nat → Bool) {β : Nat → Value} (hβ : Fl β)
    (he : (stopRunL P hk orc lh fid (theLoopN P fid nn) n q [] t h).map (fun r => (r.1, r.2.map fun r => (maskL ds r.1, r.2))) = some (e, some (T fun k => bif chg k then .bool true else .bool (flat (β k)), h2, lo, inter cs)))
    (hd : deadAt ds (T fun _ => .bool true) = true) (hq : h2.length = q) (hdb : deadB h2 = true) (hb : hopC (T fun _ => .bool true) h2 = true) (hc : ∀ c ∈ cs, c.1 = c.2) : ∃ β', Fl β' ∧ StopQ P (theLoopN P fid nn) n q t h e (T β') h2 (lo, []) := by
  have e1 : (T fun k => bif chg k then .bool true else .bool (flat (β k))) = T fun _ => .bool true := congrArg T (funext fun k => by cases chg k <;> simp [hβ k])
  rw [e1] at he
  refine stopJ_ok hng hhk hll hlo (orc := orc) h1 [] hun (fun _ => true) (β := fun _ => .bool true) (fun _ => rfl) ?_ hd hb hc
  rw [he]
  simp only [cond_true, (hopC_id hq (.inr trivial) hb).1, reH_id hq hdb hb]
theorem HopQ.weak {c : Code} {n q : Nat} {t t1 : List Value} {h h1 : List AO} {m1 m3 : Mk} (a : HopQ P c n q t h t1 h1 m1) (hm1 : ∀ k, k ≤ q → Bnd k m3 → Bnd k m1) : HopQ P c n q t h t1 h1 m3 :=
  fun wb k hm hkq => a wb k (hm1 k hkq hm) hkq
theorem StopQ.weak {c : Code} {n q : Nat} {t t1 : List Value} {h h1 : List AO} {e : Exit} {m1 m3 : Mk} (a : StopQ P c n q t h e t1 h1 m1) (hm1 : ∀ k, k ≤ q → Bnd k m3 → Bnd k m1) : StopQ P c n q t h e t1 h1 m3 :=
  fun wb k hm hkq => a wb k (hm1 k hkq hm) hkq
end
end Go.Proofs.Ytafegjmaldbbiaa.Ex
end
section
namespace Go.Proofs.Ytafegjmaldbbiaa.Ex
open Go Go.RowKit
set_option linter.unusedVariables false
def okR (q : Nat) (v : Value) : Bool := refF (fun x => decide (x < q)) 6 v
def maskR (q : Nat) : List Bool → List Value → List Value
  | d :: ds, v :: vs => (bif d then .bool (okR q v) else v) :: maskR q ds vs
  | _, vs => vs
def FlR (q : Nat) (β : Nat → Value) : Prop := ∀ k, okR q (β k) = true
theorem refF_mono {a b : Nat → Bool} (h : ∀ x, a x = true → b x = true) : ∀ (n : Nat) {v : Value}, refF a n v = true → refF b n v = true
  | 0, v, hv => hv
  | n + 1, v, hv => by
    have all : ∀ {l : List Value}, l.all (refF a n) = true → l.all (refF b n) = true := fun {l} hl => List.all_eq_true.2 fun v hm => refF_mono h n (List.all_eq_true.1 hl v hm)
    cases v with
    | pointer x => cases x with
      | none => exact hv
      | some x => exact h _ hv
    | slice x l c => cases x with
      | none => exact hv
      | some x => exact h _ hv
    | map r => cases r with
      | none => exact hv
      | some r => exact h _ hv
    | func g x y =>
      cases g with
      | func g =>
        simp only [refF, Bool.and_eq_true] at hv ⊢
        exact ⟨all hv.1, all hv.2⟩
      | _ => exact hv
    | agg cs => exact all hv
    | tuple cs => exact all hv
    | iface t x => exact refF_mono h n (v := x) hv
    | _ => exact hv
theorem unmaskR_of {q : Nat} {g : Value → Value} {β : Nat → Value} (hg : ∀ k, g (β k) = β k) : ∀ {i : Nat} {ds : List Bool} {xs ts : List Value}, maskR q ds xs = ts.map g → (∀ j x, xs[j]? = some x → okR q x = true → β (i + j) = x) → (∀ (j : Nat), ds[j]? = some true → ∀ t, ts[j]? = some t → g t = .bool true) → xs = (unmask β i ds ts).map g
  | i, [], xs, ts, h, _, _ => by
    have e : maskR q [] xs = xs := by cases xs <;> rfl
    have e2 : unmask β i [] ts = ts := by cases ts <;> rfl
    rw [e2, ← h, e]
  | i, d :: ds, [], ts, h, _, _ => by
    cases ts with
    | nil => rfl
    | cons t ts => simp [maskR] at h
  | i, d :: ds, x :: xs, [], h, _, _ => by simp [maskR] at h
  | i, d :: ds, x :: xs, t :: ts, h, hb, ht => by
    simp only [maskR, List.map_cons, List.cons.injEq] at h
    obtain ⟨h1, h2⟩ := h
    have ih := unmaskR_of hg (i := i + 1) h2 (fun j y hy hf => by rw [show i + 1 + j = i + (j + 1) by omega]; exact hb (j + 1) y (by simpa using hy) hf) (fun j hj t' ht' => ht (j + 1) (by simpa using hj) t' (by simpa using ht'))
    simp only [unmask, List.map_cons, ← ih]
    congr 1
    cases d
    · exact h1
    · have h3 := ht 0 rfl t rfl
      simp only [cond_true] at h1 ⊢
      rw [h3] at h1
      injection h1 with h4
      have h5 := hb 0 x rfl h4
      rw [Nat.add_zero] at h5
      rw [hg, h5]
noncomputable def atR (q : Nat) (xs : List Value) (k : Nat) : Value := match xs[k]? with
  | some x => bif okR q x then x else .bool true
  | none => .bool true
theorem atR_fl (q : Nat) (xs : List Value) : FlR q (atR q xs) := by
  intro k
  unfold atR
  split
  · rename_i x _
    cases h : okR q x with
    | false => rfl
    | true => simp [h]
  · rfl
/-- The state behind the rounds: its temporaries, but for those that are not told; its blocks, those that are kept by new numbers. -/
theorem keepR {q q0 : Nat} {keep : List Nat} {ds : List Bool} {T : (Nat → Value) → List Value} (hun : ∀ β, unmask β 0 ds (T fun _ => .bool true) = T β) (chg : Nat → Bool) {β : Nat → Value} (hβ : FlR q0 β) {o : Option (List Value × List AO × Option Nat × List Int)} {h2 hh : List AO} {lo : Option Nat} {cs : Cs}
    (hr : o.map (fun r => (maskR q0 ds r.1, r.2)) = some ((T fun k => bif chg k then .bool true else .bool (okR q0 (β k))).map (reV (keepF q keep) 6), hh, lo, inter cs)) (hh2 : h2.map (reO (keepF q keep)) = hh) (hq : q0 ≤ q) (hl : q0 ≤ h2.length) (hd : deadAt ds (T fun _ => .bool true) = true) (hb : hopC (T fun _ => .bool true) h2 = true) :
    ∃ β', FlR q0 β' ∧ o = some ((T β').map (reV (keepF q keep) 6), h2.map (reO (keepF q keep)), lo, inter cs) ∧ hopC (T β') h2 = true := by
  have e : (T fun k => bif chg k then .bool true else .bool (okR q0 (β k))) = T fun _ => .bool true := congrArg T (funext fun k => by cases chg k <;> simp [hβ k])
  rw [e] at hr
  have hid : ∀ j, (fun x => decide (x < q0)) j = true → keepF q keep j = j := by
    intro j hj
    have : Nat.blt j q = true := by
      rw [Nat.blt_eq]
      have := of_decide_eq_true hj
      omega
    simp [keepF, this]
  cases o with
  | none => cases hr
  | some r =>
    obtain ⟨xt, r2⟩ := r
    simp only [Option.map_some, Option.some.injEq, Prod.mk.injEq] at hr
    obtain ⟨h1, h3⟩ := hr
    subst h3
    have hfl := atR_fl q0 xt
    refine ⟨atR q0 xt, hfl, ?_, ?_⟩
    · rw [← hun (atR q0 xt), hh2]
      have := unmaskR_of (q := q0) (g := reV (keepF q keep) 6) (β := atR q0 xt) (fun k => reV_id hid 6 (hfl k)) (i := 0) h1 (fun j x hx hf => by
        rw [Nat.zero_add]
        unfold atR
        rw [hx]
        simp [hf]) (fun j hj t ht => by
        rw [deadAt_ok hd j hj t ht]
        rfl)
      rw [← this]
    · rw [← hun (atR q0 xt)]
      simp only [hopC, Bool.and_eq_true] at hb ⊢
      exact ⟨unmask_all (fun k => refF_mono (fun x hx => decide_eq_true (by have := of_decide_eq_true hx; omega)) 6 (hfl k)) hb.1, hb.2⟩
section
variable {P : Program}
theorem hopR2_ok (hng : NoNG P) {hk : Hook3} (hhk : HookOk3 P hk) {lh : LoopHook} (hll : LoopLow lh) (hlo : LoopsOk P lh) {orc : Orc} {fid : FuncId} {nn : Nat} (h1 : oneLoopN P fid nn = true) {n q q0 : Nat} (keep : List Nat) {t : List Value} {h h2 hh : List AO} {lo : Option Nat} {cs : Cs}
    {ds : List Bool} {T : (Nat → Value) → List Value} (hun : ∀ β, unmask β 0 ds (T fun _ => .bool true) = T β) (chg : Nat → Bool) {β : Nat → Value} (hβ : FlR q0 β)
    (hr : (hopRunL P hk orc lh fid (theLoopN P fid nn) n q keep t h).map (fun r => (maskR q0 ds r.1, r.2)) = some ((T fun k => bif chg k then .bool true else .bool (okR q0 (β k))).map (reV (keepF q keep) 6), hh, lo, inter cs)) (hh2 : h2.map (reO (keepF q keep)) = hh)
    (hq : q0 ≤ q) (hl : q0 ≤ h2.length) (hd : deadAt ds (T fun _ => .bool true) = true) (hb : hopC (T fun _ => .bool true) h2 = true) (hc : ∀ c ∈ cs, c.1 = c.2) : ∃ β', FlR q0 β' ∧ HopQ P (theLoopN P fid nn) n q t h (T β') h2 (lo, []) := by
  obtain ⟨β', hf, ho, hb'⟩ := keepR hun chg hβ hr hh2 hq hl hd hb
  exact ⟨β', hf, hopL_ok hng hhk hll hlo h1 keep ho hb' hc⟩
theorem stopR2_ok (hng : NoNG P) {hk : Hook3} (hhk : HookOk3 P hk) {lh : LoopHook} (hll : LoopLow lh) (hlo : LoopsOk P lh) {orc : Orc} {fid : FuncId} {nn : Nat} (h1 : oneLoopN P fid nn = true) {n q q0 : Nat} (keep : List Nat) {t : List Value} {h h2 hh : List AO} {e : Exit} {lo : Option Nat} {cs : Cs}
    {ds : List Bool} {T : (Nat → Value) → List Value} (hun : ∀ β, unmask β 0 ds (T fun _ => .bool true) = T β) (chg : Nat → Bool) {β : Nat → Value} (hβ : FlR q0 β)
    (he : (stopRunL P hk orc lh fid (theLoopN P fid nn) n q keep t h).map (fun r => (r.1, r.2.map fun r => (maskR q0 ds r.1, r.2))) = some (e, some ((T fun k => bif chg k then .bool true else .bool (okR q0 (β k))).map (reV (keepF q keep) 6), hh, lo, inter cs))) (hh2 : h2.map (reO (keepF q keep)) = hh)
    (hq : q0 ≤ q) (hl : q0 ≤ h2.length) (hd : deadAt ds (T fun _ => .bool true) = true) (hb : hopC (T fun _ => .bool true) h2 = true) (hc : ∀ c ∈ cs, c.1 = c.2) : ∃ β', FlR q0 β' ∧ StopQ P (theLoopN P fid nn) n q t h e (T β') h2 (lo, []) := by
  cases hx : stopRunL P hk orc lh fid (theLoopN P fid nn) n q keep t h with
  | none => rw [hx] at he; cases he
  | some r =>
    obtain ⟨e1, o⟩ := r
    rw [hx] at he
    simp only [Option.map_some, Option.some.injEq, Prod.mk.injEq] at he
    obtain ⟨rfl, hr⟩ := he
    obtain ⟨β', hf, ho, hb'⟩ := keepR hun chg hβ hr hh2 hq hl hd hb
    subst ho
    exact ⟨β', hf, stopL_ok hng hhk hll hlo h1 keep hx hb' hc⟩
end
/-- A law that is handed a slice: its memory stands among the blocks that are told. -/
noncomputable def reckonQI (P : Program) (hk : Hook3) (orc : Orc) (lh : LoopHook) (L f : Nat) (h0 : List AO) (g : FuncId) (args : List Value) : Option (Value × List Int) := reckonPI P hk orc lh L f h0 g args
theorem reckonQ_ok {P : Program} (hng : NoNG P) {hk : Hook3} (hhk : HookOk3 P hk) {lh : LoopHook} (hll : LoopLow lh) (hlo : LoopsOk P lh) (orc : Orc) (L f : Nat) (h0 : List AO) {g : FuncId} {args : List Value} {v : Value} {cs : Cs} (hv : flat v = true) (h : reckonQI P hk orc lh L f h0 g args = some (v, inter cs))
    (he : ∀ c ∈ cs, c.1 = c.2) {w : World} {s : Ren} (H : HR w h0.length s h0 w) {args' : List Value} (ha : LR s args args') : Calls P g ⟨args'⟩ w fun e w' => e = .returned v ∧ Gr w w' := by
  unfold reckonQI reckonPI at h
  split at h
  · rename_i v' h' m hr
    split at h
    · rename_i hq
      simp only [Option.some.injEq, Prod.mk.injEq] at h
      obtain ⟨rfl, h2⟩ := h
      have h3 := inter_inj h2
      refine (callA_ok (exG_ok accQ_eq hng (aOp_ok P hng) (drawE_ok P) (drawE_low P) hhk hll hlo L f _) hr (wb := w) (k := h0.length) (s := s) ⟨quietB_ok hq, by rw [h3]; exact he⟩ ha H).mono ?_
      rintro e w' ⟨s', u, rfl, _, H, hvr⟩
      rw [hvr.eq_of_flat hv]
      exact ⟨rfl, H.grown.gr⟩
    · cases h
  · cases h
/-- The variables that are told, and behind them a slice's memory (live), or a place alone. -/
theorem HR.withSlice {h0 : List AO} {w : World} (hL : Laid h0 w) {b off tot : Nat} {T : TypeId} (hs : w.shape? b = some (T, tot)) {cs : List Value} (hfit : off + cs.length ≤ tot) (hfr : ∀ o, o < cs.length → w.frozen? ⟨b, off + o, none⟩ = false) (hc : ∀ (o : Nat) (v : Value), cs[o]? = some v → w.cell? ⟨b, off + o, none⟩ = some v ∧ flat v = true)
    (hsep : ∀ (i : Nat) (o : AO), h0[i]? = some o → o.live = true → b ≠ i) :
    HR w (h0.length + 1) (upd (placeG h0 w) h0.length ⟨b, off, tot, none⟩) (h0 ++ [⟨true, none, cs⟩]) w := by
  have H := HR.start hL
  have hsz := shape_cells hs
  have hne : ∀ i, i < h0.length → upd (placeG h0 w) h0.length ⟨b, off, tot, none⟩ i = placeG h0 w i := fun i hi => upd_other _ _ (by omega)
  have hle := Le.upd (s := placeG h0 w) (i := h0.length) ⟨b, off, tot, none⟩ (H.dom _ (Nat.le_refl _))
  have plg : ∀ i p, placeG h0 w i = some p → p.blk = i ∧ ∃ o, h0[i]? = some o ∧ o.live = true := by
    intro g p hp
    unfold placeG at hp
    split at hp
    · rename_i o T tot ho _
      split at hp
      · rename_i hl
        cases hp
        exact ⟨rfl, o, ho, hl⟩
      · cases hp
    · cases hp
  refine ⟨GrB.refl w _, by simp, fun i hi => ?_, fun i p hp => ?_, fun i o ho hl => ?_, fun i j x y p q hi hj hx hy hp hq e => ?_, fun g p hp hg => ?_⟩
  · rw [upd_other _ _ (by simp at hi; omega)]
    exact H.dom i (by simp at hi; omega)
  · by_cases ei : i = h0.length
    · subst ei
      rw [upd_same] at hp
      cases hp
      exact ⟨fun _ => ⟨hsz.1, fun f => f⟩, fun h => absurd h (by omega), hsz.1⟩
    · rw [upd_other _ _ ei] at hp
      obtain ⟨c1, c2, c3⟩ := H.plc i p hp
      exact ⟨fun _ => ⟨c3, fun f => f⟩, fun h => absurd (H.dom i (by omega)) (by rw [hp]; exact fun h => by cases h), c3⟩
  · by_cases ei : i = h0.length
    · subst ei
      rw [List.getElem?_append_right (by omega)] at ho
      simp at ho
      subst ho
      refine ⟨_, upd_same _ _ _, rfl, ObjAt.block rfl ⟨hfit, hsz.2, ⟨T, hs⟩, fun _ o h1 h2 h3 => ?_, fun o v hv => ?_⟩⟩
      · have h4 := h3 rfl
        simp only at h4 h1
        have := hfr (o - off) (by omega)
        rw [show off + (o - off) = o by omega] at this
        exact this
      · obtain ⟨g1, g2⟩ := hc o v hv
        exact ⟨v, g1, .same g2⟩
    · have hil : i < h0.length := by
        have := (List.getElem?_eq_some_iff.1 ho).1
        simp at this
        omega
      rw [List.getElem?_append_left hil] at ho
      obtain ⟨p, hp, he, hob⟩ := H.obj i o ho hl
      exact ⟨p, by rw [hne i hil]; exact hp, he, hob.mono hle⟩
  · have cas : ∀ (i : Nat) (x : AO) (p : Pl), (h0 ++ [(⟨true, none, cs⟩ : AO)])[i]? = some x → x.live = true → upd (placeG h0 w) h0.length ⟨b, off, tot, none⟩ i = some p → (i = h0.length ∧ p.blk = b) ∨ (i < h0.length ∧ p.blk = i ∧ b ≠ i) := by
      intro i x p hi hx hp
      by_cases ei : i = h0.length
      · subst ei
        rw [upd_same] at hp
        cases hp
        exact .inl ⟨rfl, rfl⟩
      · have hil : i < h0.length := by
          have := (List.getElem?_eq_some_iff.1 hi).1
          simp at this
          omega
        rw [hne i hil] at hp
        obtain ⟨g1, o, g2, g3⟩ := plg i p hp
        exact .inr ⟨hil, g1, hsep i o g2 g3⟩
    rcases cas i x p hi hx hp with ⟨a1, a2⟩ | ⟨a1, a2, a3⟩ <;> rcases cas j y q hj hy hq with ⟨b1, b2⟩ | ⟨b1, b2, b3⟩
    · omega
    · exact absurd (by omega : b = j) b3
    · exact absurd (by omega : b = i) a3
    · omega
  · by_cases ei : g = h0.length
    · subst ei
      rw [upd_same] at hp
      cases hp
      cases hg
    · rw [upd_other _ _ ei] at hp
      exact H.gl g p hp hg
theorem HR.withPlace {h0 : List AO} {w : World} (hL : Laid h0 w) {b off tot : Nat} (hb : b < w.heap.size) : HR w (h0.length + 1) (upd (placeG h0 w) h0.length ⟨b, off, tot, none⟩) (h0 ++ [dead]) w := by
  have H := HR.start hL
  have hne : ∀ i, i < h0.length → upd (placeG h0 w) h0.length ⟨b, off, tot, none⟩ i = placeG h0 w i := fun i hi => upd_other _ _ (by omega)
  have hle := Le.upd (s := placeG h0 w) (i := h0.length) ⟨b, off, tot, none⟩ (H.dom _ (Nat.le_refl _))
  have old : ∀ (i : Nat) (x : AO), (h0 ++ [dead])[i]? = some x → x.live = true → i < h0.length ∧ h0[i]? = some x := by
    intro i x hi hx
    by_cases ei : i < h0.length
    · rw [List.getElem?_append_left ei] at hi
      exact ⟨ei, hi⟩
    · have := (List.getElem?_eq_some_iff.1 hi).1
      simp at this
      obtain rfl : i = h0.length := by omega
      rw [List.getElem?_append_right (by omega)] at hi
      simp at hi
      subst hi
      cases hx
  refine ⟨GrB.refl w _, by simp, fun i hi => ?_, fun i p hp => ?_, fun i o ho hl => ?_, fun i j x y p q hi hj hx hy hp hq e => ?_, fun g p hp hg => ?_⟩
  · rw [upd_other _ _ (by simp at hi; omega)]
    exact H.dom i (by simp at hi; omega)
  · by_cases ei : i = h0.length
    · subst ei
      rw [upd_same] at hp
      cases hp
      exact ⟨fun _ => ⟨hb, fun f => f⟩, fun h => absurd h (by omega), hb⟩
    · rw [upd_other _ _ ei] at hp
      obtain ⟨c1, c2, c3⟩ := H.plc i p hp
      exact ⟨fun _ => ⟨c3, fun f => f⟩, fun h => absurd (H.dom i (by omega)) (by rw [hp]; exact fun h => by cases h), c3⟩
  · obtain ⟨hil, ho⟩ := old i o ho hl
    obtain ⟨p, hp, he, hob⟩ := H.obj i o ho hl
    exact ⟨p, by rw [hne i hil]; exact hp, he, hob.mono hle⟩
  · obtain ⟨a1, a2⟩ := old i x hi hx
    obtain ⟨b1, b2⟩ := old j y hj hy
    rw [hne i a1] at hp
    rw [hne j b1] at hq
    exact H.sep i j x y p q a2 b2 hx hy hp hq e
  · by_cases ei : g = h0.length
    · subst ei
      rw [upd_same] at hp
      cases hp
      cases hg
    · rw [upd_other _ _ ei] at hp
      exact H.gl g p hp hg
end Go.Proofs.Ytafegjmaldbbiaa.Ex
end
section
namespace Go.Proofs.Ytafegjmaldbbiaa.Ex
open Go Go.RowKit
set_option linter.unusedVariables false
def maskQ : List Bool → List Value → List Value
  | d :: ds, v :: vs => (bif d then .bool true else v) :: maskQ ds vs
  | _, vs => vs
theorem unmaskQ_of {β : Nat → Value} : ∀ {i : Nat} {ds : List Bool} {xs ts : List Value}, maskQ ds xs = ts → (∀ j x, xs[j]? = some x → β (i + j) = x) → xs = unmask β i ds ts
  | i, [], xs, ts, h, _ => by
    have e : maskQ [] xs = xs := by cases xs <;> rfl
    have e2 : unmask β i [] ts = ts := by cases ts <;> rfl
    rw [e2, ← h, e]
  | i, d :: ds, [], ts, h, _ => by
    cases ts with
    | nil => rfl
    | cons t ts => simp [maskQ] at h
  | i, d :: ds, x :: xs, [], h, _ => by simp [maskQ] at h
  | i, d :: ds, x :: xs, t :: ts, h, hb => by
    simp only [maskQ, List.cons.injEq] at h
    obtain ⟨h1, h2⟩ := h
    have ih := unmaskQ_of (β := β) (i := i + 1) h2 (fun j y hy => by rw [show i + 1 + j = i + (j + 1) by omega]; exact hb (j + 1) y (by simpa using hy))
    simp only [unmask, ← ih]
    congr 1
    cases d
    · exact h1
    · have h5 := hb 0 x rfl
      rw [Nat.add_zero] at h5
      exact h5.symm
def atQ (xs : List Value) (k : Nat) : Value := xs.getD k .nilFunc
theorem atQ_at {xs : List Value} {j : Nat} {x : Value} (h : xs[j]? = some x) : atQ xs j = x := by
  unfold atQ
  rw [List.getD_eq_getElem?_getD, h]
  rfl
section
variable {P : Program} {c : Code}
theorem Hop.trans {n N : Nat} {t t1 t2 : List Value} {h h1 h2 : List AO} {m1 m2 m3 : Mk} (a : Hop P c n t h t1 h1 m1) (b : Hop P c N t1 h1 t2 h2 m2) (hm1 : ∀ k, Bnd k m3 → Bnd k m1) (hm2 : ∀ k, Bnd k m3 → Bnd k m2) : Hop P c (n + N) t h t2 h2 m3 := by
  intro wb k hm s m act w H M Q hQ
  rw [Nat.add_assoc]
  exact a wb k (hm1 k hm) s m act w H (N + M) Q fun s' a' w' hle H' => b wb k (hm2 k hm) s' m a' w' H' M Q fun s'' a'' w'' hle' H'' => hQ s'' a'' w'' (hle.trans hle') H''
theorem Hop.zero (t : List Value) (h : List AO) (m : Mk) : Hop P c 0 t h t h m := by
  intro wb k hm s m a w H N Q hQ
  rw [Nat.zero_add]
  exact hQ s a w (Le.refl s) H
theorem Hop.stop' {n N : Nat} {t t1 t2 : List Value} {h h1 h2 : List AO} {e : Exit} {m1 m2 m3 : Mk} (a : Hop P c n t h t1 h1 m1) (b : Stop P c N t1 h1 e t2 h2 m2) (hm1 : ∀ k, Bnd k m3 → Bnd k m1) (hm2 : ∀ k, Bnd k m3 → Bnd k m2) : Stop P c (n + N) t h e t2 h2 m3 := by
  intro wb k hm s m act w H m'
  exact a wb k (hm1 k hm) s m act w H N _ fun s' a' w' hle H' => rounds_le hle N a' w' (b wb k (hm2 k hm) s' m a' w' H' m')
theorem hopM_ok (hng : NoNG P) {hk : Hook3} (hhk : HookOk3 P hk) {lh : LoopHook} (hll : LoopLow lh) (hlo : LoopsOk P lh) {orc : Orc} {fid : FuncId} {nn : Nat} (h1 : oneLoopN P fid nn = true) {n : Nat} {t : List Value} {h h2 : List AO} {lo : Option Nat} {cs : Cs}
    {ds : List Bool} {T : (Nat → Value) → List Value} (hun : ∀ β, unmask β 0 ds (T fun _ => .bool true) = T β)
    (hr : (iterB (bodyL P hk orc lh fid (theLoopN P fid nn)) n ⟨t, h, (none, [])⟩).map (fun x => (maskQ ds x.t, x.h, x.m.1, inter x.m.2)) = some (T fun _ => .bool true, h2, lo, inter cs)) (hc : ∀ c ∈ cs, c.1 = c.2) : ∃ β', Hop P (theLoopN P fid nn) n t h (T β') h2 (lo, []) := by
  cases hx : iterB (bodyL P hk orc lh fid (theLoopN P fid nn)) n ⟨t, h, (none, [])⟩ with
  | none => rw [hx] at hr; cases hr
  | some x =>
    obtain ⟨xt, xh, xm⟩ := x
    rw [hx] at hr
    simp only [Option.map_some, Option.some.injEq, Prod.mk.injEq] at hr
    obtain ⟨g1, g2, g3, g4⟩ := hr
    have g4 := inter_inj g4
    subst g2
    refine ⟨atQ xt, ?_⟩
    have e := unmaskQ_of (β := atQ xt) (i := 0) g1 (fun j x hx => by rw [Nat.zero_add]; exact atQ_at hx)
    rw [hun] at e
    rw [← e]
    intro wb k hm s m a w H N Q hQ
    exact iterB_ok (bodyL_ok hng hhk hll hlo orc fid _ (loopV_of hlo h1)) wb k (bodyL_low orc hll fid _ k) n ⟨t, h, (none, [])⟩ ⟨xt, xh, xm⟩ hx (by
      obtain ⟨x1, x2⟩ := xm
      simp only at g3 g4
      subst g3 g4
      exact ⟨hm.1, hc⟩) s a w ⟨H.t, H.d, H.h⟩ N Q fun s' a' w' hle H' => hQ s' a' w' hle ⟨H'.t, H'.d, H'.h⟩
theorem stopM_ok (hng : NoNG P) {hk : Hook3} (hhk : HookOk3 P hk) {lh : LoopHook} (hll : LoopLow lh) (hlo : LoopsOk P lh) {orc : Orc} {fid : FuncId} {nn : Nat} (h1 : oneLoopN P fid nn = true) {n : Nat} {t : List Value} {h h2 : List AO} {e : Exit} {lo : Option Nat} {cs : Cs}
    {ds : List Bool} {T : (Nat → Value) → List Value} (hun : ∀ β, unmask β 0 ds (T fun _ => .bool true) = T β)
    (hr : (loopN (bodyL P hk orc lh fid (theLoopN P fid nn)) n ⟨t, h, (none, [])⟩).map (fun r => (r.1, maskQ ds r.2.t, r.2.h, r.2.m.1, inter r.2.m.2)) = some (e, T fun _ => .bool true, h2, lo, inter cs)) (hc : ∀ c ∈ cs, c.1 = c.2) : ∃ β', Stop P (theLoopN P fid nn) n t h e (T β') h2 (lo, []) := by
  cases hx : loopN (bodyL P hk orc lh fid (theLoopN P fid nn)) n ⟨t, h, (none, [])⟩ with
  | none => rw [hx] at hr; cases hr
  | some x =>
    obtain ⟨e1, xt, xh, xm⟩ := x
    rw [hx] at hr
    simp only [Option.map_some, Option.some.injEq, Prod.mk.injEq] at hr
    obtain ⟨rfl, g1, g2, g3, g4⟩ := hr
    have g4 := inter_inj g4
    subst g2
    refine ⟨atQ xt, ?_⟩
    have e := unmaskQ_of (β := atQ xt) (i := 0) g1 (fun j x hx => by rw [Nat.zero_add]; exact atQ_at hx)
    rw [hun] at e
    rw [← e]
    intro wb k hm s m a w H m'
    have st := stopL_any (bodyL_ok hng hhk hll hlo orc fid _ (loopV_of hlo h1)) (bodyL_low orc hll fid _) hx wb k (by
      obtain ⟨x1, x2⟩ := xm
      simp only at g3 g4
      subst g3 g4
      exact ⟨hm.1, hc⟩) s m a w H m'
    exact st
end
end Go.Proofs.Ytafegjmaldbbiaa.Ex
end
section
namespace Go.Proofs.Ytafegjmaldbbiaa.Ex
open Go Go.RowKit
set_option linter.unusedVariables false
section
variable {P : Program}
theorem hopR0_ok (hng : NoNG P) {hk : Hook3} (hhk : HookOk3 P hk) {lh : LoopHook} (hll : LoopLow lh) (hlo : LoopsOk P lh) {orc : Orc} {fid : FuncId} {nn : Nat} (h1 : oneLoopN P fid nn = true) {n q q0 : Nat} {t : List Value} {h h2 : List AO} {lo : Option Nat} {cs : Cs}
    {ds : List Bool} {T : (Nat → Value) → List Value} (hun : ∀ β, unmask β 0 ds (T fun _ => .bool true) = T β) (chg : Nat → Bool) {β : Nat → Value} (hβ : FlR q0 β)
    (hr : (hopRunL P hk orc lh fid (theLoopN P fid nn) n q [] t h).map (fun r => (maskR q0 ds r.1, r.2)) = some (T fun k => bif chg k then .bool true else .bool (okR q0 (β k)), h2, lo, inter cs))
    (hq : h2.length = q) (hq0 : q0 ≤ q) (hd : deadAt ds (T fun _ => .bool true) = true) (hdb : deadB h2 = true) (hb : hopC (T fun _ => .bool true) h2 = true) (hc : ∀ c ∈ cs, c.1 = c.2) : ∃ β', FlR q0 β' ∧ HopQ P (theLoopN P fid nn) n q t h (T β') h2 (lo, []) := by
  refine hopR2_ok hng hhk hll hlo (orc := orc) h1 [] hun (fun _ => true) (β := fun _ => .bool true) (fun _ => rfl) ?_ (reH_id hq hdb hb) hq0 (by omega) hd hb hc
  have e : (T fun k => bif chg k then .bool true else .bool (okR q0 (β k))) = T fun _ => .bool true := congrArg T (funext fun k => by cases chg k <;> simp [hβ k])
  rw [hr, e]
  simp only [cond_true, (hopC_id hq (.inr trivial) hb).1]
theorem stopR0_ok (hng : NoNG P) {hk : Hook3} (hhk : HookOk3 P hk) {lh : LoopHook} (hll : LoopLow lh) (hlo : LoopsOk P lh) {orc : Orc} {fid : FuncId} {nn : Nat} (h1 : oneLoopN P fid nn = true) {n q q0 : Nat} {t : List Value} {h h2 : List AO} {e : Exit} {lo : Option Nat} {cs : Cs}
    {ds : List Bool} {T : (Nat → Value) → List Value} (hun : ∀ β, unmask β 0 ds (T fun _ => .bool true) = T β) (chg : Nat → Bool) {β : Nat → Value} (hβ : FlR q0 β)
    (hr : (stopRunL P hk orc lh fid (theLoopN P fid nn) n q [] t h).map (fun r => (r.1, r.2.map fun r => (maskR q0 ds r.1, r.2))) = some (e, some (T fun k => bif chg k then .bool true else .bool (okR q0 (β k)), h2, lo, inter cs)))
    (hq : h2.length = q) (hq0 : q0 ≤ q) (hd : deadAt ds (T fun _ => .bool true) = true) (hdb : deadB h2 = true) (hb : hopC (T fun _ => .bool true) h2 = true) (hc : ∀ c ∈ cs, c.1 = c.2) : ∃ β', FlR q0 β' ∧ StopQ P (theLoopN P fid nn) n q t h e (T β') h2 (lo, []) := by
  refine stopR2_ok hng hhk hll hlo (orc := orc) h1 [] hun (fun _ => true) (β := fun _ => .bool true) (fun _ => rfl) ?_ (reH_id hq hdb hb) hq0 (by omega) hd hb hc
  have e1 : (T fun k => bif chg k then .bool true else .bool (okR q0 (β k))) = T fun _ => .bool true := congrArg T (funext fun k => by cases chg k <;> simp [hβ k])
  rw [hr, e1]
  simp only [cond_true, (hopC_id hq (.inr trivial) hb).1]
theorem HopQ.shrink {c : Code} {n q q' : Nat} {t t1 : List Value} {h h1 : List AO} {m : Mk} (a : HopQ P c n q' t h t1 h1 m) (hq : q ≤ q') : HopQ P c n q t h t1 h1 m :=
  fun wb k hm hkq s m0 act w H N Q hQ => a wb k hm (by omega) s m0 act w H N Q fun s' a' w' hle H' => hQ s' a' w' (fun i p hi => hle i p (by omega)) H'
theorem StopQ.shrink {c : Code} {n q q' : Nat} {t t1 : List Value} {h h1 : List AO} {e : Exit} {m : Mk} (a : StopQ P c n q' t h e t1 h1 m) (hq : q ≤ q') : StopQ P c n q t h e t1 h1 m :=
  fun wb k hm hkq s m0 act w H m' => rounds_mono (fun e' a'' w'' hp => ⟨hp.1, let ⟨s'', h3, h4⟩ := hp.2; ⟨s'', fun i p hi => h3 i p (by omega), h4⟩⟩) n act w (a wb k hm (by omega) s m0 act w H m')
/-- Dead blocks at the end of what is told. -/
theorem HopQ.padded {c : Code} {n q : Nat} {t t1 : List Value} {h h1 : List AO} {m : Mk} (a : HopQ P c n q t h t1 h1 m) (r : Nat) : HopQ P c n q t h t1 (h1 ++ List.replicate r dead) m :=
  fun wb k hm hkq s m0 act w H N Q hQ => a wb k hm hkq s m0 act w H N Q fun s' a' w' hle H' => hQ s' a' w' hle ⟨H'.t, H'.d, H'.h.pad r⟩
theorem okR_mono {a b : Nat} (h : a ≤ b) {v : Value} (hv : okR a v = true) : okR b v = true := refF_mono (fun x hx => decide_eq_true (by have := of_decide_eq_true hx; omega)) 6 hv
theorem FlR.mono {a b : Nat} {β : Nat → Value} (h : a ≤ b) (hf : FlR a β) : FlR b β := fun k => okR_mono h (hf k)
end
end Go.Proofs.Ytafegjmaldbbiaa.Ex
end
section
namespace Go.Proofs.Ytafegjmaldbbiaa.Ex
open Go Go.RowKit
theorem orHook2_ok {P : Program} {a b : Hook} (ha : HookOk2 P a) (hb : HookOk2 P b) : HookOk2 P (orHook a b) := by
  intro f args h v cs hv
  unfold orHook at hv
  split at hv
  · rename_i r hr
    cases hv
    exact ha f args h v cs hr
  · exact hb f args h v cs hv
/-- Some blocks of a memory, as a memory of their own. -/
theorem HR.pick {wb : Wb} {k : Nat} {s : Ren} {h : List AO} {w : World} (H : HR wb k s h w) (h1 : List AO) (f : Nat → Nat)
    (hf : ∀ (i : Nat) (o : AO), h1[i]? = some o → o.live = true → ∃ o', h[f i]? = some o' ∧ o'.live = true ∧ o'.es = o.es ∧ o'.cs = o.cs ∧ o.cs.all flat = true ∧ isM o = false)
    (hinj : ∀ (i j : Nat) (a b : AO), h1[i]? = some a → h1[j]? = some b → a.live = true → b.live = true → f i = f j → i = j)
    (hg : ∀ (i : Nat) (o : AO), h1[i]? = some o → o.live = true → o.es = some GM → f i = i) :
    HR w h1.length (fun i => match h1[i]? with | some o => if o.live then s (f i) else none | none => none) h1 w := by
  have inv : ∀ i p, (match h1[i]? with | some o => if o.live then s (f i) else none | none => none) = some p → ∃ o, h1[i]? = some o ∧ o.live = true ∧ s (f i) = some p := by
    intro i p hp
    cases ho : h1[i]? with
    | none => rw [ho] at hp; cases hp
    | some o =>
      rw [ho] at hp
      simp only at hp
      split at hp
      · rename_i hl; exact ⟨o, rfl, hl, hp⟩
      · cases hp
  refine ⟨GrB.refl w _, Nat.le_refl _, fun i hi => by rw [List.getElem?_eq_none hi], fun i p hp => ?_, fun i o ho hl => ?_, fun i j a b p q hi hj ha hb hp hq e => ?_, fun g p hp hes => ?_⟩
  · obtain ⟨o, ho, hl, hs⟩ := inv i p hp
    have := (H.plc _ p hs).2.2
    have hi := (List.getElem?_eq_some_iff.1 ho).1
    exact ⟨fun _ => ⟨this, fun f => f⟩, fun h => absurd h (by omega), this⟩
  · obtain ⟨o', h1', h2, h3, h4, h5, h6⟩ := hf i o ho hl
    obtain ⟨p, hp, he, hb⟩ := H.obj _ o' h1' h2
    have hm : isM o' = false := by unfold isM at h6 ⊢; rw [h3]; exact h6
    have B := hb.2 hm
    refine ⟨p, by rw [ho]; simp only [hl, if_true]; exact hp, by rw [he, h3], ObjAt.block h6 ?_⟩
    rw [h4] at B
    exact ⟨B.fit, B.all, B.shp, B.free, fun x v hv => by
      obtain ⟨v', g1, g2⟩ := B.rel x v hv
      have hfl := all_get h5 hv
      exact ⟨v', g1, by rw [g2.eq_of_flat hfl]; exact .same hfl⟩⟩
  · obtain ⟨a', i1, i2, _, _, _, _⟩ := hf i a hi ha
    obtain ⟨b', j1, j2, _, _, _, _⟩ := hf j b hj hb
    obtain ⟨_, _, _, hs1⟩ := inv i p hp
    obtain ⟨_, _, _, hs2⟩ := inv j q hq
    exact hinj i j a b hi hj ha hb (H.sep _ _ a' b' p q i1 j1 i2 j2 hs1 hs2 e)
  · obtain ⟨o, ho, hl, hs⟩ := inv g p hp
    obtain ⟨o', h1', h2, h3, _, _, _⟩ := hf g o ho hl
    obtain ⟨p', hp', he, _⟩ := H.obj _ o' h1' h2
    rw [hs] at hp'
    cases hp'
    have e := hg g o ho hl (by rw [← h3, ← he, hes])
    rw [e] at hs
    exact H.gl g p hs hes
/-- A call: flat arguments ahead, and a slice of some cells behind; what it comes to. -/
structure SlCall where
  pre : List Value
  cs : List Value
  len : Nat
  v : Value
def slHeap (h0 : List AO) (e : SlCall) : List AO := h0 ++ [⟨true, none, e.cs⟩]
def slArgs (h0 : List AO) (e : SlCall) : List Value := e.pre ++ [.slice (some ⟨h0.length, 0, none⟩) e.len e.len]
def SlOk (P : Program) (h0 : List AO) (g : FuncId) (e : SlCall) : Prop :=
  ∀ (w : World) (s : Ren) (args' : List Value), HR w (slHeap h0 e).length s (slHeap h0 e) w → LR s (slArgs h0 e) args' → Calls P g ⟨args'⟩ w fun x w' => x = .returned e.v ∧ Gr w w'
noncomputable def reckonSl (P : Program) (hk : Hook) (L f : Nat) (h0 : List AO) (g : FuncId) (e : SlCall) : Option (Value × Cs) :=
  match callA P ⟨ex P (aOp P) (drawE P) (liftH hk) noOrc accQ L f, liftH hk, fun _ _ => none, accQ⟩ g (slArgs h0 e) (slHeap h0 e) with
  | some (v, _, m) => if quietB (slHeap h0 e).length m.1 then some (v, m.2) else none
  | none => none
theorem reckonSl_ok {P : Program} (hng : NoNG P) {hk : Hook} (hhk : HookOk2 P hk) (L f : Nat) (h0 : List AO) {g : FuncId} {e : SlCall} {cs : Cs} (hv : flat e.v = true) (h : reckonSl P hk L f h0 g e = some (e.v, cs)) (hc : cs.map (·.1) = cs.map (·.2)) : SlOk P h0 g e := by
  intro w s args' H ha
  unfold reckonSl at h
  split at h
  · rename_i v h' m hr
    split at h
    · rename_i hq
      simp only [Option.some.injEq, Prod.mk.injEq] at h
      obtain ⟨rfl, rfl⟩ := h
      refine (callA_ok (ex_ok accQ_eq hng (aOp_ok P hng) (drawE_ok P) (drawE_low P) (lift_ok hhk) L f _) hr ⟨quietB_ok hq, map_same hc⟩ ha H).mono ?_
      rintro x w' ⟨s', v', rfl, _, H', hvr⟩
      rw [hvr.eq_of_flat hv]
      exact ⟨rfl, H'.grown.gr⟩
    · cases h
  · cases h
/-- Does a call hand in that? -/
def slHit (h : List AO) (e : SlCall) (args : List Value) : Option Nat :=
  match args.drop e.pre.length with
  | [.slice (some a) l c] =>
    if eqML (args.take e.pre.length) e.pre && Nat.beq a.off 0 && a.spot.isNone && Nat.beq l e.len && Nat.beq c e.len then
      match h[a.block]? with
      | some o => if o.live && o.es.isNone && eqL o.cs e.cs then some a.block else none
      | none => none
    else none
  | _ => none
def slFind (h : List AO) : List SlCall → List Value → Option SlCall
  | [], _ => none
  | e :: r, args => if (slHit h e args).isSome then some e else slFind h r args
def slHook (h0 : List AO) (g : FuncId) (t : List SlCall) : Hook := fun f args h =>
  if Nat.beq f g then
    match slFind h t args with
    | some e => if hasG h0 h then some (e.v, []) else none
    | none => none
  else none
theorem slFind_spec {h : List AO} : ∀ {t : List SlCall} {args : List Value} {e : SlCall}, slFind h t args = some e → e ∈ t ∧ ∃ b, slHit h e args = some b
  | [], _, _, hh => by cases hh
  | q :: r, args, e, hh => by
    simp only [slFind] at hh
    split at hh
    · rename_i hi
      cases hh
      exact ⟨by simp, Option.isSome_iff_exists.1 hi⟩
    · obtain ⟨h1, h2⟩ := slFind_spec hh
      exact ⟨List.mem_cons_of_mem _ h1, h2⟩
theorem slHook_ok {P : Program} {h0 : List AO} (hf : h0.all (fun o => !o.live || (match o.es with | some e => Nat.beq e GM | none => false) && o.cs.all flat) = true) {g : FuncId} {t : List SlCall}
    (hpre : t.all (fun e => e.pre.all flat && e.cs.all flat) = true) (ht : ∀ e ∈ t, SlOk P h0 g e) : HookOk2 P (slHook h0 g t) := by
  intro f args h v cs hv _ wb k s w args' H ha
  unfold slHook at hv
  split at hv
  · rename_i hc
    obtain rfl := Nat.eq_of_beq_eq_true hc
    split at hv
    · rename_i e he
      split at hv
      · rename_i hg
        cases hv
        obtain ⟨hmem, b, hb⟩ := slFind_spec he
        have hfl := List.all_eq_true.1 hpre e hmem
        simp only [Bool.and_eq_true] at hfl
        unfold slHit at hb
        split at hb
        · rename_i a l c hd
          split at hb
          · rename_i hq
            simp only [Bool.and_eq_true] at hq
            obtain ⟨⟨⟨⟨q1, q2⟩, q3⟩, q4⟩, q5⟩ := hq
            split at hb
            · rename_i o ho
              split at hb
              · rename_i hlo
                simp only [Bool.and_eq_true] at hlo
                obtain ⟨⟨l1, l2⟩, l3⟩ := hlo
                cases hb
                have hocs := eqL_ok l3
                have hoes : o.es = none := Option.isNone_iff_eq_none.1 l2
                have hargs : args = e.pre ++ [.slice (some ⟨a.block, 0, none⟩) e.len e.len] := by
                  have h1 := List.take_append_drop e.pre.length args
                  rw [hd, eqML_ok q1] at h1
                  obtain ⟨ab, ao, asp⟩ := a
                  obtain rfl : ao = 0 := Nat.eq_of_beq_eq_true q2
                  obtain rfl : asp = none := Option.isNone_iff_eq_none.1 q3
                  obtain rfl := Nat.eq_of_beq_eq_true q4
                  obtain rfl := Nat.eq_of_beq_eq_true q5
                  exact h1.symm
                obtain ⟨ab, ao, asp⟩ := a
                simp only at ho hargs
                obtain ⟨pb, hpb, hpe, _⟩ := H.obj ab o ho l1
                have glo : ∀ (i : Nat) (q : AO), h0[i]? = some q → q.live = true → q.es = some GM ∧ q.cs.all flat = true := by
                  intro i q hq hl
                  have h1 := List.all_eq_true.1 hf q (List.mem_of_getElem? hq)
                  simp only [hl, Bool.not_true, Bool.false_or, Bool.and_eq_true] at h1
                  refine ⟨?_, h1.2⟩
                  cases hes : q.es with
                  | none => rw [hes] at h1; cases h1.1
                  | some z => rw [hes] at h1; rw [Nat.eq_of_beq_eq_true h1.1]
                have cases1 : ∀ (i : Nat) (q : AO), (slHeap h0 e)[i]? = some q → (i < h0.length ∧ h0[i]? = some q) ∨ (i = h0.length ∧ q = ⟨true, none, e.cs⟩) := by
                  intro i q hq
                  unfold slHeap at hq
                  by_cases hi : i < h0.length
                  · rw [List.getElem?_append_left hi] at hq; exact .inl ⟨hi, hq⟩
                  · have h2 := (List.getElem?_eq_some_iff.1 hq).1
                    simp only [List.length_append, List.length_singleton] at h2
                    obtain rfl : i = h0.length := by omega
                    rw [List.getElem?_append_right (by omega)] at hq
                    simp at hq
                    exact .inr ⟨rfl, hq.symm⟩
                have HP := H.pick (slHeap h0 e) (fun i => if i < h0.length then i else ab)
                  (fun i q hq hl => by
                    rcases cases1 i q hq with ⟨hi, h2⟩ | ⟨rfl, rfl⟩
                    · obtain ⟨p, p1, p2, p3, p4⟩ := hasG_at hg i q h2 hl
                      obtain ⟨g1, g2⟩ := glo i q h2 hl
                      exact ⟨p, by simp only [hi, if_true]; exact p1, p2, by rw [p3, g1], p4, g2, by unfold isM; rw [g1]; rfl⟩
                    · exact ⟨o, by simp only [Nat.lt_irrefl, if_false]; exact ho, l1, hoes, hocs, hfl.2, rfl⟩)
                  (fun i j x y hi hj hx hy hij => by
                    rcases cases1 i x hi with ⟨i1, i2⟩ | ⟨rfl, rfl⟩
                    · rcases cases1 j y hj with ⟨j1, j2⟩ | ⟨rfl, rfl⟩
                      · simpa [i1, j1] using hij
                      · exfalso
                        obtain ⟨p, p1, _, p3, _⟩ := hasG_at hg i x i2 hx
                        simp only [i1, if_true, Nat.lt_irrefl, if_false] at hij
                        rw [hij, ho] at p1
                        cases p1
                        rw [hoes] at p3
                        cases p3
                    · rcases cases1 j y hj with ⟨j1, j2⟩ | ⟨rfl, rfl⟩
                      · exfalso
                        obtain ⟨p, p1, _, p3, _⟩ := hasG_at hg j y j2 hy
                        simp only [j1, if_true, Nat.lt_irrefl, if_false] at hij
                        rw [← hij, ho] at p1
                        cases p1
                        rw [hoes] at p3
                        cases p3
                      · rfl)
                  (fun i q hq hl hes => by
                    rcases cases1 i q hq with ⟨hi, h2⟩ | ⟨rfl, rfl⟩
                    · simp only [hi, if_true]
                    · cases hes)
                refine ht e hmem w _ args' HP ?_
                rw [hargs] at ha
                refine ⟨by unfold slArgs; rw [← ha.1]; simp, fun i x y hx hy => ?_⟩
                unfold slArgs at hx
                by_cases hi : i < e.pre.length
                · rw [List.getElem?_append_left hi] at hx
                  have h3 := ha.2 i x y (by rw [List.getElem?_append_left hi]; exact hx) hy
                  have hxf := all_get hfl.1 hx
                  rw [h3.eq_of_flat hxf]
                  exact .same hxf
                · have h2 := (List.getElem?_eq_some_iff.1 hx).1
                  simp only [List.length_append, List.length_singleton] at h2
                  obtain rfl : i = e.pre.length := by omega
                  rw [List.getElem?_append_right (by omega)] at hx
                  simp at hx
                  subst hx
                  have h3 := ha.2 e.pre.length (.slice (some ⟨ab, 0, none⟩) e.len e.len) y (by rw [List.getElem?_append_right (by omega)]; simp) hy
                  obtain ⟨p, c', _, hp, hcap, rfl⟩ := h3.slice_inv
                  refine VR.slice (a := ⟨h0.length, 0, none⟩) rfl ?_ hcap
                  show (match (slHeap h0 e)[h0.length]? with | some o => if o.live then s (if h0.length < h0.length then h0.length else ab) else none | none => none) = some p
                  have e1 : (slHeap h0 e)[h0.length]? = some ⟨true, none, e.cs⟩ := by unfold slHeap; rw [List.getElem?_append_right (by omega)]; simp
                  rw [e1]
                  simp only [if_true, Nat.lt_irrefl, if_false]
                  exact hp
              · cases hb
            · cases hb
          · cases hb
        · cases hb
      · cases hv
    · cases hv
  · cases hv
end Go.Proofs.Ytafegjmaldbbiaa.Ex
end
section
namespace Go.Proofs.Ytafegjmaldbbiaa.Ex
open Go Go.RowKit
set_option linter.unusedVariables false
set_option linter.unusedSectionVars false
noncomputable def wu (x : Int) : Int := IntKind.u64.wrap x
noncomputable def wi (x : Int) : Int := IntKind.i64.wrap x
theorem wr64' (x : Int) : wu x = x % 18446744073709551616 := by simp [wu, IntKind.wrap, IntKind.signed, IntKind.bits]
theorem wu_id {x : Int} (h1 : 0 ≤ x) (h2 : x < 18446744073709551616) : wu x = x := by rw [wr64']; omega
theorem wi_id {x : Int} (h1 : -9223372036854775808 ≤ x) (h2 : x < 9223372036854775808) : wi x = x := by
  unfold wi IntKind.wrap
  have e : (2 : Int) ^ IntKind.i64.bits = 18446744073709551616 := rfl
  have e2 : (2 : Int) ^ (IntKind.i64.bits - 1) = 9223372036854775808 := rfl
  simp only [e, e2]
  split
  · rename_i h
    simp at h
    omega
  · rename_i h
    simp [IntKind.signed] at h
    omega
theorem b1 {p : Prop} [Decidable p] (h : p) : b2i (decide p) = 1 := by rw [decide_eq_true h]; rfl
theorem b0 {p : Prop} [Decidable p] (h : ¬p) : b2i (decide p) = 0 := by rw [decide_eq_false h]; rfl
theorem bt {x : Bool} (h : x = true) : b2i x = 1 := by rw [h]; rfl
theorem bf {x : Bool} (h : x = false) : b2i x = 0 := by rw [h]; rfl
def AE (cs : Cs) : Prop := ∀ c ∈ cs, c.1 = c.2
theorem AE.nil : AE [] := fun _ h => by cases h
theorem AE.cons {a b : Int} {l : Cs} (h : a = b) (hl : AE l) : AE ((a, b) :: l) := fun c hc => by
  rcases List.mem_cons.1 hc with rfl | hc
  · exact h
  · exact hl c hc
theorem AE.consP {c : Int × Int} {l : Cs} (h : c.1 = c.2) (hl : AE l) : AE (c :: l) := fun d hd => by
  rcases List.mem_cons.1 hd with rfl | hd
  · exact h
  · exact hl d hd
theorem AE.app {l m : Cs} (h : AE l) (hm : AE m) : AE (l ++ m) := fun c hc => by
  rcases List.mem_append.1 hc with hc | hc
  · exact h c hc
  · exact hm c hc
def eqs : List Int → Bool
  | a :: b :: l => a == b && eqs l
  | _ => true
theorem eqs_ok : ∀ {cs : Cs}, eqs (inter cs) = true → AE cs
  | [], _ => AE.nil
  | (a, b) :: l, h => by
    simp only [inter, eqs, Bool.and_eq_true, beq_iff_eq] at h
    exact AE.cons h.1 (eqs_ok h.2)
/-- A run without its pairs written down. -/
theorem closedP {P : Program} {hk : Hook3} {orc : Orc} {lh : LoopHook} {L f : Nat} {h0 : List AO} {g : FuncId} {args : List Value} {v : Value} (h : (reckonPI P hk orc lh L f h0 g args).map (fun r => (r.1, eqs r.2)) = some (v, true)) : ∃ cs, AE cs ∧ reckonPI P hk orc lh L f h0 g args = some (v, inter cs) := by
  unfold reckonPI at h ⊢
  split at h
  · rename_i v' h' m hr
    split at h
    · rename_i hq
      simp only [Option.map_some, Option.some.injEq, Prod.mk.injEq] at h
      refine ⟨m.2, eqs_ok h.2, ?_⟩
      rw [if_pos hq, h.1]
    · cases h
  · cases h
/-- That a told value is what is there. -/
theorem same_ok {a b : Option Out} (h : a = b) : (b2i (sameC a b), (1 : Int)).1 = (b2i (sameC a b), (1 : Int)).2 := bt (sameC_of h)

/-- A contract whose arguments and whose answer stand still: that they are flat goes into the pairs. -/
def liftP (hk : FuncId → List Value → List AO → Option (Value × Cs)) : Hook3 := fun f args h =>
  match hk f args h with
  | some (v, cs) => some (v, [], (b2i (args.all flat && flat v), 1) :: cs)
  | none => none
theorem liftP_ok {P : Program} {hk : FuncId → List Value → List AO → Option (Value × Cs)} (hh : HookOk P hk) : HookOk3 P (liftP hk) := by
  intro f args h v new cs hv hc wb k s w args' hb H ha
  unfold liftP at hv
  split at hv
  · rename_i u cs0 hu
    cases hv
    have hf := b2i_inj (b := true) (hc _ (List.mem_cons_self ..))
    simp only [Bool.and_eq_true] at hf
    obtain rfl := ha.eq_of_flat hf.1
    refine (hh f args' h _ _ hu (fun c hc' => hc c (List.mem_cons_of_mem _ hc')) wb k s w H).mono ?_
    rintro e w' ⟨rfl, hg⟩
    exact ⟨s, _, rfl, Le.refl s, H.grow hg, .same hf.2⟩
  · cases hv
/-- The same, of any arguments. -/
def liftQ (hk : FuncId → List Value → List AO → Option (Value × Cs)) : Hook3 := fun f args h =>
  match hk f args h with
  | some (v, cs) => some (v, [], (b2i (flat v), 1) :: cs)
  | none => none
theorem liftQ_ok {P : Program} {hk : FuncId → List Value → List AO → Option (Value × Cs)} (hh : HookOk2 P hk) : HookOk3 P (liftQ hk) := by
  intro f args h v new cs hv hc wb k s w args' hb H ha
  unfold liftQ at hv
  split at hv
  · rename_i u cs0 hu
    cases hv
    have hf := b2i_inj (b := true) (hc _ (List.mem_cons_self ..))
    refine (hh f args h _ _ hu (fun c hc' => hc c (List.mem_cons_of_mem _ hc')) wb k s w args' H ha).mono ?_
    rintro e w' ⟨rfl, hg⟩
    exact ⟨s, _, rfl, Le.refl s, H.grow hg, .same hf⟩
  · cases hv
def or3 (a b : Hook3) : Hook3 := fun f args h =>
  match a f args h with
  | some r => some r
  | none => b f args h
theorem or3_ok {P : Program} {a b : Hook3} (ha : HookOk3 P a) (hb : HookOk3 P b) : HookOk3 P (or3 a b) := by
  intro f args h v new cs hv
  unfold or3 at hv
  split at hv
  · rename_i r hr
    cases hv
    exact ha f args h v new cs hr
  · exact hb f args h v new cs hv

/-- A contract, guarded, of one function: its number is asked first. -/
def liftG (g : FuncId) (hk : Hook) : Hook3 := fun f args h => if Nat.beq f g then liftH (guardH hk) f args h else none
theorem liftG_ok {P : Program} {g : FuncId} {hk : Hook} (hh : HookOk P hk) : HookOk3 P (liftG g hk) := by
  intro f args h v new cs hv
  unfold liftG at hv
  split at hv
  · exact lift_ok (guard_ok hh) f args h v new cs hv
  · cases hv
/-! Heaps whose blocks hold flat values alone. -/
def flatH (h : List AO) : Bool := h.all fun o => o.cs.all flat
theorem reO_flat {f : Nat → Nat} {o : AO} (h : o.cs.all flat = true) : reO f o = o := by
  obtain ⟨l, e, c⟩ := o
  show AO.mk l e (c.map (reV f 6)) = _
  rw [map_id_mem fun v hv => reV_flat 6 (List.all_eq_true.1 h v hv)]
theorem reH_flat {f : Nat → Nat} : ∀ {h : List AO}, flatH h = true → h.map (reO f) = h
  | [], _ => rfl
  | o :: l, h => by
    simp only [flatH, List.all_cons, Bool.and_eq_true] at h
    rw [List.map_cons, reO_flat h.1, reH_flat (by unfold flatH; exact h.2)]
theorem refH_flat {ok : Nat → Bool} {h : List AO} (hf : flatH h = true) : h.all (refO ok) = true := by
  refine List.all_eq_true.2 fun o ho => ?_
  have h1 := List.all_eq_true.1 hf o ho
  unfold refO
  rw [Bool.or_eq_true]
  exact .inr (List.all_eq_true.2 fun v hv => refF_flat 4 (List.all_eq_true.1 h1 v hv))
/-- Of each temporary: 0: it is told; 1: it is not, and leads to the first blocks alone; 2: it is not, and is flat (told beside). -/
def deadZ (z : Nat) : Bool := !(Nat.beq z 0)
def maskZ (q : Nat) : List Nat → List Value → List Value
  | d :: ds, v :: vs => (bif Nat.beq d 0 then v else bif Nat.beq d 1 then .bool (okR q v) else .bool true) :: maskZ q ds vs
  | _, vs => vs
def pickZ : List Nat → List Value → List Value
  | d :: ds, v :: vs => bif Nat.ble 2 d then v :: pickZ ds vs else pickZ ds vs
  | _, _ => []
theorem maskZ_R {q : Nat} : ∀ {zs : List Nat} {xs : List Value}, (pickZ zs xs).all flat = true → maskR q (zs.map deadZ) xs = maskZ q zs xs
  | [], xs, _ => by cases xs <;> rfl
  | d :: ds, [], _ => rfl
  | d :: ds, v :: vs, h => by
    match d with
    | 0 =>
      have := maskZ_R (q := q) (zs := ds) (xs := vs) h
      simp only [List.map_cons, maskR, maskZ, this]
      rfl
    | 1 =>
      have := maskZ_R (q := q) (zs := ds) (xs := vs) h
      simp only [List.map_cons, maskR, maskZ, this]
      rfl
    | n + 2 =>
      have h' : (v :: pickZ ds vs).all flat = true := h
      simp only [List.all_cons, Bool.and_eq_true] at h'
      have := maskZ_R (q := q) (zs := ds) (xs := vs) h'.2
      simp only [List.map_cons, maskR, maskZ, this]
      have e : okR q v = true := refF_flat 4 h'.1
      show (Value.bool (okR q v)) :: _ = (Value.bool true) :: _
      rw [e]
section
variable {P : Program}
theorem hopC_flat {t : List Value} {h2 : List AO} (ht : t.all (refF (fun x => decide (x < h2.length)) 6) = true) (hfl : flatH h2 = true) : hopC t h2 = true := by
  unfold hopC
  rw [ht, refH_flat hfl]
  rfl
theorem hopF_ok (hng : NoNG P) {hk : Hook3} (hhk : HookOk3 P hk) {lh : LoopHook} (hll : LoopLow lh) (hlo : LoopsOk P lh) {orc : Orc} {fid : FuncId} {nn : Nat} (h1 : oneLoopN P fid nn = true) {n q q0 : Nat} (keep : List Nat) {t vs : List Value} {h h2 : List AO} {lo : Option Nat} {cs : Cs}
    {zs : List Nat} {T : (Nat → Value) → List Value} (hun : ∀ β, unmask β 0 (zs.map deadZ) (T fun _ => .bool true) = T β) (chg : Nat → Bool) {β : Nat → Value} (hβ : FlR q0 β)
    (hr : (hopRunL P hk orc lh fid (theLoopN P fid nn) n q keep t h).map (fun r => (maskZ q0 zs r.1, pickZ zs r.1, r.2)) = some ((T fun k => bif chg k then .bool true else .bool (okR q0 (β k))).map (reV (keepF q keep) 6), vs, h2, lo, inter cs))
    (hvs : vs.all flat = true) (hfl : flatH h2 = true) (hq : q0 ≤ q) (hl : q0 ≤ h2.length) (hd : deadAt (zs.map deadZ) (T fun _ => .bool true) = true)
    (ht : (T fun _ => .bool true).all (refF (fun x => decide (x < h2.length)) 6) = true) (hc : ∀ c ∈ cs, c.1 = c.2) : ∃ β', FlR q0 β' ∧ HopQ P (theLoopN P fid nn) n q t h (T β') h2 (lo, []) := by
  refine hopR2_ok hng hhk hll hlo (orc := orc) h1 keep hun chg hβ (hh := h2) ?_ (reH_flat hfl) hq hl hd (hopC_flat ht hfl) hc
  cases hx : hopRunL P hk orc lh fid (theLoopN P fid nn) n q keep t h with
  | none => rw [hx] at hr; cases hr
  | some r =>
    rw [hx] at hr
    simp only [Option.map_some, Option.some.injEq, Prod.mk.injEq] at hr
    obtain ⟨g1, g2, g3⟩ := hr
    simp only [Option.map_some]
    rw [maskZ_R (by rw [g2]; exact hvs), g1, g3]
theorem stopF_ok (hng : NoNG P) {hk : Hook3} (hhk : HookOk3 P hk) {lh : LoopHook} (hll : LoopLow lh) (hlo : LoopsOk P lh) {orc : Orc} {fid : FuncId} {nn : Nat} (h1 : oneLoopN P fid nn = true) {n q q0 : Nat} (keep : List Nat) {t vs : List Value} {h h2 : List AO} {e : Exit} {lo : Option Nat} {cs : Cs}
    {zs : List Nat} {T : (Nat → Value) → List Value} (hun : ∀ β, unmask β 0 (zs.map deadZ) (T fun _ => .bool true) = T β) (chg : Nat → Bool) {β : Nat → Value} (hβ : FlR q0 β)
    (hr : (stopRunL P hk orc lh fid (theLoopN P fid nn) n q keep t h).map (fun r => (r.1, r.2.map fun r => (maskZ q0 zs r.1, pickZ zs r.1, r.2))) = some (e, some ((T fun k => bif chg k then .bool true else .bool (okR q0 (β k))).map (reV (keepF q keep) 6), vs, h2, lo, inter cs)))
    (hvs : vs.all flat = true) (hfl : flatH h2 = true) (hq : q0 ≤ q) (hl : q0 ≤ h2.length) (hd : deadAt (zs.map deadZ) (T fun _ => .bool true) = true)
    (ht : (T fun _ => .bool true).all (refF (fun x => decide (x < h2.length)) 6) = true) (hc : ∀ c ∈ cs, c.1 = c.2) : ∃ β', FlR q0 β' ∧ StopQ P (theLoopN P fid nn) n q t h e (T β') h2 (lo, []) := by
  refine stopR2_ok hng hhk hll hlo (orc := orc) h1 keep hun chg hβ (hh := h2) ?_ (reH_flat hfl) hq hl hd (hopC_flat ht hfl) hc
  cases hx : stopRunL P hk orc lh fid (theLoopN P fid nn) n q keep t h with
  | none => rw [hx] at hr; cases hr
  | some r =>
    obtain ⟨e1, o⟩ := r
    rw [hx] at hr
    cases o with
    | none => simp at hr
    | some r =>
      simp only [Option.map_some, Option.some.injEq, Prod.mk.injEq] at hr
      obtain ⟨g0, g1, g2, g3⟩ := hr
      simp only [Option.map_some]
      rw [maskZ_R (by rw [g2]; exact hvs), g0, g1, g3]
/-- A block that nothing is told of at the end of what is told ahead of the rounds. -/
theorem HopQ.pad {c : Code} {n q : Nat} {t t1 : List Value} {h h1 : List AO} {m : Mk} (r : Nat) (a : HopQ P c n q t (h ++ List.replicate r dead) t1 h1 m) : HopQ P c n q t h t1 h1 m :=
  fun wb k hm hkq s m0 act w H N Q hQ => a wb k hm hkq s m0 act w ⟨H.t, H.d, H.h.pad r⟩ N Q hQ
theorem StopQ.pad {c : Code} {n q : Nat} {t t1 : List Value} {h h1 : List AO} {e : Exit} {m : Mk} (r : Nat) (a : StopQ P c n q t (h ++ List.replicate r dead) e t1 h1 m) : StopQ P c n q t h e t1 h1 m :=
  fun wb k hm hkq s m0 act w H m' => a wb k hm hkq s m0 act w ⟨H.t, H.d, H.h.pad r⟩ m'
end
theorem HR.withPl {h0 : List AO} {w : World} (hL : Laid h0 w) {pl : Pl} (hb : pl.blk < w.heap.size) (hgl : pl.es = some GM → False) : HR w (h0.length + 1) (upd (placeG h0 w) h0.length pl) (h0 ++ [dead]) w := by
  have H := HR.start hL
  have hne : ∀ i, i < h0.length → upd (placeG h0 w) h0.length pl i = placeG h0 w i := fun i hi => upd_other _ _ (by omega)
  have hle := Le.upd (s := placeG h0 w) (i := h0.length) pl (H.dom _ (Nat.le_refl _))
  have old : ∀ (i : Nat) (x : AO), (h0 ++ [dead])[i]? = some x → x.live = true → i < h0.length ∧ h0[i]? = some x := by
    intro i x hi hx
    by_cases ei : i < h0.length
    · rw [List.getElem?_append_left ei] at hi
      exact ⟨ei, hi⟩
    · have := (List.getElem?_eq_some_iff.1 hi).1
      simp at this
      obtain rfl : i = h0.length := by omega
      rw [List.getElem?_append_right (by omega)] at hi
      simp at hi
      subst hi
      cases hx
  refine ⟨GrB.refl w _, by simp, fun i hi => ?_, fun i p hp => ?_, fun i o ho hl => ?_, fun i j x y p q hi hj hx hy hp hq e => ?_, fun g p hp hg => ?_⟩
  · rw [upd_other _ _ (by simp at hi; omega)]
    exact H.dom i (by simp at hi; omega)
  · by_cases ei : i = h0.length
    · subst ei
      rw [upd_same] at hp
      cases hp
      exact ⟨fun _ => ⟨hb, fun f => f⟩, fun h => absurd h (by omega), hb⟩
    · rw [upd_other _ _ ei] at hp
      obtain ⟨c1, c2, c3⟩ := H.plc i p hp
      exact ⟨fun _ => ⟨c3, fun f => f⟩, fun h => absurd (H.dom i (by omega)) (by rw [hp]; exact fun h => by cases h), c3⟩
  · obtain ⟨hil, ho⟩ := old i o ho hl
    obtain ⟨p, hp, he, hob⟩ := H.obj i o ho hl
    exact ⟨p, by rw [hne i hil]; exact hp, he, hob.mono hle⟩
  · obtain ⟨a1, a2⟩ := old i x hi hx
    obtain ⟨b1, b2⟩ := old j y hj hy
    rw [hne i a1] at hp
    rw [hne j b1] at hq
    exact H.sep i j x y p q a2 b2 hx hy hp hq e
  · by_cases ei : g = h0.length
    · subst ei
      rw [upd_same] at hp
      cases hp
      exact (hgl hg).elim
    · rw [upd_other _ _ ei] at hp
      exact H.gl g p hp hg

end Go.Proofs.Ytafegjmaldbbiaa.Ex
end
section
namespace Go.Proofs.Ytafegjmaldbbiaa.Ex
open Go Go.RowKit
set_option linter.unusedVariables false
noncomputable def arHook : Hook := orHook keptHook repHook
theorem arHook_ok : HookOk Try.prog arHook := orHook_ok keptHook_ok repHook_ok
noncomputable def ar3 : Hook3 := liftH (guardH arHook)
theorem ar3_ok : HookOk3 Try.prog ar3 := lift_ok (guard_ok arHook_ok)
end Go.Proofs.Ytafegjmaldbbiaa.Ex
end
section
namespace Go.Proofs.Ytafegjmaldbbiaa.Ex
open Go Go.RowKit
set_option linter.unusedVariables false
theorem VR.back {s t : Ren} {f : Nat → Nat} {ok : Nat → Bool} (hst : ∀ j p, ok j = true → t j = some p → s (f j) = some p) : ∀ (n : Nat) {v v' : Value}, VR t v v' → refF ok n v = true → VR s (reV f n v) v'
  | 0, v, v', h, hr => by
    have hf : flat v = true := flat_of_scal hr
    rw [h.eq_of_flat hf]
    exact .same hf
  | n + 1, v, v', h, hr => by
    have ih := fun {v v' : Value} => VR.back hst n (v := v) (v' := v')
    have mp : ∀ {xs ys : List Value}, xs.length = ys.length → (∀ (i : Nat) (x y : Value), xs[i]? = some x → ys[i]? = some y → VR t x y) → xs.all (refF ok n) = true → (xs.map (reV f n)).length = ys.length ∧ ∀ (i : Nat) (x y : Value), (xs.map (reV f n))[i]? = some x → ys[i]? = some y → VR s x y := by
      intro xs ys hl hh ho
      refine ⟨by simpa using hl, fun i x y hx hy => ?_⟩
      rw [List.getElem?_map] at hx
      cases hx0 : xs[i]? with
      | none => rw [hx0] at hx; cases hx
      | some x0 =>
        rw [hx0] at hx
        cases hx
        exact ih (hh i x0 y hx0 hy) (all_get ho hx0)
    cases h with
    | same h => rw [reV_flat _ h]; exact .same h
    | ptr hs hp => exact .ptr hs (hst _ _ hr hp)
    | slice hs hp hc => exact .slice hs (hst _ _ hr hp) hc
    | agg hl hh => exact .agg (mp hl hh hr).1 (mp hl hh hr).2
    | tuple hl hh => exact .tuple (mp hl hh hr).1 (mp hl hh hr).2
    | func hl hh hl' hh' =>
      simp only [refF, Bool.and_eq_true] at hr
      exact .func (mp hl hh hr.1).1 (mp hl hh hr.1).2 (mp hl' hh' hr.2).1 (mp hl' hh' hr.2).2
    | iface hx => exact .iface (ih hx hr)
    | map hp => exact .map (hst _ _ hr hp)
theorem LR.back {s t : Ren} {f : Nat → Nat} {ok : Nat → Bool} (hst : ∀ j p, ok j = true → t j = some p → s (f j) = some p) (n : Nat) {xs ys : List Value} (h : LR t xs ys) (ho : xs.all (refF ok n) = true) : LR s (xs.map (reV f n)) ys := by
  refine ⟨by simpa using h.1, fun i x y hx hy => ?_⟩
  rw [List.getElem?_map] at hx
  cases hx0 : xs[i]? with
  | none => rw [hx0] at hx; cases hx
  | some x0 =>
    rw [hx0] at hx
    cases hx
    exact (h.2 i x0 y hx0 hy).back hst n (all_get ho hx0)
theorem ObjAt.back {s t : Ren} {f : Nat → Nat} {ok : Nat → Bool} (hst : ∀ j p, ok j = true → t j = some p → s (f j) = some p) {p : Pl} {o : AO} {w : World} (h : ObjAt t p o w) (hb : o.cs.all (refF ok 6) = true) : ObjAt s p (reO f o) w := by
  refine ⟨fun hm => ?_, fun hm => ?_⟩
  · obtain ⟨cs', h1, h2⟩ := h.1 hm
    exact ⟨cs', h1.back hst 6 hb, h2⟩
  · have B := h.2 hm
    refine ⟨by simpa [reO] using B.fit, B.all, B.shp, fun g1 g2 g3 g4 g5 => B.free g1 g2 g3 g4 (by simpa [reO] using g5), fun x v hv => ?_⟩
    simp only [reO, List.getElem?_map] at hv
    cases hx0 : o.cs[x]? with
    | none => rw [hx0] at hv; cases hv
    | some v0 =>
      rw [hx0] at hv
      cases hv
      obtain ⟨v', h1, h2⟩ := B.rel x v0 hx0
      exact ⟨v', h1, h2.back hst 6 (all_get hb hx0)⟩
/-- Blocks at the end are given up. -/
theorem HR.cut {wb : Wb} {k : Nat} {s : Ren} {h : List AO} {w : World} (H : HR wb k s h w) {q : Nat} (hkq : k ≤ q) (hq : q ≤ h.length) (hr : (h.take q).all (refO fun x => decide (x < q)) = true) : HR wb k (fun j => if j < q then s j else none) (h.take q) w := by
  have hl : (h.take q).length = q := by simp; omega
  have at' : ∀ i p, (if i < q then s i else none) = some p → i < q ∧ s i = some p := by
    intro i p hp
    split at hp
    · rename_i hi; exact ⟨hi, hp⟩
    · cases hp
  have old : ∀ i o, (h.take q)[i]? = some o → i < q ∧ h[i]? = some o := by
    intro i o ho
    rw [List.getElem?_take] at ho
    split at ho
    · rename_i hi; exact ⟨hi, ho⟩
    · cases ho
  refine ⟨H.grown, by omega, fun i hi => if_neg (by omega), fun i p hp => H.plc i p (at' i p hp).2, fun i o ho hv => ?_, fun i j a b p r hi hj ha hb hp hr' e => ?_, fun g p hp hg => H.gl g p (at' g p hp).2 hg⟩
  · obtain ⟨hi, ho'⟩ := old i o ho
    obtain ⟨p, hp, he, hob⟩ := H.obj i o ho' hv
    refine ⟨p, by rw [if_pos hi]; exact hp, he, hob.refs (ok := fun x => decide (x < q)) (fun x hx => ?_) ?_⟩
    · simp only [decide_eq_true_eq] at hx
      simp only [if_pos hx]
    · have := List.all_eq_true.1 hr o (List.mem_of_getElem? ho)
      simpa [refO, hv] using this
  · exact H.sep i j a b p r (old i a hi).2 (old j b hj).2 ha hb (at' i p hp).2 (at' j r hr').2 e
/-- What a call comes to, from a memory of some blocks on: the first k stay; it is told for whatever else there is. -/
def EffCall (P : Program) (g : FuncId) (k : Nat) (hS : List AO) (aS : List Value) (v : Value) (hE : List AO) : Prop :=
  ∀ (wb : Wb) (s : Ren) (w : World) (args' : List Value), HR wb k s hS w → LR s aS args' → Calls P g ⟨args'⟩ w (CallPost wb k s v hE)
noncomputable def effR (P : Program) (hk : Hook3) (orc : Orc) (lh : LoopHook) (hS : List AO) (g : FuncId) (aS : List Value) : Option (Value × List AO × Option Nat × List Int) :=
  match callA P ⟨exG P (aOp P) (drawE P) hk orc accQ lh 100000 300, hk, fun _ _ => none, accQ⟩ g aS hS with
  | some (v, h', m) => some (v, h', m.1, inter m.2)
  | none => none
theorem effR_ok {P : Program} (hng : NoNG P) {hk : Hook3} (hhk : HookOk3 P hk) {lh : LoopHook} (hll : LoopLow lh) (hlo : LoopsOk P lh) {orc : Orc} {hS : List AO} {g : FuncId} {aS : List Value} {v : Value} {h' : List AO} {lo : Option Nat} {cs : Cs} {k : Nat}
    (hr : effR P hk orc lh hS g aS = some (v, h', lo, inter cs)) (hb : BndO k lo) (hc : ∀ c ∈ cs, c.1 = c.2) : EffCall P g k hS aS v h' := by
  unfold effR at hr
  split at hr
  · rename_i v0 h0 m hca
    simp only [Option.some.injEq, Prod.mk.injEq] at hr
    obtain ⟨rfl, rfl, rfl, h2⟩ := hr
    have h3 := inter_inj h2
    intro wb s w args' H ha
    exact callA_ok (exG_ok accQ_eq hng (aOp_ok P hng) (drawE_ok P) (drawE_low P) hhk hll hlo 100000 300 _) hca ⟨hb, by rw [h3]; exact hc⟩ ha H
  · cases hr
/-- What stands behind the first blocks is given up. -/
theorem EffCall.cut {P : Program} {g : FuncId} {k : Nat} {hS : List AO} {aS : List Value} {v : Value} {h' : List AO} (E : EffCall P g k hS aS v h') (hkq : k ≤ hS.length) (hq : hS.length ≤ h'.length) (hr : (h'.take hS.length).all (refO fun x => decide (x < hS.length)) = true) (hv : flat v = true) :
    EffCall P g k hS aS v (h'.take hS.length) := by
  intro wb s w args' H ha
  refine (E wb s w args' H ha).mono ?_
  rintro e w' ⟨s', v', rfl, hle, H', hvr⟩
  refine ⟨_, v', rfl, fun i p hp => ?_, H'.cut hkq hq hr, by rw [hvr.eq_of_flat hv]; exact .same hv⟩
  have hi : i < hS.length := by
    rcases Nat.lt_or_ge i hS.length with h | h
    · exact h
    · rw [H.dom i h] at hp; cases hp
  simp only [if_pos hi]
  exact hle i p hp
/-- FROM A SMALL MEMORY TO ANY: the blocks of the small one stand at the places f in the large one; the last one of them may be written. -/
theorem eff_up {P : Program} {g : FuncId} {q : Nat} {hS : List AO} {aS : List Value} {v : Value} {hE : List AO} (E : EffCall P g q hS aS v hE) (hl : hS.length = q + 1) (hlE : hE.length = q + 1) {o1 : AO} (hE1 : hE[q]? = some o1) (hl1 : o1.live = true)
    (hrS : hS.all (refO fun x => decide (x < q + 1)) = true) (hrE : o1.cs.all (refF (fun x => decide (x < q + 1)) 6) = true) (haS : aS.all (refF (fun x => decide (x < q + 1)) 6) = true) (hv : flat v = true)
    {wb : Wb} {k : Nat} {s : Ren} {h : List AO} {w : World} (H : HR wb k s h w) {f : Nat → Nat} (hinj : ∀ i j, i ≤ q → j ≤ q → f i = f j → i = j)
    (hlv : ∀ j, j ≤ q → ∃ o, h[f j]? = some o ∧ o.live = true ∧ o.es ≠ some GM) (hb : ∀ j o, hS[j]? = some o → o.live = true → h[f j]? = some (reO f o)) (hqS : ∃ o, hS[q]? = some o ∧ o.live = true) (hk : k ≤ f q)
    {args args' : List Value} (hargs : args = aS.map (reV f 6)) (ha : LR s args args') :
    Calls P g ⟨args'⟩ w fun e w' => ∃ s' v', e = .returned v' ∧ Le s s' ∧ HR wb k s' (setC h (f q) (o1.cs.map (reV f 6))) w' ∧ VR s' v v' := by
  have pl : ∀ j, j ≤ q → ∃ o p, h[f j]? = some o ∧ o.live = true ∧ s (f j) = some p ∧ p.es = o.es ∧ o.es ≠ some GM := by
    intro j hj
    obtain ⟨o, h1, h2, h3⟩ := hlv j hj
    obtain ⟨p, hp, he, _⟩ := H.obj _ o h1 h2
    exact ⟨o, p, h1, h2, hp, he, h3⟩
  obtain ⟨ob, pb, hob, hobl, hpb, hpe, hpg⟩ := pl q (Nat.le_refl _)
  have at' : ∀ i p, (if i ≤ q then s (f i) else none) = some p → i ≤ q ∧ s (f i) = some p := by
    intro i p hp
    split at hp
    · rename_i hi; exact ⟨hi, hp⟩
    · cases hp
  have hst : ∀ j p, (fun x => decide (x < q + 1)) j = true → s (f j) = some p → (fun j => if j ≤ q then s (f j) else none) j = some p := by
    intro j p hj hs
    simp only [decide_eq_true_eq] at hj
    simp only [if_pos (show j ≤ q by omega)]
    exact hs
  have S : HR ⟨w, fun n => n = pb.blk⟩ q (fun j => if j ≤ q then s (f j) else none) hS w := by
    refine ⟨GrB.refl w _, by omega, fun i hi => if_neg (by omega), fun i p hp => ?_, fun i o ho hlo => ?_, fun i j a b p r hi hj hla hlb hp hr e => ?_, fun gg p hp hg => ?_⟩
    · obtain ⟨hi, hs⟩ := at' i p hp
      have hlt := (H.plc _ p hs).2.2
      refine ⟨fun hiq => ⟨hlt, fun e => ?_⟩, fun hqi => .inr ?_, hlt⟩
      · obtain ⟨oi, pi, h1, h2, h3, _, _⟩ := pl i hi
        rw [hs] at h3
        cases h3
        have := hinj i q hi (Nat.le_refl _) (H.sep _ _ oi ob _ _ h1 hob h2 hobl hs hpb e)
        omega
      · obtain rfl : i = q := by omega
        rw [hs] at hpb
        cases hpb
        rfl
    · have hiq : i ≤ q := by
        have := (List.getElem?_eq_some_iff.1 ho).1
        omega
      obtain ⟨p, hp, he, hoa⟩ := H.obj _ _ (hb i o ho hlo) hlo
      refine ⟨p, by rw [if_pos hiq]; exact hp, he, hoa.ren hst ?_⟩
      have := List.all_eq_true.1 hrS o (List.mem_of_getElem? ho)
      simpa [refO, hlo] using this
    · obtain ⟨hi', hs1⟩ := at' i p hp
      obtain ⟨hj', hs2⟩ := at' j r hr
      exact hinj i j hi' hj' (H.sep _ _ _ _ p r (hb i a hi hla) (hb j b hj hlb) hla hlb hs1 hs2 e)
    · obtain ⟨hg', hs⟩ := at' gg p hp
      obtain ⟨oi, pi, h1, h2, h3, h4, h5⟩ := pl gg hg'
      rw [hs] at h3
      cases h3
      exact absurd (h4.symm.trans hg) h5
  have ha' : LR (fun j => if j ≤ q then s (f j) else none) aS args' := by
    rw [hargs] at ha
    exact ha.unmap (VR.ren hst 6) haS
  refine (E _ _ w args' S ha').mono ?_
  rintro e w' ⟨t, v', rfl, hle, H', hvr⟩
  have hgr := H'.grown
  obtain ⟨p1, hp1, he1, hoa1⟩ := H'.obj q o1 hE1 hl1
  have hp1' : p1 = pb := by
    have := hle q pb (by simp only [if_pos (Nat.le_refl q)]; exact hpb)
    rw [hp1] at this
    exact Option.some.inj this
  subst hp1'
  have hset : setC h (f q) (o1.cs.map (reV f 6)) = h.set (f q) ⟨ob.live, ob.es, o1.cs.map (reV f 6)⟩ := by
    unfold setC
    rw [hob]
  have hbl : f q < h.length := (List.getElem?_eq_some_iff.1 hob).1
  have old : ∀ i o, (h.set (f q) ⟨ob.live, ob.es, o1.cs.map (reV f 6)⟩)[i]? = some o → o.live = true → ∃ o', h[i]? = some o' ∧ o'.live = true ∧ o'.es = o.es ∧ (i ≠ f q → o' = o) := by
    intro i o ho hlo
    rw [List.getElem?_set] at ho
    by_cases ei : f q = i
    · subst ei
      rw [if_pos rfl, if_pos hbl] at ho
      cases ho
      exact ⟨ob, hob, hobl, rfl, fun h => absurd rfl h⟩
    · rw [if_neg ei] at ho
      exact ⟨o, ho, hlo, rfl, fun _ => rfl⟩
  refine ⟨s, v', rfl, Le.refl s, ?_, by rw [hvr.eq_of_flat hv]; exact .same hv⟩
  rw [hset]
  refine ⟨⟨⟨hgr.1.1.trans H.grown.1.1, hgr.1.2.trans H.grown.1.2⟩, fun n hn hx => ?_, Nat.le_trans H.grown.2.2 hgr.2.2⟩, by simpa using H.kle, fun i hi => H.dom i (by simpa using hi), fun i p hp => ?_, fun i o ho hlo => ?_, fun i j a b p r hi hj hla hlb hp hr e => ?_, H.gl⟩
  · refine (hgr.2.1 n (Nat.lt_of_lt_of_le hn H.grown.2.2) ?_).trans (H.grown.2.1 n hn hx)
    intro e
    have e : n = p1.blk := e
    subst e
    exact ((H.plc _ _ hpb).2.1 hk).elim (fun h => by omega) hx
  · obtain ⟨c1, c2, c3⟩ := H.plc i p hp
    exact ⟨c1, c2, Nat.lt_of_lt_of_le c3 hgr.2.2⟩
  · obtain ⟨o', ho', hlo', hes, hne⟩ := old i o ho hlo
    by_cases ei : i = f q
    · subst ei
      rw [List.getElem?_set, if_pos rfl, if_pos hbl] at ho
      cases ho
      have back : ObjAt s p1 (reO f o1) w' := hoa1.back (ok := fun x => decide (x < q + 1)) (fun j p hj ht => by
        simp only [decide_eq_true_eq] at hj
        obtain ⟨oj, pj, h1, h2, h3, h4, h5⟩ := pl j (by omega)
        have := hle j pj (by simp only [if_pos (show j ≤ q by omega)]; exact h3)
        rw [ht] at this
        rw [h3, Option.some.inj this]) hrE
      refine ⟨p1, hpb, hpe, ?_⟩
      have e2 : (⟨ob.live, ob.es, o1.cs.map (reV f 6)⟩ : AO) = reO f o1 := by
        unfold reO
        rw [hobl, hl1, ← hpe, he1]
      rw [e2]
      exact back
    · obtain rfl := hne ei
      obtain ⟨p, hp, he, hoa⟩ := H.obj i _ ho' hlo'
      refine ⟨p, hp, he, hoa.heap (hgr.2.1 _ (H.plc i p hp).2.2 fun e => ei ?_)⟩
      exact H.sep _ _ _ ob p p1 ho' hob hlo' hobl hp hpb e
  · obtain ⟨a', h1, h2, _, _⟩ := old i a hi hla
    obtain ⟨b', h3, h4, _, _⟩ := old j b hj hlb
    exact H.sep _ _ a' b' p r h1 h3 h2 h4 hp hr e
end Go.Proofs.Ytafegjmaldbbiaa.Ex
end
section
namespace Go.Proofs.Ytafegjmaldbbiaa.Ex
open Go Go.RowKit
set_option linter.unusedVariables false
/-- FROM A SMALL MEMORY TO ANY: nothing of it is written. -/
theorem read_up {P : Program} {g : FuncId} {q : Nat} {hS : List AO} {aS : List Value} {v : Value} {hE : List AO} (E : EffCall P g q hS aS v hE) (hl : hS.length = q)
    (hrS : hS.all (refO fun x => decide (x < q)) = true) (haS : aS.all (refF (fun x => decide (x < q)) 6) = true) (hv : flat v = true)
    {wb : Wb} {k : Nat} {s : Ren} {h : List AO} {w : World} (H : HR wb k s h w) {f : Nat → Nat} (hinj : ∀ i j, i < q → j < q → f i = f j → i = j)
    (hlv : ∀ j, j < q → ∃ o, h[f j]? = some o ∧ o.live = true ∧ o.es ≠ some GM) (hb : ∀ j o, hS[j]? = some o → o.live = true → h[f j]? = some (reO f o))
    {args args' : List Value} (hargs : args = aS.map (reV f 6)) (ha : LR s args args') :
    Calls P g ⟨args'⟩ w fun e w' => e = .returned v ∧ Gr w w' := by
  have pl : ∀ j, j < q → ∃ o p, h[f j]? = some o ∧ o.live = true ∧ s (f j) = some p ∧ p.es = o.es ∧ o.es ≠ some GM := by
    intro j hj
    obtain ⟨o, h1, h2, h3⟩ := hlv j hj
    obtain ⟨p, hp, he, _⟩ := H.obj _ o h1 h2
    exact ⟨o, p, h1, h2, hp, he, h3⟩
  have at' : ∀ i p, (if i < q then s (f i) else none) = some p → i < q ∧ s (f i) = some p := by
    intro i p hp
    split at hp
    · rename_i hi; exact ⟨hi, hp⟩
    · cases hp
  have hst : ∀ j p, (fun x => decide (x < q)) j = true → s (f j) = some p → (fun j => if j < q then s (f j) else none) j = some p := by
    intro j p hj hs
    simp only [decide_eq_true_eq] at hj
    simp only [if_pos hj]
    exact hs
  have S : HR w q (fun j => if j < q then s (f j) else none) hS w := by
    refine ⟨GrB.refl w _, by omega, fun i hi => if_neg (by omega), fun i p hp => ?_, fun i o ho hlo => ?_, fun i j a b p r hi hj hla hlb hp hr e => ?_, fun gg p hp hg => ?_⟩
    · obtain ⟨hi, hs⟩ := at' i p hp
      have hlt := (H.plc _ p hs).2.2
      exact ⟨fun _ => ⟨hlt, fun f => f⟩, fun hqi => absurd hi (by omega), hlt⟩
    · have hiq : i < q := by
        have := (List.getElem?_eq_some_iff.1 ho).1
        omega
      obtain ⟨p, hp, he, hoa⟩ := H.obj _ _ (hb i o ho hlo) hlo
      refine ⟨p, by rw [if_pos hiq]; exact hp, he, hoa.ren hst ?_⟩
      have := List.all_eq_true.1 hrS o (List.mem_of_getElem? ho)
      simpa [refO, hlo] using this
    · obtain ⟨hi', hs1⟩ := at' i p hp
      obtain ⟨hj', hs2⟩ := at' j r hr
      exact hinj i j hi' hj' (H.sep _ _ _ _ p r (hb i a hi hla) (hb j b hj hlb) hla hlb hs1 hs2 e)
    · obtain ⟨hg', hs⟩ := at' gg p hp
      obtain ⟨oi, pi, h1, h2, h3, h4, h5⟩ := pl gg hg'
      rw [hs] at h3
      cases h3
      exact absurd (h4.symm.trans hg) h5
  have ha' : LR (fun j => if j < q then s (f j) else none) aS args' := by
    rw [hargs] at ha
    exact ha.unmap (VR.ren hst 6) haS
  refine (E _ _ w args' S ha').mono ?_
  rintro e w' ⟨t, v', rfl, hle, H', hvr⟩
  rw [hvr.eq_of_flat hv]
  exact ⟨rfl, H'.grown.gr⟩
end Go.Proofs.Ytafegjmaldbbiaa.Ex
end
section
namespace Go.Proofs.Ytafegjmaldbbiaa.Ex
open Go Go.RowKit
set_option maxHeartbeats 0
set_option maxRecDepth 1000000
set_option linter.unusedVariables false
set_option linter.unusedSectionVars false
def nil3 : Hook3 := fun _ _ _ => none
theorem nil3_ok : HookOk3 Try.prog nil3 := by intro f args h v new cs hv; cases hv
abbrev fdF : FuncId := 28
def fdO (o : Nat) : Orc := fun f t _ =>
  if Nat.beq f fdF then
    match t with
    | 32 => some (.int .u64 (o : Int))
    | 38 => some (.bool false)
    | 48 => some (.bool false)
    | 53 => some (.int .i64 (o : Int))
    | _ => none
  else if Nat.beq f 42 then (match t with | 14 => some (.bool false) | _ => none)
  else none
/-- A memory of two regions: its struct, its list of regions; their bytes are not looked at. -/
noncomputable def fdS (e1 : Option Nat) (N : Nat) : List AO := [⟨true, none, [.bool true, .slice (some ⟨1, 0, none⟩) 2 2]⟩, ⟨true, e1, [.int .u64 1048576, .slice (some ⟨2, 0, none⟩) 3 3, .bool true, .int .u64 1114112, .slice (some ⟨3, 0, none⟩) N N, .bool true]⟩, dead, dead]
def fdA (A m : Int) : List Value := [.pointer (some ⟨0, 0, none⟩), .int .u64 A, .int .i64 m]
end Go.Proofs.Ytafegjmaldbbiaa.Ex
end
section
namespace Go.Proofs.Ytafegjmaldbbiaa.Ex
open Go Go.RowKit
set_option maxHeartbeats 0
set_option maxRecDepth 1000000
set_option linter.unusedVariables false
set_option linter.unusedSectionVars false
/-- FROM A SMALL MEMORY TO ANY: nothing of it is written; the answer may lead into it. -/
theorem read_upV {P : Program} {g : FuncId} {q : Nat} {hS : List AO} {aS : List Value} {v : Value} {hE : List AO} (E : EffCall P g q hS aS v hE) (hl : hS.length = q) (hlE : q ≤ hE.length)
    (hrS : hS.all (refO fun x => decide (x < q)) = true) (haS : aS.all (refF (fun x => decide (x < q)) 6) = true) (hv : refF (fun x => decide (x < q)) 6 v = true)
    {wb : Wb} {k : Nat} {s : Ren} {h : List AO} {w : World} (H : HR wb k s h w) {f : Nat → Nat} (hinj : ∀ i j, i < q → j < q → f i = f j → i = j)
    (hlv : ∀ j, j < q → ∃ o, h[f j]? = some o ∧ o.live = true ∧ o.es ≠ some GM) (hb : ∀ j o, hS[j]? = some o → o.live = true → h[f j]? = some (reO f o))
    {args args' : List Value} (hargs : args = aS.map (reV f 6)) (ha : LR s args args') :
    Calls P g ⟨args'⟩ w fun e w' => ∃ s' v', e = .returned v' ∧ Le s s' ∧ HR wb k s' h w' ∧ VR s' (reV f 6 v) v' := by
  have pl : ∀ j, j < q → ∃ o p, h[f j]? = some o ∧ o.live = true ∧ s (f j) = some p ∧ p.es = o.es ∧ o.es ≠ some GM := by
    intro j hj
    obtain ⟨o, h1, h2, h3⟩ := hlv j hj
    obtain ⟨p, hp, he, _⟩ := H.obj _ o h1 h2
    exact ⟨o, p, h1, h2, hp, he, h3⟩
  have at' : ∀ i p, (if i < q then s (f i) else none) = some p → i < q ∧ s (f i) = some p := by
    intro i p hp
    split at hp
    · rename_i hi; exact ⟨hi, hp⟩
    · cases hp
  have hst : ∀ j p, (fun x => decide (x < q)) j = true → s (f j) = some p → (fun j => if j < q then s (f j) else none) j = some p := by
    intro j p hj hs
    simp only [decide_eq_true_eq] at hj
    simp only [if_pos hj]
    exact hs
  have S : HR w q (fun j => if j < q then s (f j) else none) hS w := by
    refine ⟨GrB.refl w _, by omega, fun i hi => if_neg (by omega), fun i p hp => ?_, fun i o ho hlo => ?_, fun i j a b p r hi hj hla hlb hp hr e => ?_, fun gg p hp hg => ?_⟩
    · obtain ⟨hi, hs⟩ := at' i p hp
      have hlt := (H.plc _ p hs).2.2
      exact ⟨fun _ => ⟨hlt, fun f => f⟩, fun hqi => absurd hi (by omega), hlt⟩
    · have hiq : i < q := by
        have := (List.getElem?_eq_some_iff.1 ho).1
        omega
      obtain ⟨p, hp, he, hoa⟩ := H.obj _ _ (hb i o ho hlo) hlo
      refine ⟨p, by rw [if_pos hiq]; exact hp, he, hoa.ren hst ?_⟩
      have := List.all_eq_true.1 hrS o (List.mem_of_getElem? ho)
      simpa [refO, hlo] using this
    · obtain ⟨hi', hs1⟩ := at' i p hp
      obtain ⟨hj', hs2⟩ := at' j r hr
      exact hinj i j hi' hj' (H.sep _ _ _ _ p r (hb i a hi hla) (hb j b hj hlb) hla hlb hs1 hs2 e)
    · obtain ⟨hg', hs⟩ := at' gg p hp
      obtain ⟨oi, pi, h1, h2, h3, h4, h5⟩ := pl gg hg'
      rw [hs] at h3
      cases h3
      exact absurd (h4.symm.trans hg) h5
  have ha' : LR (fun j => if j < q then s (f j) else none) aS args' := by
    rw [hargs] at ha
    exact ha.unmap (VR.ren hst 6) haS
  refine (E _ _ w args' S ha').mono ?_
  rintro e w' ⟨t, v', rfl, hle, H', hvr⟩
  refine ⟨s, v', rfl, Le.refl s, H.grow H'.grown.gr, hvr.back (ok := fun x => decide (x < q)) (fun j p hj ht => ?_) 6 hv⟩
  simp only [decide_eq_true_eq] at hj
  obtain ⟨oj, pj, h1, h2, h3, h4, h5⟩ := pl j hj
  have := hle j pj (by simp only [if_pos hj]; exact h3)
  rw [ht] at this
  rw [h3, Option.some.inj this]
def okB (o : Option AO) : Bool := match o with
  | some o => o.live && (match o.es with | some e => !(Nat.beq e GM) | none => true)
  | none => false
theorem okB_spec {o : Option AO} (h : okB o = true) : ∃ x, o = some x ∧ x.live = true ∧ x.es ≠ some GM := by
  unfold okB at h
  split at h
  · rename_i x
    simp only [Bool.and_eq_true] at h
    refine ⟨x, rfl, h.1, fun hg => ?_⟩
    have h2 := h.2
    rw [hg] at h2
    simp at h2
  · cases h
noncomputable def fdR (N o : Nat) : Value := .tuple ⟨[.agg ⟨[.int .u64 1114112, .slice (some ⟨3, 0, none⟩) N N, .bool true]⟩, .int .i64 (o : Int), .int .i64 0]⟩
noncomputable def fdP (A m : Int) (N o : Nat) : Cs := [(b2i (decide ((1114112 : Int) > A)), 0), (IntKind.u64.wrap (A - 1114112), (o : Int)), (b2i (decide ((o : Int) ≥ IntKind.u64.wrap N)), 0), (b2i (decide (IntKind.u64.wrap (IntKind.u64.wrap N - o) < IntKind.u64.wrap m)), 0), (IntKind.i64.wrap o, (o : Int))]
noncomputable def fdX (e1 : Option Nat) (A : Int) (N : Nat) : List AO := fdS e1 N ++ [⟨true, none, [.pointer (some ⟨0, 0, none⟩)]⟩, ⟨true, none, [.int .u64 A]⟩, ⟨true, none, [.int .u64 1114112, .slice (some ⟨3, 0, none⟩) N N, .bool true]⟩]
theorem fd_run0 (A m : Int) (N o : Nat) : effR Try.prog nil3 (fdO o) noLoop (fdS none N) fdF (fdA A m) = some (fdR N o, fdX none A N, some 6, inter (fdP A m N o)) := by kernel_rfl
theorem fd_run3 (A m : Int) (N o : Nat) : effR Try.prog nil3 (fdO o) noLoop (fdS (some 3) N) fdF (fdA A m) = some (fdR N o, fdX (some 3) A N, some 6, inter (fdP A m N o)) := by kernel_rfl
theorem fdP_ok {A m : Int} {N o : Nat} (hA : A = 1114112 + (o : Int)) (hm : 1 ≤ m) (hN : (o : Int) + m ≤ N) (hb : N < 1000000) : AE (fdP A m N o) := by
  have wu : ∀ x : Int, 0 ≤ x → x < 18446744073709551616 → IntKind.u64.wrap x = x := fun x h0 h1 => by
    simp [IntKind.wrap, IntKind.signed, IntKind.bits]
    omega
  refine AE.cons (b0 (by omega)) (AE.cons ?_ (AE.cons (b0 ?_) (AE.cons (b0 ?_) (AE.cons (wi_id (by omega) (by omega)) AE.nil))))
  · show IntKind.u64.wrap (A - 1114112) = (o : Int)
    rw [wu _ (by omega) (by omega)]
    omega
  · rw [wu _ (by omega) (by omega)]
    omega
  · rw [wu N (by omega) (by omega), wu _ (by omega) (by omega), wu m (by omega) (by omega)]
    omega
def e1Ok (e1 : Option Nat) : Bool := match e1 with
  | none => true
  | some e => Nat.beq e 3
theorem c_find {e1 : Option Nat} (he : e1Ok e1 = true) {A m : Int} {N o : Nat} (hA : A = 1114112 + (o : Int)) (hm : 1 ≤ m) (hN : (o : Int) + m ≤ N) (hb : N < 1000000) : EffCall Try.prog fdF 4 (fdS e1 N) (fdA A m) (fdR N o) (fdX e1 A N) := by
  cases e1 with
  | none => exact effR_ok noNG nil3_ok noLoop_low (noLoop_ok _) (fd_run0 A m N o) (fun i hi => by cases hi; decide) (fdP_ok hA hm hN hb)
  | some e =>
    obtain rfl : e = 3 := Nat.eq_of_beq_eq_true he
    exact effR_ok noNG nil3_ok noLoop_low (noLoop_ok _) (fd_run3 A m N o) (fun i hi => by cases hi; decide) (fdP_ok hA hm hN hb)
/-- Where the small memory's blocks stand. -/
def f4 (b0 b1 b2 b3 : Nat) : Nat → Nat := fun j => bif Nat.beq j 0 then b0 else bif Nat.beq j 1 then b1 else bif Nat.beq j 2 then b2 else b3
def nb (a b : Nat) : Bool := !(Nat.beq a b)
theorem nb_spec {a b : Nat} (h : nb a b = true) : a ≠ b := fun e => by rw [e] at h; simp [nb] at h
def hkFind : Hook3 := fun f args h =>
  if Nat.beq f fdF then
    match args with
    | [.pointer (some ⟨b, 0, none⟩), .int .u64 A, .int .i64 m] =>
      match h[b]? with
      | some ⟨true, none, [.bool true, .slice (some ⟨b1, 0, none⟩) 2 2]⟩ =>
        match h[b1]? with
        | some ⟨true, e1, [.int .u64 x, .slice (some ⟨b2, 0, none⟩) 3 3, .bool true, .int .u64 y, .slice (some ⟨b3, 0, none⟩) N N', .bool true]⟩ =>
          if decide (x = 1048576) && (decide (y = 1114112) && (Nat.beq N N' && (e1Ok e1 && (okB h[b2]? && (okB h[b3]? && (nb b b1 && (nb b b2 && (nb b b3 && (nb b1 b2 && (nb b1 b3 && (nb b2 b3 && (decide (1114112 ≤ A) && (decide (1 ≤ m) && (decide (A - 1114112 + m ≤ N) && decide (N < 1000000))))))))))))))) then
            some (.tuple ⟨[.agg ⟨[.int .u64 1114112, .slice (some ⟨b3, 0, none⟩) N N, .bool true]⟩, .int .i64 (A - 1114112), .int .i64 0]⟩, [], [])
          else none
        | _ => none
      | _ => none
    | _ => none
  else none
theorem hkFind_ok : HookOk3 Try.prog hkFind := by
  intro f args h v new cs hv hc wb k s w args' hbd H ha
  unfold hkFind at hv
  split at hv
  · rename_i hf
    obtain rfl := Nat.eq_of_beq_eq_true hf
    split at hv
    · rename_i b A m
      split at hv
      · rename_i b1 hb0
        split at hv
        · rename_i e1 x b2 y b3 N N' hb1
          split at hv
          · rename_i hcond
            cases hv
            simp only [Bool.and_eq_true, decide_eq_true_eq] at hcond
            obtain ⟨rfl, rfl, hNN, he, k2, k3, n01, n02, n03, n12, n13, n23, hA, hm, hN, hbig⟩ := hcond
            obtain rfl := Nat.eq_of_beq_eq_true hNN
            obtain ⟨x2, g2, l2, e2⟩ := okB_spec k2
            obtain ⟨x3, g3, l3, e3⟩ := okB_spec k3
            have m01 := nb_spec n01
            have m02 := nb_spec n02
            have m03 := nb_spec n03
            have m12 := nb_spec n12
            have m13 := nb_spec n13
            have m23 := nb_spec n23
            obtain ⟨o, ho⟩ := Int.eq_ofNat_of_zero_le (show 0 ≤ A - 1114112 by omega)
            have E := c_find he (A := A) (m := m) (N := N) (o := o) (by omega) hm (by omega) hbig
            have eg : e1 ≠ some GM := by
              rintro rfl
              exact absurd he (by decide)
            have up := read_upV (q := 4) E rfl (by show 4 ≤ 7; decide) rfl rfl rfl H (f := f4 b b1 b2 b3) (fun i j hi hj e => by
              rcases (by omega : i = 0 ∨ i = 1 ∨ i = 2 ∨ i = 3) with rfl | rfl | rfl | rfl <;> rcases (by omega : j = 0 ∨ j = 1 ∨ j = 2 ∨ j = 3) with rfl | rfl | rfl | rfl <;>
                first | rfl | exact absurd e m01 | exact absurd e m02 | exact absurd e m03 | exact absurd e m12 | exact absurd e m13 | exact absurd e m23 | exact absurd e.symm m01 | exact absurd e.symm m02 | exact absurd e.symm m03 | exact absurd e.symm m12 | exact absurd e.symm m13 | exact absurd e.symm m23)
              (fun j hj => by
                rcases (by omega : j = 0 ∨ j = 1 ∨ j = 2 ∨ j = 3) with rfl | rfl | rfl | rfl
                · exact ⟨_, hb0, rfl, fun h => by cases h⟩
                · exact ⟨_, hb1, rfl, eg⟩
                · exact ⟨x2, g2, l2, e2⟩
                · exact ⟨x3, g3, l3, e3⟩)
              (fun j o' ho' hlo => by
                match j, ho' with
                | 0, ho' => cases ho'; exact hb0
                | 1, ho' => cases ho'; exact hb1
                | 2, ho' => cases ho'; cases hlo
                | 3, ho' => cases ho'; cases hlo
                | n + 4, ho' => cases ho') (args := [.pointer (some ⟨b, 0, none⟩), .int .u64 A, .int .i64 m]) rfl ha
            rw [ho]
            have e : hookH h [] = h := (hookH_plain rfl).trans (List.append_nil h)
            rw [e]
            exact up
          · cases hv
        · cases hv
      · cases hv
    · cases hv
  · cases hv
end Go.Proofs.Ytafegjmaldbbiaa.Ex
end
section
namespace Go.Proofs.Ytafegjmaldbbiaa.Ex
open Go Go.RowKit
set_option maxHeartbeats 0
set_option maxRecDepth 1000000
set_option linter.unusedVariables false
set_option linter.unusedSectionVars false
def tld (v : Value) : Value := .tuple ⟨[.nilIface, v]⟩
abbrev ixF : FuncId := 39
noncomputable abbrev ixLp : Code := theLoopN Try.prog ixF 0
theorem ix_one : oneLoopN Try.prog ixF 0 = true := by kernel_rfl
noncomputable def ixT (n c : Nat) (s : ByteArray) (i : Nat) (β : Nat → Value) : List Value := [.slice (some ⟨0, 0, none⟩) n c, .string s, β 2, β 3, β 4, β 5, β 6, .int .i64 (n : Int), .int .i64 (i : Int), β 9, β 10, β 11, β 12, β 13, β 14, β 15, β 16, β 17, β 18]
def ixTs : List Bool := [false, false, true, true, true, true, true, false, false, true, true, true, true, true, true, true, true, true, true]
noncomputable def ixR (r : Int) (β : Nat → Value) : List Value := [β 0, β 1, β 2, β 3, .int .i64 r, β 5, β 6, β 7, β 8, β 9, β 10, β 11, β 12, β 13, β 14, β 15, β 16, β 17, β 18]
def ixRs : List Bool := [true, true, true, true, false, true, true, true, true, true, true, true, true, true, true, true, true, true, true]
noncomputable def ixH (e : Option Nat) (K : List Value) : List AO := [⟨true, e, K⟩]
noncomputable def ixO (i : Nat) (x : ByteArray) (g q : Bool) : Orc := fun f t _ =>
  if Nat.beq f ixF then
    match t with
    | 9 => some (.bool g)
    | 14 => some .nilIface
    | 15 => some (tld (.string x))
    | 16 => some (.bool q)
    | 18 => some (.int .i64 ((i + 1 : Nat) : Int))
    | _ => none
  else none
def ixA (n c : Nat) (s : ByteArray) : List Value := [.slice (some ⟨0, 0, none⟩) n c, .string s]
end Go.Proofs.Ytafegjmaldbbiaa.Ex
end
section
namespace Go.Proofs.Ytafegjmaldbbiaa.Ex
open Go Go.RowKit
set_option maxHeartbeats 0
set_option maxRecDepth 1000000
set_option linter.unusedVariables false
set_option linter.unusedSectionVars false
noncomputable def ixN (β : Nat → Value) : List Value := [β 0, β 1, β 2, β 3, β 4, β 5, β 6, β 7, β 8, β 9, β 10, β 11, β 12, β 13, β 14, β 15, β 16, β 17, β 18]
def ixNs : List Bool := [true, true, true, true, true, true, true, true, true, true, true, true, true, true, true, true, true, true, true]
noncomputable def ixE (n c : Nat) (s : ByteArray) : List Value := [.slice (some ⟨0, 0, none⟩) n c, .string s, .tuple ⟨[]⟩, .tuple ⟨[]⟩, .int .i64 0, .tuple ⟨[]⟩, .slice (some ⟨0, 0, none⟩) n c, .int .i64 (n : Int), .int .i64 0, .tuple ⟨[]⟩, .tuple ⟨[]⟩, .tuple ⟨[]⟩, .tuple ⟨[]⟩, .tuple ⟨[]⟩, .tuple ⟨[]⟩, .tuple ⟨[]⟩, .tuple ⟨[]⟩, .tuple ⟨[]⟩, .tuple ⟨[]⟩]
noncomputable def ixP (K : List Value) (n i : Nat) (s x : ByteArray) (q : Bool) : Cs := [(b2i (decide ((i : Int) < (n : Int))), 1), (b2i (decide (0 ≤ (i : Int)) && decide ((i : Int) < (n : Nat))), 1), (b2i (decide (0 + i * 1 < K.length)), 1), (b2i (sameC (some (.value (K.getD (0 + i * 1) .nilFunc), [], none)) (some (.value (.string x), [], none))), 1), (b2i (s.data.toList == x.data.toList), b2i q)]
def ixI (i : Nat) : Cs := [(IntKind.i64.wrap ((i : Int) + 1), ((i + 1 : Nat) : Int))]
theorem ix_hop0 (n c : Nat) (s : ByteArray) (K : List Value) (i : Nat) (x : ByteArray) (β : Nat → Value) : (iterB (bodyL Try.prog nil3 (ixO i x true false) noLoop ixF ixLp) 1 ⟨ixT n c s i β, ixH none K, (none, [])⟩).map (fun x => (maskQ ixTs x.t, x.h, x.m.1, inter x.m.2)) = some (ixT n c s (i + 1) fun _ => .bool true, ixH none K, none, inter (ixP K n i s x false ++ ixI i)) := by kernel_rfl
theorem ix_fnd0 (n c : Nat) (s : ByteArray) (K : List Value) (i : Nat) (x : ByteArray) (β : Nat → Value) : (loopN (bodyL Try.prog nil3 (ixO i x true true) noLoop ixF ixLp) 1 ⟨ixT n c s i β, ixH none K, (none, [])⟩).map (fun r => (r.1, maskQ ixRs r.2.t, r.2.h, r.2.m.1, inter r.2.m.2)) = some (.ret, ixR i fun _ => .bool true, ixH none K, none, inter (ixP K n i s x true)) := by kernel_rfl
theorem ix_end0 (n c : Nat) (s : ByteArray) (K : List Value) (β : Nat → Value) : (loopN (bodyL Try.prog nil3 (ixO n s false true) noLoop ixF ixLp) 1 ⟨ixT n c s n β, ixH none K, (none, [])⟩).map (fun r => (r.1, maskQ ixNs r.2.t, r.2.h, r.2.m.1, inter r.2.m.2)) = some (.exit 0, ixN fun _ => .bool true, ixH none K, none, inter [(b2i (decide ((n : Int) < (n : Int))), 0)]) := by kernel_rfl
theorem ix_hop1 (n c : Nat) (s : ByteArray) (K : List Value) (i : Nat) (x : ByteArray) (β : Nat → Value) : (iterB (bodyL Try.prog nil3 (ixO i x true false) noLoop ixF ixLp) 1 ⟨ixT n c s i β, ixH (some 1) K, (none, [])⟩).map (fun x => (maskQ ixTs x.t, x.h, x.m.1, inter x.m.2)) = some (ixT n c s (i + 1) fun _ => .bool true, ixH (some 1) K, none, inter (ixP K n i s x false ++ ixI i)) := by kernel_rfl
theorem ix_fnd1 (n c : Nat) (s : ByteArray) (K : List Value) (i : Nat) (x : ByteArray) (β : Nat → Value) : (loopN (bodyL Try.prog nil3 (ixO i x true true) noLoop ixF ixLp) 1 ⟨ixT n c s i β, ixH (some 1) K, (none, [])⟩).map (fun r => (r.1, maskQ ixRs r.2.t, r.2.h, r.2.m.1, inter r.2.m.2)) = some (.ret, ixR i fun _ => .bool true, ixH (some 1) K, none, inter (ixP K n i s x true)) := by kernel_rfl
theorem ix_end1 (n c : Nat) (s : ByteArray) (K : List Value) (β : Nat → Value) : (loopN (bodyL Try.prog nil3 (ixO n s false true) noLoop ixF ixLp) 1 ⟨ixT n c s n β, ixH (some 1) K, (none, [])⟩).map (fun r => (r.1, maskQ ixNs r.2.t, r.2.h, r.2.m.1, inter r.2.m.2)) = some (.exit 0, ixN fun _ => .bool true, ixH (some 1) K, none, inter [(b2i (decide ((n : Int) < (n : Int))), 0)]) := by kernel_rfl
/-- Where a text stands first, from place i on. -/
def ixS (s : ByteArray) : List Value → Nat → Int
  | .string x :: l, i => bif s.data.toList == x.data.toList then (i : Int) else ixS s l (i + 1)
  | _, _ => -1
def isS : Value → Bool
  | .string _ => true
  | _ => false
noncomputable def ixZ (r : Int) (β : Nat → Value) : Exit × List Value := bif r == -1 then (.exit 0, ixN β) else (.ret, ixR r β)
noncomputable def ixQ (e : Option Nat) (K : List Value) (n c : Nat) (s : ByteArray) (r : Int) (β : Nat → Value) : LoopQ := ⟨ixF, 0, fun _ => true, ixE n c s, ixH e K, (ixZ r β).1, (ixZ r β).2, ixH e K, (none, [])⟩
theorem ixE_eq (n c : Nat) (s : ByteArray) : ixT n c s 0 (fun k => (ixE n c s).getD k (.bool true)) = ixE n c s := by kernel_rfl
theorem ix_unT (n c : Nat) (s : ByteArray) (i : Nat) : ∀ β, unmask β 0 ixTs (ixT n c s i fun _ => .bool true) = ixT n c s i β := fun β => rfl
theorem ix_unR (r : Int) : ∀ β, unmask β 0 ixRs (ixR r fun _ => .bool true) = ixR r β := fun β => rfl
theorem ix_unN : ∀ β, unmask β 0 ixNs (ixN fun _ => .bool true) = ixN β := fun β => rfl
noncomputable def ixW (e : Option Nat) (K : List Value) (n c : Nat) (s : ByteArray) : Cs := [prP (ixE n c s = ixE n c s), prP (ixH e K = ixH e K)]
theorem ix_runR0 (K : List Value) (n c : Nat) (s : ByteArray) (r : Int) (β : Nat → Value) : effR Try.prog nil3 noOrc (loopQHook [⟨ixF, 0, fun _ => true, ixE n c s, ixH none K, .ret, ixR r β, ixH none K, (none, [])⟩]) (ixH none K) ixF (ixA n c s) = some (.int .i64 r, ixH none K, none, inter (ixW none K n c s)) := by kernel_rfl
theorem ix_runN0 (K : List Value) (n c : Nat) (s : ByteArray) (β : Nat → Value) : effR Try.prog nil3 noOrc (loopQHook [⟨ixF, 0, fun _ => true, ixE n c s, ixH none K, .exit 0, ixN β, ixH none K, (none, [])⟩]) (ixH none K) ixF (ixA n c s) = some (.int .i64 (-1), ixH none K, none, inter (ixW none K n c s)) := by kernel_rfl
theorem ix_runR1 (K : List Value) (n c : Nat) (s : ByteArray) (r : Int) (β : Nat → Value) : effR Try.prog nil3 noOrc (loopQHook [⟨ixF, 0, fun _ => true, ixE n c s, ixH (some 1) K, .ret, ixR r β, ixH (some 1) K, (none, [])⟩]) (ixH (some 1) K) ixF (ixA n c s) = some (.int .i64 r, ixH (some 1) K, none, inter (ixW (some 1) K n c s)) := by kernel_rfl
theorem ix_runN1 (K : List Value) (n c : Nat) (s : ByteArray) (β : Nat → Value) : effR Try.prog nil3 noOrc (loopQHook [⟨ixF, 0, fun _ => true, ixE n c s, ixH (some 1) K, .exit 0, ixN β, ixH (some 1) K, (none, [])⟩]) (ixH (some 1) K) ixF (ixA n c s) = some (.int .i64 (-1), ixH (some 1) K, none, inter (ixW (some 1) K n c s)) := by kernel_rfl
def e2Ok (e : Option Nat) : Bool := match e with
  | none => true
  | some e => Nat.beq e 1
theorem ixP_ok {K : List Value} {n i : Nat} {s x : ByteArray} {q : Bool} (hl : K.length = n) (hi : i < n) (hx : K.getD (0 + i * 1) .nilFunc = .string x) (hq : (s.data.toList == x.data.toList) = q) : AE (ixP K n i s x q) :=
  AE.cons (b1 (by omega)) (AE.cons (bt (by rw [decide_eq_true (by omega : (0 : Int) ≤ i), decide_eq_true (by omega : (i : Int) < n)]; rfl)) (AE.cons (b1 (by omega)) (AE.consP (same_ok (by rw [hx])) (AE.cons (by rw [hq]) AE.nil))))
section
variable {e : Option Nat} {K : List Value} {n c : Nat} {s : ByteArray} (he : e2Ok e = true) (hl : K.length = n) (hn : n < 1000000) (hK : K.all isS = true)
include he
theorem ix_hopE (i : Nat) (x : ByteArray) (β : Nat → Value) : (iterB (bodyL Try.prog nil3 (ixO i x true false) noLoop ixF ixLp) 1 ⟨ixT n c s i β, ixH e K, (none, [])⟩).map (fun x => (maskQ ixTs x.t, x.h, x.m.1, inter x.m.2)) = some (ixT n c s (i + 1) fun _ => .bool true, ixH e K, none, inter (ixP K n i s x false ++ ixI i)) := by
  cases e with
  | none => exact ix_hop0 n c s K i x β
  | some e =>
    obtain rfl : e = 1 := Nat.eq_of_beq_eq_true he
    exact ix_hop1 n c s K i x β
theorem ix_fndE (i : Nat) (x : ByteArray) (β : Nat → Value) : (loopN (bodyL Try.prog nil3 (ixO i x true true) noLoop ixF ixLp) 1 ⟨ixT n c s i β, ixH e K, (none, [])⟩).map (fun r => (r.1, maskQ ixRs r.2.t, r.2.h, r.2.m.1, inter r.2.m.2)) = some (.ret, ixR i fun _ => .bool true, ixH e K, none, inter (ixP K n i s x true)) := by
  cases e with
  | none => exact ix_fnd0 n c s K i x β
  | some e =>
    obtain rfl : e = 1 := Nat.eq_of_beq_eq_true he
    exact ix_fnd1 n c s K i x β
theorem ix_endE (β : Nat → Value) : (loopN (bodyL Try.prog nil3 (ixO n s false true) noLoop ixF ixLp) 1 ⟨ixT n c s n β, ixH e K, (none, [])⟩).map (fun r => (r.1, maskQ ixNs r.2.t, r.2.h, r.2.m.1, inter r.2.m.2)) = some (.exit 0, ixN fun _ => .bool true, ixH e K, none, inter [(b2i (decide ((n : Int) < (n : Int))), 0)]) := by
  cases e with
  | none => exact ix_end0 n c s K β
  | some e =>
    obtain rfl : e = 1 := Nat.eq_of_beq_eq_true he
    exact ix_end1 n c s K β
include hl hn hK
theorem ix_stop : ∀ (d i : Nat) (β : Nat → Value), i + d = n → ∃ N β', Stop Try.prog ixLp N (ixT n c s i β) (ixH e K) (ixZ (ixS s (K.drop i) i) β').1 (ixZ (ixS s (K.drop i) i) β').2 (ixH e K) (none, [])
  | 0, i, β, h => by
    obtain rfl : i = n := by omega
    rw [List.drop_eq_nil_of_le (by omega)]
    obtain ⟨β', Q⟩ := stopM_ok noNG nil3_ok noLoop_low (noLoop_ok _) ix_one ix_unN (ix_endE he β) (AE.cons (b0 (by omega)) AE.nil)
    exact ⟨1, β', Q⟩
  | d + 1, i, β, h => by
    have hi : i < K.length := by omega
    obtain ⟨x, hx⟩ : ∃ x, K[i] = .string x := by
      have := List.all_eq_true.1 hK K[i] (List.getElem_mem hi)
      generalize K[i] = v at this
      cases v <;> first | exact ⟨_, rfl⟩ | cases this
    have hg : K.getD (0 + i * 1) .nilFunc = .string x := by
      rw [Nat.zero_add, Nat.mul_one, List.getD_eq_getElem?_getD, List.getElem?_eq_getElem hi, hx]
      rfl
    rw [List.drop_eq_getElem_cons hi, hx]
    cases hq : s.data.toList == x.data.toList with
    | true =>
      have er : ixS s (.string x :: K.drop (i + 1)) i = (i : Int) := by unfold ixS; rw [hq]; rfl
      have ez : ∀ β, ixZ (i : Int) β = (.ret, ixR i β) := fun β => by
        unfold ixZ
        rw [show ((i : Int) == -1) = false by simp only [beq_eq_false_iff_ne]; omega]
        rfl
      obtain ⟨β', Q⟩ := stopM_ok noNG nil3_ok noLoop_low (noLoop_ok _) ix_one (ix_unR i) (ix_fndE he i x β) (ixP_ok hl (by omega) hg hq)
      refine ⟨1, β', ?_⟩
      rw [er, ez]
      exact Q
    | false =>
      have er : ixS s (.string x :: K.drop (i + 1)) i = ixS s (K.drop (i + 1)) (i + 1) := by
        conv => lhs; unfold ixS
        rw [hq]
        rfl
      obtain ⟨β1, q1⟩ := hopM_ok noNG nil3_ok noLoop_low (noLoop_ok _) ix_one (ix_unT n c s (i + 1)) (ix_hopE he i x β) (AE.app (ixP_ok hl (by omega) hg hq) (AE.cons (by
        show IntKind.i64.wrap ((i : Int) + 1) = ((i + 1 : Nat) : Int)
        exact (wi_id (by omega) (by omega)).trans (by omega)) AE.nil))
      obtain ⟨N, β2, q2⟩ := ix_stop d (i + 1) β1 (by omega)
      refine ⟨1 + N, β2, ?_⟩
      rw [er]
      exact q1.stop' q2 (fun _ h => h) (fun _ h => h)
theorem c_idx : ∃ hE, EffCall Try.prog ixF 1 (ixH e K) (ixA n c s) (.int .i64 (ixS s K 0)) hE := by
  obtain ⟨N, β, q⟩ := ix_stop (c := c) (s := s) he hl hn hK n 0 (fun k => (ixE n c s).getD k (.bool true)) (by omega)
  rw [ixE_eq, List.drop_zero] at q
  generalize hr : ixS s K 0 = r at q
  refine ⟨ixH e K, ?_⟩
  have pw : AE (ixW e K n c s) := AE.consP (prP_ok rfl) (AE.consP (prP_ok rfl) AE.nil)
  cases e with
  | none =>
    by_cases hz : r = -1
    · subst hz
      exact effR_ok noNG nil3_ok (loopQHook_low _) (loopQHook_ok fun e he => by rw [List.mem_singleton.1 he]; exact loopQ_ok ix_one q) (ix_runN0 K n c s β) (fun i hi => by cases hi) pw
    · have ez : ixZ r β = (.ret, ixR r β) := by
        unfold ixZ
        rw [show (r == -1) = false by simpa using hz]
        rfl
      rw [ez] at q
      exact effR_ok noNG nil3_ok (loopQHook_low _) (loopQHook_ok fun e he => by rw [List.mem_singleton.1 he]; exact loopQ_ok ix_one q) (ix_runR0 K n c s r β) (fun i hi => by cases hi) pw
  | some e =>
    obtain rfl : e = 1 := Nat.eq_of_beq_eq_true he
    by_cases hz : r = -1
    · subst hz
      exact effR_ok noNG nil3_ok (loopQHook_low _) (loopQHook_ok fun e he => by rw [List.mem_singleton.1 he]; exact loopQ_ok ix_one q) (ix_runN1 K n c s β) (fun i hi => by cases hi) pw
    · have ez : ixZ r β = (.ret, ixR r β) := by
        unfold ixZ
        rw [show (r == -1) = false by simpa using hz]
        rfl
      rw [ez] at q
      exact effR_ok noNG nil3_ok (loopQHook_low _) (loopQHook_ok fun e he => by rw [List.mem_singleton.1 he]; exact loopQ_ok ix_one q) (ix_runR1 K n c s r β) (fun i hi => by cases hi) pw
end
theorem isS_flat {K : List Value} (h : K.all isS = true) : K.all Ex.flat = true := List.all_eq_true.2 fun v hv => by
  have := List.all_eq_true.1 h v hv
  cases v <;> first | rfl | cases this
def hkIdx : FuncId → List Value → List AO → Option (Value × Cs) := fun f args h =>
  if Nat.beq f ixF then
    match args with
    | [.slice (some ⟨b, 0, none⟩) n c, .string s] =>
      match h[b]? with
      | some ⟨true, e, K⟩ => if e2Ok e && (Nat.beq K.length n && (Nat.blt n 1000000 && K.all isS)) then some (.int .i64 (ixS s K 0), []) else none
      | _ => none
    | _ => none
  else none
theorem hkIdx_ok : HookOk2 Try.prog hkIdx := by
  intro f args h v cs hv hc wb k s w args' H ha
  unfold hkIdx at hv
  split at hv
  · rename_i hf
    obtain rfl := Nat.eq_of_beq_eq_true hf
    split at hv
    · rename_i b n c sx
      split at hv
      · rename_i e K hb
        split at hv
        · rename_i hcond
          cases hv
          simp only [Bool.and_eq_true] at hcond
          obtain ⟨he, hl, hn, hK⟩ := hcond
          have hl := Nat.eq_of_beq_eq_true hl
          have hn : n < 1000000 := by
            unfold Nat.blt at hn
            have := Nat.le_of_ble_eq_true hn
            omega
          have hF := isS_flat hK
          obtain ⟨hE, E⟩ := c_idx (c := c) (s := sx) he hl hn hK
          have refs : K.all (refF (fun x => decide (x < 1)) 6) = true := List.all_eq_true.2 fun v hv => refF_flat 4 (List.all_eq_true.1 hF v hv)
          have eg : e ≠ some GM := by
            rintro rfl
            exact absurd he (by decide)
          exact read_up (q := 1) E rfl (by
              show ((!true || K.all (refF (fun x => decide (x < 1)) 6)) && true) = true
              rw [refs]; rfl) rfl rfl H (f := fun _ => b) (fun i j hi hj _ => by omega)
            (fun j hj => ⟨_, hb, rfl, eg⟩)
            (fun j o ho hlo => by
              match j, ho with
              | 0, ho =>
                cases ho
                show h[b]? = some ⟨true, e, K.map (reV (fun _ => b) 6)⟩
                rw [map_id_all (fun v hv => reV_flat 6 hv) (l := K) hF]
                exact hb
              | n + 1, ho => cases ho) (args := [.slice (some ⟨b, 0, none⟩) n c, .string sx]) rfl ha
        · cases hv
      · cases hv
    · cases hv
  · cases hv
end Go.Proofs.Ytafegjmaldbbiaa.Ex
end
section
namespace Go.Proofs.Ytafegjmaldbbiaa.Ex
open Go Go.RowKit
set_option linter.unusedVariables false
noncomputable def mk3 : Hook3 := or3 (liftH hkIdx) (or3 hkFind ar3)
theorem mk3_ok : HookOk3 Try.prog mk3 := or3_ok (lift_ok hkIdx_ok) (or3_ok hkFind_ok ar3_ok)
abbrev mkF : FuncId := 5
noncomputable abbrev mkLp : Code := theLoopN Try.prog mkF 0
theorem mk_one : oneLoopN Try.prog mkF 0 = true := by kernel_rfl
/-- The mark of a call that writes, at the end of a region that draws its order: it is not tried ahead. -/
def noTry : Value := .tuple ⟨[.nilIface, .nilIface, .nilIface]⟩
def mkO (n k : Int) : Orc := fun f t _ =>
  if Nat.beq f mkF then
    match t with
    | 16 => some (.int .i64 (n - 1))
    | 35 => some .nilIface
    | 37 => some noTry
    | 42 => some (.int .i64 k)
    | _ => none
  else if Nat.beq f 10 then (match t with | 94 => some noTry | _ => none)
  else none
end Go.Proofs.Ytafegjmaldbbiaa.Ex
end
section
namespace Go.Proofs.Ytafegjmaldbbiaa.Ex
open Go Go.RowKit
set_option maxHeartbeats 0
set_option maxRecDepth 1000000
set_option linter.unusedVariables false
set_option linter.unusedSectionVars false
noncomputable abbrev UUU : Value := .tuple ⟨[]⟩
noncomputable def mkE (n : Nat) (A B : Int) : List Value := [.int .u8 A, .int .u8 B, UUU, UUU, .bool false, .int .i64 (n : Int), .pointer (some ⟨22, 0, none⟩), .pointer (some ⟨8, 0, none⟩), .int .i64 0, UUU, UUU, UUU, UUU, UUU, .int .u8 A, .int .i64 (IntKind.i64.wrap A), .int .i64 ((n : Int) - 1), .int .i64 (n : Int), .tuple ⟨[.pointer (some ⟨22, 0, none⟩), .pointer (some ⟨8, 0, none⟩)]⟩, .int .i64 (n : Int), .tuple ⟨[.pointer (some ⟨22, 0, none⟩), .pointer (some ⟨8, 0, none⟩)]⟩, .pointer (some ⟨22, 0, none⟩), .pointer (some ⟨8, 0, none⟩), UUU, UUU, UUU, UUU, UUU, UUU, UUU, UUU, UUU, UUU, UUU, UUU, UUU, UUU, UUU, UUU, UUU, UUU, UUU, UUU, UUU, UUU, UUU, UUU, UUU, UUU, UUU, UUU, UUU, UUU, UUU, UUU, UUU, UUU, UUU, UUU, UUU, UUU, UUU, UUU, UUU, UUU, UUU, UUU, UUU, UUU, UUU, UUU, UUU, UUU, UUU, UUU, UUU, UUU, UUU, UUU, UUU, UUU, UUU, UUU, UUU, UUU, UUU, UUU, UUU, UUU, UUU, UUU, UUU, UUU, UUU, UUU, UUU, UUU, UUU, UUU, UUU, UUU, UUU, UUU, UUU, UUU, UUU, UUU, UUU, UUU, UUU, UUU, UUU, UUU, UUU, UUU, UUU, UUU, UUU, UUU, UUU, UUU, UUU, UUU, UUU, UUU, UUU, UUU, UUU, UUU, UUU, UUU, UUU, UUU, UUU, UUU, UUU, UUU, UUU, UUU, UUU, UUU, UUU]
noncomputable def mkT (n : Nat) (B : Int) (i : Nat) (p : Value) (β : Nat → Value) : List Value := [β 0, .int .u8 B, β 2, β 3, .bool false, .int .i64 (n : Int), .pointer (some ⟨22, 0, none⟩), .pointer (some ⟨8, 0, none⟩), .int .i64 (i : Int), β 9, β 10, β 11, β 12, β 13, β 14, β 15, β 16, β 17, β 18, β 19, β 20, β 21, β 22, β 23, β 24, β 25, β 26, β 27, β 28, β 29, β 30, β 31, β 32, β 33, p, β 35, β 36, β 37, β 38, β 39, β 40, β 41, β 42, β 43, β 44, β 45, β 46, β 47, β 48, β 49, β 50, β 51, β 52, β 53, β 54, β 55, β 56, β 57, β 58, β 59, β 60, β 61, β 62, β 63, β 64, β 65, β 66, β 67, β 68, β 69, β 70, β 71, β 72, β 73, β 74, β 75, β 76, β 77, β 78, β 79, β 80, β 81, β 82, β 83, β 84, β 85, β 86, β 87, β 88, β 89, β 90, β 91, β 92, β 93, β 94, β 95, β 96, β 97, β 98, β 99, β 100, β 101, β 102, β 103, β 104, β 105, β 106, β 107, β 108, β 109, β 110, β 111, β 112, β 113, β 114, β 115, β 116, β 117, β 118, β 119, β 120, β 121, β 122, β 123, β 124, β 125, β 126, β 127, β 128, β 129, β 130, β 131, β 132, β 133, β 134, β 135, β 136, β 137, β 138, β 139, β 140, β 141]
def mkZ : List Bool := [true, false, true, true, false, false, false, false, false, true, true, true, true, true, true, true, true, true, true, true, true, true, true, true, true, true, true, true, true, true, true, true, true, true, false, true, true, true, true, true, true, true, true, true, true, true, true, true, true, true, true, true, true, true, true, true, true, true, true, true, true, true, true, true, true, true, true, true, true, true, true, true, true, true, true, true, true, true, true, true, true, true, true, true, true, true, true, true, true, true, true, true, true, true, true, true, true, true, true, true, true, true, true, true, true, true, true, true, true, true, true, true, true, true, true, true, true, true, true, true, true, true, true, true, true, true, true, true, true, true, true, true, true, true, true, true, true, true, true, true, true, true]
noncomputable def mkN (n : Nat) (B : Int) (β : Nat → Value) : List Value := [β 0, .int .u8 B, β 2, β 3, .bool false, .int .i64 (n : Int), .pointer (some ⟨22, 0, none⟩), .pointer (some ⟨8, 0, none⟩), β 8, β 9, β 10, β 11, β 12, β 13, β 14, β 15, β 16, β 17, β 18, β 19, β 20, β 21, β 22, β 23, β 24, β 25, β 26, β 27, β 28, β 29, β 30, β 31, β 32, β 33, β 34, β 35, β 36, β 37, β 38, β 39, β 40, β 41, β 42, β 43, β 44, β 45, β 46, β 47, β 48, β 49, β 50, β 51, β 52, β 53, β 54, β 55, β 56, β 57, β 58, β 59, β 60, β 61, β 62, β 63, β 64, β 65, β 66, β 67, β 68, β 69, β 70, β 71, β 72, β 73, β 74, β 75, β 76, β 77, β 78, β 79, β 80, β 81, β 82, β 83, β 84, β 85, β 86, β 87, β 88, β 89, β 90, β 91, β 92, β 93, β 94, β 95, β 96, β 97, β 98, β 99, β 100, β 101, β 102, β 103, β 104, β 105, β 106, β 107, β 108, β 109, β 110, β 111, β 112, β 113, β 114, β 115, β 116, β 117, β 118, β 119, β 120, β 121, β 122, β 123, β 124, β 125, β 126, β 127, β 128, β 129, β 130, β 131, β 132, β 133, β 134, β 135, β 136, β 137, β 138, β 139, β 140, β 141]
def mkNs : List Bool := [true, false, true, true, false, false, false, false, true, true, true, true, true, true, true, true, true, true, true, true, true, true, true, true, true, true, true, true, true, true, true, true, true, true, true, true, true, true, true, true, true, true, true, true, true, true, true, true, true, true, true, true, true, true, true, true, true, true, true, true, true, true, true, true, true, true, true, true, true, true, true, true, true, true, true, true, true, true, true, true, true, true, true, true, true, true, true, true, true, true, true, true, true, true, true, true, true, true, true, true, true, true, true, true, true, true, true, true, true, true, true, true, true, true, true, true, true, true, true, true, true, true, true, true, true, true, true, true, true, true, true, true, true, true, true, true, true, true, true, true, true, true]
noncomputable def mkH (n : Nat) (K D : List Value) : List AO := [⟨true, none, [.int .i64 1, .int .i64 4, .int .i64 1, .int .i64 3, .int .i64 2, .int .i64 2, .int .i64 3, .int .i64 (n : Int)]⟩, ⟨true, none, [.int .i64 1, .int .i64 4, .int .i64 1, .int .i64 3]⟩, ⟨true, none, [.int .u64 1048576, .string ⟨⟨[0, 0, 0]⟩⟩, .bool true]⟩, dead, ⟨true, none, [.int .i64 2, .int .i64 2, .int .i64 3, .int .i64 (n : Int)]⟩, ⟨true, none, [.int .u64 1114112, .string ⟨⟨List.replicate (3 * n) 0⟩⟩, .bool true]⟩, ⟨true, some 3, [.int .u64 1048576, .string ⟨⟨[0, 0, 0]⟩⟩, .bool true, .int .u64 1114112, .string ⟨⟨List.replicate (3 * n) 0⟩⟩, .bool true]⟩, ⟨true, none, [.int .u64 1048576, .slice (some ⟨10, 0, none⟩) 3 3, .bool true, .int .u64 1114112, .slice (some ⟨13, 0, none⟩) (3 * n) (3 * n), .bool true]⟩, ⟨true, none, [.bool true, .slice (some ⟨7, 0, none⟩) 2 2]⟩, ⟨true, none, [.int .u64 1048576, .string ⟨⟨[0, 0, 0]⟩⟩, .bool true]⟩, ⟨true, some 1, [.int .u8 0, .int .u8 0, .int .u8 0]⟩, ⟨true, none, [.int .u64 1048576, .slice (some ⟨10, 0, none⟩) 3 3, .bool true]⟩, ⟨true, none, [.int .u64 1114112, .string ⟨⟨List.replicate (3 * n) 0⟩⟩, .bool true]⟩, ⟨true, some 1, D⟩, ⟨true, none, [.int .u64 1114112, .slice (some ⟨13, 0, none⟩) (3 * n) (3 * n), .bool true]⟩, ⟨true, none, [.int .u64 1048576, .slice (some ⟨10, 0, none⟩) 3 3, .bool true]⟩, ⟨true, none, [.int .i64 1, .int .i64 4, .int .i64 1, .int .i64 3]⟩, ⟨true, none, [.int .u64 1048576, .string ⟨⟨[0, 0, 0]⟩⟩, .bool true]⟩, dead, ⟨true, none, [.int .i64 2, .int .i64 2, .int .i64 3, .int .i64 (n : Int)]⟩, ⟨true, none, [.int .u64 1114112, .string ⟨⟨List.replicate (3 * n) 0⟩⟩, .bool true]⟩, ⟨true, some 3, [.int .u64 1048576, .string ⟨⟨[0, 0, 0]⟩⟩, .bool true, .int .u64 1114112, .string ⟨⟨List.replicate (3 * n) 0⟩⟩, .bool true]⟩, ⟨true, none, [.bool true, .slice (some ⟨30, 0, none⟩) 2 2, .slice (some ⟨35, 0, none⟩) 2 2, .pointer (some ⟨8, 0, none⟩)]⟩, ⟨true, none, [.int .i64 1, .int .i64 4, .int .i64 1, .int .i64 3]⟩, ⟨true, none, [.int .i64 1, .int .i64 4, .int .i64 1, .int .i64 3]⟩, dead, ⟨true, none, [.iface 119 (.agg ⟨[.int .i64 3]⟩)]⟩, dead, ⟨true, none, [.int .i64 2, .int .i64 2, .int .i64 3, .int .i64 (n : Int)]⟩, ⟨true, none, [.int .i64 2, .int .i64 2, .int .i64 3, .int .i64 (n : Int)]⟩, ⟨true, some 4, [.int .i64 1, .int .i64 4, .int .i64 1, .int .i64 3, .int .i64 2, .int .i64 2, .int .i64 3, .int .i64 (n : Int)]⟩, ⟨true, none, [.int .i64 2, .int .i64 2, .int .i64 3, .int .i64 (n : Int)]⟩, ⟨true, none, K⟩, ⟨true, none, [.slice (some ⟨32, 0, none⟩) n n]⟩, ⟨true, none, [.iface 66 (.pointer (some ⟨33, 0, none⟩))]⟩, ⟨true, some 1, [.iface 119 (.agg ⟨[.int .i64 3]⟩), .iface 66 (.pointer (some ⟨33, 0, none⟩))]⟩]
/-- The first i keys, and their values. -/
def mkK (n i : Nat) : List Value := (List.range n).map fun j => .string (bif Nat.blt j i then ⟨⟨[UInt8.ofNat j, 0]⟩⟩ else ⟨⟨[]⟩⟩)
def mkD (n i : Nat) : List Value := (List.range n).flatMap fun j => bif Nat.blt j i then [.int .u8 97, .int .u8 98, .int .u8 (Int.ofNat j)] else [.int .u8 0, .int .u8 0, .int .u8 0]
def mkCh (k : Nat) : Bool := Nat.ble 23 k && Nat.ble k 38
end Go.Proofs.Ytafegjmaldbbiaa.Ex
end
section
namespace Go.Proofs.Ytafegjmaldbbiaa
open Go.ChangeShapes Go.WideShapes Go.RowKit

inductive Kd where
  | i (k : IntKind)
  | b
  | s
def Kd.ok : Kd → Value → Prop
  | .i k, v => ∃ n, v = .int k n ∧ (Lit.int k n).wf = true
  | .b, v => ∃ x, v = .bool x
  | .s, v => ∃ x : ByteArray, v = .string x ∧ x.size ≤ maxLen
def okL : List Kd → List Value → Prop
  | [], [] => True
  | k :: ks, v :: vs => k.ok v ∧ okL ks vs
  | _, _ => False
theorem okL.nil {cs : List Value} (h : okL [] cs) : cs = [] := by cases cs with | nil => rfl | cons _ _ => exact h.elim
theorem okL.cons {k : Kd} {ks : List Kd} {cs : List Value} (h : okL (k :: ks) cs) : ∃ v vs, cs = v :: vs ∧ k.ok v ∧ okL ks vs := by
  cases cs with
  | nil => exact h.elim
  | cons v vs => exact ⟨v, vs, rfl, h.1, h.2⟩
theorem okL.length : ∀ {ks : List Kd} {cs : List Value}, okL ks cs → cs.length = ks.length
  | [], cs, h => by rw [h.nil]; rfl
  | k :: ks, cs, h => by
    obtain ⟨v, vs, rfl, _, h2⟩ := h.cons
    simp [okL.length h2]
theorem okL.append : ∀ {ks ls : List Kd} {cs ds : List Value}, okL ks cs → okL ls ds → okL (ks ++ ls) (cs ++ ds)
  | [], ls, cs, ds, h, g => by rw [h.nil]; exact g
  | k :: ks, ls, cs, ds, h, g => by
    obtain ⟨v, vs, rfl, h1, h2⟩ := h.cons
    exact ⟨h1, okL.append h2 g⟩
/-- The kinds of a struct's fields, one behind the other. -/
def kindsF (g : TypeId → Option (List Kd)) (cells : TypeId → Nat) : List Field → Nat → Option (List Kd)
  | [], _ => some []
  | f :: fs, off =>
    match g f.type with
    | some ks =>
      if f.offset = off ∧ cells f.type = ks.length then
        match kindsF g cells fs (off + ks.length) with
        | some ls => some (ks ++ ls)
        | none => none
      else none
    | none => none
def kindsT (P : Program) : Nat → TypeId → Option (List Kd)
  | 0, _ => none
  | f + 1, t =>
    match P.underlying t with
    | some .bool => some [.b]
    | some (.int k) => some [.i k]
    | some .string => some [.s]
    | some (.array n e) =>
      match kindsT P f e with
      | some ks => if P.cellsOf e = ks.length ∧ P.cellsOf t = n * ks.length then some (List.replicate n ks).flatten else none
      | none => none
    | some (.struct fs) =>
      match kindsF (kindsT P f) P.cellsOf fs.toList 0 with
      | some ks => if P.cellsOf t = ks.length then some ks else none
      | none => none
    | _ => none
theorem mapM_same {α β : Type} {g g' : α → Option β} : ∀ {l : List α} {xs : List β}, l.mapM g = some xs → (∀ a ∈ l, ∀ y, g a = some y → g' a = some y) → l.mapM g' = some xs
  | [], xs, h, _ => by simpa using h
  | a :: l, xs, h, hg => by
    simp only [List.mapM_cons] at h ⊢
    cases ha : g a with
    | none => rw [ha] at h; cases h
    | some y =>
      rw [ha] at h
      cases hl : l.mapM g with
      | none => rw [hl] at h; cases h
      | some ys =>
        rw [hl] at h
        rw [hg a (by simp) y ha, mapM_same hl fun b hb => hg b (by simp [hb])]
        exact h
theorem mapM_all {α β : Type} {g : α → Option β} {p : β → Prop} : ∀ {l : List α} {xs : List β}, l.mapM g = some xs → (∀ a ∈ l, ∀ y, g a = some y → p y) → ∀ y ∈ xs, p y
  | [], xs, h, _ => by simp at h; subst h; intro y hy; cases hy
  | a :: l, xs, h, hg => by
    simp only [List.mapM_cons] at h
    cases ha : g a with
    | none => rw [ha] at h; cases h
    | some y =>
      rw [ha] at h
      cases hl : l.mapM g with
      | none => rw [hl] at h; cases h
      | some ys =>
        rw [hl] at h
        cases h
        intro z hz
        rcases List.mem_cons.1 hz with e | e
        · rw [e]; exact hg a (by simp) y ha
        · exact mapM_all hl (fun b hb => hg b (by simp [hb])) z e
theorem mapM_each {α β : Type} {g : α → Option β} : ∀ {l : List α} {xs : List β}, l.mapM g = some xs → ∀ a ∈ l, ∃ y, g a = some y
  | [], _, _, a, ha => by cases ha
  | a :: l, xs, h, b, hb => by
    simp only [List.mapM_cons] at h
    cases ha : g a with
    | none => rw [ha] at h; cases h
    | some y =>
      rw [ha] at h
      cases hl : l.mapM g with
      | none => rw [hl] at h; cases h
      | some ys =>
        rcases List.mem_cons.1 hb with e | e
        · rw [e]; exact ⟨y, ha⟩
        · exact mapM_each hl b e
theorem arr_ok {cs : List Value} {ks : List Kd} : ∀ (m j : Nat), (∀ i, j ≤ i → i < j + m → okL ks ((cs.drop (i * ks.length)).take ks.length)) → okL (List.replicate m ks).flatten ((cs.drop (j * ks.length)).take (m * ks.length))
  | 0, j, _ => by simp [okL]
  | m + 1, j, h => by
    have h1 := h j (Nat.le_refl _) (by omega)
    have h2 := arr_ok m (j + 1) fun i h3 h4 => h i (by omega) (by omega)
    have e : (cs.drop (j * ks.length)).take ((m + 1) * ks.length) = (cs.drop (j * ks.length)).take ks.length ++ (cs.drop ((j + 1) * ks.length)).take (m * ks.length) := by
      rw [show (m + 1) * ks.length = ks.length + m * ks.length by rw [Nat.add_mul]; omega, List.take_add, List.drop_drop, show j * ks.length + ks.length = (j + 1) * ks.length by rw [Nat.add_mul]; omega]
    rw [e, List.replicate_succ, List.flatten_cons]
    exact h1.append h2
theorem str_ok {g : TypeId → Option (List Kd)} {cells : TypeId → Nat} {cs : List Value} : ∀ (fs : List Field) (off : Nat) (ks : List Kd), kindsF g cells fs off = some ks →
    (∀ f ∈ fs, ∀ ls, g f.type = some ls → okL ls ((cs.drop f.offset).take (cells f.type))) → okL ks ((cs.drop off).take ks.length)
  | [], off, ks, h, _ => by simp [kindsF] at h; subst h; simp [okL]
  | f :: fs, off, ks, h, hf => by
    simp only [kindsF] at h
    split at h
    · rename_i k1 hk
      split at h
      · rename_i hc
        split at h
        · rename_i k2 h2
          cases h
          have a1 := hf f (by simp) k1 hk
          rw [hc.1, hc.2] at a1
          have a2 := str_ok fs _ _ h2 fun q hq => hf q (by simp [hq])
          rw [List.length_append, List.take_add, List.drop_drop]
          exact a1.append a2
        · cases h
      · cases h
    · cases h
section
variable {H : Type} {enc : TypeId × Value → H} {P : Program}
theorem plain_kinds : ∀ (f : Nat) {t : TypeId} {ks : List Kd}, kindsT P f t = some ks → ∀ {w : World} {base : Nat} {sp : Nat → Bool} {held : Bool} {n : Nat} {cs : List Value} {x : DataW H × List MemPlace}, DataW.trod enc P w base sp held n t cs = some x → okL ks cs
  | 0, t, ks, h => by simp [kindsT] at h
  | f + 1, t, ks, h => by
    rename_i w base sp held n cs x
    intro hx
    simp only [kindsT] at h
    split at h
    · cases h
      rename_i hu
      cases n with
      | zero => simp [DataW.trod] at hx
      | succ n =>
        simp only [DataW.trod, hu] at hx
        split at hx <;> simp_all [okL, Kd.ok]
    · cases h
      rename_i k hu
      obtain ⟨m, rfl, _, hw⟩ := DataW.trod_int hu hx
      exact ⟨⟨m, rfl, hw⟩, trivial⟩
    · cases h
      rename_i hu
      obtain ⟨m, rfl, _, hw⟩ := DataW.trod_string hu hx
      exact ⟨⟨m, rfl, hw⟩, trivial⟩
    · rename_i m e hu
      split at h
      · rename_i k1 hk
        split at h
        · rename_i hc
          cases h
          obtain ⟨xs, q, rfl, _, hlen, hn, hall⟩ := DataW.trod_array hu hx
          have := arr_ok (cs := cs) (ks := k1) m 0 fun i _ hi => by
            have h1 := hall i (by omega)
            rw [hc.1] at h1
            exact plain_kinds f hk (h1.trans (List.getElem?_eq_getElem (by omega)))
          rw [Nat.zero_mul, List.drop_zero, ← hc.2, ← hlen, List.take_length] at this
          exact this
        · cases h
      · cases h
    · rename_i fs hu
      split at h
      · rename_i k1 hk
        split at h
        · rename_i hc
          cases h
          cases n with
          | zero => simp [DataW.trod] at hx
          | succ n =>
            have hx2 : (if cs.length = P.cellsOf t then (fs.toList.mapM fun f => DataW.trod enc P w base sp held n f.type ((cs.drop f.offset).take (P.cellsOf f.type))).map fun xs => ((DataW.agg (xs.map (·.1)) : DataW H), xs.flatMap (·.2)) else none) = some x := by
              rw [← hx]; simp only [DataW.trod, hu]
            split at hx2
            · rename_i hlen
              cases hm : fs.toList.mapM fun f => DataW.trod enc P w base sp held n f.type ((cs.drop f.offset).take (P.cellsOf f.type)) with
              | none => rw [hm] at hx2; cases hx2
              | some xs =>
                have := str_ok (cs := cs) fs.toList 0 ks hk fun g hg ls hl => by
                  obtain ⟨y, hy⟩ := mapM_each hm g hg
                  exact plain_kinds f hl hy
                rw [List.drop_zero, ← hc, ← hlen, List.take_length] at this
                exact this
            · cases hx2
        · cases h
      · cases h
    · cases h
theorem kindsF_each {g : TypeId → Option (List Kd)} {cells : TypeId → Nat} : ∀ {fs : List Field} {off : Nat} {ks : List Kd}, kindsF g cells fs off = some ks → ∀ f ∈ fs, ∃ ls, g f.type = some ls
  | [], _, _, _, f, hf => by cases hf
  | f :: fs, off, ks, h, q, hq => by
    simp only [kindsF] at h
    split at h
    · rename_i k1 hk
      split at h
      · split at h
        · rename_i k2 h2
          rcases List.mem_cons.1 hq with e | e
          · rw [e]; exact ⟨k1, hk⟩
          · exact kindsF_each h2 q e
        · cases h
      · cases h
    · cases h
theorem plain_any : ∀ (f : Nat) {t : TypeId} {ks : List Kd}, kindsT P f t = some ks → ∀ {w : World} {base : Nat} {sp : Nat → Bool} {held : Bool} {n : Nat} {cs : List Value} {x : DataW H × List MemPlace}, DataW.trod enc P w base sp held n t cs = some x →
    x.2 = [] ∧ ∀ (w' : World) (base' : Nat) (sp' : Nat → Bool) (held' : Bool), DataW.trod enc P w' base' sp' held' n t cs = some x
  | 0, t, ks, h => by simp [kindsT] at h
  | f + 1, t, ks, h => by
    rename_i w base sp held n cs x
    intro hx
    have hk1 := plain_kinds (f + 1) h hx
    simp only [kindsT] at h
    cases n with
    | zero => simp [DataW.trod] at hx
    | succ n =>
      split at h
      · cases h
        rename_i hu
        obtain ⟨v, vs, rfl, ⟨y, rfl⟩, hn⟩ := hk1.cons
        obtain rfl := hn.nil
        simp only [DataW.trod, hu] at hx ⊢
        cases hx
        exact ⟨rfl, fun _ _ _ _ => rfl⟩
      · cases h
        rename_i k hu
        obtain ⟨v, vs, rfl, ⟨y, rfl, hw⟩, hn⟩ := hk1.cons
        obtain rfl := hn.nil
        simp only [DataW.trod, hu, hw, and_self, if_true] at hx ⊢
        cases hx
        exact ⟨rfl, fun _ _ _ _ => rfl⟩
      · cases h
        rename_i hu
        obtain ⟨v, vs, rfl, ⟨y, rfl, hw⟩, hn⟩ := hk1.cons
        obtain rfl := hn.nil
        simp only [DataW.trod, hu, hw, if_true] at hx ⊢
        cases hx
        exact ⟨rfl, fun _ _ _ _ => rfl⟩
      · rename_i m e hu
        split at h
        · rename_i k1 hk
          have hd : ∀ (w : World) (base : Nat) (sp : Nat → Bool) (held : Bool), DataW.trod enc P w base sp held (n + 1) t cs = (if cs.length = P.cellsOf t then ((List.range m).mapM fun i => DataW.trod enc P w base sp held n e ((cs.drop (i * P.cellsOf e)).take (P.cellsOf e))).map fun xs => ((DataW.agg (xs.map (·.1)) : DataW H), xs.flatMap (·.2)) else none) := fun _ _ _ _ => by simp only [DataW.trod, hu]
          rw [hd] at hx
          split at hx
          · rename_i hlen
            cases hm : (List.range m).mapM fun i => DataW.trod enc P w base sp held n e ((cs.drop (i * P.cellsOf e)).take (P.cellsOf e)) with
            | none => rw [hm] at hx; cases hx
            | some xs =>
              rw [hm] at hx
              cases hx
              refine ⟨?_, fun w' base' sp' held' => ?_⟩
              · simp only [List.flatMap_eq_nil_iff]
                exact mapM_all hm fun a _ y hy => (plain_any f hk hy).1
              · rw [hd, if_pos hlen, mapM_same hm fun a _ y hy => (plain_any f hk hy).2 w' base' sp' held']
                rfl
          · cases hx
        · cases h
      · rename_i fs hu
        split at h
        · rename_i k1 hk
          have hd : ∀ (w : World) (base : Nat) (sp : Nat → Bool) (held : Bool), DataW.trod enc P w base sp held (n + 1) t cs = (if cs.length = P.cellsOf t then (fs.toList.mapM fun f => DataW.trod enc P w base sp held n f.type ((cs.drop f.offset).take (P.cellsOf f.type))).map fun xs => ((DataW.agg (xs.map (·.1)) : DataW H), xs.flatMap (·.2)) else none) := fun _ _ _ _ => by simp only [DataW.trod, hu]
          rw [hd] at hx
          split at hx
          · rename_i hlen
            cases hm : fs.toList.mapM fun f => DataW.trod enc P w base sp held n f.type ((cs.drop f.offset).take (P.cellsOf f.type)) with
            | none => rw [hm] at hx; cases hx
            | some xs =>
              rw [hm] at hx
              cases hx
              have hfs := kindsF_each hk
              refine ⟨?_, fun w' base' sp' held' => ?_⟩
              · simp only [List.flatMap_eq_nil_iff]
                exact mapM_all hm fun a ha y hy => let ⟨ls, hl⟩ := hfs a ha; (plain_any f hl hy).1
              · rw [hd, if_pos hlen, mapM_same hm fun a ha y hy => let ⟨ls, hl⟩ := hfs a ha; (plain_any f hl hy).2 w' base' sp' held']
                rfl
          · cases hx
        · cases h
      · cases h
/-- A parameter of plain data, of two cells or more. -/
theorem open_plain {f : Nat} {t : TypeId} {ks : List Kd} (hk : kindsT P f t = some ks) (h2 : 2 ≤ ks.length) {w : World} {base : Nat} {sp : Nat → Bool} {held : Bool} {v : Value} {d : DataW H} {p : List MemPlace} (h : DataW.Trod enc P w base sp held t v d p) :
    p = [] ∧ (∃ cs, v = .agg ⟨cs⟩ ∧ okL ks cs) ∧ ∀ (w' : World) (base' : Nat) (sp' : Nat → Bool) (held' : Bool), DataW.Trod enc P w' base' sp' held' t v d [] := by
  obtain ⟨n, hn⟩ := h
  obtain ⟨h1, h3⟩ := plain_any f hk hn
  simp only at h1
  subst h1
  have h4 := plain_kinds f hk hn
  refine ⟨rfl, ?_, fun w' b' s' h' => ⟨n, h3 w' b' s' h'⟩⟩
  have h5 := h4.length
  cases v with
  | agg cs => exact ⟨cs.toList, rfl, h4⟩
  | _ => simp [Value.cells] at h5; omega
/-- A parameter of plain data, of one cell. -/
theorem shut_plain {f : Nat} {t : TypeId} {ks : List Kd} (hk : kindsT P f t = some ks) {w : World} {base : Nat} {sp : Nat → Bool} {held : Bool} {v : Value} {d : DataW H} {p : List MemPlace} (h : DataW.Trod enc P w base sp held t v d p) :
    p = [] ∧ ∀ (w' : World) (base' : Nat) (sp' : Nat → Bool) (held' : Bool), DataW.Trod enc P w' base' sp' held' t v d [] := by
  obtain ⟨n, hn⟩ := h
  obtain ⟨h1, h3⟩ := plain_any f hk hn
  simp only at h1
  subst h1
  exact ⟨rfl, fun w' b' s' h' => ⟨n, h3 w' b' s' h'⟩⟩
end
end Go.Proofs.Ytafegjmaldbbiaa
end
section
namespace Go.Proofs.Ytafegjmaldbbiaa.Ex
open Go Go.RowKit Go.WideShapes Go.ChangeShapes

theorem gr_frame {W W' : World} (h : Gr W W') (may : MemPlace → Prop) : W.keptBut W' may := by
  refine ⟨h.1.1, h.1.2, fun i hi => ?_⟩
  rw [h.2.1 i hi]
  split <;> simp_all
section
variable {H : Type} {enc : TypeId × Value → H} {P : Program}
theorem post_of_gr {f : Func} {s : ChangeSpec} {apart fresh handsOn again : Bool} {W W' : World} {args : Array Value} {v : Value} {ds gs : List (DataW H)} {before pa pv : List MemPlace}
    (hW : DataW.Whole enc P f.params.toList s.vars apart W args.toList ds gs before)
    (hres : ∀ (b : Nat) (sp : Nat → Bool) (hd : Bool), DataW.TrodAll enc P W' b sp hd f.resultTypes.toList (v.resultList f.resultTypes.size) (s.fn H (ds ++ gs)).results [])
    (hargs : ∀ sp : Nat → Bool, (∀ p ∈ before, sp p.block = true) → DataW.TrodAll enc P W' 0 sp true f.params.toList args.toList (s.fn H (ds ++ gs)).args pa)
    (hvars : ∀ sp : Nat → Bool, (∀ p ∈ before, sp p.block = true) → DataW.TrodVars enc P W' sp s.vars (s.fn H (ds ++ gs)).vars pv)
    (hps : before = pa ++ pv) (hg : Gr W W')
    (hok : ∀ (j : Nat) (t : TypeId) (r : Value), f.resultTypes[j]? = some t → (v.resultList f.resultTypes.size)[j]? = some r → Value.okWide P W' .any 0 t r) :
    s.post enc P f apart fresh handsOn again W args v W' := by
  have hlt : ∀ p ∈ before, p.block < W.heap.size := fun p hp => hW.lt p hp
  have hold : ∀ p ∈ before, (fun b => decide (b < W.heap.size)) p.block = true := fun p hp => by simpa using hlt p hp
  refine ⟨ds, gs, before, [], pa, pv, hW, hres _ _ _, hargs _ hold, hvars _ hold, World.keptBut_mono (fun p hp => ⟨hp, ?_⟩) (gr_frame hg (· ∈ before)), fun _ => ?_⟩
  · rw [hps, List.mem_append] at hp
    exact Or.inr hp
  · obtain ⟨_, _, _, _, _, hz, hn⟩ := hW
    refine ⟨hok, _, _, ([] ++ pa) ++ pv, ⟨[] ++ pa, pv, trodAll_append (hargs _ (fun _ _ => rfl)) (hres _ _ _), hvars _ (fun _ _ => rfl), rfl, ?_, ?_⟩, ?_⟩
    · intro b off hp
      have hin : MemPlace.cell b off ∈ before := by rw [hps]; simpa using hp
      rw [gr_frozen hg (hlt _ hin)]
      exact hz b off hin
    · intro ha
      have := hn ha
      rw [hps] at this
      simpa using this
    · intro p hp _
      rw [hps]
      simpa using hp
end
end Go.Proofs.Ytafegjmaldbbiaa.Ex
end
