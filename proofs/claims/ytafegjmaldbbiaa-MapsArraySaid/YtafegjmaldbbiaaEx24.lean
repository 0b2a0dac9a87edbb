/-
  Runs that the kernel reckons, part 24: rounds behind which some temporaries are not told any more: plain data stands there.
-/
import Derived.Test.YtafegjmaldbbiaaEx23
namespace Go.Proofs.Ytafegjmaldbbiaa.Ex
open Go Go.RowKit
set_option linter.unusedVariables false
def unmask (β : Nat → Value) : Nat → List Bool → List Value → List Value
  | i, d :: ds, v :: vs => (bif d then β i else v) :: unmask β (i + 1) ds vs
  | _, _, vs => vs
def maskL : List Bool → List Value → List Value
  | d :: ds, v :: vs => (bif d then .bool (flat v) else v) :: maskL ds vs
  | _, vs => vs
theorem reV_scal {f : Nat → Nat} : ∀ (n : Nat) {v : Value}, scal v = true → reV f n v = v
  | 0, v, _ => rfl
  | n + 1, v, h => by
    cases v with
    | pointer a => cases a with
      | none => rfl
      | some a => simp [scal] at h
    | slice a l c => cases a with
      | none => rfl
      | some a => simp [scal] at h
    | map r => cases r with
      | none => rfl
      | some r => simp [scal] at h
    | func g a b =>
      cases g with
      | func g =>
        obtain ⟨a⟩ := a
        obtain ⟨b⟩ := b
        simp only [scal, Bool.and_eq_true, List.isEmpty_iff] at h
        obtain ⟨h1, h2⟩ := h
        subst h1 h2
        rfl
      | _ => simp [scal] at h
    | agg cs => simp [scal] at h
    | tuple cs => simp [scal] at h
    | iface t x => simp [scal] at h
    | _ => rfl
theorem map_id_all {g : Value → Value} {p : Value → Bool} (hg : ∀ v, p v = true → g v = v) : ∀ {l : List Value}, l.all p = true → l.map g = l
  | [], _ => rfl
  | x :: l, h => by
    simp only [List.all_cons, Bool.and_eq_true] at h
    rw [List.map_cons, hg x h.1, map_id_all hg h.2]
theorem reV_flat1 {f : Nat → Nat} : ∀ (n : Nat) {v : Value}, flat1 v = true → reV f n v = v
  | 0, v, _ => rfl
  | n + 1, v, h => by
    cases v with
    | agg cs =>
      obtain ⟨cs⟩ := cs
      show Value.agg ⟨cs.map (reV f n)⟩ = _
      rw [map_id_all (fun v hv => reV_scal n hv) (l := cs) h]
    | _ => exact reV_scal _ h
theorem reV_flat {f : Nat → Nat} : ∀ (n : Nat) {v : Value}, flat v = true → reV f n v = v
  | 0, v, _ => rfl
  | n + 1, v, h => by
    cases v with
    | tuple cs =>
      obtain ⟨cs⟩ := cs
      show Value.tuple ⟨cs.map (reV f n)⟩ = _
      rw [map_id_all (fun v hv => reV_flat1 n hv) (l := cs) h]
    | iface t x =>
      show Value.iface t (reV f n x) = _
      rw [reV_flat1 n (v := x) h]
    | _ => exact reV_flat1 _ h
theorem refF_flat1 {ok : Nat → Bool} (n : Nat) {v : Value} (h : flat1 v = true) : refF ok (n + 1) v = true := by
  cases v with
  | agg cs =>
    show cs.toList.all (refF ok n) = true
    exact List.all_eq_true.2 fun x hx => refF_scal n (List.all_eq_true.1 h x hx)
  | _ => exact refF_scal _ h
theorem refF_flat {ok : Nat → Bool} (n : Nat) {v : Value} (h : flat v = true) : refF ok (n + 2) v = true := by
  cases v with
  | tuple cs =>
    show cs.toList.all (refF ok (n + 1)) = true
    exact List.all_eq_true.2 fun x hx => refF_flat1 n (List.all_eq_true.1 h x hx)
  | iface t x => exact refF_flat1 n (v := x) h
  | _ => exact refF_flat1 _ h
theorem unmask_all {β : Nat → Value} {p : Value → Bool} (hβ : ∀ k, p (β k) = true) : ∀ {i : Nat} {ds : List Bool} {ts : List Value}, ts.all p = true → (unmask β i ds ts).all p = true
  | i, [], ts, h => by cases ts <;> exact h
  | i, d :: ds, [], h => h
  | i, d :: ds, v :: vs, h => by
    simp only [List.all_cons, Bool.and_eq_true] at h
    simp only [unmask, List.all_cons, Bool.and_eq_true]
    refine ⟨?_, unmask_all hβ h.2⟩
    cases d
    · exact h.1
    · exact hβ i
theorem unmask_of {g : Value → Value} {β : Nat → Value} (hg : ∀ k, g (β k) = β k) : ∀ {i : Nat} {ds : List Bool} {xs ts : List Value}, maskL ds xs = ts.map g → (∀ j x, xs[j]? = some x → flat x = true → β (i + j) = x) → (∀ (j : Nat), ds[j]? = some true → ∀ t, ts[j]? = some t → g t = .bool true) → xs = (unmask β i ds ts).map g
  | i, [], xs, ts, h, _, _ => by
    have e : maskL [] xs = xs := by cases xs <;> rfl
    have e2 : unmask β i [] ts = ts := by cases ts <;> rfl
    rw [e2, ← h, e]
  | i, d :: ds, [], ts, h, _, _ => by
    cases ts with
    | nil => rfl
    | cons t ts => simp [maskL] at h
  | i, d :: ds, x :: xs, [], h, _, _ => by simp [maskL] at h
  | i, d :: ds, x :: xs, t :: ts, h, hb, ht => by
    simp only [maskL, List.map_cons, List.cons.injEq] at h
    obtain ⟨h1, h2⟩ := h
    have ih := unmask_of hg (i := i + 1) h2 (fun j y hy hf => by rw [show i + 1 + j = i + (j + 1) by omega]; exact hb (j + 1) y (by simpa using hy) hf) (fun j hj t' ht' => ht (j + 1) (by simpa using hj) t' (by simpa using ht'))
    simp only [unmask, List.map_cons, ← ih]
    congr 1
    cases d
    · exact h1
    · have h3 := ht 0 rfl t rfl
      simp only [cond_true] at h1 ⊢
      rw [h3] at h1
      injection h1 with h4
      have h5 := hb 0 x rfl h4
      rw [Nat.add_zero] at h5
      rw [hg, h5]
def Fl (β : Nat → Value) : Prop := ∀ k, flat (β k) = true
/-- What stands at the places that are not told. -/
noncomputable def atD (xs : List Value) (k : Nat) : Value := match xs[k]? with
  | some x => bif flat x then x else .bool true
  | none => .bool true
theorem atD_fl (xs : List Value) : Fl (atD xs) := by
  intro k
  unfold atD
  split
  · rename_i x _
    cases h : flat x with
    | false => rfl
    | true => simp [h]
  · rfl
def deadAt (ds : List Bool) (ts : List Value) : Bool :=
  match ds, ts with
  | d :: ds, t :: ts => (!d || (match t with | .bool true => true | _ => false)) && deadAt ds ts
  | _, _ => true
theorem deadAt_ok : ∀ {ds : List Bool} {ts : List Value}, deadAt ds ts = true → ∀ (j : Nat), ds[j]? = some true → ∀ t, ts[j]? = some t → t = .bool true
  | [], ts, _, j, hj, _, _ => by simp at hj
  | d :: ds, [], _, j, _, t, ht => by simp at ht
  | d :: ds, v :: ts, h, 0, hj, t, ht => by
    simp only [List.getElem?_cons_zero, Option.some.injEq] at hj ht
    subst hj ht
    simp only [deadAt, Bool.and_eq_true, Bool.not_true, Bool.false_or] at h
    have h1 := h.1
    split at h1
    · rfl
    · cases h1
  | d :: ds, v :: ts, h, j + 1, hj, t, ht => by
    simp only [deadAt, Bool.and_eq_true] at h
    exact deadAt_ok h.2 j (by simpa using hj) t (by simpa using ht)
theorem keepM {q : Nat} {keep : List Nat} {ds : List Bool} {T : (Nat → Value) → List Value} (hun : ∀ β, unmask β 0 ds (T fun _ => .bool true) = T β) (chg : Nat → Bool) {β : Nat → Value} (hβ : Fl β) {o : Option (List Value × List AO × Option Nat × List Int)} {h2 : List AO} {lo : Option Nat} {cs : Cs}
    (hr : o.map (fun r => (maskL ds r.1, r.2)) = some ((T fun k => bif chg k then .bool true else .bool (flat (β k))).map (reV (keepF q keep) 6), h2.map (reO (keepF q keep)), lo, inter cs)) (hd : deadAt ds (T fun _ => .bool true) = true) (hb : hopC (T fun _ => .bool true) h2 = true) :
    ∃ β', Fl β' ∧ o = some ((T β').map (reV (keepF q keep) 6), h2.map (reO (keepF q keep)), lo, inter cs) ∧ hopC (T β') h2 = true := by
  have e : (T fun k => bif chg k then .bool true else .bool (flat (β k))) = T fun _ => .bool true := congrArg T (funext fun k => by cases chg k <;> simp [hβ k])
  rw [e] at hr
  cases o with
  | none => cases hr
  | some r =>
    obtain ⟨xt, r2⟩ := r
    simp only [Option.map_some, Option.some.injEq, Prod.mk.injEq] at hr
    obtain ⟨h1, h3⟩ := hr
    subst h3
    have hfl := atD_fl xt
    refine ⟨atD xt, hfl, ?_, ?_⟩
    · rw [← hun (atD xt)]
      have := unmask_of (g := reV (keepF q keep) 6) (β := atD xt) (fun k => reV_flat 6 (hfl k)) (i := 0) h1 (fun j x hx hf => by
        rw [Nat.zero_add]
        unfold atD
        rw [hx]
        simp [hf]) (fun j hj t ht => by
        rw [deadAt_ok hd j hj t ht]
        rfl)
      rw [← this]
    · rw [← hun (atD xt)]
      simp only [hopC, Bool.and_eq_true] at hb ⊢
      exact ⟨unmask_all (fun k => refF_flat 4 (hfl k)) hb.1, hb.2⟩
section
variable {P : Program}
theorem hopJ_ok (hng : NoNG P) {hk : Hook3} (hhk : HookOk3 P hk) {lh : LoopHook} (hll : LoopLow lh) (hlo : LoopsOk P lh) {orc : Orc} {fid : FuncId} {nn : Nat} (h1 : oneLoopN P fid nn = true) {n q : Nat} (keep : List Nat) {t : List Value} {h h2 : List AO} {lo : Option Nat} {cs : Cs}
    {ds : List Bool} {T : (Nat → Value) → List Value} (hun : ∀ β, unmask β 0 ds (T fun _ => .bool true) = T β) (chg : Nat → Bool) {β : Nat → Value} (hβ : Fl β)
    (hr : (hopRunL P hk orc lh fid (theLoopN P fid nn) n q keep t h).map (fun r => (maskL ds r.1, r.2)) = some ((T fun k => bif chg k then .bool true else .bool (flat (β k))).map (reV (keepF q keep) 6), h2.map (reO (keepF q keep)), lo, inter cs))
    (hd : deadAt ds (T fun _ => .bool true) = true) (hb : hopC (T fun _ => .bool true) h2 = true) (hc : ∀ c ∈ cs, c.1 = c.2) : ∃ β', Fl β' ∧ HopQ P (theLoopN P fid nn) n q t h (T β') h2 (lo, []) := by
  obtain ⟨β', hf, ho, hb'⟩ := keepM hun chg hβ hr hd hb
  exact ⟨β', hf, hopL_ok hng hhk hll hlo h1 keep ho hb' hc⟩
theorem stopJ_ok (hng : NoNG P) {hk : Hook3} (hhk : HookOk3 P hk) {lh : LoopHook} (hll : LoopLow lh) (hlo : LoopsOk P lh) {orc : Orc} {fid : FuncId} {nn : Nat} (h1 : oneLoopN P fid nn = true) {n q : Nat} (keep : List Nat) {t : List Value} {h h2 : List AO} {e : Exit} {lo : Option Nat} {cs : Cs}
    {ds : List Bool} {T : (Nat → Value) → List Value} (hun : ∀ β, unmask β 0 ds (T fun _ => .bool true) = T β) (chg : Nat → Bool) {β : Nat → Value} (hβ : Fl β)
    (he : (stopRunL P hk orc lh fid (theLoopN P fid nn) n q keep t h).map (fun r => (r.1, r.2.map fun r => (maskL ds r.1, r.2))) = some (e, some ((T fun k => bif chg k then .bool true else .bool (flat (β k))).map (reV (keepF q keep) 6), h2.map (reO (keepF q keep)), lo, inter cs)))
    (hd : deadAt ds (T fun _ => .bool true) = true) (hb : hopC (T fun _ => .bool true) h2 = true) (hc : ∀ c ∈ cs, c.1 = c.2) : ∃ β', Fl β' ∧ StopQ P (theLoopN P fid nn) n q t h e (T β') h2 (lo, []) := by
  cases hx : stopRunL P hk orc lh fid (theLoopN P fid nn) n q keep t h with
  | none => rw [hx] at he; cases he
  | some r =>
    obtain ⟨e1, o⟩ := r
    rw [hx] at he
    simp only [Option.map_some, Option.some.injEq, Prod.mk.injEq] at he
    obtain ⟨rfl, hr⟩ := he
    obtain ⟨β', hf, ho, hb'⟩ := keepM hun chg hβ hr hd hb
    subst ho
    exact ⟨β', hf, stopL_ok hng hhk hll hlo h1 keep hx hb' hc⟩
theorem map_id_mem {g : Value → Value} : ∀ {l : List Value}, (∀ v ∈ l, g v = v) → l.map g = l
  | [], _ => rfl
  | x :: l, h => by rw [List.map_cons, h x List.mem_cons_self, map_id_mem fun v hv => h v (List.mem_cons_of_mem _ hv)]
theorem reV_id {f : Nat → Nat} {ok : Nat → Bool} (hf : ∀ j, ok j = true → f j = j) : ∀ (n : Nat) {v : Value}, refF ok n v = true → reV f n v = v
  | 0, v, _ => rfl
  | n + 1, v, h => by
    have all : ∀ {l : List Value}, l.all (refF ok n) = true → l.map (reV f n) = l := fun {l} hl => map_id_mem fun v hv => reV_id hf n (List.all_eq_true.1 hl v hv)
    cases v with
    | pointer a => cases a with
      | none => rfl
      | some a =>
        show Value.pointer (some ⟨f a.block, a.off, a.spot⟩) = _
        rw [hf _ h]
    | slice a l c => cases a with
      | none => rfl
      | some a =>
        show Value.slice (some ⟨f a.block, a.off, a.spot⟩) l c = _
        rw [hf _ h]
    | map r => cases r with
      | none => rfl
      | some r =>
        show Value.map (some (f r)) = _
        rw [hf _ h]
    | func g a b =>
      cases g with
      | func g =>
        obtain ⟨a⟩ := a
        obtain ⟨b⟩ := b
        simp only [refF, Bool.and_eq_true] at h
        show Value.func (.func g) ⟨a.map (reV f n)⟩ ⟨b.map (reV f n)⟩ = _
        rw [all h.1, all h.2]
      | _ => rfl
    | agg cs =>
      obtain ⟨cs⟩ := cs
      show Value.agg ⟨cs.map (reV f n)⟩ = _
      rw [all h]
    | tuple cs =>
      obtain ⟨cs⟩ := cs
      show Value.tuple ⟨cs.map (reV f n)⟩ = _
      rw [all h]
    | iface t x =>
      show Value.iface t (reV f n x) = _
      rw [reV_id hf n (v := x) h]
    | _ => rfl
theorem keepF_id (q : Nat) : ∀ j, (fun x => decide (x < q)) j = true → keepF q [] j = j := by
  intro j hj
  have : Nat.blt j q = true := by simpa [Nat.blt_eq] using hj
  simp [keepF, this]
theorem hopC_id {q : Nat} {t2 : List Value} {h2 : List AO} (hq : h2.length = q) (hd : h2.all (·.live) = true ∨ True) (hb : hopC t2 h2 = true) : t2.map (reV (keepF q []) 6) = t2 ∧ ∀ o ∈ h2, o.live = true → reO (keepF q []) o = o := by
  subst hq
  simp only [hopC, Bool.and_eq_true] at hb
  refine ⟨map_id_mem fun v hv => reV_id (keepF_id _) 6 (List.all_eq_true.1 hb.1 v hv), fun o ho hl => ?_⟩
  have h1 := List.all_eq_true.1 hb.2 o ho
  simp only [refO, hl, Bool.not_true, Bool.false_or] at h1
  obtain ⟨ol, oe, oc⟩ := o
  show AO.mk ol oe (oc.map (reV _ 6)) = _
  rw [map_id_mem fun v hv => reV_id (keepF_id _) 6 (List.all_eq_true.1 h1 v hv)]
/-- Blocks that are given up have no cells. -/
def deadB (h : List AO) : Bool := h.all fun o => o.live || o.cs.isEmpty
theorem reH_id {q : Nat} {t2 : List Value} {h2 : List AO} (hq : h2.length = q) (hd : deadB h2 = true) (hb : hopC t2 h2 = true) : h2.map (reO (keepF q [])) = h2 := by
  obtain ⟨_, h1⟩ := hopC_id hq (.inr trivial) hb
  have : ∀ {l : List AO}, (∀ o ∈ l, reO (keepF q []) o = o) → l.map (reO (keepF q [])) = l := by
    intro l
    induction l with
    | nil => intro _; rfl
    | cons x l ih => intro h; rw [List.map_cons, h x List.mem_cons_self, ih fun v hv => h v (List.mem_cons_of_mem _ hv)]
  refine this fun o ho => ?_
  cases hl : o.live with
  | true => exact h1 o ho hl
  | false =>
    have := List.all_eq_true.1 hd o ho
    simp only [hl, Bool.false_or, List.isEmpty_iff] at this
    obtain ⟨ol, oe, oc⟩ := o
    simp only at this
    subst this
    rfl
/-- The same where all blocks that are told keep their numbers. -/
theorem hopJ0_ok (hng : NoNG P) {hk : Hook3} (hhk : HookOk3 P hk) {lh : LoopHook} (hll : LoopLow lh) (hlo : LoopsOk P lh) {orc : Orc} {fid : FuncId} {nn : Nat} (h1 : oneLoopN P fid nn = true) {n q : Nat} {t : List Value} {h h2 : List AO} {lo : Option Nat} {cs : Cs}
    {ds : List Bool} {T : (Nat → Value) → List Value} (hun : ∀ β, unmask β 0 ds (T fun _ => .bool true) = T β)
    (hr : (hopRunL P hk orc lh fid (theLoopN P fid nn) n q [] t h).map (fun r => (maskL ds r.1, r.2)) = some (T fun _ => .bool true, h2, lo, inter cs))
    (hd : deadAt ds (T fun _ => .bool true) = true) (hq : h2.length = q) (hdb : deadB h2 = true) (hb : hopC (T fun _ => .bool true) h2 = true) (hc : ∀ c ∈ cs, c.1 = c.2) : ∃ β', Fl β' ∧ HopQ P (theLoopN P fid nn) n q t h (T β') h2 (lo, []) := by
  refine hopJ_ok hng hhk hll hlo (orc := orc) h1 [] hun (fun _ => true) (β := fun _ => .bool true) (fun _ => rfl) ?_ hd hb hc
  rw [hr]
  simp only [cond_true, (hopC_id hq (.inr trivial) hb).1, reH_id hq hdb hb]
theorem stopJ0_ok (hng : NoNG P) {hk : Hook3} (hhk : HookOk3 P hk) {lh : LoopHook} (hll : LoopLow lh) (hlo : LoopsOk P lh) {orc : Orc} {fid : FuncId} {nn : Nat} (h1 : oneLoopN P fid nn = true) {n q : Nat} {t : List Value} {h h2 : List AO} {e : Exit} {lo : Option Nat} {cs : Cs}
    {ds : List Bool} {T : (Nat → Value) → List Value} (hun : ∀ β, unmask β 0 ds (T fun _ => .bool true) = T β) (chg : Nat → Bool) {β : Nat → Value} (hβ : Fl β)
    (he : (stopRunL P hk orc lh fid (theLoopN P fid nn) n q [] t h).map (fun r => (r.1, r.2.map fun r => (maskL ds r.1, r.2))) = some (e, some (T fun k => bif chg k then .bool true else .bool (flat (β k)), h2, lo, inter cs)))
    (hd : deadAt ds (T fun _ => .bool true) = true) (hq : h2.length = q) (hdb : deadB h2 = true) (hb : hopC (T fun _ => .bool true) h2 = true) (hc : ∀ c ∈ cs, c.1 = c.2) : ∃ β', Fl β' ∧ StopQ P (theLoopN P fid nn) n q t h e (T β') h2 (lo, []) := by
  have e1 : (T fun k => bif chg k then .bool true else .bool (flat (β k))) = T fun _ => .bool true := congrArg T (funext fun k => by cases chg k <;> simp [hβ k])
  rw [e1] at he
  refine stopJ_ok hng hhk hll hlo (orc := orc) h1 [] hun (fun _ => true) (β := fun _ => .bool true) (fun _ => rfl) ?_ hd hb hc
  rw [he]
  simp only [cond_true, (hopC_id hq (.inr trivial) hb).1, reH_id hq hdb hb]
theorem HopQ.weak {c : Code} {n q : Nat} {t t1 : List Value} {h h1 : List AO} {m1 m3 : Mk} (a : HopQ P c n q t h t1 h1 m1) (hm1 : ∀ k, k ≤ q → Bnd k m3 → Bnd k m1) : HopQ P c n q t h t1 h1 m3 :=
  fun wb k hm hkq => a wb k (hm1 k hkq hm) hkq
theorem StopQ.weak {c : Code} {n q : Nat} {t t1 : List Value} {h h1 : List AO} {e : Exit} {m1 m3 : Mk} (a : StopQ P c n q t h e t1 h1 m1) (hm1 : ∀ k, k ≤ q → Bnd k m3 → Bnd k m1) : StopQ P c n q t h e t1 h1 m3 :=
  fun wb k hm hkq => a wb k (hm1 k hkq hm) hkq
end
end Go.Proofs.Ytafegjmaldbbiaa.Ex
