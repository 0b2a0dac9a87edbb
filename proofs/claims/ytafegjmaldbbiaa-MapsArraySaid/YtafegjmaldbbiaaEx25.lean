/-
  Runs that the kernel reckons, part 25: rounds behind which some temporaries are not told any more: what stands there leads to the first blocks alone; loops of laws that are handed a slice.
-/
import Derived.Test.YtafegjmaldbbiaaEx24
namespace Go.Proofs.Ytafegjmaldbbiaa.Ex
open Go Go.RowKit
set_option linter.unusedVariables false
def okR (q : Nat) (v : Value) : Bool := refF (fun x => decide (x < q)) 6 v
def maskR (q : Nat) : List Bool → List Value → List Value
  | d :: ds, v :: vs => (bif d then .bool (okR q v) else v) :: maskR q ds vs
  | _, vs => vs
def FlR (q : Nat) (β : Nat → Value) : Prop := ∀ k, okR q (β k) = true
theorem refF_mono {a b : Nat → Bool} (h : ∀ x, a x = true → b x = true) : ∀ (n : Nat) {v : Value}, refF a n v = true → refF b n v = true
  | 0, v, hv => hv
  | n + 1, v, hv => by
    have all : ∀ {l : List Value}, l.all (refF a n) = true → l.all (refF b n) = true := fun {l} hl => List.all_eq_true.2 fun v hm => refF_mono h n (List.all_eq_true.1 hl v hm)
    cases v with
    | pointer x => cases x with
      | none => exact hv
      | some x => exact h _ hv
    | slice x l c => cases x with
      | none => exact hv
      | some x => exact h _ hv
    | map r => cases r with
      | none => exact hv
      | some r => exact h _ hv
    | func g x y =>
      cases g with
      | func g =>
        simp only [refF, Bool.and_eq_true] at hv ⊢
        exact ⟨all hv.1, all hv.2⟩
      | _ => exact hv
    | agg cs => exact all hv
    | tuple cs => exact all hv
    | iface t x => exact refF_mono h n (v := x) hv
    | _ => exact hv
theorem unmaskR_of {q : Nat} {g : Value → Value} {β : Nat → Value} (hg : ∀ k, g (β k) = β k) : ∀ {i : Nat} {ds : List Bool} {xs ts : List Value}, maskR q ds xs = ts.map g → (∀ j x, xs[j]? = some x → okR q x = true → β (i + j) = x) → (∀ (j : Nat), ds[j]? = some true → ∀ t, ts[j]? = some t → g t = .bool true) → xs = (unmask β i ds ts).map g
  | i, [], xs, ts, h, _, _ => by
    have e : maskR q [] xs = xs := by cases xs <;> rfl
    have e2 : unmask β i [] ts = ts := by cases ts <;> rfl
    rw [e2, ← h, e]
  | i, d :: ds, [], ts, h, _, _ => by
    cases ts with
    | nil => rfl
    | cons t ts => simp [maskR] at h
  | i, d :: ds, x :: xs, [], h, _, _ => by simp [maskR] at h
  | i, d :: ds, x :: xs, t :: ts, h, hb, ht => by
    simp only [maskR, List.map_cons, List.cons.injEq] at h
    obtain ⟨h1, h2⟩ := h
    have ih := unmaskR_of hg (i := i + 1) h2 (fun j y hy hf => by rw [show i + 1 + j = i + (j + 1) by omega]; exact hb (j + 1) y (by simpa using hy) hf) (fun j hj t' ht' => ht (j + 1) (by simpa using hj) t' (by simpa using ht'))
    simp only [unmask, List.map_cons, ← ih]
    congr 1
    cases d
    · exact h1
    · have h3 := ht 0 rfl t rfl
      simp only [cond_true] at h1 ⊢
      rw [h3] at h1
      injection h1 with h4
      have h5 := hb 0 x rfl h4
      rw [Nat.add_zero] at h5
      rw [hg, h5]
noncomputable def atR (q : Nat) (xs : List Value) (k : Nat) : Value := match xs[k]? with
  | some x => bif okR q x then x else .bool true
  | none => .bool true
theorem atR_fl (q : Nat) (xs : List Value) : FlR q (atR q xs) := by
  intro k
  unfold atR
  split
  · rename_i x _
    cases h : okR q x with
    | false => rfl
    | true => simp [h]
  · rfl
/-- The state behind the rounds: its temporaries, but for those that are not told; its blocks, those that are kept by new numbers. -/
theorem keepR {q q0 : Nat} {keep : List Nat} {ds : List Bool} {T : (Nat → Value) → List Value} (hun : ∀ β, unmask β 0 ds (T fun _ => .bool true) = T β) (chg : Nat → Bool) {β : Nat → Value} (hβ : FlR q0 β) {o : Option (List Value × List AO × Option Nat × List Int)} {h2 hh : List AO} {lo : Option Nat} {cs : Cs}
    (hr : o.map (fun r => (maskR q0 ds r.1, r.2)) = some ((T fun k => bif chg k then .bool true else .bool (okR q0 (β k))).map (reV (keepF q keep) 6), hh, lo, inter cs)) (hh2 : h2.map (reO (keepF q keep)) = hh) (hq : q0 ≤ q) (hl : q0 ≤ h2.length) (hd : deadAt ds (T fun _ => .bool true) = true) (hb : hopC (T fun _ => .bool true) h2 = true) :
    ∃ β', FlR q0 β' ∧ o = some ((T β').map (reV (keepF q keep) 6), h2.map (reO (keepF q keep)), lo, inter cs) ∧ hopC (T β') h2 = true := by
  have e : (T fun k => bif chg k then .bool true else .bool (okR q0 (β k))) = T fun _ => .bool true := congrArg T (funext fun k => by cases chg k <;> simp [hβ k])
  rw [e] at hr
  have hid : ∀ j, (fun x => decide (x < q0)) j = true → keepF q keep j = j := by
    intro j hj
    have : Nat.blt j q = true := by
      rw [Nat.blt_eq]
      have := of_decide_eq_true hj
      omega
    simp [keepF, this]
  cases o with
  | none => cases hr
  | some r =>
    obtain ⟨xt, r2⟩ := r
    simp only [Option.map_some, Option.some.injEq, Prod.mk.injEq] at hr
    obtain ⟨h1, h3⟩ := hr
    subst h3
    have hfl := atR_fl q0 xt
    refine ⟨atR q0 xt, hfl, ?_, ?_⟩
    · rw [← hun (atR q0 xt), hh2]
      have := unmaskR_of (q := q0) (g := reV (keepF q keep) 6) (β := atR q0 xt) (fun k => reV_id hid 6 (hfl k)) (i := 0) h1 (fun j x hx hf => by
        rw [Nat.zero_add]
        unfold atR
        rw [hx]
        simp [hf]) (fun j hj t ht => by
        rw [deadAt_ok hd j hj t ht]
        rfl)
      rw [← this]
    · rw [← hun (atR q0 xt)]
      simp only [hopC, Bool.and_eq_true] at hb ⊢
      exact ⟨unmask_all (fun k => refF_mono (fun x hx => decide_eq_true (by have := of_decide_eq_true hx; omega)) 6 (hfl k)) hb.1, hb.2⟩
section
variable {P : Program}
theorem hopR2_ok (hng : NoNG P) {hk : Hook3} (hhk : HookOk3 P hk) {lh : LoopHook} (hll : LoopLow lh) (hlo : LoopsOk P lh) {orc : Orc} {fid : FuncId} {nn : Nat} (h1 : oneLoopN P fid nn = true) {n q q0 : Nat} (keep : List Nat) {t : List Value} {h h2 hh : List AO} {lo : Option Nat} {cs : Cs}
    {ds : List Bool} {T : (Nat → Value) → List Value} (hun : ∀ β, unmask β 0 ds (T fun _ => .bool true) = T β) (chg : Nat → Bool) {β : Nat → Value} (hβ : FlR q0 β)
    (hr : (hopRunL P hk orc lh fid (theLoopN P fid nn) n q keep t h).map (fun r => (maskR q0 ds r.1, r.2)) = some ((T fun k => bif chg k then .bool true else .bool (okR q0 (β k))).map (reV (keepF q keep) 6), hh, lo, inter cs)) (hh2 : h2.map (reO (keepF q keep)) = hh)
    (hq : q0 ≤ q) (hl : q0 ≤ h2.length) (hd : deadAt ds (T fun _ => .bool true) = true) (hb : hopC (T fun _ => .bool true) h2 = true) (hc : ∀ c ∈ cs, c.1 = c.2) : ∃ β', FlR q0 β' ∧ HopQ P (theLoopN P fid nn) n q t h (T β') h2 (lo, []) := by
  obtain ⟨β', hf, ho, hb'⟩ := keepR hun chg hβ hr hh2 hq hl hd hb
  exact ⟨β', hf, hopL_ok hng hhk hll hlo h1 keep ho hb' hc⟩
theorem stopR2_ok (hng : NoNG P) {hk : Hook3} (hhk : HookOk3 P hk) {lh : LoopHook} (hll : LoopLow lh) (hlo : LoopsOk P lh) {orc : Orc} {fid : FuncId} {nn : Nat} (h1 : oneLoopN P fid nn = true) {n q q0 : Nat} (keep : List Nat) {t : List Value} {h h2 hh : List AO} {e : Exit} {lo : Option Nat} {cs : Cs}
    {ds : List Bool} {T : (Nat → Value) → List Value} (hun : ∀ β, unmask β 0 ds (T fun _ => .bool true) = T β) (chg : Nat → Bool) {β : Nat → Value} (hβ : FlR q0 β)
    (he : (stopRunL P hk orc lh fid (theLoopN P fid nn) n q keep t h).map (fun r => (r.1, r.2.map fun r => (maskR q0 ds r.1, r.2))) = some (e, some ((T fun k => bif chg k then .bool true else .bool (okR q0 (β k))).map (reV (keepF q keep) 6), hh, lo, inter cs))) (hh2 : h2.map (reO (keepF q keep)) = hh)
    (hq : q0 ≤ q) (hl : q0 ≤ h2.length) (hd : deadAt ds (T fun _ => .bool true) = true) (hb : hopC (T fun _ => .bool true) h2 = true) (hc : ∀ c ∈ cs, c.1 = c.2) : ∃ β', FlR q0 β' ∧ StopQ P (theLoopN P fid nn) n q t h e (T β') h2 (lo, []) := by
  cases hx : stopRunL P hk orc lh fid (theLoopN P fid nn) n q keep t h with
  | none => rw [hx] at he; cases he
  | some r =>
    obtain ⟨e1, o⟩ := r
    rw [hx] at he
    simp only [Option.map_some, Option.some.injEq, Prod.mk.injEq] at he
    obtain ⟨rfl, hr⟩ := he
    obtain ⟨β', hf, ho, hb'⟩ := keepR hun chg hβ hr hh2 hq hl hd hb
    subst ho
    exact ⟨β', hf, stopL_ok hng hhk hll hlo h1 keep hx hb' hc⟩
end
/-- A law that is handed a slice: its memory stands among the blocks that are told. -/
noncomputable def reckonQI (P : Program) (hk : Hook3) (orc : Orc) (lh : LoopHook) (L f : Nat) (h0 : List AO) (g : FuncId) (args : List Value) : Option (Value × List Int) := reckonPI P hk orc lh L f h0 g args
theorem reckonQ_ok {P : Program} (hng : NoNG P) {hk : Hook3} (hhk : HookOk3 P hk) {lh : LoopHook} (hll : LoopLow lh) (hlo : LoopsOk P lh) (orc : Orc) (L f : Nat) (h0 : List AO) {g : FuncId} {args : List Value} {v : Value} {cs : Cs} (hv : flat v = true) (h : reckonQI P hk orc lh L f h0 g args = some (v, inter cs))
    (he : ∀ c ∈ cs, c.1 = c.2) {w : World} {s : Ren} (H : HR w h0.length s h0 w) {args' : List Value} (ha : LR s args args') : Calls P g ⟨args'⟩ w fun e w' => e = .returned v ∧ Gr w w' := by
  unfold reckonQI reckonPI at h
  split at h
  · rename_i v' h' m hr
    split at h
    · rename_i hq
      simp only [Option.some.injEq, Prod.mk.injEq] at h
      obtain ⟨rfl, h2⟩ := h
      have h3 := inter_inj h2
      refine (callA_ok (exG_ok accQ_eq hng (aOp_ok P hng) (drawE_ok P) (drawE_low P) hhk hll hlo L f _) hr (wb := w) (k := h0.length) (s := s) ⟨quietB_ok hq, by rw [h3]; exact he⟩ ha H).mono ?_
      rintro e w' ⟨s', u, rfl, _, H, hvr⟩
      rw [hvr.eq_of_flat hv]
      exact ⟨rfl, H.grown.gr⟩
    · cases h
  · cases h
/-- The variables that are told, and behind them a slice's memory (live), or a place alone. -/
theorem HR.withSlice {h0 : List AO} {w : World} (hL : Laid h0 w) {b off tot : Nat} {T : TypeId} (hs : w.shape? b = some (T, tot)) {cs : List Value} (hfit : off + cs.length ≤ tot) (hfr : ∀ o, o < cs.length → w.frozen? ⟨b, off + o, none⟩ = false) (hc : ∀ (o : Nat) (v : Value), cs[o]? = some v → w.cell? ⟨b, off + o, none⟩ = some v ∧ flat v = true)
    (hsep : ∀ (i : Nat) (o : AO), h0[i]? = some o → o.live = true → b ≠ i) :
    HR w (h0.length + 1) (upd (placeG h0 w) h0.length ⟨b, off, tot, none⟩) (h0 ++ [⟨true, none, cs⟩]) w := by
  have H := HR.start hL
  have hsz := shape_cells hs
  have hne : ∀ i, i < h0.length → upd (placeG h0 w) h0.length ⟨b, off, tot, none⟩ i = placeG h0 w i := fun i hi => upd_other _ _ (by omega)
  have hle := Le.upd (s := placeG h0 w) (i := h0.length) ⟨b, off, tot, none⟩ (H.dom _ (Nat.le_refl _))
  have plg : ∀ i p, placeG h0 w i = some p → p.blk = i ∧ ∃ o, h0[i]? = some o ∧ o.live = true := by
    intro g p hp
    unfold placeG at hp
    split at hp
    · rename_i o T tot ho _
      split at hp
      · rename_i hl
        cases hp
        exact ⟨rfl, o, ho, hl⟩
      · cases hp
    · cases hp
  refine ⟨GrB.refl w _, by simp, fun i hi => ?_, fun i p hp => ?_, fun i o ho hl => ?_, fun i j x y p q hi hj hx hy hp hq e => ?_, fun g p hp hg => ?_⟩
  · rw [upd_other _ _ (by simp at hi; omega)]
    exact H.dom i (by simp at hi; omega)
  · by_cases ei : i = h0.length
    · subst ei
      rw [upd_same] at hp
      cases hp
      exact ⟨fun _ => ⟨hsz.1, fun f => f⟩, fun h => absurd h (by omega), hsz.1⟩
    · rw [upd_other _ _ ei] at hp
      obtain ⟨c1, c2, c3⟩ := H.plc i p hp
      exact ⟨fun _ => ⟨c3, fun f => f⟩, fun h => absurd (H.dom i (by omega)) (by rw [hp]; exact fun h => by cases h), c3⟩
  · by_cases ei : i = h0.length
    · subst ei
      rw [List.getElem?_append_right (by omega)] at ho
      simp at ho
      subst ho
      refine ⟨_, upd_same _ _ _, rfl, ObjAt.block rfl ⟨hfit, hsz.2, ⟨T, hs⟩, fun _ o h1 h2 h3 => ?_, fun o v hv => ?_⟩⟩
      · have h4 := h3 rfl
        simp only at h4 h1
        have := hfr (o - off) (by omega)
        rw [show off + (o - off) = o by omega] at this
        exact this
      · obtain ⟨g1, g2⟩ := hc o v hv
        exact ⟨v, g1, .same g2⟩
    · have hil : i < h0.length := by
        have := (List.getElem?_eq_some_iff.1 ho).1
        simp at this
        omega
      rw [List.getElem?_append_left hil] at ho
      obtain ⟨p, hp, he, hob⟩ := H.obj i o ho hl
      exact ⟨p, by rw [hne i hil]; exact hp, he, hob.mono hle⟩
  · have cas : ∀ (i : Nat) (x : AO) (p : Pl), (h0 ++ [(⟨true, none, cs⟩ : AO)])[i]? = some x → x.live = true → upd (placeG h0 w) h0.length ⟨b, off, tot, none⟩ i = some p → (i = h0.length ∧ p.blk = b) ∨ (i < h0.length ∧ p.blk = i ∧ b ≠ i) := by
      intro i x p hi hx hp
      by_cases ei : i = h0.length
      · subst ei
        rw [upd_same] at hp
        cases hp
        exact .inl ⟨rfl, rfl⟩
      · have hil : i < h0.length := by
          have := (List.getElem?_eq_some_iff.1 hi).1
          simp at this
          omega
        rw [hne i hil] at hp
        obtain ⟨g1, o, g2, g3⟩ := plg i p hp
        exact .inr ⟨hil, g1, hsep i o g2 g3⟩
    rcases cas i x p hi hx hp with ⟨a1, a2⟩ | ⟨a1, a2, a3⟩ <;> rcases cas j y q hj hy hq with ⟨b1, b2⟩ | ⟨b1, b2, b3⟩
    · omega
    · exact absurd (by omega : b = j) b3
    · exact absurd (by omega : b = i) a3
    · omega
  · by_cases ei : g = h0.length
    · subst ei
      rw [upd_same] at hp
      cases hp
      cases hg
    · rw [upd_other _ _ ei] at hp
      exact H.gl g p hp hg
theorem HR.withPlace {h0 : List AO} {w : World} (hL : Laid h0 w) {b off tot : Nat} (hb : b < w.heap.size) : HR w (h0.length + 1) (upd (placeG h0 w) h0.length ⟨b, off, tot, none⟩) (h0 ++ [dead]) w := by
  have H := HR.start hL
  have hne : ∀ i, i < h0.length → upd (placeG h0 w) h0.length ⟨b, off, tot, none⟩ i = placeG h0 w i := fun i hi => upd_other _ _ (by omega)
  have hle := Le.upd (s := placeG h0 w) (i := h0.length) ⟨b, off, tot, none⟩ (H.dom _ (Nat.le_refl _))
  have old : ∀ (i : Nat) (x : AO), (h0 ++ [dead])[i]? = some x → x.live = true → i < h0.length ∧ h0[i]? = some x := by
    intro i x hi hx
    by_cases ei : i < h0.length
    · rw [List.getElem?_append_left ei] at hi
      exact ⟨ei, hi⟩
    · have := (List.getElem?_eq_some_iff.1 hi).1
      simp at this
      obtain rfl : i = h0.length := by omega
      rw [List.getElem?_append_right (by omega)] at hi
      simp at hi
      subst hi
      cases hx
  refine ⟨GrB.refl w _, by simp, fun i hi => ?_, fun i p hp => ?_, fun i o ho hl => ?_, fun i j x y p q hi hj hx hy hp hq e => ?_, fun g p hp hg => ?_⟩
  · rw [upd_other _ _ (by simp at hi; omega)]
    exact H.dom i (by simp at hi; omega)
  · by_cases ei : i = h0.length
    · subst ei
      rw [upd_same] at hp
      cases hp
      exact ⟨fun _ => ⟨hb, fun f => f⟩, fun h => absurd h (by omega), hb⟩
    · rw [upd_other _ _ ei] at hp
      obtain ⟨c1, c2, c3⟩ := H.plc i p hp
      exact ⟨fun _ => ⟨c3, fun f => f⟩, fun h => absurd (H.dom i (by omega)) (by rw [hp]; exact fun h => by cases h), c3⟩
  · obtain ⟨hil, ho⟩ := old i o ho hl
    obtain ⟨p, hp, he, hob⟩ := H.obj i o ho hl
    exact ⟨p, by rw [hne i hil]; exact hp, he, hob.mono hle⟩
  · obtain ⟨a1, a2⟩ := old i x hi hx
    obtain ⟨b1, b2⟩ := old j y hj hy
    rw [hne i a1] at hp
    rw [hne j b1] at hq
    exact H.sep i j x y p q a2 b2 hx hy hp hq e
  · by_cases ei : g = h0.length
    · subst ei
      rw [upd_same] at hp
      cases hp
      cases hg
    · rw [upd_other _ _ ei] at hp
      exact H.gl g p hp hg
end Go.Proofs.Ytafegjmaldbbiaa.Ex
