/-
  Runs that the kernel reckons, part 16: calls that lay memory and are handed blocks: how a run becomes a hook.
-/
import Derived.Test.YtafegjmaldbbiaaEx15
import Derived.Test.YtafegjmaldbbiaaMemo
namespace Go.Proofs.Ytafegjmaldbbiaa.Ex
open Go Go.RowKit

/-- A memory has, at the same places, what a smaller one tells of. -/
def eqEs : Option Nat → Option Nat → Bool
  | none, none => true
  | some a, some b => Nat.beq a b
  | _, _ => false
theorem eqEs_ok {a b : Option Nat} (h : eqEs a b = true) : a = b := by
  cases a <;> cases b <;> first | rfl | (cases h; done) | (rw [Nat.eq_of_beq_eq_true h])
def subH : List AO → List AO → Bool
  | [], _ => true
  | _ :: _, [] => false
  | o :: l, p :: h => (!o.live || (p.live && eqEs p.es o.es && eqL p.cs o.cs)) && subH l h
theorem subH_at : ∀ {h0 h : List AO}, subH h0 h = true → ∀ (g : Nat) (o : AO), h0[g]? = some o → o.live = true → h[g]? = some o
  | [], _, _, g, o, ho, _ => by simp at ho
  | _ :: _, [], h, _, _, _, _ => by cases h
  | o :: l, p :: h, hh, g, q, hq, hl => by
    simp only [subH, Bool.and_eq_true] at hh
    cases g with
    | succ g => simpa using subH_at hh.2 g q (by simpa using hq) hl
    | zero =>
      simp at hq
      subst hq
      have h1 := hh.1
      simp only [hl, Bool.not_true, Bool.false_or, Bool.and_eq_true] at h1
      have e1 := eqEs_ok h1.1.2
      have e2 := eqL_ok h1.2
      obtain ⟨pl, pe, pc⟩ := p
      obtain ⟨ol, oe, oc⟩ := o
      simp only at h1 hl e1 e2
      rw [List.getElem?_cons_zero, hl, h1.1.1, e1, e2]
theorem HR.sub {wb : Wb} {k : Nat} {s : Ren} {h h0 : List AO} {w : World} (H : HR wb k s h w) (hs : subH h0 h = true) (hl : h.length = h0.length) : HR wb k s h0 w :=
  ⟨H.grown, by rw [← hl]; exact H.kle, fun i hi => H.dom i (by rw [hl]; exact hi), H.plc, fun i o ho hv => H.obj i o (subH_at hs i o ho hv) hv,
    fun i j a c p q hi hj ha hc => H.sep i j a c p q (subH_at hs i a hi ha) (subH_at hs j c hj hc) ha hc, H.gl⟩
/-- Of some blocks those that are kept; others are given up. -/
def thinL (keep : Nat → Bool) : Nat → List AO → List AO
  | _, [] => []
  | i, o :: l => (if keep i then o else dead) :: thinL keep (i + 1) l
theorem thinL_length (keep : Nat → Bool) : ∀ (i : Nat) (l : List AO), (thinL keep i l).length = l.length
  | _, [] => rfl
  | i, o :: l => by simp [thinL, thinL_length keep (i + 1) l]
theorem thinL_at {keep : Nat → Bool} : ∀ {i : Nat} {l : List AO} {j : Nat} {o : AO}, (thinL keep i l)[j]? = some o → o.live = true → l[j]? = some o
  | _, [], _, _, h, _ => by simp [thinL] at h
  | i, q :: l, 0, o, h, hl => by
    simp only [thinL, List.getElem?_cons_zero, Option.some.injEq] at h
    split at h
    · subst h; rfl
    · subst h; cases hl
  | i, q :: l, j + 1, o, h, hl => by
    simp only [thinL, List.getElem?_cons_succ] at h
    simpa using thinL_at h hl
theorem HR.less {wb : Wb} {k : Nat} {s : Ren} {h h0 : List AO} {w : World} (H : HR wb k s h w) (hs : ∀ (i : Nat) (o : AO), h0[i]? = some o → o.live = true → h[i]? = some o) (hl : h.length = h0.length) : HR wb k s h0 w :=
  ⟨H.grown, by rw [← hl]; exact H.kle, fun i hi => H.dom i (by rw [hl]; exact hi), H.plc, fun i o ho hv => H.obj i o (hs i o ho hv) hv,
    fun i j a c p q hi hj ha hc => H.sep i j a c p q (hs i a hi ha) (hs j c hj hc) ha hc, H.gl⟩
/-- The blocks that a call lays behind those of a memory: its value, those of them that are kept, and what must be the same. -/
noncomputable def laysS (P : Program) (hk : Hook3) (orc : Orc) (L f : Nat) (keep : Nat → Bool) (h0 : List AO) (g : FuncId) (args : List Value) : Option (Value × List AO × Cs) :=
  match callA P ⟨ex P (aOp P) (drawE P) hk orc accQ L f, hk, fun _ _ => none, accQ⟩ g args h0 with
  | some (v, h, m) =>
    if quietB h0.length m.1 && (Nat.ble h0.length h.length && (refF (fun x => decide (h0.length ≤ x) && decide (x < h0.length + (thinL keep 0 (h.drop h0.length)).length)) 6 v && (thinL keep 0 (h.drop h0.length)).all (refO fun x => decide (h0.length ≤ x) && decide (x < h0.length + (thinL keep 0 (h.drop h0.length)).length)))) then some (v, thinL keep 0 (h.drop h0.length), m.2) else none
  | none => none
theorem laysS_ok {P : Program} (hng : NoNG P) {hk : Hook3} (hhk : HookOk3 P hk) {orc : Orc} {L f : Nat} {keep : Nat → Bool} {h0 : List AO} {g : FuncId} {args args' : List Value} {v : Value} {new : List AO} {cs : Cs} (hr : laysS P hk orc L f keep h0 g args = some (v, new, cs)) (hc : ∀ c ∈ cs, c.1 = c.2)
    {wb : Wb} {k : Nat} {s : Ren} {h : List AO} {w : World} (hq : h.length = h0.length) (hs : subH h0 h = true) (H : HR wb k s h w) (ha : LR s args args') : Calls P g ⟨args'⟩ w (CallPost wb k s v (h ++ new)) := by
  unfold laysS at hr
  split at hr
  · rename_i v1 h1 m hca
    split at hr
    · rename_i hcond
      simp only [Option.some.injEq, Prod.mk.injEq] at hr
      obtain ⟨rfl, hnew, rfl⟩ := hr
      simp only [Bool.and_eq_true] at hcond
      obtain ⟨hq3, hq4, hrv, hro⟩ := hcond
      have hge := Nat.le_of_ble_eq_true hq4
      have hnl : new.length = (h1.drop h0.length).length := by rw [← hnew, thinL_length]
      rw [hnew] at hrv hro
      have HP := (H.sub hs hq).here
      refine (callA_ok (ex_ok accQ_eq hng (aOp_ok P hng) (drawE_ok P) (drawE_low P) hhk L f _) hca (wb := w) (k := h0.length) ⟨quietB_ok hq3, hc⟩ ha HP).mono ?_
      rintro e w' ⟨s', v', rfl, _, H1, hvr⟩
      have H' : HR w h0.length s' (h1.take h0.length ++ new) w' := by
        refine H1.less (fun i o ho hl => ?_) (by rw [List.length_append, List.length_take, hnl, List.length_drop]; omega)
        by_cases hi : i < h0.length
        · rw [List.getElem?_append_left (by rw [List.length_take]; omega), List.getElem?_take, if_pos hi] at ho
          exact ho
        · rw [List.getElem?_append_right (by rw [List.length_take]; omega), List.length_take, Nat.min_eq_left hge, ← hnew] at ho
          have := thinL_at ho hl
          rw [List.getElem?_drop] at this
          rw [← this]
          congr 1
          omega
      have HD := H.pad new.length
      have hr1 : new.all (refO fun x => (fun _ => false) x || (decide (h0.length ≤ x) && decide (x < h0.length + new.length))) = true := by simpa using hro
      obtain ⟨H2, hle2, hok⟩ := HD.layNew (q := h0.length) (bs := new) (by simp only [List.length_append, List.length_replicate]; omega) (by have := H.kle; omega) (fun x hx1 _ => H.dom x (by omega))
        H' (fun x o ho => by
          rw [List.getElem?_append_right (by rw [List.length_take]; omega), List.length_take, Nat.min_eq_left hge, Nat.add_sub_cancel_left]
          exact ho) (old := fun _ => false) (fun x hx => by cases hx) (fun x hx => by cases hx) hr1
      rw [← hq] at hle2 hok hrv
      rw [← hq, layL_end] at H2
      exact ⟨_, v', rfl, hle2, H2, hvr.refs hok 6 (by simpa using hrv)⟩
    · cases hr
  · cases hr
/-- A table of such calls: by function, arguments and the memory that it asks for. -/
structure LayS where
  f : FuncId
  args : List Value
  h0 : List AO
  v : Value
  new : List AO
def laySHook : List LayS → Hook3
  | [] => fun _ _ _ => none
  | e :: l => fun f args h => if Nat.beq f e.f && (Nat.beq h.length e.h0.length && (eqML args e.args && subH e.h0 h)) && plainN e.new then some (e.v, e.new, []) else laySHook l f args h
def LaySOk (P : Program) (e : LayS) : Prop :=
  ∀ (wb : Wb) (k : Nat) (s : Ren) (h : List AO) (w : World) (args' : List Value), h.length = e.h0.length → subH e.h0 h = true → HR wb k s h w → LR s e.args args' → Calls P e.f ⟨args'⟩ w (CallPost wb k s e.v (h ++ e.new))
theorem laySHook_ok {P : Program} : ∀ {t : List LayS}, (∀ e ∈ t, LaySOk P e) → HookOk3 P (laySHook t)
  | [], _ => by intro f args h v new cs hv; cases hv
  | e :: t, ht => by
    intro f args h v new cs hv hc wb k s w args' hb H ha
    unfold laySHook at hv
    split at hv
    · rename_i hcond
      simp only [Bool.and_eq_true] at hcond
      obtain ⟨⟨h1, h2, h3, h4⟩, hpl⟩ := hcond
      cases hv
      rw [hookH_plain hpl]
      obtain rfl := Nat.eq_of_beq_eq_true h1
      rw [eqML_ok h3] at ha
      exact ht e (List.mem_cons_self ..) wb k s h w args' (Nat.eq_of_beq_eq_true h2) h4 H ha
    · exact laySHook_ok (fun e he => ht e (List.mem_cons_of_mem _ he)) f args h v new cs hv hc wb k s w args' hb H ha
theorem layS_mk {P : Program} (hng : NoNG P) {hk : Hook3} (hhk : HookOk3 P hk) (keep : Nat → Bool) (e : LayS) {cs : Cs} (hr : laysS P hk noOrc 100000 300 keep e.h0 e.f e.args = some (e.v, e.new, cs)) (hc : cs.map (·.1) = cs.map (·.2)) : LaySOk P e :=
  fun _ _ _ _ _ _ hq hs H ha => laysS_ok hng hhk hr (map_same hc) hq hs H ha
end Go.Proofs.Ytafegjmaldbbiaa.Ex
