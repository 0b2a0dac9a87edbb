/-
  Runs that the kernel reckons, part 15: hooks that lay memory, and how a run becomes one.
-/
import Derived.Test.YtafegjmaldbbiaaEx14
namespace Go.Proofs.Ytafegjmaldbbiaa.Ex
open Go Go.RowKit

/-- What the kernel reckons of a call, with hooks that may lay memory. -/
noncomputable def ran3 (P : Program) (hk : Hook3) (orc : Orc) (L f : Nat) (h0 : List AO) (g : FuncId) (args : List Value) : Option (Value × List AO × Mk) :=
  match callA P ⟨ex P (aOp P) (drawE P) hk orc accQ L f, hk, fun _ _ => none, accQ⟩ g args h0 with
  | some (v, h, m) => if quietB h0.length m.1 then some (v, h, m) else none
  | none => none
noncomputable def reckon3L (P : Program) (hk : Hook3) (orc : Orc) (L f : Nat) (h0 : List AO) (g : FuncId) (args : List Value) : Option (Value × List Int) :=
  match ran3 P hk orc L f h0 g args with
  | some (v, _, m) => some (v, m.2.map (·.1))
  | none => none
noncomputable def reckon3R (P : Program) (hk : Hook3) (orc : Orc) (L f : Nat) (h0 : List AO) (g : FuncId) (args : List Value) (v : Value) : Option (Value × List Int) :=
  match ran3 P hk orc L f h0 g args with
  | some (_, _, m) => some (v, m.2.map (·.2))
  | none => some (v, [])
theorem reckon3_any {P : Program} (hng : NoNG P) {hk : Hook3} (hhk : HookOk3 P hk) (orc : Orc) (L f : Nat) (h0 : List AO) {g : FuncId} {args : List Value} {v : Value} (ha : args.all flat = true) (hv : flat v = true) (h : reckon3L P hk orc L f h0 g args = reckon3R P hk orc L f h0 g args v) (w : World) (hL : Laid h0 w) :
    Calls P g ⟨args⟩ w fun e w' => e = .returned v ∧ Gr w w' := by
  unfold reckon3L reckon3R ran3 at h
  cases hc : callA P ⟨ex P (aOp P) (drawE P) hk orc accQ L f, hk, fun _ _ => none, accQ⟩ g args h0 with
  | none => rw [hc] at h; cases h
  | some r =>
    obtain ⟨v', h', m⟩ := r
    rw [hc] at h
    simp only at h
    split at h
    · rename_i r2 v2 h2 m2 hm2
      split at hm2
      · rename_i hq
        cases hm2
        simp only [Option.some.injEq, Prod.mk.injEq] at h
        obtain ⟨rfl, h3⟩ := h
        refine (callA_ok (ex_ok accQ_eq hng (aOp_ok P hng) (drawE_ok P) (drawE_low P) hhk L f _) hc (wb := w) (k := h0.length) (s := placeG h0 w) ⟨quietB_ok hq, map_same h3⟩ (LR.ofFlat ha) (HR.start hL)).mono ?_
        rintro e w' ⟨s', u, rfl, _, H, hvr⟩
        rw [hvr.eq_of_flat hv]
        exact ⟨rfl, H.grown.gr⟩
      · cases hm2
    · cases h
theorem reckon3_ok {P : Program} (hng : NoNG P) {hk : Hook3} (hhk : HookOk3 P hk) (orc : Orc) (L f : Nat) (h0 : List AO) {g : FuncId} {args : List Value} {v : Value} {ls rs : List Int} (ha : args.all flat = true) (hv : flat v = true) (h1 : reckon3L P hk orc L f h0 g args = some (v, ls))
    (h2 : reckon3R P hk orc L f h0 g args v = some (v, rs)) (he : ls = rs) (w : World) (hL : Laid h0 w) : Calls P g ⟨args⟩ w fun e w' => e = .returned v ∧ Gr w w' :=
  reckon3_any hng hhk orc L f h0 ha hv (h1.trans (he ▸ h2.symm)) w hL
/-- The blocks that a call of flat arguments lays, where so many blocks are told already: its value, they, and what must be the same. -/
noncomputable def lays (P : Program) (hk : Hook3) (orc : Orc) (L f : Nat) (q : Nat) (g : FuncId) (args : List Value) : Option (Value × List AO × Cs) :=
  match callA P ⟨ex P (aOp P) (drawE P) hk orc accQ L f, hk, fun _ _ => none, accQ⟩ g args (List.replicate q dead) with
  | some (v, h, m) =>
    if quietB q m.1 && (refF (fun x => decide (q ≤ x) && decide (x < q + (h.drop q).length)) 6 v && (h.drop q).all (refO fun x => decide (q ≤ x) && decide (x < q + (h.drop q).length))) then some (v, h.drop q, m.2) else none
  | none => none
theorem layL_end {h new : List AO} : layL (h ++ List.replicate new.length dead) h.length new = h ++ new := by
  unfold layL
  rw [List.take_left', List.drop_of_length_le (by simp)]
  · simp
  · rfl
theorem lays_ok {P : Program} (hng : NoNG P) {hk : Hook3} (hhk : HookOk3 P hk) {orc : Orc} {L f q : Nat} {g : FuncId} {args : List Value} {v : Value} {new : List AO} {cs : Cs} (ha : args.all flat = true) (hr : lays P hk orc L f q g args = some (v, new, cs)) (hc : ∀ c ∈ cs, c.1 = c.2)
    {wb : Wb} {k : Nat} {s : Ren} {h : List AO} {w : World} (hq : h.length = q) (H : HR wb k s h w) : Calls P g ⟨args⟩ w (CallPost wb k s v (h ++ new)) := by
  unfold lays at hr
  split at hr
  · rename_i v1 h1 m hca
    split at hr
    · rename_i hcond
      cases hr
      simp only [Bool.and_eq_true] at hcond
      obtain ⟨hq3, hrv, hro⟩ := hcond
      have HP := ((HR.init w).pad q).here
      rw [List.nil_append, List.length_replicate] at HP
      refine (callA_ok (ex_ok accQ_eq hng (aOp_ok P hng) (drawE_ok P) (drawE_low P) hhk L f _) hca (wb := w) (k := q) ⟨quietB_ok hq3, hc⟩ (LR.ofFlat ha) HP).mono ?_
      rintro e w' ⟨s', v', rfl, _, H', hvr⟩
      have HD := H.pad (h1.drop q).length
      have hr1 : (h1.drop q).all (refO fun x => (fun _ => false) x || (decide (q ≤ x) && decide (x < q + (h1.drop q).length))) = true := by simpa using hro
      obtain ⟨H2, hle2, hok⟩ := HD.layNew (q := q) (bs := h1.drop q) (by simp only [List.length_append, List.length_replicate]; omega) (by have := H.kle; omega) (fun x hx1 _ => H.dom x (by omega))
        H' (fun x o ho => by rw [List.getElem?_drop] at ho; exact ho) (old := fun _ => false) (fun x hx => by cases hx) (fun x hx => by cases hx) hr1
      subst hq
      rw [layL_end] at H2
      refine ⟨_, v', rfl, hle2, H2, hvr.refs hok 6 ?_⟩
      simpa using hrv
    · cases hr
  · cases hr
/-- A table of calls that lay memory: by function, arguments and how many blocks are told already. -/
structure LayCall where
  f : FuncId
  args : List Value
  q : Nat
  v : Value
  new : List AO
def layHook (same : List Value → List Value → Bool) : List LayCall → Hook3
  | [] => fun _ _ _ => none
  | e :: l => fun f args h => if Nat.beq f e.f && (Nat.beq h.length e.q && same args e.args) && plainN e.new then some (e.v, e.new, []) else layHook same l f args h
/-- Its call does that, wherever so many blocks are told. -/
def LayOk (P : Program) (e : LayCall) : Prop :=
  ∀ (wb : Wb) (k : Nat) (s : Ren) (h : List AO) (w : World), h.length = e.q → HR wb k s h w → Calls P e.f ⟨e.args⟩ w (CallPost wb k s e.v (h ++ e.new))
theorem layHook_ok {P : Program} {same : List Value → List Value → Bool} (hs : ∀ a b, same a b = true → a = b) : ∀ {t : List LayCall}, (∀ e ∈ t, e.args.all flat = true ∧ LayOk P e) → HookOk3 P (layHook same t)
  | [], _ => by intro f args h v new cs hv; cases hv
  | e :: t, ht => by
    intro f args h v new cs hv hc wb k s w args' hb H ha
    unfold layHook at hv
    split at hv
    · rename_i hcond
      simp only [Bool.and_eq_true] at hcond
      obtain ⟨⟨h1, h2, h3⟩, hpl⟩ := hcond
      cases hv
      rw [hookH_plain hpl]
      obtain rfl := Nat.eq_of_beq_eq_true h1
      obtain rfl := hs _ _ h3
      obtain ⟨hfl, hok⟩ := ht e (List.mem_cons_self ..)
      rw [ha.eq_of_flat hfl]
      exact hok wb k s h w (Nat.eq_of_beq_eq_true h2) H
    · exact layHook_ok hs (fun e he => ht e (List.mem_cons_of_mem _ he)) f args h v new cs hv hc wb k s w args' hb H ha
def orHook3 (a b : Hook3) : Hook3 := fun f args h =>
  match a f args h with
  | some r => some r
  | none => b f args h
theorem orHook3_ok {P : Program} {a b : Hook3} (ha : HookOk3 P a) (hb : HookOk3 P b) : HookOk3 P (orHook3 a b) := by
  intro f args h v new cs hv
  unfold orHook3 at hv
  split at hv
  · rename_i r hr
    cases hv
    exact ha f args h v new cs hr
  · exact hb f args h v new cs hv
end Go.Proofs.Ytafegjmaldbbiaa.Ex
