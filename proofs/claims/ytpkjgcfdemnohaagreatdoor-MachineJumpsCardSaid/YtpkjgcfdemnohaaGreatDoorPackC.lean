/-
  Lemmas for the laws of this seat, part C: Ex14, Ex15, Memo, Ex16, Ex17, Shelf, RepHook, SlHook, NoNG, LaidArr, Plain, Flat, Law14a, Sym, NumsMath, Nums, NumsMath2, Mj1, ExI, Open, PostGr.
-/
import Derived.Test.YtpkjgcfdemnohaaGreatDoorPackB
import Derived.Shelf.Strings.Repeat
import Derived.Test.YtpkjgcfdemnohaaGreatDoorProg
import Derived.OpenShut
import Derived.MakeChecks
import Derived.Deep.Fields
import Derived.ChangeSame
import Derived.ProofKit
import Derived.WalkKit
import Derived.ShutString
import Derived.Test.YtpkjgcfdemnohaaGreatDoorRows
import Derived.Handy
import Derived.Lib.SlBytesRow
import Derived.WideKeyArgs
section
namespace Go.Proofs.YtpkjgcfdemnohaaGreatDoor.Ex
open Go Go.RowKit

/-- The first blocks: a package's variables; those that are not spoken of are given up. -/
def placeG (h0 : List AO) (w : World) : Ren := fun g =>
  match h0[g]?, w.shape? g with
  | some o, some (_, tot) => if o.live then some ⟨g, 0, tot, some GM⟩ else none
  | _, _ => none
def Laid (h0 : List AO) (w : World) : Prop :=
  ∀ (g : Nat) (o : AO), h0[g]? = some o → o.live = true → o.es = some GM ∧ o.cs.all flat = true ∧ ∃ T tot, w.shape? g = some (T, tot) ∧ o.cs.length ≤ tot ∧ ∀ (j : Nat) (v : Value), o.cs[j]? = some v → w.cell? ⟨g, j, none⟩ = some v
theorem shape_cells {w : World} {g : Nat} {T : TypeId} {n : Nat} (h : w.shape? g = some (T, n)) : g < w.heap.size ∧ ∀ j, j < n → (w.cell? ⟨g, j, none⟩).isSome = true := by
  unfold World.shape? at h
  split at h
  · rename_i c e f hh
    cases h
    refine ⟨(Array.getElem?_eq_some_iff.1 hh).1, fun j hj => ?_⟩
    unfold World.cell?
    simp only [hh]
    simpa using hj
  · cases h
theorem HR.start {h0 : List AO} {w : World} (hL : Laid h0 w) : HR w h0.length (placeG h0 w) h0 w := by
  have pl : ∀ g p, placeG h0 w g = some p → ∃ o T tot, h0[g]? = some o ∧ o.live = true ∧ w.shape? g = some (T, tot) ∧ p = ⟨g, 0, tot, some GM⟩ := by
    intro g p hp
    unfold placeG at hp
    split at hp
    · rename_i o T tot ho hs
      split at hp
      · rename_i hl; cases hp; exact ⟨o, T, tot, ho, hl, hs, rfl⟩
      · cases hp
    · cases hp
  refine ⟨Gr.refl w, Nat.le_refl _, fun i hi => ?_, fun i p hp => ?_, fun i o ho hl => ?_, fun i j a b p q hi hj _ _ hp hq e => ?_, fun g p hp _ => ?_⟩
  · unfold placeG
    rw [List.getElem?_eq_none hi]
  · obtain ⟨o, T, tot, ho, hl, hs, rfl⟩ := pl i p hp
    have := (shape_cells hs).1
    have hlt := (List.getElem?_eq_some_iff.1 ho).1
    exact ⟨fun _ => this, fun h => absurd h (by omega), this⟩
  · obtain ⟨he, hf, T, tot, hs, hle, hc⟩ := hL i o ho hl
    refine ⟨⟨i, 0, tot, some GM⟩, by unfold placeG; simp [ho, hl, hs], he.symm, ObjAt.block (by unfold isM; rw [he]; rfl) ⟨by simpa using hle, (shape_cells hs).2, ⟨T, hs⟩, fun hg => absurd rfl hg, fun j v hv => ⟨v, ?_, .same (all_get hf hv)⟩⟩⟩
    rw [Nat.zero_add]
    exact hc j v hv
  · obtain ⟨_, _, _, _, _, _, rfl⟩ := pl i p hp
    obtain ⟨_, _, _, _, _, _, rfl⟩ := pl j q hq
    exact e
  · obtain ⟨_, _, _, _, _, _, rfl⟩ := pl g p hp
    exact ⟨rfl, rfl⟩
/-- A memory that is told by a heap whose first blocks are such variables has these. -/
def eqI : Value → Value → Bool
  | .int k a, .int j b => if k = j then a == b else false
  | x, y => veq0 x y
theorem eqI_ok {x y : Value} (h : eqI x y = true) : x = y := by
  unfold eqI at h
  split at h
  · split at h
    · rename_i hk; rw [hk, eq_of_beq h]
    · cases h
  · exact veq0_ok h
def eqL : List Value → List Value → Bool
  | [], [] => true
  | x :: xs, y :: ys => eqI x y && eqL xs ys
  | _, _ => false
theorem eqL_ok : ∀ {xs ys : List Value}, eqL xs ys = true → xs = ys
  | [], [], _ => rfl
  | x :: xs, y :: ys, h => by
    simp only [eqL, Bool.and_eq_true] at h
    rw [eqI_ok h.1, eqL_ok h.2]
  | [], _ :: _, h => by cases h
  | _ :: _, [], h => by cases h
def hasG : List AO → List AO → Bool
  | [], _ => true
  | _ :: _, [] => false
  | o :: l, p :: h => (!o.live || (p.live && (match p.es with | some e => Nat.beq e GM | none => false) && eqL p.cs o.cs)) && hasG l h
theorem hasG_at : ∀ {h0 h : List AO}, hasG h0 h = true → ∀ (g : Nat) (o : AO), h0[g]? = some o → o.live = true → ∃ p, h[g]? = some p ∧ p.live = true ∧ p.es = some GM ∧ p.cs = o.cs
  | [], _, _, g, o, ho, _ => by simp at ho
  | _ :: _, [], h, _, _, _, _ => by cases h
  | o :: l, p :: h, hh, g, q, hq, hl => by
    simp only [hasG, Bool.and_eq_true] at hh
    cases g with
    | succ g => simpa using hasG_at hh.2 g q (by simpa using hq) hl
    | zero =>
      simp at hq
      subst hq
      have h1 := hh.1
      simp only [hl, Bool.not_true, Bool.false_or, Bool.and_eq_true] at h1
      refine ⟨p, rfl, h1.1.1, ?_, eqL_ok h1.2⟩
      cases he : p.es with
      | none => rw [he] at h1; cases h1.1.2
      | some e => rw [he] at h1; rw [Nat.eq_of_beq_eq_true h1.1.2]
theorem HR.laid {wb : World} {k : Nat} {s : Ren} {h h0 : List AO} {w : World} (H : HR wb k s h w) (hh : hasG h0 h = true) (hf : h0.all (fun o => !o.live || (match o.es with | some e => Nat.beq e GM | none => false) && o.cs.all flat) = true) : Laid h0 w := by
  intro g o ho hl
  obtain ⟨p, hp, hpl, hpe, hpc⟩ := hasG_at hh g o ho hl
  have hfo := List.all_eq_true.1 hf o (List.mem_of_getElem? ho)
  simp only [hl, Bool.not_true, Bool.false_or, Bool.and_eq_true] at hfo
  have hoe : o.es = some GM := by
    cases he : o.es with
    | none => rw [he] at hfo; cases hfo.1
    | some e => rw [he] at hfo; rw [Nat.eq_of_beq_eq_true hfo.1]
  obtain ⟨q, hq, hqe, hb⟩ := H.obj g p hp hpl
  obtain ⟨e1, e2⟩ := H.gl g q hq (by rw [hqe, hpe])
  have B := hb.2 (by unfold isM; rw [hpe]; rfl)
  obtain ⟨T, hT⟩ := B.shp
  rw [e1] at hT
  refine ⟨hoe, hfo.2, T, q.tot, hT, ?_, fun j v hv => ?_⟩
  · have := B.fit
    rw [hpc] at this
    omega
  · obtain ⟨v', h1, h2⟩ := B.rel j v (by rw [hpc]; exact hv)
    rw [e1, e2, Nat.zero_add, h2.eq_of_flat (all_get hfo.2 hv)] at h1
    exact h1
noncomputable def ranG (P : Program) (hk : Hook) (orc : Orc) (L f : Nat) (h0 : List AO) (g : FuncId) (args : List Value) : Option (Value × List AO × Mk) :=
  match callA P ⟨ex P (aOp P) (drawE P) (liftH hk) orc accQ L f, liftH hk, fun _ _ => none, accQ⟩ g args h0 with
  | some (v, h, m) => if quietB h0.length m.1 then some (v, h, m) else none
  | none => none
noncomputable def reckonGL (P : Program) (hk : Hook) (orc : Orc) (L f : Nat) (h0 : List AO) (g : FuncId) (args : List Value) : Option (Value × List Int) :=
  match ranG P hk orc L f h0 g args with
  | some (v, _, m) => some (v, m.2.map (·.1))
  | none => none
noncomputable def reckonGR (P : Program) (hk : Hook) (orc : Orc) (L f : Nat) (h0 : List AO) (g : FuncId) (args : List Value) (v : Value) : Option (Value × List Int) :=
  match ranG P hk orc L f h0 g args with
  | some (_, _, m) => some (v, m.2.map (·.2))
  | none => some (v, [])
/-- A run with tests that are not reckoned: 'orc' says which way each goes; what it must hold for is 'ls = rs'. -/
theorem reckonX_any {P : Program} (hng : NoNG P) {hk : Hook} (hhk : HookOk2 P hk) (orc : Orc) (L f : Nat) (h0 : List AO) {g : FuncId} {args : List Value} {v : Value} (ha : args.all flat = true) (hv : flat v = true) (h : reckonGL P hk orc L f h0 g args = reckonGR P hk orc L f h0 g args v) (w : World) (hL : Laid h0 w) :
    Calls P g ⟨args⟩ w fun e w' => e = .returned v ∧ Gr w w' := by
  unfold reckonGL reckonGR ranG at h
  cases hc : callA P ⟨ex P (aOp P) (drawE P) (liftH hk) orc accQ L f, liftH hk, fun _ _ => none, accQ⟩ g args h0 with
  | none => rw [hc] at h; cases h
  | some r =>
    obtain ⟨v', h', m⟩ := r
    rw [hc] at h
    simp only at h
    split at h
    · rename_i r2 v2 h2 m2 hm2
      split at hm2
      · rename_i hq
        cases hm2
        simp only [Option.some.injEq, Prod.mk.injEq] at h
        obtain ⟨rfl, h3⟩ := h
        refine (callA_ok (ex_ok accQ_eq hng (aOp_ok P hng) (drawE_ok P) (drawE_low P) (lift_ok hhk) L f _) hc (wb := w) (k := h0.length) (s := placeG h0 w) ⟨quietB_ok hq, map_same h3⟩ (LR.ofFlat ha) (HR.start hL)).mono ?_
        rintro e w' ⟨s', u, rfl, _, H, hvr⟩
        rw [hvr.eq_of_flat hv]
        exact ⟨rfl, H.grown⟩
      · cases hm2
    · cases h
theorem reckonG_any {P : Program} (hng : NoNG P) {hk : Hook} (hhk : HookOk P hk) (orc : Orc) (L f : Nat) (h0 : List AO) {g : FuncId} {args : List Value} {v : Value} (ha : args.all flat = true) (hv : flat v = true) (h : reckonGL P (guardH hk) orc L f h0 g args = reckonGR P (guardH hk) orc L f h0 g args v) (w : World) (hL : Laid h0 w) :
    Calls P g ⟨args⟩ w fun e w' => e = .returned v ∧ Gr w w' := reckonX_any hng (guard_ok hhk) orc L f h0 ha hv h w hL
theorem reckonG_ok {P : Program} (hng : NoNG P) {hk : Hook} (hhk : HookOk P hk) (L f : Nat) (h0 : List AO) {g : FuncId} {args : List Value} {v : Value} (ha : args.all flat = true) (hv : flat v = true) (h : reckonGL P (guardH hk) noOrc L f h0 g args = reckonGR P (guardH hk) noOrc L f h0 g args v) (w : World) (hL : Laid h0 w) :
    Calls P g ⟨args⟩ w fun e w' => e = .returned v ∧ Gr w w' := reckonG_any hng hhk noOrc L f h0 ha hv h w hL
theorem reckonS_ok {P : Program} (hng : NoNG P) {hk : Hook} (hhk : HookOk P hk) (orc : Orc) (L f : Nat) (h0 : List AO) {g : FuncId} {args : List Value} {v : Value} {ls rs : List Int} (ha : args.all flat = true) (hv : flat v = true) (h1 : reckonGL P (guardH hk) orc L f h0 g args = some (v, ls))
    (h2 : reckonGR P (guardH hk) orc L f h0 g args v = some (v, rs)) (he : ls = rs) (w : World) (hL : Laid h0 w) : Calls P g ⟨args⟩ w fun e w' => e = .returned v ∧ Gr w w' :=
  reckonG_any hng hhk orc L f h0 ha hv (h1.trans (he ▸ h2.symm)) w hL
noncomputable def reckonGC (P : Program) (hk : Hook) (orc : Orc) (L f : Nat) (h0 : List AO) (g : FuncId) (args : List Value) : Option (Value × Cs) :=
  match ranG P hk orc L f h0 g args with
  | some (v, _, m) => some (v, m.2)
  | none => none
/-- The same, of one run alone: 'cs' are the pairs that must be the same. -/
theorem reckonT_ok {P : Program} (hng : NoNG P) {hk : Hook} (hhk : HookOk P hk) (orc : Orc) (L f : Nat) (h0 : List AO) {g : FuncId} {args : List Value} {v : Value} {cs : Cs} (ha : args.all flat = true) (hv : flat v = true) (h : reckonGC P (guardH hk) orc L f h0 g args = some (v, cs))
    (he : cs.map (·.1) = cs.map (·.2)) (w : World) (hL : Laid h0 w) : Calls P g ⟨args⟩ w fun e w' => e = .returned v ∧ Gr w w' := by
  refine reckonG_any hng hhk orc L f h0 ha hv ?_ w hL
  unfold reckonGC at h
  unfold reckonGL reckonGR
  split at h
  · rename_i v' h' m hr
    cases h
    simp only [he]
  · cases h
theorem reckonX_ok {P : Program} (hng : NoNG P) {hk : Hook} (hhk : HookOk2 P hk) (L f : Nat) (h0 : List AO) {g : FuncId} {args : List Value} {v : Value} (ha : args.all flat = true) (hv : flat v = true) (h : reckonGL P hk noOrc L f h0 g args = reckonGR P hk noOrc L f h0 g args v) (w : World) (hL : Laid h0 w) :
    Calls P g ⟨args⟩ w fun e w' => e = .returned v ∧ Gr w w' := reckonX_any hng hhk noOrc L f h0 ha hv h w hL
/-- Of one run alone, with hooks of any arguments: 'cs' are the pairs that must be the same. -/
theorem reckonXT_ok {P : Program} (hng : NoNG P) {hk : Hook} (hhk : HookOk2 P hk) (orc : Orc) (L f : Nat) (h0 : List AO) {g : FuncId} {args : List Value} {v : Value} {cs : Cs} (ha : args.all flat = true) (hv : flat v = true) (h : reckonGC P hk orc L f h0 g args = some (v, cs))
    (he : cs.map (·.1) = cs.map (·.2)) (w : World) (hL : Laid h0 w) : Calls P g ⟨args⟩ w fun e w' => e = .returned v ∧ Gr w w' := by
  refine reckonX_any hng hhk orc L f h0 ha hv ?_ w hL
  unfold reckonGC at h
  unfold reckonGL reckonGR
  split at h
  · rename_i v' h' m hr
    cases h
    simp only [he]
  · cases h
theorem laid_at {g : Nat} {cs : List Value} {w : World} (h : ∃ t fr, w.heap[g]? = some (.cells ⟨cs⟩ t fr)) : ∃ T tot, w.shape? g = some (T, tot) ∧ cs.length ≤ tot ∧ ∀ (j : Nat) (v : Value), cs[j]? = some v → w.cell? ⟨g, j, none⟩ = some v := by
  obtain ⟨t, fr, hh⟩ := h
  refine ⟨t, cs.length, by simp [World.shape?, hh], Nat.le_refl _, fun j v hv => ?_⟩
  unfold World.cell?
  simp only [hh]
  simpa using hv
/-- One variable, at its place. -/
theorem Laid.one {g0 : Nat} {cs : List Value} {w : World} (hf : cs.all flat = true) (h : ∃ t fr, w.heap[g0]? = some (.cells ⟨cs⟩ t fr)) : Laid (List.replicate g0 dead ++ [⟨true, some GM, cs⟩]) w := by
  intro g o ho hl
  by_cases e : g < g0
  · rw [List.getElem?_append_left (by simpa using e), List.getElem?_replicate, if_pos e] at ho
    cases ho
    cases hl
  · have h2 := (List.getElem?_eq_some_iff.1 ho).1
    simp only [List.length_append, List.length_replicate, List.length_singleton] at h2
    obtain rfl : g = g0 := by omega
    rw [List.getElem?_append_right (by simp)] at ho
    simp only [List.length_replicate, Nat.sub_self, List.getElem?_cons_zero, Option.some.injEq] at ho
    subst ho
    exact ⟨rfl, hf, laid_at h⟩
theorem Laid.nil (w : World) : Laid [] w := fun g o h => by simp at h
theorem Laid.gr {h0 : List AO} {w w' : World} (h : Laid h0 w) (g : Gr w w') : Laid h0 w' := fun i o ho hl =>
  let ⟨a, b, T, tot, hs, hle, hc⟩ := h i o ho hl
  ⟨a, b, T, tot, gr_shape g (shape_cells hs).1 hs, hle, fun j v hv => (gr_cell g (a := ⟨i, j, none⟩) (shape_cells hs).1).trans (hc j v hv)⟩
end Go.Proofs.YtpkjgcfdemnohaaGreatDoor.Ex
end
section
namespace Go.Proofs.YtpkjgcfdemnohaaGreatDoor.Ex
open Go Go.RowKit

/-- What the kernel reckons of a call, with hooks that may lay memory. -/
noncomputable def ran3 (P : Program) (hk : Hook3) (orc : Orc) (L f : Nat) (h0 : List AO) (g : FuncId) (args : List Value) : Option (Value × List AO × Mk) :=
  match callA P ⟨ex P (aOp P) (drawE P) hk orc accQ L f, hk, fun _ _ => none, accQ⟩ g args h0 with
  | some (v, h, m) => if quietB h0.length m.1 then some (v, h, m) else none
  | none => none
noncomputable def reckon3L (P : Program) (hk : Hook3) (orc : Orc) (L f : Nat) (h0 : List AO) (g : FuncId) (args : List Value) : Option (Value × List Int) :=
  match ran3 P hk orc L f h0 g args with
  | some (v, _, m) => some (v, m.2.map (·.1))
  | none => none
noncomputable def reckon3R (P : Program) (hk : Hook3) (orc : Orc) (L f : Nat) (h0 : List AO) (g : FuncId) (args : List Value) (v : Value) : Option (Value × List Int) :=
  match ran3 P hk orc L f h0 g args with
  | some (_, _, m) => some (v, m.2.map (·.2))
  | none => some (v, [])
theorem reckon3_any {P : Program} (hng : NoNG P) {hk : Hook3} (hhk : HookOk3 P hk) (orc : Orc) (L f : Nat) (h0 : List AO) {g : FuncId} {args : List Value} {v : Value} (ha : args.all flat = true) (hv : flat v = true) (h : reckon3L P hk orc L f h0 g args = reckon3R P hk orc L f h0 g args v) (w : World) (hL : Laid h0 w) :
    Calls P g ⟨args⟩ w fun e w' => e = .returned v ∧ Gr w w' := by
  unfold reckon3L reckon3R ran3 at h
  cases hc : callA P ⟨ex P (aOp P) (drawE P) hk orc accQ L f, hk, fun _ _ => none, accQ⟩ g args h0 with
  | none => rw [hc] at h; cases h
  | some r =>
    obtain ⟨v', h', m⟩ := r
    rw [hc] at h
    simp only at h
    split at h
    · rename_i r2 v2 h2 m2 hm2
      split at hm2
      · rename_i hq
        cases hm2
        simp only [Option.some.injEq, Prod.mk.injEq] at h
        obtain ⟨rfl, h3⟩ := h
        refine (callA_ok (ex_ok accQ_eq hng (aOp_ok P hng) (drawE_ok P) (drawE_low P) hhk L f _) hc (wb := w) (k := h0.length) (s := placeG h0 w) ⟨quietB_ok hq, map_same h3⟩ (LR.ofFlat ha) (HR.start hL)).mono ?_
        rintro e w' ⟨s', u, rfl, _, H, hvr⟩
        rw [hvr.eq_of_flat hv]
        exact ⟨rfl, H.grown⟩
      · cases hm2
    · cases h
theorem reckon3_ok {P : Program} (hng : NoNG P) {hk : Hook3} (hhk : HookOk3 P hk) (orc : Orc) (L f : Nat) (h0 : List AO) {g : FuncId} {args : List Value} {v : Value} {ls rs : List Int} (ha : args.all flat = true) (hv : flat v = true) (h1 : reckon3L P hk orc L f h0 g args = some (v, ls))
    (h2 : reckon3R P hk orc L f h0 g args v = some (v, rs)) (he : ls = rs) (w : World) (hL : Laid h0 w) : Calls P g ⟨args⟩ w fun e w' => e = .returned v ∧ Gr w w' :=
  reckon3_any hng hhk orc L f h0 ha hv (h1.trans (he ▸ h2.symm)) w hL
/-- The blocks that a call of flat arguments lays, where so many blocks are told already: its value, they, and what must be the same. -/
noncomputable def lays (P : Program) (hk : Hook3) (orc : Orc) (L f : Nat) (q : Nat) (g : FuncId) (args : List Value) : Option (Value × List AO × Cs) :=
  match callA P ⟨ex P (aOp P) (drawE P) hk orc accQ L f, hk, fun _ _ => none, accQ⟩ g args (List.replicate q dead) with
  | some (v, h, m) =>
    if quietB q m.1 && (refF (fun x => decide (q ≤ x) && decide (x < q + (h.drop q).length)) 6 v && (h.drop q).all (refO fun x => decide (q ≤ x) && decide (x < q + (h.drop q).length))) then some (v, h.drop q, m.2) else none
  | none => none
theorem layL_end {h new : List AO} : layL (h ++ List.replicate new.length dead) h.length new = h ++ new := by
  unfold layL
  rw [List.take_left', List.drop_of_length_le (by simp)]
  · simp
  · rfl
theorem lays_ok {P : Program} (hng : NoNG P) {hk : Hook3} (hhk : HookOk3 P hk) {orc : Orc} {L f q : Nat} {g : FuncId} {args : List Value} {v : Value} {new : List AO} {cs : Cs} (ha : args.all flat = true) (hr : lays P hk orc L f q g args = some (v, new, cs)) (hc : ∀ c ∈ cs, c.1 = c.2)
    {wb : World} {k : Nat} {s : Ren} {h : List AO} {w : World} (hq : h.length = q) (H : HR wb k s h w) : Calls P g ⟨args⟩ w (CallPost wb k s v (h ++ new)) := by
  unfold lays at hr
  split at hr
  · rename_i v1 h1 m hca
    split at hr
    · rename_i hcond
      cases hr
      simp only [Bool.and_eq_true] at hcond
      obtain ⟨hq3, hrv, hro⟩ := hcond
      have HP := ((HR.init w).pad q).here
      rw [List.nil_append, List.length_replicate] at HP
      refine (callA_ok (ex_ok accQ_eq hng (aOp_ok P hng) (drawE_ok P) (drawE_low P) hhk L f _) hca (wb := w) (k := q) ⟨quietB_ok hq3, hc⟩ (LR.ofFlat ha) HP).mono ?_
      rintro e w' ⟨s', v', rfl, _, H', hvr⟩
      have HD := H.pad (h1.drop q).length
      have hr1 : (h1.drop q).all (refO fun x => (fun _ => false) x || (decide (q ≤ x) && decide (x < q + (h1.drop q).length))) = true := by simpa using hro
      obtain ⟨H2, hle2, hok⟩ := HD.layNew (q := q) (bs := h1.drop q) (by simp only [List.length_append, List.length_replicate]; omega) (by have := H.kle; omega) (fun x hx1 _ => H.dom x (by omega))
        H' (fun x o ho => by rw [List.getElem?_drop] at ho; exact ho) (old := fun _ => false) (fun x hx => by cases hx) (fun x hx => by cases hx) hr1
      subst hq
      rw [layL_end] at H2
      refine ⟨_, v', rfl, hle2, H2, hvr.refs hok 6 ?_⟩
      simpa using hrv
    · cases hr
  · cases hr
/-- A table of calls that lay memory: by function, arguments and how many blocks are told already. -/
structure LayCall where
  f : FuncId
  args : List Value
  q : Nat
  v : Value
  new : List AO
def layHook (same : List Value → List Value → Bool) : List LayCall → Hook3
  | [] => fun _ _ _ => none
  | e :: l => fun f args h => if Nat.beq f e.f && (Nat.beq h.length e.q && same args e.args) then some (e.v, e.new, []) else layHook same l f args h
/-- Its call does that, wherever so many blocks are told. -/
def LayOk (P : Program) (e : LayCall) : Prop :=
  ∀ (wb : World) (k : Nat) (s : Ren) (h : List AO) (w : World), h.length = e.q → HR wb k s h w → Calls P e.f ⟨e.args⟩ w (CallPost wb k s e.v (h ++ e.new))
theorem layHook_ok {P : Program} {same : List Value → List Value → Bool} (hs : ∀ a b, same a b = true → a = b) : ∀ {t : List LayCall}, (∀ e ∈ t, e.args.all flat = true ∧ LayOk P e) → HookOk3 P (layHook same t)
  | [], _ => by intro f args h v new cs hv; cases hv
  | e :: t, ht => by
    intro f args h v new cs hv hc wb k s w args' H ha
    unfold layHook at hv
    split at hv
    · rename_i hcond
      simp only [Bool.and_eq_true] at hcond
      obtain ⟨h1, h2, h3⟩ := hcond
      cases hv
      obtain rfl := Nat.eq_of_beq_eq_true h1
      obtain rfl := hs _ _ h3
      obtain ⟨hfl, hok⟩ := ht e (List.mem_cons_self ..)
      rw [ha.eq_of_flat hfl]
      exact hok wb k s h w (Nat.eq_of_beq_eq_true h2) H
    · exact layHook_ok hs (fun e he => ht e (List.mem_cons_of_mem _ he)) f args h v new cs hv hc wb k s w args' H ha
def orHook3 (a b : Hook3) : Hook3 := fun f args h =>
  match a f args h with
  | some r => some r
  | none => b f args h
theorem orHook3_ok {P : Program} {a b : Hook3} (ha : HookOk3 P a) (hb : HookOk3 P b) : HookOk3 P (orHook3 a b) := by
  intro f args h v new cs hv
  unfold orHook3 at hv
  split at hv
  · rename_i r hr
    cases hv
    exact ha f args h v new cs hr
  · exact hb f args h v new cs hv
end Go.Proofs.YtpkjgcfdemnohaaGreatDoor.Ex
end
section
namespace Go.Proofs.YtpkjgcfdemnohaaGreatDoor.Ex
open Go Go.RowKit
def eqM : Value → Value → Bool
  | .agg ⟨a⟩, .agg ⟨b⟩ => eqL a b
  | x, y => eqI x y
theorem eqM_ok {x y : Value} (h : eqM x y = true) : x = y := by
  unfold eqM at h
  split at h
  · rw [eqL_ok h]
  · exact eqI_ok h
def eqML : List Value → List Value → Bool
  | [], [] => true
  | x :: xs, y :: ys => eqM x y && eqML xs ys
  | _, _ => false
theorem eqML_ok : ∀ {xs ys : List Value}, eqML xs ys = true → xs = ys
  | [], [], _ => rfl
  | x :: xs, y :: ys, h => by
    simp only [eqML, Bool.and_eq_true] at h
    rw [eqM_ok h.1, eqML_ok h.2]
  | [], _ :: _, h => by cases h
  | _ :: _, [], h => by cases h
/-- Of one function: arguments, and what it comes to. -/
abbrev Tab := List (List Value × Value)
def tabFind : Tab → List Value → Option Value
  | [], _ => none
  | e :: r, args => if eqML args e.1 then some e.2 else tabFind r args
theorem tabFind_mem : ∀ {t : Tab} {args : List Value} {v : Value}, tabFind t args = some v → (args, v) ∈ t
  | [], _, _, h => by cases h
  | e :: r, args, v, h => by
    simp only [tabFind] at h
    split at h
    · rename_i he
      cases h
      rw [eqML_ok he]
      simp
    · exact List.mem_cons_of_mem _ (tabFind_mem h)
def TabOk (P : Program) (h0 : List AO) (g : FuncId) : Tab → Prop
  | [] => True
  | e :: r => (∀ w, Laid h0 w → Calls P g ⟨e.1⟩ w fun x w' => x = .returned e.2 ∧ Gr w w') ∧ TabOk P h0 g r
theorem TabOk.at {P : Program} {h0 : List AO} {g : FuncId} : ∀ {t : Tab}, TabOk P h0 g t → ∀ e ∈ t, ∀ w, Laid h0 w → Calls P g ⟨e.1⟩ w fun x w' => x = .returned e.2 ∧ Gr w w'
  | [], _, e, he => by cases he
  | a :: r, h, e, he => by
    rcases List.mem_cons.1 he with q | q
    · rw [q]; exact h.1
    · exact h.2.at e q
theorem TabOk.app {P : Program} {h0 : List AO} {g : FuncId} : ∀ {s t : Tab}, TabOk P h0 g s → TabOk P h0 g t → TabOk P h0 g (s ++ t)
  | [], _, _, h => h
  | _ :: _, _, a, h => ⟨a.1, a.2.app h⟩
def memoHook (h0 : List AO) (g : FuncId) (t : Tab) : Hook := fun f args h =>
  if Nat.beq f g then
    match tabFind t args with
    | some v => if hasG h0 h then some (v, []) else none
    | none => none
  else none
theorem memoHook_ok {P : Program} {h0 : List AO} (hf : h0.all (fun o => !o.live || (match o.es with | some e => Nat.beq e GM | none => false) && o.cs.all flat) = true) {g : FuncId} {t : Tab} (ht : TabOk P h0 g t) : HookOk P (memoHook h0 g t) := by
  intro f args h v cs hv _ wb k s w H
  unfold memoHook at hv
  split at hv
  · rename_i hc
    obtain rfl := Nat.eq_of_beq_eq_true hc
    split at hv
    · rename_i v' hm
      split at hv
      · rename_i hg
        cases hv
        exact ht.at _ (tabFind_mem hm) w (H.laid hg hf)
      · cases hv
    · cases hv
  · cases hv
def orHook (a b : Hook) : Hook := fun f args h =>
  match a f args h with
  | some r => some r
  | none => b f args h
theorem orHook_ok {P : Program} {a b : Hook} (ha : HookOk P a) (hb : HookOk P b) : HookOk P (orHook a b) := by
  intro f args h v cs hv
  unfold orHook at hv
  split at hv
  · rename_i r hr
    cases hv
    exact ha f args h v cs hr
  · exact hb f args h v cs hv
/-- A call of no arguments, told by its contract. -/
def oneHook (h0 : List AO) (g : FuncId) (v : Value) : Hook := memoHook h0 g [([], v)]
end Go.Proofs.YtpkjgcfdemnohaaGreatDoor.Ex
end
section
namespace Go.Proofs.YtpkjgcfdemnohaaGreatDoor.Ex
open Go Go.RowKit

/-- A memory has, at the same places, what a smaller one tells of. -/
def eqEs : Option Nat → Option Nat → Bool
  | none, none => true
  | some a, some b => Nat.beq a b
  | _, _ => false
theorem eqEs_ok {a b : Option Nat} (h : eqEs a b = true) : a = b := by
  cases a <;> cases b <;> first | rfl | (cases h; done) | (rw [Nat.eq_of_beq_eq_true h])
def subH : List AO → List AO → Bool
  | [], _ => true
  | _ :: _, [] => false
  | o :: l, p :: h => (!o.live || (p.live && eqEs p.es o.es && eqL p.cs o.cs)) && subH l h
theorem subH_at : ∀ {h0 h : List AO}, subH h0 h = true → ∀ (g : Nat) (o : AO), h0[g]? = some o → o.live = true → h[g]? = some o
  | [], _, _, g, o, ho, _ => by simp at ho
  | _ :: _, [], h, _, _, _, _ => by cases h
  | o :: l, p :: h, hh, g, q, hq, hl => by
    simp only [subH, Bool.and_eq_true] at hh
    cases g with
    | succ g => simpa using subH_at hh.2 g q (by simpa using hq) hl
    | zero =>
      simp at hq
      subst hq
      have h1 := hh.1
      simp only [hl, Bool.not_true, Bool.false_or, Bool.and_eq_true] at h1
      have e1 := eqEs_ok h1.1.2
      have e2 := eqL_ok h1.2
      obtain ⟨pl, pe, pc⟩ := p
      obtain ⟨ol, oe, oc⟩ := o
      simp only at h1 hl e1 e2
      rw [List.getElem?_cons_zero, hl, h1.1.1, e1, e2]
theorem HR.sub {wb : World} {k : Nat} {s : Ren} {h h0 : List AO} {w : World} (H : HR wb k s h w) (hs : subH h0 h = true) (hl : h.length = h0.length) : HR wb k s h0 w :=
  ⟨H.grown, by rw [← hl]; exact H.kle, fun i hi => H.dom i (by rw [hl]; exact hi), H.plc, fun i o ho hv => H.obj i o (subH_at hs i o ho hv) hv,
    fun i j a c p q hi hj ha hc => H.sep i j a c p q (subH_at hs i a hi ha) (subH_at hs j c hj hc) ha hc, H.gl⟩
/-- Of some blocks those that are kept; others are given up. -/
def thinL (keep : Nat → Bool) : Nat → List AO → List AO
  | _, [] => []
  | i, o :: l => (if keep i then o else dead) :: thinL keep (i + 1) l
theorem thinL_length (keep : Nat → Bool) : ∀ (i : Nat) (l : List AO), (thinL keep i l).length = l.length
  | _, [] => rfl
  | i, o :: l => by simp [thinL, thinL_length keep (i + 1) l]
theorem thinL_at {keep : Nat → Bool} : ∀ {i : Nat} {l : List AO} {j : Nat} {o : AO}, (thinL keep i l)[j]? = some o → o.live = true → l[j]? = some o
  | _, [], _, _, h, _ => by simp [thinL] at h
  | i, q :: l, 0, o, h, hl => by
    simp only [thinL, List.getElem?_cons_zero, Option.some.injEq] at h
    split at h
    · subst h; rfl
    · subst h; cases hl
  | i, q :: l, j + 1, o, h, hl => by
    simp only [thinL, List.getElem?_cons_succ] at h
    simpa using thinL_at h hl
theorem HR.less {wb : World} {k : Nat} {s : Ren} {h h0 : List AO} {w : World} (H : HR wb k s h w) (hs : ∀ (i : Nat) (o : AO), h0[i]? = some o → o.live = true → h[i]? = some o) (hl : h.length = h0.length) : HR wb k s h0 w :=
  ⟨H.grown, by rw [← hl]; exact H.kle, fun i hi => H.dom i (by rw [hl]; exact hi), H.plc, fun i o ho hv => H.obj i o (hs i o ho hv) hv,
    fun i j a c p q hi hj ha hc => H.sep i j a c p q (hs i a hi ha) (hs j c hj hc) ha hc, H.gl⟩
/-- The blocks that a call lays behind those of a memory: its value, those of them that are kept, and what must be the same. -/
noncomputable def laysS (P : Program) (hk : Hook3) (orc : Orc) (L f : Nat) (keep : Nat → Bool) (h0 : List AO) (g : FuncId) (args : List Value) : Option (Value × List AO × Cs) :=
  match callA P ⟨ex P (aOp P) (drawE P) hk orc accQ L f, hk, fun _ _ => none, accQ⟩ g args h0 with
  | some (v, h, m) =>
    if quietB h0.length m.1 && (Nat.ble h0.length h.length && (refF (fun x => decide (h0.length ≤ x) && decide (x < h0.length + (thinL keep 0 (h.drop h0.length)).length)) 6 v && (thinL keep 0 (h.drop h0.length)).all (refO fun x => decide (h0.length ≤ x) && decide (x < h0.length + (thinL keep 0 (h.drop h0.length)).length)))) then some (v, thinL keep 0 (h.drop h0.length), m.2) else none
  | none => none
theorem laysS_ok {P : Program} (hng : NoNG P) {hk : Hook3} (hhk : HookOk3 P hk) {orc : Orc} {L f : Nat} {keep : Nat → Bool} {h0 : List AO} {g : FuncId} {args args' : List Value} {v : Value} {new : List AO} {cs : Cs} (hr : laysS P hk orc L f keep h0 g args = some (v, new, cs)) (hc : ∀ c ∈ cs, c.1 = c.2)
    {wb : World} {k : Nat} {s : Ren} {h : List AO} {w : World} (hq : h.length = h0.length) (hs : subH h0 h = true) (H : HR wb k s h w) (ha : LR s args args') : Calls P g ⟨args'⟩ w (CallPost wb k s v (h ++ new)) := by
  unfold laysS at hr
  split at hr
  · rename_i v1 h1 m hca
    split at hr
    · rename_i hcond
      simp only [Option.some.injEq, Prod.mk.injEq] at hr
      obtain ⟨rfl, hnew, rfl⟩ := hr
      simp only [Bool.and_eq_true] at hcond
      obtain ⟨hq3, hq4, hrv, hro⟩ := hcond
      have hge := Nat.le_of_ble_eq_true hq4
      have hnl : new.length = (h1.drop h0.length).length := by rw [← hnew, thinL_length]
      rw [hnew] at hrv hro
      have HP := (H.sub hs hq).here
      refine (callA_ok (ex_ok accQ_eq hng (aOp_ok P hng) (drawE_ok P) (drawE_low P) hhk L f _) hca (wb := w) (k := h0.length) ⟨quietB_ok hq3, hc⟩ ha HP).mono ?_
      rintro e w' ⟨s', v', rfl, _, H1, hvr⟩
      have H' : HR w h0.length s' (h1.take h0.length ++ new) w' := by
        refine H1.less (fun i o ho hl => ?_) (by rw [List.length_append, List.length_take, hnl, List.length_drop]; omega)
        by_cases hi : i < h0.length
        · rw [List.getElem?_append_left (by rw [List.length_take]; omega), List.getElem?_take, if_pos hi] at ho
          exact ho
        · rw [List.getElem?_append_right (by rw [List.length_take]; omega), List.length_take, Nat.min_eq_left hge, ← hnew] at ho
          have := thinL_at ho hl
          rw [List.getElem?_drop] at this
          rw [← this]
          congr 1
          omega
      have HD := H.pad new.length
      have hr1 : new.all (refO fun x => (fun _ => false) x || (decide (h0.length ≤ x) && decide (x < h0.length + new.length))) = true := by simpa using hro
      obtain ⟨H2, hle2, hok⟩ := HD.layNew (q := h0.length) (bs := new) (by simp only [List.length_append, List.length_replicate]; omega) (by have := H.kle; omega) (fun x hx1 _ => H.dom x (by omega))
        H' (fun x o ho => by
          rw [List.getElem?_append_right (by rw [List.length_take]; omega), List.length_take, Nat.min_eq_left hge, Nat.add_sub_cancel_left]
          exact ho) (old := fun _ => false) (fun x hx => by cases hx) (fun x hx => by cases hx) hr1
      rw [← hq] at hle2 hok hrv
      rw [← hq, layL_end] at H2
      exact ⟨_, v', rfl, hle2, H2, hvr.refs hok 6 (by simpa using hrv)⟩
    · cases hr
  · cases hr
/-- A table of such calls: by function, arguments and the memory that it asks for. -/
structure LayS where
  f : FuncId
  args : List Value
  h0 : List AO
  v : Value
  new : List AO
def laySHook : List LayS → Hook3
  | [] => fun _ _ _ => none
  | e :: l => fun f args h => if Nat.beq f e.f && (Nat.beq h.length e.h0.length && (eqML args e.args && subH e.h0 h)) then some (e.v, e.new, []) else laySHook l f args h
def LaySOk (P : Program) (e : LayS) : Prop :=
  ∀ (wb : World) (k : Nat) (s : Ren) (h : List AO) (w : World) (args' : List Value), h.length = e.h0.length → subH e.h0 h = true → HR wb k s h w → LR s e.args args' → Calls P e.f ⟨args'⟩ w (CallPost wb k s e.v (h ++ e.new))
theorem laySHook_ok {P : Program} : ∀ {t : List LayS}, (∀ e ∈ t, LaySOk P e) → HookOk3 P (laySHook t)
  | [], _ => by intro f args h v new cs hv; cases hv
  | e :: t, ht => by
    intro f args h v new cs hv hc wb k s w args' H ha
    unfold laySHook at hv
    split at hv
    · rename_i hcond
      simp only [Bool.and_eq_true] at hcond
      obtain ⟨h1, h2, h3, h4⟩ := hcond
      cases hv
      obtain rfl := Nat.eq_of_beq_eq_true h1
      rw [eqML_ok h3] at ha
      exact ht e (List.mem_cons_self ..) wb k s h w args' (Nat.eq_of_beq_eq_true h2) h4 H ha
    · exact laySHook_ok (fun e he => ht e (List.mem_cons_of_mem _ he)) f args h v new cs hv hc wb k s w args' H ha
theorem layS_mk {P : Program} (hng : NoNG P) {hk : Hook3} (hhk : HookOk3 P hk) (keep : Nat → Bool) (e : LayS) {cs : Cs} (hr : laysS P hk noOrc 100000 300 keep e.h0 e.f e.args = some (e.v, e.new, cs)) (hc : cs.map (·.1) = cs.map (·.2)) : LaySOk P e :=
  fun _ _ _ _ _ _ hq hs H ha => laysS_ok hng hhk hr (map_same hc) hq hs H ha
end Go.Proofs.YtpkjgcfdemnohaaGreatDoor.Ex
end
section
namespace Go.Proofs.YtpkjgcfdemnohaaGreatDoor.Ex
open Go Go.RowKit

/-- One of the blocks, told by another number. -/
theorem HR.one {wb : World} {k : Nat} {s : Ren} {h : List AO} {w : World} (H : HR wb k s h w) {a q : Nat} {b : AO} (hb : h[a]? = some b) (hl : b.live = true) (hf : b.cs.all flat = true) (hw : isW b = true) (ha : k ≤ a) (hq : k ≤ q) :
    HR wb k (fun i => if i = q then s a else none) (List.replicate q dead ++ [b]) w := by
  obtain ⟨hnm, hng⟩ := isW_spec hw
  obtain ⟨p, hp, he, hob⟩ := H.obj a b hb hl
  have at' : ∀ (i : Nat) (o : AO), (List.replicate q dead ++ [b])[i]? = some o → o.live = true → i = q ∧ o = b := by
    intro i o ho hv
    by_cases hi : i < q
    · rw [List.getElem?_append_left (by simpa using hi), List.getElem?_replicate, if_pos hi] at ho
      cases ho; cases hv
    · have := (List.getElem?_eq_some_iff.1 ho).1
      simp only [List.length_append, List.length_replicate, List.length_singleton] at this
      obtain rfl : i = q := by omega
      rw [List.getElem?_append_right (by simp)] at ho
      simp at ho
      exact ⟨rfl, ho.symm⟩
  have sp : ∀ i r, (if i = q then s a else none) = some r → i = q ∧ s a = some r := by
    intro i r hr
    split at hr
    · rename_i e; exact ⟨e, hr⟩
    · cases hr
  refine ⟨H.grown, by simp; omega, fun i hi => ?_, fun i r hr => ?_, fun i o ho hv => ?_, fun i j x y r1 r2 hi hj hx hy h1 h2 e => ?_, fun g r hr hes => ?_⟩
  · simp at hi
    rw [if_neg (by omega)]
  · obtain ⟨rfl, h1⟩ := sp i r hr
    obtain ⟨_, c2, c3⟩ := H.plc a r h1
    exact ⟨fun hlt => absurd hlt (by omega), fun _ => c2 ha, c3⟩
  · obtain ⟨rfl, rfl⟩ := at' i o ho hv
    refine ⟨p, by simp only [if_true]; exact hp, he, ObjAt.block hnm ?_⟩
    have B := hob.2 hnm
    exact ⟨B.fit, B.all, B.shp, B.free, fun x v hv => by
      obtain ⟨v', g1, g2⟩ := B.rel x v hv
      have hfl := all_get hf hv
      exact ⟨v', g1, by rw [g2.eq_of_flat hfl]; exact .same hfl⟩⟩
  · obtain ⟨rfl, _⟩ := at' i x hi hx
    obtain ⟨rfl, _⟩ := at' j y hj hy
    rfl
  · obtain ⟨rfl, h1⟩ := sp g r hr
    rw [hp] at h1
    cases h1
    rw [he] at hes
    exact absurd hes hng
/-- A value's address of a block, by another number. -/
def ren1 (a b : Nat) : Value → Value
  | .slice (some x) l c => if Nat.beq x.block a then .slice (some ⟨b, x.off, x.spot⟩) l c else .slice (some x) l c
  | .pointer (some x) => if Nat.beq x.block a then .pointer (some ⟨b, x.off, x.spot⟩) else .pointer (some x)
  | v => v
def renB (a : Nat) : Value → Bool
  | .slice (some x) _ _ => Nat.beq x.block a
  | .pointer (some x) => Nat.beq x.block a
  | v => flat1 v
def renV (a b : Nat) : Value → Value
  | .tuple vs => .tuple ⟨vs.toList.map (ren1 a b)⟩
  | v => ren1 a b v
def renOk (a : Nat) : Value → Bool
  | .tuple vs => vs.toList.all (renB a)
  | v => renB a v
theorem ren1_flat {a b : Nat} {v : Value} (h : flat1 v = true) : ren1 a b v = v := by
  unfold ren1
  split
  · simp [flat1, scal] at h
  · simp [flat1, scal] at h
  · rfl
theorem ren1_ok {s t : Ren} {a b : Nat} (hst : ∀ p, s a = some p → t b = some p) {v v' : Value} (h : VR s v v') (hr : renB a v = true) : VR t (ren1 a b v) v' := by
  unfold renB at hr
  split at hr
  · rename_i x l c
    obtain ⟨p, c', h1, h2, h3, rfl⟩ := h.slice_inv
    have e := Nat.eq_of_beq_eq_true hr
    simp only [ren1, hr, if_true]
    exact VR.slice (a := ⟨b, x.off, x.spot⟩) h1 (hst p (by rw [← e]; exact h2)) h3
  · rename_i x
    obtain ⟨p, h1, h2, rfl⟩ := h.ptr_inv
    have e := Nat.eq_of_beq_eq_true hr
    simp only [ren1, hr, if_true]
    exact VR.ptr (a := ⟨b, x.off, x.spot⟩) h1 (hst p (by rw [← e]; exact h2))
  · rw [ren1_flat hr, h.eq_of_flat (flat_of_flat1 hr)]
    exact .same (flat_of_flat1 hr)
theorem renV_ok {s t : Ren} {a b : Nat} (hst : ∀ p, s a = some p → t b = some p) {v v' : Value} (h : VR s v v') (hr : renOk a v = true) : VR t (renV a b v) v' := by
  unfold renOk at hr
  split at hr
  · rename_i vs
    obtain ⟨vs⟩ := vs
    obtain ⟨ys, rfl, hl⟩ := h.tuple_inv
    refine VR.tuple (by simpa using hl.1) fun i x y hx hy => ?_
    rw [List.getElem?_map] at hx
    cases hz : vs[i]? with
    | none => rw [hz] at hx; cases hx
    | some z =>
      rw [hz] at hx
      simp only [Option.map_some, Option.some.injEq] at hx
      subst hx
      exact ren1_ok hst (hl.2 i z y hz hy) (all_get hr hz)
  · rename_i hne
    have e : renV a b v = ren1 a b v := by
      unfold renV
      split
      · rename_i vs; exact absurd rfl (hne vs)
      · rfl
    rw [e]
    exact ren1_ok hst h hr
/-- The one block that is kept of those that a call lays: its value, with that block told by the next number. -/
noncomputable def laysO (P : Program) (hk : Hook3) (orc : Orc) (L f : Nat) (a : Nat) (h0 : List AO) (g : FuncId) (args : List Value) : Option (Value × AO × Cs) :=
  match callA P ⟨ex P (aOp P) (drawE P) hk orc accQ L f, hk, fun _ _ => none, accQ⟩ g args h0 with
  | some (v, h, m) =>
    match h[a]? with
    | some b => if quietB h0.length m.1 && (Nat.ble h0.length a && (b.live && (b.cs.all flat && (isW b && renOk a v)))) then some (renV a h0.length v, b, m.2) else none
    | none => none
  | none => none
theorem laysO_ok {P : Program} (hng : NoNG P) {hk : Hook3} (hhk : HookOk3 P hk) {orc : Orc} {L f a : Nat} {h0 : List AO} {g : FuncId} {args args' : List Value} {v : Value} {b : AO} {cs : Cs} (hr : laysO P hk orc L f a h0 g args = some (v, b, cs)) (hc : ∀ c ∈ cs, c.1 = c.2)
    {wb : World} {k : Nat} {s : Ren} {h : List AO} {w : World} (hq : h.length = h0.length) (hs : subH h0 h = true) (H : HR wb k s h w) (ha : LR s args args') : Calls P g ⟨args'⟩ w (CallPost wb k s v (h ++ [b])) := by
  unfold laysO at hr
  split at hr
  · rename_i v1 h1 m hca
    split at hr
    · rename_i b1 hb1
      split at hr
      · rename_i hcond
        cases hr
        simp only [Bool.and_eq_true] at hcond
        obtain ⟨hq3, hga, hlive, hfl, hwr, hrn⟩ := hcond
        have hga := Nat.le_of_ble_eq_true hga
        have HP := (H.sub hs hq).here
        refine (callA_ok (ex_ok accQ_eq hng (aOp_ok P hng) (drawE_ok P) (drawE_low P) hhk L f _) hca (wb := w) (k := h0.length) ⟨quietB_ok hq3, hc⟩ ha HP).mono ?_
        rintro e w' ⟨s', v', rfl, _, H1, hvr⟩
        have HO := H1.one hb1 hlive hfl hwr hga (Nat.le_refl h0.length)
        have HD := H.pad 1
        have hr1 : [b].all (refO fun x => (fun _ => false) x || (decide (h0.length ≤ x) && decide (x < h0.length + [b].length))) = true := by
          have key : ∀ (f : Nat → Bool) (n : Nat) (u : Value), flat u = true → refF f (n + 3) u = true := by
            intro f n u hu
            have sc : ∀ (m : Nat) (u : Value), scal u = true → refF f (m + 1) u = true := by
              intro m u hu
              cases u with
              | pointer a => cases a <;> first | exact hu | (simp [scal] at hu)
              | slice a _ _ => cases a <;> first | exact hu | (simp [scal] at hu)
              | map a => cases a <;> first | exact hu | (simp [scal] at hu)
              | agg _ => simp [scal] at hu
              | tuple _ => simp [scal] at hu
              | iface _ _ => simp [scal] at hu
              | func g x y =>
                cases g <;> first | (simp [scal] at hu; done) | skip
                simp only [scal, Bool.and_eq_true, List.isEmpty_iff] at hu
                simp [refF, hu.1, hu.2]
              | _ => exact hu
            have f1 : ∀ (m : Nat) (u : Value), flat1 u = true → refF f (m + 2) u = true := by
              intro m u hu
              cases u with
              | agg xs => exact List.all_eq_true.2 fun x hx => sc m x (List.all_eq_true.1 (by simpa [flat1] using hu) x hx)
              | _ => exact sc (m + 1) _ (by simpa [flat1] using hu)
            cases u with
            | tuple xs => exact List.all_eq_true.2 fun x hx => f1 n x (List.all_eq_true.1 (by simpa [flat] using hu) x hx)
            | iface t x => exact f1 n x (by simpa [flat] using hu)
            | _ => exact f1 (n + 1) _ (by simpa [flat] using hu)
          simp only [List.all_cons, List.all_nil, Bool.and_true, refO, Bool.or_eq_true]
          exact .inr (List.all_eq_true.2 fun x hx => key _ 3 x (List.all_eq_true.1 hfl x hx))
        obtain ⟨H2, hle2, hok⟩ := HD.layNew (q := h0.length) (bs := [b]) (by simp only [List.length_append, List.length_replicate, List.length_singleton]; omega) (by have := H.kle; omega) (fun x hx1 _ => H.dom x (by omega))
          HO (fun x o ho => by
            cases x with
            | zero =>
              simp only [List.getElem?_cons_zero, Option.some.injEq] at ho
              subst ho
              rw [List.getElem?_append_right (by simp)]
              simp
            | succ x => simp at ho) (old := fun _ => false) (fun x hx => by cases hx) (fun x hx => by cases hx) hr1
        refine ⟨_, v', rfl, hle2, ?_, renV_ok (fun p hp => ?_) hvr hrn⟩
        · have e := layL_end (h := h) (new := [b])
          rw [hq] at e
          rw [← e]
          exact H2
        · simp only [List.length_singleton]
          rw [if_pos (by omega)]
          simpa using hp
      · cases hr
    · cases hr
  · cases hr
theorem layO_mk {P : Program} (hng : NoNG P) {hk : Hook3} (hhk : HookOk3 P hk) (a : Nat) (e : LayS) {b : AO} (hn : e.new = [b]) {cs : Cs} (hr : laysO P hk noOrc 100000 300 a e.h0 e.f e.args = some (e.v, b, cs)) (hc : cs.map (·.1) = cs.map (·.2)) : LaySOk P e :=
  fun _ _ _ _ _ _ hq hs H ha => by rw [hn]; exact laysO_ok hng hhk hr (map_same hc) hq hs H ha
end Go.Proofs.YtpkjgcfdemnohaaGreatDoor.Ex
end
section
namespace Go.Proofs
open Go.Shelf
def Tryz.lays105_ren : Go.Shelf.Ren := ⟨fun | 105 => 77 | 212 => 142 | 99 => 143 | 165 => 144 | 166 => 145 | 170 => 146 | 169 => 147 | 263 => 210 | 264 => 170 | 206 => 211 | 240 => 212 | 241 => 213 | 276 => 275 | 277 => 276 | n => n, fun | 9 => 9 | 3 => 3 | 4 => 4 | 20 => 20 | 0 => 0 | 46 => 211 | 109 => 250 | 5 => 5 | 72 => 255 | 76 => 258 | 51 => 206 | 146 => 335 | 53 => 37 | 148 => 208 | 70 => 253 | 37 => 22 | 75 => 257 | 127 => 337 | 164 => 390 | 80 => 261 | n => n, fun | n => n⟩
theorem Tryz.lays105 : Go.Proofs.Lays.n105 Tryz.prog Tryz.lays105_ren := {
  mixed := by kernel_rfl
  f99 := Tryz.func143.trans (congrArg some (by kernel_rfl))
  f105 := Tryz.func77.trans (congrArg some (by kernel_rfl))
  f165 := Tryz.func144.trans (congrArg some (by kernel_rfl))
  f166 := Tryz.func145.trans (congrArg some (by kernel_rfl))
  f169 := Tryz.func147.trans (congrArg some (by kernel_rfl))
  f170 := Tryz.func146.trans (congrArg some (by kernel_rfl))
  f206 := Tryz.func211.trans (congrArg some (by kernel_rfl))
  f212 := Tryz.func142.trans (congrArg some (by kernel_rfl))
  f240 := Tryz.func212.trans (congrArg some (by kernel_rfl))
  f241 := Tryz.func213.trans (congrArg some (by kernel_rfl))
  f263 := Tryz.func210.trans (congrArg some (by kernel_rfl))
  f264 := Tryz.func170.trans (congrArg some (by kernel_rfl))
  f276 := Tryz.func275.trans (congrArg some (by kernel_rfl))
  f277 := Tryz.func276.trans (congrArg some (by kernel_rfl))
  t0 := Tryz.underlying0
  a0 := Tryz.isAgg0
  z0 := Tryz.sizeOf0
  v0 := Tryz.zeroValue0
  t3 := Tryz.underlying3
  a3 := Tryz.isAgg3
  z3 := Tryz.sizeOf3
  v3 := Tryz.zeroValue3
  t4 := Tryz.underlying4
  a4 := Tryz.isAgg4
  z4 := Tryz.sizeOf4
  v4 := Tryz.zeroValue4
  t5 := Tryz.underlying5
  a5 := Tryz.isAgg5
  z5 := Tryz.sizeOf5
  v5 := Tryz.zeroValue5
  t9 := Tryz.underlying9
  a9 := Tryz.isAgg9
  z9 := Tryz.sizeOf9
  v9 := Tryz.zeroValue9
  t20 := Tryz.underlying20
  a20 := Tryz.isAgg20
  z20 := Tryz.sizeOf20
  v20 := Tryz.zeroValue20
  t37 := Tryz.underlying22
  a37 := Tryz.isAgg22
  z37 := Tryz.sizeOf22
  v37 := Tryz.zeroValue22
  t46 := Tryz.underlying211
  a46 := Tryz.isAgg211
  z46 := Tryz.sizeOf211
  v46 := Tryz.zeroValue211
  t51 := Tryz.underlying206
  a51 := Tryz.isAgg206
  z51 := Tryz.sizeOf206
  v51 := Tryz.zeroValue206
  t53 := Tryz.underlying37
  a53 := Tryz.isAgg37
  z53 := Tryz.sizeOf37
  v53 := Tryz.zeroValue37
  t70 := Tryz.underlying253
  a70 := Tryz.isAgg253
  z70 := Tryz.sizeOf253
  v70 := Tryz.zeroValue253
  t72 := Tryz.underlying255
  a72 := Tryz.isAgg255
  z72 := Tryz.sizeOf255
  v72 := Tryz.zeroValue255
  t75 := Tryz.underlying257
  a75 := Tryz.isAgg257
  z75 := Tryz.sizeOf257
  v75 := Tryz.zeroValue257
  t76 := Tryz.underlying258
  a76 := Tryz.isAgg258
  z76 := Tryz.sizeOf258
  v76 := Tryz.zeroValue258
  t109 := Tryz.underlying250
  a109 := Tryz.isAgg250
  z109 := Tryz.sizeOf250
  v109 := Tryz.zeroValue250
  t127 := Tryz.underlying337
  a127 := Tryz.isAgg337
  z127 := Tryz.sizeOf337
  v127 := Tryz.zeroValue337
  t146 := Tryz.underlying335
  a146 := Tryz.isAgg335
  z146 := Tryz.sizeOf335
  v146 := Tryz.zeroValue335
  t148 := Tryz.underlying208
  a148 := Tryz.isAgg208
  z148 := Tryz.sizeOf208
  v148 := Tryz.zeroValue208
  t164 := Tryz.underlying390
  a164 := Tryz.isAgg390
  z164 := Tryz.sizeOf390
  v164 := Tryz.zeroValue390 }
theorem Tryz.Builder_Extra_105 : Builder.Extra Tryz.prog Tryz.lays105_ren := {
  sizeBuilder := by kernel_rfl
  liesBuilder := by kernel_rfl
  t5 := Tryz.underlying5
  a5 := Tryz.isAgg5
  z5 := Tryz.sizeOf5
  v5 := Tryz.zeroValue5
  infoByte := by kernel_rfl
  cellsByte := by kernel_rfl
  sizeByte := by kernel_rfl
  neB5 := by decide }
open Go.RowKit Go.Lib in
/-- THE MAIN CASE: at least two copies of a string that is not empty. (LAID: no walk: one application.) -/
theorem Tryz.strings_Repeat_main (s : ByteArray) (c : Nat) (w : World) (hc2 : 2 ≤ c) (hc : c ≤ 9223372036854775807) (hlen : s.size * c ≤ 140737488355328) (h0 : 0 < s.size) :
    Calls Tryz.prog 77 #[.string s, .int .i64 c] w fun e w' => e = .returned (.string ⟨(Lib.repeatL s.data.toList c).toArray⟩) ∧ Below w.heap.size w w' := Any.strings_Repeat_main Tryz.lays105 Tryz.Builder_Extra_105 s c w hc2 hc hlen h0
open Go.RowKit Go.Lib in
theorem Tryz.strings_Repeat_zero (s : ByteArray) (w : World) :
    Calls Tryz.prog 77 #[.string s, .int .i64 0] w fun e w' => e = .returned (.string ⟨#[]⟩) ∧ w' = w := Any.strings_Repeat_zero Tryz.lays105 s w
open Go.RowKit Go.Lib in
theorem Tryz.strings_Repeat_one (s : ByteArray) (w : World) :
    Calls Tryz.prog 77 #[.string s, .int .i64 1] w fun e w' => e = .returned (.string s) ∧ w' = w := Any.strings_Repeat_one Tryz.lays105 s w
open Go.RowKit Go.Lib in
/-- Copies of the empty string. (LAID: no walk: one application.) -/
theorem Tryz.strings_Repeat_empty (s : ByteArray) (c : Nat) (w : World) (hc2 : 2 ≤ c) (hc : c ≤ 9223372036854775807) (h0 : s.size = 0) :
    Calls Tryz.prog 77 #[.string s, .int .i64 c] w fun e w' => e = .returned (.string ⟨#[]⟩) ∧ w' = w := Any.strings_Repeat_empty Tryz.lays105 s c w hc2 hc h0
open Go.RowKit Go.Lib in
/-- count < 0: "It panics if count is negative". (LAID: no walk: one application.) -/
theorem Tryz.strings_Repeat_negative (s : ByteArray) (c : Int) (w : World) (hc : c < 0) :
    Calls Tryz.prog 77 #[.string s, .int .i64 c] w fun e w' => e = .panicked [{ v := repeatPanic Tryz.lays105_ren "strings: negative Repeat count", recovered := false }] ∧ w' = w := Any.strings_Repeat_negative Tryz.lays105 s c w hc
open Go.RowKit Go.Lib in
/-- len(s) * count is no int: ".. or if the result of (len(s) * count) overflows". (LAID: no walk: one application.) -/
theorem Tryz.strings_Repeat_overflow (s : ByteArray) (c : Nat) (w : World) (hc : c ≤ 9223372036854775807) (hs : s.size ≤ 9223372036854775807) (hbig : 9223372036854775807 < s.size * c) :
    Calls Tryz.prog 77 #[.string s, .int .i64 c] w fun e w' => e = .panicked [{ v := repeatPanic Tryz.lays105_ren "strings: Repeat output length overflow", recovered := false }] ∧ w' = w := Any.strings_Repeat_overflow Tryz.lays105 s c w hc hs hbig
open Go.RowKit Go.Lib in
/-- **strings.Repeat: count ≥ 0, the result within one allocation: count copies of s.** (LAID: no walk: one application.) -/
theorem Tryz.strings_Repeat (s : ByteArray) (c : Nat) (w : World) (hc : c ≤ 9223372036854775807) (hlen : s.size * c ≤ 140737488355328) :
    Calls Tryz.prog 77 #[.string s, .int .i64 c] w fun e w' => e = .returned (.string ⟨(Lib.repeatL s.data.toList c).toArray⟩) ∧ Below w.heap.size w w' := Any.strings_Repeat Tryz.lays105 Tryz.Builder_Extra_105 s c w hc hlen
end Go.Proofs
end
section
namespace Go.Proofs.YtpkjgcfdemnohaaGreatDoor.Ex
open Go Go.RowKit

theorem Gr.of_below {w w' : World} (h : Below w.heap.size w w') : Gr w w' := ⟨⟨h.os, h.output⟩, h.block, h.size⟩
def repHook : Hook := fun f args _ =>
  if Nat.beq f 77 then
    match args with
    | [.string s, .int .i64 n] => some (.string ⟨(Lib.repeatL s.data.toList n.toNat).toArray⟩, [(b2i (decide (0 ≤ n) && decide (n ≤ 100000) && decide (s.size ≤ 100000)), 1)])
    | _ => none
  else none
theorem repHook_ok : HookOk Tryz.prog repHook := by
  intro f args h0 v cs h hcs _ _ _ w _
  unfold repHook at h
  split at h
  · rename_i hf
    obtain rfl := Nat.eq_of_beq_eq_true hf
    split at h
    · rename_i s n
      cases h
      have hc : (decide (0 ≤ n) && decide (n ≤ 100000) && decide (s.size ≤ 100000)) = true := b2i_inj (hcs _ (List.mem_singleton.2 rfl))
      simp only [Bool.and_eq_true, decide_eq_true_eq] at hc
      have e : n = ((n.toNat : Nat) : Int) := by omega
      have hmul : s.size * n.toNat ≤ 100000 * 100000 := Nat.mul_le_mul hc.2 (by omega)
      have := Tryz.strings_Repeat s n.toNat w (by omega) (by omega)
      rw [← e] at this
      exact this.mono fun e w' h => ⟨h.1, Gr.of_below h.2⟩
    · cases h
  · cases h
end Go.Proofs.YtpkjgcfdemnohaaGreatDoor.Ex
end
section
namespace Go.Proofs.YtpkjgcfdemnohaaGreatDoor.Ex
open Go Go.RowKit
theorem orHook2_ok {P : Program} {a b : Hook} (ha : HookOk2 P a) (hb : HookOk2 P b) : HookOk2 P (orHook a b) := by
  intro f args h v cs hv
  unfold orHook at hv
  split at hv
  · rename_i r hr
    cases hv
    exact ha f args h v cs hr
  · exact hb f args h v cs hv
/-- Some blocks of a memory, as a memory of their own. -/
theorem HR.pick {wb : World} {k : Nat} {s : Ren} {h : List AO} {w : World} (H : HR wb k s h w) (h1 : List AO) (f : Nat → Nat)
    (hf : ∀ (i : Nat) (o : AO), h1[i]? = some o → o.live = true → ∃ o', h[f i]? = some o' ∧ o'.live = true ∧ o'.es = o.es ∧ o'.cs = o.cs ∧ o.cs.all flat = true ∧ isM o = false)
    (hinj : ∀ (i j : Nat) (a b : AO), h1[i]? = some a → h1[j]? = some b → a.live = true → b.live = true → f i = f j → i = j)
    (hg : ∀ (i : Nat) (o : AO), h1[i]? = some o → o.live = true → o.es = some GM → f i = i) :
    HR w h1.length (fun i => match h1[i]? with | some o => if o.live then s (f i) else none | none => none) h1 w := by
  have inv : ∀ i p, (match h1[i]? with | some o => if o.live then s (f i) else none | none => none) = some p → ∃ o, h1[i]? = some o ∧ o.live = true ∧ s (f i) = some p := by
    intro i p hp
    cases ho : h1[i]? with
    | none => rw [ho] at hp; cases hp
    | some o =>
      rw [ho] at hp
      simp only at hp
      split at hp
      · rename_i hl; exact ⟨o, rfl, hl, hp⟩
      · cases hp
  refine ⟨Gr.refl w, Nat.le_refl _, fun i hi => by rw [List.getElem?_eq_none hi], fun i p hp => ?_, fun i o ho hl => ?_, fun i j a b p q hi hj ha hb hp hq e => ?_, fun g p hp hes => ?_⟩
  · obtain ⟨o, ho, hl, hs⟩ := inv i p hp
    have := (H.plc _ p hs).2.2
    have hi := (List.getElem?_eq_some_iff.1 ho).1
    exact ⟨fun _ => this, fun h => absurd h (by omega), this⟩
  · obtain ⟨o', h1', h2, h3, h4, h5, h6⟩ := hf i o ho hl
    obtain ⟨p, hp, he, hb⟩ := H.obj _ o' h1' h2
    have hm : isM o' = false := by unfold isM at h6 ⊢; rw [h3]; exact h6
    have B := hb.2 hm
    refine ⟨p, by rw [ho]; simp only [hl, if_true]; exact hp, by rw [he, h3], ObjAt.block h6 ?_⟩
    rw [h4] at B
    exact ⟨B.fit, B.all, B.shp, B.free, fun x v hv => by
      obtain ⟨v', g1, g2⟩ := B.rel x v hv
      have hfl := all_get h5 hv
      exact ⟨v', g1, by rw [g2.eq_of_flat hfl]; exact .same hfl⟩⟩
  · obtain ⟨a', i1, i2, _, _, _, _⟩ := hf i a hi ha
    obtain ⟨b', j1, j2, _, _, _, _⟩ := hf j b hj hb
    obtain ⟨_, _, _, hs1⟩ := inv i p hp
    obtain ⟨_, _, _, hs2⟩ := inv j q hq
    exact hinj i j a b hi hj ha hb (H.sep _ _ a' b' p q i1 j1 i2 j2 hs1 hs2 e)
  · obtain ⟨o, ho, hl, hs⟩ := inv g p hp
    obtain ⟨o', h1', h2, h3, _, _, _⟩ := hf g o ho hl
    obtain ⟨p', hp', he, _⟩ := H.obj _ o' h1' h2
    rw [hs] at hp'
    cases hp'
    have e := hg g o ho hl (by rw [← h3, ← he, hes])
    rw [e] at hs
    exact H.gl g p hs hes
/-- A call: flat arguments ahead, and a slice of some cells behind; what it comes to. -/
structure SlCall where
  pre : List Value
  cs : List Value
  len : Nat
  v : Value
def slHeap (h0 : List AO) (e : SlCall) : List AO := h0 ++ [⟨true, none, e.cs⟩]
def slArgs (h0 : List AO) (e : SlCall) : List Value := e.pre ++ [.slice (some ⟨h0.length, 0, none⟩) e.len e.len]
def SlOk (P : Program) (h0 : List AO) (g : FuncId) (e : SlCall) : Prop :=
  ∀ (w : World) (s : Ren) (args' : List Value), HR w (slHeap h0 e).length s (slHeap h0 e) w → LR s (slArgs h0 e) args' → Calls P g ⟨args'⟩ w fun x w' => x = .returned e.v ∧ Gr w w'
noncomputable def reckonSl (P : Program) (hk : Hook) (L f : Nat) (h0 : List AO) (g : FuncId) (e : SlCall) : Option (Value × Cs) :=
  match callA P ⟨ex P (aOp P) (drawE P) (liftH hk) noOrc accQ L f, liftH hk, fun _ _ => none, accQ⟩ g (slArgs h0 e) (slHeap h0 e) with
  | some (v, _, m) => if quietB (slHeap h0 e).length m.1 then some (v, m.2) else none
  | none => none
theorem reckonSl_ok {P : Program} (hng : NoNG P) {hk : Hook} (hhk : HookOk2 P hk) (L f : Nat) (h0 : List AO) {g : FuncId} {e : SlCall} {cs : Cs} (hv : flat e.v = true) (h : reckonSl P hk L f h0 g e = some (e.v, cs)) (hc : cs.map (·.1) = cs.map (·.2)) : SlOk P h0 g e := by
  intro w s args' H ha
  unfold reckonSl at h
  split at h
  · rename_i v h' m hr
    split at h
    · rename_i hq
      simp only [Option.some.injEq, Prod.mk.injEq] at h
      obtain ⟨rfl, rfl⟩ := h
      refine (callA_ok (ex_ok accQ_eq hng (aOp_ok P hng) (drawE_ok P) (drawE_low P) (lift_ok hhk) L f _) hr ⟨quietB_ok hq, map_same hc⟩ ha H).mono ?_
      rintro x w' ⟨s', v', rfl, _, H', hvr⟩
      rw [hvr.eq_of_flat hv]
      exact ⟨rfl, H'.grown⟩
    · cases h
  · cases h
/-- Does a call hand in that? -/
def slHit (h : List AO) (e : SlCall) (args : List Value) : Option Nat :=
  match args.drop e.pre.length with
  | [.slice (some a) l c] =>
    if eqML (args.take e.pre.length) e.pre && Nat.beq a.off 0 && a.spot.isNone && Nat.beq l e.len && Nat.beq c e.len then
      match h[a.block]? with
      | some o => if o.live && o.es.isNone && eqL o.cs e.cs then some a.block else none
      | none => none
    else none
  | _ => none
def slFind (h : List AO) : List SlCall → List Value → Option SlCall
  | [], _ => none
  | e :: r, args => if (slHit h e args).isSome then some e else slFind h r args
def slHook (h0 : List AO) (g : FuncId) (t : List SlCall) : Hook := fun f args h =>
  if Nat.beq f g then
    match slFind h t args with
    | some e => if hasG h0 h then some (e.v, []) else none
    | none => none
  else none
theorem slFind_spec {h : List AO} : ∀ {t : List SlCall} {args : List Value} {e : SlCall}, slFind h t args = some e → e ∈ t ∧ ∃ b, slHit h e args = some b
  | [], _, _, hh => by cases hh
  | q :: r, args, e, hh => by
    simp only [slFind] at hh
    split at hh
    · rename_i hi
      cases hh
      exact ⟨by simp, Option.isSome_iff_exists.1 hi⟩
    · obtain ⟨h1, h2⟩ := slFind_spec hh
      exact ⟨List.mem_cons_of_mem _ h1, h2⟩
theorem slHook_ok {P : Program} {h0 : List AO} (hf : h0.all (fun o => !o.live || (match o.es with | some e => Nat.beq e GM | none => false) && o.cs.all flat) = true) {g : FuncId} {t : List SlCall}
    (hpre : t.all (fun e => e.pre.all flat && e.cs.all flat) = true) (ht : ∀ e ∈ t, SlOk P h0 g e) : HookOk2 P (slHook h0 g t) := by
  intro f args h v cs hv _ wb k s w args' H ha
  unfold slHook at hv
  split at hv
  · rename_i hc
    obtain rfl := Nat.eq_of_beq_eq_true hc
    split at hv
    · rename_i e he
      split at hv
      · rename_i hg
        cases hv
        obtain ⟨hmem, b, hb⟩ := slFind_spec he
        have hfl := List.all_eq_true.1 hpre e hmem
        simp only [Bool.and_eq_true] at hfl
        unfold slHit at hb
        split at hb
        · rename_i a l c hd
          split at hb
          · rename_i hq
            simp only [Bool.and_eq_true] at hq
            obtain ⟨⟨⟨⟨q1, q2⟩, q3⟩, q4⟩, q5⟩ := hq
            split at hb
            · rename_i o ho
              split at hb
              · rename_i hlo
                simp only [Bool.and_eq_true] at hlo
                obtain ⟨⟨l1, l2⟩, l3⟩ := hlo
                cases hb
                have hocs := eqL_ok l3
                have hoes : o.es = none := Option.isNone_iff_eq_none.1 l2
                have hargs : args = e.pre ++ [.slice (some ⟨a.block, 0, none⟩) e.len e.len] := by
                  have h1 := List.take_append_drop e.pre.length args
                  rw [hd, eqML_ok q1] at h1
                  obtain ⟨ab, ao, asp⟩ := a
                  obtain rfl : ao = 0 := Nat.eq_of_beq_eq_true q2
                  obtain rfl : asp = none := Option.isNone_iff_eq_none.1 q3
                  obtain rfl := Nat.eq_of_beq_eq_true q4
                  obtain rfl := Nat.eq_of_beq_eq_true q5
                  exact h1.symm
                obtain ⟨ab, ao, asp⟩ := a
                simp only at ho hargs
                obtain ⟨pb, hpb, hpe, _⟩ := H.obj ab o ho l1
                have glo : ∀ (i : Nat) (q : AO), h0[i]? = some q → q.live = true → q.es = some GM ∧ q.cs.all flat = true := by
                  intro i q hq hl
                  have h1 := List.all_eq_true.1 hf q (List.mem_of_getElem? hq)
                  simp only [hl, Bool.not_true, Bool.false_or, Bool.and_eq_true] at h1
                  refine ⟨?_, h1.2⟩
                  cases hes : q.es with
                  | none => rw [hes] at h1; cases h1.1
                  | some z => rw [hes] at h1; rw [Nat.eq_of_beq_eq_true h1.1]
                have cases1 : ∀ (i : Nat) (q : AO), (slHeap h0 e)[i]? = some q → (i < h0.length ∧ h0[i]? = some q) ∨ (i = h0.length ∧ q = ⟨true, none, e.cs⟩) := by
                  intro i q hq
                  unfold slHeap at hq
                  by_cases hi : i < h0.length
                  · rw [List.getElem?_append_left hi] at hq; exact .inl ⟨hi, hq⟩
                  · have h2 := (List.getElem?_eq_some_iff.1 hq).1
                    simp only [List.length_append, List.length_singleton] at h2
                    obtain rfl : i = h0.length := by omega
                    rw [List.getElem?_append_right (by omega)] at hq
                    simp at hq
                    exact .inr ⟨rfl, hq.symm⟩
                have HP := H.pick (slHeap h0 e) (fun i => if i < h0.length then i else ab)
                  (fun i q hq hl => by
                    rcases cases1 i q hq with ⟨hi, h2⟩ | ⟨rfl, rfl⟩
                    · obtain ⟨p, p1, p2, p3, p4⟩ := hasG_at hg i q h2 hl
                      obtain ⟨g1, g2⟩ := glo i q h2 hl
                      exact ⟨p, by simp only [hi, if_true]; exact p1, p2, by rw [p3, g1], p4, g2, by unfold isM; rw [g1]; rfl⟩
                    · exact ⟨o, by simp only [Nat.lt_irrefl, if_false]; exact ho, l1, hoes, hocs, hfl.2, rfl⟩)
                  (fun i j x y hi hj hx hy hij => by
                    rcases cases1 i x hi with ⟨i1, i2⟩ | ⟨rfl, rfl⟩
                    · rcases cases1 j y hj with ⟨j1, j2⟩ | ⟨rfl, rfl⟩
                      · simpa [i1, j1] using hij
                      · exfalso
                        obtain ⟨p, p1, _, p3, _⟩ := hasG_at hg i x i2 hx
                        simp only [i1, if_true, Nat.lt_irrefl, if_false] at hij
                        rw [hij, ho] at p1
                        cases p1
                        rw [hoes] at p3
                        cases p3
                    · rcases cases1 j y hj with ⟨j1, j2⟩ | ⟨rfl, rfl⟩
                      · exfalso
                        obtain ⟨p, p1, _, p3, _⟩ := hasG_at hg j y j2 hy
                        simp only [j1, if_true, Nat.lt_irrefl, if_false] at hij
                        rw [← hij, ho] at p1
                        cases p1
                        rw [hoes] at p3
                        cases p3
                      · rfl)
                  (fun i q hq hl hes => by
                    rcases cases1 i q hq with ⟨hi, h2⟩ | ⟨rfl, rfl⟩
                    · simp only [hi, if_true]
                    · cases hes)
                refine ht e hmem w _ args' HP ?_
                rw [hargs] at ha
                refine ⟨by unfold slArgs; rw [← ha.1]; simp, fun i x y hx hy => ?_⟩
                unfold slArgs at hx
                by_cases hi : i < e.pre.length
                · rw [List.getElem?_append_left hi] at hx
                  have h3 := ha.2 i x y (by rw [List.getElem?_append_left hi]; exact hx) hy
                  have hxf := all_get hfl.1 hx
                  rw [h3.eq_of_flat hxf]
                  exact .same hxf
                · have h2 := (List.getElem?_eq_some_iff.1 hx).1
                  simp only [List.length_append, List.length_singleton] at h2
                  obtain rfl : i = e.pre.length := by omega
                  rw [List.getElem?_append_right (by omega)] at hx
                  simp at hx
                  subst hx
                  have h3 := ha.2 e.pre.length (.slice (some ⟨ab, 0, none⟩) e.len e.len) y (by rw [List.getElem?_append_right (by omega)]; simp) hy
                  obtain ⟨p, c', _, hp, hcap, rfl⟩ := h3.slice_inv
                  refine VR.slice (a := ⟨h0.length, 0, none⟩) rfl ?_ hcap
                  show (match (slHeap h0 e)[h0.length]? with | some o => if o.live then s (if h0.length < h0.length then h0.length else ab) else none | none => none) = some p
                  have e1 : (slHeap h0 e)[h0.length]? = some ⟨true, none, e.cs⟩ := by unfold slHeap; rw [List.getElem?_append_right (by omega)]; simp
                  rw [e1]
                  simp only [if_true, Nat.lt_irrefl, if_false]
                  exact hp
              · cases hb
            · cases hb
          · cases hb
        · cases hb
      · cases hv
    · cases hv
  · cases hv
end Go.Proofs.YtpkjgcfdemnohaaGreatDoor.Ex
end
section
namespace Go.Proofs.YtpkjgcfdemnohaaGreatDoor.Ex
open Go Go.RowKit
set_option maxRecDepth 1000000 in
theorem noNG : NoNG Tryz.prog := noNG_ok (by kernel_rfl)
end Go.Proofs.YtpkjgcfdemnohaaGreatDoor.Ex
end
section
namespace Go.Proofs.YtpkjgcfdemnohaaGreatDoor.Ex
open Go Go.RowKit Go.ChangeShapes Go.WideShapes Go.WideMaps Go.WideElems Go.ChangeAt Go.Deep

theorem cells_of_ints {H : Type} {enc : TypeId × Value → H} {P : Program} {w : World} {base : Nat} {spare : Nat → Bool} {held : Bool} {fuel : Nat} {t e : TypeId} {len : Nat} {cs : List Value} {k : IntKind} {ns : List Int} {x : DataW H × List MemPlace}
    (ht : P.underlying t = some (.array len e)) (he : P.underlying e = some (.int k)) (hc : P.cellsOf e = 1) (hct : P.cellsOf t = len) (h : DataW.trod enc P w base spare held fuel t cs = some x) (hx : x.1 = .agg (ns.map fun n => .lit (.int k n))) : cs = ns.map (.int k) := by
  obtain ⟨xs, m, _, hxx, hlen, hn, hall⟩ := DataW.trod_array ht h
  rw [hct] at hlen
  simp only [hc] at hall
  have hm : xs.map (·.1) = ns.map fun n => .lit (.int k n) := by
    have h1 := congrArg Prod.fst hxx
    rw [hx] at h1
    injection h1 with h2
    exact h2.symm
  have hl : ns.length = len := by
    have := congrArg List.length hm
    simp at this
    omega
  apply List.ext_getElem?
  intro i
  by_cases hi : i < len
  · have hn0 : ∃ n, ns[i]? = some n := ⟨_, List.getElem?_eq_getElem (by omega)⟩
    obtain ⟨n, hn0⟩ := hn0
    obtain ⟨y, hy⟩ : ∃ y, xs[i]? = some y := ⟨_, List.getElem?_eq_getElem (by omega)⟩
    have hh := (hall i hi).trans hy
    obtain ⟨n', e1, rfl, _⟩ := DataW.trod_int he hh
    have h2 : (xs.map (·.1))[i]? = some (.lit (.int k n')) := by rw [List.getElem?_map, hy]; rfl
    rw [hm, List.getElem?_map, hn0] at h2
    simp at h2
    subst h2
    have h3 := congrArg (·[0]?) e1
    simp at h3
    rw [List.getElem?_map, hn0]
    simpa using h3
  · rw [List.getElem?_eq_none (by omega), List.getElem?_eq_none (by simp; omega)]
/-- An array of structs of two numbers. -/
theorem cells_of_pairs {H : Type} {enc : TypeId × Value → H} {P : Program} {w : World} {base : Nat} {spare : Nat → Bool} {held : Bool} {fuel : Nat} {t e : TypeId} {len : Nat} {cs : List Value} {k j : IntKind} {f0 f1 : Field} {ns : List (Int × Int)} {x : DataW H × List MemPlace}
    (ht : P.underlying t = some (.array len e)) (he : P.underlying e = some (.struct #[f0, f1])) (hone : oneCellFields P #[f0, f1] = true) (hc : P.cellsOf e = 2) (hct : P.cellsOf t = 2 * len) (u0 : P.underlying f0.type = some (.int k)) (u1 : P.underlying f1.type = some (.int j))
    (h : DataW.trod enc P w base spare held fuel t cs = some x) (hx : x.1 = .agg (ns.map fun n => .agg [.lit (.int k n.1), .lit (.int j n.2)])) : cs = (ns.map fun n => [Value.int k n.1, Value.int j n.2]).flatten := by
  obtain ⟨xs, m, _, hxx, hlen, hn, hall⟩ := DataW.trod_array ht h
  rw [hct] at hlen
  simp only [hc] at hall
  have hm : xs.map (·.1) = ns.map fun n => .agg [.lit (.int k n.1), .lit (.int j n.2)] := by
    have h1 := congrArg Prod.fst hxx
    rw [hx] at h1
    injection h1 with h2
    exact h2.symm
  have hl : ns.length = len := by
    have := congrArg List.length hm
    simp at this
    omega
  have each : ∀ (i : Nat), i < len → ∀ n, ns[i]? = some n → (cs.drop (i * 2)).take 2 = [Value.int k n.1, Value.int j n.2] := by
    intro i hi n hn0
    obtain ⟨y, hy⟩ : ∃ y, xs[i]? = some y := ⟨_, List.getElem?_eq_getElem (by omega)⟩
    have hh := (hall i hi).trans hy
    have h2 : (xs.map (·.1))[i]? = some y.1 := by rw [List.getElem?_map, hy]; rfl
    rw [hm, List.getElem?_map, hn0] at h2
    simp only [Option.map_some, Option.some.injEq] at h2
    obtain ⟨y0, y1, q, hyy, hll, h0, h1⟩ := trod_struct2 he hh
    rw [hc] at hll
    obtain ⟨o0, k0⟩ := hone_of hone 0 f0 rfl
    obtain ⟨o1, k1⟩ := hone_of hone 1 f1 rfl
    generalize (cs.drop (i * 2)).take 2 = ds at h0 h1 hll ⊢
    match ds, hll with
    | [c0, c1], _ =>
      simp only [o0, k0, o1, k1, List.drop_zero, List.take_succ_cons, List.take_zero, List.drop_succ_cons] at h0 h1
      obtain ⟨n0, e0, rfl, _⟩ := DataW.trod_int u0 h0
      obtain ⟨n1, e1, rfl, _⟩ := DataW.trod_int u1 h1
      rw [hyy] at h2
      simp at h2 e0 e1
      rw [e0, e1, h2.1, h2.2]
  have all : ∀ (l : List (Int × Int)) (i : Nat), l = ns.drop i → cs.drop (i * 2) = (l.map fun n => [Value.int k n.1, Value.int j n.2]).flatten := by
    intro l
    induction l with
    | nil =>
      intro i hi
      have : ns.length ≤ i := by
        have := congrArg List.length hi
        simp at this
        omega
      simp only [List.map_nil, List.flatten_nil]
      exact List.drop_eq_nil_of_le (by omega)
    | cons n l ih =>
      intro i hi
      have hn0 : ns[i]? = some n := by
        have := congrArg (·[0]?) hi
        simpa using this.symm
      have hilt : i < len := by rw [← hl]; exact (List.getElem?_eq_some_iff.1 hn0).1
      have h1 := each i hilt n hn0
      have h2 := ih (i + 1) (by
        have := congrArg (List.drop 1) hi
        simpa using this)
      rw [← List.take_append_drop 2 (cs.drop (i * 2)), h1, List.drop_drop, show i * 2 + 2 = (i + 1) * 2 by omega, h2]
      rfl
  have := all ns 0 (by simp)
  simpa using this
end Go.Proofs.YtpkjgcfdemnohaaGreatDoor.Ex
end
section
namespace Go.Proofs.YtpkjgcfdemnohaaGreatDoor
open Go.ChangeShapes Go.WideShapes Go.RowKit

inductive Kd where
  | i (k : IntKind)
  | b
  | s
def Kd.ok : Kd → Value → Prop
  | .i k, v => ∃ n, v = .int k n ∧ (Lit.int k n).wf = true
  | .b, v => ∃ x, v = .bool x
  | .s, v => ∃ x : ByteArray, v = .string x ∧ x.size ≤ maxLen
def okL : List Kd → List Value → Prop
  | [], [] => True
  | k :: ks, v :: vs => k.ok v ∧ okL ks vs
  | _, _ => False
theorem okL.nil {cs : List Value} (h : okL [] cs) : cs = [] := by cases cs with | nil => rfl | cons _ _ => exact h.elim
theorem okL.cons {k : Kd} {ks : List Kd} {cs : List Value} (h : okL (k :: ks) cs) : ∃ v vs, cs = v :: vs ∧ k.ok v ∧ okL ks vs := by
  cases cs with
  | nil => exact h.elim
  | cons v vs => exact ⟨v, vs, rfl, h.1, h.2⟩
theorem okL.length : ∀ {ks : List Kd} {cs : List Value}, okL ks cs → cs.length = ks.length
  | [], cs, h => by rw [h.nil]; rfl
  | k :: ks, cs, h => by
    obtain ⟨v, vs, rfl, _, h2⟩ := h.cons
    simp [okL.length h2]
theorem okL.append : ∀ {ks ls : List Kd} {cs ds : List Value}, okL ks cs → okL ls ds → okL (ks ++ ls) (cs ++ ds)
  | [], ls, cs, ds, h, g => by rw [h.nil]; exact g
  | k :: ks, ls, cs, ds, h, g => by
    obtain ⟨v, vs, rfl, h1, h2⟩ := h.cons
    exact ⟨h1, okL.append h2 g⟩
/-- The kinds of a struct's fields, one behind the other. -/
def kindsF (g : TypeId → Option (List Kd)) (cells : TypeId → Nat) : List Field → Nat → Option (List Kd)
  | [], _ => some []
  | f :: fs, off =>
    match g f.type with
    | some ks =>
      if f.offset = off ∧ cells f.type = ks.length then
        match kindsF g cells fs (off + ks.length) with
        | some ls => some (ks ++ ls)
        | none => none
      else none
    | none => none
def kindsT (P : Program) : Nat → TypeId → Option (List Kd)
  | 0, _ => none
  | f + 1, t =>
    match P.underlying t with
    | some .bool => some [.b]
    | some (.int k) => some [.i k]
    | some .string => some [.s]
    | some (.array n e) =>
      match kindsT P f e with
      | some ks => if P.cellsOf e = ks.length ∧ P.cellsOf t = n * ks.length then some (List.replicate n ks).flatten else none
      | none => none
    | some (.struct fs) =>
      match kindsF (kindsT P f) P.cellsOf fs.toList 0 with
      | some ks => if P.cellsOf t = ks.length then some ks else none
      | none => none
    | _ => none
theorem mapM_same {α β : Type} {g g' : α → Option β} : ∀ {l : List α} {xs : List β}, l.mapM g = some xs → (∀ a ∈ l, ∀ y, g a = some y → g' a = some y) → l.mapM g' = some xs
  | [], xs, h, _ => by simpa using h
  | a :: l, xs, h, hg => by
    simp only [List.mapM_cons] at h ⊢
    cases ha : g a with
    | none => rw [ha] at h; cases h
    | some y =>
      rw [ha] at h
      cases hl : l.mapM g with
      | none => rw [hl] at h; cases h
      | some ys =>
        rw [hl] at h
        rw [hg a (by simp) y ha, mapM_same hl fun b hb => hg b (by simp [hb])]
        exact h
theorem mapM_all {α β : Type} {g : α → Option β} {p : β → Prop} : ∀ {l : List α} {xs : List β}, l.mapM g = some xs → (∀ a ∈ l, ∀ y, g a = some y → p y) → ∀ y ∈ xs, p y
  | [], xs, h, _ => by simp at h; subst h; intro y hy; cases hy
  | a :: l, xs, h, hg => by
    simp only [List.mapM_cons] at h
    cases ha : g a with
    | none => rw [ha] at h; cases h
    | some y =>
      rw [ha] at h
      cases hl : l.mapM g with
      | none => rw [hl] at h; cases h
      | some ys =>
        rw [hl] at h
        cases h
        intro z hz
        rcases List.mem_cons.1 hz with e | e
        · rw [e]; exact hg a (by simp) y ha
        · exact mapM_all hl (fun b hb => hg b (by simp [hb])) z e
theorem mapM_each {α β : Type} {g : α → Option β} : ∀ {l : List α} {xs : List β}, l.mapM g = some xs → ∀ a ∈ l, ∃ y, g a = some y
  | [], _, _, a, ha => by cases ha
  | a :: l, xs, h, b, hb => by
    simp only [List.mapM_cons] at h
    cases ha : g a with
    | none => rw [ha] at h; cases h
    | some y =>
      rw [ha] at h
      cases hl : l.mapM g with
      | none => rw [hl] at h; cases h
      | some ys =>
        rcases List.mem_cons.1 hb with e | e
        · rw [e]; exact ⟨y, ha⟩
        · exact mapM_each hl b e
theorem arr_ok {cs : List Value} {ks : List Kd} : ∀ (m j : Nat), (∀ i, j ≤ i → i < j + m → okL ks ((cs.drop (i * ks.length)).take ks.length)) → okL (List.replicate m ks).flatten ((cs.drop (j * ks.length)).take (m * ks.length))
  | 0, j, _ => by simp [okL]
  | m + 1, j, h => by
    have h1 := h j (Nat.le_refl _) (by omega)
    have h2 := arr_ok m (j + 1) fun i h3 h4 => h i (by omega) (by omega)
    have e : (cs.drop (j * ks.length)).take ((m + 1) * ks.length) = (cs.drop (j * ks.length)).take ks.length ++ (cs.drop ((j + 1) * ks.length)).take (m * ks.length) := by
      rw [show (m + 1) * ks.length = ks.length + m * ks.length by rw [Nat.add_mul]; omega, List.take_add, List.drop_drop, show j * ks.length + ks.length = (j + 1) * ks.length by rw [Nat.add_mul]; omega]
    rw [e, List.replicate_succ, List.flatten_cons]
    exact h1.append h2
theorem str_ok {g : TypeId → Option (List Kd)} {cells : TypeId → Nat} {cs : List Value} : ∀ (fs : List Field) (off : Nat) (ks : List Kd), kindsF g cells fs off = some ks →
    (∀ f ∈ fs, ∀ ls, g f.type = some ls → okL ls ((cs.drop f.offset).take (cells f.type))) → okL ks ((cs.drop off).take ks.length)
  | [], off, ks, h, _ => by simp [kindsF] at h; subst h; simp [okL]
  | f :: fs, off, ks, h, hf => by
    simp only [kindsF] at h
    split at h
    · rename_i k1 hk
      split at h
      · rename_i hc
        split at h
        · rename_i k2 h2
          cases h
          have a1 := hf f (by simp) k1 hk
          rw [hc.1, hc.2] at a1
          have a2 := str_ok fs _ _ h2 fun q hq => hf q (by simp [hq])
          rw [List.length_append, List.take_add, List.drop_drop]
          exact a1.append a2
        · cases h
      · cases h
    · cases h
section
variable {H : Type} {enc : TypeId × Value → H} {P : Program}
theorem plain_kinds : ∀ (f : Nat) {t : TypeId} {ks : List Kd}, kindsT P f t = some ks → ∀ {w : World} {base : Nat} {sp : Nat → Bool} {held : Bool} {n : Nat} {cs : List Value} {x : DataW H × List MemPlace}, DataW.trod enc P w base sp held n t cs = some x → okL ks cs
  | 0, t, ks, h => by simp [kindsT] at h
  | f + 1, t, ks, h => by
    rename_i w base sp held n cs x
    intro hx
    simp only [kindsT] at h
    split at h
    · cases h
      rename_i hu
      cases n with
      | zero => simp [DataW.trod] at hx
      | succ n =>
        simp only [DataW.trod, hu] at hx
        split at hx <;> simp_all [okL, Kd.ok]
    · cases h
      rename_i k hu
      obtain ⟨m, rfl, _, hw⟩ := DataW.trod_int hu hx
      exact ⟨⟨m, rfl, hw⟩, trivial⟩
    · cases h
      rename_i hu
      obtain ⟨m, rfl, _, hw⟩ := DataW.trod_string hu hx
      exact ⟨⟨m, rfl, hw⟩, trivial⟩
    · rename_i m e hu
      split at h
      · rename_i k1 hk
        split at h
        · rename_i hc
          cases h
          obtain ⟨xs, q, rfl, _, hlen, hn, hall⟩ := DataW.trod_array hu hx
          have := arr_ok (cs := cs) (ks := k1) m 0 fun i _ hi => by
            have h1 := hall i (by omega)
            rw [hc.1] at h1
            exact plain_kinds f hk (h1.trans (List.getElem?_eq_getElem (by omega)))
          rw [Nat.zero_mul, List.drop_zero, ← hc.2, ← hlen, List.take_length] at this
          exact this
        · cases h
      · cases h
    · rename_i fs hu
      split at h
      · rename_i k1 hk
        split at h
        · rename_i hc
          cases h
          cases n with
          | zero => simp [DataW.trod] at hx
          | succ n =>
            have hx2 : (if cs.length = P.cellsOf t then (fs.toList.mapM fun f => DataW.trod enc P w base sp held n f.type ((cs.drop f.offset).take (P.cellsOf f.type))).map fun xs => ((DataW.agg (xs.map (·.1)) : DataW H), xs.flatMap (·.2)) else none) = some x := by
              rw [← hx]; simp only [DataW.trod, hu]
            split at hx2
            · rename_i hlen
              cases hm : fs.toList.mapM fun f => DataW.trod enc P w base sp held n f.type ((cs.drop f.offset).take (P.cellsOf f.type)) with
              | none => rw [hm] at hx2; cases hx2
              | some xs =>
                have := str_ok (cs := cs) fs.toList 0 ks hk fun g hg ls hl => by
                  obtain ⟨y, hy⟩ := mapM_each hm g hg
                  exact plain_kinds f hl hy
                rw [List.drop_zero, ← hc, ← hlen, List.take_length] at this
                exact this
            · cases hx2
        · cases h
      · cases h
    · cases h
theorem kindsF_each {g : TypeId → Option (List Kd)} {cells : TypeId → Nat} : ∀ {fs : List Field} {off : Nat} {ks : List Kd}, kindsF g cells fs off = some ks → ∀ f ∈ fs, ∃ ls, g f.type = some ls
  | [], _, _, _, f, hf => by cases hf
  | f :: fs, off, ks, h, q, hq => by
    simp only [kindsF] at h
    split at h
    · rename_i k1 hk
      split at h
      · split at h
        · rename_i k2 h2
          rcases List.mem_cons.1 hq with e | e
          · rw [e]; exact ⟨k1, hk⟩
          · exact kindsF_each h2 q e
        · cases h
      · cases h
    · cases h
theorem plain_any : ∀ (f : Nat) {t : TypeId} {ks : List Kd}, kindsT P f t = some ks → ∀ {w : World} {base : Nat} {sp : Nat → Bool} {held : Bool} {n : Nat} {cs : List Value} {x : DataW H × List MemPlace}, DataW.trod enc P w base sp held n t cs = some x →
    x.2 = [] ∧ ∀ (w' : World) (base' : Nat) (sp' : Nat → Bool) (held' : Bool), DataW.trod enc P w' base' sp' held' n t cs = some x
  | 0, t, ks, h => by simp [kindsT] at h
  | f + 1, t, ks, h => by
    rename_i w base sp held n cs x
    intro hx
    have hk1 := plain_kinds (f + 1) h hx
    simp only [kindsT] at h
    cases n with
    | zero => simp [DataW.trod] at hx
    | succ n =>
      split at h
      · cases h
        rename_i hu
        obtain ⟨v, vs, rfl, ⟨y, rfl⟩, hn⟩ := hk1.cons
        obtain rfl := hn.nil
        simp only [DataW.trod, hu] at hx ⊢
        cases hx
        exact ⟨rfl, fun _ _ _ _ => rfl⟩
      · cases h
        rename_i k hu
        obtain ⟨v, vs, rfl, ⟨y, rfl, hw⟩, hn⟩ := hk1.cons
        obtain rfl := hn.nil
        simp only [DataW.trod, hu, hw, and_self, if_true] at hx ⊢
        cases hx
        exact ⟨rfl, fun _ _ _ _ => rfl⟩
      · cases h
        rename_i hu
        obtain ⟨v, vs, rfl, ⟨y, rfl, hw⟩, hn⟩ := hk1.cons
        obtain rfl := hn.nil
        simp only [DataW.trod, hu, hw, if_true] at hx ⊢
        cases hx
        exact ⟨rfl, fun _ _ _ _ => rfl⟩
      · rename_i m e hu
        split at h
        · rename_i k1 hk
          have hd : ∀ (w : World) (base : Nat) (sp : Nat → Bool) (held : Bool), DataW.trod enc P w base sp held (n + 1) t cs = (if cs.length = P.cellsOf t then ((List.range m).mapM fun i => DataW.trod enc P w base sp held n e ((cs.drop (i * P.cellsOf e)).take (P.cellsOf e))).map fun xs => ((DataW.agg (xs.map (·.1)) : DataW H), xs.flatMap (·.2)) else none) := fun _ _ _ _ => by simp only [DataW.trod, hu]
          rw [hd] at hx
          split at hx
          · rename_i hlen
            cases hm : (List.range m).mapM fun i => DataW.trod enc P w base sp held n e ((cs.drop (i * P.cellsOf e)).take (P.cellsOf e)) with
            | none => rw [hm] at hx; cases hx
            | some xs =>
              rw [hm] at hx
              cases hx
              refine ⟨?_, fun w' base' sp' held' => ?_⟩
              · simp only [List.flatMap_eq_nil_iff]
                exact mapM_all hm fun a _ y hy => (plain_any f hk hy).1
              · rw [hd, if_pos hlen, mapM_same hm fun a _ y hy => (plain_any f hk hy).2 w' base' sp' held']
                rfl
          · cases hx
        · cases h
      · rename_i fs hu
        split at h
        · rename_i k1 hk
          have hd : ∀ (w : World) (base : Nat) (sp : Nat → Bool) (held : Bool), DataW.trod enc P w base sp held (n + 1) t cs = (if cs.length = P.cellsOf t then (fs.toList.mapM fun f => DataW.trod enc P w base sp held n f.type ((cs.drop f.offset).take (P.cellsOf f.type))).map fun xs => ((DataW.agg (xs.map (·.1)) : DataW H), xs.flatMap (·.2)) else none) := fun _ _ _ _ => by simp only [DataW.trod, hu]
          rw [hd] at hx
          split at hx
          · rename_i hlen
            cases hm : fs.toList.mapM fun f => DataW.trod enc P w base sp held n f.type ((cs.drop f.offset).take (P.cellsOf f.type)) with
            | none => rw [hm] at hx; cases hx
            | some xs =>
              rw [hm] at hx
              cases hx
              have hfs := kindsF_each hk
              refine ⟨?_, fun w' base' sp' held' => ?_⟩
              · simp only [List.flatMap_eq_nil_iff]
                exact mapM_all hm fun a ha y hy => let ⟨ls, hl⟩ := hfs a ha; (plain_any f hl hy).1
              · rw [hd, if_pos hlen, mapM_same hm fun a ha y hy => let ⟨ls, hl⟩ := hfs a ha; (plain_any f hl hy).2 w' base' sp' held']
                rfl
          · cases hx
        · cases h
      · cases h
/-- A parameter of plain data, of two cells or more. -/
theorem open_plain {f : Nat} {t : TypeId} {ks : List Kd} (hk : kindsT P f t = some ks) (h2 : 2 ≤ ks.length) {w : World} {base : Nat} {sp : Nat → Bool} {held : Bool} {v : Value} {d : DataW H} {p : List MemPlace} (h : DataW.Trod enc P w base sp held t v d p) :
    p = [] ∧ (∃ cs, v = .agg ⟨cs⟩ ∧ okL ks cs) ∧ ∀ (w' : World) (base' : Nat) (sp' : Nat → Bool) (held' : Bool), DataW.Trod enc P w' base' sp' held' t v d [] := by
  obtain ⟨n, hn⟩ := h
  obtain ⟨h1, h3⟩ := plain_any f hk hn
  simp only at h1
  subst h1
  have h4 := plain_kinds f hk hn
  refine ⟨rfl, ?_, fun w' b' s' h' => ⟨n, h3 w' b' s' h'⟩⟩
  have h5 := h4.length
  cases v with
  | agg cs => exact ⟨cs.toList, rfl, h4⟩
  | _ => simp [Value.cells] at h5; omega
/-- A parameter of plain data, of one cell. -/
theorem shut_plain {f : Nat} {t : TypeId} {ks : List Kd} (hk : kindsT P f t = some ks) {w : World} {base : Nat} {sp : Nat → Bool} {held : Bool} {v : Value} {d : DataW H} {p : List MemPlace} (h : DataW.Trod enc P w base sp held t v d p) :
    p = [] ∧ ∀ (w' : World) (base' : Nat) (sp' : Nat → Bool) (held' : Bool), DataW.Trod enc P w' base' sp' held' t v d [] := by
  obtain ⟨n, hn⟩ := h
  obtain ⟨h1, h3⟩ := plain_any f hk hn
  simp only at h1
  subst h1
  exact ⟨rfl, fun w' b' s' h' => ⟨n, h3 w' b' s' h'⟩⟩
end
end Go.Proofs.YtpkjgcfdemnohaaGreatDoor
end
section
namespace Go.Proofs.YtpkjgcfdemnohaaGreatDoor
open Go.ChangeShapes Go.WideShapes Go.RowKit

def flatD {H : Type} : Nat → DataW H → List Value
  | 0, _ => []
  | _ + 1, .lit (.int k n) => [.int k n]
  | _ + 1, .lit (.bool b) => [.bool b]
  | _ + 1, .lit (.string s) => [.string ⟨s.toArray⟩]
  | f + 1, .agg l => l.flatMap (flatD f)
  | _ + 1, _ => []
theorem arr_flat {α : Type} {cs : List Value} {k : Nat} {F : α → List Value} : ∀ (xs : List α) (j : Nat), (∀ i y, xs[i]? = some y → (cs.drop ((j + i) * k)).take k = F y) → (cs.drop (j * k)).take (xs.length * k) = xs.flatMap F
  | [], j, h => by simp
  | a :: l, j, h => by
    have h1 := h 0 a rfl
    have h2 := arr_flat l (j + 1) fun i y hy => by
      have := h (i + 1) y (by simpa using hy)
      rw [show j + (i + 1) = j + 1 + i by omega] at this
      exact this
    rw [List.length_cons, show (l.length + 1) * k = k + l.length * k by rw [Nat.add_mul]; omega, List.take_add, List.drop_drop, show j * k + k = (j + 1) * k by rw [Nat.add_mul]; omega, h2]
    rw [Nat.add_zero] at h1
    rw [h1]
    rfl
theorem str_flat {α : Type} {g : TypeId → Option (List Kd)} {cells : TypeId → Nat} {cs : List Value} {tr : Field → Option α} {F : α → List Value} : ∀ (fs : List Field) (off : Nat) (ks : List Kd) (xs : List α), kindsF g cells fs off = some ks → fs.mapM tr = some xs →
    (∀ f ∈ fs, ∀ y, tr f = some y → (cs.drop f.offset).take (cells f.type) = F y) → (cs.drop off).take ks.length = xs.flatMap F
  | [], off, ks, xs, h, hx, _ => by
    simp [kindsF] at h
    simp at hx
    subst h hx
    simp
  | f :: fs, off, ks, xs, h, hx, hf => by
    simp only [List.mapM_cons] at hx
    cases ha : tr f with
    | none => rw [ha] at hx; cases hx
    | some y =>
      rw [ha] at hx
      cases hl : fs.mapM tr with
      | none => rw [hl] at hx; cases hx
      | some ys =>
        rw [hl] at hx
        cases hx
        simp only [kindsF] at h
        split at h
        · rename_i k1 hk
          split at h
          · rename_i hc
            split at h
            · rename_i k2 h2
              cases h
              have a1 := hf f (by simp) y ha
              rw [hc.1, hc.2] at a1
              have a2 := str_flat fs _ _ _ h2 hl fun q hq => hf q (by simp [hq])
              rw [List.length_append, List.take_add, List.drop_drop, a1, a2]
              rfl
            · cases h
          · cases h
        · cases h
theorem flatMap_map {α β γ : Type} (l : List α) (g : α → β) (F : β → List γ) : (l.map g).flatMap F = l.flatMap fun a => F (g a) := by
  induction l with
  | nil => rfl
  | cons a l ih => simp [ih]
variable {H : Type} {enc : TypeId × Value → H} {P : Program}
theorem plain_flat : ∀ (f : Nat) {t : TypeId} {ks : List Kd}, kindsT P f t = some ks → ∀ {w : World} {base : Nat} {sp : Nat → Bool} {held : Bool} {n : Nat} {cs : List Value} {x : DataW H × List MemPlace}, DataW.trod enc P w base sp held n t cs = some x → cs = flatD f x.1
  | 0, t, ks, h => by simp [kindsT] at h
  | f + 1, t, ks, h => by
    rename_i w base sp held n cs x
    intro hx
    have hk1 := plain_kinds (f + 1) h hx
    simp only [kindsT] at h
    cases n with
    | zero => simp [DataW.trod] at hx
    | succ n =>
      split at h
      · cases h
        rename_i hu
        obtain ⟨v, vs, rfl, ⟨y, rfl⟩, hn⟩ := hk1.cons
        obtain rfl := hn.nil
        simp only [DataW.trod, hu] at hx
        cases hx
        rfl
      · cases h
        rename_i k hu
        obtain ⟨v, vs, rfl, ⟨y, rfl, hw⟩, hn⟩ := hk1.cons
        obtain rfl := hn.nil
        simp only [DataW.trod, hu, hw, and_self, if_true] at hx
        cases hx
        rfl
      · cases h
        rename_i hu
        obtain ⟨v, vs, rfl, ⟨y, rfl, hw⟩, hn⟩ := hk1.cons
        obtain rfl := hn.nil
        simp only [DataW.trod, hu, hw, if_true] at hx
        cases hx
        rfl
      · rename_i m e hu
        split at h
        · rename_i k1 hk
          split at h
          · rename_i hc
            cases h
            obtain ⟨xs, q, _, hxx, hlen, hn, hall⟩ := DataW.trod_array hu hx
            have := arr_flat (cs := cs) (k := k1.length) (F := fun y : DataW H × List MemPlace => flatD f y.1) xs 0 fun i y hy => by
              have hi : i < m := by
                have := (List.getElem?_eq_some_iff.1 hy).1
                omega
              have h1 := (hall i hi).trans hy
              rw [hc.1] at h1
              rw [Nat.zero_add]
              exact plain_flat f hk h1
            rw [Nat.zero_mul, List.drop_zero, hn, ← hc.2, ← hlen, List.take_length] at this
            rw [hxx]
            simp only [flatD]
            rw [flatMap_map]
            exact this
          · cases h
        · cases h
      · rename_i fs hu
        split at h
        · rename_i k1 hk
          split at h
          · rename_i hc
            cases h
            have hx2 : (if cs.length = P.cellsOf t then (fs.toList.mapM fun f => DataW.trod enc P w base sp held n f.type ((cs.drop f.offset).take (P.cellsOf f.type))).map fun xs => ((DataW.agg (xs.map (·.1)) : DataW H), xs.flatMap (·.2)) else none) = some x := by
              rw [← hx]; simp only [DataW.trod, hu]
            split at hx2
            · rename_i hlen
              cases hm : fs.toList.mapM fun f => DataW.trod enc P w base sp held n f.type ((cs.drop f.offset).take (P.cellsOf f.type)) with
              | none => rw [hm] at hx2; cases hx2
              | some xs =>
                rw [hm] at hx2
                cases hx2
                have hfs := kindsF_each hk
                have := str_flat (cs := cs) (F := fun y : DataW H × List MemPlace => flatD f y.1) fs.toList 0 ks xs hk hm fun g hg y hy => by
                  obtain ⟨ls, hl⟩ := hfs g hg
                  exact plain_flat f hl hy
                rw [List.drop_zero, ← hc, ← hlen, List.take_length] at this
                simp only [flatD]
                rw [flatMap_map]
                exact this
            · cases hx2
          · cases h
        · cases h
      · cases h
end Go.Proofs.YtpkjgcfdemnohaaGreatDoor
end
section
namespace Go.Proofs.YtpkjgcfdemnohaaGreatDoor.Ex
open Go Go.RowKit Go.ChangeShapes Go.WideShapes Go.WideMaps Go.WideElems
set_option linter.unusedVariables false
def fmCs : List Value := flatD (H := Unit) 4 Rows.laid_firewall_codec_forms
def argNs : List Int := [-1, 2, 4, 2, -1, -1, -1, 0]
def h14 : List AO := [⟨true, some GM, fmCs⟩, dead, dead, dead, ⟨true, some GM, argNs.map (.int .i8)⟩, dead]
theorem place14 : 0 = 0 ∧ 4 = 4 := ⟨rfl, rfl⟩
theorem gFm : Tryz.prog.globalNamed "firewall/codec.forms" = some 0 := by kernel_rfl
theorem tFm : (Tryz.prog.globals[0]?).map (·.type) = some 201 := by kernel_rfl
theorem gArgs : Tryz.prog.globalNamed "firewall/helpers.args" = some 4 := by kernel_rfl
theorem tArgs : (Tryz.prog.globals[4]?).map (·.type) = some 402 := by kernel_rfl
theorem fm_flat {H : Type} : flatD (H := H) 4 Rows.laid_firewall_codec_forms = fmCs := rfl
def TabAt (w : World) : Prop := Laid h14 w
theorem heap_of_var {W : World} {nm : String} {g : Nat} {cs : Array Value} (hg : Tryz.prog.globalNamed nm = some g) (hv : W.var? Tryz.prog nm = some cs) : ∃ t fr, W.heap[g]? = some (.cells cs t fr) := by
  simp only [World.var?, hg, Option.bind_some] at hv
  split at hv
  · rename_i c t fr hh
    obtain rfl := Option.some.inj hv
    exact ⟨t, fr, hh⟩
  · cases hv
set_option maxRecDepth 100000 in
theorem tab_of_laid {W : World} (h : laidMetH Tryz.prog [("firewall/codec.forms", Rows.laid_firewall_codec_forms), ("firewall/helpers.args", Rows.laid_firewall_helpers_args)] W) : TabAt W := by
  rw [MakeChecks.laidMetH_plain _ _ _ (by kernel_rfl)] at h
  obtain ⟨ps, ⟨ga, ta, ca, fa, pa, qa, hga, hta, hva, hda, ⟨gb, tb, cb, fb, pb, qb, hgb, htb, hvb, hdb, _⟩, _⟩, _⟩ := h
  obtain rfl := Option.some.inj (gFm.symm.trans hga)
  obtain rfl := Option.some.inj (tFm.symm.trans hta)
  obtain rfl := Option.some.inj (gArgs.symm.trans hgb)
  obtain rfl := Option.some.inj (tArgs.symm.trans htb)
  have ka := plain_flat 4 (ks := (List.replicate 22 [Kd.i .u16, .b, .i .u8, .i .u8, .i .u8, .i .u8]).flatten) (by kernel_rfl) hda
  have kb := cells_of_ints (ns := argNs) Tryz.underlying402 Tryz.underlying197 (by kernel_rfl) (by kernel_rfl) hdb rfl
  have ka' : ca = ⟨fmCs⟩ := Array.toList_inj.1 (ka.trans fm_flat)
  have kb' : cb = ⟨argNs.map (.int .i8)⟩ := Array.toList_inj.1 kb
  subst ka' kb'
  have ha := heap_of_var gFm hva
  have hb := heap_of_var gArgs hvb
  intro g o ho hl
  match g, ho with
  | 0, ho => cases ho; exact ⟨rfl, rfl, laid_at ha⟩
  | 1, ho => cases ho; cases hl
  | 2, ho => cases ho; cases hl
  | 3, ho => cases ho; cases hl
  | 4, ho => cases ho; exact ⟨rfl, rfl, laid_at hb⟩
  | 5, ho => cases ho; cases hl
/-- A hook of one function: others are not looked at. -/
def onlyH (g : FuncId) (hk : Hook) : Hook := fun f args h => if Nat.beq f g then hk f args h else none
theorem only_ok {P : Program} {g : FuncId} {hk : Hook} (hh : HookOk2 P hk) : HookOk2 P (onlyH g hk) := by
  intro f args h v cs hv
  unfold onlyH at hv
  split at hv
  · exact hh f args h v cs hv
  · cases hv
def hk14_0 : Hook := onlyH 77 (guardH repHook)
theorem hk14_0_ok : HookOk2 Tryz.prog hk14_0 := only_ok (guard_ok repHook_ok)
def tbnumsNum : Tab := [
  ([.string ⟨#[0, 0, 160, 0, 0, 0, 0, 0]⟩], .int .u64 10485760),
  ([.string ⟨#[120, 0, 4, 0, 0, 0, 0, 0]⟩], .int .u64 262264)]
set_option maxHeartbeats 0 in
set_option maxRecDepth 1000000 in
theorem tbnumsNum_0 (w : World) (hL : Laid h14 w) : Calls Tryz.prog 240 ⟨[.string ⟨#[0, 0, 160, 0, 0, 0, 0, 0]⟩]⟩ w fun e w' => e = .returned (.int .u64 10485760) ∧ Gr w w' :=
  reckonX_ok noNG hk14_0_ok 100000 300 h14 rfl rfl (by kernel_rfl) w hL
set_option maxHeartbeats 0 in
set_option maxRecDepth 1000000 in
theorem tbnumsNum_1 (w : World) (hL : Laid h14 w) : Calls Tryz.prog 240 ⟨[.string ⟨#[120, 0, 4, 0, 0, 0, 0, 0]⟩]⟩ w fun e w' => e = .returned (.int .u64 262264) ∧ Gr w w' :=
  reckonX_ok noNG hk14_0_ok 100000 300 h14 rfl rfl (by kernel_rfl) w hL
theorem tbnumsNum_tab : TabOk Tryz.prog h14 240 tbnumsNum :=
  ⟨tbnumsNum_0, tbnumsNum_1, trivial⟩
def tbnumsNum_hk : Hook := onlyH 240 (guardH (memoHook h14 240 tbnumsNum))
theorem tbnumsNum_hk_ok : HookOk2 Tryz.prog tbnumsNum_hk := only_ok (guard_ok (memoHook_ok rfl tbnumsNum_tab))
def hk14_1 : Hook := orHook tbnumsNum_hk (hk14_0)
theorem hk14_1_ok : HookOk2 Tryz.prog hk14_1 := orHook2_ok tbnumsNum_hk_ok (hk14_0_ok)
def tbnumsBytes : Tab := [
  ([.int .u64 10485760, .int .i64 8], .string ⟨#[0, 0, 160, 0, 0, 0, 0, 0]⟩),
  ([.int .u64 262264, .int .i64 8], .string ⟨#[120, 0, 4, 0, 0, 0, 0, 0]⟩)]
set_option maxHeartbeats 0 in
set_option maxRecDepth 1000000 in
theorem tbnumsBytes_0 (w : World) (hL : Laid h14 w) : Calls Tryz.prog 160 ⟨[.int .u64 10485760, .int .i64 8]⟩ w fun e w' => e = .returned (.string ⟨#[0, 0, 160, 0, 0, 0, 0, 0]⟩) ∧ Gr w w' :=
  reckonX_ok noNG hk14_1_ok 100000 300 h14 rfl rfl (by kernel_rfl) w hL
set_option maxHeartbeats 0 in
set_option maxRecDepth 1000000 in
theorem tbnumsBytes_1 (w : World) (hL : Laid h14 w) : Calls Tryz.prog 160 ⟨[.int .u64 262264, .int .i64 8]⟩ w fun e w' => e = .returned (.string ⟨#[120, 0, 4, 0, 0, 0, 0, 0]⟩) ∧ Gr w w' :=
  reckonX_ok noNG hk14_1_ok 100000 300 h14 rfl rfl (by kernel_rfl) w hL
theorem tbnumsBytes_tab : TabOk Tryz.prog h14 160 tbnumsBytes :=
  ⟨tbnumsBytes_0, tbnumsBytes_1, trivial⟩
def tbnumsBytes_hk : Hook := onlyH 160 (guardH (memoHook h14 160 tbnumsBytes))
theorem tbnumsBytes_hk_ok : HookOk2 Tryz.prog tbnumsBytes_hk := only_ok (guard_ok (memoHook_ok rfl tbnumsBytes_tab))
def hk14_2 : Hook := orHook tbnumsBytes_hk (hk14_1)
theorem hk14_2_ok : HookOk2 Tryz.prog hk14_2 := orHook2_ok tbnumsBytes_hk_ok (hk14_1_ok)
def tbmemoryword : Tab := [
  ([.int .i64 8], .bool true)]
set_option maxHeartbeats 0 in
set_option maxRecDepth 1000000 in
theorem tbmemoryword_0 (w : World) (hL : Laid h14 w) : Calls Tryz.prog 159 ⟨[.int .i64 8]⟩ w fun e w' => e = .returned (.bool true) ∧ Gr w w' :=
  reckonX_ok noNG hk14_2_ok 100000 300 h14 rfl rfl (by kernel_rfl) w hL
theorem tbmemoryword_tab : TabOk Tryz.prog h14 159 tbmemoryword :=
  ⟨tbmemoryword_0, trivial⟩
def tbmemoryword_hk : Hook := onlyH 159 (guardH (memoHook h14 159 tbmemoryword))
theorem tbmemoryword_hk_ok : HookOk2 Tryz.prog tbmemoryword_hk := only_ok (guard_ok (memoHook_ok rfl tbmemoryword_tab))
def hk14_3 : Hook := orHook tbmemoryword_hk (hk14_2)
theorem hk14_3_ok : HookOk2 Tryz.prog hk14_3 := orHook2_ok tbmemoryword_hk_ok (hk14_2_ok)
def tbcodecValid : Tab := [
  ([.agg ⟨[.int .i64 15, .int .i64 0, .int .i64 0, .int .i64 0, .bool false, .bool true, .int .i64 0, .int .i64 0, .int .i32 0, .int .i32 0, .int .i64 0]⟩], .bool true),
  ([.agg ⟨[.int .i64 19, .int .i64 0, .int .i64 0, .int .i64 0, .bool false, .bool false, .int .i64 0, .int .i64 0, .int .i32 0, .int .i32 0, .int .i64 0]⟩], .bool true),
  ([.agg ⟨[.int .i64 16, .int .i64 0, .int .i64 4, .int .i64 0, .bool false, .bool true, .int .i64 0, .int .i64 0, .int .i32 0, .int .i32 7, .int .i64 0]⟩], .bool true),
  ([.agg ⟨[.int .i64 2, .int .i64 0, .int .i64 0, .int .i64 0, .bool true, .bool false, .int .i64 0, .int .i64 0, .int .i32 0, .int .i32 0, .int .i64 1]⟩], .bool true),
  ([.agg ⟨[.int .i64 14, .int .i64 0, .int .i64 0, .int .i64 8, .bool true, .bool false, .int .i64 4, .int .i64 4, .int .i32 (-8), .int .i32 0, .int .i64 0]⟩], .bool true),
  ([.agg ⟨[.int .i64 13, .int .i64 0, .int .i64 0, .int .i64 8, .bool true, .bool false, .int .i64 0, .int .i64 4, .int .i32 (-8), .int .i32 0, .int .i64 0]⟩], .bool true),
  ([.agg ⟨[.int .i64 13, .int .i64 0, .int .i64 0, .int .i64 8, .bool true, .bool false, .int .i64 0, .int .i64 0, .int .i32 0, .int .i32 0, .int .i64 0]⟩], .bool true)]
set_option maxHeartbeats 0 in
set_option maxRecDepth 1000000 in
theorem tbcodecValid_0 (w : World) (hL : Laid h14 w) : Calls Tryz.prog 49 ⟨[.agg ⟨[.int .i64 15, .int .i64 0, .int .i64 0, .int .i64 0, .bool false, .bool true, .int .i64 0, .int .i64 0, .int .i32 0, .int .i32 0, .int .i64 0]⟩]⟩ w fun e w' => e = .returned (.bool true) ∧ Gr w w' :=
  reckonX_ok noNG hk14_3_ok 100000 300 h14 rfl rfl (by kernel_rfl) w hL
set_option maxHeartbeats 0 in
set_option maxRecDepth 1000000 in
theorem tbcodecValid_1 (w : World) (hL : Laid h14 w) : Calls Tryz.prog 49 ⟨[.agg ⟨[.int .i64 19, .int .i64 0, .int .i64 0, .int .i64 0, .bool false, .bool false, .int .i64 0, .int .i64 0, .int .i32 0, .int .i32 0, .int .i64 0]⟩]⟩ w fun e w' => e = .returned (.bool true) ∧ Gr w w' :=
  reckonX_ok noNG hk14_3_ok 100000 300 h14 rfl rfl (by kernel_rfl) w hL
set_option maxHeartbeats 0 in
set_option maxRecDepth 1000000 in
theorem tbcodecValid_2 (w : World) (hL : Laid h14 w) : Calls Tryz.prog 49 ⟨[.agg ⟨[.int .i64 16, .int .i64 0, .int .i64 4, .int .i64 0, .bool false, .bool true, .int .i64 0, .int .i64 0, .int .i32 0, .int .i32 7, .int .i64 0]⟩]⟩ w fun e w' => e = .returned (.bool true) ∧ Gr w w' :=
  reckonX_ok noNG hk14_3_ok 100000 300 h14 rfl rfl (by kernel_rfl) w hL
set_option maxHeartbeats 0 in
set_option maxRecDepth 1000000 in
theorem tbcodecValid_3 (w : World) (hL : Laid h14 w) : Calls Tryz.prog 49 ⟨[.agg ⟨[.int .i64 2, .int .i64 0, .int .i64 0, .int .i64 0, .bool true, .bool false, .int .i64 0, .int .i64 0, .int .i32 0, .int .i32 0, .int .i64 1]⟩]⟩ w fun e w' => e = .returned (.bool true) ∧ Gr w w' :=
  reckonX_ok noNG hk14_3_ok 100000 300 h14 rfl rfl (by kernel_rfl) w hL
set_option maxHeartbeats 0 in
set_option maxRecDepth 1000000 in
theorem tbcodecValid_4 (w : World) (hL : Laid h14 w) : Calls Tryz.prog 49 ⟨[.agg ⟨[.int .i64 14, .int .i64 0, .int .i64 0, .int .i64 8, .bool true, .bool false, .int .i64 4, .int .i64 4, .int .i32 (-8), .int .i32 0, .int .i64 0]⟩]⟩ w fun e w' => e = .returned (.bool true) ∧ Gr w w' :=
  reckonX_ok noNG hk14_3_ok 100000 300 h14 rfl rfl (by kernel_rfl) w hL
set_option maxHeartbeats 0 in
set_option maxRecDepth 1000000 in
theorem tbcodecValid_5 (w : World) (hL : Laid h14 w) : Calls Tryz.prog 49 ⟨[.agg ⟨[.int .i64 13, .int .i64 0, .int .i64 0, .int .i64 8, .bool true, .bool false, .int .i64 0, .int .i64 4, .int .i32 (-8), .int .i32 0, .int .i64 0]⟩]⟩ w fun e w' => e = .returned (.bool true) ∧ Gr w w' :=
  reckonX_ok noNG hk14_3_ok 100000 300 h14 rfl rfl (by kernel_rfl) w hL
set_option maxHeartbeats 0 in
set_option maxRecDepth 1000000 in
theorem tbcodecValid_6 (w : World) (hL : Laid h14 w) : Calls Tryz.prog 49 ⟨[.agg ⟨[.int .i64 13, .int .i64 0, .int .i64 0, .int .i64 8, .bool true, .bool false, .int .i64 0, .int .i64 0, .int .i32 0, .int .i32 0, .int .i64 0]⟩]⟩ w fun e w' => e = .returned (.bool true) ∧ Gr w w' :=
  reckonX_ok noNG hk14_3_ok 100000 300 h14 rfl rfl (by kernel_rfl) w hL
theorem tbcodecValid_tab : TabOk Tryz.prog h14 49 tbcodecValid :=
  ⟨tbcodecValid_0, tbcodecValid_1, tbcodecValid_2, tbcodecValid_3, tbcodecValid_4, tbcodecValid_5, tbcodecValid_6, trivial⟩
def tbcodecValid_hk : Hook := onlyH 49 (guardH (memoHook h14 49 tbcodecValid))
theorem tbcodecValid_hk_ok : HookOk2 Tryz.prog tbcodecValid_hk := only_ok (guard_ok (memoHook_ok rfl tbcodecValid_tab))
def hk14_4 : Hook := orHook tbcodecValid_hk (hk14_3)
theorem hk14_4_ok : HookOk2 Tryz.prog hk14_4 := orHook2_ok tbcodecValid_hk_ok (hk14_3_ok)
def tbcpuTaken : Tab := [
  ([.int .i64 4, .agg ⟨[.int .u64 0, .int .u64 0, .int .u64 0, .int .u64 0, .int .u64 262264, .int .u64 0, .int .u64 0, .int .u64 0, .int .u64 0, .int .u64 0, .int .u64 0, .int .u64 0, .int .u64 0, .int .u64 0, .int .u64 0, .int .u64 0, .bool false, .bool false, .bool false, .bool false, .int .u64 4194304]⟩], .bool false),
  ([.int .i64 4, .agg ⟨[.int .u64 0, .int .u64 0, .int .u64 0, .int .u64 0, .int .u64 262264, .int .u64 0, .int .u64 0, .int .u64 0, .int .u64 0, .int .u64 0, .int .u64 0, .int .u64 0, .int .u64 0, .int .u64 0, .int .u64 0, .int .u64 0, .bool false, .bool false, .bool false, .bool false, .int .u64 4194306]⟩], .bool false)]
set_option maxHeartbeats 0 in
set_option maxRecDepth 1000000 in
theorem tbcpuTaken_0 (w : World) (hL : Laid h14 w) : Calls Tryz.prog 18 ⟨[.int .i64 4, .agg ⟨[.int .u64 0, .int .u64 0, .int .u64 0, .int .u64 0, .int .u64 262264, .int .u64 0, .int .u64 0, .int .u64 0, .int .u64 0, .int .u64 0, .int .u64 0, .int .u64 0, .int .u64 0, .int .u64 0, .int .u64 0, .int .u64 0, .bool false, .bool false, .bool false, .bool false, .int .u64 4194304]⟩]⟩ w fun e w' => e = .returned (.bool false) ∧ Gr w w' :=
  reckonX_ok noNG hk14_4_ok 100000 300 h14 rfl rfl (by kernel_rfl) w hL
set_option maxHeartbeats 0 in
set_option maxRecDepth 1000000 in
theorem tbcpuTaken_1 (w : World) (hL : Laid h14 w) : Calls Tryz.prog 18 ⟨[.int .i64 4, .agg ⟨[.int .u64 0, .int .u64 0, .int .u64 0, .int .u64 0, .int .u64 262264, .int .u64 0, .int .u64 0, .int .u64 0, .int .u64 0, .int .u64 0, .int .u64 0, .int .u64 0, .int .u64 0, .int .u64 0, .int .u64 0, .int .u64 0, .bool false, .bool false, .bool false, .bool false, .int .u64 4194306]⟩]⟩ w fun e w' => e = .returned (.bool false) ∧ Gr w w' :=
  reckonX_ok noNG hk14_4_ok 100000 300 h14 rfl rfl (by kernel_rfl) w hL
theorem tbcpuTaken_tab : TabOk Tryz.prog h14 18 tbcpuTaken :=
  ⟨tbcpuTaken_0, tbcpuTaken_1, trivial⟩
def tbcpuTaken_hk : Hook := onlyH 18 (guardH (memoHook h14 18 tbcpuTaken))
theorem tbcpuTaken_hk_ok : HookOk2 Tryz.prog tbcpuTaken_hk := only_ok (guard_ok (memoHook_ok rfl tbcpuTaken_tab))
def hk14_5 : Hook := orHook tbcpuTaken_hk (hk14_4)
theorem hk14_5_ok : HookOk2 Tryz.prog hk14_5 := orHook2_ok tbcpuTaken_hk_ok (hk14_4_ok)
def tbcpuExec : Tab := [
  ([.agg ⟨[.int .i64 2, .int .i64 0, .int .i64 0, .int .i64 0, .bool true, .bool false, .int .i64 0, .int .i64 0, .int .i32 0, .int .i32 0, .int .i64 1]⟩, .agg ⟨[.int .u64 0, .int .u64 0, .int .u64 0, .int .u64 0, .int .u64 262264, .int .u64 0, .int .u64 0, .int .u64 0, .int .u64 0, .int .u64 0, .int .u64 0, .int .u64 0, .int .u64 0, .int .u64 0, .int .u64 0, .int .u64 0, .bool false, .bool false, .bool false, .bool false, .int .u64 4194313]⟩], .tuple ⟨[.agg ⟨[.int .u64 1, .int .u64 0, .int .u64 0, .int .u64 0, .int .u64 262264, .int .u64 0, .int .u64 0, .int .u64 0, .int .u64 0, .int .u64 0, .int .u64 0, .int .u64 0, .int .u64 0, .int .u64 0, .int .u64 0, .int .u64 0, .bool false, .bool false, .bool false, .bool false, .int .u64 4194313]⟩, .int .i64 0]⟩)]
set_option maxHeartbeats 0 in
set_option maxRecDepth 1000000 in
theorem tbcpuExec_0 (w : World) (hL : Laid h14 w) : Calls Tryz.prog 17 ⟨[.agg ⟨[.int .i64 2, .int .i64 0, .int .i64 0, .int .i64 0, .bool true, .bool false, .int .i64 0, .int .i64 0, .int .i32 0, .int .i32 0, .int .i64 1]⟩, .agg ⟨[.int .u64 0, .int .u64 0, .int .u64 0, .int .u64 0, .int .u64 262264, .int .u64 0, .int .u64 0, .int .u64 0, .int .u64 0, .int .u64 0, .int .u64 0, .int .u64 0, .int .u64 0, .int .u64 0, .int .u64 0, .int .u64 0, .bool false, .bool false, .bool false, .bool false, .int .u64 4194313]⟩]⟩ w fun e w' => e = .returned (.tuple ⟨[.agg ⟨[.int .u64 1, .int .u64 0, .int .u64 0, .int .u64 0, .int .u64 262264, .int .u64 0, .int .u64 0, .int .u64 0, .int .u64 0, .int .u64 0, .int .u64 0, .int .u64 0, .int .u64 0, .int .u64 0, .int .u64 0, .int .u64 0, .bool false, .bool false, .bool false, .bool false, .int .u64 4194313]⟩, .int .i64 0]⟩) ∧ Gr w w' :=
  reckonX_ok noNG hk14_5_ok 100000 300 h14 rfl rfl (by kernel_rfl) w hL
theorem tbcpuExec_tab : TabOk Tryz.prog h14 17 tbcpuExec :=
  ⟨tbcpuExec_0, trivial⟩
def tbcpuExec_hk : Hook := onlyH 17 (guardH (memoHook h14 17 tbcpuExec))
theorem tbcpuExec_hk_ok : HookOk2 Tryz.prog tbcpuExec_hk := only_ok (guard_ok (memoHook_ok rfl tbcpuExec_tab))
def hk14_6 : Hook := orHook tbcpuExec_hk (hk14_5)
theorem hk14_6_ok : HookOk2 Tryz.prog hk14_6 := orHook2_ok tbcpuExec_hk_ok (hk14_5_ok)
def tbmachineTouch : Tab := [
  ([.agg ⟨[.int .i64 15, .int .i64 0, .int .i64 0, .int .i64 0, .bool false, .bool true, .int .i64 0, .int .i64 0, .int .i32 0, .int .i32 0, .int .i64 0]⟩, .agg ⟨[.int .u64 0, .int .u64 0, .int .u64 0, .int .u64 0, .int .u64 262264, .int .u64 0, .int .u64 0, .int .u64 0, .int .u64 0, .int .u64 0, .int .u64 0, .int .u64 0, .int .u64 0, .int .u64 0, .int .u64 0, .int .u64 0, .bool false, .bool false, .bool false, .bool false, .int .u64 4194304]⟩], .tuple ⟨[.int .u64 0, .int .i64 0]⟩),
  ([.agg ⟨[.int .i64 15, .int .i64 0, .int .i64 0, .int .i64 0, .bool false, .bool true, .int .i64 0, .int .i64 0, .int .i32 0, .int .i32 0, .int .i64 0]⟩, .agg ⟨[.int .u64 0, .int .u64 0, .int .u64 0, .int .u64 0, .int .u64 262264, .int .u64 0, .int .u64 0, .int .u64 0, .int .u64 0, .int .u64 0, .int .u64 0, .int .u64 0, .int .u64 0, .int .u64 0, .int .u64 0, .int .u64 0, .bool false, .bool false, .bool false, .bool false, .int .u64 4194306]⟩], .tuple ⟨[.int .u64 0, .int .i64 0]⟩),
  ([.agg ⟨[.int .i64 19, .int .i64 0, .int .i64 0, .int .i64 0, .bool false, .bool false, .int .i64 0, .int .i64 0, .int .i32 0, .int .i32 0, .int .i64 0]⟩, .agg ⟨[.int .u64 0, .int .u64 0, .int .u64 0, .int .u64 0, .int .u64 262264, .int .u64 0, .int .u64 0, .int .u64 0, .int .u64 0, .int .u64 0, .int .u64 0, .int .u64 0, .int .u64 0, .int .u64 0, .int .u64 0, .int .u64 0, .bool false, .bool false, .bool false, .bool false, .int .u64 4194306]⟩], .tuple ⟨[.int .u64 262264, .int .i64 8]⟩),
  ([.agg ⟨[.int .i64 19, .int .i64 0, .int .i64 0, .int .i64 0, .bool false, .bool false, .int .i64 0, .int .i64 0, .int .i32 0, .int .i32 0, .int .i64 0]⟩, .agg ⟨[.int .u64 0, .int .u64 0, .int .u64 0, .int .u64 0, .int .u64 262264, .int .u64 0, .int .u64 0, .int .u64 0, .int .u64 0, .int .u64 0, .int .u64 0, .int .u64 0, .int .u64 0, .int .u64 0, .int .u64 0, .int .u64 0, .bool false, .bool false, .bool false, .bool false, .int .u64 4194307]⟩], .tuple ⟨[.int .u64 262264, .int .i64 8]⟩),
  ([.agg ⟨[.int .i64 16, .int .i64 0, .int .i64 4, .int .i64 0, .bool false, .bool true, .int .i64 0, .int .i64 0, .int .i32 0, .int .i32 7, .int .i64 0]⟩, .agg ⟨[.int .u64 0, .int .u64 0, .int .u64 0, .int .u64 0, .int .u64 262264, .int .u64 0, .int .u64 0, .int .u64 0, .int .u64 0, .int .u64 0, .int .u64 0, .int .u64 0, .int .u64 0, .int .u64 0, .int .u64 0, .int .u64 0, .bool false, .bool false, .bool false, .bool false, .int .u64 4194304]⟩], .tuple ⟨[.int .u64 0, .int .i64 0]⟩),
  ([.agg ⟨[.int .i64 16, .int .i64 0, .int .i64 4, .int .i64 0, .bool false, .bool true, .int .i64 0, .int .i64 0, .int .i32 0, .int .i32 7, .int .i64 0]⟩, .agg ⟨[.int .u64 0, .int .u64 0, .int .u64 0, .int .u64 0, .int .u64 262264, .int .u64 0, .int .u64 0, .int .u64 0, .int .u64 0, .int .u64 0, .int .u64 0, .int .u64 0, .int .u64 0, .int .u64 0, .int .u64 0, .int .u64 0, .bool false, .bool false, .bool false, .bool false, .int .u64 4194306]⟩], .tuple ⟨[.int .u64 0, .int .i64 0]⟩),
  ([.agg ⟨[.int .i64 2, .int .i64 0, .int .i64 0, .int .i64 0, .bool true, .bool false, .int .i64 0, .int .i64 0, .int .i32 0, .int .i32 0, .int .i64 1]⟩, .agg ⟨[.int .u64 0, .int .u64 0, .int .u64 0, .int .u64 0, .int .u64 262264, .int .u64 0, .int .u64 0, .int .u64 0, .int .u64 0, .int .u64 0, .int .u64 0, .int .u64 0, .int .u64 0, .int .u64 0, .int .u64 0, .int .u64 0, .bool false, .bool false, .bool false, .bool false, .int .u64 4194306]⟩], .tuple ⟨[.int .u64 0, .int .i64 0]⟩),
  ([.agg ⟨[.int .i64 2, .int .i64 0, .int .i64 0, .int .i64 0, .bool true, .bool false, .int .i64 0, .int .i64 0, .int .i32 0, .int .i32 0, .int .i64 1]⟩, .agg ⟨[.int .u64 0, .int .u64 0, .int .u64 0, .int .u64 0, .int .u64 262264, .int .u64 0, .int .u64 0, .int .u64 0, .int .u64 0, .int .u64 0, .int .u64 0, .int .u64 0, .int .u64 0, .int .u64 0, .int .u64 0, .int .u64 0, .bool false, .bool false, .bool false, .bool false, .int .u64 4194313]⟩], .tuple ⟨[.int .u64 0, .int .i64 0]⟩),
  ([.agg ⟨[.int .i64 19, .int .i64 0, .int .i64 0, .int .i64 0, .bool false, .bool false, .int .i64 0, .int .i64 0, .int .i32 0, .int .i32 0, .int .i64 0]⟩, .agg ⟨[.int .u64 1, .int .u64 0, .int .u64 0, .int .u64 0, .int .u64 262264, .int .u64 0, .int .u64 0, .int .u64 0, .int .u64 0, .int .u64 0, .int .u64 0, .int .u64 0, .int .u64 0, .int .u64 0, .int .u64 0, .int .u64 0, .bool false, .bool false, .bool false, .bool false, .int .u64 4194313]⟩], .tuple ⟨[.int .u64 262264, .int .i64 8]⟩),
  ([.agg ⟨[.int .i64 19, .int .i64 0, .int .i64 0, .int .i64 0, .bool false, .bool false, .int .i64 0, .int .i64 0, .int .i32 0, .int .i32 0, .int .i64 0]⟩, .agg ⟨[.int .u64 1, .int .u64 0, .int .u64 0, .int .u64 0, .int .u64 262264, .int .u64 0, .int .u64 0, .int .u64 0, .int .u64 0, .int .u64 0, .int .u64 0, .int .u64 0, .int .u64 0, .int .u64 0, .int .u64 0, .int .u64 0, .bool false, .bool false, .bool false, .bool false, .int .u64 4194314]⟩], .tuple ⟨[.int .u64 262264, .int .i64 8]⟩),
  ([.agg ⟨[.int .i64 14, .int .i64 0, .int .i64 0, .int .i64 8, .bool true, .bool false, .int .i64 4, .int .i64 4, .int .i32 (-8), .int .i32 0, .int .i64 0]⟩, .agg ⟨[.int .u64 0, .int .u64 0, .int .u64 0, .int .u64 0, .int .u64 262264, .int .u64 0, .int .u64 0, .int .u64 0, .int .u64 0, .int .u64 0, .int .u64 0, .int .u64 0, .int .u64 0, .int .u64 0, .int .u64 0, .int .u64 0, .bool false, .bool false, .bool false, .bool false, .int .u64 4194304]⟩], .tuple ⟨[.int .u64 262256, .int .i64 8]⟩),
  ([.agg ⟨[.int .i64 14, .int .i64 0, .int .i64 0, .int .i64 8, .bool true, .bool false, .int .i64 4, .int .i64 4, .int .i32 (-8), .int .i32 0, .int .i64 0]⟩, .agg ⟨[.int .u64 0, .int .u64 0, .int .u64 0, .int .u64 0, .int .u64 262264, .int .u64 0, .int .u64 0, .int .u64 0, .int .u64 0, .int .u64 0, .int .u64 0, .int .u64 0, .int .u64 0, .int .u64 0, .int .u64 0, .int .u64 0, .bool false, .bool false, .bool false, .bool false, .int .u64 4194312]⟩], .tuple ⟨[.int .u64 262256, .int .i64 8]⟩),
  ([.agg ⟨[.int .i64 13, .int .i64 0, .int .i64 0, .int .i64 8, .bool true, .bool false, .int .i64 0, .int .i64 4, .int .i32 (-8), .int .i32 0, .int .i64 0]⟩, .agg ⟨[.int .u64 0, .int .u64 0, .int .u64 0, .int .u64 0, .int .u64 262264, .int .u64 0, .int .u64 0, .int .u64 0, .int .u64 0, .int .u64 0, .int .u64 0, .int .u64 0, .int .u64 0, .int .u64 0, .int .u64 0, .int .u64 0, .bool false, .bool false, .bool false, .bool false, .int .u64 4194312]⟩], .tuple ⟨[.int .u64 262256, .int .i64 8]⟩),
  ([.agg ⟨[.int .i64 13, .int .i64 0, .int .i64 0, .int .i64 8, .bool true, .bool false, .int .i64 0, .int .i64 0, .int .i32 0, .int .i32 0, .int .i64 0]⟩, .agg ⟨[.int .u64 0, .int .u64 0, .int .u64 0, .int .u64 0, .int .u64 262264, .int .u64 0, .int .u64 0, .int .u64 0, .int .u64 0, .int .u64 0, .int .u64 0, .int .u64 0, .int .u64 0, .int .u64 0, .int .u64 0, .int .u64 0, .bool false, .bool false, .bool false, .bool false, .int .u64 4194320]⟩], .tuple ⟨[.int .u64 0, .int .i64 8]⟩),
  ([.agg ⟨[.int .i64 13, .int .i64 0, .int .i64 0, .int .i64 8, .bool true, .bool false, .int .i64 0, .int .i64 4, .int .i32 (-8), .int .i32 0, .int .i64 0]⟩, .agg ⟨[.int .u64 0, .int .u64 0, .int .u64 0, .int .u64 0, .int .u64 262264, .int .u64 0, .int .u64 0, .int .u64 0, .int .u64 0, .int .u64 0, .int .u64 0, .int .u64 0, .int .u64 0, .int .u64 0, .int .u64 0, .int .u64 0, .bool false, .bool false, .bool false, .bool false, .int .u64 4194320]⟩], .tuple ⟨[.int .u64 262256, .int .i64 8]⟩),
  ([.agg ⟨[.int .i64 13, .int .i64 0, .int .i64 0, .int .i64 8, .bool true, .bool false, .int .i64 0, .int .i64 0, .int .i32 0, .int .i32 0, .int .i64 0]⟩, .agg ⟨[.int .u64 262264, .int .u64 0, .int .u64 0, .int .u64 0, .int .u64 262264, .int .u64 0, .int .u64 0, .int .u64 0, .int .u64 0, .int .u64 0, .int .u64 0, .int .u64 0, .int .u64 0, .int .u64 0, .int .u64 0, .int .u64 0, .bool false, .bool false, .bool false, .bool false, .int .u64 4194320]⟩], .tuple ⟨[.int .u64 262264, .int .i64 8]⟩),
  ([.agg ⟨[.int .i64 13, .int .i64 0, .int .i64 0, .int .i64 8, .bool true, .bool false, .int .i64 0, .int .i64 0, .int .i32 0, .int .i32 0, .int .i64 0]⟩, .agg ⟨[.int .u64 262264, .int .u64 0, .int .u64 0, .int .u64 0, .int .u64 262264, .int .u64 0, .int .u64 0, .int .u64 0, .int .u64 0, .int .u64 0, .int .u64 0, .int .u64 0, .int .u64 0, .int .u64 0, .int .u64 0, .int .u64 0, .bool false, .bool false, .bool false, .bool false, .int .u64 4194327]⟩], .tuple ⟨[.int .u64 262264, .int .i64 8]⟩),
  ([.agg ⟨[.int .i64 19, .int .i64 0, .int .i64 0, .int .i64 0, .bool false, .bool false, .int .i64 0, .int .i64 0, .int .i32 0, .int .i32 0, .int .i64 0]⟩, .agg ⟨[.int .u64 10485760, .int .u64 0, .int .u64 0, .int .u64 0, .int .u64 262264, .int .u64 0, .int .u64 0, .int .u64 0, .int .u64 0, .int .u64 0, .int .u64 0, .int .u64 0, .int .u64 0, .int .u64 0, .int .u64 0, .int .u64 0, .bool false, .bool false, .bool false, .bool false, .int .u64 4194327]⟩], .tuple ⟨[.int .u64 262264, .int .i64 8]⟩),
  ([.agg ⟨[.int .i64 19, .int .i64 0, .int .i64 0, .int .i64 0, .bool false, .bool false, .int .i64 0, .int .i64 0, .int .i32 0, .int .i32 0, .int .i64 0]⟩, .agg ⟨[.int .u64 10485760, .int .u64 0, .int .u64 0, .int .u64 0, .int .u64 262264, .int .u64 0, .int .u64 0, .int .u64 0, .int .u64 0, .int .u64 0, .int .u64 0, .int .u64 0, .int .u64 0, .int .u64 0, .int .u64 0, .int .u64 0, .bool false, .bool false, .bool false, .bool false, .int .u64 4194328]⟩], .tuple ⟨[.int .u64 262264, .int .i64 8]⟩)]
set_option maxHeartbeats 0 in
set_option maxRecDepth 1000000 in
theorem tbmachineTouch_0 (w : World) (hL : Laid h14 w) : Calls Tryz.prog 110 ⟨[.agg ⟨[.int .i64 15, .int .i64 0, .int .i64 0, .int .i64 0, .bool false, .bool true, .int .i64 0, .int .i64 0, .int .i32 0, .int .i32 0, .int .i64 0]⟩, .agg ⟨[.int .u64 0, .int .u64 0, .int .u64 0, .int .u64 0, .int .u64 262264, .int .u64 0, .int .u64 0, .int .u64 0, .int .u64 0, .int .u64 0, .int .u64 0, .int .u64 0, .int .u64 0, .int .u64 0, .int .u64 0, .int .u64 0, .bool false, .bool false, .bool false, .bool false, .int .u64 4194304]⟩]⟩ w fun e w' => e = .returned (.tuple ⟨[.int .u64 0, .int .i64 0]⟩) ∧ Gr w w' :=
  reckonX_ok noNG hk14_6_ok 100000 300 h14 rfl rfl (by kernel_rfl) w hL
set_option maxHeartbeats 0 in
set_option maxRecDepth 1000000 in
theorem tbmachineTouch_1 (w : World) (hL : Laid h14 w) : Calls Tryz.prog 110 ⟨[.agg ⟨[.int .i64 15, .int .i64 0, .int .i64 0, .int .i64 0, .bool false, .bool true, .int .i64 0, .int .i64 0, .int .i32 0, .int .i32 0, .int .i64 0]⟩, .agg ⟨[.int .u64 0, .int .u64 0, .int .u64 0, .int .u64 0, .int .u64 262264, .int .u64 0, .int .u64 0, .int .u64 0, .int .u64 0, .int .u64 0, .int .u64 0, .int .u64 0, .int .u64 0, .int .u64 0, .int .u64 0, .int .u64 0, .bool false, .bool false, .bool false, .bool false, .int .u64 4194306]⟩]⟩ w fun e w' => e = .returned (.tuple ⟨[.int .u64 0, .int .i64 0]⟩) ∧ Gr w w' :=
  reckonX_ok noNG hk14_6_ok 100000 300 h14 rfl rfl (by kernel_rfl) w hL
set_option maxHeartbeats 0 in
set_option maxRecDepth 1000000 in
theorem tbmachineTouch_2 (w : World) (hL : Laid h14 w) : Calls Tryz.prog 110 ⟨[.agg ⟨[.int .i64 19, .int .i64 0, .int .i64 0, .int .i64 0, .bool false, .bool false, .int .i64 0, .int .i64 0, .int .i32 0, .int .i32 0, .int .i64 0]⟩, .agg ⟨[.int .u64 0, .int .u64 0, .int .u64 0, .int .u64 0, .int .u64 262264, .int .u64 0, .int .u64 0, .int .u64 0, .int .u64 0, .int .u64 0, .int .u64 0, .int .u64 0, .int .u64 0, .int .u64 0, .int .u64 0, .int .u64 0, .bool false, .bool false, .bool false, .bool false, .int .u64 4194306]⟩]⟩ w fun e w' => e = .returned (.tuple ⟨[.int .u64 262264, .int .i64 8]⟩) ∧ Gr w w' :=
  reckonX_ok noNG hk14_6_ok 100000 300 h14 rfl rfl (by kernel_rfl) w hL
set_option maxHeartbeats 0 in
set_option maxRecDepth 1000000 in
theorem tbmachineTouch_3 (w : World) (hL : Laid h14 w) : Calls Tryz.prog 110 ⟨[.agg ⟨[.int .i64 19, .int .i64 0, .int .i64 0, .int .i64 0, .bool false, .bool false, .int .i64 0, .int .i64 0, .int .i32 0, .int .i32 0, .int .i64 0]⟩, .agg ⟨[.int .u64 0, .int .u64 0, .int .u64 0, .int .u64 0, .int .u64 262264, .int .u64 0, .int .u64 0, .int .u64 0, .int .u64 0, .int .u64 0, .int .u64 0, .int .u64 0, .int .u64 0, .int .u64 0, .int .u64 0, .int .u64 0, .bool false, .bool false, .bool false, .bool false, .int .u64 4194307]⟩]⟩ w fun e w' => e = .returned (.tuple ⟨[.int .u64 262264, .int .i64 8]⟩) ∧ Gr w w' :=
  reckonX_ok noNG hk14_6_ok 100000 300 h14 rfl rfl (by kernel_rfl) w hL
set_option maxHeartbeats 0 in
set_option maxRecDepth 1000000 in
theorem tbmachineTouch_4 (w : World) (hL : Laid h14 w) : Calls Tryz.prog 110 ⟨[.agg ⟨[.int .i64 16, .int .i64 0, .int .i64 4, .int .i64 0, .bool false, .bool true, .int .i64 0, .int .i64 0, .int .i32 0, .int .i32 7, .int .i64 0]⟩, .agg ⟨[.int .u64 0, .int .u64 0, .int .u64 0, .int .u64 0, .int .u64 262264, .int .u64 0, .int .u64 0, .int .u64 0, .int .u64 0, .int .u64 0, .int .u64 0, .int .u64 0, .int .u64 0, .int .u64 0, .int .u64 0, .int .u64 0, .bool false, .bool false, .bool false, .bool false, .int .u64 4194304]⟩]⟩ w fun e w' => e = .returned (.tuple ⟨[.int .u64 0, .int .i64 0]⟩) ∧ Gr w w' :=
  reckonX_ok noNG hk14_6_ok 100000 300 h14 rfl rfl (by kernel_rfl) w hL
set_option maxHeartbeats 0 in
set_option maxRecDepth 1000000 in
theorem tbmachineTouch_5 (w : World) (hL : Laid h14 w) : Calls Tryz.prog 110 ⟨[.agg ⟨[.int .i64 16, .int .i64 0, .int .i64 4, .int .i64 0, .bool false, .bool true, .int .i64 0, .int .i64 0, .int .i32 0, .int .i32 7, .int .i64 0]⟩, .agg ⟨[.int .u64 0, .int .u64 0, .int .u64 0, .int .u64 0, .int .u64 262264, .int .u64 0, .int .u64 0, .int .u64 0, .int .u64 0, .int .u64 0, .int .u64 0, .int .u64 0, .int .u64 0, .int .u64 0, .int .u64 0, .int .u64 0, .bool false, .bool false, .bool false, .bool false, .int .u64 4194306]⟩]⟩ w fun e w' => e = .returned (.tuple ⟨[.int .u64 0, .int .i64 0]⟩) ∧ Gr w w' :=
  reckonX_ok noNG hk14_6_ok 100000 300 h14 rfl rfl (by kernel_rfl) w hL
set_option maxHeartbeats 0 in
set_option maxRecDepth 1000000 in
theorem tbmachineTouch_6 (w : World) (hL : Laid h14 w) : Calls Tryz.prog 110 ⟨[.agg ⟨[.int .i64 2, .int .i64 0, .int .i64 0, .int .i64 0, .bool true, .bool false, .int .i64 0, .int .i64 0, .int .i32 0, .int .i32 0, .int .i64 1]⟩, .agg ⟨[.int .u64 0, .int .u64 0, .int .u64 0, .int .u64 0, .int .u64 262264, .int .u64 0, .int .u64 0, .int .u64 0, .int .u64 0, .int .u64 0, .int .u64 0, .int .u64 0, .int .u64 0, .int .u64 0, .int .u64 0, .int .u64 0, .bool false, .bool false, .bool false, .bool false, .int .u64 4194306]⟩]⟩ w fun e w' => e = .returned (.tuple ⟨[.int .u64 0, .int .i64 0]⟩) ∧ Gr w w' :=
  reckonX_ok noNG hk14_6_ok 100000 300 h14 rfl rfl (by kernel_rfl) w hL
set_option maxHeartbeats 0 in
set_option maxRecDepth 1000000 in
theorem tbmachineTouch_7 (w : World) (hL : Laid h14 w) : Calls Tryz.prog 110 ⟨[.agg ⟨[.int .i64 2, .int .i64 0, .int .i64 0, .int .i64 0, .bool true, .bool false, .int .i64 0, .int .i64 0, .int .i32 0, .int .i32 0, .int .i64 1]⟩, .agg ⟨[.int .u64 0, .int .u64 0, .int .u64 0, .int .u64 0, .int .u64 262264, .int .u64 0, .int .u64 0, .int .u64 0, .int .u64 0, .int .u64 0, .int .u64 0, .int .u64 0, .int .u64 0, .int .u64 0, .int .u64 0, .int .u64 0, .bool false, .bool false, .bool false, .bool false, .int .u64 4194313]⟩]⟩ w fun e w' => e = .returned (.tuple ⟨[.int .u64 0, .int .i64 0]⟩) ∧ Gr w w' :=
  reckonX_ok noNG hk14_6_ok 100000 300 h14 rfl rfl (by kernel_rfl) w hL
set_option maxHeartbeats 0 in
set_option maxRecDepth 1000000 in
theorem tbmachineTouch_8 (w : World) (hL : Laid h14 w) : Calls Tryz.prog 110 ⟨[.agg ⟨[.int .i64 19, .int .i64 0, .int .i64 0, .int .i64 0, .bool false, .bool false, .int .i64 0, .int .i64 0, .int .i32 0, .int .i32 0, .int .i64 0]⟩, .agg ⟨[.int .u64 1, .int .u64 0, .int .u64 0, .int .u64 0, .int .u64 262264, .int .u64 0, .int .u64 0, .int .u64 0, .int .u64 0, .int .u64 0, .int .u64 0, .int .u64 0, .int .u64 0, .int .u64 0, .int .u64 0, .int .u64 0, .bool false, .bool false, .bool false, .bool false, .int .u64 4194313]⟩]⟩ w fun e w' => e = .returned (.tuple ⟨[.int .u64 262264, .int .i64 8]⟩) ∧ Gr w w' :=
  reckonX_ok noNG hk14_6_ok 100000 300 h14 rfl rfl (by kernel_rfl) w hL
set_option maxHeartbeats 0 in
set_option maxRecDepth 1000000 in
theorem tbmachineTouch_9 (w : World) (hL : Laid h14 w) : Calls Tryz.prog 110 ⟨[.agg ⟨[.int .i64 19, .int .i64 0, .int .i64 0, .int .i64 0, .bool false, .bool false, .int .i64 0, .int .i64 0, .int .i32 0, .int .i32 0, .int .i64 0]⟩, .agg ⟨[.int .u64 1, .int .u64 0, .int .u64 0, .int .u64 0, .int .u64 262264, .int .u64 0, .int .u64 0, .int .u64 0, .int .u64 0, .int .u64 0, .int .u64 0, .int .u64 0, .int .u64 0, .int .u64 0, .int .u64 0, .int .u64 0, .bool false, .bool false, .bool false, .bool false, .int .u64 4194314]⟩]⟩ w fun e w' => e = .returned (.tuple ⟨[.int .u64 262264, .int .i64 8]⟩) ∧ Gr w w' :=
  reckonX_ok noNG hk14_6_ok 100000 300 h14 rfl rfl (by kernel_rfl) w hL
set_option maxHeartbeats 0 in
set_option maxRecDepth 1000000 in
theorem tbmachineTouch_10 (w : World) (hL : Laid h14 w) : Calls Tryz.prog 110 ⟨[.agg ⟨[.int .i64 14, .int .i64 0, .int .i64 0, .int .i64 8, .bool true, .bool false, .int .i64 4, .int .i64 4, .int .i32 (-8), .int .i32 0, .int .i64 0]⟩, .agg ⟨[.int .u64 0, .int .u64 0, .int .u64 0, .int .u64 0, .int .u64 262264, .int .u64 0, .int .u64 0, .int .u64 0, .int .u64 0, .int .u64 0, .int .u64 0, .int .u64 0, .int .u64 0, .int .u64 0, .int .u64 0, .int .u64 0, .bool false, .bool false, .bool false, .bool false, .int .u64 4194304]⟩]⟩ w fun e w' => e = .returned (.tuple ⟨[.int .u64 262256, .int .i64 8]⟩) ∧ Gr w w' :=
  reckonX_ok noNG hk14_6_ok 100000 300 h14 rfl rfl (by kernel_rfl) w hL
set_option maxHeartbeats 0 in
set_option maxRecDepth 1000000 in
theorem tbmachineTouch_11 (w : World) (hL : Laid h14 w) : Calls Tryz.prog 110 ⟨[.agg ⟨[.int .i64 14, .int .i64 0, .int .i64 0, .int .i64 8, .bool true, .bool false, .int .i64 4, .int .i64 4, .int .i32 (-8), .int .i32 0, .int .i64 0]⟩, .agg ⟨[.int .u64 0, .int .u64 0, .int .u64 0, .int .u64 0, .int .u64 262264, .int .u64 0, .int .u64 0, .int .u64 0, .int .u64 0, .int .u64 0, .int .u64 0, .int .u64 0, .int .u64 0, .int .u64 0, .int .u64 0, .int .u64 0, .bool false, .bool false, .bool false, .bool false, .int .u64 4194312]⟩]⟩ w fun e w' => e = .returned (.tuple ⟨[.int .u64 262256, .int .i64 8]⟩) ∧ Gr w w' :=
  reckonX_ok noNG hk14_6_ok 100000 300 h14 rfl rfl (by kernel_rfl) w hL
set_option maxHeartbeats 0 in
set_option maxRecDepth 1000000 in
theorem tbmachineTouch_12 (w : World) (hL : Laid h14 w) : Calls Tryz.prog 110 ⟨[.agg ⟨[.int .i64 13, .int .i64 0, .int .i64 0, .int .i64 8, .bool true, .bool false, .int .i64 0, .int .i64 4, .int .i32 (-8), .int .i32 0, .int .i64 0]⟩, .agg ⟨[.int .u64 0, .int .u64 0, .int .u64 0, .int .u64 0, .int .u64 262264, .int .u64 0, .int .u64 0, .int .u64 0, .int .u64 0, .int .u64 0, .int .u64 0, .int .u64 0, .int .u64 0, .int .u64 0, .int .u64 0, .int .u64 0, .bool false, .bool false, .bool false, .bool false, .int .u64 4194312]⟩]⟩ w fun e w' => e = .returned (.tuple ⟨[.int .u64 262256, .int .i64 8]⟩) ∧ Gr w w' :=
  reckonX_ok noNG hk14_6_ok 100000 300 h14 rfl rfl (by kernel_rfl) w hL
set_option maxHeartbeats 0 in
set_option maxRecDepth 1000000 in
theorem tbmachineTouch_13 (w : World) (hL : Laid h14 w) : Calls Tryz.prog 110 ⟨[.agg ⟨[.int .i64 13, .int .i64 0, .int .i64 0, .int .i64 8, .bool true, .bool false, .int .i64 0, .int .i64 0, .int .i32 0, .int .i32 0, .int .i64 0]⟩, .agg ⟨[.int .u64 0, .int .u64 0, .int .u64 0, .int .u64 0, .int .u64 262264, .int .u64 0, .int .u64 0, .int .u64 0, .int .u64 0, .int .u64 0, .int .u64 0, .int .u64 0, .int .u64 0, .int .u64 0, .int .u64 0, .int .u64 0, .bool false, .bool false, .bool false, .bool false, .int .u64 4194320]⟩]⟩ w fun e w' => e = .returned (.tuple ⟨[.int .u64 0, .int .i64 8]⟩) ∧ Gr w w' :=
  reckonX_ok noNG hk14_6_ok 100000 300 h14 rfl rfl (by kernel_rfl) w hL
set_option maxHeartbeats 0 in
set_option maxRecDepth 1000000 in
theorem tbmachineTouch_14 (w : World) (hL : Laid h14 w) : Calls Tryz.prog 110 ⟨[.agg ⟨[.int .i64 13, .int .i64 0, .int .i64 0, .int .i64 8, .bool true, .bool false, .int .i64 0, .int .i64 4, .int .i32 (-8), .int .i32 0, .int .i64 0]⟩, .agg ⟨[.int .u64 0, .int .u64 0, .int .u64 0, .int .u64 0, .int .u64 262264, .int .u64 0, .int .u64 0, .int .u64 0, .int .u64 0, .int .u64 0, .int .u64 0, .int .u64 0, .int .u64 0, .int .u64 0, .int .u64 0, .int .u64 0, .bool false, .bool false, .bool false, .bool false, .int .u64 4194320]⟩]⟩ w fun e w' => e = .returned (.tuple ⟨[.int .u64 262256, .int .i64 8]⟩) ∧ Gr w w' :=
  reckonX_ok noNG hk14_6_ok 100000 300 h14 rfl rfl (by kernel_rfl) w hL
set_option maxHeartbeats 0 in
set_option maxRecDepth 1000000 in
theorem tbmachineTouch_15 (w : World) (hL : Laid h14 w) : Calls Tryz.prog 110 ⟨[.agg ⟨[.int .i64 13, .int .i64 0, .int .i64 0, .int .i64 8, .bool true, .bool false, .int .i64 0, .int .i64 0, .int .i32 0, .int .i32 0, .int .i64 0]⟩, .agg ⟨[.int .u64 262264, .int .u64 0, .int .u64 0, .int .u64 0, .int .u64 262264, .int .u64 0, .int .u64 0, .int .u64 0, .int .u64 0, .int .u64 0, .int .u64 0, .int .u64 0, .int .u64 0, .int .u64 0, .int .u64 0, .int .u64 0, .bool false, .bool false, .bool false, .bool false, .int .u64 4194320]⟩]⟩ w fun e w' => e = .returned (.tuple ⟨[.int .u64 262264, .int .i64 8]⟩) ∧ Gr w w' :=
  reckonX_ok noNG hk14_6_ok 100000 300 h14 rfl rfl (by kernel_rfl) w hL
set_option maxHeartbeats 0 in
set_option maxRecDepth 1000000 in
theorem tbmachineTouch_16 (w : World) (hL : Laid h14 w) : Calls Tryz.prog 110 ⟨[.agg ⟨[.int .i64 13, .int .i64 0, .int .i64 0, .int .i64 8, .bool true, .bool false, .int .i64 0, .int .i64 0, .int .i32 0, .int .i32 0, .int .i64 0]⟩, .agg ⟨[.int .u64 262264, .int .u64 0, .int .u64 0, .int .u64 0, .int .u64 262264, .int .u64 0, .int .u64 0, .int .u64 0, .int .u64 0, .int .u64 0, .int .u64 0, .int .u64 0, .int .u64 0, .int .u64 0, .int .u64 0, .int .u64 0, .bool false, .bool false, .bool false, .bool false, .int .u64 4194327]⟩]⟩ w fun e w' => e = .returned (.tuple ⟨[.int .u64 262264, .int .i64 8]⟩) ∧ Gr w w' :=
  reckonX_ok noNG hk14_6_ok 100000 300 h14 rfl rfl (by kernel_rfl) w hL
set_option maxHeartbeats 0 in
set_option maxRecDepth 1000000 in
theorem tbmachineTouch_17 (w : World) (hL : Laid h14 w) : Calls Tryz.prog 110 ⟨[.agg ⟨[.int .i64 19, .int .i64 0, .int .i64 0, .int .i64 0, .bool false, .bool false, .int .i64 0, .int .i64 0, .int .i32 0, .int .i32 0, .int .i64 0]⟩, .agg ⟨[.int .u64 10485760, .int .u64 0, .int .u64 0, .int .u64 0, .int .u64 262264, .int .u64 0, .int .u64 0, .int .u64 0, .int .u64 0, .int .u64 0, .int .u64 0, .int .u64 0, .int .u64 0, .int .u64 0, .int .u64 0, .int .u64 0, .bool false, .bool false, .bool false, .bool false, .int .u64 4194327]⟩]⟩ w fun e w' => e = .returned (.tuple ⟨[.int .u64 262264, .int .i64 8]⟩) ∧ Gr w w' :=
  reckonX_ok noNG hk14_6_ok 100000 300 h14 rfl rfl (by kernel_rfl) w hL
set_option maxHeartbeats 0 in
set_option maxRecDepth 1000000 in
theorem tbmachineTouch_18 (w : World) (hL : Laid h14 w) : Calls Tryz.prog 110 ⟨[.agg ⟨[.int .i64 19, .int .i64 0, .int .i64 0, .int .i64 0, .bool false, .bool false, .int .i64 0, .int .i64 0, .int .i32 0, .int .i32 0, .int .i64 0]⟩, .agg ⟨[.int .u64 10485760, .int .u64 0, .int .u64 0, .int .u64 0, .int .u64 262264, .int .u64 0, .int .u64 0, .int .u64 0, .int .u64 0, .int .u64 0, .int .u64 0, .int .u64 0, .int .u64 0, .int .u64 0, .int .u64 0, .int .u64 0, .bool false, .bool false, .bool false, .bool false, .int .u64 4194328]⟩]⟩ w fun e w' => e = .returned (.tuple ⟨[.int .u64 262264, .int .i64 8]⟩) ∧ Gr w w' :=
  reckonX_ok noNG hk14_6_ok 100000 300 h14 rfl rfl (by kernel_rfl) w hL
theorem tbmachineTouch_tab : TabOk Tryz.prog h14 110 tbmachineTouch :=
  ⟨tbmachineTouch_0, tbmachineTouch_1, tbmachineTouch_2, tbmachineTouch_3, tbmachineTouch_4, tbmachineTouch_5, tbmachineTouch_6, tbmachineTouch_7, tbmachineTouch_8, tbmachineTouch_9, tbmachineTouch_10, tbmachineTouch_11, tbmachineTouch_12, tbmachineTouch_13, tbmachineTouch_14, tbmachineTouch_15, tbmachineTouch_16, tbmachineTouch_17, tbmachineTouch_18, trivial⟩
def tbmachineTouch_hk : Hook := onlyH 110 (guardH (memoHook h14 110 tbmachineTouch))
theorem tbmachineTouch_hk_ok : HookOk2 Tryz.prog tbmachineTouch_hk := only_ok (guard_ok (memoHook_ok rfl tbmachineTouch_tab))
def hk14_7 : Hook := orHook tbmachineTouch_hk (hk14_6)
theorem hk14_7_ok : HookOk2 Tryz.prog hk14_7 := orHook2_ok tbmachineTouch_hk_ok (hk14_6_ok)
end Go.Proofs.YtpkjgcfdemnohaaGreatDoor.Ex
end
section
namespace Go.Proofs.YtpkjgcfdemnohaaGreatDoor.Ex
open Go Go.RowKit
set_option linter.unusedVariables false
/-- What must hold for one cell to be another one. -/
def eqC : Value → Value → Option Cs
  | .int k a, .int j b => if k = j then some [(a, b)] else none
  | .bool a, .bool b => some [(b2i a, b2i b)]
  | .string a, .string b => some [(b2i (a.data.toList == b.data.toList), 1)]
  | x, y => if eqI x y then some [] else none
theorem eqC_ok {x y : Value} {cs : Cs} (h : eqC x y = some cs) (hc : ∀ c ∈ cs, c.1 = c.2) : x = y := by
  unfold eqC at h
  split at h
  · split at h
    · rename_i hk
      cases h
      simp only [List.mem_singleton, forall_eq] at hc
      rw [hk, hc]
    · cases h
  · cases h
    simp only [List.mem_singleton, forall_eq] at hc
    rw [b2i_inj hc]
  · cases h
    simp only [List.mem_singleton, forall_eq] at hc
    rename_i a b
    have hb : (a.data.toList == b.data.toList) = true := b2i_inj (b := true) hc
    have hl := eq_of_beq hb
    obtain ⟨⟨la⟩⟩ := a
    obtain ⟨⟨lb⟩⟩ := b
    simp only at hl
    rw [hl]
  · split at h
    · rename_i he
      exact eqI_ok he
    · cases h
def eqCL : List Value → List Value → Option Cs
  | [], [] => some []
  | x :: xs, y :: ys =>
    match eqC x y, eqCL xs ys with
    | some a, some b => some (a ++ b)
    | _, _ => none
  | _, _ => none
theorem eqCL_ok : ∀ {xs ys : List Value} {cs : Cs}, eqCL xs ys = some cs → (∀ c ∈ cs, c.1 = c.2) → xs = ys
  | [], [], _, _, _ => rfl
  | x :: xs, y :: ys, cs, h, hc => by
    simp only [eqCL] at h
    split at h
    · rename_i a b ha hb
      cases h
      rw [eqC_ok ha (fun c m => hc c (List.mem_append_left _ m)), eqCL_ok hb (fun c m => hc c (List.mem_append_right _ m))]
    · cases h
  | [], _ :: _, _, h, _ => by cases h
  | _ :: _, [], _, h, _ => by cases h
def eqS : Value → Value → Option Cs
  | .agg ⟨a⟩, .agg ⟨b⟩ => eqCL a b
  | x, y => eqC x y
theorem eqS_ok {x y : Value} {cs : Cs} (h : eqS x y = some cs) (hc : ∀ c ∈ cs, c.1 = c.2) : x = y := by
  unfold eqS at h
  split at h
  · rw [eqCL_ok h hc]
  · exact eqC_ok h hc
def eqSL : List Value → List Value → Option Cs
  | [], [] => some []
  | x :: xs, y :: ys =>
    match eqS x y, eqSL xs ys with
    | some a, some b => some (a ++ b)
    | _, _ => none
  | _, _ => none
theorem eqSL_ok : ∀ {xs ys : List Value} {cs : Cs}, eqSL xs ys = some cs → (∀ c ∈ cs, c.1 = c.2) → xs = ys
  | [], [], _, _, _ => rfl
  | x :: xs, y :: ys, cs, h, hc => by
    simp only [eqSL] at h
    split at h
    · rename_i a b ha hb
      cases h
      rw [eqS_ok ha (fun c m => hc c (List.mem_append_left _ m)), eqSL_ok hb (fun c m => hc c (List.mem_append_right _ m))]
    · cases h
  | [], _ :: _, _, h, _ => by cases h
  | _ :: _, [], _, h, _ => by cases h
/-- A call of a function, with what it comes to where the pairs hold. -/
structure Sc where
  args : List Value
  v : Value
  cs : Cs
def ScOk (P : Program) (h0 : List AO) (g : FuncId) (c : Sc) : Prop := (∀ p ∈ c.cs, p.1 = p.2) → ∀ w, Laid h0 w → Calls P g ⟨c.args⟩ w fun x w' => x = .returned c.v ∧ Gr w w'
def symHook (h0 : List AO) (g : FuncId) (sel : List Value → Option Sc) : Hook := fun f args h =>
  if Nat.beq f g then
    match sel args with
    | some c =>
      match eqSL args c.args with
      | some cs => if hasG h0 h then some (c.v, cs ++ c.cs) else none
      | none => none
    | none => none
  else none
theorem symHook_ok {P : Program} {h0 : List AO} (hf : h0.all (fun o => !o.live || (match o.es with | some e => Nat.beq e GM | none => false) && o.cs.all flat) = true) {g : FuncId} {sel : List Value → Option Sc} (hs : ∀ a c, sel a = some c → ScOk P h0 g c) : HookOk P (symHook h0 g sel) := by
  intro f args h v cs hv hc wb k s w H
  unfold symHook at hv
  split at hv
  · rename_i hg
    obtain rfl := Nat.eq_of_beq_eq_true hg
    split at hv
    · rename_i c hsel
      split at hv
      · rename_i cs' he
        split at hv
        · rename_i hl
          cases hv
          rw [eqSL_ok he (fun p m => hc p (List.mem_append_left _ m))]
          exact hs _ _ hsel (fun p m => hc p (List.mem_append_right _ m)) w (H.laid hl hf)
        · cases hv
      · cases hv
    · cases hv
  · cases hv
end Go.Proofs.YtpkjgcfdemnohaaGreatDoor.Ex
end
section
namespace Go.Proofs.YtpkjgcfdemnohaaGreatDoor

def lowS (v : BitVec 64) (b : Int) : BitVec 64 := if b ≤ 0 then 0 else if 64 ≤ b then v else v &&& (1#64 <<< b.toNat - 1#64)
def signS (v : BitVec 64) (b : Int) : BitVec 64 := if b ≤ 0 then 0 else if 64 ≤ b then v else (v <<< (64 - b).toNat).sshiftRight (64 - b).toNat

/-- The number of the first k of some bytes. -/
def numF (f : Nat → BitVec 8) : Nat → BitVec 64
  | 0 => 0#64
  | k + 1 => numF f k ||| ((f k).setWidth 64 <<< (8 * k))
def byteAt (s : ByteArray) (i : Nat) : BitVec 8 := (s.data.toList.getD i 0).toBitVec
def numS (s : ByteArray) : BitVec 64 := numF (byteAt s) (min s.size 8)
theorem numF_succ (f : Nat → BitVec 8) (k : Nat) : numF f (k + 1) = numF f k ||| ((f k).setWidth 64 <<< (8 * k)) := rfl
theorem byteAt_get (s : ByteArray) (k : Nat) (h : k < s.size) : BitVec.ofNat 64 s[k].toNat = (byteAt s k).setWidth 64 := by
  unfold byteAt
  have h' : k < s.data.toList.length := by simpa using h
  rw [List.getD_eq_getElem?_getD, List.getElem?_eq_getElem h']
  rw [← BitVec.ofNat_toNat]; rfl
theorem numS_eq (s : ByteArray) (k : Nat) (h : k = min s.size 8) : numF (byteAt s) k = numS s := by rw [h]; rfl

theorem numF_bit (f : Nat → BitVec 8) (k j : Nat) : (numF f k).getLsbD j = (decide (j < 64) && decide (j < 8 * k) && (f (j / 8)).getLsbD (j % 8)) := by
  induction k with
  | zero => simp [numF]
  | succ k ih =>
    rw [numF_succ, BitVec.getLsbD_or, ih, BitVec.getLsbD_shiftLeft, BitVec.getLsbD_setWidth]
    by_cases h64 : j < 64
    · by_cases h1 : j < 8 * k
      · have h2 : j < 8 * (k + 1) := by omega
        simp [h64, h1, h2]
      · by_cases h2 : j < 8 * (k + 1)
        · have e1 : j / 8 = k := by omega
          have e2 : j - 8 * k = j % 8 := by omega
          have e3 : j % 8 < 64 := by omega
          simp [h64, h1, h2, e1, e2, e3]
        · have e2 : 8 ≤ j - 8 * k := by omega
          simp [h64, h1, h2, BitVec.getLsbD_of_ge _ _ e2]
    · simp [h64]

/-- The number of m bytes from the place 'lo' on, from the highest one. -/
def numH (f : Nat → BitVec 8) (lo : Nat) : Nat → BitVec 64
  | 0 => 0#64
  | m + 1 => numH f (lo + 1) m <<< 8 ||| (f lo).setWidth 64
theorem numH_bit (f : Nat → BitVec 8) (m : Nat) : ∀ lo j, (numH f lo m).getLsbD j = (decide (j < 64) && decide (j < 8 * m) && (f (lo + j / 8)).getLsbD (j % 8)) := by
  induction m with
  | zero => intro lo j; simp [numH]
  | succ m ih =>
    intro lo j
    rw [numH, BitVec.getLsbD_or, BitVec.getLsbD_shiftLeft, ih, BitVec.getLsbD_setWidth]
    by_cases h64 : j < 64
    · by_cases h8 : j < 8
      · have e1 : j / 8 = 0 := by omega
        have e2 : j % 8 = j := by omega
        have e3 : j < 8 * (m + 1) := by omega
        simp [h64, h8, e1, e2, e3]
      · have e1 : lo + 1 + (j - 8) / 8 = lo + j / 8 := by omega
        have e2 : (j - 8) % 8 = j % 8 := by omega
        have e4 : j - 8 < 64 := by omega
        have e5 : (f lo).getLsbD j = false := BitVec.getLsbD_of_ge _ _ (by omega)
        by_cases h3 : j < 8 * (m + 1)
        · have e3 : j - 8 < 8 * m := by omega
          simp [h64, h8, e1, e2, e3, e4, e5, h3]
        · have e3 : ¬ j - 8 < 8 * m := by omega
          simp [h64, h8, e3, e5, h3]
    · simp [h64]
theorem numF_numH (f : Nat → BitVec 8) (m : Nat) : numH f 0 m = numF f m := by
  apply BitVec.eq_of_getLsbD_eq
  intro i hi
  rw [numF_bit, numH_bit, Nat.zero_add]
theorem mul256_add (v : BitVec 64) (c : BitVec 8) : v * 256#64 + c.setWidth 64 = v <<< 8 ||| c.setWidth 64 := by
  have e : v * 256#64 = v <<< 8 := by
    rw [BitVec.shiftLeft_eq_mul_twoPow]; congr 1
  rw [e]
  apply BitVec.add_eq_or_of_and_eq_zero
  apply BitVec.eq_of_getLsbD_eq
  intro i hi
  simp only [BitVec.getLsbD_and, BitVec.getLsbD_shiftLeft, BitVec.getLsbD_setWidth, BitVec.getLsbD_zero]
  by_cases h : i < 8
  · simp [h]
  · simp [BitVec.getLsbD_of_ge c i (by omega)]
theorem numH_step (f : Nat → BitVec 8) (lo m : Nat) : numH f (lo + 1) m * 256#64 + (f lo).setWidth 64 = numH f lo (m + 1) := by
  rw [mul256_add]; rfl

def byteOf (v : BitVec 64) (i : Nat) : BitVec 8 := (v >>> (8 * i)).setWidth 8
def bytesN (v : BitVec 64) (n : Nat) : ByteArray := ⟨((List.range n).map fun i => UInt8.ofBitVec (byteOf v i)).toArray⟩
theorem bytesN_size (v : BitVec 64) (n : Nat) : (bytesN v n).size = n := by
  show (bytesN v n).data.size = n
  simp [bytesN]
theorem bytesN_list (v : BitVec 64) (n : Nat) : (bytesN v n).data.toList = (List.range n).map fun i => UInt8.ofBitVec (byteOf v i) := by simp [bytesN]
theorem bytesN_get (v : BitVec 64) (n i : Nat) (h : i < (bytesN v n).size) : ((bytesN v n)[i].toNat : Int) = N (byteOf v i) := by
  have e : (bytesN v n)[i] = (bytesN v n).data[i]'(by simpa using h) := rfl
  rw [e]
  simp [bytesN, N]
theorem byteAt_bytesN (v : BitVec 64) (n i : Nat) (h : i < n) : byteAt (bytesN v n) i = byteOf v i := by
  unfold byteAt
  rw [bytesN_list, List.getD_eq_getElem?_getD]
  simp [h]

/-- nums.Bytes: the text of a number's n lowest bytes. -/
def bytesS (v : BitVec 64) (n : Int) : ByteArray := if n < 0 ∨ 8 < n then ⟨#[]⟩ else bytesN v n.toNat

theorem low_mod (v : BitVec 64) (b : Nat) : v % (1#64 <<< b) = v &&& (1#64 <<< b - 1#64) ∨ 64 ≤ b := by
  by_cases h : b < 64
  · left
    apply BitVec.eq_of_toNat_eq
    have hp : 2 ^ b < 2 ^ 64 := Nat.pow_lt_pow_right (by decide) h
    have e1 : (1#64 <<< b).toNat = 2 ^ b := by
      rw [BitVec.toNat_shiftLeft]; simp [Nat.shiftLeft_eq]; exact hp
    have hp0 : 0 < 2 ^ b := Nat.two_pow_pos b
    have e2 : (1#64 <<< b - 1#64).toNat = 2 ^ b - 1 := by
      rw [BitVec.toNat_sub, e1]; simp; omega
    rw [BitVec.toNat_umod, BitVec.toNat_and, e1, e2, Nat.and_two_pow_sub_one_eq_mod]
  · right; omega
theorem low_of_mod (v : BitVec 64) (b : Int) (h0 : 0 < b) (h1 : b < 64) : v % (1#64 <<< b.toNat) = lowS v b := by
  unfold lowS
  rw [if_neg (by omega), if_neg (by omega)]
  exact (low_mod v b.toNat).resolve_right (by omega)
theorem low_toNat (v : BitVec 64) (b : Int) (h0 : 0 < b) (h1 : b < 64) : (lowS v b).toNat = v.toNat % 2 ^ b.toNat := by
  rw [← low_of_mod v b h0 h1, BitVec.toNat_umod, BitVec.toNat_shiftLeft]
  have hp : 2 ^ b.toNat < 2 ^ 64 := Nat.pow_lt_pow_right (by decide) (by omega)
  simp only [BitVec.toNat_ofNat, Nat.shiftLeft_eq]
  rw [Nat.mod_eq_of_lt (a := 1) (by decide), Nat.one_mul, Nat.mod_eq_of_lt hp]
theorem low_bit (v : BitVec 64) (b : Int) (i : Nat) : (lowS v b).getLsbD i = (decide ((i : Int) < b) && v.getLsbD i) := by
  by_cases h0 : b ≤ 0
  · unfold lowS; rw [if_pos h0]
    have : ¬ (i : Int) < b := by omega
    simp [this]
  · by_cases h1 : 64 ≤ b
    · unfold lowS; rw [if_neg h0, if_pos h1]
      by_cases hi : i < 64
      · have : (i : Int) < b := by omega
        simp [this]
      · simp [BitVec.getLsbD_of_ge v i (by omega)]
    · have e := low_toNat v b (by omega) (by omega)
      rw [BitVec.getLsbD, e, Nat.testBit_mod_two_pow]
      congr 1
      simp only [decide_eq_decide]; omega
theorem sign_bit (v : BitVec 64) (b : Int) (i : Nat) (hb : 0 < b) (hi : i < 64) : (signS v b).getLsbD i = if (i : Int) < b then v.getLsbD i else v.getLsbD (b.toNat - 1) := by
  unfold signS
  rw [if_neg (by omega)]
  by_cases h1 : 64 ≤ b
  · rw [if_pos h1, if_pos (by omega)]
  · rw [if_neg h1]
    obtain ⟨n, rfl⟩ := Int.eq_ofNat_of_zero_le (show 0 ≤ b by omega)
    generalize hk' : (64 - (n : Int)).toNat = k
    have hk : k + n = 64 := by omega
    clear hk'
    rw [Int.toNat_natCast, BitVec.getLsbD_sshiftRight]
    by_cases h2 : i < n
    · have h3 : k + i < 64 := by omega
      have h4 : ¬ 64 ≤ i := by omega
      have h5 : (i : Int) < n := by omega
      rw [if_pos h3, if_pos h5, BitVec.getLsbD_shiftLeft]
      simp only [h3, h4, show ¬ k + i < k from by omega, Nat.add_sub_cancel_left, decide_false, decide_true, Bool.not_false, Bool.true_and]
    · have h3 : ¬ k + i < 64 := by omega
      have h4 : ¬ 64 ≤ i := by omega
      have h5 : ¬ (i : Int) < n := by omega
      have h6 : ¬ 63 < k := by omega
      have e : 63 - k = n - 1 := by omega
      rw [if_neg h3, if_neg h5, BitVec.msb_eq_getLsbD_last, BitVec.getLsbD_shiftLeft]
      simp only [h4, h6, decide_false, decide_true, Bool.not_false, Bool.true_and, show 64 - 1 < 64 from by decide, show 64 - 1 - k = n - 1 from by omega]
theorem low_lt_iff (v : BitVec 64) (b : Int) (h0 : 0 < b) (h1 : b < 64) : (N (lowS v b) < N (1#64 <<< (b - 1).toNat)) ↔ v.getLsbD (b.toNat - 1) = false := by
  obtain ⟨n, rfl⟩ : ∃ n : Nat, b = (n : Int) + 1 := ⟨(b - 1).toNat, by omega⟩
  have hp : 2 ^ n < 2 ^ 64 := Nat.pow_lt_pow_right (by decide) (by omega)
  have e1 : (1#64 <<< ((n : Int) + 1 - 1).toNat).toNat = 2 ^ n := by
    rw [show ((n : Int) + 1 - 1).toNat = n by omega, BitVec.toNat_shiftLeft]; simp [Nat.shiftLeft_eq]; exact hp
  have e2 := low_toNat v ((n : Int) + 1) h0 h1
  rw [show ((n : Int) + 1).toNat = n + 1 by omega] at e2 ⊢
  unfold N
  rw [e1, e2, Nat.add_sub_cancel, BitVec.getLsbD, Nat.mod_pow_succ]
  have h3 : v.toNat % 2 ^ n < 2 ^ n := Nat.mod_lt _ (Nat.two_pow_pos n)
  rw [Nat.testBit_eq_decide_div_mod_eq]
  have h4 : v.toNat / 2 ^ n % 2 = 0 ∨ v.toNat / 2 ^ n % 2 = 1 := by omega
  rcases h4 with h4 | h4
  · simp [h4]; exact_mod_cast h3
  · simp [h4]; omega
theorem sign_of_low (v : BitVec 64) (b : Int) (h0 : 0 < b) (h1 : b < 64) :
    signS v b = if v.getLsbD (b.toNat - 1) = false then lowS v b else lowS v b - 1#64 <<< b.toNat := by
  have hlow : ∀ i, (lowS v b).getLsbD i = (decide ((i : Int) < b) && v.getLsbD i) := low_bit v b
  split
  · rename_i h
    apply BitVec.eq_of_getLsbD_eq
    intro i hi
    rw [sign_bit v b i h0 hi, hlow i]
    by_cases hib : (i : Int) < b <;> simp only [hib, if_true, if_false, h, decide_true, decide_false, Bool.true_and, Bool.false_and]
  · rename_i h
    have h' : v.getLsbD (b.toNat - 1) = true := by simpa using h
    obtain ⟨n, rfl⟩ := Int.eq_ofNat_of_zero_le (show 0 ≤ b by omega)
    rw [Int.toNat_natCast] at h' ⊢
    have hn : n < 64 := by omega
    have hmask : ∀ i, i < 64 → (~~~(1#64 <<< n - 1#64)).getLsbD i = decide (n ≤ i) := by
      intro i hi
      have hp : 2 ^ n < 2 ^ 64 := Nat.pow_lt_pow_right (by decide) hn
      have e1 : (1#64 <<< n).toNat = 2 ^ n := by
        rw [BitVec.toNat_shiftLeft]; simp [Nat.shiftLeft_eq]; exact hp
      have hp0 : 0 < 2 ^ n := Nat.two_pow_pos n
      have e2 : (1#64 <<< n - 1#64).toNat = 2 ^ n - 1 := by
        rw [BitVec.toNat_sub, e1]; simp; omega
      rw [BitVec.getLsbD_not, BitVec.getLsbD, e2, Nat.testBit_two_pow_sub_one]
      by_cases hni : n ≤ i
      · simp [hi, hni]
      · simp [hi, hni]; omega
    have hneg : -(1#64 <<< n) = ~~~(1#64 <<< n - 1#64) := by
      rw [BitVec.neg_eq_not_add, BitVec.not_sub_one_eq_not_add_one]
    rw [BitVec.sub_eq_add_neg, hneg, BitVec.add_eq_or_of_and_eq_zero]
    · apply BitVec.eq_of_getLsbD_eq
      intro i hi
      rw [sign_bit v _ i h0 hi, BitVec.getLsbD_or, hlow i, hmask i hi, Int.toNat_natCast]
      by_cases hib : i < n
      · have h2 : ¬ n ≤ i := by omega
        simp [hib, h2]
      · have h2 : n ≤ i := by omega
        have h3 : ¬ (i : Int) < n := by omega
        simp [h2, h3, h']
    · apply BitVec.eq_of_getLsbD_eq
      intro i hi
      rw [BitVec.getLsbD_and, hlow i, hmask i hi]
      by_cases hib : i < n
      · have h2 : ¬ n ≤ i := by omega
        simp [h2]
      · simp [hib]
theorem shl1_ne (b : Int) (h0 : 0 ≤ b) (h1 : b < 64) : ¬ N (1#64 <<< b.toNat) = 0 := by
  have hp : 2 ^ b.toNat < 2 ^ 64 := Nat.pow_lt_pow_right (by decide) (by omega)
  have hp0 : 0 < 2 ^ b.toNat := Nat.two_pow_pos _
  unfold N
  rw [BitVec.toNat_shiftLeft]
  simp only [BitVec.toNat_ofNat, Nat.shiftLeft_eq]
  rw [Nat.mod_eq_of_lt (a := 1) (by decide), Nat.one_mul, Nat.mod_eq_of_lt hp]
  omega
/-- What the document's Sign goes by: whether no sign is told on. -/
def plainB (v : BitVec 64) (b : Int) : Bool := decide (N (lowS v b) < N (1#64 <<< (b - 1).toNat))
theorem sign_le0 (v : BitVec 64) (b : Int) (h : b ≤ 0) : lowS v b = signS v b := by unfold lowS signS; rw [if_pos h, if_pos h]
theorem sign_ge64 (v : BitVec 64) (b : Int) (h : 64 ≤ b) : lowS v b = signS v b := by unfold lowS signS; rw [if_neg (show ¬ b ≤ 0 by omega), if_pos h, if_neg (show ¬ b ≤ 0 by omega), if_pos h]
theorem sign_plain (v : BitVec 64) (b : Int) (h0 : 0 < b) (h1 : b < 64) (h : N (lowS v b) < N (1#64 <<< (b.toNat - 1))) : lowS v b = signS v b := by
  rw [show b.toNat - 1 = (b - 1).toNat by omega] at h
  rw [sign_of_low v b h0 h1, if_pos ((low_lt_iff v b h0 h1).1 h)]
theorem sign_minus (v : BitVec 64) (b : Int) (h0 : 0 < b) (h1 : b < 64) (h : ¬ N (lowS v b) < N (1#64 <<< (b.toNat - 1))) : lowS v b - 1#64 <<< b.toNat = signS v b := by
  rw [show b.toNat - 1 = (b - 1).toNat by omega] at h
  rw [sign_of_low v b h0 h1, if_neg (fun h' => h ((low_lt_iff v b h0 h1).2 h'))]
theorem shl_succ (k : Nat) : 1#64 <<< k * 2#64 = 1#64 <<< (k + 1) := by
  apply BitVec.eq_of_toNat_eq
  simp [Nat.shiftLeft_eq, Nat.pow_succ]
end Go.Proofs.YtpkjgcfdemnohaaGreatDoor
end
section
namespace Go.Proofs.YtpkjgcfdemnohaaGreatDoor
open Go.RowKit

attribute [local go_sem] u64_wrap u8_wrap BitVec.ofInt_add BitVec.ofInt_mul ofInt_sub' ofInt_N ofInt_Nw ofInt_Z ofInt_pow ofInt_shl wrap64_N mul_shl1 N_shr Z_shr u64_and u64_or N_div8 N_div16 N_div24 N_div32 N_div40 N_div48 N_div56

theorem ret64 {a b : BitVec 64} (h : a = b) : Ending.returned (.int .u64 (N a)) = .returned (.int .u64 (N b)) := by rw [h]
theorem ret0 {b : BitVec 64} (h : 0 = b) : Ending.returned (.int .u64 0) = .returned (.int .u64 (N b)) := by rw [← h]; rfl

set_option maxHeartbeats 400000 in
theorem low_N (v : BitVec 64) (b : Int) (w : World) (h1 : -9223372036854775808 ≤ b) (h2 : b ≤ 9223372036854775807) :
    Calls Tryz.prog 108 #[.int .u64 (N v), .int .i64 b] w fun e w' => e = .returned (.int .u64 (N (lowS v b))) ∧ w = w' := by
  go_enter Tryz.func108, Tryz.ntmps108
  go_wp2
  · go_ret
    exact ⟨ret0 (by unfold lowS; rw [if_pos ‹_›]), rfl⟩
  · go_ret
    exact ⟨ret64 (by unfold lowS; rw [if_neg (by omega), if_pos ‹_›]), rfl⟩
  · go_ret
    exact ⟨ret64 (by unfold lowS; rw [if_neg (by omega), if_neg (by omega)]), rfl⟩

set_option maxHeartbeats 400000 in
theorem sign_N (v : BitVec 64) (b : Int) (w : World) (h1 : -9223372036854775808 ≤ b) (h2 : b ≤ 9223372036854775807) :
    Calls Tryz.prog 174 #[.int .u64 (N v), .int .i64 b] w fun e w' => e = .returned (.int .u64 (N (signS v b))) ∧ w = w' := by
  go_enter Tryz.func174, Tryz.ntmps174
  go_wp2
  · go_ret
    exact ⟨ret0 (by unfold signS; rw [if_pos ‹_›]), rfl⟩
  · go_ret
    exact ⟨ret64 (by unfold signS; rw [if_neg (by omega), if_pos ‹_›]), rfl⟩
  · go_ret
    exact ⟨ret64 (by unfold signS; rw [if_neg (by omega), if_neg (by omega)]), rfl⟩

set_option maxHeartbeats 400000 in
theorem num_any (s : ByteArray) (w : World) (hs : s.size ≤ maxLen) :
    Calls Tryz.prog 240 #[.string s] w fun e w' => e = .returned (.int .u64 (N (numS s))) ∧ w = w' := by
  unfold maxLen at hs
  go_enter Tryz.func240, Tryz.ntmps240
  go_wp2
  all_goals
    go_loop [3, 8] (fun v i => ∃ k : Nat, k ≤ s.size ∧ k ≤ 8 ∧ i = .int .i64 k ∧ v = .int .u64 (N (numF (byteAt s) k))) (fun _ i => 8 - (intOf i).toNat)
    case atStart => exact ⟨0, by omega, by omega, rfl, rfl⟩
    case round =>
      obtain ⟨k, hk, hk8, rfl, rfl⟩ := hrel
      by_cases hlt : k < s.size ∧ k < 8
      · obtain ⟨ha, hb⟩ := hlt
        go_wp2
        go_round
        case rel => exact ⟨k + 1, by omega, by omega, by go_num, by rw [numF_succ, ← byteAt_get s k ha]⟩
        case measure => simp [intOf]; omega
      · go_wp2
        all_goals
          go_ret
          exact ⟨ret64 (numS_eq s k (by omega)), rfl⟩

end Go.Proofs.YtpkjgcfdemnohaaGreatDoor
end
section
namespace Go.Proofs.YtpkjgcfdemnohaaGreatDoor

/-! What the laws ask. -/
theorem low_low (v : BitVec 64) (b : Int) : lowS (lowS v b) b = lowS v b := by
  apply BitVec.eq_of_getLsbD_eq
  intro i hi
  rw [low_bit, low_bit]; cases decide ((i : Int) < b) <;> rfl
theorem sign_sign (v : BitVec 64) (b : Int) (h0 : 0 < b) (h1 : b ≤ 64) : signS (signS v b) b = signS v b := by
  apply BitVec.eq_of_getLsbD_eq
  intro i hi
  rw [sign_bit _ b i h0 hi, sign_bit v b i h0 hi, sign_bit v b (b.toNat - 1) h0 (by omega)]
  have : ((b.toNat - 1 : Nat) : Int) < b := by omega
  rw [if_pos this]
  split <;> simp
theorem low_sign (v : BitVec 64) (b : Int) (h0 : 0 < b) : lowS (signS v b) b = lowS v b := by
  apply BitVec.eq_of_getLsbD_eq
  intro i hi
  rw [low_bit, low_bit, sign_bit v b i h0 hi]
  by_cases h : (i : Int) < b <;> simp [h]
theorem sign_low (v : BitVec 64) (b : Int) (h0 : 0 < b) (h1 : b ≤ 64) : signS (lowS v b) b = signS v b := by
  apply BitVec.eq_of_getLsbD_eq
  intro i hi
  rw [sign_bit _ b i h0 hi, sign_bit v b i h0 hi, low_bit, low_bit]
  have : ((b.toNat - 1 : Nat) : Int) < b := by omega
  by_cases h : (i : Int) < b <;> simp [h, this]
theorem num_bytes (v : BitVec 64) (n : Nat) (h : n ≤ 8) : numS (bytesN v n) = lowS v (8 * n : Nat) := by
  unfold numS
  rw [bytesN_size, show min n 8 = n by omega]
  apply BitVec.eq_of_getLsbD_eq
  intro i hi
  rw [numF_bit, low_bit]
  by_cases hn : i < 8 * n
  · have hn' : (i : Int) < (8 * n : Nat) := by omega
    rw [byteAt_bytesN v n _ (by omega)]
    unfold byteOf
    rw [BitVec.getLsbD_setWidth, BitVec.getLsbD_ushiftRight]
    simp only [hi, hn, hn', decide_true, Bool.true_and, show i % 8 < 8 by omega, show 8 * (i / 8) + i % 8 = i by omega]
  · have hn' : ¬ (i : Int) < (8 * n : Nat) := by omega
    simp only [hn, hn', decide_false, Bool.false_and, Bool.and_false]
theorem num_bytesS (v : BitVec 64) (n : Nat) (h : n ≤ 8) : numS (bytesS v n) = lowS v (8 * (n : Int)) := by
  unfold bytesS
  rw [if_neg (by omega), Int.toNat_natCast, num_bytes v n h]; rfl
theorem bytesS_size (v : BitVec 64) (n : Nat) (h : n ≤ 8) : (bytesS v n).size = n := by
  unfold bytesS
  rw [if_neg (by omega), Int.toNat_natCast, bytesN_size]
theorem bytesS_small (v : BitVec 64) (n : Int) : (bytesS v n).size ≤ 8 := by
  unfold bytesS
  split
  · decide
  · rw [bytesN_size]; omega
theorem num_bytes8 (v : BitVec 64) : numS (bytesN v 8) = v := by
  rw [num_bytes v 8 (by omega)]
  unfold lowS; rw [if_neg (by decide), if_pos (by decide)]
theorem sign_neg (v : BitVec 64) (b : Int) (h0 : 0 < b) (h1 : b ≤ 64) : (Z (signS v b) < 0) ↔ v.getLsbD (b.toNat - 1) = true := by
  have h := sign_bit v b 63 h0 (by omega)
  have e : (if ((63 : Nat) : Int) < b then v.getLsbD 63 else v.getLsbD (b.toNat - 1)) = v.getLsbD (b.toNat - 1) := by
    split
    · rw [show b.toNat - 1 = 63 by omega]
    · rfl
  rw [e] at h
  rw [← h]
  unfold Z
  have e2 := BitVec.msb_eq_toInt (x := signS v b)
  rw [BitVec.msb_eq_getLsbD_last] at e2
  rw [e2]; simp
theorem shr_bit (v : BitVec 64) (k : Nat) : ((N (v >>> k)).tmod 2 = 1) ↔ v.getLsbD k = true := by
  have e : (N (v >>> k)).tmod 2 = (((v >>> k).toNat % 2 : Nat) : Int) := by
    unfold N; rw [Int.tmod_eq_emod_of_nonneg (by omega)]; omega
  rw [e]
  rw [BitVec.toNat_ushiftRight, Nat.shiftRight_eq_div_pow, BitVec.getLsbD, Nat.testBit_eq_decide_div_mod_eq]
  generalize v.toNat / 2 ^ k = q
  rw [decide_eq_true_iff]
  omega
theorem sign_eq_low (v : BitVec 64) (b : Int) (h0 : 0 < b) (h1 : b ≤ 64) (h : v.getLsbD (b.toNat - 1) = false) : signS v b = lowS v b := by
  by_cases hb : b = 64
  · rw [sign_ge64 v b (by omega)]
  · rw [sign_of_low v b h0 (by omega), if_pos h]
theorem bytes_num (s : ByteArray) (h : s.size ≤ 8) : bytesS (numS s) s.size = s := by
  unfold bytesS
  rw [if_neg (by omega), Int.toNat_natCast]
  apply ByteArray.ext
  apply Array.toList_inj.1
  rw [bytesN_list]
  have hl : s.data.toList.length = s.size := by simp
  apply List.ext_getElem
  · simp [hl]
  · intro i h1 h2
    have hi : i < s.size := by rw [← hl]; exact h2
    rw [List.getElem_map, List.getElem_range]
    have e : byteOf (numS s) i = byteAt s i := by
      unfold byteOf numS
      apply BitVec.eq_of_getLsbD_eq
      intro j hj
      rw [BitVec.getLsbD_setWidth, BitVec.getLsbD_ushiftRight, numF_bit]
      simp only [hj, show 8 * i + j < 64 by omega, show 8 * i + j < 8 * min s.size 8 by omega, show (8 * i + j) / 8 = i by omega, show (8 * i + j) % 8 = j by omega, decide_true, Bool.true_and]
    rw [e]
    unfold byteAt
    rw [List.getD_eq_getElem?_getD, List.getElem?_eq_getElem h2]
    rfl
theorem numF_congr (f g : Nat → BitVec 8) (k : Nat) (h : ∀ i, i < k → f i = g i) : numF f k = numF g k := by
  induction k with
  | zero => rfl
  | succ k ih => rw [numF_succ, numF_succ, ih (fun i hi => h i (by omega)), h k (by omega)]
theorem num_behind (v : BitVec 64) (b : ByteArray) : numS (bytesN v 8 ++ b) = v := by
  have e : numS (bytesN v 8 ++ b) = numS (bytesN v 8) := by
    unfold numS
    rw [ByteArray.size_append, bytesN_size, show min (8 + b.size) 8 = 8 by omega, show min 8 8 = 8 by omega]
    apply numF_congr
    intro i hi
    unfold byteAt
    rw [List.getD_eq_getElem?_getD, List.getD_eq_getElem?_getD]
    have hl : (bytesN v 8).data.toList.length = 8 := by simp [bytesN_list]
    have : (bytesN v 8 ++ b).data.toList = (bytesN v 8).data.toList ++ b.data.toList := by simp
    rw [this, List.getElem?_append_left (by omega)]
  rw [e, num_bytes8]
end Go.Proofs.YtpkjgcfdemnohaaGreatDoor
end
section
namespace Go.Proofs.YtpkjgcfdemnohaaGreatDoor.Ex
open Go Go.RowKit
set_option linter.unusedVariables false
set_option maxHeartbeats 0
set_option maxRecDepth 1000000
theorem lf14 {hk : Hook} (hhk : HookOk Tryz.prog hk) (orc : Orc) {h0 : List AO} {g : FuncId} {args : List Value} {v : Value} {cs : Cs} (hf : (args.all flat && flat v) = true)
    (h : reckonGL Tryz.prog (guardH hk) orc 100000 300 h0 g args = some (v, cs.map (·.1))) (h2 : reckonGR Tryz.prog (guardH hk) orc 100000 300 h0 g args v = some (v, cs.map (·.2))) : ScOk Tryz.prog h0 g ⟨args, v, cs⟩ := by
  intro he w hL
  simp only [Bool.and_eq_true] at hf
  exact reckonS_ok noNG hhk orc 100000 300 h0 hf.1 hf.2 h h2 (List.map_congr_left he) w hL
def hkN : Hook := fun _ _ _ => none
theorem hkN_ok : HookOk Tryz.prog hkN := by
  intro f args h v cs hv
  cases hv
/-- The number of at most eight bytes, by its contract. -/
def hkNum : Hook := fun f args _ =>
  if Nat.beq f 240 then
    match args with
    | [.string s] => if Nat.ble s.data.toList.length 8 then some (.int .u64 (N (numS s)), []) else none
    | _ => none
  else none
theorem hkNum_ok : HookOk Tryz.prog hkNum := by
  intro f args h v cs hv hc wb k s w H
  unfold hkNum at hv
  split at hv
  · rename_i hf
    obtain rfl := Nat.eq_of_beq_eq_true hf
    split at hv
    · rename_i b
      split at hv
      · rename_i hl
        cases hv
        have h8 : b.size ≤ 8 := by
          have e : b.size = b.data.toList.length := Array.length_toList.symm
          rw [e]
          exact Nat.le_of_ble_eq_true hl
        exact (num_any b w (Nat.le_trans h8 (by unfold maxLen; decide))).mono fun e w' ⟨he, hw⟩ => ⟨he, hw ▸ Gr.refl w⟩
      · cases hv
    · cases hv
  · cases hv
def jOrc (m : Int) : Orc := fun f t _ =>
  if Nat.beq f 233 && Nat.beq t 21 then some (.int .i64 m)
  else if Nat.beq f 49 && Nat.beq t 21 then some (.bool true)
  else if Nat.beq f 109 && Nat.beq t 38 then some (.bool false) else none
def xB (k al co si : Int) (wi sh : Bool) (ds sr dp re im : Int) : List Value := [.int .i64 k, .int .i64 al, .int .i64 co, .int .i64 si, .bool wi, .bool sh, .int .i64 ds, .int .i64 sr, .int .i32 dp, .int .i32 re, .int .i64 im]
def rb (b : UInt8) : UInt8 := UInt8.ofNat ((b.toNat : Int)).toNat
def by8 (v : Int) : List UInt8 := [UInt8.ofNat (IntKind.u8.wrap (Int.fdiv v (2 ^ 0))).toNat, UInt8.ofNat (IntKind.u8.wrap (Int.fdiv v (2 ^ 8))).toNat, UInt8.ofNat (IntKind.u8.wrap (Int.fdiv v (2 ^ 16))).toNat, UInt8.ofNat (IntKind.u8.wrap (Int.fdiv v (2 ^ 24))).toNat, UInt8.ofNat (IntKind.u8.wrap (Int.fdiv v (2 ^ 32))).toNat, UInt8.ofNat (IntKind.u8.wrap (Int.fdiv v (2 ^ 40))).toNat, UInt8.ofNat (IntKind.u8.wrap (Int.fdiv v (2 ^ 48))).toNat, UInt8.ofNat (IntKind.u8.wrap (Int.fdiv v (2 ^ 56))).toNat]
/-- The law's code, by what its two numbers' bytes are, and the condition's. -/
def codeJ (sh : Bool) (y b0 b1 b2 b3 b4 b5 b6 b7 c0 c1 c2 c3 c4 c5 c6 c7 : UInt8) : List UInt8 :=
  [72, 185, b0, b1, b2, b3, b4, b5, b6, b7, 72, 186, c0, c1, c2, c3, c4, c5, c6, c7, 72, 199, 192, 1, 0, 0, 0, 72, 57, 209] ++ (bif sh then [y, 7] else [15, y, 7, 0, 0, 0]) ++ [72, 199, 192, 0, 0, 0, 0, 195]
variable (y b0 b1 b2 b3 b4 b5 b6 b7 c0 c1 c2 c3 c4 c5 c6 c7 : UInt8) (m : Int)
def cAbs (m d : Int) (cs : List UInt8) (op : UInt8) : Cs := [(IntKind.i64.wrap (N (numS ⟨⟨cs.map rb⟩⟩)), m), (b2i (eqD (xB 3 0 0 0 true false d 0 0 0 m) (xB 3 0 0 0 true false d 0 0 0 m)), 1), (b2i (!(([72, op] ++ cs) == ([72, op] ++ (by8 (IntKind.u64.wrap m)).map rb))), 0)]
end Go.Proofs.YtpkjgcfdemnohaaGreatDoor.Ex
end
section
namespace Go.Proofs.YtpkjgcfdemnohaaGreatDoor.Ex
open Go Go.RowKit

def inter : Cs → List Int
  | [] => []
  | c :: l => c.1 :: c.2 :: inter l
theorem inter_inj : ∀ {a b : Cs}, inter a = inter b → a = b
  | [], [], _ => rfl
  | c :: a, d :: b, h => by
    simp only [inter, List.cons.injEq] at h
    obtain ⟨h1, h2, h3⟩ := h
    rw [inter_inj h3, Prod.ext h1 h2]
  | [], _ :: _, h => by simp [inter] at h
  | _ :: _, [], h => by simp [inter] at h
noncomputable def reckonGI (P : Program) (hk : Hook) (orc : Orc) (L f : Nat) (h0 : List AO) (g : FuncId) (args : List Value) : Option (Value × List Int) :=
  match ranG P hk orc L f h0 g args with
  | some (v, _, m) => some (v, inter m.2)
  | none => none
theorem reckonI_ok {P : Program} (hng : NoNG P) {hk : Hook} (hhk : HookOk2 P hk) (orc : Orc) (L f : Nat) (h0 : List AO) {g : FuncId} {args : List Value} {v : Value} {cs : Cs} (ha : args.all flat = true) (hv : flat v = true) (h : reckonGI P hk orc L f h0 g args = some (v, inter cs))
    (he : ∀ c ∈ cs, c.1 = c.2) (w : World) (hL : Laid h0 w) : Calls P g ⟨args⟩ w fun e w' => e = .returned v ∧ Gr w w' := by
  refine reckonX_any hng hhk orc L f h0 ha hv ?_ w hL
  unfold reckonGI at h
  unfold reckonGL reckonGR
  split at h
  · rename_i v' h' m hr
    simp only [Option.some.injEq, Prod.mk.injEq] at h
    obtain ⟨rfl, h2⟩ := h
    have h3 := inter_inj h2
    try rw [hr]
    simp only [h3]
    rw [List.map_congr_left he]
  · cases h
end Go.Proofs.YtpkjgcfdemnohaaGreatDoor.Ex
end
section
namespace Go.Proofs.YtpkjgcfdemnohaaGreatDoor
open Go.ChangeShapes Go.WideShapes Go.RowKit

inductive Kv where
  | i (k : IntKind)
  | b
  | s
  | l
def Kv.ok (W : World) : Kv → Value → Prop
  | .i k, v => ∃ n, v = .int k n ∧ (Lit.int k n).wf = true
  | .b, v => ∃ x, v = .bool x
  | .s, v => ∃ x : ByteArray, v = .string x ∧ (x.size : Int) ≤ IntKind.i64.max
  | .l, v => v = .slice none 0 0 ∨ ∃ b off len cap, v = .slice (some ⟨b, off, none⟩) len cap ∧ len ≤ cap ∧ (cap : Int) ≤ IntKind.i64.max ∧ b < W.heap.size
def okV (W : World) : List Kv → List Value → Prop
  | [], [] => True
  | k :: ks, v :: vs => k.ok W v ∧ okV W ks vs
  | _, _ => False
theorem okV.nil {W : World} {cs : List Value} (h : okV W [] cs) : cs = [] := by cases cs with | nil => rfl | cons _ _ => exact h.elim
theorem okV.cons {W : World} {k : Kv} {ks : List Kv} {cs : List Value} (h : okV W (k :: ks) cs) : ∃ v vs, cs = v :: vs ∧ k.ok W v ∧ okV W ks vs := by
  cases cs with
  | nil => exact h.elim
  | cons v vs => exact ⟨v, vs, rfl, h.1, h.2⟩
theorem okV.of_get {W : World} : ∀ {ks : List Kv} {cs : List Value}, cs.length = ks.length → (∀ (i : Nat) (k : Kv) (v : Value), ks[i]? = some k → cs[i]? = some v → k.ok W v) → okV W ks cs
  | [], [], _, _ => trivial
  | [], _ :: _, h, _ => by simp at h
  | _ :: _, [], h, _ => by simp at h
  | k :: ks, v :: vs, h, hg => ⟨hg 0 k v rfl rfl, okV.of_get (by simpa using h) fun i k' v' h1 h2 => hg (i + 1) k' v' (by simpa using h1) (by simpa using h2)⟩
def kvOf (P : Program) (u : TypeId) : Option Kv :=
  match P.underlying u with
  | some .bool => some .b
  | some (.int k) => some (.i k)
  | some .string => some .s
  | some (.slice _) => some .l
  | _ => none
def kvsL (P : Program) : List TypeId → Option (List Kv)
  | [] => some []
  | t :: ts =>
    match kvOf P t with
    | some k =>
      match kvsL P ts with
      | some ks => some (k :: ks)
      | none => none
    | none => none
def kvsT (P : Program) (t : TypeId) : Option (List Kv) :=
  match P.underlying t with
  | some (.struct _) | some (.array _ _) =>
    match P.cellTypes P.depth t with
    | some ts => if P.cellsOf t = ts.length then kvsL P ts else none
    | none => none
  | _ => none
section
variable {P : Program} {W : World} {base : Nat}
theorem wf_of_has {k : IntKind} {n : Int} (h : k.has n) : (Lit.int k n).wf = true := by
  obtain ⟨h1, h2⟩ := h
  simp [Lit.wf, h1, h2]
theorem kv_cell {u : TypeId} {k : Kv} (h : kvOf P u = some k) {v : Value} (hc : Cell.okWide P W .any base u v) : k.ok W v := by
  unfold kvOf at h
  split at h
  · rename_i hu
    cases h
    simp only [Cell.okWide, hu, Cell.ok] at hc
    cases v <;> first | exact ⟨_, rfl⟩ | exact hc.elim
  · rename_i k' hu
    cases h
    simp only [Cell.okWide, hu, Cell.ok] at hc
    cases v <;> first | exact hc.elim | skip
    rename_i k2 n
    obtain ⟨rfl, h2⟩ := hc
    exact ⟨n, rfl, wf_of_has h2⟩
  · rename_i hu
    cases h
    simp only [Cell.okWide, hu, Cell.ok] at hc
    cases v <;> first | exact hc.elim | exact ⟨_, rfl, hc⟩
  · rename_i e hu
    cases h
    simp only [Cell.okWide, hu, Cell.ok] at hc
    cases v <;> first | exact hc.elim | skip
    rename_i a l c
    cases a with
    | none =>
      left
      split at hc <;> simp_all
    | some a =>
      right
      obtain ⟨b, off, sp⟩ := a
      simp only [World.has] at hc
      obtain ⟨h1, h2, _, rfl, row, cells, hs, _⟩ := hc
      refine ⟨b, off, l, c, rfl, h1, h2, ?_⟩
      unfold World.shape? at hs
      split at hs
      · rename_i hh
        exact (Array.getElem?_eq_some_iff.1 hh).1
      · cases hs
  · cases h
theorem kvsL_get : ∀ {ts : List TypeId} {ks : List Kv}, kvsL P ts = some ks → ks.length = ts.length ∧ ∀ (i : Nat) (u : TypeId) (k : Kv), ts[i]? = some u → ks[i]? = some k → kvOf P u = some k
  | [], ks, h => by simp [kvsL] at h; subst h; exact ⟨rfl, fun i u k h => by simp at h⟩
  | t :: ts, ks, h => by
    simp only [kvsL] at h
    split at h
    · rename_i k hk
      split at h
      · rename_i ks' hks
        cases h
        obtain ⟨h1, h2⟩ := kvsL_get hks
        refine ⟨by simp [h1], fun i u k' hu hk' => ?_⟩
        cases i with
        | zero => simp at hu hk'; subst hu hk'; exact hk
        | succ i => exact h2 i u k' (by simpa using hu) (by simpa using hk')
      · cases h
    · cases h
theorem open_kv {t : TypeId} {ks : List Kv} (h : kvsT P t = some ks) {v : Value} (hv : Value.okWide P W .any base t v) : ∃ cs, v = .agg ⟨cs⟩ ∧ okV W ks cs := by
  unfold kvsT at h
  have key : ∀ {ts : List TypeId}, P.cellTypes P.depth t = some ts → P.cellsOf t = ts.length → kvsL P ts = some ks → (∃ cs, v = .agg cs ∧ cs.size = P.cellsOf t ∧ Row.okWide P W .any base t cs) → ∃ cs, v = .agg ⟨cs⟩ ∧ okV W ks cs := by
    rintro ts h1 h2 h3 ⟨⟨cs⟩, rfl, hn, us, hus, _, hc⟩
    rw [h1] at hus
    cases hus
    obtain ⟨g1, g2⟩ := kvsL_get h3
    refine ⟨cs, rfl, okV.of_get (by rw [g1, ← h2]; simpa using hn) fun i k x hk hx => ?_⟩
    obtain ⟨u, hu, hcu⟩ := hc i x (by simpa using hx)
    have hi : i < ts.length := by rw [← g1]; exact (List.getElem?_eq_some_iff.1 hk).1
    rw [Nat.mod_eq_of_lt hi] at hu
    exact kv_cell (g2 i u k hu hk) hcu
  split at h
  · rename_i hu
    split at h
    · rename_i ts hts
      split at h
      · rename_i hn
        exact key hts hn h (by simpa only [Value.okWide, hu] using hv)
      · cases h
    · cases h
  · rename_i hu
    split at h
    · rename_i ts hts
      split at h
      · rename_i hn
        exact key hts hn h (by simpa only [Value.okWide, hu] using hv)
      · cases h
    · cases h
  · cases h
theorem open_kv1 {t : TypeId} {k : Kv} (h : kvOf P t = some k) {v : Value} (hv : Value.okWide P W .any base t v) : k.ok W v := by
  refine kv_cell h (base := base) ?_
  unfold kvOf at h
  unfold Value.okWide at hv
  split at hv
  · rename_i hu; rw [hu] at h; cases h
  · rename_i hu; rw [hu] at h; cases h
  · exact hv
variable {H : Type} {enc : TypeId × Value → H}
theorem trodAll_stays (hl : laidOutB P = true) {W' : World} {sp' : Nat → Bool} : ∀ {ts : List TypeId} {vs : List Value} {ds : List (DataW H)} {ps : List MemPlace}, (ts.all fun t => P.readableRec t && decide (t < P.types.size)) = true →
    DataW.TrodAll enc P W base (fun _ => true) true ts vs ds ps → (∀ p ∈ ps, W.sameAt W' p) → (∀ p ∈ ps, sp' p.block = true) → DataW.TrodAll enc P W' base sp' true ts vs ds ps
  | [], vs, ds, ps, _, h, _, _ => by
    cases vs with
    | nil => cases ds with
      | nil => exact h
      | cons _ _ => exact h.elim
    | cons _ _ => exact h.elim
  | t :: ts, vs, ds, ps, hr, h, hs, hsp => by
    obtain ⟨v, vs', d, ds', p, q, rfl, rfl, rfl, h1, h2⟩ := trodAll_cons h
    simp only [List.all_cons, Bool.and_eq_true, decide_eq_true_eq] at hr
    exact ⟨p, q, Go.WideElems.Trod_stays hl hr.1.1 hr.1.2 h1 (fun x hx => hs x (List.mem_append_left _ hx)) (fun x hx => hsp x (List.mem_append_left _ hx)),
      trodAll_stays hl hr.2 h2 (fun x hx => hs x (List.mem_append_right _ hx)) (fun x hx => hsp x (List.mem_append_right _ hx)), rfl⟩
theorem sameAt_of_gr {W W' : World} (h : Ex.Gr W W') {p : MemPlace} (hp : p.block < W.heap.size) : W.sameAt W' p := by
  cases p with
  | cell b off => exact Ex.gr_cell h (a := ⟨b, off, none⟩) hp
  | map b => exact h.2.1 b hp
end
end Go.Proofs.YtpkjgcfdemnohaaGreatDoor
end
section
namespace Go.Proofs.YtpkjgcfdemnohaaGreatDoor.Ex
open Go Go.RowKit Go.WideShapes Go.ChangeShapes

theorem gr_frame {W W' : World} (h : Gr W W') (may : MemPlace → Prop) : W.keptBut W' may := by
  refine ⟨h.1.1, h.1.2, fun i hi => ?_⟩
  rw [h.2.1 i hi]
  split <;> simp_all
section
variable {H : Type} {enc : TypeId × Value → H} {P : Program}
theorem post_of_gr {f : Func} {s : ChangeSpec} {apart fresh handsOn again : Bool} {W W' : World} {args : Array Value} {v : Value} {ds gs : List (DataW H)} {before pa pv : List MemPlace}
    (hW : DataW.Whole enc P f.params.toList s.vars apart W args.toList ds gs before)
    (hres : ∀ (b : Nat) (sp : Nat → Bool) (hd : Bool), DataW.TrodAll enc P W' b sp hd f.resultTypes.toList (v.resultList f.resultTypes.size) (s.fn H (ds ++ gs)).results [])
    (hargs : ∀ sp : Nat → Bool, (∀ p ∈ before, sp p.block = true) → DataW.TrodAll enc P W' 0 sp true f.params.toList args.toList (s.fn H (ds ++ gs)).args pa)
    (hvars : ∀ sp : Nat → Bool, (∀ p ∈ before, sp p.block = true) → DataW.TrodVars enc P W' sp s.vars (s.fn H (ds ++ gs)).vars pv)
    (hps : before = pa ++ pv) (hg : Gr W W')
    (hok : ∀ (j : Nat) (t : TypeId) (r : Value), f.resultTypes[j]? = some t → (v.resultList f.resultTypes.size)[j]? = some r → Value.okWide P W' .any 0 t r) :
    s.post enc P f apart fresh handsOn again W args v W' := by
  have hlt : ∀ p ∈ before, p.block < W.heap.size := fun p hp => hW.lt p hp
  have hold : ∀ p ∈ before, (fun b => decide (b < W.heap.size)) p.block = true := fun p hp => by simpa using hlt p hp
  refine ⟨ds, gs, before, [], pa, pv, hW, hres _ _ _, hargs _ hold, hvars _ hold, World.keptBut_mono (fun p hp => ⟨hp, ?_⟩) (gr_frame hg (· ∈ before)), fun _ => ?_⟩
  · rw [hps, List.mem_append] at hp
    exact Or.inr hp
  · obtain ⟨_, _, _, _, _, hz, hn⟩ := hW
    refine ⟨hok, _, _, ([] ++ pa) ++ pv, ⟨[] ++ pa, pv, trodAll_append (hargs _ (fun _ _ => rfl)) (hres _ _ _), hvars _ (fun _ _ => rfl), rfl, ?_, ?_⟩, ?_⟩
    · intro b off hp
      have hin : MemPlace.cell b off ∈ before := by rw [hps]; simpa using hp
      rw [gr_frozen hg (hlt _ hin)]
      exact hz b off hin
    · intro ha
      have := hn ha
      rw [hps] at this
      simpa using this
    · intro p hp _
      rw [hps]
      simpa using hp
end
end Go.Proofs.YtpkjgcfdemnohaaGreatDoor.Ex
end
