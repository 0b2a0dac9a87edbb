/-
  Lemmas for the laws of this seat, part C: Ex14, Memo, SlHook, NoNG, LaidArr, Plain, Flat, Law21a, Law21b, ExV, Open, Law21c, PostGr.
-/
import Derived.Test.YtpkjgcfdemnohaaGreatDoorPackB
import Derived.Test.YtpkjgcfdemnohaaGreatDoorProg
import Derived.OpenShut
import Derived.MakeChecks
import Derived.Deep.Fields
import Derived.ChangeSame
import Derived.ProofKit
import Derived.WalkKit
import Derived.ShutString
import Derived.Test.YtpkjgcfdemnohaaGreatDoorRows
import Derived.WideKeyArgs
section
namespace Go.Proofs.YtpkjgcfdemnohaaGreatDoor.Ex
open Go Go.RowKit

/-- The first blocks: a package's variables; those that are not spoken of are given up. -/
def placeG (h0 : List AO) (w : World) : Ren := fun g =>
  match h0[g]?, w.shape? g with
  | some o, some (_, tot) => if o.live then some ⟨g, 0, tot, some GM⟩ else none
  | _, _ => none
def Laid (h0 : List AO) (w : World) : Prop :=
  ∀ (g : Nat) (o : AO), h0[g]? = some o → o.live = true → o.es = some GM ∧ o.cs.all flat = true ∧ ∃ T tot, w.shape? g = some (T, tot) ∧ o.cs.length ≤ tot ∧ ∀ (j : Nat) (v : Value), o.cs[j]? = some v → w.cell? ⟨g, j, none⟩ = some v
theorem shape_cells {w : World} {g : Nat} {T : TypeId} {n : Nat} (h : w.shape? g = some (T, n)) : g < w.heap.size ∧ ∀ j, j < n → (w.cell? ⟨g, j, none⟩).isSome = true := by
  unfold World.shape? at h
  split at h
  · rename_i c e f hh
    cases h
    refine ⟨(Array.getElem?_eq_some_iff.1 hh).1, fun j hj => ?_⟩
    unfold World.cell?
    simp only [hh]
    simpa using hj
  · cases h
theorem HR.start {h0 : List AO} {w : World} (hL : Laid h0 w) : HR w h0.length (placeG h0 w) h0 w := by
  have pl : ∀ g p, placeG h0 w g = some p → ∃ o T tot, h0[g]? = some o ∧ o.live = true ∧ w.shape? g = some (T, tot) ∧ p = ⟨g, 0, tot, some GM⟩ := by
    intro g p hp
    unfold placeG at hp
    split at hp
    · rename_i o T tot ho hs
      split at hp
      · rename_i hl; cases hp; exact ⟨o, T, tot, ho, hl, hs, rfl⟩
      · cases hp
    · cases hp
  refine ⟨Gr.refl w, Nat.le_refl _, fun i hi => ?_, fun i p hp => ?_, fun i o ho hl => ?_, fun i j a b p q hi hj _ _ hp hq e => ?_, fun g p hp _ => ?_⟩
  · unfold placeG
    rw [List.getElem?_eq_none hi]
  · obtain ⟨o, T, tot, ho, hl, hs, rfl⟩ := pl i p hp
    have := (shape_cells hs).1
    have hlt := (List.getElem?_eq_some_iff.1 ho).1
    exact ⟨fun _ => this, fun h => absurd h (by omega), this⟩
  · obtain ⟨he, hf, T, tot, hs, hle, hc⟩ := hL i o ho hl
    refine ⟨⟨i, 0, tot, some GM⟩, by unfold placeG; simp [ho, hl, hs], he.symm, ObjAt.block (by unfold isM; rw [he]; rfl) ⟨by simpa using hle, (shape_cells hs).2, ⟨T, hs⟩, fun hg => absurd rfl hg, fun j v hv => ⟨v, ?_, .same (all_get hf hv)⟩⟩⟩
    rw [Nat.zero_add]
    exact hc j v hv
  · obtain ⟨_, _, _, _, _, _, rfl⟩ := pl i p hp
    obtain ⟨_, _, _, _, _, _, rfl⟩ := pl j q hq
    exact e
  · obtain ⟨_, _, _, _, _, _, rfl⟩ := pl g p hp
    exact ⟨rfl, rfl⟩
/-- A memory that is told by a heap whose first blocks are such variables has these. -/
def eqI : Value → Value → Bool
  | .int k a, .int j b => if k = j then a == b else false
  | x, y => veq0 x y
theorem eqI_ok {x y : Value} (h : eqI x y = true) : x = y := by
  unfold eqI at h
  split at h
  · split at h
    · rename_i hk; rw [hk, eq_of_beq h]
    · cases h
  · exact veq0_ok h
def eqL : List Value → List Value → Bool
  | [], [] => true
  | x :: xs, y :: ys => eqI x y && eqL xs ys
  | _, _ => false
theorem eqL_ok : ∀ {xs ys : List Value}, eqL xs ys = true → xs = ys
  | [], [], _ => rfl
  | x :: xs, y :: ys, h => by
    simp only [eqL, Bool.and_eq_true] at h
    rw [eqI_ok h.1, eqL_ok h.2]
  | [], _ :: _, h => by cases h
  | _ :: _, [], h => by cases h
def hasG : List AO → List AO → Bool
  | [], _ => true
  | _ :: _, [] => false
  | o :: l, p :: h => (!o.live || (p.live && (match p.es with | some e => Nat.beq e GM | none => false) && eqL p.cs o.cs)) && hasG l h
theorem hasG_at : ∀ {h0 h : List AO}, hasG h0 h = true → ∀ (g : Nat) (o : AO), h0[g]? = some o → o.live = true → ∃ p, h[g]? = some p ∧ p.live = true ∧ p.es = some GM ∧ p.cs = o.cs
  | [], _, _, g, o, ho, _ => by simp at ho
  | _ :: _, [], h, _, _, _, _ => by cases h
  | o :: l, p :: h, hh, g, q, hq, hl => by
    simp only [hasG, Bool.and_eq_true] at hh
    cases g with
    | succ g => simpa using hasG_at hh.2 g q (by simpa using hq) hl
    | zero =>
      simp at hq
      subst hq
      have h1 := hh.1
      simp only [hl, Bool.not_true, Bool.false_or, Bool.and_eq_true] at h1
      refine ⟨p, rfl, h1.1.1, ?_, eqL_ok h1.2⟩
      cases he : p.es with
      | none => rw [he] at h1; cases h1.1.2
      | some e => rw [he] at h1; rw [Nat.eq_of_beq_eq_true h1.1.2]
theorem HR.laid {wb : World} {k : Nat} {s : Ren} {h h0 : List AO} {w : World} (H : HR wb k s h w) (hh : hasG h0 h = true) (hf : h0.all (fun o => !o.live || (match o.es with | some e => Nat.beq e GM | none => false) && o.cs.all flat) = true) : Laid h0 w := by
  intro g o ho hl
  obtain ⟨p, hp, hpl, hpe, hpc⟩ := hasG_at hh g o ho hl
  have hfo := List.all_eq_true.1 hf o (List.mem_of_getElem? ho)
  simp only [hl, Bool.not_true, Bool.false_or, Bool.and_eq_true] at hfo
  have hoe : o.es = some GM := by
    cases he : o.es with
    | none => rw [he] at hfo; cases hfo.1
    | some e => rw [he] at hfo; rw [Nat.eq_of_beq_eq_true hfo.1]
  obtain ⟨q, hq, hqe, hb⟩ := H.obj g p hp hpl
  obtain ⟨e1, e2⟩ := H.gl g q hq (by rw [hqe, hpe])
  have B := hb.2 (by unfold isM; rw [hpe]; rfl)
  obtain ⟨T, hT⟩ := B.shp
  rw [e1] at hT
  refine ⟨hoe, hfo.2, T, q.tot, hT, ?_, fun j v hv => ?_⟩
  · have := B.fit
    rw [hpc] at this
    omega
  · obtain ⟨v', h1, h2⟩ := B.rel j v (by rw [hpc]; exact hv)
    rw [e1, e2, Nat.zero_add, h2.eq_of_flat (all_get hfo.2 hv)] at h1
    exact h1
noncomputable def ranG (P : Program) (hk : Hook) (orc : Orc) (L f : Nat) (h0 : List AO) (g : FuncId) (args : List Value) : Option (Value × List AO × Mk) :=
  match callA P ⟨ex P (aOp P) (drawE P) (liftH hk) orc accQ L f, liftH hk, fun _ _ => none, accQ⟩ g args h0 with
  | some (v, h, m) => if quietB h0.length m.1 then some (v, h, m) else none
  | none => none
noncomputable def reckonGL (P : Program) (hk : Hook) (orc : Orc) (L f : Nat) (h0 : List AO) (g : FuncId) (args : List Value) : Option (Value × List Int) :=
  match ranG P hk orc L f h0 g args with
  | some (v, _, m) => some (v, m.2.map (·.1))
  | none => none
noncomputable def reckonGR (P : Program) (hk : Hook) (orc : Orc) (L f : Nat) (h0 : List AO) (g : FuncId) (args : List Value) (v : Value) : Option (Value × List Int) :=
  match ranG P hk orc L f h0 g args with
  | some (_, _, m) => some (v, m.2.map (·.2))
  | none => some (v, [])
/-- A run with tests that are not reckoned: 'orc' says which way each goes; what it must hold for is 'ls = rs'. -/
theorem reckonX_any {P : Program} (hng : NoNG P) {hk : Hook} (hhk : HookOk2 P hk) (orc : Orc) (L f : Nat) (h0 : List AO) {g : FuncId} {args : List Value} {v : Value} (ha : args.all flat = true) (hv : flat v = true) (h : reckonGL P hk orc L f h0 g args = reckonGR P hk orc L f h0 g args v) (w : World) (hL : Laid h0 w) :
    Calls P g ⟨args⟩ w fun e w' => e = .returned v ∧ Gr w w' := by
  unfold reckonGL reckonGR ranG at h
  cases hc : callA P ⟨ex P (aOp P) (drawE P) (liftH hk) orc accQ L f, liftH hk, fun _ _ => none, accQ⟩ g args h0 with
  | none => rw [hc] at h; cases h
  | some r =>
    obtain ⟨v', h', m⟩ := r
    rw [hc] at h
    simp only at h
    split at h
    · rename_i r2 v2 h2 m2 hm2
      split at hm2
      · rename_i hq
        cases hm2
        simp only [Option.some.injEq, Prod.mk.injEq] at h
        obtain ⟨rfl, h3⟩ := h
        refine (callA_ok (ex_ok accQ_eq hng (aOp_ok P hng) (drawE_ok P) (drawE_low P) (lift_ok hhk) L f _) hc (wb := w) (k := h0.length) (s := placeG h0 w) ⟨quietB_ok hq, map_same h3⟩ (LR.ofFlat ha) (HR.start hL)).mono ?_
        rintro e w' ⟨s', u, rfl, _, H, hvr⟩
        rw [hvr.eq_of_flat hv]
        exact ⟨rfl, H.grown⟩
      · cases hm2
    · cases h
theorem reckonG_any {P : Program} (hng : NoNG P) {hk : Hook} (hhk : HookOk P hk) (orc : Orc) (L f : Nat) (h0 : List AO) {g : FuncId} {args : List Value} {v : Value} (ha : args.all flat = true) (hv : flat v = true) (h : reckonGL P (guardH hk) orc L f h0 g args = reckonGR P (guardH hk) orc L f h0 g args v) (w : World) (hL : Laid h0 w) :
    Calls P g ⟨args⟩ w fun e w' => e = .returned v ∧ Gr w w' := reckonX_any hng (guard_ok hhk) orc L f h0 ha hv h w hL
theorem reckonG_ok {P : Program} (hng : NoNG P) {hk : Hook} (hhk : HookOk P hk) (L f : Nat) (h0 : List AO) {g : FuncId} {args : List Value} {v : Value} (ha : args.all flat = true) (hv : flat v = true) (h : reckonGL P (guardH hk) noOrc L f h0 g args = reckonGR P (guardH hk) noOrc L f h0 g args v) (w : World) (hL : Laid h0 w) :
    Calls P g ⟨args⟩ w fun e w' => e = .returned v ∧ Gr w w' := reckonG_any hng hhk noOrc L f h0 ha hv h w hL
theorem reckonS_ok {P : Program} (hng : NoNG P) {hk : Hook} (hhk : HookOk P hk) (orc : Orc) (L f : Nat) (h0 : List AO) {g : FuncId} {args : List Value} {v : Value} {ls rs : List Int} (ha : args.all flat = true) (hv : flat v = true) (h1 : reckonGL P (guardH hk) orc L f h0 g args = some (v, ls))
    (h2 : reckonGR P (guardH hk) orc L f h0 g args v = some (v, rs)) (he : ls = rs) (w : World) (hL : Laid h0 w) : Calls P g ⟨args⟩ w fun e w' => e = .returned v ∧ Gr w w' :=
  reckonG_any hng hhk orc L f h0 ha hv (h1.trans (he ▸ h2.symm)) w hL
noncomputable def reckonGC (P : Program) (hk : Hook) (orc : Orc) (L f : Nat) (h0 : List AO) (g : FuncId) (args : List Value) : Option (Value × Cs) :=
  match ranG P hk orc L f h0 g args with
  | some (v, _, m) => some (v, m.2)
  | none => none
/-- The same, of one run alone: 'cs' are the pairs that must be the same. -/
theorem reckonT_ok {P : Program} (hng : NoNG P) {hk : Hook} (hhk : HookOk P hk) (orc : Orc) (L f : Nat) (h0 : List AO) {g : FuncId} {args : List Value} {v : Value} {cs : Cs} (ha : args.all flat = true) (hv : flat v = true) (h : reckonGC P (guardH hk) orc L f h0 g args = some (v, cs))
    (he : cs.map (·.1) = cs.map (·.2)) (w : World) (hL : Laid h0 w) : Calls P g ⟨args⟩ w fun e w' => e = .returned v ∧ Gr w w' := by
  refine reckonG_any hng hhk orc L f h0 ha hv ?_ w hL
  unfold reckonGC at h
  unfold reckonGL reckonGR
  split at h
  · rename_i v' h' m hr
    cases h
    simp only [he]
  · cases h
theorem reckonX_ok {P : Program} (hng : NoNG P) {hk : Hook} (hhk : HookOk2 P hk) (L f : Nat) (h0 : List AO) {g : FuncId} {args : List Value} {v : Value} (ha : args.all flat = true) (hv : flat v = true) (h : reckonGL P hk noOrc L f h0 g args = reckonGR P hk noOrc L f h0 g args v) (w : World) (hL : Laid h0 w) :
    Calls P g ⟨args⟩ w fun e w' => e = .returned v ∧ Gr w w' := reckonX_any hng hhk noOrc L f h0 ha hv h w hL
/-- Of one run alone, with hooks of any arguments: 'cs' are the pairs that must be the same. -/
theorem reckonXT_ok {P : Program} (hng : NoNG P) {hk : Hook} (hhk : HookOk2 P hk) (orc : Orc) (L f : Nat) (h0 : List AO) {g : FuncId} {args : List Value} {v : Value} {cs : Cs} (ha : args.all flat = true) (hv : flat v = true) (h : reckonGC P hk orc L f h0 g args = some (v, cs))
    (he : cs.map (·.1) = cs.map (·.2)) (w : World) (hL : Laid h0 w) : Calls P g ⟨args⟩ w fun e w' => e = .returned v ∧ Gr w w' := by
  refine reckonX_any hng hhk orc L f h0 ha hv ?_ w hL
  unfold reckonGC at h
  unfold reckonGL reckonGR
  split at h
  · rename_i v' h' m hr
    cases h
    simp only [he]
  · cases h
theorem laid_at {g : Nat} {cs : List Value} {w : World} (h : ∃ t fr, w.heap[g]? = some (.cells ⟨cs⟩ t fr)) : ∃ T tot, w.shape? g = some (T, tot) ∧ cs.length ≤ tot ∧ ∀ (j : Nat) (v : Value), cs[j]? = some v → w.cell? ⟨g, j, none⟩ = some v := by
  obtain ⟨t, fr, hh⟩ := h
  refine ⟨t, cs.length, by simp [World.shape?, hh], Nat.le_refl _, fun j v hv => ?_⟩
  unfold World.cell?
  simp only [hh]
  simpa using hv
/-- One variable, at its place. -/
theorem Laid.one {g0 : Nat} {cs : List Value} {w : World} (hf : cs.all flat = true) (h : ∃ t fr, w.heap[g0]? = some (.cells ⟨cs⟩ t fr)) : Laid (List.replicate g0 dead ++ [⟨true, some GM, cs⟩]) w := by
  intro g o ho hl
  by_cases e : g < g0
  · rw [List.getElem?_append_left (by simpa using e), List.getElem?_replicate, if_pos e] at ho
    cases ho
    cases hl
  · have h2 := (List.getElem?_eq_some_iff.1 ho).1
    simp only [List.length_append, List.length_replicate, List.length_singleton] at h2
    obtain rfl : g = g0 := by omega
    rw [List.getElem?_append_right (by simp)] at ho
    simp only [List.length_replicate, Nat.sub_self, List.getElem?_cons_zero, Option.some.injEq] at ho
    subst ho
    exact ⟨rfl, hf, laid_at h⟩
theorem Laid.nil (w : World) : Laid [] w := fun g o h => by simp at h
theorem Laid.gr {h0 : List AO} {w w' : World} (h : Laid h0 w) (g : Gr w w') : Laid h0 w' := fun i o ho hl =>
  let ⟨a, b, T, tot, hs, hle, hc⟩ := h i o ho hl
  ⟨a, b, T, tot, gr_shape g (shape_cells hs).1 hs, hle, fun j v hv => (gr_cell g (a := ⟨i, j, none⟩) (shape_cells hs).1).trans (hc j v hv)⟩
end Go.Proofs.YtpkjgcfdemnohaaGreatDoor.Ex
end
section
namespace Go.Proofs.YtpkjgcfdemnohaaGreatDoor.Ex
open Go Go.RowKit
def eqM : Value → Value → Bool
  | .agg ⟨a⟩, .agg ⟨b⟩ => eqL a b
  | x, y => eqI x y
theorem eqM_ok {x y : Value} (h : eqM x y = true) : x = y := by
  unfold eqM at h
  split at h
  · rw [eqL_ok h]
  · exact eqI_ok h
def eqML : List Value → List Value → Bool
  | [], [] => true
  | x :: xs, y :: ys => eqM x y && eqML xs ys
  | _, _ => false
theorem eqML_ok : ∀ {xs ys : List Value}, eqML xs ys = true → xs = ys
  | [], [], _ => rfl
  | x :: xs, y :: ys, h => by
    simp only [eqML, Bool.and_eq_true] at h
    rw [eqM_ok h.1, eqML_ok h.2]
  | [], _ :: _, h => by cases h
  | _ :: _, [], h => by cases h
/-- Of one function: arguments, and what it comes to. -/
abbrev Tab := List (List Value × Value)
def tabFind : Tab → List Value → Option Value
  | [], _ => none
  | e :: r, args => if eqML args e.1 then some e.2 else tabFind r args
theorem tabFind_mem : ∀ {t : Tab} {args : List Value} {v : Value}, tabFind t args = some v → (args, v) ∈ t
  | [], _, _, h => by cases h
  | e :: r, args, v, h => by
    simp only [tabFind] at h
    split at h
    · rename_i he
      cases h
      rw [eqML_ok he]
      simp
    · exact List.mem_cons_of_mem _ (tabFind_mem h)
def TabOk (P : Program) (h0 : List AO) (g : FuncId) : Tab → Prop
  | [] => True
  | e :: r => (∀ w, Laid h0 w → Calls P g ⟨e.1⟩ w fun x w' => x = .returned e.2 ∧ Gr w w') ∧ TabOk P h0 g r
theorem TabOk.at {P : Program} {h0 : List AO} {g : FuncId} : ∀ {t : Tab}, TabOk P h0 g t → ∀ e ∈ t, ∀ w, Laid h0 w → Calls P g ⟨e.1⟩ w fun x w' => x = .returned e.2 ∧ Gr w w'
  | [], _, e, he => by cases he
  | a :: r, h, e, he => by
    rcases List.mem_cons.1 he with q | q
    · rw [q]; exact h.1
    · exact h.2.at e q
theorem TabOk.app {P : Program} {h0 : List AO} {g : FuncId} : ∀ {s t : Tab}, TabOk P h0 g s → TabOk P h0 g t → TabOk P h0 g (s ++ t)
  | [], _, _, h => h
  | _ :: _, _, a, h => ⟨a.1, a.2.app h⟩
def memoHook (h0 : List AO) (g : FuncId) (t : Tab) : Hook := fun f args h =>
  if Nat.beq f g then
    match tabFind t args with
    | some v => if hasG h0 h then some (v, []) else none
    | none => none
  else none
theorem memoHook_ok {P : Program} {h0 : List AO} (hf : h0.all (fun o => !o.live || (match o.es with | some e => Nat.beq e GM | none => false) && o.cs.all flat) = true) {g : FuncId} {t : Tab} (ht : TabOk P h0 g t) : HookOk P (memoHook h0 g t) := by
  intro f args h v cs hv _ wb k s w H
  unfold memoHook at hv
  split at hv
  · rename_i hc
    obtain rfl := Nat.eq_of_beq_eq_true hc
    split at hv
    · rename_i v' hm
      split at hv
      · rename_i hg
        cases hv
        exact ht.at _ (tabFind_mem hm) w (H.laid hg hf)
      · cases hv
    · cases hv
  · cases hv
def orHook (a b : Hook) : Hook := fun f args h =>
  match a f args h with
  | some r => some r
  | none => b f args h
theorem orHook_ok {P : Program} {a b : Hook} (ha : HookOk P a) (hb : HookOk P b) : HookOk P (orHook a b) := by
  intro f args h v cs hv
  unfold orHook at hv
  split at hv
  · rename_i r hr
    cases hv
    exact ha f args h v cs hr
  · exact hb f args h v cs hv
/-- A call of no arguments, told by its contract. -/
def oneHook (h0 : List AO) (g : FuncId) (v : Value) : Hook := memoHook h0 g [([], v)]
end Go.Proofs.YtpkjgcfdemnohaaGreatDoor.Ex
end
section
namespace Go.Proofs.YtpkjgcfdemnohaaGreatDoor.Ex
open Go Go.RowKit
theorem orHook2_ok {P : Program} {a b : Hook} (ha : HookOk2 P a) (hb : HookOk2 P b) : HookOk2 P (orHook a b) := by
  intro f args h v cs hv
  unfold orHook at hv
  split at hv
  · rename_i r hr
    cases hv
    exact ha f args h v cs hr
  · exact hb f args h v cs hv
/-- Some blocks of a memory, as a memory of their own. -/
theorem HR.pick {wb : World} {k : Nat} {s : Ren} {h : List AO} {w : World} (H : HR wb k s h w) (h1 : List AO) (f : Nat → Nat)
    (hf : ∀ (i : Nat) (o : AO), h1[i]? = some o → o.live = true → ∃ o', h[f i]? = some o' ∧ o'.live = true ∧ o'.es = o.es ∧ o'.cs = o.cs ∧ o.cs.all flat = true ∧ isM o = false)
    (hinj : ∀ (i j : Nat) (a b : AO), h1[i]? = some a → h1[j]? = some b → a.live = true → b.live = true → f i = f j → i = j)
    (hg : ∀ (i : Nat) (o : AO), h1[i]? = some o → o.live = true → o.es = some GM → f i = i) :
    HR w h1.length (fun i => match h1[i]? with | some o => if o.live then s (f i) else none | none => none) h1 w := by
  have inv : ∀ i p, (match h1[i]? with | some o => if o.live then s (f i) else none | none => none) = some p → ∃ o, h1[i]? = some o ∧ o.live = true ∧ s (f i) = some p := by
    intro i p hp
    cases ho : h1[i]? with
    | none => rw [ho] at hp; cases hp
    | some o =>
      rw [ho] at hp
      simp only at hp
      split at hp
      · rename_i hl; exact ⟨o, rfl, hl, hp⟩
      · cases hp
  refine ⟨Gr.refl w, Nat.le_refl _, fun i hi => by rw [List.getElem?_eq_none hi], fun i p hp => ?_, fun i o ho hl => ?_, fun i j a b p q hi hj ha hb hp hq e => ?_, fun g p hp hes => ?_⟩
  · obtain ⟨o, ho, hl, hs⟩ := inv i p hp
    have := (H.plc _ p hs).2.2
    have hi := (List.getElem?_eq_some_iff.1 ho).1
    exact ⟨fun _ => this, fun h => absurd h (by omega), this⟩
  · obtain ⟨o', h1', h2, h3, h4, h5, h6⟩ := hf i o ho hl
    obtain ⟨p, hp, he, hb⟩ := H.obj _ o' h1' h2
    have hm : isM o' = false := by unfold isM at h6 ⊢; rw [h3]; exact h6
    have B := hb.2 hm
    refine ⟨p, by rw [ho]; simp only [hl, if_true]; exact hp, by rw [he, h3], ObjAt.block h6 ?_⟩
    rw [h4] at B
    exact ⟨B.fit, B.all, B.shp, B.free, fun x v hv => by
      obtain ⟨v', g1, g2⟩ := B.rel x v hv
      have hfl := all_get h5 hv
      exact ⟨v', g1, by rw [g2.eq_of_flat hfl]; exact .same hfl⟩⟩
  · obtain ⟨a', i1, i2, _, _, _, _⟩ := hf i a hi ha
    obtain ⟨b', j1, j2, _, _, _, _⟩ := hf j b hj hb
    obtain ⟨_, _, _, hs1⟩ := inv i p hp
    obtain ⟨_, _, _, hs2⟩ := inv j q hq
    exact hinj i j a b hi hj ha hb (H.sep _ _ a' b' p q i1 j1 i2 j2 hs1 hs2 e)
  · obtain ⟨o, ho, hl, hs⟩ := inv g p hp
    obtain ⟨o', h1', h2, h3, _, _, _⟩ := hf g o ho hl
    obtain ⟨p', hp', he, _⟩ := H.obj _ o' h1' h2
    rw [hs] at hp'
    cases hp'
    have e := hg g o ho hl (by rw [← h3, ← he, hes])
    rw [e] at hs
    exact H.gl g p hs hes
/-- A call: flat arguments ahead, and a slice of some cells behind; what it comes to. -/
structure SlCall where
  pre : List Value
  cs : List Value
  len : Nat
  v : Value
def slHeap (h0 : List AO) (e : SlCall) : List AO := h0 ++ [⟨true, none, e.cs⟩]
def slArgs (h0 : List AO) (e : SlCall) : List Value := e.pre ++ [.slice (some ⟨h0.length, 0, none⟩) e.len e.len]
def SlOk (P : Program) (h0 : List AO) (g : FuncId) (e : SlCall) : Prop :=
  ∀ (w : World) (s : Ren) (args' : List Value), HR w (slHeap h0 e).length s (slHeap h0 e) w → LR s (slArgs h0 e) args' → Calls P g ⟨args'⟩ w fun x w' => x = .returned e.v ∧ Gr w w'
noncomputable def reckonSl (P : Program) (hk : Hook) (L f : Nat) (h0 : List AO) (g : FuncId) (e : SlCall) : Option (Value × Cs) :=
  match callA P ⟨ex P (aOp P) (drawE P) (liftH hk) noOrc accQ L f, liftH hk, fun _ _ => none, accQ⟩ g (slArgs h0 e) (slHeap h0 e) with
  | some (v, _, m) => if quietB (slHeap h0 e).length m.1 then some (v, m.2) else none
  | none => none
theorem reckonSl_ok {P : Program} (hng : NoNG P) {hk : Hook} (hhk : HookOk2 P hk) (L f : Nat) (h0 : List AO) {g : FuncId} {e : SlCall} {cs : Cs} (hv : flat e.v = true) (h : reckonSl P hk L f h0 g e = some (e.v, cs)) (hc : cs.map (·.1) = cs.map (·.2)) : SlOk P h0 g e := by
  intro w s args' H ha
  unfold reckonSl at h
  split at h
  · rename_i v h' m hr
    split at h
    · rename_i hq
      simp only [Option.some.injEq, Prod.mk.injEq] at h
      obtain ⟨rfl, rfl⟩ := h
      refine (callA_ok (ex_ok accQ_eq hng (aOp_ok P hng) (drawE_ok P) (drawE_low P) (lift_ok hhk) L f _) hr ⟨quietB_ok hq, map_same hc⟩ ha H).mono ?_
      rintro x w' ⟨s', v', rfl, _, H', hvr⟩
      rw [hvr.eq_of_flat hv]
      exact ⟨rfl, H'.grown⟩
    · cases h
  · cases h
/-- Does a call hand in that? -/
def slHit (h : List AO) (e : SlCall) (args : List Value) : Option Nat :=
  match args.drop e.pre.length with
  | [.slice (some a) l c] =>
    if eqML (args.take e.pre.length) e.pre && Nat.beq a.off 0 && a.spot.isNone && Nat.beq l e.len && Nat.beq c e.len then
      match h[a.block]? with
      | some o => if o.live && o.es.isNone && eqL o.cs e.cs then some a.block else none
      | none => none
    else none
  | _ => none
def slFind (h : List AO) : List SlCall → List Value → Option SlCall
  | [], _ => none
  | e :: r, args => if (slHit h e args).isSome then some e else slFind h r args
def slHook (h0 : List AO) (g : FuncId) (t : List SlCall) : Hook := fun f args h =>
  if Nat.beq f g then
    match slFind h t args with
    | some e => if hasG h0 h then some (e.v, []) else none
    | none => none
  else none
theorem slFind_spec {h : List AO} : ∀ {t : List SlCall} {args : List Value} {e : SlCall}, slFind h t args = some e → e ∈ t ∧ ∃ b, slHit h e args = some b
  | [], _, _, hh => by cases hh
  | q :: r, args, e, hh => by
    simp only [slFind] at hh
    split at hh
    · rename_i hi
      cases hh
      exact ⟨by simp, Option.isSome_iff_exists.1 hi⟩
    · obtain ⟨h1, h2⟩ := slFind_spec hh
      exact ⟨List.mem_cons_of_mem _ h1, h2⟩
theorem slHook_ok {P : Program} {h0 : List AO} (hf : h0.all (fun o => !o.live || (match o.es with | some e => Nat.beq e GM | none => false) && o.cs.all flat) = true) {g : FuncId} {t : List SlCall}
    (hpre : t.all (fun e => e.pre.all flat && e.cs.all flat) = true) (ht : ∀ e ∈ t, SlOk P h0 g e) : HookOk2 P (slHook h0 g t) := by
  intro f args h v cs hv _ wb k s w args' H ha
  unfold slHook at hv
  split at hv
  · rename_i hc
    obtain rfl := Nat.eq_of_beq_eq_true hc
    split at hv
    · rename_i e he
      split at hv
      · rename_i hg
        cases hv
        obtain ⟨hmem, b, hb⟩ := slFind_spec he
        have hfl := List.all_eq_true.1 hpre e hmem
        simp only [Bool.and_eq_true] at hfl
        unfold slHit at hb
        split at hb
        · rename_i a l c hd
          split at hb
          · rename_i hq
            simp only [Bool.and_eq_true] at hq
            obtain ⟨⟨⟨⟨q1, q2⟩, q3⟩, q4⟩, q5⟩ := hq
            split at hb
            · rename_i o ho
              split at hb
              · rename_i hlo
                simp only [Bool.and_eq_true] at hlo
                obtain ⟨⟨l1, l2⟩, l3⟩ := hlo
                cases hb
                have hocs := eqL_ok l3
                have hoes : o.es = none := Option.isNone_iff_eq_none.1 l2
                have hargs : args = e.pre ++ [.slice (some ⟨a.block, 0, none⟩) e.len e.len] := by
                  have h1 := List.take_append_drop e.pre.length args
                  rw [hd, eqML_ok q1] at h1
                  obtain ⟨ab, ao, asp⟩ := a
                  obtain rfl : ao = 0 := Nat.eq_of_beq_eq_true q2
                  obtain rfl : asp = none := Option.isNone_iff_eq_none.1 q3
                  obtain rfl := Nat.eq_of_beq_eq_true q4
                  obtain rfl := Nat.eq_of_beq_eq_true q5
                  exact h1.symm
                obtain ⟨ab, ao, asp⟩ := a
                simp only at ho hargs
                obtain ⟨pb, hpb, hpe, _⟩ := H.obj ab o ho l1
                have glo : ∀ (i : Nat) (q : AO), h0[i]? = some q → q.live = true → q.es = some GM ∧ q.cs.all flat = true := by
                  intro i q hq hl
                  have h1 := List.all_eq_true.1 hf q (List.mem_of_getElem? hq)
                  simp only [hl, Bool.not_true, Bool.false_or, Bool.and_eq_true] at h1
                  refine ⟨?_, h1.2⟩
                  cases hes : q.es with
                  | none => rw [hes] at h1; cases h1.1
                  | some z => rw [hes] at h1; rw [Nat.eq_of_beq_eq_true h1.1]
                have cases1 : ∀ (i : Nat) (q : AO), (slHeap h0 e)[i]? = some q → (i < h0.length ∧ h0[i]? = some q) ∨ (i = h0.length ∧ q = ⟨true, none, e.cs⟩) := by
                  intro i q hq
                  unfold slHeap at hq
                  by_cases hi : i < h0.length
                  · rw [List.getElem?_append_left hi] at hq; exact .inl ⟨hi, hq⟩
                  · have h2 := (List.getElem?_eq_some_iff.1 hq).1
                    simp only [List.length_append, List.length_singleton] at h2
                    obtain rfl : i = h0.length := by omega
                    rw [List.getElem?_append_right (by omega)] at hq
                    simp at hq
                    exact .inr ⟨rfl, hq.symm⟩
                have HP := H.pick (slHeap h0 e) (fun i => if i < h0.length then i else ab)
                  (fun i q hq hl => by
                    rcases cases1 i q hq with ⟨hi, h2⟩ | ⟨rfl, rfl⟩
                    · obtain ⟨p, p1, p2, p3, p4⟩ := hasG_at hg i q h2 hl
                      obtain ⟨g1, g2⟩ := glo i q h2 hl
                      exact ⟨p, by simp only [hi, if_true]; exact p1, p2, by rw [p3, g1], p4, g2, by unfold isM; rw [g1]; rfl⟩
                    · exact ⟨o, by simp only [Nat.lt_irrefl, if_false]; exact ho, l1, hoes, hocs, hfl.2, rfl⟩)
                  (fun i j x y hi hj hx hy hij => by
                    rcases cases1 i x hi with ⟨i1, i2⟩ | ⟨rfl, rfl⟩
                    · rcases cases1 j y hj with ⟨j1, j2⟩ | ⟨rfl, rfl⟩
                      · simpa [i1, j1] using hij
                      · exfalso
                        obtain ⟨p, p1, _, p3, _⟩ := hasG_at hg i x i2 hx
                        simp only [i1, if_true, Nat.lt_irrefl, if_false] at hij
                        rw [hij, ho] at p1
                        cases p1
                        rw [hoes] at p3
                        cases p3
                    · rcases cases1 j y hj with ⟨j1, j2⟩ | ⟨rfl, rfl⟩
                      · exfalso
                        obtain ⟨p, p1, _, p3, _⟩ := hasG_at hg j y j2 hy
                        simp only [j1, if_true, Nat.lt_irrefl, if_false] at hij
                        rw [← hij, ho] at p1
                        cases p1
                        rw [hoes] at p3
                        cases p3
                      · rfl)
                  (fun i q hq hl hes => by
                    rcases cases1 i q hq with ⟨hi, h2⟩ | ⟨rfl, rfl⟩
                    · simp only [hi, if_true]
                    · cases hes)
                refine ht e hmem w _ args' HP ?_
                rw [hargs] at ha
                refine ⟨by unfold slArgs; rw [← ha.1]; simp, fun i x y hx hy => ?_⟩
                unfold slArgs at hx
                by_cases hi : i < e.pre.length
                · rw [List.getElem?_append_left hi] at hx
                  have h3 := ha.2 i x y (by rw [List.getElem?_append_left hi]; exact hx) hy
                  have hxf := all_get hfl.1 hx
                  rw [h3.eq_of_flat hxf]
                  exact .same hxf
                · have h2 := (List.getElem?_eq_some_iff.1 hx).1
                  simp only [List.length_append, List.length_singleton] at h2
                  obtain rfl : i = e.pre.length := by omega
                  rw [List.getElem?_append_right (by omega)] at hx
                  simp at hx
                  subst hx
                  have h3 := ha.2 e.pre.length (.slice (some ⟨ab, 0, none⟩) e.len e.len) y (by rw [List.getElem?_append_right (by omega)]; simp) hy
                  obtain ⟨p, c', _, hp, hcap, rfl⟩ := h3.slice_inv
                  refine VR.slice (a := ⟨h0.length, 0, none⟩) rfl ?_ hcap
                  show (match (slHeap h0 e)[h0.length]? with | some o => if o.live then s (if h0.length < h0.length then h0.length else ab) else none | none => none) = some p
                  have e1 : (slHeap h0 e)[h0.length]? = some ⟨true, none, e.cs⟩ := by unfold slHeap; rw [List.getElem?_append_right (by omega)]; simp
                  rw [e1]
                  simp only [if_true, Nat.lt_irrefl, if_false]
                  exact hp
              · cases hb
            · cases hb
          · cases hb
        · cases hb
      · cases hv
    · cases hv
  · cases hv
end Go.Proofs.YtpkjgcfdemnohaaGreatDoor.Ex
end
section
namespace Go.Proofs.YtpkjgcfdemnohaaGreatDoor.Ex
open Go Go.RowKit
set_option maxRecDepth 1000000 in
theorem noNG : NoNG Tryz.prog := noNG_ok (by kernel_rfl)
end Go.Proofs.YtpkjgcfdemnohaaGreatDoor.Ex
end
section
namespace Go.Proofs.YtpkjgcfdemnohaaGreatDoor.Ex
open Go Go.RowKit Go.ChangeShapes Go.WideShapes Go.WideMaps Go.WideElems Go.ChangeAt Go.Deep

theorem cells_of_ints {H : Type} {enc : TypeId × Value → H} {P : Program} {w : World} {base : Nat} {spare : Nat → Bool} {held : Bool} {fuel : Nat} {t e : TypeId} {len : Nat} {cs : List Value} {k : IntKind} {ns : List Int} {x : DataW H × List MemPlace}
    (ht : P.underlying t = some (.array len e)) (he : P.underlying e = some (.int k)) (hc : P.cellsOf e = 1) (hct : P.cellsOf t = len) (h : DataW.trod enc P w base spare held fuel t cs = some x) (hx : x.1 = .agg (ns.map fun n => .lit (.int k n))) : cs = ns.map (.int k) := by
  obtain ⟨xs, m, _, hxx, hlen, hn, hall⟩ := DataW.trod_array ht h
  rw [hct] at hlen
  simp only [hc] at hall
  have hm : xs.map (·.1) = ns.map fun n => .lit (.int k n) := by
    have h1 := congrArg Prod.fst hxx
    rw [hx] at h1
    injection h1 with h2
    exact h2.symm
  have hl : ns.length = len := by
    have := congrArg List.length hm
    simp at this
    omega
  apply List.ext_getElem?
  intro i
  by_cases hi : i < len
  · have hn0 : ∃ n, ns[i]? = some n := ⟨_, List.getElem?_eq_getElem (by omega)⟩
    obtain ⟨n, hn0⟩ := hn0
    obtain ⟨y, hy⟩ : ∃ y, xs[i]? = some y := ⟨_, List.getElem?_eq_getElem (by omega)⟩
    have hh := (hall i hi).trans hy
    obtain ⟨n', e1, rfl, _⟩ := DataW.trod_int he hh
    have h2 : (xs.map (·.1))[i]? = some (.lit (.int k n')) := by rw [List.getElem?_map, hy]; rfl
    rw [hm, List.getElem?_map, hn0] at h2
    simp at h2
    subst h2
    have h3 := congrArg (·[0]?) e1
    simp at h3
    rw [List.getElem?_map, hn0]
    simpa using h3
  · rw [List.getElem?_eq_none (by omega), List.getElem?_eq_none (by simp; omega)]
/-- An array of structs of two numbers. -/
theorem cells_of_pairs {H : Type} {enc : TypeId × Value → H} {P : Program} {w : World} {base : Nat} {spare : Nat → Bool} {held : Bool} {fuel : Nat} {t e : TypeId} {len : Nat} {cs : List Value} {k j : IntKind} {f0 f1 : Field} {ns : List (Int × Int)} {x : DataW H × List MemPlace}
    (ht : P.underlying t = some (.array len e)) (he : P.underlying e = some (.struct #[f0, f1])) (hone : oneCellFields P #[f0, f1] = true) (hc : P.cellsOf e = 2) (hct : P.cellsOf t = 2 * len) (u0 : P.underlying f0.type = some (.int k)) (u1 : P.underlying f1.type = some (.int j))
    (h : DataW.trod enc P w base spare held fuel t cs = some x) (hx : x.1 = .agg (ns.map fun n => .agg [.lit (.int k n.1), .lit (.int j n.2)])) : cs = (ns.map fun n => [Value.int k n.1, Value.int j n.2]).flatten := by
  obtain ⟨xs, m, _, hxx, hlen, hn, hall⟩ := DataW.trod_array ht h
  rw [hct] at hlen
  simp only [hc] at hall
  have hm : xs.map (·.1) = ns.map fun n => .agg [.lit (.int k n.1), .lit (.int j n.2)] := by
    have h1 := congrArg Prod.fst hxx
    rw [hx] at h1
    injection h1 with h2
    exact h2.symm
  have hl : ns.length = len := by
    have := congrArg List.length hm
    simp at this
    omega
  have each : ∀ (i : Nat), i < len → ∀ n, ns[i]? = some n → (cs.drop (i * 2)).take 2 = [Value.int k n.1, Value.int j n.2] := by
    intro i hi n hn0
    obtain ⟨y, hy⟩ : ∃ y, xs[i]? = some y := ⟨_, List.getElem?_eq_getElem (by omega)⟩
    have hh := (hall i hi).trans hy
    have h2 : (xs.map (·.1))[i]? = some y.1 := by rw [List.getElem?_map, hy]; rfl
    rw [hm, List.getElem?_map, hn0] at h2
    simp only [Option.map_some, Option.some.injEq] at h2
    obtain ⟨y0, y1, q, hyy, hll, h0, h1⟩ := trod_struct2 he hh
    rw [hc] at hll
    obtain ⟨o0, k0⟩ := hone_of hone 0 f0 rfl
    obtain ⟨o1, k1⟩ := hone_of hone 1 f1 rfl
    generalize (cs.drop (i * 2)).take 2 = ds at h0 h1 hll ⊢
    match ds, hll with
    | [c0, c1], _ =>
      simp only [o0, k0, o1, k1, List.drop_zero, List.take_succ_cons, List.take_zero, List.drop_succ_cons] at h0 h1
      obtain ⟨n0, e0, rfl, _⟩ := DataW.trod_int u0 h0
      obtain ⟨n1, e1, rfl, _⟩ := DataW.trod_int u1 h1
      rw [hyy] at h2
      simp at h2 e0 e1
      rw [e0, e1, h2.1, h2.2]
  have all : ∀ (l : List (Int × Int)) (i : Nat), l = ns.drop i → cs.drop (i * 2) = (l.map fun n => [Value.int k n.1, Value.int j n.2]).flatten := by
    intro l
    induction l with
    | nil =>
      intro i hi
      have : ns.length ≤ i := by
        have := congrArg List.length hi
        simp at this
        omega
      simp only [List.map_nil, List.flatten_nil]
      exact List.drop_eq_nil_of_le (by omega)
    | cons n l ih =>
      intro i hi
      have hn0 : ns[i]? = some n := by
        have := congrArg (·[0]?) hi
        simpa using this.symm
      have hilt : i < len := by rw [← hl]; exact (List.getElem?_eq_some_iff.1 hn0).1
      have h1 := each i hilt n hn0
      have h2 := ih (i + 1) (by
        have := congrArg (List.drop 1) hi
        simpa using this)
      rw [← List.take_append_drop 2 (cs.drop (i * 2)), h1, List.drop_drop, show i * 2 + 2 = (i + 1) * 2 by omega, h2]
      rfl
  have := all ns 0 (by simp)
  simpa using this
end Go.Proofs.YtpkjgcfdemnohaaGreatDoor.Ex
end
section
namespace Go.Proofs.YtpkjgcfdemnohaaGreatDoor
open Go.ChangeShapes Go.WideShapes Go.RowKit

inductive Kd where
  | i (k : IntKind)
  | b
  | s
def Kd.ok : Kd → Value → Prop
  | .i k, v => ∃ n, v = .int k n ∧ (Lit.int k n).wf = true
  | .b, v => ∃ x, v = .bool x
  | .s, v => ∃ x : ByteArray, v = .string x ∧ x.size ≤ maxLen
def okL : List Kd → List Value → Prop
  | [], [] => True
  | k :: ks, v :: vs => k.ok v ∧ okL ks vs
  | _, _ => False
theorem okL.nil {cs : List Value} (h : okL [] cs) : cs = [] := by cases cs with | nil => rfl | cons _ _ => exact h.elim
theorem okL.cons {k : Kd} {ks : List Kd} {cs : List Value} (h : okL (k :: ks) cs) : ∃ v vs, cs = v :: vs ∧ k.ok v ∧ okL ks vs := by
  cases cs with
  | nil => exact h.elim
  | cons v vs => exact ⟨v, vs, rfl, h.1, h.2⟩
theorem okL.length : ∀ {ks : List Kd} {cs : List Value}, okL ks cs → cs.length = ks.length
  | [], cs, h => by rw [h.nil]; rfl
  | k :: ks, cs, h => by
    obtain ⟨v, vs, rfl, _, h2⟩ := h.cons
    simp [okL.length h2]
theorem okL.append : ∀ {ks ls : List Kd} {cs ds : List Value}, okL ks cs → okL ls ds → okL (ks ++ ls) (cs ++ ds)
  | [], ls, cs, ds, h, g => by rw [h.nil]; exact g
  | k :: ks, ls, cs, ds, h, g => by
    obtain ⟨v, vs, rfl, h1, h2⟩ := h.cons
    exact ⟨h1, okL.append h2 g⟩
/-- The kinds of a struct's fields, one behind the other. -/
def kindsF (g : TypeId → Option (List Kd)) (cells : TypeId → Nat) : List Field → Nat → Option (List Kd)
  | [], _ => some []
  | f :: fs, off =>
    match g f.type with
    | some ks =>
      if f.offset = off ∧ cells f.type = ks.length then
        match kindsF g cells fs (off + ks.length) with
        | some ls => some (ks ++ ls)
        | none => none
      else none
    | none => none
def kindsT (P : Program) : Nat → TypeId → Option (List Kd)
  | 0, _ => none
  | f + 1, t =>
    match P.underlying t with
    | some .bool => some [.b]
    | some (.int k) => some [.i k]
    | some .string => some [.s]
    | some (.array n e) =>
      match kindsT P f e with
      | some ks => if P.cellsOf e = ks.length ∧ P.cellsOf t = n * ks.length then some (List.replicate n ks).flatten else none
      | none => none
    | some (.struct fs) =>
      match kindsF (kindsT P f) P.cellsOf fs.toList 0 with
      | some ks => if P.cellsOf t = ks.length then some ks else none
      | none => none
    | _ => none
theorem mapM_same {α β : Type} {g g' : α → Option β} : ∀ {l : List α} {xs : List β}, l.mapM g = some xs → (∀ a ∈ l, ∀ y, g a = some y → g' a = some y) → l.mapM g' = some xs
  | [], xs, h, _ => by simpa using h
  | a :: l, xs, h, hg => by
    simp only [List.mapM_cons] at h ⊢
    cases ha : g a with
    | none => rw [ha] at h; cases h
    | some y =>
      rw [ha] at h
      cases hl : l.mapM g with
      | none => rw [hl] at h; cases h
      | some ys =>
        rw [hl] at h
        rw [hg a (by simp) y ha, mapM_same hl fun b hb => hg b (by simp [hb])]
        exact h
theorem mapM_all {α β : Type} {g : α → Option β} {p : β → Prop} : ∀ {l : List α} {xs : List β}, l.mapM g = some xs → (∀ a ∈ l, ∀ y, g a = some y → p y) → ∀ y ∈ xs, p y
  | [], xs, h, _ => by simp at h; subst h; intro y hy; cases hy
  | a :: l, xs, h, hg => by
    simp only [List.mapM_cons] at h
    cases ha : g a with
    | none => rw [ha] at h; cases h
    | some y =>
      rw [ha] at h
      cases hl : l.mapM g with
      | none => rw [hl] at h; cases h
      | some ys =>
        rw [hl] at h
        cases h
        intro z hz
        rcases List.mem_cons.1 hz with e | e
        · rw [e]; exact hg a (by simp) y ha
        · exact mapM_all hl (fun b hb => hg b (by simp [hb])) z e
theorem mapM_each {α β : Type} {g : α → Option β} : ∀ {l : List α} {xs : List β}, l.mapM g = some xs → ∀ a ∈ l, ∃ y, g a = some y
  | [], _, _, a, ha => by cases ha
  | a :: l, xs, h, b, hb => by
    simp only [List.mapM_cons] at h
    cases ha : g a with
    | none => rw [ha] at h; cases h
    | some y =>
      rw [ha] at h
      cases hl : l.mapM g with
      | none => rw [hl] at h; cases h
      | some ys =>
        rcases List.mem_cons.1 hb with e | e
        · rw [e]; exact ⟨y, ha⟩
        · exact mapM_each hl b e
theorem arr_ok {cs : List Value} {ks : List Kd} : ∀ (m j : Nat), (∀ i, j ≤ i → i < j + m → okL ks ((cs.drop (i * ks.length)).take ks.length)) → okL (List.replicate m ks).flatten ((cs.drop (j * ks.length)).take (m * ks.length))
  | 0, j, _ => by simp [okL]
  | m + 1, j, h => by
    have h1 := h j (Nat.le_refl _) (by omega)
    have h2 := arr_ok m (j + 1) fun i h3 h4 => h i (by omega) (by omega)
    have e : (cs.drop (j * ks.length)).take ((m + 1) * ks.length) = (cs.drop (j * ks.length)).take ks.length ++ (cs.drop ((j + 1) * ks.length)).take (m * ks.length) := by
      rw [show (m + 1) * ks.length = ks.length + m * ks.length by rw [Nat.add_mul]; omega, List.take_add, List.drop_drop, show j * ks.length + ks.length = (j + 1) * ks.length by rw [Nat.add_mul]; omega]
    rw [e, List.replicate_succ, List.flatten_cons]
    exact h1.append h2
theorem str_ok {g : TypeId → Option (List Kd)} {cells : TypeId → Nat} {cs : List Value} : ∀ (fs : List Field) (off : Nat) (ks : List Kd), kindsF g cells fs off = some ks →
    (∀ f ∈ fs, ∀ ls, g f.type = some ls → okL ls ((cs.drop f.offset).take (cells f.type))) → okL ks ((cs.drop off).take ks.length)
  | [], off, ks, h, _ => by simp [kindsF] at h; subst h; simp [okL]
  | f :: fs, off, ks, h, hf => by
    simp only [kindsF] at h
    split at h
    · rename_i k1 hk
      split at h
      · rename_i hc
        split at h
        · rename_i k2 h2
          cases h
          have a1 := hf f (by simp) k1 hk
          rw [hc.1, hc.2] at a1
          have a2 := str_ok fs _ _ h2 fun q hq => hf q (by simp [hq])
          rw [List.length_append, List.take_add, List.drop_drop]
          exact a1.append a2
        · cases h
      · cases h
    · cases h
section
variable {H : Type} {enc : TypeId × Value → H} {P : Program}
theorem plain_kinds : ∀ (f : Nat) {t : TypeId} {ks : List Kd}, kindsT P f t = some ks → ∀ {w : World} {base : Nat} {sp : Nat → Bool} {held : Bool} {n : Nat} {cs : List Value} {x : DataW H × List MemPlace}, DataW.trod enc P w base sp held n t cs = some x → okL ks cs
  | 0, t, ks, h => by simp [kindsT] at h
  | f + 1, t, ks, h => by
    rename_i w base sp held n cs x
    intro hx
    simp only [kindsT] at h
    split at h
    · cases h
      rename_i hu
      cases n with
      | zero => simp [DataW.trod] at hx
      | succ n =>
        simp only [DataW.trod, hu] at hx
        split at hx <;> simp_all [okL, Kd.ok]
    · cases h
      rename_i k hu
      obtain ⟨m, rfl, _, hw⟩ := DataW.trod_int hu hx
      exact ⟨⟨m, rfl, hw⟩, trivial⟩
    · cases h
      rename_i hu
      obtain ⟨m, rfl, _, hw⟩ := DataW.trod_string hu hx
      exact ⟨⟨m, rfl, hw⟩, trivial⟩
    · rename_i m e hu
      split at h
      · rename_i k1 hk
        split at h
        · rename_i hc
          cases h
          obtain ⟨xs, q, rfl, _, hlen, hn, hall⟩ := DataW.trod_array hu hx
          have := arr_ok (cs := cs) (ks := k1) m 0 fun i _ hi => by
            have h1 := hall i (by omega)
            rw [hc.1] at h1
            exact plain_kinds f hk (h1.trans (List.getElem?_eq_getElem (by omega)))
          rw [Nat.zero_mul, List.drop_zero, ← hc.2, ← hlen, List.take_length] at this
          exact this
        · cases h
      · cases h
    · rename_i fs hu
      split at h
      · rename_i k1 hk
        split at h
        · rename_i hc
          cases h
          cases n with
          | zero => simp [DataW.trod] at hx
          | succ n =>
            have hx2 : (if cs.length = P.cellsOf t then (fs.toList.mapM fun f => DataW.trod enc P w base sp held n f.type ((cs.drop f.offset).take (P.cellsOf f.type))).map fun xs => ((DataW.agg (xs.map (·.1)) : DataW H), xs.flatMap (·.2)) else none) = some x := by
              rw [← hx]; simp only [DataW.trod, hu]
            split at hx2
            · rename_i hlen
              cases hm : fs.toList.mapM fun f => DataW.trod enc P w base sp held n f.type ((cs.drop f.offset).take (P.cellsOf f.type)) with
              | none => rw [hm] at hx2; cases hx2
              | some xs =>
                have := str_ok (cs := cs) fs.toList 0 ks hk fun g hg ls hl => by
                  obtain ⟨y, hy⟩ := mapM_each hm g hg
                  exact plain_kinds f hl hy
                rw [List.drop_zero, ← hc, ← hlen, List.take_length] at this
                exact this
            · cases hx2
        · cases h
      · cases h
    · cases h
theorem kindsF_each {g : TypeId → Option (List Kd)} {cells : TypeId → Nat} : ∀ {fs : List Field} {off : Nat} {ks : List Kd}, kindsF g cells fs off = some ks → ∀ f ∈ fs, ∃ ls, g f.type = some ls
  | [], _, _, _, f, hf => by cases hf
  | f :: fs, off, ks, h, q, hq => by
    simp only [kindsF] at h
    split at h
    · rename_i k1 hk
      split at h
      · split at h
        · rename_i k2 h2
          rcases List.mem_cons.1 hq with e | e
          · rw [e]; exact ⟨k1, hk⟩
          · exact kindsF_each h2 q e
        · cases h
      · cases h
    · cases h
theorem plain_any : ∀ (f : Nat) {t : TypeId} {ks : List Kd}, kindsT P f t = some ks → ∀ {w : World} {base : Nat} {sp : Nat → Bool} {held : Bool} {n : Nat} {cs : List Value} {x : DataW H × List MemPlace}, DataW.trod enc P w base sp held n t cs = some x →
    x.2 = [] ∧ ∀ (w' : World) (base' : Nat) (sp' : Nat → Bool) (held' : Bool), DataW.trod enc P w' base' sp' held' n t cs = some x
  | 0, t, ks, h => by simp [kindsT] at h
  | f + 1, t, ks, h => by
    rename_i w base sp held n cs x
    intro hx
    have hk1 := plain_kinds (f + 1) h hx
    simp only [kindsT] at h
    cases n with
    | zero => simp [DataW.trod] at hx
    | succ n =>
      split at h
      · cases h
        rename_i hu
        obtain ⟨v, vs, rfl, ⟨y, rfl⟩, hn⟩ := hk1.cons
        obtain rfl := hn.nil
        simp only [DataW.trod, hu] at hx ⊢
        cases hx
        exact ⟨rfl, fun _ _ _ _ => rfl⟩
      · cases h
        rename_i k hu
        obtain ⟨v, vs, rfl, ⟨y, rfl, hw⟩, hn⟩ := hk1.cons
        obtain rfl := hn.nil
        simp only [DataW.trod, hu, hw, and_self, if_true] at hx ⊢
        cases hx
        exact ⟨rfl, fun _ _ _ _ => rfl⟩
      · cases h
        rename_i hu
        obtain ⟨v, vs, rfl, ⟨y, rfl, hw⟩, hn⟩ := hk1.cons
        obtain rfl := hn.nil
        simp only [DataW.trod, hu, hw, if_true] at hx ⊢
        cases hx
        exact ⟨rfl, fun _ _ _ _ => rfl⟩
      · rename_i m e hu
        split at h
        · rename_i k1 hk
          have hd : ∀ (w : World) (base : Nat) (sp : Nat → Bool) (held : Bool), DataW.trod enc P w base sp held (n + 1) t cs = (if cs.length = P.cellsOf t then ((List.range m).mapM fun i => DataW.trod enc P w base sp held n e ((cs.drop (i * P.cellsOf e)).take (P.cellsOf e))).map fun xs => ((DataW.agg (xs.map (·.1)) : DataW H), xs.flatMap (·.2)) else none) := fun _ _ _ _ => by simp only [DataW.trod, hu]
          rw [hd] at hx
          split at hx
          · rename_i hlen
            cases hm : (List.range m).mapM fun i => DataW.trod enc P w base sp held n e ((cs.drop (i * P.cellsOf e)).take (P.cellsOf e)) with
            | none => rw [hm] at hx; cases hx
            | some xs =>
              rw [hm] at hx
              cases hx
              refine ⟨?_, fun w' base' sp' held' => ?_⟩
              · simp only [List.flatMap_eq_nil_iff]
                exact mapM_all hm fun a _ y hy => (plain_any f hk hy).1
              · rw [hd, if_pos hlen, mapM_same hm fun a _ y hy => (plain_any f hk hy).2 w' base' sp' held']
                rfl
          · cases hx
        · cases h
      · rename_i fs hu
        split at h
        · rename_i k1 hk
          have hd : ∀ (w : World) (base : Nat) (sp : Nat → Bool) (held : Bool), DataW.trod enc P w base sp held (n + 1) t cs = (if cs.length = P.cellsOf t then (fs.toList.mapM fun f => DataW.trod enc P w base sp held n f.type ((cs.drop f.offset).take (P.cellsOf f.type))).map fun xs => ((DataW.agg (xs.map (·.1)) : DataW H), xs.flatMap (·.2)) else none) := fun _ _ _ _ => by simp only [DataW.trod, hu]
          rw [hd] at hx
          split at hx
          · rename_i hlen
            cases hm : fs.toList.mapM fun f => DataW.trod enc P w base sp held n f.type ((cs.drop f.offset).take (P.cellsOf f.type)) with
            | none => rw [hm] at hx; cases hx
            | some xs =>
              rw [hm] at hx
              cases hx
              have hfs := kindsF_each hk
              refine ⟨?_, fun w' base' sp' held' => ?_⟩
              · simp only [List.flatMap_eq_nil_iff]
                exact mapM_all hm fun a ha y hy => let ⟨ls, hl⟩ := hfs a ha; (plain_any f hl hy).1
              · rw [hd, if_pos hlen, mapM_same hm fun a ha y hy => let ⟨ls, hl⟩ := hfs a ha; (plain_any f hl hy).2 w' base' sp' held']
                rfl
          · cases hx
        · cases h
      · cases h
/-- A parameter of plain data, of two cells or more. -/
theorem open_plain {f : Nat} {t : TypeId} {ks : List Kd} (hk : kindsT P f t = some ks) (h2 : 2 ≤ ks.length) {w : World} {base : Nat} {sp : Nat → Bool} {held : Bool} {v : Value} {d : DataW H} {p : List MemPlace} (h : DataW.Trod enc P w base sp held t v d p) :
    p = [] ∧ (∃ cs, v = .agg ⟨cs⟩ ∧ okL ks cs) ∧ ∀ (w' : World) (base' : Nat) (sp' : Nat → Bool) (held' : Bool), DataW.Trod enc P w' base' sp' held' t v d [] := by
  obtain ⟨n, hn⟩ := h
  obtain ⟨h1, h3⟩ := plain_any f hk hn
  simp only at h1
  subst h1
  have h4 := plain_kinds f hk hn
  refine ⟨rfl, ?_, fun w' b' s' h' => ⟨n, h3 w' b' s' h'⟩⟩
  have h5 := h4.length
  cases v with
  | agg cs => exact ⟨cs.toList, rfl, h4⟩
  | _ => simp [Value.cells] at h5; omega
/-- A parameter of plain data, of one cell. -/
theorem shut_plain {f : Nat} {t : TypeId} {ks : List Kd} (hk : kindsT P f t = some ks) {w : World} {base : Nat} {sp : Nat → Bool} {held : Bool} {v : Value} {d : DataW H} {p : List MemPlace} (h : DataW.Trod enc P w base sp held t v d p) :
    p = [] ∧ ∀ (w' : World) (base' : Nat) (sp' : Nat → Bool) (held' : Bool), DataW.Trod enc P w' base' sp' held' t v d [] := by
  obtain ⟨n, hn⟩ := h
  obtain ⟨h1, h3⟩ := plain_any f hk hn
  simp only at h1
  subst h1
  exact ⟨rfl, fun w' b' s' h' => ⟨n, h3 w' b' s' h'⟩⟩
end
end Go.Proofs.YtpkjgcfdemnohaaGreatDoor
end
section
namespace Go.Proofs.YtpkjgcfdemnohaaGreatDoor
open Go.ChangeShapes Go.WideShapes Go.RowKit

def flatD {H : Type} : Nat → DataW H → List Value
  | 0, _ => []
  | _ + 1, .lit (.int k n) => [.int k n]
  | _ + 1, .lit (.bool b) => [.bool b]
  | _ + 1, .lit (.string s) => [.string ⟨s.toArray⟩]
  | f + 1, .agg l => l.flatMap (flatD f)
  | _ + 1, _ => []
theorem arr_flat {α : Type} {cs : List Value} {k : Nat} {F : α → List Value} : ∀ (xs : List α) (j : Nat), (∀ i y, xs[i]? = some y → (cs.drop ((j + i) * k)).take k = F y) → (cs.drop (j * k)).take (xs.length * k) = xs.flatMap F
  | [], j, h => by simp
  | a :: l, j, h => by
    have h1 := h 0 a rfl
    have h2 := arr_flat l (j + 1) fun i y hy => by
      have := h (i + 1) y (by simpa using hy)
      rw [show j + (i + 1) = j + 1 + i by omega] at this
      exact this
    rw [List.length_cons, show (l.length + 1) * k = k + l.length * k by rw [Nat.add_mul]; omega, List.take_add, List.drop_drop, show j * k + k = (j + 1) * k by rw [Nat.add_mul]; omega, h2]
    rw [Nat.add_zero] at h1
    rw [h1]
    rfl
theorem str_flat {α : Type} {g : TypeId → Option (List Kd)} {cells : TypeId → Nat} {cs : List Value} {tr : Field → Option α} {F : α → List Value} : ∀ (fs : List Field) (off : Nat) (ks : List Kd) (xs : List α), kindsF g cells fs off = some ks → fs.mapM tr = some xs →
    (∀ f ∈ fs, ∀ y, tr f = some y → (cs.drop f.offset).take (cells f.type) = F y) → (cs.drop off).take ks.length = xs.flatMap F
  | [], off, ks, xs, h, hx, _ => by
    simp [kindsF] at h
    simp at hx
    subst h hx
    simp
  | f :: fs, off, ks, xs, h, hx, hf => by
    simp only [List.mapM_cons] at hx
    cases ha : tr f with
    | none => rw [ha] at hx; cases hx
    | some y =>
      rw [ha] at hx
      cases hl : fs.mapM tr with
      | none => rw [hl] at hx; cases hx
      | some ys =>
        rw [hl] at hx
        cases hx
        simp only [kindsF] at h
        split at h
        · rename_i k1 hk
          split at h
          · rename_i hc
            split at h
            · rename_i k2 h2
              cases h
              have a1 := hf f (by simp) y ha
              rw [hc.1, hc.2] at a1
              have a2 := str_flat fs _ _ _ h2 hl fun q hq => hf q (by simp [hq])
              rw [List.length_append, List.take_add, List.drop_drop, a1, a2]
              rfl
            · cases h
          · cases h
        · cases h
theorem flatMap_map {α β γ : Type} (l : List α) (g : α → β) (F : β → List γ) : (l.map g).flatMap F = l.flatMap fun a => F (g a) := by
  induction l with
  | nil => rfl
  | cons a l ih => simp [ih]
variable {H : Type} {enc : TypeId × Value → H} {P : Program}
theorem plain_flat : ∀ (f : Nat) {t : TypeId} {ks : List Kd}, kindsT P f t = some ks → ∀ {w : World} {base : Nat} {sp : Nat → Bool} {held : Bool} {n : Nat} {cs : List Value} {x : DataW H × List MemPlace}, DataW.trod enc P w base sp held n t cs = some x → cs = flatD f x.1
  | 0, t, ks, h => by simp [kindsT] at h
  | f + 1, t, ks, h => by
    rename_i w base sp held n cs x
    intro hx
    have hk1 := plain_kinds (f + 1) h hx
    simp only [kindsT] at h
    cases n with
    | zero => simp [DataW.trod] at hx
    | succ n =>
      split at h
      · cases h
        rename_i hu
        obtain ⟨v, vs, rfl, ⟨y, rfl⟩, hn⟩ := hk1.cons
        obtain rfl := hn.nil
        simp only [DataW.trod, hu] at hx
        cases hx
        rfl
      · cases h
        rename_i k hu
        obtain ⟨v, vs, rfl, ⟨y, rfl, hw⟩, hn⟩ := hk1.cons
        obtain rfl := hn.nil
        simp only [DataW.trod, hu, hw, and_self, if_true] at hx
        cases hx
        rfl
      · cases h
        rename_i hu
        obtain ⟨v, vs, rfl, ⟨y, rfl, hw⟩, hn⟩ := hk1.cons
        obtain rfl := hn.nil
        simp only [DataW.trod, hu, hw, if_true] at hx
        cases hx
        rfl
      · rename_i m e hu
        split at h
        · rename_i k1 hk
          split at h
          · rename_i hc
            cases h
            obtain ⟨xs, q, _, hxx, hlen, hn, hall⟩ := DataW.trod_array hu hx
            have := arr_flat (cs := cs) (k := k1.length) (F := fun y : DataW H × List MemPlace => flatD f y.1) xs 0 fun i y hy => by
              have hi : i < m := by
                have := (List.getElem?_eq_some_iff.1 hy).1
                omega
              have h1 := (hall i hi).trans hy
              rw [hc.1] at h1
              rw [Nat.zero_add]
              exact plain_flat f hk h1
            rw [Nat.zero_mul, List.drop_zero, hn, ← hc.2, ← hlen, List.take_length] at this
            rw [hxx]
            simp only [flatD]
            rw [flatMap_map]
            exact this
          · cases h
        · cases h
      · rename_i fs hu
        split at h
        · rename_i k1 hk
          split at h
          · rename_i hc
            cases h
            have hx2 : (if cs.length = P.cellsOf t then (fs.toList.mapM fun f => DataW.trod enc P w base sp held n f.type ((cs.drop f.offset).take (P.cellsOf f.type))).map fun xs => ((DataW.agg (xs.map (·.1)) : DataW H), xs.flatMap (·.2)) else none) = some x := by
              rw [← hx]; simp only [DataW.trod, hu]
            split at hx2
            · rename_i hlen
              cases hm : fs.toList.mapM fun f => DataW.trod enc P w base sp held n f.type ((cs.drop f.offset).take (P.cellsOf f.type)) with
              | none => rw [hm] at hx2; cases hx2
              | some xs =>
                rw [hm] at hx2
                cases hx2
                have hfs := kindsF_each hk
                have := str_flat (cs := cs) (F := fun y : DataW H × List MemPlace => flatD f y.1) fs.toList 0 ks xs hk hm fun g hg y hy => by
                  obtain ⟨ls, hl⟩ := hfs g hg
                  exact plain_flat f hl hy
                rw [List.drop_zero, ← hc, ← hlen, List.take_length] at this
                simp only [flatD]
                rw [flatMap_map]
                exact this
            · cases hx2
          · cases h
        · cases h
      · cases h
end Go.Proofs.YtpkjgcfdemnohaaGreatDoor
end
section
namespace Go.Proofs.YtpkjgcfdemnohaaGreatDoor.Ex
open Go Go.RowKit Go.ChangeShapes Go.WideShapes Go.WideMaps Go.WideElems
set_option linter.unusedVariables false
def szCs : List Value := flatD (H := Unit) 4 Rows.laid_firewall_insns_sizes
def h21 : List AO := List.replicate 3 dead ++ [⟨true, some GM, szCs⟩]
def TabAt (w : World) : Prop := ∃ t fr, w.heap[3]? = some (.cells ⟨szCs⟩ t fr)
theorem laid_of_tab {w : World} (h : TabAt w) : Laid h21 w := Laid.one rfl h
theorem gSz : Tryz.prog.globalNamed "firewall/insns.sizes" = some 3 := by kernel_rfl
theorem sz_flat {H : Type} : flatD (H := H) 4 Rows.laid_firewall_insns_sizes = szCs := rfl
theorem tab_of_laid {W : World} (h : laidMetH Tryz.prog [("firewall/insns.sizes", Rows.laid_firewall_insns_sizes)] W) : TabAt W := by
  rw [MakeChecks.laidMetH_plain _ _ _ (by kernel_rfl)] at h
  obtain ⟨ps, ⟨g0, t0, cs0, f0, p0, q0, hg0, ht0, hv0, hd0, _⟩, _⟩ := h
  obtain rfl := Option.some.inj (gSz.symm.trans hg0)
  obtain rfl := Option.some.inj ((show (Tryz.prog.globals[3]?).map (·.type) = some 330 by kernel_rfl).symm.trans ht0)
  have key := plain_flat 4 (ks := (List.replicate 12 [Kd.i .u8, .i .u8]).flatten) (by kernel_rfl) hd0
  have hkey : cs0 = ⟨szCs⟩ := Array.toList_inj.1 (key.trans sz_flat)
  subst hkey
  simp only [World.var?, gSz, Option.bind_some] at hv0
  split at hv0
  · rename_i cs t fr hh
    obtain rfl := Option.some.inj hv0
    exact ⟨t, fr, hh⟩
  · cases hv0
/-- A hook of one function: others are not looked at. -/
def onlyH (g : FuncId) (hk : Hook) : Hook := fun f args h => if Nat.beq f g then hk f args h else none
theorem only_ok {P : Program} {g : FuncId} {hk : Hook} (hh : HookOk2 P hk) : HookOk2 P (onlyH g hk) := by
  intro f args h v cs hv
  unfold onlyH at hv
  split at hv
  · exact hh f args h v cs hv
  · cases hv
def tbinsnsSize : Tab := [
  ([.int .u8 121], .int .i64 8)]
set_option maxHeartbeats 0 in
set_option maxRecDepth 1000000 in
theorem tbinsnsSize_0 (w : World) (hL : Laid h21 w) : Calls Tryz.prog 139 ⟨[.int .u8 121]⟩ w fun e w' => e = .returned (.int .i64 8) ∧ Gr w w' :=
  reckonX_ok noNG (guard_ok (noHook_ok _)) 100000 300 h21 rfl rfl (by kernel_rfl) w hL
theorem tbinsnsSize_tab : TabOk Tryz.prog h21 139 tbinsnsSize :=
  ⟨tbinsnsSize_0, trivial⟩
def tbinsnsSize_hk : Hook := onlyH 139 (guardH (memoHook h21 139 tbinsnsSize))
theorem tbinsnsSize_hk_ok : HookOk2 Tryz.prog tbinsnsSize_hk := only_ok (guard_ok (memoHook_ok rfl tbinsnsSize_tab))
def tbinsnsCheck : Tab := [
  ([.agg ⟨[.int .u8 183, .int .u8 0, .int .u8 0, .int .i16 0, .int .i32 1]⟩, .bool true], .int .i64 0),
  ([.agg ⟨[.int .u8 149, .int .u8 0, .int .u8 0, .int .i16 0, .int .i32 0]⟩, .bool true], .int .i64 0),
  ([.agg ⟨[.int .u8 191, .int .u8 0, .int .u8 1, .int .i16 0, .int .i32 0]⟩, .bool true], .int .i64 0),
  ([.agg ⟨[.int .u8 15, .int .u8 0, .int .u8 1, .int .i16 0, .int .i32 0]⟩, .bool true], .int .i64 0),
  ([.agg ⟨[.int .u8 121, .int .u8 0, .int .u8 10, .int .i16 (-8), .int .i32 0]⟩, .bool true], .int .i64 0),
  ([.agg ⟨[.int .u8 121, .int .u8 0, .int .u8 10, .int .i16 8, .int .i32 0]⟩, .bool true], .int .i64 0)]
set_option maxHeartbeats 0 in
set_option maxRecDepth 1000000 in
theorem tbinsnsCheck_0 (w : World) (hL : Laid h21 w) : Calls Tryz.prog 117 ⟨[.agg ⟨[.int .u8 183, .int .u8 0, .int .u8 0, .int .i16 0, .int .i32 1]⟩, .bool true]⟩ w fun e w' => e = .returned (.int .i64 0) ∧ Gr w w' :=
  reckonX_ok noNG (guard_ok (noHook_ok _)) 100000 300 h21 rfl rfl (by kernel_rfl) w hL
set_option maxHeartbeats 0 in
set_option maxRecDepth 1000000 in
theorem tbinsnsCheck_1 (w : World) (hL : Laid h21 w) : Calls Tryz.prog 117 ⟨[.agg ⟨[.int .u8 149, .int .u8 0, .int .u8 0, .int .i16 0, .int .i32 0]⟩, .bool true]⟩ w fun e w' => e = .returned (.int .i64 0) ∧ Gr w w' :=
  reckonX_ok noNG (guard_ok (noHook_ok _)) 100000 300 h21 rfl rfl (by kernel_rfl) w hL
set_option maxHeartbeats 0 in
set_option maxRecDepth 1000000 in
theorem tbinsnsCheck_2 (w : World) (hL : Laid h21 w) : Calls Tryz.prog 117 ⟨[.agg ⟨[.int .u8 191, .int .u8 0, .int .u8 1, .int .i16 0, .int .i32 0]⟩, .bool true]⟩ w fun e w' => e = .returned (.int .i64 0) ∧ Gr w w' :=
  reckonX_ok noNG (guard_ok (noHook_ok _)) 100000 300 h21 rfl rfl (by kernel_rfl) w hL
set_option maxHeartbeats 0 in
set_option maxRecDepth 1000000 in
theorem tbinsnsCheck_3 (w : World) (hL : Laid h21 w) : Calls Tryz.prog 117 ⟨[.agg ⟨[.int .u8 15, .int .u8 0, .int .u8 1, .int .i16 0, .int .i32 0]⟩, .bool true]⟩ w fun e w' => e = .returned (.int .i64 0) ∧ Gr w w' :=
  reckonX_ok noNG (guard_ok (noHook_ok _)) 100000 300 h21 rfl rfl (by kernel_rfl) w hL
set_option maxHeartbeats 0 in
set_option maxRecDepth 1000000 in
theorem tbinsnsCheck_4 (w : World) (hL : Laid h21 w) : Calls Tryz.prog 117 ⟨[.agg ⟨[.int .u8 121, .int .u8 0, .int .u8 10, .int .i16 (-8), .int .i32 0]⟩, .bool true]⟩ w fun e w' => e = .returned (.int .i64 0) ∧ Gr w w' :=
  reckonX_ok noNG (guard_ok (noHook_ok _)) 100000 300 h21 rfl rfl (by kernel_rfl) w hL
set_option maxHeartbeats 0 in
set_option maxRecDepth 1000000 in
theorem tbinsnsCheck_5 (w : World) (hL : Laid h21 w) : Calls Tryz.prog 117 ⟨[.agg ⟨[.int .u8 121, .int .u8 0, .int .u8 10, .int .i16 8, .int .i32 0]⟩, .bool true]⟩ w fun e w' => e = .returned (.int .i64 0) ∧ Gr w w' :=
  reckonX_ok noNG (guard_ok (noHook_ok _)) 100000 300 h21 rfl rfl (by kernel_rfl) w hL
theorem tbinsnsCheck_tab : TabOk Tryz.prog h21 117 tbinsnsCheck :=
  ⟨tbinsnsCheck_0, tbinsnsCheck_1, tbinsnsCheck_2, tbinsnsCheck_3, tbinsnsCheck_4, tbinsnsCheck_5, trivial⟩
def tbinsnsCheck_hk : Hook := onlyH 117 (guardH (memoHook h21 117 tbinsnsCheck))
theorem tbinsnsCheck_hk_ok : HookOk2 Tryz.prog tbinsnsCheck_hk := only_ok (guard_ok (memoHook_ok rfl tbinsnsCheck_tab))
def tbprogsjumps : Tab := [
  ([.int .u8 183], .bool false),
  ([.int .u8 191], .bool false),
  ([.int .u8 15], .bool false),
  ([.int .u8 121], .bool false)]
set_option maxHeartbeats 0 in
set_option maxRecDepth 1000000 in
theorem tbprogsjumps_0 (w : World) (hL : Laid h21 w) : Calls Tryz.prog 189 ⟨[.int .u8 183]⟩ w fun e w' => e = .returned (.bool false) ∧ Gr w w' :=
  reckonX_ok noNG (guard_ok (noHook_ok _)) 100000 300 h21 rfl rfl (by kernel_rfl) w hL
set_option maxHeartbeats 0 in
set_option maxRecDepth 1000000 in
theorem tbprogsjumps_1 (w : World) (hL : Laid h21 w) : Calls Tryz.prog 189 ⟨[.int .u8 191]⟩ w fun e w' => e = .returned (.bool false) ∧ Gr w w' :=
  reckonX_ok noNG (guard_ok (noHook_ok _)) 100000 300 h21 rfl rfl (by kernel_rfl) w hL
set_option maxHeartbeats 0 in
set_option maxRecDepth 1000000 in
theorem tbprogsjumps_2 (w : World) (hL : Laid h21 w) : Calls Tryz.prog 189 ⟨[.int .u8 15]⟩ w fun e w' => e = .returned (.bool false) ∧ Gr w w' :=
  reckonX_ok noNG (guard_ok (noHook_ok _)) 100000 300 h21 rfl rfl (by kernel_rfl) w hL
set_option maxHeartbeats 0 in
set_option maxRecDepth 1000000 in
theorem tbprogsjumps_3 (w : World) (hL : Laid h21 w) : Calls Tryz.prog 189 ⟨[.int .u8 121]⟩ w fun e w' => e = .returned (.bool false) ∧ Gr w w' :=
  reckonX_ok noNG (guard_ok (noHook_ok _)) 100000 300 h21 rfl rfl (by kernel_rfl) w hL
theorem tbprogsjumps_tab : TabOk Tryz.prog h21 189 tbprogsjumps :=
  ⟨tbprogsjumps_0, tbprogsjumps_1, tbprogsjumps_2, tbprogsjumps_3, trivial⟩
def tbprogsjumps_hk : Hook := onlyH 189 (guardH (memoHook h21 189 tbprogsjumps))
theorem tbprogsjumps_hk_ok : HookOk2 Tryz.prog tbprogsjumps_hk := only_ok (guard_ok (memoHook_ok rfl tbprogsjumps_tab))
def tbscalarsTight : Tab := [
  ([.agg ⟨[.int .u64 0, .int .u64 0, .int .u64 0, .int .u64 0, .int .i64 0, .int .i64 0]⟩], .tuple ⟨[.agg ⟨[.int .u64 0, .int .u64 0, .int .u64 0, .int .u64 0, .int .i64 0, .int .i64 0]⟩, .bool true]⟩),
  ([.agg ⟨[.int .u64 1, .int .u64 0, .int .u64 1, .int .u64 1, .int .i64 1, .int .i64 1]⟩], .tuple ⟨[.agg ⟨[.int .u64 1, .int .u64 0, .int .u64 1, .int .u64 1, .int .i64 1, .int .i64 1]⟩, .bool true]⟩)]
set_option maxHeartbeats 0 in
set_option maxRecDepth 1000000 in
theorem tbscalarsTight_0 (w : World) (hL : Laid h21 w) : Calls Tryz.prog 251 ⟨[.agg ⟨[.int .u64 0, .int .u64 0, .int .u64 0, .int .u64 0, .int .i64 0, .int .i64 0]⟩]⟩ w fun e w' => e = .returned (.tuple ⟨[.agg ⟨[.int .u64 0, .int .u64 0, .int .u64 0, .int .u64 0, .int .i64 0, .int .i64 0]⟩, .bool true]⟩) ∧ Gr w w' :=
  reckonX_ok noNG (guard_ok (noHook_ok _)) 100000 300 h21 rfl rfl (by kernel_rfl) w hL
set_option maxHeartbeats 0 in
set_option maxRecDepth 1000000 in
theorem tbscalarsTight_1 (w : World) (hL : Laid h21 w) : Calls Tryz.prog 251 ⟨[.agg ⟨[.int .u64 1, .int .u64 0, .int .u64 1, .int .u64 1, .int .i64 1, .int .i64 1]⟩]⟩ w fun e w' => e = .returned (.tuple ⟨[.agg ⟨[.int .u64 1, .int .u64 0, .int .u64 1, .int .u64 1, .int .i64 1, .int .i64 1]⟩, .bool true]⟩) ∧ Gr w w' :=
  reckonX_ok noNG (guard_ok (noHook_ok _)) 100000 300 h21 rfl rfl (by kernel_rfl) w hL
theorem tbscalarsTight_tab : TabOk Tryz.prog h21 251 tbscalarsTight :=
  ⟨tbscalarsTight_0, tbscalarsTight_1, trivial⟩
def tbscalarsTight_hk : Hook := onlyH 251 (guardH (memoHook h21 251 tbscalarsTight))
theorem tbscalarsTight_hk_ok : HookOk2 Tryz.prog tbscalarsTight_hk := only_ok (guard_ok (memoHook_ok rfl tbscalarsTight_tab))
def tbscalarsConst : Tab := [
  ([.int .u64 1], .agg ⟨[.int .u64 1, .int .u64 0, .int .u64 1, .int .u64 1, .int .i64 1, .int .i64 1]⟩)]
set_option maxHeartbeats 0 in
set_option maxRecDepth 1000000 in
theorem tbscalarsConst_0 (w : World) (hL : Laid h21 w) : Calls Tryz.prog 136 ⟨[.int .u64 1]⟩ w fun e w' => e = .returned (.agg ⟨[.int .u64 1, .int .u64 0, .int .u64 1, .int .u64 1, .int .i64 1, .int .i64 1]⟩) ∧ Gr w w' :=
  reckonX_ok noNG (guard_ok (noHook_ok _)) 100000 300 h21 rfl rfl (by kernel_rfl) w hL
theorem tbscalarsConst_tab : TabOk Tryz.prog h21 136 tbscalarsConst :=
  ⟨tbscalarsConst_0, trivial⟩
def tbscalarsConst_hk : Hook := onlyH 136 (guardH (memoHook h21 136 tbscalarsConst))
theorem tbscalarsConst_hk_ok : HookOk2 Tryz.prog tbscalarsConst_hk := only_ok (guard_ok (memoHook_ok rfl tbscalarsConst_tab))
def tbscalarsHas : Tab := [
  ([.agg ⟨[.int .u64 1, .int .u64 0, .int .u64 1, .int .u64 1, .int .i64 1, .int .i64 1]⟩, .int .u64 1], .bool true)]
set_option maxHeartbeats 0 in
set_option maxRecDepth 1000000 in
theorem tbscalarsHas_0 (w : World) (hL : Laid h21 w) : Calls Tryz.prog 27 ⟨[.agg ⟨[.int .u64 1, .int .u64 0, .int .u64 1, .int .u64 1, .int .i64 1, .int .i64 1]⟩, .int .u64 1]⟩ w fun e w' => e = .returned (.bool true) ∧ Gr w w' :=
  reckonX_ok noNG (guard_ok (noHook_ok _)) 100000 300 h21 rfl rfl (by kernel_rfl) w hL
theorem tbscalarsHas_tab : TabOk Tryz.prog h21 27 tbscalarsHas :=
  ⟨tbscalarsHas_0, trivial⟩
def tbscalarsHas_hk : Hook := onlyH 27 (guardH (memoHook h21 27 tbscalarsHas))
theorem tbscalarsHas_hk_ok : HookOk2 Tryz.prog tbscalarsHas_hk := only_ok (guard_ok (memoHook_ok rfl tbscalarsHas_tab))
def tbprogsisExit : Tab := [
  ([.int .u8 183], .bool false),
  ([.int .u8 149], .bool true),
  ([.int .u8 191], .bool false),
  ([.int .u8 15], .bool false),
  ([.int .u8 121], .bool false)]
set_option maxHeartbeats 0 in
set_option maxRecDepth 1000000 in
theorem tbprogsisExit_0 (w : World) (hL : Laid h21 w) : Calls Tryz.prog 121 ⟨[.int .u8 183]⟩ w fun e w' => e = .returned (.bool false) ∧ Gr w w' :=
  reckonX_ok noNG (guard_ok (noHook_ok _)) 100000 300 h21 rfl rfl (by kernel_rfl) w hL
set_option maxHeartbeats 0 in
set_option maxRecDepth 1000000 in
theorem tbprogsisExit_1 (w : World) (hL : Laid h21 w) : Calls Tryz.prog 121 ⟨[.int .u8 149]⟩ w fun e w' => e = .returned (.bool true) ∧ Gr w w' :=
  reckonX_ok noNG (guard_ok (noHook_ok _)) 100000 300 h21 rfl rfl (by kernel_rfl) w hL
set_option maxHeartbeats 0 in
set_option maxRecDepth 1000000 in
theorem tbprogsisExit_2 (w : World) (hL : Laid h21 w) : Calls Tryz.prog 121 ⟨[.int .u8 191]⟩ w fun e w' => e = .returned (.bool false) ∧ Gr w w' :=
  reckonX_ok noNG (guard_ok (noHook_ok _)) 100000 300 h21 rfl rfl (by kernel_rfl) w hL
set_option maxHeartbeats 0 in
set_option maxRecDepth 1000000 in
theorem tbprogsisExit_3 (w : World) (hL : Laid h21 w) : Calls Tryz.prog 121 ⟨[.int .u8 15]⟩ w fun e w' => e = .returned (.bool false) ∧ Gr w w' :=
  reckonX_ok noNG (guard_ok (noHook_ok _)) 100000 300 h21 rfl rfl (by kernel_rfl) w hL
set_option maxHeartbeats 0 in
set_option maxRecDepth 1000000 in
theorem tbprogsisExit_4 (w : World) (hL : Laid h21 w) : Calls Tryz.prog 121 ⟨[.int .u8 121]⟩ w fun e w' => e = .returned (.bool false) ∧ Gr w w' :=
  reckonX_ok noNG (guard_ok (noHook_ok _)) 100000 300 h21 rfl rfl (by kernel_rfl) w hL
theorem tbprogsisExit_tab : TabOk Tryz.prog h21 121 tbprogsisExit :=
  ⟨tbprogsisExit_0, tbprogsisExit_1, tbprogsisExit_2, tbprogsisExit_3, tbprogsisExit_4, trivial⟩
def tbprogsisExit_hk : Hook := onlyH 121 (guardH (memoHook h21 121 tbprogsisExit))
theorem tbprogsisExit_hk_ok : HookOk2 Tryz.prog tbprogsisExit_hk := only_ok (guard_ok (memoHook_ok rfl tbprogsisExit_tab))
def tbprogsisJump : Tab := [
  ([.int .u8 183], .bool false),
  ([.int .u8 191], .bool false),
  ([.int .u8 15], .bool false),
  ([.int .u8 121], .bool false)]
set_option maxHeartbeats 0 in
set_option maxRecDepth 1000000 in
theorem tbprogsisJump_0 (w : World) (hL : Laid h21 w) : Calls Tryz.prog 122 ⟨[.int .u8 183]⟩ w fun e w' => e = .returned (.bool false) ∧ Gr w w' :=
  reckonX_ok noNG (guard_ok (noHook_ok _)) 100000 300 h21 rfl rfl (by kernel_rfl) w hL
set_option maxHeartbeats 0 in
set_option maxRecDepth 1000000 in
theorem tbprogsisJump_1 (w : World) (hL : Laid h21 w) : Calls Tryz.prog 122 ⟨[.int .u8 191]⟩ w fun e w' => e = .returned (.bool false) ∧ Gr w w' :=
  reckonX_ok noNG (guard_ok (noHook_ok _)) 100000 300 h21 rfl rfl (by kernel_rfl) w hL
set_option maxHeartbeats 0 in
set_option maxRecDepth 1000000 in
theorem tbprogsisJump_2 (w : World) (hL : Laid h21 w) : Calls Tryz.prog 122 ⟨[.int .u8 15]⟩ w fun e w' => e = .returned (.bool false) ∧ Gr w w' :=
  reckonX_ok noNG (guard_ok (noHook_ok _)) 100000 300 h21 rfl rfl (by kernel_rfl) w hL
set_option maxHeartbeats 0 in
set_option maxRecDepth 1000000 in
theorem tbprogsisJump_3 (w : World) (hL : Laid h21 w) : Calls Tryz.prog 122 ⟨[.int .u8 121]⟩ w fun e w' => e = .returned (.bool false) ∧ Gr w w' :=
  reckonX_ok noNG (guard_ok (noHook_ok _)) 100000 300 h21 rfl rfl (by kernel_rfl) w hL
theorem tbprogsisJump_tab : TabOk Tryz.prog h21 122 tbprogsisJump :=
  ⟨tbprogsisJump_0, tbprogsisJump_1, tbprogsisJump_2, tbprogsisJump_3, trivial⟩
def tbprogsisJump_hk : Hook := onlyH 122 (guardH (memoHook h21 122 tbprogsisJump))
theorem tbprogsisJump_hk_ok : HookOk2 Tryz.prog tbprogsisJump_hk := only_ok (guard_ok (memoHook_ok rfl tbprogsisJump_tab))
def tbprogsisCall : Tab := [
  ([.int .u8 183], .bool false),
  ([.int .u8 149], .bool false),
  ([.int .u8 191], .bool false),
  ([.int .u8 15], .bool false),
  ([.int .u8 121], .bool false)]
set_option maxHeartbeats 0 in
set_option maxRecDepth 1000000 in
theorem tbprogsisCall_0 (w : World) (hL : Laid h21 w) : Calls Tryz.prog 119 ⟨[.int .u8 183]⟩ w fun e w' => e = .returned (.bool false) ∧ Gr w w' :=
  reckonX_ok noNG (guard_ok (noHook_ok _)) 100000 300 h21 rfl rfl (by kernel_rfl) w hL
set_option maxHeartbeats 0 in
set_option maxRecDepth 1000000 in
theorem tbprogsisCall_1 (w : World) (hL : Laid h21 w) : Calls Tryz.prog 119 ⟨[.int .u8 149]⟩ w fun e w' => e = .returned (.bool false) ∧ Gr w w' :=
  reckonX_ok noNG (guard_ok (noHook_ok _)) 100000 300 h21 rfl rfl (by kernel_rfl) w hL
set_option maxHeartbeats 0 in
set_option maxRecDepth 1000000 in
theorem tbprogsisCall_2 (w : World) (hL : Laid h21 w) : Calls Tryz.prog 119 ⟨[.int .u8 191]⟩ w fun e w' => e = .returned (.bool false) ∧ Gr w w' :=
  reckonX_ok noNG (guard_ok (noHook_ok _)) 100000 300 h21 rfl rfl (by kernel_rfl) w hL
set_option maxHeartbeats 0 in
set_option maxRecDepth 1000000 in
theorem tbprogsisCall_3 (w : World) (hL : Laid h21 w) : Calls Tryz.prog 119 ⟨[.int .u8 15]⟩ w fun e w' => e = .returned (.bool false) ∧ Gr w w' :=
  reckonX_ok noNG (guard_ok (noHook_ok _)) 100000 300 h21 rfl rfl (by kernel_rfl) w hL
set_option maxHeartbeats 0 in
set_option maxRecDepth 1000000 in
theorem tbprogsisCall_4 (w : World) (hL : Laid h21 w) : Calls Tryz.prog 119 ⟨[.int .u8 121]⟩ w fun e w' => e = .returned (.bool false) ∧ Gr w w' :=
  reckonX_ok noNG (guard_ok (noHook_ok _)) 100000 300 h21 rfl rfl (by kernel_rfl) w hL
theorem tbprogsisCall_tab : TabOk Tryz.prog h21 119 tbprogsisCall :=
  ⟨tbprogsisCall_0, tbprogsisCall_1, tbprogsisCall_2, tbprogsisCall_3, tbprogsisCall_4, trivial⟩
def tbprogsisCall_hk : Hook := onlyH 119 (guardH (memoHook h21 119 tbprogsisCall))
theorem tbprogsisCall_hk_ok : HookOk2 Tryz.prog tbprogsisCall_hk := only_ok (guard_ok (memoHook_ok rfl tbprogsisCall_tab))
def hk21 : Hook := orHook tbinsnsSize_hk (orHook tbinsnsCheck_hk (orHook tbprogsjumps_hk (orHook tbscalarsTight_hk (orHook tbscalarsConst_hk (orHook tbscalarsHas_hk (orHook tbprogsisExit_hk (orHook tbprogsisJump_hk (orHook tbprogsisCall_hk ((guardH noHook))))))))))
theorem hk21_ok : HookOk2 Tryz.prog hk21 := orHook2_ok tbinsnsSize_hk_ok (orHook2_ok tbinsnsCheck_hk_ok (orHook2_ok tbprogsjumps_hk_ok (orHook2_ok tbscalarsTight_hk_ok (orHook2_ok tbscalarsConst_hk_ok (orHook2_ok tbscalarsHas_hk_ok (orHook2_ok tbprogsisExit_hk_ok (orHook2_ok tbprogsisJump_hk_ok (orHook2_ok tbprogsisCall_hk_ok ((guard_ok (noHook_ok _)))))))))))
end Go.Proofs.YtpkjgcfdemnohaaGreatDoor.Ex
end
section
namespace Go.Proofs.YtpkjgcfdemnohaaGreatDoor.Ex
open Go Go.RowKit Go.ChangeShapes Go.WideShapes Go.WideMaps Go.WideElems
set_option linter.unusedVariables false
def slfirewalllaw21told_0 : SlCall := ⟨[], [.int .u8 15, .int .u8 0, .int .u8 1, .int .i16 0, .int .i32 0, .int .u8 149, .int .u8 0, .int .u8 0, .int .i16 0, .int .i32 0], 2, .int .i64 101⟩
set_option maxHeartbeats 0 in
set_option maxRecDepth 1000000 in
theorem slfirewalllaw21told_0_ok : SlOk Tryz.prog h21 28 slfirewalllaw21told_0 := reckonSl_ok noNG hk21_ok 100000 300 h21 (cs := []) rfl (by kernel_rfl) rfl
def slfirewalllaw21told_1 : SlCall := ⟨[], [.int .u8 121, .int .u8 0, .int .u8 10, .int .i16 (-8), .int .i32 0, .int .u8 149, .int .u8 0, .int .u8 0, .int .i16 0, .int .i32 0], 2, .int .i64 101⟩
set_option maxHeartbeats 0 in
set_option maxRecDepth 1000000 in
theorem slfirewalllaw21told_1_ok : SlOk Tryz.prog h21 28 slfirewalllaw21told_1 := reckonSl_ok noNG hk21_ok 100000 300 h21 (cs := []) rfl (by kernel_rfl) rfl
def slfirewalllaw21told_2 : SlCall := ⟨[], [.int .u8 121, .int .u8 0, .int .u8 10, .int .i16 8, .int .i32 0, .int .u8 149, .int .u8 0, .int .u8 0, .int .i16 0, .int .i32 0], 2, .int .i64 181⟩
set_option maxHeartbeats 0 in
set_option maxRecDepth 1000000 in
theorem slfirewalllaw21told_2_ok : SlOk Tryz.prog h21 28 slfirewalllaw21told_2 := reckonSl_ok noNG hk21_ok 100000 300 h21 (cs := []) rfl (by kernel_rfl) rfl
def slfirewalllaw21told : List SlCall := [slfirewalllaw21told_0, slfirewalllaw21told_1, slfirewalllaw21told_2]
theorem slfirewalllaw21told_ok : ∀ e ∈ slfirewalllaw21told, SlOk Tryz.prog h21 28 e := by
  intro e he
  simp only [slfirewalllaw21told, List.mem_cons, List.not_mem_nil, or_false] at he
  rcases he with rfl | rfl | rfl
  · exact slfirewalllaw21told_0_ok
  · exact slfirewalllaw21told_1_ok
  · exact slfirewalllaw21told_2_ok
def slfirewalllaw21told_hk : Hook := slHook h21 28 slfirewalllaw21told
theorem slfirewalllaw21told_hk_ok : HookOk2 Tryz.prog slfirewalllaw21told_hk := slHook_ok rfl rfl slfirewalllaw21told_ok
def hk21k : Hook := orHook slfirewalllaw21told_hk (hk21)
theorem hk21k_ok : HookOk2 Tryz.prog hk21k := orHook2_ok slfirewalllaw21told_hk_ok (hk21_ok)
set_option maxHeartbeats 0 in
set_option maxRecDepth 1000000 in
theorem knows_any (w : World) (hL : Laid h21 w) : Calls Tryz.prog 10 #[] w fun e w' => e = .returned (.bool true) ∧ Gr w w' :=
  reckonX_ok noNG hk21k_ok 100000 300 h21 rfl rfl (by kernel_rfl) w hL
end Go.Proofs.YtpkjgcfdemnohaaGreatDoor.Ex
end
section
namespace Go.Proofs.YtpkjgcfdemnohaaGreatDoor.Ex
open Go Go.RowKit
/-- Where the slices lie that came in: blocks that are given up, behind the package's variables. -/
def placeV (h0 : List AO) (pls : List Pl) (w : World) : Ren := fun g => if g < h0.length then placeG h0 w g else pls[g - h0.length]?
def heapV (h0 : List AO) (n : Nat) : List AO := h0 ++ List.replicate n dead
theorem placeG_dom {h0 : List AO} {w : World} {g : Nat} {p : Pl} (h : placeG h0 w g = some p) : g < h0.length := by
  unfold placeG at h
  split at h
  · rename_i ho _
    exact (List.getElem?_eq_some_iff.1 ho).1
  · cases h
theorem HR.startV {h0 : List AO} {w : World} (hL : Laid h0 w) {pls : List Pl} (hp : ∀ p ∈ pls, p.blk < w.heap.size ∧ p.es = none) : HR w (heapV h0 pls.length).length (placeV h0 pls w) (heapV h0 pls.length) w := by
  have H := HR.start hL
  have old : ∀ (i : Nat) (o : AO), (heapV h0 pls.length)[i]? = some o → o.live = true → i < h0.length ∧ h0[i]? = some o := by
    intro i o ho hl
    unfold heapV at ho
    by_cases hi : i < h0.length
    · rw [List.getElem?_append_left hi] at ho; exact ⟨hi, ho⟩
    · rw [List.getElem?_append_right (by omega), List.getElem?_replicate] at ho
      split at ho
      · cases ho; cases hl
      · cases ho
  have pl : ∀ (g : Nat) (p : Pl), placeV h0 pls w g = some p → (g < h0.length ∧ placeG h0 w g = some p) ∨ (h0.length ≤ g ∧ g < h0.length + pls.length ∧ p ∈ pls) := by
    intro g p h
    unfold placeV at h
    split at h
    · rename_i hg; exact .inl ⟨hg, h⟩
    · rename_i hg
      have := (List.getElem?_eq_some_iff.1 h).1
      exact .inr ⟨by omega, by omega, List.mem_of_getElem? h⟩
  have lo : ∀ (g : Nat), g < h0.length → placeV h0 pls w g = placeG h0 w g := fun g hg => by unfold placeV; rw [if_pos hg]
  have hlen : (heapV h0 pls.length).length = h0.length + pls.length := by simp [heapV]
  refine ⟨Gr.refl w, Nat.le_refl _, fun i hi => ?_, fun i p h => ?_, fun i o ho hl => ?_, fun i j a b p q hi hj ha hb h1 h2 e => ?_, fun g p h hes => ?_⟩
  · rw [hlen] at hi
    unfold placeV
    rw [if_neg (by omega), List.getElem?_eq_none (by omega)]
  · rcases pl i p h with ⟨hi, hg⟩ | ⟨h1, h2, hm⟩
    · obtain ⟨_, _, h3⟩ := H.plc i p hg
      exact ⟨fun _ => h3, fun h => by rw [hlen] at h; omega, h3⟩
    · have := (hp p hm).1
      exact ⟨fun _ => this, fun h => by rw [hlen] at h; omega, this⟩
  · obtain ⟨hi, ho'⟩ := old i o ho hl
    obtain ⟨p, hp', he, hb⟩ := H.obj i o ho' hl
    refine ⟨p, by rw [lo i hi]; exact hp', he, hb.mono fun g q hq => ?_⟩
    rw [lo g (placeG_dom hq)]; exact hq
  · obtain ⟨hi1, hi2⟩ := old i a hi ha
    obtain ⟨hj1, hj2⟩ := old j b hj hb
    rw [lo i hi1] at h1
    rw [lo j hj1] at h2
    exact H.sep i j a b p q hi2 hj2 ha hb h1 h2 e
  · rcases pl g p h with ⟨hi, hg⟩ | ⟨_, _, hm⟩
    · exact H.gl g p hg hes
    · rw [(hp p hm).2] at hes; cases hes
theorem reckonV_ok {P : Program} (hng : NoNG P) {hk : Hook} (hhk : HookOk2 P hk) (orc : Orc) (L f : Nat) (h0 : List AO) (pls : List Pl) {g : FuncId} {args args' : List Value} {v : Value} {cs : Cs} (hv : flat v = true)
    (h : reckonGC P hk orc L f (heapV h0 pls.length) g args = some (v, cs)) (he : cs.map (·.1) = cs.map (·.2)) (w : World) (hL : Laid h0 w) (hp : ∀ p ∈ pls, p.blk < w.heap.size ∧ p.es = none) (ha : LR (placeV h0 pls w) args args') :
    Calls P g ⟨args'⟩ w fun e w' => e = .returned v ∧ Gr w w' := by
  unfold reckonGC ranG at h
  cases hc : callA P ⟨ex P (aOp P) (drawE P) (liftH hk) orc accQ L f, liftH hk, fun _ _ => none, accQ⟩ g args (heapV h0 pls.length) with
  | none => rw [hc] at h; cases h
  | some r =>
    obtain ⟨v', h', m⟩ := r
    rw [hc] at h
    simp only at h
    split at h
    · rename_i r2 v2 h2 m2 hm2
      split at hm2
      · rename_i hq
        cases hm2
        simp only [Option.some.injEq, Prod.mk.injEq] at h
        obtain ⟨rfl, rfl⟩ := h
        refine (callA_ok (ex_ok accQ_eq hng (aOp_ok P hng) (drawE_ok P) (drawE_low P) (lift_ok hhk) L f _) hc (wb := w) (k := (heapV h0 pls.length).length) (s := placeV h0 pls w) ⟨quietB_ok hq, map_same he⟩ ha (HR.startV hL hp)).mono ?_
        rintro e w' ⟨s', u, rfl, _, H, hvr⟩
        rw [hvr.eq_of_flat hv]
        exact ⟨rfl, H.grown⟩
      · cases hm2
    · cases h
/-- A slice that came in, by the place that was set up for it. -/
theorem vr_slV {h0 : List AO} {pls : List Pl} {w : World} {i b off l c : Nat} (h : pls[i]? = some ⟨b, off, 0, none⟩) : VR (placeV h0 pls w) (.slice (some ⟨h0.length + i, 0, none⟩) l c) (.slice (some ⟨b, off, none⟩) l c) := by
  have e : placeV h0 pls w (h0.length + i) = some ⟨b, off, 0, none⟩ := by
    unfold placeV
    rw [if_neg (by omega), Nat.add_sub_cancel_left]
    exact h
  exact VR.slice (a := ⟨h0.length + i, 0, none⟩) (p := ⟨b, off, 0, none⟩) rfl e rfl
end Go.Proofs.YtpkjgcfdemnohaaGreatDoor.Ex
end
section
namespace Go.Proofs.YtpkjgcfdemnohaaGreatDoor
open Go.ChangeShapes Go.WideShapes Go.RowKit

inductive Kv where
  | i (k : IntKind)
  | b
  | s
  | l
def Kv.ok (W : World) : Kv → Value → Prop
  | .i k, v => ∃ n, v = .int k n ∧ (Lit.int k n).wf = true
  | .b, v => ∃ x, v = .bool x
  | .s, v => ∃ x : ByteArray, v = .string x ∧ (x.size : Int) ≤ IntKind.i64.max
  | .l, v => v = .slice none 0 0 ∨ ∃ b off len cap, v = .slice (some ⟨b, off, none⟩) len cap ∧ len ≤ cap ∧ (cap : Int) ≤ IntKind.i64.max ∧ b < W.heap.size
def okV (W : World) : List Kv → List Value → Prop
  | [], [] => True
  | k :: ks, v :: vs => k.ok W v ∧ okV W ks vs
  | _, _ => False
theorem okV.nil {W : World} {cs : List Value} (h : okV W [] cs) : cs = [] := by cases cs with | nil => rfl | cons _ _ => exact h.elim
theorem okV.cons {W : World} {k : Kv} {ks : List Kv} {cs : List Value} (h : okV W (k :: ks) cs) : ∃ v vs, cs = v :: vs ∧ k.ok W v ∧ okV W ks vs := by
  cases cs with
  | nil => exact h.elim
  | cons v vs => exact ⟨v, vs, rfl, h.1, h.2⟩
theorem okV.of_get {W : World} : ∀ {ks : List Kv} {cs : List Value}, cs.length = ks.length → (∀ (i : Nat) (k : Kv) (v : Value), ks[i]? = some k → cs[i]? = some v → k.ok W v) → okV W ks cs
  | [], [], _, _ => trivial
  | [], _ :: _, h, _ => by simp at h
  | _ :: _, [], h, _ => by simp at h
  | k :: ks, v :: vs, h, hg => ⟨hg 0 k v rfl rfl, okV.of_get (by simpa using h) fun i k' v' h1 h2 => hg (i + 1) k' v' (by simpa using h1) (by simpa using h2)⟩
def kvOf (P : Program) (u : TypeId) : Option Kv :=
  match P.underlying u with
  | some .bool => some .b
  | some (.int k) => some (.i k)
  | some .string => some .s
  | some (.slice _) => some .l
  | _ => none
def kvsL (P : Program) : List TypeId → Option (List Kv)
  | [] => some []
  | t :: ts =>
    match kvOf P t with
    | some k =>
      match kvsL P ts with
      | some ks => some (k :: ks)
      | none => none
    | none => none
def kvsT (P : Program) (t : TypeId) : Option (List Kv) :=
  match P.underlying t with
  | some (.struct _) | some (.array _ _) =>
    match P.cellTypes P.depth t with
    | some ts => if P.cellsOf t = ts.length then kvsL P ts else none
    | none => none
  | _ => none
section
variable {P : Program} {W : World} {base : Nat}
theorem wf_of_has {k : IntKind} {n : Int} (h : k.has n) : (Lit.int k n).wf = true := by
  obtain ⟨h1, h2⟩ := h
  simp [Lit.wf, h1, h2]
theorem kv_cell {u : TypeId} {k : Kv} (h : kvOf P u = some k) {v : Value} (hc : Cell.okWide P W .any base u v) : k.ok W v := by
  unfold kvOf at h
  split at h
  · rename_i hu
    cases h
    simp only [Cell.okWide, hu, Cell.ok] at hc
    cases v <;> first | exact ⟨_, rfl⟩ | exact hc.elim
  · rename_i k' hu
    cases h
    simp only [Cell.okWide, hu, Cell.ok] at hc
    cases v <;> first | exact hc.elim | skip
    rename_i k2 n
    obtain ⟨rfl, h2⟩ := hc
    exact ⟨n, rfl, wf_of_has h2⟩
  · rename_i hu
    cases h
    simp only [Cell.okWide, hu, Cell.ok] at hc
    cases v <;> first | exact hc.elim | exact ⟨_, rfl, hc⟩
  · rename_i e hu
    cases h
    simp only [Cell.okWide, hu, Cell.ok] at hc
    cases v <;> first | exact hc.elim | skip
    rename_i a l c
    cases a with
    | none =>
      left
      split at hc <;> simp_all
    | some a =>
      right
      obtain ⟨b, off, sp⟩ := a
      simp only [World.has] at hc
      obtain ⟨h1, h2, _, rfl, row, cells, hs, _⟩ := hc
      refine ⟨b, off, l, c, rfl, h1, h2, ?_⟩
      unfold World.shape? at hs
      split at hs
      · rename_i hh
        exact (Array.getElem?_eq_some_iff.1 hh).1
      · cases hs
  · cases h
theorem kvsL_get : ∀ {ts : List TypeId} {ks : List Kv}, kvsL P ts = some ks → ks.length = ts.length ∧ ∀ (i : Nat) (u : TypeId) (k : Kv), ts[i]? = some u → ks[i]? = some k → kvOf P u = some k
  | [], ks, h => by simp [kvsL] at h; subst h; exact ⟨rfl, fun i u k h => by simp at h⟩
  | t :: ts, ks, h => by
    simp only [kvsL] at h
    split at h
    · rename_i k hk
      split at h
      · rename_i ks' hks
        cases h
        obtain ⟨h1, h2⟩ := kvsL_get hks
        refine ⟨by simp [h1], fun i u k' hu hk' => ?_⟩
        cases i with
        | zero => simp at hu hk'; subst hu hk'; exact hk
        | succ i => exact h2 i u k' (by simpa using hu) (by simpa using hk')
      · cases h
    · cases h
theorem open_kv {t : TypeId} {ks : List Kv} (h : kvsT P t = some ks) {v : Value} (hv : Value.okWide P W .any base t v) : ∃ cs, v = .agg ⟨cs⟩ ∧ okV W ks cs := by
  unfold kvsT at h
  have key : ∀ {ts : List TypeId}, P.cellTypes P.depth t = some ts → P.cellsOf t = ts.length → kvsL P ts = some ks → (∃ cs, v = .agg cs ∧ cs.size = P.cellsOf t ∧ Row.okWide P W .any base t cs) → ∃ cs, v = .agg ⟨cs⟩ ∧ okV W ks cs := by
    rintro ts h1 h2 h3 ⟨⟨cs⟩, rfl, hn, us, hus, _, hc⟩
    rw [h1] at hus
    cases hus
    obtain ⟨g1, g2⟩ := kvsL_get h3
    refine ⟨cs, rfl, okV.of_get (by rw [g1, ← h2]; simpa using hn) fun i k x hk hx => ?_⟩
    obtain ⟨u, hu, hcu⟩ := hc i x (by simpa using hx)
    have hi : i < ts.length := by rw [← g1]; exact (List.getElem?_eq_some_iff.1 hk).1
    rw [Nat.mod_eq_of_lt hi] at hu
    exact kv_cell (g2 i u k hu hk) hcu
  split at h
  · rename_i hu
    split at h
    · rename_i ts hts
      split at h
      · rename_i hn
        exact key hts hn h (by simpa only [Value.okWide, hu] using hv)
      · cases h
    · cases h
  · rename_i hu
    split at h
    · rename_i ts hts
      split at h
      · rename_i hn
        exact key hts hn h (by simpa only [Value.okWide, hu] using hv)
      · cases h
    · cases h
  · cases h
theorem open_kv1 {t : TypeId} {k : Kv} (h : kvOf P t = some k) {v : Value} (hv : Value.okWide P W .any base t v) : k.ok W v := by
  refine kv_cell h (base := base) ?_
  unfold kvOf at h
  unfold Value.okWide at hv
  split at hv
  · rename_i hu; rw [hu] at h; cases h
  · rename_i hu; rw [hu] at h; cases h
  · exact hv
variable {H : Type} {enc : TypeId × Value → H}
theorem trodAll_stays (hl : laidOutB P = true) {W' : World} {sp' : Nat → Bool} : ∀ {ts : List TypeId} {vs : List Value} {ds : List (DataW H)} {ps : List MemPlace}, (ts.all fun t => P.readableRec t && decide (t < P.types.size)) = true →
    DataW.TrodAll enc P W base (fun _ => true) true ts vs ds ps → (∀ p ∈ ps, W.sameAt W' p) → (∀ p ∈ ps, sp' p.block = true) → DataW.TrodAll enc P W' base sp' true ts vs ds ps
  | [], vs, ds, ps, _, h, _, _ => by
    cases vs with
    | nil => cases ds with
      | nil => exact h
      | cons _ _ => exact h.elim
    | cons _ _ => exact h.elim
  | t :: ts, vs, ds, ps, hr, h, hs, hsp => by
    obtain ⟨v, vs', d, ds', p, q, rfl, rfl, rfl, h1, h2⟩ := trodAll_cons h
    simp only [List.all_cons, Bool.and_eq_true, decide_eq_true_eq] at hr
    exact ⟨p, q, Go.WideElems.Trod_stays hl hr.1.1 hr.1.2 h1 (fun x hx => hs x (List.mem_append_left _ hx)) (fun x hx => hsp x (List.mem_append_left _ hx)),
      trodAll_stays hl hr.2 h2 (fun x hx => hs x (List.mem_append_right _ hx)) (fun x hx => hsp x (List.mem_append_right _ hx)), rfl⟩
theorem sameAt_of_gr {W W' : World} (h : Ex.Gr W W') {p : MemPlace} (hp : p.block < W.heap.size) : W.sameAt W' p := by
  cases p with
  | cell b off => exact Ex.gr_cell h (a := ⟨b, off, none⟩) hp
  | map b => exact h.2.1 b hp
end
end Go.Proofs.YtpkjgcfdemnohaaGreatDoor
end
section
namespace Go.Proofs.YtpkjgcfdemnohaaGreatDoor.Ex
open Go Go.RowKit
set_option linter.unusedVariables false
def mxI (p : Int) : Int := if 0 > p then 0 else p
def mnI (p : Int) : Int := if -1 < p then -1 else p
def farI (n : Nat) (p : Int) : Int := IntKind.i64.wrap ((n : Int) + mxI p)
def snHk : Hook := onlyH 10 (guardH (memoHook h21 10 [([], .bool true)]))
theorem snHk_ok : HookOk2 Tryz.prog snHk := only_ok (guard_ok (memoHook_ok rfl ⟨fun w hL => knows_any w hL, trivial⟩))
def snOrc (long neg : Bool) (b : Nat) : Orc := fun f t x =>
  if Nat.beq f 4 && Nat.beq t 13 then some (.bool long)
  else if Nat.beq f 11 && Nat.beq t 18 then
    (match (x[5]? : Option Value) with
     | some (.pointer (some a)) => if Nat.beq a.block b then some (.bool neg) else some (.bool true)
     | _ => none)
  else if Nat.beq f 11 && Nat.beq t 22 && !neg then some (.bool true)
  else none
set_option maxHeartbeats 0 in
set_option maxRecDepth 1000000 in
theorem sn_long (n c : Nat) (p : Int) : reckonGC Tryz.prog snHk (snOrc true true 0) 100000 300 (heapV h21 1) 4 [.slice (some ⟨h21.length + 0, 0, none⟩) n c, .int .i64 p] = some (.bool true, [(b2i (decide ((n : Int) > 64)), 1)]) := by kernel_rfl
set_option maxHeartbeats 0 in
set_option maxRecDepth 1000000 in
theorem sn_neg (n c : Nat) (p : Int) : reckonGC Tryz.prog snHk (snOrc false true 0) 100000 300 (heapV h21 1) 4 [.slice (some ⟨h21.length + 0, 0, none⟩) n c, .int .i64 p] =
    some (.bool true, [(b2i (decide ((n : Int) > 64)), 0), (b2i (decide (farI n p < 0)), 1), (b2i (decide (mnI p < 0)), 1)]) := by kernel_rfl
set_option maxHeartbeats 0 in
set_option maxRecDepth 1000000 in
theorem sn_far (n c : Nat) (p : Int) : reckonGC Tryz.prog snHk (snOrc false false (h21.length + 1)) 100000 300 (heapV h21 1) 4 [.slice (some ⟨h21.length + 0, 0, none⟩) n c, .int .i64 p] =
    some (.bool true, [(b2i (decide ((n : Int) > 64)), 0), (b2i (decide (farI n p < 0)), 0), (b2i (decide (farI n p ≥ (n : Int))), 1), (b2i (decide (mnI p < 0)), 1)]) := by kernel_rfl
def snOrc0 (neg : Bool) : Orc := fun f t x =>
  if Nat.beq f 11 && Nat.beq t 18 then
    (match (x[5]? : Option Value) with
     | some (.pointer (some a)) => if Nat.beq a.block h21.length then some (.bool neg) else some (.bool true)
     | _ => none)
  else if Nat.beq f 11 && Nat.beq t 22 && !neg then some (.bool true)
  else none
set_option maxHeartbeats 0 in
set_option maxRecDepth 1000000 in
theorem sn_negO (p : Int) : reckonGC Tryz.prog snHk (snOrc0 true) 100000 300 (heapV h21 0) 4 [.slice none 0 0, .int .i64 p] =
    some (.bool true, [(b2i (decide (farI 0 p < 0)), 1), (b2i (decide (mnI p < 0)), 1)]) := by kernel_rfl
set_option maxHeartbeats 0 in
set_option maxRecDepth 1000000 in
theorem sn_farO (p : Int) : reckonGC Tryz.prog snHk (snOrc0 false) 100000 300 (heapV h21 0) 4 [.slice none 0 0, .int .i64 p] =
    some (.bool true, [(b2i (decide (farI 0 p < 0)), 0), (b2i (decide (farI 0 p ≥ 0)), 1), (b2i (decide (mnI p < 0)), 1)]) := by kernel_rfl
theorem i64_wrap (x : Int) : IntKind.i64.wrap x = if x % 18446744073709551616 ≥ 9223372036854775808 then x % 18446744073709551616 - 18446744073709551616 else x % 18446744073709551616 := by
  simp [IntKind.wrap, IntKind.signed, IntKind.bits]
theorem mn_neg (p : Int) : mnI p < 0 := by unfold mnI; split <;> omega
theorem far_ge {n : Nat} {p : Int} (hn : (n : Int) ≤ 64) (hp : p ≤ 9223372036854775807) (h : ¬ farI n p < 0) : farI n p ≥ n := by
  unfold farI at h ⊢
  have hm : 0 ≤ mxI p ∧ mxI p ≤ 9223372036854775807 := by unfold mxI; split <;> omega
  rw [i64_wrap] at h ⊢
  generalize mxI p = m at hm h ⊢
  split at h <;> (split <;> omega)
theorem stepsNone_walk {W : World} (v : Value) (w0 : Kv.ok W .l v) (p : Int) (w1 : (Lit.int .i64 p).wf = true) (hT : TabAt W) : Calls Tryz.prog 4 #[v, .int .i64 p] W fun e w' => e = .returned (.bool true) ∧ Gr W w' := by
  have hp : p ≤ 9223372036854775807 := by
    simp only [Lit.wf, Bool.and_eq_true, decide_eq_true_eq] at w1
    have h2 : p ≤ IntKind.i64.max := w1.2
    rw [show IntKind.i64.max = 9223372036854775807 by decide] at h2
    exact h2
  have hmn : decide (mnI p < 0) = true := decide_eq_true (mn_neg p)
  rcases w0 with rfl | ⟨b, off, n, c, rfl, hnc, hc, hb⟩
  · by_cases h : farI 0 p < 0
    · refine reckonV_ok noNG snHk_ok (snOrc0 true) 100000 300 h21 [] rfl (sn_negO p) ?_ W (laid_of_tab hT) (fun p hp => by cases hp) (LR.ofFlat rfl)
      simp only [List.map, hmn, decide_eq_true h]; rfl
    · refine reckonV_ok noNG snHk_ok (snOrc0 false) 100000 300 h21 [] rfl (sn_farO p) ?_ W (laid_of_tab hT) (fun p hp => by cases hp) (LR.ofFlat rfl)
      have h2 : farI 0 p ≥ 0 := by omega
      simp only [List.map, hmn, decide_eq_false h, decide_eq_true h2]; rfl
  · have key : ∀ (o : Orc) (cs : Cs), reckonGC Tryz.prog snHk o 100000 300 (heapV h21 1) 4 [.slice (some ⟨h21.length + 0, 0, none⟩) n c, .int .i64 p] = some (.bool true, cs) → cs.map (·.1) = cs.map (·.2) →
        Calls Tryz.prog 4 #[.slice (some ⟨b, off, none⟩) n c, .int .i64 p] W fun e w' => e = .returned (.bool true) ∧ Gr W w' := fun o cs h he =>
      reckonV_ok noNG snHk_ok o 100000 300 h21 [⟨b, off, 0, none⟩] rfl h he W (laid_of_tab hT) (fun q hq => by
        obtain rfl := List.mem_singleton.1 hq
        exact ⟨hb, rfl⟩) (LR.cons (vr_slV (i := 0) rfl) (LR.ofFlat rfl))
    by_cases hl : (n : Int) > 64
    · exact key _ _ (sn_long n c p) (by simp only [List.map, decide_eq_true hl]; rfl)
    · by_cases h : farI n p < 0
      · exact key _ _ (sn_neg n c p) (by simp only [List.map, decide_eq_false hl, decide_eq_true h, hmn]; rfl)
      · exact key _ _ (sn_far n c p) (by simp only [List.map, decide_eq_false hl, decide_eq_false h, decide_eq_true (far_ge (by omega) hp h), hmn]; rfl)
end Go.Proofs.YtpkjgcfdemnohaaGreatDoor.Ex
end
section
namespace Go.Proofs.YtpkjgcfdemnohaaGreatDoor.Ex
open Go Go.RowKit Go.WideShapes Go.ChangeShapes

theorem gr_frame {W W' : World} (h : Gr W W') (may : MemPlace → Prop) : W.keptBut W' may := by
  refine ⟨h.1.1, h.1.2, fun i hi => ?_⟩
  rw [h.2.1 i hi]
  split <;> simp_all
section
variable {H : Type} {enc : TypeId × Value → H} {P : Program}
theorem post_of_gr {f : Func} {s : ChangeSpec} {apart fresh handsOn again : Bool} {W W' : World} {args : Array Value} {v : Value} {ds gs : List (DataW H)} {before pa pv : List MemPlace}
    (hW : DataW.Whole enc P f.params.toList s.vars apart W args.toList ds gs before)
    (hres : ∀ (b : Nat) (sp : Nat → Bool) (hd : Bool), DataW.TrodAll enc P W' b sp hd f.resultTypes.toList (v.resultList f.resultTypes.size) (s.fn H (ds ++ gs)).results [])
    (hargs : ∀ sp : Nat → Bool, (∀ p ∈ before, sp p.block = true) → DataW.TrodAll enc P W' 0 sp true f.params.toList args.toList (s.fn H (ds ++ gs)).args pa)
    (hvars : ∀ sp : Nat → Bool, (∀ p ∈ before, sp p.block = true) → DataW.TrodVars enc P W' sp s.vars (s.fn H (ds ++ gs)).vars pv)
    (hps : before = pa ++ pv) (hg : Gr W W')
    (hok : ∀ (j : Nat) (t : TypeId) (r : Value), f.resultTypes[j]? = some t → (v.resultList f.resultTypes.size)[j]? = some r → Value.okWide P W' .any 0 t r) :
    s.post enc P f apart fresh handsOn again W args v W' := by
  have hlt : ∀ p ∈ before, p.block < W.heap.size := fun p hp => hW.lt p hp
  have hold : ∀ p ∈ before, (fun b => decide (b < W.heap.size)) p.block = true := fun p hp => by simpa using hlt p hp
  refine ⟨ds, gs, before, [], pa, pv, hW, hres _ _ _, hargs _ hold, hvars _ hold, World.keptBut_mono (fun p hp => ⟨hp, ?_⟩) (gr_frame hg (· ∈ before)), fun _ => ?_⟩
  · rw [hps, List.mem_append] at hp
    exact Or.inr hp
  · obtain ⟨_, _, _, _, _, hz, hn⟩ := hW
    refine ⟨hok, _, _, ([] ++ pa) ++ pv, ⟨[] ++ pa, pv, trodAll_append (hargs _ (fun _ _ => rfl)) (hres _ _ _), hvars _ (fun _ _ => rfl), rfl, ?_, ?_⟩, ?_⟩
    · intro b off hp
      have hin : MemPlace.cell b off ∈ before := by rw [hps]; simpa using hp
      rw [gr_frozen hg (hlt _ hin)]
      exact hz b off hin
    · intro ha
      have := hn ha
      rw [hps] at this
      simpa using this
    · intro p hp _
      rw [hps]
      simpa using hp
end
end Go.Proofs.YtpkjgcfdemnohaaGreatDoor.Ex
end
