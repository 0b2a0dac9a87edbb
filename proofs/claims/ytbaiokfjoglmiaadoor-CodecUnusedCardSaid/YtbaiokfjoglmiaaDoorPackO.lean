/-
  Lemmas for the laws of this seat, part O: Ex14, LaidArr, Plain, Flat, NoNG, Law12a, Memo, Law12b, NumsMath, Cd1, Cd2.
-/
import Derived.Test.YtbaiokfjoglmiaaDoorPackN
import Derived.OpenShut
import Derived.MakeChecks
import Derived.Deep.Fields
import Derived.ChangeSame
import Derived.ProofKit
import Derived.WalkKit
import Derived.ShutString
import Derived.Test.YtbaiokfjoglmiaaDoorProg
import Derived.Test.YtbaiokfjoglmiaaDoorRows
section
namespace Go.Proofs.YtbaiokfjoglmiaaDoor.Ex
open Go Go.RowKit

/-- The first blocks: a package's variables; those that are not spoken of are given up. -/
def placeG (h0 : List AO) (w : World) : Ren := fun g =>
  match h0[g]?, w.shape? g with
  | some o, some (_, tot) => if o.live then some ⟨g, 0, tot, some GM⟩ else none
  | _, _ => none
def Laid (h0 : List AO) (w : World) : Prop :=
  ∀ (g : Nat) (o : AO), h0[g]? = some o → o.live = true → o.es = some GM ∧ o.cs.all flat = true ∧ ∃ T tot, w.shape? g = some (T, tot) ∧ o.cs.length ≤ tot ∧ ∀ (j : Nat) (v : Value), o.cs[j]? = some v → w.cell? ⟨g, j, none⟩ = some v
theorem shape_cells {w : World} {g : Nat} {T : TypeId} {n : Nat} (h : w.shape? g = some (T, n)) : g < w.heap.size ∧ ∀ j, j < n → (w.cell? ⟨g, j, none⟩).isSome = true := by
  unfold World.shape? at h
  split at h
  · rename_i c e f hh
    cases h
    refine ⟨(Array.getElem?_eq_some_iff.1 hh).1, fun j hj => ?_⟩
    unfold World.cell?
    simp only [hh]
    simpa using hj
  · cases h
theorem HR.start {h0 : List AO} {w : World} (hL : Laid h0 w) : HR w h0.length (placeG h0 w) h0 w := by
  have pl : ∀ g p, placeG h0 w g = some p → ∃ o T tot, h0[g]? = some o ∧ o.live = true ∧ w.shape? g = some (T, tot) ∧ p = ⟨g, 0, tot, some GM⟩ := by
    intro g p hp
    unfold placeG at hp
    split at hp
    · rename_i o T tot ho hs
      split at hp
      · rename_i hl; cases hp; exact ⟨o, T, tot, ho, hl, hs, rfl⟩
      · cases hp
    · cases hp
  refine ⟨Gr.refl w, Nat.le_refl _, fun i hi => ?_, fun i p hp => ?_, fun i o ho hl => ?_, fun i j a b p q hi hj _ _ hp hq e => ?_, fun g p hp _ => ?_⟩
  · unfold placeG
    rw [List.getElem?_eq_none hi]
  · obtain ⟨o, T, tot, ho, hl, hs, rfl⟩ := pl i p hp
    have := (shape_cells hs).1
    have hlt := (List.getElem?_eq_some_iff.1 ho).1
    exact ⟨fun _ => this, fun h => absurd h (by omega), this⟩
  · obtain ⟨he, hf, T, tot, hs, hle, hc⟩ := hL i o ho hl
    refine ⟨⟨i, 0, tot, some GM⟩, by unfold placeG; simp [ho, hl, hs], he.symm, ObjAt.block (by unfold isM; rw [he]; rfl) ⟨by simpa using hle, (shape_cells hs).2, ⟨T, hs⟩, fun hg => absurd rfl hg, fun j v hv => ⟨v, ?_, .same (all_get hf hv)⟩⟩⟩
    rw [Nat.zero_add]
    exact hc j v hv
  · obtain ⟨_, _, _, _, _, _, rfl⟩ := pl i p hp
    obtain ⟨_, _, _, _, _, _, rfl⟩ := pl j q hq
    exact e
  · obtain ⟨_, _, _, _, _, _, rfl⟩ := pl g p hp
    exact ⟨rfl, rfl⟩
/-- A memory that is told by a heap whose first blocks are such variables has these. -/
def eqI : Value → Value → Bool
  | .int k a, .int j b => if k = j then a == b else false
  | x, y => veq0 x y
theorem eqI_ok {x y : Value} (h : eqI x y = true) : x = y := by
  unfold eqI at h
  split at h
  · split at h
    · rename_i hk; rw [hk, eq_of_beq h]
    · cases h
  · exact veq0_ok h
def eqL : List Value → List Value → Bool
  | [], [] => true
  | x :: xs, y :: ys => eqI x y && eqL xs ys
  | _, _ => false
theorem eqL_ok : ∀ {xs ys : List Value}, eqL xs ys = true → xs = ys
  | [], [], _ => rfl
  | x :: xs, y :: ys, h => by
    simp only [eqL, Bool.and_eq_true] at h
    rw [eqI_ok h.1, eqL_ok h.2]
  | [], _ :: _, h => by cases h
  | _ :: _, [], h => by cases h
def hasG : List AO → List AO → Bool
  | [], _ => true
  | _ :: _, [] => false
  | o :: l, p :: h => (!o.live || (p.live && (match p.es with | some e => Nat.beq e GM | none => false) && eqL p.cs o.cs)) && hasG l h
theorem hasG_at : ∀ {h0 h : List AO}, hasG h0 h = true → ∀ (g : Nat) (o : AO), h0[g]? = some o → o.live = true → ∃ p, h[g]? = some p ∧ p.live = true ∧ p.es = some GM ∧ p.cs = o.cs
  | [], _, _, g, o, ho, _ => by simp at ho
  | _ :: _, [], h, _, _, _, _ => by cases h
  | o :: l, p :: h, hh, g, q, hq, hl => by
    simp only [hasG, Bool.and_eq_true] at hh
    cases g with
    | succ g => simpa using hasG_at hh.2 g q (by simpa using hq) hl
    | zero =>
      simp at hq
      subst hq
      have h1 := hh.1
      simp only [hl, Bool.not_true, Bool.false_or, Bool.and_eq_true] at h1
      refine ⟨p, rfl, h1.1.1, ?_, eqL_ok h1.2⟩
      cases he : p.es with
      | none => rw [he] at h1; cases h1.1.2
      | some e => rw [he] at h1; rw [Nat.eq_of_beq_eq_true h1.1.2]
theorem HR.laid {wb : World} {k : Nat} {s : Ren} {h h0 : List AO} {w : World} (H : HR wb k s h w) (hh : hasG h0 h = true) (hf : h0.all (fun o => !o.live || (match o.es with | some e => Nat.beq e GM | none => false) && o.cs.all flat) = true) : Laid h0 w := by
  intro g o ho hl
  obtain ⟨p, hp, hpl, hpe, hpc⟩ := hasG_at hh g o ho hl
  have hfo := List.all_eq_true.1 hf o (List.mem_of_getElem? ho)
  simp only [hl, Bool.not_true, Bool.false_or, Bool.and_eq_true] at hfo
  have hoe : o.es = some GM := by
    cases he : o.es with
    | none => rw [he] at hfo; cases hfo.1
    | some e => rw [he] at hfo; rw [Nat.eq_of_beq_eq_true hfo.1]
  obtain ⟨q, hq, hqe, hb⟩ := H.obj g p hp hpl
  obtain ⟨e1, e2⟩ := H.gl g q hq (by rw [hqe, hpe])
  have B := hb.2 (by unfold isM; rw [hpe]; rfl)
  obtain ⟨T, hT⟩ := B.shp
  rw [e1] at hT
  refine ⟨hoe, hfo.2, T, q.tot, hT, ?_, fun j v hv => ?_⟩
  · have := B.fit
    rw [hpc] at this
    omega
  · obtain ⟨v', h1, h2⟩ := B.rel j v (by rw [hpc]; exact hv)
    rw [e1, e2, Nat.zero_add, h2.eq_of_flat (all_get hfo.2 hv)] at h1
    exact h1
noncomputable def ranG (P : Program) (hk : Hook) (orc : Orc) (L f : Nat) (h0 : List AO) (g : FuncId) (args : List Value) : Option (Value × List AO × Mk) :=
  match callA P ⟨ex P (aOp P) (drawE P) (liftH hk) orc accQ L f, liftH hk, fun _ _ => none, accQ⟩ g args h0 with
  | some (v, h, m) => if quietB h0.length m.1 then some (v, h, m) else none
  | none => none
noncomputable def reckonGL (P : Program) (hk : Hook) (orc : Orc) (L f : Nat) (h0 : List AO) (g : FuncId) (args : List Value) : Option (Value × List Int) :=
  match ranG P hk orc L f h0 g args with
  | some (v, _, m) => some (v, m.2.map (·.1))
  | none => none
noncomputable def reckonGR (P : Program) (hk : Hook) (orc : Orc) (L f : Nat) (h0 : List AO) (g : FuncId) (args : List Value) (v : Value) : Option (Value × List Int) :=
  match ranG P hk orc L f h0 g args with
  | some (_, _, m) => some (v, m.2.map (·.2))
  | none => some (v, [])
/-- A run with tests that are not reckoned: 'orc' says which way each goes; what it must hold for is 'ls = rs'. -/
theorem reckonX_any {P : Program} (hng : NoNG P) {hk : Hook} (hhk : HookOk2 P hk) (orc : Orc) (L f : Nat) (h0 : List AO) {g : FuncId} {args : List Value} {v : Value} (ha : args.all flat = true) (hv : flat v = true) (h : reckonGL P hk orc L f h0 g args = reckonGR P hk orc L f h0 g args v) (w : World) (hL : Laid h0 w) :
    Calls P g ⟨args⟩ w fun e w' => e = .returned v ∧ Gr w w' := by
  unfold reckonGL reckonGR ranG at h
  cases hc : callA P ⟨ex P (aOp P) (drawE P) (liftH hk) orc accQ L f, liftH hk, fun _ _ => none, accQ⟩ g args h0 with
  | none => rw [hc] at h; cases h
  | some r =>
    obtain ⟨v', h', m⟩ := r
    rw [hc] at h
    simp only at h
    split at h
    · rename_i r2 v2 h2 m2 hm2
      split at hm2
      · rename_i hq
        cases hm2
        simp only [Option.some.injEq, Prod.mk.injEq] at h
        obtain ⟨rfl, h3⟩ := h
        refine (callA_ok (ex_ok accQ_eq hng (aOp_ok P hng) (drawE_ok P) (drawE_low P) (lift_ok hhk) L f _) hc (wb := w) (k := h0.length) (s := placeG h0 w) ⟨quietB_ok hq, map_same h3⟩ (LR.ofFlat ha) (HR.start hL)).mono ?_
        rintro e w' ⟨s', u, rfl, _, H, hvr⟩
        rw [hvr.eq_of_flat hv]
        exact ⟨rfl, H.grown⟩
      · cases hm2
    · cases h
theorem reckonG_any {P : Program} (hng : NoNG P) {hk : Hook} (hhk : HookOk P hk) (orc : Orc) (L f : Nat) (h0 : List AO) {g : FuncId} {args : List Value} {v : Value} (ha : args.all flat = true) (hv : flat v = true) (h : reckonGL P (guardH hk) orc L f h0 g args = reckonGR P (guardH hk) orc L f h0 g args v) (w : World) (hL : Laid h0 w) :
    Calls P g ⟨args⟩ w fun e w' => e = .returned v ∧ Gr w w' := reckonX_any hng (guard_ok hhk) orc L f h0 ha hv h w hL
theorem reckonG_ok {P : Program} (hng : NoNG P) {hk : Hook} (hhk : HookOk P hk) (L f : Nat) (h0 : List AO) {g : FuncId} {args : List Value} {v : Value} (ha : args.all flat = true) (hv : flat v = true) (h : reckonGL P (guardH hk) noOrc L f h0 g args = reckonGR P (guardH hk) noOrc L f h0 g args v) (w : World) (hL : Laid h0 w) :
    Calls P g ⟨args⟩ w fun e w' => e = .returned v ∧ Gr w w' := reckonG_any hng hhk noOrc L f h0 ha hv h w hL
theorem reckonS_ok {P : Program} (hng : NoNG P) {hk : Hook} (hhk : HookOk P hk) (orc : Orc) (L f : Nat) (h0 : List AO) {g : FuncId} {args : List Value} {v : Value} {ls rs : List Int} (ha : args.all flat = true) (hv : flat v = true) (h1 : reckonGL P (guardH hk) orc L f h0 g args = some (v, ls))
    (h2 : reckonGR P (guardH hk) orc L f h0 g args v = some (v, rs)) (he : ls = rs) (w : World) (hL : Laid h0 w) : Calls P g ⟨args⟩ w fun e w' => e = .returned v ∧ Gr w w' :=
  reckonG_any hng hhk orc L f h0 ha hv (h1.trans (he ▸ h2.symm)) w hL
noncomputable def reckonGC (P : Program) (hk : Hook) (orc : Orc) (L f : Nat) (h0 : List AO) (g : FuncId) (args : List Value) : Option (Value × Cs) :=
  match ranG P hk orc L f h0 g args with
  | some (v, _, m) => some (v, m.2)
  | none => none
/-- The same, of one run alone: 'cs' are the pairs that must be the same. -/
theorem reckonT_ok {P : Program} (hng : NoNG P) {hk : Hook} (hhk : HookOk P hk) (orc : Orc) (L f : Nat) (h0 : List AO) {g : FuncId} {args : List Value} {v : Value} {cs : Cs} (ha : args.all flat = true) (hv : flat v = true) (h : reckonGC P (guardH hk) orc L f h0 g args = some (v, cs))
    (he : cs.map (·.1) = cs.map (·.2)) (w : World) (hL : Laid h0 w) : Calls P g ⟨args⟩ w fun e w' => e = .returned v ∧ Gr w w' := by
  refine reckonG_any hng hhk orc L f h0 ha hv ?_ w hL
  unfold reckonGC at h
  unfold reckonGL reckonGR
  split at h
  · rename_i v' h' m hr
    cases h
    simp only [he]
  · cases h
theorem reckonX_ok {P : Program} (hng : NoNG P) {hk : Hook} (hhk : HookOk2 P hk) (L f : Nat) (h0 : List AO) {g : FuncId} {args : List Value} {v : Value} (ha : args.all flat = true) (hv : flat v = true) (h : reckonGL P hk noOrc L f h0 g args = reckonGR P hk noOrc L f h0 g args v) (w : World) (hL : Laid h0 w) :
    Calls P g ⟨args⟩ w fun e w' => e = .returned v ∧ Gr w w' := reckonX_any hng hhk noOrc L f h0 ha hv h w hL
/-- Of one run alone, with hooks of any arguments: 'cs' are the pairs that must be the same. -/
theorem reckonXT_ok {P : Program} (hng : NoNG P) {hk : Hook} (hhk : HookOk2 P hk) (orc : Orc) (L f : Nat) (h0 : List AO) {g : FuncId} {args : List Value} {v : Value} {cs : Cs} (ha : args.all flat = true) (hv : flat v = true) (h : reckonGC P hk orc L f h0 g args = some (v, cs))
    (he : cs.map (·.1) = cs.map (·.2)) (w : World) (hL : Laid h0 w) : Calls P g ⟨args⟩ w fun e w' => e = .returned v ∧ Gr w w' := by
  refine reckonX_any hng hhk orc L f h0 ha hv ?_ w hL
  unfold reckonGC at h
  unfold reckonGL reckonGR
  split at h
  · rename_i v' h' m hr
    cases h
    simp only [he]
  · cases h
theorem laid_at {g : Nat} {cs : List Value} {w : World} (h : ∃ t fr, w.heap[g]? = some (.cells ⟨cs⟩ t fr)) : ∃ T tot, w.shape? g = some (T, tot) ∧ cs.length ≤ tot ∧ ∀ (j : Nat) (v : Value), cs[j]? = some v → w.cell? ⟨g, j, none⟩ = some v := by
  obtain ⟨t, fr, hh⟩ := h
  refine ⟨t, cs.length, by simp [World.shape?, hh], Nat.le_refl _, fun j v hv => ?_⟩
  unfold World.cell?
  simp only [hh]
  simpa using hv
/-- One variable, at its place. -/
theorem Laid.one {g0 : Nat} {cs : List Value} {w : World} (hf : cs.all flat = true) (h : ∃ t fr, w.heap[g0]? = some (.cells ⟨cs⟩ t fr)) : Laid (List.replicate g0 dead ++ [⟨true, some GM, cs⟩]) w := by
  intro g o ho hl
  by_cases e : g < g0
  · rw [List.getElem?_append_left (by simpa using e), List.getElem?_replicate, if_pos e] at ho
    cases ho
    cases hl
  · have h2 := (List.getElem?_eq_some_iff.1 ho).1
    simp only [List.length_append, List.length_replicate, List.length_singleton] at h2
    obtain rfl : g = g0 := by omega
    rw [List.getElem?_append_right (by simp)] at ho
    simp only [List.length_replicate, Nat.sub_self, List.getElem?_cons_zero, Option.some.injEq] at ho
    subst ho
    exact ⟨rfl, hf, laid_at h⟩
theorem Laid.nil (w : World) : Laid [] w := fun g o h => by simp at h
theorem Laid.gr {h0 : List AO} {w w' : World} (h : Laid h0 w) (g : Gr w w') : Laid h0 w' := fun i o ho hl =>
  let ⟨a, b, T, tot, hs, hle, hc⟩ := h i o ho hl
  ⟨a, b, T, tot, gr_shape g (shape_cells hs).1 hs, hle, fun j v hv => (gr_cell g (a := ⟨i, j, none⟩) (shape_cells hs).1).trans (hc j v hv)⟩
end Go.Proofs.YtbaiokfjoglmiaaDoor.Ex
end
section
namespace Go.Proofs.YtbaiokfjoglmiaaDoor.Ex
open Go Go.RowKit Go.ChangeShapes Go.WideShapes Go.WideMaps Go.WideElems Go.ChangeAt Go.Deep

theorem cells_of_ints {H : Type} {enc : TypeId × Value → H} {P : Program} {w : World} {base : Nat} {spare : Nat → Bool} {held : Bool} {fuel : Nat} {t e : TypeId} {len : Nat} {cs : List Value} {k : IntKind} {ns : List Int} {x : DataW H × List MemPlace}
    (ht : P.underlying t = some (.array len e)) (he : P.underlying e = some (.int k)) (hc : P.cellsOf e = 1) (hct : P.cellsOf t = len) (h : DataW.trod enc P w base spare held fuel t cs = some x) (hx : x.1 = .agg (ns.map fun n => .lit (.int k n))) : cs = ns.map (.int k) := by
  obtain ⟨xs, m, _, hxx, hlen, hn, hall⟩ := DataW.trod_array ht h
  rw [hct] at hlen
  simp only [hc] at hall
  have hm : xs.map (·.1) = ns.map fun n => .lit (.int k n) := by
    have h1 := congrArg Prod.fst hxx
    rw [hx] at h1
    injection h1 with h2
    exact h2.symm
  have hl : ns.length = len := by
    have := congrArg List.length hm
    simp at this
    omega
  apply List.ext_getElem?
  intro i
  by_cases hi : i < len
  · have hn0 : ∃ n, ns[i]? = some n := ⟨_, List.getElem?_eq_getElem (by omega)⟩
    obtain ⟨n, hn0⟩ := hn0
    obtain ⟨y, hy⟩ : ∃ y, xs[i]? = some y := ⟨_, List.getElem?_eq_getElem (by omega)⟩
    have hh := (hall i hi).trans hy
    obtain ⟨n', e1, rfl, _⟩ := DataW.trod_int he hh
    have h2 : (xs.map (·.1))[i]? = some (.lit (.int k n')) := by rw [List.getElem?_map, hy]; rfl
    rw [hm, List.getElem?_map, hn0] at h2
    simp at h2
    subst h2
    have h3 := congrArg (·[0]?) e1
    simp at h3
    rw [List.getElem?_map, hn0]
    simpa using h3
  · rw [List.getElem?_eq_none (by omega), List.getElem?_eq_none (by simp; omega)]
/-- An array of structs of two numbers. -/
theorem cells_of_pairs {H : Type} {enc : TypeId × Value → H} {P : Program} {w : World} {base : Nat} {spare : Nat → Bool} {held : Bool} {fuel : Nat} {t e : TypeId} {len : Nat} {cs : List Value} {k j : IntKind} {f0 f1 : Field} {ns : List (Int × Int)} {x : DataW H × List MemPlace}
    (ht : P.underlying t = some (.array len e)) (he : P.underlying e = some (.struct #[f0, f1])) (hone : oneCellFields P #[f0, f1] = true) (hc : P.cellsOf e = 2) (hct : P.cellsOf t = 2 * len) (u0 : P.underlying f0.type = some (.int k)) (u1 : P.underlying f1.type = some (.int j))
    (h : DataW.trod enc P w base spare held fuel t cs = some x) (hx : x.1 = .agg (ns.map fun n => .agg [.lit (.int k n.1), .lit (.int j n.2)])) : cs = (ns.map fun n => [Value.int k n.1, Value.int j n.2]).flatten := by
  obtain ⟨xs, m, _, hxx, hlen, hn, hall⟩ := DataW.trod_array ht h
  rw [hct] at hlen
  simp only [hc] at hall
  have hm : xs.map (·.1) = ns.map fun n => .agg [.lit (.int k n.1), .lit (.int j n.2)] := by
    have h1 := congrArg Prod.fst hxx
    rw [hx] at h1
    injection h1 with h2
    exact h2.symm
  have hl : ns.length = len := by
    have := congrArg List.length hm
    simp at this
    omega
  have each : ∀ (i : Nat), i < len → ∀ n, ns[i]? = some n → (cs.drop (i * 2)).take 2 = [Value.int k n.1, Value.int j n.2] := by
    intro i hi n hn0
    obtain ⟨y, hy⟩ : ∃ y, xs[i]? = some y := ⟨_, List.getElem?_eq_getElem (by omega)⟩
    have hh := (hall i hi).trans hy
    have h2 : (xs.map (·.1))[i]? = some y.1 := by rw [List.getElem?_map, hy]; rfl
    rw [hm, List.getElem?_map, hn0] at h2
    simp only [Option.map_some, Option.some.injEq] at h2
    obtain ⟨y0, y1, q, hyy, hll, h0, h1⟩ := trod_struct2 he hh
    rw [hc] at hll
    obtain ⟨o0, k0⟩ := hone_of hone 0 f0 rfl
    obtain ⟨o1, k1⟩ := hone_of hone 1 f1 rfl
    generalize (cs.drop (i * 2)).take 2 = ds at h0 h1 hll ⊢
    match ds, hll with
    | [c0, c1], _ =>
      simp only [o0, k0, o1, k1, List.drop_zero, List.take_succ_cons, List.take_zero, List.drop_succ_cons] at h0 h1
      obtain ⟨n0, e0, rfl, _⟩ := DataW.trod_int u0 h0
      obtain ⟨n1, e1, rfl, _⟩ := DataW.trod_int u1 h1
      rw [hyy] at h2
      simp at h2 e0 e1
      rw [e0, e1, h2.1, h2.2]
  have all : ∀ (l : List (Int × Int)) (i : Nat), l = ns.drop i → cs.drop (i * 2) = (l.map fun n => [Value.int k n.1, Value.int j n.2]).flatten := by
    intro l
    induction l with
    | nil =>
      intro i hi
      have : ns.length ≤ i := by
        have := congrArg List.length hi
        simp at this
        omega
      simp only [List.map_nil, List.flatten_nil]
      exact List.drop_eq_nil_of_le (by omega)
    | cons n l ih =>
      intro i hi
      have hn0 : ns[i]? = some n := by
        have := congrArg (·[0]?) hi
        simpa using this.symm
      have hilt : i < len := by rw [← hl]; exact (List.getElem?_eq_some_iff.1 hn0).1
      have h1 := each i hilt n hn0
      have h2 := ih (i + 1) (by
        have := congrArg (List.drop 1) hi
        simpa using this)
      rw [← List.take_append_drop 2 (cs.drop (i * 2)), h1, List.drop_drop, show i * 2 + 2 = (i + 1) * 2 by omega, h2]
      rfl
  have := all ns 0 (by simp)
  simpa using this
end Go.Proofs.YtbaiokfjoglmiaaDoor.Ex
end
section
namespace Go.Proofs.YtbaiokfjoglmiaaDoor
open Go.ChangeShapes Go.WideShapes Go.RowKit

inductive Kd where
  | i (k : IntKind)
  | b
  | s
def Kd.ok : Kd → Value → Prop
  | .i k, v => ∃ n, v = .int k n ∧ (Lit.int k n).wf = true
  | .b, v => ∃ x, v = .bool x
  | .s, v => ∃ x : ByteArray, v = .string x ∧ x.size ≤ maxLen
def okL : List Kd → List Value → Prop
  | [], [] => True
  | k :: ks, v :: vs => k.ok v ∧ okL ks vs
  | _, _ => False
theorem okL.nil {cs : List Value} (h : okL [] cs) : cs = [] := by cases cs with | nil => rfl | cons _ _ => exact h.elim
theorem okL.cons {k : Kd} {ks : List Kd} {cs : List Value} (h : okL (k :: ks) cs) : ∃ v vs, cs = v :: vs ∧ k.ok v ∧ okL ks vs := by
  cases cs with
  | nil => exact h.elim
  | cons v vs => exact ⟨v, vs, rfl, h.1, h.2⟩
theorem okL.length : ∀ {ks : List Kd} {cs : List Value}, okL ks cs → cs.length = ks.length
  | [], cs, h => by rw [h.nil]; rfl
  | k :: ks, cs, h => by
    obtain ⟨v, vs, rfl, _, h2⟩ := h.cons
    simp [okL.length h2]
theorem okL.append : ∀ {ks ls : List Kd} {cs ds : List Value}, okL ks cs → okL ls ds → okL (ks ++ ls) (cs ++ ds)
  | [], ls, cs, ds, h, g => by rw [h.nil]; exact g
  | k :: ks, ls, cs, ds, h, g => by
    obtain ⟨v, vs, rfl, h1, h2⟩ := h.cons
    exact ⟨h1, okL.append h2 g⟩
/-- The kinds of a struct's fields, one behind the other. -/
def kindsF (g : TypeId → Option (List Kd)) (cells : TypeId → Nat) : List Field → Nat → Option (List Kd)
  | [], _ => some []
  | f :: fs, off =>
    match g f.type with
    | some ks =>
      if f.offset = off ∧ cells f.type = ks.length then
        match kindsF g cells fs (off + ks.length) with
        | some ls => some (ks ++ ls)
        | none => none
      else none
    | none => none
def kindsT (P : Program) : Nat → TypeId → Option (List Kd)
  | 0, _ => none
  | f + 1, t =>
    match P.underlying t with
    | some .bool => some [.b]
    | some (.int k) => some [.i k]
    | some .string => some [.s]
    | some (.array n e) =>
      match kindsT P f e with
      | some ks => if P.cellsOf e = ks.length ∧ P.cellsOf t = n * ks.length then some (List.replicate n ks).flatten else none
      | none => none
    | some (.struct fs) =>
      match kindsF (kindsT P f) P.cellsOf fs.toList 0 with
      | some ks => if P.cellsOf t = ks.length then some ks else none
      | none => none
    | _ => none
theorem mapM_same {α β : Type} {g g' : α → Option β} : ∀ {l : List α} {xs : List β}, l.mapM g = some xs → (∀ a ∈ l, ∀ y, g a = some y → g' a = some y) → l.mapM g' = some xs
  | [], xs, h, _ => by simpa using h
  | a :: l, xs, h, hg => by
    simp only [List.mapM_cons] at h ⊢
    cases ha : g a with
    | none => rw [ha] at h; cases h
    | some y =>
      rw [ha] at h
      cases hl : l.mapM g with
      | none => rw [hl] at h; cases h
      | some ys =>
        rw [hl] at h
        rw [hg a (by simp) y ha, mapM_same hl fun b hb => hg b (by simp [hb])]
        exact h
theorem mapM_all {α β : Type} {g : α → Option β} {p : β → Prop} : ∀ {l : List α} {xs : List β}, l.mapM g = some xs → (∀ a ∈ l, ∀ y, g a = some y → p y) → ∀ y ∈ xs, p y
  | [], xs, h, _ => by simp at h; subst h; intro y hy; cases hy
  | a :: l, xs, h, hg => by
    simp only [List.mapM_cons] at h
    cases ha : g a with
    | none => rw [ha] at h; cases h
    | some y =>
      rw [ha] at h
      cases hl : l.mapM g with
      | none => rw [hl] at h; cases h
      | some ys =>
        rw [hl] at h
        cases h
        intro z hz
        rcases List.mem_cons.1 hz with e | e
        · rw [e]; exact hg a (by simp) y ha
        · exact mapM_all hl (fun b hb => hg b (by simp [hb])) z e
theorem mapM_each {α β : Type} {g : α → Option β} : ∀ {l : List α} {xs : List β}, l.mapM g = some xs → ∀ a ∈ l, ∃ y, g a = some y
  | [], _, _, a, ha => by cases ha
  | a :: l, xs, h, b, hb => by
    simp only [List.mapM_cons] at h
    cases ha : g a with
    | none => rw [ha] at h; cases h
    | some y =>
      rw [ha] at h
      cases hl : l.mapM g with
      | none => rw [hl] at h; cases h
      | some ys =>
        rcases List.mem_cons.1 hb with e | e
        · rw [e]; exact ⟨y, ha⟩
        · exact mapM_each hl b e
theorem arr_ok {cs : List Value} {ks : List Kd} : ∀ (m j : Nat), (∀ i, j ≤ i → i < j + m → okL ks ((cs.drop (i * ks.length)).take ks.length)) → okL (List.replicate m ks).flatten ((cs.drop (j * ks.length)).take (m * ks.length))
  | 0, j, _ => by simp [okL]
  | m + 1, j, h => by
    have h1 := h j (Nat.le_refl _) (by omega)
    have h2 := arr_ok m (j + 1) fun i h3 h4 => h i (by omega) (by omega)
    have e : (cs.drop (j * ks.length)).take ((m + 1) * ks.length) = (cs.drop (j * ks.length)).take ks.length ++ (cs.drop ((j + 1) * ks.length)).take (m * ks.length) := by
      rw [show (m + 1) * ks.length = ks.length + m * ks.length by rw [Nat.add_mul]; omega, List.take_add, List.drop_drop, show j * ks.length + ks.length = (j + 1) * ks.length by rw [Nat.add_mul]; omega]
    rw [e, List.replicate_succ, List.flatten_cons]
    exact h1.append h2
theorem str_ok {g : TypeId → Option (List Kd)} {cells : TypeId → Nat} {cs : List Value} : ∀ (fs : List Field) (off : Nat) (ks : List Kd), kindsF g cells fs off = some ks →
    (∀ f ∈ fs, ∀ ls, g f.type = some ls → okL ls ((cs.drop f.offset).take (cells f.type))) → okL ks ((cs.drop off).take ks.length)
  | [], off, ks, h, _ => by simp [kindsF] at h; subst h; simp [okL]
  | f :: fs, off, ks, h, hf => by
    simp only [kindsF] at h
    split at h
    · rename_i k1 hk
      split at h
      · rename_i hc
        split at h
        · rename_i k2 h2
          cases h
          have a1 := hf f (by simp) k1 hk
          rw [hc.1, hc.2] at a1
          have a2 := str_ok fs _ _ h2 fun q hq => hf q (by simp [hq])
          rw [List.length_append, List.take_add, List.drop_drop]
          exact a1.append a2
        · cases h
      · cases h
    · cases h
section
variable {H : Type} {enc : TypeId × Value → H} {P : Program}
theorem plain_kinds : ∀ (f : Nat) {t : TypeId} {ks : List Kd}, kindsT P f t = some ks → ∀ {w : World} {base : Nat} {sp : Nat → Bool} {held : Bool} {n : Nat} {cs : List Value} {x : DataW H × List MemPlace}, DataW.trod enc P w base sp held n t cs = some x → okL ks cs
  | 0, t, ks, h => by simp [kindsT] at h
  | f + 1, t, ks, h => by
    rename_i w base sp held n cs x
    intro hx
    simp only [kindsT] at h
    split at h
    · cases h
      rename_i hu
      cases n with
      | zero => simp [DataW.trod] at hx
      | succ n =>
        simp only [DataW.trod, hu] at hx
        split at hx <;> simp_all [okL, Kd.ok]
    · cases h
      rename_i k hu
      obtain ⟨m, rfl, _, hw⟩ := DataW.trod_int hu hx
      exact ⟨⟨m, rfl, hw⟩, trivial⟩
    · cases h
      rename_i hu
      obtain ⟨m, rfl, _, hw⟩ := DataW.trod_string hu hx
      exact ⟨⟨m, rfl, hw⟩, trivial⟩
    · rename_i m e hu
      split at h
      · rename_i k1 hk
        split at h
        · rename_i hc
          cases h
          obtain ⟨xs, q, rfl, _, hlen, hn, hall⟩ := DataW.trod_array hu hx
          have := arr_ok (cs := cs) (ks := k1) m 0 fun i _ hi => by
            have h1 := hall i (by omega)
            rw [hc.1] at h1
            exact plain_kinds f hk (h1.trans (List.getElem?_eq_getElem (by omega)))
          rw [Nat.zero_mul, List.drop_zero, ← hc.2, ← hlen, List.take_length] at this
          exact this
        · cases h
      · cases h
    · rename_i fs hu
      split at h
      · rename_i k1 hk
        split at h
        · rename_i hc
          cases h
          cases n with
          | zero => simp [DataW.trod] at hx
          | succ n =>
            have hx2 : (if cs.length = P.cellsOf t then (fs.toList.mapM fun f => DataW.trod enc P w base sp held n f.type ((cs.drop f.offset).take (P.cellsOf f.type))).map fun xs => ((DataW.agg (xs.map (·.1)) : DataW H), xs.flatMap (·.2)) else none) = some x := by
              rw [← hx]; simp only [DataW.trod, hu]
            split at hx2
            · rename_i hlen
              cases hm : fs.toList.mapM fun f => DataW.trod enc P w base sp held n f.type ((cs.drop f.offset).take (P.cellsOf f.type)) with
              | none => rw [hm] at hx2; cases hx2
              | some xs =>
                have := str_ok (cs := cs) fs.toList 0 ks hk fun g hg ls hl => by
                  obtain ⟨y, hy⟩ := mapM_each hm g hg
                  exact plain_kinds f hl hy
                rw [List.drop_zero, ← hc, ← hlen, List.take_length] at this
                exact this
            · cases hx2
        · cases h
      · cases h
    · cases h
theorem kindsF_each {g : TypeId → Option (List Kd)} {cells : TypeId → Nat} : ∀ {fs : List Field} {off : Nat} {ks : List Kd}, kindsF g cells fs off = some ks → ∀ f ∈ fs, ∃ ls, g f.type = some ls
  | [], _, _, _, f, hf => by cases hf
  | f :: fs, off, ks, h, q, hq => by
    simp only [kindsF] at h
    split at h
    · rename_i k1 hk
      split at h
      · split at h
        · rename_i k2 h2
          rcases List.mem_cons.1 hq with e | e
          · rw [e]; exact ⟨k1, hk⟩
          · exact kindsF_each h2 q e
        · cases h
      · cases h
    · cases h
theorem plain_any : ∀ (f : Nat) {t : TypeId} {ks : List Kd}, kindsT P f t = some ks → ∀ {w : World} {base : Nat} {sp : Nat → Bool} {held : Bool} {n : Nat} {cs : List Value} {x : DataW H × List MemPlace}, DataW.trod enc P w base sp held n t cs = some x →
    x.2 = [] ∧ ∀ (w' : World) (base' : Nat) (sp' : Nat → Bool) (held' : Bool), DataW.trod enc P w' base' sp' held' n t cs = some x
  | 0, t, ks, h => by simp [kindsT] at h
  | f + 1, t, ks, h => by
    rename_i w base sp held n cs x
    intro hx
    have hk1 := plain_kinds (f + 1) h hx
    simp only [kindsT] at h
    cases n with
    | zero => simp [DataW.trod] at hx
    | succ n =>
      split at h
      · cases h
        rename_i hu
        obtain ⟨v, vs, rfl, ⟨y, rfl⟩, hn⟩ := hk1.cons
        obtain rfl := hn.nil
        simp only [DataW.trod, hu] at hx ⊢
        cases hx
        exact ⟨rfl, fun _ _ _ _ => rfl⟩
      · cases h
        rename_i k hu
        obtain ⟨v, vs, rfl, ⟨y, rfl, hw⟩, hn⟩ := hk1.cons
        obtain rfl := hn.nil
        simp only [DataW.trod, hu, hw, and_self, if_true] at hx ⊢
        cases hx
        exact ⟨rfl, fun _ _ _ _ => rfl⟩
      · cases h
        rename_i hu
        obtain ⟨v, vs, rfl, ⟨y, rfl, hw⟩, hn⟩ := hk1.cons
        obtain rfl := hn.nil
        simp only [DataW.trod, hu, hw, if_true] at hx ⊢
        cases hx
        exact ⟨rfl, fun _ _ _ _ => rfl⟩
      · rename_i m e hu
        split at h
        · rename_i k1 hk
          have hd : ∀ (w : World) (base : Nat) (sp : Nat → Bool) (held : Bool), DataW.trod enc P w base sp held (n + 1) t cs = (if cs.length = P.cellsOf t then ((List.range m).mapM fun i => DataW.trod enc P w base sp held n e ((cs.drop (i * P.cellsOf e)).take (P.cellsOf e))).map fun xs => ((DataW.agg (xs.map (·.1)) : DataW H), xs.flatMap (·.2)) else none) := fun _ _ _ _ => by simp only [DataW.trod, hu]
          rw [hd] at hx
          split at hx
          · rename_i hlen
            cases hm : (List.range m).mapM fun i => DataW.trod enc P w base sp held n e ((cs.drop (i * P.cellsOf e)).take (P.cellsOf e)) with
            | none => rw [hm] at hx; cases hx
            | some xs =>
              rw [hm] at hx
              cases hx
              refine ⟨?_, fun w' base' sp' held' => ?_⟩
              · simp only [List.flatMap_eq_nil_iff]
                exact mapM_all hm fun a _ y hy => (plain_any f hk hy).1
              · rw [hd, if_pos hlen, mapM_same hm fun a _ y hy => (plain_any f hk hy).2 w' base' sp' held']
                rfl
          · cases hx
        · cases h
      · rename_i fs hu
        split at h
        · rename_i k1 hk
          have hd : ∀ (w : World) (base : Nat) (sp : Nat → Bool) (held : Bool), DataW.trod enc P w base sp held (n + 1) t cs = (if cs.length = P.cellsOf t then (fs.toList.mapM fun f => DataW.trod enc P w base sp held n f.type ((cs.drop f.offset).take (P.cellsOf f.type))).map fun xs => ((DataW.agg (xs.map (·.1)) : DataW H), xs.flatMap (·.2)) else none) := fun _ _ _ _ => by simp only [DataW.trod, hu]
          rw [hd] at hx
          split at hx
          · rename_i hlen
            cases hm : fs.toList.mapM fun f => DataW.trod enc P w base sp held n f.type ((cs.drop f.offset).take (P.cellsOf f.type)) with
            | none => rw [hm] at hx; cases hx
            | some xs =>
              rw [hm] at hx
              cases hx
              have hfs := kindsF_each hk
              refine ⟨?_, fun w' base' sp' held' => ?_⟩
              · simp only [List.flatMap_eq_nil_iff]
                exact mapM_all hm fun a ha y hy => let ⟨ls, hl⟩ := hfs a ha; (plain_any f hl hy).1
              · rw [hd, if_pos hlen, mapM_same hm fun a ha y hy => let ⟨ls, hl⟩ := hfs a ha; (plain_any f hl hy).2 w' base' sp' held']
                rfl
          · cases hx
        · cases h
      · cases h
/-- A parameter of plain data, of two cells or more. -/
theorem open_plain {f : Nat} {t : TypeId} {ks : List Kd} (hk : kindsT P f t = some ks) (h2 : 2 ≤ ks.length) {w : World} {base : Nat} {sp : Nat → Bool} {held : Bool} {v : Value} {d : DataW H} {p : List MemPlace} (h : DataW.Trod enc P w base sp held t v d p) :
    p = [] ∧ (∃ cs, v = .agg ⟨cs⟩ ∧ okL ks cs) ∧ ∀ (w' : World) (base' : Nat) (sp' : Nat → Bool) (held' : Bool), DataW.Trod enc P w' base' sp' held' t v d [] := by
  obtain ⟨n, hn⟩ := h
  obtain ⟨h1, h3⟩ := plain_any f hk hn
  simp only at h1
  subst h1
  have h4 := plain_kinds f hk hn
  refine ⟨rfl, ?_, fun w' b' s' h' => ⟨n, h3 w' b' s' h'⟩⟩
  have h5 := h4.length
  cases v with
  | agg cs => exact ⟨cs.toList, rfl, h4⟩
  | _ => simp [Value.cells] at h5; omega
/-- A parameter of plain data, of one cell. -/
theorem shut_plain {f : Nat} {t : TypeId} {ks : List Kd} (hk : kindsT P f t = some ks) {w : World} {base : Nat} {sp : Nat → Bool} {held : Bool} {v : Value} {d : DataW H} {p : List MemPlace} (h : DataW.Trod enc P w base sp held t v d p) :
    p = [] ∧ ∀ (w' : World) (base' : Nat) (sp' : Nat → Bool) (held' : Bool), DataW.Trod enc P w' base' sp' held' t v d [] := by
  obtain ⟨n, hn⟩ := h
  obtain ⟨h1, h3⟩ := plain_any f hk hn
  simp only at h1
  subst h1
  exact ⟨rfl, fun w' b' s' h' => ⟨n, h3 w' b' s' h'⟩⟩
end
end Go.Proofs.YtbaiokfjoglmiaaDoor
end
section
namespace Go.Proofs.YtbaiokfjoglmiaaDoor
open Go.ChangeShapes Go.WideShapes Go.RowKit

def flatD {H : Type} : Nat → DataW H → List Value
  | 0, _ => []
  | _ + 1, .lit (.int k n) => [.int k n]
  | _ + 1, .lit (.bool b) => [.bool b]
  | _ + 1, .lit (.string s) => [.string ⟨s.toArray⟩]
  | f + 1, .agg l => l.flatMap (flatD f)
  | _ + 1, _ => []
theorem arr_flat {α : Type} {cs : List Value} {k : Nat} {F : α → List Value} : ∀ (xs : List α) (j : Nat), (∀ i y, xs[i]? = some y → (cs.drop ((j + i) * k)).take k = F y) → (cs.drop (j * k)).take (xs.length * k) = xs.flatMap F
  | [], j, h => by simp
  | a :: l, j, h => by
    have h1 := h 0 a rfl
    have h2 := arr_flat l (j + 1) fun i y hy => by
      have := h (i + 1) y (by simpa using hy)
      rw [show j + (i + 1) = j + 1 + i by omega] at this
      exact this
    rw [List.length_cons, show (l.length + 1) * k = k + l.length * k by rw [Nat.add_mul]; omega, List.take_add, List.drop_drop, show j * k + k = (j + 1) * k by rw [Nat.add_mul]; omega, h2]
    rw [Nat.add_zero] at h1
    rw [h1]
    rfl
theorem str_flat {α : Type} {g : TypeId → Option (List Kd)} {cells : TypeId → Nat} {cs : List Value} {tr : Field → Option α} {F : α → List Value} : ∀ (fs : List Field) (off : Nat) (ks : List Kd) (xs : List α), kindsF g cells fs off = some ks → fs.mapM tr = some xs →
    (∀ f ∈ fs, ∀ y, tr f = some y → (cs.drop f.offset).take (cells f.type) = F y) → (cs.drop off).take ks.length = xs.flatMap F
  | [], off, ks, xs, h, hx, _ => by
    simp [kindsF] at h
    simp at hx
    subst h hx
    simp
  | f :: fs, off, ks, xs, h, hx, hf => by
    simp only [List.mapM_cons] at hx
    cases ha : tr f with
    | none => rw [ha] at hx; cases hx
    | some y =>
      rw [ha] at hx
      cases hl : fs.mapM tr with
      | none => rw [hl] at hx; cases hx
      | some ys =>
        rw [hl] at hx
        cases hx
        simp only [kindsF] at h
        split at h
        · rename_i k1 hk
          split at h
          · rename_i hc
            split at h
            · rename_i k2 h2
              cases h
              have a1 := hf f (by simp) y ha
              rw [hc.1, hc.2] at a1
              have a2 := str_flat fs _ _ _ h2 hl fun q hq => hf q (by simp [hq])
              rw [List.length_append, List.take_add, List.drop_drop, a1, a2]
              rfl
            · cases h
          · cases h
        · cases h
theorem flatMap_map {α β γ : Type} (l : List α) (g : α → β) (F : β → List γ) : (l.map g).flatMap F = l.flatMap fun a => F (g a) := by
  induction l with
  | nil => rfl
  | cons a l ih => simp [ih]
variable {H : Type} {enc : TypeId × Value → H} {P : Program}
theorem plain_flat : ∀ (f : Nat) {t : TypeId} {ks : List Kd}, kindsT P f t = some ks → ∀ {w : World} {base : Nat} {sp : Nat → Bool} {held : Bool} {n : Nat} {cs : List Value} {x : DataW H × List MemPlace}, DataW.trod enc P w base sp held n t cs = some x → cs = flatD f x.1
  | 0, t, ks, h => by simp [kindsT] at h
  | f + 1, t, ks, h => by
    rename_i w base sp held n cs x
    intro hx
    have hk1 := plain_kinds (f + 1) h hx
    simp only [kindsT] at h
    cases n with
    | zero => simp [DataW.trod] at hx
    | succ n =>
      split at h
      · cases h
        rename_i hu
        obtain ⟨v, vs, rfl, ⟨y, rfl⟩, hn⟩ := hk1.cons
        obtain rfl := hn.nil
        simp only [DataW.trod, hu] at hx
        cases hx
        rfl
      · cases h
        rename_i k hu
        obtain ⟨v, vs, rfl, ⟨y, rfl, hw⟩, hn⟩ := hk1.cons
        obtain rfl := hn.nil
        simp only [DataW.trod, hu, hw, and_self, if_true] at hx
        cases hx
        rfl
      · cases h
        rename_i hu
        obtain ⟨v, vs, rfl, ⟨y, rfl, hw⟩, hn⟩ := hk1.cons
        obtain rfl := hn.nil
        simp only [DataW.trod, hu, hw, if_true] at hx
        cases hx
        rfl
      · rename_i m e hu
        split at h
        · rename_i k1 hk
          split at h
          · rename_i hc
            cases h
            obtain ⟨xs, q, _, hxx, hlen, hn, hall⟩ := DataW.trod_array hu hx
            have := arr_flat (cs := cs) (k := k1.length) (F := fun y : DataW H × List MemPlace => flatD f y.1) xs 0 fun i y hy => by
              have hi : i < m := by
                have := (List.getElem?_eq_some_iff.1 hy).1
                omega
              have h1 := (hall i hi).trans hy
              rw [hc.1] at h1
              rw [Nat.zero_add]
              exact plain_flat f hk h1
            rw [Nat.zero_mul, List.drop_zero, hn, ← hc.2, ← hlen, List.take_length] at this
            rw [hxx]
            simp only [flatD]
            rw [flatMap_map]
            exact this
          · cases h
        · cases h
      · rename_i fs hu
        split at h
        · rename_i k1 hk
          split at h
          · rename_i hc
            cases h
            have hx2 : (if cs.length = P.cellsOf t then (fs.toList.mapM fun f => DataW.trod enc P w base sp held n f.type ((cs.drop f.offset).take (P.cellsOf f.type))).map fun xs => ((DataW.agg (xs.map (·.1)) : DataW H), xs.flatMap (·.2)) else none) = some x := by
              rw [← hx]; simp only [DataW.trod, hu]
            split at hx2
            · rename_i hlen
              cases hm : fs.toList.mapM fun f => DataW.trod enc P w base sp held n f.type ((cs.drop f.offset).take (P.cellsOf f.type)) with
              | none => rw [hm] at hx2; cases hx2
              | some xs =>
                rw [hm] at hx2
                cases hx2
                have hfs := kindsF_each hk
                have := str_flat (cs := cs) (F := fun y : DataW H × List MemPlace => flatD f y.1) fs.toList 0 ks xs hk hm fun g hg y hy => by
                  obtain ⟨ls, hl⟩ := hfs g hg
                  exact plain_flat f hl hy
                rw [List.drop_zero, ← hc, ← hlen, List.take_length] at this
                simp only [flatD]
                rw [flatMap_map]
                exact this
            · cases hx2
          · cases h
        · cases h
      · cases h
end Go.Proofs.YtbaiokfjoglmiaaDoor
end
section
namespace Go.Proofs.YtbaiokfjoglmiaaDoor.Ex
open Go Go.RowKit
set_option maxRecDepth 1000000 in
theorem noNG : NoNG Tryd.prog := noNG_ok (by kernel_rfl)
end Go.Proofs.YtbaiokfjoglmiaaDoor.Ex
end
section
namespace Go.Proofs.YtbaiokfjoglmiaaDoor.Ex
open Go Go.RowKit Go.ChangeShapes Go.WideShapes Go.WideMaps Go.WideElems
def fmCs : List Value := flatD (H := Unit) 4 Rows.laid_firewall_codec_forms
def h12 : List AO := List.replicate 0 dead ++ [⟨true, some GM, fmCs⟩]
def TabAt (w : World) : Prop := ∃ t fr, w.heap[0]? = some (.cells ⟨fmCs⟩ t fr)
theorem laid_of_tab {w : World} (h : TabAt w) : Laid h12 w := Laid.one rfl h
theorem gFm : Tryd.prog.globalNamed "firewall/codec.forms" = some 0 := by kernel_rfl
theorem tFm : (Tryd.prog.globals[0]?).map (·.type) = some 61 := by kernel_rfl
theorem fm_flat {H : Type} : flatD (H := H) 4 Rows.laid_firewall_codec_forms = fmCs := rfl
theorem tab_of_laid {W : World} (h : laidMetH Tryd.prog [("firewall/codec.forms", Rows.laid_firewall_codec_forms)] W) : TabAt W := by
  rw [MakeChecks.laidMetH_plain _ _ _ (by kernel_rfl)] at h
  obtain ⟨ps, ⟨g0, t0, cs0, f0, p0, q0, hg0, ht0, hv0, hd0, _⟩, _⟩ := h
  obtain rfl := Option.some.inj (gFm.symm.trans hg0)
  obtain rfl := Option.some.inj (tFm.symm.trans ht0)
  have key := plain_flat 4 (ks := (List.replicate 22 [Kd.i .u16, .b, .i .u8, .i .u8, .i .u8, .i .u8]).flatten) (by kernel_rfl) hd0
  have hkey : cs0 = ⟨fmCs⟩ := Array.toList_inj.1 (key.trans fm_flat)
  subst hkey
  simp only [World.var?, gFm, Option.bind_some] at hv0
  split at hv0
  · rename_i cs t fr hh
    obtain rfl := Option.some.inj hv0
    exact ⟨t, fr, hh⟩
  · cases hv0
set_option maxHeartbeats 0 in
set_option maxRecDepth 1000000 in
theorem done_any (w : World) (hL : Laid h12 w) : Calls Tryd.prog 24 #[] w fun e w' => e = .returned (.bool true) ∧ Gr w w' :=
  reckonG_ok noNG (noHook_ok _) 100000 300 h12 rfl rfl (by kernel_rfl) w hL
end Go.Proofs.YtbaiokfjoglmiaaDoor.Ex
end
section
namespace Go.Proofs.YtbaiokfjoglmiaaDoor.Ex
open Go Go.RowKit
def eqM : Value → Value → Bool
  | .agg ⟨a⟩, .agg ⟨b⟩ => eqL a b
  | x, y => eqI x y
theorem eqM_ok {x y : Value} (h : eqM x y = true) : x = y := by
  unfold eqM at h
  split at h
  · rw [eqL_ok h]
  · exact eqI_ok h
def eqML : List Value → List Value → Bool
  | [], [] => true
  | x :: xs, y :: ys => eqM x y && eqML xs ys
  | _, _ => false
theorem eqML_ok : ∀ {xs ys : List Value}, eqML xs ys = true → xs = ys
  | [], [], _ => rfl
  | x :: xs, y :: ys, h => by
    simp only [eqML, Bool.and_eq_true] at h
    rw [eqM_ok h.1, eqML_ok h.2]
  | [], _ :: _, h => by cases h
  | _ :: _, [], h => by cases h
/-- Of one function: arguments, and what it comes to. -/
abbrev Tab := List (List Value × Value)
def tabFind : Tab → List Value → Option Value
  | [], _ => none
  | e :: r, args => if eqML args e.1 then some e.2 else tabFind r args
theorem tabFind_mem : ∀ {t : Tab} {args : List Value} {v : Value}, tabFind t args = some v → (args, v) ∈ t
  | [], _, _, h => by cases h
  | e :: r, args, v, h => by
    simp only [tabFind] at h
    split at h
    · rename_i he
      cases h
      rw [eqML_ok he]
      simp
    · exact List.mem_cons_of_mem _ (tabFind_mem h)
def TabOk (P : Program) (h0 : List AO) (g : FuncId) : Tab → Prop
  | [] => True
  | e :: r => (∀ w, Laid h0 w → Calls P g ⟨e.1⟩ w fun x w' => x = .returned e.2 ∧ Gr w w') ∧ TabOk P h0 g r
theorem TabOk.at {P : Program} {h0 : List AO} {g : FuncId} : ∀ {t : Tab}, TabOk P h0 g t → ∀ e ∈ t, ∀ w, Laid h0 w → Calls P g ⟨e.1⟩ w fun x w' => x = .returned e.2 ∧ Gr w w'
  | [], _, e, he => by cases he
  | a :: r, h, e, he => by
    rcases List.mem_cons.1 he with q | q
    · rw [q]; exact h.1
    · exact h.2.at e q
theorem TabOk.app {P : Program} {h0 : List AO} {g : FuncId} : ∀ {s t : Tab}, TabOk P h0 g s → TabOk P h0 g t → TabOk P h0 g (s ++ t)
  | [], _, _, h => h
  | _ :: _, _, a, h => ⟨a.1, a.2.app h⟩
def memoHook (h0 : List AO) (g : FuncId) (t : Tab) : Hook := fun f args h =>
  if Nat.beq f g then
    match tabFind t args with
    | some v => if hasG h0 h then some (v, []) else none
    | none => none
  else none
theorem memoHook_ok {P : Program} {h0 : List AO} (hf : h0.all (fun o => !o.live || (match o.es with | some e => Nat.beq e GM | none => false) && o.cs.all flat) = true) {g : FuncId} {t : Tab} (ht : TabOk P h0 g t) : HookOk P (memoHook h0 g t) := by
  intro f args h v cs hv _ wb k s w H
  unfold memoHook at hv
  split at hv
  · rename_i hc
    obtain rfl := Nat.eq_of_beq_eq_true hc
    split at hv
    · rename_i v' hm
      split at hv
      · rename_i hg
        cases hv
        exact ht.at _ (tabFind_mem hm) w (H.laid hg hf)
      · cases hv
    · cases hv
  · cases hv
def orHook (a b : Hook) : Hook := fun f args h =>
  match a f args h with
  | some r => some r
  | none => b f args h
theorem orHook_ok {P : Program} {a b : Hook} (ha : HookOk P a) (hb : HookOk P b) : HookOk P (orHook a b) := by
  intro f args h v cs hv
  unfold orHook at hv
  split at hv
  · rename_i r hr
    cases hv
    exact ha f args h v cs hr
  · exact hb f args h v cs hv
/-- A call of no arguments, told by its contract. -/
def oneHook (h0 : List AO) (g : FuncId) (v : Value) : Hook := memoHook h0 g [([], v)]
end Go.Proofs.YtbaiokfjoglmiaaDoor.Ex
end
section
namespace Go.Proofs.YtbaiokfjoglmiaaDoor.Ex
open Go Go.RowKit
/-- Whether a condition holds of flags. -/
def takenS (k : Int) (z s c o : Bool) : Bool :=
  if k = 2 then c else if k = 3 then !c else if k = 4 then z else if k = 5 then !z else if k = 6 then c || z else if k = 7 then !(c || z)
  else if k = 12 then s != o else if k = 13 then !(s != o) else if k = 14 then z || (s != o) else if k = 15 then !(z || (s != o)) else false
/-- A state, as an argument. -/
def stA (r0 r1 r2 r3 r4 r5 r6 r7 r8 r9 r10 r11 r12 r13 r14 r15 : Int) (z s c o : Bool) (pc : Int) : Value := .agg ⟨[.int .u64 r0, .int .u64 r1, .int .u64 r2, .int .u64 r3, .int .u64 r4, .int .u64 r5, .int .u64 r6, .int .u64 r7, .int .u64 r8, .int .u64 r9, .int .u64 r10, .int .u64 r11, .int .u64 r12, .int .u64 r13, .int .u64 r14, .int .u64 r15, .bool z, .bool s, .bool c, .bool o, .int .u64 pc]⟩
def tkOrc : Orc := fun f t _ =>
  if Nat.beq f 25 && (Nat.beq t 7 || Nat.beq t 11 || Nat.beq t 15 || Nat.beq t 23 || Nat.beq t 30 || Nat.beq t 41 || Nat.beq t 42 || Nat.beq t 43 || Nat.beq t 44 || Nat.beq t 45) then some (.bool false)
  else if Nat.beq f 26 && (Nat.beq t 13 || Nat.beq t 17 || Nat.beq t 22 || Nat.beq t 26 || Nat.beq t 31 || Nat.beq t 39 || Nat.beq t 49 || Nat.beq t 52 || Nat.beq t 56 || Nat.beq t 63) then some (.bool false)
  else none
set_option maxHeartbeats 0 in
set_option maxRecDepth 1000000 in
theorem taken_any (k r0 r1 r2 r3 r4 r5 r6 r7 r8 r9 r10 r11 r12 r13 r14 r15 : Int) (z s c o : Bool) (pc : Int) (w : World) : Calls Tryd.prog 25 #[.int .i64 k, stA r0 r1 r2 r3 r4 r5 r6 r7 r8 r9 r10 r11 r12 r13 r14 r15 z s c o pc] w fun e w' => e = .returned (.bool (takenS k z s c o)) ∧ Gr w w' := by
  by_cases h2 : k = 2
  · subst h2
    exact reckonG_ok noNG (noHook_ok _) 100000 300 [] rfl rfl (by kernel_rfl) w (Laid.nil w)
  by_cases h3 : k = 3
  · subst h3
    exact reckonG_ok noNG (noHook_ok _) 100000 300 [] rfl rfl (by kernel_rfl) w (Laid.nil w)
  by_cases h4 : k = 4
  · subst h4
    exact reckonG_ok noNG (noHook_ok _) 100000 300 [] rfl rfl (by kernel_rfl) w (Laid.nil w)
  by_cases h5 : k = 5
  · subst h5
    exact reckonG_ok noNG (noHook_ok _) 100000 300 [] rfl rfl (by kernel_rfl) w (Laid.nil w)
  by_cases h6 : k = 6
  · subst h6
    cases c <;> exact reckonG_ok noNG (noHook_ok _) 100000 300 [] rfl rfl (by kernel_rfl) w (Laid.nil w)
  by_cases h7 : k = 7
  · subst h7
    cases c <;> exact reckonG_ok noNG (noHook_ok _) 100000 300 [] rfl rfl (by kernel_rfl) w (Laid.nil w)
  by_cases h12 : k = 12
  · subst h12
    cases s <;> cases o <;> exact reckonG_ok noNG (noHook_ok _) 100000 300 [] rfl rfl (by kernel_rfl) w (Laid.nil w)
  by_cases h13 : k = 13
  · subst h13
    cases s <;> cases o <;> exact reckonG_ok noNG (noHook_ok _) 100000 300 [] rfl rfl (by kernel_rfl) w (Laid.nil w)
  by_cases h14 : k = 14
  · subst h14
    cases z <;> cases s <;> cases o <;> exact reckonG_ok noNG (noHook_ok _) 100000 300 [] rfl rfl (by kernel_rfl) w (Laid.nil w)
  by_cases h15 : k = 15
  · subst h15
    cases z <;> cases s <;> cases o <;> exact reckonG_ok noNG (noHook_ok _) 100000 300 [] rfl rfl (by kernel_rfl) w (Laid.nil w)
  have e : takenS k z s c o = false := by simp [takenS, h2, h3, h4, h5, h6, h7, h12, h13, h14, h15]
  rw [e]
  refine reckonT_ok noNG (noHook_ok _) tkOrc 100000 300 [] (cs := [(b2i (decide (k = 2)), 0), (b2i (decide (k = 4)), 0), (b2i (decide (k = 6)), 0), (b2i (decide (k = 12)), 0), (b2i (decide (k = 14)), 0), (b2i (decide (k = 3)), 0), (b2i (decide (k = 5)), 0), (b2i (decide (k = 7)), 0), (b2i (decide (k = 13)), 0), (b2i (decide (k = 15)), 0)]) rfl rfl (by kernel_rfl) ?_ w (Laid.nil w)
  simp [b2i, h2, h3, h4, h5, h6, h7, h12, h13, h14, h15]
set_option maxHeartbeats 0 in
set_option maxRecDepth 1000000 in
theorem refTaken_any (k r0 r1 r2 r3 r4 r5 r6 r7 r8 r9 r10 r11 r12 r13 r14 r15 : Int) (z s c o : Bool) (pc : Int) (w : World) : Calls Tryd.prog 26 #[.int .i64 k, stA r0 r1 r2 r3 r4 r5 r6 r7 r8 r9 r10 r11 r12 r13 r14 r15 z s c o pc] w fun e w' => e = .returned (.bool (takenS k z s c o)) ∧ Gr w w' := by
  by_cases h2 : k = 2
  · subst h2
    exact reckonG_ok noNG (noHook_ok _) 100000 300 [] rfl rfl (by kernel_rfl) w (Laid.nil w)
  by_cases h3 : k = 3
  · subst h3
    exact reckonG_ok noNG (noHook_ok _) 100000 300 [] rfl rfl (by kernel_rfl) w (Laid.nil w)
  by_cases h4 : k = 4
  · subst h4
    exact reckonG_ok noNG (noHook_ok _) 100000 300 [] rfl rfl (by kernel_rfl) w (Laid.nil w)
  by_cases h5 : k = 5
  · subst h5
    exact reckonG_ok noNG (noHook_ok _) 100000 300 [] rfl rfl (by kernel_rfl) w (Laid.nil w)
  by_cases h6 : k = 6
  · subst h6
    cases c <;> exact reckonG_ok noNG (noHook_ok _) 100000 300 [] rfl rfl (by kernel_rfl) w (Laid.nil w)
  by_cases h7 : k = 7
  · subst h7
    cases c <;> exact reckonG_ok noNG (noHook_ok _) 100000 300 [] rfl rfl (by kernel_rfl) w (Laid.nil w)
  by_cases h12 : k = 12
  · subst h12
    cases s <;> cases o <;> exact reckonG_ok noNG (noHook_ok _) 100000 300 [] rfl rfl (by kernel_rfl) w (Laid.nil w)
  by_cases h13 : k = 13
  · subst h13
    cases s <;> cases o <;> exact reckonG_ok noNG (noHook_ok _) 100000 300 [] rfl rfl (by kernel_rfl) w (Laid.nil w)
  by_cases h14 : k = 14
  · subst h14
    cases z <;> cases s <;> cases o <;> exact reckonG_ok noNG (noHook_ok _) 100000 300 [] rfl rfl (by kernel_rfl) w (Laid.nil w)
  by_cases h15 : k = 15
  · subst h15
    cases z <;> cases s <;> cases o <;> exact reckonG_ok noNG (noHook_ok _) 100000 300 [] rfl rfl (by kernel_rfl) w (Laid.nil w)
  have e : takenS k z s c o = false := by simp [takenS, h2, h3, h4, h5, h6, h7, h12, h13, h14, h15]
  rw [e]
  refine reckonT_ok noNG (noHook_ok _) tkOrc 100000 300 [] (cs := [(b2i (decide (k = 2)), 0), (b2i (decide (k = 3)), 0), (b2i (decide (k = 4)), 0), (b2i (decide (k = 5)), 0), (b2i (decide (k = 6)), 0), (b2i (decide (k = 7)), 0), (b2i (decide (k = 12)), 0), (b2i (decide (k = 13)), 0), (b2i (decide (k = 14)), 0), (b2i (decide (k = 15)), 0)]) rfl rfl (by kernel_rfl) ?_ w (Laid.nil w)
  simp [b2i, h2, h3, h4, h5, h6, h7, h12, h13, h14, h15]
/-- Whether a condition holds, told by its contract. -/
def takenHook : Hook := fun f args _ =>
  if Nat.beq f 25 || Nat.beq f 26 then
    match args with
    | [.int .i64 k, .agg ⟨[.int .u64 _, .int .u64 _, .int .u64 _, .int .u64 _, .int .u64 _, .int .u64 _, .int .u64 _, .int .u64 _, .int .u64 _, .int .u64 _, .int .u64 _, .int .u64 _, .int .u64 _, .int .u64 _, .int .u64 _, .int .u64 _, .bool z, .bool s, .bool c, .bool o, .int .u64 _]⟩] => some (.bool (takenS k z s c o), [])
    | _ => none
  else none
theorem takenHook_ok : HookOk Tryd.prog takenHook := by
  intro f args h v cs hv _ wb k s w H
  unfold takenHook at hv
  split at hv
  · rename_i hc
    simp only [Bool.or_eq_true] at hc
    split at hv
    · cases hv
      rcases hc with hc | hc
      · obtain rfl := Nat.eq_of_beq_eq_true hc
        exact taken_any _ _ _ _ _ _ _ _ _ _ _ _ _ _ _ _ _ _ _ _ _ _ w
      · obtain rfl := Nat.eq_of_beq_eq_true hc
        exact refTaken_any _ _ _ _ _ _ _ _ _ _ _ _ _ _ _ _ _ _ _ _ _ _ w
    · cases hv
  · cases hv
/-- The chapter's examples, told by their contract. -/
def doneHook : Hook := fun f args h => if Nat.beq f 24 && hasG h12 h && args.isEmpty then some (.bool true, []) else none
theorem doneHook_ok : HookOk Tryd.prog doneHook := by
  intro f args h v cs hv _ wb k s w H
  unfold doneHook at hv
  split at hv
  · rename_i hc
    cases hv
    simp only [Bool.and_eq_true] at hc
    obtain rfl := Nat.eq_of_beq_eq_true hc.1.1
    obtain rfl : args = [] := by simpa using hc.2
    exact done_any w (H.laid hc.1.2 rfl)
  · cases hv
def lawTkOrc : Orc := fun f t _ => if Nat.beq f 9 then (if Nat.beq t 16 then some (.bool false) else if Nat.beq t 23 then some (.bool true) else none) else none
set_option maxHeartbeats 0 in
set_option maxRecDepth 1000000 in
theorem cpuTaken_walk (k r0 r1 r2 r3 r4 r5 r6 r7 r8 r9 r10 r11 r12 r13 r14 r15 : Int) (z s c o : Bool) (pc : Int) (w : World) (hT : TabAt w) : Calls Tryd.prog 9 #[.int .i64 k, stA r0 r1 r2 r3 r4 r5 r6 r7 r8 r9 r10 r11 r12 r13 r14 r15 z s c o pc] w fun e w' => e = .returned (.bool true) ∧ Gr w w' := by
  refine reckonT_ok noNG (hk := orHook takenHook doneHook) (orHook_ok takenHook_ok doneHook_ok) lawTkOrc 100000 300 h12
    (cs := [(b2i (takenS (-1) z s c o != takenS (-1) z s c o), 0), (b2i (takenS (0) z s c o != takenS (0) z s c o), 0), (b2i (takenS (1) z s c o != takenS (1) z s c o), 0), (b2i (takenS (2) z s c o != takenS (2) z s c o), 0), (b2i (takenS (3) z s c o != takenS (3) z s c o), 0), (b2i (takenS (4) z s c o != takenS (4) z s c o), 0), (b2i (takenS (5) z s c o != takenS (5) z s c o), 0), (b2i (takenS (6) z s c o != takenS (6) z s c o), 0), (b2i (takenS (7) z s c o != takenS (7) z s c o), 0), (b2i (takenS (8) z s c o != takenS (8) z s c o), 0), (b2i (takenS (9) z s c o != takenS (9) z s c o), 0), (b2i (takenS (10) z s c o != takenS (10) z s c o), 0), (b2i (takenS (11) z s c o != takenS (11) z s c o), 0), (b2i (takenS (12) z s c o != takenS (12) z s c o), 0), (b2i (takenS (13) z s c o != takenS (13) z s c o), 0), (b2i (takenS (14) z s c o != takenS (14) z s c o), 0), (b2i (takenS (15) z s c o != takenS (15) z s c o), 0), (b2i (takenS (16) z s c o != takenS (16) z s c o), 0), (b2i (takenS (17) z s c o != takenS (17) z s c o), 0), (b2i (takenS k z s c o == takenS k z s c o), 1)]) rfl rfl (by kernel_rfl) ?_ w (laid_of_tab hT)
  simp [b2i]
end Go.Proofs.YtbaiokfjoglmiaaDoor.Ex
end
section
namespace Go.Proofs.YtbaiokfjoglmiaaDoor

def lowS (v : BitVec 64) (b : Int) : BitVec 64 := if b ≤ 0 then 0 else if 64 ≤ b then v else v &&& (1#64 <<< b.toNat - 1#64)
def signS (v : BitVec 64) (b : Int) : BitVec 64 := if b ≤ 0 then 0 else if 64 ≤ b then v else (v <<< (64 - b).toNat).sshiftRight (64 - b).toNat

/-- The number of the first k of some bytes. -/
def numF (f : Nat → BitVec 8) : Nat → BitVec 64
  | 0 => 0#64
  | k + 1 => numF f k ||| ((f k).setWidth 64 <<< (8 * k))
def byteAt (s : ByteArray) (i : Nat) : BitVec 8 := (s.data.toList.getD i 0).toBitVec
def numS (s : ByteArray) : BitVec 64 := numF (byteAt s) (min s.size 8)
theorem numF_succ (f : Nat → BitVec 8) (k : Nat) : numF f (k + 1) = numF f k ||| ((f k).setWidth 64 <<< (8 * k)) := rfl
theorem byteAt_get (s : ByteArray) (k : Nat) (h : k < s.size) : BitVec.ofNat 64 s[k].toNat = (byteAt s k).setWidth 64 := by
  unfold byteAt
  have h' : k < s.data.toList.length := by simpa using h
  rw [List.getD_eq_getElem?_getD, List.getElem?_eq_getElem h']
  rw [← BitVec.ofNat_toNat]; rfl
theorem numS_eq (s : ByteArray) (k : Nat) (h : k = min s.size 8) : numF (byteAt s) k = numS s := by rw [h]; rfl

theorem numF_bit (f : Nat → BitVec 8) (k j : Nat) : (numF f k).getLsbD j = (decide (j < 64) && decide (j < 8 * k) && (f (j / 8)).getLsbD (j % 8)) := by
  induction k with
  | zero => simp [numF]
  | succ k ih =>
    rw [numF_succ, BitVec.getLsbD_or, ih, BitVec.getLsbD_shiftLeft, BitVec.getLsbD_setWidth]
    by_cases h64 : j < 64
    · by_cases h1 : j < 8 * k
      · have h2 : j < 8 * (k + 1) := by omega
        simp [h64, h1, h2]
      · by_cases h2 : j < 8 * (k + 1)
        · have e1 : j / 8 = k := by omega
          have e2 : j - 8 * k = j % 8 := by omega
          have e3 : j % 8 < 64 := by omega
          simp [h64, h1, h2, e1, e2, e3]
        · have e2 : 8 ≤ j - 8 * k := by omega
          simp [h64, h1, h2, BitVec.getLsbD_of_ge _ _ e2]
    · simp [h64]

/-- The number of m bytes from the place 'lo' on, from the highest one. -/
def numH (f : Nat → BitVec 8) (lo : Nat) : Nat → BitVec 64
  | 0 => 0#64
  | m + 1 => numH f (lo + 1) m <<< 8 ||| (f lo).setWidth 64
theorem numH_bit (f : Nat → BitVec 8) (m : Nat) : ∀ lo j, (numH f lo m).getLsbD j = (decide (j < 64) && decide (j < 8 * m) && (f (lo + j / 8)).getLsbD (j % 8)) := by
  induction m with
  | zero => intro lo j; simp [numH]
  | succ m ih =>
    intro lo j
    rw [numH, BitVec.getLsbD_or, BitVec.getLsbD_shiftLeft, ih, BitVec.getLsbD_setWidth]
    by_cases h64 : j < 64
    · by_cases h8 : j < 8
      · have e1 : j / 8 = 0 := by omega
        have e2 : j % 8 = j := by omega
        have e3 : j < 8 * (m + 1) := by omega
        simp [h64, h8, e1, e2, e3]
      · have e1 : lo + 1 + (j - 8) / 8 = lo + j / 8 := by omega
        have e2 : (j - 8) % 8 = j % 8 := by omega
        have e4 : j - 8 < 64 := by omega
        have e5 : (f lo).getLsbD j = false := BitVec.getLsbD_of_ge _ _ (by omega)
        by_cases h3 : j < 8 * (m + 1)
        · have e3 : j - 8 < 8 * m := by omega
          simp [h64, h8, e1, e2, e3, e4, e5, h3]
        · have e3 : ¬ j - 8 < 8 * m := by omega
          simp [h64, h8, e3, e5, h3]
    · simp [h64]
theorem numF_numH (f : Nat → BitVec 8) (m : Nat) : numH f 0 m = numF f m := by
  apply BitVec.eq_of_getLsbD_eq
  intro i hi
  rw [numF_bit, numH_bit, Nat.zero_add]
theorem mul256_add (v : BitVec 64) (c : BitVec 8) : v * 256#64 + c.setWidth 64 = v <<< 8 ||| c.setWidth 64 := by
  have e : v * 256#64 = v <<< 8 := by
    rw [BitVec.shiftLeft_eq_mul_twoPow]; congr 1
  rw [e]
  apply BitVec.add_eq_or_of_and_eq_zero
  apply BitVec.eq_of_getLsbD_eq
  intro i hi
  simp only [BitVec.getLsbD_and, BitVec.getLsbD_shiftLeft, BitVec.getLsbD_setWidth, BitVec.getLsbD_zero]
  by_cases h : i < 8
  · simp [h]
  · simp [BitVec.getLsbD_of_ge c i (by omega)]
theorem numH_step (f : Nat → BitVec 8) (lo m : Nat) : numH f (lo + 1) m * 256#64 + (f lo).setWidth 64 = numH f lo (m + 1) := by
  rw [mul256_add]; rfl

def byteOf (v : BitVec 64) (i : Nat) : BitVec 8 := (v >>> (8 * i)).setWidth 8
def bytesN (v : BitVec 64) (n : Nat) : ByteArray := ⟨((List.range n).map fun i => UInt8.ofBitVec (byteOf v i)).toArray⟩
theorem bytesN_size (v : BitVec 64) (n : Nat) : (bytesN v n).size = n := by
  show (bytesN v n).data.size = n
  simp [bytesN]
theorem bytesN_list (v : BitVec 64) (n : Nat) : (bytesN v n).data.toList = (List.range n).map fun i => UInt8.ofBitVec (byteOf v i) := by simp [bytesN]
theorem bytesN_get (v : BitVec 64) (n i : Nat) (h : i < (bytesN v n).size) : ((bytesN v n)[i].toNat : Int) = N (byteOf v i) := by
  have e : (bytesN v n)[i] = (bytesN v n).data[i]'(by simpa using h) := rfl
  rw [e]
  simp [bytesN, N]
theorem byteAt_bytesN (v : BitVec 64) (n i : Nat) (h : i < n) : byteAt (bytesN v n) i = byteOf v i := by
  unfold byteAt
  rw [bytesN_list, List.getD_eq_getElem?_getD]
  simp [h]

/-- nums.Bytes: the text of a number's n lowest bytes. -/
def bytesS (v : BitVec 64) (n : Int) : ByteArray := if n < 0 ∨ 8 < n then ⟨#[]⟩ else bytesN v n.toNat

theorem low_mod (v : BitVec 64) (b : Nat) : v % (1#64 <<< b) = v &&& (1#64 <<< b - 1#64) ∨ 64 ≤ b := by
  by_cases h : b < 64
  · left
    apply BitVec.eq_of_toNat_eq
    have hp : 2 ^ b < 2 ^ 64 := Nat.pow_lt_pow_right (by decide) h
    have e1 : (1#64 <<< b).toNat = 2 ^ b := by
      rw [BitVec.toNat_shiftLeft]; simp [Nat.shiftLeft_eq]; exact hp
    have hp0 : 0 < 2 ^ b := Nat.two_pow_pos b
    have e2 : (1#64 <<< b - 1#64).toNat = 2 ^ b - 1 := by
      rw [BitVec.toNat_sub, e1]; simp; omega
    rw [BitVec.toNat_umod, BitVec.toNat_and, e1, e2, Nat.and_two_pow_sub_one_eq_mod]
  · right; omega
theorem low_of_mod (v : BitVec 64) (b : Int) (h0 : 0 < b) (h1 : b < 64) : v % (1#64 <<< b.toNat) = lowS v b := by
  unfold lowS
  rw [if_neg (by omega), if_neg (by omega)]
  exact (low_mod v b.toNat).resolve_right (by omega)
theorem low_toNat (v : BitVec 64) (b : Int) (h0 : 0 < b) (h1 : b < 64) : (lowS v b).toNat = v.toNat % 2 ^ b.toNat := by
  rw [← low_of_mod v b h0 h1, BitVec.toNat_umod, BitVec.toNat_shiftLeft]
  have hp : 2 ^ b.toNat < 2 ^ 64 := Nat.pow_lt_pow_right (by decide) (by omega)
  simp only [BitVec.toNat_ofNat, Nat.shiftLeft_eq]
  rw [Nat.mod_eq_of_lt (a := 1) (by decide), Nat.one_mul, Nat.mod_eq_of_lt hp]
theorem low_bit (v : BitVec 64) (b : Int) (i : Nat) : (lowS v b).getLsbD i = (decide ((i : Int) < b) && v.getLsbD i) := by
  by_cases h0 : b ≤ 0
  · unfold lowS; rw [if_pos h0]
    have : ¬ (i : Int) < b := by omega
    simp [this]
  · by_cases h1 : 64 ≤ b
    · unfold lowS; rw [if_neg h0, if_pos h1]
      by_cases hi : i < 64
      · have : (i : Int) < b := by omega
        simp [this]
      · simp [BitVec.getLsbD_of_ge v i (by omega)]
    · have e := low_toNat v b (by omega) (by omega)
      rw [BitVec.getLsbD, e, Nat.testBit_mod_two_pow]
      congr 1
      simp only [decide_eq_decide]; omega
theorem sign_bit (v : BitVec 64) (b : Int) (i : Nat) (hb : 0 < b) (hi : i < 64) : (signS v b).getLsbD i = if (i : Int) < b then v.getLsbD i else v.getLsbD (b.toNat - 1) := by
  unfold signS
  rw [if_neg (by omega)]
  by_cases h1 : 64 ≤ b
  · rw [if_pos h1, if_pos (by omega)]
  · rw [if_neg h1]
    obtain ⟨n, rfl⟩ := Int.eq_ofNat_of_zero_le (show 0 ≤ b by omega)
    generalize hk' : (64 - (n : Int)).toNat = k
    have hk : k + n = 64 := by omega
    clear hk'
    rw [Int.toNat_natCast, BitVec.getLsbD_sshiftRight]
    by_cases h2 : i < n
    · have h3 : k + i < 64 := by omega
      have h4 : ¬ 64 ≤ i := by omega
      have h5 : (i : Int) < n := by omega
      rw [if_pos h3, if_pos h5, BitVec.getLsbD_shiftLeft]
      simp only [h3, h4, show ¬ k + i < k from by omega, Nat.add_sub_cancel_left, decide_false, decide_true, Bool.not_false, Bool.true_and]
    · have h3 : ¬ k + i < 64 := by omega
      have h4 : ¬ 64 ≤ i := by omega
      have h5 : ¬ (i : Int) < n := by omega
      have h6 : ¬ 63 < k := by omega
      have e : 63 - k = n - 1 := by omega
      rw [if_neg h3, if_neg h5, BitVec.msb_eq_getLsbD_last, BitVec.getLsbD_shiftLeft]
      simp only [h4, h6, decide_false, decide_true, Bool.not_false, Bool.true_and, show 64 - 1 < 64 from by decide, show 64 - 1 - k = n - 1 from by omega]
theorem low_lt_iff (v : BitVec 64) (b : Int) (h0 : 0 < b) (h1 : b < 64) : (N (lowS v b) < N (1#64 <<< (b - 1).toNat)) ↔ v.getLsbD (b.toNat - 1) = false := by
  obtain ⟨n, rfl⟩ : ∃ n : Nat, b = (n : Int) + 1 := ⟨(b - 1).toNat, by omega⟩
  have hp : 2 ^ n < 2 ^ 64 := Nat.pow_lt_pow_right (by decide) (by omega)
  have e1 : (1#64 <<< ((n : Int) + 1 - 1).toNat).toNat = 2 ^ n := by
    rw [show ((n : Int) + 1 - 1).toNat = n by omega, BitVec.toNat_shiftLeft]; simp [Nat.shiftLeft_eq]; exact hp
  have e2 := low_toNat v ((n : Int) + 1) h0 h1
  rw [show ((n : Int) + 1).toNat = n + 1 by omega] at e2 ⊢
  unfold N
  rw [e1, e2, Nat.add_sub_cancel, BitVec.getLsbD, Nat.mod_pow_succ]
  have h3 : v.toNat % 2 ^ n < 2 ^ n := Nat.mod_lt _ (Nat.two_pow_pos n)
  rw [Nat.testBit_eq_decide_div_mod_eq]
  have h4 : v.toNat / 2 ^ n % 2 = 0 ∨ v.toNat / 2 ^ n % 2 = 1 := by omega
  rcases h4 with h4 | h4
  · simp [h4]; exact_mod_cast h3
  · simp [h4]; omega
theorem sign_of_low (v : BitVec 64) (b : Int) (h0 : 0 < b) (h1 : b < 64) :
    signS v b = if v.getLsbD (b.toNat - 1) = false then lowS v b else lowS v b - 1#64 <<< b.toNat := by
  have hlow : ∀ i, (lowS v b).getLsbD i = (decide ((i : Int) < b) && v.getLsbD i) := low_bit v b
  split
  · rename_i h
    apply BitVec.eq_of_getLsbD_eq
    intro i hi
    rw [sign_bit v b i h0 hi, hlow i]
    by_cases hib : (i : Int) < b <;> simp only [hib, if_true, if_false, h, decide_true, decide_false, Bool.true_and, Bool.false_and]
  · rename_i h
    have h' : v.getLsbD (b.toNat - 1) = true := by simpa using h
    obtain ⟨n, rfl⟩ := Int.eq_ofNat_of_zero_le (show 0 ≤ b by omega)
    rw [Int.toNat_natCast] at h' ⊢
    have hn : n < 64 := by omega
    have hmask : ∀ i, i < 64 → (~~~(1#64 <<< n - 1#64)).getLsbD i = decide (n ≤ i) := by
      intro i hi
      have hp : 2 ^ n < 2 ^ 64 := Nat.pow_lt_pow_right (by decide) hn
      have e1 : (1#64 <<< n).toNat = 2 ^ n := by
        rw [BitVec.toNat_shiftLeft]; simp [Nat.shiftLeft_eq]; exact hp
      have hp0 : 0 < 2 ^ n := Nat.two_pow_pos n
      have e2 : (1#64 <<< n - 1#64).toNat = 2 ^ n - 1 := by
        rw [BitVec.toNat_sub, e1]; simp; omega
      rw [BitVec.getLsbD_not, BitVec.getLsbD, e2, Nat.testBit_two_pow_sub_one]
      by_cases hni : n ≤ i
      · simp [hi, hni]
      · simp [hi, hni]; omega
    have hneg : -(1#64 <<< n) = ~~~(1#64 <<< n - 1#64) := by
      rw [BitVec.neg_eq_not_add, BitVec.not_sub_one_eq_not_add_one]
    rw [BitVec.sub_eq_add_neg, hneg, BitVec.add_eq_or_of_and_eq_zero]
    · apply BitVec.eq_of_getLsbD_eq
      intro i hi
      rw [sign_bit v _ i h0 hi, BitVec.getLsbD_or, hlow i, hmask i hi, Int.toNat_natCast]
      by_cases hib : i < n
      · have h2 : ¬ n ≤ i := by omega
        simp [hib, h2]
      · have h2 : n ≤ i := by omega
        have h3 : ¬ (i : Int) < n := by omega
        simp [h2, h3, h']
    · apply BitVec.eq_of_getLsbD_eq
      intro i hi
      rw [BitVec.getLsbD_and, hlow i, hmask i hi]
      by_cases hib : i < n
      · have h2 : ¬ n ≤ i := by omega
        simp [h2]
      · simp [hib]
theorem shl1_ne (b : Int) (h0 : 0 ≤ b) (h1 : b < 64) : ¬ N (1#64 <<< b.toNat) = 0 := by
  have hp : 2 ^ b.toNat < 2 ^ 64 := Nat.pow_lt_pow_right (by decide) (by omega)
  have hp0 : 0 < 2 ^ b.toNat := Nat.two_pow_pos _
  unfold N
  rw [BitVec.toNat_shiftLeft]
  simp only [BitVec.toNat_ofNat, Nat.shiftLeft_eq]
  rw [Nat.mod_eq_of_lt (a := 1) (by decide), Nat.one_mul, Nat.mod_eq_of_lt hp]
  omega
/-- What the document's Sign goes by: whether no sign is told on. -/
def plainB (v : BitVec 64) (b : Int) : Bool := decide (N (lowS v b) < N (1#64 <<< (b - 1).toNat))
theorem sign_le0 (v : BitVec 64) (b : Int) (h : b ≤ 0) : lowS v b = signS v b := by unfold lowS signS; rw [if_pos h, if_pos h]
theorem sign_ge64 (v : BitVec 64) (b : Int) (h : 64 ≤ b) : lowS v b = signS v b := by unfold lowS signS; rw [if_neg (show ¬ b ≤ 0 by omega), if_pos h, if_neg (show ¬ b ≤ 0 by omega), if_pos h]
theorem sign_plain (v : BitVec 64) (b : Int) (h0 : 0 < b) (h1 : b < 64) (h : N (lowS v b) < N (1#64 <<< (b.toNat - 1))) : lowS v b = signS v b := by
  rw [show b.toNat - 1 = (b - 1).toNat by omega] at h
  rw [sign_of_low v b h0 h1, if_pos ((low_lt_iff v b h0 h1).1 h)]
theorem sign_minus (v : BitVec 64) (b : Int) (h0 : 0 < b) (h1 : b < 64) (h : ¬ N (lowS v b) < N (1#64 <<< (b.toNat - 1))) : lowS v b - 1#64 <<< b.toNat = signS v b := by
  rw [show b.toNat - 1 = (b - 1).toNat by omega] at h
  rw [sign_of_low v b h0 h1, if_neg (fun h' => h ((low_lt_iff v b h0 h1).2 h'))]
theorem shl_succ (k : Nat) : 1#64 <<< k * 2#64 = 1#64 <<< (k + 1) := by
  apply BitVec.eq_of_toNat_eq
  simp [Nat.shiftLeft_eq, Nat.pow_succ]
end Go.Proofs.YtbaiokfjoglmiaaDoor
end
section
namespace Go.Proofs.YtbaiokfjoglmiaaDoor.Ex
open Go Go.RowKit
set_option linter.unusedVariables false
set_option linter.unusedSimpArgs false
set_option maxHeartbeats 0
set_option maxRecDepth 1000000
theorem rkZ {hk : Hook} (hhk : HookOk Tryd.prog hk) (orc : Orc) (h0 : List AO) {g : FuncId} {args : List Value} {v : Value} {cs : Cs} (hf : (args.all flat && flat v) = true)
    (h : reckonGL Tryd.prog (guardH hk) orc 100000 300 h0 g args = some (v, cs.map (·.1))) (h2 : reckonGR Tryd.prog (guardH hk) orc 100000 300 h0 g args v = some (v, cs.map (·.2))) (he : cs.map (·.1) = cs.map (·.2)) (w : World) (hL : Laid h0 w) : Calls Tryd.prog g ⟨args⟩ w fun e w' => e = .returned v ∧ Gr w w' := by
  simp only [Bool.and_eq_true] at hf
  exact reckonS_ok noNG hhk orc 100000 300 h0 hf.1 hf.2 h h2 he w hL
theorem csT' {e : Bool} {l : Cs} (h : e = true) (r : l.map (·.1) = l.map (·.2)) : (((b2i e, 1) :: l : Cs)).map (·.1) = (((b2i e, 1) :: l : Cs)).map (·.2) := by
  subst h; exact congrArg (List.cons _) r
theorem csF' {e : Bool} {l : Cs} (h : e = false) (r : l.map (·.1) = l.map (·.2)) : (((b2i e, 0) :: l : Cs)).map (·.1) = (((b2i e, 0) :: l : Cs)).map (·.2) := by
  subst h; exact congrArg (List.cons _) r
theorem csI' {e n : Int} {l : Cs} (h : e = n) (r : l.map (·.1) = l.map (·.2)) : (((e, n) :: l : Cs)).map (·.1) = (((e, n) :: l : Cs)).map (·.2) := by
  subst h; exact congrArg (List.cons _) r
theorem csN' : (([] : Cs)).map (·.1) = (([] : Cs)).map (·.2) := rfl
theorem retZ {P : Program} {g : FuncId} {args : Array Value} {u v : Value} {w : World} (e : u = v) (h : Calls P g args w fun x w' => x = .returned v ∧ Gr w w') : Calls P g args w fun x w' => x = .returned u ∧ Gr w w' := e ▸ h
def Lf (h0 : List AO) (g : FuncId) (args : List Value) (v : Value) (cs : Cs) : Prop := cs.map (·.1) = cs.map (·.2) → ∀ (w : World), Laid h0 w → Calls Tryd.prog g ⟨args⟩ w fun e w' => e = .returned v ∧ Gr w w'
theorem lf {hk : Hook} (hhk : HookOk Tryd.prog hk) (orc : Orc) {h0 : List AO} {g : FuncId} {args : List Value} {v : Value} {cs : Cs} (hf : (args.all flat && flat v) = true)
    (h : reckonGL Tryd.prog (guardH hk) orc 100000 300 h0 g args = some (v, cs.map (·.1))) (h2 : reckonGR Tryd.prog (guardH hk) orc 100000 300 h0 g args v = some (v, cs.map (·.2))) : Lf h0 g args v cs := fun he w hL => rkZ hhk orc h0 hf h h2 he w hL
def xA (k al co si : Int) (wi sh : Bool) (ds sr dp re im : Int) : List Value := [.int .i64 k, .int .i64 al, .int .i64 co, .int .i64 si, .bool wi, .bool sh, .int .i64 ds, .int .i64 sr, .int .i32 dp, .int .i32 re, .int .i64 im]
def ocs (l : List (Nat × Nat × Value)) (rounds : List Bool) : Orc := fun f t (x : List Value) =>
  match l.find? (fun p => Nat.beq p.1 f && Nat.beq p.2.1 t) with
  | some p => some p.2.2
  | none => if Nat.beq f 47 && Nat.beq t 17 then (match (x[5]? : Option Value) with | some (Value.int _ i) => (rounds[i.toNat]?).map Value.bool | _ => none) else none
def hkZ : Hook := fun _ _ _ => none
theorem hkZ_ok : HookOk Tryd.prog hkZ := by
  intro f args h v cs hv
  cases hv
def regS (n : Int) : Bool := decide (n ≥ 0) && decide (n < 16)
def aluOk (a : Int) : Bool := a == 0 || (a == 1 || (a == 4 || (a == 5 || (a == 6 || (a == 7)))))
def shOk (a : Int) : Bool := a == 4 || (a == 5 || (a == 7))
def ccR (a : Int) : Bool := a == 2 || (a == 3 || (a == 4 || (a == 5 || (a == 6 || (a == 7 || (a == 12 || (a == 13 || (a == 14 || (a == 15)))))))))
def szOk (a : Int) : Bool := a == 1 || (a == 2 || (a == 4 || (a == 8)))
def szR (a : Int) : Bool := 1 == a || (2 == a || (4 == a || 8 == a))
theorem szR_eq (a : Int) : szR a = szOk a := by
  unfold szR szOk
  simp only [BEq.comm (b := a)]
def ccOk (c : Int) : Bool := (decide (c ≥ 2) && decide (c ≤ 7)) || (decide (c ≥ 12) && decide (c ≤ 15))
def wordS (n : Int) : Bool := decide (n ≥ -2147483648) && decide (n ≤ 2147483647)
def shiftS (wi : Bool) (im : Int) : Bool := decide (im ≥ 0) && (decide (im < 32) || (wi && decide (im < 64)))
def relS (sh : Bool) (re : Int) : Bool := !sh || (decide (re ≥ -128) && decide (re ≤ 127))
theorem eqz (a c : Int) : (c == a) = (a == c) := BEq.comm
theorem ralu_0 (a : Int) : Lf [] 44 [.int .i64 a] (.bool true) [(b2i (0 == a), 1)] := lf hkZ_ok (ocs [] [true]) (by kernel_rfl) (by kernel_rfl) (by kernel_rfl)
theorem ralu_1 (a : Int) : Lf [] 44 [.int .i64 a] (.bool true) [(b2i (0 == a), 0), (b2i (1 == a), 1)] := lf hkZ_ok (ocs [] [false, true]) (by kernel_rfl) (by kernel_rfl) (by kernel_rfl)
theorem ralu_2 (a : Int) : Lf [] 44 [.int .i64 a] (.bool true) [(b2i (0 == a), 0), (b2i (1 == a), 0), (b2i (4 == a), 1)] := lf hkZ_ok (ocs [] [false, false, true]) (by kernel_rfl) (by kernel_rfl) (by kernel_rfl)
theorem ralu_3 (a : Int) : Lf [] 44 [.int .i64 a] (.bool true) [(b2i (0 == a), 0), (b2i (1 == a), 0), (b2i (4 == a), 0), (b2i (5 == a), 1)] := lf hkZ_ok (ocs [] [false, false, false, true]) (by kernel_rfl) (by kernel_rfl) (by kernel_rfl)
theorem ralu_4 (a : Int) : Lf [] 44 [.int .i64 a] (.bool true) [(b2i (0 == a), 0), (b2i (1 == a), 0), (b2i (4 == a), 0), (b2i (5 == a), 0), (b2i (6 == a), 1)] := lf hkZ_ok (ocs [] [false, false, false, false, true]) (by kernel_rfl) (by kernel_rfl) (by kernel_rfl)
theorem ralu_5 (a : Int) : Lf [] 44 [.int .i64 a] (.bool true) [(b2i (0 == a), 0), (b2i (1 == a), 0), (b2i (4 == a), 0), (b2i (5 == a), 0), (b2i (6 == a), 0), (b2i (7 == a), 1)] := lf hkZ_ok (ocs [] [false, false, false, false, false, true]) (by kernel_rfl) (by kernel_rfl) (by kernel_rfl)
theorem ralu_6 (a : Int) : Lf [] 44 [.int .i64 a] (.bool false) [(b2i (0 == a), 0), (b2i (1 == a), 0), (b2i (4 == a), 0), (b2i (5 == a), 0), (b2i (6 == a), 0), (b2i (7 == a), 0)] := lf hkZ_ok (ocs [] [false, false, false, false, false, false]) (by kernel_rfl) (by kernel_rfl) (by kernel_rfl)
theorem c_ralu (a : Int) (w : World) : Calls Tryd.prog 44 #[.int .i64 a] w fun e w' => e = .returned (.bool (aluOk a)) ∧ Gr w w' := by
  rcases Bool.eq_false_or_eq_true (0 == a) with k0 | k0
  · exact retZ (by first | rfl | ((simp only [aluOk, ← eqz a]) <;> (try simp only [k0]) <;> (try rfl) <;> (try simp))) (ralu_0 a (csT' k0 csN') w (Laid.nil w))
  · rcases Bool.eq_false_or_eq_true (1 == a) with k1 | k1
    · exact retZ (by first | rfl | ((simp only [aluOk, ← eqz a]) <;> (try simp only [k0]) <;> (try simp only [k1]) <;> (try rfl) <;> (try simp))) (ralu_1 a (csF' k0 (csT' k1 csN')) w (Laid.nil w))
    · rcases Bool.eq_false_or_eq_true (4 == a) with k2 | k2
      · exact retZ (by first | rfl | ((simp only [aluOk, ← eqz a]) <;> (try simp only [k0]) <;> (try simp only [k1]) <;> (try simp only [k2]) <;> (try rfl) <;> (try simp))) (ralu_2 a (csF' k0 (csF' k1 (csT' k2 csN'))) w (Laid.nil w))
      · rcases Bool.eq_false_or_eq_true (5 == a) with k3 | k3
        · exact retZ (by first | rfl | ((simp only [aluOk, ← eqz a]) <;> (try simp only [k0]) <;> (try simp only [k1]) <;> (try simp only [k2]) <;> (try simp only [k3]) <;> (try rfl) <;> (try simp))) (ralu_3 a (csF' k0 (csF' k1 (csF' k2 (csT' k3 csN')))) w (Laid.nil w))
        · rcases Bool.eq_false_or_eq_true (6 == a) with k4 | k4
          · exact retZ (by first | rfl | ((simp only [aluOk, ← eqz a]) <;> (try simp only [k0]) <;> (try simp only [k1]) <;> (try simp only [k2]) <;> (try simp only [k3]) <;> (try simp only [k4]) <;> (try rfl) <;> (try simp))) (ralu_4 a (csF' k0 (csF' k1 (csF' k2 (csF' k3 (csT' k4 csN'))))) w (Laid.nil w))
          · rcases Bool.eq_false_or_eq_true (7 == a) with k5 | k5
            · exact retZ (by first | rfl | ((simp only [aluOk, ← eqz a]) <;> (try simp only [k0]) <;> (try simp only [k1]) <;> (try simp only [k2]) <;> (try simp only [k3]) <;> (try simp only [k4]) <;> (try simp only [k5]) <;> (try rfl) <;> (try simp))) (ralu_5 a (csF' k0 (csF' k1 (csF' k2 (csF' k3 (csF' k4 (csT' k5 csN')))))) w (Laid.nil w))
            · exact retZ (by first | rfl | ((simp only [aluOk, ← eqz a]) <;> (try simp only [k0]) <;> (try simp only [k1]) <;> (try simp only [k2]) <;> (try simp only [k3]) <;> (try simp only [k4]) <;> (try simp only [k5]) <;> (try rfl) <;> (try simp))) (ralu_6 a (csF' k0 (csF' k1 (csF' k2 (csF' k3 (csF' k4 (csF' k5 csN')))))) w (Laid.nil w))
def hk_ralu : Hook := fun f args h =>
  if Nat.beq f 44 then
    match args with
    | [.int .i64 p] => some (.bool (aluOk p), [])
    | _ => none
  else none
theorem hk_ralu_ok : HookOk Tryd.prog hk_ralu := by
  intro f args h v cs hv hc wb k s w H
  unfold hk_ralu at hv
  split at hv
  · rename_i hf
    obtain rfl := Nat.eq_of_beq_eq_true hf
    split at hv
    · cases hv
      exact c_ralu _ w
    · cases hv
  · cases hv
theorem rshift_0 (a : Int) : Lf [] 46 [.int .i64 a] (.bool true) [(b2i (4 == a), 1)] := lf hkZ_ok (ocs [] [true]) (by kernel_rfl) (by kernel_rfl) (by kernel_rfl)
theorem rshift_1 (a : Int) : Lf [] 46 [.int .i64 a] (.bool true) [(b2i (4 == a), 0), (b2i (5 == a), 1)] := lf hkZ_ok (ocs [] [false, true]) (by kernel_rfl) (by kernel_rfl) (by kernel_rfl)
theorem rshift_2 (a : Int) : Lf [] 46 [.int .i64 a] (.bool true) [(b2i (4 == a), 0), (b2i (5 == a), 0), (b2i (7 == a), 1)] := lf hkZ_ok (ocs [] [false, false, true]) (by kernel_rfl) (by kernel_rfl) (by kernel_rfl)
theorem rshift_3 (a : Int) : Lf [] 46 [.int .i64 a] (.bool false) [(b2i (4 == a), 0), (b2i (5 == a), 0), (b2i (7 == a), 0)] := lf hkZ_ok (ocs [] [false, false, false]) (by kernel_rfl) (by kernel_rfl) (by kernel_rfl)
theorem c_rshift (a : Int) (w : World) : Calls Tryd.prog 46 #[.int .i64 a] w fun e w' => e = .returned (.bool (shOk a)) ∧ Gr w w' := by
  rcases Bool.eq_false_or_eq_true (4 == a) with k0 | k0
  · exact retZ (by first | rfl | ((simp only [shOk, ← eqz a]) <;> (try simp only [k0]) <;> (try rfl) <;> (try simp))) (rshift_0 a (csT' k0 csN') w (Laid.nil w))
  · rcases Bool.eq_false_or_eq_true (5 == a) with k1 | k1
    · exact retZ (by first | rfl | ((simp only [shOk, ← eqz a]) <;> (try simp only [k0]) <;> (try simp only [k1]) <;> (try rfl) <;> (try simp))) (rshift_1 a (csF' k0 (csT' k1 csN')) w (Laid.nil w))
    · rcases Bool.eq_false_or_eq_true (7 == a) with k2 | k2
      · exact retZ (by first | rfl | ((simp only [shOk, ← eqz a]) <;> (try simp only [k0]) <;> (try simp only [k1]) <;> (try simp only [k2]) <;> (try rfl) <;> (try simp))) (rshift_2 a (csF' k0 (csF' k1 (csT' k2 csN'))) w (Laid.nil w))
      · exact retZ (by first | rfl | ((simp only [shOk, ← eqz a]) <;> (try simp only [k0]) <;> (try simp only [k1]) <;> (try simp only [k2]) <;> (try rfl) <;> (try simp))) (rshift_3 a (csF' k0 (csF' k1 (csF' k2 csN'))) w (Laid.nil w))
def hk_rshift : Hook := fun f args h =>
  if Nat.beq f 46 then
    match args with
    | [.int .i64 p] => some (.bool (shOk p), [])
    | _ => none
  else none
theorem hk_rshift_ok : HookOk Tryd.prog hk_rshift := by
  intro f args h v cs hv hc wb k s w H
  unfold hk_rshift at hv
  split at hv
  · rename_i hf
    obtain rfl := Nat.eq_of_beq_eq_true hf
    split at hv
    · cases hv
      exact c_rshift _ w
    · cases hv
  · cases hv
theorem rcond_0 (a : Int) : Lf [] 48 [.int .i64 a] (.bool true) [(b2i (2 == a), 1)] := lf hkZ_ok (ocs [] [true]) (by kernel_rfl) (by kernel_rfl) (by kernel_rfl)
theorem rcond_1 (a : Int) : Lf [] 48 [.int .i64 a] (.bool true) [(b2i (2 == a), 0), (b2i (3 == a), 1)] := lf hkZ_ok (ocs [] [false, true]) (by kernel_rfl) (by kernel_rfl) (by kernel_rfl)
theorem rcond_2 (a : Int) : Lf [] 48 [.int .i64 a] (.bool true) [(b2i (2 == a), 0), (b2i (3 == a), 0), (b2i (4 == a), 1)] := lf hkZ_ok (ocs [] [false, false, true]) (by kernel_rfl) (by kernel_rfl) (by kernel_rfl)
theorem rcond_3 (a : Int) : Lf [] 48 [.int .i64 a] (.bool true) [(b2i (2 == a), 0), (b2i (3 == a), 0), (b2i (4 == a), 0), (b2i (5 == a), 1)] := lf hkZ_ok (ocs [] [false, false, false, true]) (by kernel_rfl) (by kernel_rfl) (by kernel_rfl)
theorem rcond_4 (a : Int) : Lf [] 48 [.int .i64 a] (.bool true) [(b2i (2 == a), 0), (b2i (3 == a), 0), (b2i (4 == a), 0), (b2i (5 == a), 0), (b2i (6 == a), 1)] := lf hkZ_ok (ocs [] [false, false, false, false, true]) (by kernel_rfl) (by kernel_rfl) (by kernel_rfl)
theorem rcond_5 (a : Int) : Lf [] 48 [.int .i64 a] (.bool true) [(b2i (2 == a), 0), (b2i (3 == a), 0), (b2i (4 == a), 0), (b2i (5 == a), 0), (b2i (6 == a), 0), (b2i (7 == a), 1)] := lf hkZ_ok (ocs [] [false, false, false, false, false, true]) (by kernel_rfl) (by kernel_rfl) (by kernel_rfl)
theorem rcond_6 (a : Int) : Lf [] 48 [.int .i64 a] (.bool true) [(b2i (2 == a), 0), (b2i (3 == a), 0), (b2i (4 == a), 0), (b2i (5 == a), 0), (b2i (6 == a), 0), (b2i (7 == a), 0), (b2i (12 == a), 1)] := lf hkZ_ok (ocs [] [false, false, false, false, false, false, true]) (by kernel_rfl) (by kernel_rfl) (by kernel_rfl)
theorem rcond_7 (a : Int) : Lf [] 48 [.int .i64 a] (.bool true) [(b2i (2 == a), 0), (b2i (3 == a), 0), (b2i (4 == a), 0), (b2i (5 == a), 0), (b2i (6 == a), 0), (b2i (7 == a), 0), (b2i (12 == a), 0), (b2i (13 == a), 1)] := lf hkZ_ok (ocs [] [false, false, false, false, false, false, false, true]) (by kernel_rfl) (by kernel_rfl) (by kernel_rfl)
theorem rcond_8 (a : Int) : Lf [] 48 [.int .i64 a] (.bool true) [(b2i (2 == a), 0), (b2i (3 == a), 0), (b2i (4 == a), 0), (b2i (5 == a), 0), (b2i (6 == a), 0), (b2i (7 == a), 0), (b2i (12 == a), 0), (b2i (13 == a), 0), (b2i (14 == a), 1)] := lf hkZ_ok (ocs [] [false, false, false, false, false, false, false, false, true]) (by kernel_rfl) (by kernel_rfl) (by kernel_rfl)
theorem rcond_9 (a : Int) : Lf [] 48 [.int .i64 a] (.bool true) [(b2i (2 == a), 0), (b2i (3 == a), 0), (b2i (4 == a), 0), (b2i (5 == a), 0), (b2i (6 == a), 0), (b2i (7 == a), 0), (b2i (12 == a), 0), (b2i (13 == a), 0), (b2i (14 == a), 0), (b2i (15 == a), 1)] := lf hkZ_ok (ocs [] [false, false, false, false, false, false, false, false, false, true]) (by kernel_rfl) (by kernel_rfl) (by kernel_rfl)
theorem rcond_10 (a : Int) : Lf [] 48 [.int .i64 a] (.bool false) [(b2i (2 == a), 0), (b2i (3 == a), 0), (b2i (4 == a), 0), (b2i (5 == a), 0), (b2i (6 == a), 0), (b2i (7 == a), 0), (b2i (12 == a), 0), (b2i (13 == a), 0), (b2i (14 == a), 0), (b2i (15 == a), 0)] := lf hkZ_ok (ocs [] [false, false, false, false, false, false, false, false, false, false]) (by kernel_rfl) (by kernel_rfl) (by kernel_rfl)
theorem c_rcond (a : Int) (w : World) : Calls Tryd.prog 48 #[.int .i64 a] w fun e w' => e = .returned (.bool (ccR a)) ∧ Gr w w' := by
  rcases Bool.eq_false_or_eq_true (2 == a) with k0 | k0
  · exact retZ (by first | rfl | ((simp only [ccR, ← eqz a]) <;> (try simp only [k0]) <;> (try rfl) <;> (try simp))) (rcond_0 a (csT' k0 csN') w (Laid.nil w))
  · rcases Bool.eq_false_or_eq_true (3 == a) with k1 | k1
    · exact retZ (by first | rfl | ((simp only [ccR, ← eqz a]) <;> (try simp only [k0]) <;> (try simp only [k1]) <;> (try rfl) <;> (try simp))) (rcond_1 a (csF' k0 (csT' k1 csN')) w (Laid.nil w))
    · rcases Bool.eq_false_or_eq_true (4 == a) with k2 | k2
      · exact retZ (by first | rfl | ((simp only [ccR, ← eqz a]) <;> (try simp only [k0]) <;> (try simp only [k1]) <;> (try simp only [k2]) <;> (try rfl) <;> (try simp))) (rcond_2 a (csF' k0 (csF' k1 (csT' k2 csN'))) w (Laid.nil w))
      · rcases Bool.eq_false_or_eq_true (5 == a) with k3 | k3
        · exact retZ (by first | rfl | ((simp only [ccR, ← eqz a]) <;> (try simp only [k0]) <;> (try simp only [k1]) <;> (try simp only [k2]) <;> (try simp only [k3]) <;> (try rfl) <;> (try simp))) (rcond_3 a (csF' k0 (csF' k1 (csF' k2 (csT' k3 csN')))) w (Laid.nil w))
        · rcases Bool.eq_false_or_eq_true (6 == a) with k4 | k4
          · exact retZ (by first | rfl | ((simp only [ccR, ← eqz a]) <;> (try simp only [k0]) <;> (try simp only [k1]) <;> (try simp only [k2]) <;> (try simp only [k3]) <;> (try simp only [k4]) <;> (try rfl) <;> (try simp))) (rcond_4 a (csF' k0 (csF' k1 (csF' k2 (csF' k3 (csT' k4 csN'))))) w (Laid.nil w))
          · rcases Bool.eq_false_or_eq_true (7 == a) with k5 | k5
            · exact retZ (by first | rfl | ((simp only [ccR, ← eqz a]) <;> (try simp only [k0]) <;> (try simp only [k1]) <;> (try simp only [k2]) <;> (try simp only [k3]) <;> (try simp only [k4]) <;> (try simp only [k5]) <;> (try rfl) <;> (try simp))) (rcond_5 a (csF' k0 (csF' k1 (csF' k2 (csF' k3 (csF' k4 (csT' k5 csN')))))) w (Laid.nil w))
            · rcases Bool.eq_false_or_eq_true (12 == a) with k6 | k6
              · exact retZ (by first | rfl | ((simp only [ccR, ← eqz a]) <;> (try simp only [k6]) <;> (try simp only [k0]) <;> (try simp only [k1]) <;> (try simp only [k2]) <;> (try simp only [k3]) <;> (try simp only [k4]) <;> (try simp only [k5]) <;> (try rfl) <;> (try simp))) (rcond_6 a (csF' k0 (csF' k1 (csF' k2 (csF' k3 (csF' k4 (csF' k5 (csT' k6 csN'))))))) w (Laid.nil w))
              · rcases Bool.eq_false_or_eq_true (13 == a) with k7 | k7
                · exact retZ (by first | rfl | ((simp only [ccR, ← eqz a]) <;> (try simp only [k6]) <;> (try simp only [k7]) <;> (try simp only [k0]) <;> (try simp only [k1]) <;> (try simp only [k2]) <;> (try simp only [k3]) <;> (try simp only [k4]) <;> (try simp only [k5]) <;> (try rfl) <;> (try simp))) (rcond_7 a (csF' k0 (csF' k1 (csF' k2 (csF' k3 (csF' k4 (csF' k5 (csF' k6 (csT' k7 csN')))))))) w (Laid.nil w))
                · rcases Bool.eq_false_or_eq_true (14 == a) with k8 | k8
                  · exact retZ (by first | rfl | ((simp only [ccR, ← eqz a]) <;> (try simp only [k6]) <;> (try simp only [k7]) <;> (try simp only [k8]) <;> (try simp only [k0]) <;> (try simp only [k1]) <;> (try simp only [k2]) <;> (try simp only [k3]) <;> (try simp only [k4]) <;> (try simp only [k5]) <;> (try rfl) <;> (try simp))) (rcond_8 a (csF' k0 (csF' k1 (csF' k2 (csF' k3 (csF' k4 (csF' k5 (csF' k6 (csF' k7 (csT' k8 csN'))))))))) w (Laid.nil w))
                  · rcases Bool.eq_false_or_eq_true (15 == a) with k9 | k9
                    · exact retZ (by first | rfl | ((simp only [ccR, ← eqz a]) <;> (try simp only [k6]) <;> (try simp only [k7]) <;> (try simp only [k8]) <;> (try simp only [k9]) <;> (try simp only [k0]) <;> (try simp only [k1]) <;> (try simp only [k2]) <;> (try simp only [k3]) <;> (try simp only [k4]) <;> (try simp only [k5]) <;> (try rfl) <;> (try simp))) (rcond_9 a (csF' k0 (csF' k1 (csF' k2 (csF' k3 (csF' k4 (csF' k5 (csF' k6 (csF' k7 (csF' k8 (csT' k9 csN')))))))))) w (Laid.nil w))
                    · exact retZ (by first | rfl | ((simp only [ccR, ← eqz a]) <;> (try simp only [k6]) <;> (try simp only [k7]) <;> (try simp only [k8]) <;> (try simp only [k9]) <;> (try simp only [k0]) <;> (try simp only [k1]) <;> (try simp only [k2]) <;> (try simp only [k3]) <;> (try simp only [k4]) <;> (try simp only [k5]) <;> (try rfl) <;> (try simp))) (rcond_10 a (csF' k0 (csF' k1 (csF' k2 (csF' k3 (csF' k4 (csF' k5 (csF' k6 (csF' k7 (csF' k8 (csF' k9 csN')))))))))) w (Laid.nil w))
def hk_rcond : Hook := fun f args h =>
  if Nat.beq f 48 then
    match args with
    | [.int .i64 p] => some (.bool (ccR p), [])
    | _ => none
  else none
theorem hk_rcond_ok : HookOk Tryd.prog hk_rcond := by
  intro f args h v cs hv hc wb k s w H
  unfold hk_rcond at hv
  split at hv
  · rename_i hf
    obtain rfl := Nat.eq_of_beq_eq_true hf
    split at hv
    · cases hv
      exact c_rcond _ w
    · cases hv
  · cases hv
theorem rword_0 (a : Int) : Lf [] 45 [.int .i64 a] (.bool (decide (a ≤ 2147483647))) [(b2i (decide (a ≥ -2147483648)), 1)] := lf hkZ_ok (ocs [(45, 5, .bool true)] []) (by kernel_rfl) (by kernel_rfl) (by kernel_rfl)
theorem rword_1 (a : Int) : Lf [] 45 [.int .i64 a] (.bool false) [(b2i (decide (a ≥ -2147483648)), 0)] := lf hkZ_ok (ocs [(45, 5, .bool false)] []) (by kernel_rfl) (by kernel_rfl) (by kernel_rfl)
theorem c_rword (a : Int) (w : World) : Calls Tryd.prog 45 #[.int .i64 a] w fun e w' => e = .returned (.bool (wordS a)) ∧ Gr w w' := by
  rcases Bool.eq_false_or_eq_true (decide (a ≥ -2147483648)) with k0 | k0
  · exact retZ (by first | rfl | ((simp only [wordS]) <;> (try simp only [k0]) <;> (try rfl) <;> (try simp))) (rword_0 a (csT' k0 csN') w (Laid.nil w))
  · exact retZ (by first | rfl | ((simp only [wordS]) <;> (try simp only [k0]) <;> (try rfl) <;> (try simp))) (rword_1 a (csF' k0 csN') w (Laid.nil w))
def hk_rword : Hook := fun f args h =>
  if Nat.beq f 45 then
    match args with
    | [.int .i64 p] => some (.bool (wordS p), [])
    | _ => none
  else none
theorem hk_rword_ok : HookOk Tryd.prog hk_rword := by
  intro f args h v cs hv hc wb k s w H
  unfold hk_rword at hv
  split at hv
  · rename_i hf
    obtain rfl := Nat.eq_of_beq_eq_true hf
    split at hv
    · cases hv
      exact c_rword _ w
    · cases hv
  · cases hv
theorem rreg_0 (a : Int) : Lf [] 49 [.int .i64 a] (.bool (decide (a < 16))) [(b2i (decide (a ≥ 0)), 1)] := lf hkZ_ok (ocs [(49, 5, .bool true)] []) (by kernel_rfl) (by kernel_rfl) (by kernel_rfl)
theorem rreg_1 (a : Int) : Lf [] 49 [.int .i64 a] (.bool false) [(b2i (decide (a ≥ 0)), 0)] := lf hkZ_ok (ocs [(49, 5, .bool false)] []) (by kernel_rfl) (by kernel_rfl) (by kernel_rfl)
theorem c_rreg (a : Int) (w : World) : Calls Tryd.prog 49 #[.int .i64 a] w fun e w' => e = .returned (.bool (regS a)) ∧ Gr w w' := by
  rcases Bool.eq_false_or_eq_true (decide (a ≥ 0)) with k0 | k0
  · exact retZ (by first | rfl | ((simp only [regS]) <;> (try simp only [k0]) <;> (try rfl) <;> (try simp))) (rreg_0 a (csT' k0 csN') w (Laid.nil w))
  · exact retZ (by first | rfl | ((simp only [regS]) <;> (try simp only [k0]) <;> (try rfl) <;> (try simp))) (rreg_1 a (csF' k0 csN') w (Laid.nil w))
def hk_rreg : Hook := fun f args h =>
  if Nat.beq f 49 then
    match args with
    | [.int .i64 p] => some (.bool (regS p), [])
    | _ => none
  else none
theorem hk_rreg_ok : HookOk Tryd.prog hk_rreg := by
  intro f args h v cs hv hc wb k s w H
  unfold hk_rreg at hv
  split at hv
  · rename_i hf
    obtain rfl := Nat.eq_of_beq_eq_true hf
    split at hv
    · cases hv
      exact c_rreg _ w
    · cases hv
  · cases hv
theorem regs_0 (k : Int) (al co si : Int) (wi sh : Bool) (ds sr dp re im : Int) : Lf [] 41 [.agg ⟨(xA k al co si wi sh ds sr dp re im)⟩] (.bool (decide (sr < 16))) [(b2i (decide (ds ≥ 0)), 1), (b2i (decide (ds < 16)), 1), (b2i (decide (sr ≥ 0)), 1)] := lf hkZ_ok (ocs [(41, 6, .bool true), (41, 11, .bool true), (41, 16, .bool true)] []) (by kernel_rfl) (by kernel_rfl) (by kernel_rfl)
theorem regs_1 (k : Int) (al co si : Int) (wi sh : Bool) (ds sr dp re im : Int) : Lf [] 41 [.agg ⟨(xA k al co si wi sh ds sr dp re im)⟩] (.bool false) [(b2i (decide (ds ≥ 0)), 1), (b2i (decide (ds < 16)), 1), (b2i (decide (sr ≥ 0)), 0)] := lf hkZ_ok (ocs [(41, 6, .bool true), (41, 11, .bool true), (41, 16, .bool false)] []) (by kernel_rfl) (by kernel_rfl) (by kernel_rfl)
theorem regs_2 (k : Int) (al co si : Int) (wi sh : Bool) (ds sr dp re im : Int) : Lf [] 41 [.agg ⟨(xA k al co si wi sh ds sr dp re im)⟩] (.bool false) [(b2i (decide (ds ≥ 0)), 1), (b2i (decide (ds < 16)), 0)] := lf hkZ_ok (ocs [(41, 6, .bool true), (41, 11, .bool false)] []) (by kernel_rfl) (by kernel_rfl) (by kernel_rfl)
theorem regs_3 (k : Int) (al co si : Int) (wi sh : Bool) (ds sr dp re im : Int) : Lf [] 41 [.agg ⟨(xA k al co si wi sh ds sr dp re im)⟩] (.bool false) [(b2i (decide (ds ≥ 0)), 0)] := lf hkZ_ok (ocs [(41, 6, .bool false)] []) (by kernel_rfl) (by kernel_rfl) (by kernel_rfl)
theorem c_regs (k : Int) (al co si : Int) (wi sh : Bool) (ds sr dp re im : Int) (w : World) : Calls Tryd.prog 41 #[.agg ⟨(xA k al co si wi sh ds sr dp re im)⟩] w fun e w' => e = .returned (.bool (regS ds && regS sr)) ∧ Gr w w' := by
  rcases Bool.eq_false_or_eq_true (decide (ds ≥ 0)) with k0 | k0
  · rcases Bool.eq_false_or_eq_true (decide (ds < 16)) with k1 | k1
    · rcases Bool.eq_false_or_eq_true (decide (sr ≥ 0)) with k2 | k2
      · exact retZ (by first | rfl | ((simp only [regS]) <;> (try simp only [k1]) <;> (try simp only [k0]) <;> (try simp only [k2]) <;> (try rfl) <;> (try simp))) (regs_0 k al co si wi sh ds sr dp re im (csT' k0 (csT' k1 (csT' k2 csN'))) w (Laid.nil w))
      · exact retZ (by first | rfl | ((simp only [regS]) <;> (try simp only [k1]) <;> (try simp only [k0]) <;> (try simp only [k2]) <;> (try rfl) <;> (try simp))) (regs_1 k al co si wi sh ds sr dp re im (csT' k0 (csT' k1 (csF' k2 csN'))) w (Laid.nil w))
    · exact retZ (by first | rfl | ((simp only [regS]) <;> (try simp only [k1]) <;> (try simp only [k0]) <;> (try rfl) <;> (try simp))) (regs_2 k al co si wi sh ds sr dp re im (csT' k0 (csF' k1 csN')) w (Laid.nil w))
  · exact retZ (by first | rfl | ((simp only [regS]) <;> (try simp only [k0]) <;> (try rfl) <;> (try simp))) (regs_3 k al co si wi sh ds sr dp re im (csF' k0 csN') w (Laid.nil w))
def hk_regs : Hook := fun f args h =>
  if Nat.beq f 41 then
    match args with
    | [.agg ⟨[.int .i64 p0, .int .i64 p1, .int .i64 p2, .int .i64 p3, .bool p4, .bool p5, .int .i64 p6, .int .i64 p7, .int .i32 p8, .int .i32 p9, .int .i64 p10]⟩] => some (.bool (regS p6 && regS p7), [])
    | _ => none
  else none
theorem hk_regs_ok : HookOk Tryd.prog hk_regs := by
  intro f args h v cs hv hc wb k s w H
  unfold hk_regs at hv
  split at hv
  · rename_i hf
    obtain rfl := Nat.eq_of_beq_eq_true hf
    split at hv
    · cases hv
      exact c_regs _ _ _ _ _ _ _ _ _ _ _ w
    · cases hv
  · cases hv
theorem cho4_0 (al co si : Int) (wi sh : Bool) (ds sr dp re im : Int) : Lf [] 42 [.agg ⟨[.int .u16 15, .bool false, .int .u8 1, .int .u8 1, .int .u8 0, .int .u8 0]⟩, .agg ⟨(xA 4 al co si wi sh ds sr dp re im)⟩] (.bool true) [(b2i (al == 0), 1)] := lf hkZ_ok (ocs [(42, 12, .bool true)] []) (by kernel_rfl) (by kernel_rfl) (by kernel_rfl)
theorem cho4_1 (al co si : Int) (wi sh : Bool) (ds sr dp re im : Int) : Lf [] 42 [.agg ⟨[.int .u16 15, .bool false, .int .u8 1, .int .u8 1, .int .u8 0, .int .u8 0]⟩, .agg ⟨(xA 4 al co si wi sh ds sr dp re im)⟩] (.bool true) [(b2i (al == 0), 0), (b2i (al == 1), 1)] := lf hkZ_ok (ocs [(42, 12, .bool false), (42, 13, .bool true)] []) (by kernel_rfl) (by kernel_rfl) (by kernel_rfl)
theorem cho4_2 (al co si : Int) (wi sh : Bool) (ds sr dp re im : Int) : Lf [] 42 [.agg ⟨[.int .u16 15, .bool false, .int .u8 1, .int .u8 1, .int .u8 0, .int .u8 0]⟩, .agg ⟨(xA 4 al co si wi sh ds sr dp re im)⟩] (.bool true) [(b2i (al == 0), 0), (b2i (al == 1), 0), (b2i (al == 4), 1)] := lf hkZ_ok (ocs [(42, 12, .bool false), (42, 13, .bool false), (42, 14, .bool true)] []) (by kernel_rfl) (by kernel_rfl) (by kernel_rfl)
theorem cho4_3 (al co si : Int) (wi sh : Bool) (ds sr dp re im : Int) : Lf [] 42 [.agg ⟨[.int .u16 15, .bool false, .int .u8 1, .int .u8 1, .int .u8 0, .int .u8 0]⟩, .agg ⟨(xA 4 al co si wi sh ds sr dp re im)⟩] (.bool true) [(b2i (al == 0), 0), (b2i (al == 1), 0), (b2i (al == 4), 0), (b2i (al == 5), 1)] := lf hkZ_ok (ocs [(42, 12, .bool false), (42, 13, .bool false), (42, 14, .bool false), (42, 15, .bool true)] []) (by kernel_rfl) (by kernel_rfl) (by kernel_rfl)
theorem cho4_4 (al co si : Int) (wi sh : Bool) (ds sr dp re im : Int) : Lf [] 42 [.agg ⟨[.int .u16 15, .bool false, .int .u8 1, .int .u8 1, .int .u8 0, .int .u8 0]⟩, .agg ⟨(xA 4 al co si wi sh ds sr dp re im)⟩] (.bool true) [(b2i (al == 0), 0), (b2i (al == 1), 0), (b2i (al == 4), 0), (b2i (al == 5), 0), (b2i (al == 6), 1)] := lf hkZ_ok (ocs [(42, 12, .bool false), (42, 13, .bool false), (42, 14, .bool false), (42, 15, .bool false), (42, 16, .bool true)] []) (by kernel_rfl) (by kernel_rfl) (by kernel_rfl)
theorem cho4_5 (al co si : Int) (wi sh : Bool) (ds sr dp re im : Int) : Lf [] 42 [.agg ⟨[.int .u16 15, .bool false, .int .u8 1, .int .u8 1, .int .u8 0, .int .u8 0]⟩, .agg ⟨(xA 4 al co si wi sh ds sr dp re im)⟩] (.bool true) [(b2i (al == 0), 0), (b2i (al == 1), 0), (b2i (al == 4), 0), (b2i (al == 5), 0), (b2i (al == 6), 0), (b2i (al == 7), 1)] := lf hkZ_ok (ocs [(42, 12, .bool false), (42, 13, .bool false), (42, 14, .bool false), (42, 15, .bool false), (42, 16, .bool false), (42, 17, .bool true)] []) (by kernel_rfl) (by kernel_rfl) (by kernel_rfl)
theorem cho4_6 (al co si : Int) (wi sh : Bool) (ds sr dp re im : Int) : Lf [] 42 [.agg ⟨[.int .u16 15, .bool false, .int .u8 1, .int .u8 1, .int .u8 0, .int .u8 0]⟩, .agg ⟨(xA 4 al co si wi sh ds sr dp re im)⟩] (.bool false) [(b2i (al == 0), 0), (b2i (al == 1), 0), (b2i (al == 4), 0), (b2i (al == 5), 0), (b2i (al == 6), 0), (b2i (al == 7), 0)] := lf hkZ_ok (ocs [(42, 12, .bool false), (42, 13, .bool false), (42, 14, .bool false), (42, 15, .bool false), (42, 16, .bool false), (42, 17, .bool false)] []) (by kernel_rfl) (by kernel_rfl) (by kernel_rfl)
theorem c_cho4 (al co si : Int) (wi sh : Bool) (ds sr dp re im : Int) (w : World) : Calls Tryd.prog 42 #[.agg ⟨[.int .u16 15, .bool false, .int .u8 1, .int .u8 1, .int .u8 0, .int .u8 0]⟩, .agg ⟨(xA 4 al co si wi sh ds sr dp re im)⟩] w fun e w' => e = .returned (.bool (aluOk al)) ∧ Gr w w' := by
  rcases Bool.eq_false_or_eq_true (al == 0) with k0 | k0
  · exact retZ (by first | rfl | ((simp only [aluOk]) <;> (try simp only [k0]) <;> (try rfl) <;> (try simp))) (cho4_0 al co si wi sh ds sr dp re im (csT' k0 csN') w (Laid.nil w))
  · rcases Bool.eq_false_or_eq_true (al == 1) with k1 | k1
    · exact retZ (by first | rfl | ((simp only [aluOk]) <;> (try simp only [k0]) <;> (try simp only [k1]) <;> (try rfl) <;> (try simp))) (cho4_1 al co si wi sh ds sr dp re im (csF' k0 (csT' k1 csN')) w (Laid.nil w))
    · rcases Bool.eq_false_or_eq_true (al == 4) with k2 | k2
      · exact retZ (by first | rfl | ((simp only [aluOk]) <;> (try simp only [k0]) <;> (try simp only [k1]) <;> (try simp only [k2]) <;> (try rfl) <;> (try simp))) (cho4_2 al co si wi sh ds sr dp re im (csF' k0 (csF' k1 (csT' k2 csN'))) w (Laid.nil w))
      · rcases Bool.eq_false_or_eq_true (al == 5) with k3 | k3
        · exact retZ (by first | rfl | ((simp only [aluOk]) <;> (try simp only [k0]) <;> (try simp only [k1]) <;> (try simp only [k2]) <;> (try simp only [k3]) <;> (try rfl) <;> (try simp))) (cho4_3 al co si wi sh ds sr dp re im (csF' k0 (csF' k1 (csF' k2 (csT' k3 csN')))) w (Laid.nil w))
        · rcases Bool.eq_false_or_eq_true (al == 6) with k4 | k4
          · exact retZ (by first | rfl | ((simp only [aluOk]) <;> (try simp only [k0]) <;> (try simp only [k1]) <;> (try simp only [k2]) <;> (try simp only [k3]) <;> (try simp only [k4]) <;> (try rfl) <;> (try simp))) (cho4_4 al co si wi sh ds sr dp re im (csF' k0 (csF' k1 (csF' k2 (csF' k3 (csT' k4 csN'))))) w (Laid.nil w))
          · rcases Bool.eq_false_or_eq_true (al == 7) with k5 | k5
            · exact retZ (by first | rfl | ((simp only [aluOk]) <;> (try simp only [k0]) <;> (try simp only [k1]) <;> (try simp only [k2]) <;> (try simp only [k3]) <;> (try simp only [k4]) <;> (try simp only [k5]) <;> (try rfl) <;> (try simp))) (cho4_5 al co si wi sh ds sr dp re im (csF' k0 (csF' k1 (csF' k2 (csF' k3 (csF' k4 (csT' k5 csN')))))) w (Laid.nil w))
            · exact retZ (by first | rfl | ((simp only [aluOk]) <;> (try simp only [k0]) <;> (try simp only [k1]) <;> (try simp only [k2]) <;> (try simp only [k3]) <;> (try simp only [k4]) <;> (try simp only [k5]) <;> (try rfl) <;> (try simp))) (cho4_6 al co si wi sh ds sr dp re im (csF' k0 (csF' k1 (csF' k2 (csF' k3 (csF' k4 (csF' k5 csN')))))) w (Laid.nil w))
theorem cho5_0 (al co si : Int) (wi sh : Bool) (ds sr dp re im : Int) : Lf [] 42 [.agg ⟨[.int .u16 43, .bool false, .int .u8 129, .int .u8 4, .int .u8 0, .int .u8 4]⟩, .agg ⟨(xA 5 al co si wi sh ds sr dp re im)⟩] (.bool true) [(b2i (al == 0), 1)] := lf hkZ_ok (ocs [(42, 12, .bool true)] []) (by kernel_rfl) (by kernel_rfl) (by kernel_rfl)
theorem cho5_1 (al co si : Int) (wi sh : Bool) (ds sr dp re im : Int) : Lf [] 42 [.agg ⟨[.int .u16 43, .bool false, .int .u8 129, .int .u8 4, .int .u8 0, .int .u8 4]⟩, .agg ⟨(xA 5 al co si wi sh ds sr dp re im)⟩] (.bool true) [(b2i (al == 0), 0), (b2i (al == 1), 1)] := lf hkZ_ok (ocs [(42, 12, .bool false), (42, 13, .bool true)] []) (by kernel_rfl) (by kernel_rfl) (by kernel_rfl)
theorem cho5_2 (al co si : Int) (wi sh : Bool) (ds sr dp re im : Int) : Lf [] 42 [.agg ⟨[.int .u16 43, .bool false, .int .u8 129, .int .u8 4, .int .u8 0, .int .u8 4]⟩, .agg ⟨(xA 5 al co si wi sh ds sr dp re im)⟩] (.bool true) [(b2i (al == 0), 0), (b2i (al == 1), 0), (b2i (al == 4), 1)] := lf hkZ_ok (ocs [(42, 12, .bool false), (42, 13, .bool false), (42, 14, .bool true)] []) (by kernel_rfl) (by kernel_rfl) (by kernel_rfl)
theorem cho5_3 (al co si : Int) (wi sh : Bool) (ds sr dp re im : Int) : Lf [] 42 [.agg ⟨[.int .u16 43, .bool false, .int .u8 129, .int .u8 4, .int .u8 0, .int .u8 4]⟩, .agg ⟨(xA 5 al co si wi sh ds sr dp re im)⟩] (.bool true) [(b2i (al == 0), 0), (b2i (al == 1), 0), (b2i (al == 4), 0), (b2i (al == 5), 1)] := lf hkZ_ok (ocs [(42, 12, .bool false), (42, 13, .bool false), (42, 14, .bool false), (42, 15, .bool true)] []) (by kernel_rfl) (by kernel_rfl) (by kernel_rfl)
theorem cho5_4 (al co si : Int) (wi sh : Bool) (ds sr dp re im : Int) : Lf [] 42 [.agg ⟨[.int .u16 43, .bool false, .int .u8 129, .int .u8 4, .int .u8 0, .int .u8 4]⟩, .agg ⟨(xA 5 al co si wi sh ds sr dp re im)⟩] (.bool true) [(b2i (al == 0), 0), (b2i (al == 1), 0), (b2i (al == 4), 0), (b2i (al == 5), 0), (b2i (al == 6), 1)] := lf hkZ_ok (ocs [(42, 12, .bool false), (42, 13, .bool false), (42, 14, .bool false), (42, 15, .bool false), (42, 16, .bool true)] []) (by kernel_rfl) (by kernel_rfl) (by kernel_rfl)
theorem cho5_5 (al co si : Int) (wi sh : Bool) (ds sr dp re im : Int) : Lf [] 42 [.agg ⟨[.int .u16 43, .bool false, .int .u8 129, .int .u8 4, .int .u8 0, .int .u8 4]⟩, .agg ⟨(xA 5 al co si wi sh ds sr dp re im)⟩] (.bool true) [(b2i (al == 0), 0), (b2i (al == 1), 0), (b2i (al == 4), 0), (b2i (al == 5), 0), (b2i (al == 6), 0), (b2i (al == 7), 1)] := lf hkZ_ok (ocs [(42, 12, .bool false), (42, 13, .bool false), (42, 14, .bool false), (42, 15, .bool false), (42, 16, .bool false), (42, 17, .bool true)] []) (by kernel_rfl) (by kernel_rfl) (by kernel_rfl)
theorem cho5_6 (al co si : Int) (wi sh : Bool) (ds sr dp re im : Int) : Lf [] 42 [.agg ⟨[.int .u16 43, .bool false, .int .u8 129, .int .u8 4, .int .u8 0, .int .u8 4]⟩, .agg ⟨(xA 5 al co si wi sh ds sr dp re im)⟩] (.bool false) [(b2i (al == 0), 0), (b2i (al == 1), 0), (b2i (al == 4), 0), (b2i (al == 5), 0), (b2i (al == 6), 0), (b2i (al == 7), 0)] := lf hkZ_ok (ocs [(42, 12, .bool false), (42, 13, .bool false), (42, 14, .bool false), (42, 15, .bool false), (42, 16, .bool false), (42, 17, .bool false)] []) (by kernel_rfl) (by kernel_rfl) (by kernel_rfl)
theorem c_cho5 (al co si : Int) (wi sh : Bool) (ds sr dp re im : Int) (w : World) : Calls Tryd.prog 42 #[.agg ⟨[.int .u16 43, .bool false, .int .u8 129, .int .u8 4, .int .u8 0, .int .u8 4]⟩, .agg ⟨(xA 5 al co si wi sh ds sr dp re im)⟩] w fun e w' => e = .returned (.bool (aluOk al)) ∧ Gr w w' := by
  rcases Bool.eq_false_or_eq_true (al == 0) with k0 | k0
  · exact retZ (by first | rfl | ((simp only [aluOk]) <;> (try simp only [k0]) <;> (try rfl) <;> (try simp))) (cho5_0 al co si wi sh ds sr dp re im (csT' k0 csN') w (Laid.nil w))
  · rcases Bool.eq_false_or_eq_true (al == 1) with k1 | k1
    · exact retZ (by first | rfl | ((simp only [aluOk]) <;> (try simp only [k0]) <;> (try simp only [k1]) <;> (try rfl) <;> (try simp))) (cho5_1 al co si wi sh ds sr dp re im (csF' k0 (csT' k1 csN')) w (Laid.nil w))
    · rcases Bool.eq_false_or_eq_true (al == 4) with k2 | k2
      · exact retZ (by first | rfl | ((simp only [aluOk]) <;> (try simp only [k0]) <;> (try simp only [k1]) <;> (try simp only [k2]) <;> (try rfl) <;> (try simp))) (cho5_2 al co si wi sh ds sr dp re im (csF' k0 (csF' k1 (csT' k2 csN'))) w (Laid.nil w))
      · rcases Bool.eq_false_or_eq_true (al == 5) with k3 | k3
        · exact retZ (by first | rfl | ((simp only [aluOk]) <;> (try simp only [k0]) <;> (try simp only [k1]) <;> (try simp only [k2]) <;> (try simp only [k3]) <;> (try rfl) <;> (try simp))) (cho5_3 al co si wi sh ds sr dp re im (csF' k0 (csF' k1 (csF' k2 (csT' k3 csN')))) w (Laid.nil w))
        · rcases Bool.eq_false_or_eq_true (al == 6) with k4 | k4
          · exact retZ (by first | rfl | ((simp only [aluOk]) <;> (try simp only [k0]) <;> (try simp only [k1]) <;> (try simp only [k2]) <;> (try simp only [k3]) <;> (try simp only [k4]) <;> (try rfl) <;> (try simp))) (cho5_4 al co si wi sh ds sr dp re im (csF' k0 (csF' k1 (csF' k2 (csF' k3 (csT' k4 csN'))))) w (Laid.nil w))
          · rcases Bool.eq_false_or_eq_true (al == 7) with k5 | k5
            · exact retZ (by first | rfl | ((simp only [aluOk]) <;> (try simp only [k0]) <;> (try simp only [k1]) <;> (try simp only [k2]) <;> (try simp only [k3]) <;> (try simp only [k4]) <;> (try simp only [k5]) <;> (try rfl) <;> (try simp))) (cho5_5 al co si wi sh ds sr dp re im (csF' k0 (csF' k1 (csF' k2 (csF' k3 (csF' k4 (csT' k5 csN')))))) w (Laid.nil w))
            · exact retZ (by first | rfl | ((simp only [aluOk]) <;> (try simp only [k0]) <;> (try simp only [k1]) <;> (try simp only [k2]) <;> (try simp only [k3]) <;> (try simp only [k4]) <;> (try simp only [k5]) <;> (try rfl) <;> (try simp))) (cho5_6 al co si wi sh ds sr dp re im (csF' k0 (csF' k1 (csF' k2 (csF' k3 (csF' k4 (csF' k5 csN')))))) w (Laid.nil w))
theorem cho11_0 (al co si : Int) (wi sh : Bool) (ds sr dp re im : Int) : Lf [] 42 [.agg ⟨[.int .u16 51, .bool false, .int .u8 193, .int .u8 4, .int .u8 0, .int .u8 1]⟩, .agg ⟨(xA 11 al co si wi sh ds sr dp re im)⟩] (.bool true) [(b2i (al == 4), 1)] := lf hkZ_ok (ocs [(42, 24, .bool true)] []) (by kernel_rfl) (by kernel_rfl) (by kernel_rfl)
theorem cho11_1 (al co si : Int) (wi sh : Bool) (ds sr dp re im : Int) : Lf [] 42 [.agg ⟨[.int .u16 51, .bool false, .int .u8 193, .int .u8 4, .int .u8 0, .int .u8 1]⟩, .agg ⟨(xA 11 al co si wi sh ds sr dp re im)⟩] (.bool true) [(b2i (al == 4), 0), (b2i (al == 5), 1)] := lf hkZ_ok (ocs [(42, 24, .bool false), (42, 29, .bool true)] []) (by kernel_rfl) (by kernel_rfl) (by kernel_rfl)
theorem cho11_2 (al co si : Int) (wi sh : Bool) (ds sr dp re im : Int) : Lf [] 42 [.agg ⟨[.int .u16 51, .bool false, .int .u8 193, .int .u8 4, .int .u8 0, .int .u8 1]⟩, .agg ⟨(xA 11 al co si wi sh ds sr dp re im)⟩] (.bool (al == 7)) [(b2i (al == 4), 0), (b2i (al == 5), 0)] := lf hkZ_ok (ocs [(42, 24, .bool false), (42, 29, .bool false)] []) (by kernel_rfl) (by kernel_rfl) (by kernel_rfl)
theorem c_cho11 (al co si : Int) (wi sh : Bool) (ds sr dp re im : Int) (w : World) : Calls Tryd.prog 42 #[.agg ⟨[.int .u16 51, .bool false, .int .u8 193, .int .u8 4, .int .u8 0, .int .u8 1]⟩, .agg ⟨(xA 11 al co si wi sh ds sr dp re im)⟩] w fun e w' => e = .returned (.bool (shOk al)) ∧ Gr w w' := by
  rcases Bool.eq_false_or_eq_true (al == 4) with k0 | k0
  · exact retZ (by first | rfl | ((simp only [shOk]) <;> (try simp only [k0]) <;> (try rfl) <;> (try simp))) (cho11_0 al co si wi sh ds sr dp re im (csT' k0 csN') w (Laid.nil w))
  · rcases Bool.eq_false_or_eq_true (al == 5) with k1 | k1
    · exact retZ (by first | rfl | ((simp only [shOk]) <;> (try simp only [k0]) <;> (try simp only [k1]) <;> (try rfl) <;> (try simp))) (cho11_1 al co si wi sh ds sr dp re im (csF' k0 (csT' k1 csN')) w (Laid.nil w))
    · exact retZ (by first | rfl | ((simp only [shOk]) <;> (try simp only [k0]) <;> (try simp only [k1]) <;> (try rfl) <;> (try simp))) (cho11_2 al co si wi sh ds sr dp re im (csF' k0 (csF' k1 csN')) w (Laid.nil w))
theorem cho12_0 (al co si : Int) (wi sh : Bool) (ds sr dp re im : Int) : Lf [] 42 [.agg ⟨[.int .u16 19, .bool false, .int .u8 211, .int .u8 4, .int .u8 0, .int .u8 0]⟩, .agg ⟨(xA 12 al co si wi sh ds sr dp re im)⟩] (.bool true) [(b2i (al == 4), 1)] := lf hkZ_ok (ocs [(42, 24, .bool true)] []) (by kernel_rfl) (by kernel_rfl) (by kernel_rfl)
theorem cho12_1 (al co si : Int) (wi sh : Bool) (ds sr dp re im : Int) : Lf [] 42 [.agg ⟨[.int .u16 19, .bool false, .int .u8 211, .int .u8 4, .int .u8 0, .int .u8 0]⟩, .agg ⟨(xA 12 al co si wi sh ds sr dp re im)⟩] (.bool true) [(b2i (al == 4), 0), (b2i (al == 5), 1)] := lf hkZ_ok (ocs [(42, 24, .bool false), (42, 29, .bool true)] []) (by kernel_rfl) (by kernel_rfl) (by kernel_rfl)
theorem cho12_2 (al co si : Int) (wi sh : Bool) (ds sr dp re im : Int) : Lf [] 42 [.agg ⟨[.int .u16 19, .bool false, .int .u8 211, .int .u8 4, .int .u8 0, .int .u8 0]⟩, .agg ⟨(xA 12 al co si wi sh ds sr dp re im)⟩] (.bool (al == 7)) [(b2i (al == 4), 0), (b2i (al == 5), 0)] := lf hkZ_ok (ocs [(42, 24, .bool false), (42, 29, .bool false)] []) (by kernel_rfl) (by kernel_rfl) (by kernel_rfl)
theorem c_cho12 (al co si : Int) (wi sh : Bool) (ds sr dp re im : Int) (w : World) : Calls Tryd.prog 42 #[.agg ⟨[.int .u16 19, .bool false, .int .u8 211, .int .u8 4, .int .u8 0, .int .u8 0]⟩, .agg ⟨(xA 12 al co si wi sh ds sr dp re im)⟩] w fun e w' => e = .returned (.bool (shOk al)) ∧ Gr w w' := by
  rcases Bool.eq_false_or_eq_true (al == 4) with k0 | k0
  · exact retZ (by first | rfl | ((simp only [shOk]) <;> (try simp only [k0]) <;> (try rfl) <;> (try simp))) (cho12_0 al co si wi sh ds sr dp re im (csT' k0 csN') w (Laid.nil w))
  · rcases Bool.eq_false_or_eq_true (al == 5) with k1 | k1
    · exact retZ (by first | rfl | ((simp only [shOk]) <;> (try simp only [k0]) <;> (try simp only [k1]) <;> (try rfl) <;> (try simp))) (cho12_1 al co si wi sh ds sr dp re im (csF' k0 (csT' k1 csN')) w (Laid.nil w))
    · exact retZ (by first | rfl | ((simp only [shOk]) <;> (try simp only [k0]) <;> (try simp only [k1]) <;> (try rfl) <;> (try simp))) (cho12_2 al co si wi sh ds sr dp re im (csF' k0 (csF' k1 csN')) w (Laid.nil w))
theorem cho16_0 (al co si : Int) (wi sh : Bool) (ds sr dp re im : Int) : Lf [] 42 [.agg ⟨[.int .u16 1792, .bool false, .int .u8 0, .int .u8 8, .int .u8 0, .int .u8 0]⟩, .agg ⟨(xA 16 al co si wi sh ds sr dp re im)⟩] (.bool true) [(b2i (decide (co ≥ 2)), 1), (b2i (decide (co ≤ 7)), 1)] := lf hkZ_ok (ocs [(42, 40, .bool true), (42, 45, .bool true)] []) (by kernel_rfl) (by kernel_rfl) (by kernel_rfl)
theorem cho16_1 (al co si : Int) (wi sh : Bool) (ds sr dp re im : Int) : Lf [] 42 [.agg ⟨[.int .u16 1792, .bool false, .int .u8 0, .int .u8 8, .int .u8 0, .int .u8 0]⟩, .agg ⟨(xA 16 al co si wi sh ds sr dp re im)⟩] (.bool (decide (co ≤ 15))) [(b2i (decide (co ≥ 2)), 1), (b2i (decide (co ≤ 7)), 0), (b2i (decide (co ≥ 12)), 1)] := lf hkZ_ok (ocs [(42, 40, .bool true), (42, 45, .bool false), (42, 49, .bool true)] []) (by kernel_rfl) (by kernel_rfl) (by kernel_rfl)
theorem cho16_2 (al co si : Int) (wi sh : Bool) (ds sr dp re im : Int) : Lf [] 42 [.agg ⟨[.int .u16 1792, .bool false, .int .u8 0, .int .u8 8, .int .u8 0, .int .u8 0]⟩, .agg ⟨(xA 16 al co si wi sh ds sr dp re im)⟩] (.bool false) [(b2i (decide (co ≥ 2)), 1), (b2i (decide (co ≤ 7)), 0), (b2i (decide (co ≥ 12)), 0)] := lf hkZ_ok (ocs [(42, 40, .bool true), (42, 45, .bool false), (42, 49, .bool false)] []) (by kernel_rfl) (by kernel_rfl) (by kernel_rfl)
theorem cho16_3 (al co si : Int) (wi sh : Bool) (ds sr dp re im : Int) : Lf [] 42 [.agg ⟨[.int .u16 1792, .bool false, .int .u8 0, .int .u8 8, .int .u8 0, .int .u8 0]⟩, .agg ⟨(xA 16 al co si wi sh ds sr dp re im)⟩] (.bool (decide (co ≤ 15))) [(b2i (decide (co ≥ 2)), 0), (b2i (decide (co ≥ 12)), 1)] := lf hkZ_ok (ocs [(42, 40, .bool false), (42, 49, .bool true)] []) (by kernel_rfl) (by kernel_rfl) (by kernel_rfl)
theorem cho16_4 (al co si : Int) (wi sh : Bool) (ds sr dp re im : Int) : Lf [] 42 [.agg ⟨[.int .u16 1792, .bool false, .int .u8 0, .int .u8 8, .int .u8 0, .int .u8 0]⟩, .agg ⟨(xA 16 al co si wi sh ds sr dp re im)⟩] (.bool false) [(b2i (decide (co ≥ 2)), 0), (b2i (decide (co ≥ 12)), 0)] := lf hkZ_ok (ocs [(42, 40, .bool false), (42, 49, .bool false)] []) (by kernel_rfl) (by kernel_rfl) (by kernel_rfl)
theorem c_cho16 (al co si : Int) (wi sh : Bool) (ds sr dp re im : Int) (w : World) : Calls Tryd.prog 42 #[.agg ⟨[.int .u16 1792, .bool false, .int .u8 0, .int .u8 8, .int .u8 0, .int .u8 0]⟩, .agg ⟨(xA 16 al co si wi sh ds sr dp re im)⟩] w fun e w' => e = .returned (.bool (ccOk co)) ∧ Gr w w' := by
  rcases Bool.eq_false_or_eq_true (decide (co ≥ 2)) with k0 | k0
  · rcases Bool.eq_false_or_eq_true (decide (co ≤ 7)) with k1 | k1
    · exact retZ (by first | rfl | ((simp only [ccOk]) <;> (try simp only [k0]) <;> (try simp only [k1]) <;> (try rfl) <;> (try simp))) (cho16_0 al co si wi sh ds sr dp re im (csT' k0 (csT' k1 csN')) w (Laid.nil w))
    · rcases Bool.eq_false_or_eq_true (decide (co ≥ 12)) with k2 | k2
      · exact retZ (by first | rfl | ((simp only [ccOk]) <;> (try simp only [k2]) <;> (try simp only [k0]) <;> (try simp only [k1]) <;> (try rfl) <;> (try simp))) (cho16_1 al co si wi sh ds sr dp re im (csT' k0 (csF' k1 (csT' k2 csN'))) w (Laid.nil w))
      · exact retZ (by first | rfl | ((simp only [ccOk]) <;> (try simp only [k2]) <;> (try simp only [k0]) <;> (try simp only [k1]) <;> (try rfl) <;> (try simp))) (cho16_2 al co si wi sh ds sr dp re im (csT' k0 (csF' k1 (csF' k2 csN'))) w (Laid.nil w))
  · rcases Bool.eq_false_or_eq_true (decide (co ≥ 12)) with k1 | k1
    · exact retZ (by first | rfl | ((simp only [ccOk]) <;> (try simp only [k1]) <;> (try simp only [k0]) <;> (try rfl) <;> (try simp))) (cho16_3 al co si wi sh ds sr dp re im (csF' k0 (csT' k1 csN')) w (Laid.nil w))
    · exact retZ (by first | rfl | ((simp only [ccOk]) <;> (try simp only [k1]) <;> (try simp only [k0]) <;> (try rfl) <;> (try simp))) (cho16_4 al co si wi sh ds sr dp re im (csF' k0 (csF' k1 csN')) w (Laid.nil w))
theorem cho13_0 (al co si : Int) (wi sh : Bool) (ds sr dp re im : Int) : Lf [] 42 [.agg ⟨[.int .u16 199, .bool false, .int .u8 0, .int .u8 5, .int .u8 0, .int .u8 0]⟩, .agg ⟨(xA 13 al co si wi sh ds sr dp re im)⟩] (.bool (wi == (si == 8))) [(b2i (si == 1), 1)] := lf hkZ_ok (ocs [(42, 61, .bool true)] []) (by kernel_rfl) (by kernel_rfl) (by kernel_rfl)
theorem cho13_1 (al co si : Int) (wi sh : Bool) (ds sr dp re im : Int) : Lf [] 42 [.agg ⟨[.int .u16 199, .bool false, .int .u8 0, .int .u8 5, .int .u8 0, .int .u8 0]⟩, .agg ⟨(xA 13 al co si wi sh ds sr dp re im)⟩] (.bool (wi == (si == 8))) [(b2i (si == 1), 0), (b2i (si == 2), 1)] := lf hkZ_ok (ocs [(42, 61, .bool false), (42, 66, .bool true)] []) (by kernel_rfl) (by kernel_rfl) (by kernel_rfl)
theorem cho13_2 (al co si : Int) (wi sh : Bool) (ds sr dp re im : Int) : Lf [] 42 [.agg ⟨[.int .u16 199, .bool false, .int .u8 0, .int .u8 5, .int .u8 0, .int .u8 0]⟩, .agg ⟨(xA 13 al co si wi sh ds sr dp re im)⟩] (.bool (wi == (si == 8))) [(b2i (si == 1), 0), (b2i (si == 2), 0), (b2i (si == 4), 1)] := lf hkZ_ok (ocs [(42, 61, .bool false), (42, 66, .bool false), (42, 71, .bool true)] []) (by kernel_rfl) (by kernel_rfl) (by kernel_rfl)
theorem cho13_3 (al co si : Int) (wi sh : Bool) (ds sr dp re im : Int) : Lf [] 42 [.agg ⟨[.int .u16 199, .bool false, .int .u8 0, .int .u8 5, .int .u8 0, .int .u8 0]⟩, .agg ⟨(xA 13 al co si wi sh ds sr dp re im)⟩] (.bool (wi == (si == 8))) [(b2i (si == 1), 0), (b2i (si == 2), 0), (b2i (si == 4), 0), (b2i (si == 8), 1)] := lf hkZ_ok (ocs [(42, 61, .bool false), (42, 66, .bool false), (42, 71, .bool false), (42, 76, .bool true)] []) (by kernel_rfl) (by kernel_rfl) (by kernel_rfl)
theorem cho13_4 (al co si : Int) (wi sh : Bool) (ds sr dp re im : Int) : Lf [] 42 [.agg ⟨[.int .u16 199, .bool false, .int .u8 0, .int .u8 5, .int .u8 0, .int .u8 0]⟩, .agg ⟨(xA 13 al co si wi sh ds sr dp re im)⟩] (.bool false) [(b2i (si == 1), 0), (b2i (si == 2), 0), (b2i (si == 4), 0), (b2i (si == 8), 0)] := lf hkZ_ok (ocs [(42, 61, .bool false), (42, 66, .bool false), (42, 71, .bool false), (42, 76, .bool false)] []) (by kernel_rfl) (by kernel_rfl) (by kernel_rfl)
theorem c_cho13 (al co si : Int) (wi sh : Bool) (ds sr dp re im : Int) (w : World) : Calls Tryd.prog 42 #[.agg ⟨[.int .u16 199, .bool false, .int .u8 0, .int .u8 5, .int .u8 0, .int .u8 0]⟩, .agg ⟨(xA 13 al co si wi sh ds sr dp re im)⟩] w fun e w' => e = .returned (.bool (szOk si && (wi == (si == 8)))) ∧ Gr w w' := by
  rcases Bool.eq_false_or_eq_true (si == 1) with k0 | k0
  · exact retZ (by first | rfl | ((simp only [szOk]) <;> (try simp only [k0]) <;> (try rfl) <;> (try simp))) (cho13_0 al co si wi sh ds sr dp re im (csT' k0 csN') w (Laid.nil w))
  · rcases Bool.eq_false_or_eq_true (si == 2) with k1 | k1
    · exact retZ (by first | rfl | ((simp only [szOk]) <;> (try simp only [k0]) <;> (try simp only [k1]) <;> (try rfl) <;> (try simp))) (cho13_1 al co si wi sh ds sr dp re im (csF' k0 (csT' k1 csN')) w (Laid.nil w))
    · rcases Bool.eq_false_or_eq_true (si == 4) with k2 | k2
      · exact retZ (by first | rfl | ((simp only [szOk]) <;> (try simp only [k0]) <;> (try simp only [k1]) <;> (try simp only [k2]) <;> (try rfl) <;> (try simp))) (cho13_2 al co si wi sh ds sr dp re im (csF' k0 (csF' k1 (csT' k2 csN'))) w (Laid.nil w))
      · rcases Bool.eq_false_or_eq_true (si == 8) with k3 | k3
        · exact retZ (by first | rfl | ((simp only [szOk]) <;> (try simp only [k0]) <;> (try simp only [k1]) <;> (try simp only [k2]) <;> (try simp only [k3]) <;> (try rfl) <;> (try simp))) (cho13_3 al co si wi sh ds sr dp re im (csF' k0 (csF' k1 (csF' k2 (csT' k3 csN')))) w (Laid.nil w))
        · exact retZ (by first | rfl | ((simp only [szOk]) <;> (try simp only [k0]) <;> (try simp only [k1]) <;> (try simp only [k2]) <;> (try simp only [k3]) <;> (try rfl) <;> (try simp))) (cho13_4 al co si wi sh ds sr dp re im (csF' k0 (csF' k1 (csF' k2 (csF' k3 csN')))) w (Laid.nil w))
theorem cho14_0 (al co si : Int) (wi sh : Bool) (ds sr dp re im : Int) : Lf [] 42 [.agg ⟨[.int .u16 199, .bool false, .int .u8 0, .int .u8 6, .int .u8 0, .int .u8 0]⟩, .agg ⟨(xA 14 al co si wi sh ds sr dp re im)⟩] (.bool (wi == (si == 8))) [(b2i (si == 1), 1)] := lf hkZ_ok (ocs [(42, 61, .bool true)] []) (by kernel_rfl) (by kernel_rfl) (by kernel_rfl)
theorem cho14_1 (al co si : Int) (wi sh : Bool) (ds sr dp re im : Int) : Lf [] 42 [.agg ⟨[.int .u16 199, .bool false, .int .u8 0, .int .u8 6, .int .u8 0, .int .u8 0]⟩, .agg ⟨(xA 14 al co si wi sh ds sr dp re im)⟩] (.bool (wi == (si == 8))) [(b2i (si == 1), 0), (b2i (si == 2), 1)] := lf hkZ_ok (ocs [(42, 61, .bool false), (42, 66, .bool true)] []) (by kernel_rfl) (by kernel_rfl) (by kernel_rfl)
theorem cho14_2 (al co si : Int) (wi sh : Bool) (ds sr dp re im : Int) : Lf [] 42 [.agg ⟨[.int .u16 199, .bool false, .int .u8 0, .int .u8 6, .int .u8 0, .int .u8 0]⟩, .agg ⟨(xA 14 al co si wi sh ds sr dp re im)⟩] (.bool (wi == (si == 8))) [(b2i (si == 1), 0), (b2i (si == 2), 0), (b2i (si == 4), 1)] := lf hkZ_ok (ocs [(42, 61, .bool false), (42, 66, .bool false), (42, 71, .bool true)] []) (by kernel_rfl) (by kernel_rfl) (by kernel_rfl)
theorem cho14_3 (al co si : Int) (wi sh : Bool) (ds sr dp re im : Int) : Lf [] 42 [.agg ⟨[.int .u16 199, .bool false, .int .u8 0, .int .u8 6, .int .u8 0, .int .u8 0]⟩, .agg ⟨(xA 14 al co si wi sh ds sr dp re im)⟩] (.bool (wi == (si == 8))) [(b2i (si == 1), 0), (b2i (si == 2), 0), (b2i (si == 4), 0), (b2i (si == 8), 1)] := lf hkZ_ok (ocs [(42, 61, .bool false), (42, 66, .bool false), (42, 71, .bool false), (42, 76, .bool true)] []) (by kernel_rfl) (by kernel_rfl) (by kernel_rfl)
theorem cho14_4 (al co si : Int) (wi sh : Bool) (ds sr dp re im : Int) : Lf [] 42 [.agg ⟨[.int .u16 199, .bool false, .int .u8 0, .int .u8 6, .int .u8 0, .int .u8 0]⟩, .agg ⟨(xA 14 al co si wi sh ds sr dp re im)⟩] (.bool false) [(b2i (si == 1), 0), (b2i (si == 2), 0), (b2i (si == 4), 0), (b2i (si == 8), 0)] := lf hkZ_ok (ocs [(42, 61, .bool false), (42, 66, .bool false), (42, 71, .bool false), (42, 76, .bool false)] []) (by kernel_rfl) (by kernel_rfl) (by kernel_rfl)
theorem c_cho14 (al co si : Int) (wi sh : Bool) (ds sr dp re im : Int) (w : World) : Calls Tryd.prog 42 #[.agg ⟨[.int .u16 199, .bool false, .int .u8 0, .int .u8 6, .int .u8 0, .int .u8 0]⟩, .agg ⟨(xA 14 al co si wi sh ds sr dp re im)⟩] w fun e w' => e = .returned (.bool (szOk si && (wi == (si == 8)))) ∧ Gr w w' := by
  rcases Bool.eq_false_or_eq_true (si == 1) with k0 | k0
  · exact retZ (by first | rfl | ((simp only [szOk]) <;> (try simp only [k0]) <;> (try rfl) <;> (try simp))) (cho14_0 al co si wi sh ds sr dp re im (csT' k0 csN') w (Laid.nil w))
  · rcases Bool.eq_false_or_eq_true (si == 2) with k1 | k1
    · exact retZ (by first | rfl | ((simp only [szOk]) <;> (try simp only [k0]) <;> (try simp only [k1]) <;> (try rfl) <;> (try simp))) (cho14_1 al co si wi sh ds sr dp re im (csF' k0 (csT' k1 csN')) w (Laid.nil w))
    · rcases Bool.eq_false_or_eq_true (si == 4) with k2 | k2
      · exact retZ (by first | rfl | ((simp only [szOk]) <;> (try simp only [k0]) <;> (try simp only [k1]) <;> (try simp only [k2]) <;> (try rfl) <;> (try simp))) (cho14_2 al co si wi sh ds sr dp re im (csF' k0 (csF' k1 (csT' k2 csN'))) w (Laid.nil w))
      · rcases Bool.eq_false_or_eq_true (si == 8) with k3 | k3
        · exact retZ (by first | rfl | ((simp only [szOk]) <;> (try simp only [k0]) <;> (try simp only [k1]) <;> (try simp only [k2]) <;> (try simp only [k3]) <;> (try rfl) <;> (try simp))) (cho14_3 al co si wi sh ds sr dp re im (csF' k0 (csF' k1 (csF' k2 (csT' k3 csN')))) w (Laid.nil w))
        · exact retZ (by first | rfl | ((simp only [szOk]) <;> (try simp only [k0]) <;> (try simp only [k1]) <;> (try simp only [k2]) <;> (try simp only [k3]) <;> (try rfl) <;> (try simp))) (cho14_4 al co si wi sh ds sr dp re im (csF' k0 (csF' k1 (csF' k2 (csF' k3 csN')))) w (Laid.nil w))
def choV (k al co si : Int) (wi : Bool) : Option Bool :=
  if k = 4 then some (aluOk al) else if k = 5 then some (aluOk al) else if k = 11 then some (shOk al) else if k = 12 then some (shOk al) else if k = 16 then some (ccOk co) else if k = 13 then some (szOk si && (wi == (si == 8))) else if k = 14 then some (szOk si && (wi == (si == 8))) else none
def formOf (k : Int) : List Value :=
  if k = 4 then [.int .u16 15, .bool false, .int .u8 1, .int .u8 1, .int .u8 0, .int .u8 0] else if k = 5 then [.int .u16 43, .bool false, .int .u8 129, .int .u8 4, .int .u8 0, .int .u8 4] else if k = 11 then [.int .u16 51, .bool false, .int .u8 193, .int .u8 4, .int .u8 0, .int .u8 1] else if k = 12 then [.int .u16 19, .bool false, .int .u8 211, .int .u8 4, .int .u8 0, .int .u8 0] else if k = 13 then [.int .u16 199, .bool false, .int .u8 0, .int .u8 5, .int .u8 0, .int .u8 0] else if k = 14 then [.int .u16 199, .bool false, .int .u8 0, .int .u8 6, .int .u8 0, .int .u8 0] else if k = 16 then [.int .u16 1792, .bool false, .int .u8 0, .int .u8 8, .int .u8 0, .int .u8 0] else []
def hk_cho : Hook := fun f args h =>
  if Nat.beq f 42 then
    match args with
    | [.agg ⟨fm⟩, .agg ⟨[.int .i64 k, .int .i64 al, .int .i64 co, .int .i64 si, .bool wi, .bool sh, .int .i64 ds, .int .i64 sr, .int .i32 dp, .int .i32 re, .int .i64 im]⟩] =>
      match choV k al co si wi with
      | some b => if eqL fm (formOf k) then some (.bool b, []) else none
      | none => none
    | _ => none
  else none
theorem hk_cho_ok : HookOk Tryd.prog hk_cho := by
  intro f args h v cs hv hc wb k s w H
  unfold hk_cho at hv
  split at hv
  · rename_i hf
    obtain rfl := Nat.eq_of_beq_eq_true hf
    split at hv
    · rename_i fm k al co si wi sh ds sr dp re im
      split at hv
      · rename_i b hb
        split at hv
        · rename_i he
          cases hv
          obtain rfl := eqL_ok he
          unfold choV at hb
          split at hb
          · rename_i hk; subst hk; cases hb; exact c_cho4 al co si wi sh ds sr dp re im w
          split at hb
          · rename_i hk; subst hk; cases hb; exact c_cho5 al co si wi sh ds sr dp re im w
          split at hb
          · rename_i hk; subst hk; cases hb; exact c_cho11 al co si wi sh ds sr dp re im w
          split at hb
          · rename_i hk; subst hk; cases hb; exact c_cho12 al co si wi sh ds sr dp re im w
          split at hb
          · rename_i hk; subst hk; cases hb; exact c_cho16 al co si wi sh ds sr dp re im w
          split at hb
          · rename_i hk; subst hk; cases hb; exact c_cho13 al co si wi sh ds sr dp re im w
          split at hb
          · rename_i hk; subst hk; cases hb; exact c_cho14 al co si wi sh ds sr dp re im w
          · cases hb
        · cases hv
      · cases hv
    · cases hv
  · cases hv
def hkV1 : Hook := orHook hk_regs (orHook hk_cho (hkZ))
theorem hkV1_ok : HookOk Tryd.prog hkV1 := orHook_ok hk_regs_ok (orHook_ok hk_cho_ok (hkZ_ok))
def hkR1 : Hook := orHook hk_ralu (orHook hk_rshift (orHook hk_rcond (orHook hk_rword (orHook hk_rreg (hkZ)))))
theorem hkR1_ok : HookOk Tryd.prog hkR1 := orHook_ok hk_ralu_ok (orHook_ok hk_rshift_ok (orHook_ok hk_rcond_ok (orHook_ok hk_rword_ok (orHook_ok hk_rreg_ok (hkZ_ok)))))
end Go.Proofs.YtbaiokfjoglmiaaDoor.Ex
end
section
namespace Go.Proofs.YtbaiokfjoglmiaaDoor.Ex
open Go Go.RowKit
set_option linter.unusedVariables false
set_option linter.unusedSimpArgs false
set_option maxHeartbeats 0
set_option maxRecDepth 1000000
theorem c_u1 (al co si : Int) (wi sh : Bool) (ds sr dp re im : Int) (w : World) : Calls Tryd.prog 40 #[.agg ⟨[.int .u16 7, .bool false, .int .u8 137, .int .u8 1, .int .u8 0, .int .u8 0]⟩, .agg ⟨(xA 1 al co si wi sh ds sr dp re im)⟩] w fun e w' => e = .returned (.agg ⟨(xA 1 0 0 0 wi false ds sr 0 0 0)⟩) ∧ Gr w w' := by
  cases wi <;> cases sh <;> exact lf hkZ_ok noOrc (cs := []) (by kernel_rfl) (by kernel_rfl) (by kernel_rfl) rfl w (Laid.nil w)
theorem c_u2 (al co si : Int) (wi sh : Bool) (ds sr dp re im : Int) (w : World) : Calls Tryd.prog 40 #[.agg ⟨[.int .u16 2083, .bool false, .int .u8 199, .int .u8 3, .int .u8 0, .int .u8 4]⟩, .agg ⟨(xA 2 al co si wi sh ds sr dp re im)⟩] w fun e w' => e = .returned (.agg ⟨(xA 2 0 0 0 wi false ds 0 0 0 im)⟩) ∧ Gr w w' := by
  cases wi <;> cases sh <;> exact lf hkZ_ok noOrc (cs := []) (by kernel_rfl) (by kernel_rfl) (by kernel_rfl) rfl w (Laid.nil w)
theorem c_u3 (al co si : Int) (wi sh : Bool) (ds sr dp re im : Int) (w : World) : Calls Tryd.prog 40 #[.agg ⟨[.int .u16 2083, .bool false, .int .u8 184, .int .u8 7, .int .u8 0, .int .u8 8]⟩, .agg ⟨(xA 3 al co si wi sh ds sr dp re im)⟩] w fun e w' => e = .returned (.agg ⟨(xA 3 0 0 0 wi false ds 0 0 0 im)⟩) ∧ Gr w w' := by
  cases wi <;> cases sh <;> exact lf hkZ_ok noOrc (cs := []) (by kernel_rfl) (by kernel_rfl) (by kernel_rfl) rfl w (Laid.nil w)
theorem c_u4 (al co si : Int) (wi sh : Bool) (ds sr dp re im : Int) (w : World) : Calls Tryd.prog 40 #[.agg ⟨[.int .u16 15, .bool false, .int .u8 1, .int .u8 1, .int .u8 0, .int .u8 0]⟩, .agg ⟨(xA 4 al co si wi sh ds sr dp re im)⟩] w fun e w' => e = .returned (.agg ⟨(xA 4 al 0 0 wi false ds sr 0 0 0)⟩) ∧ Gr w w' := by
  cases wi <;> cases sh <;> exact lf hkZ_ok noOrc (cs := []) (by kernel_rfl) (by kernel_rfl) (by kernel_rfl) rfl w (Laid.nil w)
theorem c_u5 (al co si : Int) (wi sh : Bool) (ds sr dp re im : Int) (w : World) : Calls Tryd.prog 40 #[.agg ⟨[.int .u16 43, .bool false, .int .u8 129, .int .u8 4, .int .u8 0, .int .u8 4]⟩, .agg ⟨(xA 5 al co si wi sh ds sr dp re im)⟩] w fun e w' => e = .returned (.agg ⟨(xA 5 al 0 0 wi false ds 0 0 0 im)⟩) ∧ Gr w w' := by
  cases wi <;> cases sh <;> exact lf hkZ_ok noOrc (cs := []) (by kernel_rfl) (by kernel_rfl) (by kernel_rfl) rfl w (Laid.nil w)
theorem c_u6 (al co si : Int) (wi sh : Bool) (ds sr dp re im : Int) (w : World) : Calls Tryd.prog 40 #[.agg ⟨[.int .u16 7, .bool false, .int .u8 133, .int .u8 1, .int .u8 0, .int .u8 0]⟩, .agg ⟨(xA 6 al co si wi sh ds sr dp re im)⟩] w fun e w' => e = .returned (.agg ⟨(xA 6 0 0 0 wi false ds sr 0 0 0)⟩) ∧ Gr w w' := by
  cases wi <;> cases sh <;> exact lf hkZ_ok noOrc (cs := []) (by kernel_rfl) (by kernel_rfl) (by kernel_rfl) rfl w (Laid.nil w)
theorem c_u7 (al co si : Int) (wi sh : Bool) (ds sr dp re im : Int) (w : World) : Calls Tryd.prog 40 #[.agg ⟨[.int .u16 3, .bool false, .int .u8 247, .int .u8 3, .int .u8 3, .int .u8 0]⟩, .agg ⟨(xA 7 al co si wi sh ds sr dp re im)⟩] w fun e w' => e = .returned (.agg ⟨(xA 7 0 0 0 wi false ds 0 0 0 0)⟩) ∧ Gr w w' := by
  cases wi <;> cases sh <;> exact lf hkZ_ok noOrc (cs := []) (by kernel_rfl) (by kernel_rfl) (by kernel_rfl) rfl w (Laid.nil w)
theorem c_u8 (al co si : Int) (wi sh : Bool) (ds sr dp re im : Int) (w : World) : Calls Tryd.prog 40 #[.agg ⟨[.int .u16 3, .bool false, .int .u8 247, .int .u8 3, .int .u8 4, .int .u8 0]⟩, .agg ⟨(xA 8 al co si wi sh ds sr dp re im)⟩] w fun e w' => e = .returned (.agg ⟨(xA 8 0 0 0 wi false ds 0 0 0 0)⟩) ∧ Gr w w' := by
  cases wi <;> cases sh <;> exact lf hkZ_ok noOrc (cs := []) (by kernel_rfl) (by kernel_rfl) (by kernel_rfl) rfl w (Laid.nil w)
theorem c_u9 (al co si : Int) (wi sh : Bool) (ds sr dp re im : Int) (w : World) : Calls Tryd.prog 40 #[.agg ⟨[.int .u16 3, .bool false, .int .u8 247, .int .u8 3, .int .u8 6, .int .u8 0]⟩, .agg ⟨(xA 9 al co si wi sh ds sr dp re im)⟩] w fun e w' => e = .returned (.agg ⟨(xA 9 0 0 0 wi false ds 0 0 0 0)⟩) ∧ Gr w w' := by
  cases wi <;> cases sh <;> exact lf hkZ_ok noOrc (cs := []) (by kernel_rfl) (by kernel_rfl) (by kernel_rfl) rfl w (Laid.nil w)
theorem c_u10 (al co si : Int) (wi sh : Bool) (ds sr dp re im : Int) (w : World) : Calls Tryd.prog 40 #[.agg ⟨[.int .u16 7, .bool true, .int .u8 175, .int .u8 2, .int .u8 0, .int .u8 0]⟩, .agg ⟨(xA 10 al co si wi sh ds sr dp re im)⟩] w fun e w' => e = .returned (.agg ⟨(xA 10 0 0 0 wi false ds sr 0 0 0)⟩) ∧ Gr w w' := by
  cases wi <;> cases sh <;> exact lf hkZ_ok noOrc (cs := []) (by kernel_rfl) (by kernel_rfl) (by kernel_rfl) rfl w (Laid.nil w)
theorem c_u11 (al co si : Int) (wi sh : Bool) (ds sr dp re im : Int) (w : World) : Calls Tryd.prog 40 #[.agg ⟨[.int .u16 51, .bool false, .int .u8 193, .int .u8 4, .int .u8 0, .int .u8 1]⟩, .agg ⟨(xA 11 al co si wi sh ds sr dp re im)⟩] w fun e w' => e = .returned (.agg ⟨(xA 11 al 0 0 wi false ds 0 0 0 im)⟩) ∧ Gr w w' := by
  cases wi <;> cases sh <;> exact lf hkZ_ok noOrc (cs := []) (by kernel_rfl) (by kernel_rfl) (by kernel_rfl) rfl w (Laid.nil w)
theorem c_u12 (al co si : Int) (wi sh : Bool) (ds sr dp re im : Int) (w : World) : Calls Tryd.prog 40 #[.agg ⟨[.int .u16 19, .bool false, .int .u8 211, .int .u8 4, .int .u8 0, .int .u8 0]⟩, .agg ⟨(xA 12 al co si wi sh ds sr dp re im)⟩] w fun e w' => e = .returned (.agg ⟨(xA 12 al 0 0 wi false ds 0 0 0 0)⟩) ∧ Gr w w' := by
  cases wi <;> cases sh <;> exact lf hkZ_ok noOrc (cs := []) (by kernel_rfl) (by kernel_rfl) (by kernel_rfl) rfl w (Laid.nil w)
theorem c_u13 (al co si : Int) (wi sh : Bool) (ds sr dp re im : Int) (w : World) : Calls Tryd.prog 40 #[.agg ⟨[.int .u16 199, .bool false, .int .u8 0, .int .u8 5, .int .u8 0, .int .u8 0]⟩, .agg ⟨(xA 13 al co si wi sh ds sr dp re im)⟩] w fun e w' => e = .returned (.agg ⟨(xA 13 0 0 si wi false ds sr dp 0 0)⟩) ∧ Gr w w' := by
  cases wi <;> cases sh <;> exact lf hkZ_ok noOrc (cs := []) (by kernel_rfl) (by kernel_rfl) (by kernel_rfl) rfl w (Laid.nil w)
theorem c_u14 (al co si : Int) (wi sh : Bool) (ds sr dp re im : Int) (w : World) : Calls Tryd.prog 40 #[.agg ⟨[.int .u16 199, .bool false, .int .u8 0, .int .u8 6, .int .u8 0, .int .u8 0]⟩, .agg ⟨(xA 14 al co si wi sh ds sr dp re im)⟩] w fun e w' => e = .returned (.agg ⟨(xA 14 0 0 si wi false ds sr dp 0 0)⟩) ∧ Gr w w' := by
  cases wi <;> cases sh <;> exact lf hkZ_ok noOrc (cs := []) (by kernel_rfl) (by kernel_rfl) (by kernel_rfl) rfl w (Laid.nil w)
theorem c_u15 (al co si : Int) (wi sh : Bool) (ds sr dp re im : Int) (w : World) : Calls Tryd.prog 40 #[.agg ⟨[.int .u16 1536, .bool false, .int .u8 0, .int .u8 8, .int .u8 0, .int .u8 0]⟩, .agg ⟨(xA 15 al co si wi sh ds sr dp re im)⟩] w fun e w' => e = .returned (.agg ⟨(xA 15 0 0 0 false sh 0 0 0 re 0)⟩) ∧ Gr w w' := by
  cases wi <;> cases sh <;> exact lf hkZ_ok noOrc (cs := []) (by kernel_rfl) (by kernel_rfl) (by kernel_rfl) rfl w (Laid.nil w)
theorem c_u16 (al co si : Int) (wi sh : Bool) (ds sr dp re im : Int) (w : World) : Calls Tryd.prog 40 #[.agg ⟨[.int .u16 1792, .bool false, .int .u8 0, .int .u8 8, .int .u8 0, .int .u8 0]⟩, .agg ⟨(xA 16 al co si wi sh ds sr dp re im)⟩] w fun e w' => e = .returned (.agg ⟨(xA 16 0 co 0 false sh 0 0 0 re 0)⟩) ∧ Gr w w' := by
  cases wi <;> cases sh <;> exact lf hkZ_ok noOrc (cs := []) (by kernel_rfl) (by kernel_rfl) (by kernel_rfl) rfl w (Laid.nil w)
theorem c_u17 (al co si : Int) (wi sh : Bool) (ds sr dp re im : Int) (w : World) : Calls Tryd.prog 40 #[.agg ⟨[.int .u16 2, .bool false, .int .u8 80, .int .u8 7, .int .u8 0, .int .u8 0]⟩, .agg ⟨(xA 17 al co si wi sh ds sr dp re im)⟩] w fun e w' => e = .returned (.agg ⟨(xA 17 0 0 0 false false ds 0 0 0 0)⟩) ∧ Gr w w' := by
  cases wi <;> cases sh <;> exact lf hkZ_ok noOrc (cs := []) (by kernel_rfl) (by kernel_rfl) (by kernel_rfl) rfl w (Laid.nil w)
theorem c_u18 (al co si : Int) (wi sh : Bool) (ds sr dp re im : Int) (w : World) : Calls Tryd.prog 40 #[.agg ⟨[.int .u16 2, .bool false, .int .u8 88, .int .u8 7, .int .u8 0, .int .u8 0]⟩, .agg ⟨(xA 18 al co si wi sh ds sr dp re im)⟩] w fun e w' => e = .returned (.agg ⟨(xA 18 0 0 0 false false ds 0 0 0 0)⟩) ∧ Gr w w' := by
  cases wi <;> cases sh <;> exact lf hkZ_ok noOrc (cs := []) (by kernel_rfl) (by kernel_rfl) (by kernel_rfl) rfl w (Laid.nil w)
theorem c_u19 (al co si : Int) (wi sh : Bool) (ds sr dp re im : Int) (w : World) : Calls Tryd.prog 40 #[.agg ⟨[.int .u16 0, .bool false, .int .u8 195, .int .u8 0, .int .u8 0, .int .u8 0]⟩, .agg ⟨(xA 19 al co si wi sh ds sr dp re im)⟩] w fun e w' => e = .returned (.agg ⟨(xA 19 0 0 0 false false 0 0 0 0 0)⟩) ∧ Gr w w' := by
  cases wi <;> cases sh <;> exact lf hkZ_ok noOrc (cs := []) (by kernel_rfl) (by kernel_rfl) (by kernel_rfl) rfl w (Laid.nil w)
theorem c_u20 (al co si : Int) (wi sh : Bool) (ds sr dp re im : Int) (w : World) : Calls Tryd.prog 40 #[.agg ⟨[.int .u16 1024, .bool false, .int .u8 232, .int .u8 8, .int .u8 0, .int .u8 0]⟩, .agg ⟨(xA 20 al co si wi sh ds sr dp re im)⟩] w fun e w' => e = .returned (.agg ⟨(xA 20 0 0 0 false false 0 0 0 re 0)⟩) ∧ Gr w w' := by
  cases wi <;> cases sh <;> exact lf hkZ_ok noOrc (cs := []) (by kernel_rfl) (by kernel_rfl) (by kernel_rfl) rfl w (Laid.nil w)
theorem c_u21 (al co si : Int) (wi sh : Bool) (ds sr dp re im : Int) (w : World) : Calls Tryd.prog 40 #[.agg ⟨[.int .u16 0, .bool true, .int .u8 174, .int .u8 0, .int .u8 232, .int .u8 0]⟩, .agg ⟨(xA 21 al co si wi sh ds sr dp re im)⟩] w fun e w' => e = .returned (.agg ⟨(xA 21 0 0 0 false false 0 0 0 0 0)⟩) ∧ Gr w w' := by
  cases wi <;> cases sh <;> exact lf hkZ_ok noOrc (cs := []) (by kernel_rfl) (by kernel_rfl) (by kernel_rfl) rfl w (Laid.nil w)
theorem kinds {k : Int} (h1 : decide (k < 1) = false) (h2 : decide (k > 21) = false) : k = 1 ∨ k = 2 ∨ k = 3 ∨ k = 4 ∨ k = 5 ∨ k = 6 ∨ k = 7 ∨ k = 8 ∨ k = 9 ∨ k = 10 ∨ k = 11 ∨ k = 12 ∨ k = 13 ∨ k = 14 ∨ k = 15 ∨ k = 16 ∨ k = 17 ∨ k = 18 ∨ k = 19 ∨ k = 20 ∨ k = 21 := by
  simp only [decide_eq_false_iff_not] at h1 h2
  omega
def usedV (k al co si : Int) (wi sh : Bool) (ds sr dp re im : Int) : Option (List Value) :=
  if k = 1 then some (xA 1 0 0 0 wi false ds sr 0 0 0) else if k = 2 then some (xA 2 0 0 0 wi false ds 0 0 0 im) else if k = 3 then some (xA 3 0 0 0 wi false ds 0 0 0 im) else if k = 4 then some (xA 4 al 0 0 wi false ds sr 0 0 0) else if k = 5 then some (xA 5 al 0 0 wi false ds 0 0 0 im) else if k = 6 then some (xA 6 0 0 0 wi false ds sr 0 0 0) else if k = 7 then some (xA 7 0 0 0 wi false ds 0 0 0 0) else if k = 8 then some (xA 8 0 0 0 wi false ds 0 0 0 0) else if k = 9 then some (xA 9 0 0 0 wi false ds 0 0 0 0) else if k = 10 then some (xA 10 0 0 0 wi false ds sr 0 0 0) else if k = 11 then some (xA 11 al 0 0 wi false ds 0 0 0 im) else if k = 12 then some (xA 12 al 0 0 wi false ds 0 0 0 0) else if k = 13 then some (xA 13 0 0 si wi false ds sr dp 0 0) else if k = 14 then some (xA 14 0 0 si wi false ds sr dp 0 0) else if k = 15 then some (xA 15 0 0 0 false sh 0 0 0 re 0) else if k = 16 then some (xA 16 0 co 0 false sh 0 0 0 re 0) else if k = 17 then some (xA 17 0 0 0 false false ds 0 0 0 0) else if k = 18 then some (xA 18 0 0 0 false false ds 0 0 0 0) else if k = 19 then some (xA 19 0 0 0 false false 0 0 0 0 0) else if k = 20 then some (xA 20 0 0 0 false false 0 0 0 re 0) else if k = 21 then some (xA 21 0 0 0 false false 0 0 0 0 0) else none
def formA (k : Int) : List Value :=
  if k = 1 then [.int .u16 7, .bool false, .int .u8 137, .int .u8 1, .int .u8 0, .int .u8 0] else if k = 2 then [.int .u16 2083, .bool false, .int .u8 199, .int .u8 3, .int .u8 0, .int .u8 4] else if k = 3 then [.int .u16 2083, .bool false, .int .u8 184, .int .u8 7, .int .u8 0, .int .u8 8] else if k = 4 then [.int .u16 15, .bool false, .int .u8 1, .int .u8 1, .int .u8 0, .int .u8 0] else if k = 5 then [.int .u16 43, .bool false, .int .u8 129, .int .u8 4, .int .u8 0, .int .u8 4] else if k = 6 then [.int .u16 7, .bool false, .int .u8 133, .int .u8 1, .int .u8 0, .int .u8 0] else if k = 7 then [.int .u16 3, .bool false, .int .u8 247, .int .u8 3, .int .u8 3, .int .u8 0] else if k = 8 then [.int .u16 3, .bool false, .int .u8 247, .int .u8 3, .int .u8 4, .int .u8 0] else if k = 9 then [.int .u16 3, .bool false, .int .u8 247, .int .u8 3, .int .u8 6, .int .u8 0] else if k = 10 then [.int .u16 7, .bool true, .int .u8 175, .int .u8 2, .int .u8 0, .int .u8 0] else if k = 11 then [.int .u16 51, .bool false, .int .u8 193, .int .u8 4, .int .u8 0, .int .u8 1] else if k = 12 then [.int .u16 19, .bool false, .int .u8 211, .int .u8 4, .int .u8 0, .int .u8 0] else if k = 13 then [.int .u16 199, .bool false, .int .u8 0, .int .u8 5, .int .u8 0, .int .u8 0] else if k = 14 then [.int .u16 199, .bool false, .int .u8 0, .int .u8 6, .int .u8 0, .int .u8 0] else if k = 15 then [.int .u16 1536, .bool false, .int .u8 0, .int .u8 8, .int .u8 0, .int .u8 0] else if k = 16 then [.int .u16 1792, .bool false, .int .u8 0, .int .u8 8, .int .u8 0, .int .u8 0] else if k = 17 then [.int .u16 2, .bool false, .int .u8 80, .int .u8 7, .int .u8 0, .int .u8 0] else if k = 18 then [.int .u16 2, .bool false, .int .u8 88, .int .u8 7, .int .u8 0, .int .u8 0] else if k = 19 then [.int .u16 0, .bool false, .int .u8 195, .int .u8 0, .int .u8 0, .int .u8 0] else if k = 20 then [.int .u16 1024, .bool false, .int .u8 232, .int .u8 8, .int .u8 0, .int .u8 0] else if k = 21 then [.int .u16 0, .bool true, .int .u8 174, .int .u8 0, .int .u8 232, .int .u8 0] else []
def hk_used : Hook := fun f args h =>
  if Nat.beq f 40 then
    match args with
    | [.agg ⟨fm⟩, .agg ⟨[.int .i64 k, .int .i64 al, .int .i64 co, .int .i64 si, .bool wi, .bool sh, .int .i64 ds, .int .i64 sr, .int .i32 dp, .int .i32 re, .int .i64 im]⟩] =>
      match usedV k al co si wi sh ds sr dp re im with
      | some b => if eqL fm (formA k) then some (.agg ⟨b⟩, []) else none
      | none => none
    | _ => none
  else none
theorem hk_used_ok : HookOk Tryd.prog hk_used := by
  intro f args h v cs hv hc wb k s w H
  unfold hk_used at hv
  split at hv
  · rename_i hf
    obtain rfl := Nat.eq_of_beq_eq_true hf
    split at hv
    · rename_i fm k al co si wi sh ds sr dp re im
      split at hv
      · rename_i b hb
        split at hv
        · rename_i he
          cases hv
          obtain rfl := eqL_ok he
          by_cases hr : 1 ≤ k ∧ k ≤ 21
          · rcases kinds (k := k) (by simp only [decide_eq_false_iff_not]; omega) (by simp only [decide_eq_false_iff_not]; omega) with rfl | rfl | rfl | rfl | rfl | rfl | rfl | rfl | rfl | rfl | rfl | rfl | rfl | rfl | rfl | rfl | rfl | rfl | rfl | rfl | rfl
            · obtain rfl := Option.some.inj hb; exact c_u1 al co si wi sh ds sr dp re im w
            · obtain rfl := Option.some.inj hb; exact c_u2 al co si wi sh ds sr dp re im w
            · obtain rfl := Option.some.inj hb; exact c_u3 al co si wi sh ds sr dp re im w
            · obtain rfl := Option.some.inj hb; exact c_u4 al co si wi sh ds sr dp re im w
            · obtain rfl := Option.some.inj hb; exact c_u5 al co si wi sh ds sr dp re im w
            · obtain rfl := Option.some.inj hb; exact c_u6 al co si wi sh ds sr dp re im w
            · obtain rfl := Option.some.inj hb; exact c_u7 al co si wi sh ds sr dp re im w
            · obtain rfl := Option.some.inj hb; exact c_u8 al co si wi sh ds sr dp re im w
            · obtain rfl := Option.some.inj hb; exact c_u9 al co si wi sh ds sr dp re im w
            · obtain rfl := Option.some.inj hb; exact c_u10 al co si wi sh ds sr dp re im w
            · obtain rfl := Option.some.inj hb; exact c_u11 al co si wi sh ds sr dp re im w
            · obtain rfl := Option.some.inj hb; exact c_u12 al co si wi sh ds sr dp re im w
            · obtain rfl := Option.some.inj hb; exact c_u13 al co si wi sh ds sr dp re im w
            · obtain rfl := Option.some.inj hb; exact c_u14 al co si wi sh ds sr dp re im w
            · obtain rfl := Option.some.inj hb; exact c_u15 al co si wi sh ds sr dp re im w
            · obtain rfl := Option.some.inj hb; exact c_u16 al co si wi sh ds sr dp re im w
            · obtain rfl := Option.some.inj hb; exact c_u17 al co si wi sh ds sr dp re im w
            · obtain rfl := Option.some.inj hb; exact c_u18 al co si wi sh ds sr dp re im w
            · obtain rfl := Option.some.inj hb; exact c_u19 al co si wi sh ds sr dp re im w
            · obtain rfl := Option.some.inj hb; exact c_u20 al co si wi sh ds sr dp re im w
            · obtain rfl := Option.some.inj hb; exact c_u21 al co si wi sh ds sr dp re im w
          · exfalso
            have nd : ∀ n : Int, 1 ≤ n → n ≤ 21 → ¬ k = n := fun n h1 h2 => by omega
            unfold usedV at hb
            rw [if_neg (nd 1 (by omega) (by omega)), if_neg (nd 2 (by omega) (by omega)), if_neg (nd 3 (by omega) (by omega)), if_neg (nd 4 (by omega) (by omega)), if_neg (nd 5 (by omega) (by omega)), if_neg (nd 6 (by omega) (by omega)), if_neg (nd 7 (by omega) (by omega)), if_neg (nd 8 (by omega) (by omega)), if_neg (nd 9 (by omega) (by omega)), if_neg (nd 10 (by omega) (by omega)), if_neg (nd 11 (by omega) (by omega)), if_neg (nd 12 (by omega) (by omega)), if_neg (nd 13 (by omega) (by omega)), if_neg (nd 14 (by omega) (by omega)), if_neg (nd 15 (by omega) (by omega)), if_neg (nd 16 (by omega) (by omega)), if_neg (nd 17 (by omega) (by omega)), if_neg (nd 18 (by omega) (by omega)), if_neg (nd 19 (by omega) (by omega)), if_neg (nd 20 (by omega) (by omega)), if_neg (nd 21 (by omega) (by omega))] at hb
            cases hb
        · cases hv
      · cases hv
    · cases hv
  · cases hv
def hkV2 : Hook := orHook hk_regs (orHook hk_cho (orHook hk_used (hkZ)))
theorem hkV2_ok : HookOk Tryd.prog hkV2 := orHook_ok hk_regs_ok (orHook_ok hk_cho_ok (orHook_ok hk_used_ok (hkZ_ok)))
def vP1 (al co si : Int) (wi sh : Bool) (ds sr dp re im : Int) : Bool := eqD (xA 1 al co si wi sh ds sr dp re im) (xA 1 0 0 0 wi false ds sr 0 0 0) && ((regS ds && regS sr) && ((true) && (!sh || (re == IntKind.i32.wrap (IntKind.i8.wrap re)))))
theorem v1_0 (al co si : Int) (wi sh : Bool) (ds sr dp re im : Int) : Lf h12 15 [.agg ⟨(xA 1 al co si wi sh ds sr dp re im)⟩] (.bool true) [(b2i (eqD (xA 1 al co si wi sh ds sr dp re im) (xA 1 0 0 0 wi false ds sr 0 0 0)), 1), (b2i (regS ds && regS sr), 1), (b2i (!sh), 1)] := lf hkV2_ok (ocs [(15, 21, .bool true), (15, 25, .bool true), (43, 38, .bool true)] []) (by kernel_rfl) (by kernel_rfl) (by kernel_rfl)
theorem v1_1 (al co si : Int) (wi sh : Bool) (ds sr dp re im : Int) : Lf h12 15 [.agg ⟨(xA 1 al co si wi sh ds sr dp re im)⟩] (.bool (re == IntKind.i32.wrap (IntKind.i8.wrap re))) [(b2i (eqD (xA 1 al co si wi sh ds sr dp re im) (xA 1 0 0 0 wi false ds sr 0 0 0)), 1), (b2i (regS ds && regS sr), 1), (b2i (!sh), 0)] := lf hkV2_ok (ocs [(15, 21, .bool true), (15, 25, .bool true), (43, 38, .bool false)] []) (by kernel_rfl) (by kernel_rfl) (by kernel_rfl)
theorem v1_2 (al co si : Int) (wi sh : Bool) (ds sr dp re im : Int) : Lf h12 15 [.agg ⟨(xA 1 al co si wi sh ds sr dp re im)⟩] (.bool false) [(b2i (eqD (xA 1 al co si wi sh ds sr dp re im) (xA 1 0 0 0 wi false ds sr 0 0 0)), 1), (b2i (regS ds && regS sr), 0)] := lf hkV2_ok (ocs [(15, 21, .bool true), (15, 25, .bool false)] []) (by kernel_rfl) (by kernel_rfl) (by kernel_rfl)
theorem v1_3 (al co si : Int) (wi sh : Bool) (ds sr dp re im : Int) : Lf h12 15 [.agg ⟨(xA 1 al co si wi sh ds sr dp re im)⟩] (.bool false) [(b2i (eqD (xA 1 al co si wi sh ds sr dp re im) (xA 1 0 0 0 wi false ds sr 0 0 0)), 0)] := lf hkV2_ok (ocs [(15, 21, .bool false)] []) (by kernel_rfl) (by kernel_rfl) (by kernel_rfl)
theorem c_v1 (al co si : Int) (wi sh : Bool) (ds sr dp re im : Int) (w : World) (hL : Laid h12 w) : Calls Tryd.prog 15 #[.agg ⟨(xA 1 al co si wi sh ds sr dp re im)⟩] w fun e w' => e = .returned (.bool (vP1 al co si wi sh ds sr dp re im)) ∧ Gr w w' := by
  rcases Bool.eq_false_or_eq_true (eqD (xA 1 al co si wi sh ds sr dp re im) (xA 1 0 0 0 wi false ds sr 0 0 0)) with k0 | k0
  · rcases Bool.eq_false_or_eq_true (regS ds && regS sr) with k1 | k1
    · rcases Bool.eq_false_or_eq_true (!sh) with k2 | k2
      · exact retZ (by first | rfl | ((simp only [vP1, shiftS]) <;> (try simp only [k0]) <;> (try simp only [k1]) <;> (try simp only [k2]) <;> (try rfl) <;> (try simp))) (v1_0 al co si wi sh ds sr dp re im (csT' k0 (csT' k1 (csT' k2 csN'))) w hL)
      · exact retZ (by first | rfl | ((simp only [vP1, shiftS]) <;> (try simp only [k0]) <;> (try simp only [k1]) <;> (try simp only [k2]) <;> (try rfl) <;> (try simp))) (v1_1 al co si wi sh ds sr dp re im (csT' k0 (csT' k1 (csF' k2 csN'))) w hL)
    · exact retZ (by first | rfl | ((simp only [vP1, shiftS]) <;> (try simp only [k0]) <;> (try simp only [k1]) <;> (try rfl) <;> (try simp))) (v1_2 al co si wi sh ds sr dp re im (csT' k0 (csF' k1 csN')) w hL)
  · exact retZ (by first | rfl | ((simp only [vP1, shiftS]) <;> (try simp only [k0]) <;> (try rfl) <;> (try simp))) (v1_3 al co si wi sh ds sr dp re im (csF' k0 csN') w hL)
def vP2 (al co si : Int) (wi sh : Bool) (ds sr dp re im : Int) : Bool := eqD (xA 2 al co si wi sh ds sr dp re im) (xA 2 0 0 0 wi false ds 0 0 0 im) && ((regS ds && regS sr) && ((wi) && (im == IntKind.i64.wrap (IntKind.i32.wrap im))))
theorem v2_0 (al co si : Int) (wi sh : Bool) (ds sr dp re im : Int) : Lf h12 15 [.agg ⟨(xA 2 al co si wi sh ds sr dp re im)⟩] (.bool (im == IntKind.i64.wrap (IntKind.i32.wrap im))) [(b2i (eqD (xA 2 al co si wi sh ds sr dp re im) (xA 2 0 0 0 wi false ds 0 0 0 im)), 1), (b2i (regS ds && regS sr), 1), (b2i (wi), 1)] := lf hkV2_ok (ocs [(15, 21, .bool true), (15, 25, .bool true), (15, 30, .bool true)] []) (by kernel_rfl) (by kernel_rfl) (by kernel_rfl)
theorem v2_1 (al co si : Int) (wi sh : Bool) (ds sr dp re im : Int) : Lf h12 15 [.agg ⟨(xA 2 al co si wi sh ds sr dp re im)⟩] (.bool false) [(b2i (eqD (xA 2 al co si wi sh ds sr dp re im) (xA 2 0 0 0 wi false ds 0 0 0 im)), 1), (b2i (regS ds && regS sr), 1), (b2i (wi), 0)] := lf hkV2_ok (ocs [(15, 21, .bool true), (15, 25, .bool true), (15, 30, .bool false)] []) (by kernel_rfl) (by kernel_rfl) (by kernel_rfl)
theorem v2_2 (al co si : Int) (wi sh : Bool) (ds sr dp re im : Int) : Lf h12 15 [.agg ⟨(xA 2 al co si wi sh ds sr dp re im)⟩] (.bool false) [(b2i (eqD (xA 2 al co si wi sh ds sr dp re im) (xA 2 0 0 0 wi false ds 0 0 0 im)), 1), (b2i (regS ds && regS sr), 0)] := lf hkV2_ok (ocs [(15, 21, .bool true), (15, 25, .bool false)] []) (by kernel_rfl) (by kernel_rfl) (by kernel_rfl)
theorem v2_3 (al co si : Int) (wi sh : Bool) (ds sr dp re im : Int) : Lf h12 15 [.agg ⟨(xA 2 al co si wi sh ds sr dp re im)⟩] (.bool false) [(b2i (eqD (xA 2 al co si wi sh ds sr dp re im) (xA 2 0 0 0 wi false ds 0 0 0 im)), 0)] := lf hkV2_ok (ocs [(15, 21, .bool false)] []) (by kernel_rfl) (by kernel_rfl) (by kernel_rfl)
theorem c_v2 (al co si : Int) (wi sh : Bool) (ds sr dp re im : Int) (w : World) (hL : Laid h12 w) : Calls Tryd.prog 15 #[.agg ⟨(xA 2 al co si wi sh ds sr dp re im)⟩] w fun e w' => e = .returned (.bool (vP2 al co si wi sh ds sr dp re im)) ∧ Gr w w' := by
  rcases Bool.eq_false_or_eq_true (eqD (xA 2 al co si wi sh ds sr dp re im) (xA 2 0 0 0 wi false ds 0 0 0 im)) with k0 | k0
  · rcases Bool.eq_false_or_eq_true (regS ds && regS sr) with k1 | k1
    · rcases Bool.eq_false_or_eq_true (wi) with k2 | k2
      · exact retZ (by first | rfl | ((simp only [vP2, shiftS]) <;> (try simp only [k0]) <;> (try simp only [k1]) <;> (try simp only [k2]) <;> (try rfl) <;> (try simp))) (v2_0 al co si wi sh ds sr dp re im (csT' k0 (csT' k1 (csT' k2 csN'))) w hL)
      · exact retZ (by first | rfl | ((simp only [vP2, shiftS]) <;> (try simp only [k0]) <;> (try simp only [k1]) <;> (try simp only [k2]) <;> (try rfl) <;> (try simp))) (v2_1 al co si wi sh ds sr dp re im (csT' k0 (csT' k1 (csF' k2 csN'))) w hL)
    · exact retZ (by first | rfl | ((simp only [vP2, shiftS]) <;> (try simp only [k0]) <;> (try simp only [k1]) <;> (try rfl) <;> (try simp))) (v2_2 al co si wi sh ds sr dp re im (csT' k0 (csF' k1 csN')) w hL)
  · exact retZ (by first | rfl | ((simp only [vP2, shiftS]) <;> (try simp only [k0]) <;> (try rfl) <;> (try simp))) (v2_3 al co si wi sh ds sr dp re im (csF' k0 csN') w hL)
def vP3 (al co si : Int) (wi sh : Bool) (ds sr dp re im : Int) : Bool := eqD (xA 3 al co si wi sh ds sr dp re im) (xA 3 0 0 0 wi false ds 0 0 0 im) && ((regS ds && regS sr) && ((wi) && (!sh || (re == IntKind.i32.wrap (IntKind.i8.wrap re)))))
theorem v3_0 (al co si : Int) (wi sh : Bool) (ds sr dp re im : Int) : Lf h12 15 [.agg ⟨(xA 3 al co si wi sh ds sr dp re im)⟩] (.bool true) [(b2i (eqD (xA 3 al co si wi sh ds sr dp re im) (xA 3 0 0 0 wi false ds 0 0 0 im)), 1), (b2i (regS ds && regS sr), 1), (b2i (wi), 1), (b2i (!sh), 1)] := lf hkV2_ok (ocs [(15, 21, .bool true), (15, 25, .bool true), (15, 30, .bool true), (43, 38, .bool true)] []) (by kernel_rfl) (by kernel_rfl) (by kernel_rfl)
theorem v3_1 (al co si : Int) (wi sh : Bool) (ds sr dp re im : Int) : Lf h12 15 [.agg ⟨(xA 3 al co si wi sh ds sr dp re im)⟩] (.bool (re == IntKind.i32.wrap (IntKind.i8.wrap re))) [(b2i (eqD (xA 3 al co si wi sh ds sr dp re im) (xA 3 0 0 0 wi false ds 0 0 0 im)), 1), (b2i (regS ds && regS sr), 1), (b2i (wi), 1), (b2i (!sh), 0)] := lf hkV2_ok (ocs [(15, 21, .bool true), (15, 25, .bool true), (15, 30, .bool true), (43, 38, .bool false)] []) (by kernel_rfl) (by kernel_rfl) (by kernel_rfl)
theorem v3_2 (al co si : Int) (wi sh : Bool) (ds sr dp re im : Int) : Lf h12 15 [.agg ⟨(xA 3 al co si wi sh ds sr dp re im)⟩] (.bool false) [(b2i (eqD (xA 3 al co si wi sh ds sr dp re im) (xA 3 0 0 0 wi false ds 0 0 0 im)), 1), (b2i (regS ds && regS sr), 1), (b2i (wi), 0)] := lf hkV2_ok (ocs [(15, 21, .bool true), (15, 25, .bool true), (15, 30, .bool false)] []) (by kernel_rfl) (by kernel_rfl) (by kernel_rfl)
theorem v3_3 (al co si : Int) (wi sh : Bool) (ds sr dp re im : Int) : Lf h12 15 [.agg ⟨(xA 3 al co si wi sh ds sr dp re im)⟩] (.bool false) [(b2i (eqD (xA 3 al co si wi sh ds sr dp re im) (xA 3 0 0 0 wi false ds 0 0 0 im)), 1), (b2i (regS ds && regS sr), 0)] := lf hkV2_ok (ocs [(15, 21, .bool true), (15, 25, .bool false)] []) (by kernel_rfl) (by kernel_rfl) (by kernel_rfl)
theorem v3_4 (al co si : Int) (wi sh : Bool) (ds sr dp re im : Int) : Lf h12 15 [.agg ⟨(xA 3 al co si wi sh ds sr dp re im)⟩] (.bool false) [(b2i (eqD (xA 3 al co si wi sh ds sr dp re im) (xA 3 0 0 0 wi false ds 0 0 0 im)), 0)] := lf hkV2_ok (ocs [(15, 21, .bool false)] []) (by kernel_rfl) (by kernel_rfl) (by kernel_rfl)
theorem c_v3 (al co si : Int) (wi sh : Bool) (ds sr dp re im : Int) (w : World) (hL : Laid h12 w) : Calls Tryd.prog 15 #[.agg ⟨(xA 3 al co si wi sh ds sr dp re im)⟩] w fun e w' => e = .returned (.bool (vP3 al co si wi sh ds sr dp re im)) ∧ Gr w w' := by
  rcases Bool.eq_false_or_eq_true (eqD (xA 3 al co si wi sh ds sr dp re im) (xA 3 0 0 0 wi false ds 0 0 0 im)) with k0 | k0
  · rcases Bool.eq_false_or_eq_true (regS ds && regS sr) with k1 | k1
    · rcases Bool.eq_false_or_eq_true (wi) with k2 | k2
      · rcases Bool.eq_false_or_eq_true (!sh) with k3 | k3
        · exact retZ (by first | rfl | ((simp only [vP3, shiftS]) <;> (try simp only [k0]) <;> (try simp only [k1]) <;> (try simp only [k3]) <;> (try simp only [k2]) <;> (try rfl) <;> (try simp))) (v3_0 al co si wi sh ds sr dp re im (csT' k0 (csT' k1 (csT' k2 (csT' k3 csN')))) w hL)
        · exact retZ (by first | rfl | ((simp only [vP3, shiftS]) <;> (try simp only [k0]) <;> (try simp only [k1]) <;> (try simp only [k3]) <;> (try simp only [k2]) <;> (try rfl) <;> (try simp))) (v3_1 al co si wi sh ds sr dp re im (csT' k0 (csT' k1 (csT' k2 (csF' k3 csN')))) w hL)
      · exact retZ (by first | rfl | ((simp only [vP3, shiftS]) <;> (try simp only [k0]) <;> (try simp only [k1]) <;> (try simp only [k2]) <;> (try rfl) <;> (try simp))) (v3_2 al co si wi sh ds sr dp re im (csT' k0 (csT' k1 (csF' k2 csN'))) w hL)
    · exact retZ (by first | rfl | ((simp only [vP3, shiftS]) <;> (try simp only [k0]) <;> (try simp only [k1]) <;> (try rfl) <;> (try simp))) (v3_3 al co si wi sh ds sr dp re im (csT' k0 (csF' k1 csN')) w hL)
  · exact retZ (by first | rfl | ((simp only [vP3, shiftS]) <;> (try simp only [k0]) <;> (try rfl) <;> (try simp))) (v3_4 al co si wi sh ds sr dp re im (csF' k0 csN') w hL)
def vP4 (al co si : Int) (wi sh : Bool) (ds sr dp re im : Int) : Bool := eqD (xA 4 al co si wi sh ds sr dp re im) (xA 4 al 0 0 wi false ds sr 0 0 0) && ((regS ds && regS sr) && ((aluOk al) && (!sh || (re == IntKind.i32.wrap (IntKind.i8.wrap re)))))
theorem v4_0 (al co si : Int) (wi sh : Bool) (ds sr dp re im : Int) : Lf h12 15 [.agg ⟨(xA 4 al co si wi sh ds sr dp re im)⟩] (.bool true) [(b2i (eqD (xA 4 al co si wi sh ds sr dp re im) (xA 4 al 0 0 wi false ds sr 0 0 0)), 1), (b2i (regS ds && regS sr), 1), (b2i (aluOk al), 1), (b2i (!sh), 1)] := lf hkV2_ok (ocs [(15, 21, .bool true), (15, 25, .bool true), (15, 30, .bool true), (43, 38, .bool true)] []) (by kernel_rfl) (by kernel_rfl) (by kernel_rfl)
theorem v4_1 (al co si : Int) (wi sh : Bool) (ds sr dp re im : Int) : Lf h12 15 [.agg ⟨(xA 4 al co si wi sh ds sr dp re im)⟩] (.bool (re == IntKind.i32.wrap (IntKind.i8.wrap re))) [(b2i (eqD (xA 4 al co si wi sh ds sr dp re im) (xA 4 al 0 0 wi false ds sr 0 0 0)), 1), (b2i (regS ds && regS sr), 1), (b2i (aluOk al), 1), (b2i (!sh), 0)] := lf hkV2_ok (ocs [(15, 21, .bool true), (15, 25, .bool true), (15, 30, .bool true), (43, 38, .bool false)] []) (by kernel_rfl) (by kernel_rfl) (by kernel_rfl)
theorem v4_2 (al co si : Int) (wi sh : Bool) (ds sr dp re im : Int) : Lf h12 15 [.agg ⟨(xA 4 al co si wi sh ds sr dp re im)⟩] (.bool false) [(b2i (eqD (xA 4 al co si wi sh ds sr dp re im) (xA 4 al 0 0 wi false ds sr 0 0 0)), 1), (b2i (regS ds && regS sr), 1), (b2i (aluOk al), 0)] := lf hkV2_ok (ocs [(15, 21, .bool true), (15, 25, .bool true), (15, 30, .bool false)] []) (by kernel_rfl) (by kernel_rfl) (by kernel_rfl)
theorem v4_3 (al co si : Int) (wi sh : Bool) (ds sr dp re im : Int) : Lf h12 15 [.agg ⟨(xA 4 al co si wi sh ds sr dp re im)⟩] (.bool false) [(b2i (eqD (xA 4 al co si wi sh ds sr dp re im) (xA 4 al 0 0 wi false ds sr 0 0 0)), 1), (b2i (regS ds && regS sr), 0)] := lf hkV2_ok (ocs [(15, 21, .bool true), (15, 25, .bool false)] []) (by kernel_rfl) (by kernel_rfl) (by kernel_rfl)
theorem v4_4 (al co si : Int) (wi sh : Bool) (ds sr dp re im : Int) : Lf h12 15 [.agg ⟨(xA 4 al co si wi sh ds sr dp re im)⟩] (.bool false) [(b2i (eqD (xA 4 al co si wi sh ds sr dp re im) (xA 4 al 0 0 wi false ds sr 0 0 0)), 0)] := lf hkV2_ok (ocs [(15, 21, .bool false)] []) (by kernel_rfl) (by kernel_rfl) (by kernel_rfl)
theorem c_v4 (al co si : Int) (wi sh : Bool) (ds sr dp re im : Int) (w : World) (hL : Laid h12 w) : Calls Tryd.prog 15 #[.agg ⟨(xA 4 al co si wi sh ds sr dp re im)⟩] w fun e w' => e = .returned (.bool (vP4 al co si wi sh ds sr dp re im)) ∧ Gr w w' := by
  rcases Bool.eq_false_or_eq_true (eqD (xA 4 al co si wi sh ds sr dp re im) (xA 4 al 0 0 wi false ds sr 0 0 0)) with k0 | k0
  · rcases Bool.eq_false_or_eq_true (regS ds && regS sr) with k1 | k1
    · rcases Bool.eq_false_or_eq_true (aluOk al) with k2 | k2
      · rcases Bool.eq_false_or_eq_true (!sh) with k3 | k3
        · exact retZ (by first | rfl | ((simp only [vP4, shiftS]) <;> (try simp only [k0]) <;> (try simp only [k1]) <;> (try simp only [k2]) <;> (try simp only [k3]) <;> (try rfl) <;> (try simp))) (v4_0 al co si wi sh ds sr dp re im (csT' k0 (csT' k1 (csT' k2 (csT' k3 csN')))) w hL)
        · exact retZ (by first | rfl | ((simp only [vP4, shiftS]) <;> (try simp only [k0]) <;> (try simp only [k1]) <;> (try simp only [k2]) <;> (try simp only [k3]) <;> (try rfl) <;> (try simp))) (v4_1 al co si wi sh ds sr dp re im (csT' k0 (csT' k1 (csT' k2 (csF' k3 csN')))) w hL)
      · exact retZ (by first | rfl | ((simp only [vP4, shiftS]) <;> (try simp only [k0]) <;> (try simp only [k1]) <;> (try simp only [k2]) <;> (try rfl) <;> (try simp))) (v4_2 al co si wi sh ds sr dp re im (csT' k0 (csT' k1 (csF' k2 csN'))) w hL)
    · exact retZ (by first | rfl | ((simp only [vP4, shiftS]) <;> (try simp only [k0]) <;> (try simp only [k1]) <;> (try rfl) <;> (try simp))) (v4_3 al co si wi sh ds sr dp re im (csT' k0 (csF' k1 csN')) w hL)
  · exact retZ (by first | rfl | ((simp only [vP4, shiftS]) <;> (try simp only [k0]) <;> (try rfl) <;> (try simp))) (v4_4 al co si wi sh ds sr dp re im (csF' k0 csN') w hL)
def vP5 (al co si : Int) (wi sh : Bool) (ds sr dp re im : Int) : Bool := eqD (xA 5 al co si wi sh ds sr dp re im) (xA 5 al 0 0 wi false ds 0 0 0 im) && ((regS ds && regS sr) && ((aluOk al) && (im == IntKind.i64.wrap (IntKind.i32.wrap im))))
theorem v5_0 (al co si : Int) (wi sh : Bool) (ds sr dp re im : Int) : Lf h12 15 [.agg ⟨(xA 5 al co si wi sh ds sr dp re im)⟩] (.bool (im == IntKind.i64.wrap (IntKind.i32.wrap im))) [(b2i (eqD (xA 5 al co si wi sh ds sr dp re im) (xA 5 al 0 0 wi false ds 0 0 0 im)), 1), (b2i (regS ds && regS sr), 1), (b2i (aluOk al), 1)] := lf hkV2_ok (ocs [(15, 21, .bool true), (15, 25, .bool true), (15, 30, .bool true)] []) (by kernel_rfl) (by kernel_rfl) (by kernel_rfl)
theorem v5_1 (al co si : Int) (wi sh : Bool) (ds sr dp re im : Int) : Lf h12 15 [.agg ⟨(xA 5 al co si wi sh ds sr dp re im)⟩] (.bool false) [(b2i (eqD (xA 5 al co si wi sh ds sr dp re im) (xA 5 al 0 0 wi false ds 0 0 0 im)), 1), (b2i (regS ds && regS sr), 1), (b2i (aluOk al), 0)] := lf hkV2_ok (ocs [(15, 21, .bool true), (15, 25, .bool true), (15, 30, .bool false)] []) (by kernel_rfl) (by kernel_rfl) (by kernel_rfl)
theorem v5_2 (al co si : Int) (wi sh : Bool) (ds sr dp re im : Int) : Lf h12 15 [.agg ⟨(xA 5 al co si wi sh ds sr dp re im)⟩] (.bool false) [(b2i (eqD (xA 5 al co si wi sh ds sr dp re im) (xA 5 al 0 0 wi false ds 0 0 0 im)), 1), (b2i (regS ds && regS sr), 0)] := lf hkV2_ok (ocs [(15, 21, .bool true), (15, 25, .bool false)] []) (by kernel_rfl) (by kernel_rfl) (by kernel_rfl)
theorem v5_3 (al co si : Int) (wi sh : Bool) (ds sr dp re im : Int) : Lf h12 15 [.agg ⟨(xA 5 al co si wi sh ds sr dp re im)⟩] (.bool false) [(b2i (eqD (xA 5 al co si wi sh ds sr dp re im) (xA 5 al 0 0 wi false ds 0 0 0 im)), 0)] := lf hkV2_ok (ocs [(15, 21, .bool false)] []) (by kernel_rfl) (by kernel_rfl) (by kernel_rfl)
theorem c_v5 (al co si : Int) (wi sh : Bool) (ds sr dp re im : Int) (w : World) (hL : Laid h12 w) : Calls Tryd.prog 15 #[.agg ⟨(xA 5 al co si wi sh ds sr dp re im)⟩] w fun e w' => e = .returned (.bool (vP5 al co si wi sh ds sr dp re im)) ∧ Gr w w' := by
  rcases Bool.eq_false_or_eq_true (eqD (xA 5 al co si wi sh ds sr dp re im) (xA 5 al 0 0 wi false ds 0 0 0 im)) with k0 | k0
  · rcases Bool.eq_false_or_eq_true (regS ds && regS sr) with k1 | k1
    · rcases Bool.eq_false_or_eq_true (aluOk al) with k2 | k2
      · exact retZ (by first | rfl | ((simp only [vP5, shiftS]) <;> (try simp only [k0]) <;> (try simp only [k1]) <;> (try simp only [k2]) <;> (try rfl) <;> (try simp))) (v5_0 al co si wi sh ds sr dp re im (csT' k0 (csT' k1 (csT' k2 csN'))) w hL)
      · exact retZ (by first | rfl | ((simp only [vP5, shiftS]) <;> (try simp only [k0]) <;> (try simp only [k1]) <;> (try simp only [k2]) <;> (try rfl) <;> (try simp))) (v5_1 al co si wi sh ds sr dp re im (csT' k0 (csT' k1 (csF' k2 csN'))) w hL)
    · exact retZ (by first | rfl | ((simp only [vP5, shiftS]) <;> (try simp only [k0]) <;> (try simp only [k1]) <;> (try rfl) <;> (try simp))) (v5_2 al co si wi sh ds sr dp re im (csT' k0 (csF' k1 csN')) w hL)
  · exact retZ (by first | rfl | ((simp only [vP5, shiftS]) <;> (try simp only [k0]) <;> (try rfl) <;> (try simp))) (v5_3 al co si wi sh ds sr dp re im (csF' k0 csN') w hL)
def vP6 (al co si : Int) (wi sh : Bool) (ds sr dp re im : Int) : Bool := eqD (xA 6 al co si wi sh ds sr dp re im) (xA 6 0 0 0 wi false ds sr 0 0 0) && ((regS ds && regS sr) && ((true) && (!sh || (re == IntKind.i32.wrap (IntKind.i8.wrap re)))))
theorem v6_0 (al co si : Int) (wi sh : Bool) (ds sr dp re im : Int) : Lf h12 15 [.agg ⟨(xA 6 al co si wi sh ds sr dp re im)⟩] (.bool true) [(b2i (eqD (xA 6 al co si wi sh ds sr dp re im) (xA 6 0 0 0 wi false ds sr 0 0 0)), 1), (b2i (regS ds && regS sr), 1), (b2i (!sh), 1)] := lf hkV2_ok (ocs [(15, 21, .bool true), (15, 25, .bool true), (43, 38, .bool true)] []) (by kernel_rfl) (by kernel_rfl) (by kernel_rfl)
theorem v6_1 (al co si : Int) (wi sh : Bool) (ds sr dp re im : Int) : Lf h12 15 [.agg ⟨(xA 6 al co si wi sh ds sr dp re im)⟩] (.bool (re == IntKind.i32.wrap (IntKind.i8.wrap re))) [(b2i (eqD (xA 6 al co si wi sh ds sr dp re im) (xA 6 0 0 0 wi false ds sr 0 0 0)), 1), (b2i (regS ds && regS sr), 1), (b2i (!sh), 0)] := lf hkV2_ok (ocs [(15, 21, .bool true), (15, 25, .bool true), (43, 38, .bool false)] []) (by kernel_rfl) (by kernel_rfl) (by kernel_rfl)
theorem v6_2 (al co si : Int) (wi sh : Bool) (ds sr dp re im : Int) : Lf h12 15 [.agg ⟨(xA 6 al co si wi sh ds sr dp re im)⟩] (.bool false) [(b2i (eqD (xA 6 al co si wi sh ds sr dp re im) (xA 6 0 0 0 wi false ds sr 0 0 0)), 1), (b2i (regS ds && regS sr), 0)] := lf hkV2_ok (ocs [(15, 21, .bool true), (15, 25, .bool false)] []) (by kernel_rfl) (by kernel_rfl) (by kernel_rfl)
theorem v6_3 (al co si : Int) (wi sh : Bool) (ds sr dp re im : Int) : Lf h12 15 [.agg ⟨(xA 6 al co si wi sh ds sr dp re im)⟩] (.bool false) [(b2i (eqD (xA 6 al co si wi sh ds sr dp re im) (xA 6 0 0 0 wi false ds sr 0 0 0)), 0)] := lf hkV2_ok (ocs [(15, 21, .bool false)] []) (by kernel_rfl) (by kernel_rfl) (by kernel_rfl)
theorem c_v6 (al co si : Int) (wi sh : Bool) (ds sr dp re im : Int) (w : World) (hL : Laid h12 w) : Calls Tryd.prog 15 #[.agg ⟨(xA 6 al co si wi sh ds sr dp re im)⟩] w fun e w' => e = .returned (.bool (vP6 al co si wi sh ds sr dp re im)) ∧ Gr w w' := by
  rcases Bool.eq_false_or_eq_true (eqD (xA 6 al co si wi sh ds sr dp re im) (xA 6 0 0 0 wi false ds sr 0 0 0)) with k0 | k0
  · rcases Bool.eq_false_or_eq_true (regS ds && regS sr) with k1 | k1
    · rcases Bool.eq_false_or_eq_true (!sh) with k2 | k2
      · exact retZ (by first | rfl | ((simp only [vP6, shiftS]) <;> (try simp only [k0]) <;> (try simp only [k1]) <;> (try simp only [k2]) <;> (try rfl) <;> (try simp))) (v6_0 al co si wi sh ds sr dp re im (csT' k0 (csT' k1 (csT' k2 csN'))) w hL)
      · exact retZ (by first | rfl | ((simp only [vP6, shiftS]) <;> (try simp only [k0]) <;> (try simp only [k1]) <;> (try simp only [k2]) <;> (try rfl) <;> (try simp))) (v6_1 al co si wi sh ds sr dp re im (csT' k0 (csT' k1 (csF' k2 csN'))) w hL)
    · exact retZ (by first | rfl | ((simp only [vP6, shiftS]) <;> (try simp only [k0]) <;> (try simp only [k1]) <;> (try rfl) <;> (try simp))) (v6_2 al co si wi sh ds sr dp re im (csT' k0 (csF' k1 csN')) w hL)
  · exact retZ (by first | rfl | ((simp only [vP6, shiftS]) <;> (try simp only [k0]) <;> (try rfl) <;> (try simp))) (v6_3 al co si wi sh ds sr dp re im (csF' k0 csN') w hL)
def vP7 (al co si : Int) (wi sh : Bool) (ds sr dp re im : Int) : Bool := eqD (xA 7 al co si wi sh ds sr dp re im) (xA 7 0 0 0 wi false ds 0 0 0 0) && ((regS ds && regS sr) && ((true) && (!sh || (re == IntKind.i32.wrap (IntKind.i8.wrap re)))))
theorem v7_0 (al co si : Int) (wi sh : Bool) (ds sr dp re im : Int) : Lf h12 15 [.agg ⟨(xA 7 al co si wi sh ds sr dp re im)⟩] (.bool true) [(b2i (eqD (xA 7 al co si wi sh ds sr dp re im) (xA 7 0 0 0 wi false ds 0 0 0 0)), 1), (b2i (regS ds && regS sr), 1), (b2i (!sh), 1)] := lf hkV2_ok (ocs [(15, 21, .bool true), (15, 25, .bool true), (43, 38, .bool true)] []) (by kernel_rfl) (by kernel_rfl) (by kernel_rfl)
theorem v7_1 (al co si : Int) (wi sh : Bool) (ds sr dp re im : Int) : Lf h12 15 [.agg ⟨(xA 7 al co si wi sh ds sr dp re im)⟩] (.bool (re == IntKind.i32.wrap (IntKind.i8.wrap re))) [(b2i (eqD (xA 7 al co si wi sh ds sr dp re im) (xA 7 0 0 0 wi false ds 0 0 0 0)), 1), (b2i (regS ds && regS sr), 1), (b2i (!sh), 0)] := lf hkV2_ok (ocs [(15, 21, .bool true), (15, 25, .bool true), (43, 38, .bool false)] []) (by kernel_rfl) (by kernel_rfl) (by kernel_rfl)
theorem v7_2 (al co si : Int) (wi sh : Bool) (ds sr dp re im : Int) : Lf h12 15 [.agg ⟨(xA 7 al co si wi sh ds sr dp re im)⟩] (.bool false) [(b2i (eqD (xA 7 al co si wi sh ds sr dp re im) (xA 7 0 0 0 wi false ds 0 0 0 0)), 1), (b2i (regS ds && regS sr), 0)] := lf hkV2_ok (ocs [(15, 21, .bool true), (15, 25, .bool false)] []) (by kernel_rfl) (by kernel_rfl) (by kernel_rfl)
theorem v7_3 (al co si : Int) (wi sh : Bool) (ds sr dp re im : Int) : Lf h12 15 [.agg ⟨(xA 7 al co si wi sh ds sr dp re im)⟩] (.bool false) [(b2i (eqD (xA 7 al co si wi sh ds sr dp re im) (xA 7 0 0 0 wi false ds 0 0 0 0)), 0)] := lf hkV2_ok (ocs [(15, 21, .bool false)] []) (by kernel_rfl) (by kernel_rfl) (by kernel_rfl)
theorem c_v7 (al co si : Int) (wi sh : Bool) (ds sr dp re im : Int) (w : World) (hL : Laid h12 w) : Calls Tryd.prog 15 #[.agg ⟨(xA 7 al co si wi sh ds sr dp re im)⟩] w fun e w' => e = .returned (.bool (vP7 al co si wi sh ds sr dp re im)) ∧ Gr w w' := by
  rcases Bool.eq_false_or_eq_true (eqD (xA 7 al co si wi sh ds sr dp re im) (xA 7 0 0 0 wi false ds 0 0 0 0)) with k0 | k0
  · rcases Bool.eq_false_or_eq_true (regS ds && regS sr) with k1 | k1
    · rcases Bool.eq_false_or_eq_true (!sh) with k2 | k2
      · exact retZ (by first | rfl | ((simp only [vP7, shiftS]) <;> (try simp only [k0]) <;> (try simp only [k1]) <;> (try simp only [k2]) <;> (try rfl) <;> (try simp))) (v7_0 al co si wi sh ds sr dp re im (csT' k0 (csT' k1 (csT' k2 csN'))) w hL)
      · exact retZ (by first | rfl | ((simp only [vP7, shiftS]) <;> (try simp only [k0]) <;> (try simp only [k1]) <;> (try simp only [k2]) <;> (try rfl) <;> (try simp))) (v7_1 al co si wi sh ds sr dp re im (csT' k0 (csT' k1 (csF' k2 csN'))) w hL)
    · exact retZ (by first | rfl | ((simp only [vP7, shiftS]) <;> (try simp only [k0]) <;> (try simp only [k1]) <;> (try rfl) <;> (try simp))) (v7_2 al co si wi sh ds sr dp re im (csT' k0 (csF' k1 csN')) w hL)
  · exact retZ (by first | rfl | ((simp only [vP7, shiftS]) <;> (try simp only [k0]) <;> (try rfl) <;> (try simp))) (v7_3 al co si wi sh ds sr dp re im (csF' k0 csN') w hL)
def vP8 (al co si : Int) (wi sh : Bool) (ds sr dp re im : Int) : Bool := eqD (xA 8 al co si wi sh ds sr dp re im) (xA 8 0 0 0 wi false ds 0 0 0 0) && ((regS ds && regS sr) && ((true) && (!sh || (re == IntKind.i32.wrap (IntKind.i8.wrap re)))))
theorem v8_0 (al co si : Int) (wi sh : Bool) (ds sr dp re im : Int) : Lf h12 15 [.agg ⟨(xA 8 al co si wi sh ds sr dp re im)⟩] (.bool true) [(b2i (eqD (xA 8 al co si wi sh ds sr dp re im) (xA 8 0 0 0 wi false ds 0 0 0 0)), 1), (b2i (regS ds && regS sr), 1), (b2i (!sh), 1)] := lf hkV2_ok (ocs [(15, 21, .bool true), (15, 25, .bool true), (43, 38, .bool true)] []) (by kernel_rfl) (by kernel_rfl) (by kernel_rfl)
theorem v8_1 (al co si : Int) (wi sh : Bool) (ds sr dp re im : Int) : Lf h12 15 [.agg ⟨(xA 8 al co si wi sh ds sr dp re im)⟩] (.bool (re == IntKind.i32.wrap (IntKind.i8.wrap re))) [(b2i (eqD (xA 8 al co si wi sh ds sr dp re im) (xA 8 0 0 0 wi false ds 0 0 0 0)), 1), (b2i (regS ds && regS sr), 1), (b2i (!sh), 0)] := lf hkV2_ok (ocs [(15, 21, .bool true), (15, 25, .bool true), (43, 38, .bool false)] []) (by kernel_rfl) (by kernel_rfl) (by kernel_rfl)
theorem v8_2 (al co si : Int) (wi sh : Bool) (ds sr dp re im : Int) : Lf h12 15 [.agg ⟨(xA 8 al co si wi sh ds sr dp re im)⟩] (.bool false) [(b2i (eqD (xA 8 al co si wi sh ds sr dp re im) (xA 8 0 0 0 wi false ds 0 0 0 0)), 1), (b2i (regS ds && regS sr), 0)] := lf hkV2_ok (ocs [(15, 21, .bool true), (15, 25, .bool false)] []) (by kernel_rfl) (by kernel_rfl) (by kernel_rfl)
theorem v8_3 (al co si : Int) (wi sh : Bool) (ds sr dp re im : Int) : Lf h12 15 [.agg ⟨(xA 8 al co si wi sh ds sr dp re im)⟩] (.bool false) [(b2i (eqD (xA 8 al co si wi sh ds sr dp re im) (xA 8 0 0 0 wi false ds 0 0 0 0)), 0)] := lf hkV2_ok (ocs [(15, 21, .bool false)] []) (by kernel_rfl) (by kernel_rfl) (by kernel_rfl)
theorem c_v8 (al co si : Int) (wi sh : Bool) (ds sr dp re im : Int) (w : World) (hL : Laid h12 w) : Calls Tryd.prog 15 #[.agg ⟨(xA 8 al co si wi sh ds sr dp re im)⟩] w fun e w' => e = .returned (.bool (vP8 al co si wi sh ds sr dp re im)) ∧ Gr w w' := by
  rcases Bool.eq_false_or_eq_true (eqD (xA 8 al co si wi sh ds sr dp re im) (xA 8 0 0 0 wi false ds 0 0 0 0)) with k0 | k0
  · rcases Bool.eq_false_or_eq_true (regS ds && regS sr) with k1 | k1
    · rcases Bool.eq_false_or_eq_true (!sh) with k2 | k2
      · exact retZ (by first | rfl | ((simp only [vP8, shiftS]) <;> (try simp only [k0]) <;> (try simp only [k1]) <;> (try simp only [k2]) <;> (try rfl) <;> (try simp))) (v8_0 al co si wi sh ds sr dp re im (csT' k0 (csT' k1 (csT' k2 csN'))) w hL)
      · exact retZ (by first | rfl | ((simp only [vP8, shiftS]) <;> (try simp only [k0]) <;> (try simp only [k1]) <;> (try simp only [k2]) <;> (try rfl) <;> (try simp))) (v8_1 al co si wi sh ds sr dp re im (csT' k0 (csT' k1 (csF' k2 csN'))) w hL)
    · exact retZ (by first | rfl | ((simp only [vP8, shiftS]) <;> (try simp only [k0]) <;> (try simp only [k1]) <;> (try rfl) <;> (try simp))) (v8_2 al co si wi sh ds sr dp re im (csT' k0 (csF' k1 csN')) w hL)
  · exact retZ (by first | rfl | ((simp only [vP8, shiftS]) <;> (try simp only [k0]) <;> (try rfl) <;> (try simp))) (v8_3 al co si wi sh ds sr dp re im (csF' k0 csN') w hL)
def vP9 (al co si : Int) (wi sh : Bool) (ds sr dp re im : Int) : Bool := eqD (xA 9 al co si wi sh ds sr dp re im) (xA 9 0 0 0 wi false ds 0 0 0 0) && ((regS ds && regS sr) && ((true) && (!sh || (re == IntKind.i32.wrap (IntKind.i8.wrap re)))))
theorem v9_0 (al co si : Int) (wi sh : Bool) (ds sr dp re im : Int) : Lf h12 15 [.agg ⟨(xA 9 al co si wi sh ds sr dp re im)⟩] (.bool true) [(b2i (eqD (xA 9 al co si wi sh ds sr dp re im) (xA 9 0 0 0 wi false ds 0 0 0 0)), 1), (b2i (regS ds && regS sr), 1), (b2i (!sh), 1)] := lf hkV2_ok (ocs [(15, 21, .bool true), (15, 25, .bool true), (43, 38, .bool true)] []) (by kernel_rfl) (by kernel_rfl) (by kernel_rfl)
theorem v9_1 (al co si : Int) (wi sh : Bool) (ds sr dp re im : Int) : Lf h12 15 [.agg ⟨(xA 9 al co si wi sh ds sr dp re im)⟩] (.bool (re == IntKind.i32.wrap (IntKind.i8.wrap re))) [(b2i (eqD (xA 9 al co si wi sh ds sr dp re im) (xA 9 0 0 0 wi false ds 0 0 0 0)), 1), (b2i (regS ds && regS sr), 1), (b2i (!sh), 0)] := lf hkV2_ok (ocs [(15, 21, .bool true), (15, 25, .bool true), (43, 38, .bool false)] []) (by kernel_rfl) (by kernel_rfl) (by kernel_rfl)
theorem v9_2 (al co si : Int) (wi sh : Bool) (ds sr dp re im : Int) : Lf h12 15 [.agg ⟨(xA 9 al co si wi sh ds sr dp re im)⟩] (.bool false) [(b2i (eqD (xA 9 al co si wi sh ds sr dp re im) (xA 9 0 0 0 wi false ds 0 0 0 0)), 1), (b2i (regS ds && regS sr), 0)] := lf hkV2_ok (ocs [(15, 21, .bool true), (15, 25, .bool false)] []) (by kernel_rfl) (by kernel_rfl) (by kernel_rfl)
theorem v9_3 (al co si : Int) (wi sh : Bool) (ds sr dp re im : Int) : Lf h12 15 [.agg ⟨(xA 9 al co si wi sh ds sr dp re im)⟩] (.bool false) [(b2i (eqD (xA 9 al co si wi sh ds sr dp re im) (xA 9 0 0 0 wi false ds 0 0 0 0)), 0)] := lf hkV2_ok (ocs [(15, 21, .bool false)] []) (by kernel_rfl) (by kernel_rfl) (by kernel_rfl)
theorem c_v9 (al co si : Int) (wi sh : Bool) (ds sr dp re im : Int) (w : World) (hL : Laid h12 w) : Calls Tryd.prog 15 #[.agg ⟨(xA 9 al co si wi sh ds sr dp re im)⟩] w fun e w' => e = .returned (.bool (vP9 al co si wi sh ds sr dp re im)) ∧ Gr w w' := by
  rcases Bool.eq_false_or_eq_true (eqD (xA 9 al co si wi sh ds sr dp re im) (xA 9 0 0 0 wi false ds 0 0 0 0)) with k0 | k0
  · rcases Bool.eq_false_or_eq_true (regS ds && regS sr) with k1 | k1
    · rcases Bool.eq_false_or_eq_true (!sh) with k2 | k2
      · exact retZ (by first | rfl | ((simp only [vP9, shiftS]) <;> (try simp only [k0]) <;> (try simp only [k1]) <;> (try simp only [k2]) <;> (try rfl) <;> (try simp))) (v9_0 al co si wi sh ds sr dp re im (csT' k0 (csT' k1 (csT' k2 csN'))) w hL)
      · exact retZ (by first | rfl | ((simp only [vP9, shiftS]) <;> (try simp only [k0]) <;> (try simp only [k1]) <;> (try simp only [k2]) <;> (try rfl) <;> (try simp))) (v9_1 al co si wi sh ds sr dp re im (csT' k0 (csT' k1 (csF' k2 csN'))) w hL)
    · exact retZ (by first | rfl | ((simp only [vP9, shiftS]) <;> (try simp only [k0]) <;> (try simp only [k1]) <;> (try rfl) <;> (try simp))) (v9_2 al co si wi sh ds sr dp re im (csT' k0 (csF' k1 csN')) w hL)
  · exact retZ (by first | rfl | ((simp only [vP9, shiftS]) <;> (try simp only [k0]) <;> (try rfl) <;> (try simp))) (v9_3 al co si wi sh ds sr dp re im (csF' k0 csN') w hL)
def vP10 (al co si : Int) (wi sh : Bool) (ds sr dp re im : Int) : Bool := eqD (xA 10 al co si wi sh ds sr dp re im) (xA 10 0 0 0 wi false ds sr 0 0 0) && ((regS ds && regS sr) && ((true) && (!sh || (re == IntKind.i32.wrap (IntKind.i8.wrap re)))))
theorem v10_0 (al co si : Int) (wi sh : Bool) (ds sr dp re im : Int) : Lf h12 15 [.agg ⟨(xA 10 al co si wi sh ds sr dp re im)⟩] (.bool true) [(b2i (eqD (xA 10 al co si wi sh ds sr dp re im) (xA 10 0 0 0 wi false ds sr 0 0 0)), 1), (b2i (regS ds && regS sr), 1), (b2i (!sh), 1)] := lf hkV2_ok (ocs [(15, 21, .bool true), (15, 25, .bool true), (43, 38, .bool true)] []) (by kernel_rfl) (by kernel_rfl) (by kernel_rfl)
theorem v10_1 (al co si : Int) (wi sh : Bool) (ds sr dp re im : Int) : Lf h12 15 [.agg ⟨(xA 10 al co si wi sh ds sr dp re im)⟩] (.bool (re == IntKind.i32.wrap (IntKind.i8.wrap re))) [(b2i (eqD (xA 10 al co si wi sh ds sr dp re im) (xA 10 0 0 0 wi false ds sr 0 0 0)), 1), (b2i (regS ds && regS sr), 1), (b2i (!sh), 0)] := lf hkV2_ok (ocs [(15, 21, .bool true), (15, 25, .bool true), (43, 38, .bool false)] []) (by kernel_rfl) (by kernel_rfl) (by kernel_rfl)
theorem v10_2 (al co si : Int) (wi sh : Bool) (ds sr dp re im : Int) : Lf h12 15 [.agg ⟨(xA 10 al co si wi sh ds sr dp re im)⟩] (.bool false) [(b2i (eqD (xA 10 al co si wi sh ds sr dp re im) (xA 10 0 0 0 wi false ds sr 0 0 0)), 1), (b2i (regS ds && regS sr), 0)] := lf hkV2_ok (ocs [(15, 21, .bool true), (15, 25, .bool false)] []) (by kernel_rfl) (by kernel_rfl) (by kernel_rfl)
theorem v10_3 (al co si : Int) (wi sh : Bool) (ds sr dp re im : Int) : Lf h12 15 [.agg ⟨(xA 10 al co si wi sh ds sr dp re im)⟩] (.bool false) [(b2i (eqD (xA 10 al co si wi sh ds sr dp re im) (xA 10 0 0 0 wi false ds sr 0 0 0)), 0)] := lf hkV2_ok (ocs [(15, 21, .bool false)] []) (by kernel_rfl) (by kernel_rfl) (by kernel_rfl)
theorem c_v10 (al co si : Int) (wi sh : Bool) (ds sr dp re im : Int) (w : World) (hL : Laid h12 w) : Calls Tryd.prog 15 #[.agg ⟨(xA 10 al co si wi sh ds sr dp re im)⟩] w fun e w' => e = .returned (.bool (vP10 al co si wi sh ds sr dp re im)) ∧ Gr w w' := by
  rcases Bool.eq_false_or_eq_true (eqD (xA 10 al co si wi sh ds sr dp re im) (xA 10 0 0 0 wi false ds sr 0 0 0)) with k0 | k0
  · rcases Bool.eq_false_or_eq_true (regS ds && regS sr) with k1 | k1
    · rcases Bool.eq_false_or_eq_true (!sh) with k2 | k2
      · exact retZ (by first | rfl | ((simp only [vP10, shiftS]) <;> (try simp only [k0]) <;> (try simp only [k1]) <;> (try simp only [k2]) <;> (try rfl) <;> (try simp))) (v10_0 al co si wi sh ds sr dp re im (csT' k0 (csT' k1 (csT' k2 csN'))) w hL)
      · exact retZ (by first | rfl | ((simp only [vP10, shiftS]) <;> (try simp only [k0]) <;> (try simp only [k1]) <;> (try simp only [k2]) <;> (try rfl) <;> (try simp))) (v10_1 al co si wi sh ds sr dp re im (csT' k0 (csT' k1 (csF' k2 csN'))) w hL)
    · exact retZ (by first | rfl | ((simp only [vP10, shiftS]) <;> (try simp only [k0]) <;> (try simp only [k1]) <;> (try rfl) <;> (try simp))) (v10_2 al co si wi sh ds sr dp re im (csT' k0 (csF' k1 csN')) w hL)
  · exact retZ (by first | rfl | ((simp only [vP10, shiftS]) <;> (try simp only [k0]) <;> (try rfl) <;> (try simp))) (v10_3 al co si wi sh ds sr dp re im (csF' k0 csN') w hL)
def vP11 (al co si : Int) (wi sh : Bool) (ds sr dp re im : Int) : Bool := eqD (xA 11 al co si wi sh ds sr dp re im) (xA 11 al 0 0 wi false ds 0 0 0 im) && ((regS ds && regS sr) && ((shOk al) && (shiftS wi im)))
theorem v11_0 (al co si : Int) (wi sh : Bool) (ds sr dp re im : Int) : Lf h12 15 [.agg ⟨(xA 11 al co si wi sh ds sr dp re im)⟩] (.bool true) [(b2i (eqD (xA 11 al co si wi sh ds sr dp re im) (xA 11 al 0 0 wi false ds 0 0 0 im)), 1), (b2i (regS ds && regS sr), 1), (b2i (shOk al), 1), (b2i (decide (im ≥ 0)), 1), (b2i (decide (im < 32)), 1)] := lf hkV2_ok (ocs [(15, 21, .bool true), (15, 25, .bool true), (15, 30, .bool true), (43, 12, .bool true), (43, 16, .bool true)] []) (by kernel_rfl) (by kernel_rfl) (by kernel_rfl)
theorem v11_1 (al co si : Int) (wi sh : Bool) (ds sr dp re im : Int) : Lf h12 15 [.agg ⟨(xA 11 al co si wi sh ds sr dp re im)⟩] (.bool (decide (im < 64))) [(b2i (eqD (xA 11 al co si wi sh ds sr dp re im) (xA 11 al 0 0 wi false ds 0 0 0 im)), 1), (b2i (regS ds && regS sr), 1), (b2i (shOk al), 1), (b2i (decide (im ≥ 0)), 1), (b2i (decide (im < 32)), 0), (b2i (wi), 1)] := lf hkV2_ok (ocs [(15, 21, .bool true), (15, 25, .bool true), (15, 30, .bool true), (43, 12, .bool true), (43, 16, .bool false), (43, 19, .bool true)] []) (by kernel_rfl) (by kernel_rfl) (by kernel_rfl)
theorem v11_2 (al co si : Int) (wi sh : Bool) (ds sr dp re im : Int) : Lf h12 15 [.agg ⟨(xA 11 al co si wi sh ds sr dp re im)⟩] (.bool false) [(b2i (eqD (xA 11 al co si wi sh ds sr dp re im) (xA 11 al 0 0 wi false ds 0 0 0 im)), 1), (b2i (regS ds && regS sr), 1), (b2i (shOk al), 1), (b2i (decide (im ≥ 0)), 1), (b2i (decide (im < 32)), 0), (b2i (wi), 0)] := lf hkV2_ok (ocs [(15, 21, .bool true), (15, 25, .bool true), (15, 30, .bool true), (43, 12, .bool true), (43, 16, .bool false), (43, 19, .bool false)] []) (by kernel_rfl) (by kernel_rfl) (by kernel_rfl)
theorem v11_3 (al co si : Int) (wi sh : Bool) (ds sr dp re im : Int) : Lf h12 15 [.agg ⟨(xA 11 al co si wi sh ds sr dp re im)⟩] (.bool false) [(b2i (eqD (xA 11 al co si wi sh ds sr dp re im) (xA 11 al 0 0 wi false ds 0 0 0 im)), 1), (b2i (regS ds && regS sr), 1), (b2i (shOk al), 1), (b2i (decide (im ≥ 0)), 0)] := lf hkV2_ok (ocs [(15, 21, .bool true), (15, 25, .bool true), (15, 30, .bool true), (43, 12, .bool false)] []) (by kernel_rfl) (by kernel_rfl) (by kernel_rfl)
theorem v11_4 (al co si : Int) (wi sh : Bool) (ds sr dp re im : Int) : Lf h12 15 [.agg ⟨(xA 11 al co si wi sh ds sr dp re im)⟩] (.bool false) [(b2i (eqD (xA 11 al co si wi sh ds sr dp re im) (xA 11 al 0 0 wi false ds 0 0 0 im)), 1), (b2i (regS ds && regS sr), 1), (b2i (shOk al), 0)] := lf hkV2_ok (ocs [(15, 21, .bool true), (15, 25, .bool true), (15, 30, .bool false)] []) (by kernel_rfl) (by kernel_rfl) (by kernel_rfl)
theorem v11_5 (al co si : Int) (wi sh : Bool) (ds sr dp re im : Int) : Lf h12 15 [.agg ⟨(xA 11 al co si wi sh ds sr dp re im)⟩] (.bool false) [(b2i (eqD (xA 11 al co si wi sh ds sr dp re im) (xA 11 al 0 0 wi false ds 0 0 0 im)), 1), (b2i (regS ds && regS sr), 0)] := lf hkV2_ok (ocs [(15, 21, .bool true), (15, 25, .bool false)] []) (by kernel_rfl) (by kernel_rfl) (by kernel_rfl)
theorem v11_6 (al co si : Int) (wi sh : Bool) (ds sr dp re im : Int) : Lf h12 15 [.agg ⟨(xA 11 al co si wi sh ds sr dp re im)⟩] (.bool false) [(b2i (eqD (xA 11 al co si wi sh ds sr dp re im) (xA 11 al 0 0 wi false ds 0 0 0 im)), 0)] := lf hkV2_ok (ocs [(15, 21, .bool false)] []) (by kernel_rfl) (by kernel_rfl) (by kernel_rfl)
theorem c_v11 (al co si : Int) (wi sh : Bool) (ds sr dp re im : Int) (w : World) (hL : Laid h12 w) : Calls Tryd.prog 15 #[.agg ⟨(xA 11 al co si wi sh ds sr dp re im)⟩] w fun e w' => e = .returned (.bool (vP11 al co si wi sh ds sr dp re im)) ∧ Gr w w' := by
  rcases Bool.eq_false_or_eq_true (eqD (xA 11 al co si wi sh ds sr dp re im) (xA 11 al 0 0 wi false ds 0 0 0 im)) with k0 | k0
  · rcases Bool.eq_false_or_eq_true (regS ds && regS sr) with k1 | k1
    · rcases Bool.eq_false_or_eq_true (shOk al) with k2 | k2
      · rcases Bool.eq_false_or_eq_true (decide (im ≥ 0)) with k3 | k3
        · rcases Bool.eq_false_or_eq_true (decide (im < 32)) with k4 | k4
          · exact retZ (by first | rfl | ((simp only [vP11, shiftS]) <;> (try simp only [k0]) <;> (try simp only [k1]) <;> (try simp only [k4]) <;> (try simp only [k3]) <;> (try simp only [k2]) <;> (try rfl) <;> (try simp))) (v11_0 al co si wi sh ds sr dp re im (csT' k0 (csT' k1 (csT' k2 (csT' k3 (csT' k4 csN'))))) w hL)
          · rcases Bool.eq_false_or_eq_true (wi) with k5 | k5
            · exact retZ (by first | rfl | ((simp only [vP11, shiftS]) <;> (try simp only [k0]) <;> (try simp only [k1]) <;> (try simp only [k4]) <;> (try simp only [k3]) <;> (try simp only [k2]) <;> (try simp only [k5]) <;> (try rfl) <;> (try simp))) (v11_1 al co si wi sh ds sr dp re im (csT' k0 (csT' k1 (csT' k2 (csT' k3 (csF' k4 (csT' k5 csN')))))) w hL)
            · exact retZ (by first | rfl | ((simp only [vP11, shiftS]) <;> (try simp only [k0]) <;> (try simp only [k1]) <;> (try simp only [k4]) <;> (try simp only [k3]) <;> (try simp only [k2]) <;> (try simp only [k5]) <;> (try rfl) <;> (try simp))) (v11_2 al co si wi sh ds sr dp re im (csT' k0 (csT' k1 (csT' k2 (csT' k3 (csF' k4 (csF' k5 csN')))))) w hL)
        · exact retZ (by first | rfl | ((simp only [vP11, shiftS]) <;> (try simp only [k0]) <;> (try simp only [k1]) <;> (try simp only [k3]) <;> (try simp only [k2]) <;> (try rfl) <;> (try simp))) (v11_3 al co si wi sh ds sr dp re im (csT' k0 (csT' k1 (csT' k2 (csF' k3 csN')))) w hL)
      · exact retZ (by first | rfl | ((simp only [vP11, shiftS]) <;> (try simp only [k0]) <;> (try simp only [k1]) <;> (try simp only [k2]) <;> (try rfl) <;> (try simp))) (v11_4 al co si wi sh ds sr dp re im (csT' k0 (csT' k1 (csF' k2 csN'))) w hL)
    · exact retZ (by first | rfl | ((simp only [vP11, shiftS]) <;> (try simp only [k0]) <;> (try simp only [k1]) <;> (try rfl) <;> (try simp))) (v11_5 al co si wi sh ds sr dp re im (csT' k0 (csF' k1 csN')) w hL)
  · exact retZ (by first | rfl | ((simp only [vP11, shiftS]) <;> (try simp only [k0]) <;> (try rfl) <;> (try simp))) (v11_6 al co si wi sh ds sr dp re im (csF' k0 csN') w hL)
def vP12 (al co si : Int) (wi sh : Bool) (ds sr dp re im : Int) : Bool := eqD (xA 12 al co si wi sh ds sr dp re im) (xA 12 al 0 0 wi false ds 0 0 0 0) && ((regS ds && regS sr) && ((shOk al) && (!sh || (re == IntKind.i32.wrap (IntKind.i8.wrap re)))))
theorem v12_0 (al co si : Int) (wi sh : Bool) (ds sr dp re im : Int) : Lf h12 15 [.agg ⟨(xA 12 al co si wi sh ds sr dp re im)⟩] (.bool true) [(b2i (eqD (xA 12 al co si wi sh ds sr dp re im) (xA 12 al 0 0 wi false ds 0 0 0 0)), 1), (b2i (regS ds && regS sr), 1), (b2i (shOk al), 1), (b2i (!sh), 1)] := lf hkV2_ok (ocs [(15, 21, .bool true), (15, 25, .bool true), (15, 30, .bool true), (43, 38, .bool true)] []) (by kernel_rfl) (by kernel_rfl) (by kernel_rfl)
theorem v12_1 (al co si : Int) (wi sh : Bool) (ds sr dp re im : Int) : Lf h12 15 [.agg ⟨(xA 12 al co si wi sh ds sr dp re im)⟩] (.bool (re == IntKind.i32.wrap (IntKind.i8.wrap re))) [(b2i (eqD (xA 12 al co si wi sh ds sr dp re im) (xA 12 al 0 0 wi false ds 0 0 0 0)), 1), (b2i (regS ds && regS sr), 1), (b2i (shOk al), 1), (b2i (!sh), 0)] := lf hkV2_ok (ocs [(15, 21, .bool true), (15, 25, .bool true), (15, 30, .bool true), (43, 38, .bool false)] []) (by kernel_rfl) (by kernel_rfl) (by kernel_rfl)
theorem v12_2 (al co si : Int) (wi sh : Bool) (ds sr dp re im : Int) : Lf h12 15 [.agg ⟨(xA 12 al co si wi sh ds sr dp re im)⟩] (.bool false) [(b2i (eqD (xA 12 al co si wi sh ds sr dp re im) (xA 12 al 0 0 wi false ds 0 0 0 0)), 1), (b2i (regS ds && regS sr), 1), (b2i (shOk al), 0)] := lf hkV2_ok (ocs [(15, 21, .bool true), (15, 25, .bool true), (15, 30, .bool false)] []) (by kernel_rfl) (by kernel_rfl) (by kernel_rfl)
theorem v12_3 (al co si : Int) (wi sh : Bool) (ds sr dp re im : Int) : Lf h12 15 [.agg ⟨(xA 12 al co si wi sh ds sr dp re im)⟩] (.bool false) [(b2i (eqD (xA 12 al co si wi sh ds sr dp re im) (xA 12 al 0 0 wi false ds 0 0 0 0)), 1), (b2i (regS ds && regS sr), 0)] := lf hkV2_ok (ocs [(15, 21, .bool true), (15, 25, .bool false)] []) (by kernel_rfl) (by kernel_rfl) (by kernel_rfl)
theorem v12_4 (al co si : Int) (wi sh : Bool) (ds sr dp re im : Int) : Lf h12 15 [.agg ⟨(xA 12 al co si wi sh ds sr dp re im)⟩] (.bool false) [(b2i (eqD (xA 12 al co si wi sh ds sr dp re im) (xA 12 al 0 0 wi false ds 0 0 0 0)), 0)] := lf hkV2_ok (ocs [(15, 21, .bool false)] []) (by kernel_rfl) (by kernel_rfl) (by kernel_rfl)
theorem c_v12 (al co si : Int) (wi sh : Bool) (ds sr dp re im : Int) (w : World) (hL : Laid h12 w) : Calls Tryd.prog 15 #[.agg ⟨(xA 12 al co si wi sh ds sr dp re im)⟩] w fun e w' => e = .returned (.bool (vP12 al co si wi sh ds sr dp re im)) ∧ Gr w w' := by
  rcases Bool.eq_false_or_eq_true (eqD (xA 12 al co si wi sh ds sr dp re im) (xA 12 al 0 0 wi false ds 0 0 0 0)) with k0 | k0
  · rcases Bool.eq_false_or_eq_true (regS ds && regS sr) with k1 | k1
    · rcases Bool.eq_false_or_eq_true (shOk al) with k2 | k2
      · rcases Bool.eq_false_or_eq_true (!sh) with k3 | k3
        · exact retZ (by first | rfl | ((simp only [vP12, shiftS]) <;> (try simp only [k0]) <;> (try simp only [k1]) <;> (try simp only [k2]) <;> (try simp only [k3]) <;> (try rfl) <;> (try simp))) (v12_0 al co si wi sh ds sr dp re im (csT' k0 (csT' k1 (csT' k2 (csT' k3 csN')))) w hL)
        · exact retZ (by first | rfl | ((simp only [vP12, shiftS]) <;> (try simp only [k0]) <;> (try simp only [k1]) <;> (try simp only [k2]) <;> (try simp only [k3]) <;> (try rfl) <;> (try simp))) (v12_1 al co si wi sh ds sr dp re im (csT' k0 (csT' k1 (csT' k2 (csF' k3 csN')))) w hL)
      · exact retZ (by first | rfl | ((simp only [vP12, shiftS]) <;> (try simp only [k0]) <;> (try simp only [k1]) <;> (try simp only [k2]) <;> (try rfl) <;> (try simp))) (v12_2 al co si wi sh ds sr dp re im (csT' k0 (csT' k1 (csF' k2 csN'))) w hL)
    · exact retZ (by first | rfl | ((simp only [vP12, shiftS]) <;> (try simp only [k0]) <;> (try simp only [k1]) <;> (try rfl) <;> (try simp))) (v12_3 al co si wi sh ds sr dp re im (csT' k0 (csF' k1 csN')) w hL)
  · exact retZ (by first | rfl | ((simp only [vP12, shiftS]) <;> (try simp only [k0]) <;> (try rfl) <;> (try simp))) (v12_4 al co si wi sh ds sr dp re im (csF' k0 csN') w hL)
def vP13 (al co si : Int) (wi sh : Bool) (ds sr dp re im : Int) : Bool := eqD (xA 13 al co si wi sh ds sr dp re im) (xA 13 0 0 si wi false ds sr dp 0 0) && ((regS ds && regS sr) && ((szOk si && (wi == (si == 8))) && (!sh || (re == IntKind.i32.wrap (IntKind.i8.wrap re)))))
theorem v13_0 (al co si : Int) (wi sh : Bool) (ds sr dp re im : Int) : Lf h12 15 [.agg ⟨(xA 13 al co si wi sh ds sr dp re im)⟩] (.bool true) [(b2i (eqD (xA 13 al co si wi sh ds sr dp re im) (xA 13 0 0 si wi false ds sr dp 0 0)), 1), (b2i (regS ds && regS sr), 1), (b2i (szOk si && (wi == (si == 8))), 1), (b2i (!sh), 1)] := lf hkV2_ok (ocs [(15, 21, .bool true), (15, 25, .bool true), (15, 30, .bool true), (43, 38, .bool true)] []) (by kernel_rfl) (by kernel_rfl) (by kernel_rfl)
theorem v13_1 (al co si : Int) (wi sh : Bool) (ds sr dp re im : Int) : Lf h12 15 [.agg ⟨(xA 13 al co si wi sh ds sr dp re im)⟩] (.bool (re == IntKind.i32.wrap (IntKind.i8.wrap re))) [(b2i (eqD (xA 13 al co si wi sh ds sr dp re im) (xA 13 0 0 si wi false ds sr dp 0 0)), 1), (b2i (regS ds && regS sr), 1), (b2i (szOk si && (wi == (si == 8))), 1), (b2i (!sh), 0)] := lf hkV2_ok (ocs [(15, 21, .bool true), (15, 25, .bool true), (15, 30, .bool true), (43, 38, .bool false)] []) (by kernel_rfl) (by kernel_rfl) (by kernel_rfl)
theorem v13_2 (al co si : Int) (wi sh : Bool) (ds sr dp re im : Int) : Lf h12 15 [.agg ⟨(xA 13 al co si wi sh ds sr dp re im)⟩] (.bool false) [(b2i (eqD (xA 13 al co si wi sh ds sr dp re im) (xA 13 0 0 si wi false ds sr dp 0 0)), 1), (b2i (regS ds && regS sr), 1), (b2i (szOk si && (wi == (si == 8))), 0)] := lf hkV2_ok (ocs [(15, 21, .bool true), (15, 25, .bool true), (15, 30, .bool false)] []) (by kernel_rfl) (by kernel_rfl) (by kernel_rfl)
theorem v13_3 (al co si : Int) (wi sh : Bool) (ds sr dp re im : Int) : Lf h12 15 [.agg ⟨(xA 13 al co si wi sh ds sr dp re im)⟩] (.bool false) [(b2i (eqD (xA 13 al co si wi sh ds sr dp re im) (xA 13 0 0 si wi false ds sr dp 0 0)), 1), (b2i (regS ds && regS sr), 0)] := lf hkV2_ok (ocs [(15, 21, .bool true), (15, 25, .bool false)] []) (by kernel_rfl) (by kernel_rfl) (by kernel_rfl)
theorem v13_4 (al co si : Int) (wi sh : Bool) (ds sr dp re im : Int) : Lf h12 15 [.agg ⟨(xA 13 al co si wi sh ds sr dp re im)⟩] (.bool false) [(b2i (eqD (xA 13 al co si wi sh ds sr dp re im) (xA 13 0 0 si wi false ds sr dp 0 0)), 0)] := lf hkV2_ok (ocs [(15, 21, .bool false)] []) (by kernel_rfl) (by kernel_rfl) (by kernel_rfl)
theorem c_v13 (al co si : Int) (wi sh : Bool) (ds sr dp re im : Int) (w : World) (hL : Laid h12 w) : Calls Tryd.prog 15 #[.agg ⟨(xA 13 al co si wi sh ds sr dp re im)⟩] w fun e w' => e = .returned (.bool (vP13 al co si wi sh ds sr dp re im)) ∧ Gr w w' := by
  rcases Bool.eq_false_or_eq_true (eqD (xA 13 al co si wi sh ds sr dp re im) (xA 13 0 0 si wi false ds sr dp 0 0)) with k0 | k0
  · rcases Bool.eq_false_or_eq_true (regS ds && regS sr) with k1 | k1
    · rcases Bool.eq_false_or_eq_true (szOk si && (wi == (si == 8))) with k2 | k2
      · rcases Bool.eq_false_or_eq_true (!sh) with k3 | k3
        · exact retZ (by first | rfl | ((simp only [vP13, shiftS]) <;> (try simp only [k0]) <;> (try simp only [k2]) <;> (try simp only [k1]) <;> (try simp only [k3]) <;> (try rfl) <;> (try simp))) (v13_0 al co si wi sh ds sr dp re im (csT' k0 (csT' k1 (csT' k2 (csT' k3 csN')))) w hL)
        · exact retZ (by first | rfl | ((simp only [vP13, shiftS]) <;> (try simp only [k0]) <;> (try simp only [k2]) <;> (try simp only [k1]) <;> (try simp only [k3]) <;> (try rfl) <;> (try simp))) (v13_1 al co si wi sh ds sr dp re im (csT' k0 (csT' k1 (csT' k2 (csF' k3 csN')))) w hL)
      · exact retZ (by first | rfl | ((simp only [vP13, shiftS]) <;> (try simp only [k0]) <;> (try simp only [k2]) <;> (try simp only [k1]) <;> (try rfl) <;> (try simp))) (v13_2 al co si wi sh ds sr dp re im (csT' k0 (csT' k1 (csF' k2 csN'))) w hL)
    · exact retZ (by first | rfl | ((simp only [vP13, shiftS]) <;> (try simp only [k0]) <;> (try simp only [k1]) <;> (try rfl) <;> (try simp))) (v13_3 al co si wi sh ds sr dp re im (csT' k0 (csF' k1 csN')) w hL)
  · exact retZ (by first | rfl | ((simp only [vP13, shiftS]) <;> (try simp only [k0]) <;> (try rfl) <;> (try simp))) (v13_4 al co si wi sh ds sr dp re im (csF' k0 csN') w hL)
def vP14 (al co si : Int) (wi sh : Bool) (ds sr dp re im : Int) : Bool := eqD (xA 14 al co si wi sh ds sr dp re im) (xA 14 0 0 si wi false ds sr dp 0 0) && ((regS ds && regS sr) && ((szOk si && (wi == (si == 8))) && (!sh || (re == IntKind.i32.wrap (IntKind.i8.wrap re)))))
theorem v14_0 (al co si : Int) (wi sh : Bool) (ds sr dp re im : Int) : Lf h12 15 [.agg ⟨(xA 14 al co si wi sh ds sr dp re im)⟩] (.bool true) [(b2i (eqD (xA 14 al co si wi sh ds sr dp re im) (xA 14 0 0 si wi false ds sr dp 0 0)), 1), (b2i (regS ds && regS sr), 1), (b2i (szOk si && (wi == (si == 8))), 1), (b2i (!sh), 1)] := lf hkV2_ok (ocs [(15, 21, .bool true), (15, 25, .bool true), (15, 30, .bool true), (43, 38, .bool true)] []) (by kernel_rfl) (by kernel_rfl) (by kernel_rfl)
theorem v14_1 (al co si : Int) (wi sh : Bool) (ds sr dp re im : Int) : Lf h12 15 [.agg ⟨(xA 14 al co si wi sh ds sr dp re im)⟩] (.bool (re == IntKind.i32.wrap (IntKind.i8.wrap re))) [(b2i (eqD (xA 14 al co si wi sh ds sr dp re im) (xA 14 0 0 si wi false ds sr dp 0 0)), 1), (b2i (regS ds && regS sr), 1), (b2i (szOk si && (wi == (si == 8))), 1), (b2i (!sh), 0)] := lf hkV2_ok (ocs [(15, 21, .bool true), (15, 25, .bool true), (15, 30, .bool true), (43, 38, .bool false)] []) (by kernel_rfl) (by kernel_rfl) (by kernel_rfl)
theorem v14_2 (al co si : Int) (wi sh : Bool) (ds sr dp re im : Int) : Lf h12 15 [.agg ⟨(xA 14 al co si wi sh ds sr dp re im)⟩] (.bool false) [(b2i (eqD (xA 14 al co si wi sh ds sr dp re im) (xA 14 0 0 si wi false ds sr dp 0 0)), 1), (b2i (regS ds && regS sr), 1), (b2i (szOk si && (wi == (si == 8))), 0)] := lf hkV2_ok (ocs [(15, 21, .bool true), (15, 25, .bool true), (15, 30, .bool false)] []) (by kernel_rfl) (by kernel_rfl) (by kernel_rfl)
theorem v14_3 (al co si : Int) (wi sh : Bool) (ds sr dp re im : Int) : Lf h12 15 [.agg ⟨(xA 14 al co si wi sh ds sr dp re im)⟩] (.bool false) [(b2i (eqD (xA 14 al co si wi sh ds sr dp re im) (xA 14 0 0 si wi false ds sr dp 0 0)), 1), (b2i (regS ds && regS sr), 0)] := lf hkV2_ok (ocs [(15, 21, .bool true), (15, 25, .bool false)] []) (by kernel_rfl) (by kernel_rfl) (by kernel_rfl)
theorem v14_4 (al co si : Int) (wi sh : Bool) (ds sr dp re im : Int) : Lf h12 15 [.agg ⟨(xA 14 al co si wi sh ds sr dp re im)⟩] (.bool false) [(b2i (eqD (xA 14 al co si wi sh ds sr dp re im) (xA 14 0 0 si wi false ds sr dp 0 0)), 0)] := lf hkV2_ok (ocs [(15, 21, .bool false)] []) (by kernel_rfl) (by kernel_rfl) (by kernel_rfl)
theorem c_v14 (al co si : Int) (wi sh : Bool) (ds sr dp re im : Int) (w : World) (hL : Laid h12 w) : Calls Tryd.prog 15 #[.agg ⟨(xA 14 al co si wi sh ds sr dp re im)⟩] w fun e w' => e = .returned (.bool (vP14 al co si wi sh ds sr dp re im)) ∧ Gr w w' := by
  rcases Bool.eq_false_or_eq_true (eqD (xA 14 al co si wi sh ds sr dp re im) (xA 14 0 0 si wi false ds sr dp 0 0)) with k0 | k0
  · rcases Bool.eq_false_or_eq_true (regS ds && regS sr) with k1 | k1
    · rcases Bool.eq_false_or_eq_true (szOk si && (wi == (si == 8))) with k2 | k2
      · rcases Bool.eq_false_or_eq_true (!sh) with k3 | k3
        · exact retZ (by first | rfl | ((simp only [vP14, shiftS]) <;> (try simp only [k0]) <;> (try simp only [k2]) <;> (try simp only [k1]) <;> (try simp only [k3]) <;> (try rfl) <;> (try simp))) (v14_0 al co si wi sh ds sr dp re im (csT' k0 (csT' k1 (csT' k2 (csT' k3 csN')))) w hL)
        · exact retZ (by first | rfl | ((simp only [vP14, shiftS]) <;> (try simp only [k0]) <;> (try simp only [k2]) <;> (try simp only [k1]) <;> (try simp only [k3]) <;> (try rfl) <;> (try simp))) (v14_1 al co si wi sh ds sr dp re im (csT' k0 (csT' k1 (csT' k2 (csF' k3 csN')))) w hL)
      · exact retZ (by first | rfl | ((simp only [vP14, shiftS]) <;> (try simp only [k0]) <;> (try simp only [k2]) <;> (try simp only [k1]) <;> (try rfl) <;> (try simp))) (v14_2 al co si wi sh ds sr dp re im (csT' k0 (csT' k1 (csF' k2 csN'))) w hL)
    · exact retZ (by first | rfl | ((simp only [vP14, shiftS]) <;> (try simp only [k0]) <;> (try simp only [k1]) <;> (try rfl) <;> (try simp))) (v14_3 al co si wi sh ds sr dp re im (csT' k0 (csF' k1 csN')) w hL)
  · exact retZ (by first | rfl | ((simp only [vP14, shiftS]) <;> (try simp only [k0]) <;> (try rfl) <;> (try simp))) (v14_4 al co si wi sh ds sr dp re im (csF' k0 csN') w hL)
def vP15 (al co si : Int) (wi sh : Bool) (ds sr dp re im : Int) : Bool := eqD (xA 15 al co si wi sh ds sr dp re im) (xA 15 0 0 0 false sh 0 0 0 re 0) && ((regS ds && regS sr) && ((true) && (!sh || (re == IntKind.i32.wrap (IntKind.i8.wrap re)))))
theorem v15_0 (al co si : Int) (wi sh : Bool) (ds sr dp re im : Int) : Lf h12 15 [.agg ⟨(xA 15 al co si wi sh ds sr dp re im)⟩] (.bool true) [(b2i (eqD (xA 15 al co si wi sh ds sr dp re im) (xA 15 0 0 0 false sh 0 0 0 re 0)), 1), (b2i (regS ds && regS sr), 1), (b2i (!sh), 1)] := lf hkV2_ok (ocs [(15, 21, .bool true), (15, 25, .bool true), (43, 38, .bool true)] []) (by kernel_rfl) (by kernel_rfl) (by kernel_rfl)
theorem v15_1 (al co si : Int) (wi sh : Bool) (ds sr dp re im : Int) : Lf h12 15 [.agg ⟨(xA 15 al co si wi sh ds sr dp re im)⟩] (.bool (re == IntKind.i32.wrap (IntKind.i8.wrap re))) [(b2i (eqD (xA 15 al co si wi sh ds sr dp re im) (xA 15 0 0 0 false sh 0 0 0 re 0)), 1), (b2i (regS ds && regS sr), 1), (b2i (!sh), 0)] := lf hkV2_ok (ocs [(15, 21, .bool true), (15, 25, .bool true), (43, 38, .bool false)] []) (by kernel_rfl) (by kernel_rfl) (by kernel_rfl)
theorem v15_2 (al co si : Int) (wi sh : Bool) (ds sr dp re im : Int) : Lf h12 15 [.agg ⟨(xA 15 al co si wi sh ds sr dp re im)⟩] (.bool false) [(b2i (eqD (xA 15 al co si wi sh ds sr dp re im) (xA 15 0 0 0 false sh 0 0 0 re 0)), 1), (b2i (regS ds && regS sr), 0)] := lf hkV2_ok (ocs [(15, 21, .bool true), (15, 25, .bool false)] []) (by kernel_rfl) (by kernel_rfl) (by kernel_rfl)
theorem v15_3 (al co si : Int) (wi sh : Bool) (ds sr dp re im : Int) : Lf h12 15 [.agg ⟨(xA 15 al co si wi sh ds sr dp re im)⟩] (.bool false) [(b2i (eqD (xA 15 al co si wi sh ds sr dp re im) (xA 15 0 0 0 false sh 0 0 0 re 0)), 0)] := lf hkV2_ok (ocs [(15, 21, .bool false)] []) (by kernel_rfl) (by kernel_rfl) (by kernel_rfl)
theorem c_v15 (al co si : Int) (wi sh : Bool) (ds sr dp re im : Int) (w : World) (hL : Laid h12 w) : Calls Tryd.prog 15 #[.agg ⟨(xA 15 al co si wi sh ds sr dp re im)⟩] w fun e w' => e = .returned (.bool (vP15 al co si wi sh ds sr dp re im)) ∧ Gr w w' := by
  rcases Bool.eq_false_or_eq_true (eqD (xA 15 al co si wi sh ds sr dp re im) (xA 15 0 0 0 false sh 0 0 0 re 0)) with k0 | k0
  · rcases Bool.eq_false_or_eq_true (regS ds && regS sr) with k1 | k1
    · rcases Bool.eq_false_or_eq_true (!sh) with k2 | k2
      · exact retZ (by first | rfl | ((simp only [vP15, shiftS]) <;> (try simp only [k0]) <;> (try simp only [k1]) <;> (try simp only [k2]) <;> (try rfl) <;> (try simp))) (v15_0 al co si wi sh ds sr dp re im (csT' k0 (csT' k1 (csT' k2 csN'))) w hL)
      · exact retZ (by first | rfl | ((simp only [vP15, shiftS]) <;> (try simp only [k0]) <;> (try simp only [k1]) <;> (try simp only [k2]) <;> (try rfl) <;> (try simp))) (v15_1 al co si wi sh ds sr dp re im (csT' k0 (csT' k1 (csF' k2 csN'))) w hL)
    · exact retZ (by first | rfl | ((simp only [vP15, shiftS]) <;> (try simp only [k0]) <;> (try simp only [k1]) <;> (try rfl) <;> (try simp))) (v15_2 al co si wi sh ds sr dp re im (csT' k0 (csF' k1 csN')) w hL)
  · exact retZ (by first | rfl | ((simp only [vP15, shiftS]) <;> (try simp only [k0]) <;> (try rfl) <;> (try simp))) (v15_3 al co si wi sh ds sr dp re im (csF' k0 csN') w hL)
def vP16 (al co si : Int) (wi sh : Bool) (ds sr dp re im : Int) : Bool := eqD (xA 16 al co si wi sh ds sr dp re im) (xA 16 0 co 0 false sh 0 0 0 re 0) && ((regS ds && regS sr) && ((ccOk co) && (!sh || (re == IntKind.i32.wrap (IntKind.i8.wrap re)))))
theorem v16_0 (al co si : Int) (wi sh : Bool) (ds sr dp re im : Int) : Lf h12 15 [.agg ⟨(xA 16 al co si wi sh ds sr dp re im)⟩] (.bool true) [(b2i (eqD (xA 16 al co si wi sh ds sr dp re im) (xA 16 0 co 0 false sh 0 0 0 re 0)), 1), (b2i (regS ds && regS sr), 1), (b2i (ccOk co), 1), (b2i (!sh), 1)] := lf hkV2_ok (ocs [(15, 21, .bool true), (15, 25, .bool true), (15, 30, .bool true), (43, 38, .bool true)] []) (by kernel_rfl) (by kernel_rfl) (by kernel_rfl)
theorem v16_1 (al co si : Int) (wi sh : Bool) (ds sr dp re im : Int) : Lf h12 15 [.agg ⟨(xA 16 al co si wi sh ds sr dp re im)⟩] (.bool (re == IntKind.i32.wrap (IntKind.i8.wrap re))) [(b2i (eqD (xA 16 al co si wi sh ds sr dp re im) (xA 16 0 co 0 false sh 0 0 0 re 0)), 1), (b2i (regS ds && regS sr), 1), (b2i (ccOk co), 1), (b2i (!sh), 0)] := lf hkV2_ok (ocs [(15, 21, .bool true), (15, 25, .bool true), (15, 30, .bool true), (43, 38, .bool false)] []) (by kernel_rfl) (by kernel_rfl) (by kernel_rfl)
theorem v16_2 (al co si : Int) (wi sh : Bool) (ds sr dp re im : Int) : Lf h12 15 [.agg ⟨(xA 16 al co si wi sh ds sr dp re im)⟩] (.bool false) [(b2i (eqD (xA 16 al co si wi sh ds sr dp re im) (xA 16 0 co 0 false sh 0 0 0 re 0)), 1), (b2i (regS ds && regS sr), 1), (b2i (ccOk co), 0)] := lf hkV2_ok (ocs [(15, 21, .bool true), (15, 25, .bool true), (15, 30, .bool false)] []) (by kernel_rfl) (by kernel_rfl) (by kernel_rfl)
theorem v16_3 (al co si : Int) (wi sh : Bool) (ds sr dp re im : Int) : Lf h12 15 [.agg ⟨(xA 16 al co si wi sh ds sr dp re im)⟩] (.bool false) [(b2i (eqD (xA 16 al co si wi sh ds sr dp re im) (xA 16 0 co 0 false sh 0 0 0 re 0)), 1), (b2i (regS ds && regS sr), 0)] := lf hkV2_ok (ocs [(15, 21, .bool true), (15, 25, .bool false)] []) (by kernel_rfl) (by kernel_rfl) (by kernel_rfl)
theorem v16_4 (al co si : Int) (wi sh : Bool) (ds sr dp re im : Int) : Lf h12 15 [.agg ⟨(xA 16 al co si wi sh ds sr dp re im)⟩] (.bool false) [(b2i (eqD (xA 16 al co si wi sh ds sr dp re im) (xA 16 0 co 0 false sh 0 0 0 re 0)), 0)] := lf hkV2_ok (ocs [(15, 21, .bool false)] []) (by kernel_rfl) (by kernel_rfl) (by kernel_rfl)
theorem c_v16 (al co si : Int) (wi sh : Bool) (ds sr dp re im : Int) (w : World) (hL : Laid h12 w) : Calls Tryd.prog 15 #[.agg ⟨(xA 16 al co si wi sh ds sr dp re im)⟩] w fun e w' => e = .returned (.bool (vP16 al co si wi sh ds sr dp re im)) ∧ Gr w w' := by
  rcases Bool.eq_false_or_eq_true (eqD (xA 16 al co si wi sh ds sr dp re im) (xA 16 0 co 0 false sh 0 0 0 re 0)) with k0 | k0
  · rcases Bool.eq_false_or_eq_true (regS ds && regS sr) with k1 | k1
    · rcases Bool.eq_false_or_eq_true (ccOk co) with k2 | k2
      · rcases Bool.eq_false_or_eq_true (!sh) with k3 | k3
        · exact retZ (by first | rfl | ((simp only [vP16, shiftS]) <;> (try simp only [k0]) <;> (try simp only [k1]) <;> (try simp only [k2]) <;> (try simp only [k3]) <;> (try rfl) <;> (try simp))) (v16_0 al co si wi sh ds sr dp re im (csT' k0 (csT' k1 (csT' k2 (csT' k3 csN')))) w hL)
        · exact retZ (by first | rfl | ((simp only [vP16, shiftS]) <;> (try simp only [k0]) <;> (try simp only [k1]) <;> (try simp only [k2]) <;> (try simp only [k3]) <;> (try rfl) <;> (try simp))) (v16_1 al co si wi sh ds sr dp re im (csT' k0 (csT' k1 (csT' k2 (csF' k3 csN')))) w hL)
      · exact retZ (by first | rfl | ((simp only [vP16, shiftS]) <;> (try simp only [k0]) <;> (try simp only [k1]) <;> (try simp only [k2]) <;> (try rfl) <;> (try simp))) (v16_2 al co si wi sh ds sr dp re im (csT' k0 (csT' k1 (csF' k2 csN'))) w hL)
    · exact retZ (by first | rfl | ((simp only [vP16, shiftS]) <;> (try simp only [k0]) <;> (try simp only [k1]) <;> (try rfl) <;> (try simp))) (v16_3 al co si wi sh ds sr dp re im (csT' k0 (csF' k1 csN')) w hL)
  · exact retZ (by first | rfl | ((simp only [vP16, shiftS]) <;> (try simp only [k0]) <;> (try rfl) <;> (try simp))) (v16_4 al co si wi sh ds sr dp re im (csF' k0 csN') w hL)
def vP17 (al co si : Int) (wi sh : Bool) (ds sr dp re im : Int) : Bool := eqD (xA 17 al co si wi sh ds sr dp re im) (xA 17 0 0 0 false false ds 0 0 0 0) && ((regS ds && regS sr) && ((true) && (!sh || (re == IntKind.i32.wrap (IntKind.i8.wrap re)))))
theorem v17_0 (al co si : Int) (wi sh : Bool) (ds sr dp re im : Int) : Lf h12 15 [.agg ⟨(xA 17 al co si wi sh ds sr dp re im)⟩] (.bool true) [(b2i (eqD (xA 17 al co si wi sh ds sr dp re im) (xA 17 0 0 0 false false ds 0 0 0 0)), 1), (b2i (regS ds && regS sr), 1), (b2i (!sh), 1)] := lf hkV2_ok (ocs [(15, 21, .bool true), (15, 25, .bool true), (43, 38, .bool true)] []) (by kernel_rfl) (by kernel_rfl) (by kernel_rfl)
theorem v17_1 (al co si : Int) (wi sh : Bool) (ds sr dp re im : Int) : Lf h12 15 [.agg ⟨(xA 17 al co si wi sh ds sr dp re im)⟩] (.bool (re == IntKind.i32.wrap (IntKind.i8.wrap re))) [(b2i (eqD (xA 17 al co si wi sh ds sr dp re im) (xA 17 0 0 0 false false ds 0 0 0 0)), 1), (b2i (regS ds && regS sr), 1), (b2i (!sh), 0)] := lf hkV2_ok (ocs [(15, 21, .bool true), (15, 25, .bool true), (43, 38, .bool false)] []) (by kernel_rfl) (by kernel_rfl) (by kernel_rfl)
theorem v17_2 (al co si : Int) (wi sh : Bool) (ds sr dp re im : Int) : Lf h12 15 [.agg ⟨(xA 17 al co si wi sh ds sr dp re im)⟩] (.bool false) [(b2i (eqD (xA 17 al co si wi sh ds sr dp re im) (xA 17 0 0 0 false false ds 0 0 0 0)), 1), (b2i (regS ds && regS sr), 0)] := lf hkV2_ok (ocs [(15, 21, .bool true), (15, 25, .bool false)] []) (by kernel_rfl) (by kernel_rfl) (by kernel_rfl)
theorem v17_3 (al co si : Int) (wi sh : Bool) (ds sr dp re im : Int) : Lf h12 15 [.agg ⟨(xA 17 al co si wi sh ds sr dp re im)⟩] (.bool false) [(b2i (eqD (xA 17 al co si wi sh ds sr dp re im) (xA 17 0 0 0 false false ds 0 0 0 0)), 0)] := lf hkV2_ok (ocs [(15, 21, .bool false)] []) (by kernel_rfl) (by kernel_rfl) (by kernel_rfl)
theorem c_v17 (al co si : Int) (wi sh : Bool) (ds sr dp re im : Int) (w : World) (hL : Laid h12 w) : Calls Tryd.prog 15 #[.agg ⟨(xA 17 al co si wi sh ds sr dp re im)⟩] w fun e w' => e = .returned (.bool (vP17 al co si wi sh ds sr dp re im)) ∧ Gr w w' := by
  rcases Bool.eq_false_or_eq_true (eqD (xA 17 al co si wi sh ds sr dp re im) (xA 17 0 0 0 false false ds 0 0 0 0)) with k0 | k0
  · rcases Bool.eq_false_or_eq_true (regS ds && regS sr) with k1 | k1
    · rcases Bool.eq_false_or_eq_true (!sh) with k2 | k2
      · exact retZ (by first | rfl | ((simp only [vP17, shiftS]) <;> (try simp only [k0]) <;> (try simp only [k1]) <;> (try simp only [k2]) <;> (try rfl) <;> (try simp))) (v17_0 al co si wi sh ds sr dp re im (csT' k0 (csT' k1 (csT' k2 csN'))) w hL)
      · exact retZ (by first | rfl | ((simp only [vP17, shiftS]) <;> (try simp only [k0]) <;> (try simp only [k1]) <;> (try simp only [k2]) <;> (try rfl) <;> (try simp))) (v17_1 al co si wi sh ds sr dp re im (csT' k0 (csT' k1 (csF' k2 csN'))) w hL)
    · exact retZ (by first | rfl | ((simp only [vP17, shiftS]) <;> (try simp only [k0]) <;> (try simp only [k1]) <;> (try rfl) <;> (try simp))) (v17_2 al co si wi sh ds sr dp re im (csT' k0 (csF' k1 csN')) w hL)
  · exact retZ (by first | rfl | ((simp only [vP17, shiftS]) <;> (try simp only [k0]) <;> (try rfl) <;> (try simp))) (v17_3 al co si wi sh ds sr dp re im (csF' k0 csN') w hL)
def vP18 (al co si : Int) (wi sh : Bool) (ds sr dp re im : Int) : Bool := eqD (xA 18 al co si wi sh ds sr dp re im) (xA 18 0 0 0 false false ds 0 0 0 0) && ((regS ds && regS sr) && ((true) && (!sh || (re == IntKind.i32.wrap (IntKind.i8.wrap re)))))
theorem v18_0 (al co si : Int) (wi sh : Bool) (ds sr dp re im : Int) : Lf h12 15 [.agg ⟨(xA 18 al co si wi sh ds sr dp re im)⟩] (.bool true) [(b2i (eqD (xA 18 al co si wi sh ds sr dp re im) (xA 18 0 0 0 false false ds 0 0 0 0)), 1), (b2i (regS ds && regS sr), 1), (b2i (!sh), 1)] := lf hkV2_ok (ocs [(15, 21, .bool true), (15, 25, .bool true), (43, 38, .bool true)] []) (by kernel_rfl) (by kernel_rfl) (by kernel_rfl)
theorem v18_1 (al co si : Int) (wi sh : Bool) (ds sr dp re im : Int) : Lf h12 15 [.agg ⟨(xA 18 al co si wi sh ds sr dp re im)⟩] (.bool (re == IntKind.i32.wrap (IntKind.i8.wrap re))) [(b2i (eqD (xA 18 al co si wi sh ds sr dp re im) (xA 18 0 0 0 false false ds 0 0 0 0)), 1), (b2i (regS ds && regS sr), 1), (b2i (!sh), 0)] := lf hkV2_ok (ocs [(15, 21, .bool true), (15, 25, .bool true), (43, 38, .bool false)] []) (by kernel_rfl) (by kernel_rfl) (by kernel_rfl)
theorem v18_2 (al co si : Int) (wi sh : Bool) (ds sr dp re im : Int) : Lf h12 15 [.agg ⟨(xA 18 al co si wi sh ds sr dp re im)⟩] (.bool false) [(b2i (eqD (xA 18 al co si wi sh ds sr dp re im) (xA 18 0 0 0 false false ds 0 0 0 0)), 1), (b2i (regS ds && regS sr), 0)] := lf hkV2_ok (ocs [(15, 21, .bool true), (15, 25, .bool false)] []) (by kernel_rfl) (by kernel_rfl) (by kernel_rfl)
theorem v18_3 (al co si : Int) (wi sh : Bool) (ds sr dp re im : Int) : Lf h12 15 [.agg ⟨(xA 18 al co si wi sh ds sr dp re im)⟩] (.bool false) [(b2i (eqD (xA 18 al co si wi sh ds sr dp re im) (xA 18 0 0 0 false false ds 0 0 0 0)), 0)] := lf hkV2_ok (ocs [(15, 21, .bool false)] []) (by kernel_rfl) (by kernel_rfl) (by kernel_rfl)
theorem c_v18 (al co si : Int) (wi sh : Bool) (ds sr dp re im : Int) (w : World) (hL : Laid h12 w) : Calls Tryd.prog 15 #[.agg ⟨(xA 18 al co si wi sh ds sr dp re im)⟩] w fun e w' => e = .returned (.bool (vP18 al co si wi sh ds sr dp re im)) ∧ Gr w w' := by
  rcases Bool.eq_false_or_eq_true (eqD (xA 18 al co si wi sh ds sr dp re im) (xA 18 0 0 0 false false ds 0 0 0 0)) with k0 | k0
  · rcases Bool.eq_false_or_eq_true (regS ds && regS sr) with k1 | k1
    · rcases Bool.eq_false_or_eq_true (!sh) with k2 | k2
      · exact retZ (by first | rfl | ((simp only [vP18, shiftS]) <;> (try simp only [k0]) <;> (try simp only [k1]) <;> (try simp only [k2]) <;> (try rfl) <;> (try simp))) (v18_0 al co si wi sh ds sr dp re im (csT' k0 (csT' k1 (csT' k2 csN'))) w hL)
      · exact retZ (by first | rfl | ((simp only [vP18, shiftS]) <;> (try simp only [k0]) <;> (try simp only [k1]) <;> (try simp only [k2]) <;> (try rfl) <;> (try simp))) (v18_1 al co si wi sh ds sr dp re im (csT' k0 (csT' k1 (csF' k2 csN'))) w hL)
    · exact retZ (by first | rfl | ((simp only [vP18, shiftS]) <;> (try simp only [k0]) <;> (try simp only [k1]) <;> (try rfl) <;> (try simp))) (v18_2 al co si wi sh ds sr dp re im (csT' k0 (csF' k1 csN')) w hL)
  · exact retZ (by first | rfl | ((simp only [vP18, shiftS]) <;> (try simp only [k0]) <;> (try rfl) <;> (try simp))) (v18_3 al co si wi sh ds sr dp re im (csF' k0 csN') w hL)
def vP19 (al co si : Int) (wi sh : Bool) (ds sr dp re im : Int) : Bool := eqD (xA 19 al co si wi sh ds sr dp re im) (xA 19 0 0 0 false false 0 0 0 0 0) && ((regS ds && regS sr) && ((true) && (!sh || (re == IntKind.i32.wrap (IntKind.i8.wrap re)))))
theorem v19_0 (al co si : Int) (wi sh : Bool) (ds sr dp re im : Int) : Lf h12 15 [.agg ⟨(xA 19 al co si wi sh ds sr dp re im)⟩] (.bool true) [(b2i (eqD (xA 19 al co si wi sh ds sr dp re im) (xA 19 0 0 0 false false 0 0 0 0 0)), 1), (b2i (regS ds && regS sr), 1), (b2i (!sh), 1)] := lf hkV2_ok (ocs [(15, 21, .bool true), (15, 25, .bool true), (43, 38, .bool true)] []) (by kernel_rfl) (by kernel_rfl) (by kernel_rfl)
theorem v19_1 (al co si : Int) (wi sh : Bool) (ds sr dp re im : Int) : Lf h12 15 [.agg ⟨(xA 19 al co si wi sh ds sr dp re im)⟩] (.bool (re == IntKind.i32.wrap (IntKind.i8.wrap re))) [(b2i (eqD (xA 19 al co si wi sh ds sr dp re im) (xA 19 0 0 0 false false 0 0 0 0 0)), 1), (b2i (regS ds && regS sr), 1), (b2i (!sh), 0)] := lf hkV2_ok (ocs [(15, 21, .bool true), (15, 25, .bool true), (43, 38, .bool false)] []) (by kernel_rfl) (by kernel_rfl) (by kernel_rfl)
theorem v19_2 (al co si : Int) (wi sh : Bool) (ds sr dp re im : Int) : Lf h12 15 [.agg ⟨(xA 19 al co si wi sh ds sr dp re im)⟩] (.bool false) [(b2i (eqD (xA 19 al co si wi sh ds sr dp re im) (xA 19 0 0 0 false false 0 0 0 0 0)), 1), (b2i (regS ds && regS sr), 0)] := lf hkV2_ok (ocs [(15, 21, .bool true), (15, 25, .bool false)] []) (by kernel_rfl) (by kernel_rfl) (by kernel_rfl)
theorem v19_3 (al co si : Int) (wi sh : Bool) (ds sr dp re im : Int) : Lf h12 15 [.agg ⟨(xA 19 al co si wi sh ds sr dp re im)⟩] (.bool false) [(b2i (eqD (xA 19 al co si wi sh ds sr dp re im) (xA 19 0 0 0 false false 0 0 0 0 0)), 0)] := lf hkV2_ok (ocs [(15, 21, .bool false)] []) (by kernel_rfl) (by kernel_rfl) (by kernel_rfl)
theorem c_v19 (al co si : Int) (wi sh : Bool) (ds sr dp re im : Int) (w : World) (hL : Laid h12 w) : Calls Tryd.prog 15 #[.agg ⟨(xA 19 al co si wi sh ds sr dp re im)⟩] w fun e w' => e = .returned (.bool (vP19 al co si wi sh ds sr dp re im)) ∧ Gr w w' := by
  rcases Bool.eq_false_or_eq_true (eqD (xA 19 al co si wi sh ds sr dp re im) (xA 19 0 0 0 false false 0 0 0 0 0)) with k0 | k0
  · rcases Bool.eq_false_or_eq_true (regS ds && regS sr) with k1 | k1
    · rcases Bool.eq_false_or_eq_true (!sh) with k2 | k2
      · exact retZ (by first | rfl | ((simp only [vP19, shiftS]) <;> (try simp only [k0]) <;> (try simp only [k1]) <;> (try simp only [k2]) <;> (try rfl) <;> (try simp))) (v19_0 al co si wi sh ds sr dp re im (csT' k0 (csT' k1 (csT' k2 csN'))) w hL)
      · exact retZ (by first | rfl | ((simp only [vP19, shiftS]) <;> (try simp only [k0]) <;> (try simp only [k1]) <;> (try simp only [k2]) <;> (try rfl) <;> (try simp))) (v19_1 al co si wi sh ds sr dp re im (csT' k0 (csT' k1 (csF' k2 csN'))) w hL)
    · exact retZ (by first | rfl | ((simp only [vP19, shiftS]) <;> (try simp only [k0]) <;> (try simp only [k1]) <;> (try rfl) <;> (try simp))) (v19_2 al co si wi sh ds sr dp re im (csT' k0 (csF' k1 csN')) w hL)
  · exact retZ (by first | rfl | ((simp only [vP19, shiftS]) <;> (try simp only [k0]) <;> (try rfl) <;> (try simp))) (v19_3 al co si wi sh ds sr dp re im (csF' k0 csN') w hL)
def vP20 (al co si : Int) (wi sh : Bool) (ds sr dp re im : Int) : Bool := eqD (xA 20 al co si wi sh ds sr dp re im) (xA 20 0 0 0 false false 0 0 0 re 0) && ((regS ds && regS sr) && ((true) && (!sh || (re == IntKind.i32.wrap (IntKind.i8.wrap re)))))
theorem v20_0 (al co si : Int) (wi sh : Bool) (ds sr dp re im : Int) : Lf h12 15 [.agg ⟨(xA 20 al co si wi sh ds sr dp re im)⟩] (.bool true) [(b2i (eqD (xA 20 al co si wi sh ds sr dp re im) (xA 20 0 0 0 false false 0 0 0 re 0)), 1), (b2i (regS ds && regS sr), 1), (b2i (!sh), 1)] := lf hkV2_ok (ocs [(15, 21, .bool true), (15, 25, .bool true), (43, 38, .bool true)] []) (by kernel_rfl) (by kernel_rfl) (by kernel_rfl)
theorem v20_1 (al co si : Int) (wi sh : Bool) (ds sr dp re im : Int) : Lf h12 15 [.agg ⟨(xA 20 al co si wi sh ds sr dp re im)⟩] (.bool (re == IntKind.i32.wrap (IntKind.i8.wrap re))) [(b2i (eqD (xA 20 al co si wi sh ds sr dp re im) (xA 20 0 0 0 false false 0 0 0 re 0)), 1), (b2i (regS ds && regS sr), 1), (b2i (!sh), 0)] := lf hkV2_ok (ocs [(15, 21, .bool true), (15, 25, .bool true), (43, 38, .bool false)] []) (by kernel_rfl) (by kernel_rfl) (by kernel_rfl)
theorem v20_2 (al co si : Int) (wi sh : Bool) (ds sr dp re im : Int) : Lf h12 15 [.agg ⟨(xA 20 al co si wi sh ds sr dp re im)⟩] (.bool false) [(b2i (eqD (xA 20 al co si wi sh ds sr dp re im) (xA 20 0 0 0 false false 0 0 0 re 0)), 1), (b2i (regS ds && regS sr), 0)] := lf hkV2_ok (ocs [(15, 21, .bool true), (15, 25, .bool false)] []) (by kernel_rfl) (by kernel_rfl) (by kernel_rfl)
theorem v20_3 (al co si : Int) (wi sh : Bool) (ds sr dp re im : Int) : Lf h12 15 [.agg ⟨(xA 20 al co si wi sh ds sr dp re im)⟩] (.bool false) [(b2i (eqD (xA 20 al co si wi sh ds sr dp re im) (xA 20 0 0 0 false false 0 0 0 re 0)), 0)] := lf hkV2_ok (ocs [(15, 21, .bool false)] []) (by kernel_rfl) (by kernel_rfl) (by kernel_rfl)
theorem c_v20 (al co si : Int) (wi sh : Bool) (ds sr dp re im : Int) (w : World) (hL : Laid h12 w) : Calls Tryd.prog 15 #[.agg ⟨(xA 20 al co si wi sh ds sr dp re im)⟩] w fun e w' => e = .returned (.bool (vP20 al co si wi sh ds sr dp re im)) ∧ Gr w w' := by
  rcases Bool.eq_false_or_eq_true (eqD (xA 20 al co si wi sh ds sr dp re im) (xA 20 0 0 0 false false 0 0 0 re 0)) with k0 | k0
  · rcases Bool.eq_false_or_eq_true (regS ds && regS sr) with k1 | k1
    · rcases Bool.eq_false_or_eq_true (!sh) with k2 | k2
      · exact retZ (by first | rfl | ((simp only [vP20, shiftS]) <;> (try simp only [k0]) <;> (try simp only [k1]) <;> (try simp only [k2]) <;> (try rfl) <;> (try simp))) (v20_0 al co si wi sh ds sr dp re im (csT' k0 (csT' k1 (csT' k2 csN'))) w hL)
      · exact retZ (by first | rfl | ((simp only [vP20, shiftS]) <;> (try simp only [k0]) <;> (try simp only [k1]) <;> (try simp only [k2]) <;> (try rfl) <;> (try simp))) (v20_1 al co si wi sh ds sr dp re im (csT' k0 (csT' k1 (csF' k2 csN'))) w hL)
    · exact retZ (by first | rfl | ((simp only [vP20, shiftS]) <;> (try simp only [k0]) <;> (try simp only [k1]) <;> (try rfl) <;> (try simp))) (v20_2 al co si wi sh ds sr dp re im (csT' k0 (csF' k1 csN')) w hL)
  · exact retZ (by first | rfl | ((simp only [vP20, shiftS]) <;> (try simp only [k0]) <;> (try rfl) <;> (try simp))) (v20_3 al co si wi sh ds sr dp re im (csF' k0 csN') w hL)
def vP21 (al co si : Int) (wi sh : Bool) (ds sr dp re im : Int) : Bool := eqD (xA 21 al co si wi sh ds sr dp re im) (xA 21 0 0 0 false false 0 0 0 0 0) && ((regS ds && regS sr) && ((true) && (!sh || (re == IntKind.i32.wrap (IntKind.i8.wrap re)))))
theorem v21_0 (al co si : Int) (wi sh : Bool) (ds sr dp re im : Int) : Lf h12 15 [.agg ⟨(xA 21 al co si wi sh ds sr dp re im)⟩] (.bool true) [(b2i (eqD (xA 21 al co si wi sh ds sr dp re im) (xA 21 0 0 0 false false 0 0 0 0 0)), 1), (b2i (regS ds && regS sr), 1), (b2i (!sh), 1)] := lf hkV2_ok (ocs [(15, 21, .bool true), (15, 25, .bool true), (43, 38, .bool true)] []) (by kernel_rfl) (by kernel_rfl) (by kernel_rfl)
theorem v21_1 (al co si : Int) (wi sh : Bool) (ds sr dp re im : Int) : Lf h12 15 [.agg ⟨(xA 21 al co si wi sh ds sr dp re im)⟩] (.bool (re == IntKind.i32.wrap (IntKind.i8.wrap re))) [(b2i (eqD (xA 21 al co si wi sh ds sr dp re im) (xA 21 0 0 0 false false 0 0 0 0 0)), 1), (b2i (regS ds && regS sr), 1), (b2i (!sh), 0)] := lf hkV2_ok (ocs [(15, 21, .bool true), (15, 25, .bool true), (43, 38, .bool false)] []) (by kernel_rfl) (by kernel_rfl) (by kernel_rfl)
theorem v21_2 (al co si : Int) (wi sh : Bool) (ds sr dp re im : Int) : Lf h12 15 [.agg ⟨(xA 21 al co si wi sh ds sr dp re im)⟩] (.bool false) [(b2i (eqD (xA 21 al co si wi sh ds sr dp re im) (xA 21 0 0 0 false false 0 0 0 0 0)), 1), (b2i (regS ds && regS sr), 0)] := lf hkV2_ok (ocs [(15, 21, .bool true), (15, 25, .bool false)] []) (by kernel_rfl) (by kernel_rfl) (by kernel_rfl)
theorem v21_3 (al co si : Int) (wi sh : Bool) (ds sr dp re im : Int) : Lf h12 15 [.agg ⟨(xA 21 al co si wi sh ds sr dp re im)⟩] (.bool false) [(b2i (eqD (xA 21 al co si wi sh ds sr dp re im) (xA 21 0 0 0 false false 0 0 0 0 0)), 0)] := lf hkV2_ok (ocs [(15, 21, .bool false)] []) (by kernel_rfl) (by kernel_rfl) (by kernel_rfl)
theorem c_v21 (al co si : Int) (wi sh : Bool) (ds sr dp re im : Int) (w : World) (hL : Laid h12 w) : Calls Tryd.prog 15 #[.agg ⟨(xA 21 al co si wi sh ds sr dp re im)⟩] w fun e w' => e = .returned (.bool (vP21 al co si wi sh ds sr dp re im)) ∧ Gr w w' := by
  rcases Bool.eq_false_or_eq_true (eqD (xA 21 al co si wi sh ds sr dp re im) (xA 21 0 0 0 false false 0 0 0 0 0)) with k0 | k0
  · rcases Bool.eq_false_or_eq_true (regS ds && regS sr) with k1 | k1
    · rcases Bool.eq_false_or_eq_true (!sh) with k2 | k2
      · exact retZ (by first | rfl | ((simp only [vP21, shiftS]) <;> (try simp only [k0]) <;> (try simp only [k1]) <;> (try simp only [k2]) <;> (try rfl) <;> (try simp))) (v21_0 al co si wi sh ds sr dp re im (csT' k0 (csT' k1 (csT' k2 csN'))) w hL)
      · exact retZ (by first | rfl | ((simp only [vP21, shiftS]) <;> (try simp only [k0]) <;> (try simp only [k1]) <;> (try simp only [k2]) <;> (try rfl) <;> (try simp))) (v21_1 al co si wi sh ds sr dp re im (csT' k0 (csT' k1 (csF' k2 csN'))) w hL)
    · exact retZ (by first | rfl | ((simp only [vP21, shiftS]) <;> (try simp only [k0]) <;> (try simp only [k1]) <;> (try rfl) <;> (try simp))) (v21_2 al co si wi sh ds sr dp re im (csT' k0 (csF' k1 csN')) w hL)
  · exact retZ (by first | rfl | ((simp only [vP21, shiftS]) <;> (try simp only [k0]) <;> (try rfl) <;> (try simp))) (v21_3 al co si wi sh ds sr dp re im (csF' k0 csN') w hL)
theorem vx_0 (k : Int) (al co si : Int) (wi sh : Bool) (ds sr dp re im : Int) : Lf h12 15 [.agg ⟨(xA k al co si wi sh ds sr dp re im)⟩] (.bool false) [(b2i (decide (k < 1)), 1)] := lf hkV2_ok (ocs [(15, 7, .bool true)] []) (by kernel_rfl) (by kernel_rfl) (by kernel_rfl)
theorem vx_1 (k : Int) (al co si : Int) (wi sh : Bool) (ds sr dp re im : Int) : Lf h12 15 [.agg ⟨(xA k al co si wi sh ds sr dp re im)⟩] (.bool false) [(b2i (decide (k < 1)), 0), (b2i (decide (k > 21)), 1)] := lf hkV2_ok (ocs [(15, 7, .bool false), (15, 11, .bool true)] []) (by kernel_rfl) (by kernel_rfl) (by kernel_rfl)
def vP (k : Int) (al co si : Int) (wi sh : Bool) (ds sr dp re im : Int) : Bool :=
  if k = 1 then vP1 al co si wi sh ds sr dp re im else if k = 2 then vP2 al co si wi sh ds sr dp re im else if k = 3 then vP3 al co si wi sh ds sr dp re im else if k = 4 then vP4 al co si wi sh ds sr dp re im else if k = 5 then vP5 al co si wi sh ds sr dp re im else if k = 6 then vP6 al co si wi sh ds sr dp re im else if k = 7 then vP7 al co si wi sh ds sr dp re im else if k = 8 then vP8 al co si wi sh ds sr dp re im else if k = 9 then vP9 al co si wi sh ds sr dp re im else if k = 10 then vP10 al co si wi sh ds sr dp re im else if k = 11 then vP11 al co si wi sh ds sr dp re im else if k = 12 then vP12 al co si wi sh ds sr dp re im else if k = 13 then vP13 al co si wi sh ds sr dp re im else if k = 14 then vP14 al co si wi sh ds sr dp re im else if k = 15 then vP15 al co si wi sh ds sr dp re im else if k = 16 then vP16 al co si wi sh ds sr dp re im else if k = 17 then vP17 al co si wi sh ds sr dp re im else if k = 18 then vP18 al co si wi sh ds sr dp re im else if k = 19 then vP19 al co si wi sh ds sr dp re im else if k = 20 then vP20 al co si wi sh ds sr dp re im else if k = 21 then vP21 al co si wi sh ds sr dp re im else false
theorem c_valid (k : Int) (al co si : Int) (wi sh : Bool) (ds sr dp re im : Int) (w : World) (hL : Laid h12 w) : Calls Tryd.prog 15 #[.agg ⟨(xA k al co si wi sh ds sr dp re im)⟩] w fun e w' => e = .returned (.bool (vP k al co si wi sh ds sr dp re im)) ∧ Gr w w' := by
  cases h1 : decide (k < 1) with
  | true =>
    refine retZ ?_ (vx_0 k al co si wi sh ds sr dp re im (csT' h1 csN') w hL)
    simp only [decide_eq_true_eq] at h1
    simp only [vP, if_neg (show ¬ k = 1 by omega), if_neg (show ¬ k = 2 by omega), if_neg (show ¬ k = 3 by omega), if_neg (show ¬ k = 4 by omega), if_neg (show ¬ k = 5 by omega), if_neg (show ¬ k = 6 by omega), if_neg (show ¬ k = 7 by omega), if_neg (show ¬ k = 8 by omega), if_neg (show ¬ k = 9 by omega), if_neg (show ¬ k = 10 by omega), if_neg (show ¬ k = 11 by omega), if_neg (show ¬ k = 12 by omega), if_neg (show ¬ k = 13 by omega), if_neg (show ¬ k = 14 by omega), if_neg (show ¬ k = 15 by omega), if_neg (show ¬ k = 16 by omega), if_neg (show ¬ k = 17 by omega), if_neg (show ¬ k = 18 by omega), if_neg (show ¬ k = 19 by omega), if_neg (show ¬ k = 20 by omega), if_neg (show ¬ k = 21 by omega)]
  | false =>
    cases h2 : decide (k > 21) with
    | true =>
      refine retZ ?_ (vx_1 k al co si wi sh ds sr dp re im (csF' h1 (csT' h2 csN')) w hL)
      simp only [decide_eq_true_eq] at h2
      simp only [vP, if_neg (show ¬ k = 1 by omega), if_neg (show ¬ k = 2 by omega), if_neg (show ¬ k = 3 by omega), if_neg (show ¬ k = 4 by omega), if_neg (show ¬ k = 5 by omega), if_neg (show ¬ k = 6 by omega), if_neg (show ¬ k = 7 by omega), if_neg (show ¬ k = 8 by omega), if_neg (show ¬ k = 9 by omega), if_neg (show ¬ k = 10 by omega), if_neg (show ¬ k = 11 by omega), if_neg (show ¬ k = 12 by omega), if_neg (show ¬ k = 13 by omega), if_neg (show ¬ k = 14 by omega), if_neg (show ¬ k = 15 by omega), if_neg (show ¬ k = 16 by omega), if_neg (show ¬ k = 17 by omega), if_neg (show ¬ k = 18 by omega), if_neg (show ¬ k = 19 by omega), if_neg (show ¬ k = 20 by omega), if_neg (show ¬ k = 21 by omega)]
    | false =>
      rcases kinds h1 h2 with rfl | rfl | rfl | rfl | rfl | rfl | rfl | rfl | rfl | rfl | rfl | rfl | rfl | rfl | rfl | rfl | rfl | rfl | rfl | rfl | rfl
      · exact c_v1 al co si wi sh ds sr dp re im w hL
      · exact c_v2 al co si wi sh ds sr dp re im w hL
      · exact c_v3 al co si wi sh ds sr dp re im w hL
      · exact c_v4 al co si wi sh ds sr dp re im w hL
      · exact c_v5 al co si wi sh ds sr dp re im w hL
      · exact c_v6 al co si wi sh ds sr dp re im w hL
      · exact c_v7 al co si wi sh ds sr dp re im w hL
      · exact c_v8 al co si wi sh ds sr dp re im w hL
      · exact c_v9 al co si wi sh ds sr dp re im w hL
      · exact c_v10 al co si wi sh ds sr dp re im w hL
      · exact c_v11 al co si wi sh ds sr dp re im w hL
      · exact c_v12 al co si wi sh ds sr dp re im w hL
      · exact c_v13 al co si wi sh ds sr dp re im w hL
      · exact c_v14 al co si wi sh ds sr dp re im w hL
      · exact c_v15 al co si wi sh ds sr dp re im w hL
      · exact c_v16 al co si wi sh ds sr dp re im w hL
      · exact c_v17 al co si wi sh ds sr dp re im w hL
      · exact c_v18 al co si wi sh ds sr dp re im w hL
      · exact c_v19 al co si wi sh ds sr dp re im w hL
      · exact c_v20 al co si wi sh ds sr dp re im w hL
      · exact c_v21 al co si wi sh ds sr dp re im w hL
def hk_valid : Hook := fun f args h =>
  if Nat.beq f 15 && hasG h12 h then
    match args with
    | [.agg ⟨[.int .i64 p0, .int .i64 p1, .int .i64 p2, .int .i64 p3, .bool p4, .bool p5, .int .i64 p6, .int .i64 p7, .int .i32 p8, .int .i32 p9, .int .i64 p10]⟩] => some (.bool (vP p0 p1 p2 p3 p4 p5 p6 p7 p8 p9 p10), [])
    | _ => none
  else none
theorem hk_valid_ok : HookOk Tryd.prog hk_valid := by
  intro f args h v cs hv hc wb k s w H
  unfold hk_valid at hv
  split at hv
  · rename_i hf
    simp only [Bool.and_eq_true] at hf
    obtain rfl := Nat.eq_of_beq_eq_true hf.1
    split at hv
    · cases hv
      exact c_valid _ _ _ _ _ _ _ _ _ _ _ w (H.laid hf.2 rfl)
    · cases hv
  · cases hv
end Go.Proofs.YtbaiokfjoglmiaaDoor.Ex
end
