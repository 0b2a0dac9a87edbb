/-
  Lemmas for the laws of this seat, part C: Ex14, LaidArr, Plain, Flat, NoNG, Law12a, Memo, Law12b, MapLit, NumsMath, AluMath, Nums, Alu, Conds, Holds, HoldsA, HoldsB, Law12c.
-/
import Derived.Test.YtbaiokfjoglmiaaDoorPackB
import Derived.OpenShut
import Derived.MakeChecks
import Derived.Deep.Fields
import Derived.ChangeSame
import Derived.ProofKit
import Derived.WalkKit
import Derived.ShutString
import Derived.Test.YtbaiokfjoglmiaaDoorProg
import Derived.Test.YtbaiokfjoglmiaaDoorRows
import Derived.MapKept
import Derived.Handy
import Derived.Lib.SlBytesRow
import Derived.BigQuiet
section
namespace Go.Proofs.YtbaiokfjoglmiaaDoor.Ex
open Go Go.RowKit

/-- The first blocks: a package's variables; those that are not spoken of are given up. -/
def placeG (h0 : List AO) (w : World) : Ren := fun g =>
  match h0[g]?, w.shape? g with
  | some o, some (_, tot) => if o.live then some ⟨g, 0, tot, some GM⟩ else none
  | _, _ => none
def Laid (h0 : List AO) (w : World) : Prop :=
  ∀ (g : Nat) (o : AO), h0[g]? = some o → o.live = true → o.es = some GM ∧ o.cs.all flat = true ∧ ∃ T tot, w.shape? g = some (T, tot) ∧ o.cs.length ≤ tot ∧ ∀ (j : Nat) (v : Value), o.cs[j]? = some v → w.cell? ⟨g, j, none⟩ = some v
theorem shape_cells {w : World} {g : Nat} {T : TypeId} {n : Nat} (h : w.shape? g = some (T, n)) : g < w.heap.size ∧ ∀ j, j < n → (w.cell? ⟨g, j, none⟩).isSome = true := by
  unfold World.shape? at h
  split at h
  · rename_i c e f hh
    cases h
    refine ⟨(Array.getElem?_eq_some_iff.1 hh).1, fun j hj => ?_⟩
    unfold World.cell?
    simp only [hh]
    simpa using hj
  · cases h
theorem HR.start {h0 : List AO} {w : World} (hL : Laid h0 w) : HR w h0.length (placeG h0 w) h0 w := by
  have pl : ∀ g p, placeG h0 w g = some p → ∃ o T tot, h0[g]? = some o ∧ o.live = true ∧ w.shape? g = some (T, tot) ∧ p = ⟨g, 0, tot, some GM⟩ := by
    intro g p hp
    unfold placeG at hp
    split at hp
    · rename_i o T tot ho hs
      split at hp
      · rename_i hl; cases hp; exact ⟨o, T, tot, ho, hl, hs, rfl⟩
      · cases hp
    · cases hp
  refine ⟨Gr.refl w, Nat.le_refl _, fun i hi => ?_, fun i p hp => ?_, fun i o ho hl => ?_, fun i j a b p q hi hj _ _ hp hq e => ?_, fun g p hp _ => ?_⟩
  · unfold placeG
    rw [List.getElem?_eq_none hi]
  · obtain ⟨o, T, tot, ho, hl, hs, rfl⟩ := pl i p hp
    have := (shape_cells hs).1
    have hlt := (List.getElem?_eq_some_iff.1 ho).1
    exact ⟨fun _ => this, fun h => absurd h (by omega), this⟩
  · obtain ⟨he, hf, T, tot, hs, hle, hc⟩ := hL i o ho hl
    refine ⟨⟨i, 0, tot, some GM⟩, by unfold placeG; simp [ho, hl, hs], he.symm, ObjAt.block (by unfold isM; rw [he]; rfl) ⟨by simpa using hle, (shape_cells hs).2, ⟨T, hs⟩, fun hg => absurd rfl hg, fun j v hv => ⟨v, ?_, .same (all_get hf hv)⟩⟩⟩
    rw [Nat.zero_add]
    exact hc j v hv
  · obtain ⟨_, _, _, _, _, _, rfl⟩ := pl i p hp
    obtain ⟨_, _, _, _, _, _, rfl⟩ := pl j q hq
    exact e
  · obtain ⟨_, _, _, _, _, _, rfl⟩ := pl g p hp
    exact ⟨rfl, rfl⟩
/-- A memory that is told by a heap whose first blocks are such variables has these. -/
def eqI : Value → Value → Bool
  | .int k a, .int j b => if k = j then a == b else false
  | x, y => veq0 x y
theorem eqI_ok {x y : Value} (h : eqI x y = true) : x = y := by
  unfold eqI at h
  split at h
  · split at h
    · rename_i hk; rw [hk, eq_of_beq h]
    · cases h
  · exact veq0_ok h
def eqL : List Value → List Value → Bool
  | [], [] => true
  | x :: xs, y :: ys => eqI x y && eqL xs ys
  | _, _ => false
theorem eqL_ok : ∀ {xs ys : List Value}, eqL xs ys = true → xs = ys
  | [], [], _ => rfl
  | x :: xs, y :: ys, h => by
    simp only [eqL, Bool.and_eq_true] at h
    rw [eqI_ok h.1, eqL_ok h.2]
  | [], _ :: _, h => by cases h
  | _ :: _, [], h => by cases h
def hasG : List AO → List AO → Bool
  | [], _ => true
  | _ :: _, [] => false
  | o :: l, p :: h => (!o.live || (p.live && (match p.es with | some e => Nat.beq e GM | none => false) && eqL p.cs o.cs)) && hasG l h
theorem hasG_at : ∀ {h0 h : List AO}, hasG h0 h = true → ∀ (g : Nat) (o : AO), h0[g]? = some o → o.live = true → ∃ p, h[g]? = some p ∧ p.live = true ∧ p.es = some GM ∧ p.cs = o.cs
  | [], _, _, g, o, ho, _ => by simp at ho
  | _ :: _, [], h, _, _, _, _ => by cases h
  | o :: l, p :: h, hh, g, q, hq, hl => by
    simp only [hasG, Bool.and_eq_true] at hh
    cases g with
    | succ g => simpa using hasG_at hh.2 g q (by simpa using hq) hl
    | zero =>
      simp at hq
      subst hq
      have h1 := hh.1
      simp only [hl, Bool.not_true, Bool.false_or, Bool.and_eq_true] at h1
      refine ⟨p, rfl, h1.1.1, ?_, eqL_ok h1.2⟩
      cases he : p.es with
      | none => rw [he] at h1; cases h1.1.2
      | some e => rw [he] at h1; rw [Nat.eq_of_beq_eq_true h1.1.2]
theorem HR.laid {wb : World} {k : Nat} {s : Ren} {h h0 : List AO} {w : World} (H : HR wb k s h w) (hh : hasG h0 h = true) (hf : h0.all (fun o => !o.live || (match o.es with | some e => Nat.beq e GM | none => false) && o.cs.all flat) = true) : Laid h0 w := by
  intro g o ho hl
  obtain ⟨p, hp, hpl, hpe, hpc⟩ := hasG_at hh g o ho hl
  have hfo := List.all_eq_true.1 hf o (List.mem_of_getElem? ho)
  simp only [hl, Bool.not_true, Bool.false_or, Bool.and_eq_true] at hfo
  have hoe : o.es = some GM := by
    cases he : o.es with
    | none => rw [he] at hfo; cases hfo.1
    | some e => rw [he] at hfo; rw [Nat.eq_of_beq_eq_true hfo.1]
  obtain ⟨q, hq, hqe, hb⟩ := H.obj g p hp hpl
  obtain ⟨e1, e2⟩ := H.gl g q hq (by rw [hqe, hpe])
  have B := hb.2 (by unfold isM; rw [hpe]; rfl)
  obtain ⟨T, hT⟩ := B.shp
  rw [e1] at hT
  refine ⟨hoe, hfo.2, T, q.tot, hT, ?_, fun j v hv => ?_⟩
  · have := B.fit
    rw [hpc] at this
    omega
  · obtain ⟨v', h1, h2⟩ := B.rel j v (by rw [hpc]; exact hv)
    rw [e1, e2, Nat.zero_add, h2.eq_of_flat (all_get hfo.2 hv)] at h1
    exact h1
noncomputable def ranG (P : Program) (hk : Hook) (orc : Orc) (L f : Nat) (h0 : List AO) (g : FuncId) (args : List Value) : Option (Value × List AO × Mk) :=
  match callA P ⟨ex P (aOp P) (drawE P) (liftH hk) orc accQ L f, liftH hk, fun _ _ => none, accQ⟩ g args h0 with
  | some (v, h, m) => if quietB h0.length m.1 then some (v, h, m) else none
  | none => none
noncomputable def reckonGL (P : Program) (hk : Hook) (orc : Orc) (L f : Nat) (h0 : List AO) (g : FuncId) (args : List Value) : Option (Value × List Int) :=
  match ranG P hk orc L f h0 g args with
  | some (v, _, m) => some (v, m.2.map (·.1))
  | none => none
noncomputable def reckonGR (P : Program) (hk : Hook) (orc : Orc) (L f : Nat) (h0 : List AO) (g : FuncId) (args : List Value) (v : Value) : Option (Value × List Int) :=
  match ranG P hk orc L f h0 g args with
  | some (_, _, m) => some (v, m.2.map (·.2))
  | none => some (v, [])
/-- A run with tests that are not reckoned: 'orc' says which way each goes; what it must hold for is 'ls = rs'. -/
theorem reckonX_any {P : Program} (hng : NoNG P) {hk : Hook} (hhk : HookOk2 P hk) (orc : Orc) (L f : Nat) (h0 : List AO) {g : FuncId} {args : List Value} {v : Value} (ha : args.all flat = true) (hv : flat v = true) (h : reckonGL P hk orc L f h0 g args = reckonGR P hk orc L f h0 g args v) (w : World) (hL : Laid h0 w) :
    Calls P g ⟨args⟩ w fun e w' => e = .returned v ∧ Gr w w' := by
  unfold reckonGL reckonGR ranG at h
  cases hc : callA P ⟨ex P (aOp P) (drawE P) (liftH hk) orc accQ L f, liftH hk, fun _ _ => none, accQ⟩ g args h0 with
  | none => rw [hc] at h; cases h
  | some r =>
    obtain ⟨v', h', m⟩ := r
    rw [hc] at h
    simp only at h
    split at h
    · rename_i r2 v2 h2 m2 hm2
      split at hm2
      · rename_i hq
        cases hm2
        simp only [Option.some.injEq, Prod.mk.injEq] at h
        obtain ⟨rfl, h3⟩ := h
        refine (callA_ok (ex_ok accQ_eq hng (aOp_ok P hng) (drawE_ok P) (drawE_low P) (lift_ok hhk) L f _) hc (wb := w) (k := h0.length) (s := placeG h0 w) ⟨quietB_ok hq, map_same h3⟩ (LR.ofFlat ha) (HR.start hL)).mono ?_
        rintro e w' ⟨s', u, rfl, _, H, hvr⟩
        rw [hvr.eq_of_flat hv]
        exact ⟨rfl, H.grown⟩
      · cases hm2
    · cases h
theorem reckonG_any {P : Program} (hng : NoNG P) {hk : Hook} (hhk : HookOk P hk) (orc : Orc) (L f : Nat) (h0 : List AO) {g : FuncId} {args : List Value} {v : Value} (ha : args.all flat = true) (hv : flat v = true) (h : reckonGL P (guardH hk) orc L f h0 g args = reckonGR P (guardH hk) orc L f h0 g args v) (w : World) (hL : Laid h0 w) :
    Calls P g ⟨args⟩ w fun e w' => e = .returned v ∧ Gr w w' := reckonX_any hng (guard_ok hhk) orc L f h0 ha hv h w hL
theorem reckonG_ok {P : Program} (hng : NoNG P) {hk : Hook} (hhk : HookOk P hk) (L f : Nat) (h0 : List AO) {g : FuncId} {args : List Value} {v : Value} (ha : args.all flat = true) (hv : flat v = true) (h : reckonGL P (guardH hk) noOrc L f h0 g args = reckonGR P (guardH hk) noOrc L f h0 g args v) (w : World) (hL : Laid h0 w) :
    Calls P g ⟨args⟩ w fun e w' => e = .returned v ∧ Gr w w' := reckonG_any hng hhk noOrc L f h0 ha hv h w hL
theorem reckonS_ok {P : Program} (hng : NoNG P) {hk : Hook} (hhk : HookOk P hk) (orc : Orc) (L f : Nat) (h0 : List AO) {g : FuncId} {args : List Value} {v : Value} {ls rs : List Int} (ha : args.all flat = true) (hv : flat v = true) (h1 : reckonGL P (guardH hk) orc L f h0 g args = some (v, ls))
    (h2 : reckonGR P (guardH hk) orc L f h0 g args v = some (v, rs)) (he : ls = rs) (w : World) (hL : Laid h0 w) : Calls P g ⟨args⟩ w fun e w' => e = .returned v ∧ Gr w w' :=
  reckonG_any hng hhk orc L f h0 ha hv (h1.trans (he ▸ h2.symm)) w hL
noncomputable def reckonGC (P : Program) (hk : Hook) (orc : Orc) (L f : Nat) (h0 : List AO) (g : FuncId) (args : List Value) : Option (Value × Cs) :=
  match ranG P hk orc L f h0 g args with
  | some (v, _, m) => some (v, m.2)
  | none => none
/-- The same, of one run alone: 'cs' are the pairs that must be the same. -/
theorem reckonT_ok {P : Program} (hng : NoNG P) {hk : Hook} (hhk : HookOk P hk) (orc : Orc) (L f : Nat) (h0 : List AO) {g : FuncId} {args : List Value} {v : Value} {cs : Cs} (ha : args.all flat = true) (hv : flat v = true) (h : reckonGC P (guardH hk) orc L f h0 g args = some (v, cs))
    (he : cs.map (·.1) = cs.map (·.2)) (w : World) (hL : Laid h0 w) : Calls P g ⟨args⟩ w fun e w' => e = .returned v ∧ Gr w w' := by
  refine reckonG_any hng hhk orc L f h0 ha hv ?_ w hL
  unfold reckonGC at h
  unfold reckonGL reckonGR
  split at h
  · rename_i v' h' m hr
    cases h
    simp only [he]
  · cases h
theorem reckonX_ok {P : Program} (hng : NoNG P) {hk : Hook} (hhk : HookOk2 P hk) (L f : Nat) (h0 : List AO) {g : FuncId} {args : List Value} {v : Value} (ha : args.all flat = true) (hv : flat v = true) (h : reckonGL P hk noOrc L f h0 g args = reckonGR P hk noOrc L f h0 g args v) (w : World) (hL : Laid h0 w) :
    Calls P g ⟨args⟩ w fun e w' => e = .returned v ∧ Gr w w' := reckonX_any hng hhk noOrc L f h0 ha hv h w hL
/-- Of one run alone, with hooks of any arguments: 'cs' are the pairs that must be the same. -/
theorem reckonXT_ok {P : Program} (hng : NoNG P) {hk : Hook} (hhk : HookOk2 P hk) (orc : Orc) (L f : Nat) (h0 : List AO) {g : FuncId} {args : List Value} {v : Value} {cs : Cs} (ha : args.all flat = true) (hv : flat v = true) (h : reckonGC P hk orc L f h0 g args = some (v, cs))
    (he : cs.map (·.1) = cs.map (·.2)) (w : World) (hL : Laid h0 w) : Calls P g ⟨args⟩ w fun e w' => e = .returned v ∧ Gr w w' := by
  refine reckonX_any hng hhk orc L f h0 ha hv ?_ w hL
  unfold reckonGC at h
  unfold reckonGL reckonGR
  split at h
  · rename_i v' h' m hr
    cases h
    simp only [he]
  · cases h
theorem laid_at {g : Nat} {cs : List Value} {w : World} (h : ∃ t fr, w.heap[g]? = some (.cells ⟨cs⟩ t fr)) : ∃ T tot, w.shape? g = some (T, tot) ∧ cs.length ≤ tot ∧ ∀ (j : Nat) (v : Value), cs[j]? = some v → w.cell? ⟨g, j, none⟩ = some v := by
  obtain ⟨t, fr, hh⟩ := h
  refine ⟨t, cs.length, by simp [World.shape?, hh], Nat.le_refl _, fun j v hv => ?_⟩
  unfold World.cell?
  simp only [hh]
  simpa using hv
/-- One variable, at its place. -/
theorem Laid.one {g0 : Nat} {cs : List Value} {w : World} (hf : cs.all flat = true) (h : ∃ t fr, w.heap[g0]? = some (.cells ⟨cs⟩ t fr)) : Laid (List.replicate g0 dead ++ [⟨true, some GM, cs⟩]) w := by
  intro g o ho hl
  by_cases e : g < g0
  · rw [List.getElem?_append_left (by simpa using e), List.getElem?_replicate, if_pos e] at ho
    cases ho
    cases hl
  · have h2 := (List.getElem?_eq_some_iff.1 ho).1
    simp only [List.length_append, List.length_replicate, List.length_singleton] at h2
    obtain rfl : g = g0 := by omega
    rw [List.getElem?_append_right (by simp)] at ho
    simp only [List.length_replicate, Nat.sub_self, List.getElem?_cons_zero, Option.some.injEq] at ho
    subst ho
    exact ⟨rfl, hf, laid_at h⟩
theorem Laid.nil (w : World) : Laid [] w := fun g o h => by simp at h
theorem Laid.gr {h0 : List AO} {w w' : World} (h : Laid h0 w) (g : Gr w w') : Laid h0 w' := fun i o ho hl =>
  let ⟨a, b, T, tot, hs, hle, hc⟩ := h i o ho hl
  ⟨a, b, T, tot, gr_shape g (shape_cells hs).1 hs, hle, fun j v hv => (gr_cell g (a := ⟨i, j, none⟩) (shape_cells hs).1).trans (hc j v hv)⟩
end Go.Proofs.YtbaiokfjoglmiaaDoor.Ex
end
section
namespace Go.Proofs.YtbaiokfjoglmiaaDoor.Ex
open Go Go.RowKit Go.ChangeShapes Go.WideShapes Go.WideMaps Go.WideElems Go.ChangeAt Go.Deep

theorem cells_of_ints {H : Type} {enc : TypeId × Value → H} {P : Program} {w : World} {base : Nat} {spare : Nat → Bool} {held : Bool} {fuel : Nat} {t e : TypeId} {len : Nat} {cs : List Value} {k : IntKind} {ns : List Int} {x : DataW H × List MemPlace}
    (ht : P.underlying t = some (.array len e)) (he : P.underlying e = some (.int k)) (hc : P.cellsOf e = 1) (hct : P.cellsOf t = len) (h : DataW.trod enc P w base spare held fuel t cs = some x) (hx : x.1 = .agg (ns.map fun n => .lit (.int k n))) : cs = ns.map (.int k) := by
  obtain ⟨xs, m, _, hxx, hlen, hn, hall⟩ := DataW.trod_array ht h
  rw [hct] at hlen
  simp only [hc] at hall
  have hm : xs.map (·.1) = ns.map fun n => .lit (.int k n) := by
    have h1 := congrArg Prod.fst hxx
    rw [hx] at h1
    injection h1 with h2
    exact h2.symm
  have hl : ns.length = len := by
    have := congrArg List.length hm
    simp at this
    omega
  apply List.ext_getElem?
  intro i
  by_cases hi : i < len
  · have hn0 : ∃ n, ns[i]? = some n := ⟨_, List.getElem?_eq_getElem (by omega)⟩
    obtain ⟨n, hn0⟩ := hn0
    obtain ⟨y, hy⟩ : ∃ y, xs[i]? = some y := ⟨_, List.getElem?_eq_getElem (by omega)⟩
    have hh := (hall i hi).trans hy
    obtain ⟨n', e1, rfl, _⟩ := DataW.trod_int he hh
    have h2 : (xs.map (·.1))[i]? = some (.lit (.int k n')) := by rw [List.getElem?_map, hy]; rfl
    rw [hm, List.getElem?_map, hn0] at h2
    simp at h2
    subst h2
    have h3 := congrArg (·[0]?) e1
    simp at h3
    rw [List.getElem?_map, hn0]
    simpa using h3
  · rw [List.getElem?_eq_none (by omega), List.getElem?_eq_none (by simp; omega)]
/-- An array of structs of two numbers. -/
theorem cells_of_pairs {H : Type} {enc : TypeId × Value → H} {P : Program} {w : World} {base : Nat} {spare : Nat → Bool} {held : Bool} {fuel : Nat} {t e : TypeId} {len : Nat} {cs : List Value} {k j : IntKind} {f0 f1 : Field} {ns : List (Int × Int)} {x : DataW H × List MemPlace}
    (ht : P.underlying t = some (.array len e)) (he : P.underlying e = some (.struct #[f0, f1])) (hone : oneCellFields P #[f0, f1] = true) (hc : P.cellsOf e = 2) (hct : P.cellsOf t = 2 * len) (u0 : P.underlying f0.type = some (.int k)) (u1 : P.underlying f1.type = some (.int j))
    (h : DataW.trod enc P w base spare held fuel t cs = some x) (hx : x.1 = .agg (ns.map fun n => .agg [.lit (.int k n.1), .lit (.int j n.2)])) : cs = (ns.map fun n => [Value.int k n.1, Value.int j n.2]).flatten := by
  obtain ⟨xs, m, _, hxx, hlen, hn, hall⟩ := DataW.trod_array ht h
  rw [hct] at hlen
  simp only [hc] at hall
  have hm : xs.map (·.1) = ns.map fun n => .agg [.lit (.int k n.1), .lit (.int j n.2)] := by
    have h1 := congrArg Prod.fst hxx
    rw [hx] at h1
    injection h1 with h2
    exact h2.symm
  have hl : ns.length = len := by
    have := congrArg List.length hm
    simp at this
    omega
  have each : ∀ (i : Nat), i < len → ∀ n, ns[i]? = some n → (cs.drop (i * 2)).take 2 = [Value.int k n.1, Value.int j n.2] := by
    intro i hi n hn0
    obtain ⟨y, hy⟩ : ∃ y, xs[i]? = some y := ⟨_, List.getElem?_eq_getElem (by omega)⟩
    have hh := (hall i hi).trans hy
    have h2 : (xs.map (·.1))[i]? = some y.1 := by rw [List.getElem?_map, hy]; rfl
    rw [hm, List.getElem?_map, hn0] at h2
    simp only [Option.map_some, Option.some.injEq] at h2
    obtain ⟨y0, y1, q, hyy, hll, h0, h1⟩ := trod_struct2 he hh
    rw [hc] at hll
    obtain ⟨o0, k0⟩ := hone_of hone 0 f0 rfl
    obtain ⟨o1, k1⟩ := hone_of hone 1 f1 rfl
    generalize (cs.drop (i * 2)).take 2 = ds at h0 h1 hll ⊢
    match ds, hll with
    | [c0, c1], _ =>
      simp only [o0, k0, o1, k1, List.drop_zero, List.take_succ_cons, List.take_zero, List.drop_succ_cons] at h0 h1
      obtain ⟨n0, e0, rfl, _⟩ := DataW.trod_int u0 h0
      obtain ⟨n1, e1, rfl, _⟩ := DataW.trod_int u1 h1
      rw [hyy] at h2
      simp at h2 e0 e1
      rw [e0, e1, h2.1, h2.2]
  have all : ∀ (l : List (Int × Int)) (i : Nat), l = ns.drop i → cs.drop (i * 2) = (l.map fun n => [Value.int k n.1, Value.int j n.2]).flatten := by
    intro l
    induction l with
    | nil =>
      intro i hi
      have : ns.length ≤ i := by
        have := congrArg List.length hi
        simp at this
        omega
      simp only [List.map_nil, List.flatten_nil]
      exact List.drop_eq_nil_of_le (by omega)
    | cons n l ih =>
      intro i hi
      have hn0 : ns[i]? = some n := by
        have := congrArg (·[0]?) hi
        simpa using this.symm
      have hilt : i < len := by rw [← hl]; exact (List.getElem?_eq_some_iff.1 hn0).1
      have h1 := each i hilt n hn0
      have h2 := ih (i + 1) (by
        have := congrArg (List.drop 1) hi
        simpa using this)
      rw [← List.take_append_drop 2 (cs.drop (i * 2)), h1, List.drop_drop, show i * 2 + 2 = (i + 1) * 2 by omega, h2]
      rfl
  have := all ns 0 (by simp)
  simpa using this
end Go.Proofs.YtbaiokfjoglmiaaDoor.Ex
end
section
namespace Go.Proofs.YtbaiokfjoglmiaaDoor
open Go.ChangeShapes Go.WideShapes Go.RowKit

inductive Kd where
  | i (k : IntKind)
  | b
  | s
def Kd.ok : Kd → Value → Prop
  | .i k, v => ∃ n, v = .int k n ∧ (Lit.int k n).wf = true
  | .b, v => ∃ x, v = .bool x
  | .s, v => ∃ x : ByteArray, v = .string x ∧ x.size ≤ maxLen
def okL : List Kd → List Value → Prop
  | [], [] => True
  | k :: ks, v :: vs => k.ok v ∧ okL ks vs
  | _, _ => False
theorem okL.nil {cs : List Value} (h : okL [] cs) : cs = [] := by cases cs with | nil => rfl | cons _ _ => exact h.elim
theorem okL.cons {k : Kd} {ks : List Kd} {cs : List Value} (h : okL (k :: ks) cs) : ∃ v vs, cs = v :: vs ∧ k.ok v ∧ okL ks vs := by
  cases cs with
  | nil => exact h.elim
  | cons v vs => exact ⟨v, vs, rfl, h.1, h.2⟩
theorem okL.length : ∀ {ks : List Kd} {cs : List Value}, okL ks cs → cs.length = ks.length
  | [], cs, h => by rw [h.nil]; rfl
  | k :: ks, cs, h => by
    obtain ⟨v, vs, rfl, _, h2⟩ := h.cons
    simp [okL.length h2]
theorem okL.append : ∀ {ks ls : List Kd} {cs ds : List Value}, okL ks cs → okL ls ds → okL (ks ++ ls) (cs ++ ds)
  | [], ls, cs, ds, h, g => by rw [h.nil]; exact g
  | k :: ks, ls, cs, ds, h, g => by
    obtain ⟨v, vs, rfl, h1, h2⟩ := h.cons
    exact ⟨h1, okL.append h2 g⟩
/-- The kinds of a struct's fields, one behind the other. -/
def kindsF (g : TypeId → Option (List Kd)) (cells : TypeId → Nat) : List Field → Nat → Option (List Kd)
  | [], _ => some []
  | f :: fs, off =>
    match g f.type with
    | some ks =>
      if f.offset = off ∧ cells f.type = ks.length then
        match kindsF g cells fs (off + ks.length) with
        | some ls => some (ks ++ ls)
        | none => none
      else none
    | none => none
def kindsT (P : Program) : Nat → TypeId → Option (List Kd)
  | 0, _ => none
  | f + 1, t =>
    match P.underlying t with
    | some .bool => some [.b]
    | some (.int k) => some [.i k]
    | some .string => some [.s]
    | some (.array n e) =>
      match kindsT P f e with
      | some ks => if P.cellsOf e = ks.length ∧ P.cellsOf t = n * ks.length then some (List.replicate n ks).flatten else none
      | none => none
    | some (.struct fs) =>
      match kindsF (kindsT P f) P.cellsOf fs.toList 0 with
      | some ks => if P.cellsOf t = ks.length then some ks else none
      | none => none
    | _ => none
theorem mapM_same {α β : Type} {g g' : α → Option β} : ∀ {l : List α} {xs : List β}, l.mapM g = some xs → (∀ a ∈ l, ∀ y, g a = some y → g' a = some y) → l.mapM g' = some xs
  | [], xs, h, _ => by simpa using h
  | a :: l, xs, h, hg => by
    simp only [List.mapM_cons] at h ⊢
    cases ha : g a with
    | none => rw [ha] at h; cases h
    | some y =>
      rw [ha] at h
      cases hl : l.mapM g with
      | none => rw [hl] at h; cases h
      | some ys =>
        rw [hl] at h
        rw [hg a (by simp) y ha, mapM_same hl fun b hb => hg b (by simp [hb])]
        exact h
theorem mapM_all {α β : Type} {g : α → Option β} {p : β → Prop} : ∀ {l : List α} {xs : List β}, l.mapM g = some xs → (∀ a ∈ l, ∀ y, g a = some y → p y) → ∀ y ∈ xs, p y
  | [], xs, h, _ => by simp at h; subst h; intro y hy; cases hy
  | a :: l, xs, h, hg => by
    simp only [List.mapM_cons] at h
    cases ha : g a with
    | none => rw [ha] at h; cases h
    | some y =>
      rw [ha] at h
      cases hl : l.mapM g with
      | none => rw [hl] at h; cases h
      | some ys =>
        rw [hl] at h
        cases h
        intro z hz
        rcases List.mem_cons.1 hz with e | e
        · rw [e]; exact hg a (by simp) y ha
        · exact mapM_all hl (fun b hb => hg b (by simp [hb])) z e
theorem mapM_each {α β : Type} {g : α → Option β} : ∀ {l : List α} {xs : List β}, l.mapM g = some xs → ∀ a ∈ l, ∃ y, g a = some y
  | [], _, _, a, ha => by cases ha
  | a :: l, xs, h, b, hb => by
    simp only [List.mapM_cons] at h
    cases ha : g a with
    | none => rw [ha] at h; cases h
    | some y =>
      rw [ha] at h
      cases hl : l.mapM g with
      | none => rw [hl] at h; cases h
      | some ys =>
        rcases List.mem_cons.1 hb with e | e
        · rw [e]; exact ⟨y, ha⟩
        · exact mapM_each hl b e
theorem arr_ok {cs : List Value} {ks : List Kd} : ∀ (m j : Nat), (∀ i, j ≤ i → i < j + m → okL ks ((cs.drop (i * ks.length)).take ks.length)) → okL (List.replicate m ks).flatten ((cs.drop (j * ks.length)).take (m * ks.length))
  | 0, j, _ => by simp [okL]
  | m + 1, j, h => by
    have h1 := h j (Nat.le_refl _) (by omega)
    have h2 := arr_ok m (j + 1) fun i h3 h4 => h i (by omega) (by omega)
    have e : (cs.drop (j * ks.length)).take ((m + 1) * ks.length) = (cs.drop (j * ks.length)).take ks.length ++ (cs.drop ((j + 1) * ks.length)).take (m * ks.length) := by
      rw [show (m + 1) * ks.length = ks.length + m * ks.length by rw [Nat.add_mul]; omega, List.take_add, List.drop_drop, show j * ks.length + ks.length = (j + 1) * ks.length by rw [Nat.add_mul]; omega]
    rw [e, List.replicate_succ, List.flatten_cons]
    exact h1.append h2
theorem str_ok {g : TypeId → Option (List Kd)} {cells : TypeId → Nat} {cs : List Value} : ∀ (fs : List Field) (off : Nat) (ks : List Kd), kindsF g cells fs off = some ks →
    (∀ f ∈ fs, ∀ ls, g f.type = some ls → okL ls ((cs.drop f.offset).take (cells f.type))) → okL ks ((cs.drop off).take ks.length)
  | [], off, ks, h, _ => by simp [kindsF] at h; subst h; simp [okL]
  | f :: fs, off, ks, h, hf => by
    simp only [kindsF] at h
    split at h
    · rename_i k1 hk
      split at h
      · rename_i hc
        split at h
        · rename_i k2 h2
          cases h
          have a1 := hf f (by simp) k1 hk
          rw [hc.1, hc.2] at a1
          have a2 := str_ok fs _ _ h2 fun q hq => hf q (by simp [hq])
          rw [List.length_append, List.take_add, List.drop_drop]
          exact a1.append a2
        · cases h
      · cases h
    · cases h
section
variable {H : Type} {enc : TypeId × Value → H} {P : Program}
theorem plain_kinds : ∀ (f : Nat) {t : TypeId} {ks : List Kd}, kindsT P f t = some ks → ∀ {w : World} {base : Nat} {sp : Nat → Bool} {held : Bool} {n : Nat} {cs : List Value} {x : DataW H × List MemPlace}, DataW.trod enc P w base sp held n t cs = some x → okL ks cs
  | 0, t, ks, h => by simp [kindsT] at h
  | f + 1, t, ks, h => by
    rename_i w base sp held n cs x
    intro hx
    simp only [kindsT] at h
    split at h
    · cases h
      rename_i hu
      cases n with
      | zero => simp [DataW.trod] at hx
      | succ n =>
        simp only [DataW.trod, hu] at hx
        split at hx <;> simp_all [okL, Kd.ok]
    · cases h
      rename_i k hu
      obtain ⟨m, rfl, _, hw⟩ := DataW.trod_int hu hx
      exact ⟨⟨m, rfl, hw⟩, trivial⟩
    · cases h
      rename_i hu
      obtain ⟨m, rfl, _, hw⟩ := DataW.trod_string hu hx
      exact ⟨⟨m, rfl, hw⟩, trivial⟩
    · rename_i m e hu
      split at h
      · rename_i k1 hk
        split at h
        · rename_i hc
          cases h
          obtain ⟨xs, q, rfl, _, hlen, hn, hall⟩ := DataW.trod_array hu hx
          have := arr_ok (cs := cs) (ks := k1) m 0 fun i _ hi => by
            have h1 := hall i (by omega)
            rw [hc.1] at h1
            exact plain_kinds f hk (h1.trans (List.getElem?_eq_getElem (by omega)))
          rw [Nat.zero_mul, List.drop_zero, ← hc.2, ← hlen, List.take_length] at this
          exact this
        · cases h
      · cases h
    · rename_i fs hu
      split at h
      · rename_i k1 hk
        split at h
        · rename_i hc
          cases h
          cases n with
          | zero => simp [DataW.trod] at hx
          | succ n =>
            have hx2 : (if cs.length = P.cellsOf t then (fs.toList.mapM fun f => DataW.trod enc P w base sp held n f.type ((cs.drop f.offset).take (P.cellsOf f.type))).map fun xs => ((DataW.agg (xs.map (·.1)) : DataW H), xs.flatMap (·.2)) else none) = some x := by
              rw [← hx]; simp only [DataW.trod, hu]
            split at hx2
            · rename_i hlen
              cases hm : fs.toList.mapM fun f => DataW.trod enc P w base sp held n f.type ((cs.drop f.offset).take (P.cellsOf f.type)) with
              | none => rw [hm] at hx2; cases hx2
              | some xs =>
                have := str_ok (cs := cs) fs.toList 0 ks hk fun g hg ls hl => by
                  obtain ⟨y, hy⟩ := mapM_each hm g hg
                  exact plain_kinds f hl hy
                rw [List.drop_zero, ← hc, ← hlen, List.take_length] at this
                exact this
            · cases hx2
        · cases h
      · cases h
    · cases h
theorem kindsF_each {g : TypeId → Option (List Kd)} {cells : TypeId → Nat} : ∀ {fs : List Field} {off : Nat} {ks : List Kd}, kindsF g cells fs off = some ks → ∀ f ∈ fs, ∃ ls, g f.type = some ls
  | [], _, _, _, f, hf => by cases hf
  | f :: fs, off, ks, h, q, hq => by
    simp only [kindsF] at h
    split at h
    · rename_i k1 hk
      split at h
      · split at h
        · rename_i k2 h2
          rcases List.mem_cons.1 hq with e | e
          · rw [e]; exact ⟨k1, hk⟩
          · exact kindsF_each h2 q e
        · cases h
      · cases h
    · cases h
theorem plain_any : ∀ (f : Nat) {t : TypeId} {ks : List Kd}, kindsT P f t = some ks → ∀ {w : World} {base : Nat} {sp : Nat → Bool} {held : Bool} {n : Nat} {cs : List Value} {x : DataW H × List MemPlace}, DataW.trod enc P w base sp held n t cs = some x →
    x.2 = [] ∧ ∀ (w' : World) (base' : Nat) (sp' : Nat → Bool) (held' : Bool), DataW.trod enc P w' base' sp' held' n t cs = some x
  | 0, t, ks, h => by simp [kindsT] at h
  | f + 1, t, ks, h => by
    rename_i w base sp held n cs x
    intro hx
    have hk1 := plain_kinds (f + 1) h hx
    simp only [kindsT] at h
    cases n with
    | zero => simp [DataW.trod] at hx
    | succ n =>
      split at h
      · cases h
        rename_i hu
        obtain ⟨v, vs, rfl, ⟨y, rfl⟩, hn⟩ := hk1.cons
        obtain rfl := hn.nil
        simp only [DataW.trod, hu] at hx ⊢
        cases hx
        exact ⟨rfl, fun _ _ _ _ => rfl⟩
      · cases h
        rename_i k hu
        obtain ⟨v, vs, rfl, ⟨y, rfl, hw⟩, hn⟩ := hk1.cons
        obtain rfl := hn.nil
        simp only [DataW.trod, hu, hw, and_self, if_true] at hx ⊢
        cases hx
        exact ⟨rfl, fun _ _ _ _ => rfl⟩
      · cases h
        rename_i hu
        obtain ⟨v, vs, rfl, ⟨y, rfl, hw⟩, hn⟩ := hk1.cons
        obtain rfl := hn.nil
        simp only [DataW.trod, hu, hw, if_true] at hx ⊢
        cases hx
        exact ⟨rfl, fun _ _ _ _ => rfl⟩
      · rename_i m e hu
        split at h
        · rename_i k1 hk
          have hd : ∀ (w : World) (base : Nat) (sp : Nat → Bool) (held : Bool), DataW.trod enc P w base sp held (n + 1) t cs = (if cs.length = P.cellsOf t then ((List.range m).mapM fun i => DataW.trod enc P w base sp held n e ((cs.drop (i * P.cellsOf e)).take (P.cellsOf e))).map fun xs => ((DataW.agg (xs.map (·.1)) : DataW H), xs.flatMap (·.2)) else none) := fun _ _ _ _ => by simp only [DataW.trod, hu]
          rw [hd] at hx
          split at hx
          · rename_i hlen
            cases hm : (List.range m).mapM fun i => DataW.trod enc P w base sp held n e ((cs.drop (i * P.cellsOf e)).take (P.cellsOf e)) with
            | none => rw [hm] at hx; cases hx
            | some xs =>
              rw [hm] at hx
              cases hx
              refine ⟨?_, fun w' base' sp' held' => ?_⟩
              · simp only [List.flatMap_eq_nil_iff]
                exact mapM_all hm fun a _ y hy => (plain_any f hk hy).1
              · rw [hd, if_pos hlen, mapM_same hm fun a _ y hy => (plain_any f hk hy).2 w' base' sp' held']
                rfl
          · cases hx
        · cases h
      · rename_i fs hu
        split at h
        · rename_i k1 hk
          have hd : ∀ (w : World) (base : Nat) (sp : Nat → Bool) (held : Bool), DataW.trod enc P w base sp held (n + 1) t cs = (if cs.length = P.cellsOf t then (fs.toList.mapM fun f => DataW.trod enc P w base sp held n f.type ((cs.drop f.offset).take (P.cellsOf f.type))).map fun xs => ((DataW.agg (xs.map (·.1)) : DataW H), xs.flatMap (·.2)) else none) := fun _ _ _ _ => by simp only [DataW.trod, hu]
          rw [hd] at hx
          split at hx
          · rename_i hlen
            cases hm : fs.toList.mapM fun f => DataW.trod enc P w base sp held n f.type ((cs.drop f.offset).take (P.cellsOf f.type)) with
            | none => rw [hm] at hx; cases hx
            | some xs =>
              rw [hm] at hx
              cases hx
              have hfs := kindsF_each hk
              refine ⟨?_, fun w' base' sp' held' => ?_⟩
              · simp only [List.flatMap_eq_nil_iff]
                exact mapM_all hm fun a ha y hy => let ⟨ls, hl⟩ := hfs a ha; (plain_any f hl hy).1
              · rw [hd, if_pos hlen, mapM_same hm fun a ha y hy => let ⟨ls, hl⟩ := hfs a ha; (plain_any f hl hy).2 w' base' sp' held']
                rfl
          · cases hx
        · cases h
      · cases h
/-- A parameter of plain data, of two cells or more. -/
theorem open_plain {f : Nat} {t : TypeId} {ks : List Kd} (hk : kindsT P f t = some ks) (h2 : 2 ≤ ks.length) {w : World} {base : Nat} {sp : Nat → Bool} {held : Bool} {v : Value} {d : DataW H} {p : List MemPlace} (h : DataW.Trod enc P w base sp held t v d p) :
    p = [] ∧ (∃ cs, v = .agg ⟨cs⟩ ∧ okL ks cs) ∧ ∀ (w' : World) (base' : Nat) (sp' : Nat → Bool) (held' : Bool), DataW.Trod enc P w' base' sp' held' t v d [] := by
  obtain ⟨n, hn⟩ := h
  obtain ⟨h1, h3⟩ := plain_any f hk hn
  simp only at h1
  subst h1
  have h4 := plain_kinds f hk hn
  refine ⟨rfl, ?_, fun w' b' s' h' => ⟨n, h3 w' b' s' h'⟩⟩
  have h5 := h4.length
  cases v with
  | agg cs => exact ⟨cs.toList, rfl, h4⟩
  | _ => simp [Value.cells] at h5; omega
/-- A parameter of plain data, of one cell. -/
theorem shut_plain {f : Nat} {t : TypeId} {ks : List Kd} (hk : kindsT P f t = some ks) {w : World} {base : Nat} {sp : Nat → Bool} {held : Bool} {v : Value} {d : DataW H} {p : List MemPlace} (h : DataW.Trod enc P w base sp held t v d p) :
    p = [] ∧ ∀ (w' : World) (base' : Nat) (sp' : Nat → Bool) (held' : Bool), DataW.Trod enc P w' base' sp' held' t v d [] := by
  obtain ⟨n, hn⟩ := h
  obtain ⟨h1, h3⟩ := plain_any f hk hn
  simp only at h1
  subst h1
  exact ⟨rfl, fun w' b' s' h' => ⟨n, h3 w' b' s' h'⟩⟩
end
end Go.Proofs.YtbaiokfjoglmiaaDoor
end
section
namespace Go.Proofs.YtbaiokfjoglmiaaDoor
open Go.ChangeShapes Go.WideShapes Go.RowKit

def flatD {H : Type} : Nat → DataW H → List Value
  | 0, _ => []
  | _ + 1, .lit (.int k n) => [.int k n]
  | _ + 1, .lit (.bool b) => [.bool b]
  | _ + 1, .lit (.string s) => [.string ⟨s.toArray⟩]
  | f + 1, .agg l => l.flatMap (flatD f)
  | _ + 1, _ => []
theorem arr_flat {α : Type} {cs : List Value} {k : Nat} {F : α → List Value} : ∀ (xs : List α) (j : Nat), (∀ i y, xs[i]? = some y → (cs.drop ((j + i) * k)).take k = F y) → (cs.drop (j * k)).take (xs.length * k) = xs.flatMap F
  | [], j, h => by simp
  | a :: l, j, h => by
    have h1 := h 0 a rfl
    have h2 := arr_flat l (j + 1) fun i y hy => by
      have := h (i + 1) y (by simpa using hy)
      rw [show j + (i + 1) = j + 1 + i by omega] at this
      exact this
    rw [List.length_cons, show (l.length + 1) * k = k + l.length * k by rw [Nat.add_mul]; omega, List.take_add, List.drop_drop, show j * k + k = (j + 1) * k by rw [Nat.add_mul]; omega, h2]
    rw [Nat.add_zero] at h1
    rw [h1]
    rfl
theorem str_flat {α : Type} {g : TypeId → Option (List Kd)} {cells : TypeId → Nat} {cs : List Value} {tr : Field → Option α} {F : α → List Value} : ∀ (fs : List Field) (off : Nat) (ks : List Kd) (xs : List α), kindsF g cells fs off = some ks → fs.mapM tr = some xs →
    (∀ f ∈ fs, ∀ y, tr f = some y → (cs.drop f.offset).take (cells f.type) = F y) → (cs.drop off).take ks.length = xs.flatMap F
  | [], off, ks, xs, h, hx, _ => by
    simp [kindsF] at h
    simp at hx
    subst h hx
    simp
  | f :: fs, off, ks, xs, h, hx, hf => by
    simp only [List.mapM_cons] at hx
    cases ha : tr f with
    | none => rw [ha] at hx; cases hx
    | some y =>
      rw [ha] at hx
      cases hl : fs.mapM tr with
      | none => rw [hl] at hx; cases hx
      | some ys =>
        rw [hl] at hx
        cases hx
        simp only [kindsF] at h
        split at h
        · rename_i k1 hk
          split at h
          · rename_i hc
            split at h
            · rename_i k2 h2
              cases h
              have a1 := hf f (by simp) y ha
              rw [hc.1, hc.2] at a1
              have a2 := str_flat fs _ _ _ h2 hl fun q hq => hf q (by simp [hq])
              rw [List.length_append, List.take_add, List.drop_drop, a1, a2]
              rfl
            · cases h
          · cases h
        · cases h
theorem flatMap_map {α β γ : Type} (l : List α) (g : α → β) (F : β → List γ) : (l.map g).flatMap F = l.flatMap fun a => F (g a) := by
  induction l with
  | nil => rfl
  | cons a l ih => simp [ih]
variable {H : Type} {enc : TypeId × Value → H} {P : Program}
theorem plain_flat : ∀ (f : Nat) {t : TypeId} {ks : List Kd}, kindsT P f t = some ks → ∀ {w : World} {base : Nat} {sp : Nat → Bool} {held : Bool} {n : Nat} {cs : List Value} {x : DataW H × List MemPlace}, DataW.trod enc P w base sp held n t cs = some x → cs = flatD f x.1
  | 0, t, ks, h => by simp [kindsT] at h
  | f + 1, t, ks, h => by
    rename_i w base sp held n cs x
    intro hx
    have hk1 := plain_kinds (f + 1) h hx
    simp only [kindsT] at h
    cases n with
    | zero => simp [DataW.trod] at hx
    | succ n =>
      split at h
      · cases h
        rename_i hu
        obtain ⟨v, vs, rfl, ⟨y, rfl⟩, hn⟩ := hk1.cons
        obtain rfl := hn.nil
        simp only [DataW.trod, hu] at hx
        cases hx
        rfl
      · cases h
        rename_i k hu
        obtain ⟨v, vs, rfl, ⟨y, rfl, hw⟩, hn⟩ := hk1.cons
        obtain rfl := hn.nil
        simp only [DataW.trod, hu, hw, and_self, if_true] at hx
        cases hx
        rfl
      · cases h
        rename_i hu
        obtain ⟨v, vs, rfl, ⟨y, rfl, hw⟩, hn⟩ := hk1.cons
        obtain rfl := hn.nil
        simp only [DataW.trod, hu, hw, if_true] at hx
        cases hx
        rfl
      · rename_i m e hu
        split at h
        · rename_i k1 hk
          split at h
          · rename_i hc
            cases h
            obtain ⟨xs, q, _, hxx, hlen, hn, hall⟩ := DataW.trod_array hu hx
            have := arr_flat (cs := cs) (k := k1.length) (F := fun y : DataW H × List MemPlace => flatD f y.1) xs 0 fun i y hy => by
              have hi : i < m := by
                have := (List.getElem?_eq_some_iff.1 hy).1
                omega
              have h1 := (hall i hi).trans hy
              rw [hc.1] at h1
              rw [Nat.zero_add]
              exact plain_flat f hk h1
            rw [Nat.zero_mul, List.drop_zero, hn, ← hc.2, ← hlen, List.take_length] at this
            rw [hxx]
            simp only [flatD]
            rw [flatMap_map]
            exact this
          · cases h
        · cases h
      · rename_i fs hu
        split at h
        · rename_i k1 hk
          split at h
          · rename_i hc
            cases h
            have hx2 : (if cs.length = P.cellsOf t then (fs.toList.mapM fun f => DataW.trod enc P w base sp held n f.type ((cs.drop f.offset).take (P.cellsOf f.type))).map fun xs => ((DataW.agg (xs.map (·.1)) : DataW H), xs.flatMap (·.2)) else none) = some x := by
              rw [← hx]; simp only [DataW.trod, hu]
            split at hx2
            · rename_i hlen
              cases hm : fs.toList.mapM fun f => DataW.trod enc P w base sp held n f.type ((cs.drop f.offset).take (P.cellsOf f.type)) with
              | none => rw [hm] at hx2; cases hx2
              | some xs =>
                rw [hm] at hx2
                cases hx2
                have hfs := kindsF_each hk
                have := str_flat (cs := cs) (F := fun y : DataW H × List MemPlace => flatD f y.1) fs.toList 0 ks xs hk hm fun g hg y hy => by
                  obtain ⟨ls, hl⟩ := hfs g hg
                  exact plain_flat f hl hy
                rw [List.drop_zero, ← hc, ← hlen, List.take_length] at this
                simp only [flatD]
                rw [flatMap_map]
                exact this
            · cases hx2
          · cases h
        · cases h
      · cases h
end Go.Proofs.YtbaiokfjoglmiaaDoor
end
section
namespace Go.Proofs.YtbaiokfjoglmiaaDoor.Ex
open Go Go.RowKit
set_option maxRecDepth 1000000 in
theorem noNG : NoNG Tryd.prog := noNG_ok (by kernel_rfl)
end Go.Proofs.YtbaiokfjoglmiaaDoor.Ex
end
section
namespace Go.Proofs.YtbaiokfjoglmiaaDoor.Ex
open Go Go.RowKit Go.ChangeShapes Go.WideShapes Go.WideMaps Go.WideElems
def fmCs : List Value := flatD (H := Unit) 4 Rows.laid_firewall_codec_forms
def h12 : List AO := List.replicate 0 dead ++ [⟨true, some GM, fmCs⟩]
def TabAt (w : World) : Prop := ∃ t fr, w.heap[0]? = some (.cells ⟨fmCs⟩ t fr)
theorem laid_of_tab {w : World} (h : TabAt w) : Laid h12 w := Laid.one rfl h
theorem gFm : Tryd.prog.globalNamed "firewall/codec.forms" = some 0 := by kernel_rfl
theorem tFm : (Tryd.prog.globals[0]?).map (·.type) = some 61 := by kernel_rfl
theorem fm_flat {H : Type} : flatD (H := H) 4 Rows.laid_firewall_codec_forms = fmCs := rfl
theorem tab_of_laid {W : World} (h : laidMetH Tryd.prog [("firewall/codec.forms", Rows.laid_firewall_codec_forms)] W) : TabAt W := by
  rw [MakeChecks.laidMetH_plain _ _ _ (by kernel_rfl)] at h
  obtain ⟨ps, ⟨g0, t0, cs0, f0, p0, q0, hg0, ht0, hv0, hd0, _⟩, _⟩ := h
  obtain rfl := Option.some.inj (gFm.symm.trans hg0)
  obtain rfl := Option.some.inj (tFm.symm.trans ht0)
  have key := plain_flat 4 (ks := (List.replicate 22 [Kd.i .u16, .b, .i .u8, .i .u8, .i .u8, .i .u8]).flatten) (by kernel_rfl) hd0
  have hkey : cs0 = ⟨fmCs⟩ := Array.toList_inj.1 (key.trans fm_flat)
  subst hkey
  simp only [World.var?, gFm, Option.bind_some] at hv0
  split at hv0
  · rename_i cs t fr hh
    obtain rfl := Option.some.inj hv0
    exact ⟨t, fr, hh⟩
  · cases hv0
set_option maxHeartbeats 0 in
set_option maxRecDepth 1000000 in
theorem done_any (w : World) (hL : Laid h12 w) : Calls Tryd.prog 24 #[] w fun e w' => e = .returned (.bool true) ∧ Gr w w' :=
  reckonG_ok noNG (noHook_ok _) 100000 300 h12 rfl rfl (by kernel_rfl) w hL
end Go.Proofs.YtbaiokfjoglmiaaDoor.Ex
end
section
namespace Go.Proofs.YtbaiokfjoglmiaaDoor.Ex
open Go Go.RowKit
def eqM : Value → Value → Bool
  | .agg ⟨a⟩, .agg ⟨b⟩ => eqL a b
  | x, y => eqI x y
theorem eqM_ok {x y : Value} (h : eqM x y = true) : x = y := by
  unfold eqM at h
  split at h
  · rw [eqL_ok h]
  · exact eqI_ok h
def eqML : List Value → List Value → Bool
  | [], [] => true
  | x :: xs, y :: ys => eqM x y && eqML xs ys
  | _, _ => false
theorem eqML_ok : ∀ {xs ys : List Value}, eqML xs ys = true → xs = ys
  | [], [], _ => rfl
  | x :: xs, y :: ys, h => by
    simp only [eqML, Bool.and_eq_true] at h
    rw [eqM_ok h.1, eqML_ok h.2]
  | [], _ :: _, h => by cases h
  | _ :: _, [], h => by cases h
/-- Of one function: arguments, and what it comes to. -/
abbrev Tab := List (List Value × Value)
def tabFind : Tab → List Value → Option Value
  | [], _ => none
  | e :: r, args => if eqML args e.1 then some e.2 else tabFind r args
theorem tabFind_mem : ∀ {t : Tab} {args : List Value} {v : Value}, tabFind t args = some v → (args, v) ∈ t
  | [], _, _, h => by cases h
  | e :: r, args, v, h => by
    simp only [tabFind] at h
    split at h
    · rename_i he
      cases h
      rw [eqML_ok he]
      simp
    · exact List.mem_cons_of_mem _ (tabFind_mem h)
def TabOk (P : Program) (h0 : List AO) (g : FuncId) : Tab → Prop
  | [] => True
  | e :: r => (∀ w, Laid h0 w → Calls P g ⟨e.1⟩ w fun x w' => x = .returned e.2 ∧ Gr w w') ∧ TabOk P h0 g r
theorem TabOk.at {P : Program} {h0 : List AO} {g : FuncId} : ∀ {t : Tab}, TabOk P h0 g t → ∀ e ∈ t, ∀ w, Laid h0 w → Calls P g ⟨e.1⟩ w fun x w' => x = .returned e.2 ∧ Gr w w'
  | [], _, e, he => by cases he
  | a :: r, h, e, he => by
    rcases List.mem_cons.1 he with q | q
    · rw [q]; exact h.1
    · exact h.2.at e q
theorem TabOk.app {P : Program} {h0 : List AO} {g : FuncId} : ∀ {s t : Tab}, TabOk P h0 g s → TabOk P h0 g t → TabOk P h0 g (s ++ t)
  | [], _, _, h => h
  | _ :: _, _, a, h => ⟨a.1, a.2.app h⟩
def memoHook (h0 : List AO) (g : FuncId) (t : Tab) : Hook := fun f args h =>
  if Nat.beq f g then
    match tabFind t args with
    | some v => if hasG h0 h then some (v, []) else none
    | none => none
  else none
theorem memoHook_ok {P : Program} {h0 : List AO} (hf : h0.all (fun o => !o.live || (match o.es with | some e => Nat.beq e GM | none => false) && o.cs.all flat) = true) {g : FuncId} {t : Tab} (ht : TabOk P h0 g t) : HookOk P (memoHook h0 g t) := by
  intro f args h v cs hv _ wb k s w H
  unfold memoHook at hv
  split at hv
  · rename_i hc
    obtain rfl := Nat.eq_of_beq_eq_true hc
    split at hv
    · rename_i v' hm
      split at hv
      · rename_i hg
        cases hv
        exact ht.at _ (tabFind_mem hm) w (H.laid hg hf)
      · cases hv
    · cases hv
  · cases hv
def orHook (a b : Hook) : Hook := fun f args h =>
  match a f args h with
  | some r => some r
  | none => b f args h
theorem orHook_ok {P : Program} {a b : Hook} (ha : HookOk P a) (hb : HookOk P b) : HookOk P (orHook a b) := by
  intro f args h v cs hv
  unfold orHook at hv
  split at hv
  · rename_i r hr
    cases hv
    exact ha f args h v cs hr
  · exact hb f args h v cs hv
/-- A call of no arguments, told by its contract. -/
def oneHook (h0 : List AO) (g : FuncId) (v : Value) : Hook := memoHook h0 g [([], v)]
end Go.Proofs.YtbaiokfjoglmiaaDoor.Ex
end
section
namespace Go.Proofs.YtbaiokfjoglmiaaDoor.Ex
open Go Go.RowKit
/-- Whether a condition holds of flags. -/
def takenS (k : Int) (z s c o : Bool) : Bool :=
  if k = 2 then c else if k = 3 then !c else if k = 4 then z else if k = 5 then !z else if k = 6 then c || z else if k = 7 then !(c || z)
  else if k = 12 then s != o else if k = 13 then !(s != o) else if k = 14 then z || (s != o) else if k = 15 then !(z || (s != o)) else false
/-- A state, as an argument. -/
def stA (r0 r1 r2 r3 r4 r5 r6 r7 r8 r9 r10 r11 r12 r13 r14 r15 : Int) (z s c o : Bool) (pc : Int) : Value := .agg ⟨[.int .u64 r0, .int .u64 r1, .int .u64 r2, .int .u64 r3, .int .u64 r4, .int .u64 r5, .int .u64 r6, .int .u64 r7, .int .u64 r8, .int .u64 r9, .int .u64 r10, .int .u64 r11, .int .u64 r12, .int .u64 r13, .int .u64 r14, .int .u64 r15, .bool z, .bool s, .bool c, .bool o, .int .u64 pc]⟩
def tkOrc : Orc := fun f t _ =>
  if Nat.beq f 25 && (Nat.beq t 7 || Nat.beq t 11 || Nat.beq t 15 || Nat.beq t 23 || Nat.beq t 30 || Nat.beq t 41 || Nat.beq t 42 || Nat.beq t 43 || Nat.beq t 44 || Nat.beq t 45) then some (.bool false)
  else if Nat.beq f 26 && (Nat.beq t 13 || Nat.beq t 17 || Nat.beq t 22 || Nat.beq t 26 || Nat.beq t 31 || Nat.beq t 39 || Nat.beq t 49 || Nat.beq t 52 || Nat.beq t 56 || Nat.beq t 63) then some (.bool false)
  else none
set_option maxHeartbeats 0 in
set_option maxRecDepth 1000000 in
theorem taken_any (k r0 r1 r2 r3 r4 r5 r6 r7 r8 r9 r10 r11 r12 r13 r14 r15 : Int) (z s c o : Bool) (pc : Int) (w : World) : Calls Tryd.prog 25 #[.int .i64 k, stA r0 r1 r2 r3 r4 r5 r6 r7 r8 r9 r10 r11 r12 r13 r14 r15 z s c o pc] w fun e w' => e = .returned (.bool (takenS k z s c o)) ∧ Gr w w' := by
  by_cases h2 : k = 2
  · subst h2
    exact reckonG_ok noNG (noHook_ok _) 100000 300 [] rfl rfl (by kernel_rfl) w (Laid.nil w)
  by_cases h3 : k = 3
  · subst h3
    exact reckonG_ok noNG (noHook_ok _) 100000 300 [] rfl rfl (by kernel_rfl) w (Laid.nil w)
  by_cases h4 : k = 4
  · subst h4
    exact reckonG_ok noNG (noHook_ok _) 100000 300 [] rfl rfl (by kernel_rfl) w (Laid.nil w)
  by_cases h5 : k = 5
  · subst h5
    exact reckonG_ok noNG (noHook_ok _) 100000 300 [] rfl rfl (by kernel_rfl) w (Laid.nil w)
  by_cases h6 : k = 6
  · subst h6
    cases c <;> exact reckonG_ok noNG (noHook_ok _) 100000 300 [] rfl rfl (by kernel_rfl) w (Laid.nil w)
  by_cases h7 : k = 7
  · subst h7
    cases c <;> exact reckonG_ok noNG (noHook_ok _) 100000 300 [] rfl rfl (by kernel_rfl) w (Laid.nil w)
  by_cases h12 : k = 12
  · subst h12
    cases s <;> cases o <;> exact reckonG_ok noNG (noHook_ok _) 100000 300 [] rfl rfl (by kernel_rfl) w (Laid.nil w)
  by_cases h13 : k = 13
  · subst h13
    cases s <;> cases o <;> exact reckonG_ok noNG (noHook_ok _) 100000 300 [] rfl rfl (by kernel_rfl) w (Laid.nil w)
  by_cases h14 : k = 14
  · subst h14
    cases z <;> cases s <;> cases o <;> exact reckonG_ok noNG (noHook_ok _) 100000 300 [] rfl rfl (by kernel_rfl) w (Laid.nil w)
  by_cases h15 : k = 15
  · subst h15
    cases z <;> cases s <;> cases o <;> exact reckonG_ok noNG (noHook_ok _) 100000 300 [] rfl rfl (by kernel_rfl) w (Laid.nil w)
  have e : takenS k z s c o = false := by simp [takenS, h2, h3, h4, h5, h6, h7, h12, h13, h14, h15]
  rw [e]
  refine reckonT_ok noNG (noHook_ok _) tkOrc 100000 300 [] (cs := [(b2i (decide (k = 2)), 0), (b2i (decide (k = 4)), 0), (b2i (decide (k = 6)), 0), (b2i (decide (k = 12)), 0), (b2i (decide (k = 14)), 0), (b2i (decide (k = 3)), 0), (b2i (decide (k = 5)), 0), (b2i (decide (k = 7)), 0), (b2i (decide (k = 13)), 0), (b2i (decide (k = 15)), 0)]) rfl rfl (by kernel_rfl) ?_ w (Laid.nil w)
  simp [b2i, h2, h3, h4, h5, h6, h7, h12, h13, h14, h15]
set_option maxHeartbeats 0 in
set_option maxRecDepth 1000000 in
theorem refTaken_any (k r0 r1 r2 r3 r4 r5 r6 r7 r8 r9 r10 r11 r12 r13 r14 r15 : Int) (z s c o : Bool) (pc : Int) (w : World) : Calls Tryd.prog 26 #[.int .i64 k, stA r0 r1 r2 r3 r4 r5 r6 r7 r8 r9 r10 r11 r12 r13 r14 r15 z s c o pc] w fun e w' => e = .returned (.bool (takenS k z s c o)) ∧ Gr w w' := by
  by_cases h2 : k = 2
  · subst h2
    exact reckonG_ok noNG (noHook_ok _) 100000 300 [] rfl rfl (by kernel_rfl) w (Laid.nil w)
  by_cases h3 : k = 3
  · subst h3
    exact reckonG_ok noNG (noHook_ok _) 100000 300 [] rfl rfl (by kernel_rfl) w (Laid.nil w)
  by_cases h4 : k = 4
  · subst h4
    exact reckonG_ok noNG (noHook_ok _) 100000 300 [] rfl rfl (by kernel_rfl) w (Laid.nil w)
  by_cases h5 : k = 5
  · subst h5
    exact reckonG_ok noNG (noHook_ok _) 100000 300 [] rfl rfl (by kernel_rfl) w (Laid.nil w)
  by_cases h6 : k = 6
  · subst h6
    cases c <;> exact reckonG_ok noNG (noHook_ok _) 100000 300 [] rfl rfl (by kernel_rfl) w (Laid.nil w)
  by_cases h7 : k = 7
  · subst h7
    cases c <;> exact reckonG_ok noNG (noHook_ok _) 100000 300 [] rfl rfl (by kernel_rfl) w (Laid.nil w)
  by_cases h12 : k = 12
  · subst h12
    cases s <;> cases o <;> exact reckonG_ok noNG (noHook_ok _) 100000 300 [] rfl rfl (by kernel_rfl) w (Laid.nil w)
  by_cases h13 : k = 13
  · subst h13
    cases s <;> cases o <;> exact reckonG_ok noNG (noHook_ok _) 100000 300 [] rfl rfl (by kernel_rfl) w (Laid.nil w)
  by_cases h14 : k = 14
  · subst h14
    cases z <;> cases s <;> cases o <;> exact reckonG_ok noNG (noHook_ok _) 100000 300 [] rfl rfl (by kernel_rfl) w (Laid.nil w)
  by_cases h15 : k = 15
  · subst h15
    cases z <;> cases s <;> cases o <;> exact reckonG_ok noNG (noHook_ok _) 100000 300 [] rfl rfl (by kernel_rfl) w (Laid.nil w)
  have e : takenS k z s c o = false := by simp [takenS, h2, h3, h4, h5, h6, h7, h12, h13, h14, h15]
  rw [e]
  refine reckonT_ok noNG (noHook_ok _) tkOrc 100000 300 [] (cs := [(b2i (decide (k = 2)), 0), (b2i (decide (k = 3)), 0), (b2i (decide (k = 4)), 0), (b2i (decide (k = 5)), 0), (b2i (decide (k = 6)), 0), (b2i (decide (k = 7)), 0), (b2i (decide (k = 12)), 0), (b2i (decide (k = 13)), 0), (b2i (decide (k = 14)), 0), (b2i (decide (k = 15)), 0)]) rfl rfl (by kernel_rfl) ?_ w (Laid.nil w)
  simp [b2i, h2, h3, h4, h5, h6, h7, h12, h13, h14, h15]
/-- Whether a condition holds, told by its contract. -/
def takenHook : Hook := fun f args _ =>
  if Nat.beq f 25 || Nat.beq f 26 then
    match args with
    | [.int .i64 k, .agg ⟨[.int .u64 _, .int .u64 _, .int .u64 _, .int .u64 _, .int .u64 _, .int .u64 _, .int .u64 _, .int .u64 _, .int .u64 _, .int .u64 _, .int .u64 _, .int .u64 _, .int .u64 _, .int .u64 _, .int .u64 _, .int .u64 _, .bool z, .bool s, .bool c, .bool o, .int .u64 _]⟩] => some (.bool (takenS k z s c o), [])
    | _ => none
  else none
theorem takenHook_ok : HookOk Tryd.prog takenHook := by
  intro f args h v cs hv _ wb k s w H
  unfold takenHook at hv
  split at hv
  · rename_i hc
    simp only [Bool.or_eq_true] at hc
    split at hv
    · cases hv
      rcases hc with hc | hc
      · obtain rfl := Nat.eq_of_beq_eq_true hc
        exact taken_any _ _ _ _ _ _ _ _ _ _ _ _ _ _ _ _ _ _ _ _ _ _ w
      · obtain rfl := Nat.eq_of_beq_eq_true hc
        exact refTaken_any _ _ _ _ _ _ _ _ _ _ _ _ _ _ _ _ _ _ _ _ _ _ w
    · cases hv
  · cases hv
/-- The chapter's examples, told by their contract. -/
def doneHook : Hook := fun f args h => if Nat.beq f 24 && hasG h12 h && args.isEmpty then some (.bool true, []) else none
theorem doneHook_ok : HookOk Tryd.prog doneHook := by
  intro f args h v cs hv _ wb k s w H
  unfold doneHook at hv
  split at hv
  · rename_i hc
    cases hv
    simp only [Bool.and_eq_true] at hc
    obtain rfl := Nat.eq_of_beq_eq_true hc.1.1
    obtain rfl : args = [] := by simpa using hc.2
    exact done_any w (H.laid hc.1.2 rfl)
  · cases hv
def lawTkOrc : Orc := fun f t _ => if Nat.beq f 9 then (if Nat.beq t 16 then some (.bool false) else if Nat.beq t 23 then some (.bool true) else none) else none
set_option maxHeartbeats 0 in
set_option maxRecDepth 1000000 in
theorem cpuTaken_walk (k r0 r1 r2 r3 r4 r5 r6 r7 r8 r9 r10 r11 r12 r13 r14 r15 : Int) (z s c o : Bool) (pc : Int) (w : World) (hT : TabAt w) : Calls Tryd.prog 9 #[.int .i64 k, stA r0 r1 r2 r3 r4 r5 r6 r7 r8 r9 r10 r11 r12 r13 r14 r15 z s c o pc] w fun e w' => e = .returned (.bool true) ∧ Gr w w' := by
  refine reckonT_ok noNG (hk := orHook takenHook doneHook) (orHook_ok takenHook_ok doneHook_ok) lawTkOrc 100000 300 h12
    (cs := [(b2i (takenS (-1) z s c o != takenS (-1) z s c o), 0), (b2i (takenS (0) z s c o != takenS (0) z s c o), 0), (b2i (takenS (1) z s c o != takenS (1) z s c o), 0), (b2i (takenS (2) z s c o != takenS (2) z s c o), 0), (b2i (takenS (3) z s c o != takenS (3) z s c o), 0), (b2i (takenS (4) z s c o != takenS (4) z s c o), 0), (b2i (takenS (5) z s c o != takenS (5) z s c o), 0), (b2i (takenS (6) z s c o != takenS (6) z s c o), 0), (b2i (takenS (7) z s c o != takenS (7) z s c o), 0), (b2i (takenS (8) z s c o != takenS (8) z s c o), 0), (b2i (takenS (9) z s c o != takenS (9) z s c o), 0), (b2i (takenS (10) z s c o != takenS (10) z s c o), 0), (b2i (takenS (11) z s c o != takenS (11) z s c o), 0), (b2i (takenS (12) z s c o != takenS (12) z s c o), 0), (b2i (takenS (13) z s c o != takenS (13) z s c o), 0), (b2i (takenS (14) z s c o != takenS (14) z s c o), 0), (b2i (takenS (15) z s c o != takenS (15) z s c o), 0), (b2i (takenS (16) z s c o != takenS (16) z s c o), 0), (b2i (takenS (17) z s c o != takenS (17) z s c o), 0), (b2i (takenS k z s c o == takenS k z s c o), 1)]) rfl rfl (by kernel_rfl) ?_ w (laid_of_tab hT)
  simp [b2i]
end Go.Proofs.YtbaiokfjoglmiaaDoor.Ex
end
section
namespace Go.Proofs.YtbaiokfjoglmiaaDoor
open Go.RowKit

theorem run_insert_new {P : Program} {T K E : TypeId} {q : IntKind} (hT : P.underlying T = some (.map K E)) (hK : P.underlying K = some (.int q)) (w : World) (es : Array MapEntry) (c : Nat) (x : Int) (v : Value)
    (hn : Instr.findNow (.int q) (.int q x) es.toList 0 = some none) :
    (Instr.mapUpdate T (.map (some w.heap.size)) (.int q x) v).run P (w.alloc (.map es c)) = .ok () (w.alloc (.map (es.push ⟨.int q x, v, c⟩) (c + 1))) := by
  have hb := (MapKept.heap_alloc w (.map es c)).1
  simp [Instr.mapUpdate, run_underlying hT, MapKept.run_getObj_map hb, MapKept.run_checkKey hK (show MapKept.IsKey (.int q) (.int q x) from rfl), MapKept.run_findKey hK hn, MapKept.run_setObj_map _ hb, Result.andThen]
  have hp : ∀ (h : Array Obj) (x y : Obj), (h.push x).setIfInBounds h.size y = h.push y := by
    intro h x y
    apply Array.toList_inj.1
    simp
  show ({ w with heap := (w.heap.push (.map es c)).setIfInBounds w.heap.size (.map (es.push ⟨.int q x, v, c⟩) (c + 1)) } : World) = _
  rw [hp]
  rfl

theorem run_lookup_lit {P : Program} {T K E : TypeId} {q : IntKind} (hT : P.underlying T = some (.map K E)) (hK : P.underlying K = some (.int q)) (w : World) (b : Nat) (es : Array MapEntry) (c : Nat) (x : Int) (i : Nat) (v : Value)
    (hb : w.heap[b]? = some (.map es c)) (hn : Instr.findNow (.int q) (.int q x) es.toList 0 = some (some (i, v))) :
    (Instr.lookup T (.map (some b)) (.int q x) false).run P w = .ok v w := by
  simp [Instr.lookup, run_underlying hT, MapKept.run_getObj_map hb, MapKept.run_checkKey hK (show MapKept.IsKey (.int q) (.int q x) from rfl), MapKept.run_findKey hK hn, Result.andThen]
theorem run_lookup_none {P : Program} {T K E : TypeId} {q : IntKind} (hT : P.underlying T = some (.map K E)) (hK : P.underlying K = some (.int q)) (w : World) (b : Nat) (es : Array MapEntry) (c : Nat) (x : Int) (z : Value)
    (hb : w.heap[b]? = some (.map es c)) (hn : Instr.findNow (.int q) (.int q x) es.toList 0 = some none) (hz : (zeroValue E).run P w = .ok z w) :
    (Instr.lookup T (.map (some b)) (.int q x) false).run P w = .ok z w := by
  simp [Instr.lookup, run_underlying hT, MapKept.run_getObj_map hb, MapKept.run_checkKey hK (show MapKept.IsKey (.int q) (.int q x) from rfl), MapKept.run_findKey hK hn, hz, Result.andThen]
end Go.Proofs.YtbaiokfjoglmiaaDoor
end
section
namespace Go.Proofs.YtbaiokfjoglmiaaDoor

def lowS (v : BitVec 64) (b : Int) : BitVec 64 := if b ≤ 0 then 0 else if 64 ≤ b then v else v &&& (1#64 <<< b.toNat - 1#64)
def signS (v : BitVec 64) (b : Int) : BitVec 64 := if b ≤ 0 then 0 else if 64 ≤ b then v else (v <<< (64 - b).toNat).sshiftRight (64 - b).toNat

/-- The number of the first k of some bytes. -/
def numF (f : Nat → BitVec 8) : Nat → BitVec 64
  | 0 => 0#64
  | k + 1 => numF f k ||| ((f k).setWidth 64 <<< (8 * k))
def byteAt (s : ByteArray) (i : Nat) : BitVec 8 := (s.data.toList.getD i 0).toBitVec
def numS (s : ByteArray) : BitVec 64 := numF (byteAt s) (min s.size 8)
theorem numF_succ (f : Nat → BitVec 8) (k : Nat) : numF f (k + 1) = numF f k ||| ((f k).setWidth 64 <<< (8 * k)) := rfl
theorem byteAt_get (s : ByteArray) (k : Nat) (h : k < s.size) : BitVec.ofNat 64 s[k].toNat = (byteAt s k).setWidth 64 := by
  unfold byteAt
  have h' : k < s.data.toList.length := by simpa using h
  rw [List.getD_eq_getElem?_getD, List.getElem?_eq_getElem h']
  rw [← BitVec.ofNat_toNat]; rfl
theorem numS_eq (s : ByteArray) (k : Nat) (h : k = min s.size 8) : numF (byteAt s) k = numS s := by rw [h]; rfl

theorem numF_bit (f : Nat → BitVec 8) (k j : Nat) : (numF f k).getLsbD j = (decide (j < 64) && decide (j < 8 * k) && (f (j / 8)).getLsbD (j % 8)) := by
  induction k with
  | zero => simp [numF]
  | succ k ih =>
    rw [numF_succ, BitVec.getLsbD_or, ih, BitVec.getLsbD_shiftLeft, BitVec.getLsbD_setWidth]
    by_cases h64 : j < 64
    · by_cases h1 : j < 8 * k
      · have h2 : j < 8 * (k + 1) := by omega
        simp [h64, h1, h2]
      · by_cases h2 : j < 8 * (k + 1)
        · have e1 : j / 8 = k := by omega
          have e2 : j - 8 * k = j % 8 := by omega
          have e3 : j % 8 < 64 := by omega
          simp [h64, h1, h2, e1, e2, e3]
        · have e2 : 8 ≤ j - 8 * k := by omega
          simp [h64, h1, h2, BitVec.getLsbD_of_ge _ _ e2]
    · simp [h64]

/-- The number of m bytes from the place 'lo' on, from the highest one. -/
def numH (f : Nat → BitVec 8) (lo : Nat) : Nat → BitVec 64
  | 0 => 0#64
  | m + 1 => numH f (lo + 1) m <<< 8 ||| (f lo).setWidth 64
theorem numH_bit (f : Nat → BitVec 8) (m : Nat) : ∀ lo j, (numH f lo m).getLsbD j = (decide (j < 64) && decide (j < 8 * m) && (f (lo + j / 8)).getLsbD (j % 8)) := by
  induction m with
  | zero => intro lo j; simp [numH]
  | succ m ih =>
    intro lo j
    rw [numH, BitVec.getLsbD_or, BitVec.getLsbD_shiftLeft, ih, BitVec.getLsbD_setWidth]
    by_cases h64 : j < 64
    · by_cases h8 : j < 8
      · have e1 : j / 8 = 0 := by omega
        have e2 : j % 8 = j := by omega
        have e3 : j < 8 * (m + 1) := by omega
        simp [h64, h8, e1, e2, e3]
      · have e1 : lo + 1 + (j - 8) / 8 = lo + j / 8 := by omega
        have e2 : (j - 8) % 8 = j % 8 := by omega
        have e4 : j - 8 < 64 := by omega
        have e5 : (f lo).getLsbD j = false := BitVec.getLsbD_of_ge _ _ (by omega)
        by_cases h3 : j < 8 * (m + 1)
        · have e3 : j - 8 < 8 * m := by omega
          simp [h64, h8, e1, e2, e3, e4, e5, h3]
        · have e3 : ¬ j - 8 < 8 * m := by omega
          simp [h64, h8, e3, e5, h3]
    · simp [h64]
theorem numF_numH (f : Nat → BitVec 8) (m : Nat) : numH f 0 m = numF f m := by
  apply BitVec.eq_of_getLsbD_eq
  intro i hi
  rw [numF_bit, numH_bit, Nat.zero_add]
theorem mul256_add (v : BitVec 64) (c : BitVec 8) : v * 256#64 + c.setWidth 64 = v <<< 8 ||| c.setWidth 64 := by
  have e : v * 256#64 = v <<< 8 := by
    rw [BitVec.shiftLeft_eq_mul_twoPow]; congr 1
  rw [e]
  apply BitVec.add_eq_or_of_and_eq_zero
  apply BitVec.eq_of_getLsbD_eq
  intro i hi
  simp only [BitVec.getLsbD_and, BitVec.getLsbD_shiftLeft, BitVec.getLsbD_setWidth, BitVec.getLsbD_zero]
  by_cases h : i < 8
  · simp [h]
  · simp [BitVec.getLsbD_of_ge c i (by omega)]
theorem numH_step (f : Nat → BitVec 8) (lo m : Nat) : numH f (lo + 1) m * 256#64 + (f lo).setWidth 64 = numH f lo (m + 1) := by
  rw [mul256_add]; rfl

def byteOf (v : BitVec 64) (i : Nat) : BitVec 8 := (v >>> (8 * i)).setWidth 8
def bytesN (v : BitVec 64) (n : Nat) : ByteArray := ⟨((List.range n).map fun i => UInt8.ofBitVec (byteOf v i)).toArray⟩
theorem bytesN_size (v : BitVec 64) (n : Nat) : (bytesN v n).size = n := by
  show (bytesN v n).data.size = n
  simp [bytesN]
theorem bytesN_list (v : BitVec 64) (n : Nat) : (bytesN v n).data.toList = (List.range n).map fun i => UInt8.ofBitVec (byteOf v i) := by simp [bytesN]
theorem bytesN_get (v : BitVec 64) (n i : Nat) (h : i < (bytesN v n).size) : ((bytesN v n)[i].toNat : Int) = N (byteOf v i) := by
  have e : (bytesN v n)[i] = (bytesN v n).data[i]'(by simpa using h) := rfl
  rw [e]
  simp [bytesN, N]
theorem byteAt_bytesN (v : BitVec 64) (n i : Nat) (h : i < n) : byteAt (bytesN v n) i = byteOf v i := by
  unfold byteAt
  rw [bytesN_list, List.getD_eq_getElem?_getD]
  simp [h]

/-- nums.Bytes: the text of a number's n lowest bytes. -/
def bytesS (v : BitVec 64) (n : Int) : ByteArray := if n < 0 ∨ 8 < n then ⟨#[]⟩ else bytesN v n.toNat

theorem low_mod (v : BitVec 64) (b : Nat) : v % (1#64 <<< b) = v &&& (1#64 <<< b - 1#64) ∨ 64 ≤ b := by
  by_cases h : b < 64
  · left
    apply BitVec.eq_of_toNat_eq
    have hp : 2 ^ b < 2 ^ 64 := Nat.pow_lt_pow_right (by decide) h
    have e1 : (1#64 <<< b).toNat = 2 ^ b := by
      rw [BitVec.toNat_shiftLeft]; simp [Nat.shiftLeft_eq]; exact hp
    have hp0 : 0 < 2 ^ b := Nat.two_pow_pos b
    have e2 : (1#64 <<< b - 1#64).toNat = 2 ^ b - 1 := by
      rw [BitVec.toNat_sub, e1]; simp; omega
    rw [BitVec.toNat_umod, BitVec.toNat_and, e1, e2, Nat.and_two_pow_sub_one_eq_mod]
  · right; omega
theorem low_of_mod (v : BitVec 64) (b : Int) (h0 : 0 < b) (h1 : b < 64) : v % (1#64 <<< b.toNat) = lowS v b := by
  unfold lowS
  rw [if_neg (by omega), if_neg (by omega)]
  exact (low_mod v b.toNat).resolve_right (by omega)
theorem low_toNat (v : BitVec 64) (b : Int) (h0 : 0 < b) (h1 : b < 64) : (lowS v b).toNat = v.toNat % 2 ^ b.toNat := by
  rw [← low_of_mod v b h0 h1, BitVec.toNat_umod, BitVec.toNat_shiftLeft]
  have hp : 2 ^ b.toNat < 2 ^ 64 := Nat.pow_lt_pow_right (by decide) (by omega)
  simp only [BitVec.toNat_ofNat, Nat.shiftLeft_eq]
  rw [Nat.mod_eq_of_lt (a := 1) (by decide), Nat.one_mul, Nat.mod_eq_of_lt hp]
theorem low_bit (v : BitVec 64) (b : Int) (i : Nat) : (lowS v b).getLsbD i = (decide ((i : Int) < b) && v.getLsbD i) := by
  by_cases h0 : b ≤ 0
  · unfold lowS; rw [if_pos h0]
    have : ¬ (i : Int) < b := by omega
    simp [this]
  · by_cases h1 : 64 ≤ b
    · unfold lowS; rw [if_neg h0, if_pos h1]
      by_cases hi : i < 64
      · have : (i : Int) < b := by omega
        simp [this]
      · simp [BitVec.getLsbD_of_ge v i (by omega)]
    · have e := low_toNat v b (by omega) (by omega)
      rw [BitVec.getLsbD, e, Nat.testBit_mod_two_pow]
      congr 1
      simp only [decide_eq_decide]; omega
theorem sign_bit (v : BitVec 64) (b : Int) (i : Nat) (hb : 0 < b) (hi : i < 64) : (signS v b).getLsbD i = if (i : Int) < b then v.getLsbD i else v.getLsbD (b.toNat - 1) := by
  unfold signS
  rw [if_neg (by omega)]
  by_cases h1 : 64 ≤ b
  · rw [if_pos h1, if_pos (by omega)]
  · rw [if_neg h1]
    obtain ⟨n, rfl⟩ := Int.eq_ofNat_of_zero_le (show 0 ≤ b by omega)
    generalize hk' : (64 - (n : Int)).toNat = k
    have hk : k + n = 64 := by omega
    clear hk'
    rw [Int.toNat_natCast, BitVec.getLsbD_sshiftRight]
    by_cases h2 : i < n
    · have h3 : k + i < 64 := by omega
      have h4 : ¬ 64 ≤ i := by omega
      have h5 : (i : Int) < n := by omega
      rw [if_pos h3, if_pos h5, BitVec.getLsbD_shiftLeft]
      simp only [h3, h4, show ¬ k + i < k from by omega, Nat.add_sub_cancel_left, decide_false, decide_true, Bool.not_false, Bool.true_and]
    · have h3 : ¬ k + i < 64 := by omega
      have h4 : ¬ 64 ≤ i := by omega
      have h5 : ¬ (i : Int) < n := by omega
      have h6 : ¬ 63 < k := by omega
      have e : 63 - k = n - 1 := by omega
      rw [if_neg h3, if_neg h5, BitVec.msb_eq_getLsbD_last, BitVec.getLsbD_shiftLeft]
      simp only [h4, h6, decide_false, decide_true, Bool.not_false, Bool.true_and, show 64 - 1 < 64 from by decide, show 64 - 1 - k = n - 1 from by omega]
theorem low_lt_iff (v : BitVec 64) (b : Int) (h0 : 0 < b) (h1 : b < 64) : (N (lowS v b) < N (1#64 <<< (b - 1).toNat)) ↔ v.getLsbD (b.toNat - 1) = false := by
  obtain ⟨n, rfl⟩ : ∃ n : Nat, b = (n : Int) + 1 := ⟨(b - 1).toNat, by omega⟩
  have hp : 2 ^ n < 2 ^ 64 := Nat.pow_lt_pow_right (by decide) (by omega)
  have e1 : (1#64 <<< ((n : Int) + 1 - 1).toNat).toNat = 2 ^ n := by
    rw [show ((n : Int) + 1 - 1).toNat = n by omega, BitVec.toNat_shiftLeft]; simp [Nat.shiftLeft_eq]; exact hp
  have e2 := low_toNat v ((n : Int) + 1) h0 h1
  rw [show ((n : Int) + 1).toNat = n + 1 by omega] at e2 ⊢
  unfold N
  rw [e1, e2, Nat.add_sub_cancel, BitVec.getLsbD, Nat.mod_pow_succ]
  have h3 : v.toNat % 2 ^ n < 2 ^ n := Nat.mod_lt _ (Nat.two_pow_pos n)
  rw [Nat.testBit_eq_decide_div_mod_eq]
  have h4 : v.toNat / 2 ^ n % 2 = 0 ∨ v.toNat / 2 ^ n % 2 = 1 := by omega
  rcases h4 with h4 | h4
  · simp [h4]; exact_mod_cast h3
  · simp [h4]; omega
theorem sign_of_low (v : BitVec 64) (b : Int) (h0 : 0 < b) (h1 : b < 64) :
    signS v b = if v.getLsbD (b.toNat - 1) = false then lowS v b else lowS v b - 1#64 <<< b.toNat := by
  have hlow : ∀ i, (lowS v b).getLsbD i = (decide ((i : Int) < b) && v.getLsbD i) := low_bit v b
  split
  · rename_i h
    apply BitVec.eq_of_getLsbD_eq
    intro i hi
    rw [sign_bit v b i h0 hi, hlow i]
    by_cases hib : (i : Int) < b <;> simp only [hib, if_true, if_false, h, decide_true, decide_false, Bool.true_and, Bool.false_and]
  · rename_i h
    have h' : v.getLsbD (b.toNat - 1) = true := by simpa using h
    obtain ⟨n, rfl⟩ := Int.eq_ofNat_of_zero_le (show 0 ≤ b by omega)
    rw [Int.toNat_natCast] at h' ⊢
    have hn : n < 64 := by omega
    have hmask : ∀ i, i < 64 → (~~~(1#64 <<< n - 1#64)).getLsbD i = decide (n ≤ i) := by
      intro i hi
      have hp : 2 ^ n < 2 ^ 64 := Nat.pow_lt_pow_right (by decide) hn
      have e1 : (1#64 <<< n).toNat = 2 ^ n := by
        rw [BitVec.toNat_shiftLeft]; simp [Nat.shiftLeft_eq]; exact hp
      have hp0 : 0 < 2 ^ n := Nat.two_pow_pos n
      have e2 : (1#64 <<< n - 1#64).toNat = 2 ^ n - 1 := by
        rw [BitVec.toNat_sub, e1]; simp; omega
      rw [BitVec.getLsbD_not, BitVec.getLsbD, e2, Nat.testBit_two_pow_sub_one]
      by_cases hni : n ≤ i
      · simp [hi, hni]
      · simp [hi, hni]; omega
    have hneg : -(1#64 <<< n) = ~~~(1#64 <<< n - 1#64) := by
      rw [BitVec.neg_eq_not_add, BitVec.not_sub_one_eq_not_add_one]
    rw [BitVec.sub_eq_add_neg, hneg, BitVec.add_eq_or_of_and_eq_zero]
    · apply BitVec.eq_of_getLsbD_eq
      intro i hi
      rw [sign_bit v _ i h0 hi, BitVec.getLsbD_or, hlow i, hmask i hi, Int.toNat_natCast]
      by_cases hib : i < n
      · have h2 : ¬ n ≤ i := by omega
        simp [hib, h2]
      · have h2 : n ≤ i := by omega
        have h3 : ¬ (i : Int) < n := by omega
        simp [h2, h3, h']
    · apply BitVec.eq_of_getLsbD_eq
      intro i hi
      rw [BitVec.getLsbD_and, hlow i, hmask i hi]
      by_cases hib : i < n
      · have h2 : ¬ n ≤ i := by omega
        simp [h2]
      · simp [hib]
theorem shl1_ne (b : Int) (h0 : 0 ≤ b) (h1 : b < 64) : ¬ N (1#64 <<< b.toNat) = 0 := by
  have hp : 2 ^ b.toNat < 2 ^ 64 := Nat.pow_lt_pow_right (by decide) (by omega)
  have hp0 : 0 < 2 ^ b.toNat := Nat.two_pow_pos _
  unfold N
  rw [BitVec.toNat_shiftLeft]
  simp only [BitVec.toNat_ofNat, Nat.shiftLeft_eq]
  rw [Nat.mod_eq_of_lt (a := 1) (by decide), Nat.one_mul, Nat.mod_eq_of_lt hp]
  omega
/-- What the document's Sign goes by: whether no sign is told on. -/
def plainB (v : BitVec 64) (b : Int) : Bool := decide (N (lowS v b) < N (1#64 <<< (b - 1).toNat))
theorem sign_le0 (v : BitVec 64) (b : Int) (h : b ≤ 0) : lowS v b = signS v b := by unfold lowS signS; rw [if_pos h, if_pos h]
theorem sign_ge64 (v : BitVec 64) (b : Int) (h : 64 ≤ b) : lowS v b = signS v b := by unfold lowS signS; rw [if_neg (show ¬ b ≤ 0 by omega), if_pos h, if_neg (show ¬ b ≤ 0 by omega), if_pos h]
theorem sign_plain (v : BitVec 64) (b : Int) (h0 : 0 < b) (h1 : b < 64) (h : N (lowS v b) < N (1#64 <<< (b.toNat - 1))) : lowS v b = signS v b := by
  rw [show b.toNat - 1 = (b - 1).toNat by omega] at h
  rw [sign_of_low v b h0 h1, if_pos ((low_lt_iff v b h0 h1).1 h)]
theorem sign_minus (v : BitVec 64) (b : Int) (h0 : 0 < b) (h1 : b < 64) (h : ¬ N (lowS v b) < N (1#64 <<< (b.toNat - 1))) : lowS v b - 1#64 <<< b.toNat = signS v b := by
  rw [show b.toNat - 1 = (b - 1).toNat by omega] at h
  rw [sign_of_low v b h0 h1, if_neg (fun h' => h ((low_lt_iff v b h0 h1).2 h'))]
theorem shl_succ (k : Nat) : 1#64 <<< k * 2#64 = 1#64 <<< (k + 1) := by
  apply BitVec.eq_of_toNat_eq
  simp [Nat.shiftLeft_eq, Nat.pow_succ]
end Go.Proofs.YtbaiokfjoglmiaaDoor
end
section
namespace Go.Proofs.YtbaiokfjoglmiaaDoor

/-- What arithmetic comes to, of numbers of w bits; x: the operation. -/
def aluW {w : Nat} (x : Int) (a b : BitVec w) : BitVec w :=
  if x = 0 then a + b else if x = 16 then a - b else if x = 32 then a * b else if x = 48 then a / b else if x = 144 then a % b
  else if x = 64 then a ||| b else if x = 80 then a &&& b else if x = 160 then a ^^^ b else if x = 96 then a <<< (b.toNat % w)
  else if x = 112 then a >>> (b.toNat % w) else if x = 192 then a.sshiftRight (b.toNat % w) else if x = 128 then -a else if x = 176 then b else 0#w
def aluS (x : Int) (wide : Bool) (a b : BitVec 64) : BitVec 64 :=
  if wide then aluW x a b else (aluW x (a.setWidth 32) (b.setWidth 32)).setWidth 64

/-- No operation at all. -/
def NoOp (x : Int) : Prop := ¬ x = 0 ∧ ¬ x = 16 ∧ ¬ x = 32 ∧ ¬ x = 48 ∧ ¬ x = 144 ∧ ¬ x = 64 ∧ ¬ x = 80 ∧ ¬ x = 160 ∧ ¬ x = 96 ∧ ¬ x = 112 ∧ ¬ x = 192 ∧ ¬ x = 128 ∧ ¬ x = 176
theorem alu_cases (x : Int) : x = 0 ∨ x = 16 ∨ x = 32 ∨ x = 48 ∨ x = 144 ∨ x = 64 ∨ x = 80 ∨ x = 160 ∨ x = 96 ∨ x = 112 ∨ x = 192 ∨ x = 128 ∨ x = 176 ∨ NoOp x := by
  unfold NoOp; omega
theorem aluW_none {w : Nat} {x : Int} (h : NoOp x) (a b : BitVec w) : aluW x a b = 0#w := by
  obtain ⟨h1, h2, h3, h4, h5, h6, h7, h8, h9, h10, h11, h12, h13⟩ := h
  unfold aluW
  rw [if_neg h1, if_neg h2, if_neg h3, if_neg h4, if_neg h5, if_neg h6, if_neg h7, if_neg h8, if_neg h9, if_neg h10, if_neg h11, if_neg h12, if_neg h13]
/-- The same as the tests of a switch have it. -/
theorem noOp_beq {x : Int} (h : NoOp x) : (x == 0) = false ∧ (x == 16) = false ∧ (x == 32) = false ∧ (x == 48) = false ∧ (x == 144) = false ∧ (x == 64) = false ∧ (x == 80) = false ∧ (x == 160) = false ∧ (x == 96) = false ∧ (x == 112) = false ∧ (x == 192) = false ∧ (x == 128) = false ∧ (x == 176) = false := by
  obtain ⟨h1, h2, h3, h4, h5, h6, h7, h8, h9, h10, h11, h12, h13⟩ := h
  refine ⟨?_, ?_, ?_, ?_, ?_, ?_, ?_, ?_, ?_, ?_, ?_, ?_, ?_⟩ <;> (rw [beq_eq_false_iff_ne]; assumption)

theorem tmod64 (b : BitVec 64) : (N b).tmod 64 = ((b.toNat % 64 : Nat) : Int) := by
  unfold N; rw [Int.tmod_eq_emod_of_nonneg (by omega)]; omega
theorem tmod32 (b : BitVec 32) : (N b).tmod 32 = ((b.toNat % 32 : Nat) : Int) := by
  unfold N; rw [Int.tmod_eq_emod_of_nonneg (by omega)]; omega
theorem sign32 (a : BitVec 32) (k : Nat) : ((signS (a.setWidth 64) 32).sshiftRight k).setWidth 32 = a.sshiftRight k := by
  apply BitVec.eq_of_getLsbD_eq
  intro i hi
  rw [BitVec.getLsbD_setWidth, BitVec.getLsbD_sshiftRight, BitVec.getLsbD_sshiftRight]
  have hs : ∀ j, j < 64 → (signS (a.setWidth 64) 32).getLsbD j = if j < 32 then a.getLsbD j else a.getLsbD 31 := by
    intro j hj
    rw [sign_bit _ 32 j (by decide) hj, BitVec.getLsbD_setWidth, BitVec.getLsbD_setWidth]
    by_cases h : j < 32
    · have h' : (j : Int) < 32 := by omega
      simp only [h, h', if_true, hj, decide_true, Bool.true_and]
    · have h' : ¬ (j : Int) < 32 := by omega
      simp only [h, h', if_false]
      rfl
  rw [BitVec.msb_eq_getLsbD_last, BitVec.msb_eq_getLsbD_last, hs (64 - 1) (by decide)]
  have hi64 : ¬ 64 ≤ i := by omega
  have hi32 : ¬ 32 ≤ i := by omega
  simp only [hi, hi64, hi32, decide_true, decide_false, Bool.not_false, Bool.true_and]
  by_cases h1 : k + i < 64
  · rw [if_pos h1, hs _ h1]
  · rw [if_neg h1, if_neg (show ¬ k + i < 32 by omega)]
    rfl
theorem sext32 (v : BitVec 64) : v.signExtend 32 = v.setWidth 32 := by
  apply BitVec.eq_of_getLsbD_eq
  intro i hi
  rw [BitVec.getLsbD_signExtend, BitVec.getLsbD_setWidth]
  simp only [hi, decide_true, Bool.true_and, show i < 64 by omega, if_true]
theorem low_setWidth (v : BitVec 64) : (lowS v 32).setWidth 32 = v.setWidth 32 := by
  apply BitVec.eq_of_getLsbD_eq
  intro i hi
  rw [BitVec.getLsbD_setWidth, BitVec.getLsbD_setWidth, low_bit]
  have h' : (i : Int) < 32 := by omega
  simp only [h', decide_true, Bool.true_and]
theorem low64 (v : BitVec 64) : lowS v 64 = v := by unfold lowS; rw [if_neg (by decide), if_pos (by decide)]
theorem sign64 (v : BitVec 64) : signS v 64 = v := by unfold signS; rw [if_neg (by decide), if_pos (by decide)]
theorem low32 (v : BitVec 64) : lowS v 32 = (v.setWidth 32).setWidth 64 := by
  apply BitVec.eq_of_toNat_eq
  rw [low_toNat v 32 (by decide) (by decide)]
  simp
  omega
end Go.Proofs.YtbaiokfjoglmiaaDoor
end
section
namespace Go.Proofs.YtbaiokfjoglmiaaDoor
open Go.RowKit

attribute [local go_sem] u64_wrap u8_wrap BitVec.ofInt_add BitVec.ofInt_mul ofInt_sub' ofInt_N ofInt_Nw ofInt_Z ofInt_pow ofInt_shl wrap64_N mul_shl1 N_shr Z_shr u64_and u64_or N_div8 N_div16 N_div24 N_div32 N_div40 N_div48 N_div56

theorem ret64 {a b : BitVec 64} (h : a = b) : Ending.returned (.int .u64 (N a)) = .returned (.int .u64 (N b)) := by rw [h]
theorem ret0 {b : BitVec 64} (h : 0 = b) : Ending.returned (.int .u64 0) = .returned (.int .u64 (N b)) := by rw [← h]; rfl

set_option maxHeartbeats 400000 in
theorem low_N (v : BitVec 64) (b : Int) (w : World) (h1 : -9223372036854775808 ≤ b) (h2 : b ≤ 9223372036854775807) :
    Calls Tryd.prog 72 #[.int .u64 (N v), .int .i64 b] w fun e w' => e = .returned (.int .u64 (N (lowS v b))) ∧ w = w' := by
  go_enter Tryd.func72, Tryd.ntmps72
  go_wp2
  · go_ret
    exact ⟨ret0 (by unfold lowS; rw [if_pos ‹_›]), rfl⟩
  · go_ret
    exact ⟨ret64 (by unfold lowS; rw [if_neg (by omega), if_pos ‹_›]), rfl⟩
  · go_ret
    exact ⟨ret64 (by unfold lowS; rw [if_neg (by omega), if_neg (by omega)]), rfl⟩

set_option maxHeartbeats 400000 in
theorem sign_N (v : BitVec 64) (b : Int) (w : World) (h1 : -9223372036854775808 ≤ b) (h2 : b ≤ 9223372036854775807) :
    Calls Tryd.prog 75 #[.int .u64 (N v), .int .i64 b] w fun e w' => e = .returned (.int .u64 (N (signS v b))) ∧ w = w' := by
  go_enter Tryd.func75, Tryd.ntmps75
  go_wp2
  · go_ret
    exact ⟨ret0 (by unfold signS; rw [if_pos ‹_›]), rfl⟩
  · go_ret
    exact ⟨ret64 (by unfold signS; rw [if_neg (by omega), if_pos ‹_›]), rfl⟩
  · go_ret
    exact ⟨ret64 (by unfold signS; rw [if_neg (by omega), if_neg (by omega)]), rfl⟩

set_option maxHeartbeats 400000 in
theorem num_any (s : ByteArray) (w : World) (hs : s.size ≤ maxLen) :
    Calls Tryd.prog 105 #[.string s] w fun e w' => e = .returned (.int .u64 (N (numS s))) ∧ w = w' := by
  unfold maxLen at hs
  go_enter Tryd.func105, Tryd.ntmps105
  go_wp2
  all_goals
    go_loop [3, 8] (fun v i => ∃ k : Nat, k ≤ s.size ∧ k ≤ 8 ∧ i = .int .i64 k ∧ v = .int .u64 (N (numF (byteAt s) k))) (fun _ i => 8 - (intOf i).toNat)
    case atStart => exact ⟨0, by omega, by omega, rfl, rfl⟩
    case round =>
      obtain ⟨k, hk, hk8, rfl, rfl⟩ := hrel
      by_cases hlt : k < s.size ∧ k < 8
      · obtain ⟨ha, hb⟩ := hlt
        go_wp2
        go_round
        case rel => exact ⟨k + 1, by omega, by omega, by go_num, by rw [numF_succ, ← byteAt_get s k ha]⟩
        case measure => simp [intOf]; omega
      · go_wp2
        all_goals
          go_ret
          exact ⟨ret64 (numS_eq s k (by omega)), rfl⟩

end Go.Proofs.YtbaiokfjoglmiaaDoor
end
section
namespace Go.Proofs.YtbaiokfjoglmiaaDoor
open Go.RowKit

attribute [local go_sem] u64_wrap u32_wrap u8_wrap BitVec.ofInt_add BitVec.ofInt_mul ofInt_sub' BitVec.ofInt_neg ofInt_N ofInt_Nw ofInt_Z ofInt_pow ofInt_shl wrap64_N mul_shl1 N_shr Z_shr u64_and u64_or u64_xor u32_and u32_or u32_xor N_tdiv N_tmod tmod64 tmod32 sign64 sign32 sext32 low_setWidth

theorem ret32 {a b : BitVec 32} (h : a = b) : Ending.returned (.int .u32 (N a)) = .returned (.int .u32 (N b)) := by rw [h]

attribute [local go_sem] N_ofNat
set_option maxHeartbeats 400000 in
theorem quot64 (a b : BitVec 64) (w : World) : Calls Tryd.prog 99 #[.int .u64 (N a), .int .u64 (N b)] w fun e w' => e = .returned (.int .u64 (N (a / b))) ∧ w = w' := by
  by_cases h : N b = 0
  · have hb : b = 0#64 := N_inj (by rw [h]; rfl)
    subst hb
    clear h
    rw [show a / 0#64 = 0#64 by simp]
    go_enter Tryd.func99, Tryd.ntmps99
    go_wp2
    go_ret
    exact ⟨rfl, rfl⟩
  · have h' : (N b == 0) = false := by simpa using h
    go_enter Tryd.func99, Tryd.ntmps99
    go_wp2
    go_ret
    exact ⟨rfl, rfl⟩
set_option maxHeartbeats 400000 in
theorem rest64 (a b : BitVec 64) (w : World) : Calls Tryd.prog 100 #[.int .u64 (N a), .int .u64 (N b)] w fun e w' => e = .returned (.int .u64 (N (a % b))) ∧ w = w' := by
  by_cases h : N b = 0
  · have hb : b = 0#64 := N_inj (by rw [h]; rfl)
    subst hb
    clear h
    rw [show a % 0#64 = a by simp]
    go_enter Tryd.func100, Tryd.ntmps100
    go_wp2
    go_ret
    exact ⟨rfl, rfl⟩
  · have h' : (N b == 0) = false := by simpa using h
    go_enter Tryd.func100, Tryd.ntmps100
    go_wp2
    go_ret
    exact ⟨rfl, rfl⟩
set_option maxHeartbeats 400000 in
theorem quot32 (a b : BitVec 32) (w : World) : Calls Tryd.prog 101 #[.int .u32 (N a), .int .u32 (N b)] w fun e w' => e = .returned (.int .u32 (N (a / b))) ∧ w = w' := by
  by_cases h : N b = 0
  · have hb : b = 0#32 := N_inj (by rw [h]; rfl)
    subst hb
    clear h
    rw [show a / 0#32 = 0#32 by simp]
    go_enter Tryd.func101, Tryd.ntmps101
    go_wp2
    go_ret
    exact ⟨rfl, rfl⟩
  · have h' : (N b == 0) = false := by simpa using h
    go_enter Tryd.func101, Tryd.ntmps101
    go_wp2
    go_ret
    exact ⟨rfl, rfl⟩
set_option maxHeartbeats 400000 in
theorem rest32 (a b : BitVec 32) (w : World) : Calls Tryd.prog 102 #[.int .u32 (N a), .int .u32 (N b)] w fun e w' => e = .returned (.int .u32 (N (a % b))) ∧ w = w' := by
  by_cases h : N b = 0
  · have hb : b = 0#32 := N_inj (by rw [h]; rfl)
    subst hb
    clear h
    rw [show a % 0#32 = a by simp]
    go_enter Tryd.func102, Tryd.ntmps102
    go_wp2
    go_ret
    exact ⟨rfl, rfl⟩
  · have h' : (N b == 0) = false := by simpa using h
    go_enter Tryd.func102, Tryd.ntmps102
    go_wp2
    go_ret
    exact ⟨rfl, rfl⟩

set_option maxRecDepth 100000 in
set_option maxHeartbeats 4000000 in
theorem do64 (x : Int) (a b : BitVec 64) (w : World) : Calls Tryd.prog 76 #[.int .u8 x, .int .u64 (N a), .int .u64 (N b), .int .i64 64] w fun e w' => e = .returned (.int .u64 (N (aluW x a b))) ∧ Grown w w' := by
  have hm := tmod64 b
  obtain ⟨m, hmd⟩ : ∃ m, m = b.toNat % 64 := ⟨_, rfl⟩
  rw [← hmd] at hm
  have hml : m < 64 := by omega
  rcases alu_cases x with h | h | h | h | h | h | h | h | h | h | h | h | h | h
  case inr.inr.inr.inr.inr.inr.inr.inr.inr.inr.inl =>
    subst h
    have e : aluW 192 a b = a.sshiftRight m := by rw [hmd]; rfl
    rw [e]
    clear e hmd
    go_enter Tryd.func76, Tryd.ntmps76
    go_wp2
    go_quiet ((go_at_call 75; exact Calls.quiet_of_same ((sign_N _ _ _ (by decide) (by decide)).mono fun _ _ ⟨h1, h2⟩ => ⟨h1, h2.symm⟩)))
    go_wp2
    go_ret
    exact ⟨rfl, grown_drewN (Grown.refl _) _⟩
  case inr.inr.inr.inr.inr.inr.inr.inr.inr.inr.inr.inr.inr =>
    rw [aluW_none h]
    obtain ⟨h1, h2, h3, h4, h5, h6, h7, h8, h9, h10, h11, h12, h13⟩ := noOp_beq h
    clear h hm hmd hml
    go_enter Tryd.func76, Tryd.ntmps76
    go_wp2_with (first | (go_at_call 99; refine (quot64 _ _ _).mono ?_; rintro e w' ⟨rfl, rfl⟩) | (go_at_call 100; refine (rest64 _ _ _).mono ?_; rintro e w' ⟨rfl, rfl⟩))
    go_ret
    exact ⟨rfl, Grown.refl _⟩
  case inr.inr.inr.inr.inr.inr.inr.inr.inl =>
    subst h
    have e : aluW 96 a b = a <<< m := by rw [hmd]; rfl
    rw [e]
    clear e hmd
    go_enter Tryd.func76, Tryd.ntmps76
    go_wp2_with (first | (go_at_call 99; refine (quot64 _ _ _).mono ?_; rintro e w' ⟨rfl, rfl⟩) | (go_at_call 100; refine (rest64 _ _ _).mono ?_; rintro e w' ⟨rfl, rfl⟩))
    go_ret
    exact ⟨rfl, Grown.refl _⟩
  case inr.inr.inr.inr.inr.inr.inr.inr.inr.inl =>
    subst h
    have e : aluW 112 a b = a >>> m := by rw [hmd]; rfl
    rw [e]
    clear e hmd
    go_enter Tryd.func76, Tryd.ntmps76
    go_wp2_with (first | (go_at_call 99; refine (quot64 _ _ _).mono ?_; rintro e w' ⟨rfl, rfl⟩) | (go_at_call 100; refine (rest64 _ _ _).mono ?_; rintro e w' ⟨rfl, rfl⟩))
    go_ret
    exact ⟨rfl, Grown.refl _⟩
  all_goals
    subst h
    clear hm hmd hml
    go_enter Tryd.func76, Tryd.ntmps76
    go_wp2_with (first | (go_at_call 99; refine (quot64 _ _ _).mono ?_; rintro e w' ⟨rfl, rfl⟩) | (go_at_call 100; refine (rest64 _ _ _).mono ?_; rintro e w' ⟨rfl, rfl⟩))
    go_ret
    exact ⟨rfl, Grown.refl _⟩

set_option maxRecDepth 100000 in
set_option maxHeartbeats 4000000 in
theorem do32 (x : Int) (a b : BitVec 32) (w : World) : Calls Tryd.prog 77 #[.int .u8 x, .int .u32 (N a), .int .u32 (N b), .int .i64 32] w fun e w' => e = .returned (.int .u32 (N (aluW x a b))) ∧ Grown w w' := by
  have hm := tmod32 b
  obtain ⟨m, hmd⟩ : ∃ m, m = b.toNat % 32 := ⟨_, rfl⟩
  rw [← hmd] at hm
  have hml : m < 32 := by omega
  rcases alu_cases x with h | h | h | h | h | h | h | h | h | h | h | h | h | h
  case inr.inr.inr.inr.inr.inr.inr.inr.inr.inr.inl =>
    subst h
    have e : aluW 192 a b = a.sshiftRight m := by rw [hmd]; rfl
    rw [e]
    clear e hmd
    go_enter Tryd.func77, Tryd.ntmps77
    go_wp2
    go_quiet ((go_at_call 75; exact Calls.quiet_of_same ((sign_N _ _ _ (by decide) (by decide)).mono fun _ _ ⟨h1, h2⟩ => ⟨h1, h2.symm⟩)))
    go_wp2
    go_ret
    exact ⟨rfl, grown_drewN (Grown.refl _) _⟩
  case inr.inr.inr.inr.inr.inr.inr.inr.inr.inr.inr.inr.inr =>
    rw [aluW_none h]
    obtain ⟨h1, h2, h3, h4, h5, h6, h7, h8, h9, h10, h11, h12, h13⟩ := noOp_beq h
    clear h hm hmd hml
    go_enter Tryd.func77, Tryd.ntmps77
    go_wp2_with (first | (go_at_call 101; refine (quot32 _ _ _).mono ?_; rintro e w' ⟨rfl, rfl⟩) | (go_at_call 102; refine (rest32 _ _ _).mono ?_; rintro e w' ⟨rfl, rfl⟩))
    go_ret
    exact ⟨rfl, Grown.refl _⟩
  case inr.inr.inr.inr.inr.inr.inr.inr.inl =>
    subst h
    have e : aluW 96 a b = a <<< m := by rw [hmd]; rfl
    rw [e]
    clear e hmd
    go_enter Tryd.func77, Tryd.ntmps77
    go_wp2_with (first | (go_at_call 101; refine (quot32 _ _ _).mono ?_; rintro e w' ⟨rfl, rfl⟩) | (go_at_call 102; refine (rest32 _ _ _).mono ?_; rintro e w' ⟨rfl, rfl⟩))
    go_ret
    exact ⟨rfl, Grown.refl _⟩
  case inr.inr.inr.inr.inr.inr.inr.inr.inr.inl =>
    subst h
    have e : aluW 112 a b = a >>> m := by rw [hmd]; rfl
    rw [e]
    clear e hmd
    go_enter Tryd.func77, Tryd.ntmps77
    go_wp2_with (first | (go_at_call 101; refine (quot32 _ _ _).mono ?_; rintro e w' ⟨rfl, rfl⟩) | (go_at_call 102; refine (rest32 _ _ _).mono ?_; rintro e w' ⟨rfl, rfl⟩))
    go_ret
    exact ⟨rfl, Grown.refl _⟩
  all_goals
    subst h
    clear hm hmd hml
    go_enter Tryd.func77, Tryd.ntmps77
    go_wp2_with (first | (go_at_call 101; refine (quot32 _ _ _).mono ?_; rintro e w' ⟨rfl, rfl⟩) | (go_at_call 102; refine (rest32 _ _ _).mono ?_; rintro e w' ⟨rfl, rfl⟩))
    go_ret
    exact ⟨rfl, Grown.refl _⟩

set_option maxRecDepth 100000 in
set_option maxHeartbeats 1000000 in
theorem do_any (x : Int) (wide : Bool) (a b : BitVec 64) (w : World) :
    Calls Tryd.prog 28 #[.int .u8 x, .bool wide, .int .u64 (N a), .int .u64 (N b)] w fun e w' => e = .returned (.int .u64 (N (aluS x wide a b))) ∧ Grown w w' := by
  cases wide
  · go_enter Tryd.func28, Tryd.ntmps28
    go_wp2_with (first | (go_at_call 72; refine (low_N _ _ _ (by decide) (by decide)).mono ?_; rintro e w' ⟨rfl, rfl⟩) | (go_at_call 77; refine (do32 _ _ _ _).mono ?_; rintro e w' ⟨rfl, hg⟩))
    go_ret
    exact ⟨rfl, by assumption⟩
  · go_enter Tryd.func28, Tryd.ntmps28
    go_wp2_with (go_at_call 76; refine (do64 _ _ _ _).mono ?_; rintro e w' ⟨rfl, hg⟩)
    go_ret
    exact ⟨rfl, by assumption⟩
end Go.Proofs.YtbaiokfjoglmiaaDoor
end
section
namespace Go.Proofs.YtbaiokfjoglmiaaDoor
open Go.RowKit

/-- The table's first k entries. -/
def tabE (k : Nat) : Array MapEntry := ([⟨.int .u8 0, .agg #[.bool true, .bool true, .bool true, .bool false, .bool false], 0⟩, ⟨.int .u8 16, .agg #[.bool false, .bool true, .bool false, .bool false, .bool false], 1⟩, ⟨.int .u8 80, .agg #[.bool true, .bool false, .bool true, .bool false, .bool false], 2⟩, ⟨.int .u8 32, .agg #[.bool false, .bool false, .bool true, .bool false, .bool false], 3⟩, ⟨.int .u8 48, .agg #[.bool false, .bool true, .bool true, .bool false, .bool false], 4⟩, ⟨.int .u8 160, .agg #[.bool true, .bool false, .bool false, .bool false, .bool false], 5⟩, ⟨.int .u8 176, .agg #[.bool true, .bool true, .bool false, .bool false, .bool false], 6⟩, ⟨.int .u8 96, .agg #[.bool false, .bool false, .bool true, .bool false, .bool true], 7⟩, ⟨.int .u8 112, .agg #[.bool false, .bool true, .bool true, .bool false, .bool true], 8⟩, ⟨.int .u8 192, .agg #[.bool true, .bool false, .bool false, .bool false, .bool true], 9⟩, ⟨.int .u8 208, .agg #[.bool true, .bool true, .bool false, .bool false, .bool true], 10⟩, ⟨.int .u8 64, .agg #[.bool false, .bool false, .bool false, .bool true, .bool false], 11⟩].take k).toArray

attribute [local go_sem] u64_wrap u8_wrap

set_option maxRecDepth 100000 in
set_option maxHeartbeats 1000000 in
theorem table_any (w : World) : Calls Tryd.prog 71 #[] w fun e w' => e = .returned (.map (some w.heap.size)) ∧ w' = w.alloc (.map (tabE 12) 12) := by
  have hmm := @run_makeMap Tryd.prog
  have ez : (#[] : Array MapEntry) = tabE 0 := rfl
  have f0 := run_insert_new (P := Tryd.prog) Tryd.underlying110 Tryd.underlying5 w (tabE 0) 0 0 (.agg #[.bool true, .bool true, .bool true, .bool false, .bool false]) rfl
  rw [show (tabE 0).push ⟨.int .u8 0, .agg #[.bool true, .bool true, .bool true, .bool false, .bool false], 0⟩ = tabE 1 from rfl] at f0
  have f1 := run_insert_new (P := Tryd.prog) Tryd.underlying110 Tryd.underlying5 w (tabE 1) 1 16 (.agg #[.bool false, .bool true, .bool false, .bool false, .bool false]) rfl
  rw [show (tabE 1).push ⟨.int .u8 16, .agg #[.bool false, .bool true, .bool false, .bool false, .bool false], 1⟩ = tabE 2 from rfl] at f1
  have f2 := run_insert_new (P := Tryd.prog) Tryd.underlying110 Tryd.underlying5 w (tabE 2) 2 80 (.agg #[.bool true, .bool false, .bool true, .bool false, .bool false]) rfl
  rw [show (tabE 2).push ⟨.int .u8 80, .agg #[.bool true, .bool false, .bool true, .bool false, .bool false], 2⟩ = tabE 3 from rfl] at f2
  have f3 := run_insert_new (P := Tryd.prog) Tryd.underlying110 Tryd.underlying5 w (tabE 3) 3 32 (.agg #[.bool false, .bool false, .bool true, .bool false, .bool false]) rfl
  rw [show (tabE 3).push ⟨.int .u8 32, .agg #[.bool false, .bool false, .bool true, .bool false, .bool false], 3⟩ = tabE 4 from rfl] at f3
  have f4 := run_insert_new (P := Tryd.prog) Tryd.underlying110 Tryd.underlying5 w (tabE 4) 4 48 (.agg #[.bool false, .bool true, .bool true, .bool false, .bool false]) rfl
  rw [show (tabE 4).push ⟨.int .u8 48, .agg #[.bool false, .bool true, .bool true, .bool false, .bool false], 4⟩ = tabE 5 from rfl] at f4
  have f5 := run_insert_new (P := Tryd.prog) Tryd.underlying110 Tryd.underlying5 w (tabE 5) 5 160 (.agg #[.bool true, .bool false, .bool false, .bool false, .bool false]) rfl
  rw [show (tabE 5).push ⟨.int .u8 160, .agg #[.bool true, .bool false, .bool false, .bool false, .bool false], 5⟩ = tabE 6 from rfl] at f5
  have f6 := run_insert_new (P := Tryd.prog) Tryd.underlying110 Tryd.underlying5 w (tabE 6) 6 176 (.agg #[.bool true, .bool true, .bool false, .bool false, .bool false]) rfl
  rw [show (tabE 6).push ⟨.int .u8 176, .agg #[.bool true, .bool true, .bool false, .bool false, .bool false], 6⟩ = tabE 7 from rfl] at f6
  have f7 := run_insert_new (P := Tryd.prog) Tryd.underlying110 Tryd.underlying5 w (tabE 7) 7 96 (.agg #[.bool false, .bool false, .bool true, .bool false, .bool true]) rfl
  rw [show (tabE 7).push ⟨.int .u8 96, .agg #[.bool false, .bool false, .bool true, .bool false, .bool true], 7⟩ = tabE 8 from rfl] at f7
  have f8 := run_insert_new (P := Tryd.prog) Tryd.underlying110 Tryd.underlying5 w (tabE 8) 8 112 (.agg #[.bool false, .bool true, .bool true, .bool false, .bool true]) rfl
  rw [show (tabE 8).push ⟨.int .u8 112, .agg #[.bool false, .bool true, .bool true, .bool false, .bool true], 8⟩ = tabE 9 from rfl] at f8
  have f9 := run_insert_new (P := Tryd.prog) Tryd.underlying110 Tryd.underlying5 w (tabE 9) 9 192 (.agg #[.bool true, .bool false, .bool false, .bool false, .bool true]) rfl
  rw [show (tabE 9).push ⟨.int .u8 192, .agg #[.bool true, .bool false, .bool false, .bool false, .bool true], 9⟩ = tabE 10 from rfl] at f9
  have f10 := run_insert_new (P := Tryd.prog) Tryd.underlying110 Tryd.underlying5 w (tabE 10) 10 208 (.agg #[.bool true, .bool true, .bool false, .bool false, .bool true]) rfl
  rw [show (tabE 10).push ⟨.int .u8 208, .agg #[.bool true, .bool true, .bool false, .bool false, .bool true], 10⟩ = tabE 11 from rfl] at f10
  have f11 := run_insert_new (P := Tryd.prog) Tryd.underlying110 Tryd.underlying5 w (tabE 11) 11 64 (.agg #[.bool false, .bool false, .bool false, .bool true, .bool false]) rfl
  rw [show (tabE 11).push ⟨.int .u8 64, .agg #[.bool false, .bool false, .bool false, .bool true, .bool false], 11⟩ = tabE 12 from rfl] at f11
  go_enter Tryd.func71, Tryd.ntmps71
  go_wp2
  go_ret
  exact ⟨rfl, rfl⟩
end Go.Proofs.YtbaiokfjoglmiaaDoor
end
section
namespace Go.Proofs.YtbaiokfjoglmiaaDoor
open Go.RowKit

attribute [local go_sem] u64_wrap u8_wrap wrap64_N ofInt_N u64_and

def cmpI (x y : Int) : Int := if x < y then -1 else if y < x then 1 else 0

set_option maxHeartbeats 400000 in
theorem cmp_u64 (x y : Int) (w : World) : Calls Tryd.prog 73 #[.int .u64 x, .int .u64 y] w fun e w' => e = .returned (.int .i64 (cmpI x y)) ∧ w = w' := by
  have n1 : (x != x) = false := by simp
  have n2 : (y != y) = false := by simp
  unfold cmpI
  by_cases h : x < y
  · rw [if_pos h]
    go_enter Tryd.func73, Tryd.ntmps73
    go_wp2
    go_ret
    exact ⟨rfl, rfl⟩
  · rw [if_neg h]
    by_cases h2 : y < x
    · rw [if_pos h2]
      go_enter Tryd.func73, Tryd.ntmps73
      go_wp2
      go_ret
      exact ⟨rfl, rfl⟩
    · rw [if_neg h2]
      go_enter Tryd.func73, Tryd.ntmps73
      go_wp2
      go_ret
      exact ⟨rfl, rfl⟩

set_option maxHeartbeats 400000 in
theorem cmp_i64 (x y : Int) (w : World) : Calls Tryd.prog 74 #[.int .i64 x, .int .i64 y] w fun e w' => e = .returned (.int .i64 (cmpI x y)) ∧ w = w' := by
  have n1 : (x != x) = false := by simp
  have n2 : (y != y) = false := by simp
  unfold cmpI
  by_cases h : x < y
  · rw [if_pos h]
    go_enter Tryd.func74, Tryd.ntmps74
    go_wp2
    go_ret
    exact ⟨rfl, rfl⟩
  · rw [if_neg h]
    by_cases h2 : y < x
    · rw [if_pos h2]
      go_enter Tryd.func74, Tryd.ntmps74
      go_wp2
      go_ret
      exact ⟨rfl, rfl⟩
    · rw [if_neg h2]
      go_enter Tryd.func74, Tryd.ntmps74
      go_wp2
      go_ret
      exact ⟨rfl, rfl⟩

/-- The numbers that a condition asks of: the lowest bits. -/
def bitsI (wide : Bool) : Int := if wide then 64 else 32
/-- Whether a condition holds; x: which one; u: how two numbers lie to each other; g: how they do with their sign; t: whether a bit is set in both. -/
def condO (x u g : Int) (t : Bool) : Bool :=
  if x = 0 then true else if x = 16 then decide (u = 0) else if x = 80 then !decide (u = 0) else if x = 32 then decide (0 < u) else if x = 48 then decide (0 ≤ u)
  else if x = 160 then decide (u < 0) else if x = 176 then decide (u ≤ 0) else if x = 96 then decide (0 < g) else if x = 112 then decide (0 ≤ g)
  else if x = 192 then decide (g < 0) else if x = 208 then decide (g ≤ 0) else if x = 64 then t else false
def uO (wide : Bool) (a b : BitVec 64) : Int := cmpI (N (lowS a (bitsI wide))) (N (lowS b (bitsI wide)))
def gO (wide : Bool) (a b : BitVec 64) : Int := cmpI (Z (signS (lowS a (bitsI wide)) (bitsI wide))) (Z (signS (lowS b (bitsI wide)) (bitsI wide)))
def tO (wide : Bool) (a b : BitVec 64) : Bool := !(lowS a (bitsI wide) &&& lowS b (bitsI wide) == 0#64)
def condS (x : Int) (wide : Bool) (a b : BitVec 64) : Bool := condO x (uO wide a b) (gO wide a b) (tO wide a b)

theorem cmpI_three (x y : Int) : cmpI x y = -1 ∨ cmpI x y = 0 ∨ cmpI x y = 1 := by
  unfold cmpI
  split
  · left; rfl
  · split
    · right; right; rfl
    · right; left; rfl
/-- No condition at all. -/
def NoCond (x : Int) : Prop := ¬ x = 0 ∧ ¬ x = 16 ∧ ¬ x = 80 ∧ ¬ x = 32 ∧ ¬ x = 48 ∧ ¬ x = 160 ∧ ¬ x = 176 ∧ ¬ x = 96 ∧ ¬ x = 112 ∧ ¬ x = 192 ∧ ¬ x = 208 ∧ ¬ x = 64
theorem cond_cases (x : Int) : x = 0 ∨ x = 16 ∨ x = 80 ∨ x = 32 ∨ x = 48 ∨ x = 160 ∨ x = 176 ∨ x = 96 ∨ x = 112 ∨ x = 192 ∨ x = 208 ∨ x = 64 ∨ NoCond x := by
  unfold NoCond; omega
theorem condO_none {x : Int} (h : NoCond x) (u g : Int) (t : Bool) : condO x u g t = false := by
  obtain ⟨h1, h2, h3, h4, h5, h6, h7, h8, h9, h10, h11, h12⟩ := h
  unfold condO
  rw [if_neg h1, if_neg h2, if_neg h3, if_neg h4, if_neg h5, if_neg h6, if_neg h7, if_neg h8, if_neg h9, if_neg h10, if_neg h11, if_neg h12]
theorem find_none {x : Int} (h : NoCond x) : Instr.findNow (.int .u8) (.int .u8 x) (tabE 12).toList 0 = some none := by
  obtain ⟨h1, h2, h3, h4, h5, h6, h7, h8, h9, h10, h11, h12⟩ := h
  replace h1 := beq_eq_false_iff_ne.2 h1
  replace h2 := beq_eq_false_iff_ne.2 h2
  replace h3 := beq_eq_false_iff_ne.2 h3
  replace h4 := beq_eq_false_iff_ne.2 h4
  replace h5 := beq_eq_false_iff_ne.2 h5
  replace h6 := beq_eq_false_iff_ne.2 h6
  replace h7 := beq_eq_false_iff_ne.2 h7
  replace h8 := beq_eq_false_iff_ne.2 h8
  replace h9 := beq_eq_false_iff_ne.2 h9
  replace h10 := beq_eq_false_iff_ne.2 h10
  replace h11 := beq_eq_false_iff_ne.2 h11
  replace h12 := beq_eq_false_iff_ne.2 h12
  simp [tabE, Instr.findNow, Instr.sameNow, h1, h2, h3, h4, h5, h6, h7, h8, h9, h10, h11, h12]
theorem N_and_beq (a b : BitVec 64) : (N (a &&& b) == 0) = (a &&& b == 0#64) := by
  have : (0 : Int) = N 0#64 := rfl
  rw [this, N_beq]
end Go.Proofs.YtbaiokfjoglmiaaDoor
end
section
namespace Go.Proofs.YtbaiokfjoglmiaaDoor
open Go.RowKit

attribute [local go_sem] u64_wrap u8_wrap wrap64_N ofInt_N u64_and

set_option maxRecDepth 100000 in
set_option maxHeartbeats 1000000 in
theorem holds64_0 (a b : BitVec 64) (w : World) : Calls Tryd.prog 27 #[.int .u8 0, .bool true, .int .u64 (N a), .int .u64 (N b)] w fun e w' => e = .returned (.bool (condS 0 true a b)) ∧ Grown w w' := by
  have hl := run_lookup_lit (P := Tryd.prog) Tryd.underlying110 Tryd.underlying5 (w.alloc (.map (tabE 12) 12)) w.heap.size (tabE 12) 12 0 0 (.agg #[.bool true, .bool true, .bool true, .bool false, .bool false]) (MapKept.heap_alloc w _).1 rfl
  have hd : ∀ c, cmpI (N (lowS a 64)) (N (lowS b 64)) = c → condS 0 true a b = condO 0 c (gO true a b) (tO true a b) := by intro c hc; rw [← hc]; rfl
  rcases cmpI_three (N (lowS a 64)) (N (lowS b 64)) with h | h | h
  all_goals
    rw [hd _ h]
    clear hd
    go_enter Tryd.func27, Tryd.ntmps27
    go_wp2_with (first | (go_at_call 71; refine (table_any _).mono ?_; rintro e w' ⟨rfl, rfl⟩) | (go_at_call 72; refine (low_N _ _ _ (by decide) (by decide)).mono ?_; rintro e w' ⟨rfl, rfl⟩) | (go_at_call 75; refine (sign_N _ _ _ (by decide) (by decide)).mono ?_; rintro e w' ⟨rfl, rfl⟩) | (go_at_call 73; refine (cmp_u64 _ _ _).mono ?_; rintro e w' ⟨rfl, rfl⟩) | (go_at_call 74; refine (cmp_i64 _ _ _).mono ?_; rintro e w' ⟨rfl, rfl⟩))
    go_ret
    exact ⟨rfl, ((Grown.refl _).allocMap _ _).alloc _ _⟩

set_option maxRecDepth 100000 in
set_option maxHeartbeats 1000000 in
theorem holds64_16 (a b : BitVec 64) (w : World) : Calls Tryd.prog 27 #[.int .u8 16, .bool true, .int .u64 (N a), .int .u64 (N b)] w fun e w' => e = .returned (.bool (condS 16 true a b)) ∧ Grown w w' := by
  have hl := run_lookup_lit (P := Tryd.prog) Tryd.underlying110 Tryd.underlying5 (w.alloc (.map (tabE 12) 12)) w.heap.size (tabE 12) 12 16 1 (.agg #[.bool false, .bool true, .bool false, .bool false, .bool false]) (MapKept.heap_alloc w _).1 rfl
  have hd : ∀ c, cmpI (N (lowS a 64)) (N (lowS b 64)) = c → condS 16 true a b = condO 16 c (gO true a b) (tO true a b) := by intro c hc; rw [← hc]; rfl
  rcases cmpI_three (N (lowS a 64)) (N (lowS b 64)) with h | h | h
  all_goals
    rw [hd _ h]
    clear hd
    go_enter Tryd.func27, Tryd.ntmps27
    go_wp2_with (first | (go_at_call 71; refine (table_any _).mono ?_; rintro e w' ⟨rfl, rfl⟩) | (go_at_call 72; refine (low_N _ _ _ (by decide) (by decide)).mono ?_; rintro e w' ⟨rfl, rfl⟩) | (go_at_call 75; refine (sign_N _ _ _ (by decide) (by decide)).mono ?_; rintro e w' ⟨rfl, rfl⟩) | (go_at_call 73; refine (cmp_u64 _ _ _).mono ?_; rintro e w' ⟨rfl, rfl⟩) | (go_at_call 74; refine (cmp_i64 _ _ _).mono ?_; rintro e w' ⟨rfl, rfl⟩))
    go_ret
    exact ⟨rfl, ((Grown.refl _).allocMap _ _).alloc _ _⟩

set_option maxRecDepth 100000 in
set_option maxHeartbeats 1000000 in
theorem holds64_80 (a b : BitVec 64) (w : World) : Calls Tryd.prog 27 #[.int .u8 80, .bool true, .int .u64 (N a), .int .u64 (N b)] w fun e w' => e = .returned (.bool (condS 80 true a b)) ∧ Grown w w' := by
  have hl := run_lookup_lit (P := Tryd.prog) Tryd.underlying110 Tryd.underlying5 (w.alloc (.map (tabE 12) 12)) w.heap.size (tabE 12) 12 80 2 (.agg #[.bool true, .bool false, .bool true, .bool false, .bool false]) (MapKept.heap_alloc w _).1 rfl
  have hd : ∀ c, cmpI (N (lowS a 64)) (N (lowS b 64)) = c → condS 80 true a b = condO 80 c (gO true a b) (tO true a b) := by intro c hc; rw [← hc]; rfl
  rcases cmpI_three (N (lowS a 64)) (N (lowS b 64)) with h | h | h
  all_goals
    rw [hd _ h]
    clear hd
    go_enter Tryd.func27, Tryd.ntmps27
    go_wp2_with (first | (go_at_call 71; refine (table_any _).mono ?_; rintro e w' ⟨rfl, rfl⟩) | (go_at_call 72; refine (low_N _ _ _ (by decide) (by decide)).mono ?_; rintro e w' ⟨rfl, rfl⟩) | (go_at_call 75; refine (sign_N _ _ _ (by decide) (by decide)).mono ?_; rintro e w' ⟨rfl, rfl⟩) | (go_at_call 73; refine (cmp_u64 _ _ _).mono ?_; rintro e w' ⟨rfl, rfl⟩) | (go_at_call 74; refine (cmp_i64 _ _ _).mono ?_; rintro e w' ⟨rfl, rfl⟩))
    go_ret
    exact ⟨rfl, ((Grown.refl _).allocMap _ _).alloc _ _⟩

set_option maxRecDepth 100000 in
set_option maxHeartbeats 1000000 in
theorem holds64_32 (a b : BitVec 64) (w : World) : Calls Tryd.prog 27 #[.int .u8 32, .bool true, .int .u64 (N a), .int .u64 (N b)] w fun e w' => e = .returned (.bool (condS 32 true a b)) ∧ Grown w w' := by
  have hl := run_lookup_lit (P := Tryd.prog) Tryd.underlying110 Tryd.underlying5 (w.alloc (.map (tabE 12) 12)) w.heap.size (tabE 12) 12 32 3 (.agg #[.bool false, .bool false, .bool true, .bool false, .bool false]) (MapKept.heap_alloc w _).1 rfl
  have hd : ∀ c, cmpI (N (lowS a 64)) (N (lowS b 64)) = c → condS 32 true a b = condO 32 c (gO true a b) (tO true a b) := by intro c hc; rw [← hc]; rfl
  rcases cmpI_three (N (lowS a 64)) (N (lowS b 64)) with h | h | h
  all_goals
    rw [hd _ h]
    clear hd
    go_enter Tryd.func27, Tryd.ntmps27
    go_wp2_with (first | (go_at_call 71; refine (table_any _).mono ?_; rintro e w' ⟨rfl, rfl⟩) | (go_at_call 72; refine (low_N _ _ _ (by decide) (by decide)).mono ?_; rintro e w' ⟨rfl, rfl⟩) | (go_at_call 75; refine (sign_N _ _ _ (by decide) (by decide)).mono ?_; rintro e w' ⟨rfl, rfl⟩) | (go_at_call 73; refine (cmp_u64 _ _ _).mono ?_; rintro e w' ⟨rfl, rfl⟩) | (go_at_call 74; refine (cmp_i64 _ _ _).mono ?_; rintro e w' ⟨rfl, rfl⟩))
    go_ret
    exact ⟨rfl, ((Grown.refl _).allocMap _ _).alloc _ _⟩

set_option maxRecDepth 100000 in
set_option maxHeartbeats 1000000 in
theorem holds64_48 (a b : BitVec 64) (w : World) : Calls Tryd.prog 27 #[.int .u8 48, .bool true, .int .u64 (N a), .int .u64 (N b)] w fun e w' => e = .returned (.bool (condS 48 true a b)) ∧ Grown w w' := by
  have hl := run_lookup_lit (P := Tryd.prog) Tryd.underlying110 Tryd.underlying5 (w.alloc (.map (tabE 12) 12)) w.heap.size (tabE 12) 12 48 4 (.agg #[.bool false, .bool true, .bool true, .bool false, .bool false]) (MapKept.heap_alloc w _).1 rfl
  have hd : ∀ c, cmpI (N (lowS a 64)) (N (lowS b 64)) = c → condS 48 true a b = condO 48 c (gO true a b) (tO true a b) := by intro c hc; rw [← hc]; rfl
  rcases cmpI_three (N (lowS a 64)) (N (lowS b 64)) with h | h | h
  all_goals
    rw [hd _ h]
    clear hd
    go_enter Tryd.func27, Tryd.ntmps27
    go_wp2_with (first | (go_at_call 71; refine (table_any _).mono ?_; rintro e w' ⟨rfl, rfl⟩) | (go_at_call 72; refine (low_N _ _ _ (by decide) (by decide)).mono ?_; rintro e w' ⟨rfl, rfl⟩) | (go_at_call 75; refine (sign_N _ _ _ (by decide) (by decide)).mono ?_; rintro e w' ⟨rfl, rfl⟩) | (go_at_call 73; refine (cmp_u64 _ _ _).mono ?_; rintro e w' ⟨rfl, rfl⟩) | (go_at_call 74; refine (cmp_i64 _ _ _).mono ?_; rintro e w' ⟨rfl, rfl⟩))
    go_ret
    exact ⟨rfl, ((Grown.refl _).allocMap _ _).alloc _ _⟩

set_option maxRecDepth 100000 in
set_option maxHeartbeats 1000000 in
theorem holds64_160 (a b : BitVec 64) (w : World) : Calls Tryd.prog 27 #[.int .u8 160, .bool true, .int .u64 (N a), .int .u64 (N b)] w fun e w' => e = .returned (.bool (condS 160 true a b)) ∧ Grown w w' := by
  have hl := run_lookup_lit (P := Tryd.prog) Tryd.underlying110 Tryd.underlying5 (w.alloc (.map (tabE 12) 12)) w.heap.size (tabE 12) 12 160 5 (.agg #[.bool true, .bool false, .bool false, .bool false, .bool false]) (MapKept.heap_alloc w _).1 rfl
  have hd : ∀ c, cmpI (N (lowS a 64)) (N (lowS b 64)) = c → condS 160 true a b = condO 160 c (gO true a b) (tO true a b) := by intro c hc; rw [← hc]; rfl
  rcases cmpI_three (N (lowS a 64)) (N (lowS b 64)) with h | h | h
  all_goals
    rw [hd _ h]
    clear hd
    go_enter Tryd.func27, Tryd.ntmps27
    go_wp2_with (first | (go_at_call 71; refine (table_any _).mono ?_; rintro e w' ⟨rfl, rfl⟩) | (go_at_call 72; refine (low_N _ _ _ (by decide) (by decide)).mono ?_; rintro e w' ⟨rfl, rfl⟩) | (go_at_call 75; refine (sign_N _ _ _ (by decide) (by decide)).mono ?_; rintro e w' ⟨rfl, rfl⟩) | (go_at_call 73; refine (cmp_u64 _ _ _).mono ?_; rintro e w' ⟨rfl, rfl⟩) | (go_at_call 74; refine (cmp_i64 _ _ _).mono ?_; rintro e w' ⟨rfl, rfl⟩))
    go_ret
    exact ⟨rfl, ((Grown.refl _).allocMap _ _).alloc _ _⟩

set_option maxRecDepth 100000 in
set_option maxHeartbeats 1000000 in
theorem holds64_176 (a b : BitVec 64) (w : World) : Calls Tryd.prog 27 #[.int .u8 176, .bool true, .int .u64 (N a), .int .u64 (N b)] w fun e w' => e = .returned (.bool (condS 176 true a b)) ∧ Grown w w' := by
  have hl := run_lookup_lit (P := Tryd.prog) Tryd.underlying110 Tryd.underlying5 (w.alloc (.map (tabE 12) 12)) w.heap.size (tabE 12) 12 176 6 (.agg #[.bool true, .bool true, .bool false, .bool false, .bool false]) (MapKept.heap_alloc w _).1 rfl
  have hd : ∀ c, cmpI (N (lowS a 64)) (N (lowS b 64)) = c → condS 176 true a b = condO 176 c (gO true a b) (tO true a b) := by intro c hc; rw [← hc]; rfl
  rcases cmpI_three (N (lowS a 64)) (N (lowS b 64)) with h | h | h
  all_goals
    rw [hd _ h]
    clear hd
    go_enter Tryd.func27, Tryd.ntmps27
    go_wp2_with (first | (go_at_call 71; refine (table_any _).mono ?_; rintro e w' ⟨rfl, rfl⟩) | (go_at_call 72; refine (low_N _ _ _ (by decide) (by decide)).mono ?_; rintro e w' ⟨rfl, rfl⟩) | (go_at_call 75; refine (sign_N _ _ _ (by decide) (by decide)).mono ?_; rintro e w' ⟨rfl, rfl⟩) | (go_at_call 73; refine (cmp_u64 _ _ _).mono ?_; rintro e w' ⟨rfl, rfl⟩) | (go_at_call 74; refine (cmp_i64 _ _ _).mono ?_; rintro e w' ⟨rfl, rfl⟩))
    go_ret
    exact ⟨rfl, ((Grown.refl _).allocMap _ _).alloc _ _⟩

set_option maxRecDepth 100000 in
set_option maxHeartbeats 1000000 in
theorem holds64_96 (a b : BitVec 64) (w : World) : Calls Tryd.prog 27 #[.int .u8 96, .bool true, .int .u64 (N a), .int .u64 (N b)] w fun e w' => e = .returned (.bool (condS 96 true a b)) ∧ Grown w w' := by
  have hl := run_lookup_lit (P := Tryd.prog) Tryd.underlying110 Tryd.underlying5 (w.alloc (.map (tabE 12) 12)) w.heap.size (tabE 12) 12 96 7 (.agg #[.bool false, .bool false, .bool true, .bool false, .bool true]) (MapKept.heap_alloc w _).1 rfl
  have hd : ∀ c, cmpI (Z (signS (lowS a 64) 64)) (Z (signS (lowS b 64) 64)) = c → condS 96 true a b = condO 96 (uO true a b) c (tO true a b) := by intro c hc; rw [← hc]; rfl
  rcases cmpI_three (Z (signS (lowS a 64) 64)) (Z (signS (lowS b 64) 64)) with h | h | h
  all_goals
    rw [hd _ h]
    clear hd
    go_enter Tryd.func27, Tryd.ntmps27
    go_wp2_with (first | (go_at_call 71; refine (table_any _).mono ?_; rintro e w' ⟨rfl, rfl⟩) | (go_at_call 72; refine (low_N _ _ _ (by decide) (by decide)).mono ?_; rintro e w' ⟨rfl, rfl⟩) | (go_at_call 75; refine (sign_N _ _ _ (by decide) (by decide)).mono ?_; rintro e w' ⟨rfl, rfl⟩) | (go_at_call 73; refine (cmp_u64 _ _ _).mono ?_; rintro e w' ⟨rfl, rfl⟩) | (go_at_call 74; refine (cmp_i64 _ _ _).mono ?_; rintro e w' ⟨rfl, rfl⟩))
    go_ret
    exact ⟨rfl, ((Grown.refl _).allocMap _ _).alloc _ _⟩

set_option maxRecDepth 100000 in
set_option maxHeartbeats 1000000 in
theorem holds64_112 (a b : BitVec 64) (w : World) : Calls Tryd.prog 27 #[.int .u8 112, .bool true, .int .u64 (N a), .int .u64 (N b)] w fun e w' => e = .returned (.bool (condS 112 true a b)) ∧ Grown w w' := by
  have hl := run_lookup_lit (P := Tryd.prog) Tryd.underlying110 Tryd.underlying5 (w.alloc (.map (tabE 12) 12)) w.heap.size (tabE 12) 12 112 8 (.agg #[.bool false, .bool true, .bool true, .bool false, .bool true]) (MapKept.heap_alloc w _).1 rfl
  have hd : ∀ c, cmpI (Z (signS (lowS a 64) 64)) (Z (signS (lowS b 64) 64)) = c → condS 112 true a b = condO 112 (uO true a b) c (tO true a b) := by intro c hc; rw [← hc]; rfl
  rcases cmpI_three (Z (signS (lowS a 64) 64)) (Z (signS (lowS b 64) 64)) with h | h | h
  all_goals
    rw [hd _ h]
    clear hd
    go_enter Tryd.func27, Tryd.ntmps27
    go_wp2_with (first | (go_at_call 71; refine (table_any _).mono ?_; rintro e w' ⟨rfl, rfl⟩) | (go_at_call 72; refine (low_N _ _ _ (by decide) (by decide)).mono ?_; rintro e w' ⟨rfl, rfl⟩) | (go_at_call 75; refine (sign_N _ _ _ (by decide) (by decide)).mono ?_; rintro e w' ⟨rfl, rfl⟩) | (go_at_call 73; refine (cmp_u64 _ _ _).mono ?_; rintro e w' ⟨rfl, rfl⟩) | (go_at_call 74; refine (cmp_i64 _ _ _).mono ?_; rintro e w' ⟨rfl, rfl⟩))
    go_ret
    exact ⟨rfl, ((Grown.refl _).allocMap _ _).alloc _ _⟩

set_option maxRecDepth 100000 in
set_option maxHeartbeats 1000000 in
theorem holds64_192 (a b : BitVec 64) (w : World) : Calls Tryd.prog 27 #[.int .u8 192, .bool true, .int .u64 (N a), .int .u64 (N b)] w fun e w' => e = .returned (.bool (condS 192 true a b)) ∧ Grown w w' := by
  have hl := run_lookup_lit (P := Tryd.prog) Tryd.underlying110 Tryd.underlying5 (w.alloc (.map (tabE 12) 12)) w.heap.size (tabE 12) 12 192 9 (.agg #[.bool true, .bool false, .bool false, .bool false, .bool true]) (MapKept.heap_alloc w _).1 rfl
  have hd : ∀ c, cmpI (Z (signS (lowS a 64) 64)) (Z (signS (lowS b 64) 64)) = c → condS 192 true a b = condO 192 (uO true a b) c (tO true a b) := by intro c hc; rw [← hc]; rfl
  rcases cmpI_three (Z (signS (lowS a 64) 64)) (Z (signS (lowS b 64) 64)) with h | h | h
  all_goals
    rw [hd _ h]
    clear hd
    go_enter Tryd.func27, Tryd.ntmps27
    go_wp2_with (first | (go_at_call 71; refine (table_any _).mono ?_; rintro e w' ⟨rfl, rfl⟩) | (go_at_call 72; refine (low_N _ _ _ (by decide) (by decide)).mono ?_; rintro e w' ⟨rfl, rfl⟩) | (go_at_call 75; refine (sign_N _ _ _ (by decide) (by decide)).mono ?_; rintro e w' ⟨rfl, rfl⟩) | (go_at_call 73; refine (cmp_u64 _ _ _).mono ?_; rintro e w' ⟨rfl, rfl⟩) | (go_at_call 74; refine (cmp_i64 _ _ _).mono ?_; rintro e w' ⟨rfl, rfl⟩))
    go_ret
    exact ⟨rfl, ((Grown.refl _).allocMap _ _).alloc _ _⟩

set_option maxRecDepth 100000 in
set_option maxHeartbeats 1000000 in
theorem holds64_208 (a b : BitVec 64) (w : World) : Calls Tryd.prog 27 #[.int .u8 208, .bool true, .int .u64 (N a), .int .u64 (N b)] w fun e w' => e = .returned (.bool (condS 208 true a b)) ∧ Grown w w' := by
  have hl := run_lookup_lit (P := Tryd.prog) Tryd.underlying110 Tryd.underlying5 (w.alloc (.map (tabE 12) 12)) w.heap.size (tabE 12) 12 208 10 (.agg #[.bool true, .bool true, .bool false, .bool false, .bool true]) (MapKept.heap_alloc w _).1 rfl
  have hd : ∀ c, cmpI (Z (signS (lowS a 64) 64)) (Z (signS (lowS b 64) 64)) = c → condS 208 true a b = condO 208 (uO true a b) c (tO true a b) := by intro c hc; rw [← hc]; rfl
  rcases cmpI_three (Z (signS (lowS a 64) 64)) (Z (signS (lowS b 64) 64)) with h | h | h
  all_goals
    rw [hd _ h]
    clear hd
    go_enter Tryd.func27, Tryd.ntmps27
    go_wp2_with (first | (go_at_call 71; refine (table_any _).mono ?_; rintro e w' ⟨rfl, rfl⟩) | (go_at_call 72; refine (low_N _ _ _ (by decide) (by decide)).mono ?_; rintro e w' ⟨rfl, rfl⟩) | (go_at_call 75; refine (sign_N _ _ _ (by decide) (by decide)).mono ?_; rintro e w' ⟨rfl, rfl⟩) | (go_at_call 73; refine (cmp_u64 _ _ _).mono ?_; rintro e w' ⟨rfl, rfl⟩) | (go_at_call 74; refine (cmp_i64 _ _ _).mono ?_; rintro e w' ⟨rfl, rfl⟩))
    go_ret
    exact ⟨rfl, ((Grown.refl _).allocMap _ _).alloc _ _⟩

set_option maxRecDepth 100000 in
set_option maxHeartbeats 1000000 in
theorem holds64_64 (a b : BitVec 64) (w : World) : Calls Tryd.prog 27 #[.int .u8 64, .bool true, .int .u64 (N a), .int .u64 (N b)] w fun e w' => e = .returned (.bool (condS 64 true a b)) ∧ Grown w w' := by
  have hl := run_lookup_lit (P := Tryd.prog) Tryd.underlying110 Tryd.underlying5 (w.alloc (.map (tabE 12) 12)) w.heap.size (tabE 12) 12 64 11 (.agg #[.bool false, .bool false, .bool false, .bool true, .bool false]) (MapKept.heap_alloc w _).1 rfl
  have hd : condS 64 true a b = tO true a b := rfl
  rw [hd]
  have ht : tO true a b = !(N (lowS a 64 &&& lowS b 64) == 0) := by rw [N_and_beq]; rfl
  rw [ht]
  clear hd ht
  by_cases hz : N (lowS a 64 &&& lowS b 64) = 0
  · rw [hz, show (!((0 : Int) == 0)) = false from rfl]
    go_enter Tryd.func27, Tryd.ntmps27
    go_wp2_with (first | (go_at_call 71; refine (table_any _).mono ?_; rintro e w' ⟨rfl, rfl⟩) | (go_at_call 72; refine (low_N _ _ _ (by decide) (by decide)).mono ?_; rintro e w' ⟨rfl, rfl⟩) | (go_at_call 75; refine (sign_N _ _ _ (by decide) (by decide)).mono ?_; rintro e w' ⟨rfl, rfl⟩) | (go_at_call 73; refine (cmp_u64 _ _ _).mono ?_; rintro e w' ⟨rfl, rfl⟩) | (go_at_call 74; refine (cmp_i64 _ _ _).mono ?_; rintro e w' ⟨rfl, rfl⟩))
    go_ret
    exact ⟨rfl, ((Grown.refl _).allocMap _ _).alloc _ _⟩
  · have hz1 : (N (lowS a 64 &&& lowS b 64) == 0) = false := by simpa using hz
    have hz2 : (N (lowS a 64 &&& lowS b 64) != 0) = true := by simpa using hz
    rw [hz1, show (!false) = true from rfl]
    clear hz
    go_enter Tryd.func27, Tryd.ntmps27
    go_wp2_with (first | (go_at_call 71; refine (table_any _).mono ?_; rintro e w' ⟨rfl, rfl⟩) | (go_at_call 72; refine (low_N _ _ _ (by decide) (by decide)).mono ?_; rintro e w' ⟨rfl, rfl⟩) | (go_at_call 75; refine (sign_N _ _ _ (by decide) (by decide)).mono ?_; rintro e w' ⟨rfl, rfl⟩) | (go_at_call 73; refine (cmp_u64 _ _ _).mono ?_; rintro e w' ⟨rfl, rfl⟩) | (go_at_call 74; refine (cmp_i64 _ _ _).mono ?_; rintro e w' ⟨rfl, rfl⟩))
    go_ret
    exact ⟨rfl, ((Grown.refl _).allocMap _ _).alloc _ _⟩

set_option maxRecDepth 100000 in
set_option maxHeartbeats 1000000 in
theorem holds64_none (x : Int) (hx : NoCond x) (a b : BitVec 64) (w : World) : Calls Tryd.prog 27 #[.int .u8 x, .bool true, .int .u64 (N a), .int .u64 (N b)] w fun e w' => e = .returned (.bool (condS x true a b)) ∧ Grown w w' := by
  have hl := run_lookup_none (P := Tryd.prog) Tryd.underlying110 Tryd.underlying5 (w.alloc (.map (tabE 12) 12)) w.heap.size (tabE 12) 12 x (.agg #[.bool false, .bool false, .bool false, .bool false, .bool false]) (MapKept.heap_alloc w _).1 (find_none hx) (by kernel_rfl)
  have hd : condS x true a b = false := condO_none hx _ _ _
  rw [hd]
  clear hd hx
  go_enter Tryd.func27, Tryd.ntmps27
  go_wp2_with (first | (go_at_call 71; refine (table_any _).mono ?_; rintro e w' ⟨rfl, rfl⟩) | (go_at_call 72; refine (low_N _ _ _ (by decide) (by decide)).mono ?_; rintro e w' ⟨rfl, rfl⟩) | (go_at_call 75; refine (sign_N _ _ _ (by decide) (by decide)).mono ?_; rintro e w' ⟨rfl, rfl⟩) | (go_at_call 73; refine (cmp_u64 _ _ _).mono ?_; rintro e w' ⟨rfl, rfl⟩) | (go_at_call 74; refine (cmp_i64 _ _ _).mono ?_; rintro e w' ⟨rfl, rfl⟩))
  go_ret
  exact ⟨rfl, ((Grown.refl _).allocMap _ _).alloc _ _⟩

theorem holds64 (x : Int) (a b : BitVec 64) (w : World) : Calls Tryd.prog 27 #[.int .u8 x, .bool true, .int .u64 (N a), .int .u64 (N b)] w fun e w' => e = .returned (.bool (condS x true a b)) ∧ Grown w w' := by
  rcases cond_cases x with rfl | rfl | rfl | rfl | rfl | rfl | rfl | rfl | rfl | rfl | rfl | rfl | h
  · exact holds64_0 a b w
  · exact holds64_16 a b w
  · exact holds64_80 a b w
  · exact holds64_32 a b w
  · exact holds64_48 a b w
  · exact holds64_160 a b w
  · exact holds64_176 a b w
  · exact holds64_96 a b w
  · exact holds64_112 a b w
  · exact holds64_192 a b w
  · exact holds64_208 a b w
  · exact holds64_64 a b w
  · exact holds64_none x h a b w
end Go.Proofs.YtbaiokfjoglmiaaDoor
end
section
namespace Go.Proofs.YtbaiokfjoglmiaaDoor
open Go.RowKit

attribute [local go_sem] u64_wrap u8_wrap wrap64_N ofInt_N u64_and

set_option maxRecDepth 100000 in
set_option maxHeartbeats 1000000 in
theorem holds32_0 (a b : BitVec 64) (w : World) : Calls Tryd.prog 27 #[.int .u8 0, .bool false, .int .u64 (N a), .int .u64 (N b)] w fun e w' => e = .returned (.bool (condS 0 false a b)) ∧ Grown w w' := by
  have hl := run_lookup_lit (P := Tryd.prog) Tryd.underlying110 Tryd.underlying5 (w.alloc (.map (tabE 12) 12)) w.heap.size (tabE 12) 12 0 0 (.agg #[.bool true, .bool true, .bool true, .bool false, .bool false]) (MapKept.heap_alloc w _).1 rfl
  have hd : ∀ c, cmpI (N (lowS a 32)) (N (lowS b 32)) = c → condS 0 false a b = condO 0 c (gO false a b) (tO false a b) := by intro c hc; rw [← hc]; rfl
  rcases cmpI_three (N (lowS a 32)) (N (lowS b 32)) with h | h | h
  all_goals
    rw [hd _ h]
    clear hd
    go_enter Tryd.func27, Tryd.ntmps27
    go_wp2_with (first | (go_at_call 71; refine (table_any _).mono ?_; rintro e w' ⟨rfl, rfl⟩) | (go_at_call 72; refine (low_N _ _ _ (by decide) (by decide)).mono ?_; rintro e w' ⟨rfl, rfl⟩) | (go_at_call 75; refine (sign_N _ _ _ (by decide) (by decide)).mono ?_; rintro e w' ⟨rfl, rfl⟩) | (go_at_call 73; refine (cmp_u64 _ _ _).mono ?_; rintro e w' ⟨rfl, rfl⟩) | (go_at_call 74; refine (cmp_i64 _ _ _).mono ?_; rintro e w' ⟨rfl, rfl⟩))
    go_ret
    exact ⟨rfl, ((Grown.refl _).allocMap _ _).alloc _ _⟩

set_option maxRecDepth 100000 in
set_option maxHeartbeats 1000000 in
theorem holds32_16 (a b : BitVec 64) (w : World) : Calls Tryd.prog 27 #[.int .u8 16, .bool false, .int .u64 (N a), .int .u64 (N b)] w fun e w' => e = .returned (.bool (condS 16 false a b)) ∧ Grown w w' := by
  have hl := run_lookup_lit (P := Tryd.prog) Tryd.underlying110 Tryd.underlying5 (w.alloc (.map (tabE 12) 12)) w.heap.size (tabE 12) 12 16 1 (.agg #[.bool false, .bool true, .bool false, .bool false, .bool false]) (MapKept.heap_alloc w _).1 rfl
  have hd : ∀ c, cmpI (N (lowS a 32)) (N (lowS b 32)) = c → condS 16 false a b = condO 16 c (gO false a b) (tO false a b) := by intro c hc; rw [← hc]; rfl
  rcases cmpI_three (N (lowS a 32)) (N (lowS b 32)) with h | h | h
  all_goals
    rw [hd _ h]
    clear hd
    go_enter Tryd.func27, Tryd.ntmps27
    go_wp2_with (first | (go_at_call 71; refine (table_any _).mono ?_; rintro e w' ⟨rfl, rfl⟩) | (go_at_call 72; refine (low_N _ _ _ (by decide) (by decide)).mono ?_; rintro e w' ⟨rfl, rfl⟩) | (go_at_call 75; refine (sign_N _ _ _ (by decide) (by decide)).mono ?_; rintro e w' ⟨rfl, rfl⟩) | (go_at_call 73; refine (cmp_u64 _ _ _).mono ?_; rintro e w' ⟨rfl, rfl⟩) | (go_at_call 74; refine (cmp_i64 _ _ _).mono ?_; rintro e w' ⟨rfl, rfl⟩))
    go_ret
    exact ⟨rfl, ((Grown.refl _).allocMap _ _).alloc _ _⟩

set_option maxRecDepth 100000 in
set_option maxHeartbeats 1000000 in
theorem holds32_80 (a b : BitVec 64) (w : World) : Calls Tryd.prog 27 #[.int .u8 80, .bool false, .int .u64 (N a), .int .u64 (N b)] w fun e w' => e = .returned (.bool (condS 80 false a b)) ∧ Grown w w' := by
  have hl := run_lookup_lit (P := Tryd.prog) Tryd.underlying110 Tryd.underlying5 (w.alloc (.map (tabE 12) 12)) w.heap.size (tabE 12) 12 80 2 (.agg #[.bool true, .bool false, .bool true, .bool false, .bool false]) (MapKept.heap_alloc w _).1 rfl
  have hd : ∀ c, cmpI (N (lowS a 32)) (N (lowS b 32)) = c → condS 80 false a b = condO 80 c (gO false a b) (tO false a b) := by intro c hc; rw [← hc]; rfl
  rcases cmpI_three (N (lowS a 32)) (N (lowS b 32)) with h | h | h
  all_goals
    rw [hd _ h]
    clear hd
    go_enter Tryd.func27, Tryd.ntmps27
    go_wp2_with (first | (go_at_call 71; refine (table_any _).mono ?_; rintro e w' ⟨rfl, rfl⟩) | (go_at_call 72; refine (low_N _ _ _ (by decide) (by decide)).mono ?_; rintro e w' ⟨rfl, rfl⟩) | (go_at_call 75; refine (sign_N _ _ _ (by decide) (by decide)).mono ?_; rintro e w' ⟨rfl, rfl⟩) | (go_at_call 73; refine (cmp_u64 _ _ _).mono ?_; rintro e w' ⟨rfl, rfl⟩) | (go_at_call 74; refine (cmp_i64 _ _ _).mono ?_; rintro e w' ⟨rfl, rfl⟩))
    go_ret
    exact ⟨rfl, ((Grown.refl _).allocMap _ _).alloc _ _⟩

set_option maxRecDepth 100000 in
set_option maxHeartbeats 1000000 in
theorem holds32_32 (a b : BitVec 64) (w : World) : Calls Tryd.prog 27 #[.int .u8 32, .bool false, .int .u64 (N a), .int .u64 (N b)] w fun e w' => e = .returned (.bool (condS 32 false a b)) ∧ Grown w w' := by
  have hl := run_lookup_lit (P := Tryd.prog) Tryd.underlying110 Tryd.underlying5 (w.alloc (.map (tabE 12) 12)) w.heap.size (tabE 12) 12 32 3 (.agg #[.bool false, .bool false, .bool true, .bool false, .bool false]) (MapKept.heap_alloc w _).1 rfl
  have hd : ∀ c, cmpI (N (lowS a 32)) (N (lowS b 32)) = c → condS 32 false a b = condO 32 c (gO false a b) (tO false a b) := by intro c hc; rw [← hc]; rfl
  rcases cmpI_three (N (lowS a 32)) (N (lowS b 32)) with h | h | h
  all_goals
    rw [hd _ h]
    clear hd
    go_enter Tryd.func27, Tryd.ntmps27
    go_wp2_with (first | (go_at_call 71; refine (table_any _).mono ?_; rintro e w' ⟨rfl, rfl⟩) | (go_at_call 72; refine (low_N _ _ _ (by decide) (by decide)).mono ?_; rintro e w' ⟨rfl, rfl⟩) | (go_at_call 75; refine (sign_N _ _ _ (by decide) (by decide)).mono ?_; rintro e w' ⟨rfl, rfl⟩) | (go_at_call 73; refine (cmp_u64 _ _ _).mono ?_; rintro e w' ⟨rfl, rfl⟩) | (go_at_call 74; refine (cmp_i64 _ _ _).mono ?_; rintro e w' ⟨rfl, rfl⟩))
    go_ret
    exact ⟨rfl, ((Grown.refl _).allocMap _ _).alloc _ _⟩

set_option maxRecDepth 100000 in
set_option maxHeartbeats 1000000 in
theorem holds32_48 (a b : BitVec 64) (w : World) : Calls Tryd.prog 27 #[.int .u8 48, .bool false, .int .u64 (N a), .int .u64 (N b)] w fun e w' => e = .returned (.bool (condS 48 false a b)) ∧ Grown w w' := by
  have hl := run_lookup_lit (P := Tryd.prog) Tryd.underlying110 Tryd.underlying5 (w.alloc (.map (tabE 12) 12)) w.heap.size (tabE 12) 12 48 4 (.agg #[.bool false, .bool true, .bool true, .bool false, .bool false]) (MapKept.heap_alloc w _).1 rfl
  have hd : ∀ c, cmpI (N (lowS a 32)) (N (lowS b 32)) = c → condS 48 false a b = condO 48 c (gO false a b) (tO false a b) := by intro c hc; rw [← hc]; rfl
  rcases cmpI_three (N (lowS a 32)) (N (lowS b 32)) with h | h | h
  all_goals
    rw [hd _ h]
    clear hd
    go_enter Tryd.func27, Tryd.ntmps27
    go_wp2_with (first | (go_at_call 71; refine (table_any _).mono ?_; rintro e w' ⟨rfl, rfl⟩) | (go_at_call 72; refine (low_N _ _ _ (by decide) (by decide)).mono ?_; rintro e w' ⟨rfl, rfl⟩) | (go_at_call 75; refine (sign_N _ _ _ (by decide) (by decide)).mono ?_; rintro e w' ⟨rfl, rfl⟩) | (go_at_call 73; refine (cmp_u64 _ _ _).mono ?_; rintro e w' ⟨rfl, rfl⟩) | (go_at_call 74; refine (cmp_i64 _ _ _).mono ?_; rintro e w' ⟨rfl, rfl⟩))
    go_ret
    exact ⟨rfl, ((Grown.refl _).allocMap _ _).alloc _ _⟩

set_option maxRecDepth 100000 in
set_option maxHeartbeats 1000000 in
theorem holds32_160 (a b : BitVec 64) (w : World) : Calls Tryd.prog 27 #[.int .u8 160, .bool false, .int .u64 (N a), .int .u64 (N b)] w fun e w' => e = .returned (.bool (condS 160 false a b)) ∧ Grown w w' := by
  have hl := run_lookup_lit (P := Tryd.prog) Tryd.underlying110 Tryd.underlying5 (w.alloc (.map (tabE 12) 12)) w.heap.size (tabE 12) 12 160 5 (.agg #[.bool true, .bool false, .bool false, .bool false, .bool false]) (MapKept.heap_alloc w _).1 rfl
  have hd : ∀ c, cmpI (N (lowS a 32)) (N (lowS b 32)) = c → condS 160 false a b = condO 160 c (gO false a b) (tO false a b) := by intro c hc; rw [← hc]; rfl
  rcases cmpI_three (N (lowS a 32)) (N (lowS b 32)) with h | h | h
  all_goals
    rw [hd _ h]
    clear hd
    go_enter Tryd.func27, Tryd.ntmps27
    go_wp2_with (first | (go_at_call 71; refine (table_any _).mono ?_; rintro e w' ⟨rfl, rfl⟩) | (go_at_call 72; refine (low_N _ _ _ (by decide) (by decide)).mono ?_; rintro e w' ⟨rfl, rfl⟩) | (go_at_call 75; refine (sign_N _ _ _ (by decide) (by decide)).mono ?_; rintro e w' ⟨rfl, rfl⟩) | (go_at_call 73; refine (cmp_u64 _ _ _).mono ?_; rintro e w' ⟨rfl, rfl⟩) | (go_at_call 74; refine (cmp_i64 _ _ _).mono ?_; rintro e w' ⟨rfl, rfl⟩))
    go_ret
    exact ⟨rfl, ((Grown.refl _).allocMap _ _).alloc _ _⟩

set_option maxRecDepth 100000 in
set_option maxHeartbeats 1000000 in
theorem holds32_176 (a b : BitVec 64) (w : World) : Calls Tryd.prog 27 #[.int .u8 176, .bool false, .int .u64 (N a), .int .u64 (N b)] w fun e w' => e = .returned (.bool (condS 176 false a b)) ∧ Grown w w' := by
  have hl := run_lookup_lit (P := Tryd.prog) Tryd.underlying110 Tryd.underlying5 (w.alloc (.map (tabE 12) 12)) w.heap.size (tabE 12) 12 176 6 (.agg #[.bool true, .bool true, .bool false, .bool false, .bool false]) (MapKept.heap_alloc w _).1 rfl
  have hd : ∀ c, cmpI (N (lowS a 32)) (N (lowS b 32)) = c → condS 176 false a b = condO 176 c (gO false a b) (tO false a b) := by intro c hc; rw [← hc]; rfl
  rcases cmpI_three (N (lowS a 32)) (N (lowS b 32)) with h | h | h
  all_goals
    rw [hd _ h]
    clear hd
    go_enter Tryd.func27, Tryd.ntmps27
    go_wp2_with (first | (go_at_call 71; refine (table_any _).mono ?_; rintro e w' ⟨rfl, rfl⟩) | (go_at_call 72; refine (low_N _ _ _ (by decide) (by decide)).mono ?_; rintro e w' ⟨rfl, rfl⟩) | (go_at_call 75; refine (sign_N _ _ _ (by decide) (by decide)).mono ?_; rintro e w' ⟨rfl, rfl⟩) | (go_at_call 73; refine (cmp_u64 _ _ _).mono ?_; rintro e w' ⟨rfl, rfl⟩) | (go_at_call 74; refine (cmp_i64 _ _ _).mono ?_; rintro e w' ⟨rfl, rfl⟩))
    go_ret
    exact ⟨rfl, ((Grown.refl _).allocMap _ _).alloc _ _⟩

set_option maxRecDepth 100000 in
set_option maxHeartbeats 1000000 in
theorem holds32_96 (a b : BitVec 64) (w : World) : Calls Tryd.prog 27 #[.int .u8 96, .bool false, .int .u64 (N a), .int .u64 (N b)] w fun e w' => e = .returned (.bool (condS 96 false a b)) ∧ Grown w w' := by
  have hl := run_lookup_lit (P := Tryd.prog) Tryd.underlying110 Tryd.underlying5 (w.alloc (.map (tabE 12) 12)) w.heap.size (tabE 12) 12 96 7 (.agg #[.bool false, .bool false, .bool true, .bool false, .bool true]) (MapKept.heap_alloc w _).1 rfl
  have hd : ∀ c, cmpI (Z (signS (lowS a 32) 32)) (Z (signS (lowS b 32) 32)) = c → condS 96 false a b = condO 96 (uO false a b) c (tO false a b) := by intro c hc; rw [← hc]; rfl
  rcases cmpI_three (Z (signS (lowS a 32) 32)) (Z (signS (lowS b 32) 32)) with h | h | h
  all_goals
    rw [hd _ h]
    clear hd
    go_enter Tryd.func27, Tryd.ntmps27
    go_wp2_with (first | (go_at_call 71; refine (table_any _).mono ?_; rintro e w' ⟨rfl, rfl⟩) | (go_at_call 72; refine (low_N _ _ _ (by decide) (by decide)).mono ?_; rintro e w' ⟨rfl, rfl⟩) | (go_at_call 75; refine (sign_N _ _ _ (by decide) (by decide)).mono ?_; rintro e w' ⟨rfl, rfl⟩) | (go_at_call 73; refine (cmp_u64 _ _ _).mono ?_; rintro e w' ⟨rfl, rfl⟩) | (go_at_call 74; refine (cmp_i64 _ _ _).mono ?_; rintro e w' ⟨rfl, rfl⟩))
    go_ret
    exact ⟨rfl, ((Grown.refl _).allocMap _ _).alloc _ _⟩

set_option maxRecDepth 100000 in
set_option maxHeartbeats 1000000 in
theorem holds32_112 (a b : BitVec 64) (w : World) : Calls Tryd.prog 27 #[.int .u8 112, .bool false, .int .u64 (N a), .int .u64 (N b)] w fun e w' => e = .returned (.bool (condS 112 false a b)) ∧ Grown w w' := by
  have hl := run_lookup_lit (P := Tryd.prog) Tryd.underlying110 Tryd.underlying5 (w.alloc (.map (tabE 12) 12)) w.heap.size (tabE 12) 12 112 8 (.agg #[.bool false, .bool true, .bool true, .bool false, .bool true]) (MapKept.heap_alloc w _).1 rfl
  have hd : ∀ c, cmpI (Z (signS (lowS a 32) 32)) (Z (signS (lowS b 32) 32)) = c → condS 112 false a b = condO 112 (uO false a b) c (tO false a b) := by intro c hc; rw [← hc]; rfl
  rcases cmpI_three (Z (signS (lowS a 32) 32)) (Z (signS (lowS b 32) 32)) with h | h | h
  all_goals
    rw [hd _ h]
    clear hd
    go_enter Tryd.func27, Tryd.ntmps27
    go_wp2_with (first | (go_at_call 71; refine (table_any _).mono ?_; rintro e w' ⟨rfl, rfl⟩) | (go_at_call 72; refine (low_N _ _ _ (by decide) (by decide)).mono ?_; rintro e w' ⟨rfl, rfl⟩) | (go_at_call 75; refine (sign_N _ _ _ (by decide) (by decide)).mono ?_; rintro e w' ⟨rfl, rfl⟩) | (go_at_call 73; refine (cmp_u64 _ _ _).mono ?_; rintro e w' ⟨rfl, rfl⟩) | (go_at_call 74; refine (cmp_i64 _ _ _).mono ?_; rintro e w' ⟨rfl, rfl⟩))
    go_ret
    exact ⟨rfl, ((Grown.refl _).allocMap _ _).alloc _ _⟩

set_option maxRecDepth 100000 in
set_option maxHeartbeats 1000000 in
theorem holds32_192 (a b : BitVec 64) (w : World) : Calls Tryd.prog 27 #[.int .u8 192, .bool false, .int .u64 (N a), .int .u64 (N b)] w fun e w' => e = .returned (.bool (condS 192 false a b)) ∧ Grown w w' := by
  have hl := run_lookup_lit (P := Tryd.prog) Tryd.underlying110 Tryd.underlying5 (w.alloc (.map (tabE 12) 12)) w.heap.size (tabE 12) 12 192 9 (.agg #[.bool true, .bool false, .bool false, .bool false, .bool true]) (MapKept.heap_alloc w _).1 rfl
  have hd : ∀ c, cmpI (Z (signS (lowS a 32) 32)) (Z (signS (lowS b 32) 32)) = c → condS 192 false a b = condO 192 (uO false a b) c (tO false a b) := by intro c hc; rw [← hc]; rfl
  rcases cmpI_three (Z (signS (lowS a 32) 32)) (Z (signS (lowS b 32) 32)) with h | h | h
  all_goals
    rw [hd _ h]
    clear hd
    go_enter Tryd.func27, Tryd.ntmps27
    go_wp2_with (first | (go_at_call 71; refine (table_any _).mono ?_; rintro e w' ⟨rfl, rfl⟩) | (go_at_call 72; refine (low_N _ _ _ (by decide) (by decide)).mono ?_; rintro e w' ⟨rfl, rfl⟩) | (go_at_call 75; refine (sign_N _ _ _ (by decide) (by decide)).mono ?_; rintro e w' ⟨rfl, rfl⟩) | (go_at_call 73; refine (cmp_u64 _ _ _).mono ?_; rintro e w' ⟨rfl, rfl⟩) | (go_at_call 74; refine (cmp_i64 _ _ _).mono ?_; rintro e w' ⟨rfl, rfl⟩))
    go_ret
    exact ⟨rfl, ((Grown.refl _).allocMap _ _).alloc _ _⟩

set_option maxRecDepth 100000 in
set_option maxHeartbeats 1000000 in
theorem holds32_208 (a b : BitVec 64) (w : World) : Calls Tryd.prog 27 #[.int .u8 208, .bool false, .int .u64 (N a), .int .u64 (N b)] w fun e w' => e = .returned (.bool (condS 208 false a b)) ∧ Grown w w' := by
  have hl := run_lookup_lit (P := Tryd.prog) Tryd.underlying110 Tryd.underlying5 (w.alloc (.map (tabE 12) 12)) w.heap.size (tabE 12) 12 208 10 (.agg #[.bool true, .bool true, .bool false, .bool false, .bool true]) (MapKept.heap_alloc w _).1 rfl
  have hd : ∀ c, cmpI (Z (signS (lowS a 32) 32)) (Z (signS (lowS b 32) 32)) = c → condS 208 false a b = condO 208 (uO false a b) c (tO false a b) := by intro c hc; rw [← hc]; rfl
  rcases cmpI_three (Z (signS (lowS a 32) 32)) (Z (signS (lowS b 32) 32)) with h | h | h
  all_goals
    rw [hd _ h]
    clear hd
    go_enter Tryd.func27, Tryd.ntmps27
    go_wp2_with (first | (go_at_call 71; refine (table_any _).mono ?_; rintro e w' ⟨rfl, rfl⟩) | (go_at_call 72; refine (low_N _ _ _ (by decide) (by decide)).mono ?_; rintro e w' ⟨rfl, rfl⟩) | (go_at_call 75; refine (sign_N _ _ _ (by decide) (by decide)).mono ?_; rintro e w' ⟨rfl, rfl⟩) | (go_at_call 73; refine (cmp_u64 _ _ _).mono ?_; rintro e w' ⟨rfl, rfl⟩) | (go_at_call 74; refine (cmp_i64 _ _ _).mono ?_; rintro e w' ⟨rfl, rfl⟩))
    go_ret
    exact ⟨rfl, ((Grown.refl _).allocMap _ _).alloc _ _⟩

set_option maxRecDepth 100000 in
set_option maxHeartbeats 1000000 in
theorem holds32_64 (a b : BitVec 64) (w : World) : Calls Tryd.prog 27 #[.int .u8 64, .bool false, .int .u64 (N a), .int .u64 (N b)] w fun e w' => e = .returned (.bool (condS 64 false a b)) ∧ Grown w w' := by
  have hl := run_lookup_lit (P := Tryd.prog) Tryd.underlying110 Tryd.underlying5 (w.alloc (.map (tabE 12) 12)) w.heap.size (tabE 12) 12 64 11 (.agg #[.bool false, .bool false, .bool false, .bool true, .bool false]) (MapKept.heap_alloc w _).1 rfl
  have hd : condS 64 false a b = tO false a b := rfl
  rw [hd]
  have ht : tO false a b = !(N (lowS a 32 &&& lowS b 32) == 0) := by rw [N_and_beq]; rfl
  rw [ht]
  clear hd ht
  by_cases hz : N (lowS a 32 &&& lowS b 32) = 0
  · rw [hz, show (!((0 : Int) == 0)) = false from rfl]
    go_enter Tryd.func27, Tryd.ntmps27
    go_wp2_with (first | (go_at_call 71; refine (table_any _).mono ?_; rintro e w' ⟨rfl, rfl⟩) | (go_at_call 72; refine (low_N _ _ _ (by decide) (by decide)).mono ?_; rintro e w' ⟨rfl, rfl⟩) | (go_at_call 75; refine (sign_N _ _ _ (by decide) (by decide)).mono ?_; rintro e w' ⟨rfl, rfl⟩) | (go_at_call 73; refine (cmp_u64 _ _ _).mono ?_; rintro e w' ⟨rfl, rfl⟩) | (go_at_call 74; refine (cmp_i64 _ _ _).mono ?_; rintro e w' ⟨rfl, rfl⟩))
    go_ret
    exact ⟨rfl, ((Grown.refl _).allocMap _ _).alloc _ _⟩
  · have hz1 : (N (lowS a 32 &&& lowS b 32) == 0) = false := by simpa using hz
    have hz2 : (N (lowS a 32 &&& lowS b 32) != 0) = true := by simpa using hz
    rw [hz1, show (!false) = true from rfl]
    clear hz
    go_enter Tryd.func27, Tryd.ntmps27
    go_wp2_with (first | (go_at_call 71; refine (table_any _).mono ?_; rintro e w' ⟨rfl, rfl⟩) | (go_at_call 72; refine (low_N _ _ _ (by decide) (by decide)).mono ?_; rintro e w' ⟨rfl, rfl⟩) | (go_at_call 75; refine (sign_N _ _ _ (by decide) (by decide)).mono ?_; rintro e w' ⟨rfl, rfl⟩) | (go_at_call 73; refine (cmp_u64 _ _ _).mono ?_; rintro e w' ⟨rfl, rfl⟩) | (go_at_call 74; refine (cmp_i64 _ _ _).mono ?_; rintro e w' ⟨rfl, rfl⟩))
    go_ret
    exact ⟨rfl, ((Grown.refl _).allocMap _ _).alloc _ _⟩

set_option maxRecDepth 100000 in
set_option maxHeartbeats 1000000 in
theorem holds32_none (x : Int) (hx : NoCond x) (a b : BitVec 64) (w : World) : Calls Tryd.prog 27 #[.int .u8 x, .bool false, .int .u64 (N a), .int .u64 (N b)] w fun e w' => e = .returned (.bool (condS x false a b)) ∧ Grown w w' := by
  have hl := run_lookup_none (P := Tryd.prog) Tryd.underlying110 Tryd.underlying5 (w.alloc (.map (tabE 12) 12)) w.heap.size (tabE 12) 12 x (.agg #[.bool false, .bool false, .bool false, .bool false, .bool false]) (MapKept.heap_alloc w _).1 (find_none hx) (by kernel_rfl)
  have hd : condS x false a b = false := condO_none hx _ _ _
  rw [hd]
  clear hd hx
  go_enter Tryd.func27, Tryd.ntmps27
  go_wp2_with (first | (go_at_call 71; refine (table_any _).mono ?_; rintro e w' ⟨rfl, rfl⟩) | (go_at_call 72; refine (low_N _ _ _ (by decide) (by decide)).mono ?_; rintro e w' ⟨rfl, rfl⟩) | (go_at_call 75; refine (sign_N _ _ _ (by decide) (by decide)).mono ?_; rintro e w' ⟨rfl, rfl⟩) | (go_at_call 73; refine (cmp_u64 _ _ _).mono ?_; rintro e w' ⟨rfl, rfl⟩) | (go_at_call 74; refine (cmp_i64 _ _ _).mono ?_; rintro e w' ⟨rfl, rfl⟩))
  go_ret
  exact ⟨rfl, ((Grown.refl _).allocMap _ _).alloc _ _⟩

theorem holds32 (x : Int) (a b : BitVec 64) (w : World) : Calls Tryd.prog 27 #[.int .u8 x, .bool false, .int .u64 (N a), .int .u64 (N b)] w fun e w' => e = .returned (.bool (condS x false a b)) ∧ Grown w w' := by
  rcases cond_cases x with rfl | rfl | rfl | rfl | rfl | rfl | rfl | rfl | rfl | rfl | rfl | rfl | h
  · exact holds32_0 a b w
  · exact holds32_16 a b w
  · exact holds32_80 a b w
  · exact holds32_32 a b w
  · exact holds32_48 a b w
  · exact holds32_160 a b w
  · exact holds32_176 a b w
  · exact holds32_96 a b w
  · exact holds32_112 a b w
  · exact holds32_192 a b w
  · exact holds32_208 a b w
  · exact holds32_64 a b w
  · exact holds32_none x h a b w
end Go.Proofs.YtbaiokfjoglmiaaDoor
end
section
namespace Go.Proofs.YtbaiokfjoglmiaaDoor.Ex
open Go Go.RowKit
theorem holds_any (x : Int) (wide : Bool) (a b : BitVec 64) (w : World) : Calls Tryd.prog 27 #[.int .u8 x, .bool wide, .int .u64 (N a), .int .u64 (N b)] w fun e w' => e = .returned (.bool (condS x wide a b)) ∧ Grown w w' := by
  cases wide
  · exact holds32 x a b w
  · exact holds64 x a b w
/-- A number that is of 64 bits. -/
def inU (a : Int) : Int × Int := (b2i (decide (0 ≤ a ∧ a < 18446744073709551616)), 1)
theorem inU_ok {a : Int} (h : (inU a).1 = (inU a).2) : ∃ v : BitVec 64, a = N v := by
  have h2 : decide (0 ≤ a ∧ a < 18446744073709551616) = true := b2i_inj (b := true) h
  obtain ⟨h0, h1⟩ := of_decide_eq_true h2
  exact ⟨BitVec.ofInt 64 a, (N_ofInt a h0 (by simpa using h1)).symm⟩
theorem inU_N (v : BitVec 64) : (inU (N v)).1 = 1 := by
  have h0 := N_nonneg v
  have h1 := N_lt v
  unfold inU
  rw [decide_eq_true ⟨h0, by simpa using h1⟩]
  rfl
def holdsHook : Hook := fun f args _ =>
  if Nat.beq f 27 then
    match args with
    | [.int .u8 x, .bool wide, .int .u64 a, .int .u64 b] => some (.bool (condS x wide (BitVec.ofInt 64 a) (BitVec.ofInt 64 b)), [inU a, inU b])
    | _ => none
  else none
theorem holdsHook_ok : HookOk Tryd.prog holdsHook := by
  intro f args h v cs hv hc wb k s w H
  unfold holdsHook at hv
  split at hv
  · rename_i hf
    obtain rfl := Nat.eq_of_beq_eq_true hf
    split at hv
    · rename_i x wide a b
      cases hv
      obtain ⟨va, rfl⟩ := inU_ok (hc (inU a) (by simp))
      obtain ⟨vb, rfl⟩ := inU_ok (hc (inU b) (by simp))
      rw [ofInt_N, ofInt_N]
      exact (holds_any x wide va vb w).mono fun e w' h => ⟨h.1, Gr.of_grown h.2⟩
    · cases hv
  · cases hv
def doHook : Hook := fun f args _ =>
  if Nat.beq f 28 then
    match args with
    | [.int .u8 x, .bool wide, .int .u64 a, .int .u64 b] => some (.int .u64 (N (aluS x wide (BitVec.ofInt 64 a) (BitVec.ofInt 64 b))), [inU a, inU b])
    | _ => none
  else none
theorem doHook_ok : HookOk Tryd.prog doHook := by
  intro f args h v cs hv hc wb k s w H
  unfold doHook at hv
  split at hv
  · rename_i hf
    obtain rfl := Nat.eq_of_beq_eq_true hf
    split at hv
    · rename_i x wide a b
      cases hv
      obtain ⟨va, rfl⟩ := inU_ok (hc (inU a) (by simp))
      obtain ⟨vb, rfl⟩ := inU_ok (hc (inU b) (by simp))
      rw [ofInt_N, ofInt_N]
      exact (do_any x wide va vb w).mono fun e w' h => ⟨h.1, Gr.of_grown h.2⟩
    · cases hv
  · cases hv
/-- Comparing, as the machine does it: of numbers of a kind. -/
def subI (k : IntKind) (a b : Int) : Int := k.wrap (a - b)
def andI (k : IntKind) (a b : Int) : Int := k.wrap (BitVec.ofInt k.bits a &&& BitVec.ofInt k.bits b).toNat
def xorI (k : IntKind) (a b : Int) : Int := k.wrap (BitVec.ofInt k.bits a ^^^ BitVec.ofInt k.bits b).toNat
def negB (half : Int) (v : Int) : Bool := decide (v > half)
end Go.Proofs.YtbaiokfjoglmiaaDoor.Ex
end
