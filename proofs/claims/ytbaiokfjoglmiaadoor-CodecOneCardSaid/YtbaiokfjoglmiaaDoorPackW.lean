/-
  Lemmas for the laws of this seat, part W: Ex14, LaidArr, Plain, Flat, NoNG, Law12a, Memo, Law12b, NumsMath, SlHook, Reg, CellsAt, RegT, PostGr, Dk1, Nums, Dk2, ExI, Dk0, Dk3, Dk3b, Dk5, Dk6, NumsMath2.
-/
import Derived.Test.YtbaiokfjoglmiaaDoorPackV
import Derived.OpenShut
import Derived.MakeChecks
import Derived.Deep.Fields
import Derived.ChangeSame
import Derived.ProofKit
import Derived.WalkKit
import Derived.ShutString
import Derived.Test.YtbaiokfjoglmiaaDoorProg
import Derived.Test.YtbaiokfjoglmiaaDoorRows
import Derived.Handy
import Derived.BigQuiet
import Derived.StillTail
import Derived.Deep.Quiet
import Derived.Lib.SlBytesRow
section
namespace Go.Proofs.YtbaiokfjoglmiaaDoor.Ex
open Go Go.RowKit

/-- The first blocks: a package's variables; those that are not spoken of are given up. -/
def placeG (h0 : List AO) (w : World) : Ren := fun g =>
  match h0[g]?, w.shape? g with
  | some o, some (_, tot) => if o.live then some ⟨g, 0, tot, some GM⟩ else none
  | _, _ => none
def Laid (h0 : List AO) (w : World) : Prop :=
  ∀ (g : Nat) (o : AO), h0[g]? = some o → o.live = true → o.es = some GM ∧ o.cs.all flat = true ∧ ∃ T tot, w.shape? g = some (T, tot) ∧ o.cs.length ≤ tot ∧ ∀ (j : Nat) (v : Value), o.cs[j]? = some v → w.cell? ⟨g, j, none⟩ = some v
theorem shape_cells {w : World} {g : Nat} {T : TypeId} {n : Nat} (h : w.shape? g = some (T, n)) : g < w.heap.size ∧ ∀ j, j < n → (w.cell? ⟨g, j, none⟩).isSome = true := by
  unfold World.shape? at h
  split at h
  · rename_i c e f hh
    cases h
    refine ⟨(Array.getElem?_eq_some_iff.1 hh).1, fun j hj => ?_⟩
    unfold World.cell?
    simp only [hh]
    simpa using hj
  · cases h
theorem HR.start {h0 : List AO} {w : World} (hL : Laid h0 w) : HR w h0.length (placeG h0 w) h0 w := by
  have pl : ∀ g p, placeG h0 w g = some p → ∃ o T tot, h0[g]? = some o ∧ o.live = true ∧ w.shape? g = some (T, tot) ∧ p = ⟨g, 0, tot, some GM⟩ := by
    intro g p hp
    unfold placeG at hp
    split at hp
    · rename_i o T tot ho hs
      split at hp
      · rename_i hl; cases hp; exact ⟨o, T, tot, ho, hl, hs, rfl⟩
      · cases hp
    · cases hp
  refine ⟨Gr.refl w, Nat.le_refl _, fun i hi => ?_, fun i p hp => ?_, fun i o ho hl => ?_, fun i j a b p q hi hj _ _ hp hq e => ?_, fun g p hp _ => ?_⟩
  · unfold placeG
    rw [List.getElem?_eq_none hi]
  · obtain ⟨o, T, tot, ho, hl, hs, rfl⟩ := pl i p hp
    have := (shape_cells hs).1
    have hlt := (List.getElem?_eq_some_iff.1 ho).1
    exact ⟨fun _ => this, fun h => absurd h (by omega), this⟩
  · obtain ⟨he, hf, T, tot, hs, hle, hc⟩ := hL i o ho hl
    refine ⟨⟨i, 0, tot, some GM⟩, by unfold placeG; simp [ho, hl, hs], he.symm, ObjAt.block (by unfold isM; rw [he]; rfl) ⟨by simpa using hle, (shape_cells hs).2, ⟨T, hs⟩, fun hg => absurd rfl hg, fun j v hv => ⟨v, ?_, .same (all_get hf hv)⟩⟩⟩
    rw [Nat.zero_add]
    exact hc j v hv
  · obtain ⟨_, _, _, _, _, _, rfl⟩ := pl i p hp
    obtain ⟨_, _, _, _, _, _, rfl⟩ := pl j q hq
    exact e
  · obtain ⟨_, _, _, _, _, _, rfl⟩ := pl g p hp
    exact ⟨rfl, rfl⟩
/-- A memory that is told by a heap whose first blocks are such variables has these. -/
def eqI : Value → Value → Bool
  | .int k a, .int j b => if k = j then a == b else false
  | x, y => veq0 x y
theorem eqI_ok {x y : Value} (h : eqI x y = true) : x = y := by
  unfold eqI at h
  split at h
  · split at h
    · rename_i hk; rw [hk, eq_of_beq h]
    · cases h
  · exact veq0_ok h
def eqL : List Value → List Value → Bool
  | [], [] => true
  | x :: xs, y :: ys => eqI x y && eqL xs ys
  | _, _ => false
theorem eqL_ok : ∀ {xs ys : List Value}, eqL xs ys = true → xs = ys
  | [], [], _ => rfl
  | x :: xs, y :: ys, h => by
    simp only [eqL, Bool.and_eq_true] at h
    rw [eqI_ok h.1, eqL_ok h.2]
  | [], _ :: _, h => by cases h
  | _ :: _, [], h => by cases h
def hasG : List AO → List AO → Bool
  | [], _ => true
  | _ :: _, [] => false
  | o :: l, p :: h => (!o.live || (p.live && (match p.es with | some e => Nat.beq e GM | none => false) && eqL p.cs o.cs)) && hasG l h
theorem hasG_at : ∀ {h0 h : List AO}, hasG h0 h = true → ∀ (g : Nat) (o : AO), h0[g]? = some o → o.live = true → ∃ p, h[g]? = some p ∧ p.live = true ∧ p.es = some GM ∧ p.cs = o.cs
  | [], _, _, g, o, ho, _ => by simp at ho
  | _ :: _, [], h, _, _, _, _ => by cases h
  | o :: l, p :: h, hh, g, q, hq, hl => by
    simp only [hasG, Bool.and_eq_true] at hh
    cases g with
    | succ g => simpa using hasG_at hh.2 g q (by simpa using hq) hl
    | zero =>
      simp at hq
      subst hq
      have h1 := hh.1
      simp only [hl, Bool.not_true, Bool.false_or, Bool.and_eq_true] at h1
      refine ⟨p, rfl, h1.1.1, ?_, eqL_ok h1.2⟩
      cases he : p.es with
      | none => rw [he] at h1; cases h1.1.2
      | some e => rw [he] at h1; rw [Nat.eq_of_beq_eq_true h1.1.2]
theorem HR.laid {wb : World} {k : Nat} {s : Ren} {h h0 : List AO} {w : World} (H : HR wb k s h w) (hh : hasG h0 h = true) (hf : h0.all (fun o => !o.live || (match o.es with | some e => Nat.beq e GM | none => false) && o.cs.all flat) = true) : Laid h0 w := by
  intro g o ho hl
  obtain ⟨p, hp, hpl, hpe, hpc⟩ := hasG_at hh g o ho hl
  have hfo := List.all_eq_true.1 hf o (List.mem_of_getElem? ho)
  simp only [hl, Bool.not_true, Bool.false_or, Bool.and_eq_true] at hfo
  have hoe : o.es = some GM := by
    cases he : o.es with
    | none => rw [he] at hfo; cases hfo.1
    | some e => rw [he] at hfo; rw [Nat.eq_of_beq_eq_true hfo.1]
  obtain ⟨q, hq, hqe, hb⟩ := H.obj g p hp hpl
  obtain ⟨e1, e2⟩ := H.gl g q hq (by rw [hqe, hpe])
  have B := hb.2 (by unfold isM; rw [hpe]; rfl)
  obtain ⟨T, hT⟩ := B.shp
  rw [e1] at hT
  refine ⟨hoe, hfo.2, T, q.tot, hT, ?_, fun j v hv => ?_⟩
  · have := B.fit
    rw [hpc] at this
    omega
  · obtain ⟨v', h1, h2⟩ := B.rel j v (by rw [hpc]; exact hv)
    rw [e1, e2, Nat.zero_add, h2.eq_of_flat (all_get hfo.2 hv)] at h1
    exact h1
noncomputable def ranG (P : Program) (hk : Hook) (orc : Orc) (L f : Nat) (h0 : List AO) (g : FuncId) (args : List Value) : Option (Value × List AO × Mk) :=
  match callA P ⟨ex P (aOp P) (drawE P) (liftH hk) orc accQ L f, liftH hk, fun _ _ => none, accQ⟩ g args h0 with
  | some (v, h, m) => if quietB h0.length m.1 then some (v, h, m) else none
  | none => none
noncomputable def reckonGL (P : Program) (hk : Hook) (orc : Orc) (L f : Nat) (h0 : List AO) (g : FuncId) (args : List Value) : Option (Value × List Int) :=
  match ranG P hk orc L f h0 g args with
  | some (v, _, m) => some (v, m.2.map (·.1))
  | none => none
noncomputable def reckonGR (P : Program) (hk : Hook) (orc : Orc) (L f : Nat) (h0 : List AO) (g : FuncId) (args : List Value) (v : Value) : Option (Value × List Int) :=
  match ranG P hk orc L f h0 g args with
  | some (_, _, m) => some (v, m.2.map (·.2))
  | none => some (v, [])
/-- A run with tests that are not reckoned: 'orc' says which way each goes; what it must hold for is 'ls = rs'. -/
theorem reckonX_any {P : Program} (hng : NoNG P) {hk : Hook} (hhk : HookOk2 P hk) (orc : Orc) (L f : Nat) (h0 : List AO) {g : FuncId} {args : List Value} {v : Value} (ha : args.all flat = true) (hv : flat v = true) (h : reckonGL P hk orc L f h0 g args = reckonGR P hk orc L f h0 g args v) (w : World) (hL : Laid h0 w) :
    Calls P g ⟨args⟩ w fun e w' => e = .returned v ∧ Gr w w' := by
  unfold reckonGL reckonGR ranG at h
  cases hc : callA P ⟨ex P (aOp P) (drawE P) (liftH hk) orc accQ L f, liftH hk, fun _ _ => none, accQ⟩ g args h0 with
  | none => rw [hc] at h; cases h
  | some r =>
    obtain ⟨v', h', m⟩ := r
    rw [hc] at h
    simp only at h
    split at h
    · rename_i r2 v2 h2 m2 hm2
      split at hm2
      · rename_i hq
        cases hm2
        simp only [Option.some.injEq, Prod.mk.injEq] at h
        obtain ⟨rfl, h3⟩ := h
        refine (callA_ok (ex_ok accQ_eq hng (aOp_ok P hng) (drawE_ok P) (drawE_low P) (lift_ok hhk) L f _) hc (wb := w) (k := h0.length) (s := placeG h0 w) ⟨quietB_ok hq, map_same h3⟩ (LR.ofFlat ha) (HR.start hL)).mono ?_
        rintro e w' ⟨s', u, rfl, _, H, hvr⟩
        rw [hvr.eq_of_flat hv]
        exact ⟨rfl, H.grown⟩
      · cases hm2
    · cases h
theorem reckonG_any {P : Program} (hng : NoNG P) {hk : Hook} (hhk : HookOk P hk) (orc : Orc) (L f : Nat) (h0 : List AO) {g : FuncId} {args : List Value} {v : Value} (ha : args.all flat = true) (hv : flat v = true) (h : reckonGL P (guardH hk) orc L f h0 g args = reckonGR P (guardH hk) orc L f h0 g args v) (w : World) (hL : Laid h0 w) :
    Calls P g ⟨args⟩ w fun e w' => e = .returned v ∧ Gr w w' := reckonX_any hng (guard_ok hhk) orc L f h0 ha hv h w hL
theorem reckonG_ok {P : Program} (hng : NoNG P) {hk : Hook} (hhk : HookOk P hk) (L f : Nat) (h0 : List AO) {g : FuncId} {args : List Value} {v : Value} (ha : args.all flat = true) (hv : flat v = true) (h : reckonGL P (guardH hk) noOrc L f h0 g args = reckonGR P (guardH hk) noOrc L f h0 g args v) (w : World) (hL : Laid h0 w) :
    Calls P g ⟨args⟩ w fun e w' => e = .returned v ∧ Gr w w' := reckonG_any hng hhk noOrc L f h0 ha hv h w hL
theorem reckonS_ok {P : Program} (hng : NoNG P) {hk : Hook} (hhk : HookOk P hk) (orc : Orc) (L f : Nat) (h0 : List AO) {g : FuncId} {args : List Value} {v : Value} {ls rs : List Int} (ha : args.all flat = true) (hv : flat v = true) (h1 : reckonGL P (guardH hk) orc L f h0 g args = some (v, ls))
    (h2 : reckonGR P (guardH hk) orc L f h0 g args v = some (v, rs)) (he : ls = rs) (w : World) (hL : Laid h0 w) : Calls P g ⟨args⟩ w fun e w' => e = .returned v ∧ Gr w w' :=
  reckonG_any hng hhk orc L f h0 ha hv (h1.trans (he ▸ h2.symm)) w hL
noncomputable def reckonGC (P : Program) (hk : Hook) (orc : Orc) (L f : Nat) (h0 : List AO) (g : FuncId) (args : List Value) : Option (Value × Cs) :=
  match ranG P hk orc L f h0 g args with
  | some (v, _, m) => some (v, m.2)
  | none => none
/-- The same, of one run alone: 'cs' are the pairs that must be the same. -/
theorem reckonT_ok {P : Program} (hng : NoNG P) {hk : Hook} (hhk : HookOk P hk) (orc : Orc) (L f : Nat) (h0 : List AO) {g : FuncId} {args : List Value} {v : Value} {cs : Cs} (ha : args.all flat = true) (hv : flat v = true) (h : reckonGC P (guardH hk) orc L f h0 g args = some (v, cs))
    (he : cs.map (·.1) = cs.map (·.2)) (w : World) (hL : Laid h0 w) : Calls P g ⟨args⟩ w fun e w' => e = .returned v ∧ Gr w w' := by
  refine reckonG_any hng hhk orc L f h0 ha hv ?_ w hL
  unfold reckonGC at h
  unfold reckonGL reckonGR
  split at h
  · rename_i v' h' m hr
    cases h
    simp only [he]
  · cases h
theorem reckonX_ok {P : Program} (hng : NoNG P) {hk : Hook} (hhk : HookOk2 P hk) (L f : Nat) (h0 : List AO) {g : FuncId} {args : List Value} {v : Value} (ha : args.all flat = true) (hv : flat v = true) (h : reckonGL P hk noOrc L f h0 g args = reckonGR P hk noOrc L f h0 g args v) (w : World) (hL : Laid h0 w) :
    Calls P g ⟨args⟩ w fun e w' => e = .returned v ∧ Gr w w' := reckonX_any hng hhk noOrc L f h0 ha hv h w hL
/-- Of one run alone, with hooks of any arguments: 'cs' are the pairs that must be the same. -/
theorem reckonXT_ok {P : Program} (hng : NoNG P) {hk : Hook} (hhk : HookOk2 P hk) (orc : Orc) (L f : Nat) (h0 : List AO) {g : FuncId} {args : List Value} {v : Value} {cs : Cs} (ha : args.all flat = true) (hv : flat v = true) (h : reckonGC P hk orc L f h0 g args = some (v, cs))
    (he : cs.map (·.1) = cs.map (·.2)) (w : World) (hL : Laid h0 w) : Calls P g ⟨args⟩ w fun e w' => e = .returned v ∧ Gr w w' := by
  refine reckonX_any hng hhk orc L f h0 ha hv ?_ w hL
  unfold reckonGC at h
  unfold reckonGL reckonGR
  split at h
  · rename_i v' h' m hr
    cases h
    simp only [he]
  · cases h
theorem laid_at {g : Nat} {cs : List Value} {w : World} (h : ∃ t fr, w.heap[g]? = some (.cells ⟨cs⟩ t fr)) : ∃ T tot, w.shape? g = some (T, tot) ∧ cs.length ≤ tot ∧ ∀ (j : Nat) (v : Value), cs[j]? = some v → w.cell? ⟨g, j, none⟩ = some v := by
  obtain ⟨t, fr, hh⟩ := h
  refine ⟨t, cs.length, by simp [World.shape?, hh], Nat.le_refl _, fun j v hv => ?_⟩
  unfold World.cell?
  simp only [hh]
  simpa using hv
/-- One variable, at its place. -/
theorem Laid.one {g0 : Nat} {cs : List Value} {w : World} (hf : cs.all flat = true) (h : ∃ t fr, w.heap[g0]? = some (.cells ⟨cs⟩ t fr)) : Laid (List.replicate g0 dead ++ [⟨true, some GM, cs⟩]) w := by
  intro g o ho hl
  by_cases e : g < g0
  · rw [List.getElem?_append_left (by simpa using e), List.getElem?_replicate, if_pos e] at ho
    cases ho
    cases hl
  · have h2 := (List.getElem?_eq_some_iff.1 ho).1
    simp only [List.length_append, List.length_replicate, List.length_singleton] at h2
    obtain rfl : g = g0 := by omega
    rw [List.getElem?_append_right (by simp)] at ho
    simp only [List.length_replicate, Nat.sub_self, List.getElem?_cons_zero, Option.some.injEq] at ho
    subst ho
    exact ⟨rfl, hf, laid_at h⟩
theorem Laid.nil (w : World) : Laid [] w := fun g o h => by simp at h
theorem Laid.gr {h0 : List AO} {w w' : World} (h : Laid h0 w) (g : Gr w w') : Laid h0 w' := fun i o ho hl =>
  let ⟨a, b, T, tot, hs, hle, hc⟩ := h i o ho hl
  ⟨a, b, T, tot, gr_shape g (shape_cells hs).1 hs, hle, fun j v hv => (gr_cell g (a := ⟨i, j, none⟩) (shape_cells hs).1).trans (hc j v hv)⟩
end Go.Proofs.YtbaiokfjoglmiaaDoor.Ex
end
section
namespace Go.Proofs.YtbaiokfjoglmiaaDoor.Ex
open Go Go.RowKit Go.ChangeShapes Go.WideShapes Go.WideMaps Go.WideElems Go.ChangeAt Go.Deep

theorem cells_of_ints {H : Type} {enc : TypeId × Value → H} {P : Program} {w : World} {base : Nat} {spare : Nat → Bool} {held : Bool} {fuel : Nat} {t e : TypeId} {len : Nat} {cs : List Value} {k : IntKind} {ns : List Int} {x : DataW H × List MemPlace}
    (ht : P.underlying t = some (.array len e)) (he : P.underlying e = some (.int k)) (hc : P.cellsOf e = 1) (hct : P.cellsOf t = len) (h : DataW.trod enc P w base spare held fuel t cs = some x) (hx : x.1 = .agg (ns.map fun n => .lit (.int k n))) : cs = ns.map (.int k) := by
  obtain ⟨xs, m, _, hxx, hlen, hn, hall⟩ := DataW.trod_array ht h
  rw [hct] at hlen
  simp only [hc] at hall
  have hm : xs.map (·.1) = ns.map fun n => .lit (.int k n) := by
    have h1 := congrArg Prod.fst hxx
    rw [hx] at h1
    injection h1 with h2
    exact h2.symm
  have hl : ns.length = len := by
    have := congrArg List.length hm
    simp at this
    omega
  apply List.ext_getElem?
  intro i
  by_cases hi : i < len
  · have hn0 : ∃ n, ns[i]? = some n := ⟨_, List.getElem?_eq_getElem (by omega)⟩
    obtain ⟨n, hn0⟩ := hn0
    obtain ⟨y, hy⟩ : ∃ y, xs[i]? = some y := ⟨_, List.getElem?_eq_getElem (by omega)⟩
    have hh := (hall i hi).trans hy
    obtain ⟨n', e1, rfl, _⟩ := DataW.trod_int he hh
    have h2 : (xs.map (·.1))[i]? = some (.lit (.int k n')) := by rw [List.getElem?_map, hy]; rfl
    rw [hm, List.getElem?_map, hn0] at h2
    simp at h2
    subst h2
    have h3 := congrArg (·[0]?) e1
    simp at h3
    rw [List.getElem?_map, hn0]
    simpa using h3
  · rw [List.getElem?_eq_none (by omega), List.getElem?_eq_none (by simp; omega)]
/-- An array of structs of two numbers. -/
theorem cells_of_pairs {H : Type} {enc : TypeId × Value → H} {P : Program} {w : World} {base : Nat} {spare : Nat → Bool} {held : Bool} {fuel : Nat} {t e : TypeId} {len : Nat} {cs : List Value} {k j : IntKind} {f0 f1 : Field} {ns : List (Int × Int)} {x : DataW H × List MemPlace}
    (ht : P.underlying t = some (.array len e)) (he : P.underlying e = some (.struct #[f0, f1])) (hone : oneCellFields P #[f0, f1] = true) (hc : P.cellsOf e = 2) (hct : P.cellsOf t = 2 * len) (u0 : P.underlying f0.type = some (.int k)) (u1 : P.underlying f1.type = some (.int j))
    (h : DataW.trod enc P w base spare held fuel t cs = some x) (hx : x.1 = .agg (ns.map fun n => .agg [.lit (.int k n.1), .lit (.int j n.2)])) : cs = (ns.map fun n => [Value.int k n.1, Value.int j n.2]).flatten := by
  obtain ⟨xs, m, _, hxx, hlen, hn, hall⟩ := DataW.trod_array ht h
  rw [hct] at hlen
  simp only [hc] at hall
  have hm : xs.map (·.1) = ns.map fun n => .agg [.lit (.int k n.1), .lit (.int j n.2)] := by
    have h1 := congrArg Prod.fst hxx
    rw [hx] at h1
    injection h1 with h2
    exact h2.symm
  have hl : ns.length = len := by
    have := congrArg List.length hm
    simp at this
    omega
  have each : ∀ (i : Nat), i < len → ∀ n, ns[i]? = some n → (cs.drop (i * 2)).take 2 = [Value.int k n.1, Value.int j n.2] := by
    intro i hi n hn0
    obtain ⟨y, hy⟩ : ∃ y, xs[i]? = some y := ⟨_, List.getElem?_eq_getElem (by omega)⟩
    have hh := (hall i hi).trans hy
    have h2 : (xs.map (·.1))[i]? = some y.1 := by rw [List.getElem?_map, hy]; rfl
    rw [hm, List.getElem?_map, hn0] at h2
    simp only [Option.map_some, Option.some.injEq] at h2
    obtain ⟨y0, y1, q, hyy, hll, h0, h1⟩ := trod_struct2 he hh
    rw [hc] at hll
    obtain ⟨o0, k0⟩ := hone_of hone 0 f0 rfl
    obtain ⟨o1, k1⟩ := hone_of hone 1 f1 rfl
    generalize (cs.drop (i * 2)).take 2 = ds at h0 h1 hll ⊢
    match ds, hll with
    | [c0, c1], _ =>
      simp only [o0, k0, o1, k1, List.drop_zero, List.take_succ_cons, List.take_zero, List.drop_succ_cons] at h0 h1
      obtain ⟨n0, e0, rfl, _⟩ := DataW.trod_int u0 h0
      obtain ⟨n1, e1, rfl, _⟩ := DataW.trod_int u1 h1
      rw [hyy] at h2
      simp at h2 e0 e1
      rw [e0, e1, h2.1, h2.2]
  have all : ∀ (l : List (Int × Int)) (i : Nat), l = ns.drop i → cs.drop (i * 2) = (l.map fun n => [Value.int k n.1, Value.int j n.2]).flatten := by
    intro l
    induction l with
    | nil =>
      intro i hi
      have : ns.length ≤ i := by
        have := congrArg List.length hi
        simp at this
        omega
      simp only [List.map_nil, List.flatten_nil]
      exact List.drop_eq_nil_of_le (by omega)
    | cons n l ih =>
      intro i hi
      have hn0 : ns[i]? = some n := by
        have := congrArg (·[0]?) hi
        simpa using this.symm
      have hilt : i < len := by rw [← hl]; exact (List.getElem?_eq_some_iff.1 hn0).1
      have h1 := each i hilt n hn0
      have h2 := ih (i + 1) (by
        have := congrArg (List.drop 1) hi
        simpa using this)
      rw [← List.take_append_drop 2 (cs.drop (i * 2)), h1, List.drop_drop, show i * 2 + 2 = (i + 1) * 2 by omega, h2]
      rfl
  have := all ns 0 (by simp)
  simpa using this
end Go.Proofs.YtbaiokfjoglmiaaDoor.Ex
end
section
namespace Go.Proofs.YtbaiokfjoglmiaaDoor
open Go.ChangeShapes Go.WideShapes Go.RowKit

inductive Kd where
  | i (k : IntKind)
  | b
  | s
def Kd.ok : Kd → Value → Prop
  | .i k, v => ∃ n, v = .int k n ∧ (Lit.int k n).wf = true
  | .b, v => ∃ x, v = .bool x
  | .s, v => ∃ x : ByteArray, v = .string x ∧ x.size ≤ maxLen
def okL : List Kd → List Value → Prop
  | [], [] => True
  | k :: ks, v :: vs => k.ok v ∧ okL ks vs
  | _, _ => False
theorem okL.nil {cs : List Value} (h : okL [] cs) : cs = [] := by cases cs with | nil => rfl | cons _ _ => exact h.elim
theorem okL.cons {k : Kd} {ks : List Kd} {cs : List Value} (h : okL (k :: ks) cs) : ∃ v vs, cs = v :: vs ∧ k.ok v ∧ okL ks vs := by
  cases cs with
  | nil => exact h.elim
  | cons v vs => exact ⟨v, vs, rfl, h.1, h.2⟩
theorem okL.length : ∀ {ks : List Kd} {cs : List Value}, okL ks cs → cs.length = ks.length
  | [], cs, h => by rw [h.nil]; rfl
  | k :: ks, cs, h => by
    obtain ⟨v, vs, rfl, _, h2⟩ := h.cons
    simp [okL.length h2]
theorem okL.append : ∀ {ks ls : List Kd} {cs ds : List Value}, okL ks cs → okL ls ds → okL (ks ++ ls) (cs ++ ds)
  | [], ls, cs, ds, h, g => by rw [h.nil]; exact g
  | k :: ks, ls, cs, ds, h, g => by
    obtain ⟨v, vs, rfl, h1, h2⟩ := h.cons
    exact ⟨h1, okL.append h2 g⟩
/-- The kinds of a struct's fields, one behind the other. -/
def kindsF (g : TypeId → Option (List Kd)) (cells : TypeId → Nat) : List Field → Nat → Option (List Kd)
  | [], _ => some []
  | f :: fs, off =>
    match g f.type with
    | some ks =>
      if f.offset = off ∧ cells f.type = ks.length then
        match kindsF g cells fs (off + ks.length) with
        | some ls => some (ks ++ ls)
        | none => none
      else none
    | none => none
def kindsT (P : Program) : Nat → TypeId → Option (List Kd)
  | 0, _ => none
  | f + 1, t =>
    match P.underlying t with
    | some .bool => some [.b]
    | some (.int k) => some [.i k]
    | some .string => some [.s]
    | some (.array n e) =>
      match kindsT P f e with
      | some ks => if P.cellsOf e = ks.length ∧ P.cellsOf t = n * ks.length then some (List.replicate n ks).flatten else none
      | none => none
    | some (.struct fs) =>
      match kindsF (kindsT P f) P.cellsOf fs.toList 0 with
      | some ks => if P.cellsOf t = ks.length then some ks else none
      | none => none
    | _ => none
theorem mapM_same {α β : Type} {g g' : α → Option β} : ∀ {l : List α} {xs : List β}, l.mapM g = some xs → (∀ a ∈ l, ∀ y, g a = some y → g' a = some y) → l.mapM g' = some xs
  | [], xs, h, _ => by simpa using h
  | a :: l, xs, h, hg => by
    simp only [List.mapM_cons] at h ⊢
    cases ha : g a with
    | none => rw [ha] at h; cases h
    | some y =>
      rw [ha] at h
      cases hl : l.mapM g with
      | none => rw [hl] at h; cases h
      | some ys =>
        rw [hl] at h
        rw [hg a (by simp) y ha, mapM_same hl fun b hb => hg b (by simp [hb])]
        exact h
theorem mapM_all {α β : Type} {g : α → Option β} {p : β → Prop} : ∀ {l : List α} {xs : List β}, l.mapM g = some xs → (∀ a ∈ l, ∀ y, g a = some y → p y) → ∀ y ∈ xs, p y
  | [], xs, h, _ => by simp at h; subst h; intro y hy; cases hy
  | a :: l, xs, h, hg => by
    simp only [List.mapM_cons] at h
    cases ha : g a with
    | none => rw [ha] at h; cases h
    | some y =>
      rw [ha] at h
      cases hl : l.mapM g with
      | none => rw [hl] at h; cases h
      | some ys =>
        rw [hl] at h
        cases h
        intro z hz
        rcases List.mem_cons.1 hz with e | e
        · rw [e]; exact hg a (by simp) y ha
        · exact mapM_all hl (fun b hb => hg b (by simp [hb])) z e
theorem mapM_each {α β : Type} {g : α → Option β} : ∀ {l : List α} {xs : List β}, l.mapM g = some xs → ∀ a ∈ l, ∃ y, g a = some y
  | [], _, _, a, ha => by cases ha
  | a :: l, xs, h, b, hb => by
    simp only [List.mapM_cons] at h
    cases ha : g a with
    | none => rw [ha] at h; cases h
    | some y =>
      rw [ha] at h
      cases hl : l.mapM g with
      | none => rw [hl] at h; cases h
      | some ys =>
        rcases List.mem_cons.1 hb with e | e
        · rw [e]; exact ⟨y, ha⟩
        · exact mapM_each hl b e
theorem arr_ok {cs : List Value} {ks : List Kd} : ∀ (m j : Nat), (∀ i, j ≤ i → i < j + m → okL ks ((cs.drop (i * ks.length)).take ks.length)) → okL (List.replicate m ks).flatten ((cs.drop (j * ks.length)).take (m * ks.length))
  | 0, j, _ => by simp [okL]
  | m + 1, j, h => by
    have h1 := h j (Nat.le_refl _) (by omega)
    have h2 := arr_ok m (j + 1) fun i h3 h4 => h i (by omega) (by omega)
    have e : (cs.drop (j * ks.length)).take ((m + 1) * ks.length) = (cs.drop (j * ks.length)).take ks.length ++ (cs.drop ((j + 1) * ks.length)).take (m * ks.length) := by
      rw [show (m + 1) * ks.length = ks.length + m * ks.length by rw [Nat.add_mul]; omega, List.take_add, List.drop_drop, show j * ks.length + ks.length = (j + 1) * ks.length by rw [Nat.add_mul]; omega]
    rw [e, List.replicate_succ, List.flatten_cons]
    exact h1.append h2
theorem str_ok {g : TypeId → Option (List Kd)} {cells : TypeId → Nat} {cs : List Value} : ∀ (fs : List Field) (off : Nat) (ks : List Kd), kindsF g cells fs off = some ks →
    (∀ f ∈ fs, ∀ ls, g f.type = some ls → okL ls ((cs.drop f.offset).take (cells f.type))) → okL ks ((cs.drop off).take ks.length)
  | [], off, ks, h, _ => by simp [kindsF] at h; subst h; simp [okL]
  | f :: fs, off, ks, h, hf => by
    simp only [kindsF] at h
    split at h
    · rename_i k1 hk
      split at h
      · rename_i hc
        split at h
        · rename_i k2 h2
          cases h
          have a1 := hf f (by simp) k1 hk
          rw [hc.1, hc.2] at a1
          have a2 := str_ok fs _ _ h2 fun q hq => hf q (by simp [hq])
          rw [List.length_append, List.take_add, List.drop_drop]
          exact a1.append a2
        · cases h
      · cases h
    · cases h
section
variable {H : Type} {enc : TypeId × Value → H} {P : Program}
theorem plain_kinds : ∀ (f : Nat) {t : TypeId} {ks : List Kd}, kindsT P f t = some ks → ∀ {w : World} {base : Nat} {sp : Nat → Bool} {held : Bool} {n : Nat} {cs : List Value} {x : DataW H × List MemPlace}, DataW.trod enc P w base sp held n t cs = some x → okL ks cs
  | 0, t, ks, h => by simp [kindsT] at h
  | f + 1, t, ks, h => by
    rename_i w base sp held n cs x
    intro hx
    simp only [kindsT] at h
    split at h
    · cases h
      rename_i hu
      cases n with
      | zero => simp [DataW.trod] at hx
      | succ n =>
        simp only [DataW.trod, hu] at hx
        split at hx <;> simp_all [okL, Kd.ok]
    · cases h
      rename_i k hu
      obtain ⟨m, rfl, _, hw⟩ := DataW.trod_int hu hx
      exact ⟨⟨m, rfl, hw⟩, trivial⟩
    · cases h
      rename_i hu
      obtain ⟨m, rfl, _, hw⟩ := DataW.trod_string hu hx
      exact ⟨⟨m, rfl, hw⟩, trivial⟩
    · rename_i m e hu
      split at h
      · rename_i k1 hk
        split at h
        · rename_i hc
          cases h
          obtain ⟨xs, q, rfl, _, hlen, hn, hall⟩ := DataW.trod_array hu hx
          have := arr_ok (cs := cs) (ks := k1) m 0 fun i _ hi => by
            have h1 := hall i (by omega)
            rw [hc.1] at h1
            exact plain_kinds f hk (h1.trans (List.getElem?_eq_getElem (by omega)))
          rw [Nat.zero_mul, List.drop_zero, ← hc.2, ← hlen, List.take_length] at this
          exact this
        · cases h
      · cases h
    · rename_i fs hu
      split at h
      · rename_i k1 hk
        split at h
        · rename_i hc
          cases h
          cases n with
          | zero => simp [DataW.trod] at hx
          | succ n =>
            have hx2 : (if cs.length = P.cellsOf t then (fs.toList.mapM fun f => DataW.trod enc P w base sp held n f.type ((cs.drop f.offset).take (P.cellsOf f.type))).map fun xs => ((DataW.agg (xs.map (·.1)) : DataW H), xs.flatMap (·.2)) else none) = some x := by
              rw [← hx]; simp only [DataW.trod, hu]
            split at hx2
            · rename_i hlen
              cases hm : fs.toList.mapM fun f => DataW.trod enc P w base sp held n f.type ((cs.drop f.offset).take (P.cellsOf f.type)) with
              | none => rw [hm] at hx2; cases hx2
              | some xs =>
                have := str_ok (cs := cs) fs.toList 0 ks hk fun g hg ls hl => by
                  obtain ⟨y, hy⟩ := mapM_each hm g hg
                  exact plain_kinds f hl hy
                rw [List.drop_zero, ← hc, ← hlen, List.take_length] at this
                exact this
            · cases hx2
        · cases h
      · cases h
    · cases h
theorem kindsF_each {g : TypeId → Option (List Kd)} {cells : TypeId → Nat} : ∀ {fs : List Field} {off : Nat} {ks : List Kd}, kindsF g cells fs off = some ks → ∀ f ∈ fs, ∃ ls, g f.type = some ls
  | [], _, _, _, f, hf => by cases hf
  | f :: fs, off, ks, h, q, hq => by
    simp only [kindsF] at h
    split at h
    · rename_i k1 hk
      split at h
      · split at h
        · rename_i k2 h2
          rcases List.mem_cons.1 hq with e | e
          · rw [e]; exact ⟨k1, hk⟩
          · exact kindsF_each h2 q e
        · cases h
      · cases h
    · cases h
theorem plain_any : ∀ (f : Nat) {t : TypeId} {ks : List Kd}, kindsT P f t = some ks → ∀ {w : World} {base : Nat} {sp : Nat → Bool} {held : Bool} {n : Nat} {cs : List Value} {x : DataW H × List MemPlace}, DataW.trod enc P w base sp held n t cs = some x →
    x.2 = [] ∧ ∀ (w' : World) (base' : Nat) (sp' : Nat → Bool) (held' : Bool), DataW.trod enc P w' base' sp' held' n t cs = some x
  | 0, t, ks, h => by simp [kindsT] at h
  | f + 1, t, ks, h => by
    rename_i w base sp held n cs x
    intro hx
    have hk1 := plain_kinds (f + 1) h hx
    simp only [kindsT] at h
    cases n with
    | zero => simp [DataW.trod] at hx
    | succ n =>
      split at h
      · cases h
        rename_i hu
        obtain ⟨v, vs, rfl, ⟨y, rfl⟩, hn⟩ := hk1.cons
        obtain rfl := hn.nil
        simp only [DataW.trod, hu] at hx ⊢
        cases hx
        exact ⟨rfl, fun _ _ _ _ => rfl⟩
      · cases h
        rename_i k hu
        obtain ⟨v, vs, rfl, ⟨y, rfl, hw⟩, hn⟩ := hk1.cons
        obtain rfl := hn.nil
        simp only [DataW.trod, hu, hw, and_self, if_true] at hx ⊢
        cases hx
        exact ⟨rfl, fun _ _ _ _ => rfl⟩
      · cases h
        rename_i hu
        obtain ⟨v, vs, rfl, ⟨y, rfl, hw⟩, hn⟩ := hk1.cons
        obtain rfl := hn.nil
        simp only [DataW.trod, hu, hw, if_true] at hx ⊢
        cases hx
        exact ⟨rfl, fun _ _ _ _ => rfl⟩
      · rename_i m e hu
        split at h
        · rename_i k1 hk
          have hd : ∀ (w : World) (base : Nat) (sp : Nat → Bool) (held : Bool), DataW.trod enc P w base sp held (n + 1) t cs = (if cs.length = P.cellsOf t then ((List.range m).mapM fun i => DataW.trod enc P w base sp held n e ((cs.drop (i * P.cellsOf e)).take (P.cellsOf e))).map fun xs => ((DataW.agg (xs.map (·.1)) : DataW H), xs.flatMap (·.2)) else none) := fun _ _ _ _ => by simp only [DataW.trod, hu]
          rw [hd] at hx
          split at hx
          · rename_i hlen
            cases hm : (List.range m).mapM fun i => DataW.trod enc P w base sp held n e ((cs.drop (i * P.cellsOf e)).take (P.cellsOf e)) with
            | none => rw [hm] at hx; cases hx
            | some xs =>
              rw [hm] at hx
              cases hx
              refine ⟨?_, fun w' base' sp' held' => ?_⟩
              · simp only [List.flatMap_eq_nil_iff]
                exact mapM_all hm fun a _ y hy => (plain_any f hk hy).1
              · rw [hd, if_pos hlen, mapM_same hm fun a _ y hy => (plain_any f hk hy).2 w' base' sp' held']
                rfl
          · cases hx
        · cases h
      · rename_i fs hu
        split at h
        · rename_i k1 hk
          have hd : ∀ (w : World) (base : Nat) (sp : Nat → Bool) (held : Bool), DataW.trod enc P w base sp held (n + 1) t cs = (if cs.length = P.cellsOf t then (fs.toList.mapM fun f => DataW.trod enc P w base sp held n f.type ((cs.drop f.offset).take (P.cellsOf f.type))).map fun xs => ((DataW.agg (xs.map (·.1)) : DataW H), xs.flatMap (·.2)) else none) := fun _ _ _ _ => by simp only [DataW.trod, hu]
          rw [hd] at hx
          split at hx
          · rename_i hlen
            cases hm : fs.toList.mapM fun f => DataW.trod enc P w base sp held n f.type ((cs.drop f.offset).take (P.cellsOf f.type)) with
            | none => rw [hm] at hx; cases hx
            | some xs =>
              rw [hm] at hx
              cases hx
              have hfs := kindsF_each hk
              refine ⟨?_, fun w' base' sp' held' => ?_⟩
              · simp only [List.flatMap_eq_nil_iff]
                exact mapM_all hm fun a ha y hy => let ⟨ls, hl⟩ := hfs a ha; (plain_any f hl hy).1
              · rw [hd, if_pos hlen, mapM_same hm fun a ha y hy => let ⟨ls, hl⟩ := hfs a ha; (plain_any f hl hy).2 w' base' sp' held']
                rfl
          · cases hx
        · cases h
      · cases h
/-- A parameter of plain data, of two cells or more. -/
theorem open_plain {f : Nat} {t : TypeId} {ks : List Kd} (hk : kindsT P f t = some ks) (h2 : 2 ≤ ks.length) {w : World} {base : Nat} {sp : Nat → Bool} {held : Bool} {v : Value} {d : DataW H} {p : List MemPlace} (h : DataW.Trod enc P w base sp held t v d p) :
    p = [] ∧ (∃ cs, v = .agg ⟨cs⟩ ∧ okL ks cs) ∧ ∀ (w' : World) (base' : Nat) (sp' : Nat → Bool) (held' : Bool), DataW.Trod enc P w' base' sp' held' t v d [] := by
  obtain ⟨n, hn⟩ := h
  obtain ⟨h1, h3⟩ := plain_any f hk hn
  simp only at h1
  subst h1
  have h4 := plain_kinds f hk hn
  refine ⟨rfl, ?_, fun w' b' s' h' => ⟨n, h3 w' b' s' h'⟩⟩
  have h5 := h4.length
  cases v with
  | agg cs => exact ⟨cs.toList, rfl, h4⟩
  | _ => simp [Value.cells] at h5; omega
/-- A parameter of plain data, of one cell. -/
theorem shut_plain {f : Nat} {t : TypeId} {ks : List Kd} (hk : kindsT P f t = some ks) {w : World} {base : Nat} {sp : Nat → Bool} {held : Bool} {v : Value} {d : DataW H} {p : List MemPlace} (h : DataW.Trod enc P w base sp held t v d p) :
    p = [] ∧ ∀ (w' : World) (base' : Nat) (sp' : Nat → Bool) (held' : Bool), DataW.Trod enc P w' base' sp' held' t v d [] := by
  obtain ⟨n, hn⟩ := h
  obtain ⟨h1, h3⟩ := plain_any f hk hn
  simp only at h1
  subst h1
  exact ⟨rfl, fun w' b' s' h' => ⟨n, h3 w' b' s' h'⟩⟩
end
end Go.Proofs.YtbaiokfjoglmiaaDoor
end
section
namespace Go.Proofs.YtbaiokfjoglmiaaDoor
open Go.ChangeShapes Go.WideShapes Go.RowKit

def flatD {H : Type} : Nat → DataW H → List Value
  | 0, _ => []
  | _ + 1, .lit (.int k n) => [.int k n]
  | _ + 1, .lit (.bool b) => [.bool b]
  | _ + 1, .lit (.string s) => [.string ⟨s.toArray⟩]
  | f + 1, .agg l => l.flatMap (flatD f)
  | _ + 1, _ => []
theorem arr_flat {α : Type} {cs : List Value} {k : Nat} {F : α → List Value} : ∀ (xs : List α) (j : Nat), (∀ i y, xs[i]? = some y → (cs.drop ((j + i) * k)).take k = F y) → (cs.drop (j * k)).take (xs.length * k) = xs.flatMap F
  | [], j, h => by simp
  | a :: l, j, h => by
    have h1 := h 0 a rfl
    have h2 := arr_flat l (j + 1) fun i y hy => by
      have := h (i + 1) y (by simpa using hy)
      rw [show j + (i + 1) = j + 1 + i by omega] at this
      exact this
    rw [List.length_cons, show (l.length + 1) * k = k + l.length * k by rw [Nat.add_mul]; omega, List.take_add, List.drop_drop, show j * k + k = (j + 1) * k by rw [Nat.add_mul]; omega, h2]
    rw [Nat.add_zero] at h1
    rw [h1]
    rfl
theorem str_flat {α : Type} {g : TypeId → Option (List Kd)} {cells : TypeId → Nat} {cs : List Value} {tr : Field → Option α} {F : α → List Value} : ∀ (fs : List Field) (off : Nat) (ks : List Kd) (xs : List α), kindsF g cells fs off = some ks → fs.mapM tr = some xs →
    (∀ f ∈ fs, ∀ y, tr f = some y → (cs.drop f.offset).take (cells f.type) = F y) → (cs.drop off).take ks.length = xs.flatMap F
  | [], off, ks, xs, h, hx, _ => by
    simp [kindsF] at h
    simp at hx
    subst h hx
    simp
  | f :: fs, off, ks, xs, h, hx, hf => by
    simp only [List.mapM_cons] at hx
    cases ha : tr f with
    | none => rw [ha] at hx; cases hx
    | some y =>
      rw [ha] at hx
      cases hl : fs.mapM tr with
      | none => rw [hl] at hx; cases hx
      | some ys =>
        rw [hl] at hx
        cases hx
        simp only [kindsF] at h
        split at h
        · rename_i k1 hk
          split at h
          · rename_i hc
            split at h
            · rename_i k2 h2
              cases h
              have a1 := hf f (by simp) y ha
              rw [hc.1, hc.2] at a1
              have a2 := str_flat fs _ _ _ h2 hl fun q hq => hf q (by simp [hq])
              rw [List.length_append, List.take_add, List.drop_drop, a1, a2]
              rfl
            · cases h
          · cases h
        · cases h
theorem flatMap_map {α β γ : Type} (l : List α) (g : α → β) (F : β → List γ) : (l.map g).flatMap F = l.flatMap fun a => F (g a) := by
  induction l with
  | nil => rfl
  | cons a l ih => simp [ih]
variable {H : Type} {enc : TypeId × Value → H} {P : Program}
theorem plain_flat : ∀ (f : Nat) {t : TypeId} {ks : List Kd}, kindsT P f t = some ks → ∀ {w : World} {base : Nat} {sp : Nat → Bool} {held : Bool} {n : Nat} {cs : List Value} {x : DataW H × List MemPlace}, DataW.trod enc P w base sp held n t cs = some x → cs = flatD f x.1
  | 0, t, ks, h => by simp [kindsT] at h
  | f + 1, t, ks, h => by
    rename_i w base sp held n cs x
    intro hx
    have hk1 := plain_kinds (f + 1) h hx
    simp only [kindsT] at h
    cases n with
    | zero => simp [DataW.trod] at hx
    | succ n =>
      split at h
      · cases h
        rename_i hu
        obtain ⟨v, vs, rfl, ⟨y, rfl⟩, hn⟩ := hk1.cons
        obtain rfl := hn.nil
        simp only [DataW.trod, hu] at hx
        cases hx
        rfl
      · cases h
        rename_i k hu
        obtain ⟨v, vs, rfl, ⟨y, rfl, hw⟩, hn⟩ := hk1.cons
        obtain rfl := hn.nil
        simp only [DataW.trod, hu, hw, and_self, if_true] at hx
        cases hx
        rfl
      · cases h
        rename_i hu
        obtain ⟨v, vs, rfl, ⟨y, rfl, hw⟩, hn⟩ := hk1.cons
        obtain rfl := hn.nil
        simp only [DataW.trod, hu, hw, if_true] at hx
        cases hx
        rfl
      · rename_i m e hu
        split at h
        · rename_i k1 hk
          split at h
          · rename_i hc
            cases h
            obtain ⟨xs, q, _, hxx, hlen, hn, hall⟩ := DataW.trod_array hu hx
            have := arr_flat (cs := cs) (k := k1.length) (F := fun y : DataW H × List MemPlace => flatD f y.1) xs 0 fun i y hy => by
              have hi : i < m := by
                have := (List.getElem?_eq_some_iff.1 hy).1
                omega
              have h1 := (hall i hi).trans hy
              rw [hc.1] at h1
              rw [Nat.zero_add]
              exact plain_flat f hk h1
            rw [Nat.zero_mul, List.drop_zero, hn, ← hc.2, ← hlen, List.take_length] at this
            rw [hxx]
            simp only [flatD]
            rw [flatMap_map]
            exact this
          · cases h
        · cases h
      · rename_i fs hu
        split at h
        · rename_i k1 hk
          split at h
          · rename_i hc
            cases h
            have hx2 : (if cs.length = P.cellsOf t then (fs.toList.mapM fun f => DataW.trod enc P w base sp held n f.type ((cs.drop f.offset).take (P.cellsOf f.type))).map fun xs => ((DataW.agg (xs.map (·.1)) : DataW H), xs.flatMap (·.2)) else none) = some x := by
              rw [← hx]; simp only [DataW.trod, hu]
            split at hx2
            · rename_i hlen
              cases hm : fs.toList.mapM fun f => DataW.trod enc P w base sp held n f.type ((cs.drop f.offset).take (P.cellsOf f.type)) with
              | none => rw [hm] at hx2; cases hx2
              | some xs =>
                rw [hm] at hx2
                cases hx2
                have hfs := kindsF_each hk
                have := str_flat (cs := cs) (F := fun y : DataW H × List MemPlace => flatD f y.1) fs.toList 0 ks xs hk hm fun g hg y hy => by
                  obtain ⟨ls, hl⟩ := hfs g hg
                  exact plain_flat f hl hy
                rw [List.drop_zero, ← hc, ← hlen, List.take_length] at this
                simp only [flatD]
                rw [flatMap_map]
                exact this
            · cases hx2
          · cases h
        · cases h
      · cases h
end Go.Proofs.YtbaiokfjoglmiaaDoor
end
section
namespace Go.Proofs.YtbaiokfjoglmiaaDoor.Ex
open Go Go.RowKit
set_option maxRecDepth 1000000 in
theorem noNG : NoNG Tryd.prog := noNG_ok (by kernel_rfl)
end Go.Proofs.YtbaiokfjoglmiaaDoor.Ex
end
section
namespace Go.Proofs.YtbaiokfjoglmiaaDoor.Ex
open Go Go.RowKit Go.ChangeShapes Go.WideShapes Go.WideMaps Go.WideElems
def fmCs : List Value := flatD (H := Unit) 4 Rows.laid_firewall_codec_forms
def h12 : List AO := List.replicate 0 dead ++ [⟨true, some GM, fmCs⟩]
def TabAt (w : World) : Prop := ∃ t fr, w.heap[0]? = some (.cells ⟨fmCs⟩ t fr)
theorem laid_of_tab {w : World} (h : TabAt w) : Laid h12 w := Laid.one rfl h
theorem gFm : Tryd.prog.globalNamed "firewall/codec.forms" = some 0 := by kernel_rfl
theorem tFm : (Tryd.prog.globals[0]?).map (·.type) = some 61 := by kernel_rfl
theorem fm_flat {H : Type} : flatD (H := H) 4 Rows.laid_firewall_codec_forms = fmCs := rfl
theorem tab_of_laid {W : World} (h : laidMetH Tryd.prog [("firewall/codec.forms", Rows.laid_firewall_codec_forms)] W) : TabAt W := by
  rw [MakeChecks.laidMetH_plain _ _ _ (by kernel_rfl)] at h
  obtain ⟨ps, ⟨g0, t0, cs0, f0, p0, q0, hg0, ht0, hv0, hd0, _⟩, _⟩ := h
  obtain rfl := Option.some.inj (gFm.symm.trans hg0)
  obtain rfl := Option.some.inj (tFm.symm.trans ht0)
  have key := plain_flat 4 (ks := (List.replicate 22 [Kd.i .u16, .b, .i .u8, .i .u8, .i .u8, .i .u8]).flatten) (by kernel_rfl) hd0
  have hkey : cs0 = ⟨fmCs⟩ := Array.toList_inj.1 (key.trans fm_flat)
  subst hkey
  simp only [World.var?, gFm, Option.bind_some] at hv0
  split at hv0
  · rename_i cs t fr hh
    obtain rfl := Option.some.inj hv0
    exact ⟨t, fr, hh⟩
  · cases hv0
set_option maxHeartbeats 0 in
set_option maxRecDepth 1000000 in
theorem done_any (w : World) (hL : Laid h12 w) : Calls Tryd.prog 24 #[] w fun e w' => e = .returned (.bool true) ∧ Gr w w' :=
  reckonG_ok noNG (noHook_ok _) 100000 300 h12 rfl rfl (by kernel_rfl) w hL
end Go.Proofs.YtbaiokfjoglmiaaDoor.Ex
end
section
namespace Go.Proofs.YtbaiokfjoglmiaaDoor.Ex
open Go Go.RowKit
def eqM : Value → Value → Bool
  | .agg ⟨a⟩, .agg ⟨b⟩ => eqL a b
  | x, y => eqI x y
theorem eqM_ok {x y : Value} (h : eqM x y = true) : x = y := by
  unfold eqM at h
  split at h
  · rw [eqL_ok h]
  · exact eqI_ok h
def eqML : List Value → List Value → Bool
  | [], [] => true
  | x :: xs, y :: ys => eqM x y && eqML xs ys
  | _, _ => false
theorem eqML_ok : ∀ {xs ys : List Value}, eqML xs ys = true → xs = ys
  | [], [], _ => rfl
  | x :: xs, y :: ys, h => by
    simp only [eqML, Bool.and_eq_true] at h
    rw [eqM_ok h.1, eqML_ok h.2]
  | [], _ :: _, h => by cases h
  | _ :: _, [], h => by cases h
/-- Of one function: arguments, and what it comes to. -/
abbrev Tab := List (List Value × Value)
def tabFind : Tab → List Value → Option Value
  | [], _ => none
  | e :: r, args => if eqML args e.1 then some e.2 else tabFind r args
theorem tabFind_mem : ∀ {t : Tab} {args : List Value} {v : Value}, tabFind t args = some v → (args, v) ∈ t
  | [], _, _, h => by cases h
  | e :: r, args, v, h => by
    simp only [tabFind] at h
    split at h
    · rename_i he
      cases h
      rw [eqML_ok he]
      simp
    · exact List.mem_cons_of_mem _ (tabFind_mem h)
def TabOk (P : Program) (h0 : List AO) (g : FuncId) : Tab → Prop
  | [] => True
  | e :: r => (∀ w, Laid h0 w → Calls P g ⟨e.1⟩ w fun x w' => x = .returned e.2 ∧ Gr w w') ∧ TabOk P h0 g r
theorem TabOk.at {P : Program} {h0 : List AO} {g : FuncId} : ∀ {t : Tab}, TabOk P h0 g t → ∀ e ∈ t, ∀ w, Laid h0 w → Calls P g ⟨e.1⟩ w fun x w' => x = .returned e.2 ∧ Gr w w'
  | [], _, e, he => by cases he
  | a :: r, h, e, he => by
    rcases List.mem_cons.1 he with q | q
    · rw [q]; exact h.1
    · exact h.2.at e q
theorem TabOk.app {P : Program} {h0 : List AO} {g : FuncId} : ∀ {s t : Tab}, TabOk P h0 g s → TabOk P h0 g t → TabOk P h0 g (s ++ t)
  | [], _, _, h => h
  | _ :: _, _, a, h => ⟨a.1, a.2.app h⟩
def memoHook (h0 : List AO) (g : FuncId) (t : Tab) : Hook := fun f args h =>
  if Nat.beq f g then
    match tabFind t args with
    | some v => if hasG h0 h then some (v, []) else none
    | none => none
  else none
theorem memoHook_ok {P : Program} {h0 : List AO} (hf : h0.all (fun o => !o.live || (match o.es with | some e => Nat.beq e GM | none => false) && o.cs.all flat) = true) {g : FuncId} {t : Tab} (ht : TabOk P h0 g t) : HookOk P (memoHook h0 g t) := by
  intro f args h v cs hv _ wb k s w H
  unfold memoHook at hv
  split at hv
  · rename_i hc
    obtain rfl := Nat.eq_of_beq_eq_true hc
    split at hv
    · rename_i v' hm
      split at hv
      · rename_i hg
        cases hv
        exact ht.at _ (tabFind_mem hm) w (H.laid hg hf)
      · cases hv
    · cases hv
  · cases hv
def orHook (a b : Hook) : Hook := fun f args h =>
  match a f args h with
  | some r => some r
  | none => b f args h
theorem orHook_ok {P : Program} {a b : Hook} (ha : HookOk P a) (hb : HookOk P b) : HookOk P (orHook a b) := by
  intro f args h v cs hv
  unfold orHook at hv
  split at hv
  · rename_i r hr
    cases hv
    exact ha f args h v cs hr
  · exact hb f args h v cs hv
/-- A call of no arguments, told by its contract. -/
def oneHook (h0 : List AO) (g : FuncId) (v : Value) : Hook := memoHook h0 g [([], v)]
end Go.Proofs.YtbaiokfjoglmiaaDoor.Ex
end
section
namespace Go.Proofs.YtbaiokfjoglmiaaDoor.Ex
open Go Go.RowKit
/-- Whether a condition holds of flags. -/
def takenS (k : Int) (z s c o : Bool) : Bool :=
  if k = 2 then c else if k = 3 then !c else if k = 4 then z else if k = 5 then !z else if k = 6 then c || z else if k = 7 then !(c || z)
  else if k = 12 then s != o else if k = 13 then !(s != o) else if k = 14 then z || (s != o) else if k = 15 then !(z || (s != o)) else false
/-- A state, as an argument. -/
def stA (r0 r1 r2 r3 r4 r5 r6 r7 r8 r9 r10 r11 r12 r13 r14 r15 : Int) (z s c o : Bool) (pc : Int) : Value := .agg ⟨[.int .u64 r0, .int .u64 r1, .int .u64 r2, .int .u64 r3, .int .u64 r4, .int .u64 r5, .int .u64 r6, .int .u64 r7, .int .u64 r8, .int .u64 r9, .int .u64 r10, .int .u64 r11, .int .u64 r12, .int .u64 r13, .int .u64 r14, .int .u64 r15, .bool z, .bool s, .bool c, .bool o, .int .u64 pc]⟩
def tkOrc : Orc := fun f t _ =>
  if Nat.beq f 25 && (Nat.beq t 7 || Nat.beq t 11 || Nat.beq t 15 || Nat.beq t 23 || Nat.beq t 30 || Nat.beq t 41 || Nat.beq t 42 || Nat.beq t 43 || Nat.beq t 44 || Nat.beq t 45) then some (.bool false)
  else if Nat.beq f 26 && (Nat.beq t 13 || Nat.beq t 17 || Nat.beq t 22 || Nat.beq t 26 || Nat.beq t 31 || Nat.beq t 39 || Nat.beq t 49 || Nat.beq t 52 || Nat.beq t 56 || Nat.beq t 63) then some (.bool false)
  else none
set_option maxHeartbeats 0 in
set_option maxRecDepth 1000000 in
theorem taken_any (k r0 r1 r2 r3 r4 r5 r6 r7 r8 r9 r10 r11 r12 r13 r14 r15 : Int) (z s c o : Bool) (pc : Int) (w : World) : Calls Tryd.prog 25 #[.int .i64 k, stA r0 r1 r2 r3 r4 r5 r6 r7 r8 r9 r10 r11 r12 r13 r14 r15 z s c o pc] w fun e w' => e = .returned (.bool (takenS k z s c o)) ∧ Gr w w' := by
  by_cases h2 : k = 2
  · subst h2
    exact reckonG_ok noNG (noHook_ok _) 100000 300 [] rfl rfl (by kernel_rfl) w (Laid.nil w)
  by_cases h3 : k = 3
  · subst h3
    exact reckonG_ok noNG (noHook_ok _) 100000 300 [] rfl rfl (by kernel_rfl) w (Laid.nil w)
  by_cases h4 : k = 4
  · subst h4
    exact reckonG_ok noNG (noHook_ok _) 100000 300 [] rfl rfl (by kernel_rfl) w (Laid.nil w)
  by_cases h5 : k = 5
  · subst h5
    exact reckonG_ok noNG (noHook_ok _) 100000 300 [] rfl rfl (by kernel_rfl) w (Laid.nil w)
  by_cases h6 : k = 6
  · subst h6
    cases c <;> exact reckonG_ok noNG (noHook_ok _) 100000 300 [] rfl rfl (by kernel_rfl) w (Laid.nil w)
  by_cases h7 : k = 7
  · subst h7
    cases c <;> exact reckonG_ok noNG (noHook_ok _) 100000 300 [] rfl rfl (by kernel_rfl) w (Laid.nil w)
  by_cases h12 : k = 12
  · subst h12
    cases s <;> cases o <;> exact reckonG_ok noNG (noHook_ok _) 100000 300 [] rfl rfl (by kernel_rfl) w (Laid.nil w)
  by_cases h13 : k = 13
  · subst h13
    cases s <;> cases o <;> exact reckonG_ok noNG (noHook_ok _) 100000 300 [] rfl rfl (by kernel_rfl) w (Laid.nil w)
  by_cases h14 : k = 14
  · subst h14
    cases z <;> cases s <;> cases o <;> exact reckonG_ok noNG (noHook_ok _) 100000 300 [] rfl rfl (by kernel_rfl) w (Laid.nil w)
  by_cases h15 : k = 15
  · subst h15
    cases z <;> cases s <;> cases o <;> exact reckonG_ok noNG (noHook_ok _) 100000 300 [] rfl rfl (by kernel_rfl) w (Laid.nil w)
  have e : takenS k z s c o = false := by simp [takenS, h2, h3, h4, h5, h6, h7, h12, h13, h14, h15]
  rw [e]
  refine reckonT_ok noNG (noHook_ok _) tkOrc 100000 300 [] (cs := [(b2i (decide (k = 2)), 0), (b2i (decide (k = 4)), 0), (b2i (decide (k = 6)), 0), (b2i (decide (k = 12)), 0), (b2i (decide (k = 14)), 0), (b2i (decide (k = 3)), 0), (b2i (decide (k = 5)), 0), (b2i (decide (k = 7)), 0), (b2i (decide (k = 13)), 0), (b2i (decide (k = 15)), 0)]) rfl rfl (by kernel_rfl) ?_ w (Laid.nil w)
  simp [b2i, h2, h3, h4, h5, h6, h7, h12, h13, h14, h15]
set_option maxHeartbeats 0 in
set_option maxRecDepth 1000000 in
theorem refTaken_any (k r0 r1 r2 r3 r4 r5 r6 r7 r8 r9 r10 r11 r12 r13 r14 r15 : Int) (z s c o : Bool) (pc : Int) (w : World) : Calls Tryd.prog 26 #[.int .i64 k, stA r0 r1 r2 r3 r4 r5 r6 r7 r8 r9 r10 r11 r12 r13 r14 r15 z s c o pc] w fun e w' => e = .returned (.bool (takenS k z s c o)) ∧ Gr w w' := by
  by_cases h2 : k = 2
  · subst h2
    exact reckonG_ok noNG (noHook_ok _) 100000 300 [] rfl rfl (by kernel_rfl) w (Laid.nil w)
  by_cases h3 : k = 3
  · subst h3
    exact reckonG_ok noNG (noHook_ok _) 100000 300 [] rfl rfl (by kernel_rfl) w (Laid.nil w)
  by_cases h4 : k = 4
  · subst h4
    exact reckonG_ok noNG (noHook_ok _) 100000 300 [] rfl rfl (by kernel_rfl) w (Laid.nil w)
  by_cases h5 : k = 5
  · subst h5
    exact reckonG_ok noNG (noHook_ok _) 100000 300 [] rfl rfl (by kernel_rfl) w (Laid.nil w)
  by_cases h6 : k = 6
  · subst h6
    cases c <;> exact reckonG_ok noNG (noHook_ok _) 100000 300 [] rfl rfl (by kernel_rfl) w (Laid.nil w)
  by_cases h7 : k = 7
  · subst h7
    cases c <;> exact reckonG_ok noNG (noHook_ok _) 100000 300 [] rfl rfl (by kernel_rfl) w (Laid.nil w)
  by_cases h12 : k = 12
  · subst h12
    cases s <;> cases o <;> exact reckonG_ok noNG (noHook_ok _) 100000 300 [] rfl rfl (by kernel_rfl) w (Laid.nil w)
  by_cases h13 : k = 13
  · subst h13
    cases s <;> cases o <;> exact reckonG_ok noNG (noHook_ok _) 100000 300 [] rfl rfl (by kernel_rfl) w (Laid.nil w)
  by_cases h14 : k = 14
  · subst h14
    cases z <;> cases s <;> cases o <;> exact reckonG_ok noNG (noHook_ok _) 100000 300 [] rfl rfl (by kernel_rfl) w (Laid.nil w)
  by_cases h15 : k = 15
  · subst h15
    cases z <;> cases s <;> cases o <;> exact reckonG_ok noNG (noHook_ok _) 100000 300 [] rfl rfl (by kernel_rfl) w (Laid.nil w)
  have e : takenS k z s c o = false := by simp [takenS, h2, h3, h4, h5, h6, h7, h12, h13, h14, h15]
  rw [e]
  refine reckonT_ok noNG (noHook_ok _) tkOrc 100000 300 [] (cs := [(b2i (decide (k = 2)), 0), (b2i (decide (k = 3)), 0), (b2i (decide (k = 4)), 0), (b2i (decide (k = 5)), 0), (b2i (decide (k = 6)), 0), (b2i (decide (k = 7)), 0), (b2i (decide (k = 12)), 0), (b2i (decide (k = 13)), 0), (b2i (decide (k = 14)), 0), (b2i (decide (k = 15)), 0)]) rfl rfl (by kernel_rfl) ?_ w (Laid.nil w)
  simp [b2i, h2, h3, h4, h5, h6, h7, h12, h13, h14, h15]
/-- Whether a condition holds, told by its contract. -/
def takenHook : Hook := fun f args _ =>
  if Nat.beq f 25 || Nat.beq f 26 then
    match args with
    | [.int .i64 k, .agg ⟨[.int .u64 _, .int .u64 _, .int .u64 _, .int .u64 _, .int .u64 _, .int .u64 _, .int .u64 _, .int .u64 _, .int .u64 _, .int .u64 _, .int .u64 _, .int .u64 _, .int .u64 _, .int .u64 _, .int .u64 _, .int .u64 _, .bool z, .bool s, .bool c, .bool o, .int .u64 _]⟩] => some (.bool (takenS k z s c o), [])
    | _ => none
  else none
theorem takenHook_ok : HookOk Tryd.prog takenHook := by
  intro f args h v cs hv _ wb k s w H
  unfold takenHook at hv
  split at hv
  · rename_i hc
    simp only [Bool.or_eq_true] at hc
    split at hv
    · cases hv
      rcases hc with hc | hc
      · obtain rfl := Nat.eq_of_beq_eq_true hc
        exact taken_any _ _ _ _ _ _ _ _ _ _ _ _ _ _ _ _ _ _ _ _ _ _ w
      · obtain rfl := Nat.eq_of_beq_eq_true hc
        exact refTaken_any _ _ _ _ _ _ _ _ _ _ _ _ _ _ _ _ _ _ _ _ _ _ w
    · cases hv
  · cases hv
/-- The chapter's examples, told by their contract. -/
def doneHook : Hook := fun f args h => if Nat.beq f 24 && hasG h12 h && args.isEmpty then some (.bool true, []) else none
theorem doneHook_ok : HookOk Tryd.prog doneHook := by
  intro f args h v cs hv _ wb k s w H
  unfold doneHook at hv
  split at hv
  · rename_i hc
    cases hv
    simp only [Bool.and_eq_true] at hc
    obtain rfl := Nat.eq_of_beq_eq_true hc.1.1
    obtain rfl : args = [] := by simpa using hc.2
    exact done_any w (H.laid hc.1.2 rfl)
  · cases hv
def lawTkOrc : Orc := fun f t _ => if Nat.beq f 9 then (if Nat.beq t 16 then some (.bool false) else if Nat.beq t 23 then some (.bool true) else none) else none
set_option maxHeartbeats 0 in
set_option maxRecDepth 1000000 in
theorem cpuTaken_walk (k r0 r1 r2 r3 r4 r5 r6 r7 r8 r9 r10 r11 r12 r13 r14 r15 : Int) (z s c o : Bool) (pc : Int) (w : World) (hT : TabAt w) : Calls Tryd.prog 9 #[.int .i64 k, stA r0 r1 r2 r3 r4 r5 r6 r7 r8 r9 r10 r11 r12 r13 r14 r15 z s c o pc] w fun e w' => e = .returned (.bool true) ∧ Gr w w' := by
  refine reckonT_ok noNG (hk := orHook takenHook doneHook) (orHook_ok takenHook_ok doneHook_ok) lawTkOrc 100000 300 h12
    (cs := [(b2i (takenS (-1) z s c o != takenS (-1) z s c o), 0), (b2i (takenS (0) z s c o != takenS (0) z s c o), 0), (b2i (takenS (1) z s c o != takenS (1) z s c o), 0), (b2i (takenS (2) z s c o != takenS (2) z s c o), 0), (b2i (takenS (3) z s c o != takenS (3) z s c o), 0), (b2i (takenS (4) z s c o != takenS (4) z s c o), 0), (b2i (takenS (5) z s c o != takenS (5) z s c o), 0), (b2i (takenS (6) z s c o != takenS (6) z s c o), 0), (b2i (takenS (7) z s c o != takenS (7) z s c o), 0), (b2i (takenS (8) z s c o != takenS (8) z s c o), 0), (b2i (takenS (9) z s c o != takenS (9) z s c o), 0), (b2i (takenS (10) z s c o != takenS (10) z s c o), 0), (b2i (takenS (11) z s c o != takenS (11) z s c o), 0), (b2i (takenS (12) z s c o != takenS (12) z s c o), 0), (b2i (takenS (13) z s c o != takenS (13) z s c o), 0), (b2i (takenS (14) z s c o != takenS (14) z s c o), 0), (b2i (takenS (15) z s c o != takenS (15) z s c o), 0), (b2i (takenS (16) z s c o != takenS (16) z s c o), 0), (b2i (takenS (17) z s c o != takenS (17) z s c o), 0), (b2i (takenS k z s c o == takenS k z s c o), 1)]) rfl rfl (by kernel_rfl) ?_ w (laid_of_tab hT)
  simp [b2i]
end Go.Proofs.YtbaiokfjoglmiaaDoor.Ex
end
section
namespace Go.Proofs.YtbaiokfjoglmiaaDoor

def lowS (v : BitVec 64) (b : Int) : BitVec 64 := if b ≤ 0 then 0 else if 64 ≤ b then v else v &&& (1#64 <<< b.toNat - 1#64)
def signS (v : BitVec 64) (b : Int) : BitVec 64 := if b ≤ 0 then 0 else if 64 ≤ b then v else (v <<< (64 - b).toNat).sshiftRight (64 - b).toNat

/-- The number of the first k of some bytes. -/
def numF (f : Nat → BitVec 8) : Nat → BitVec 64
  | 0 => 0#64
  | k + 1 => numF f k ||| ((f k).setWidth 64 <<< (8 * k))
def byteAt (s : ByteArray) (i : Nat) : BitVec 8 := (s.data.toList.getD i 0).toBitVec
def numS (s : ByteArray) : BitVec 64 := numF (byteAt s) (min s.size 8)
theorem numF_succ (f : Nat → BitVec 8) (k : Nat) : numF f (k + 1) = numF f k ||| ((f k).setWidth 64 <<< (8 * k)) := rfl
theorem byteAt_get (s : ByteArray) (k : Nat) (h : k < s.size) : BitVec.ofNat 64 s[k].toNat = (byteAt s k).setWidth 64 := by
  unfold byteAt
  have h' : k < s.data.toList.length := by simpa using h
  rw [List.getD_eq_getElem?_getD, List.getElem?_eq_getElem h']
  rw [← BitVec.ofNat_toNat]; rfl
theorem numS_eq (s : ByteArray) (k : Nat) (h : k = min s.size 8) : numF (byteAt s) k = numS s := by rw [h]; rfl

theorem numF_bit (f : Nat → BitVec 8) (k j : Nat) : (numF f k).getLsbD j = (decide (j < 64) && decide (j < 8 * k) && (f (j / 8)).getLsbD (j % 8)) := by
  induction k with
  | zero => simp [numF]
  | succ k ih =>
    rw [numF_succ, BitVec.getLsbD_or, ih, BitVec.getLsbD_shiftLeft, BitVec.getLsbD_setWidth]
    by_cases h64 : j < 64
    · by_cases h1 : j < 8 * k
      · have h2 : j < 8 * (k + 1) := by omega
        simp [h64, h1, h2]
      · by_cases h2 : j < 8 * (k + 1)
        · have e1 : j / 8 = k := by omega
          have e2 : j - 8 * k = j % 8 := by omega
          have e3 : j % 8 < 64 := by omega
          simp [h64, h1, h2, e1, e2, e3]
        · have e2 : 8 ≤ j - 8 * k := by omega
          simp [h64, h1, h2, BitVec.getLsbD_of_ge _ _ e2]
    · simp [h64]

/-- The number of m bytes from the place 'lo' on, from the highest one. -/
def numH (f : Nat → BitVec 8) (lo : Nat) : Nat → BitVec 64
  | 0 => 0#64
  | m + 1 => numH f (lo + 1) m <<< 8 ||| (f lo).setWidth 64
theorem numH_bit (f : Nat → BitVec 8) (m : Nat) : ∀ lo j, (numH f lo m).getLsbD j = (decide (j < 64) && decide (j < 8 * m) && (f (lo + j / 8)).getLsbD (j % 8)) := by
  induction m with
  | zero => intro lo j; simp [numH]
  | succ m ih =>
    intro lo j
    rw [numH, BitVec.getLsbD_or, BitVec.getLsbD_shiftLeft, ih, BitVec.getLsbD_setWidth]
    by_cases h64 : j < 64
    · by_cases h8 : j < 8
      · have e1 : j / 8 = 0 := by omega
        have e2 : j % 8 = j := by omega
        have e3 : j < 8 * (m + 1) := by omega
        simp [h64, h8, e1, e2, e3]
      · have e1 : lo + 1 + (j - 8) / 8 = lo + j / 8 := by omega
        have e2 : (j - 8) % 8 = j % 8 := by omega
        have e4 : j - 8 < 64 := by omega
        have e5 : (f lo).getLsbD j = false := BitVec.getLsbD_of_ge _ _ (by omega)
        by_cases h3 : j < 8 * (m + 1)
        · have e3 : j - 8 < 8 * m := by omega
          simp [h64, h8, e1, e2, e3, e4, e5, h3]
        · have e3 : ¬ j - 8 < 8 * m := by omega
          simp [h64, h8, e3, e5, h3]
    · simp [h64]
theorem numF_numH (f : Nat → BitVec 8) (m : Nat) : numH f 0 m = numF f m := by
  apply BitVec.eq_of_getLsbD_eq
  intro i hi
  rw [numF_bit, numH_bit, Nat.zero_add]
theorem mul256_add (v : BitVec 64) (c : BitVec 8) : v * 256#64 + c.setWidth 64 = v <<< 8 ||| c.setWidth 64 := by
  have e : v * 256#64 = v <<< 8 := by
    rw [BitVec.shiftLeft_eq_mul_twoPow]; congr 1
  rw [e]
  apply BitVec.add_eq_or_of_and_eq_zero
  apply BitVec.eq_of_getLsbD_eq
  intro i hi
  simp only [BitVec.getLsbD_and, BitVec.getLsbD_shiftLeft, BitVec.getLsbD_setWidth, BitVec.getLsbD_zero]
  by_cases h : i < 8
  · simp [h]
  · simp [BitVec.getLsbD_of_ge c i (by omega)]
theorem numH_step (f : Nat → BitVec 8) (lo m : Nat) : numH f (lo + 1) m * 256#64 + (f lo).setWidth 64 = numH f lo (m + 1) := by
  rw [mul256_add]; rfl

def byteOf (v : BitVec 64) (i : Nat) : BitVec 8 := (v >>> (8 * i)).setWidth 8
def bytesN (v : BitVec 64) (n : Nat) : ByteArray := ⟨((List.range n).map fun i => UInt8.ofBitVec (byteOf v i)).toArray⟩
theorem bytesN_size (v : BitVec 64) (n : Nat) : (bytesN v n).size = n := by
  show (bytesN v n).data.size = n
  simp [bytesN]
theorem bytesN_list (v : BitVec 64) (n : Nat) : (bytesN v n).data.toList = (List.range n).map fun i => UInt8.ofBitVec (byteOf v i) := by simp [bytesN]
theorem bytesN_get (v : BitVec 64) (n i : Nat) (h : i < (bytesN v n).size) : ((bytesN v n)[i].toNat : Int) = N (byteOf v i) := by
  have e : (bytesN v n)[i] = (bytesN v n).data[i]'(by simpa using h) := rfl
  rw [e]
  simp [bytesN, N]
theorem byteAt_bytesN (v : BitVec 64) (n i : Nat) (h : i < n) : byteAt (bytesN v n) i = byteOf v i := by
  unfold byteAt
  rw [bytesN_list, List.getD_eq_getElem?_getD]
  simp [h]

/-- nums.Bytes: the text of a number's n lowest bytes. -/
def bytesS (v : BitVec 64) (n : Int) : ByteArray := if n < 0 ∨ 8 < n then ⟨#[]⟩ else bytesN v n.toNat

theorem low_mod (v : BitVec 64) (b : Nat) : v % (1#64 <<< b) = v &&& (1#64 <<< b - 1#64) ∨ 64 ≤ b := by
  by_cases h : b < 64
  · left
    apply BitVec.eq_of_toNat_eq
    have hp : 2 ^ b < 2 ^ 64 := Nat.pow_lt_pow_right (by decide) h
    have e1 : (1#64 <<< b).toNat = 2 ^ b := by
      rw [BitVec.toNat_shiftLeft]; simp [Nat.shiftLeft_eq]; exact hp
    have hp0 : 0 < 2 ^ b := Nat.two_pow_pos b
    have e2 : (1#64 <<< b - 1#64).toNat = 2 ^ b - 1 := by
      rw [BitVec.toNat_sub, e1]; simp; omega
    rw [BitVec.toNat_umod, BitVec.toNat_and, e1, e2, Nat.and_two_pow_sub_one_eq_mod]
  · right; omega
theorem low_of_mod (v : BitVec 64) (b : Int) (h0 : 0 < b) (h1 : b < 64) : v % (1#64 <<< b.toNat) = lowS v b := by
  unfold lowS
  rw [if_neg (by omega), if_neg (by omega)]
  exact (low_mod v b.toNat).resolve_right (by omega)
theorem low_toNat (v : BitVec 64) (b : Int) (h0 : 0 < b) (h1 : b < 64) : (lowS v b).toNat = v.toNat % 2 ^ b.toNat := by
  rw [← low_of_mod v b h0 h1, BitVec.toNat_umod, BitVec.toNat_shiftLeft]
  have hp : 2 ^ b.toNat < 2 ^ 64 := Nat.pow_lt_pow_right (by decide) (by omega)
  simp only [BitVec.toNat_ofNat, Nat.shiftLeft_eq]
  rw [Nat.mod_eq_of_lt (a := 1) (by decide), Nat.one_mul, Nat.mod_eq_of_lt hp]
theorem low_bit (v : BitVec 64) (b : Int) (i : Nat) : (lowS v b).getLsbD i = (decide ((i : Int) < b) && v.getLsbD i) := by
  by_cases h0 : b ≤ 0
  · unfold lowS; rw [if_pos h0]
    have : ¬ (i : Int) < b := by omega
    simp [this]
  · by_cases h1 : 64 ≤ b
    · unfold lowS; rw [if_neg h0, if_pos h1]
      by_cases hi : i < 64
      · have : (i : Int) < b := by omega
        simp [this]
      · simp [BitVec.getLsbD_of_ge v i (by omega)]
    · have e := low_toNat v b (by omega) (by omega)
      rw [BitVec.getLsbD, e, Nat.testBit_mod_two_pow]
      congr 1
      simp only [decide_eq_decide]; omega
theorem sign_bit (v : BitVec 64) (b : Int) (i : Nat) (hb : 0 < b) (hi : i < 64) : (signS v b).getLsbD i = if (i : Int) < b then v.getLsbD i else v.getLsbD (b.toNat - 1) := by
  unfold signS
  rw [if_neg (by omega)]
  by_cases h1 : 64 ≤ b
  · rw [if_pos h1, if_pos (by omega)]
  · rw [if_neg h1]
    obtain ⟨n, rfl⟩ := Int.eq_ofNat_of_zero_le (show 0 ≤ b by omega)
    generalize hk' : (64 - (n : Int)).toNat = k
    have hk : k + n = 64 := by omega
    clear hk'
    rw [Int.toNat_natCast, BitVec.getLsbD_sshiftRight]
    by_cases h2 : i < n
    · have h3 : k + i < 64 := by omega
      have h4 : ¬ 64 ≤ i := by omega
      have h5 : (i : Int) < n := by omega
      rw [if_pos h3, if_pos h5, BitVec.getLsbD_shiftLeft]
      simp only [h3, h4, show ¬ k + i < k from by omega, Nat.add_sub_cancel_left, decide_false, decide_true, Bool.not_false, Bool.true_and]
    · have h3 : ¬ k + i < 64 := by omega
      have h4 : ¬ 64 ≤ i := by omega
      have h5 : ¬ (i : Int) < n := by omega
      have h6 : ¬ 63 < k := by omega
      have e : 63 - k = n - 1 := by omega
      rw [if_neg h3, if_neg h5, BitVec.msb_eq_getLsbD_last, BitVec.getLsbD_shiftLeft]
      simp only [h4, h6, decide_false, decide_true, Bool.not_false, Bool.true_and, show 64 - 1 < 64 from by decide, show 64 - 1 - k = n - 1 from by omega]
theorem low_lt_iff (v : BitVec 64) (b : Int) (h0 : 0 < b) (h1 : b < 64) : (N (lowS v b) < N (1#64 <<< (b - 1).toNat)) ↔ v.getLsbD (b.toNat - 1) = false := by
  obtain ⟨n, rfl⟩ : ∃ n : Nat, b = (n : Int) + 1 := ⟨(b - 1).toNat, by omega⟩
  have hp : 2 ^ n < 2 ^ 64 := Nat.pow_lt_pow_right (by decide) (by omega)
  have e1 : (1#64 <<< ((n : Int) + 1 - 1).toNat).toNat = 2 ^ n := by
    rw [show ((n : Int) + 1 - 1).toNat = n by omega, BitVec.toNat_shiftLeft]; simp [Nat.shiftLeft_eq]; exact hp
  have e2 := low_toNat v ((n : Int) + 1) h0 h1
  rw [show ((n : Int) + 1).toNat = n + 1 by omega] at e2 ⊢
  unfold N
  rw [e1, e2, Nat.add_sub_cancel, BitVec.getLsbD, Nat.mod_pow_succ]
  have h3 : v.toNat % 2 ^ n < 2 ^ n := Nat.mod_lt _ (Nat.two_pow_pos n)
  rw [Nat.testBit_eq_decide_div_mod_eq]
  have h4 : v.toNat / 2 ^ n % 2 = 0 ∨ v.toNat / 2 ^ n % 2 = 1 := by omega
  rcases h4 with h4 | h4
  · simp [h4]; exact_mod_cast h3
  · simp [h4]; omega
theorem sign_of_low (v : BitVec 64) (b : Int) (h0 : 0 < b) (h1 : b < 64) :
    signS v b = if v.getLsbD (b.toNat - 1) = false then lowS v b else lowS v b - 1#64 <<< b.toNat := by
  have hlow : ∀ i, (lowS v b).getLsbD i = (decide ((i : Int) < b) && v.getLsbD i) := low_bit v b
  split
  · rename_i h
    apply BitVec.eq_of_getLsbD_eq
    intro i hi
    rw [sign_bit v b i h0 hi, hlow i]
    by_cases hib : (i : Int) < b <;> simp only [hib, if_true, if_false, h, decide_true, decide_false, Bool.true_and, Bool.false_and]
  · rename_i h
    have h' : v.getLsbD (b.toNat - 1) = true := by simpa using h
    obtain ⟨n, rfl⟩ := Int.eq_ofNat_of_zero_le (show 0 ≤ b by omega)
    rw [Int.toNat_natCast] at h' ⊢
    have hn : n < 64 := by omega
    have hmask : ∀ i, i < 64 → (~~~(1#64 <<< n - 1#64)).getLsbD i = decide (n ≤ i) := by
      intro i hi
      have hp : 2 ^ n < 2 ^ 64 := Nat.pow_lt_pow_right (by decide) hn
      have e1 : (1#64 <<< n).toNat = 2 ^ n := by
        rw [BitVec.toNat_shiftLeft]; simp [Nat.shiftLeft_eq]; exact hp
      have hp0 : 0 < 2 ^ n := Nat.two_pow_pos n
      have e2 : (1#64 <<< n - 1#64).toNat = 2 ^ n - 1 := by
        rw [BitVec.toNat_sub, e1]; simp; omega
      rw [BitVec.getLsbD_not, BitVec.getLsbD, e2, Nat.testBit_two_pow_sub_one]
      by_cases hni : n ≤ i
      · simp [hi, hni]
      · simp [hi, hni]; omega
    have hneg : -(1#64 <<< n) = ~~~(1#64 <<< n - 1#64) := by
      rw [BitVec.neg_eq_not_add, BitVec.not_sub_one_eq_not_add_one]
    rw [BitVec.sub_eq_add_neg, hneg, BitVec.add_eq_or_of_and_eq_zero]
    · apply BitVec.eq_of_getLsbD_eq
      intro i hi
      rw [sign_bit v _ i h0 hi, BitVec.getLsbD_or, hlow i, hmask i hi, Int.toNat_natCast]
      by_cases hib : i < n
      · have h2 : ¬ n ≤ i := by omega
        simp [hib, h2]
      · have h2 : n ≤ i := by omega
        have h3 : ¬ (i : Int) < n := by omega
        simp [h2, h3, h']
    · apply BitVec.eq_of_getLsbD_eq
      intro i hi
      rw [BitVec.getLsbD_and, hlow i, hmask i hi]
      by_cases hib : i < n
      · have h2 : ¬ n ≤ i := by omega
        simp [h2]
      · simp [hib]
theorem shl1_ne (b : Int) (h0 : 0 ≤ b) (h1 : b < 64) : ¬ N (1#64 <<< b.toNat) = 0 := by
  have hp : 2 ^ b.toNat < 2 ^ 64 := Nat.pow_lt_pow_right (by decide) (by omega)
  have hp0 : 0 < 2 ^ b.toNat := Nat.two_pow_pos _
  unfold N
  rw [BitVec.toNat_shiftLeft]
  simp only [BitVec.toNat_ofNat, Nat.shiftLeft_eq]
  rw [Nat.mod_eq_of_lt (a := 1) (by decide), Nat.one_mul, Nat.mod_eq_of_lt hp]
  omega
/-- What the document's Sign goes by: whether no sign is told on. -/
def plainB (v : BitVec 64) (b : Int) : Bool := decide (N (lowS v b) < N (1#64 <<< (b - 1).toNat))
theorem sign_le0 (v : BitVec 64) (b : Int) (h : b ≤ 0) : lowS v b = signS v b := by unfold lowS signS; rw [if_pos h, if_pos h]
theorem sign_ge64 (v : BitVec 64) (b : Int) (h : 64 ≤ b) : lowS v b = signS v b := by unfold lowS signS; rw [if_neg (show ¬ b ≤ 0 by omega), if_pos h, if_neg (show ¬ b ≤ 0 by omega), if_pos h]
theorem sign_plain (v : BitVec 64) (b : Int) (h0 : 0 < b) (h1 : b < 64) (h : N (lowS v b) < N (1#64 <<< (b.toNat - 1))) : lowS v b = signS v b := by
  rw [show b.toNat - 1 = (b - 1).toNat by omega] at h
  rw [sign_of_low v b h0 h1, if_pos ((low_lt_iff v b h0 h1).1 h)]
theorem sign_minus (v : BitVec 64) (b : Int) (h0 : 0 < b) (h1 : b < 64) (h : ¬ N (lowS v b) < N (1#64 <<< (b.toNat - 1))) : lowS v b - 1#64 <<< b.toNat = signS v b := by
  rw [show b.toNat - 1 = (b - 1).toNat by omega] at h
  rw [sign_of_low v b h0 h1, if_neg (fun h' => h ((low_lt_iff v b h0 h1).2 h'))]
theorem shl_succ (k : Nat) : 1#64 <<< k * 2#64 = 1#64 <<< (k + 1) := by
  apply BitVec.eq_of_toNat_eq
  simp [Nat.shiftLeft_eq, Nat.pow_succ]
end Go.Proofs.YtbaiokfjoglmiaaDoor
end
section
namespace Go.Proofs.YtbaiokfjoglmiaaDoor.Ex
open Go Go.RowKit
theorem orHook2_ok {P : Program} {a b : Hook} (ha : HookOk2 P a) (hb : HookOk2 P b) : HookOk2 P (orHook a b) := by
  intro f args h v cs hv
  unfold orHook at hv
  split at hv
  · rename_i r hr
    cases hv
    exact ha f args h v cs hr
  · exact hb f args h v cs hv
/-- Some blocks of a memory, as a memory of their own. -/
theorem HR.pick {wb : World} {k : Nat} {s : Ren} {h : List AO} {w : World} (H : HR wb k s h w) (h1 : List AO) (f : Nat → Nat)
    (hf : ∀ (i : Nat) (o : AO), h1[i]? = some o → o.live = true → ∃ o', h[f i]? = some o' ∧ o'.live = true ∧ o'.es = o.es ∧ o'.cs = o.cs ∧ o.cs.all flat = true ∧ isM o = false)
    (hinj : ∀ (i j : Nat) (a b : AO), h1[i]? = some a → h1[j]? = some b → a.live = true → b.live = true → f i = f j → i = j)
    (hg : ∀ (i : Nat) (o : AO), h1[i]? = some o → o.live = true → o.es = some GM → f i = i) :
    HR w h1.length (fun i => match h1[i]? with | some o => if o.live then s (f i) else none | none => none) h1 w := by
  have inv : ∀ i p, (match h1[i]? with | some o => if o.live then s (f i) else none | none => none) = some p → ∃ o, h1[i]? = some o ∧ o.live = true ∧ s (f i) = some p := by
    intro i p hp
    cases ho : h1[i]? with
    | none => rw [ho] at hp; cases hp
    | some o =>
      rw [ho] at hp
      simp only at hp
      split at hp
      · rename_i hl; exact ⟨o, rfl, hl, hp⟩
      · cases hp
  refine ⟨Gr.refl w, Nat.le_refl _, fun i hi => by rw [List.getElem?_eq_none hi], fun i p hp => ?_, fun i o ho hl => ?_, fun i j a b p q hi hj ha hb hp hq e => ?_, fun g p hp hes => ?_⟩
  · obtain ⟨o, ho, hl, hs⟩ := inv i p hp
    have := (H.plc _ p hs).2.2
    have hi := (List.getElem?_eq_some_iff.1 ho).1
    exact ⟨fun _ => this, fun h => absurd h (by omega), this⟩
  · obtain ⟨o', h1', h2, h3, h4, h5, h6⟩ := hf i o ho hl
    obtain ⟨p, hp, he, hb⟩ := H.obj _ o' h1' h2
    have hm : isM o' = false := by unfold isM at h6 ⊢; rw [h3]; exact h6
    have B := hb.2 hm
    refine ⟨p, by rw [ho]; simp only [hl, if_true]; exact hp, by rw [he, h3], ObjAt.block h6 ?_⟩
    rw [h4] at B
    exact ⟨B.fit, B.all, B.shp, B.free, fun x v hv => by
      obtain ⟨v', g1, g2⟩ := B.rel x v hv
      have hfl := all_get h5 hv
      exact ⟨v', g1, by rw [g2.eq_of_flat hfl]; exact .same hfl⟩⟩
  · obtain ⟨a', i1, i2, _, _, _, _⟩ := hf i a hi ha
    obtain ⟨b', j1, j2, _, _, _, _⟩ := hf j b hj hb
    obtain ⟨_, _, _, hs1⟩ := inv i p hp
    obtain ⟨_, _, _, hs2⟩ := inv j q hq
    exact hinj i j a b hi hj ha hb (H.sep _ _ a' b' p q i1 j1 i2 j2 hs1 hs2 e)
  · obtain ⟨o, ho, hl, hs⟩ := inv g p hp
    obtain ⟨o', h1', h2, h3, _, _, _⟩ := hf g o ho hl
    obtain ⟨p', hp', he, _⟩ := H.obj _ o' h1' h2
    rw [hs] at hp'
    cases hp'
    have e := hg g o ho hl (by rw [← h3, ← he, hes])
    rw [e] at hs
    exact H.gl g p hs hes
/-- A call: flat arguments ahead, and a slice of some cells behind; what it comes to. -/
structure SlCall where
  pre : List Value
  cs : List Value
  len : Nat
  v : Value
def slHeap (h0 : List AO) (e : SlCall) : List AO := h0 ++ [⟨true, none, e.cs⟩]
def slArgs (h0 : List AO) (e : SlCall) : List Value := e.pre ++ [.slice (some ⟨h0.length, 0, none⟩) e.len e.len]
def SlOk (P : Program) (h0 : List AO) (g : FuncId) (e : SlCall) : Prop :=
  ∀ (w : World) (s : Ren) (args' : List Value), HR w (slHeap h0 e).length s (slHeap h0 e) w → LR s (slArgs h0 e) args' → Calls P g ⟨args'⟩ w fun x w' => x = .returned e.v ∧ Gr w w'
noncomputable def reckonSl (P : Program) (hk : Hook) (L f : Nat) (h0 : List AO) (g : FuncId) (e : SlCall) : Option (Value × Cs) :=
  match callA P ⟨ex P (aOp P) (drawE P) (liftH hk) noOrc accQ L f, liftH hk, fun _ _ => none, accQ⟩ g (slArgs h0 e) (slHeap h0 e) with
  | some (v, _, m) => if quietB (slHeap h0 e).length m.1 then some (v, m.2) else none
  | none => none
theorem reckonSl_ok {P : Program} (hng : NoNG P) {hk : Hook} (hhk : HookOk2 P hk) (L f : Nat) (h0 : List AO) {g : FuncId} {e : SlCall} {cs : Cs} (hv : flat e.v = true) (h : reckonSl P hk L f h0 g e = some (e.v, cs)) (hc : cs.map (·.1) = cs.map (·.2)) : SlOk P h0 g e := by
  intro w s args' H ha
  unfold reckonSl at h
  split at h
  · rename_i v h' m hr
    split at h
    · rename_i hq
      simp only [Option.some.injEq, Prod.mk.injEq] at h
      obtain ⟨rfl, rfl⟩ := h
      refine (callA_ok (ex_ok accQ_eq hng (aOp_ok P hng) (drawE_ok P) (drawE_low P) (lift_ok hhk) L f _) hr ⟨quietB_ok hq, map_same hc⟩ ha H).mono ?_
      rintro x w' ⟨s', v', rfl, _, H', hvr⟩
      rw [hvr.eq_of_flat hv]
      exact ⟨rfl, H'.grown⟩
    · cases h
  · cases h
/-- Does a call hand in that? -/
def slHit (h : List AO) (e : SlCall) (args : List Value) : Option Nat :=
  match args.drop e.pre.length with
  | [.slice (some a) l c] =>
    if eqML (args.take e.pre.length) e.pre && Nat.beq a.off 0 && a.spot.isNone && Nat.beq l e.len && Nat.beq c e.len then
      match h[a.block]? with
      | some o => if o.live && o.es.isNone && eqL o.cs e.cs then some a.block else none
      | none => none
    else none
  | _ => none
def slFind (h : List AO) : List SlCall → List Value → Option SlCall
  | [], _ => none
  | e :: r, args => if (slHit h e args).isSome then some e else slFind h r args
def slHook (h0 : List AO) (g : FuncId) (t : List SlCall) : Hook := fun f args h =>
  if Nat.beq f g then
    match slFind h t args with
    | some e => if hasG h0 h then some (e.v, []) else none
    | none => none
  else none
theorem slFind_spec {h : List AO} : ∀ {t : List SlCall} {args : List Value} {e : SlCall}, slFind h t args = some e → e ∈ t ∧ ∃ b, slHit h e args = some b
  | [], _, _, hh => by cases hh
  | q :: r, args, e, hh => by
    simp only [slFind] at hh
    split at hh
    · rename_i hi
      cases hh
      exact ⟨by simp, Option.isSome_iff_exists.1 hi⟩
    · obtain ⟨h1, h2⟩ := slFind_spec hh
      exact ⟨List.mem_cons_of_mem _ h1, h2⟩
theorem slHook_ok {P : Program} {h0 : List AO} (hf : h0.all (fun o => !o.live || (match o.es with | some e => Nat.beq e GM | none => false) && o.cs.all flat) = true) {g : FuncId} {t : List SlCall}
    (hpre : t.all (fun e => e.pre.all flat && e.cs.all flat) = true) (ht : ∀ e ∈ t, SlOk P h0 g e) : HookOk2 P (slHook h0 g t) := by
  intro f args h v cs hv _ wb k s w args' H ha
  unfold slHook at hv
  split at hv
  · rename_i hc
    obtain rfl := Nat.eq_of_beq_eq_true hc
    split at hv
    · rename_i e he
      split at hv
      · rename_i hg
        cases hv
        obtain ⟨hmem, b, hb⟩ := slFind_spec he
        have hfl := List.all_eq_true.1 hpre e hmem
        simp only [Bool.and_eq_true] at hfl
        unfold slHit at hb
        split at hb
        · rename_i a l c hd
          split at hb
          · rename_i hq
            simp only [Bool.and_eq_true] at hq
            obtain ⟨⟨⟨⟨q1, q2⟩, q3⟩, q4⟩, q5⟩ := hq
            split at hb
            · rename_i o ho
              split at hb
              · rename_i hlo
                simp only [Bool.and_eq_true] at hlo
                obtain ⟨⟨l1, l2⟩, l3⟩ := hlo
                cases hb
                have hocs := eqL_ok l3
                have hoes : o.es = none := Option.isNone_iff_eq_none.1 l2
                have hargs : args = e.pre ++ [.slice (some ⟨a.block, 0, none⟩) e.len e.len] := by
                  have h1 := List.take_append_drop e.pre.length args
                  rw [hd, eqML_ok q1] at h1
                  obtain ⟨ab, ao, asp⟩ := a
                  obtain rfl : ao = 0 := Nat.eq_of_beq_eq_true q2
                  obtain rfl : asp = none := Option.isNone_iff_eq_none.1 q3
                  obtain rfl := Nat.eq_of_beq_eq_true q4
                  obtain rfl := Nat.eq_of_beq_eq_true q5
                  exact h1.symm
                obtain ⟨ab, ao, asp⟩ := a
                simp only at ho hargs
                obtain ⟨pb, hpb, hpe, _⟩ := H.obj ab o ho l1
                have glo : ∀ (i : Nat) (q : AO), h0[i]? = some q → q.live = true → q.es = some GM ∧ q.cs.all flat = true := by
                  intro i q hq hl
                  have h1 := List.all_eq_true.1 hf q (List.mem_of_getElem? hq)
                  simp only [hl, Bool.not_true, Bool.false_or, Bool.and_eq_true] at h1
                  refine ⟨?_, h1.2⟩
                  cases hes : q.es with
                  | none => rw [hes] at h1; cases h1.1
                  | some z => rw [hes] at h1; rw [Nat.eq_of_beq_eq_true h1.1]
                have cases1 : ∀ (i : Nat) (q : AO), (slHeap h0 e)[i]? = some q → (i < h0.length ∧ h0[i]? = some q) ∨ (i = h0.length ∧ q = ⟨true, none, e.cs⟩) := by
                  intro i q hq
                  unfold slHeap at hq
                  by_cases hi : i < h0.length
                  · rw [List.getElem?_append_left hi] at hq; exact .inl ⟨hi, hq⟩
                  · have h2 := (List.getElem?_eq_some_iff.1 hq).1
                    simp only [List.length_append, List.length_singleton] at h2
                    obtain rfl : i = h0.length := by omega
                    rw [List.getElem?_append_right (by omega)] at hq
                    simp at hq
                    exact .inr ⟨rfl, hq.symm⟩
                have HP := H.pick (slHeap h0 e) (fun i => if i < h0.length then i else ab)
                  (fun i q hq hl => by
                    rcases cases1 i q hq with ⟨hi, h2⟩ | ⟨rfl, rfl⟩
                    · obtain ⟨p, p1, p2, p3, p4⟩ := hasG_at hg i q h2 hl
                      obtain ⟨g1, g2⟩ := glo i q h2 hl
                      exact ⟨p, by simp only [hi, if_true]; exact p1, p2, by rw [p3, g1], p4, g2, by unfold isM; rw [g1]; rfl⟩
                    · exact ⟨o, by simp only [Nat.lt_irrefl, if_false]; exact ho, l1, hoes, hocs, hfl.2, rfl⟩)
                  (fun i j x y hi hj hx hy hij => by
                    rcases cases1 i x hi with ⟨i1, i2⟩ | ⟨rfl, rfl⟩
                    · rcases cases1 j y hj with ⟨j1, j2⟩ | ⟨rfl, rfl⟩
                      · simpa [i1, j1] using hij
                      · exfalso
                        obtain ⟨p, p1, _, p3, _⟩ := hasG_at hg i x i2 hx
                        simp only [i1, if_true, Nat.lt_irrefl, if_false] at hij
                        rw [hij, ho] at p1
                        cases p1
                        rw [hoes] at p3
                        cases p3
                    · rcases cases1 j y hj with ⟨j1, j2⟩ | ⟨rfl, rfl⟩
                      · exfalso
                        obtain ⟨p, p1, _, p3, _⟩ := hasG_at hg j y j2 hy
                        simp only [j1, if_true, Nat.lt_irrefl, if_false] at hij
                        rw [← hij, ho] at p1
                        cases p1
                        rw [hoes] at p3
                        cases p3
                      · rfl)
                  (fun i q hq hl hes => by
                    rcases cases1 i q hq with ⟨hi, h2⟩ | ⟨rfl, rfl⟩
                    · simp only [hi, if_true]
                    · cases hes)
                refine ht e hmem w _ args' HP ?_
                rw [hargs] at ha
                refine ⟨by unfold slArgs; rw [← ha.1]; simp, fun i x y hx hy => ?_⟩
                unfold slArgs at hx
                by_cases hi : i < e.pre.length
                · rw [List.getElem?_append_left hi] at hx
                  have h3 := ha.2 i x y (by rw [List.getElem?_append_left hi]; exact hx) hy
                  have hxf := all_get hfl.1 hx
                  rw [h3.eq_of_flat hxf]
                  exact .same hxf
                · have h2 := (List.getElem?_eq_some_iff.1 hx).1
                  simp only [List.length_append, List.length_singleton] at h2
                  obtain rfl : i = e.pre.length := by omega
                  rw [List.getElem?_append_right (by omega)] at hx
                  simp at hx
                  subst hx
                  have h3 := ha.2 e.pre.length (.slice (some ⟨ab, 0, none⟩) e.len e.len) y (by rw [List.getElem?_append_right (by omega)]; simp) hy
                  obtain ⟨p, c', _, hp, hcap, rfl⟩ := h3.slice_inv
                  refine VR.slice (a := ⟨h0.length, 0, none⟩) rfl ?_ hcap
                  show (match (slHeap h0 e)[h0.length]? with | some o => if o.live then s (if h0.length < h0.length then h0.length else ab) else none | none => none) = some p
                  have e1 : (slHeap h0 e)[h0.length]? = some ⟨true, none, e.cs⟩ := by unfold slHeap; rw [List.getElem?_append_right (by omega)]; simp
                  rw [e1]
                  simp only [if_true, Nat.lt_irrefl, if_false]
                  exact hp
              · cases hb
            · cases hb
          · cases hb
        · cases hb
      · cases hv
    · cases hv
  · cases hv
end Go.Proofs.YtbaiokfjoglmiaaDoor.Ex
end
section
namespace Go.Proofs.YtbaiokfjoglmiaaDoor
open Go.RowKit

/-- A world that meets S. -/
structure Held (S : World → Prop) where
  w : World
  h : S w
/-- 'Grown', not taken apart. -/
def Gw (a b : World) : Prop := Grown a b
theorem Gw.trans {a b c : World} (h1 : Gw a b) (h2 : Gw b c) : Gw a c :=
  ⟨World.keptBut_trans h1.1 h2.1, fun x => (h2.2.1 x).trans (h1.2.1 x), Nat.le_trans h1.2.2 h2.2.2⟩
theorem Gw.drew {a b : World} (h : Gw a b) : Gw a b.drew := Grown.drew h
theorem held_call {S : World → Prop} (keep : ∀ a b, S a → Grown a b → S b) {P : Program} {f : FuncId} {args : Array Value} {v : Value} (x : Held S)
    (h : Calls P f args x.w fun e w' => e = .returned v ∧ Grown x.w w') : Calls P f args x.w fun e w'' => e = .returned v ∧ ∃ y : Held S, w'' = y.w :=
  h.mono fun _ w'' ⟨he, hg⟩ => ⟨he, ⟨⟨w'', keep _ _ x.h hg⟩, rfl⟩⟩
theorem held_callG {W : World} {P : Program} {f : FuncId} {args : Array Value} {v : Value} (x : Held (Gw W))
    (h : Calls P f args x.w fun e w' => e = .returned v ∧ Grown x.w w') : Calls P f args x.w fun e w'' => e = .returned v ∧ ∃ y : Held (Gw W), w'' = y.w :=
  held_call (fun _ _ h hg => Gw.trans h hg) x h
theorem held_callS {S : World → Prop} {P : Program} {f : FuncId} {args : Array Value} {v : Value} (x : Held S)
    (h : Calls P f args x.w fun e w' => e = .returned v ∧ w' = x.w) : Calls P f args x.w fun e w'' => e = .returned v ∧ ∃ y : Held S, w'' = y.w :=
  h.mono fun _ _ ⟨he, hg⟩ => ⟨he, ⟨x, hg⟩⟩
theorem wp_region_lex {P : Program} {id : Nat} {Q : Exit → Act → World → Prop} {a : Act} {w : World} {l : List Oper} (S : World → Prop) (hm : P.follows .mixedOrders = true) (hB : Region.lexB .any l.toArray = true)
    (h0 : S w.drew) (h : Nonempty (Held S) → wpQuiet P l.toArray (fun w' => ∃ x : Held S, w' = x.w) (fun a' => ∀ w', S w' → Q .normal a' w') l a) : (Code.region id l.toArray true).wp P Q a w :=
  wp_region_quiet (C := fun w' => ∃ x : Held S, w' = x.w) hm hB ⟨⟨w.drew, h0⟩, rfl⟩ (by
    have h1 := h ⟨⟨w.drew, h0⟩⟩
    have e : (fun a' => ∀ w', S w' → Q .normal a' w') = (fun a' => ∀ w', (∃ x : Held S, w' = x.w) → Q .normal a' w') := by
      funext a'
      exact propext ⟨fun hh w' ⟨x, hx⟩ => hh w' (hx ▸ x.h), fun hh w' hw => hh w' ⟨⟨w', hw⟩, rfl⟩⟩
    rw [e] at h1
    simpa using h1)
end Go.Proofs.YtbaiokfjoglmiaaDoor
end
section
namespace Go.Proofs.YtbaiokfjoglmiaaDoor
open Go.RowKit

/-- Block, place, value. -/
def CellsAt (w : World) : List (Nat × Nat × Value) → Prop
  | [] => True
  | x :: l => (w.cell? ⟨x.1, x.2.1, none⟩ = some x.2.2 ∧ x.1 < w.heap.size) ∧ CellsAt w l
theorem CellsAt.grown {w w' : World} (g : Grown w w') : ∀ {l : List (Nat × Nat × Value)}, CellsAt w l → CellsAt w' l
  | [], _ => trivial
  | _ :: _, h => ⟨⟨grown_cellAt g h.1.2 h.1.1, Nat.lt_of_lt_of_le h.1.2 g.2.2⟩, CellsAt.grown g h.2⟩
theorem CellsAt.drew {w : World} {l : List (Nat × Nat × Value)} (h : CellsAt w l) : CellsAt w.drew l := h.grown (Grown.drew (Grown.refl w))
theorem CellsAt.alloc {w : World} {l : List (Nat × Nat × Value)} (h : CellsAt w l) (cs : Array Value) (T : TypeId) : CellsAt (w.alloc (.cells cs T)) l := h.grown (Grown.alloc (Grown.refl w) cs T)
theorem CellsAt.get {w : World} : ∀ {l : List (Nat × Nat × Value)}, CellsAt w l → ∀ (i : Nat) (x : Nat × Nat × Value), l[i]? = some x → w.cell? ⟨x.1, x.2.1, none⟩ = some x.2.2
  | [], _, i, x, hi => by simp at hi
  | y :: l, h, 0, x, hi => by
    simp at hi; subst hi; exact h.1.1
  | y :: l, h, i + 1, x, hi => CellsAt.get h.2 i x (by simpa using hi)
/-- A world that has the cells, and has grown from another one. -/
def Keeps (w0 : World) (l : List (Nat × Nat × Value)) (w : World) : Prop := CellsAt w l ∧ Grown w0 w
theorem Keeps.grown {w0 w w' : World} {l : List (Nat × Nat × Value)} (h : Keeps w0 l w) (g : Grown w w') : Keeps w0 l w' := ⟨h.1.grown g, Grown.trans' h.2 g⟩
theorem Keeps.drew {w0 w : World} {l : List (Nat × Nat × Value)} (h : Keeps w0 l w) : Keeps w0 l w.drew := h.grown (Grown.drew (Grown.refl w))
theorem held_callK {w0 : World} {l : List (Nat × Nat × Value)} {P : Program} {f : FuncId} {args : Array Value} {v : Value} (x : Held (Keeps w0 l))
    (h : Calls P f args x.w fun e w' => e = .returned v ∧ Grown x.w w') : Calls P f args x.w fun e w'' => e = .returned v ∧ ∃ y : Held (Keeps w0 l), w'' = y.w :=
  held_call (fun _ _ h hg => h.grown hg) x h
/-- A block of two cells more. -/
theorem Keeps.new2 {w0 w : World} {l : List (Nat × Nat × Value)} (h : Keeps w0 l w) (x y : Value) (T : TypeId) : Keeps w0 ((w.heap.size, 0, x) :: (w.heap.size, 1, y) :: l) (w.alloc (.cells #[x, y] T)) :=
  ⟨⟨⟨by simp [go_sem], by simp⟩, ⟨by simp [go_sem], by simp⟩, h.1.alloc _ _⟩, Grown.trans' h.2 (Grown.alloc (Grown.refl w) _ _)⟩
end Go.Proofs.YtbaiokfjoglmiaaDoor
end
section
namespace Go.Proofs.YtbaiokfjoglmiaaDoor
open Go.RowKit

section
variable {P : Program} {ops : Array Oper} {md : Region.Mode} {C : World → Prop}
/-- Whatever order the head takes; behind it 'L'. -/
def headAny (P : Program) (md : Region.Mode) (ops : Array Oper) (C : World → Prop) (n : Nat) (L : Array Bool → Act → Prop) : Nat → Array Bool → Act → Prop
  | 0, m, a => L m a
  | f + 1, m, a => Region.ready md ops m ≠ [] ∧ ∀ i ∈ Region.ready md ops m, i < n ∧ qOp P ops C i (headAny P md ops C n L f (m.setIfInBounds i true)) a

theorem any_of_head {n g : Nat} {L : Array Bool → Act → Prop} {Q' : Exit → Act → World → Prop} (hL : ∀ m a w, C w → L m a → wpAny P md ops Q' g m a w) (f : Nat) :
    ∀ (m : Array Bool) (a : Act) (w : World), C w → headAny P md ops C n L f m a → wpAny P md ops Q' (f + g) m a w := by
  induction f with
  | zero => intro m a w hw h; rw [Nat.zero_add]; exact hL m a w hw h
  | succ f ih =>
    intro m a w hw h
    rw [Nat.add_right_comm]
    refine ⟨fun h0 => absurd h0 h.1, fun i hi => ?_⟩
    exact wpOp_of_qOp hw (fun a' w' hw' h' => ih _ a' w' hw' h') (h.2 i hi).2

theorem head_first {n i : Nat} {oi : Oper} {v : Value} {L : Array Bool → Act → Prop} (hi : ops[i]? = some oi) (hsel : Region.noSelect ops = true)
    (hs : Region.sinkB md ops n = true) (hc : Region.chainB md ops n = true) (hn : n < ops.size) (hin : i < n) (hdone : ∀ m a, L m a → ∀ j ∈ Region.ready md ops m, n ≤ j) (f : Nat) :
    ∀ (m : Array Bool) (a : Act), HeadInv md ops n m →
      (∀ j oj, ops[j]? = some oj → j ≠ i → m.getD j true = false → (∀ e ∈ oj.after, Region.binds md e = true → e.on ≠ i) → oi.apart ops oj = true) →
      i ∈ Region.ready md ops m → YieldsIn P ops C oi v a → headAny P md ops C n L f (m.setIfInBounds i true) (a.put oi.dst v) → headAny P md ops C n L (f + 1) m a := by
  have sel := Region.noSelect_spec hsel
  induction f with
  | zero =>
    intro m a inv _ hr hy H
    have un := (mem_ready.1 hr).1
    refine ⟨List.ne_nil_of_mem hr, fun j hj => ?_⟩
    have hjn : j < n := Nat.lt_of_not_le fun hle => tail_waits hs hc hn inv _ i rfl hin un j hle hj
    refine ⟨hjn, ?_⟩
    by_cases e : j = i
    · subst e; exact hy.qOp hi H
    · exact absurd hjn (Nat.not_lt.2 (hdone _ _ H j (ready_mono hj e)))
  | succ f ih =>
    intro m a inv free hr hy H
    have un := (mem_ready.1 hr).1
    refine ⟨List.ne_nil_of_mem hr, fun j hj => ?_⟩
    have hjn : j < n := Nat.lt_of_not_le fun hle => tail_waits hs hc hn inv _ i rfl hin un j hle hj
    refine ⟨hjn, ?_⟩
    by_cases e : j = i
    · subst e; exact hy.qOp hi H
    · obtain ⟨unj, oj, hoj, all⟩ := mem_ready.1 hj
      have no : ∀ x ∈ oj.after, Region.binds md x = true → x.on ≠ i := fun x hx hb he => by
        have h1 := all x hx hb
        rw [he, getD_both un] at h1
        cases h1
      have h2 := qOp_put hoj (free j oj hoj e unj no) (sel i oi · · hi) (sel j oj · · hoj) hy (H.2 j (ready_mono hj e)).2
      refine qOp_mono (fun a' h3 => ih (m.setIfInBounds j true) a' (inv.set hj hjn) (fun k ok hk hki unk nok => free k ok hk hki ?_ nok) (ready_mono hr (Ne.symm e)) h3.1 ?_) h2
      · by_cases ejk : j = k
        · subst ejk; exact unj
        · rwa [getD_set_ne true ejk] at unk
      · rw [Array.setIfInBounds_comm _ _ e]
        exact h3.2

theorem head_lex {n g : Nat} {Lq : Act → Prop} (hsel : Region.noSelect ops = true) (hs : Region.sinkB md ops n = true) (hc : Region.chainB md ops n = true) (hn : n < ops.size) (l : List Oper) :
    ∀ (k : Nat) (m : Array Bool) (a : Act), (∀ j, j < l.length → l[j]? = ops[k + j]?) → k + l.length = n → HeadInv md ops n m → Region.lexHead md ops g l.length k m = true →
    wpQuiet P ops C Lq l a → headAny P md ops C n (fun m' a' => Region.seqB md ops g n m' = true ∧ Lq a') l.length m a := by
  induction l with
  | nil =>
    intro k m a _ hk _ hB h
    have hk : k = n := by simpa using hk
    subst hk
    exact ⟨by simpa [Region.lexHead] using hB, h⟩
  | cons o l ih =>
    intro k m a hl hk inv hB h
    have h0 : ops[k]? = some o := (hl 0 (by simp)).symm
    rw [List.length_cons] at hk
    simp only [List.length_cons, Region.lexHead, Bool.and_eq_true] at hB
    obtain ⟨⟨hr, hf⟩, hB2⟩ := hB
    have hr2 : k ∈ Region.ready md ops m := by simpa using hr
    have hq : qOp P ops C k (wpQuiet P ops C Lq l) a := by unfold qOp; simp only [h0]; exact h
    obtain ⟨v, hy, hK⟩ := yieldsIn_of_qOp h0 hq
    refine head_first h0 hsel hs hc hn (by omega) (fun m' a' hL => seqB_ready hL.1) l.length m a inv (Region.free_spec h0 hf) hr2 hy (ih (k + 1) _ _ (fun j hj => ?_) (by omega) (inv.set hr2 (by omega)) hB2 hK)
    have := hl (j + 1) (by simp; omega)
    rw [show k + 1 + j = k + (j + 1) by omega]
    simpa using this
end

theorem wp_region_lex_tail {P : Program} {id : Nat} {Q : Exit → Act → World → Prop} {a : Act} {w : World} {l : List Oper} (S : World → Prop) (n : Nat) (hm : P.follows .mixedOrders = true) (hB : Region.lexTailB .any l.toArray n = true)
    (h0 : S w.drew) (h : Nonempty (Held S) → wpQuiet P l.toArray (fun w' => ∃ x : Held S, w' = x.w) (fun a' => ∀ w', S w' → wpList P l.toArray Q (l.drop n) a' w') (l.take n) a) : (Code.region id l.toArray true).wp P Q a w := by
  simp only [Region.lexTailB, Bool.and_eq_true, decide_eq_true_eq] at hB
  obtain ⟨⟨⟨⟨hsel, hn⟩, hs⟩, hc⟩, hlex⟩ := hB
  have hlen : n < l.length := by simpa using hn
  have ht : (l.take n).length = n := by rw [List.length_take]; omega
  have hd : (l.drop n).length = l.toArray.size - n := by simp
  have inv : HeadInv .any l.toArray n (Array.replicate l.toArray.size false) :=
    ⟨by simp, fun j _ _ hl => (by rw [getD_replicate_false] at hl; cases hl), fun t _ h2 => getD_in (by simpa using h2) (getD_replicate_false _ _)⟩
  have H := head_lex (P := P) (C := fun w' => ∃ x : Held S, w' = x.w) (md := .any) (g := l.toArray.size - n) hsel hs hc hn (l.take n) 0 _ a (fun j hj => by rw [ht] at hj; simp [hj]) (by rw [ht]; omega) inv (by rw [ht]; exact hlex) (h ⟨⟨w.drew, h0⟩⟩)
  have A := any_of_head (Q' := Q) (g := l.toArray.size - n) (fun m a' w' hw' hL => by
    obtain ⟨x, rfl⟩ := hw'
    have := wpAny_of_seq (md := .any) (Q' := Q) (l.drop n) n m a' x.w (fun j => by simp [List.getElem?_drop]) (by rw [hd]; exact hL.1) (hL.2 x.w x.h)
    rwa [hd] at this) _ _ _ w.drew ⟨⟨w.drew, h0⟩, rfl⟩ H
  rw [ht, show n + (l.toArray.size - n) = l.toArray.size by omega] at A
  exact wp_region_any hm A
end Go.Proofs.YtbaiokfjoglmiaaDoor
end
section
namespace Go.Proofs.YtbaiokfjoglmiaaDoor.Ex
open Go Go.RowKit Go.WideShapes Go.ChangeShapes

theorem gr_frame {W W' : World} (h : Gr W W') (may : MemPlace → Prop) : W.keptBut W' may := by
  refine ⟨h.1.1, h.1.2, fun i hi => ?_⟩
  rw [h.2.1 i hi]
  split <;> simp_all
section
variable {H : Type} {enc : TypeId × Value → H} {P : Program}
theorem post_of_gr {f : Func} {s : ChangeSpec} {apart fresh handsOn again : Bool} {W W' : World} {args : Array Value} {v : Value} {ds gs : List (DataW H)} {before pa pv : List MemPlace}
    (hW : DataW.Whole enc P f.params.toList s.vars apart W args.toList ds gs before)
    (hres : ∀ (b : Nat) (sp : Nat → Bool) (hd : Bool), DataW.TrodAll enc P W' b sp hd f.resultTypes.toList (v.resultList f.resultTypes.size) (s.fn H (ds ++ gs)).results [])
    (hargs : ∀ sp : Nat → Bool, (∀ p ∈ before, sp p.block = true) → DataW.TrodAll enc P W' 0 sp true f.params.toList args.toList (s.fn H (ds ++ gs)).args pa)
    (hvars : ∀ sp : Nat → Bool, (∀ p ∈ before, sp p.block = true) → DataW.TrodVars enc P W' sp s.vars (s.fn H (ds ++ gs)).vars pv)
    (hps : before = pa ++ pv) (hg : Gr W W')
    (hok : ∀ (j : Nat) (t : TypeId) (r : Value), f.resultTypes[j]? = some t → (v.resultList f.resultTypes.size)[j]? = some r → Value.okWide P W' .any 0 t r) :
    s.post enc P f apart fresh handsOn again W args v W' := by
  have hlt : ∀ p ∈ before, p.block < W.heap.size := fun p hp => hW.lt p hp
  have hold : ∀ p ∈ before, (fun b => decide (b < W.heap.size)) p.block = true := fun p hp => by simpa using hlt p hp
  refine ⟨ds, gs, before, [], pa, pv, hW, hres _ _ _, hargs _ hold, hvars _ hold, World.keptBut_mono (fun p hp => ⟨hp, ?_⟩) (gr_frame hg (· ∈ before)), fun _ => ?_⟩
  · rw [hps, List.mem_append] at hp
    exact Or.inr hp
  · obtain ⟨_, _, _, _, _, hz, hn⟩ := hW
    refine ⟨hok, _, _, ([] ++ pa) ++ pv, ⟨[] ++ pa, pv, trodAll_append (hargs _ (fun _ _ => rfl)) (hres _ _ _), hvars _ (fun _ _ => rfl), rfl, ?_, ?_⟩, ?_⟩
    · intro b off hp
      have hin : MemPlace.cell b off ∈ before := by rw [hps]; simpa using hp
      rw [gr_frozen hg (hlt _ hin)]
      exact hz b off hin
    · intro ha
      have := hn ha
      rw [hps] at this
      simpa using this
    · intro p hp _
      rw [hps]
      simpa using hp
end
end Go.Proofs.YtbaiokfjoglmiaaDoor.Ex
end
section
namespace Go.Proofs.YtbaiokfjoglmiaaDoor
open Go.RowKit
set_option linter.unusedVariables false
/-- The byte of a text at a place; 0 behind its end. -/
def byteT (s : ByteArray) (i : Int) : Int := ((s.data.toList.getD i.toNat 0).toNat : Int)
theorem byteT_in (s : ByteArray) (i : Int) (h0 : 0 ≤ i) (h1 : i < (s.size : Int)) (h : i.toNat < s.size) : ((s[i.toNat]'h).toNat : Int) = byteT s i := by
  unfold byteT
  have hl : i.toNat < s.data.toList.length := by simpa using h
  rw [List.getD_eq_getElem?_getD, List.getElem?_eq_getElem hl]
  rfl
theorem byteT_out (s : ByteArray) (i : Int) (h1 : (s.size : Int) ≤ i) : byteT s i = 0 := by
  unfold byteT
  have hl : s.data.toList.length ≤ i.toNat := by
    have : s.data.toList.length = s.size := by simp
    omega
  rw [List.getD_eq_getElem?_getD, List.getElem?_eq_none hl]
  rfl
def Stands (W : World) (b o : Nat) (s : ByteArray) (a : Int) (y : World) : Prop := y.cell? ⟨b, o, none⟩ = some (.string s) ∧ y.cell? ⟨b, o + 1, none⟩ = some (.int .i64 a) ∧ b < y.heap.size ∧ Grown W y
theorem Stands.drew {W y : World} {b o : Nat} {s : ByteArray} {a : Int} (h : Stands W b o s a y) : Stands W b o s a y.drew :=
  have g : Grown y y.drew := Grown.drew (Grown.refl y)
  ⟨grown_cellAt g h.2.2.1 h.1, grown_cellAt g h.2.2.1 h.2.1, Nat.lt_of_lt_of_le h.2.2.1 g.2.2, Grown.trans' h.2.2.2 g⟩
set_option maxHeartbeats 1000000 in
theorem peek_any (s : ByteArray) (a : Int) (b o : Nat) (w : World) (hs : w.cell? ⟨b, o, none⟩ = some (.string s)) (ha : w.cell? ⟨b, o + 1, none⟩ = some (.int .i64 a)) (hb : b < w.heap.size) (h0 : 0 ≤ a) (hm : a ≤ 9223372036854775807) (hl : (s.size : Int) ≤ 9223372036854775807) :
    Calls Tryd.prog 81 #[.pointer (some ⟨b, o, none⟩)] w fun e w' => e = .returned (.int .u8 (byteT s a)) ∧ Grown w w' := by
  go_enter Tryd.func81, Tryd.ntmps81
  have K : Stands w b o s a w := ⟨hs, ha, hb, Grown.refl w⟩
  have q0 : ∀ z : Held (Stands w b o s a), z.w.cell? ⟨b, o, none⟩ = some (.string s) := fun z => z.h.1
  have q1 : ∀ z : Held (Stands w b o s a), z.w.cell? ⟨b, o + 1, none⟩ = some (.int .i64 a) := fun z => z.h.2.1
  by_cases hlt : a < (s.size : Int)
  · have e1 : decide (a < (s.size : Int)) = true := decide_eq_true hlt
    have hn : a.toNat < s.size := by omega
    have e2 := byteT_in s a h0 hlt hn
    go_wp2
    refine wp_region_lex (Stands w b o s a) (by kernel_rfl) (by kernel_rfl) K.drew (fun hNon => ?_)
    repeat (go_big_quiet_step (skip))
    refine wpQuiet_nil ?_
    intro w5 K5
    go_wp2
    refine wp_region_lex (Stands w b o s a) (by kernel_rfl) (by kernel_rfl) K5.drew (fun hNon => ?_)
    repeat (go_big_quiet_step (skip))
    refine wpQuiet_nil ?_
    intro w6 K6
    go_wp2
    go_ret
    exact ⟨rfl, K6.2.2.2⟩
  · have e1 : decide (a < (s.size : Int)) = false := decide_eq_false hlt
    go_wp2
    refine wp_region_lex (Stands w b o s a) (by kernel_rfl) (by kernel_rfl) K.drew (fun hNon => ?_)
    repeat (go_big_quiet_step (skip))
    refine wpQuiet_nil ?_
    intro w5 K5
    go_wp2
    go_ret
    exact ⟨by rw [byteT_out s a (by omega)]; rfl, K5.2.2.2⟩
end Go.Proofs.YtbaiokfjoglmiaaDoor
end
section
namespace Go.Proofs.YtbaiokfjoglmiaaDoor
open Go.RowKit

attribute [local go_sem] u64_wrap u8_wrap BitVec.ofInt_add BitVec.ofInt_mul ofInt_sub' ofInt_N ofInt_Nw ofInt_Z ofInt_pow ofInt_shl wrap64_N mul_shl1 N_shr Z_shr u64_and u64_or N_div8 N_div16 N_div24 N_div32 N_div40 N_div48 N_div56

theorem ret64 {a b : BitVec 64} (h : a = b) : Ending.returned (.int .u64 (N a)) = .returned (.int .u64 (N b)) := by rw [h]
theorem ret0 {b : BitVec 64} (h : 0 = b) : Ending.returned (.int .u64 0) = .returned (.int .u64 (N b)) := by rw [← h]; rfl

set_option maxHeartbeats 400000 in
theorem low_N (v : BitVec 64) (b : Int) (w : World) (h1 : -9223372036854775808 ≤ b) (h2 : b ≤ 9223372036854775807) :
    Calls Tryd.prog 72 #[.int .u64 (N v), .int .i64 b] w fun e w' => e = .returned (.int .u64 (N (lowS v b))) ∧ w = w' := by
  go_enter Tryd.func72, Tryd.ntmps72
  go_wp2
  · go_ret
    exact ⟨ret0 (by unfold lowS; rw [if_pos ‹_›]), rfl⟩
  · go_ret
    exact ⟨ret64 (by unfold lowS; rw [if_neg (by omega), if_pos ‹_›]), rfl⟩
  · go_ret
    exact ⟨ret64 (by unfold lowS; rw [if_neg (by omega), if_neg (by omega)]), rfl⟩

set_option maxHeartbeats 400000 in
theorem sign_N (v : BitVec 64) (b : Int) (w : World) (h1 : -9223372036854775808 ≤ b) (h2 : b ≤ 9223372036854775807) :
    Calls Tryd.prog 75 #[.int .u64 (N v), .int .i64 b] w fun e w' => e = .returned (.int .u64 (N (signS v b))) ∧ w = w' := by
  go_enter Tryd.func75, Tryd.ntmps75
  go_wp2
  · go_ret
    exact ⟨ret0 (by unfold signS; rw [if_pos ‹_›]), rfl⟩
  · go_ret
    exact ⟨ret64 (by unfold signS; rw [if_neg (by omega), if_pos ‹_›]), rfl⟩
  · go_ret
    exact ⟨ret64 (by unfold signS; rw [if_neg (by omega), if_neg (by omega)]), rfl⟩

set_option maxHeartbeats 400000 in
theorem num_any (s : ByteArray) (w : World) (hs : s.size ≤ maxLen) :
    Calls Tryd.prog 105 #[.string s] w fun e w' => e = .returned (.int .u64 (N (numS s))) ∧ w = w' := by
  unfold maxLen at hs
  go_enter Tryd.func105, Tryd.ntmps105
  go_wp2
  all_goals
    go_loop [3, 8] (fun v i => ∃ k : Nat, k ≤ s.size ∧ k ≤ 8 ∧ i = .int .i64 k ∧ v = .int .u64 (N (numF (byteAt s) k))) (fun _ i => 8 - (intOf i).toNat)
    case atStart => exact ⟨0, by omega, by omega, rfl, rfl⟩
    case round =>
      obtain ⟨k, hk, hk8, rfl, rfl⟩ := hrel
      by_cases hlt : k < s.size ∧ k < 8
      · obtain ⟨ha, hb⟩ := hlt
        go_wp2
        go_round
        case rel => exact ⟨k + 1, by omega, by omega, by go_num, by rw [numF_succ, ← byteAt_get s k ha]⟩
        case measure => simp [intOf]; omega
      · go_wp2
        all_goals
          go_ret
          exact ⟨ret64 (numS_eq s k (by omega)), rfl⟩

end Go.Proofs.YtbaiokfjoglmiaaDoor
end
section
namespace Go.Proofs.YtbaiokfjoglmiaaDoor.Ex
open Go Go.RowKit
set_option linter.unusedVariables false
set_option maxHeartbeats 0
set_option maxRecDepth 1000000
def hkPeek : Hook := fun f args h =>
  if Nat.beq f 81 then
    match args with
    | [.pointer (some ⟨b, 0, none⟩)] =>
      match h[b]? with
      | some ⟨true, none, [.string s, .int .i64 a]⟩ => some (.int .u8 (byteT s a), [(b2i (decide (0 ≤ a) && decide (a ≤ 9223372036854775807)), 1), (b2i (decide ((s.size : Int) ≤ 9223372036854775807)), 1)])
      | _ => none
    | _ => none
  else none
theorem hkPeek_ok : HookOk2 Tryd.prog hkPeek := by
  intro f args h v cs hv hc wb k s w args' H ha
  unfold hkPeek at hv
  split at hv
  · rename_i hf
    obtain rfl := Nat.eq_of_beq_eq_true hf
    split at hv
    · rename_i b
      split at hv
      · rename_i t a hb
        cases hv
        have c1 := hc _ (List.mem_cons_self ..)
        have c2 := hc _ (List.mem_cons_of_mem _ (List.mem_singleton.2 rfl))
        have d1 : (decide (0 ≤ a) && decide (a ≤ 9223372036854775807)) = true := b2i_inj (b := true) c1
        have d2 : decide ((t.size : Int) ≤ 9223372036854775807) = true := b2i_inj (b := true) c2
        simp only [Bool.and_eq_true, decide_eq_true_eq] at d1 d2
        obtain ⟨p, hp, he, hob⟩ := H.obj b _ hb rfl
        have B := hob.2 (by simp [isM])
        obtain ⟨v0, g0, r0⟩ := B.rel 0 (.string t) rfl
        obtain ⟨v1, g1, r1⟩ := B.rel 1 (.int .i64 a) rfl
        rw [r0.eq_of_flat rfl] at g0
        rw [r1.eq_of_flat rfl] at g1
        have hlt := (H.plc b p hp).2.2
        have hl1 : args'.length = 1 := ha.1.symm
        match args', hl1, ha with
        | [u], _, ha =>
        obtain ⟨q, _, hq, rfl⟩ := (ha.uncons.1).ptr_inv
        rw [hp] at hq
        cases hq
        exact (peek_any t a p.blk p.off w (by simpa using g0) g1 hlt d1.1 d1.2 d2).mono fun e w' ⟨h1, h2⟩ => ⟨h1, Gr.of_grown h2⟩
      · cases hv
    · cases hv
  · cases hv
/-- A number's sign told on, by its contract. -/
def hkSgn : Hook := fun f args _ =>
  if Nat.beq f 75 then
    match args with
    | [.int .u64 v, .int .i64 b] => some (.int .u64 (N (signS (BitVec.ofInt 64 v) b)), [(b2i (decide (0 ≤ v) && decide (v < 18446744073709551616)), 1), (b2i (decide (-9223372036854775808 ≤ b) && decide (b ≤ 9223372036854775807)), 1)])
    | _ => none
  else none
theorem hkSgn_ok : HookOk Tryd.prog hkSgn := by
  intro f args h v cs hv hc wb k s w H
  unfold hkSgn at hv
  split at hv
  · rename_i hf
    obtain rfl := Nat.eq_of_beq_eq_true hf
    split at hv
    · rename_i x b
      cases hv
      have c1 := hc _ (List.mem_cons_self ..)
      have c2 := hc _ (List.mem_cons_of_mem _ (List.mem_singleton.2 rfl))
      have d1 : (decide (0 ≤ x) && decide (x < 18446744073709551616)) = true := b2i_inj (b := true) c1
      have d2 : (decide (-9223372036854775808 ≤ b) && decide (b ≤ 9223372036854775807)) = true := b2i_inj (b := true) c2
      simp only [Bool.and_eq_true, decide_eq_true_eq] at d1 d2
      have e : N (BitVec.ofInt 64 x) = x := by
        rw [← u64_wrap, IntKind.wrap_u64]
        omega
      have h1 := sign_N (BitVec.ofInt 64 x) b w d2.1 d2.2
      rw [e] at h1
      exact h1.mono fun e w' ⟨he, hw⟩ => ⟨he, hw ▸ Gr.refl w⟩
    · cases hv
  · cases hv
/-- The number of at most eight bytes, by its contract. -/
def hkNumD : Hook := fun f args _ =>
  if Nat.beq f 105 then
    match args with
    | [.string s] => if Nat.ble s.data.toList.length 8 then some (.int .u64 (N (numS s)), []) else none
    | _ => none
  else none
theorem hkNumD_ok : HookOk Tryd.prog hkNumD := by
  intro f args h v cs hv hc wb k s w H
  unfold hkNumD at hv
  split at hv
  · rename_i hf
    obtain rfl := Nat.eq_of_beq_eq_true hf
    split at hv
    · rename_i b
      split at hv
      · rename_i hl
        cases hv
        have h8 : b.size ≤ 8 := by
          have e : b.size = b.data.toList.length := Array.length_toList.symm
          rw [e]
          exact Nat.le_of_ble_eq_true hl
        exact (num_any b w (Nat.le_trans h8 (by unfold maxLen; decide))).mono fun e w' ⟨he, hw⟩ => ⟨he, hw ▸ Gr.refl w⟩
      · cases hv
    · cases hv
  · cases hv
end Go.Proofs.YtbaiokfjoglmiaaDoor.Ex
end
section
namespace Go.Proofs.YtbaiokfjoglmiaaDoor.Ex
open Go Go.RowKit

def inter : Cs → List Int
  | [] => []
  | c :: l => c.1 :: c.2 :: inter l
theorem inter_inj : ∀ {a b : Cs}, inter a = inter b → a = b
  | [], [], _ => rfl
  | c :: a, d :: b, h => by
    simp only [inter, List.cons.injEq] at h
    obtain ⟨h1, h2, h3⟩ := h
    rw [inter_inj h3, Prod.ext h1 h2]
  | [], _ :: _, h => by simp [inter] at h
  | _ :: _, [], h => by simp [inter] at h
noncomputable def reckonGI (P : Program) (hk : Hook) (orc : Orc) (L f : Nat) (h0 : List AO) (g : FuncId) (args : List Value) : Option (Value × List Int) :=
  match ranG P hk orc L f h0 g args with
  | some (v, _, m) => some (v, inter m.2)
  | none => none
theorem reckonI_ok {P : Program} (hng : NoNG P) {hk : Hook} (hhk : HookOk2 P hk) (orc : Orc) (L f : Nat) (h0 : List AO) {g : FuncId} {args : List Value} {v : Value} {cs : Cs} (ha : args.all flat = true) (hv : flat v = true) (h : reckonGI P hk orc L f h0 g args = some (v, inter cs))
    (he : ∀ c ∈ cs, c.1 = c.2) (w : World) (hL : Laid h0 w) : Calls P g ⟨args⟩ w fun e w' => e = .returned v ∧ Gr w w' := by
  refine reckonX_any hng hhk orc L f h0 ha hv ?_ w hL
  unfold reckonGI at h
  unfold reckonGL reckonGR
  split at h
  · rename_i v' h' m hr
    simp only [Option.some.injEq, Prod.mk.injEq] at h
    obtain ⟨rfl, h2⟩ := h
    have h3 := inter_inj h2
    try rw [hr]
    simp only [h3]
    rw [List.map_congr_left he]
  · cases h
end Go.Proofs.YtbaiokfjoglmiaaDoor.Ex
end
section
namespace Go.Proofs.YtbaiokfjoglmiaaDoor.Ex
open Go Go.RowKit
abbrev hDk : List AO := h12
end Go.Proofs.YtbaiokfjoglmiaaDoor.Ex
end
section
namespace Go.Proofs.YtbaiokfjoglmiaaDoor.Ex
open Go Go.RowKit
set_option linter.unusedVariables false
set_option maxHeartbeats 0
set_option maxRecDepth 1000000
def atN (a : Int) : Nat → Int
  | 0 => a
  | j + 1 => atN a j + 1
/-- The byte so many places behind one of a text; 0 behind its end. -/
def bt (s : ByteArray) (a : Int) (j : Nat) : Int := byteT s (atN a j)
def pkC (s : ByteArray) (a : Int) (j : Nat) : Cs := [(b2i (decide (0 ≤ atN a j) && decide (atN a j ≤ 9223372036854775807)), 1), (b2i (decide ((s.size : Int) ≤ 9223372036854775807)), 1)]
def tkC (s : ByteArray) (a : Int) (j : Nat) : Cs := pkC s a j ++ [(IntKind.i64.wrap (atN a j + 1), atN a j + 1)]
def andB (x c : Int) : Int := IntKind.u8.wrap (BitVec.ofInt 8 x &&& BitVec.ofInt 8 c).toNat
def highE (r : Int) : Int := IntKind.i64.wrap (IntKind.u8.wrap (andB r 1 * 8))
def midE (r b : Int) : Int := IntKind.i64.wrap (IntKind.u8.wrap (Int.tmod (IntKind.u8.wrap (Int.tdiv b 8)) 8 + IntKind.u8.wrap (andB r 4 * 2)))
def endE (r b : Int) : Int := IntKind.i64.wrap (IntKind.i64.wrap (Int.tmod b 8) + highE r)
def codE (r op : Int) : Int := IntKind.i64.wrap (IntKind.i64.wrap (Int.tmod op 8) + highE r)
def digE (b : Int) : Int := IntKind.i64.wrap (Int.tmod (IntKind.u8.wrap (Int.tdiv b 8)) 8)
def ubD (x : Int) : UInt8 := UInt8.ofNat x.toNat
def nmV (l : List Int) : Int := N (numS ⟨⟨l.map ubD⟩⟩)
def sgV (b : Int) (l : List Int) : Int := IntKind.i64.wrap (N (signS (BitVec.ofInt 64 (nmV l)) b))
def sgC (l : List Int) : Cs := [(b2i (decide (0 ≤ nmV l) && decide (nmV l < 18446744073709551616)), 1), (1, 1)]
def xD (k al co si : Int) (wi sh : Bool) (ds sr dp re im : Int) : List Value := [.int .i64 k, .int .i64 al, .int .i64 co, .int .i64 si, .bool wi, .bool sh, .int .i64 ds, .int .i64 sr, .int .i32 dp, .int .i32 re, .int .i64 im]
abbrev EncB := Int → Int → Int → Int → Bool → Bool → Int → Int → Int → Int → Int → List UInt8
abbrev EncE := Int → Int → Int → Int → Bool → Bool → Int → Int → Int → Int → Int → Int
/-- Encoding, by what it is known to answer. -/
def hkEn (eB : EncB) (eE : EncE) : Hook := fun f args h =>
  if Nat.beq f 13 && hasG hDk h then
    match args with
    | [.agg ⟨[.int .i64 k, .int .i64 al, .int .i64 co, .int .i64 si, .bool wi, .bool sh, .int .i64 ds, .int .i64 sr, .int .i32 dp, .int .i32 re, .int .i64 im]⟩] => some (.tuple ⟨[.string ⟨⟨eB k al co si wi sh ds sr dp re im⟩⟩, .int .i64 (eE k al co si wi sh ds sr dp re im)]⟩, [])
    | _ => none
  else none
def pfxB (x y : ByteArray) : Bool := decide ((x.size : Int) ≥ (y.size : Int)) && ((x.extract 0 y.size).data.toList == y.data.toList)
def hkPfx : Hook := fun f args _ =>
  if Nat.beq f 53 then
    match args with
    | [.string x, .string y] => some (.bool (pfxB x y), [])
    | _ => none
  else none
def hkD (eB : EncB) (eE : EncE) : Hook := orHook hkPeek (orHook (guardH hkSgn) (orHook (guardH hkNumD) (orHook (guardH (hkEn eB eE)) (guardH hkPfx))))
def dOrc (l : List (Nat × Nat × Value)) : Orc := fun f t x =>
  if Nat.beq f 82 && Nat.beq t 10 then
    (match (x[9]? : Option Value) with
    | some (.int _ n) => some (.int .i64 (n + 1))
    | _ => none)
  else if Nat.beq f 18 && Nat.beq t 34 then some .nilIface
  else (l.find? (fun p => Nat.beq p.1 f && Nat.beq p.2.1 t)).map (·.2.2)
end Go.Proofs.YtbaiokfjoglmiaaDoor.Ex
end
section
namespace Go.Proofs.YtbaiokfjoglmiaaDoor.Ex
open Go Go.RowKit
set_option linter.unusedVariables false
set_option maxHeartbeats 0
set_option maxRecDepth 1000000
def AllD (cs : Cs) : Prop := ∀ c ∈ cs, c.1 = c.2
def LfD (args : List Value) (v : Value) (cs : Cs) : Prop := AllD cs → ∀ (w : World), Laid hDk w → Calls Tryd.prog 18 ⟨args⟩ w fun e w' => e = .returned v ∧ Gr w w'
theorem lfD {hk : Hook} (hE : HookOk2 Tryd.prog hk) (orc : Orc) {args : List Value} {v : Value} {cs : Cs} (hf : (args.all flat && flat v) = true) (h : reckonGI Tryd.prog hk orc 100000 300 hDk 18 args = some (v, inter cs)) : LfD args v cs := by
  intro he w hL
  simp only [Bool.and_eq_true] at hf
  exact reckonI_ok noNG hE orc 100000 300 hDk hf.1 hf.2 h he w hL
def pOrc (b : Bool) : Orc := fun f t _ =>
  if Nat.beq f 87 && Nat.beq t 9 then some (.bool b)
  else if Nat.beq f 87 && Nat.beq t 14 then some .nilIface else none
def hkNo : Hook := fun _ _ _ => none
theorem hkNo_ok : HookOk2 Tryd.prog hkNo := by
  intro f args h v cs hv
  cases hv
theorem pfx_T (x y : ByteArray) (w : World) (h : decide ((x.size : Int) ≥ (y.size : Int)) = true) : Calls Tryd.prog 53 ⟨[.string x, .string y]⟩ w fun e w' => e = .returned (.bool ((x.extract 0 ((y.size : Int)).toNat).data.toList == y.data.toList)) ∧ Gr w w' := by
  refine reckonI_ok noNG hkNo_ok (pOrc true) 100000 300 [] (cs := [(b2i (decide ((x.size : Int) ≥ (y.size : Int))), 1), (b2i (decide (0 ≤ (y.size : Int)) && decide ((y.size : Int) ≤ (x.size : Int))), 1)]) rfl rfl (by kernel_rfl) ?_ w (Laid.nil w)
  intro c hc
  simp only [List.mem_cons, List.not_mem_nil, or_false] at hc
  have h2 := of_decide_eq_true h
  rcases hc with rfl | rfl
  · rw [h]; rfl
  · simp only [decide_eq_true (show 0 ≤ (y.size : Int) by omega), decide_eq_true (show (y.size : Int) ≤ (x.size : Int) from h2)]
    rfl
theorem pfx_F (x y : ByteArray) (w : World) (h : decide ((x.size : Int) ≥ (y.size : Int)) = false) : Calls Tryd.prog 53 ⟨[.string x, .string y]⟩ w fun e w' => e = .returned (.bool false) ∧ Gr w w' := by
  refine reckonI_ok noNG hkNo_ok (pOrc false) 100000 300 [] (cs := [(b2i (decide ((x.size : Int) ≥ (y.size : Int))), 0)]) rfl rfl (by kernel_rfl) ?_ w (Laid.nil w)
  intro c hc
  simp only [List.mem_cons, List.not_mem_nil, or_false] at hc
  rcases hc with rfl
  rw [h]; rfl
theorem pfx_any (x y : ByteArray) (w : World) : Calls Tryd.prog 53 ⟨[.string x, .string y]⟩ w fun e w' => e = .returned (.bool (pfxB x y)) ∧ Gr w w' := by
  unfold pfxB
  cases h : decide ((x.size : Int) ≥ (y.size : Int)) with
  | true => rw [Bool.true_and]; exact pfx_T x y w h
  | false => rw [Bool.false_and]; exact pfx_F x y w h
theorem hkPfx_ok : HookOk Tryd.prog hkPfx := by
  intro f args h v cs hv hc wb k s w H
  unfold hkPfx at hv
  split at hv
  · rename_i hf
    obtain rfl := Nat.eq_of_beq_eq_true hf
    split at hv
    · cases hv
      exact pfx_any _ _ w
    · cases hv
  · cases hv
theorem hkD_ok {eB : EncB} {eE : EncE} (hE : HookOk Tryd.prog (hkEn eB eE)) : HookOk2 Tryd.prog (hkD eB eE) := orHook2_ok hkPeek_ok (orHook2_ok (guard_ok hkSgn_ok) (orHook2_ok (guard_ok hkNumD_ok) (orHook2_ok (guard_ok hE) (guard_ok hkPfx_ok))))
end Go.Proofs.YtbaiokfjoglmiaaDoor.Ex
end
section
namespace Go.Proofs.YtbaiokfjoglmiaaDoor.Ex
open Go Go.RowKit
set_option linter.unusedVariables false
structure XX where
  k : Int
  al : Int
  co : Int
  si : Int
  wi : Bool
  sh : Bool
  ds : Int
  sr : Int
  dp : Int
  re : Int
  im : Int
def XX.z : XX := ⟨0, 0, 0, 0, false, false, 0, 0, 0, 0, 0⟩
def XX.cells (x : XX) : List Value := xD x.k x.al x.co x.si x.wi x.sh x.ds x.sr x.dp x.re x.im
def EncB.of (eB : EncB) (x : XX) : List UInt8 := eB x.k x.al x.co x.si x.wi x.sh x.ds x.sr x.dp x.re x.im
def EncE.of (eE : EncE) (x : XX) : Int := eE x.k x.al x.co x.si x.wi x.sh x.ds x.sr x.dp x.re x.im
def s4 (b : Nat → Int) (j : Nat) : Int := sgV 32 [b j, b (j + 1), b (j + 2), b (j + 3)]
def s1 (b : Nat → Int) (j : Nat) : Int := sgV 8 [b j]
def s8 (b : Nat → Int) (j : Nat) : Int := sgV 64 [b j, b (j + 1), b (j + 2), b (j + 3), b (j + 4), b (j + 5), b (j + 6), b (j + 7)]
def hz (h : Bool) (n : Int) : Int := bif h then 2 else n
/-- Behind a two-register byte at n: memory. -/
def dpB (b : Nat → Int) (R : Int) (n : Nat) : Int := bif (Int.tmod (endE R (b n)) 8 == 4) then IntKind.i32.wrap (s4 b (n + 2)) else IntKind.i32.wrap (s4 b (n + 1))
def xRM (b : Nat → Int) (h w : Bool) (R : Int) (n : Nat) (k al : Int) : XX := ⟨k, al, 0, hz h 0, w, false, endE R (b n), midE R (b n), 0, 0, 0⟩
def xMR (b : Nat → Int) (h w : Bool) (R : Int) (n : Nat) (k : Int) : XX := ⟨k, 0, 0, hz h 0, w, false, midE R (b n), endE R (b n), 0, 0, 0⟩
def xSd (b : Nat → Int) (h w : Bool) (R : Int) (n : Nat) (si dp : Int) : XX := ⟨14, 0, 0, hz h si, w, false, endE R (b n), midE R (b n), dp, 0, 0⟩
def xLd (b : Nat → Int) (h w : Bool) (R : Int) (n : Nat) (si dp : Int) : XX := ⟨13, 0, 0, hz h si, w, false, midE R (b n), endE R (b n), dp, 0, 0⟩
def xS (b : Nat → Int) (h w : Bool) (R : Int) (n : Nat) (si : Int) : XX := xSd b h w R n si (dpB b R n)
def xL (b : Nat → Int) (h w : Bool) (R : Int) (n : Nat) (si : Int) : XX := xLd b h w R n si (dpB b R n)
def xDg (b : Nat → Int) (h w : Bool) (R : Int) (n : Nat) (k al im : Int) : XX := ⟨k, al, 0, hz h 0, w, false, endE R (b n), 0, 0, 0, im⟩
def xC (h w : Bool) (R op : Int) (k im : Int) : XX := ⟨k, 0, 0, hz h 0, w, false, codE R op, 0, 0, 0, im⟩
def xR (h w sh : Bool) (k co re : Int) : XX := ⟨k, 0, co, hz h 0, w, sh, 0, 0, 0, re, 0⟩
def xN (h w : Bool) (k : Int) : XX := ⟨k, 0, 0, hz h 0, w, false, 0, 0, 0, 0, 0⟩
def rowB (b : Nat → Int) (h w : Bool) (R : Int) (j : Nat) : XX :=
  bif (andB (b j) 248 == 80) then xC h w R (b j) 17 0
  else bif (andB (b j) 248 == 88) then xC h w R (b j) 18 0
  else bif (andB (b j) 240 == 112) then xR h w true 16 (IntKind.i64.wrap (andB (b j) 15)) (IntKind.i32.wrap (s1 b (j + 1)))
  else bif (andB (b j) 248 == 184) then xC h w R (b j) 3 (s8 b (j + 1))
  else .z
/-- Behind no 0F: the opcode stands at j. -/
def opB (b : Nat → Int) (h w : Bool) (R : Int) (j : Nat) : XX :=
  bif (b j == 137) then (bif decide (b (j + 1) < 192) then xS b h w R (j + 1) (bif w then 8 else 4) else xRM b h w R (j + 1) 1 0)
  else bif (b j == 136) then xS b h w R (j + 1) 1
  else bif (b j == 139) then xL b h w R (j + 1) (bif w then 8 else 4)
  else bif (b j == 133) then xRM b h w R (j + 1) 6 0
  else bif (b j == 129) then xDg b h w R (j + 1) 5 (digE (b (j + 1))) (s4 b (j + 2))
  else bif (b j == 199) then xDg b h w R (j + 1) 2 0 (s4 b (j + 2))
  else bif (b j == 247) then (bif (digE (b (j + 1)) == 3) then xDg b h w R (j + 1) 7 0 0 else bif (digE (b (j + 1)) == 4) then xDg b h w R (j + 1) 8 0 0 else bif (digE (b (j + 1)) == 6) then xDg b h w R (j + 1) 9 0 0 else .z)
  else bif (b j == 193) then xDg b h w R (j + 1) 11 (digE (b (j + 1))) (s1 b (j + 2))
  else bif (b j == 211) then xDg b h w R (j + 1) 12 (digE (b (j + 1))) 0
  else bif (b j == 235) then xR h w true 15 0 (IntKind.i32.wrap (s1 b (j + 1)))
  else bif (b j == 233) then xR h w false 15 0 (IntKind.i32.wrap (s4 b (j + 1)))
  else bif (b j == 232) then xR h w false 20 0 (IntKind.i32.wrap (s4 b (j + 1)))
  else bif (b j == 195) then xN h w 19
  else bif decide (b j < 64) then (bif (Int.tmod (b j) 8 == 1) then xRM b h w R (j + 1) 4 (IntKind.i64.wrap (IntKind.u8.wrap (Int.tdiv (b j) 8))) else rowB b h w R j)
  else rowB b h w R j
/-- Behind 0F: the opcode stands at j. -/
def escB (b : Nat → Int) (h w : Bool) (R : Int) (j : Nat) : XX :=
  bif (b j == 175) then xMR b h w R (j + 1) 10
  else bif (b j == 182) then xL b h w R (j + 1) 1
  else bif (b j == 183) then xL b h w R (j + 1) 2
  else bif (b j == 174) then xN h w 21
  else bif (andB (b j) 240 == 128) then xR h w false 16 (IntKind.i64.wrap (andB (b j) 15)) (IntKind.i32.wrap (s4 b (j + 1)))
  else .z
def preB (b : Nat → Int) (h w : Bool) (R : Int) (j : Nat) : XX := bif (b j == 15) then escB b h w R (j + 1) else opB b h w R j
def rexB (b : Nat → Int) (h : Bool) (i : Nat) : XX :=
  bif (andB (b i) 240 == 64) then (bif (andB (b i) 8 != 0) then preB b h true (b i) (i + 1) else preB b h false (b i) (i + 1)) else preB b h false 0 i
/-- The instruction that bytes are read as. -/
def readB (b : Nat → Int) : XX := bif (b 0 == 102) then rexB b true 1 else rexB b false 0
/-- What decoding answers, by what is read, and by what its bytes are. -/
def decV (eB : EncB) (eE : EncE) (s : ByteArray) (a : Int) (x : XX) : Value :=
  bif (eE.of x != 0) then .tuple ⟨[.agg ⟨xD 0 0 0 0 false false 0 0 0 0 0⟩, .int .i64 0, .int .i64 110]⟩
  else bif !(pfxB (s.extract a.toNat s.size) ⟨⟨eB.of x⟩⟩) then .tuple ⟨[.agg ⟨xD 0 0 0 0 false false 0 0 0 0 0⟩, .int .i64 0, .int .i64 110]⟩
  else .tuple ⟨[.agg ⟨x.cells⟩, .int .i64 ((⟨⟨eB.of x⟩⟩ : ByteArray).size : Int), .int .i64 0]⟩
end Go.Proofs.YtbaiokfjoglmiaaDoor.Ex
end
section
namespace Go.Proofs.YtbaiokfjoglmiaaDoor.Ex
open Go Go.RowKit
set_option linter.unusedVariables false
set_option linter.unusedSimpArgs false
set_option maxHeartbeats 0
set_option maxRecDepth 1000000
def q1 (e : Bool) : Cs := [(b2i e, 1)]
def q0 (e : Bool) : Cs := [(b2i e, 0)]
def ne (x : Int) : List Int → Cs
  | [] => []
  | n :: l => (b2i (x == n), 0) :: ne x l
def stC (s : ByteArray) (a : Int) : Cs := [(b2i (decide (a < 0)), 0), (b2i (decide (a ≥ (s.size : Int))), 0)]
def yo (f t : Nat) : List (Nat × Nat × Value) := [(f, t, .bool true)]
def no (f t : Nat) : List (Nat × Nat × Value) := [(f, t, .bool false)]
def nos (f : Nat) : List Nat → List (Nat × Nat × Value)
  | [] => []
  | t :: l => (f, t, .bool false) :: nos f l
/-- A way through decoding: what must hold, which way its tests go, what is read. -/
structure Way where
  c : ByteArray → Int → (Nat → Int) → Cs
  o : List (Nat × Nat × Value)
  x : (Nat → Int) → XX
def zV : Value := .tuple ⟨[.agg ⟨xD 0 0 0 0 false false 0 0 0 0 0⟩, .int .i64 0, .int .i64 110]⟩
def tV (eB : EncB) (x : XX) : Value := .tuple ⟨[.agg ⟨x.cells⟩, .int .i64 ((⟨⟨eB.of x⟩⟩ : ByteArray).size : Int), .int .i64 0]⟩
def cE (eE : EncE) (x : XX) : Cs := [(b2i (eE.of x != 0), 1)]
def cN (eB : EncB) (eE : EncE) (s : ByteArray) (a : Int) (x : XX) (n : Int) : Cs := [(b2i (eE.of x != 0), 0), (b2i (decide (0 ≤ a) && decide (a ≤ (s.size : Int))), 1), (b2i (!(pfxB (s.extract a.toNat s.size) ⟨⟨eB.of x⟩⟩)), n)]
def oE (p k : Way) : Orc := dOrc (p.o ++ (k.o ++ yo 18 30))
def oF (p k : Way) : Orc := dOrc (p.o ++ (k.o ++ (no 18 30 ++ yo 18 37)))
def oT (p k : Way) : Orc := dOrc (p.o ++ (k.o ++ (no 18 30 ++ no 18 37)))
/-- The way ends where what is read has no bytes; where other bytes stand there; where its bytes do. -/
def WE (p k : Way) : Prop := ∀ (eB : EncB) (eE : EncE), HookOk2 Tryd.prog (hkD eB eE) → ∀ (s : ByteArray) (a : Int), LfD [.string s, .int .i64 a] zV (p.c s a (bt s a) ++ (k.c s a (bt s a) ++ cE eE (k.x (bt s a))))
def WF (p k : Way) : Prop := ∀ (eB : EncB) (eE : EncE), HookOk2 Tryd.prog (hkD eB eE) → ∀ (s : ByteArray) (a : Int), LfD [.string s, .int .i64 a] zV (p.c s a (bt s a) ++ (k.c s a (bt s a) ++ cN eB eE s a (k.x (bt s a)) 1))
def WT (p k : Way) : Prop := ∀ (eB : EncB) (eE : EncE), HookOk2 Tryd.prog (hkD eB eE) → ∀ (s : ByteArray) (a : Int), LfD [.string s, .int .i64 a] (tV eB (k.x (bt s a))) (p.c s a (bt s a) ++ (k.c s a (bt s a) ++ cN eB eE s a (k.x (bt s a)) 0))
def n0 : Way := ⟨fun s a b => stC s a ++ (pkC s a 0 ++ (q0 (b 0 == 102) ++ (pkC s a 0 ++ (q0 (andB (b 0) 240 == 64) ++ (tkC s a 0 ++ (q0 (andB 0 8 != 0))))))), no 18 11 ++ (no 18 16 ++ (no 52 10 ++ (no 52 17 ++ (no 52 24)))), fun b => XX.z⟩
def nr : Way := ⟨fun s a b => stC s a ++ (pkC s a 0 ++ (q0 (b 0 == 102) ++ (pkC s a 0 ++ (q1 (andB (b 0) 240 == 64) ++ (tkC s a 0 ++ (tkC s a 1 ++ (q0 (andB (b 0) 8 != 0)))))))), no 18 11 ++ (no 18 16 ++ (no 52 10 ++ (yo 52 17 ++ (no 52 24)))), fun b => XX.z⟩
def nw : Way := ⟨fun s a b => stC s a ++ (pkC s a 0 ++ (q0 (b 0 == 102) ++ (pkC s a 0 ++ (q1 (andB (b 0) 240 == 64) ++ (tkC s a 0 ++ (tkC s a 1 ++ (q1 (andB (b 0) 8 != 0)))))))), no 18 11 ++ (no 18 16 ++ (no 52 10 ++ (yo 52 17 ++ (yo 52 24)))), fun b => XX.z⟩
def h0 : Way := ⟨fun s a b => stC s a ++ (pkC s a 0 ++ (q1 (b 0 == 102) ++ (tkC s a 0 ++ (pkC s a 1 ++ (q0 (andB (b 1) 240 == 64) ++ (tkC s a 1 ++ (q0 (andB 0 8 != 0)))))))), no 18 11 ++ (no 18 16 ++ (yo 52 10 ++ (no 52 17 ++ (no 52 24)))), fun b => XX.z⟩
def hr : Way := ⟨fun s a b => stC s a ++ (pkC s a 0 ++ (q1 (b 0 == 102) ++ (tkC s a 0 ++ (pkC s a 1 ++ (q1 (andB (b 1) 240 == 64) ++ (tkC s a 1 ++ (tkC s a 2 ++ (q0 (andB (b 1) 8 != 0))))))))), no 18 11 ++ (no 18 16 ++ (yo 52 10 ++ (yo 52 17 ++ (no 52 24)))), fun b => XX.z⟩
def hw : Way := ⟨fun s a b => stC s a ++ (pkC s a 0 ++ (q1 (b 0 == 102) ++ (tkC s a 0 ++ (pkC s a 1 ++ (q1 (andB (b 1) 240 == 64) ++ (tkC s a 1 ++ (tkC s a 2 ++ (q1 (andB (b 1) 8 != 0))))))))), no 18 11 ++ (no 18 16 ++ (yo 52 10 ++ (yo 52 17 ++ (yo 52 24)))), fun b => XX.z⟩
end Go.Proofs.YtbaiokfjoglmiaaDoor.Ex
end
section
namespace Go.Proofs.YtbaiokfjoglmiaaDoor

/-! What the laws ask. -/
theorem low_low (v : BitVec 64) (b : Int) : lowS (lowS v b) b = lowS v b := by
  apply BitVec.eq_of_getLsbD_eq
  intro i hi
  rw [low_bit, low_bit]; cases decide ((i : Int) < b) <;> rfl
theorem sign_sign (v : BitVec 64) (b : Int) (h0 : 0 < b) (h1 : b ≤ 64) : signS (signS v b) b = signS v b := by
  apply BitVec.eq_of_getLsbD_eq
  intro i hi
  rw [sign_bit _ b i h0 hi, sign_bit v b i h0 hi, sign_bit v b (b.toNat - 1) h0 (by omega)]
  have : ((b.toNat - 1 : Nat) : Int) < b := by omega
  rw [if_pos this]
  split <;> simp
theorem low_sign (v : BitVec 64) (b : Int) (h0 : 0 < b) : lowS (signS v b) b = lowS v b := by
  apply BitVec.eq_of_getLsbD_eq
  intro i hi
  rw [low_bit, low_bit, sign_bit v b i h0 hi]
  by_cases h : (i : Int) < b <;> simp [h]
theorem sign_low (v : BitVec 64) (b : Int) (h0 : 0 < b) (h1 : b ≤ 64) : signS (lowS v b) b = signS v b := by
  apply BitVec.eq_of_getLsbD_eq
  intro i hi
  rw [sign_bit _ b i h0 hi, sign_bit v b i h0 hi, low_bit, low_bit]
  have : ((b.toNat - 1 : Nat) : Int) < b := by omega
  by_cases h : (i : Int) < b <;> simp [h, this]
theorem num_bytes (v : BitVec 64) (n : Nat) (h : n ≤ 8) : numS (bytesN v n) = lowS v (8 * n : Nat) := by
  unfold numS
  rw [bytesN_size, show min n 8 = n by omega]
  apply BitVec.eq_of_getLsbD_eq
  intro i hi
  rw [numF_bit, low_bit]
  by_cases hn : i < 8 * n
  · have hn' : (i : Int) < (8 * n : Nat) := by omega
    rw [byteAt_bytesN v n _ (by omega)]
    unfold byteOf
    rw [BitVec.getLsbD_setWidth, BitVec.getLsbD_ushiftRight]
    simp only [hi, hn, hn', decide_true, Bool.true_and, show i % 8 < 8 by omega, show 8 * (i / 8) + i % 8 = i by omega]
  · have hn' : ¬ (i : Int) < (8 * n : Nat) := by omega
    simp only [hn, hn', decide_false, Bool.false_and, Bool.and_false]
theorem num_bytesS (v : BitVec 64) (n : Nat) (h : n ≤ 8) : numS (bytesS v n) = lowS v (8 * (n : Int)) := by
  unfold bytesS
  rw [if_neg (by omega), Int.toNat_natCast, num_bytes v n h]; rfl
theorem bytesS_size (v : BitVec 64) (n : Nat) (h : n ≤ 8) : (bytesS v n).size = n := by
  unfold bytesS
  rw [if_neg (by omega), Int.toNat_natCast, bytesN_size]
theorem bytesS_small (v : BitVec 64) (n : Int) : (bytesS v n).size ≤ 8 := by
  unfold bytesS
  split
  · decide
  · rw [bytesN_size]; omega
theorem num_bytes8 (v : BitVec 64) : numS (bytesN v 8) = v := by
  rw [num_bytes v 8 (by omega)]
  unfold lowS; rw [if_neg (by decide), if_pos (by decide)]
theorem sign_neg (v : BitVec 64) (b : Int) (h0 : 0 < b) (h1 : b ≤ 64) : (Z (signS v b) < 0) ↔ v.getLsbD (b.toNat - 1) = true := by
  have h := sign_bit v b 63 h0 (by omega)
  have e : (if ((63 : Nat) : Int) < b then v.getLsbD 63 else v.getLsbD (b.toNat - 1)) = v.getLsbD (b.toNat - 1) := by
    split
    · rw [show b.toNat - 1 = 63 by omega]
    · rfl
  rw [e] at h
  rw [← h]
  unfold Z
  have e2 := BitVec.msb_eq_toInt (x := signS v b)
  rw [BitVec.msb_eq_getLsbD_last] at e2
  rw [e2]; simp
theorem shr_bit (v : BitVec 64) (k : Nat) : ((N (v >>> k)).tmod 2 = 1) ↔ v.getLsbD k = true := by
  have e : (N (v >>> k)).tmod 2 = (((v >>> k).toNat % 2 : Nat) : Int) := by
    unfold N; rw [Int.tmod_eq_emod_of_nonneg (by omega)]; omega
  rw [e]
  rw [BitVec.toNat_ushiftRight, Nat.shiftRight_eq_div_pow, BitVec.getLsbD, Nat.testBit_eq_decide_div_mod_eq]
  generalize v.toNat / 2 ^ k = q
  rw [decide_eq_true_iff]
  omega
theorem sign_eq_low (v : BitVec 64) (b : Int) (h0 : 0 < b) (h1 : b ≤ 64) (h : v.getLsbD (b.toNat - 1) = false) : signS v b = lowS v b := by
  by_cases hb : b = 64
  · rw [sign_ge64 v b (by omega)]
  · rw [sign_of_low v b h0 (by omega), if_pos h]
theorem bytes_num (s : ByteArray) (h : s.size ≤ 8) : bytesS (numS s) s.size = s := by
  unfold bytesS
  rw [if_neg (by omega), Int.toNat_natCast]
  apply ByteArray.ext
  apply Array.toList_inj.1
  rw [bytesN_list]
  have hl : s.data.toList.length = s.size := by simp
  apply List.ext_getElem
  · simp [hl]
  · intro i h1 h2
    have hi : i < s.size := by rw [← hl]; exact h2
    rw [List.getElem_map, List.getElem_range]
    have e : byteOf (numS s) i = byteAt s i := by
      unfold byteOf numS
      apply BitVec.eq_of_getLsbD_eq
      intro j hj
      rw [BitVec.getLsbD_setWidth, BitVec.getLsbD_ushiftRight, numF_bit]
      simp only [hj, show 8 * i + j < 64 by omega, show 8 * i + j < 8 * min s.size 8 by omega, show (8 * i + j) / 8 = i by omega, show (8 * i + j) % 8 = j by omega, decide_true, Bool.true_and]
    rw [e]
    unfold byteAt
    rw [List.getD_eq_getElem?_getD, List.getElem?_eq_getElem h2]
    rfl
theorem numF_congr (f g : Nat → BitVec 8) (k : Nat) (h : ∀ i, i < k → f i = g i) : numF f k = numF g k := by
  induction k with
  | zero => rfl
  | succ k ih => rw [numF_succ, numF_succ, ih (fun i hi => h i (by omega)), h k (by omega)]
theorem num_behind (v : BitVec 64) (b : ByteArray) : numS (bytesN v 8 ++ b) = v := by
  have e : numS (bytesN v 8 ++ b) = numS (bytesN v 8) := by
    unfold numS
    rw [ByteArray.size_append, bytesN_size, show min (8 + b.size) 8 = 8 by omega, show min 8 8 = 8 by omega]
    apply numF_congr
    intro i hi
    unfold byteAt
    rw [List.getD_eq_getElem?_getD, List.getD_eq_getElem?_getD]
    have hl : (bytesN v 8).data.toList.length = 8 := by simp [bytesN_list]
    have : (bytesN v 8 ++ b).data.toList = (bytesN v 8).data.toList ++ b.data.toList := by simp
    rw [this, List.getElem?_append_left (by omega)]
  rw [e, num_bytes8]
end Go.Proofs.YtbaiokfjoglmiaaDoor
end
