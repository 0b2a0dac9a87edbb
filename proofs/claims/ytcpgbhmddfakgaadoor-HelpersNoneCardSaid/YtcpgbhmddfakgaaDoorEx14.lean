/-
  Runs that the kernel reckons, part 14: a run that reads a package's variables, as the program's text lays them.
-/
import Derived.Test.YtcpgbhmddfakgaaDoorEx13
namespace Go.Proofs.YtcpgbhmddfakgaaDoor.Ex
open Go Go.RowKit

/-- The first blocks: a package's variables; those that are not spoken of are given up. -/
def placeG (h0 : List AO) : Ren := fun g =>
  match h0[g]? with
  | some o => if o.live then some ⟨g, 0, o.cs.length, some GM⟩ else none
  | none => none
def Laid (h0 : List AO) (w : World) : Prop :=
  ∀ (g : Nat) (o : AO), h0[g]? = some o → o.live = true → o.es = some GM ∧ o.cs.all flat = true ∧ ∃ t fr, w.heap[g]? = some (.cells ⟨o.cs⟩ t fr)
theorem HR.start {h0 : List AO} {w : World} (hL : Laid h0 w) : HR w h0.length (placeG h0) h0 w := by
  have pl : ∀ g p, placeG h0 g = some p → ∃ o, h0[g]? = some o ∧ o.live = true ∧ p = ⟨g, 0, o.cs.length, some GM⟩ := by
    intro g p hp
    unfold placeG at hp
    split at hp
    · rename_i o ho
      split at hp
      · rename_i hl; cases hp; exact ⟨o, ho, hl, rfl⟩
      · cases hp
    · cases hp
  have lt : ∀ g o, h0[g]? = some o → o.live = true → g < w.heap.size := by
    intro g o ho hl
    obtain ⟨_, _, t, fr, h⟩ := hL g o ho hl
    exact (Array.getElem?_eq_some_iff.1 h).1
  refine ⟨Gr.refl w, Nat.le_refl _, fun i hi => ?_, fun i p hp => ?_, fun i o ho hl => ?_, fun i j a b p q hi hj _ _ hp hq e => ?_, fun g p hp _ => ?_⟩
  · unfold placeG
    rw [List.getElem?_eq_none hi]
  · obtain ⟨o, ho, hl, rfl⟩ := pl i p hp
    have := lt i o ho hl
    have hlt := (List.getElem?_eq_some_iff.1 ho).1
    exact ⟨fun _ => this, fun h => absurd h (by omega), this⟩
  · obtain ⟨he, hf, t, fr, hh⟩ := hL i o ho hl
    have hc : ∀ j, w.cell? ⟨i, j, none⟩ = o.cs[j]? := by
      intro j
      unfold World.cell?
      simp only [hh]
      simp
    refine ⟨⟨i, 0, o.cs.length, some GM⟩, by unfold placeG; simp [ho, hl], he.symm, ObjAt.block (by unfold isM; rw [he]; rfl) ⟨by simp, fun j hj => ?_, ⟨t, ?_⟩, fun hg => absurd rfl hg, fun j v hv => ⟨v, ?_, .same (all_get hf hv)⟩⟩⟩
    · rw [hc]
      simpa using hj
    · simp [World.shape?, hh]
    · rw [hc, Nat.zero_add]; exact hv
  · obtain ⟨_, _, _, rfl⟩ := pl i p hp
    obtain ⟨_, _, _, rfl⟩ := pl j q hq
    exact e
  · obtain ⟨_, _, _, rfl⟩ := pl g p hp
    exact ⟨rfl, rfl⟩
def ranG (P : Program) (hk : Hook) (orc : Orc) (L f : Nat) (h0 : List AO) (g : FuncId) (args : List Value) : Option (Value × List AO × Mk) :=
  match callA P ⟨ex P (aOp P) (drawE P) hk orc L f, hk⟩ g args h0 with
  | some (v, h, m) => if quietB h0.length m.1 then some (v, h, m) else none
  | none => none
def reckonGL (P : Program) (hk : Hook) (orc : Orc) (L f : Nat) (h0 : List AO) (g : FuncId) (args : List Value) : Option (Value × List Int) :=
  match ranG P hk orc L f h0 g args with
  | some (v, _, m) => some (v, m.2.map (·.1))
  | none => none
def reckonGR (P : Program) (hk : Hook) (orc : Orc) (L f : Nat) (h0 : List AO) (g : FuncId) (args : List Value) (v : Value) : Option (Value × List Int) :=
  match ranG P hk orc L f h0 g args with
  | some (_, _, m) => some (v, m.2.map (·.2))
  | none => some (v, [])
/-- A run with tests that are not reckoned: 'orc' says which way each goes; what it must hold for is 'ls = rs'. -/
theorem reckonG_any {P : Program} (hng : NoNG P) {hk : Hook} (hhk : HookOk P hk) (orc : Orc) (L f : Nat) (h0 : List AO) {g : FuncId} {args : List Value} {v : Value} (ha : args.all flat = true) (hv : flat v = true) (h : reckonGL P hk orc L f h0 g args = reckonGR P hk orc L f h0 g args v) (w : World) (hL : Laid h0 w) :
    Calls P g ⟨args⟩ w fun e w' => e = .returned v ∧ Gr w w' := by
  unfold reckonGL reckonGR ranG at h
  cases hc : callA P ⟨ex P (aOp P) (drawE P) hk orc L f, hk⟩ g args h0 with
  | none => rw [hc] at h; cases h
  | some r =>
    obtain ⟨v', h', m⟩ := r
    rw [hc] at h
    simp only at h
    split at h
    · rename_i r2 v2 h2 m2 hm2
      split at hm2
      · rename_i hq
        cases hm2
        simp only [Option.some.injEq, Prod.mk.injEq] at h
        obtain ⟨rfl, h3⟩ := h
        refine (callA_ok (ex_ok hng (aOp_ok P hng) (drawE_ok P) (drawE_low P) hhk L f) hc (wb := w) (k := h0.length) (s := placeG h0) ⟨quietB_ok hq, map_same h3⟩ (LR.ofFlat ha) (HR.start hL)).mono ?_
        rintro e w' ⟨s', u, rfl, _, H, hvr⟩
        rw [hvr.eq_of_flat hv]
        exact ⟨rfl, H.grown⟩
      · cases hm2
    · cases h
theorem reckonG_ok {P : Program} (hng : NoNG P) {hk : Hook} (hhk : HookOk P hk) (L f : Nat) (h0 : List AO) {g : FuncId} {args : List Value} {v : Value} (ha : args.all flat = true) (hv : flat v = true) (h : reckonGL P hk noOrc L f h0 g args = reckonGR P hk noOrc L f h0 g args v) (w : World) (hL : Laid h0 w) :
    Calls P g ⟨args⟩ w fun e w' => e = .returned v ∧ Gr w w' := reckonG_any hng hhk noOrc L f h0 ha hv h w hL
theorem reckonS_ok {P : Program} (hng : NoNG P) {hk : Hook} (hhk : HookOk P hk) (orc : Orc) (L f : Nat) (h0 : List AO) {g : FuncId} {args : List Value} {v : Value} {ls rs : List Int} (ha : args.all flat = true) (hv : flat v = true) (h1 : reckonGL P hk orc L f h0 g args = some (v, ls))
    (h2 : reckonGR P hk orc L f h0 g args v = some (v, rs)) (he : ls = rs) (w : World) (hL : Laid h0 w) : Calls P g ⟨args⟩ w fun e w' => e = .returned v ∧ Gr w w' :=
  reckonG_any hng hhk orc L f h0 ha hv (h1.trans (he ▸ h2.symm)) w hL
/-- One variable, at its place. -/
theorem Laid.one {g0 : Nat} {cs : List Value} {w : World} (hf : cs.all flat = true) (h : ∃ t fr, w.heap[g0]? = some (.cells ⟨cs⟩ t fr)) : Laid (List.replicate g0 dead ++ [⟨true, some GM, cs⟩]) w := by
  intro g o ho hl
  by_cases e : g < g0
  · rw [List.getElem?_append_left (by simpa using e), List.getElem?_replicate, if_pos e] at ho
    cases ho
    cases hl
  · have h2 := (List.getElem?_eq_some_iff.1 ho).1
    simp only [List.length_append, List.length_replicate, List.length_singleton] at h2
    obtain rfl : g = g0 := by omega
    rw [List.getElem?_append_right (by simp)] at ho
    simp only [List.length_replicate, Nat.sub_self, List.getElem?_cons_zero, Option.some.injEq] at ho
    subst ho
    exact ⟨rfl, hf, h⟩
theorem Laid.nil (w : World) : Laid [] w := fun g o h => by simp at h
theorem Laid.gr {h0 : List AO} {w w' : World} (h : Laid h0 w) (g : Gr w w') : Laid h0 w' := fun i o ho hl =>
  let ⟨a, b, t, fr, c⟩ := h i o ho hl
  ⟨a, b, t, fr, (g.2.1 i (Array.getElem?_eq_some_iff.1 c).1).trans c⟩
end Go.Proofs.YtcpgbhmddfakgaaDoor.Ex
