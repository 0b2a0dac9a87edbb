/-
  Runs that the kernel reckons, part 17: calls that lay memory of which one block is kept: told anew, behind those that are there.
-/
import Derived.Test.YtebolmfdglmpoaaEx16
namespace Go.Proofs.Ytebolmfdglmpoaa.Ex
open Go Go.RowKit

/-- One of the blocks, told by another number. -/
theorem HR.one {wb : World} {k : Nat} {s : Ren} {h : List AO} {w : World} (H : HR wb k s h w) {a q : Nat} {b : AO} (hb : h[a]? = some b) (hl : b.live = true) (hf : b.cs.all flat = true) (hw : isW b = true) (ha : k ≤ a) (hq : k ≤ q) :
    HR wb k (fun i => if i = q then s a else none) (List.replicate q dead ++ [b]) w := by
  obtain ⟨hnm, hng⟩ := isW_spec hw
  obtain ⟨p, hp, he, hob⟩ := H.obj a b hb hl
  have at' : ∀ (i : Nat) (o : AO), (List.replicate q dead ++ [b])[i]? = some o → o.live = true → i = q ∧ o = b := by
    intro i o ho hv
    by_cases hi : i < q
    · rw [List.getElem?_append_left (by simpa using hi), List.getElem?_replicate, if_pos hi] at ho
      cases ho; cases hv
    · have := (List.getElem?_eq_some_iff.1 ho).1
      simp only [List.length_append, List.length_replicate, List.length_singleton] at this
      obtain rfl : i = q := by omega
      rw [List.getElem?_append_right (by simp)] at ho
      simp at ho
      exact ⟨rfl, ho.symm⟩
  have sp : ∀ i r, (if i = q then s a else none) = some r → i = q ∧ s a = some r := by
    intro i r hr
    split at hr
    · rename_i e; exact ⟨e, hr⟩
    · cases hr
  refine ⟨H.grown, by simp; omega, fun i hi => ?_, fun i r hr => ?_, fun i o ho hv => ?_, fun i j x y r1 r2 hi hj hx hy h1 h2 e => ?_, fun g r hr hes => ?_⟩
  · simp at hi
    rw [if_neg (by omega)]
  · obtain ⟨rfl, h1⟩ := sp i r hr
    obtain ⟨_, c2, c3⟩ := H.plc a r h1
    exact ⟨fun hlt => absurd hlt (by omega), fun _ => c2 ha, c3⟩
  · obtain ⟨rfl, rfl⟩ := at' i o ho hv
    refine ⟨p, by simp only [if_true]; exact hp, he, ObjAt.block hnm ?_⟩
    have B := hob.2 hnm
    exact ⟨B.fit, B.all, B.shp, B.free, fun x v hv => by
      obtain ⟨v', g1, g2⟩ := B.rel x v hv
      have hfl := all_get hf hv
      exact ⟨v', g1, by rw [g2.eq_of_flat hfl]; exact .same hfl⟩⟩
  · obtain ⟨rfl, _⟩ := at' i x hi hx
    obtain ⟨rfl, _⟩ := at' j y hj hy
    rfl
  · obtain ⟨rfl, h1⟩ := sp g r hr
    rw [hp] at h1
    cases h1
    rw [he] at hes
    exact absurd hes hng
/-- A value's address of a block, by another number. -/
def ren1 (a b : Nat) : Value → Value
  | .slice (some x) l c => if Nat.beq x.block a then .slice (some ⟨b, x.off, x.spot⟩) l c else .slice (some x) l c
  | .pointer (some x) => if Nat.beq x.block a then .pointer (some ⟨b, x.off, x.spot⟩) else .pointer (some x)
  | v => v
def renB (a : Nat) : Value → Bool
  | .slice (some x) _ _ => Nat.beq x.block a
  | .pointer (some x) => Nat.beq x.block a
  | v => flat1 v
def renV (a b : Nat) : Value → Value
  | .tuple vs => .tuple ⟨vs.toList.map (ren1 a b)⟩
  | v => ren1 a b v
def renOk (a : Nat) : Value → Bool
  | .tuple vs => vs.toList.all (renB a)
  | v => renB a v
theorem ren1_flat {a b : Nat} {v : Value} (h : flat1 v = true) : ren1 a b v = v := by
  unfold ren1
  split
  · simp [flat1, scal] at h
  · simp [flat1, scal] at h
  · rfl
theorem ren1_ok {s t : Ren} {a b : Nat} (hst : ∀ p, s a = some p → t b = some p) {v v' : Value} (h : VR s v v') (hr : renB a v = true) : VR t (ren1 a b v) v' := by
  unfold renB at hr
  split at hr
  · rename_i x l c
    obtain ⟨p, c', h1, h2, h3, rfl⟩ := h.slice_inv
    have e := Nat.eq_of_beq_eq_true hr
    simp only [ren1, hr, if_true]
    exact VR.slice (a := ⟨b, x.off, x.spot⟩) h1 (hst p (by rw [← e]; exact h2)) h3
  · rename_i x
    obtain ⟨p, h1, h2, rfl⟩ := h.ptr_inv
    have e := Nat.eq_of_beq_eq_true hr
    simp only [ren1, hr, if_true]
    exact VR.ptr (a := ⟨b, x.off, x.spot⟩) h1 (hst p (by rw [← e]; exact h2))
  · rw [ren1_flat hr, h.eq_of_flat (flat_of_flat1 hr)]
    exact .same (flat_of_flat1 hr)
theorem renV_ok {s t : Ren} {a b : Nat} (hst : ∀ p, s a = some p → t b = some p) {v v' : Value} (h : VR s v v') (hr : renOk a v = true) : VR t (renV a b v) v' := by
  unfold renOk at hr
  split at hr
  · rename_i vs
    obtain ⟨vs⟩ := vs
    obtain ⟨ys, rfl, hl⟩ := h.tuple_inv
    refine VR.tuple (by simpa using hl.1) fun i x y hx hy => ?_
    rw [List.getElem?_map] at hx
    cases hz : vs[i]? with
    | none => rw [hz] at hx; cases hx
    | some z =>
      rw [hz] at hx
      simp only [Option.map_some, Option.some.injEq] at hx
      subst hx
      exact ren1_ok hst (hl.2 i z y hz hy) (all_get hr hz)
  · rename_i hne
    have e : renV a b v = ren1 a b v := by
      unfold renV
      split
      · rename_i vs; exact absurd rfl (hne vs)
      · rfl
    rw [e]
    exact ren1_ok hst h hr
/-- The one block that is kept of those that a call lays: its value, with that block told by the next number. -/
noncomputable def laysO (P : Program) (hk : Hook3) (orc : Orc) (L f : Nat) (a : Nat) (h0 : List AO) (g : FuncId) (args : List Value) : Option (Value × AO × Cs) :=
  match callA P ⟨ex P (aOp P) (drawE P) hk orc accQ L f, hk, fun _ _ => none, accQ⟩ g args h0 with
  | some (v, h, m) =>
    match h[a]? with
    | some b => if quietB h0.length m.1 && (Nat.ble h0.length a && (b.live && (b.cs.all flat && (isW b && renOk a v)))) then some (renV a h0.length v, b, m.2) else none
    | none => none
  | none => none
theorem laysO_ok {P : Program} (hng : NoNG P) {hk : Hook3} (hhk : HookOk3 P hk) {orc : Orc} {L f a : Nat} {h0 : List AO} {g : FuncId} {args args' : List Value} {v : Value} {b : AO} {cs : Cs} (hr : laysO P hk orc L f a h0 g args = some (v, b, cs)) (hc : ∀ c ∈ cs, c.1 = c.2)
    {wb : World} {k : Nat} {s : Ren} {h : List AO} {w : World} (hq : h.length = h0.length) (hs : subH h0 h = true) (H : HR wb k s h w) (ha : LR s args args') : Calls P g ⟨args'⟩ w (CallPost wb k s v (h ++ [b])) := by
  unfold laysO at hr
  split at hr
  · rename_i v1 h1 m hca
    split at hr
    · rename_i b1 hb1
      split at hr
      · rename_i hcond
        cases hr
        simp only [Bool.and_eq_true] at hcond
        obtain ⟨hq3, hga, hlive, hfl, hwr, hrn⟩ := hcond
        have hga := Nat.le_of_ble_eq_true hga
        have HP := (H.sub hs hq).here
        refine (callA_ok (ex_ok accQ_eq hng (aOp_ok P hng) (drawE_ok P) (drawE_low P) hhk L f _) hca (wb := w) (k := h0.length) ⟨quietB_ok hq3, hc⟩ ha HP).mono ?_
        rintro e w' ⟨s', v', rfl, _, H1, hvr⟩
        have HO := H1.one hb1 hlive hfl hwr hga (Nat.le_refl h0.length)
        have HD := H.pad 1
        have hr1 : [b].all (refO fun x => (fun _ => false) x || (decide (h0.length ≤ x) && decide (x < h0.length + [b].length))) = true := by
          have key : ∀ (f : Nat → Bool) (n : Nat) (u : Value), flat u = true → refF f (n + 3) u = true := by
            intro f n u hu
            have sc : ∀ (m : Nat) (u : Value), scal u = true → refF f (m + 1) u = true := by
              intro m u hu
              cases u with
              | pointer a => cases a <;> first | exact hu | (simp [scal] at hu)
              | slice a _ _ => cases a <;> first | exact hu | (simp [scal] at hu)
              | map a => cases a <;> first | exact hu | (simp [scal] at hu)
              | agg _ => simp [scal] at hu
              | tuple _ => simp [scal] at hu
              | iface _ _ => simp [scal] at hu
              | func g x y =>
                cases g <;> first | (simp [scal] at hu; done) | skip
                simp only [scal, Bool.and_eq_true, List.isEmpty_iff] at hu
                simp [refF, hu.1, hu.2]
              | _ => exact hu
            have f1 : ∀ (m : Nat) (u : Value), flat1 u = true → refF f (m + 2) u = true := by
              intro m u hu
              cases u with
              | agg xs => exact List.all_eq_true.2 fun x hx => sc m x (List.all_eq_true.1 (by simpa [flat1] using hu) x hx)
              | _ => exact sc (m + 1) _ (by simpa [flat1] using hu)
            cases u with
            | tuple xs => exact List.all_eq_true.2 fun x hx => f1 n x (List.all_eq_true.1 (by simpa [flat] using hu) x hx)
            | iface t x => exact f1 n x (by simpa [flat] using hu)
            | _ => exact f1 (n + 1) _ (by simpa [flat] using hu)
          simp only [List.all_cons, List.all_nil, Bool.and_true, refO, Bool.or_eq_true]
          exact .inr (List.all_eq_true.2 fun x hx => key _ 3 x (List.all_eq_true.1 hfl x hx))
        obtain ⟨H2, hle2, hok⟩ := HD.layNew (q := h0.length) (bs := [b]) (by simp only [List.length_append, List.length_replicate, List.length_singleton]; omega) (by have := H.kle; omega) (fun x hx1 _ => H.dom x (by omega))
          HO (fun x o ho => by
            cases x with
            | zero =>
              simp only [List.getElem?_cons_zero, Option.some.injEq] at ho
              subst ho
              rw [List.getElem?_append_right (by simp)]
              simp
            | succ x => simp at ho) (old := fun _ => false) (fun x hx => by cases hx) (fun x hx => by cases hx) hr1
        refine ⟨_, v', rfl, hle2, ?_, renV_ok (fun p hp => ?_) hvr hrn⟩
        · have e := layL_end (h := h) (new := [b])
          rw [hq] at e
          rw [← e]
          exact H2
        · simp only [List.length_singleton]
          rw [if_pos (by omega)]
          simpa using hp
      · cases hr
    · cases hr
  · cases hr
theorem layO_mk {P : Program} (hng : NoNG P) {hk : Hook3} (hhk : HookOk3 P hk) (a : Nat) (e : LayS) {b : AO} (hn : e.new = [b]) {cs : Cs} (hr : laysO P hk noOrc 100000 300 a e.h0 e.f e.args = some (e.v, b, cs)) (hc : cs.map (·.1) = cs.map (·.2)) : LaySOk P e :=
  fun _ _ _ _ _ _ hq hs H ha => by rw [hn]; exact laysO_ok hng hhk hr (map_same hc) hq hs H ha
end Go.Proofs.Ytebolmfdglmpoaa.Ex
