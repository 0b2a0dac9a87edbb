/-
  Calls that hand in a slice, reckoned already: a table of them as a hook.
-/
import Derived.Test.YtafegjmaldbbiaaMemo
namespace Go.Proofs.Ytafegjmaldbbiaa.Ex
open Go Go.RowKit
theorem orHook2_ok {P : Program} {a b : Hook} (ha : HookOk2 P a) (hb : HookOk2 P b) : HookOk2 P (orHook a b) := by
  intro f args h v cs hv
  unfold orHook at hv
  split at hv
  · rename_i r hr
    cases hv
    exact ha f args h v cs hr
  · exact hb f args h v cs hv
/-- Some blocks of a memory, as a memory of their own. -/
theorem HR.pick {wb : Wb} {k : Nat} {s : Ren} {h : List AO} {w : World} (H : HR wb k s h w) (h1 : List AO) (f : Nat → Nat)
    (hf : ∀ (i : Nat) (o : AO), h1[i]? = some o → o.live = true → ∃ o', h[f i]? = some o' ∧ o'.live = true ∧ o'.es = o.es ∧ o'.cs = o.cs ∧ o.cs.all flat = true ∧ isM o = false)
    (hinj : ∀ (i j : Nat) (a b : AO), h1[i]? = some a → h1[j]? = some b → a.live = true → b.live = true → f i = f j → i = j)
    (hg : ∀ (i : Nat) (o : AO), h1[i]? = some o → o.live = true → o.es = some GM → f i = i) :
    HR w h1.length (fun i => match h1[i]? with | some o => if o.live then s (f i) else none | none => none) h1 w := by
  have inv : ∀ i p, (match h1[i]? with | some o => if o.live then s (f i) else none | none => none) = some p → ∃ o, h1[i]? = some o ∧ o.live = true ∧ s (f i) = some p := by
    intro i p hp
    cases ho : h1[i]? with
    | none => rw [ho] at hp; cases hp
    | some o =>
      rw [ho] at hp
      simp only at hp
      split at hp
      · rename_i hl; exact ⟨o, rfl, hl, hp⟩
      · cases hp
  refine ⟨GrB.refl w _, Nat.le_refl _, fun i hi => by rw [List.getElem?_eq_none hi], fun i p hp => ?_, fun i o ho hl => ?_, fun i j a b p q hi hj ha hb hp hq e => ?_, fun g p hp hes => ?_⟩
  · obtain ⟨o, ho, hl, hs⟩ := inv i p hp
    have := (H.plc _ p hs).2.2
    have hi := (List.getElem?_eq_some_iff.1 ho).1
    exact ⟨fun _ => ⟨this, fun f => f⟩, fun h => absurd h (by omega), this⟩
  · obtain ⟨o', h1', h2, h3, h4, h5, h6⟩ := hf i o ho hl
    obtain ⟨p, hp, he, hb⟩ := H.obj _ o' h1' h2
    have hm : isM o' = false := by unfold isM at h6 ⊢; rw [h3]; exact h6
    have B := hb.2 hm
    refine ⟨p, by rw [ho]; simp only [hl, if_true]; exact hp, by rw [he, h3], ObjAt.block h6 ?_⟩
    rw [h4] at B
    exact ⟨B.fit, B.all, B.shp, B.free, fun x v hv => by
      obtain ⟨v', g1, g2⟩ := B.rel x v hv
      have hfl := all_get h5 hv
      exact ⟨v', g1, by rw [g2.eq_of_flat hfl]; exact .same hfl⟩⟩
  · obtain ⟨a', i1, i2, _, _, _, _⟩ := hf i a hi ha
    obtain ⟨b', j1, j2, _, _, _, _⟩ := hf j b hj hb
    obtain ⟨_, _, _, hs1⟩ := inv i p hp
    obtain ⟨_, _, _, hs2⟩ := inv j q hq
    exact hinj i j a b hi hj ha hb (H.sep _ _ a' b' p q i1 j1 i2 j2 hs1 hs2 e)
  · obtain ⟨o, ho, hl, hs⟩ := inv g p hp
    obtain ⟨o', h1', h2, h3, _, _, _⟩ := hf g o ho hl
    obtain ⟨p', hp', he, _⟩ := H.obj _ o' h1' h2
    rw [hs] at hp'
    cases hp'
    have e := hg g o ho hl (by rw [← h3, ← he, hes])
    rw [e] at hs
    exact H.gl g p hs hes
/-- A call: flat arguments ahead, and a slice of some cells behind; what it comes to. -/
structure SlCall where
  pre : List Value
  cs : List Value
  len : Nat
  v : Value
def slHeap (h0 : List AO) (e : SlCall) : List AO := h0 ++ [⟨true, none, e.cs⟩]
def slArgs (h0 : List AO) (e : SlCall) : List Value := e.pre ++ [.slice (some ⟨h0.length, 0, none⟩) e.len e.len]
def SlOk (P : Program) (h0 : List AO) (g : FuncId) (e : SlCall) : Prop :=
  ∀ (w : World) (s : Ren) (args' : List Value), HR w (slHeap h0 e).length s (slHeap h0 e) w → LR s (slArgs h0 e) args' → Calls P g ⟨args'⟩ w fun x w' => x = .returned e.v ∧ Gr w w'
noncomputable def reckonSl (P : Program) (hk : Hook) (L f : Nat) (h0 : List AO) (g : FuncId) (e : SlCall) : Option (Value × Cs) :=
  match callA P ⟨ex P (aOp P) (drawE P) (liftH hk) noOrc accQ L f, liftH hk, fun _ _ => none, accQ⟩ g (slArgs h0 e) (slHeap h0 e) with
  | some (v, _, m) => if quietB (slHeap h0 e).length m.1 then some (v, m.2) else none
  | none => none
theorem reckonSl_ok {P : Program} (hng : NoNG P) {hk : Hook} (hhk : HookOk2 P hk) (L f : Nat) (h0 : List AO) {g : FuncId} {e : SlCall} {cs : Cs} (hv : flat e.v = true) (h : reckonSl P hk L f h0 g e = some (e.v, cs)) (hc : cs.map (·.1) = cs.map (·.2)) : SlOk P h0 g e := by
  intro w s args' H ha
  unfold reckonSl at h
  split at h
  · rename_i v h' m hr
    split at h
    · rename_i hq
      simp only [Option.some.injEq, Prod.mk.injEq] at h
      obtain ⟨rfl, rfl⟩ := h
      refine (callA_ok (ex_ok accQ_eq hng (aOp_ok P hng) (drawE_ok P) (drawE_low P) (lift_ok hhk) L f _) hr ⟨quietB_ok hq, map_same hc⟩ ha H).mono ?_
      rintro x w' ⟨s', v', rfl, _, H', hvr⟩
      rw [hvr.eq_of_flat hv]
      exact ⟨rfl, H'.grown.gr⟩
    · cases h
  · cases h
/-- Does a call hand in that? -/
def slHit (h : List AO) (e : SlCall) (args : List Value) : Option Nat :=
  match args.drop e.pre.length with
  | [.slice (some a) l c] =>
    if eqML (args.take e.pre.length) e.pre && Nat.beq a.off 0 && a.spot.isNone && Nat.beq l e.len && Nat.beq c e.len then
      match h[a.block]? with
      | some o => if o.live && o.es.isNone && eqL o.cs e.cs then some a.block else none
      | none => none
    else none
  | _ => none
def slFind (h : List AO) : List SlCall → List Value → Option SlCall
  | [], _ => none
  | e :: r, args => if (slHit h e args).isSome then some e else slFind h r args
def slHook (h0 : List AO) (g : FuncId) (t : List SlCall) : Hook := fun f args h =>
  if Nat.beq f g then
    match slFind h t args with
    | some e => if hasG h0 h then some (e.v, []) else none
    | none => none
  else none
theorem slFind_spec {h : List AO} : ∀ {t : List SlCall} {args : List Value} {e : SlCall}, slFind h t args = some e → e ∈ t ∧ ∃ b, slHit h e args = some b
  | [], _, _, hh => by cases hh
  | q :: r, args, e, hh => by
    simp only [slFind] at hh
    split at hh
    · rename_i hi
      cases hh
      exact ⟨by simp, Option.isSome_iff_exists.1 hi⟩
    · obtain ⟨h1, h2⟩ := slFind_spec hh
      exact ⟨List.mem_cons_of_mem _ h1, h2⟩
theorem slHook_ok {P : Program} {h0 : List AO} (hf : h0.all (fun o => !o.live || (match o.es with | some e => Nat.beq e GM | none => false) && o.cs.all flat) = true) {g : FuncId} {t : List SlCall}
    (hpre : t.all (fun e => e.pre.all flat && e.cs.all flat) = true) (ht : ∀ e ∈ t, SlOk P h0 g e) : HookOk2 P (slHook h0 g t) := by
  intro f args h v cs hv _ wb k s w args' H ha
  unfold slHook at hv
  split at hv
  · rename_i hc
    obtain rfl := Nat.eq_of_beq_eq_true hc
    split at hv
    · rename_i e he
      split at hv
      · rename_i hg
        cases hv
        obtain ⟨hmem, b, hb⟩ := slFind_spec he
        have hfl := List.all_eq_true.1 hpre e hmem
        simp only [Bool.and_eq_true] at hfl
        unfold slHit at hb
        split at hb
        · rename_i a l c hd
          split at hb
          · rename_i hq
            simp only [Bool.and_eq_true] at hq
            obtain ⟨⟨⟨⟨q1, q2⟩, q3⟩, q4⟩, q5⟩ := hq
            split at hb
            · rename_i o ho
              split at hb
              · rename_i hlo
                simp only [Bool.and_eq_true] at hlo
                obtain ⟨⟨l1, l2⟩, l3⟩ := hlo
                cases hb
                have hocs := eqL_ok l3
                have hoes : o.es = none := Option.isNone_iff_eq_none.1 l2
                have hargs : args = e.pre ++ [.slice (some ⟨a.block, 0, none⟩) e.len e.len] := by
                  have h1 := List.take_append_drop e.pre.length args
                  rw [hd, eqML_ok q1] at h1
                  obtain ⟨ab, ao, asp⟩ := a
                  obtain rfl : ao = 0 := Nat.eq_of_beq_eq_true q2
                  obtain rfl : asp = none := Option.isNone_iff_eq_none.1 q3
                  obtain rfl := Nat.eq_of_beq_eq_true q4
                  obtain rfl := Nat.eq_of_beq_eq_true q5
                  exact h1.symm
                obtain ⟨ab, ao, asp⟩ := a
                simp only at ho hargs
                obtain ⟨pb, hpb, hpe, _⟩ := H.obj ab o ho l1
                have glo : ∀ (i : Nat) (q : AO), h0[i]? = some q → q.live = true → q.es = some GM ∧ q.cs.all flat = true := by
                  intro i q hq hl
                  have h1 := List.all_eq_true.1 hf q (List.mem_of_getElem? hq)
                  simp only [hl, Bool.not_true, Bool.false_or, Bool.and_eq_true] at h1
                  refine ⟨?_, h1.2⟩
                  cases hes : q.es with
                  | none => rw [hes] at h1; cases h1.1
                  | some z => rw [hes] at h1; rw [Nat.eq_of_beq_eq_true h1.1]
                have cases1 : ∀ (i : Nat) (q : AO), (slHeap h0 e)[i]? = some q → (i < h0.length ∧ h0[i]? = some q) ∨ (i = h0.length ∧ q = ⟨true, none, e.cs⟩) := by
                  intro i q hq
                  unfold slHeap at hq
                  by_cases hi : i < h0.length
                  · rw [List.getElem?_append_left hi] at hq; exact .inl ⟨hi, hq⟩
                  · have h2 := (List.getElem?_eq_some_iff.1 hq).1
                    simp only [List.length_append, List.length_singleton] at h2
                    obtain rfl : i = h0.length := by omega
                    rw [List.getElem?_append_right (by omega)] at hq
                    simp at hq
                    exact .inr ⟨rfl, hq.symm⟩
                have HP := H.pick (slHeap h0 e) (fun i => if i < h0.length then i else ab)
                  (fun i q hq hl => by
                    rcases cases1 i q hq with ⟨hi, h2⟩ | ⟨rfl, rfl⟩
                    · obtain ⟨p, p1, p2, p3, p4⟩ := hasG_at hg i q h2 hl
                      obtain ⟨g1, g2⟩ := glo i q h2 hl
                      exact ⟨p, by simp only [hi, if_true]; exact p1, p2, by rw [p3, g1], p4, g2, by unfold isM; rw [g1]; rfl⟩
                    · exact ⟨o, by simp only [Nat.lt_irrefl, if_false]; exact ho, l1, hoes, hocs, hfl.2, rfl⟩)
                  (fun i j x y hi hj hx hy hij => by
                    rcases cases1 i x hi with ⟨i1, i2⟩ | ⟨rfl, rfl⟩
                    · rcases cases1 j y hj with ⟨j1, j2⟩ | ⟨rfl, rfl⟩
                      · simpa [i1, j1] using hij
                      · exfalso
                        obtain ⟨p, p1, _, p3, _⟩ := hasG_at hg i x i2 hx
                        simp only [i1, if_true, Nat.lt_irrefl, if_false] at hij
                        rw [hij, ho] at p1
                        cases p1
                        rw [hoes] at p3
                        cases p3
                    · rcases cases1 j y hj with ⟨j1, j2⟩ | ⟨rfl, rfl⟩
                      · exfalso
                        obtain ⟨p, p1, _, p3, _⟩ := hasG_at hg j y j2 hy
                        simp only [j1, if_true, Nat.lt_irrefl, if_false] at hij
                        rw [← hij, ho] at p1
                        cases p1
                        rw [hoes] at p3
                        cases p3
                      · rfl)
                  (fun i q hq hl hes => by
                    rcases cases1 i q hq with ⟨hi, h2⟩ | ⟨rfl, rfl⟩
                    · simp only [hi, if_true]
                    · cases hes)
                refine ht e hmem w _ args' HP ?_
                rw [hargs] at ha
                refine ⟨by unfold slArgs; rw [← ha.1]; simp, fun i x y hx hy => ?_⟩
                unfold slArgs at hx
                by_cases hi : i < e.pre.length
                · rw [List.getElem?_append_left hi] at hx
                  have h3 := ha.2 i x y (by rw [List.getElem?_append_left hi]; exact hx) hy
                  have hxf := all_get hfl.1 hx
                  rw [h3.eq_of_flat hxf]
                  exact .same hxf
                · have h2 := (List.getElem?_eq_some_iff.1 hx).1
                  simp only [List.length_append, List.length_singleton] at h2
                  obtain rfl : i = e.pre.length := by omega
                  rw [List.getElem?_append_right (by omega)] at hx
                  simp at hx
                  subst hx
                  have h3 := ha.2 e.pre.length (.slice (some ⟨ab, 0, none⟩) e.len e.len) y (by rw [List.getElem?_append_right (by omega)]; simp) hy
                  obtain ⟨p, c', _, hp, hcap, rfl⟩ := h3.slice_inv
                  refine VR.slice (a := ⟨h0.length, 0, none⟩) rfl ?_ hcap
                  show (match (slHeap h0 e)[h0.length]? with | some o => if o.live then s (if h0.length < h0.length then h0.length else ab) else none | none => none) = some p
                  have e1 : (slHeap h0 e)[h0.length]? = some ⟨true, none, e.cs⟩ := by unfold slHeap; rw [List.getElem?_append_right (by omega)]; simp
                  rw [e1]
                  simp only [if_true, Nat.lt_irrefl, if_false]
                  exact hp
              · cases hb
            · cases hb
          · cases hb
        · cases hb
      · cases hv
    · cases hv
  · cases hv
end Go.Proofs.Ytafegjmaldbbiaa.Ex
