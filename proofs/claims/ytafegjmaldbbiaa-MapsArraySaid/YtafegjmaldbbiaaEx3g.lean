/-
  Runs that the kernel reckons: maps, interface values, calls of their methods.
-/
import Derived.Test.YtafegjmaldbbiaaEx3f
import Derived.MapKept
namespace Go.Proofs.Ytafegjmaldbbiaa.Ex
open Go Go.RowKit

/-! Entries. -/
theorem VR.keyOf {s : Ren} {x y : Value} (h : VR s x y) : VR s (keyOf x) (keyOf y) := by
  cases x with
  | tuple vs =>
    obtain ⟨xs⟩ := vs
    obtain ⟨ys, rfl, hl⟩ := h.tuple_inv
    exact hl.getD 0 rfl
  | _ =>
    cases h with
    | same _ => exact .same rfl
    | _ => exact .same rfl
theorem VR.valOf {s : Ren} {x y : Value} (h : VR s x y) : VR s (valOf x) (valOf y) := by
  cases x with
  | tuple vs =>
    obtain ⟨xs⟩ := vs
    obtain ⟨ys, rfl, hl⟩ := h.tuple_inv
    exact hl.getD 1 rfl
  | _ =>
    cases h with
    | same _ => exact .same rfl
    | _ => exact .same rfl
theorem ents_length : ∀ (n : Nat) (l : List Value), (ents n l).length = l.length
  | _, [] => rfl
  | n, x :: r => by simp [ents, ents_length (n + 1) r]
theorem ents_append : ∀ (n : Nat) (l r : List Value), ents n (l ++ r) = ents n l ++ ents (n + l.length) r
  | n, [], r => by simp [ents]
  | n, x :: l, r => by
    simp only [List.cons_append, ents, ents_append (n + 1) l r, List.length_cons]
    rw [show n + 1 + l.length = n + (l.length + 1) by omega]
theorem ents_get : ∀ (n : Nat) (l : List Value) (i : Nat), (ents n l)[i]? = (l[i]?).map fun x => ⟨keyOf x, valOf x, n + i⟩
  | _, [], i => by simp [ents]
  | n, x :: l, 0 => by simp [ents]
  | n, x :: l, i + 1 => by
    simp only [ents, List.getElem?_cons_succ, ents_get (n + 1) l i]
    rw [show n + 1 + i = n + (i + 1) by omega]
/-- A key of a kind whose values are held against each other at once. -/
def keyB : TypeDesc → Value → Bool
  | .bool, .bool _ => true
  | .int k, .int k' _ => if k' = k then true else false
  | .string, .string _ => true
  | _, _ => false
theorem keyB_spec {d : TypeDesc} {v : Value} (h : keyB d v = true) : MapKept.IsKey d v ∧ flat v = true := by
  unfold keyB at h
  split at h
  · exact ⟨trivial, rfl⟩
  · split at h
    · rename_i e; exact ⟨e, rfl⟩
    · cases h
  · exact ⟨trivial, rfl⟩
  · cases h
theorem sameNow_rel {s : Ren} {d : TypeDesc} {k x y : Value} (h : VR s x y) {b : Bool} (hs : Instr.sameNow d k x = some b) : Instr.sameNow d k y = some b ∧ (flat k = true → b = true → MapKept.IsKey d k → y = k) := by
  have hf : flat x = true := by
    cases d <;> cases k <;> cases x <;> first | rfl | (simp [Instr.sameNow] at hs)
  have hxy := h.eq_of_flat hf
  subst hxy
  refine ⟨hs, fun _ hb hk => ?_⟩
  subst hb
  cases d <;> cases k <;> cases y <;> simp_all [Instr.sameNow, MapKept.IsKey, MapKept.bytes_beq]
theorem find_rel {s : Ren} {d : TypeDesc} {k : Value} : ∀ {xs ys : List Value}, LR s xs ys → ∀ (n m i : Nat) {r : Option (Nat × Value)}, Instr.findNow d k (ents n xs) i = some r →
    ∃ r', Instr.findNow d k (ents m ys) i = some r' ∧ (match r, r' with
      | none, none => True
      | some (j, v), some (j', v') => j = j' ∧ VR s v v' ∧ i ≤ j ∧ j - i < xs.length ∧ (MapKept.IsKey d k → flat k = true → ((ys[j - i]?).map keyOf) = some k)
      | _, _ => False)
  | [], [], _, n, m, i, r, h => by
    simp only [ents, Instr.findNow, Option.some.injEq] at h
    subst h
    exact ⟨none, rfl, trivial⟩
  | [], _ :: _, h, _, _, _, _, _ => by have := h.1; simp at this
  | _ :: _, [], h, _, _, _, _, _ => by have := h.1; simp at this
  | x :: xs, y :: ys, hl, n, m, i, r, h => by
    simp only [ents, Instr.findNow] at h ⊢
    have hk := hl.uncons.1.keyOf
    cases hs : Instr.sameNow d k (keyOf x) with
    | none => rw [hs] at h; cases h
    | some b =>
      rw [hs] at h
      obtain ⟨h1, h2⟩ := sameNow_rel hk hs
      rw [h1]
      cases b with
      | true =>
        simp only [Option.some.injEq] at h
        subst h
        refine ⟨_, rfl, rfl, hl.uncons.1.valOf, Nat.le_refl _, by simp, fun g1 g2 => ?_⟩
        simp [h2 g2 rfl g1]
      | false =>
        obtain ⟨r', e1, e2⟩ := find_rel hl.uncons.2 (n + 1) (m + 1) (i + 1) h
        refine ⟨r', e1, ?_⟩
        cases r with
        | none => cases r' with
          | none => trivial
          | some _ => exact e2.elim
        | some jv =>
          cases r' with
          | none => exact e2.elim
          | some jv' =>
            obtain ⟨j, v⟩ := jv
            obtain ⟨j', v'⟩ := jv'
            obtain ⟨g1, g2, g3, g4, g5⟩ := e2
            refine ⟨g1, g2, by omega, by simp; omega, fun q1 q2 => ?_⟩
            have := g5 q1 q2
            rw [show j - i = (j - (i + 1)) + 1 by omega]
            simpa using this

section
variable {P : Program} {wb : Wb} {k : Nat} {s : Ren} {h : List AO} {w : World}

/-- What a map has. -/
def mapCells (x : Value) (h : List AO) : Option (List Value) :=
  match x with
  | .map none => some []
  | .map (some r) =>
    match h[r]? with
    | some o => if o.live && isM o then some o.cs else none
    | none => none
  | _ => none
theorem mapCells_ok (H : MR s h w) {x x' : Value} (hx : VR s x x') {cs : List Value} (hr : mapCells x h = some cs) :
    (x' = .map none ∧ cs = []) ∨ ∃ b cs', x' = .map (some b) ∧ LR s cs cs' ∧ w.heap[b]? = some (.map ⟨ents 0 cs'⟩ cs'.length) := by
  unfold mapCells at hr
  split at hr
  · cases hr; exact .inl ⟨hx.eq_of_flat rfl, rfl⟩
  · rename_i r
    obtain ⟨p, hp, rfl⟩ := hx.map_inv
    split at hr
    · rename_i o ho
      split at hr
      · rename_i hc
        cases hr
        simp only [Bool.and_eq_true] at hc
        obtain ⟨q, hq, _, hb⟩ := H r o ho hc.1
        rw [hp] at hq
        cases hq
        obtain ⟨cs', h1, h2⟩ := hb.1 hc.2
        exact .inr ⟨_, cs', rfl, h1, h2⟩
      · cases hr
    · cases hr
  · cases hr

def okPair (ok b : Bool) (v : Value) : Value := if ok then .tuple ⟨[v, .bool b]⟩ else v
theorem okPair_ok {v v' : Value} (h : VR s v v') (ok b : Bool) : VR s (okPair ok b v) (okPair ok b v') := by
  unfold okPair
  cases ok with
  | false => exact h
  | true =>
    have := LR.cons h (LR.cons (.same (s := s) (v := .bool b) rfl) (LR.nil s))
    exact VR.tuple this.1 this.2
def Has (w : World) (x : Value) (es : Array MapEntry) : Prop := (x = .map none ∧ es = #[]) ∨ ∃ b c, x = .map (some b) ∧ w.heap[b]? = some (.map es c)
theorem run_lookup_in {t kt et : TypeId} (hu : P.underlying t = some (.map kt et)) {d : TypeDesc} (hd : P.underlying kt = some d) {x ix : Value} (hk : MapKept.IsKey d ix) {es : Array MapEntry} (hx : Has w x es) {j : Nat} {v : Value}
    (hf : (Instr.findKey kt ix es.toList).run P w = .ok (some (j, v)) w) (ok : Bool) : (Instr.lookup t x ix ok).run P w = .ok (okPair ok true v) w := by
  have hck := MapKept.run_checkKey (w := w) hd hk es.isEmpty 9999
  rcases hx with ⟨rfl, rfl⟩ | ⟨b, c, rfl, hb⟩
  · simp only [Instr.lookup, Sem.run_bind, run_under hu, Result.andThen_ok, hck, hf, Sem.run_pure, okPair]
  · simp only [Instr.lookup, Sem.run_bind, run_under hu, Result.andThen_ok, MapKept.run_getObj_map hb, hck, hf, Sem.run_pure, okPair]
theorem run_lookup_out {t kt et : TypeId} (hu : P.underlying t = some (.map kt et)) {d : TypeDesc} (hd : P.underlying kt = some d) {x ix : Value} (hk : MapKept.IsKey d ix) {es : Array MapEntry} (hx : Has w x es) {z : Value}
    (hf : (Instr.findKey kt ix es.toList).run P w = .ok none w) (hz : (zeroValue et).run P w = .ok z w) (ok : Bool) : (Instr.lookup t x ix ok).run P w = .ok (okPair ok false z) w := by
  have hck := MapKept.run_checkKey (w := w) hd hk es.isEmpty 9999
  rcases hx with ⟨rfl, rfl⟩ | ⟨b, c, rfl, hb⟩
  · simp only [Instr.lookup, Sem.run_bind, run_under hu, Result.andThen_ok, hck, hf, hz, Sem.run_pure, okPair]
  · simp only [Instr.lookup, Sem.run_bind, run_under hu, Result.andThen_ok, MapKept.run_getObj_map hb, hck, hf, hz, Sem.run_pure, okPair]
def oLookup (P : Program) (t : TypeId) (x ix : Value) (ok : Bool) (h : List AO) : Option Out :=
  match P.underlying t with
  | some (.map kt et) =>
    match P.underlying kt, mapCells x h with
    | some d, some cs =>
      if keyB d ix then
        match Instr.findNow d ix (ents 0 cs) 0 with
        | some (some (_, v)) => some (.value (okPair ok true v), h, none)
        | some none =>
          match P.info? et with
          | some i =>
            match i.zero with
            | some z => if flat z then some (.value (okPair ok false z), h, none) else none
            | none => none
          | none => none
        | none => none
      else none
    | _, _ => none
  | _ => none
theorem lookup_ok (H : MR s h w) {t : TypeId} {x x' ix ix' : Value} (hx : VR s x x') (hi : VR s ix ix') {ok : Bool} {r : Out} (hr : oLookup P t x ix ok h = some r) : Okay0 P s h w (aval (Instr.lookup t x' ix' ok)) r := by
  unfold oLookup at hr
  split at hr
  · rename_i kt et hu
    split at hr
    · rename_i d cs hd hcs
      split at hr
      · rename_i hkb
        obtain ⟨hk, hkf⟩ := keyB_spec hkb
        rw [hi.eq_of_flat hkf]
        have base : ∃ es : Array MapEntry, ∃ ys, LR s cs ys ∧ es.toList = ents 0 ys ∧ Has w x' es := by
          rcases mapCells_ok H hx hcs with ⟨rfl, rfl⟩ | ⟨b, cs', rfl, h1, h2⟩
          · exact ⟨#[], [], LR.nil s, rfl, .inl ⟨rfl, rfl⟩⟩
          · exact ⟨⟨ents 0 cs'⟩, cs', h1, rfl, .inr ⟨b, _, rfl, h2⟩⟩
        obtain ⟨es, ys, hl, he, hrun⟩ := base
        cases hf : Instr.findNow d ix (ents 0 cs) 0 with
        | none => rw [hf] at hr; cases hr
        | some q =>
          rw [hf] at hr
          obtain ⟨q', hq', hrel⟩ := find_rel hl 0 0 0 hf
          have hfk : (Instr.findKey kt ix es.toList).run P w = .ok q' w := MapKept.run_findKey hd (by rw [he]; exact hq')
          cases q with
          | none =>
            cases q' with
            | some _ => exact hrel.elim
            | none =>
              simp only at hr
              split at hr
              · rename_i i hinf
                split at hr
                · rename_i z hz
                  split at hr
                  · rename_i hzf
                    cases hr
                    refine okay0 (v' := okPair ok false z) ?_ (okPair_ok (.same hzf) ok false)
                    exact run_lookup_out hu hd hk hrun hfk (run_zero hinf hz w) ok
                  · cases hr
                · cases hr
              · cases hr
          | some jv =>
            cases q' with
            | none => exact hrel.elim
            | some jv' =>
              obtain ⟨j, v⟩ := jv
              obtain ⟨j', v'⟩ := jv'
              cases hr
              refine okay0 (v' := okPair ok true v') ?_ (okPair_ok hrel.2.1 ok true)
              exact run_lookup_in hu hd hk hrun hfk ok
      · cases hr
    · cases hr
  · cases hr

/-! New maps, and what is laid in them. -/
def oMakeMap (t : Option Value) (h : List AO) : Option Out :=
  match t with
  | none => some (.value (.map (some h.length)), h ++ [⟨true, some 0, []⟩], none)
  | some _ => none
theorem makeMap_ok (H : HR wb k s h w) {t : TypeId} {x x' : Option Value} (hx : OR s x x') {r : Out} (hr : oMakeMap x h = some r) : Okay P wb k s w (aval (Instr.makeMap t x')) r := by
  unfold oMakeMap at hr
  split at hr
  · cases hr
    cases x' with
    | some _ => exact hx.elim
    | none =>
      obtain ⟨H', hle⟩ := H.newO ⟨true, some 0, []⟩ (.map #[] 0) 0 (by simp [GM]) ⟨fun _ => ⟨[], LR.nil _, (MapKept.heap_alloc w _).1⟩, fun hm => by simp [isM] at hm⟩
      refine ⟨_, .value (.map (some w.heap.size)), w.alloc (.map #[] 0), ?_, hle, H', ?_⟩
      · simp [aval, Instr.makeMap, newObj, Sem.run]
      · exact VR.map (upd_same _ _ _)
  · cases hr
/-- A map's block anew. -/
theorem HR.setMap (H : HR wb k s h w) {b : Nat} {o : AO} (ho : h[b]? = some o) (hlive : o.live = true) (hm : isM o = true) (hk : k ≤ b) {p : Pl} (hp : s b = some p) {cs cs' : List Value} (hl : LR s cs cs') :
    HR wb k s (h.set b ⟨true, some 0, cs⟩) { w with heap := w.heap.setIfInBounds p.blk (.map ⟨ents 0 cs'⟩ cs'.length) } := by
  obtain ⟨q, hq, he, hb⟩ := H.obj b o ho hlive
  rw [hp] at hq
  cases hq
  have hes : o.es = some 0 := by
    unfold isM at hm
    split at hm
    · rename_i e h1; rw [h1, Nat.eq_of_beq_eq_true hm]
    · cases hm
  have hbl : b < h.length := (List.getElem?_eq_some_iff.1 ho).1
  have hblk : wb.w.heap.size ≤ p.blk ∨ wb.x p.blk := (H.plc _ _ hp).2.1 hk
  obtain ⟨cs0, _, hold⟩ := hb.1 hm
  have hset := MapKept.heap_set (o' := Obj.map ⟨ents 0 cs'⟩ cs'.length) hold
  have live : ∀ (i : Nat) (x : AO), (h.set b ⟨true, some 0, cs⟩)[i]? = some x → x.live = true → ∃ x', h[i]? = some x' ∧ x'.live = true := by
    intro i x hx hl
    rw [List.getElem?_set] at hx
    by_cases ei : b = i
    · subst ei; exact ⟨o, ho, hlive⟩
    · rw [if_neg ei] at hx; exact ⟨x, hx, hl⟩
  refine ⟨⟨H.grown.1, fun i hi hx => (hset.2 i (by intro e; subst e; exact hblk.elim (fun h => by omega) hx)).trans (H.grown.2.1 i hi hx), by simpa using H.grown.2.2⟩, by simpa using H.kle, fun i hi => H.dom i (by simpa using hi), fun i q hq => ?_, fun i x hx hlx => ?_, fun i j x y q r hi hj hx hy hq hr e => ?_, H.gl⟩
  · obtain ⟨a, b, c⟩ := H.plc i q hq
    exact ⟨a, b, by simpa using c⟩
  · rw [List.getElem?_set] at hx
    by_cases ei : b = i
    · subst ei
      rw [if_pos rfl, if_pos hbl] at hx
      cases hx
      exact ⟨p, hp, by rw [he, hes], ⟨fun _ => ⟨cs', hl, hset.1⟩, fun hm => by simp [isM] at hm⟩⟩
    · rw [if_neg ei] at hx
      obtain ⟨q, hq, heq, hbq⟩ := H.obj i x hx hlx
      have hne : q.blk ≠ p.blk := fun e => ei (H.sep i b x o q p hx ho hlx hlive hq hp e).symm
      exact ⟨q, hq, heq, hbq.heap (hset.2 _ hne)⟩
  · obtain ⟨x', hx1, hx2⟩ := live i x hi hx
    obtain ⟨y', hy1, hy2⟩ := live j y hj hy
    exact H.sep i j x' y' q r hx1 hy1 hx2 hy2 hq hr e
def oMapUpdate (P : Program) (t : TypeId) (m key v : Value) (h : List AO) : Option Out :=
  match P.underlying t, m with
  | some (.map kt _), .map (some r) =>
    match P.underlying kt, h[r]? with
    | some d, some o =>
      if o.live && isM o && keyB d key then
        match Instr.findNow d key (ents 0 o.cs) 0 with
        | some (some (i, _)) => some (.skip, h.set r ⟨true, some 0, o.cs.set i (.tuple ⟨[key, v]⟩)⟩, some r)
        | some none => some (.skip, h.set r ⟨true, some 0, o.cs ++ [.tuple ⟨[key, v]⟩]⟩, some r)
        | none => none
      else none
    | _, _ => none
  | _, _ => none
theorem vr_pair {s : Ren} {a a' b b' : Value} (h : VR s a a') (g : VR s b b') : VR s (.tuple ⟨[a, b]⟩) (.tuple ⟨[a', b']⟩) := by
  have := LR.cons h (LR.cons g (LR.nil s))
  exact VR.tuple this.1 this.2
theorem ents_set (n : Nat) (l : List Value) (i : Nat) (key v : Value) (hk : (l[i]?).map keyOf = some key) :
    (⟨ents n l⟩ : Array MapEntry).modify i (fun e => { e with key := key, val := v }) = ⟨ents n (l.set i (.tuple ⟨[key, v]⟩))⟩ := by
  apply Array.ext_getElem?
  intro j
  have e1 : ∀ (l : List Value) (q : Nat), (⟨ents n l⟩ : Array MapEntry)[q]? = (ents n l)[q]? := fun l q => by simp
  rw [Array.getElem?_modify, e1, e1, ents_get, ents_get, List.getElem?_set]
  by_cases hij : i = j
  · subst hij
    cases hl : l[i]? with
    | none => rw [hl] at hk; cases hk
    | some x =>
      rw [if_pos rfl, if_pos rfl, if_pos (List.getElem?_eq_some_iff.1 hl).1]
      rfl
  · rw [if_neg hij, if_neg hij]
theorem mapUpdate_ok (H : HR wb k s h w) {t : TypeId} {m m' key key' v v' : Value} (hm : VR s m m') (hkey : VR s key key') (hv : VR s v v') {r : Out} (hr : oMapUpdate P t m key v h = some r) (hk : ∀ i, r.2.2 = some i → k ≤ i) :
    Okay P wb k s w (aunit (Instr.mapUpdate t m' key' v')) r := by
  unfold oMapUpdate at hr
  split at hr
  · rename_i kt et b hu
    obtain ⟨p, hp, rfl⟩ := hm.map_inv
    split at hr
    · rename_i d o hd ho
      split at hr
      · rename_i hc
        simp only [Bool.and_eq_true] at hc
        obtain ⟨⟨hlive, hmm⟩, hkb⟩ := hc
        obtain ⟨hik, hkf⟩ := keyB_spec hkb
        rw [hkey.eq_of_flat hkf]
        obtain ⟨q, hq, _, hb⟩ := H.obj b o ho hlive
        rw [hp] at hq
        cases hq
        obtain ⟨ys, hl, hw⟩ := hb.1 hmm
        cases hf : Instr.findNow d key (ents 0 o.cs) 0 with
        | none => rw [hf] at hr; cases hr
        | some q =>
          rw [hf] at hr
          obtain ⟨q', hq', hrel⟩ := find_rel hl 0 0 0 hf
          have hfk : (Instr.findKey kt key (ents 0 ys)).run P w = .ok q' w := MapKept.run_findKey hd hq'
          have hck := fun e => MapKept.run_checkKey (P := P) (w := w) hd hik e 9999
          cases q with
          | none =>
            cases q' with
            | some _ => exact hrel.elim
            | none =>
              cases hr
              have H' := H.setMap ho hlive hmm (hk _ rfl) hp (hl.append (LR.cons (vr_pair (.same hkf) hv) (LR.nil s)))
              refine ⟨s, .skip, _, ?_, Le.refl s, H', trivial⟩
              have e1 : (⟨ents 0 ys⟩ : Array MapEntry).push { key, val := v', born := ys.length } = ⟨ents 0 (ys ++ [.tuple ⟨[key, v']⟩])⟩ := by
                apply Array.toList_inj.1
                rw [Array.toList_push, ents_append, Nat.zero_add]
                rfl
              simp only [aunit, Instr.mapUpdate, Sem.run_bind, run_under hu, Result.andThen_ok, MapKept.run_getObj_map hw, hck, hfk, MapKept.run_setObj_map _ hw, e1, List.length_append, List.length_singleton, Sem.run_pure]
          | some jv =>
            cases q' with
            | none => exact hrel.elim
            | some jv' =>
              obtain ⟨j, u⟩ := jv
              obtain ⟨j', u'⟩ := jv'
              obtain ⟨rfl, _, _, hlt, hkk⟩ := hrel
              have hky := hkk hik hkf
              simp only [Nat.sub_zero] at hlt hky
              cases hr
              have H' := H.setMap ho hlive hmm (hk _ rfl) hp (hl.set (vr_pair (.same hkf) hv) j)
              refine ⟨s, .skip, _, ?_, Le.refl s, H', trivial⟩
              have e1 := ents_set 0 ys j key v' hky
              have e2 : (((⟨ents 0 ys⟩ : Array MapEntry)[j]?).map (·.key)).getD key = key := by
                have : (⟨ents 0 ys⟩ : Array MapEntry)[j]? = (ents 0 ys)[j]? := by simp
                rw [this, ents_get]
                cases hy : ys[j]? with
                | none => rw [hy] at hky; cases hky
                | some y => rw [hy] at hky; simpa using hky
              simp only [aunit, Instr.mapUpdate, Sem.run_bind, run_under hu, Result.andThen_ok, MapKept.run_getObj_map hw, hck, hfk, e2, MapKept.run_keyThatStays hik, MapKept.run_setObj_map _ hw, e1, List.length_set, Sem.run_pure]
      · cases hr
    · cases hr
  · cases hr

/-! How many entries there are. -/
def oLenMap (P : Program) (c : Call) (args : List Value) (h : List AO) : Option Out :=
  match c.argTypes[0]?, args with
  | some t, x :: _ =>
    match P.underlying t, mapCells x h with
    | some (.map _ _), some cs => some (.value (.int .i64 cs.length), h, none)
    | _, _ => none
  | _, _ => none
theorem lenMap_ok (H : MR s h w) {ρ ρ' : Operand → Value} {c : Call} (hc : c.callee = .builtin .len) (type : TypeId) (ha : LR s (c.args.toList.map ρ) (c.args.toList.map ρ')) {r : Out}
    (hr : oLenMap P c (c.args.toList.map ρ) h = some r) : Okay0 P s h w (do let d ← resolve ρ' c type; invoke d.target d.args) r := by
  unfold oLenMap at hr
  split at hr
  · rename_i t x rest ht hxs
    obtain ⟨y, hy, hxy⟩ := ha.get (i := 0) (x := x) (by rw [hxs]; rfl)
    have hy0 : (c.args.map ρ')[0]? = some y := by
      rw [← hy, ← Array.toList_map]; exact Array.getElem?_toList.symm
    split at hr
    · rename_i kt et cs hu hcs
      cases hr
      refine ⟨.value (.int .i64 cs.length), ?_, VR.same rfl, rfl⟩
      rcases mapCells_ok H hxy hcs with ⟨rfl, rfl⟩ | ⟨b, cs', rfl, h1, h2⟩
      · simp [resolve, hc, invoke, builtin, Builtin.len_, ht, hy0, run_under hu, goInt]
      · simp [resolve, hc, invoke, builtin, Builtin.len_, ht, hy0, run_under hu, goInt, MapKept.run_getObj_map h2, ents_length, h1.1]
    · cases hr
  · cases hr

/-! Interface values. -/
def ifaceD : TypeDesc → Bool
  | .interface _ => true
  | _ => false
def oIface (P : Program) (t : TypeId) (x : Value) (h : List AO) : Option Out :=
  match P.underlying t with
  | some d => if ifaceD d then none else some (.value (.iface t x), h, none)
  | none => none
theorem iface_ok {t : TypeId} {x x' : Value} (hx : VR s x x') {r : Out} (hr : oIface P t x h = some r) : Okay0 P s h w (aval (Instr.makeInterface t x')) r := by
  unfold oIface at hr
  split at hr
  · rename_i d hu
    split at hr
    · cases hr
    · rename_i hd
      cases hr
      refine okay0 (v' := .iface t x') ?_ (VR.iface hx)
      cases d <;> first | exact absurd rfl hd | (simp only [Instr.makeInterface, Sem.run_bind, run_under hu, Result.andThen_ok, Sem.run_pure])
  · cases hr
def oAssert (P : Program) (x : Value) (t : TypeId) (ok : Bool) (h : List AO) : Option Out :=
  match P.underlying t, x with
  | some d, .iface u v =>
    if ifaceD d then none
    else if u = t then some (.value (okPair ok true v), h, none)
    else if ok then
      match P.info? t with
      | some i =>
        match i.zero with
        | some z => if flat z then some (.value (okPair true false z), h, none) else none
        | none => none
      | none => none
    else none
  | _, _ => none
theorem assert_ok {x x' : Value} (hx : VR s x x') {xt t : TypeId} {ok : Bool} {r : Out} (hr : oAssert P x t ok h = some r) : Okay0 P s h w (aval (Instr.typeAssert x' xt t ok)) r := by
  unfold oAssert at hr
  split at hr
  · rename_i d u v hu
    obtain ⟨v', rfl, hv⟩ := hx.iface_inv
    split at hr
    · cases hr
    · rename_i hd
      split at hr
      · rename_i hut
        cases hr
        refine okay0 (v' := okPair ok true v') ?_ (okPair_ok hv ok true)
        cases d <;> first | exact absurd rfl hd | (simp only [Instr.typeAssert, Sem.run_bind, run_under hu, Result.andThen_ok, hut, if_true, Sem.run_pure, okPair])
      · rename_i hut
        split at hr
        · rename_i hok
          split at hr
          · rename_i i hi
            split at hr
            · rename_i z hz
              split at hr
              · rename_i hzf
                cases hr
                refine okay0 (v' := okPair true false z) ?_ (okPair_ok (.same hzf) true false)
                cases d <;> first | exact absurd rfl hd | (simp only [Instr.typeAssert, Sem.run_bind, run_under hu, Result.andThen_ok, hut, if_false, hok, if_true, run_zero hi hz, Sem.run_pure, okPair])
              · cases hr
            · cases hr
          · cases hr
        · cases hr
  · cases hr

/-! Calls of a method behind an interface value. -/
def ptrD : TypeDesc → Bool
  | .pointer _ => true
  | _ => false
def oInvoke (P : Program) (recv : Value) (name : String) (args : List Value) (h : List AO) : Option Out :=
  match recv with
  | .iface t v =>
    match P.info? t, P.underlying t with
    | some i, some d =>
      match i.methods.find? (·.name == name) with
      | some m =>
        if m.path.toList.isEmpty then
          match m.func with
          | some (f, pr) =>
            if pr == ptrD d then
              match P.funcs[f]? with
              | some fn => if fn.body.isSome then some (.enter f ⟨v :: args⟩, h, none) else none
              | none => none
            else none
          | none => none
        else none
      | none => none
    | _, _ => none
  | _ => none
theorem invoke_ok (hng : NoNG P) {ρ ρ' : Operand → Value} {c : Call} {x : Operand} {name : String} (hc : c.callee = .invoke x name) (type : TypeId) (hx : VR s (ρ x) (ρ' x)) (ha : LR s (c.args.toList.map ρ) (c.args.toList.map ρ')) {r : Out}
    (hr : oInvoke P (ρ x) name (c.args.toList.map ρ) h = some r) : Okay0 P s h w (do let d ← resolve ρ' c type; invoke d.target d.args) r := by
  unfold oInvoke at hr
  split at hr
  · rename_i t v hxv
    rw [hxv] at hx
    obtain ⟨v', hx', hv⟩ := hx.iface_inv
    split at hr
    · rename_i i d hi hu
      split at hr
      · rename_i m hm
        split at hr
        · rename_i hpe
          split at hr
          · rename_i f pr hfn
            split at hr
            · rename_i hpr
              split at hr
              · rename_i fn hfun
                split at hr
                · rename_i hcond
                  cases hr
                  have hb : ¬ fn.body = none := by
                    intro e
                    rw [e] at hcond
                    simp at hcond
                  have hn := hng f fn hfun
                  have hpath : m.path.toList = [] := by simpa using hpe
                  have hprd : pr = ptrD d := by simpa using hpr
                  have hmeth : ∀ fuel, (method (fuel + 1) t v' name).run P w = .ok (f, v') w := by
                    intro fuel
                    unfold method
                    simp only [Sem.run_bind, run_info hi, Result.andThen_ok, hm, hpath, follow, Sem.run_pure, hfn]
                    subst hprd
                    cases d <;> simp only [ptrD, receiverAt, Sem.run_bind, run_under hu, Result.andThen_ok, Place.get, Sem.run_pure]
                  refine ⟨.enter f ⟨v' :: c.args.toList.map ρ'⟩, ?_, ⟨rfl, LR.cons hv ha⟩, rfl⟩
                  have hdep : ∃ n, P.types.size + Made.depth = n + 1 := ⟨P.types.size + 99, by simp [Made.depth]⟩
                  obtain ⟨n, hn1⟩ := hdep
                  have e0 : (#[ρ' x] ++ c.args.map ρ')[0]? = some (.iface t v') := by
                    rw [hx', Array.getElem?_append]; rfl
                  have e1 : (#[ρ' x] ++ c.args.map ρ').extract 1 (#[ρ' x] ++ c.args.map ρ').size = c.args.map ρ' := by
                    apply Array.toList_inj.1
                    simp
                    exact List.take_of_length_le (by simp)
                  have e2 : #[v'] ++ c.args.map ρ' = ⟨v' :: c.args.toList.map ρ'⟩ := by
                    apply Array.toList_inj.1
                    simp
                  simp only [resolve, hc, Sem.run_bind, Sem.run_pure, Result.andThen_ok, invoke, e0, e1, callMethod, program, Sem.run, hn1, hmeth, callFunc, hfun, e2]
                  simp [hn, hb]
                · cases hr
              · cases hr
            · cases hr
          · cases hr
        · cases hr
      · cases hr
    · cases hr
  · cases hr

/-! The empty end of a row whose capacity is not known: where it lies is not known, and nothing is read of it. -/
theorem HR.newDead (H : HR wb k s h w) {b : Nat} (hk : k ≤ b) {p p' : Pl} (hp : s b = some p) (hblk : p'.blk = p.blk) (hes : p'.es ≠ some GM) :
    HR wb k (upd s h.length p') (h ++ [dead]) w ∧ Le s (upd s h.length p') := by
  have hle := Le.upd (s := s) (i := h.length) p' (H.dom _ (Nat.le_refl _))
  have old : ∀ (i : Nat) (o : AO), (h ++ [dead])[i]? = some o → o.live = true → h[i]? = some o ∧ i ≠ h.length := by
    intro i o ho hl
    by_cases hi : i < h.length
    · rw [List.getElem?_append_left hi] at ho
      exact ⟨ho, by omega⟩
    · rw [List.getElem?_append_right (by omega)] at ho
      have h1 := List.mem_of_getElem? ho
      simp at h1
      subst h1
      cases hl
  refine ⟨⟨H.grown, by simp; have := H.kle; omega, fun i hi => ?_, fun i q hq => ?_, fun i o ho hl => ?_, fun i j x y q r hi hj hx hy hq hr e => ?_, fun i q hq hg => ?_⟩, hle⟩
  · simp at hi
    rw [upd_other _ _ (by omega)]
    exact H.dom i (by omega)
  · by_cases e : i = h.length
    · subst e
      rw [upd_same] at hq
      cases hq
      rw [hblk]
      exact ⟨fun hlt => absurd H.kle (by omega), fun _ => (H.plc _ _ hp).2.1 hk, (H.plc _ _ hp).2.2⟩
    · rw [upd_other _ _ e] at hq
      exact H.plc i q hq
  · obtain ⟨h1, h2⟩ := old i o ho hl
    obtain ⟨q, hq, he, hb⟩ := H.obj i o h1 hl
    exact ⟨q, by rw [upd_other _ _ h2]; exact hq, he, hb.mono hle⟩
  · obtain ⟨h1, h2⟩ := old i x hi hx
    obtain ⟨h3, h4⟩ := old j y hj hy
    rw [upd_other _ _ h2] at hq
    rw [upd_other _ _ h4] at hr
    exact H.sep i j x y q r h1 h3 hx hy hq hr e
  · by_cases e : i = h.length
    · subst e
      rw [upd_same] at hq
      cases hq
      exact absurd hg hes
    · rw [upd_other _ _ e] at hq
      exact H.gl i q hq hg
def oSliceEnd (P : Program) (t : TypeId) (x : Value) (lo hi : Option Value) (h : List AO) : Option Out :=
  match P.underlying t, x with
  | some (.slice e), .slice (some a) len _ =>
    match P.info? e, esOf h a.block with
    | some i, some (some q) =>
      match hiA hi len len with
      | some h1 =>
        match loA lo h1 with
        | some l => if q = i.size ∧ l = len ∧ Nat.beq q GM = false then some (.value (.slice (some ⟨h.length, 0, none⟩) 0 0), h ++ [dead], some a.block) else none
        | none => none
      | none => none
    | _, _ => none
  | _, _ => none
theorem sliceEnd_ok (H : HR wb k s h w) {t : TypeId} {x x' : Value} (hx : VR s x x') {lo lo' hi hi' : Option Value} (hl : OR s lo lo') (hh : OR s hi hi') {r : Out} (hr : oSliceEnd P t x lo hi h = some r) (hk : ∀ i, r.2.2 = some i → k ≤ i) :
    Okay P wb k s w (aval (Instr.sliceAt t x' lo' hi' none)) r := by
  unfold oSliceEnd at hr
  split at hr
  · rename_i e a len cap hu
    obtain ⟨p, c', hs, hp, hcap, rfl⟩ := hx.slice_inv
    split at hr
    · rename_i i q hi0 hes
      split at hr
      · rename_i h1 hhi
        split at hr
        · rename_i l hlo
          split at hr
          · rename_i hq
            cases hr
            obtain ⟨rfl, rfl, hgm⟩ := hq
            have hpe := esOf_ok H.mr hes hp
            unfold CapOk at hcap
            rw [hpe] at hcap
            simp only at hcap
            obtain ⟨hq0, hq1, hq2⟩ := hcap
            have hb := bounds_ok (P := P) (b := true) (cap' := c') hl hh hhi hlo (.inr hq2) w
            have g1 := hiA_le hhi (Nat.le_refl _)
            have g2 := loA_le hlo
            obtain rfl : h1 = l := by omega
            obtain ⟨e1, e2⟩ := add_vr (p := p) hs (h1 * i.size)
            have hgn : i.size ≠ GM := fun h => by rw [h] at hgm; simp at hgm
            obtain ⟨H', hle⟩ := H.newDead (hk _ rfl) hp (p' := ⟨p.blk, if c' = h1 then p.off + a.off else p.off + (a.off + h1 * i.size), (if c' = h1 then p.off + a.off else p.off + (a.off + h1 * i.size)) + (c' - h1) * i.size, some i.size⟩) rfl (by simpa using hgn)
            refine okay_val (v' := .slice (some ⟨p.blk, if c' = h1 then p.off + a.off else p.off + (a.off + h1 * i.size), none⟩) 0 (c' - h1)) ?_ hle H' ?_
            · by_cases hnl : c' = h1
              · subst hnl
                simp [Instr.sliceAt, Instr.slice, run_under hu, hb, run_size hi0]
              · simp [Instr.sliceAt, Instr.slice, run_under hu, hb, run_size hi0, hnl, e2]
            · have := VR.slice (s := upd s h.length ⟨p.blk, if c' = h1 then p.off + a.off else p.off + (a.off + h1 * i.size), (if c' = h1 then p.off + a.off else p.off + (a.off + h1 * i.size)) + (c' - h1) * i.size, some i.size⟩) (a := ⟨h.length, 0, none⟩) (l := 0) (c := 0) (c' := c' - h1) rfl (upd_same _ _ _) (by unfold CapOk; exact ⟨hq0, by simp, by omega⟩)
              simpa using this
          · cases hr
        · cases hr
      · cases hr
    · cases hr
  · cases hr
end
end Go.Proofs.Ytafegjmaldbbiaa.Ex
