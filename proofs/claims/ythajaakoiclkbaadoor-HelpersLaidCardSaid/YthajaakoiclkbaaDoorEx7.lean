/-
  Runs that the kernel reckons, part 7: a whole call.
-/
import Derived.Test.YthajaakoiclkbaaDoorEx6
namespace Go.Proofs.YthajaakoiclkbaaDoor.Ex
open Go Go.RowKit

def quietB (n : Nat) (m : Option Nat) : Bool :=
  match m with
  | none => true
  | some m => decide (n ≤ m)
theorem quietB_ok {n : Nat} {m : Option Nat} (h : quietB n m = true) : BndO n m := by
  intro i hi
  subst hi
  simpa [quietB] using h
def callA (P : Program) (rec : Rec) (f : FuncId) (args : List Value) (h : List AO) : Option (Value × List AO × Mk) :=
  match rec.hook f args h with
  | some (v, cs) => if flat v then some (v, h, (none, cs)) else none
  | none =>
  match P.funcs[f]? with
  | none => none
  | some fn =>
    match fn.body with
    | none => none
    | some c =>
      match rec.run f c ⟨args ++ List.replicate (fn.ntmps - args.length) undef, h, (none, [])⟩ with
      | some (.normal, x) | some (.ret, x) =>
        match resL P x.t x.h fn.results.toList with
        | some vs =>
          if flat (oneOf vs) && quietB h.length x.m.1 then some (oneOf vs, h, (none, x.m.2))
          else some (oneOf vs, x.h, x.m)
        | none => none
      | _ => none
def b2i : Bool → Int
  | true => 1
  | false => 0
theorem b2i_inj {a b : Bool} (h : b2i a = b2i b) : a = b := by cases a <;> cases b <;> first | rfl | (simp [b2i] at h)
/-- A value that is told: what it must be the same as. -/
def fixV (u : Option Value) (v : Value) : Option (Value × Cs) :=
  match u with
  | none => some (v, [])
  | some .nilFunc => some (v, [])
  | some (.int j n) =>
    match v with
    | .int k m => if k = j then some (.int j n, [(m, n)]) else none
    | _ => none
  | some (.bool b) =>
    match v with
    | .bool a => some (.bool b, [(b2i a, b2i b)])
    | _ => none
  | _ => none
theorem fixV_ok {u : Option Value} {v v' : Value} {cs : Cs} (h : fixV u v = some (v', cs)) (hc : ∀ c ∈ cs, c.1 = c.2) : v' = v := by
  unfold fixV at h
  split at h
  · cases h; rfl
  · cases h; rfl
  · split at h
    · split at h
      · rename_i hk
        cases h
        have := hc _ (List.mem_singleton.2 rfl)
        simp only at this
        rw [hk, this]
      · cases h
    · cases h
  · split at h
    · cases h
      have := hc _ (List.mem_singleton.2 rfl)
      rw [b2i_inj this]
    · cases h
  · cases h
def operA (P : Program) (op : OpFn) (rec : Rec) (o : Oper) (x : St) : Option St :=
  if o.op.operands.toList.all (okX x.h) then
    match op (rec.acc.look x.t) o x.h with
    | some (.value v, h, m) =>
      match fixV (o.dst.bind fun d => rec.orc d x.t) v with
      | some (v', cs) => some ⟨rec.acc.put x.t o.dst v', h, low x.m (m, cs)⟩
      | none => none
    | some (.skip, h, m) => some ⟨rec.acc.put x.t o.dst undef, h, low x.m (m, [])⟩
    | some (.enter f args, h, m) =>
      match callA P rec f args.toList h with
      | some (v, h', m') => some ⟨rec.acc.put x.t o.dst v, h', low (low x.m (m, [])) m'⟩
      | none => none
    | _ => none
  else none
def seqA (P : Program) (op : OpFn) (rec : Rec) (ops : Array Oper) : List Oper → St → Option St
  | [], x => some x
  | o :: l, x =>
    if wantedA ops x.t o then
      match operA P op rec o x with
      | some x' => seqA P op rec ops l x'
      | none => none
    else seqA P op rec ops l ⟨rec.acc.put x.t o.dst undef, x.h, x.m⟩

section
variable {P : Program} {op : OpFn} {rec : Rec}

def CallPost (wb : World) (k : Nat) (s : Ren) (v : Value) (h : List AO) (e : Ending) (w : World) : Prop :=
  ∃ s' v', e = .returned v' ∧ Le s s' ∧ HR wb k s' h w ∧ VR s' v v'
theorem call_post {fn : Func} {vs : List Value} {x : St} {e : Exit} (he : e = .normal ∨ e = .ret) (hr : resL P x.t x.h fn.results.toList = some vs) {wb : World} {k : Nat} {s : Ren} {R : Ending → World → Prop}
    (hR : ∀ s' v' w', Le s s' → HR wb k s' x.h w' → VR s' (oneOf vs) v' → R (.returned v') w') :
    ∀ e' a' w', Post wb k s x e e' a' w' → bodyPost P fn R e' a' w' := by
  rintro e' a' w' ⟨rfl, s', hle, hsr⟩
  obtain ⟨v', h1, h2⟩ := results_ok (P := P) hsr.t hsr.h hr
  rcases he with rfl | rfl
  · exact ⟨hsr.d, v', h1, hR s' v' w' hle hsr.h h2⟩
  · exact ⟨hsr.d, v', h1, hR s' v' w' hle hsr.h h2⟩
theorem callA_ok (hrec : RecOk P rec) {f : FuncId} {args args' : List Value} {h : List AO} {v : Value} {h' : List AO} {m : Mk} (hr : callA P rec f args h = some (v, h', m)) {wb : World} {k : Nat} {s : Ren} {w : World}
    (hm : Bnd k m) (ha : LR s args args') (H : HR wb k s h w) : Calls P f ⟨args'⟩ w (CallPost wb k s v h') := by
  unfold callA at hr
  split at hr
  · rename_i u cs0 hu
    split at hr
    · rename_i hfl
      cases hr
      refine (hrec.2.1 f args h _ _ hu hm.2 wb k s w args' H ha).mono ?_
      rintro e w' ⟨rfl, hg⟩
      exact ⟨s, _, rfl, Le.refl s, H.grow hg, .same hfl⟩
    · cases hr
  cases hf : P.funcs[f]? with
  | none => rw [hf] at hr; cases hr
  | some fn =>
    rw [hf] at hr
    simp only at hr
    cases hb : fn.body with
    | none => rw [hb] at hr; cases hr
    | some c =>
      rw [hb] at hr
      simp only at hr
      cases hx : rec.run f c ⟨args ++ List.replicate (fn.ntmps - args.length) undef, h, (none, [])⟩ with
      | none => rw [hx] at hr; cases hr
      | some ex =>
        obtain ⟨e, x⟩ := ex
        rw [hx] at hr
        have he : e = .normal ∨ e = .ret := by
          cases e <;> first | exact .inl rfl | exact .inr rfl | cases hr
        have hr2 : (match resL P x.t x.h fn.results.toList with
          | some vs =>
            if flat (oneOf vs) && quietB h.length x.m.1 then some (oneOf vs, h, (none, x.m.2))
            else some (oneOf vs, x.h, x.m)
          | none => none) = some (v, h', m) := by
          rcases he with rfl | rfl
          · exact hr
          · exact hr
        clear hr
        cases hrs : resL P x.t x.h fn.results.toList with
        | none => rw [hrs] at hr2; cases hr2
        | some vs =>
          rw [hrs] at hr2
          simp only at hr2
          refine calls_of_wp hf hb ?_
          have htl : ∀ (wb : World) (k : Nat), HR wb k s h w → SR wb k s ⟨args ++ List.replicate (fn.ntmps - args.length) undef, h, (none, [])⟩ { tmps := (⟨args'⟩ : Array Value) ++ Array.replicate (fn.ntmps - (⟨args'⟩ : Array Value).size) undef, defers := [] } w := by
            intro wb k H
            refine ⟨?_, rfl, H⟩
            have e1 : (⟨args'⟩ : Array Value).size = args.length := by simp [ha.1]
            rw [e1]
            simp only [Array.toList_append, Array.toList_replicate]
            exact ha.append (LR.ofFlat (List.all_eq_true.2 fun u hu => by rw [List.eq_of_mem_replicate hu]; rfl))
          split at hr2
          · rename_i hq
            cases hr2
            simp only [Bool.and_eq_true] at hq
            have hbnd : Bnd h.length x.m := ⟨quietB_ok hq.2, hm.2⟩
            refine Code.wp_mono ?_ (hrec.1 w h.length s f c _ x e _ w hx hbnd (htl w h.length H.here))
            refine call_post he hrs fun s' v' w' _ H' hv => ?_
            rw [hv.eq_of_flat hq.1]
            exact ⟨s, _, rfl, Le.refl s, H.grow H'.grown, .same hq.1⟩
          · cases hr2
            refine Code.wp_mono ?_ (hrec.1 wb k s f c _ x e _ w hx hm (htl wb k H))
            exact call_post he hrs fun s' v' w' hle H' hv => ⟨s', v', rfl, hle, H', hv⟩

theorem operA_low {o : Oper} {x x' : St} (hr : operA P op rec o x = some x') {k : Nat} (hm : Bnd k x'.m) : Bnd k x.m := by
  unfold operA at hr
  split at hr
  · split at hr
    · split at hr
      · cases hr; exact (bnd_low hm).1
      · cases hr
    · cases hr; exact (bnd_low hm).1
    · split at hr
      · cases hr; exact (bnd_low (bnd_low hm).1).1
      · cases hr
    · cases hr
  · cases hr
theorem operA_ok (hop : OpOk P op) (hrec : RecOk P rec) {o : Oper} {x x' : St} (hr : operA P op rec o x = some x') {wb : World} {k : Nat} {s : Ren} {a : Act} {w : World} (hm : Bnd k x'.m) (H : SR wb k s x a w)
    {next : Act → World → Prop} {Q : Exit → Act → World → Prop} (hn : ∀ s' a' w', Le s s' → SR wb k s' x' a' w' → next a' w') : o.wp P a w next Q := by
  unfold operA at hr
  rw [hrec.2.2.2] at hr
  simp only [accP] at hr
  split at hr
  · rename_i hok
    have hρ : ∀ y ∈ o.op.operands, VR s (lookA x.t y) (a.eval y) := fun y hy => eval_ok H.t H.h.glob (List.all_eq_true.1 hok y (by simpa using hy))
    split at hr
    · rename_i v h m ho
      split at hr
      · rename_i v2 cs hfx
        cases hr
        have hv2 := fixV_ok hfx (bnd_low hm).2.2
        subst hv2
        obtain ⟨s', n', w', h1, h2, h3, h4⟩ := hop wb k s x.h w _ _ o _ H.h hρ ho (bnd_low hm).2.1
        unfold Oper.wp
        rw [h1]
        cases n' <;> simp only [NR] at h4
        exact hn s' _ w' h2 ⟨put_ok (H.t.mono h2) o.dst h4, by cases hd : o.dst <;> simp [Act.put, H.d], h3⟩
      · cases hr
    · rename_i h m ho
      cases hr
      obtain ⟨s', n', w', h1, h2, h3, h4⟩ := hop wb k s x.h w _ _ o _ H.h hρ ho (bnd_low hm).2.1
      unfold Oper.wp
      rw [h1]
      cases n' <;> simp only [NR] at h4
      exact hn s' _ w' h2 ⟨put_ok (H.t.mono h2) o.dst (.same rfl), by cases hd : o.dst <;> simp [Act.put, H.d], h3⟩
    · rename_i f args h m ho
      split at hr
      · rename_i v h' m' hc
        cases hr
        obtain ⟨s', n', w', h1, h2, h3, h4⟩ := hop wb k s x.h w _ _ o _ H.h hρ ho (bnd_low (bnd_low hm).1).2.1
        unfold Oper.wp
        rw [h1]
        cases n' <;> simp only [NR] at h4
        rename_i g args'
        obtain ⟨rfl, hargs⟩ := h4
        refine (callA_ok hrec hc (bnd_low hm).2 hargs h3).mono ?_
        rintro e w'' ⟨s'', v', rfl, hle, H'', hv⟩
        exact hn s'' _ w'' (h2.trans hle) ⟨put_ok (H.t.mono (h2.trans hle)) o.dst hv, by cases hd : o.dst <;> simp [Act.put, H.d], H''⟩
      · cases hr
    · cases hr
  · cases hr
theorem seqA_low {ops : Array Oper} : ∀ {l : List Oper} {x x' : St}, seqA P op rec ops l x = some x' → ∀ {k : Nat}, Bnd k x'.m → Bnd k x.m
  | [], x, x', hr, k, hm => by simp [seqA] at hr; subst hr; exact hm
  | o :: l, x, x', hr, k, hm => by
    simp only [seqA] at hr
    split at hr
    · split at hr
      · rename_i x1 h1
        exact operA_low h1 (seqA_low hr hm)
      · cases hr
    · exact seqA_low (x := ⟨rec.acc.put x.t o.dst undef, x.h, x.m⟩) hr hm
theorem seqA_ok (hop : OpOk P op) (hrec : RecOk P rec) {ops : Array Oper} : ∀ {l : List Oper} {x x' : St}, seqA P op rec ops l x = some x' → ∀ {wb : World} {k : Nat} {s : Ren} {a : Act} {w : World}, Bnd k x'.m → SR wb k s x a w →
    ∀ {Q : Exit → Act → World → Prop}, (∀ s' a' w', Le s s' → SR wb k s' x' a' w' → Q .normal a' w') → wpList P ops Q l a w
  | [], x, x', hr, wb, k, s, a, w, hm, H, Q, hQ => by
    simp [seqA] at hr; subst hr
    exact hQ s a w (Le.refl s) H
  | o :: l, x, x', hr, wb, k, s, a, w, hm, H, Q, hQ => by
    simp only [seqA] at hr
    rw [hrec.2.2.2] at hr
    simp only [accP] at hr
    simp only [wpList, wanted_ok H.t]
    split at hr
    · rename_i hw
      rw [if_pos hw]
      split at hr
      · rename_i x1 h1
        left
        refine operA_ok hop hrec h1 (seqA_low hr hm) H fun s' a' w' hle H' => ?_
        exact seqA_ok hop hrec hr hm H' fun s'' a'' w'' hle' H'' => hQ s'' a'' w'' (hle.trans hle') H''
      · cases hr
    · rename_i hw
      rw [if_neg hw]
      refine seqA_ok hop hrec (x := ⟨putA x.t o.dst undef, x.h, x.m⟩) hr hm ⟨put_ok H.t o.dst (.same rfl), by cases hd : o.dst <;> simp [Act.put, H.d], H.h⟩ hQ

/-! Code. -/
abbrev DrawFn := Rec → Array Oper → St → Option St
def DrawOk (P : Program) (dr : DrawFn) : Prop :=
  ∀ (rec : Rec), RecOk P rec → ∀ (ops : Array Oper) (x x' : St), dr rec ops x = some x' → ∀ (wb : World) (k : Nat) (s : Ren) (id : Nat) (a : Act) (w : World), Bnd k x'.m → SR wb k s x a w →
    (Code.region id ops true).wp P (Post wb k s x' .normal) a w
def DrawLow (dr : DrawFn) : Prop := ∀ (rec : Rec) (ops : Array Oper) (x x' : St), dr rec ops x = some x' → ∀ (k : Nat), Bnd k x'.m → Bnd k x.m
def loopN (body : St → Option (Exit × St)) : Nat → St → Option (Exit × St)
  | 0, _ => none
  | n + 1, x =>
    match body x with
    | some (.normal, x') => loopN body n x'
    | r => r
/-- What a number or a test comes to that cannot be reckoned: by the function, the place that it is laid in, and the temporaries then. -/
abbrev Orc := FuncId → Tmp → List Value → Option Value
def noOrc : Orc := fun _ _ _ => none
def ex (P : Program) (op : OpFn) (dr : DrawFn) (hk : FuncId → List Value → List AO → Option (Value × Cs)) (orc : Orc) (ac : Acc) (L : Nat) : Nat → FuncId → Code → St → Option (Exit × St)
  | 0, _, _, _ => none
  | f + 1, fid, c, x =>
    match c with
    | .skip => some (.normal, x)
    | .label _ => some (.normal, x)
    | .region _ ops false =>
      match seqA P op ⟨ex P op dr hk orc ac L f, hk, orc fid, ac⟩ ops ops.toList x with
      | some x' => some (.normal, x')
      | none => none
    | .region _ ops true =>
      match dr ⟨ex P op dr hk orc ac L f, hk, orc fid, ac⟩ ops x with
      | some x' => some (.normal, x')
      | none => none
    | .seq a b =>
      match ex P op dr hk orc ac L f fid a x with
      | some (.normal, x') => ex P op dr hk orc ac L f fid b x'
      | r => r
    | .cond c a b =>
      if okX x.h c then
        match lookA x.t c with
        | .bool true => ex P op dr hk orc ac L f fid a x
        | .bool false => ex P op dr hk orc ac L f fid b x
        | _ => none
      else none
    | .block id c =>
      match ex P op dr hk orc ac L f fid c x with
      | some (.exit i, x') => if i = id then some (.normal, x') else some (.exit i, x')
      | r => r
    | .loop c => loopN (ex P op dr hk orc ac L f fid c) L x
    | .exit id => some (.exit id, x)
    | .ret => some (.ret, x)
    | .scope c =>
      match ex P op dr hk orc ac L f fid c x with
      | some (.goto _, _) => none
      | r => r
    | _ => none
end
end Go.Proofs.YthajaakoiclkbaaDoor.Ex
