/-
  Runs that the kernel reckons, part 18: a loop reckoned in pieces, each a theorem of its own.
-/
import Derived.Test.YtafegjmaldbbiaaEx16
namespace Go.Proofs.Ytafegjmaldbbiaa.Ex
open Go Go.RowKit

def iterB (body : St → Option (Exit × St)) : Nat → St → Option St
  | 0, x => some x
  | n + 1, x =>
    match body x with
    | some (.normal, x') => iterB body n x'
    | _ => none
section
variable {P : Program}
theorem iterB_low {body : St → Option (Exit × St)} {k : Nat} (hl : ∀ (x x' : St) (e : Exit), body x = some (e, x') → Bnd k x'.m → Bnd k x.m) :
    ∀ (n : Nat) (x x' : St), iterB body n x = some x' → Bnd k x'.m → Bnd k x.m
  | 0, x, x', hr, hm => by simp [iterB] at hr; subst hr; exact hm
  | n + 1, x, x', hr, hm => by
    simp only [iterB] at hr
    split at hr
    · rename_i x1 h1
      exact hl x x1 .normal h1 (iterB_low hl n x1 x' hr hm)
    · cases hr
theorem iterB_ok {body : St → Option (Exit × St)} {c : Code}
    (hb : ∀ (wb : Wb) (k : Nat) (s : Ren) (x x' : St) (e : Exit) (a : Act) (w : World), body x = some (e, x') → Bnd k x'.m → SR wb k s x a w → c.wp P (Post wb k s x' e) a w)
    (wb : Wb) (k : Nat) (hl : ∀ (x x' : St) (e : Exit), body x = some (e, x') → Bnd k x'.m → Bnd k x.m) :
    ∀ (n : Nat) (x x' : St), iterB body n x = some x' → Bnd k x'.m → ∀ (s : Ren) (a : Act) (w : World), SR wb k s x a w → ∀ (N : Nat) (Q : Exit → Act → World → Prop),
      (∀ s' a' w', Le s s' → SR wb k s' x' a' w' → Code.rounds P c Q N a' w') → Code.rounds P c Q (n + N) a w
  | 0, x, x', hr, hm => by
    simp [iterB] at hr
    subst hr
    intro s a w H N Q hQ
    rw [Nat.zero_add]
    exact hQ s a w (Le.refl s) H
  | n + 1, x, x', hr, hm => by
    simp only [iterB] at hr
    split at hr
    · rename_i x1 h1
      have g1 := iterB_low hl n x1 x' hr hm
      intro s a w H N Q hQ
      rw [show n + 1 + N = (n + N) + 1 by omega, rounds_succ]
      refine Code.wp_mono ?_ (hb wb k s x x1 .normal a w h1 g1 H)
      rintro e' a' w' ⟨rfl, s', hle, H'⟩
      exact iterB_ok hb wb k hl n x1 x' hr hm s' a' w' H' N Q fun s'' a'' w'' hle' H'' => hQ s'' a'' w'' (hle.trans hle') H''
    · cases hr
theorem rounds_le {c : Code} {wb : Wb} {k : Nat} {s t : Ren} (h : Le s t) {x : St} {e : Exit} : ∀ (n : Nat) (a : Act) (w : World), Code.rounds P c (Post wb k t x e) n a w → Code.rounds P c (Post wb k s x e) n a w := by
  intro n
  induction n with
  | zero => intro a w h; exact h
  | succ n ih =>
    intro a w h0
    rw [rounds_succ] at h0 ⊢
    refine Code.wp_mono (fun e' a' w' hp => ?_) h0
    cases e' <;> first | exact ih _ _ hp | exact post_le h hp
/-- So many rounds lead from a state to another one. -/
def Hop (P : Program) (c : Code) (n : Nat) (t : List Value) (h : List AO) (t' : List Value) (h' : List AO) (mE : Mk) : Prop :=
  ∀ (wb : Wb) (k : Nat), Bnd k mE → ∀ (s : Ren) (m : Mk) (a : Act) (w : World), SR wb k s ⟨t, h, m⟩ a w → ∀ (N : Nat) (Q : Exit → Act → World → Prop),
    (∀ s' a' w', Le s s' → SR wb k s' ⟨t', h', m⟩ a' w' → Code.rounds P c Q N a' w') → Code.rounds P c Q (n + N) a w
/-- Within so many rounds the loop ends. -/
def Stop (P : Program) (c : Code) (n : Nat) (t : List Value) (h : List AO) (e : Exit) (t' : List Value) (h' : List AO) (mE : Mk) : Prop :=
  ∀ (wb : Wb) (k : Nat), Bnd k mE → ∀ (s : Ren) (m : Mk) (a : Act) (w : World), SR wb k s ⟨t, h, m⟩ a w → ∀ (m' : Mk), Code.rounds P c (Post wb k s ⟨t', h', m'⟩ e) n a w
noncomputable def bodyE (P : Program) (hk : Hook3) (orc : Orc) (fid : FuncId) (c : Code) : St → Option (Exit × St) := exG P (aOp P) (drawE P) hk orc accQ noLoop 100000 300 fid c
theorem bodyE_ok (hng : NoNG P) {hk : Hook3} (hhk : HookOk3 P hk) (orc : Orc) (fid : FuncId) (c : Code) (wb : Wb) (k : Nat) (s : Ren) (x x' : St) (e : Exit) (a : Act) (w : World) (h : bodyE P hk orc fid c x = some (e, x')) (hm : Bnd k x'.m) (H : SR wb k s x a w) : c.wp P (Post wb k s x' e) a w :=
  exG_run accQ_eq hng (aOp_ok P hng) (drawE_ok P) (drawE_low P) hhk noLoop_low (noLoop_ok P) 100000 300 wb k s fid c x x' e a w (fun c' _ x x' e h => by cases h) h hm H
theorem bodyE_low {hk : Hook3} (orc : Orc) (fid : FuncId) (c : Code) (k : Nat) (x x' : St) (e : Exit) (h : bodyE P hk orc fid c x = some (e, x')) (hm : Bnd k x'.m) : Bnd k x.m :=
  exG_low (drawE_low P) noLoop_low 100000 k 300 fid c x x' e h hm
theorem hop_ok (hng : NoNG P) {hk : Hook3} (hhk : HookOk3 P hk) {orc : Orc} {fid : FuncId} {c : Code} {n : Nat} {t t' : List Value} {h h' : List AO} {mE : Mk} (hr : iterB (bodyE P hk orc fid c) n ⟨t, h, (none, [])⟩ = some ⟨t', h', mE⟩) : Hop P c n t h t' h' mE := by
  intro wb k hm s m a w H N Q hQ
  exact iterB_ok (bodyE_ok hng hhk orc fid c) wb k (bodyE_low orc fid c k) n ⟨t, h, (none, [])⟩ ⟨t', h', mE⟩ hr hm s a w ⟨H.t, H.d, H.h⟩ N Q fun s' a' w' hle H' => hQ s' a' w' hle ⟨H'.t, H'.d, H'.h⟩
theorem stop_ok (hng : NoNG P) {hk : Hook3} (hhk : HookOk3 P hk) {orc : Orc} {fid : FuncId} {c : Code} {n : Nat} {t t' : List Value} {h h' : List AO} {e : Exit} {mE : Mk} (hr : loopN (bodyE P hk orc fid c) n ⟨t, h, (none, [])⟩ = some (e, ⟨t', h', mE⟩)) : Stop P c n t h e t' h' mE := by
  intro wb k hm s m a w H m'
  have h1 := loopN_ok (bodyE_ok hng hhk orc fid c) wb k (bodyE_low orc fid c k) n ⟨t, h, (none, [])⟩ ⟨t', h', mE⟩ e hr hm s a w ⟨H.t, H.d, H.h⟩
  have mono : ∀ (n : Nat) (a : Act) (w : World), Code.rounds P c (Post wb k s ⟨t', h', mE⟩ e) n a w → Code.rounds P c (Post wb k s ⟨t', h', m'⟩ e) n a w := by
    intro n
    induction n with
    | zero => intro a w h; exact h
    | succ n ih =>
      intro a w h0
      rw [rounds_succ] at h0 ⊢
      refine Code.wp_mono (fun e' a' w' hp => ?_) h0
      cases e' <;> first | exact ih _ _ hp | exact ⟨hp.1, let ⟨s', h1, h2⟩ := hp.2; ⟨s', h1, ⟨h2.t, h2.d, h2.h⟩⟩⟩
  exact mono n a w h1
theorem Hop.stop {c : Code} {n N : Nat} {t t1 t2 : List Value} {h h1 h2 : List AO} {e : Exit} {m1 m2 : Mk} (a : Hop P c n t h t1 h1 m1) (b : Stop P c N t1 h1 e t2 h2 m2) : Stop P c (n + N) t h e t2 h2 (low m1 m2) := by
  intro wb k hm s m act w H m'
  refine a wb k (bnd_low hm).1 s m act w H N _ fun s' a' w' hle H' => ?_
  exact rounds_le hle N a' w' (b wb k (bnd_low hm).2 s' m a' w' H' m')
/-- A loop, from a state on to its end. -/
structure LoopT where
  f : FuncId
  t : List Value
  h : List AO
  e : Exit
  t' : List Value
  h' : List AO
  m : Mk
def eqAll (p : Value → Value → Bool) : List Value → List Value → Bool
  | [], [] => true
  | x :: xs, y :: ys => p x y && eqAll p xs ys
  | _, _ => false
theorem eqAll_ok {p : Value → Value → Bool} (hp : ∀ x y, p x y = true → x = y) : ∀ {xs ys : List Value}, eqAll p xs ys = true → xs = ys
  | [], [], _ => rfl
  | x :: xs, y :: ys, h => by
    simp only [eqAll, Bool.and_eq_true] at h
    rw [hp x y h.1, eqAll_ok hp h.2]
  | [], _ :: _, h => by cases h
  | _ :: _, [], h => by cases h
def eqD2 : Nat → Value → Value → Bool
  | 0, _, _ => false
  | n + 1, .agg ⟨a⟩, .agg ⟨b⟩ => eqAll (eqD2 n) a b
  | n + 1, .tuple ⟨a⟩, .tuple ⟨b⟩ => eqAll (eqD2 n) a b
  | _ + 1, x, y => eqI x y
theorem eqD2_ok : ∀ (n : Nat) (x y : Value), eqD2 n x y = true → x = y
  | 0, x, y, h => by simp [eqD2] at h
  | n + 1, x, y, h => by
    unfold eqD2 at h
    split at h
    · cases ‹_ + 1 = 0›
    · cases ‹_ + 1 = _ + 1›; rw [eqAll_ok (eqD2_ok _) h]
    · cases ‹_ + 1 = _ + 1›; rw [eqAll_ok (eqD2_ok _) h]
    · exact eqI_ok h
def eqHp : List AO → List AO → Bool
  | [], [] => true
  | o :: l, p :: h => (o.live == p.live && (eqEs o.es p.es && eqAll (eqD2 4) o.cs p.cs)) && eqHp l h
  | _, _ => false
theorem eqHp_ok : ∀ {l h : List AO}, eqHp l h = true → l = h
  | [], [], _ => rfl
  | o :: l, p :: h, hh => by
    simp only [eqHp, Bool.and_eq_true] at hh
    obtain ⟨⟨h1, h2, h3⟩, h4⟩ := hh
    obtain ⟨ol, oe, oc⟩ := o
    obtain ⟨pl, pe, pc⟩ := p
    simp only at h1 h2 h3
    rw [eq_of_beq h1, eqEs_ok h2, eqAll_ok (eqD2_ok 4) h3, eqHp_ok h4]
  | [], _ :: _, h => by cases h
  | _ :: _, [], h => by cases h
def LoopE.is (e : LoopT) (fid : FuncId) (x : St) : Bool := Nat.beq fid e.f && (Nat.beq x.h.length e.h.length && (eqAll (eqD2 4) x.t e.t && eqHp x.h e.h))
def loopHook : List LoopT → LoopHook
  | [] => fun _ _ _ => none
  | e :: l => fun fid c x => if LoopE.is e fid x then some (e.e, ⟨e.t', e.h', low x.m e.m⟩) else loopHook l fid c x
def LoopTOk (P : Program) (e : LoopT) : Prop := ∀ (fn : Func) (c : Code), P.funcs[e.f]? = some fn → fn.body = some c → ∀ c' ∈ loopsIn c,
  ∀ (wb : Wb) (k : Nat), Bnd k e.m → ∀ (s : Ren) (m m' : Mk) (a : Act) (w : World), SR wb k s ⟨e.t, e.h, m⟩ a w → (Code.loop c').wp P (Post wb k s ⟨e.t', e.h', m'⟩ e.e) a w
theorem loopHook_low : ∀ (l : List LoopT), LoopLow (loopHook l)
  | [] => by intro f c x x' e h; cases h
  | q :: l => by
    intro f c x x' e h k hm
    unfold loopHook at h
    split at h
    · cases h
      exact (bnd_low hm).1
    · exact loopHook_low l f c x x' e h k hm
theorem loopHook_ok : ∀ {l : List LoopT}, (∀ e ∈ l, LoopTOk P e) → LoopsOk P (loopHook l)
  | [], _ => by intro f fn c _ _ c' _ x x' e h; cases h
  | q :: l, hq => by
    intro f fn c hf hb c' hc x x' e h wb k s a w hm H
    unfold loopHook at h
    split at h
    · rename_i hi
      cases h
      unfold LoopE.is at hi
      simp only [Bool.and_eq_true] at hi
      obtain ⟨h1, _, h3, h4⟩ := hi
      obtain rfl := Nat.eq_of_beq_eq_true h1
      obtain ⟨xt, xh, xm⟩ := x
      obtain rfl := eqAll_ok (eqD2_ok 4) h3
      obtain rfl := eqHp_ok h4
      exact hq q List.mem_cons_self fn c hf hb c' hc wb k (bnd_low hm).2 s xm (low xm q.m) a w H
    · exact loopHook_ok (fun e he => hq e (List.mem_cons_of_mem _ he)) f fn c hf hb c' hc x x' e h wb k s a w hm H
/-- The loop of a function that has one. -/
def theLoop (P : Program) (f : FuncId) : Code :=
  match P.funcs[f]? with
  | some fn =>
    match fn.body with
    | some c =>
      match loopsIn c with
      | [c'] => c'
      | _ => .skip
    | none => .skip
  | none => .skip
def oneLoop (P : Program) (f : FuncId) : Bool :=
  match P.funcs[f]? with
  | some fn =>
    match fn.body with
    | some c =>
      match loopsIn c with
      | [_] => true
      | _ => false
    | none => false
  | none => false
theorem loopT_ok {e : LoopT} {n : Nat} (h1 : oneLoop P e.f = true) (hs : Stop P (theLoop P e.f) n e.t e.h e.e e.t' e.h' e.m) : LoopTOk P e := by
  intro fn c hf hb c' hc wb k hm s m m' a w H
  unfold oneLoop at h1
  unfold theLoop at hs
  rw [hf] at h1 hs
  simp only [hb] at h1 hs
  split at h1
  · rename_i c0 hl
    rw [hl] at hc hs
    rw [List.mem_singleton.1 hc]
    exact wp_loop_rounds n (hs wb k hm s m a w H m')
  · cases h1
/-- The blocks that a call of flat arguments lays, with loops that are told. -/
noncomputable def laysL (P : Program) (hk : Hook3) (orc : Orc) (lh : LoopHook) (L f : Nat) (q : Nat) (g : FuncId) (args : List Value) : Option (Value × List AO × Cs) :=
  match callA P ⟨exG P (aOp P) (drawE P) hk orc accQ lh L f, hk, fun _ _ => none, accQ⟩ g args (List.replicate q dead) with
  | some (v, h, m) =>
    if quietB q m.1 && (refF (fun x => decide (q ≤ x) && decide (x < q + (h.drop q).length)) 6 v && (h.drop q).all (refO fun x => decide (q ≤ x) && decide (x < q + (h.drop q).length))) then some (v, h.drop q, m.2) else none
  | none => none
theorem laysL_ok (hng : NoNG P) {hk : Hook3} (hhk : HookOk3 P hk) {lh : LoopHook} (hll : LoopLow lh) (hlo : LoopsOk P lh) {orc : Orc} {L f q : Nat} {g : FuncId} {args : List Value} {v : Value} {new : List AO} {cs : Cs} (ha : args.all flat = true) (hr : laysL P hk orc lh L f q g args = some (v, new, cs)) (hc : ∀ c ∈ cs, c.1 = c.2)
    {wb : Wb} {k : Nat} {s : Ren} {h : List AO} {w : World} (hq : h.length = q) (H : HR wb k s h w) : Calls P g ⟨args⟩ w (CallPost wb k s v (h ++ new)) := by
  unfold laysL at hr
  split at hr
  · rename_i v1 h1 m hca
    split at hr
    · rename_i hcond
      cases hr
      simp only [Bool.and_eq_true] at hcond
      obtain ⟨hq3, hrv, hro⟩ := hcond
      have HP := ((HR.init w).pad q).here
      rw [List.nil_append, List.length_replicate] at HP
      refine (callA_ok (exG_ok accQ_eq hng (aOp_ok P hng) (drawE_ok P) (drawE_low P) hhk hll hlo L f _) hca (wb := w) (k := q) ⟨quietB_ok hq3, hc⟩ (LR.ofFlat ha) HP).mono ?_
      rintro e w' ⟨s', v', rfl, _, H', hvr⟩
      have HD := H.pad (h1.drop q).length
      have hr1 : (h1.drop q).all (refO fun x => (fun _ => false) x || (decide (q ≤ x) && decide (x < q + (h1.drop q).length))) = true := by simpa using hro
      obtain ⟨H2, hle2, hok⟩ := HD.layNew (q := q) (bs := h1.drop q) (by simp only [List.length_append, List.length_replicate]; omega) (by have := H.kle; omega) (fun x hx1 _ => H.dom x (by omega))
        H' (fun x o ho => by rw [List.getElem?_drop] at ho; exact ho) (old := fun _ => false) (fun x hx => by cases hx) (fun x hx => by cases hx) hr1
      subst hq
      rw [layL_end] at H2
      refine ⟨_, v', rfl, hle2, H2, hvr.refs hok 6 ?_⟩
      simpa using hrv
    · cases hr
  · cases hr
theorem layL_mk (hng : NoNG P) {hk : Hook3} (hhk : HookOk3 P hk) {lh : LoopHook} (hll : LoopLow lh) (hlo : LoopsOk P lh) (e : LayCall) {cs : Cs} (ha : e.args.all flat = true) (hr : laysL P hk noOrc lh 100000 300 e.q e.f e.args = some (e.v, e.new, cs)) (hc : cs.map (·.1) = cs.map (·.2)) : LayOk P e :=
  fun _ _ _ _ _ hq H => laysL_ok hng hhk hll hlo ha hr (map_same hc) hq H
end
end Go.Proofs.Ytafegjmaldbbiaa.Ex
