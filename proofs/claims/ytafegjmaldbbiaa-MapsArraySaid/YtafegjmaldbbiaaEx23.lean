/-
  Runs that the kernel reckons, part 23: a loop told by an equation of its state; rounds within which loops are told.
-/
import Derived.Test.YtafegjmaldbbiaaEx19
namespace Go.Proofs.Ytafegjmaldbbiaa.Ex
open Go Go.RowKit
set_option linter.unusedVariables false
/-- A proposition as a pair: it must hold. -/
noncomputable def prP (p : Prop) : Int × Int := (b2i (@decide p (Classical.propDecidable p)), 1)
theorem prP_of {p : Prop} (h : (prP p).1 = (prP p).2) : p := by
  have h1 : @decide p (Classical.propDecidable p) = true := b2i_inj (b := true) h
  exact @of_decide_eq_true p (Classical.propDecidable p) h1
theorem prP_ok {p : Prop} (h : p) : (prP p).1 = (prP p).2 := by
  have h1 : @decide p (Classical.propDecidable p) = true := @decide_eq_true p (Classical.propDecidable p) h
  unfold prP
  rw [h1]
  rfl
/-- How many loops stand in a piece of code. -/
def nIn (c : Code) : Nat := (loopsIn c).length
/-- The number of the first region in a piece of code. -/
def regC : Code → Option Nat
  | .region i _ _ => some i
  | .seq a b => match regC a with | some i => some i | none => regC b
  | .cond _ a b => match regC a with | some i => some i | none => regC b
  | .block _ c => regC c
  | .loop c => regC c
  | .scope c => regC c
  | _ => none
/-- Is a loop the one that is named: by how many loops stand in it; from 1000 on by its first region. -/
def isN (c : Code) (n : Nat) : Bool := bif Nat.ble 1000 n then (match regC c with | some i => Nat.beq i (n - 1000) | none => false) else Nat.beq (nIn c) n
theorem loopsIn_trans : ∀ {b c c' : Code}, c ∈ loopsIn b → c' ∈ loopsIn c → c' ∈ loopsIn b := by
  intro b
  induction b with
  | seq x y hx hy => intro c c' h h'; simp only [loopsIn, List.mem_append] at h ⊢; exact h.imp (hx · h') (hy · h')
  | cond g x y hx hy => intro c c' h h'; simp only [loopsIn, List.mem_append] at h ⊢; exact h.imp (hx · h') (hy · h')
  | block i x hx => intro c c' h h'; simp only [loopsIn] at h ⊢; exact hx h h'
  | loop x hx =>
    intro c c' h h'
    simp only [loopsIn, List.mem_cons] at h ⊢
    rcases h with rfl | h
    · exact .inr h'
    · exact .inr (hx h h')
  | scope x hx => intro c c' h h'; simp only [loopsIn] at h ⊢; exact hx h h'
  | _ => intro c c' h h'; simp [loopsIn] at h
/-- A loop, from a state on to its end: the one of its function in which so many loops stand. -/
structure LoopQ where
  f : FuncId
  n : Nat
  sel : St → Bool
  t : List Value
  h : List AO
  e : Exit
  t' : List Value
  h' : List AO
  m : Mk
noncomputable def loopQHook : List LoopQ → LoopHook
  | [] => fun _ _ _ => none
  | e :: l => fun fid c x =>
    if Nat.beq fid e.f && (isN c e.n && e.sel x) then some (e.e, ⟨e.t', e.h', low x.m (low (none, [prP (x.t = e.t), prP (x.h = e.h)]) e.m)⟩)
    else loopQHook l fid c x
def LoopQOk (P : Program) (e : LoopQ) : Prop := ∀ (fn : Func) (c : Code), P.funcs[e.f]? = some fn → fn.body = some c → ∀ c' ∈ loopsIn c, isN c' e.n = true →
  ∀ (wb : Wb) (k : Nat), Bnd k e.m → ∀ (s : Ren) (m m' : Mk) (a : Act) (w : World), SR wb k s ⟨e.t, e.h, m⟩ a w → (Code.loop c').wp P (Post wb k s ⟨e.t', e.h', m'⟩ e.e) a w
theorem loopQHook_low : ∀ (l : List LoopQ), LoopLow (loopQHook l)
  | [] => by intro f c x x' e h; cases h
  | q :: l => by
    intro f c x x' e h k hm
    unfold loopQHook at h
    split at h
    · cases h
      exact (bnd_low hm).1
    · exact loopQHook_low l f c x x' e h k hm
theorem loopQHook_ok {P : Program} : ∀ {l : List LoopQ}, (∀ e ∈ l, LoopQOk P e) → LoopsOk P (loopQHook l)
  | [], _ => by intro f fn c _ _ c' _ x x' e h; cases h
  | q :: l, hq => by
    intro f fn c hf hb c' hc x x' e h wb k s a w hm H
    unfold loopQHook at h
    split at h
    · rename_i hi
      cases h
      simp only [Bool.and_eq_true] at hi
      obtain ⟨h1, h2, h3⟩ := hi
      obtain rfl := Nat.eq_of_beq_eq_true h1
      obtain ⟨xt, xh, xm⟩ := x
      obtain ⟨hm1, hm2⟩ := bnd_low hm
      obtain ⟨hm3, hm4⟩ := bnd_low hm2
      have e1 : xt = q.t := prP_of (hm3.2 _ List.mem_cons_self)
      have e2 : xh = q.h := prP_of (hm3.2 _ (List.mem_cons_of_mem _ List.mem_cons_self))
      subst e1 e2
      exact hq q List.mem_cons_self fn c hf hb c' hc h2 wb k hm4 s xm _ a w H
    · exact loopQHook_ok (fun e he => hq e (List.mem_cons_of_mem _ he)) f fn c hf hb c' hc x x' e h wb k s a w hm H
/-- The loop of a function in which so many loops stand. -/
def loopsN (P : Program) (f : FuncId) (n : Nat) : List Code :=
  match P.funcs[f]? with
  | some fn =>
    match fn.body with
    | some c => (loopsIn c).filter fun c' => isN c' n
    | none => []
  | none => []
def theLoopN (P : Program) (f : FuncId) (n : Nat) : Code :=
  match loopsN P f n with
  | [c'] => c'
  | _ => .skip
def oneLoopN (P : Program) (f : FuncId) (n : Nat) : Bool :=
  match loopsN P f n with
  | [_] => true
  | _ => false
section
variable {P : Program}
theorem loopQ_ok {e : LoopQ} {N : Nat} (h1 : oneLoopN P e.f e.n = true) (hs : Stop P (theLoopN P e.f e.n) N e.t e.h e.e e.t' e.h' e.m) : LoopQOk P e := by
  intro fn c hf hb c' hc hn wb k hm s m m' a w H
  unfold oneLoopN at h1
  unfold theLoopN at hs
  have hmem : c' ∈ loopsN P e.f e.n := by
    unfold loopsN
    rw [hf]
    simp only [hb]
    exact List.mem_filter.2 ⟨hc, hn⟩
  split at h1
  · rename_i c0 hl
    rw [hl] at hmem hs
    rw [List.mem_singleton.1 hmem]
    exact wp_loop_rounds N (hs wb k hm s m a w H m')
  · cases h1
theorem loopV_of {lh : LoopHook} (hlo : LoopsOk P lh) {f : FuncId} {n : Nat} (h1 : oneLoopN P f n = true) : ∀ c' ∈ loopsIn (theLoopN P f n), LoopV P lh f c' := by
  unfold oneLoopN at h1
  unfold theLoopN
  split at h1
  · rename_i c0 hl
    intro c' hc
    have hmem : c0 ∈ loopsN P f n := by rw [hl]; exact List.mem_singleton.2 rfl
    unfold loopsN at hmem
    split at hmem
    · rename_i fn hf
      split at hmem
      · rename_i b hb
        exact hlo f fn b hf hb c' (loopsIn_trans (List.mem_filter.1 hmem).1 hc)
      · cases hmem
    · cases hmem
  · cases h1
noncomputable def bodyL (P : Program) (hk : Hook3) (orc : Orc) (lh : LoopHook) (fid : FuncId) (c : Code) : St → Option (Exit × St) := exG P (aOp P) (drawE P) hk orc accQ lh 100000 300 fid c
theorem bodyL_ok (hng : NoNG P) {hk : Hook3} (hhk : HookOk3 P hk) {lh : LoopHook} (hll : LoopLow lh) (hlo : LoopsOk P lh) (orc : Orc) (fid : FuncId) (c : Code) (hv : ∀ c' ∈ loopsIn c, LoopV P lh fid c') (wb : Wb) (k : Nat) (s : Ren) (x x' : St) (e : Exit) (a : Act) (w : World) (h : bodyL P hk orc lh fid c x = some (e, x')) (hm : Bnd k x'.m) (H : SR wb k s x a w) : c.wp P (Post wb k s x' e) a w :=
  exG_run accQ_eq hng (aOp_ok P hng) (drawE_ok P) (drawE_low P) hhk hll hlo 100000 300 wb k s fid c x x' e a w hv h hm H
theorem bodyL_low {hk : Hook3} (orc : Orc) {lh : LoopHook} (hll : LoopLow lh) (fid : FuncId) (c : Code) (k : Nat) (x x' : St) (e : Exit) (h : bodyL P hk orc lh fid c x = some (e, x')) (hm : Bnd k x'.m) : Bnd k x.m :=
  exG_low (drawE_low P) hll 100000 k 300 fid c x x' e h hm
noncomputable def hopRunL (P : Program) (hk : Hook3) (orc : Orc) (lh : LoopHook) (fid : FuncId) (c : Code) (n q : Nat) (keep : List Nat) (t : List Value) (h : List AO) : Option (List Value × List AO × Option Nat × List Int) :=
  match iterB (bodyL P hk orc lh fid c) n ⟨t, h, (none, [])⟩ with
  | some x => keepS q keep x
  | none => none
theorem hopL_ok (hng : NoNG P) {hk : Hook3} (hhk : HookOk3 P hk) {lh : LoopHook} (hll : LoopLow lh) (hlo : LoopsOk P lh) {orc : Orc} {fid : FuncId} {nn : Nat} (h1 : oneLoopN P fid nn = true) {n q : Nat} (keep : List Nat) {t t2 : List Value} {h h2 : List AO} {lo : Option Nat} {cs : Cs}
    (hr : hopRunL P hk orc lh fid (theLoopN P fid nn) n q keep t h = some (t2.map (reV (keepF q keep) 6), h2.map (reO (keepF q keep)), lo, inter cs)) (hb : hopC t2 h2 = true) (hc : ∀ c ∈ cs, c.1 = c.2) : HopQ P (theLoopN P fid nn) n q t h t2 h2 (lo, []) := by
  unfold hopRunL at hr
  split at hr
  · rename_i x hx
    obtain ⟨hm2, hk2⟩ := keepS_ok hr hb
    intro wb k hm hkq s m a w H N Q hQ
    refine iterB_ok (bodyL_ok hng hhk hll hlo orc fid _ (loopV_of hlo h1)) wb k (bodyL_low orc hll fid _ k) n ⟨t, h, (none, [])⟩ x hx (by rw [hm2]; exact ⟨hm.1, hc⟩) s a w ⟨H.t, H.d, H.h⟩ N Q fun s' a' w' hle H' => ?_
    obtain ⟨s2, h1, h3⟩ := hk2 wb k s' m a' w' hkq H'
    exact hQ s2 a' w' (fun i p hi hp => h1 i p hi (hle i p hp)) h3
  · cases hr
noncomputable def stopRunL (P : Program) (hk : Hook3) (orc : Orc) (lh : LoopHook) (fid : FuncId) (c : Code) (n q : Nat) (keep : List Nat) (t : List Value) (h : List AO) : Option (Exit × Option (List Value × List AO × Option Nat × List Int)) :=
  match loopN (bodyL P hk orc lh fid c) n ⟨t, h, (none, [])⟩ with
  | some (e, x) => some (e, keepS q keep x)
  | none => none
theorem stopL_any {body : St → Option (Exit × St)} {c : Code}
    (hb : ∀ (wb : Wb) (k : Nat) (s : Ren) (x x' : St) (e : Exit) (a : Act) (w : World), body x = some (e, x') → Bnd k x'.m → SR wb k s x a w → c.wp P (Post wb k s x' e) a w)
    (hl : ∀ (k : Nat) (x x' : St) (e : Exit), body x = some (e, x') → Bnd k x'.m → Bnd k x.m) {n : Nat} {t t' : List Value} {h h' : List AO} {e : Exit} {mE : Mk} (hr : loopN body n ⟨t, h, (none, [])⟩ = some (e, ⟨t', h', mE⟩)) : Stop P c n t h e t' h' mE := by
  intro wb k hm s m a w H m'
  have h1 := loopN_ok hb wb k (hl k) n ⟨t, h, (none, [])⟩ ⟨t', h', mE⟩ e hr hm s a w ⟨H.t, H.d, H.h⟩
  have mono : ∀ (n : Nat) (a : Act) (w : World), Code.rounds P c (Post wb k s ⟨t', h', mE⟩ e) n a w → Code.rounds P c (Post wb k s ⟨t', h', m'⟩ e) n a w := by
    intro n
    induction n with
    | zero => intro a w h; exact h
    | succ n ih =>
      intro a w h0
      rw [rounds_succ] at h0 ⊢
      refine Code.wp_mono (fun e' a' w' hp => ?_) h0
      cases e' <;> first | exact ih _ _ hp | exact ⟨hp.1, let ⟨s', h1, h2⟩ := hp.2; ⟨s', h1, ⟨h2.t, h2.d, h2.h⟩⟩⟩
  exact mono n a w h1
theorem stopL_ok (hng : NoNG P) {hk : Hook3} (hhk : HookOk3 P hk) {lh : LoopHook} (hll : LoopLow lh) (hlo : LoopsOk P lh) {orc : Orc} {fid : FuncId} {nn : Nat} (h1 : oneLoopN P fid nn = true) {n q : Nat} (keep : List Nat) {t t2 : List Value} {h h2 : List AO} {e : Exit} {lo : Option Nat} {cs : Cs}
    (hr : stopRunL P hk orc lh fid (theLoopN P fid nn) n q keep t h = some (e, some (t2.map (reV (keepF q keep) 6), h2.map (reO (keepF q keep)), lo, inter cs))) (hb : hopC t2 h2 = true) (hc : ∀ c ∈ cs, c.1 = c.2) : StopQ P (theLoopN P fid nn) n q t h e t2 h2 (lo, []) := by
  unfold stopRunL at hr
  split at hr
  · rename_i e1 x hx
    simp only [Option.some.injEq, Prod.mk.injEq] at hr
    obtain ⟨rfl, hr⟩ := hr
    obtain ⟨hm2, hk2⟩ := keepS_ok hr hb
    intro wb k hm hkq s m a w H m'
    obtain ⟨xt, xh, xm⟩ := x
    have st := stopL_any (bodyL_ok hng hhk hll hlo orc fid _ (loopV_of hlo h1)) (bodyL_low orc hll fid _) hx wb k (by rw [show xm = (lo, cs) from hm2]; exact ⟨hm.1, hc⟩) s m a w H xm
    exact rounds_mono (fun e' a' w' hp => ⟨hp.1, let ⟨s', h1, h2⟩ := hp.2; let ⟨s2, h3, h4⟩ := hk2 wb k s' m' a' w' hkq h2; ⟨s2, fun i p hi hq => h3 i p hi (h1 i p hq), h4⟩⟩) n a w st
  · cases hr
end
end Go.Proofs.Ytafegjmaldbbiaa.Ex
