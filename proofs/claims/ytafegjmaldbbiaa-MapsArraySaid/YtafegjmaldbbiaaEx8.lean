/-
  Runs that the kernel reckons, part 8: what is reckoned of a call is so of any run of it.
-/
import Derived.Test.YtafegjmaldbbiaaEx7
namespace Go.Proofs.Ytafegjmaldbbiaa.Ex
open Go Go.RowKit

section
variable {P : Program} {op : OpFn} {dr : DrawFn} {hk : Hook3} {orc : Orc} {ac : Acc}

theorem post_le {wb : Wb} {k : Nat} {s t : Ren} (h : Le s t) {x : St} {e e' : Exit} {a : Act} {w : World} (hp : Post wb k t x e e' a w) : Post wb k s x e e' a w :=
  ⟨hp.1, let ⟨s', h1, h2⟩ := hp.2; ⟨s', h.trans h1, h2⟩⟩
theorem loopN_low {body : St → Option (Exit × St)} {k : Nat} (hl : ∀ (x x' : St) (e : Exit), body x = some (e, x') → Bnd k x'.m → Bnd k x.m) :
    ∀ (n : Nat) (x x' : St) (e : Exit), loopN body n x = some (e, x') → Bnd k x'.m → Bnd k x.m
  | 0, x, x', e, hr, _ => by simp [loopN] at hr
  | n + 1, x, x', e, hr, hm => by
    simp only [loopN] at hr
    split at hr
    · rename_i x1 h1
      exact hl x x1 .normal h1 (loopN_low hl n x1 x' e hr hm)
    · exact hl x x' e hr hm
/-- Whatever stands behind such a loop leaves what it asks for. -/
def LoopLow (lh : LoopHook) : Prop := ∀ (f : FuncId) (c : Code) (x x' : St) (e : Exit), lh f c x = some (e, x') → ∀ (k : Nat), Bnd k x'.m → Bnd k x.m
/-- What is told of a loop is so of any run of it. -/
def LoopV (P : Program) (lh : LoopHook) (f : FuncId) (c : Code) : Prop :=
  ∀ (x x' : St) (e : Exit), lh f c x = some (e, x') → ∀ (wb : Wb) (k : Nat) (s : Ren) (a : Act) (w : World), Bnd k x'.m → SR wb k s x a w → (Code.loop c).wp P (Post wb k s x' e) a w
/-- The loops of a piece of code. -/
def loopsIn : Code → List Code
  | .seq a b => loopsIn a ++ loopsIn b
  | .cond _ a b => loopsIn a ++ loopsIn b
  | .block _ c => loopsIn c
  | .loop c => c :: loopsIn c
  | .scope c => loopsIn c
  | _ => []
def LoopsOk (P : Program) (lh : LoopHook) : Prop := ∀ (f : FuncId) (fn : Func) (c : Code), P.funcs[f]? = some fn → fn.body = some c → ∀ c' ∈ loopsIn c, LoopV P lh f c'
theorem noLoop_low : LoopLow noLoop := by intro f c x x' e h; cases h
theorem noLoop_ok (P : Program) : LoopsOk P noLoop := by intro f fn c _ _ c' _ x x' e h; cases h
theorem exG_low (hdl : DrawLow dr) {lh : LoopHook} (hll : LoopLow lh) (L : Nat) (k : Nat) : ∀ (f : Nat) (fid : FuncId) (c : Code) (x x' : St) (e : Exit), exG P op dr hk orc ac lh L f fid c x = some (e, x') → Bnd k x'.m → Bnd k x.m
  | 0, fid, c, x, x', e, hr, _ => by simp [exG] at hr
  | f + 1, fid, c, x, x', e, hr, hm => by
    have ih := exG_low hdl hll L k f fid
    cases c with
    | skip => simp [exG] at hr; obtain ⟨rfl, rfl⟩ := hr; exact hm
    | label l => simp [exG] at hr; obtain ⟨rfl, rfl⟩ := hr; exact hm
    | exit id => simp [exG] at hr; obtain ⟨rfl, rfl⟩ := hr; exact hm
    | ret => simp [exG] at hr; obtain ⟨rfl, rfl⟩ := hr; exact hm
    | region id ops draw =>
      cases draw with
      | false =>
        simp only [exG] at hr
        split at hr
        · rename_i x1 h1; cases hr; exact seqA_low h1 hm
        · cases hr
      | true =>
        simp only [exG] at hr
        split at hr
        · rename_i x1 h1; cases hr; exact hdl _ ops x _ h1 k hm
        · cases hr
    | seq c1 c2 =>
      simp only [exG] at hr
      split at hr
      · rename_i x1 h1; exact ih c1 x x1 _ h1 (ih c2 x1 x' e hr hm)
      · exact ih c1 x x' e hr hm
    | cond c a b =>
      simp only [exG] at hr
      split at hr
      · split at hr
        · exact ih a x x' e hr hm
        · exact ih b x x' e hr hm
        · cases hr
      · cases hr
    | block id c =>
      simp only [exG] at hr
      split at hr
      · rename_i i x1 h1
        split at hr
        · cases hr; exact ih c x _ _ h1 hm
        · cases hr; exact ih c x _ _ h1 hm
      · exact ih c x x' e hr hm
    | loop c =>
      simp only [exG] at hr
      split at hr
      · rename_i r h1
        cases hr
        exact hll fid c x _ _ h1 k hm
      · exact loopN_low (fun x x' e h => ih c x x' e h) L x x' e hr hm
    | scope c =>
      simp only [exG] at hr
      split at hr
      · cases hr
      · exact ih c x x' e hr hm
    | rangeFunc _ _ _ _ => simp [exG] at hr
    | goto _ => simp [exG] at hr
    | refuse _ => simp [exG] at hr

theorem loopN_ok {body : St → Option (Exit × St)} {c : Code}
    (hb : ∀ (wb : Wb) (k : Nat) (s : Ren) (x x' : St) (e : Exit) (a : Act) (w : World), body x = some (e, x') → Bnd k x'.m → SR wb k s x a w → c.wp P (Post wb k s x' e) a w)
    (wb : Wb) (k : Nat) (hl : ∀ (x x' : St) (e : Exit), body x = some (e, x') → Bnd k x'.m → Bnd k x.m) :
    ∀ (n : Nat) (x x' : St) (e : Exit), loopN body n x = some (e, x') → Bnd k x'.m → ∀ (s : Ren) (a : Act) (w : World), SR wb k s x a w → Code.rounds P c (Post wb k s x' e) n a w
  | 0, x, x', e, hr, _ => by simp [loopN] at hr
  | n + 1, x, x', e, hr, hm => by
    simp only [loopN] at hr
    split at hr
    · rename_i x1 h1
      have g1 := loopN_low hl n x1 x' e hr hm
      have g2 := loopN_ok hb wb k hl n x1 x' e hr hm
      intro s a w H
      rw [rounds_succ]
      refine Code.wp_mono ?_ (hb wb k s x x1 .normal a w h1 g1 H)
      rintro e' a' w' ⟨rfl, s', hle, H'⟩
      have g3 := g2 s' a' w' H'
      have mono : ∀ (n : Nat) (a : Act) (w : World), Code.rounds P c (Post wb k s' x' e) n a w → Code.rounds P c (Post wb k s x' e) n a w := by
        intro n
        induction n with
        | zero => intro a w h; exact h
        | succ n ih =>
          intro a w h
          rw [rounds_succ] at h ⊢
          refine Code.wp_mono (fun e' a' w' hp => ?_) h
          cases e' <;> first | exact ih _ _ hp | exact post_le hle hp
      exact mono n a' w' g3
    · rename_i r hne
      intro s a w H
      rw [rounds_succ]
      refine Code.wp_mono ?_ (hb wb k s x x' e a w hr hm H)
      rintro e' a' w' ⟨rfl, hp⟩
      have hne' : e' ≠ .normal := by
        intro he
        subst he
        exact hne x' hr
      cases e' <;> first | exact absurd rfl hne' | exact ⟨rfl, hp⟩

theorem exG_run (hac : ac = accP) (hng : NoNG P) (hop : OpOk P op) (hdr : DrawOk P dr) (hdl : DrawLow dr) (hhk : HookOk3 P hk) {lh : LoopHook} (hll : LoopLow lh) (hlo : LoopsOk P lh) (L : Nat) : ∀ (f : Nat) (wb : Wb) (k : Nat) (s : Ren) (fid : FuncId) (c : Code) (x x' : St) (e : Exit) (a : Act) (w : World),
    (∀ c' ∈ loopsIn c, LoopV P lh fid c') → exG P op dr hk orc ac lh L f fid c x = some (e, x') → Bnd k x'.m → SR wb k s x a w → c.wp P (Post wb k s x' e) a w
  | 0 => by intro wb k s g c x x' e a w _ hr; simp [exG] at hr
  | f + 1 => by
    have ihr0 := exG_run hac hng hop hdr hdl hhk hll hlo L f
    intro wb k s fid c x x' e a w hg hr hm H
    have ihr : RecOk P ⟨exG P op dr hk orc ac lh L f, hk, orc fid, ac⟩ := ⟨⟨fun fid c => ∀ c' ∈ loopsIn c, LoopV P lh fid c', hlo, ihr0⟩, hhk, hng, hac⟩
    have ih0 := ihr0
    have ih := fun wb k s => ih0 wb k s fid
    have lo := exG_low (P := P) (op := op) (hk := hk) (orc := orc) (ac := ac) hdl hll L k f fid
    cases c with
    | skip => simp [exG] at hr; obtain ⟨rfl, rfl⟩ := hr; exact wp_skip ⟨rfl, s, Le.refl s, H⟩
    | label l => simp [exG] at hr; obtain ⟨rfl, rfl⟩ := hr; exact wp_label ⟨rfl, s, Le.refl s, H⟩
    | exit id => simp [exG] at hr; obtain ⟨rfl, rfl⟩ := hr; exact wp_exit ⟨rfl, s, Le.refl s, H⟩
    | ret => simp [exG] at hr; obtain ⟨rfl, rfl⟩ := hr; exact wp_ret ⟨rfl, s, Le.refl s, H⟩
    | region id ops draw =>
      cases draw with
      | false =>
        simp only [exG] at hr
        split at hr
        · rename_i x1 h1
          cases hr
          refine wp_region ?_
          have e1 : List.range ops.size = List.range' 0 ops.toList.length := by simp [List.range_eq_range']
          rw [e1, wpOps_eq_wpList ops.toList 0 (fun j => by simp)]
          exact seqA_ok hop ihr h1 hm H fun s' a' w' hle H' => ⟨rfl, s', hle, H'⟩
        · cases hr
      | true =>
        simp only [exG] at hr
        split at hr
        · rename_i x1 h1
          cases hr
          exact hdr _ ihr ops x _ h1 wb k s id a w hm H
        · cases hr
    | seq c1 c2 =>
      simp only [exG] at hr
      split at hr
      · rename_i x1 h1
        have hm1 : Bnd k x1.m := lo c2 x1 x' e hr hm
        refine wp_seq ?_
        refine Code.wp_mono ?_ (ih wb k s c1 x x1 .normal a w (fun c' h => hg c' (List.mem_append_left _ h)) h1 hm1 H)
        rintro e' a' w' ⟨rfl, s', hle, H'⟩
        exact Code.wp_mono (fun _ _ _ hp => post_le hle hp) (ih wb k s' c2 x1 x' e a' w' (fun c' h => hg c' (List.mem_append_right _ h)) hr hm H')
      · rename_i r hne
        refine wp_seq ?_
        refine Code.wp_mono ?_ (ih wb k s c1 x x' e a w (fun c' h => hg c' (List.mem_append_left _ h)) hr hm H)
        rintro e' a' w' ⟨rfl, hp⟩
        cases e' <;> first | exact ⟨rfl, hp⟩ | exact absurd hr (hne _)
    | cond c c1 c2 =>
      simp only [exG] at hr
      split at hr
      · rename_i hok
        have hv := eval_ok H.t H.h.glob hok
        split at hr
        · rename_i hc
          rw [hc] at hv
          exact wp_cond_true hv.bool_inv (ih wb k s c1 x x' e a w (fun c' h => hg c' (List.mem_append_left _ h)) hr hm H)
        · rename_i hc
          rw [hc] at hv
          exact wp_cond_false hv.bool_inv (ih wb k s c2 x x' e a w (fun c' h => hg c' (List.mem_append_right _ h)) hr hm H)
        · cases hr
      · cases hr
    | block id c =>
      simp only [exG] at hr
      refine wp_block ?_
      split at hr
      · rename_i i x1 h1
        split at hr
        · rename_i hi
          cases hr
          refine Code.wp_mono ?_ (ih wb k s c x _ _ a w hg h1 hm H)
          rintro e' a' w' ⟨rfl, hp⟩
          simp only [Exit.inBlock, hi, if_true]
          exact ⟨rfl, hp⟩
        · rename_i hi
          cases hr
          refine Code.wp_mono ?_ (ih wb k s c x _ _ a w hg h1 hm H)
          rintro e' a' w' ⟨rfl, hp⟩
          simp only [Exit.inBlock, hi, if_false]
          exact ⟨rfl, hp⟩
      · rename_i r hne
        refine Code.wp_mono ?_ (ih wb k s c x x' e a w hg hr hm H)
        rintro e' a' w' ⟨rfl, hp⟩
        cases e' <;> first | exact ⟨rfl, hp⟩ | exact absurd hr (hne _ _)
    | loop c =>
      simp only [exG] at hr
      split at hr
      · rename_i r h1
        cases hr
        exact hg c List.mem_cons_self x _ _ h1 wb k s a w hm H
      · exact wp_loop_rounds L (loopN_ok (fun wb k s x x' e a w h1 h2 h3 => ih wb k s c x x' e a w (fun c' h => hg c' (List.mem_cons_of_mem _ h)) h1 h2 h3) wb k (fun x x' e h => lo c x x' e h) L x x' e hr hm s a w H)
    | scope c =>
      simp only [exG] at hr
      refine wp_scope_straight ?_
      split at hr
      · cases hr
      · rename_i r hne
        refine Code.wp_mono ?_ (ih wb k s c x x' e a w hg hr hm H)
        rintro e' a' w' ⟨rfl, hp⟩
        cases e' <;> first | exact ⟨rfl, hp⟩ | exact absurd hr (hne _ _)
    | rangeFunc _ _ _ _ => simp [exG] at hr
    | goto _ => simp [exG] at hr
    | refuse _ => simp [exG] at hr

theorem exG_ok (hac : ac = accP) (hng : NoNG P) (hop : OpOk P op) (hdr : DrawOk P dr) (hdl : DrawLow dr) (hhk : HookOk3 P hk) {lh : LoopHook} (hll : LoopLow lh) (hlo : LoopsOk P lh) (L : Nat) (f : Nat) (g : Tmp → List Value → Option Value) : RecOk P ⟨exG P op dr hk orc ac lh L f, hk, g, ac⟩ :=
  ⟨⟨fun fid c => ∀ c' ∈ loopsIn c, LoopV P lh fid c', hlo, exG_run hac hng hop hdr hdl hhk hll hlo L f⟩, hhk, hng, hac⟩
theorem ex_ok (hac : ac = accP) (hng : NoNG P) (hop : OpOk P op) (hdr : DrawOk P dr) (hdl : DrawLow dr) (hhk : HookOk3 P hk) (L : Nat) (f : Nat) (g : Tmp → List Value → Option Value) : RecOk P ⟨ex P op dr hk orc ac L f, hk, g, ac⟩ :=
  exG_ok hac hng hop hdr hdl hhk noLoop_low (noLoop_ok P) L f g

/-- A call whose arguments and whose answer hold no address. -/
theorem closed_call (hac : ac = accP) (hng : NoNG P) (hop : OpOk P op) (hdr : DrawOk P dr) (hdl : DrawLow dr) (hhk : HookOk3 P hk) (L f : Nat) {g : FuncId} {args : List Value} {v : Value} {h' : List AO} {m : Mk}
    (ha : args.all flat = true) (hv : flat v = true) {go : Tmp → List Value → Option Value} (hr : callA P ⟨ex P op dr hk orc ac L f, hk, go, ac⟩ g args [] = some (v, h', m)) (hc : ∀ c ∈ m.2, c.1 = c.2) (w : World) :
    Calls P g ⟨args⟩ w fun e w' => e = .returned v ∧ Gr w w' := by
  refine (callA_ok (ex_ok hac hng hop hdr hdl hhk L f go) hr (wb := w) (k := 0) (s := fun _ => none) ⟨fun i _ => Nat.zero_le i, hc⟩ (LR.ofFlat ha) (HR.init w)).mono ?_
  rintro e w' ⟨s', v', rfl, _, H, hvr⟩
  rw [hvr.eq_of_flat hv]
  exact ⟨rfl, H.grown.gr⟩
end
end Go.Proofs.Ytafegjmaldbbiaa.Ex
