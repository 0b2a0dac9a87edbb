/-
  Runs that the kernel reckons, part 8: what is reckoned of a call is so of any run of it.
-/
import Derived.Test.YthajaakoiclkbaaDoorEx7
namespace Go.Proofs.YthajaakoiclkbaaDoor.Ex
open Go Go.RowKit

section
variable {P : Program} {op : OpFn} {dr : DrawFn} {hk : FuncId → List Value → List AO → Option (Value × Cs)} {orc : Orc} {ac : Acc}

theorem post_le {wb : World} {k : Nat} {s t : Ren} (h : Le s t) {x : St} {e e' : Exit} {a : Act} {w : World} (hp : Post wb k t x e e' a w) : Post wb k s x e e' a w :=
  ⟨hp.1, let ⟨s', h1, h2⟩ := hp.2; ⟨s', h.trans h1, h2⟩⟩
theorem loopN_low {body : St → Option (Exit × St)} {k : Nat} (hl : ∀ (x x' : St) (e : Exit), body x = some (e, x') → Bnd k x'.m → Bnd k x.m) :
    ∀ (n : Nat) (x x' : St) (e : Exit), loopN body n x = some (e, x') → Bnd k x'.m → Bnd k x.m
  | 0, x, x', e, hr, _ => by simp [loopN] at hr
  | n + 1, x, x', e, hr, hm => by
    simp only [loopN] at hr
    split at hr
    · rename_i x1 h1
      exact hl x x1 .normal h1 (loopN_low hl n x1 x' e hr hm)
    · exact hl x x' e hr hm
theorem ex_low (hdl : DrawLow dr) (L : Nat) (k : Nat) : ∀ (f : Nat) (fid : FuncId) (c : Code) (x x' : St) (e : Exit), ex P op dr hk orc ac L f fid c x = some (e, x') → Bnd k x'.m → Bnd k x.m
  | 0, fid, c, x, x', e, hr, _ => by simp [ex] at hr
  | f + 1, fid, c, x, x', e, hr, hm => by
    have ih := ex_low hdl L k f fid
    cases c with
    | skip => simp [ex] at hr; obtain ⟨rfl, rfl⟩ := hr; exact hm
    | label l => simp [ex] at hr; obtain ⟨rfl, rfl⟩ := hr; exact hm
    | exit id => simp [ex] at hr; obtain ⟨rfl, rfl⟩ := hr; exact hm
    | ret => simp [ex] at hr; obtain ⟨rfl, rfl⟩ := hr; exact hm
    | region id ops draw =>
      cases draw with
      | false =>
        simp only [ex] at hr
        split at hr
        · rename_i x1 h1; cases hr; exact seqA_low h1 hm
        · cases hr
      | true =>
        simp only [ex] at hr
        split at hr
        · rename_i x1 h1; cases hr; exact hdl _ ops x _ h1 k hm
        · cases hr
    | seq c1 c2 =>
      simp only [ex] at hr
      split at hr
      · rename_i x1 h1; exact ih c1 x x1 _ h1 (ih c2 x1 x' e hr hm)
      · exact ih c1 x x' e hr hm
    | cond c a b =>
      simp only [ex] at hr
      split at hr
      · split at hr
        · exact ih a x x' e hr hm
        · exact ih b x x' e hr hm
        · cases hr
      · cases hr
    | block id c =>
      simp only [ex] at hr
      split at hr
      · rename_i i x1 h1
        split at hr
        · cases hr; exact ih c x _ _ h1 hm
        · cases hr; exact ih c x _ _ h1 hm
      · exact ih c x x' e hr hm
    | loop c => exact loopN_low (fun x x' e h => ih c x x' e h) L x x' e hr hm
    | scope c =>
      simp only [ex] at hr
      split at hr
      · cases hr
      · exact ih c x x' e hr hm
    | rangeFunc _ _ _ _ => simp [ex] at hr
    | goto _ => simp [ex] at hr
    | refuse _ => simp [ex] at hr

theorem loopN_ok {body : St → Option (Exit × St)} {c : Code}
    (hb : ∀ (wb : World) (k : Nat) (s : Ren) (x x' : St) (e : Exit) (a : Act) (w : World), body x = some (e, x') → Bnd k x'.m → SR wb k s x a w → c.wp P (Post wb k s x' e) a w)
    (wb : World) (k : Nat) (hl : ∀ (x x' : St) (e : Exit), body x = some (e, x') → Bnd k x'.m → Bnd k x.m) :
    ∀ (n : Nat) (x x' : St) (e : Exit), loopN body n x = some (e, x') → Bnd k x'.m → ∀ (s : Ren) (a : Act) (w : World), SR wb k s x a w → Code.rounds P c (Post wb k s x' e) n a w
  | 0, x, x', e, hr, _ => by simp [loopN] at hr
  | n + 1, x, x', e, hr, hm => by
    simp only [loopN] at hr
    split at hr
    · rename_i x1 h1
      have g1 := loopN_low hl n x1 x' e hr hm
      have g2 := loopN_ok hb wb k hl n x1 x' e hr hm
      intro s a w H
      rw [rounds_succ]
      refine Code.wp_mono ?_ (hb wb k s x x1 .normal a w h1 g1 H)
      rintro e' a' w' ⟨rfl, s', hle, H'⟩
      have g3 := g2 s' a' w' H'
      have mono : ∀ (n : Nat) (a : Act) (w : World), Code.rounds P c (Post wb k s' x' e) n a w → Code.rounds P c (Post wb k s x' e) n a w := by
        intro n
        induction n with
        | zero => intro a w h; exact h
        | succ n ih =>
          intro a w h
          rw [rounds_succ] at h ⊢
          refine Code.wp_mono (fun e' a' w' hp => ?_) h
          cases e' <;> first | exact ih _ _ hp | exact post_le hle hp
      exact mono n a' w' g3
    · rename_i r hne
      intro s a w H
      rw [rounds_succ]
      refine Code.wp_mono ?_ (hb wb k s x x' e a w hr hm H)
      rintro e' a' w' ⟨rfl, hp⟩
      have hne' : e' ≠ .normal := by
        intro he
        subst he
        exact hne x' hr
      cases e' <;> first | exact absurd rfl hne' | exact ⟨rfl, hp⟩

theorem ex_ok (hac : ac = accP) (hng : NoNG P) (hop : OpOk P op) (hdr : DrawOk P dr) (hdl : DrawLow dr) (hhk : HookOk2 P hk) (L : Nat) : ∀ (f : Nat), ∀ (g : Tmp → List Value → Option Value), RecOk P ⟨ex P op dr hk orc ac L f, hk, g, ac⟩
  | 0 => fun _ => ⟨by intro wb k s g c x x' e a w hr; simp [ex] at hr, hhk, hng, hac⟩
  | f + 1 => fun _ => by
    have ihr0 := ex_ok hac hng hop hdr hdl hhk L f
    refine ⟨?_, hhk, hng, hac⟩
    intro wb k s fid c x x' e a w hr hm H
    have ihr := ihr0 (orc fid)
    have ih0 := ihr.1
    simp only at hr ih0
    have ih := fun wb k s => ih0 wb k s fid
    have lo := ex_low (P := P) (op := op) (hk := hk) (orc := orc) (ac := ac) hdl L k f fid
    cases c with
    | skip => simp [ex] at hr; obtain ⟨rfl, rfl⟩ := hr; exact wp_skip ⟨rfl, s, Le.refl s, H⟩
    | label l => simp [ex] at hr; obtain ⟨rfl, rfl⟩ := hr; exact wp_label ⟨rfl, s, Le.refl s, H⟩
    | exit id => simp [ex] at hr; obtain ⟨rfl, rfl⟩ := hr; exact wp_exit ⟨rfl, s, Le.refl s, H⟩
    | ret => simp [ex] at hr; obtain ⟨rfl, rfl⟩ := hr; exact wp_ret ⟨rfl, s, Le.refl s, H⟩
    | region id ops draw =>
      cases draw with
      | false =>
        simp only [ex] at hr
        split at hr
        · rename_i x1 h1
          cases hr
          refine wp_region ?_
          have e1 : List.range ops.size = List.range' 0 ops.toList.length := by simp [List.range_eq_range']
          rw [e1, wpOps_eq_wpList ops.toList 0 (fun j => by simp)]
          exact seqA_ok hop ihr h1 hm H fun s' a' w' hle H' => ⟨rfl, s', hle, H'⟩
        · cases hr
      | true =>
        simp only [ex] at hr
        split at hr
        · rename_i x1 h1
          cases hr
          exact hdr _ ihr ops x _ h1 wb k s id a w hm H
        · cases hr
    | seq c1 c2 =>
      simp only [ex] at hr
      split at hr
      · rename_i x1 h1
        have hm1 : Bnd k x1.m := lo c2 x1 x' e hr hm
        refine wp_seq ?_
        refine Code.wp_mono ?_ (ih wb k s c1 x x1 .normal a w h1 hm1 H)
        rintro e' a' w' ⟨rfl, s', hle, H'⟩
        exact Code.wp_mono (fun _ _ _ hp => post_le hle hp) (ih wb k s' c2 x1 x' e a' w' hr hm H')
      · rename_i r hne
        refine wp_seq ?_
        refine Code.wp_mono ?_ (ih wb k s c1 x x' e a w hr hm H)
        rintro e' a' w' ⟨rfl, hp⟩
        cases e' <;> first | exact ⟨rfl, hp⟩ | exact absurd hr (hne _)
    | cond c c1 c2 =>
      simp only [ex] at hr
      split at hr
      · rename_i hok
        have hv := eval_ok H.t H.h.glob hok
        split at hr
        · rename_i hc
          rw [hc] at hv
          exact wp_cond_true hv.bool_inv (ih wb k s c1 x x' e a w hr hm H)
        · rename_i hc
          rw [hc] at hv
          exact wp_cond_false hv.bool_inv (ih wb k s c2 x x' e a w hr hm H)
        · cases hr
      · cases hr
    | block id c =>
      simp only [ex] at hr
      refine wp_block ?_
      split at hr
      · rename_i i x1 h1
        split at hr
        · rename_i hi
          cases hr
          refine Code.wp_mono ?_ (ih wb k s c x _ _ a w h1 hm H)
          rintro e' a' w' ⟨rfl, hp⟩
          simp only [Exit.inBlock, hi, if_true]
          exact ⟨rfl, hp⟩
        · rename_i hi
          cases hr
          refine Code.wp_mono ?_ (ih wb k s c x _ _ a w h1 hm H)
          rintro e' a' w' ⟨rfl, hp⟩
          simp only [Exit.inBlock, hi, if_false]
          exact ⟨rfl, hp⟩
      · rename_i r hne
        refine Code.wp_mono ?_ (ih wb k s c x x' e a w hr hm H)
        rintro e' a' w' ⟨rfl, hp⟩
        cases e' <;> first | exact ⟨rfl, hp⟩ | exact absurd hr (hne _ _)
    | loop c =>
      exact wp_loop_rounds L (loopN_ok (fun wb k s x x' e a w h1 h2 h3 => ih wb k s c x x' e a w h1 h2 h3) wb k (fun x x' e h => lo c x x' e h) L x x' e hr hm s a w H)
    | scope c =>
      simp only [ex] at hr
      refine wp_scope_straight ?_
      split at hr
      · cases hr
      · rename_i r hne
        refine Code.wp_mono ?_ (ih wb k s c x x' e a w hr hm H)
        rintro e' a' w' ⟨rfl, hp⟩
        cases e' <;> first | exact ⟨rfl, hp⟩ | exact absurd hr (hne _ _)
    | rangeFunc _ _ _ _ => simp [ex] at hr
    | goto _ => simp [ex] at hr
    | refuse _ => simp [ex] at hr

/-- A call whose arguments and whose answer hold no address. -/
theorem closed_call (hac : ac = accP) (hng : NoNG P) (hop : OpOk P op) (hdr : DrawOk P dr) (hdl : DrawLow dr) (hhk : HookOk2 P hk) (L f : Nat) {g : FuncId} {args : List Value} {v : Value} {h' : List AO} {m : Mk}
    (ha : args.all flat = true) (hv : flat v = true) {go : Tmp → List Value → Option Value} (hr : callA P ⟨ex P op dr hk orc ac L f, hk, go, ac⟩ g args [] = some (v, h', m)) (hc : ∀ c ∈ m.2, c.1 = c.2) (w : World) :
    Calls P g ⟨args⟩ w fun e w' => e = .returned v ∧ Gr w w' := by
  refine (callA_ok (ex_ok hac hng hop hdr hdl hhk L f go) hr (wb := w) (k := 0) (s := fun _ => none) ⟨fun i _ => Nat.zero_le i, hc⟩ (LR.ofFlat ha) (HR.init w)).mono ?_
  rintro e w' ⟨s', v', rfl, _, H, hvr⟩
  rw [hvr.eq_of_flat hv]
  exact ⟨rfl, H.grown⟩
end
end Go.Proofs.YthajaakoiclkbaaDoor.Ex
