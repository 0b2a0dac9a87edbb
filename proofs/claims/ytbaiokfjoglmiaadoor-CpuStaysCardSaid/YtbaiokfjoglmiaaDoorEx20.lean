/-
  Runs that the kernel reckons, part 20: loops told by patterns, in which functions may stand.
-/
import Derived.Test.YtbaiokfjoglmiaaDoorEx19
namespace Go.Proofs.YtbaiokfjoglmiaaDoor.Ex
open Go Go.RowKit
set_option linter.unusedVariables false
def sameB (cs : Cs) : Bool := cs.all fun c => c.1 == c.2
theorem sameB_ok {cs : Cs} (h : sameB cs = true) : ∀ c ∈ cs, c.1 = c.2 := fun c hc => eq_of_beq (List.all_eq_true.1 h c hc)
/-- A call of flat arguments as an entry of a table: its pairs are closed. -/
theorem layL_mk2 {P : Program} (hng : NoNG P) {hk : Hook3} (hhk : HookOk3 P hk) {lh : LoopHook} (hll : LoopLow lh) (hlo : LoopsOk P lh) (orc : Orc) (e : LayCall) (ha : e.args.all flat = true)
    (hr : ((laysL P hk orc lh 100000 300 e.q e.f e.args).map fun r => (r.1, r.2.1, sameB r.2.2)) = some (e.v, e.new, true)) : LayOk P e := by
  intro wb k s h w hq H
  cases hx : laysL P hk orc lh 100000 300 e.q e.f e.args with
  | none => rw [hx] at hr; cases hr
  | some r =>
    obtain ⟨v, new, cs⟩ := r
    rw [hx] at hr
    simp only [Option.map_some, Option.some.injEq, Prod.mk.injEq] at hr
    obtain ⟨h1, h2, h3⟩ := hr
    subst h1 h2
    exact laysL_ok hng hhk hll hlo ha hx (sameB_ok h3) hq H
def eqF : Value → Value → Bool
  | .func (.func f) a b, .func (.func g) c d => Nat.beq f g && (a.toList.isEmpty && (b.toList.isEmpty && (c.toList.isEmpty && d.toList.isEmpty)))
  | x, y => eqI x y
theorem eqF_ok {x y : Value} (h : eqF x y = true) : x = y := by
  unfold eqF at h
  split at h
  · rename_i f a b g c d
    simp only [Bool.and_eq_true, List.isEmpty_iff] at h
    obtain ⟨h1, h2, h3, h4, h5⟩ := h
    rw [Nat.eq_of_beq_eq_true h1, arr_ext (h2.trans h4.symm), arr_ext (h3.trans h5.symm)]
  · exact eqI_ok h
def matchW : Nat → Value → Value → Option Bs
  | 0, _, _ => none
  | n + 1, p, v =>
    match holeOf p with
    | some (j, k) =>
      match v with
      | .int k' m => if Nat.beq (kIx k') (kIx k) then some [(j, m)] else none
      | _ => none
    | none =>
      match p, v with
      | .agg a, .agg b => matchL (matchW n) a.toList b.toList
      | .tuple a, .tuple b => matchL (matchW n) a.toList b.toList
      | x, y => if eqF x y then some [] else none
theorem matchW_ok {ρ : Nat → Int} : ∀ (n : Nat) (p v : Value) (bs : Bs), matchW n p v = some bs → (∀ b ∈ bs, ρ b.1 = b.2) → inst ρ n p = v
  | 0, p, v, bs, h, _ => by cases h
  | n + 1, p, v, bs, h, hb => by
    unfold matchW at h
    unfold inst
    cases hh : holeOf p with
    | some jk =>
      obtain ⟨j, k⟩ := jk
      rw [hh] at h
      simp only at h ⊢
      split at h
      · rename_i k' m
        split at h
        · rename_i hk
          cases h
          rw [kIx_inj hk, hb (j, m) (List.mem_singleton.2 rfl)]
        · cases h
      · cases h
    | none =>
      rw [hh] at h
      simp only at h ⊢
      split at h
      · rename_i a b
        simp only
        rw [matchL_ok (matchW_ok n) h hb]
      · rename_i a b
        simp only
        rw [matchL_ok (matchW_ok n) h hb]
      · rename_i x y hne1 hne2
        split at h
        · rename_i he
          obtain rfl := eqF_ok he
          split
          · rename_i a; exact absurd rfl (hne1 a a rfl)
          · rename_i a; exact absurd rfl (hne2 a a rfl)
          · rfl
        · cases h
def matchG : List AO → List AO → Option Bs
  | [], [] => some []
  | o :: l, p :: h =>
    if o.live == p.live && eqEs o.es p.es then
      match matchL (matchW 4) o.cs p.cs with
      | some a =>
        match matchG l h with
        | some b => some (a ++ b)
        | none => none
      | none => none
    else none
  | _, _ => none
theorem matchG_ok {ρ : Nat → Int} : ∀ {l h : List AO} {bs : Bs}, matchG l h = some bs → (∀ b ∈ bs, ρ b.1 = b.2) → l.map (instO ρ) = h
  | [], [], _, _, _ => rfl
  | o :: l, p :: h, bs, hh, hb => by
    simp only [matchG] at hh
    split at hh
    · rename_i hc
      split at hh
      · rename_i a ha
        split at hh
        · rename_i b hb'
          cases hh
          simp only [Bool.and_eq_true] at hc
          obtain ⟨pl, pe, pc⟩ := p
          have h1 := eq_of_beq hc.1
          have h2 := eqEs_ok hc.2
          have h3 := matchL_ok (ρ := ρ) (matchW_ok 4) ha fun c hm => hb c (List.mem_append_left _ hm)
          simp only at h1 h2 h3
          rw [List.map_cons, matchG_ok hb' fun c hm => hb c (List.mem_append_right _ hm), instO, h1, h2, h3]
        · cases hh
      · cases hh
    · cases hh
  | [], _ :: _, _, h, _ => by cases h
  | _ :: _, [], _, h, _ => by cases h
/-- A loop, from a state of a pattern on to its end. -/
structure LoopW where
  f : FuncId
  t : List Value
  h : List AO
  e : Exit
  t' : (Nat → Int) → List Value
  h' : (Nat → Int) → List AO
  lo : Option Nat
  cond : (Nat → Int) → Cs
def LoopW.at (e : LoopW) (ρ : Nat → Int) : LoopT := ⟨e.f, e.t.map (inst ρ 4), e.h.map (instO ρ), e.e, e.t' ρ, e.h' ρ, (e.lo, [])⟩
def matchX (e : LoopW) (fid : FuncId) (x : St) : Option Bs :=
  if Nat.beq fid e.f && Nat.beq x.h.length e.h.length then
    match matchL (matchW 4) e.t x.t with
    | some a =>
      match matchG e.h x.h with
      | some b => if freshB (a ++ b) then some (a ++ b) else none
      | none => none
    | none => none
  else none
def loopWHook : List LoopW → LoopHook
  | [] => fun _ _ _ => none
  | e :: l => fun fid c x =>
    match matchX e fid x with
    | some bs => some (e.e, ⟨e.t' (lookB bs), e.h' (lookB bs), low x.m (e.lo, e.cond (lookB bs))⟩)
    | none => loopWHook l fid c x
def LoopWOk (P : Program) (e : LoopW) : Prop := ∀ ρ : Nat → Int, (∀ c ∈ e.cond ρ, c.1 = c.2) → LoopTOk P (e.at ρ)
theorem loopWHook_low : ∀ (l : List LoopW), LoopLow (loopWHook l)
  | [] => by intro f c x x' e h; cases h
  | q :: l => by
    intro f c x x' e h k hm
    unfold loopWHook at h
    split at h
    · cases h
      exact (bnd_low hm).1
    · exact loopWHook_low l f c x x' e h k hm
theorem loopWHook_ok {P : Program} : ∀ {l : List LoopW}, (∀ e ∈ l, LoopWOk P e) → LoopsOk P (loopWHook l)
  | [], _ => by intro f fn c _ _ c' _ x x' e h; cases h
  | q :: l, hq => by
    intro f fn c hf hb c' hc x x' e h wb k s a w hm H
    unfold loopWHook at h
    split at h
    · rename_i bs hbs
      cases h
      unfold matchX at hbs
      split at hbs
      · rename_i hcond
        simp only [Bool.and_eq_true] at hcond
        obtain rfl := Nat.eq_of_beq_eq_true hcond.1
        split at hbs
        · rename_i a1 ha1
          split at hbs
          · rename_i b1 hb1
            split at hbs
            · rename_i hfr
              cases hbs
              have lk := lookB_ok hfr
              obtain ⟨xt, xh, xm⟩ := x
              have e1 := matchL_ok (matchW_ok 4) ha1 fun b hb => lk b (List.mem_append_left _ hb)
              have e2 := matchG_ok hb1 fun b hb => lk b (List.mem_append_right _ hb)
              simp only at e1 e2
              obtain ⟨hm1, hm2⟩ := bnd_low hm
              have := hq q List.mem_cons_self (lookB (a1 ++ b1)) hm2.2 fn c hf hb c' hc wb k ⟨hm2.1, fun c hc => by cases hc⟩ s xm (low xm (q.lo, q.cond (lookB (a1 ++ b1)))) a w
              exact this ⟨by show LR s (q.t.map (inst (lookB (a1 ++ b1)) 4)) _; rw [e1]; exact H.t, H.d, by show HR wb k s (q.h.map (instO (lookB (a1 ++ b1)))) w; rw [e2]; exact H.h⟩
            · cases hbs
          · cases hbs
        · cases hbs
      · cases hbs
    · exact loopWHook_ok (fun e he => hq e (List.mem_cons_of_mem _ he)) f fn c hf hb c' hc x x' e h wb k s a w hm H
end Go.Proofs.YtbaiokfjoglmiaaDoor.Ex
