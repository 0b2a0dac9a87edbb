/-
  Runs that the kernel reckons, part 22: a loop told by a pattern of its state: numbers, and values of any kind.
-/
import Derived.Test.YtbaiokfjoglmiaaDoorEx20
namespace Go.Proofs.YtbaiokfjoglmiaaDoor.Ex
open Go Go.RowKit
/-! A value that is not known stands as a hole, too. -/
def vhole (j : Nat) : Value := .tuple ⟨[.chan (some j), .bool false]⟩
def vholeOf : Value → Option Nat
  | .tuple vs =>
    match vs.toList with
    | [.chan (some j), .bool false] => some j
    | _ => none
  | _ => none
abbrev Vs := List (Nat × Value)
def eqU : Value → Value → Bool
  | .tuple a, .tuple b => a.toList.isEmpty && b.toList.isEmpty
  | x, y => eqF x y
theorem eqU_ok {x y : Value} (h : eqU x y = true) : x = y := by
  unfold eqU at h
  split at h
  · simp only [Bool.and_eq_true, List.isEmpty_iff] at h
    rw [arr_ext (h.1.trans h.2.symm)]
  · exact eqF_ok h
def matchY (p v : Value) : Option (Bs × Vs) :=
  match holeOf p with
  | some (j, k) =>
    match v with
    | .int k' m => if Nat.beq (kIx k') (kIx k) then some ([(j, m)], []) else none
    | _ => none
  | none =>
    match vholeOf p with
    | some j => some ([], [(j, v)])
    | none => if eqU p v then some ([], []) else none
def instY (ρ : Nat → Int) (β : Nat → Value) (p : Value) : Value :=
  match holeOf p with
  | some (j, k) => .int k (ρ j)
  | none =>
    match vholeOf p with
    | some j => β j
    | none => p
theorem matchY_ok {ρ : Nat → Int} {β : Nat → Value} {p v : Value} {bs : Bs} {vs : Vs} (h : matchY p v = some (bs, vs)) (h1 : ∀ b ∈ bs, ρ b.1 = b.2) (h2 : ∀ b ∈ vs, β b.1 = b.2) : instY ρ β p = v := by
  unfold matchY at h
  unfold instY
  cases hh : holeOf p with
  | some jk =>
    obtain ⟨j, k⟩ := jk
    rw [hh] at h
    simp only at h ⊢
    split at h
    · rename_i k' m
      split at h
      · rename_i hk
        cases h
        rw [kIx_inj hk, h1 (j, m) (List.mem_singleton.2 rfl)]
      · cases h
    · cases h
  | none =>
    rw [hh] at h
    simp only at h ⊢
    cases hv : vholeOf p with
    | some j =>
      rw [hv] at h
      cases h
      exact h2 (j, v) (List.mem_singleton.2 rfl)
    | none =>
      rw [hv] at h
      simp only at h ⊢
      split at h
      · rename_i he
        exact eqU_ok he
      · cases h
def matchYL : List Value → List Value → Option (Bs × Vs)
  | [], [] => some ([], [])
  | x :: xs, y :: ys =>
    match matchY x y with
    | some a =>
      match matchYL xs ys with
      | some b => some (a.1 ++ b.1, a.2 ++ b.2)
      | none => none
    | none => none
  | _, _ => none
theorem matchYL_ok {ρ : Nat → Int} {β : Nat → Value} : ∀ {xs ys : List Value} {bs : Bs} {vs : Vs}, matchYL xs ys = some (bs, vs) → (∀ b ∈ bs, ρ b.1 = b.2) → (∀ b ∈ vs, β b.1 = b.2) → xs.map (instY ρ β) = ys
  | [], [], _, _, _, _, _ => rfl
  | x :: xs, y :: ys, bs, vs, h, h1, h2 => by
    simp only [matchYL] at h
    split at h
    · rename_i a ha
      split at h
      · rename_i b hb
        cases h
        obtain ⟨a1, a2⟩ := a
        obtain ⟨b1, b2⟩ := b
        rw [List.map_cons, matchY_ok ha (fun c hc => h1 c (List.mem_append_left _ hc)) (fun c hc => h2 c (List.mem_append_left _ hc)),
          matchYL_ok hb (fun c hc => h1 c (List.mem_append_right _ hc)) (fun c hc => h2 c (List.mem_append_right _ hc))]
      · cases h
    · cases h
  | [], _ :: _, _, _, h, _, _ => by cases h
  | _ :: _, [], _, _, h, _, _ => by cases h
def matchYH : List AO → List AO → Option (Bs × Vs)
  | [], [] => some ([], [])
  | o :: l, p :: h =>
    if o.live == p.live && eqEs o.es p.es then
      match matchYL o.cs p.cs with
      | some a =>
        match matchYH l h with
        | some b => some (a.1 ++ b.1, a.2 ++ b.2)
        | none => none
      | none => none
    else none
  | _, _ => none
def instYO (ρ : Nat → Int) (β : Nat → Value) (o : AO) : AO := ⟨o.live, o.es, o.cs.map (instY ρ β)⟩
theorem matchYH_ok {ρ : Nat → Int} {β : Nat → Value} : ∀ {l h : List AO} {bs : Bs} {vs : Vs}, matchYH l h = some (bs, vs) → (∀ b ∈ bs, ρ b.1 = b.2) → (∀ b ∈ vs, β b.1 = b.2) → l.map (instYO ρ β) = h
  | [], [], _, _, _, _, _ => rfl
  | o :: l, p :: h, bs, vs, hh, h1, h2 => by
    simp only [matchYH] at hh
    split at hh
    · rename_i hc
      split at hh
      · rename_i a ha
        split at hh
        · rename_i b hb
          cases hh
          obtain ⟨a1, a2⟩ := a
          obtain ⟨b1, b2⟩ := b
          simp only [Bool.and_eq_true] at hc
          obtain ⟨pl, pe, pc⟩ := p
          have e1 := eq_of_beq hc.1
          have e2 := eqEs_ok hc.2
          have e3 := matchYL_ok ha (fun c hc => h1 c (List.mem_append_left _ hc)) (fun c hc => h2 c (List.mem_append_left _ hc))
          simp only at e1 e2 e3
          rw [List.map_cons, matchYH_ok hb (fun c hc => h1 c (List.mem_append_right _ hc)) (fun c hc => h2 c (List.mem_append_right _ hc)), instYO, e1, e2, e3]
        · cases hh
      · cases hh
    · cases hh
  | [], _ :: _, _, _, h, _, _ => by cases h
  | _ :: _, [], _, _, h, _, _ => by cases h
def lookY : Vs → Nat → Value
  | [], _ => .nilFunc
  | b :: l, j => bif Nat.beq b.1 j then b.2 else lookY l j
def freshY : Vs → Bool
  | [] => true
  | b :: l => l.all (fun c => !(Nat.beq c.1 b.1)) && freshY l
theorem lookY_ok : ∀ {l : Vs}, freshY l = true → ∀ b ∈ l, lookY l b.1 = b.2
  | [], _, b, hb => by cases hb
  | a :: l, h, b, hb => by
    simp only [freshY, Bool.and_eq_true] at h
    rcases List.mem_cons.1 hb with rfl | hm
    · simp [lookY, Nat.beq_refl]
    · have := List.all_eq_true.1 h.1 b hm
      have hne : Nat.beq a.1 b.1 = false := by
        cases hx : Nat.beq a.1 b.1 with
        | false => rfl
        | true =>
          have e := Nat.eq_of_beq_eq_true hx
          rw [e, Nat.beq_refl] at this
          cases this
      simp only [lookY, hne, cond_false]
      exact lookY_ok h.2 b hm
/-- A loop, from a state of a pattern on to its end. -/
structure LoopY where
  f : FuncId
  t : List Value
  h : List AO
  e : Exit
  t' : (Nat → Int) → (Nat → Value) → List Value
  h' : (Nat → Int) → (Nat → Value) → List AO
  m : (Nat → Int) → (Nat → Value) → Mk
def LoopY.at (e : LoopY) (ρ : Nat → Int) (β : Nat → Value) : LoopT := ⟨e.f, e.t.map (instY ρ β), e.h.map (instYO ρ β), e.e, e.t' ρ β, e.h' ρ β, e.m ρ β⟩
def matchZ (e : LoopY) (fid : FuncId) (x : St) : Option (Bs × Vs) :=
  if Nat.beq fid e.f && Nat.beq x.h.length e.h.length then
    match matchYL e.t x.t with
    | some a =>
      match matchYH e.h x.h with
      | some b => if freshB (a.1 ++ b.1) && freshY (a.2 ++ b.2) then some (a.1 ++ b.1, a.2 ++ b.2) else none
      | none => none
    | none => none
  else none
def loopYHook : List LoopY → LoopHook
  | [] => fun _ _ _ => none
  | e :: l => fun fid c x =>
    match matchZ e fid x with
    | some b => some (e.e, ⟨e.t' (lookB b.1) (lookY b.2), e.h' (lookB b.1) (lookY b.2), low x.m (e.m (lookB b.1) (lookY b.2))⟩)
    | none => loopYHook l fid c x
def LoopYOk (P : Program) (e : LoopY) : Prop := ∀ (ρ : Nat → Int) (β : Nat → Value), LoopTOk P (e.at ρ β)
theorem loopYHook_low : ∀ (l : List LoopY), LoopLow (loopYHook l)
  | [] => by intro f c x x' e h; cases h
  | q :: l => by
    intro f c x x' e h k hm
    unfold loopYHook at h
    split at h
    · cases h
      exact (bnd_low hm).1
    · exact loopYHook_low l f c x x' e h k hm
theorem loopYHook_ok {P : Program} : ∀ {l : List LoopY}, (∀ e ∈ l, LoopYOk P e) → LoopsOk P (loopYHook l)
  | [], _ => by intro f fn c _ _ c' _ x x' e h; cases h
  | q :: l, hq => by
    intro f fn c hf hb c' hc x x' e h wb k s a w hm H
    unfold loopYHook at h
    split at h
    · rename_i bs hbs
      cases h
      unfold matchZ at hbs
      split at hbs
      · rename_i hcond
        simp only [Bool.and_eq_true] at hcond
        obtain rfl := Nat.eq_of_beq_eq_true hcond.1
        split at hbs
        · rename_i a1 ha1
          split at hbs
          · rename_i b1 hb1
            split at hbs
            · rename_i hfr
              cases hbs
              simp only [Bool.and_eq_true] at hfr
              have lk := lookB_ok hfr.1
              have lv := lookY_ok hfr.2
              obtain ⟨xt, xh, xm⟩ := x
              obtain ⟨a11, a12⟩ := a1
              obtain ⟨b11, b12⟩ := b1
              have e1 := matchYL_ok ha1 (fun b hb => lk b (List.mem_append_left _ hb)) (fun b hb => lv b (List.mem_append_left _ hb))
              have e2 := matchYH_ok hb1 (fun b hb => lk b (List.mem_append_right _ hb)) (fun b hb => lv b (List.mem_append_right _ hb))
              simp only at e1 e2
              obtain ⟨hm1, hm2⟩ := bnd_low hm
              have := hq q List.mem_cons_self (lookB (a11 ++ b11)) (lookY (a12 ++ b12)) fn c hf hb c' hc wb k hm2 s xm (low xm (q.m (lookB (a11 ++ b11)) (lookY (a12 ++ b12)))) a w
              exact this ⟨by show LR s (q.t.map (instY (lookB (a11 ++ b11)) (lookY (a12 ++ b12)))) _; rw [e1]; exact H.t, H.d, by show HR wb k s (q.h.map (instYO (lookB (a11 ++ b11)) (lookY (a12 ++ b12)))) w; rw [e2]; exact H.h⟩
            · cases hbs
          · cases hbs
        · cases hbs
      · cases hbs
    · exact loopYHook_ok (fun e he => hq e (List.mem_cons_of_mem _ he)) f fn c hf hb c' hc x x' e h wb k s a w hm H
end Go.Proofs.YtbaiokfjoglmiaaDoor.Ex
