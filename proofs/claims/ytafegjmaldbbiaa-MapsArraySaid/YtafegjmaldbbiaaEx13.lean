/-
  Runs that the kernel reckons, part 13: a drawn region of few operations: each order is gone through; all must leave the same.
-/
import Derived.Test.YtafegjmaldbbiaaEx12
namespace Go.Proofs.Ytafegjmaldbbiaa.Ex
open Go Go.RowKit

/-! The same values: what numbers must be the same for it. -/
def optA (a b : Option Addr) : Bool := decide (a = b)
def veq0 : Value → Value → Bool
  | .bool a, .bool b => a == b
  | .string a, .string b => a.data.toList == b.data.toList
  | .pointer a, .pointer b => optA a b
  | .slice a l c, .slice b m d => optA a b && l == m && c == d
  | .map a, .map b => a == b
  | .nilFunc, .nilFunc => true
  | .nilIface, .nilIface => true
  | _, _ => false
theorem arr_ext {α : Type} {a b : Array α} (h : a.toList = b.toList) : a = b := by cases a; cases b; simp at h; rw [h]
theorem veq0_ok {x y : Value} (h : veq0 x y = true) : x = y := by
  unfold veq0 at h
  split at h
  case h_2 a b => rw [ByteArray.ext (arr_ext (eq_of_beq h))]
  all_goals simp_all [optA]
def Hold (c : Cs) : Prop := ∀ x ∈ c, x.1 = x.2
theorem Hold.app {a b : Cs} (h : Hold (a ++ b)) : Hold a ∧ Hold b := ⟨fun x hx => h x (List.mem_append_left _ hx), fun x hx => h x (List.mem_append_right _ hx)⟩
def cmpL (p : Value → Value → Option Cs) : List Value → List Value → Option Cs
  | [], [] => some []
  | x :: xs, y :: ys =>
    match p x y with
    | some a =>
      match cmpL p xs ys with
      | some b => some (a ++ b)
      | none => none
    | none => none
  | _, _ => none
theorem cmpL_ok {p : Value → Value → Option Cs} (hp : ∀ x y c, p x y = some c → Hold c → x = y) : ∀ {xs ys : List Value} {c : Cs}, cmpL p xs ys = some c → Hold c → xs = ys
  | [], [], _, _, _ => rfl
  | x :: xs, y :: ys, c, h, hc => by
    simp only [cmpL] at h
    split at h
    · rename_i a ha
      split at h
      · rename_i b hb
        cases h
        obtain ⟨h1, h2⟩ := hc.app
        rw [hp x y a ha h1, cmpL_ok hp hb h2]
      · cases h
    · cases h
  | [], _ :: _, _, h, _ => by simp [cmpL] at h
  | _ :: _, [], _, h, _ => by simp [cmpL] at h
theorem veqc {x y : Value} {c : Cs} (h : (if veq0 x y then some [] else none) = some c) : x = y := by
  split at h
  · rename_i hv; exact veq0_ok hv
  · cases h
def cmpF : Nat → Value → Value → Option Cs
  | 0, x, y => if veq0 x y then some [] else none
  | n + 1, x, y =>
    match x, y with
    | .int k a, .int j b => if k = j then some [(a, b)] else none
    | .agg a, .agg b => cmpL (cmpF n) a.toList b.toList
    | .tuple a, .tuple b => cmpL (cmpF n) a.toList b.toList
    | .iface t a, .iface u b => if t = u then cmpF n a b else none
    | .func (.func f) a c, .func (.func g) b d =>
      if f == g then
        match cmpL (cmpF n) a.toList b.toList, cmpL (cmpF n) c.toList d.toList with
        | some x, some y => some (x ++ y)
        | _, _ => none
      else none
    | x, y => if veq0 x y then some [] else none
theorem cmpF_ok : ∀ (n : Nat) (x y : Value) (c : Cs), cmpF n x y = some c → Hold c → x = y
  | 0, x, y, c, h, _ => veqc h
  | n + 1, x, y, c, h, hc => by
    have ih := cmpF_ok n
    unfold cmpF at h
    split at h
    · split at h
      · rename_i k a j b hk
        cases h
        rw [hk, show a = b from hc (a, b) (by simp)]
      · cases h
    · rw [arr_ext (cmpL_ok ih h hc)]
    · rw [arr_ext (cmpL_ok ih h hc)]
    · split at h
      · rename_i hu
        rw [hu, ih _ _ _ h hc]
      · cases h
    · split at h
      · rename_i hfg
        split at h
        · rename_i h1 h2
          cases h
          simp only [beq_iff_eq] at hfg
          rw [hfg, arr_ext (cmpL_ok ih h1 hc.app.1), arr_ext (cmpL_ok ih h2 hc.app.2)]
        · cases h
      · cases h
    · exact veqc h
def cmp0 : Value → Value → Option Cs := cmpF 6
theorem cmp0_ok (x y : Value) (c : Cs) (h : cmp0 x y = some c) (hc : Hold c) : x = y := cmpF_ok 6 x y c h hc
def cmpV : Value → Value → Option Cs := cmpF 6
theorem cmpV_ok (x y : Value) (c : Cs) (h : cmpV x y = some c) (hc : Hold c) : x = y := cmpF_ok 6 x y c h hc
def cmpH : List AO → List AO → Option Cs
  | [], [] => some []
  | x :: xs, y :: ys =>
    if x.live == y.live && x.es == y.es then
      match cmpL cmp0 x.cs y.cs with
      | some a =>
        match cmpH xs ys with
        | some b => some (a ++ b)
        | none => none
      | none => none
    else none
  | _, _ => none
theorem cmpH_ok : ∀ {xs ys : List AO} {c : Cs}, cmpH xs ys = some c → Hold c → xs = ys
  | [], [], _, _, _ => rfl
  | x :: xs, y :: ys, c, h, hc => by
    simp only [cmpH] at h
    split at h
    · rename_i hle
      split at h
      · rename_i a ha
        split at h
        · rename_i b hb
          cases h
          obtain ⟨h1, h2⟩ := hc.app
          simp only [Bool.and_eq_true, beq_iff_eq] at hle
          obtain ⟨l1, e1, c1⟩ := x
          obtain ⟨l2, e2, c2⟩ := y
          simp only at hle ha
          rw [hle.1, hle.2, cmpL_ok cmp0_ok ha h1, cmpH_ok hb h2]
        · cases h
      · cases h
    · cases h
  | [], _ :: _, _, h, _ => by simp [cmpH] at h
  | _ :: _, [], _, h, _ => by simp [cmpH] at h

def stepE (P : Program) (rec : Rec) (ops : Array Oper) (i : Nat) (x : St) : Option St :=
  match ops[i]? with
  | none => none
  | some o => if wantedA ops x.t o then operA P (aOp P) rec o x else some ⟨putA x.t o.dst undef, x.h, x.m⟩
/-- What must be so that all others leave what the first one leaves. -/
def allE (f : Nat → Option St) (y : St) : List Nat → Option Cs
  | [] => some []
  | j :: js =>
    match f j with
    | some z =>
      if z.m.1 == y.m.1 then
        match cmpL cmpV z.t y.t, cmpH z.h y.h, allE f y js with
        | some a, some b, some cs => some (z.m.2 ++ (a ++ (b ++ cs)))
        | _, _, _ => none
      else none
    | none => none
/-- An operation that looks at no memory. -/
def pureStep (P : Program) (ops : Array Oper) (i : Nat) (x : St) : Option St :=
  match ops[i]? with
  | none => none
  | some o =>
    if wantedA ops x.t o then
      if o.op.operands.toList.all (okX x.h) then
        match sOp P (lookA x.t) o [] with
        | some (.value v, _, _) => some ⟨putA x.t o.dst v, x.h, x.m⟩
        | _ => none
      else none
    else some ⟨putA x.t o.dst undef, x.h, x.m⟩
def firstPure (P : Program) (ops : Array Oper) (listed : Array Bool) (x : St) : List Nat → Option (Nat × St)
  | [] => none
  | i :: is =>
    if Region.free .any ops listed i then
      match pureStep P ops i x with
      | some x' => some (i, x')
      | none => firstPure P ops listed x is
    else firstPure P ops listed x is
def explore (P : Program) (rec : Rec) (ops : Array Oper) : Nat → Array Bool → St → Option St
  | 0, listed, x => if (Region.ready .any ops listed).isEmpty then some x else none
  | f + 1, listed, x =>
    match Region.ready .any ops listed with
    | [] => some x
    | i :: is =>
      match firstPure P ops listed x (i :: is) with
      | some (j, x') => explore P rec ops f (listed.setIfInBounds j true) x'
      | none =>
        let go := fun j =>
          match stepE P rec ops j x with
          | some x' => explore P rec ops f (listed.setIfInBounds j true) x'
          | none => none
        match go i with
        | some y =>
          match allE go y is with
          | some cs => some ⟨y.t, y.h, (y.m.1, y.m.2 ++ cs)⟩
          | none => none
        | none => none
theorem allE_ok {f : Nat → Option St} {y : St} : ∀ {l : List Nat} {cs : Cs}, allE f y l = some cs → Hold cs → ∀ j ∈ l, ∃ z, f j = some z ∧ z.m.1 = y.m.1 ∧ Hold z.m.2 ∧ z.t = y.t ∧ z.h = y.h
  | [], _, _, _, j, hj => by cases hj
  | i :: l, cs, h, hc, j, hj => by
    simp only [allE] at h
    split at h
    · rename_i z hz
      split at h
      · rename_i hm
        split at h
        · rename_i a b cs' ha hb hcs
          cases h
          simp only [beq_iff_eq] at hm
          obtain ⟨h1, h2⟩ := hc.app
          obtain ⟨h2, h3⟩ := h2.app
          obtain ⟨h3, h4⟩ := h3.app
          rcases List.mem_cons.1 hj with e | e
          · exact ⟨z, by rw [e]; exact hz, hm, h1, cmpL_ok cmpV_ok ha h2, cmpH_ok hb h3⟩
          · exact allE_ok hcs h4 j e
        · cases h
      · cases h
    · cases h
section
variable {P : Program} {rec : Rec} {ops : Array Oper}
theorem stepE_low {i : Nat} {x x' : St} (hr : stepE P rec ops i x = some x') {k : Nat} (hm : Bnd k x'.m) : Bnd k x.m := by
  unfold stepE at hr
  split at hr
  · cases hr
  · split at hr
    · exact operA_low hr hm
    · cases hr; exact hm
theorem stepE_ok (hrec : RecOk P rec) {i : Nat} {x x' : St} (hr : stepE P rec ops i x = some x') {wb : Wb} {k : Nat} {s : Ren} {a : Act} {w : World} (hm : Bnd k x'.m) (H : SR wb k s x a w)
    {K : Act → World → Prop} {Q : Exit → Act → World → Prop} (hn : ∀ s' a' w', Le s s' → SR wb k s' x' a' w' → K a' w') : wpOp P ops Q i K a w := by
  unfold stepE at hr
  unfold wpOp
  split at hr
  · cases hr
  · rename_i o ho
    rw [ho]
    simp only [wanted_ok H.t]
    split at hr
    · rename_i hw
      rw [if_pos hw]
      exact .inl (operA_ok (aOp_ok P hrec.2.2.1) hrec hr hm H hn)
    · rename_i hw
      rw [if_neg hw]
      cases hr
      exact hn s _ w (Le.refl s) ⟨put_ok H.t o.dst (.same rfl), by cases hd : o.dst <;> simp [Act.put, H.d], H.h⟩
theorem firstPure_spec {listed : Array Bool} {x : St} : ∀ {l : List Nat} {j : Nat} {x' : St}, firstPure P ops listed x l = some (j, x') → j ∈ l ∧ Region.free .any ops listed j = true ∧ pureStep P ops j x = some x'
  | [], j, x', h => by simp [firstPure] at h
  | i :: is, j, x', h => by
    simp only [firstPure] at h
    split at h
    · rename_i hf
      split at h
      · rename_i y hy
        cases h
        exact ⟨by simp, hf, hy⟩
      · obtain ⟨h1, h2, h3⟩ := firstPure_spec h
        exact ⟨by simp [h1], h2, h3⟩
    · obtain ⟨h1, h2, h3⟩ := firstPure_spec h
      exact ⟨by simp [h1], h2, h3⟩
theorem pureStep_m {i : Nat} {x x' : St} (hr : pureStep P ops i x = some x') : x'.m = x.m := by
  unfold pureStep at hr
  split at hr
  · cases hr
  · split at hr
    · split at hr
      · split at hr
        · cases hr; rfl
        · cases hr
      · cases hr
    · cases hr; rfl
theorem pureStep_ok (hng : NoNG P) {i : Nat} {x x' : St} (hr : pureStep P ops i x = some x') {wb : Wb} {k : Nat} {s : Ren} {a : Act} {w : World} (H : SR wb k s x a w) :
    ∃ o v, ops[i]? = some o ∧ Yields P ops o v a ∧ SR wb k s x' (a.put o.dst v) w := by
  unfold pureStep at hr
  split at hr
  · cases hr
  · rename_i o ho
    split at hr
    · rename_i hw
      split at hr
      · rename_i hok
        have hρ : ∀ y ∈ o.op.operands, VR s (lookA x.t y) (a.eval y) := fun y hy => eval_ok H.t H.h.glob (List.all_eq_true.1 hok y (by simpa using hy))
        split at hr
        · rename_i v x1 x2 hs
          cases hr
          have hall : ∀ w, Okay0 P s [] w (execOp a.eval o) (.value v, x1, x2) := fun w => sOp_ok P hng s [] w _ _ o _ (fun j p hj => by simp at hj) hρ hs
          obtain ⟨n', e1, e2, _⟩ := hall w
          cases n' <;> simp only [NR] at e2
          rename_i v'
          -- the value is the same in each world
          refine ⟨o, v', ho, .inl ⟨by rw [wanted_ok H.t]; exact hw, fun w2 => ?_⟩, ⟨put_ok H.t o.dst e2, by cases hd : o.dst <;> simp [Act.put, H.d], H.h⟩⟩
          obtain ⟨n2, g1, g2, _⟩ := hall w2
          cases n2 <;> simp only [NR] at g2
          rw [g1, VR.det g2 e2]
        · cases hr
      · cases hr
    · rename_i hw
      cases hr
      exact ⟨o, undef, ho, .inr ⟨by rw [wanted_ok H.t]; simpa using hw, rfl⟩, ⟨put_ok H.t o.dst (.same rfl), by cases hd : o.dst <;> simp [Act.put, H.d], H.h⟩⟩
theorem explore_low {k : Nat} : ∀ (f : Nat) (listed : Array Bool) (x y : St), explore P rec ops f listed x = some y → Bnd k y.m → Bnd k x.m
  | 0, listed, x, y, hr, hm => by
    simp only [explore] at hr
    split at hr
    · cases hr; exact hm
    · cases hr
  | f + 1, listed, x, y, hr, hm => by
    simp only [explore] at hr
    split at hr
    · cases hr; exact hm
    · rename_i i is _
      split at hr
      · rename_i j x' hp
        rw [← pureStep_m (firstPure_spec hp).2.2]
        exact explore_low f _ x' y hr hm
      · split at hr
        · rename_i z hz
          split at hr
          · rename_i cs hcs
            cases hr
            have hm' : Bnd k z.m := ⟨hm.1, fun c hc => hm.2 c (List.mem_append_left _ hc)⟩
            split at hz
            · rename_i x' hx'
              exact stepE_low hx' (explore_low f _ x' _ hz hm')
            · cases hz
          · cases hr
        · cases hr
theorem explore_ok (hrec : RecOk P rec) (hsel : Region.noSelect ops = true) {wb : Wb} {k : Nat} {Q : Exit → Act → World → Prop} (hQp : ∀ c a w, ¬ Q (.panic c) a w) : ∀ (f : Nat) (listed : Array Bool) (x y : St), explore P rec ops f listed x = some y → Bnd k y.m → ∀ (s : Ren) (a : Act) (w : World), SR wb k s x a w →
    (∀ s' a' w', Le s s' → SR wb k s' y a' w' → Q .normal a' w') → wpAny P .any ops Q f listed a w
  | 0, listed, x, y, hr, hm, s, a, w, H, hQ => by
    simp only [explore] at hr
    split at hr
    · rename_i he
      cases hr
      exact ⟨by simpa using he, hQ s a w (Le.refl s) H⟩
    · cases hr
  | f + 1, listed, x, y, hr, hm, s, a, w, H, hQ => by
    simp only [explore] at hr
    split at hr
    · rename_i he
      cases hr
      refine ⟨fun _ => hQ s a w (Le.refl s) H, fun i hi => ?_⟩
      rw [he] at hi
      cases hi
    · rename_i i is he
      split at hr
      · rename_i j x' hp
        obtain ⟨h1, h2, h3⟩ := firstPure_spec hp
        obtain ⟨o, v, ho, hy, H'⟩ := pureStep_ok hrec.2.2.1 h3 H
        refine wpAny_take ho hsel h2 (by rw [he]; simpa using h1) (fun c a w h => absurd h (hQp c _ w)) hy ?_
        exact explore_ok hrec hsel hQp f _ x' y hr hm s _ w H' hQ
      split at hr
      · rename_i z hz
        split at hr
        · rename_i cs hall
          cases hr
          refine ⟨fun h0 => (by rw [he] at h0; cases h0), fun j hj => ?_⟩
          have hgo : ∃ y', (match stepE P rec ops j x with
              | some x' => explore P rec ops f (listed.setIfInBounds j true) x'
              | none => none) = some y' ∧ Bnd k y'.m ∧ y'.t = z.t ∧ y'.h = z.h := by
            rw [he] at hj
            rcases List.mem_cons.1 hj with e | e
            · exact ⟨z, by rw [e]; exact hz, ⟨hm.1, fun c hc => hm.2 c (List.mem_append_left _ hc)⟩, rfl, rfl⟩
            · obtain ⟨z', g1, g2, g3, g4, g5⟩ := allE_ok hall (fun c hc => hm.2 c (List.mem_append_right _ hc)) j e
              exact ⟨z', g1, ⟨by rw [g2]; exact hm.1, g3⟩, g4, g5⟩
          obtain ⟨y', hgo, hm', ht', hh'⟩ := hgo
          split at hgo
          · rename_i x' hx'
            refine stepE_ok hrec hx' (explore_low f _ x' y' hgo hm') H fun s' a' w' hle H' => ?_
            refine explore_ok hrec hsel hQp f (listed.setIfInBounds j true) x' y' hgo hm' s' a' w' H' fun s'' a'' w'' hle' H'' => hQ s'' a'' w'' (hle.trans hle') ⟨by rw [← ht']; exact H''.t, H''.d, by rw [← hh']; exact H''.h⟩
          · cases hgo
        · cases hr
      · cases hr
end

/-- What stands behind the head's end waits for it. -/
def backB (ops : Array Oper) (n : Nat) : Bool := (List.range ops.size).all fun t => decide (t ≤ n) || (List.range t).any fun j => decide (n ≤ j) && Region.waitsFor .any ops t j
def tailX (ops : Array Oper) (n : Nat) (base : Array Bool) : Bool := decide (n < ops.size) && sinkL ops n base && backB ops n
/-- A drawn region by its head, and by all orders of what stands behind it. -/
def drawX (P : Program) : DrawFn := fun rec ops x =>
  match headRun P rec ops x.h ops.toList 0 x.t [] with
  | (n, t, l, es) =>
    if P.follows .mixedOrders && Region.noSelect ops && decide (n ≤ ops.size) && depsB ops n && memB ops n es && tailX ops n (baseOf ops n es) then
      match lexHeap x.h.length es x.h.length (x.h ++ List.replicate l.length dead) with
      | some h => explore P rec ops (ops.size - n) (lexMask ops n) ⟨t, h, low x.m (headM es)⟩
      | none => none
    else none
theorem drawX_low (P : Program) : DrawLow (drawX P) := by
  intro rec ops x x' hr k hm
  unfold drawX at hr
  split at hr
  split at hr
  · split at hr
    · exact (bnd_low (explore_low _ _ _ _ hr hm)).1
    · cases hr
  · cases hr
section
variable {P : Program} {rec : Rec} {ops : Array Oper} {n : Nat} {t0 t' : List Value} {h0 l' : List AO} {es : List HE} {T : Nat → List Value} {E : Nat → HE} {N : Nat → List AO}
theorem drawX_ok (P : Program) : DrawOk P (drawX P) := by
  intro rec hrec ops x x' hr wb k s id a w hm HS
  unfold drawX at hr
  cases hh : headRun P rec ops x.h ops.toList 0 x.t [] with
  | mk n tl =>
    obtain ⟨t, l, es⟩ := tl
    rw [hh] at hr
    simp only at hr
    split at hr
    · rename_i hc
      split at hr
      rotate_left
      · cases hr
      rename_i hN hlex
      simp only [Bool.and_eq_true, decide_eq_true_eq] at hc
      obtain ⟨⟨⟨⟨⟨hmix, hsel⟩, hnl⟩, hdp⟩, hmem⟩, htl⟩ := hc
      obtain ⟨T, E, N, S⟩ := headRun_spec hrec.2.2.2 _ _ _ _ _ _ _ _ hh
      have hcs : Bnd k (headM es) := (bnd_low (explore_low _ _ _ _ hr hm)).2
      refine wp_region_any hmix ?_
      have H0 : HR wb k s x.h w.drew := HS.h.drew
      have hlf : MH n x.h E N (fun _ => true) hN (fun j => if j < x.h.length then s j else none) := by
        refine lexHeap_ok S hmem n 0 _ (by omega) ?_ (by simpa [S.l0] using hlex)
        rw [show (fun j => decide (j < 0)) = fun _ => false by funext j; simp, ← S.ln]
        exact mh_start S fun i hi => if_neg (by omega)
      have J : Mid ops n x.t x.h E N wb k s (Array.replicate ops.size false) a w.drew := by
        have e : (fun i => (Array.replicate ops.size false).getD i false) = fun _ => false := by funext i; exact getD_replicate_false _ _
        refine ⟨s, x.t, _, Le.refl s, fun _ _ => rfl, HS.t, HS.d, H0.pad (N n).length, fun _ => H0, ?_, ?_⟩
        · rw [e]; exact mt_start
        · rw [e]; exact mh_start S H0.dom
      have inv : HeadInv .any ops n (Array.replicate ops.size false) :=
        ⟨by simp, fun j _ _ hl => (by rw [getD_replicate_false] at hl; cases hl), fun t _ h2 => getD_in (by simpa using h2) (getD_replicate_false _ _)⟩
      have hleft : left n (Array.replicate ops.size false) = n := by
        unfold left
        rw [List.filter_eq_self.2 fun i _ => by rw [getD_replicate_false]; rfl]
        simp
      have hsc : n < ops.size → sinkL ops n (baseOf ops n es) = true ∧ ∀ t, n < t → t < ops.size → ∃ j, n ≤ j ∧ j < ops.size ∧ Region.waitsFor .any ops t j = true := by
        intro hlt
        unfold tailX at htl
        simp only [Bool.and_eq_true, decide_eq_true_eq] at htl
        refine ⟨htl.1.2, fun t ht htl2 => ?_⟩
        have h1 := List.all_eq_true.1 htl.2 t (List.mem_range.2 htl2)
        simp only [Bool.or_eq_true, decide_eq_true_eq] at h1
        rcases h1 with h1 | h1
        · omega
        · obtain ⟨j, hj, hj2⟩ := List.any_eq_true.1 h1
          simp only [Bool.and_eq_true, decide_eq_true_eq] at hj2
          exact ⟨j, hj2.1, by have := List.mem_range.1 hj; omega, hj2.2⟩
      have A := head_any S hdp hrec hmem hcs hnl hsc (wb := wb) (s0 := s) HS.h.kle (Q := Post wb k s x' .normal) (g := ops.size - n) (fun listed a' w' inv' hall J' => ?_)
      · have e2 : left n (Array.replicate ops.size false) + (ops.size - n) = ops.size := by omega
        have fin : wpAny P .any ops (Post wb k s x' .normal) (left n (Array.replicate ops.size false) + (ops.size - n)) (Array.replicate ops.size false) a w.drew := by
          by_cases hb0 : (n == ops.size || Region.sinkB .any ops n) = true
          · have e : baseOf ops n es = Array.replicate ops.size false := by unfold baseOf; rw [if_pos hb0]
            rw [e] at A
            exact A _ _ a w.drew inv (fun i hi => hi) rfl J
          · have e : baseOf ops n es = prepL ops es (List.range n) (Array.replicate ops.size false) := by unfold baseOf; rw [if_neg hb0]
            rw [e] at A
            exact prep_ok hrec.2.2.1 hrec.2.2.2 S hdp hsel hcs (Q := Post wb k s x' .normal) (fun c a w h => by cases h.1) (List.range n) _ a (fun i hi => List.mem_range.1 hi) inv J fun a' inv' J' => A _ _ a' w.drew inv' (fun i hi => hi) rfl J'
        rwa [e2] at fin
      · obtain ⟨s', t2, h2, hle, _, ht, hdf, H, _, M, MM⟩ := J'
        obtain rfl := mt_full S hdp M hall
        obtain rfl := mh_same S MM hlf hall fun _ _ => rfl
        have hQ : ∀ s'' a'' w'', Le s' s'' → SR wb k s'' x' a'' w'' → Post wb k s x' .normal .normal a'' w'' := fun s'' a'' w'' hle' hsr => ⟨rfl, s'', hle.trans hle', hsr⟩
        have hmask : listed = lexMask ops n := by
          apply Array.ext_getElem?
          intro i
          have e0 : (lexMask ops n)[i]? = (List.replicate n true ++ List.replicate (ops.size - n) false)[i]? := by
            unfold lexMask
            simp
          rw [e0]
          rcases Nat.lt_or_ge i n with hi | hi
          · have := hall i hi
            have hisz : i < listed.size := by rw [inv'.size]; omega
            rw [List.getElem?_append_left (by simpa using hi), List.getElem?_replicate, if_pos hi]
            rw [Array.getElem?_eq_getElem hisz]
            simpa [hisz] using this
          · rw [List.getElem?_append_right (by simpa using hi), List.getElem?_replicate]
            simp only [List.length_replicate]
            by_cases hlt : i < ops.size
            · have := inv'.tail i hi hlt
              have hisz : i < listed.size := by rw [inv'.size]; omega
              rw [if_pos (by omega), Array.getElem?_eq_getElem hisz]
              simpa [hisz] using this
            · rw [if_neg (by omega), Array.getElem?_eq_none (by rw [inv'.size]; omega)]
        rw [hmask]
        exact explore_ok hrec hsel (fun c a w h => by cases h.1) (ops.size - n) (lexMask ops n) _ x' hr hm s' a' w' ⟨ht, hdf, H⟩ hQ
    · cases hr

end
/-- What only reckons, and is waited for by nothing up to the first one behind the head: it may come whenever it is ready. -/
def floatAt (ops : Array Oper) (n : Nat) (es : List HE) (i : Nat) : Bool :=
  pureAt es i && Region.free .any ops (lexMask ops i) i && !((List.range (n + 1)).any fun j => decide (i < j) && Region.waitsFor .any ops j i)
def sinkF (ops : Array Oper) (n : Nat) (es : List HE) : Bool :=
  (List.range n).all fun i => floatAt ops n es i || (List.range (n + 1)).any fun j => decide (i < j) && Region.waitsFor .any ops j i && (Nat.beq j n || !floatAt ops n es j)
def tailY (ops : Array Oper) (n : Nat) (es : List HE) : Bool := decide (n < ops.size) && sinkF ops n es && backB ops n
/-- The same as drawX, where some that only reckon stand in the head and nothing waits for them. -/
def drawY (P : Program) : DrawFn := fun rec ops x =>
  match headRun P rec ops x.h ops.toList 0 x.t [] with
  | (n, t, l, es) =>
    if P.follows .mixedOrders && Region.noSelect ops && decide (n ≤ ops.size) && depsB ops n && memB ops n es && tailY ops n es then
      match lexHeap x.h.length es x.h.length (x.h ++ List.replicate l.length dead) with
      | some h => explore P rec ops (ops.size - n) (lexMask ops n) ⟨t, h, low x.m (headM es)⟩
      | none => none
    else none
theorem drawY_low (P : Program) : DrawLow (drawY P) := by
  intro rec ops x x' hr k hm
  unfold drawY at hr
  split at hr
  split at hr
  · split at hr
    · exact (bnd_low (explore_low _ _ _ _ hr hm)).1
    · cases hr
  · cases hr
section
variable {P : Program} {rec : Rec} {ops : Array Oper} {n : Nat} {t0 t' : List Value} {h0 l' : List AO} {es : List HE} {T : Nat → List Value} {E : Nat → HE} {N : Nat → List AO}
theorem free_lex {listed : Array Bool} {i : Nat} (hi : i ≤ ops.size) (hb : ∀ j, j < i → listed.getD j false = true) (h : Region.free .any ops (lexMask ops i) i = true) : Region.free .any ops listed i = true := by
  unfold Region.free at h ⊢
  split at h
  · cases h
  · rename_i oi ho
    refine List.all_eq_true.2 fun j hj => ?_
    have h1 := List.all_eq_true.1 h j hj
    have hlt := List.mem_range.1 hj
    by_cases hji : j < i
    · have h2 := hb j hji
      have h3 : listed.getD j true = true := by
        rw [Array.getD_eq_getD_getElem?] at h2 ⊢
        cases hq : listed[j]? with
        | none => rw [hq] at h2; cases h2
        | some b => rw [hq] at h2; exact h2
      rw [h3]; simp
    · have e : (lexMask ops i).getD j true = false := by
        rw [Array.getD_eq_getD_getElem?]
        have e0 : (lexMask ops i)[j]? = (List.replicate i true ++ List.replicate (ops.size - i) false)[j]? := by
          unfold lexMask
          simp
        rw [e0, List.getElem?_append_right (by simp; omega), List.getElem?_replicate, if_pos (by simp; omega)]
        rfl
      rw [e, Bool.or_false] at h1
      rw [Bool.or_assoc]
      simp only [Bool.or_eq_true] at h1 ⊢
      rcases h1 with h1 | h1
      · exact .inl h1
      · exact .inr (.inr h1)
theorem free_mono {listed : Array Bool} {i : Nat} (h : Region.free .any ops (Array.replicate ops.size false) i = true) : Region.free .any ops listed i = true := by
  unfold Region.free at h ⊢
  split at h
  · cases h
  · rename_i oi ho
    refine List.all_eq_true.2 fun j hj => ?_
    have h1 := List.all_eq_true.1 h j hj
    have hlt := List.mem_range.1 hj
    have e : (Array.replicate ops.size false).getD j true = false := getD_in (by simpa using hlt) (getD_replicate_false _ _)
    rw [e, Bool.or_false] at h1
    rw [Bool.or_assoc]
    simp only [Bool.or_eq_true] at h1 ⊢
    rcases h1 with h1 | h1
    · exact .inl h1
    · exact .inr (.inr h1)
theorem tail_waitsF (F : Nat → Bool) (hs : ∀ i, i < n → F i = true ∨ ∃ j, i < j ∧ j ≤ n ∧ Region.waitsFor .any ops j i = true ∧ (j = n ∨ F j = false)) (hc : ∀ t, n < t → t < ops.size → ∃ j, n ≤ j ∧ j < ops.size ∧ Region.waitsFor .any ops t j = true) (hn : n < ops.size)
    {listed : Array Bool} (inv : HeadInv .any ops n listed) : ∀ (d i : Nat), n - i = d → i < n → F i = false → listed.getD i true = false → ∀ t, n ≤ t → t ∉ Region.ready .any ops listed := by
  intro d
  induction d using Nat.strongRecOn with
  | _ d ih =>
    intro i hd hi hFi hun t ht hr
    obtain ⟨_, ot, hot, hall⟩ := mem_ready.1 hr
    have htlt : t < ops.size := (Array.getElem?_eq_some_iff.1 hot).1
    by_cases htn : t = n
    · subst htn
      rcases hs i hi with h1 | ⟨j, hj1, hj2, hj3, hj4⟩
      · rw [hFi] at h1; cases h1
      obtain ⟨oj, hoj, e, he, hb', hon⟩ := Region.waitsFor_spec hj3
      by_cases hjt : j = t
      · subst hjt
        have : oj = ot := Option.some.inj (hoj.symm.trans hot)
        subst this
        have h2 := hall e he hb'
        rw [hon, getD_both hun] at h2
        cases h2
      · cases hl : listed.getD j false with
        | true =>
          have h2 := inv.closed j oj hoj hl e he hb'
          rw [hon, getD_both hun] at h2
          cases h2
        | false =>
          have hjs : j < listed.size := by rw [inv.size]; omega
          rcases hj4 with h4 | h4
          · exact hjt h4
          · exact ih (t - j) (by omega) j rfl (by omega) h4 (getD_in hjs hl) t (Nat.le_refl _) hr
    · obtain ⟨j, hj1, hj2, h1⟩ := hc t (by omega) htlt
      obtain ⟨o', ho', e, he, hb', hon⟩ := Region.waitsFor_spec h1
      have : o' = ot := Option.some.inj (ho'.symm.trans hot)
      subst this
      have h2 := hall e he hb'
      rw [hon, getD_both (inv.tail j hj1 hj2)] at h2
      cases h2
theorem head_float (hng : NoNG P) (hacc : rec.acc = accP) (hsel : Region.noSelect ops = true) (F : Nat → Bool) (hF : ∀ i, i < n → F i = true → pureE (E i) = true ∧ Region.free .any ops (lexMask ops i) i = true) (S : HeadSpec P rec ops h0 ops.toList 0 n t0 [] t' l' es T E N) (hd : depsB ops n = true) (hrec : RecOk P rec) (hmem : memB ops n es = true) {k : Nat} (hcs : Bnd k (headM es)) (hnl : n ≤ ops.size) (hs : n < ops.size → (∀ i, i < n → F i = true ∨ ∃ j, i < j ∧ j ≤ n ∧ Region.waitsFor .any ops j i = true ∧ (j = n ∨ F j = false)) ∧ ∀ t, n < t → t < ops.size → ∃ j, n ≤ j ∧ j < ops.size ∧ Region.waitsFor .any ops t j = true)
    {wb : Wb} {s0 : Ren} (hk : k ≤ h0.length) {Q : Exit → Act → World → Prop} (hQp : ∀ c a w, ¬ Q (.panic c) a w) {g : Nat}
    (hend : ∀ listed a w, HeadInv .any ops n listed → (∀ i, i < n → listed.getD i false = true) → Mid ops n t0 h0 E N wb k s0 listed a w → wpAny P .any ops Q g listed a w) :
    ∀ (f : Nat) (listed : Array Bool) (a : Act) (w : World), HeadInv .any ops n listed → left n listed = f → Mid ops n t0 h0 E N wb k s0 listed a w → wpAny P .any ops Q (f + g) listed a w
  | 0, listed, a, w, inv, hl, J => by rw [Nat.zero_add]; exact hend listed a w inv (fun i hi => left_zero hl hi) J
  | f + 1, listed, a, w, inv, hl, J => by
    -- one that is not done, the first of them
    have hex : ∃ i, i < n ∧ listed.getD i false = false := by
      rcases Classical.em (∃ i, i < n ∧ listed.getD i false = false) with h | h
      · exact h
      · have : (List.range n).filter (fun i => !listed.getD i false) = [] := List.filter_eq_nil_iff.2 fun i hi => by
          have hi' := List.mem_range.1 hi
          cases hq : listed.getD i false with
          | true => simp
          | false => exact absurd ⟨i, hi', hq⟩ h
        unfold left at hl
        rw [this] at hl
        cases hl
    have hfirst : ∃ i, i < n ∧ listed.getD i false = false ∧ ∀ j, j < i → listed.getD j false = true := by
      obtain ⟨i, hi, hu⟩ := hex
      induction i using Nat.strongRecOn with
      | _ i ih =>
        rcases Classical.em (∃ j, j < i ∧ listed.getD j false = false) with ⟨j, hj, hju⟩ | h
        · exact ih j hj (by omega) hju
        · refine ⟨i, hi, hu, fun j hj => ?_⟩
          cases hq : listed.getD j false with
          | true => rfl
          | false => exact absurd ⟨j, hj, hq⟩ h
    obtain ⟨i, hi, hu, hbel⟩ := hfirst
    have hisz : i < listed.size := by rw [inv.size]; omega
    obtain ⟨o, ho, _, _⟩ := op_at S hi
    have hri : i ∈ Region.ready .any ops listed := mem_ready.2 ⟨getD_in hisz hu, o, ho, fun e he hb => hbel _ ((depsB_spec hd hi ho).1 e he hb)⟩
    rw [show f + 1 + g = (f + g) + 1 by omega]
    cases hFi : F i with
    | true =>
      obtain ⟨hp, hfr⟩ := hF i hi hFi
      obtain ⟨o2, v, ho2, hy, J'⟩ := mid_pure hng hacc S hd inv J hri hi hp (headM_bnd hcs i _ (eff_at S hi)).2
      refine wpAny_take ho2 hsel (free_lex (by omega) hbel hfr) (by simpa using hri) (fun c a w h => absurd h (hQp c _ w)) hy ?_
      refine head_float hng hacc hsel F hF S hd hrec hmem hcs hnl hs hk hQp hend f _ _ w (inv.set hri hi) ?_ J'
      have := left_next hi hisz hu
      omega
    | false =>
    refine ⟨fun h0 => (by rw [h0] at hri; cases hri), fun j hj => ?_⟩
    have hjn : j < n := by
      rcases Nat.lt_or_ge j n with h | h
      · exact h
      · obtain ⟨_, oj, hoj, _⟩ := mem_ready.1 hj
        have hjs := (Array.getElem?_eq_some_iff.1 hoj).1
        obtain ⟨h1, h2⟩ := hs (by omega)
        exact absurd hj (tail_waitsF F h1 h2 (by omega) inv _ i rfl hi hFi (getD_in hisz hu) j h)
    have hju := getD_both (mem_ready.1 hj).1
    have hjs : j < listed.size := by rw [inv.size]; omega
    refine mid_op S hd hrec hmem hcs hk inv J hj hjn fun a' w' J' => ?_
    refine head_float hng hacc hsel F hF S hd hrec hmem hcs hnl hs hk hQp hend f _ a' w' (inv.set hj hjn) ?_ J'
    have := left_next hjn hjs hju
    omega
theorem drawY_ok (P : Program) : DrawOk P (drawY P) := by
  intro rec hrec ops x x' hr wb k s id a w hm HS
  unfold drawY at hr
  cases hh : headRun P rec ops x.h ops.toList 0 x.t [] with
  | mk n tl =>
    obtain ⟨t, l, es⟩ := tl
    rw [hh] at hr
    simp only at hr
    split at hr
    · rename_i hc
      split at hr
      rotate_left
      · cases hr
      rename_i hN hlex
      simp only [Bool.and_eq_true, decide_eq_true_eq] at hc
      obtain ⟨⟨⟨⟨⟨hmix, hsel⟩, hnl⟩, hdp⟩, hmem⟩, htl⟩ := hc
      obtain ⟨T, E, N, S⟩ := headRun_spec hrec.2.2.2 _ _ _ _ _ _ _ _ hh
      have hcs : Bnd k (headM es) := (bnd_low (explore_low _ _ _ _ hr hm)).2
      refine wp_region_any hmix ?_
      have H0 : HR wb k s x.h w.drew := HS.h.drew
      have hlf : MH n x.h E N (fun _ => true) hN (fun j => if j < x.h.length then s j else none) := by
        refine lexHeap_ok S hmem n 0 _ (by omega) ?_ (by simpa [S.l0] using hlex)
        rw [show (fun j => decide (j < 0)) = fun _ => false by funext j; simp, ← S.ln]
        exact mh_start S fun i hi => if_neg (by omega)
      have J : Mid ops n x.t x.h E N wb k s (Array.replicate ops.size false) a w.drew := by
        have e : (fun i => (Array.replicate ops.size false).getD i false) = fun _ => false := by funext i; exact getD_replicate_false _ _
        refine ⟨s, x.t, _, Le.refl s, fun _ _ => rfl, HS.t, HS.d, H0.pad (N n).length, fun _ => H0, ?_, ?_⟩
        · rw [e]; exact mt_start
        · rw [e]; exact mh_start S H0.dom
      have inv : HeadInv .any ops n (Array.replicate ops.size false) :=
        ⟨by simp, fun j _ _ hl => (by rw [getD_replicate_false] at hl; cases hl), fun t _ h2 => getD_in (by simpa using h2) (getD_replicate_false _ _)⟩
      have hleft : left n (Array.replicate ops.size false) = n := by
        unfold left
        rw [List.filter_eq_self.2 fun i _ => by rw [getD_replicate_false]; rfl]
        simp
      have htl' := htl
      unfold tailY at htl'
      simp only [Bool.and_eq_true, decide_eq_true_eq] at htl'
      have hsc : n < ops.size → (∀ i, i < n → floatAt ops n es i = true ∨ ∃ j, i < j ∧ j ≤ n ∧ Region.waitsFor .any ops j i = true ∧ (j = n ∨ floatAt ops n es j = false)) ∧ ∀ t, n < t → t < ops.size → ∃ j, n ≤ j ∧ j < ops.size ∧ Region.waitsFor .any ops t j = true := by
        intro hlt
        refine ⟨fun i hi => ?_, fun t ht htl2 => ?_⟩
        · have h1 := List.all_eq_true.1 htl'.1.2 i (List.mem_range.2 hi)
          simp only [Bool.or_eq_true] at h1
          rcases h1 with h1 | h1
          · exact .inl h1
          · obtain ⟨j, hj, hj2⟩ := List.any_eq_true.1 h1
            simp only [Bool.and_eq_true, decide_eq_true_eq, Bool.or_eq_true, Bool.not_eq_true'] at hj2
            refine .inr ⟨j, hj2.1.1, by have := List.mem_range.1 hj; omega, hj2.1.2, ?_⟩
            rcases hj2.2 with h3 | h3
            · exact .inl (Nat.eq_of_beq_eq_true h3)
            · exact .inr h3
        · have h1 := List.all_eq_true.1 htl'.2 t (List.mem_range.2 htl2)
          simp only [Bool.or_eq_true, decide_eq_true_eq] at h1
          rcases h1 with h1 | h1
          · omega
          · obtain ⟨j, hj, hj2⟩ := List.any_eq_true.1 h1
            simp only [Bool.and_eq_true, decide_eq_true_eq] at hj2
            exact ⟨j, hj2.1, by have := List.mem_range.1 hj; omega, hj2.2⟩
      have hFl : ∀ i, i < n → floatAt ops n es i = true → pureE (E i) = true ∧ Region.free .any ops (lexMask ops i) i = true := by
        intro i hi hf
        unfold floatAt at hf
        simp only [Bool.and_eq_true] at hf
        refine ⟨?_, hf.1.2⟩
        have hp := hf.1.1
        unfold pureAt at hp
        rw [eff_at S hi] at hp
        exact hp
      have A := head_float hrec.2.2.1 hrec.2.2.2 hsel (floatAt ops n es) hFl S hdp hrec hmem hcs hnl hsc (wb := wb) (s0 := s) HS.h.kle (Q := Post wb k s x' .normal) (fun c a w h => by cases h.1) (g := ops.size - n) (fun listed a' w' inv' hall J' => ?_)
      · have e2 : left n (Array.replicate ops.size false) + (ops.size - n) = ops.size := by omega
        have fin := A _ _ a w.drew inv rfl J
        rwa [e2] at fin
      · obtain ⟨s', t2, h2, hle, _, ht, hdf, H, _, M, MM⟩ := J'
        obtain rfl := mt_full S hdp M hall
        obtain rfl := mh_same S MM hlf hall fun _ _ => rfl
        have hQ : ∀ s'' a'' w'', Le s' s'' → SR wb k s'' x' a'' w'' → Post wb k s x' .normal .normal a'' w'' := fun s'' a'' w'' hle' hsr => ⟨rfl, s'', hle.trans hle', hsr⟩
        have hmask : listed = lexMask ops n := by
          apply Array.ext_getElem?
          intro i
          have e0 : (lexMask ops n)[i]? = (List.replicate n true ++ List.replicate (ops.size - n) false)[i]? := by
            unfold lexMask
            simp
          rw [e0]
          rcases Nat.lt_or_ge i n with hi | hi
          · have := hall i hi
            have hisz : i < listed.size := by rw [inv'.size]; omega
            rw [List.getElem?_append_left (by simpa using hi), List.getElem?_replicate, if_pos hi]
            rw [Array.getElem?_eq_getElem hisz]
            simpa [hisz] using this
          · rw [List.getElem?_append_right (by simpa using hi), List.getElem?_replicate]
            simp only [List.length_replicate]
            by_cases hlt : i < ops.size
            · have := inv'.tail i hi hlt
              have hisz : i < listed.size := by rw [inv'.size]; omega
              rw [if_pos (by omega), Array.getElem?_eq_getElem hisz]
              simpa [hisz] using this
            · rw [if_neg (by omega), Array.getElem?_eq_none (by rw [inv'.size]; omega)]
        rw [hmask]
        exact explore_ok hrec hsel (fun c a w h => by cases h.1) (ops.size - n) (lexMask ops n) _ x' hr hm s' a' w' ⟨ht, hdf, H⟩ hQ
    · cases hr

end
/-! The last two operations, the other way about. -/
def swI (n i : Nat) : Nat := if i = n then n + 1 else if i = n + 1 then n else i
def swM (n : Nat) (m : Array Bool) : Array Bool := (m.setIfInBounds n (m.getD (n + 1) true)).setIfInBounds (n + 1) (m.getD n true)
theorem swI_swI (n i : Nat) : swI n (swI n i) = i := by unfold swI; split <;> split <;> (try split) <;> omega
theorem swM_size (n : Nat) (m : Array Bool) : (swM n m).size = m.size := by unfold swM; simp
theorem swM_get {n : Nat} {m : Array Bool} (hm : m.size = n + 2) (i : Nat) : (swM n m)[i]? = m[swI n i]? := by
  have g : ∀ (j : Nat) (hj : j < n + 2), m.getD j true = m[j]'(by omega) := fun j hj => by simp [Array.getD, hm, hj]
  unfold swM swI
  rw [Array.getElem?_setIfInBounds, Array.getElem?_setIfInBounds, g n (by omega), g (n + 1) (by omega)]
  by_cases h1 : i = n
  · subst h1
    rw [if_neg (by omega), if_pos rfl, if_pos (by omega), if_pos rfl, Array.getElem?_eq_getElem]
  · by_cases h2 : i = n + 1
    · subst h2
      rw [if_pos rfl, if_pos (by simp; omega), if_neg (by omega), if_pos rfl, Array.getElem?_eq_getElem]
    · rw [if_neg (by omega), if_neg (by omega), if_neg h1, if_neg h2]
theorem swM_getD {n : Nat} {m : Array Bool} (hm : m.size = n + 2) (i : Nat) (b : Bool) : (swM n m).getD i b = m.getD (swI n i) b := by
  rw [Array.getD_eq_getD_getElem?, Array.getD_eq_getD_getElem?, swM_get hm]
theorem swM_set {n : Nat} {m : Array Bool} (hm : m.size = n + 2) (i : Nat) : swM n (m.setIfInBounds i true) = (swM n m).setIfInBounds (swI n i) true := by
  apply Array.ext_getElem?
  intro j
  rw [swM_get (by simpa using hm), Array.getElem?_setIfInBounds, Array.getElem?_setIfInBounds, swM_get hm]
  have e : (i = swI n j) ↔ (swI n i = j) := ⟨fun h => by rw [h, swI_swI], fun h => by rw [← h, swI_swI]⟩
  by_cases h : i = swI n j
  · rw [if_pos h, if_pos (e.1 h)]
    have : (swI n i < (swM n m).size) ↔ (i < m.size) := by rw [swM_size, hm]; unfold swI; split <;> (try split) <;> omega
    by_cases hi : i < m.size
    · rw [if_pos hi, if_pos (this.2 hi)]
    · rw [if_neg hi, if_neg fun q => hi (this.1 q)]
  · rw [if_neg h, if_neg fun q => h (e.2 q)]
/-- No operation waits for the last two, or is guarded by them. -/
def loneB (n : Nat) (l : List Oper) : Bool := l.all fun o => (o.after.toList.all fun e => !Region.binds .any e || decide (e.on < n)) && (match o.guard with | none => true | some (j, _) => decide (j < n))
section
variable {P : Program} {l : List Oper} {o1 o2 : Oper} {Q : Exit → Act → World → Prop}
theorem sw_op (i : Nat) : (⟨l ++ [o2, o1]⟩ : Array Oper)[swI l.length i]? = (⟨l ++ [o1, o2]⟩ : Array Oper)[i]? := by
  simp only [List.getElem?_toArray]
  unfold swI
  by_cases h1 : i = l.length
  · subst h1
    rw [if_pos rfl, List.getElem?_append_right (by omega), List.getElem?_append_right (by omega)]
    simp
  · by_cases h2 : i = l.length + 1
    · subst h2
      rw [if_neg (by omega), if_pos rfl, List.getElem?_append_right (by omega), List.getElem?_append_right (by omega)]
      simp
    · rw [if_neg h1, if_neg h2]
      by_cases h3 : i < l.length
      · rw [List.getElem?_append_left h3, List.getElem?_append_left h3]
      · rw [List.getElem?_eq_none (by simp; omega), List.getElem?_eq_none (by simp; omega)]
theorem sw_low {j : Nat} (h : j < l.length) : swI l.length j = j := by unfold swI; rw [if_neg (by omega), if_neg (by omega)]
theorem sw_ready (hl : loneB l.length (l ++ [o1, o2]) = true) {m : Array Bool} (hm : m.size = l.length + 2) {i : Nat} (h : i ∈ Region.ready .any ⟨l ++ [o1, o2]⟩ m) : swI l.length i ∈ Region.ready .any ⟨l ++ [o2, o1]⟩ (swM l.length m) := by
  obtain ⟨h1, o, ho, ha⟩ := mem_ready.1 h
  refine mem_ready.2 ⟨by rw [swM_getD hm, swI_swI]; exact h1, o, by rw [sw_op]; exact ho, fun e he hb => ?_⟩
  have hmem : o ∈ l ++ [o1, o2] := List.mem_of_getElem? (by simpa using ho)
  have h2 := List.all_eq_true.1 hl o hmem
  simp only [Bool.and_eq_true] at h2
  have h3 := List.all_eq_true.1 h2.1 e (by simpa using he)
  simp only [hb, Bool.not_true, Bool.false_or, decide_eq_true_eq] at h3
  rw [swM_getD hm, sw_low h3]
  exact ha e he hb
theorem sw_any (hl : loneB l.length (l ++ [o1, o2]) = true) (hl' : loneB l.length (l ++ [o2, o1]) = true) : ∀ (f : Nat) (m : Array Bool) (a : Act) (w : World), m.size = l.length + 2 →
    wpAny P .any ⟨l ++ [o2, o1]⟩ Q f (swM l.length m) a w → wpAny P .any ⟨l ++ [o1, o2]⟩ Q f m a w := by
  have back : ∀ {m : Array Bool}, m.size = l.length + 2 → Region.ready .any ⟨l ++ [o1, o2]⟩ m = [] → Region.ready .any ⟨l ++ [o2, o1]⟩ (swM l.length m) = [] := by
    intro m hm h
    apply List.eq_nil_iff_forall_not_mem.2
    intro i hi
    have h2 := sw_ready (o1 := o2) (o2 := o1) hl' (m := swM l.length m) (by rw [swM_size]; exact hm) hi
    have e : swM l.length (swM l.length m) = m := by
      apply Array.ext_getElem?
      intro j
      rw [swM_get (by rw [swM_size]; exact hm), swM_get hm, swI_swI]
    rw [e, h] at h2
    cases h2
  intro f
  induction f with
  | zero =>
    intro m a w hm h
    refine ⟨?_, h.2⟩
    apply List.eq_nil_iff_forall_not_mem.2
    intro i hi
    have := sw_ready hl hm hi
    rw [h.1] at this
    cases this
  | succ f ih =>
    intro m a w hm h
    refine ⟨fun h0 => h.1 (back hm h0), fun i hi => ?_⟩
    have h2 := h.2 _ (sw_ready hl hm hi)
    rw [← swM_set hm] at h2
    unfold wpOp at h2 ⊢
    rw [sw_op] at h2
    split at h2
    · exact ih _ a w (by simpa using hm) h2
    · rename_i o ho
      have hmem : o ∈ l ++ [o1, o2] := List.mem_of_getElem? (by simpa using ho)
      have h3 := List.all_eq_true.1 hl o hmem
      simp only [Bool.and_eq_true] at h3
      have hw : Region.wanted o (yielded ⟨l ++ [o2, o1]⟩ a.tmps) = Region.wanted o (yielded ⟨l ++ [o1, o2]⟩ a.tmps) := by
        unfold Region.wanted
        have h4 := h3.2
        cases hg : o.guard with
        | none => rfl
        | some jb =>
          obtain ⟨j, b⟩ := jb
          rw [hg] at h4
          simp only [decide_eq_true_eq] at h4
          simp only
          have : yielded ⟨l ++ [o2, o1]⟩ a.tmps j = yielded ⟨l ++ [o1, o2]⟩ a.tmps j := by
            unfold yielded
            have := sw_op (l := l) (o1 := o1) (o2 := o2) j
            rw [sw_low h4] at this
            rw [this]
          rw [this]
      rw [hw] at h2
      split
      · rename_i hc
        rw [if_pos hc] at h2
        exact h2.imp (Oper.wp_mono fun a' w' h' => ih _ a' w' (by simpa using hm) h') id
      · rename_i hc
        rw [if_neg hc] at h2
        exact ih _ _ w (by simpa using hm) h2
end
def swapL : List Oper → Option (List Oper × Oper × Oper)
  | [] => none
  | [_] => none
  | [a, b] => some ([], a, b)
  | o :: r =>
    match swapL r with
    | some (l, a, b) => some (o :: l, a, b)
    | none => none
theorem swapL_spec : ∀ {r l : List Oper} {a b : Oper}, swapL r = some (l, a, b) → r = l ++ [a, b]
  | [], _, _, _, h => by cases h
  | [_], _, _, _, h => by cases h
  | [x, y], l, a, b, h => by
    simp only [swapL, Option.some.injEq, Prod.mk.injEq] at h
    obtain ⟨rfl, rfl, rfl⟩ := h
    rfl
  | o :: x :: y :: r, l, a, b, h => by
    simp only [swapL] at h
    split at h
    · rename_i l' a' b' hh
      simp only [Option.some.injEq, Prod.mk.injEq] at h
      obtain ⟨rfl, rfl, rfl⟩ := h
      rw [swapL_spec hh]; rfl
    · cases h
/-- .. a drawn region whose last two wait for each other in no way: told with these the other way about. -/
def drawZ (P : Program) : DrawFn := fun rec ops x =>
  match swapL ops.toList with
  | some (l, a, b) => if loneB l.length (l ++ [a, b]) && loneB l.length (l ++ [b, a]) then drawA P rec ⟨l ++ [b, a]⟩ x else none
  | none => none
theorem drawZ_low (P : Program) : DrawLow (drawZ P) := by
  intro rec ops x x' hr k hm
  unfold drawZ at hr
  split at hr
  · split at hr
    · exact drawA_low P rec _ x _ hr k hm
    · cases hr
  · cases hr
theorem drawZ_ok (P : Program) : DrawOk P (drawZ P) := by
  intro rec hrec ops x x' hr wb k s id a w hm HS
  unfold drawZ at hr
  split at hr
  · rename_i l o1 o2 hs
    split at hr
    · rename_i hc
      simp only [Bool.and_eq_true] at hc
      obtain ⟨h1, h2⟩ := drawA_any P hrec hr hm HS
      refine wp_region_any h1 ?_
      obtain ⟨r⟩ := ops
      have e : r = l ++ [o1, o2] := swapL_spec hs
      subst e
      have hsz : (⟨l ++ [o1, o2]⟩ : Array Oper).size = l.length + 2 := by simp
      have hsz' : (⟨l ++ [o2, o1]⟩ : Array Oper).size = l.length + 2 := by simp
      rw [hsz'] at h2
      rw [hsz]
      refine sw_any hc.1 hc.2 _ _ _ _ (by simp) ?_
      have em : swM l.length (Array.replicate (l.length + 2) false) = Array.replicate (l.length + 2) false := by
        apply Array.ext_getElem?
        intro j
        rw [swM_get (by simp)]
        simp only [Array.getElem?_replicate]
        have : (swI l.length j < l.length + 2) ↔ (j < l.length + 2) := by unfold swI; split <;> (try split) <;> omega
        by_cases hj : j < l.length + 2
        · rw [if_pos hj, if_pos (this.2 hj)]
        · rw [if_neg hj, if_neg fun q => hj (this.1 q)]
      rw [em]
      exact h2
    · cases hr
  · cases hr
/-- A drawn region: by its head and its tail; if it has no such form, by each of its orders. -/
def drawE (P : Program) : DrawFn := fun rec ops x =>
  match drawA P rec ops x with
  | some y => some y
  | none =>
    match (match drawX P rec ops x with | some y => some y | none => (match drawY P rec ops x with | some y => some y | none => drawZ P rec ops x)) with
    | some y => some y
    | none => if P.follows .mixedOrders && Region.noSelect ops then explore P rec ops ops.size (Array.replicate ops.size false) x else none
theorem drawE_low (P : Program) : DrawLow (drawE P) := by
  intro rec ops x x' hr k hm
  unfold drawE at hr
  split at hr
  · rename_i y hy
    cases hr
    exact drawA_low P rec ops x _ hy k hm
  · split at hr
    · rename_i y hy
      cases hr
      split at hy
      · rename_i z hz
        cases hy
        exact drawX_low P rec ops x _ hz k hm
      · split at hy
        · rename_i z hz
          cases hy
          exact drawY_low P rec ops x _ hz k hm
        · exact drawZ_low P rec ops x _ hy k hm
    · split at hr
      · exact explore_low _ _ _ _ hr hm
      · cases hr
theorem drawE_ok (P : Program) : DrawOk P (drawE P) := by
  intro rec hrec ops x x' hr wb k s id a w hm HS
  unfold drawE at hr
  split at hr
  · rename_i y hy
    cases hr
    exact drawA_ok P rec hrec ops x _ hy wb k s id a w hm HS
  split at hr
  · rename_i y hy
    cases hr
    split at hy
    · rename_i z hz
      cases hy
      exact drawX_ok P rec hrec ops x _ hz wb k s id a w hm HS
    · split at hy
      · rename_i z hz
        cases hy
        exact drawY_ok P rec hrec ops x _ hz wb k s id a w hm HS
      · exact drawZ_ok P rec hrec ops x _ hy wb k s id a w hm HS
  · split at hr
    · rename_i hc
      simp only [Bool.and_eq_true] at hc
      refine wp_region_any hc.1 ?_
      exact explore_ok hrec hc.2 (fun c a w h => by cases h.1) ops.size _ x x' hr hm s a w.drew ⟨HS.t, HS.d, HS.h.drew⟩ fun s' a' w' hle H' => ⟨rfl, s', hle, H'⟩
    · cases hr

abbrev Hook := FuncId → List Value → List AO → Option (Value × Cs)
def noHook : Hook := fun _ _ _ => none
theorem noHook_ok (P : Program) : HookOk P noHook := by intro f args h0 v cs h; cases h
/-- What the kernel reckons of a call whose arguments and whose answer hold no address: its answer, and one side of what must be the same; and the other side. -/
noncomputable def ranOf (P : Program) (hk : Hook) (L f : Nat) (g : FuncId) (args : List Value) : Option (Value × List AO × Mk) := callA P ⟨ex P (aOp P) (drawE P) (liftH (guardH hk)) noOrc accQ L f, liftH (guardH hk), fun _ _ => none, accQ⟩ g args []
noncomputable def reckonL (P : Program) (hk : Hook) (L f : Nat) (g : FuncId) (args : List Value) : Option (Value × List Int) :=
  match ranOf P hk L f g args with
  | some (v, _, m) => some (v, m.2.map (·.1))
  | none => none
noncomputable def reckonR (P : Program) (hk : Hook) (L f : Nat) (g : FuncId) (args : List Value) (v : Value) : Option (Value × List Int) :=
  match ranOf P hk L f g args with
  | some (_, _, m) => some (v, m.2.map (·.2))
  | none => some (v, [])
theorem map_same {α : Type} : ∀ {l : List (α × α)}, l.map (·.1) = l.map (·.2) → ∀ c ∈ l, c.1 = c.2
  | [], _, c, hc => by cases hc
  | x :: l, h, c, hc => by
    simp only [List.map_cons, List.cons.injEq] at h
    rcases List.mem_cons.1 hc with e | e
    · rw [e]; exact h.1
    · exact map_same h.2 c e
theorem reckonH_ok {P : Program} (hng : NoNG P) {hk : Hook} (hhk : HookOk P hk) (L f : Nat) {g : FuncId} {args : List Value} {v : Value} (ha : args.all flat = true) (hv : flat v = true) (h : reckonL P hk L f g args = reckonR P hk L f g args v) (w : World) :
    Calls P g ⟨args⟩ w fun e w' => e = .returned v ∧ Gr w w' := by
  unfold reckonL reckonR ranOf at h
  cases hc : callA P ⟨ex P (aOp P) (drawE P) (liftH (guardH hk)) noOrc accQ L f, liftH (guardH hk), fun _ _ => none, accQ⟩ g args [] with
  | none => rw [hc] at h; cases h
  | some r =>
    obtain ⟨v', h', m⟩ := r
    rw [hc] at h
    simp only [Option.some.injEq, Prod.mk.injEq] at h
    obtain ⟨rfl, h2⟩ := h
    exact closed_call accQ_eq hng (aOp_ok P hng) (drawE_ok P) (drawE_low P) (lift_ok (guard_ok hhk)) L f ha hv hc (map_same h2) w
theorem reckon_ok {P : Program} (hng : NoNG P) (L f : Nat) {g : FuncId} {args : List Value} {v : Value} (ha : args.all flat = true) (hv : flat v = true) (h : reckonL P noHook L f g args = reckonR P noHook L f g args v) (w : World) :
    Calls P g ⟨args⟩ w fun e w' => e = .returned v ∧ Gr w w' := reckonH_ok hng (noHook_ok P) L f ha hv h w
end Go.Proofs.Ytafegjmaldbbiaa.Ex
