/-
  Lemmas for the laws of this seat, part C: Ex13, Ex14, Ex15, NoNG, RkBase, RkSize, RkLoad, RkStore, RkStoreReg, RkReg, RkArith, RkJump, RkCode.
-/
import Derived.Test.YthhgfjnnconocaaGreatDoorPackB
import Derived.Test.YthhgfjnnconocaaGreatDoorProg
section
namespace Go.Proofs.YthhgfjnnconocaaGreatDoor.Ex
open Go Go.RowKit

/-! The same values: what numbers must be the same for it. -/
def optA (a b : Option Addr) : Bool := decide (a = b)
def veq0 : Value → Value → Bool
  | .bool a, .bool b => a == b
  | .string a, .string b => a.data.toList == b.data.toList
  | .pointer a, .pointer b => optA a b
  | .slice a l c, .slice b m d => optA a b && l == m && c == d
  | .map a, .map b => a == b
  | .nilFunc, .nilFunc => true
  | .nilIface, .nilIface => true
  | _, _ => false
theorem arr_ext {α : Type} {a b : Array α} (h : a.toList = b.toList) : a = b := by cases a; cases b; simp at h; rw [h]
theorem veq0_ok {x y : Value} (h : veq0 x y = true) : x = y := by
  unfold veq0 at h
  split at h
  case h_2 a b => rw [ByteArray.ext (arr_ext (eq_of_beq h))]
  all_goals simp_all [optA]
def Hold (c : Cs) : Prop := ∀ x ∈ c, x.1 = x.2
theorem Hold.app {a b : Cs} (h : Hold (a ++ b)) : Hold a ∧ Hold b := ⟨fun x hx => h x (List.mem_append_left _ hx), fun x hx => h x (List.mem_append_right _ hx)⟩
def cmpL (p : Value → Value → Option Cs) : List Value → List Value → Option Cs
  | [], [] => some []
  | x :: xs, y :: ys =>
    match p x y with
    | some a =>
      match cmpL p xs ys with
      | some b => some (a ++ b)
      | none => none
    | none => none
  | _, _ => none
theorem cmpL_ok {p : Value → Value → Option Cs} (hp : ∀ x y c, p x y = some c → Hold c → x = y) : ∀ {xs ys : List Value} {c : Cs}, cmpL p xs ys = some c → Hold c → xs = ys
  | [], [], _, _, _ => rfl
  | x :: xs, y :: ys, c, h, hc => by
    simp only [cmpL] at h
    split at h
    · rename_i a ha
      split at h
      · rename_i b hb
        cases h
        obtain ⟨h1, h2⟩ := hc.app
        rw [hp x y a ha h1, cmpL_ok hp hb h2]
      · cases h
    · cases h
  | [], _ :: _, _, h, _ => by simp [cmpL] at h
  | _ :: _, [], _, h, _ => by simp [cmpL] at h
theorem veqc {x y : Value} {c : Cs} (h : (if veq0 x y then some [] else none) = some c) : x = y := by
  split at h
  · rename_i hv; exact veq0_ok hv
  · cases h
def cmpF : Nat → Value → Value → Option Cs
  | 0, x, y => if veq0 x y then some [] else none
  | n + 1, x, y =>
    match x, y with
    | .int k a, .int j b => if k = j then some [(a, b)] else none
    | .agg a, .agg b => cmpL (cmpF n) a.toList b.toList
    | .tuple a, .tuple b => cmpL (cmpF n) a.toList b.toList
    | .iface t a, .iface u b => if t = u then cmpF n a b else none
    | .func (.func f) a c, .func (.func g) b d =>
      if f == g then
        match cmpL (cmpF n) a.toList b.toList, cmpL (cmpF n) c.toList d.toList with
        | some x, some y => some (x ++ y)
        | _, _ => none
      else none
    | x, y => if veq0 x y then some [] else none
theorem cmpF_ok : ∀ (n : Nat) (x y : Value) (c : Cs), cmpF n x y = some c → Hold c → x = y
  | 0, x, y, c, h, _ => veqc h
  | n + 1, x, y, c, h, hc => by
    have ih := cmpF_ok n
    unfold cmpF at h
    split at h
    · split at h
      · rename_i k a j b hk
        cases h
        rw [hk, show a = b from hc (a, b) (by simp)]
      · cases h
    · rw [arr_ext (cmpL_ok ih h hc)]
    · rw [arr_ext (cmpL_ok ih h hc)]
    · split at h
      · rename_i hu
        rw [hu, ih _ _ _ h hc]
      · cases h
    · split at h
      · rename_i hfg
        split at h
        · rename_i h1 h2
          cases h
          simp only [beq_iff_eq] at hfg
          rw [hfg, arr_ext (cmpL_ok ih h1 hc.app.1), arr_ext (cmpL_ok ih h2 hc.app.2)]
        · cases h
      · cases h
    · exact veqc h
def cmp0 : Value → Value → Option Cs := cmpF 6
theorem cmp0_ok (x y : Value) (c : Cs) (h : cmp0 x y = some c) (hc : Hold c) : x = y := cmpF_ok 6 x y c h hc
def cmpV : Value → Value → Option Cs := cmpF 6
theorem cmpV_ok (x y : Value) (c : Cs) (h : cmpV x y = some c) (hc : Hold c) : x = y := cmpF_ok 6 x y c h hc
def cmpH : List AO → List AO → Option Cs
  | [], [] => some []
  | x :: xs, y :: ys =>
    if x.live == y.live && x.es == y.es then
      match cmpL cmp0 x.cs y.cs with
      | some a =>
        match cmpH xs ys with
        | some b => some (a ++ b)
        | none => none
      | none => none
    else none
  | _, _ => none
theorem cmpH_ok : ∀ {xs ys : List AO} {c : Cs}, cmpH xs ys = some c → Hold c → xs = ys
  | [], [], _, _, _ => rfl
  | x :: xs, y :: ys, c, h, hc => by
    simp only [cmpH] at h
    split at h
    · rename_i hle
      split at h
      · rename_i a ha
        split at h
        · rename_i b hb
          cases h
          obtain ⟨h1, h2⟩ := hc.app
          simp only [Bool.and_eq_true, beq_iff_eq] at hle
          obtain ⟨l1, e1, c1⟩ := x
          obtain ⟨l2, e2, c2⟩ := y
          simp only at hle ha
          rw [hle.1, hle.2, cmpL_ok cmp0_ok ha h1, cmpH_ok hb h2]
        · cases h
      · cases h
    · cases h
  | [], _ :: _, _, h, _ => by simp [cmpH] at h
  | _ :: _, [], _, h, _ => by simp [cmpH] at h

def stepE (P : Program) (rec : Rec) (ops : Array Oper) (i : Nat) (x : St) : Option St :=
  match ops[i]? with
  | none => none
  | some o => if wantedA ops x.t o then operA P (aOp P) rec o x else some ⟨putA x.t o.dst undef, x.h, x.m⟩
/-- What must be so that all others leave what the first one leaves. -/
def allE (f : Nat → Option St) (y : St) : List Nat → Option Cs
  | [] => some []
  | j :: js =>
    match f j with
    | some z =>
      if z.m.1 == y.m.1 then
        match cmpL cmpV z.t y.t, cmpH z.h y.h, allE f y js with
        | some a, some b, some cs => some (z.m.2 ++ (a ++ (b ++ cs)))
        | _, _, _ => none
      else none
    | none => none
/-- An operation that looks at no memory. -/
def pureStep (P : Program) (ops : Array Oper) (i : Nat) (x : St) : Option St :=
  match ops[i]? with
  | none => none
  | some o =>
    if wantedA ops x.t o then
      if o.op.operands.toList.all (okX x.h) then
        match sOp P (lookA x.t) o [] with
        | some (.value v, _, _) => some ⟨putA x.t o.dst v, x.h, x.m⟩
        | _ => none
      else none
    else some ⟨putA x.t o.dst undef, x.h, x.m⟩
def firstPure (P : Program) (ops : Array Oper) (listed : Array Bool) (x : St) : List Nat → Option (Nat × St)
  | [] => none
  | i :: is =>
    if Region.free .any ops listed i then
      match pureStep P ops i x with
      | some x' => some (i, x')
      | none => firstPure P ops listed x is
    else firstPure P ops listed x is
def explore (P : Program) (rec : Rec) (ops : Array Oper) : Nat → Array Bool → St → Option St
  | 0, listed, x => if (Region.ready .any ops listed).isEmpty then some x else none
  | f + 1, listed, x =>
    match Region.ready .any ops listed with
    | [] => some x
    | i :: is =>
      match firstPure P ops listed x (i :: is) with
      | some (j, x') => explore P rec ops f (listed.setIfInBounds j true) x'
      | none =>
        let go := fun j =>
          match stepE P rec ops j x with
          | some x' => explore P rec ops f (listed.setIfInBounds j true) x'
          | none => none
        match go i with
        | some y =>
          match allE go y is with
          | some cs => some ⟨y.t, y.h, (y.m.1, y.m.2 ++ cs)⟩
          | none => none
        | none => none
theorem allE_ok {f : Nat → Option St} {y : St} : ∀ {l : List Nat} {cs : Cs}, allE f y l = some cs → Hold cs → ∀ j ∈ l, ∃ z, f j = some z ∧ z.m.1 = y.m.1 ∧ Hold z.m.2 ∧ z.t = y.t ∧ z.h = y.h
  | [], _, _, _, j, hj => by cases hj
  | i :: l, cs, h, hc, j, hj => by
    simp only [allE] at h
    split at h
    · rename_i z hz
      split at h
      · rename_i hm
        split at h
        · rename_i a b cs' ha hb hcs
          cases h
          simp only [beq_iff_eq] at hm
          obtain ⟨h1, h2⟩ := hc.app
          obtain ⟨h2, h3⟩ := h2.app
          obtain ⟨h3, h4⟩ := h3.app
          rcases List.mem_cons.1 hj with e | e
          · exact ⟨z, by rw [e]; exact hz, hm, h1, cmpL_ok cmpV_ok ha h2, cmpH_ok hb h3⟩
          · exact allE_ok hcs h4 j e
        · cases h
      · cases h
    · cases h
section
variable {P : Program} {rec : Rec} {ops : Array Oper}
theorem stepE_low {i : Nat} {x x' : St} (hr : stepE P rec ops i x = some x') {k : Nat} (hm : Bnd k x'.m) : Bnd k x.m := by
  unfold stepE at hr
  split at hr
  · cases hr
  · split at hr
    · exact operA_low hr hm
    · cases hr; exact hm
theorem stepE_ok (hrec : RecOk P rec) {i : Nat} {x x' : St} (hr : stepE P rec ops i x = some x') {wb : World} {k : Nat} {s : Ren} {a : Act} {w : World} (hm : Bnd k x'.m) (H : SR wb k s x a w)
    {K : Act → World → Prop} {Q : Exit → Act → World → Prop} (hn : ∀ s' a' w', Le s s' → SR wb k s' x' a' w' → K a' w') : wpOp P ops Q i K a w := by
  unfold stepE at hr
  unfold wpOp
  split at hr
  · cases hr
  · rename_i o ho
    rw [ho]
    simp only [wanted_ok H.t]
    split at hr
    · rename_i hw
      rw [if_pos hw]
      exact .inl (operA_ok (aOp_ok P hrec.2.2.1) hrec hr hm H hn)
    · rename_i hw
      rw [if_neg hw]
      cases hr
      exact hn s _ w (Le.refl s) ⟨put_ok H.t o.dst (.same rfl), by cases hd : o.dst <;> simp [Act.put, H.d], H.h⟩
theorem firstPure_spec {listed : Array Bool} {x : St} : ∀ {l : List Nat} {j : Nat} {x' : St}, firstPure P ops listed x l = some (j, x') → j ∈ l ∧ Region.free .any ops listed j = true ∧ pureStep P ops j x = some x'
  | [], j, x', h => by simp [firstPure] at h
  | i :: is, j, x', h => by
    simp only [firstPure] at h
    split at h
    · rename_i hf
      split at h
      · rename_i y hy
        cases h
        exact ⟨by simp, hf, hy⟩
      · obtain ⟨h1, h2, h3⟩ := firstPure_spec h
        exact ⟨by simp [h1], h2, h3⟩
    · obtain ⟨h1, h2, h3⟩ := firstPure_spec h
      exact ⟨by simp [h1], h2, h3⟩
theorem pureStep_m {i : Nat} {x x' : St} (hr : pureStep P ops i x = some x') : x'.m = x.m := by
  unfold pureStep at hr
  split at hr
  · cases hr
  · split at hr
    · split at hr
      · split at hr
        · cases hr; rfl
        · cases hr
      · cases hr
    · cases hr; rfl
theorem pureStep_ok (hng : NoNG P) {i : Nat} {x x' : St} (hr : pureStep P ops i x = some x') {wb : World} {k : Nat} {s : Ren} {a : Act} {w : World} (H : SR wb k s x a w) :
    ∃ o v, ops[i]? = some o ∧ Yields P ops o v a ∧ SR wb k s x' (a.put o.dst v) w := by
  unfold pureStep at hr
  split at hr
  · cases hr
  · rename_i o ho
    split at hr
    · rename_i hw
      split at hr
      · rename_i hok
        have hρ : ∀ y ∈ o.op.operands, VR s (lookA x.t y) (a.eval y) := fun y hy => eval_ok H.t H.h.glob (List.all_eq_true.1 hok y (by simpa using hy))
        split at hr
        · rename_i v x1 x2 hs
          cases hr
          have hall : ∀ w, Okay0 P s [] w (execOp a.eval o) (.value v, x1, x2) := fun w => sOp_ok P hng s [] w _ _ o _ (fun j p hj => by simp at hj) hρ hs
          obtain ⟨n', e1, e2, _⟩ := hall w
          cases n' <;> simp only [NR] at e2
          rename_i v'
          -- the value is the same in each world
          refine ⟨o, v', ho, .inl ⟨by rw [wanted_ok H.t]; exact hw, fun w2 => ?_⟩, ⟨put_ok H.t o.dst e2, by cases hd : o.dst <;> simp [Act.put, H.d], H.h⟩⟩
          obtain ⟨n2, g1, g2, _⟩ := hall w2
          cases n2 <;> simp only [NR] at g2
          rw [g1, VR.det g2 e2]
        · cases hr
      · cases hr
    · rename_i hw
      cases hr
      exact ⟨o, undef, ho, .inr ⟨by rw [wanted_ok H.t]; simpa using hw, rfl⟩, ⟨put_ok H.t o.dst (.same rfl), by cases hd : o.dst <;> simp [Act.put, H.d], H.h⟩⟩
theorem explore_low {k : Nat} : ∀ (f : Nat) (listed : Array Bool) (x y : St), explore P rec ops f listed x = some y → Bnd k y.m → Bnd k x.m
  | 0, listed, x, y, hr, hm => by
    simp only [explore] at hr
    split at hr
    · cases hr; exact hm
    · cases hr
  | f + 1, listed, x, y, hr, hm => by
    simp only [explore] at hr
    split at hr
    · cases hr; exact hm
    · rename_i i is _
      split at hr
      · rename_i j x' hp
        rw [← pureStep_m (firstPure_spec hp).2.2]
        exact explore_low f _ x' y hr hm
      · split at hr
        · rename_i z hz
          split at hr
          · rename_i cs hcs
            cases hr
            have hm' : Bnd k z.m := ⟨hm.1, fun c hc => hm.2 c (List.mem_append_left _ hc)⟩
            split at hz
            · rename_i x' hx'
              exact stepE_low hx' (explore_low f _ x' _ hz hm')
            · cases hz
          · cases hr
        · cases hr
theorem explore_ok (hrec : RecOk P rec) (hsel : Region.noSelect ops = true) {wb : World} {k : Nat} {Q : Exit → Act → World → Prop} (hQp : ∀ c a w, ¬ Q (.panic c) a w) : ∀ (f : Nat) (listed : Array Bool) (x y : St), explore P rec ops f listed x = some y → Bnd k y.m → ∀ (s : Ren) (a : Act) (w : World), SR wb k s x a w →
    (∀ s' a' w', Le s s' → SR wb k s' y a' w' → Q .normal a' w') → wpAny P .any ops Q f listed a w
  | 0, listed, x, y, hr, hm, s, a, w, H, hQ => by
    simp only [explore] at hr
    split at hr
    · rename_i he
      cases hr
      exact ⟨by simpa using he, hQ s a w (Le.refl s) H⟩
    · cases hr
  | f + 1, listed, x, y, hr, hm, s, a, w, H, hQ => by
    simp only [explore] at hr
    split at hr
    · rename_i he
      cases hr
      refine ⟨fun _ => hQ s a w (Le.refl s) H, fun i hi => ?_⟩
      rw [he] at hi
      cases hi
    · rename_i i is he
      split at hr
      · rename_i j x' hp
        obtain ⟨h1, h2, h3⟩ := firstPure_spec hp
        obtain ⟨o, v, ho, hy, H'⟩ := pureStep_ok hrec.2.2.1 h3 H
        refine wpAny_take ho hsel h2 (by rw [he]; simpa using h1) (fun c a w h => absurd h (hQp c _ w)) hy ?_
        exact explore_ok hrec hsel hQp f _ x' y hr hm s _ w H' hQ
      split at hr
      · rename_i z hz
        split at hr
        · rename_i cs hall
          cases hr
          refine ⟨fun h0 => (by rw [he] at h0; cases h0), fun j hj => ?_⟩
          have hgo : ∃ y', (match stepE P rec ops j x with
              | some x' => explore P rec ops f (listed.setIfInBounds j true) x'
              | none => none) = some y' ∧ Bnd k y'.m ∧ y'.t = z.t ∧ y'.h = z.h := by
            rw [he] at hj
            rcases List.mem_cons.1 hj with e | e
            · exact ⟨z, by rw [e]; exact hz, ⟨hm.1, fun c hc => hm.2 c (List.mem_append_left _ hc)⟩, rfl, rfl⟩
            · obtain ⟨z', g1, g2, g3, g4, g5⟩ := allE_ok hall (fun c hc => hm.2 c (List.mem_append_right _ hc)) j e
              exact ⟨z', g1, ⟨by rw [g2]; exact hm.1, g3⟩, g4, g5⟩
          obtain ⟨y', hgo, hm', ht', hh'⟩ := hgo
          split at hgo
          · rename_i x' hx'
            refine stepE_ok hrec hx' (explore_low f _ x' y' hgo hm') H fun s' a' w' hle H' => ?_
            refine explore_ok hrec hsel hQp f (listed.setIfInBounds j true) x' y' hgo hm' s' a' w' H' fun s'' a'' w'' hle' H'' => hQ s'' a'' w'' (hle.trans hle') ⟨by rw [← ht']; exact H''.t, H''.d, by rw [← hh']; exact H''.h⟩
          · cases hgo
        · cases hr
      · cases hr
end

/-- What stands behind the head's end waits for it. -/
def backB (ops : Array Oper) (n : Nat) : Bool := (List.range ops.size).all fun t => decide (t ≤ n) || (List.range t).any fun j => decide (n ≤ j) && Region.waitsFor .any ops t j
def tailX (ops : Array Oper) (n : Nat) (base : Array Bool) : Bool := decide (n < ops.size) && sinkL ops n base && backB ops n
/-- A drawn region by its head, and by all orders of what stands behind it. -/
def drawX (P : Program) : DrawFn := fun rec ops x =>
  match headRun P rec ops x.h ops.toList 0 x.t [] with
  | (n, t, l, es) =>
    if P.follows .mixedOrders && Region.noSelect ops && decide (n ≤ ops.size) && depsB ops n && memB ops n es && tailX ops n (baseOf ops n es) then
      match lexHeap x.h.length es x.h.length (x.h ++ List.replicate l.length dead) with
      | some h => explore P rec ops (ops.size - n) (lexMask ops n) ⟨t, h, low x.m (headM es)⟩
      | none => none
    else none
theorem drawX_low (P : Program) : DrawLow (drawX P) := by
  intro rec ops x x' hr k hm
  unfold drawX at hr
  split at hr
  split at hr
  · split at hr
    · exact (bnd_low (explore_low _ _ _ _ hr hm)).1
    · cases hr
  · cases hr
section
variable {P : Program} {rec : Rec} {ops : Array Oper} {n : Nat} {t0 t' : List Value} {h0 l' : List AO} {es : List HE} {T : Nat → List Value} {E : Nat → HE} {N : Nat → List AO}
theorem drawX_ok (P : Program) : DrawOk P (drawX P) := by
  intro rec hrec ops x x' hr wb k s id a w hm HS
  unfold drawX at hr
  cases hh : headRun P rec ops x.h ops.toList 0 x.t [] with
  | mk n tl =>
    obtain ⟨t, l, es⟩ := tl
    rw [hh] at hr
    simp only at hr
    split at hr
    · rename_i hc
      split at hr
      rotate_left
      · cases hr
      rename_i hN hlex
      simp only [Bool.and_eq_true, decide_eq_true_eq] at hc
      obtain ⟨⟨⟨⟨⟨hmix, hsel⟩, hnl⟩, hdp⟩, hmem⟩, htl⟩ := hc
      obtain ⟨T, E, N, S⟩ := headRun_spec hrec.2.2.2 _ _ _ _ _ _ _ _ hh
      have hcs : Bnd k (headM es) := (bnd_low (explore_low _ _ _ _ hr hm)).2
      refine wp_region_any hmix ?_
      have H0 : HR wb k s x.h w.drew := HS.h.drew
      have hlf : MH n x.h E N (fun _ => true) hN (fun j => if j < x.h.length then s j else none) := by
        refine lexHeap_ok S hmem n 0 _ (by omega) ?_ (by simpa [S.l0] using hlex)
        rw [show (fun j => decide (j < 0)) = fun _ => false by funext j; simp, ← S.ln]
        exact mh_start S fun i hi => if_neg (by omega)
      have J : Mid ops n x.t x.h E N wb k s (Array.replicate ops.size false) a w.drew := by
        have e : (fun i => (Array.replicate ops.size false).getD i false) = fun _ => false := by funext i; exact getD_replicate_false _ _
        refine ⟨s, x.t, _, Le.refl s, fun _ _ => rfl, HS.t, HS.d, H0.pad (N n).length, fun _ => H0, ?_, ?_⟩
        · rw [e]; exact mt_start
        · rw [e]; exact mh_start S H0.dom
      have inv : HeadInv .any ops n (Array.replicate ops.size false) :=
        ⟨by simp, fun j _ _ hl => (by rw [getD_replicate_false] at hl; cases hl), fun t _ h2 => getD_in (by simpa using h2) (getD_replicate_false _ _)⟩
      have hleft : left n (Array.replicate ops.size false) = n := by
        unfold left
        rw [List.filter_eq_self.2 fun i _ => by rw [getD_replicate_false]; rfl]
        simp
      have hsc : n < ops.size → sinkL ops n (baseOf ops n es) = true ∧ ∀ t, n < t → t < ops.size → ∃ j, n ≤ j ∧ j < ops.size ∧ Region.waitsFor .any ops t j = true := by
        intro hlt
        unfold tailX at htl
        simp only [Bool.and_eq_true, decide_eq_true_eq] at htl
        refine ⟨htl.1.2, fun t ht htl2 => ?_⟩
        have h1 := List.all_eq_true.1 htl.2 t (List.mem_range.2 htl2)
        simp only [Bool.or_eq_true, decide_eq_true_eq] at h1
        rcases h1 with h1 | h1
        · omega
        · obtain ⟨j, hj, hj2⟩ := List.any_eq_true.1 h1
          simp only [Bool.and_eq_true, decide_eq_true_eq] at hj2
          exact ⟨j, hj2.1, by have := List.mem_range.1 hj; omega, hj2.2⟩
      have A := head_any S hdp hrec hmem hcs hnl hsc (wb := wb) (s0 := s) HS.h.kle (Q := Post wb k s x' .normal) (g := ops.size - n) (fun listed a' w' inv' hall J' => ?_)
      · have e2 : left n (Array.replicate ops.size false) + (ops.size - n) = ops.size := by omega
        have fin : wpAny P .any ops (Post wb k s x' .normal) (left n (Array.replicate ops.size false) + (ops.size - n)) (Array.replicate ops.size false) a w.drew := by
          by_cases hb0 : (n == ops.size || Region.sinkB .any ops n) = true
          · have e : baseOf ops n es = Array.replicate ops.size false := by unfold baseOf; rw [if_pos hb0]
            rw [e] at A
            exact A _ _ a w.drew inv (fun i hi => hi) rfl J
          · have e : baseOf ops n es = prepL ops es (List.range n) (Array.replicate ops.size false) := by unfold baseOf; rw [if_neg hb0]
            rw [e] at A
            exact prep_ok hrec.2.2.1 hrec.2.2.2 S hdp hsel hcs (Q := Post wb k s x' .normal) (fun c a w h => by cases h.1) (List.range n) _ a (fun i hi => List.mem_range.1 hi) inv J fun a' inv' J' => A _ _ a' w.drew inv' (fun i hi => hi) rfl J'
        rwa [e2] at fin
      · obtain ⟨s', t2, h2, hle, _, ht, hdf, H, _, M, MM⟩ := J'
        obtain rfl := mt_full S hdp M hall
        obtain rfl := mh_same S MM hlf hall fun _ _ => rfl
        have hQ : ∀ s'' a'' w'', Le s' s'' → SR wb k s'' x' a'' w'' → Post wb k s x' .normal .normal a'' w'' := fun s'' a'' w'' hle' hsr => ⟨rfl, s'', hle.trans hle', hsr⟩
        have hmask : listed = lexMask ops n := by
          apply Array.ext_getElem?
          intro i
          have e0 : (lexMask ops n)[i]? = (List.replicate n true ++ List.replicate (ops.size - n) false)[i]? := by
            unfold lexMask
            simp
          rw [e0]
          rcases Nat.lt_or_ge i n with hi | hi
          · have := hall i hi
            have hisz : i < listed.size := by rw [inv'.size]; omega
            rw [List.getElem?_append_left (by simpa using hi), List.getElem?_replicate, if_pos hi]
            rw [Array.getElem?_eq_getElem hisz]
            simpa [hisz] using this
          · rw [List.getElem?_append_right (by simpa using hi), List.getElem?_replicate]
            simp only [List.length_replicate]
            by_cases hlt : i < ops.size
            · have := inv'.tail i hi hlt
              have hisz : i < listed.size := by rw [inv'.size]; omega
              rw [if_pos (by omega), Array.getElem?_eq_getElem hisz]
              simpa [hisz] using this
            · rw [if_neg (by omega), Array.getElem?_eq_none (by rw [inv'.size]; omega)]
        rw [hmask]
        exact explore_ok hrec hsel (fun c a w h => by cases h.1) (ops.size - n) (lexMask ops n) _ x' hr hm s' a' w' ⟨ht, hdf, H⟩ hQ
    · cases hr

end
/-- What only reckons, and is waited for by nothing up to the first one behind the head: it may come whenever it is ready. -/
def floatAt (ops : Array Oper) (n : Nat) (es : List HE) (i : Nat) : Bool :=
  pureAt es i && Region.free .any ops (lexMask ops i) i && !((List.range (n + 1)).any fun j => decide (i < j) && Region.waitsFor .any ops j i)
def sinkF (ops : Array Oper) (n : Nat) (es : List HE) : Bool :=
  (List.range n).all fun i => floatAt ops n es i || (List.range (n + 1)).any fun j => decide (i < j) && Region.waitsFor .any ops j i && (Nat.beq j n || !floatAt ops n es j)
def tailY (ops : Array Oper) (n : Nat) (es : List HE) : Bool := decide (n < ops.size) && sinkF ops n es && backB ops n
/-- The same as drawX, where some that only reckon stand in the head and nothing waits for them. -/
def drawY (P : Program) : DrawFn := fun rec ops x =>
  match headRun P rec ops x.h ops.toList 0 x.t [] with
  | (n, t, l, es) =>
    if P.follows .mixedOrders && Region.noSelect ops && decide (n ≤ ops.size) && depsB ops n && memB ops n es && tailY ops n es then
      match lexHeap x.h.length es x.h.length (x.h ++ List.replicate l.length dead) with
      | some h => explore P rec ops (ops.size - n) (lexMask ops n) ⟨t, h, low x.m (headM es)⟩
      | none => none
    else none
theorem drawY_low (P : Program) : DrawLow (drawY P) := by
  intro rec ops x x' hr k hm
  unfold drawY at hr
  split at hr
  split at hr
  · split at hr
    · exact (bnd_low (explore_low _ _ _ _ hr hm)).1
    · cases hr
  · cases hr
section
variable {P : Program} {rec : Rec} {ops : Array Oper} {n : Nat} {t0 t' : List Value} {h0 l' : List AO} {es : List HE} {T : Nat → List Value} {E : Nat → HE} {N : Nat → List AO}
theorem free_lex {listed : Array Bool} {i : Nat} (hi : i ≤ ops.size) (hb : ∀ j, j < i → listed.getD j false = true) (h : Region.free .any ops (lexMask ops i) i = true) : Region.free .any ops listed i = true := by
  unfold Region.free at h ⊢
  split at h
  · cases h
  · rename_i oi ho
    refine List.all_eq_true.2 fun j hj => ?_
    have h1 := List.all_eq_true.1 h j hj
    have hlt := List.mem_range.1 hj
    by_cases hji : j < i
    · have h2 := hb j hji
      have h3 : listed.getD j true = true := by
        rw [Array.getD_eq_getD_getElem?] at h2 ⊢
        cases hq : listed[j]? with
        | none => rw [hq] at h2; cases h2
        | some b => rw [hq] at h2; exact h2
      rw [h3]; simp
    · have e : (lexMask ops i).getD j true = false := by
        rw [Array.getD_eq_getD_getElem?]
        have e0 : (lexMask ops i)[j]? = (List.replicate i true ++ List.replicate (ops.size - i) false)[j]? := by
          unfold lexMask
          simp
        rw [e0, List.getElem?_append_right (by simp; omega), List.getElem?_replicate, if_pos (by simp; omega)]
        rfl
      rw [e, Bool.or_false] at h1
      rw [Bool.or_assoc]
      simp only [Bool.or_eq_true] at h1 ⊢
      rcases h1 with h1 | h1
      · exact .inl h1
      · exact .inr (.inr h1)
theorem free_mono {listed : Array Bool} {i : Nat} (h : Region.free .any ops (Array.replicate ops.size false) i = true) : Region.free .any ops listed i = true := by
  unfold Region.free at h ⊢
  split at h
  · cases h
  · rename_i oi ho
    refine List.all_eq_true.2 fun j hj => ?_
    have h1 := List.all_eq_true.1 h j hj
    have hlt := List.mem_range.1 hj
    have e : (Array.replicate ops.size false).getD j true = false := getD_in (by simpa using hlt) (getD_replicate_false _ _)
    rw [e, Bool.or_false] at h1
    rw [Bool.or_assoc]
    simp only [Bool.or_eq_true] at h1 ⊢
    rcases h1 with h1 | h1
    · exact .inl h1
    · exact .inr (.inr h1)
theorem tail_waitsF (F : Nat → Bool) (hs : ∀ i, i < n → F i = true ∨ ∃ j, i < j ∧ j ≤ n ∧ Region.waitsFor .any ops j i = true ∧ (j = n ∨ F j = false)) (hc : ∀ t, n < t → t < ops.size → ∃ j, n ≤ j ∧ j < ops.size ∧ Region.waitsFor .any ops t j = true) (hn : n < ops.size)
    {listed : Array Bool} (inv : HeadInv .any ops n listed) : ∀ (d i : Nat), n - i = d → i < n → F i = false → listed.getD i true = false → ∀ t, n ≤ t → t ∉ Region.ready .any ops listed := by
  intro d
  induction d using Nat.strongRecOn with
  | _ d ih =>
    intro i hd hi hFi hun t ht hr
    obtain ⟨_, ot, hot, hall⟩ := mem_ready.1 hr
    have htlt : t < ops.size := (Array.getElem?_eq_some_iff.1 hot).1
    by_cases htn : t = n
    · subst htn
      rcases hs i hi with h1 | ⟨j, hj1, hj2, hj3, hj4⟩
      · rw [hFi] at h1; cases h1
      obtain ⟨oj, hoj, e, he, hb', hon⟩ := Region.waitsFor_spec hj3
      by_cases hjt : j = t
      · subst hjt
        have : oj = ot := Option.some.inj (hoj.symm.trans hot)
        subst this
        have h2 := hall e he hb'
        rw [hon, getD_both hun] at h2
        cases h2
      · cases hl : listed.getD j false with
        | true =>
          have h2 := inv.closed j oj hoj hl e he hb'
          rw [hon, getD_both hun] at h2
          cases h2
        | false =>
          have hjs : j < listed.size := by rw [inv.size]; omega
          rcases hj4 with h4 | h4
          · exact hjt h4
          · exact ih (t - j) (by omega) j rfl (by omega) h4 (getD_in hjs hl) t (Nat.le_refl _) hr
    · obtain ⟨j, hj1, hj2, h1⟩ := hc t (by omega) htlt
      obtain ⟨o', ho', e, he, hb', hon⟩ := Region.waitsFor_spec h1
      have : o' = ot := Option.some.inj (ho'.symm.trans hot)
      subst this
      have h2 := hall e he hb'
      rw [hon, getD_both (inv.tail j hj1 hj2)] at h2
      cases h2
theorem head_float (hng : NoNG P) (hacc : rec.acc = accP) (hsel : Region.noSelect ops = true) (F : Nat → Bool) (hF : ∀ i, i < n → F i = true → pureE (E i) = true ∧ Region.free .any ops (lexMask ops i) i = true) (S : HeadSpec P rec ops h0 ops.toList 0 n t0 [] t' l' es T E N) (hd : depsB ops n = true) (hrec : RecOk P rec) (hmem : memB ops n es = true) {k : Nat} (hcs : Bnd k (headM es)) (hnl : n ≤ ops.size) (hs : n < ops.size → (∀ i, i < n → F i = true ∨ ∃ j, i < j ∧ j ≤ n ∧ Region.waitsFor .any ops j i = true ∧ (j = n ∨ F j = false)) ∧ ∀ t, n < t → t < ops.size → ∃ j, n ≤ j ∧ j < ops.size ∧ Region.waitsFor .any ops t j = true)
    {wb : World} {s0 : Ren} (hk : k ≤ h0.length) {Q : Exit → Act → World → Prop} (hQp : ∀ c a w, ¬ Q (.panic c) a w) {g : Nat}
    (hend : ∀ listed a w, HeadInv .any ops n listed → (∀ i, i < n → listed.getD i false = true) → Mid ops n t0 h0 E N wb k s0 listed a w → wpAny P .any ops Q g listed a w) :
    ∀ (f : Nat) (listed : Array Bool) (a : Act) (w : World), HeadInv .any ops n listed → left n listed = f → Mid ops n t0 h0 E N wb k s0 listed a w → wpAny P .any ops Q (f + g) listed a w
  | 0, listed, a, w, inv, hl, J => by rw [Nat.zero_add]; exact hend listed a w inv (fun i hi => left_zero hl hi) J
  | f + 1, listed, a, w, inv, hl, J => by
    -- one that is not done, the first of them
    have hex : ∃ i, i < n ∧ listed.getD i false = false := by
      rcases Classical.em (∃ i, i < n ∧ listed.getD i false = false) with h | h
      · exact h
      · have : (List.range n).filter (fun i => !listed.getD i false) = [] := List.filter_eq_nil_iff.2 fun i hi => by
          have hi' := List.mem_range.1 hi
          cases hq : listed.getD i false with
          | true => simp
          | false => exact absurd ⟨i, hi', hq⟩ h
        unfold left at hl
        rw [this] at hl
        cases hl
    have hfirst : ∃ i, i < n ∧ listed.getD i false = false ∧ ∀ j, j < i → listed.getD j false = true := by
      obtain ⟨i, hi, hu⟩ := hex
      induction i using Nat.strongRecOn with
      | _ i ih =>
        rcases Classical.em (∃ j, j < i ∧ listed.getD j false = false) with ⟨j, hj, hju⟩ | h
        · exact ih j hj (by omega) hju
        · refine ⟨i, hi, hu, fun j hj => ?_⟩
          cases hq : listed.getD j false with
          | true => rfl
          | false => exact absurd ⟨j, hj, hq⟩ h
    obtain ⟨i, hi, hu, hbel⟩ := hfirst
    have hisz : i < listed.size := by rw [inv.size]; omega
    obtain ⟨o, ho, _, _⟩ := op_at S hi
    have hri : i ∈ Region.ready .any ops listed := mem_ready.2 ⟨getD_in hisz hu, o, ho, fun e he hb => hbel _ ((depsB_spec hd hi ho).1 e he hb)⟩
    rw [show f + 1 + g = (f + g) + 1 by omega]
    cases hFi : F i with
    | true =>
      obtain ⟨hp, hfr⟩ := hF i hi hFi
      obtain ⟨o2, v, ho2, hy, J'⟩ := mid_pure hng hacc S hd inv J hri hi hp (headM_bnd hcs i _ (eff_at S hi)).2
      refine wpAny_take ho2 hsel (free_lex (by omega) hbel hfr) (by simpa using hri) (fun c a w h => absurd h (hQp c _ w)) hy ?_
      refine head_float hng hacc hsel F hF S hd hrec hmem hcs hnl hs hk hQp hend f _ _ w (inv.set hri hi) ?_ J'
      have := left_next hi hisz hu
      omega
    | false =>
    refine ⟨fun h0 => (by rw [h0] at hri; cases hri), fun j hj => ?_⟩
    have hjn : j < n := by
      rcases Nat.lt_or_ge j n with h | h
      · exact h
      · obtain ⟨_, oj, hoj, _⟩ := mem_ready.1 hj
        have hjs := (Array.getElem?_eq_some_iff.1 hoj).1
        obtain ⟨h1, h2⟩ := hs (by omega)
        exact absurd hj (tail_waitsF F h1 h2 (by omega) inv _ i rfl hi hFi (getD_in hisz hu) j h)
    have hju := getD_both (mem_ready.1 hj).1
    have hjs : j < listed.size := by rw [inv.size]; omega
    refine mid_op S hd hrec hmem hcs hk inv J hj hjn fun a' w' J' => ?_
    refine head_float hng hacc hsel F hF S hd hrec hmem hcs hnl hs hk hQp hend f _ a' w' (inv.set hj hjn) ?_ J'
    have := left_next hjn hjs hju
    omega
theorem drawY_ok (P : Program) : DrawOk P (drawY P) := by
  intro rec hrec ops x x' hr wb k s id a w hm HS
  unfold drawY at hr
  cases hh : headRun P rec ops x.h ops.toList 0 x.t [] with
  | mk n tl =>
    obtain ⟨t, l, es⟩ := tl
    rw [hh] at hr
    simp only at hr
    split at hr
    · rename_i hc
      split at hr
      rotate_left
      · cases hr
      rename_i hN hlex
      simp only [Bool.and_eq_true, decide_eq_true_eq] at hc
      obtain ⟨⟨⟨⟨⟨hmix, hsel⟩, hnl⟩, hdp⟩, hmem⟩, htl⟩ := hc
      obtain ⟨T, E, N, S⟩ := headRun_spec hrec.2.2.2 _ _ _ _ _ _ _ _ hh
      have hcs : Bnd k (headM es) := (bnd_low (explore_low _ _ _ _ hr hm)).2
      refine wp_region_any hmix ?_
      have H0 : HR wb k s x.h w.drew := HS.h.drew
      have hlf : MH n x.h E N (fun _ => true) hN (fun j => if j < x.h.length then s j else none) := by
        refine lexHeap_ok S hmem n 0 _ (by omega) ?_ (by simpa [S.l0] using hlex)
        rw [show (fun j => decide (j < 0)) = fun _ => false by funext j; simp, ← S.ln]
        exact mh_start S fun i hi => if_neg (by omega)
      have J : Mid ops n x.t x.h E N wb k s (Array.replicate ops.size false) a w.drew := by
        have e : (fun i => (Array.replicate ops.size false).getD i false) = fun _ => false := by funext i; exact getD_replicate_false _ _
        refine ⟨s, x.t, _, Le.refl s, fun _ _ => rfl, HS.t, HS.d, H0.pad (N n).length, fun _ => H0, ?_, ?_⟩
        · rw [e]; exact mt_start
        · rw [e]; exact mh_start S H0.dom
      have inv : HeadInv .any ops n (Array.replicate ops.size false) :=
        ⟨by simp, fun j _ _ hl => (by rw [getD_replicate_false] at hl; cases hl), fun t _ h2 => getD_in (by simpa using h2) (getD_replicate_false _ _)⟩
      have hleft : left n (Array.replicate ops.size false) = n := by
        unfold left
        rw [List.filter_eq_self.2 fun i _ => by rw [getD_replicate_false]; rfl]
        simp
      have htl' := htl
      unfold tailY at htl'
      simp only [Bool.and_eq_true, decide_eq_true_eq] at htl'
      have hsc : n < ops.size → (∀ i, i < n → floatAt ops n es i = true ∨ ∃ j, i < j ∧ j ≤ n ∧ Region.waitsFor .any ops j i = true ∧ (j = n ∨ floatAt ops n es j = false)) ∧ ∀ t, n < t → t < ops.size → ∃ j, n ≤ j ∧ j < ops.size ∧ Region.waitsFor .any ops t j = true := by
        intro hlt
        refine ⟨fun i hi => ?_, fun t ht htl2 => ?_⟩
        · have h1 := List.all_eq_true.1 htl'.1.2 i (List.mem_range.2 hi)
          simp only [Bool.or_eq_true] at h1
          rcases h1 with h1 | h1
          · exact .inl h1
          · obtain ⟨j, hj, hj2⟩ := List.any_eq_true.1 h1
            simp only [Bool.and_eq_true, decide_eq_true_eq, Bool.or_eq_true, Bool.not_eq_true'] at hj2
            refine .inr ⟨j, hj2.1.1, by have := List.mem_range.1 hj; omega, hj2.1.2, ?_⟩
            rcases hj2.2 with h3 | h3
            · exact .inl (Nat.eq_of_beq_eq_true h3)
            · exact .inr h3
        · have h1 := List.all_eq_true.1 htl'.2 t (List.mem_range.2 htl2)
          simp only [Bool.or_eq_true, decide_eq_true_eq] at h1
          rcases h1 with h1 | h1
          · omega
          · obtain ⟨j, hj, hj2⟩ := List.any_eq_true.1 h1
            simp only [Bool.and_eq_true, decide_eq_true_eq] at hj2
            exact ⟨j, hj2.1, by have := List.mem_range.1 hj; omega, hj2.2⟩
      have hFl : ∀ i, i < n → floatAt ops n es i = true → pureE (E i) = true ∧ Region.free .any ops (lexMask ops i) i = true := by
        intro i hi hf
        unfold floatAt at hf
        simp only [Bool.and_eq_true] at hf
        refine ⟨?_, hf.1.2⟩
        have hp := hf.1.1
        unfold pureAt at hp
        rw [eff_at S hi] at hp
        exact hp
      have A := head_float hrec.2.2.1 hrec.2.2.2 hsel (floatAt ops n es) hFl S hdp hrec hmem hcs hnl hsc (wb := wb) (s0 := s) HS.h.kle (Q := Post wb k s x' .normal) (fun c a w h => by cases h.1) (g := ops.size - n) (fun listed a' w' inv' hall J' => ?_)
      · have e2 : left n (Array.replicate ops.size false) + (ops.size - n) = ops.size := by omega
        have fin := A _ _ a w.drew inv rfl J
        rwa [e2] at fin
      · obtain ⟨s', t2, h2, hle, _, ht, hdf, H, _, M, MM⟩ := J'
        obtain rfl := mt_full S hdp M hall
        obtain rfl := mh_same S MM hlf hall fun _ _ => rfl
        have hQ : ∀ s'' a'' w'', Le s' s'' → SR wb k s'' x' a'' w'' → Post wb k s x' .normal .normal a'' w'' := fun s'' a'' w'' hle' hsr => ⟨rfl, s'', hle.trans hle', hsr⟩
        have hmask : listed = lexMask ops n := by
          apply Array.ext_getElem?
          intro i
          have e0 : (lexMask ops n)[i]? = (List.replicate n true ++ List.replicate (ops.size - n) false)[i]? := by
            unfold lexMask
            simp
          rw [e0]
          rcases Nat.lt_or_ge i n with hi | hi
          · have := hall i hi
            have hisz : i < listed.size := by rw [inv'.size]; omega
            rw [List.getElem?_append_left (by simpa using hi), List.getElem?_replicate, if_pos hi]
            rw [Array.getElem?_eq_getElem hisz]
            simpa [hisz] using this
          · rw [List.getElem?_append_right (by simpa using hi), List.getElem?_replicate]
            simp only [List.length_replicate]
            by_cases hlt : i < ops.size
            · have := inv'.tail i hi hlt
              have hisz : i < listed.size := by rw [inv'.size]; omega
              rw [if_pos (by omega), Array.getElem?_eq_getElem hisz]
              simpa [hisz] using this
            · rw [if_neg (by omega), Array.getElem?_eq_none (by rw [inv'.size]; omega)]
        rw [hmask]
        exact explore_ok hrec hsel (fun c a w h => by cases h.1) (ops.size - n) (lexMask ops n) _ x' hr hm s' a' w' ⟨ht, hdf, H⟩ hQ
    · cases hr

end
/-! The last two operations, the other way about. -/
def swI (n i : Nat) : Nat := if i = n then n + 1 else if i = n + 1 then n else i
def swM (n : Nat) (m : Array Bool) : Array Bool := (m.setIfInBounds n (m.getD (n + 1) true)).setIfInBounds (n + 1) (m.getD n true)
theorem swI_swI (n i : Nat) : swI n (swI n i) = i := by unfold swI; split <;> split <;> (try split) <;> omega
theorem swM_size (n : Nat) (m : Array Bool) : (swM n m).size = m.size := by unfold swM; simp
theorem swM_get {n : Nat} {m : Array Bool} (hm : m.size = n + 2) (i : Nat) : (swM n m)[i]? = m[swI n i]? := by
  have g : ∀ (j : Nat) (hj : j < n + 2), m.getD j true = m[j]'(by omega) := fun j hj => by simp [Array.getD, hm, hj]
  unfold swM swI
  rw [Array.getElem?_setIfInBounds, Array.getElem?_setIfInBounds, g n (by omega), g (n + 1) (by omega)]
  by_cases h1 : i = n
  · subst h1
    rw [if_neg (by omega), if_pos rfl, if_pos (by omega), if_pos rfl, Array.getElem?_eq_getElem]
  · by_cases h2 : i = n + 1
    · subst h2
      rw [if_pos rfl, if_pos (by simp; omega), if_neg (by omega), if_pos rfl, Array.getElem?_eq_getElem]
    · rw [if_neg (by omega), if_neg (by omega), if_neg h1, if_neg h2]
theorem swM_getD {n : Nat} {m : Array Bool} (hm : m.size = n + 2) (i : Nat) (b : Bool) : (swM n m).getD i b = m.getD (swI n i) b := by
  rw [Array.getD_eq_getD_getElem?, Array.getD_eq_getD_getElem?, swM_get hm]
theorem swM_set {n : Nat} {m : Array Bool} (hm : m.size = n + 2) (i : Nat) : swM n (m.setIfInBounds i true) = (swM n m).setIfInBounds (swI n i) true := by
  apply Array.ext_getElem?
  intro j
  rw [swM_get (by simpa using hm), Array.getElem?_setIfInBounds, Array.getElem?_setIfInBounds, swM_get hm]
  have e : (i = swI n j) ↔ (swI n i = j) := ⟨fun h => by rw [h, swI_swI], fun h => by rw [← h, swI_swI]⟩
  by_cases h : i = swI n j
  · rw [if_pos h, if_pos (e.1 h)]
    have : (swI n i < (swM n m).size) ↔ (i < m.size) := by rw [swM_size, hm]; unfold swI; split <;> (try split) <;> omega
    by_cases hi : i < m.size
    · rw [if_pos hi, if_pos (this.2 hi)]
    · rw [if_neg hi, if_neg fun q => hi (this.1 q)]
  · rw [if_neg h, if_neg fun q => h (e.2 q)]
/-- No operation waits for the last two, or is guarded by them. -/
def loneB (n : Nat) (l : List Oper) : Bool := l.all fun o => (o.after.toList.all fun e => !Region.binds .any e || decide (e.on < n)) && (match o.guard with | none => true | some (j, _) => decide (j < n))
section
variable {P : Program} {l : List Oper} {o1 o2 : Oper} {Q : Exit → Act → World → Prop}
theorem sw_op (i : Nat) : (⟨l ++ [o2, o1]⟩ : Array Oper)[swI l.length i]? = (⟨l ++ [o1, o2]⟩ : Array Oper)[i]? := by
  simp only [List.getElem?_toArray]
  unfold swI
  by_cases h1 : i = l.length
  · subst h1
    rw [if_pos rfl, List.getElem?_append_right (by omega), List.getElem?_append_right (by omega)]
    simp
  · by_cases h2 : i = l.length + 1
    · subst h2
      rw [if_neg (by omega), if_pos rfl, List.getElem?_append_right (by omega), List.getElem?_append_right (by omega)]
      simp
    · rw [if_neg h1, if_neg h2]
      by_cases h3 : i < l.length
      · rw [List.getElem?_append_left h3, List.getElem?_append_left h3]
      · rw [List.getElem?_eq_none (by simp; omega), List.getElem?_eq_none (by simp; omega)]
theorem sw_low {j : Nat} (h : j < l.length) : swI l.length j = j := by unfold swI; rw [if_neg (by omega), if_neg (by omega)]
theorem sw_ready (hl : loneB l.length (l ++ [o1, o2]) = true) {m : Array Bool} (hm : m.size = l.length + 2) {i : Nat} (h : i ∈ Region.ready .any ⟨l ++ [o1, o2]⟩ m) : swI l.length i ∈ Region.ready .any ⟨l ++ [o2, o1]⟩ (swM l.length m) := by
  obtain ⟨h1, o, ho, ha⟩ := mem_ready.1 h
  refine mem_ready.2 ⟨by rw [swM_getD hm, swI_swI]; exact h1, o, by rw [sw_op]; exact ho, fun e he hb => ?_⟩
  have hmem : o ∈ l ++ [o1, o2] := List.mem_of_getElem? (by simpa using ho)
  have h2 := List.all_eq_true.1 hl o hmem
  simp only [Bool.and_eq_true] at h2
  have h3 := List.all_eq_true.1 h2.1 e (by simpa using he)
  simp only [hb, Bool.not_true, Bool.false_or, decide_eq_true_eq] at h3
  rw [swM_getD hm, sw_low h3]
  exact ha e he hb
theorem sw_any (hl : loneB l.length (l ++ [o1, o2]) = true) (hl' : loneB l.length (l ++ [o2, o1]) = true) : ∀ (f : Nat) (m : Array Bool) (a : Act) (w : World), m.size = l.length + 2 →
    wpAny P .any ⟨l ++ [o2, o1]⟩ Q f (swM l.length m) a w → wpAny P .any ⟨l ++ [o1, o2]⟩ Q f m a w := by
  have back : ∀ {m : Array Bool}, m.size = l.length + 2 → Region.ready .any ⟨l ++ [o1, o2]⟩ m = [] → Region.ready .any ⟨l ++ [o2, o1]⟩ (swM l.length m) = [] := by
    intro m hm h
    apply List.eq_nil_iff_forall_not_mem.2
    intro i hi
    have h2 := sw_ready (o1 := o2) (o2 := o1) hl' (m := swM l.length m) (by rw [swM_size]; exact hm) hi
    have e : swM l.length (swM l.length m) = m := by
      apply Array.ext_getElem?
      intro j
      rw [swM_get (by rw [swM_size]; exact hm), swM_get hm, swI_swI]
    rw [e, h] at h2
    cases h2
  intro f
  induction f with
  | zero =>
    intro m a w hm h
    refine ⟨?_, h.2⟩
    apply List.eq_nil_iff_forall_not_mem.2
    intro i hi
    have := sw_ready hl hm hi
    rw [h.1] at this
    cases this
  | succ f ih =>
    intro m a w hm h
    refine ⟨fun h0 => h.1 (back hm h0), fun i hi => ?_⟩
    have h2 := h.2 _ (sw_ready hl hm hi)
    rw [← swM_set hm] at h2
    unfold wpOp at h2 ⊢
    rw [sw_op] at h2
    split at h2
    · exact ih _ a w (by simpa using hm) h2
    · rename_i o ho
      have hmem : o ∈ l ++ [o1, o2] := List.mem_of_getElem? (by simpa using ho)
      have h3 := List.all_eq_true.1 hl o hmem
      simp only [Bool.and_eq_true] at h3
      have hw : Region.wanted o (yielded ⟨l ++ [o2, o1]⟩ a.tmps) = Region.wanted o (yielded ⟨l ++ [o1, o2]⟩ a.tmps) := by
        unfold Region.wanted
        have h4 := h3.2
        cases hg : o.guard with
        | none => rfl
        | some jb =>
          obtain ⟨j, b⟩ := jb
          rw [hg] at h4
          simp only [decide_eq_true_eq] at h4
          simp only
          have : yielded ⟨l ++ [o2, o1]⟩ a.tmps j = yielded ⟨l ++ [o1, o2]⟩ a.tmps j := by
            unfold yielded
            have := sw_op (l := l) (o1 := o1) (o2 := o2) j
            rw [sw_low h4] at this
            rw [this]
          rw [this]
      rw [hw] at h2
      split
      · rename_i hc
        rw [if_pos hc] at h2
        exact h2.imp (Oper.wp_mono fun a' w' h' => ih _ a' w' (by simpa using hm) h') id
      · rename_i hc
        rw [if_neg hc] at h2
        exact ih _ _ w (by simpa using hm) h2
end
def swapL : List Oper → Option (List Oper × Oper × Oper)
  | [] => none
  | [_] => none
  | [a, b] => some ([], a, b)
  | o :: r =>
    match swapL r with
    | some (l, a, b) => some (o :: l, a, b)
    | none => none
theorem swapL_spec : ∀ {r l : List Oper} {a b : Oper}, swapL r = some (l, a, b) → r = l ++ [a, b]
  | [], _, _, _, h => by cases h
  | [_], _, _, _, h => by cases h
  | [x, y], l, a, b, h => by
    simp only [swapL, Option.some.injEq, Prod.mk.injEq] at h
    obtain ⟨rfl, rfl, rfl⟩ := h
    rfl
  | o :: x :: y :: r, l, a, b, h => by
    simp only [swapL] at h
    split at h
    · rename_i l' a' b' hh
      simp only [Option.some.injEq, Prod.mk.injEq] at h
      obtain ⟨rfl, rfl, rfl⟩ := h
      rw [swapL_spec hh]; rfl
    · cases h
/-- .. a drawn region whose last two wait for each other in no way: told with these the other way about. -/
def drawZ (P : Program) : DrawFn := fun rec ops x =>
  match swapL ops.toList with
  | some (l, a, b) => if loneB l.length (l ++ [a, b]) && loneB l.length (l ++ [b, a]) then drawA P rec ⟨l ++ [b, a]⟩ x else none
  | none => none
theorem drawZ_low (P : Program) : DrawLow (drawZ P) := by
  intro rec ops x x' hr k hm
  unfold drawZ at hr
  split at hr
  · split at hr
    · exact drawA_low P rec _ x _ hr k hm
    · cases hr
  · cases hr
theorem drawZ_ok (P : Program) : DrawOk P (drawZ P) := by
  intro rec hrec ops x x' hr wb k s id a w hm HS
  unfold drawZ at hr
  split at hr
  · rename_i l o1 o2 hs
    split at hr
    · rename_i hc
      simp only [Bool.and_eq_true] at hc
      obtain ⟨h1, h2⟩ := drawA_any P hrec hr hm HS
      refine wp_region_any h1 ?_
      obtain ⟨r⟩ := ops
      have e : r = l ++ [o1, o2] := swapL_spec hs
      subst e
      have hsz : (⟨l ++ [o1, o2]⟩ : Array Oper).size = l.length + 2 := by simp
      have hsz' : (⟨l ++ [o2, o1]⟩ : Array Oper).size = l.length + 2 := by simp
      rw [hsz'] at h2
      rw [hsz]
      refine sw_any hc.1 hc.2 _ _ _ _ (by simp) ?_
      have em : swM l.length (Array.replicate (l.length + 2) false) = Array.replicate (l.length + 2) false := by
        apply Array.ext_getElem?
        intro j
        rw [swM_get (by simp)]
        simp only [Array.getElem?_replicate]
        have : (swI l.length j < l.length + 2) ↔ (j < l.length + 2) := by unfold swI; split <;> (try split) <;> omega
        by_cases hj : j < l.length + 2
        · rw [if_pos hj, if_pos (this.2 hj)]
        · rw [if_neg hj, if_neg fun q => hj (this.1 q)]
      rw [em]
      exact h2
    · cases hr
  · cases hr
/-- A drawn region: by its head and its tail; if it has no such form, by each of its orders. -/
def drawE (P : Program) : DrawFn := fun rec ops x =>
  match drawA P rec ops x with
  | some y => some y
  | none =>
    match (match drawX P rec ops x with | some y => some y | none => (match drawY P rec ops x with | some y => some y | none => drawZ P rec ops x)) with
    | some y => some y
    | none => if P.follows .mixedOrders && Region.noSelect ops then explore P rec ops ops.size (Array.replicate ops.size false) x else none
theorem drawE_low (P : Program) : DrawLow (drawE P) := by
  intro rec ops x x' hr k hm
  unfold drawE at hr
  split at hr
  · rename_i y hy
    cases hr
    exact drawA_low P rec ops x _ hy k hm
  · split at hr
    · rename_i y hy
      cases hr
      split at hy
      · rename_i z hz
        cases hy
        exact drawX_low P rec ops x _ hz k hm
      · split at hy
        · rename_i z hz
          cases hy
          exact drawY_low P rec ops x _ hz k hm
        · exact drawZ_low P rec ops x _ hy k hm
    · split at hr
      · exact explore_low _ _ _ _ hr hm
      · cases hr
theorem drawE_ok (P : Program) : DrawOk P (drawE P) := by
  intro rec hrec ops x x' hr wb k s id a w hm HS
  unfold drawE at hr
  split at hr
  · rename_i y hy
    cases hr
    exact drawA_ok P rec hrec ops x _ hy wb k s id a w hm HS
  split at hr
  · rename_i y hy
    cases hr
    split at hy
    · rename_i z hz
      cases hy
      exact drawX_ok P rec hrec ops x _ hz wb k s id a w hm HS
    · split at hy
      · rename_i z hz
        cases hy
        exact drawY_ok P rec hrec ops x _ hz wb k s id a w hm HS
      · exact drawZ_ok P rec hrec ops x _ hy wb k s id a w hm HS
  · split at hr
    · rename_i hc
      simp only [Bool.and_eq_true] at hc
      refine wp_region_any hc.1 ?_
      exact explore_ok hrec hc.2 (fun c a w h => by cases h.1) ops.size _ x x' hr hm s a w.drew ⟨HS.t, HS.d, HS.h.drew⟩ fun s' a' w' hle H' => ⟨rfl, s', hle, H'⟩
    · cases hr

abbrev Hook := FuncId → List Value → List AO → Option (Value × Cs)
def noHook : Hook := fun _ _ _ => none
theorem noHook_ok (P : Program) : HookOk P noHook := by intro f args h0 v cs h; cases h
/-- What the kernel reckons of a call whose arguments and whose answer hold no address: its answer, and one side of what must be the same; and the other side. -/
noncomputable def ranOf (P : Program) (hk : Hook) (L f : Nat) (g : FuncId) (args : List Value) : Option (Value × List AO × Mk) := callA P ⟨ex P (aOp P) (drawE P) (liftH (guardH hk)) noOrc accQ L f, liftH (guardH hk), fun _ _ => none, accQ⟩ g args []
noncomputable def reckonL (P : Program) (hk : Hook) (L f : Nat) (g : FuncId) (args : List Value) : Option (Value × List Int) :=
  match ranOf P hk L f g args with
  | some (v, _, m) => some (v, m.2.map (·.1))
  | none => none
noncomputable def reckonR (P : Program) (hk : Hook) (L f : Nat) (g : FuncId) (args : List Value) (v : Value) : Option (Value × List Int) :=
  match ranOf P hk L f g args with
  | some (_, _, m) => some (v, m.2.map (·.2))
  | none => some (v, [])
theorem map_same {α : Type} : ∀ {l : List (α × α)}, l.map (·.1) = l.map (·.2) → ∀ c ∈ l, c.1 = c.2
  | [], _, c, hc => by cases hc
  | x :: l, h, c, hc => by
    simp only [List.map_cons, List.cons.injEq] at h
    rcases List.mem_cons.1 hc with e | e
    · rw [e]; exact h.1
    · exact map_same h.2 c e
theorem reckonH_ok {P : Program} (hng : NoNG P) {hk : Hook} (hhk : HookOk P hk) (L f : Nat) {g : FuncId} {args : List Value} {v : Value} (ha : args.all flat = true) (hv : flat v = true) (h : reckonL P hk L f g args = reckonR P hk L f g args v) (w : World) :
    Calls P g ⟨args⟩ w fun e w' => e = .returned v ∧ Gr w w' := by
  unfold reckonL reckonR ranOf at h
  cases hc : callA P ⟨ex P (aOp P) (drawE P) (liftH (guardH hk)) noOrc accQ L f, liftH (guardH hk), fun _ _ => none, accQ⟩ g args [] with
  | none => rw [hc] at h; cases h
  | some r =>
    obtain ⟨v', h', m⟩ := r
    rw [hc] at h
    simp only [Option.some.injEq, Prod.mk.injEq] at h
    obtain ⟨rfl, h2⟩ := h
    exact closed_call accQ_eq hng (aOp_ok P hng) (drawE_ok P) (drawE_low P) (lift_ok (guard_ok hhk)) L f ha hv hc (map_same h2) w
theorem reckon_ok {P : Program} (hng : NoNG P) (L f : Nat) {g : FuncId} {args : List Value} {v : Value} (ha : args.all flat = true) (hv : flat v = true) (h : reckonL P noHook L f g args = reckonR P noHook L f g args v) (w : World) :
    Calls P g ⟨args⟩ w fun e w' => e = .returned v ∧ Gr w w' := reckonH_ok hng (noHook_ok P) L f ha hv h w
end Go.Proofs.YthhgfjnnconocaaGreatDoor.Ex
end
section
namespace Go.Proofs.YthhgfjnnconocaaGreatDoor.Ex
open Go Go.RowKit

/-- The first blocks: a package's variables; those that are not spoken of are given up. -/
def placeG (h0 : List AO) (w : World) : Ren := fun g =>
  match h0[g]?, w.shape? g with
  | some o, some (_, tot) => if o.live then some ⟨g, 0, tot, some GM⟩ else none
  | _, _ => none
def Laid (h0 : List AO) (w : World) : Prop :=
  ∀ (g : Nat) (o : AO), h0[g]? = some o → o.live = true → o.es = some GM ∧ o.cs.all flat = true ∧ ∃ T tot, w.shape? g = some (T, tot) ∧ o.cs.length ≤ tot ∧ ∀ (j : Nat) (v : Value), o.cs[j]? = some v → w.cell? ⟨g, j, none⟩ = some v
theorem shape_cells {w : World} {g : Nat} {T : TypeId} {n : Nat} (h : w.shape? g = some (T, n)) : g < w.heap.size ∧ ∀ j, j < n → (w.cell? ⟨g, j, none⟩).isSome = true := by
  unfold World.shape? at h
  split at h
  · rename_i c e f hh
    cases h
    refine ⟨(Array.getElem?_eq_some_iff.1 hh).1, fun j hj => ?_⟩
    unfold World.cell?
    simp only [hh]
    simpa using hj
  · cases h
theorem HR.start {h0 : List AO} {w : World} (hL : Laid h0 w) : HR w h0.length (placeG h0 w) h0 w := by
  have pl : ∀ g p, placeG h0 w g = some p → ∃ o T tot, h0[g]? = some o ∧ o.live = true ∧ w.shape? g = some (T, tot) ∧ p = ⟨g, 0, tot, some GM⟩ := by
    intro g p hp
    unfold placeG at hp
    split at hp
    · rename_i o T tot ho hs
      split at hp
      · rename_i hl; cases hp; exact ⟨o, T, tot, ho, hl, hs, rfl⟩
      · cases hp
    · cases hp
  refine ⟨Gr.refl w, Nat.le_refl _, fun i hi => ?_, fun i p hp => ?_, fun i o ho hl => ?_, fun i j a b p q hi hj _ _ hp hq e => ?_, fun g p hp _ => ?_⟩
  · unfold placeG
    rw [List.getElem?_eq_none hi]
  · obtain ⟨o, T, tot, ho, hl, hs, rfl⟩ := pl i p hp
    have := (shape_cells hs).1
    have hlt := (List.getElem?_eq_some_iff.1 ho).1
    exact ⟨fun _ => this, fun h => absurd h (by omega), this⟩
  · obtain ⟨he, hf, T, tot, hs, hle, hc⟩ := hL i o ho hl
    refine ⟨⟨i, 0, tot, some GM⟩, by unfold placeG; simp [ho, hl, hs], he.symm, ObjAt.block (by unfold isM; rw [he]; rfl) ⟨by simpa using hle, (shape_cells hs).2, ⟨T, hs⟩, fun hg => absurd rfl hg, fun j v hv => ⟨v, ?_, .same (all_get hf hv)⟩⟩⟩
    rw [Nat.zero_add]
    exact hc j v hv
  · obtain ⟨_, _, _, _, _, _, rfl⟩ := pl i p hp
    obtain ⟨_, _, _, _, _, _, rfl⟩ := pl j q hq
    exact e
  · obtain ⟨_, _, _, _, _, _, rfl⟩ := pl g p hp
    exact ⟨rfl, rfl⟩
/-- A memory that is told by a heap whose first blocks are such variables has these. -/
def eqI : Value → Value → Bool
  | .int k a, .int j b => if k = j then a == b else false
  | x, y => veq0 x y
theorem eqI_ok {x y : Value} (h : eqI x y = true) : x = y := by
  unfold eqI at h
  split at h
  · split at h
    · rename_i hk; rw [hk, eq_of_beq h]
    · cases h
  · exact veq0_ok h
def eqL : List Value → List Value → Bool
  | [], [] => true
  | x :: xs, y :: ys => eqI x y && eqL xs ys
  | _, _ => false
theorem eqL_ok : ∀ {xs ys : List Value}, eqL xs ys = true → xs = ys
  | [], [], _ => rfl
  | x :: xs, y :: ys, h => by
    simp only [eqL, Bool.and_eq_true] at h
    rw [eqI_ok h.1, eqL_ok h.2]
  | [], _ :: _, h => by cases h
  | _ :: _, [], h => by cases h
def hasG : List AO → List AO → Bool
  | [], _ => true
  | _ :: _, [] => false
  | o :: l, p :: h => (!o.live || (p.live && (match p.es with | some e => Nat.beq e GM | none => false) && eqL p.cs o.cs)) && hasG l h
theorem hasG_at : ∀ {h0 h : List AO}, hasG h0 h = true → ∀ (g : Nat) (o : AO), h0[g]? = some o → o.live = true → ∃ p, h[g]? = some p ∧ p.live = true ∧ p.es = some GM ∧ p.cs = o.cs
  | [], _, _, g, o, ho, _ => by simp at ho
  | _ :: _, [], h, _, _, _, _ => by cases h
  | o :: l, p :: h, hh, g, q, hq, hl => by
    simp only [hasG, Bool.and_eq_true] at hh
    cases g with
    | succ g => simpa using hasG_at hh.2 g q (by simpa using hq) hl
    | zero =>
      simp at hq
      subst hq
      have h1 := hh.1
      simp only [hl, Bool.not_true, Bool.false_or, Bool.and_eq_true] at h1
      refine ⟨p, rfl, h1.1.1, ?_, eqL_ok h1.2⟩
      cases he : p.es with
      | none => rw [he] at h1; cases h1.1.2
      | some e => rw [he] at h1; rw [Nat.eq_of_beq_eq_true h1.1.2]
theorem HR.laid {wb : World} {k : Nat} {s : Ren} {h h0 : List AO} {w : World} (H : HR wb k s h w) (hh : hasG h0 h = true) (hf : h0.all (fun o => !o.live || (match o.es with | some e => Nat.beq e GM | none => false) && o.cs.all flat) = true) : Laid h0 w := by
  intro g o ho hl
  obtain ⟨p, hp, hpl, hpe, hpc⟩ := hasG_at hh g o ho hl
  have hfo := List.all_eq_true.1 hf o (List.mem_of_getElem? ho)
  simp only [hl, Bool.not_true, Bool.false_or, Bool.and_eq_true] at hfo
  have hoe : o.es = some GM := by
    cases he : o.es with
    | none => rw [he] at hfo; cases hfo.1
    | some e => rw [he] at hfo; rw [Nat.eq_of_beq_eq_true hfo.1]
  obtain ⟨q, hq, hqe, hb⟩ := H.obj g p hp hpl
  obtain ⟨e1, e2⟩ := H.gl g q hq (by rw [hqe, hpe])
  have B := hb.2 (by unfold isM; rw [hpe]; rfl)
  obtain ⟨T, hT⟩ := B.shp
  rw [e1] at hT
  refine ⟨hoe, hfo.2, T, q.tot, hT, ?_, fun j v hv => ?_⟩
  · have := B.fit
    rw [hpc] at this
    omega
  · obtain ⟨v', h1, h2⟩ := B.rel j v (by rw [hpc]; exact hv)
    rw [e1, e2, Nat.zero_add, h2.eq_of_flat (all_get hfo.2 hv)] at h1
    exact h1
noncomputable def ranG (P : Program) (hk : Hook) (orc : Orc) (L f : Nat) (h0 : List AO) (g : FuncId) (args : List Value) : Option (Value × List AO × Mk) :=
  match callA P ⟨ex P (aOp P) (drawE P) (liftH hk) orc accQ L f, liftH hk, fun _ _ => none, accQ⟩ g args h0 with
  | some (v, h, m) => if quietB h0.length m.1 then some (v, h, m) else none
  | none => none
noncomputable def reckonGL (P : Program) (hk : Hook) (orc : Orc) (L f : Nat) (h0 : List AO) (g : FuncId) (args : List Value) : Option (Value × List Int) :=
  match ranG P hk orc L f h0 g args with
  | some (v, _, m) => some (v, m.2.map (·.1))
  | none => none
noncomputable def reckonGR (P : Program) (hk : Hook) (orc : Orc) (L f : Nat) (h0 : List AO) (g : FuncId) (args : List Value) (v : Value) : Option (Value × List Int) :=
  match ranG P hk orc L f h0 g args with
  | some (_, _, m) => some (v, m.2.map (·.2))
  | none => some (v, [])
/-- A run with tests that are not reckoned: 'orc' says which way each goes; what it must hold for is 'ls = rs'. -/
theorem reckonX_any {P : Program} (hng : NoNG P) {hk : Hook} (hhk : HookOk2 P hk) (orc : Orc) (L f : Nat) (h0 : List AO) {g : FuncId} {args : List Value} {v : Value} (ha : args.all flat = true) (hv : flat v = true) (h : reckonGL P hk orc L f h0 g args = reckonGR P hk orc L f h0 g args v) (w : World) (hL : Laid h0 w) :
    Calls P g ⟨args⟩ w fun e w' => e = .returned v ∧ Gr w w' := by
  unfold reckonGL reckonGR ranG at h
  cases hc : callA P ⟨ex P (aOp P) (drawE P) (liftH hk) orc accQ L f, liftH hk, fun _ _ => none, accQ⟩ g args h0 with
  | none => rw [hc] at h; cases h
  | some r =>
    obtain ⟨v', h', m⟩ := r
    rw [hc] at h
    simp only at h
    split at h
    · rename_i r2 v2 h2 m2 hm2
      split at hm2
      · rename_i hq
        cases hm2
        simp only [Option.some.injEq, Prod.mk.injEq] at h
        obtain ⟨rfl, h3⟩ := h
        refine (callA_ok (ex_ok accQ_eq hng (aOp_ok P hng) (drawE_ok P) (drawE_low P) (lift_ok hhk) L f _) hc (wb := w) (k := h0.length) (s := placeG h0 w) ⟨quietB_ok hq, map_same h3⟩ (LR.ofFlat ha) (HR.start hL)).mono ?_
        rintro e w' ⟨s', u, rfl, _, H, hvr⟩
        rw [hvr.eq_of_flat hv]
        exact ⟨rfl, H.grown⟩
      · cases hm2
    · cases h
theorem reckonG_any {P : Program} (hng : NoNG P) {hk : Hook} (hhk : HookOk P hk) (orc : Orc) (L f : Nat) (h0 : List AO) {g : FuncId} {args : List Value} {v : Value} (ha : args.all flat = true) (hv : flat v = true) (h : reckonGL P (guardH hk) orc L f h0 g args = reckonGR P (guardH hk) orc L f h0 g args v) (w : World) (hL : Laid h0 w) :
    Calls P g ⟨args⟩ w fun e w' => e = .returned v ∧ Gr w w' := reckonX_any hng (guard_ok hhk) orc L f h0 ha hv h w hL
theorem reckonG_ok {P : Program} (hng : NoNG P) {hk : Hook} (hhk : HookOk P hk) (L f : Nat) (h0 : List AO) {g : FuncId} {args : List Value} {v : Value} (ha : args.all flat = true) (hv : flat v = true) (h : reckonGL P (guardH hk) noOrc L f h0 g args = reckonGR P (guardH hk) noOrc L f h0 g args v) (w : World) (hL : Laid h0 w) :
    Calls P g ⟨args⟩ w fun e w' => e = .returned v ∧ Gr w w' := reckonG_any hng hhk noOrc L f h0 ha hv h w hL
theorem reckonS_ok {P : Program} (hng : NoNG P) {hk : Hook} (hhk : HookOk P hk) (orc : Orc) (L f : Nat) (h0 : List AO) {g : FuncId} {args : List Value} {v : Value} {ls rs : List Int} (ha : args.all flat = true) (hv : flat v = true) (h1 : reckonGL P (guardH hk) orc L f h0 g args = some (v, ls))
    (h2 : reckonGR P (guardH hk) orc L f h0 g args v = some (v, rs)) (he : ls = rs) (w : World) (hL : Laid h0 w) : Calls P g ⟨args⟩ w fun e w' => e = .returned v ∧ Gr w w' :=
  reckonG_any hng hhk orc L f h0 ha hv (h1.trans (he ▸ h2.symm)) w hL
noncomputable def reckonGC (P : Program) (hk : Hook) (orc : Orc) (L f : Nat) (h0 : List AO) (g : FuncId) (args : List Value) : Option (Value × Cs) :=
  match ranG P hk orc L f h0 g args with
  | some (v, _, m) => some (v, m.2)
  | none => none
/-- The same, of one run alone: 'cs' are the pairs that must be the same. -/
theorem reckonT_ok {P : Program} (hng : NoNG P) {hk : Hook} (hhk : HookOk P hk) (orc : Orc) (L f : Nat) (h0 : List AO) {g : FuncId} {args : List Value} {v : Value} {cs : Cs} (ha : args.all flat = true) (hv : flat v = true) (h : reckonGC P (guardH hk) orc L f h0 g args = some (v, cs))
    (he : cs.map (·.1) = cs.map (·.2)) (w : World) (hL : Laid h0 w) : Calls P g ⟨args⟩ w fun e w' => e = .returned v ∧ Gr w w' := by
  refine reckonG_any hng hhk orc L f h0 ha hv ?_ w hL
  unfold reckonGC at h
  unfold reckonGL reckonGR
  split at h
  · rename_i v' h' m hr
    cases h
    simp only [he]
  · cases h
theorem reckonX_ok {P : Program} (hng : NoNG P) {hk : Hook} (hhk : HookOk2 P hk) (L f : Nat) (h0 : List AO) {g : FuncId} {args : List Value} {v : Value} (ha : args.all flat = true) (hv : flat v = true) (h : reckonGL P hk noOrc L f h0 g args = reckonGR P hk noOrc L f h0 g args v) (w : World) (hL : Laid h0 w) :
    Calls P g ⟨args⟩ w fun e w' => e = .returned v ∧ Gr w w' := reckonX_any hng hhk noOrc L f h0 ha hv h w hL
/-- Of one run alone, with hooks of any arguments: 'cs' are the pairs that must be the same. -/
theorem reckonXT_ok {P : Program} (hng : NoNG P) {hk : Hook} (hhk : HookOk2 P hk) (orc : Orc) (L f : Nat) (h0 : List AO) {g : FuncId} {args : List Value} {v : Value} {cs : Cs} (ha : args.all flat = true) (hv : flat v = true) (h : reckonGC P hk orc L f h0 g args = some (v, cs))
    (he : cs.map (·.1) = cs.map (·.2)) (w : World) (hL : Laid h0 w) : Calls P g ⟨args⟩ w fun e w' => e = .returned v ∧ Gr w w' := by
  refine reckonX_any hng hhk orc L f h0 ha hv ?_ w hL
  unfold reckonGC at h
  unfold reckonGL reckonGR
  split at h
  · rename_i v' h' m hr
    cases h
    simp only [he]
  · cases h
theorem laid_at {g : Nat} {cs : List Value} {w : World} (h : ∃ t fr, w.heap[g]? = some (.cells ⟨cs⟩ t fr)) : ∃ T tot, w.shape? g = some (T, tot) ∧ cs.length ≤ tot ∧ ∀ (j : Nat) (v : Value), cs[j]? = some v → w.cell? ⟨g, j, none⟩ = some v := by
  obtain ⟨t, fr, hh⟩ := h
  refine ⟨t, cs.length, by simp [World.shape?, hh], Nat.le_refl _, fun j v hv => ?_⟩
  unfold World.cell?
  simp only [hh]
  simpa using hv
/-- One variable, at its place. -/
theorem Laid.one {g0 : Nat} {cs : List Value} {w : World} (hf : cs.all flat = true) (h : ∃ t fr, w.heap[g0]? = some (.cells ⟨cs⟩ t fr)) : Laid (List.replicate g0 dead ++ [⟨true, some GM, cs⟩]) w := by
  intro g o ho hl
  by_cases e : g < g0
  · rw [List.getElem?_append_left (by simpa using e), List.getElem?_replicate, if_pos e] at ho
    cases ho
    cases hl
  · have h2 := (List.getElem?_eq_some_iff.1 ho).1
    simp only [List.length_append, List.length_replicate, List.length_singleton] at h2
    obtain rfl : g = g0 := by omega
    rw [List.getElem?_append_right (by simp)] at ho
    simp only [List.length_replicate, Nat.sub_self, List.getElem?_cons_zero, Option.some.injEq] at ho
    subst ho
    exact ⟨rfl, hf, laid_at h⟩
theorem Laid.nil (w : World) : Laid [] w := fun g o h => by simp at h
theorem Laid.gr {h0 : List AO} {w w' : World} (h : Laid h0 w) (g : Gr w w') : Laid h0 w' := fun i o ho hl =>
  let ⟨a, b, T, tot, hs, hle, hc⟩ := h i o ho hl
  ⟨a, b, T, tot, gr_shape g (shape_cells hs).1 hs, hle, fun j v hv => (gr_cell g (a := ⟨i, j, none⟩) (shape_cells hs).1).trans (hc j v hv)⟩
end Go.Proofs.YthhgfjnnconocaaGreatDoor.Ex
end
section
namespace Go.Proofs.YthhgfjnnconocaaGreatDoor.Ex
open Go Go.RowKit

/-- What the kernel reckons of a call, with hooks that may lay memory. -/
noncomputable def ran3 (P : Program) (hk : Hook3) (orc : Orc) (L f : Nat) (h0 : List AO) (g : FuncId) (args : List Value) : Option (Value × List AO × Mk) :=
  match callA P ⟨ex P (aOp P) (drawE P) hk orc accQ L f, hk, fun _ _ => none, accQ⟩ g args h0 with
  | some (v, h, m) => if quietB h0.length m.1 then some (v, h, m) else none
  | none => none
noncomputable def reckon3L (P : Program) (hk : Hook3) (orc : Orc) (L f : Nat) (h0 : List AO) (g : FuncId) (args : List Value) : Option (Value × List Int) :=
  match ran3 P hk orc L f h0 g args with
  | some (v, _, m) => some (v, m.2.map (·.1))
  | none => none
noncomputable def reckon3R (P : Program) (hk : Hook3) (orc : Orc) (L f : Nat) (h0 : List AO) (g : FuncId) (args : List Value) (v : Value) : Option (Value × List Int) :=
  match ran3 P hk orc L f h0 g args with
  | some (_, _, m) => some (v, m.2.map (·.2))
  | none => some (v, [])
theorem reckon3_any {P : Program} (hng : NoNG P) {hk : Hook3} (hhk : HookOk3 P hk) (orc : Orc) (L f : Nat) (h0 : List AO) {g : FuncId} {args : List Value} {v : Value} (ha : args.all flat = true) (hv : flat v = true) (h : reckon3L P hk orc L f h0 g args = reckon3R P hk orc L f h0 g args v) (w : World) (hL : Laid h0 w) :
    Calls P g ⟨args⟩ w fun e w' => e = .returned v ∧ Gr w w' := by
  unfold reckon3L reckon3R ran3 at h
  cases hc : callA P ⟨ex P (aOp P) (drawE P) hk orc accQ L f, hk, fun _ _ => none, accQ⟩ g args h0 with
  | none => rw [hc] at h; cases h
  | some r =>
    obtain ⟨v', h', m⟩ := r
    rw [hc] at h
    simp only at h
    split at h
    · rename_i r2 v2 h2 m2 hm2
      split at hm2
      · rename_i hq
        cases hm2
        simp only [Option.some.injEq, Prod.mk.injEq] at h
        obtain ⟨rfl, h3⟩ := h
        refine (callA_ok (ex_ok accQ_eq hng (aOp_ok P hng) (drawE_ok P) (drawE_low P) hhk L f _) hc (wb := w) (k := h0.length) (s := placeG h0 w) ⟨quietB_ok hq, map_same h3⟩ (LR.ofFlat ha) (HR.start hL)).mono ?_
        rintro e w' ⟨s', u, rfl, _, H, hvr⟩
        rw [hvr.eq_of_flat hv]
        exact ⟨rfl, H.grown⟩
      · cases hm2
    · cases h
theorem reckon3_ok {P : Program} (hng : NoNG P) {hk : Hook3} (hhk : HookOk3 P hk) (orc : Orc) (L f : Nat) (h0 : List AO) {g : FuncId} {args : List Value} {v : Value} {ls rs : List Int} (ha : args.all flat = true) (hv : flat v = true) (h1 : reckon3L P hk orc L f h0 g args = some (v, ls))
    (h2 : reckon3R P hk orc L f h0 g args v = some (v, rs)) (he : ls = rs) (w : World) (hL : Laid h0 w) : Calls P g ⟨args⟩ w fun e w' => e = .returned v ∧ Gr w w' :=
  reckon3_any hng hhk orc L f h0 ha hv (h1.trans (he ▸ h2.symm)) w hL
/-- The blocks that a call of flat arguments lays, where so many blocks are told already: its value, they, and what must be the same. -/
noncomputable def lays (P : Program) (hk : Hook3) (orc : Orc) (L f : Nat) (q : Nat) (g : FuncId) (args : List Value) : Option (Value × List AO × Cs) :=
  match callA P ⟨ex P (aOp P) (drawE P) hk orc accQ L f, hk, fun _ _ => none, accQ⟩ g args (List.replicate q dead) with
  | some (v, h, m) =>
    if quietB q m.1 && (refF (fun x => decide (q ≤ x) && decide (x < q + (h.drop q).length)) 6 v && (h.drop q).all (refO fun x => decide (q ≤ x) && decide (x < q + (h.drop q).length))) then some (v, h.drop q, m.2) else none
  | none => none
theorem layL_end {h new : List AO} : layL (h ++ List.replicate new.length dead) h.length new = h ++ new := by
  unfold layL
  rw [List.take_left', List.drop_of_length_le (by simp)]
  · simp
  · rfl
theorem lays_ok {P : Program} (hng : NoNG P) {hk : Hook3} (hhk : HookOk3 P hk) {orc : Orc} {L f q : Nat} {g : FuncId} {args : List Value} {v : Value} {new : List AO} {cs : Cs} (ha : args.all flat = true) (hr : lays P hk orc L f q g args = some (v, new, cs)) (hc : ∀ c ∈ cs, c.1 = c.2)
    {wb : World} {k : Nat} {s : Ren} {h : List AO} {w : World} (hq : h.length = q) (H : HR wb k s h w) : Calls P g ⟨args⟩ w (CallPost wb k s v (h ++ new)) := by
  unfold lays at hr
  split at hr
  · rename_i v1 h1 m hca
    split at hr
    · rename_i hcond
      cases hr
      simp only [Bool.and_eq_true] at hcond
      obtain ⟨hq3, hrv, hro⟩ := hcond
      have HP := ((HR.init w).pad q).here
      rw [List.nil_append, List.length_replicate] at HP
      refine (callA_ok (ex_ok accQ_eq hng (aOp_ok P hng) (drawE_ok P) (drawE_low P) hhk L f _) hca (wb := w) (k := q) ⟨quietB_ok hq3, hc⟩ (LR.ofFlat ha) HP).mono ?_
      rintro e w' ⟨s', v', rfl, _, H', hvr⟩
      have HD := H.pad (h1.drop q).length
      have hr1 : (h1.drop q).all (refO fun x => (fun _ => false) x || (decide (q ≤ x) && decide (x < q + (h1.drop q).length))) = true := by simpa using hro
      obtain ⟨H2, hle2, hok⟩ := HD.layNew (q := q) (bs := h1.drop q) (by simp only [List.length_append, List.length_replicate]; omega) (by have := H.kle; omega) (fun x hx1 _ => H.dom x (by omega))
        H' (fun x o ho => by rw [List.getElem?_drop] at ho; exact ho) (old := fun _ => false) (fun x hx => by cases hx) (fun x hx => by cases hx) hr1
      subst hq
      rw [layL_end] at H2
      refine ⟨_, v', rfl, hle2, H2, hvr.refs hok 6 ?_⟩
      simpa using hrv
    · cases hr
  · cases hr
/-- A table of calls that lay memory: by function, arguments and how many blocks are told already. -/
structure LayCall where
  f : FuncId
  args : List Value
  q : Nat
  v : Value
  new : List AO
def layHook (same : List Value → List Value → Bool) : List LayCall → Hook3
  | [] => fun _ _ _ => none
  | e :: l => fun f args h => if Nat.beq f e.f && (Nat.beq h.length e.q && same args e.args) then some (e.v, e.new, []) else layHook same l f args h
/-- Its call does that, wherever so many blocks are told. -/
def LayOk (P : Program) (e : LayCall) : Prop :=
  ∀ (wb : World) (k : Nat) (s : Ren) (h : List AO) (w : World), h.length = e.q → HR wb k s h w → Calls P e.f ⟨e.args⟩ w (CallPost wb k s e.v (h ++ e.new))
theorem layHook_ok {P : Program} {same : List Value → List Value → Bool} (hs : ∀ a b, same a b = true → a = b) : ∀ {t : List LayCall}, (∀ e ∈ t, e.args.all flat = true ∧ LayOk P e) → HookOk3 P (layHook same t)
  | [], _ => by intro f args h v new cs hv; cases hv
  | e :: t, ht => by
    intro f args h v new cs hv hc wb k s w args' H ha
    unfold layHook at hv
    split at hv
    · rename_i hcond
      simp only [Bool.and_eq_true] at hcond
      obtain ⟨h1, h2, h3⟩ := hcond
      cases hv
      obtain rfl := Nat.eq_of_beq_eq_true h1
      obtain rfl := hs _ _ h3
      obtain ⟨hfl, hok⟩ := ht e (List.mem_cons_self ..)
      rw [ha.eq_of_flat hfl]
      exact hok wb k s h w (Nat.eq_of_beq_eq_true h2) H
    · exact layHook_ok hs (fun e he => ht e (List.mem_cons_of_mem _ he)) f args h v new cs hv hc wb k s w args' H ha
def orHook3 (a b : Hook3) : Hook3 := fun f args h =>
  match a f args h with
  | some r => some r
  | none => b f args h
theorem orHook3_ok {P : Program} {a b : Hook3} (ha : HookOk3 P a) (hb : HookOk3 P b) : HookOk3 P (orHook3 a b) := by
  intro f args h v new cs hv
  unfold orHook3 at hv
  split at hv
  · rename_i r hr
    cases hv
    exact ha f args h v new cs hr
  · exact hb f args h v new cs hv
end Go.Proofs.YthhgfjnnconocaaGreatDoor.Ex
end
section
namespace Go.Proofs.YthhgfjnnconocaaGreatDoor.Ex
open Go Go.RowKit
set_option maxRecDepth 1000000 in
theorem noNG : NoNG Tryz.prog := noNG_ok (by kernel_rfl)
end Go.Proofs.YthhgfjnnconocaaGreatDoor.Ex
end
section
namespace Go.Proofs.YthhgfjnnconocaaGreatDoor.Ex
open Go Go.RowKit
def u8c0 : List Int := [0, 1, 2, 3, 4, 5, 6, 7]
def u8c1 : List Int := [8, 9, 10, 11, 12, 13, 14, 15]
def u8c2 : List Int := [16, 17, 18, 19, 20, 21, 22, 23]
def u8c3 : List Int := [24, 25, 26, 27, 28, 29, 30, 31]
def u8c4 : List Int := [32, 33, 34, 35, 36, 37, 38, 39]
def u8c5 : List Int := [40, 41, 42, 43, 44, 45, 46, 47]
def u8c6 : List Int := [48, 49, 50, 51, 52, 53, 54, 55]
def u8c7 : List Int := [56, 57, 58, 59, 60, 61, 62, 63]
def u8c8 : List Int := [64, 65, 66, 67, 68, 69, 70, 71]
def u8c9 : List Int := [72, 73, 74, 75, 76, 77, 78, 79]
def u8c10 : List Int := [80, 81, 82, 83, 84, 85, 86, 87]
def u8c11 : List Int := [88, 89, 90, 91, 92, 93, 94, 95]
def u8c12 : List Int := [96, 97, 98, 99, 100, 101, 102, 103]
def u8c13 : List Int := [104, 105, 106, 107, 108, 109, 110, 111]
def u8c14 : List Int := [112, 113, 114, 115, 116, 117, 118, 119]
def u8c15 : List Int := [120, 121, 122, 123, 124, 125, 126, 127]
def u8c16 : List Int := [128, 129, 130, 131, 132, 133, 134, 135]
def u8c17 : List Int := [136, 137, 138, 139, 140, 141, 142, 143]
def u8c18 : List Int := [144, 145, 146, 147, 148, 149, 150, 151]
def u8c19 : List Int := [152, 153, 154, 155, 156, 157, 158, 159]
def u8c20 : List Int := [160, 161, 162, 163, 164, 165, 166, 167]
def u8c21 : List Int := [168, 169, 170, 171, 172, 173, 174, 175]
def u8c22 : List Int := [176, 177, 178, 179, 180, 181, 182, 183]
def u8c23 : List Int := [184, 185, 186, 187, 188, 189, 190, 191]
def u8c24 : List Int := [192, 193, 194, 195, 196, 197, 198, 199]
def u8c25 : List Int := [200, 201, 202, 203, 204, 205, 206, 207]
def u8c26 : List Int := [208, 209, 210, 211, 212, 213, 214, 215]
def u8c27 : List Int := [216, 217, 218, 219, 220, 221, 222, 223]
def u8c28 : List Int := [224, 225, 226, 227, 228, 229, 230, 231]
def u8c29 : List Int := [232, 233, 234, 235, 236, 237, 238, 239]
def u8c30 : List Int := [240, 241, 242, 243, 244, 245, 246, 247]
def u8c31 : List Int := [248, 249, 250, 251, 252, 253, 254, 255]
def u8s : List Int := u8c0 ++ (u8c1 ++ (u8c2 ++ (u8c3 ++ (u8c4 ++ (u8c5 ++ (u8c6 ++ (u8c7 ++ (u8c8 ++ (u8c9 ++ (u8c10 ++ (u8c11 ++ (u8c12 ++ (u8c13 ++ (u8c14 ++ (u8c15 ++ (u8c16 ++ (u8c17 ++ (u8c18 ++ (u8c19 ++ (u8c20 ++ (u8c21 ++ (u8c22 ++ (u8c23 ++ (u8c24 ++ (u8c25 ++ (u8c26 ++ (u8c27 ++ (u8c28 ++ (u8c29 ++ (u8c30 ++ (u8c31)))))))))))))))))))))))))))))))
def u8in (x : Int) : Bool := decide (0 ≤ x ∧ x < 256)
theorem u8s_all : (List.range 256).all (fun n => u8s.contains (n : Int)) = true := by kernel_rfl
theorem u8in_mem {x : Int} (h : u8in x = true) : x ∈ u8s := by
  obtain ⟨h0, h1⟩ := of_decide_eq_true h
  obtain ⟨n, rfl⟩ := Int.eq_ofNat_of_zero_le h0
  exact List.contains_iff_mem.1 (List.all_eq_true.1 u8s_all n (List.mem_range.2 (by omega)))
end Go.Proofs.YthhgfjnnconocaaGreatDoor.Ex
end
section
namespace Go.Proofs.YthhgfjnnconocaaGreatDoor.Ex
open Go Go.RowKit
def rkSizeV (n : Nat) : Value := (bif Nat.ble 128 n then (.int .i64 0) else (bif Nat.ble 64 n then (bif Nat.ble 96 n then (bif Nat.ble 112 n then (bif Nat.ble 120 n then (bif Nat.ble 124 n then (.int .i64 0) else (bif Nat.ble 122 n then (.int .i64 8) else (bif Nat.ble 121 n then (.int .i64 8) else (.int .i64 0)))) else (bif Nat.ble 116 n then (.int .i64 0) else (bif Nat.ble 114 n then (.int .i64 1) else (bif Nat.ble 113 n then (.int .i64 1) else (.int .i64 0))))) else (bif Nat.ble 104 n then (bif Nat.ble 108 n then (.int .i64 0) else (bif Nat.ble 106 n then (.int .i64 2) else (bif Nat.ble 105 n then (.int .i64 2) else (.int .i64 0)))) else (bif Nat.ble 100 n then (.int .i64 0) else (bif Nat.ble 98 n then (.int .i64 4) else (bif Nat.ble 97 n then (.int .i64 4) else (.int .i64 0)))))) else (.int .i64 0)) else (.int .i64 0)))
theorem rkSize_flat : u8s.all (fun op => flat (rkSizeV op.toNat)) = true := by kernel_rfl
set_option maxHeartbeats 0 in
set_option maxRecDepth 1000000 in
theorem rkSize_0 : u8c0.map (fun op => reckonGC Tryz.prog (guardH noHook) noOrc 100000 300 [] 145 [.int .u8 op]) = u8c0.map (fun op => some (rkSizeV op.toNat, [])) := by kernel_rfl
set_option maxHeartbeats 0 in
set_option maxRecDepth 1000000 in
theorem rkSize_1 : u8c1.map (fun op => reckonGC Tryz.prog (guardH noHook) noOrc 100000 300 [] 145 [.int .u8 op]) = u8c1.map (fun op => some (rkSizeV op.toNat, [])) := by kernel_rfl
set_option maxHeartbeats 0 in
set_option maxRecDepth 1000000 in
theorem rkSize_2 : u8c2.map (fun op => reckonGC Tryz.prog (guardH noHook) noOrc 100000 300 [] 145 [.int .u8 op]) = u8c2.map (fun op => some (rkSizeV op.toNat, [])) := by kernel_rfl
set_option maxHeartbeats 0 in
set_option maxRecDepth 1000000 in
theorem rkSize_3 : u8c3.map (fun op => reckonGC Tryz.prog (guardH noHook) noOrc 100000 300 [] 145 [.int .u8 op]) = u8c3.map (fun op => some (rkSizeV op.toNat, [])) := by kernel_rfl
set_option maxHeartbeats 0 in
set_option maxRecDepth 1000000 in
theorem rkSize_4 : u8c4.map (fun op => reckonGC Tryz.prog (guardH noHook) noOrc 100000 300 [] 145 [.int .u8 op]) = u8c4.map (fun op => some (rkSizeV op.toNat, [])) := by kernel_rfl
set_option maxHeartbeats 0 in
set_option maxRecDepth 1000000 in
theorem rkSize_5 : u8c5.map (fun op => reckonGC Tryz.prog (guardH noHook) noOrc 100000 300 [] 145 [.int .u8 op]) = u8c5.map (fun op => some (rkSizeV op.toNat, [])) := by kernel_rfl
set_option maxHeartbeats 0 in
set_option maxRecDepth 1000000 in
theorem rkSize_6 : u8c6.map (fun op => reckonGC Tryz.prog (guardH noHook) noOrc 100000 300 [] 145 [.int .u8 op]) = u8c6.map (fun op => some (rkSizeV op.toNat, [])) := by kernel_rfl
set_option maxHeartbeats 0 in
set_option maxRecDepth 1000000 in
theorem rkSize_7 : u8c7.map (fun op => reckonGC Tryz.prog (guardH noHook) noOrc 100000 300 [] 145 [.int .u8 op]) = u8c7.map (fun op => some (rkSizeV op.toNat, [])) := by kernel_rfl
set_option maxHeartbeats 0 in
set_option maxRecDepth 1000000 in
theorem rkSize_8 : u8c8.map (fun op => reckonGC Tryz.prog (guardH noHook) noOrc 100000 300 [] 145 [.int .u8 op]) = u8c8.map (fun op => some (rkSizeV op.toNat, [])) := by kernel_rfl
set_option maxHeartbeats 0 in
set_option maxRecDepth 1000000 in
theorem rkSize_9 : u8c9.map (fun op => reckonGC Tryz.prog (guardH noHook) noOrc 100000 300 [] 145 [.int .u8 op]) = u8c9.map (fun op => some (rkSizeV op.toNat, [])) := by kernel_rfl
set_option maxHeartbeats 0 in
set_option maxRecDepth 1000000 in
theorem rkSize_10 : u8c10.map (fun op => reckonGC Tryz.prog (guardH noHook) noOrc 100000 300 [] 145 [.int .u8 op]) = u8c10.map (fun op => some (rkSizeV op.toNat, [])) := by kernel_rfl
set_option maxHeartbeats 0 in
set_option maxRecDepth 1000000 in
theorem rkSize_11 : u8c11.map (fun op => reckonGC Tryz.prog (guardH noHook) noOrc 100000 300 [] 145 [.int .u8 op]) = u8c11.map (fun op => some (rkSizeV op.toNat, [])) := by kernel_rfl
set_option maxHeartbeats 0 in
set_option maxRecDepth 1000000 in
theorem rkSize_12 : u8c12.map (fun op => reckonGC Tryz.prog (guardH noHook) noOrc 100000 300 [] 145 [.int .u8 op]) = u8c12.map (fun op => some (rkSizeV op.toNat, [])) := by kernel_rfl
set_option maxHeartbeats 0 in
set_option maxRecDepth 1000000 in
theorem rkSize_13 : u8c13.map (fun op => reckonGC Tryz.prog (guardH noHook) noOrc 100000 300 [] 145 [.int .u8 op]) = u8c13.map (fun op => some (rkSizeV op.toNat, [])) := by kernel_rfl
set_option maxHeartbeats 0 in
set_option maxRecDepth 1000000 in
theorem rkSize_14 : u8c14.map (fun op => reckonGC Tryz.prog (guardH noHook) noOrc 100000 300 [] 145 [.int .u8 op]) = u8c14.map (fun op => some (rkSizeV op.toNat, [])) := by kernel_rfl
set_option maxHeartbeats 0 in
set_option maxRecDepth 1000000 in
theorem rkSize_15 : u8c15.map (fun op => reckonGC Tryz.prog (guardH noHook) noOrc 100000 300 [] 145 [.int .u8 op]) = u8c15.map (fun op => some (rkSizeV op.toNat, [])) := by kernel_rfl
set_option maxHeartbeats 0 in
set_option maxRecDepth 1000000 in
theorem rkSize_16 : u8c16.map (fun op => reckonGC Tryz.prog (guardH noHook) noOrc 100000 300 [] 145 [.int .u8 op]) = u8c16.map (fun op => some (rkSizeV op.toNat, [])) := by kernel_rfl
set_option maxHeartbeats 0 in
set_option maxRecDepth 1000000 in
theorem rkSize_17 : u8c17.map (fun op => reckonGC Tryz.prog (guardH noHook) noOrc 100000 300 [] 145 [.int .u8 op]) = u8c17.map (fun op => some (rkSizeV op.toNat, [])) := by kernel_rfl
set_option maxHeartbeats 0 in
set_option maxRecDepth 1000000 in
theorem rkSize_18 : u8c18.map (fun op => reckonGC Tryz.prog (guardH noHook) noOrc 100000 300 [] 145 [.int .u8 op]) = u8c18.map (fun op => some (rkSizeV op.toNat, [])) := by kernel_rfl
set_option maxHeartbeats 0 in
set_option maxRecDepth 1000000 in
theorem rkSize_19 : u8c19.map (fun op => reckonGC Tryz.prog (guardH noHook) noOrc 100000 300 [] 145 [.int .u8 op]) = u8c19.map (fun op => some (rkSizeV op.toNat, [])) := by kernel_rfl
set_option maxHeartbeats 0 in
set_option maxRecDepth 1000000 in
theorem rkSize_20 : u8c20.map (fun op => reckonGC Tryz.prog (guardH noHook) noOrc 100000 300 [] 145 [.int .u8 op]) = u8c20.map (fun op => some (rkSizeV op.toNat, [])) := by kernel_rfl
set_option maxHeartbeats 0 in
set_option maxRecDepth 1000000 in
theorem rkSize_21 : u8c21.map (fun op => reckonGC Tryz.prog (guardH noHook) noOrc 100000 300 [] 145 [.int .u8 op]) = u8c21.map (fun op => some (rkSizeV op.toNat, [])) := by kernel_rfl
set_option maxHeartbeats 0 in
set_option maxRecDepth 1000000 in
theorem rkSize_22 : u8c22.map (fun op => reckonGC Tryz.prog (guardH noHook) noOrc 100000 300 [] 145 [.int .u8 op]) = u8c22.map (fun op => some (rkSizeV op.toNat, [])) := by kernel_rfl
set_option maxHeartbeats 0 in
set_option maxRecDepth 1000000 in
theorem rkSize_23 : u8c23.map (fun op => reckonGC Tryz.prog (guardH noHook) noOrc 100000 300 [] 145 [.int .u8 op]) = u8c23.map (fun op => some (rkSizeV op.toNat, [])) := by kernel_rfl
set_option maxHeartbeats 0 in
set_option maxRecDepth 1000000 in
theorem rkSize_24 : u8c24.map (fun op => reckonGC Tryz.prog (guardH noHook) noOrc 100000 300 [] 145 [.int .u8 op]) = u8c24.map (fun op => some (rkSizeV op.toNat, [])) := by kernel_rfl
set_option maxHeartbeats 0 in
set_option maxRecDepth 1000000 in
theorem rkSize_25 : u8c25.map (fun op => reckonGC Tryz.prog (guardH noHook) noOrc 100000 300 [] 145 [.int .u8 op]) = u8c25.map (fun op => some (rkSizeV op.toNat, [])) := by kernel_rfl
set_option maxHeartbeats 0 in
set_option maxRecDepth 1000000 in
theorem rkSize_26 : u8c26.map (fun op => reckonGC Tryz.prog (guardH noHook) noOrc 100000 300 [] 145 [.int .u8 op]) = u8c26.map (fun op => some (rkSizeV op.toNat, [])) := by kernel_rfl
set_option maxHeartbeats 0 in
set_option maxRecDepth 1000000 in
theorem rkSize_27 : u8c27.map (fun op => reckonGC Tryz.prog (guardH noHook) noOrc 100000 300 [] 145 [.int .u8 op]) = u8c27.map (fun op => some (rkSizeV op.toNat, [])) := by kernel_rfl
set_option maxHeartbeats 0 in
set_option maxRecDepth 1000000 in
theorem rkSize_28 : u8c28.map (fun op => reckonGC Tryz.prog (guardH noHook) noOrc 100000 300 [] 145 [.int .u8 op]) = u8c28.map (fun op => some (rkSizeV op.toNat, [])) := by kernel_rfl
set_option maxHeartbeats 0 in
set_option maxRecDepth 1000000 in
theorem rkSize_29 : u8c29.map (fun op => reckonGC Tryz.prog (guardH noHook) noOrc 100000 300 [] 145 [.int .u8 op]) = u8c29.map (fun op => some (rkSizeV op.toNat, [])) := by kernel_rfl
set_option maxHeartbeats 0 in
set_option maxRecDepth 1000000 in
theorem rkSize_30 : u8c30.map (fun op => reckonGC Tryz.prog (guardH noHook) noOrc 100000 300 [] 145 [.int .u8 op]) = u8c30.map (fun op => some (rkSizeV op.toNat, [])) := by kernel_rfl
set_option maxHeartbeats 0 in
set_option maxRecDepth 1000000 in
theorem rkSize_31 : u8c31.map (fun op => reckonGC Tryz.prog (guardH noHook) noOrc 100000 300 [] 145 [.int .u8 op]) = u8c31.map (fun op => some (rkSizeV op.toNat, [])) := by kernel_rfl
theorem c_rkSize (op : Int) (h : op ∈ u8s) (w : World) : Calls Tryz.prog 145 #[.int .u8 op] w fun e w' => e = .returned (rkSizeV op.toNat) ∧ Gr w w' := by
  have hf := List.all_eq_true.1 rkSize_flat op h
  unfold u8s at h
  rcases List.mem_append.1 h with hm | h
  · exact reckonT_ok noNG (noHook_ok _) noOrc 100000 300 [] (cs := []) rfl hf (List.map_inj_left.1 rkSize_0 op hm) rfl w (Laid.nil w)
  rcases List.mem_append.1 h with hm | h
  · exact reckonT_ok noNG (noHook_ok _) noOrc 100000 300 [] (cs := []) rfl hf (List.map_inj_left.1 rkSize_1 op hm) rfl w (Laid.nil w)
  rcases List.mem_append.1 h with hm | h
  · exact reckonT_ok noNG (noHook_ok _) noOrc 100000 300 [] (cs := []) rfl hf (List.map_inj_left.1 rkSize_2 op hm) rfl w (Laid.nil w)
  rcases List.mem_append.1 h with hm | h
  · exact reckonT_ok noNG (noHook_ok _) noOrc 100000 300 [] (cs := []) rfl hf (List.map_inj_left.1 rkSize_3 op hm) rfl w (Laid.nil w)
  rcases List.mem_append.1 h with hm | h
  · exact reckonT_ok noNG (noHook_ok _) noOrc 100000 300 [] (cs := []) rfl hf (List.map_inj_left.1 rkSize_4 op hm) rfl w (Laid.nil w)
  rcases List.mem_append.1 h with hm | h
  · exact reckonT_ok noNG (noHook_ok _) noOrc 100000 300 [] (cs := []) rfl hf (List.map_inj_left.1 rkSize_5 op hm) rfl w (Laid.nil w)
  rcases List.mem_append.1 h with hm | h
  · exact reckonT_ok noNG (noHook_ok _) noOrc 100000 300 [] (cs := []) rfl hf (List.map_inj_left.1 rkSize_6 op hm) rfl w (Laid.nil w)
  rcases List.mem_append.1 h with hm | h
  · exact reckonT_ok noNG (noHook_ok _) noOrc 100000 300 [] (cs := []) rfl hf (List.map_inj_left.1 rkSize_7 op hm) rfl w (Laid.nil w)
  rcases List.mem_append.1 h with hm | h
  · exact reckonT_ok noNG (noHook_ok _) noOrc 100000 300 [] (cs := []) rfl hf (List.map_inj_left.1 rkSize_8 op hm) rfl w (Laid.nil w)
  rcases List.mem_append.1 h with hm | h
  · exact reckonT_ok noNG (noHook_ok _) noOrc 100000 300 [] (cs := []) rfl hf (List.map_inj_left.1 rkSize_9 op hm) rfl w (Laid.nil w)
  rcases List.mem_append.1 h with hm | h
  · exact reckonT_ok noNG (noHook_ok _) noOrc 100000 300 [] (cs := []) rfl hf (List.map_inj_left.1 rkSize_10 op hm) rfl w (Laid.nil w)
  rcases List.mem_append.1 h with hm | h
  · exact reckonT_ok noNG (noHook_ok _) noOrc 100000 300 [] (cs := []) rfl hf (List.map_inj_left.1 rkSize_11 op hm) rfl w (Laid.nil w)
  rcases List.mem_append.1 h with hm | h
  · exact reckonT_ok noNG (noHook_ok _) noOrc 100000 300 [] (cs := []) rfl hf (List.map_inj_left.1 rkSize_12 op hm) rfl w (Laid.nil w)
  rcases List.mem_append.1 h with hm | h
  · exact reckonT_ok noNG (noHook_ok _) noOrc 100000 300 [] (cs := []) rfl hf (List.map_inj_left.1 rkSize_13 op hm) rfl w (Laid.nil w)
  rcases List.mem_append.1 h with hm | h
  · exact reckonT_ok noNG (noHook_ok _) noOrc 100000 300 [] (cs := []) rfl hf (List.map_inj_left.1 rkSize_14 op hm) rfl w (Laid.nil w)
  rcases List.mem_append.1 h with hm | h
  · exact reckonT_ok noNG (noHook_ok _) noOrc 100000 300 [] (cs := []) rfl hf (List.map_inj_left.1 rkSize_15 op hm) rfl w (Laid.nil w)
  rcases List.mem_append.1 h with hm | h
  · exact reckonT_ok noNG (noHook_ok _) noOrc 100000 300 [] (cs := []) rfl hf (List.map_inj_left.1 rkSize_16 op hm) rfl w (Laid.nil w)
  rcases List.mem_append.1 h with hm | h
  · exact reckonT_ok noNG (noHook_ok _) noOrc 100000 300 [] (cs := []) rfl hf (List.map_inj_left.1 rkSize_17 op hm) rfl w (Laid.nil w)
  rcases List.mem_append.1 h with hm | h
  · exact reckonT_ok noNG (noHook_ok _) noOrc 100000 300 [] (cs := []) rfl hf (List.map_inj_left.1 rkSize_18 op hm) rfl w (Laid.nil w)
  rcases List.mem_append.1 h with hm | h
  · exact reckonT_ok noNG (noHook_ok _) noOrc 100000 300 [] (cs := []) rfl hf (List.map_inj_left.1 rkSize_19 op hm) rfl w (Laid.nil w)
  rcases List.mem_append.1 h with hm | h
  · exact reckonT_ok noNG (noHook_ok _) noOrc 100000 300 [] (cs := []) rfl hf (List.map_inj_left.1 rkSize_20 op hm) rfl w (Laid.nil w)
  rcases List.mem_append.1 h with hm | h
  · exact reckonT_ok noNG (noHook_ok _) noOrc 100000 300 [] (cs := []) rfl hf (List.map_inj_left.1 rkSize_21 op hm) rfl w (Laid.nil w)
  rcases List.mem_append.1 h with hm | h
  · exact reckonT_ok noNG (noHook_ok _) noOrc 100000 300 [] (cs := []) rfl hf (List.map_inj_left.1 rkSize_22 op hm) rfl w (Laid.nil w)
  rcases List.mem_append.1 h with hm | h
  · exact reckonT_ok noNG (noHook_ok _) noOrc 100000 300 [] (cs := []) rfl hf (List.map_inj_left.1 rkSize_23 op hm) rfl w (Laid.nil w)
  rcases List.mem_append.1 h with hm | h
  · exact reckonT_ok noNG (noHook_ok _) noOrc 100000 300 [] (cs := []) rfl hf (List.map_inj_left.1 rkSize_24 op hm) rfl w (Laid.nil w)
  rcases List.mem_append.1 h with hm | h
  · exact reckonT_ok noNG (noHook_ok _) noOrc 100000 300 [] (cs := []) rfl hf (List.map_inj_left.1 rkSize_25 op hm) rfl w (Laid.nil w)
  rcases List.mem_append.1 h with hm | h
  · exact reckonT_ok noNG (noHook_ok _) noOrc 100000 300 [] (cs := []) rfl hf (List.map_inj_left.1 rkSize_26 op hm) rfl w (Laid.nil w)
  rcases List.mem_append.1 h with hm | h
  · exact reckonT_ok noNG (noHook_ok _) noOrc 100000 300 [] (cs := []) rfl hf (List.map_inj_left.1 rkSize_27 op hm) rfl w (Laid.nil w)
  rcases List.mem_append.1 h with hm | h
  · exact reckonT_ok noNG (noHook_ok _) noOrc 100000 300 [] (cs := []) rfl hf (List.map_inj_left.1 rkSize_28 op hm) rfl w (Laid.nil w)
  rcases List.mem_append.1 h with hm | h
  · exact reckonT_ok noNG (noHook_ok _) noOrc 100000 300 [] (cs := []) rfl hf (List.map_inj_left.1 rkSize_29 op hm) rfl w (Laid.nil w)
  rcases List.mem_append.1 h with hm | h
  · exact reckonT_ok noNG (noHook_ok _) noOrc 100000 300 [] (cs := []) rfl hf (List.map_inj_left.1 rkSize_30 op hm) rfl w (Laid.nil w)
  · exact reckonT_ok noNG (noHook_ok _) noOrc 100000 300 [] (cs := []) rfl hf (List.map_inj_left.1 rkSize_31 op h) rfl w (Laid.nil w)
def hk_rkSize : Hook := fun f args _ =>
  if Nat.beq f 145 then
    match args with
    | [.int .u8 op] => if u8in op then some (rkSizeV op.toNat, []) else none
    | _ => none
  else none
theorem hk_rkSize_ok : HookOk Tryz.prog hk_rkSize := by
  intro f args h v cs hv hc wb k s w H
  unfold hk_rkSize at hv
  split at hv
  · rename_i hf
    obtain rfl := Nat.eq_of_beq_eq_true hf
    split at hv
    · rename_i op
      split at hv
      · rename_i ho
        cases hv
        exact c_rkSize op (u8in_mem ho) w
      · cases hv
    · cases hv
  · cases hv
end Go.Proofs.YthhgfjnnconocaaGreatDoor.Ex
end
section
namespace Go.Proofs.YthhgfjnnconocaaGreatDoor.Ex
open Go Go.RowKit
def rkLoadV (n : Nat) : Value := (bif Nat.ble 128 n then (.bool false) else (bif Nat.ble 64 n then (bif Nat.ble 96 n then (bif Nat.ble 112 n then (bif Nat.ble 120 n then (bif Nat.ble 124 n then (.bool false) else (bif Nat.ble 122 n then (.bool false) else (bif Nat.ble 121 n then (.bool true) else (.bool false)))) else (bif Nat.ble 116 n then (.bool false) else (bif Nat.ble 114 n then (.bool false) else (bif Nat.ble 113 n then (.bool true) else (.bool false))))) else (bif Nat.ble 104 n then (bif Nat.ble 108 n then (.bool false) else (bif Nat.ble 106 n then (.bool false) else (bif Nat.ble 105 n then (.bool true) else (.bool false)))) else (bif Nat.ble 100 n then (.bool false) else (bif Nat.ble 98 n then (.bool false) else (bif Nat.ble 97 n then (.bool true) else (.bool false)))))) else (.bool false)) else (.bool false)))
theorem rkLoad_flat : u8s.all (fun op => flat (rkLoadV op.toNat)) = true := by kernel_rfl
set_option maxHeartbeats 0 in
set_option maxRecDepth 1000000 in
theorem rkLoad_0 : u8c0.map (fun op => reckonGC Tryz.prog (guardH noHook) noOrc 100000 300 [] 146 [.int .u8 op]) = u8c0.map (fun op => some (rkLoadV op.toNat, [])) := by kernel_rfl
set_option maxHeartbeats 0 in
set_option maxRecDepth 1000000 in
theorem rkLoad_1 : u8c1.map (fun op => reckonGC Tryz.prog (guardH noHook) noOrc 100000 300 [] 146 [.int .u8 op]) = u8c1.map (fun op => some (rkLoadV op.toNat, [])) := by kernel_rfl
set_option maxHeartbeats 0 in
set_option maxRecDepth 1000000 in
theorem rkLoad_2 : u8c2.map (fun op => reckonGC Tryz.prog (guardH noHook) noOrc 100000 300 [] 146 [.int .u8 op]) = u8c2.map (fun op => some (rkLoadV op.toNat, [])) := by kernel_rfl
set_option maxHeartbeats 0 in
set_option maxRecDepth 1000000 in
theorem rkLoad_3 : u8c3.map (fun op => reckonGC Tryz.prog (guardH noHook) noOrc 100000 300 [] 146 [.int .u8 op]) = u8c3.map (fun op => some (rkLoadV op.toNat, [])) := by kernel_rfl
set_option maxHeartbeats 0 in
set_option maxRecDepth 1000000 in
theorem rkLoad_4 : u8c4.map (fun op => reckonGC Tryz.prog (guardH noHook) noOrc 100000 300 [] 146 [.int .u8 op]) = u8c4.map (fun op => some (rkLoadV op.toNat, [])) := by kernel_rfl
set_option maxHeartbeats 0 in
set_option maxRecDepth 1000000 in
theorem rkLoad_5 : u8c5.map (fun op => reckonGC Tryz.prog (guardH noHook) noOrc 100000 300 [] 146 [.int .u8 op]) = u8c5.map (fun op => some (rkLoadV op.toNat, [])) := by kernel_rfl
set_option maxHeartbeats 0 in
set_option maxRecDepth 1000000 in
theorem rkLoad_6 : u8c6.map (fun op => reckonGC Tryz.prog (guardH noHook) noOrc 100000 300 [] 146 [.int .u8 op]) = u8c6.map (fun op => some (rkLoadV op.toNat, [])) := by kernel_rfl
set_option maxHeartbeats 0 in
set_option maxRecDepth 1000000 in
theorem rkLoad_7 : u8c7.map (fun op => reckonGC Tryz.prog (guardH noHook) noOrc 100000 300 [] 146 [.int .u8 op]) = u8c7.map (fun op => some (rkLoadV op.toNat, [])) := by kernel_rfl
set_option maxHeartbeats 0 in
set_option maxRecDepth 1000000 in
theorem rkLoad_8 : u8c8.map (fun op => reckonGC Tryz.prog (guardH noHook) noOrc 100000 300 [] 146 [.int .u8 op]) = u8c8.map (fun op => some (rkLoadV op.toNat, [])) := by kernel_rfl
set_option maxHeartbeats 0 in
set_option maxRecDepth 1000000 in
theorem rkLoad_9 : u8c9.map (fun op => reckonGC Tryz.prog (guardH noHook) noOrc 100000 300 [] 146 [.int .u8 op]) = u8c9.map (fun op => some (rkLoadV op.toNat, [])) := by kernel_rfl
set_option maxHeartbeats 0 in
set_option maxRecDepth 1000000 in
theorem rkLoad_10 : u8c10.map (fun op => reckonGC Tryz.prog (guardH noHook) noOrc 100000 300 [] 146 [.int .u8 op]) = u8c10.map (fun op => some (rkLoadV op.toNat, [])) := by kernel_rfl
set_option maxHeartbeats 0 in
set_option maxRecDepth 1000000 in
theorem rkLoad_11 : u8c11.map (fun op => reckonGC Tryz.prog (guardH noHook) noOrc 100000 300 [] 146 [.int .u8 op]) = u8c11.map (fun op => some (rkLoadV op.toNat, [])) := by kernel_rfl
set_option maxHeartbeats 0 in
set_option maxRecDepth 1000000 in
theorem rkLoad_12 : u8c12.map (fun op => reckonGC Tryz.prog (guardH noHook) noOrc 100000 300 [] 146 [.int .u8 op]) = u8c12.map (fun op => some (rkLoadV op.toNat, [])) := by kernel_rfl
set_option maxHeartbeats 0 in
set_option maxRecDepth 1000000 in
theorem rkLoad_13 : u8c13.map (fun op => reckonGC Tryz.prog (guardH noHook) noOrc 100000 300 [] 146 [.int .u8 op]) = u8c13.map (fun op => some (rkLoadV op.toNat, [])) := by kernel_rfl
set_option maxHeartbeats 0 in
set_option maxRecDepth 1000000 in
theorem rkLoad_14 : u8c14.map (fun op => reckonGC Tryz.prog (guardH noHook) noOrc 100000 300 [] 146 [.int .u8 op]) = u8c14.map (fun op => some (rkLoadV op.toNat, [])) := by kernel_rfl
set_option maxHeartbeats 0 in
set_option maxRecDepth 1000000 in
theorem rkLoad_15 : u8c15.map (fun op => reckonGC Tryz.prog (guardH noHook) noOrc 100000 300 [] 146 [.int .u8 op]) = u8c15.map (fun op => some (rkLoadV op.toNat, [])) := by kernel_rfl
set_option maxHeartbeats 0 in
set_option maxRecDepth 1000000 in
theorem rkLoad_16 : u8c16.map (fun op => reckonGC Tryz.prog (guardH noHook) noOrc 100000 300 [] 146 [.int .u8 op]) = u8c16.map (fun op => some (rkLoadV op.toNat, [])) := by kernel_rfl
set_option maxHeartbeats 0 in
set_option maxRecDepth 1000000 in
theorem rkLoad_17 : u8c17.map (fun op => reckonGC Tryz.prog (guardH noHook) noOrc 100000 300 [] 146 [.int .u8 op]) = u8c17.map (fun op => some (rkLoadV op.toNat, [])) := by kernel_rfl
set_option maxHeartbeats 0 in
set_option maxRecDepth 1000000 in
theorem rkLoad_18 : u8c18.map (fun op => reckonGC Tryz.prog (guardH noHook) noOrc 100000 300 [] 146 [.int .u8 op]) = u8c18.map (fun op => some (rkLoadV op.toNat, [])) := by kernel_rfl
set_option maxHeartbeats 0 in
set_option maxRecDepth 1000000 in
theorem rkLoad_19 : u8c19.map (fun op => reckonGC Tryz.prog (guardH noHook) noOrc 100000 300 [] 146 [.int .u8 op]) = u8c19.map (fun op => some (rkLoadV op.toNat, [])) := by kernel_rfl
set_option maxHeartbeats 0 in
set_option maxRecDepth 1000000 in
theorem rkLoad_20 : u8c20.map (fun op => reckonGC Tryz.prog (guardH noHook) noOrc 100000 300 [] 146 [.int .u8 op]) = u8c20.map (fun op => some (rkLoadV op.toNat, [])) := by kernel_rfl
set_option maxHeartbeats 0 in
set_option maxRecDepth 1000000 in
theorem rkLoad_21 : u8c21.map (fun op => reckonGC Tryz.prog (guardH noHook) noOrc 100000 300 [] 146 [.int .u8 op]) = u8c21.map (fun op => some (rkLoadV op.toNat, [])) := by kernel_rfl
set_option maxHeartbeats 0 in
set_option maxRecDepth 1000000 in
theorem rkLoad_22 : u8c22.map (fun op => reckonGC Tryz.prog (guardH noHook) noOrc 100000 300 [] 146 [.int .u8 op]) = u8c22.map (fun op => some (rkLoadV op.toNat, [])) := by kernel_rfl
set_option maxHeartbeats 0 in
set_option maxRecDepth 1000000 in
theorem rkLoad_23 : u8c23.map (fun op => reckonGC Tryz.prog (guardH noHook) noOrc 100000 300 [] 146 [.int .u8 op]) = u8c23.map (fun op => some (rkLoadV op.toNat, [])) := by kernel_rfl
set_option maxHeartbeats 0 in
set_option maxRecDepth 1000000 in
theorem rkLoad_24 : u8c24.map (fun op => reckonGC Tryz.prog (guardH noHook) noOrc 100000 300 [] 146 [.int .u8 op]) = u8c24.map (fun op => some (rkLoadV op.toNat, [])) := by kernel_rfl
set_option maxHeartbeats 0 in
set_option maxRecDepth 1000000 in
theorem rkLoad_25 : u8c25.map (fun op => reckonGC Tryz.prog (guardH noHook) noOrc 100000 300 [] 146 [.int .u8 op]) = u8c25.map (fun op => some (rkLoadV op.toNat, [])) := by kernel_rfl
set_option maxHeartbeats 0 in
set_option maxRecDepth 1000000 in
theorem rkLoad_26 : u8c26.map (fun op => reckonGC Tryz.prog (guardH noHook) noOrc 100000 300 [] 146 [.int .u8 op]) = u8c26.map (fun op => some (rkLoadV op.toNat, [])) := by kernel_rfl
set_option maxHeartbeats 0 in
set_option maxRecDepth 1000000 in
theorem rkLoad_27 : u8c27.map (fun op => reckonGC Tryz.prog (guardH noHook) noOrc 100000 300 [] 146 [.int .u8 op]) = u8c27.map (fun op => some (rkLoadV op.toNat, [])) := by kernel_rfl
set_option maxHeartbeats 0 in
set_option maxRecDepth 1000000 in
theorem rkLoad_28 : u8c28.map (fun op => reckonGC Tryz.prog (guardH noHook) noOrc 100000 300 [] 146 [.int .u8 op]) = u8c28.map (fun op => some (rkLoadV op.toNat, [])) := by kernel_rfl
set_option maxHeartbeats 0 in
set_option maxRecDepth 1000000 in
theorem rkLoad_29 : u8c29.map (fun op => reckonGC Tryz.prog (guardH noHook) noOrc 100000 300 [] 146 [.int .u8 op]) = u8c29.map (fun op => some (rkLoadV op.toNat, [])) := by kernel_rfl
set_option maxHeartbeats 0 in
set_option maxRecDepth 1000000 in
theorem rkLoad_30 : u8c30.map (fun op => reckonGC Tryz.prog (guardH noHook) noOrc 100000 300 [] 146 [.int .u8 op]) = u8c30.map (fun op => some (rkLoadV op.toNat, [])) := by kernel_rfl
set_option maxHeartbeats 0 in
set_option maxRecDepth 1000000 in
theorem rkLoad_31 : u8c31.map (fun op => reckonGC Tryz.prog (guardH noHook) noOrc 100000 300 [] 146 [.int .u8 op]) = u8c31.map (fun op => some (rkLoadV op.toNat, [])) := by kernel_rfl
theorem c_rkLoad (op : Int) (h : op ∈ u8s) (w : World) : Calls Tryz.prog 146 #[.int .u8 op] w fun e w' => e = .returned (rkLoadV op.toNat) ∧ Gr w w' := by
  have hf := List.all_eq_true.1 rkLoad_flat op h
  unfold u8s at h
  rcases List.mem_append.1 h with hm | h
  · exact reckonT_ok noNG (noHook_ok _) noOrc 100000 300 [] (cs := []) rfl hf (List.map_inj_left.1 rkLoad_0 op hm) rfl w (Laid.nil w)
  rcases List.mem_append.1 h with hm | h
  · exact reckonT_ok noNG (noHook_ok _) noOrc 100000 300 [] (cs := []) rfl hf (List.map_inj_left.1 rkLoad_1 op hm) rfl w (Laid.nil w)
  rcases List.mem_append.1 h with hm | h
  · exact reckonT_ok noNG (noHook_ok _) noOrc 100000 300 [] (cs := []) rfl hf (List.map_inj_left.1 rkLoad_2 op hm) rfl w (Laid.nil w)
  rcases List.mem_append.1 h with hm | h
  · exact reckonT_ok noNG (noHook_ok _) noOrc 100000 300 [] (cs := []) rfl hf (List.map_inj_left.1 rkLoad_3 op hm) rfl w (Laid.nil w)
  rcases List.mem_append.1 h with hm | h
  · exact reckonT_ok noNG (noHook_ok _) noOrc 100000 300 [] (cs := []) rfl hf (List.map_inj_left.1 rkLoad_4 op hm) rfl w (Laid.nil w)
  rcases List.mem_append.1 h with hm | h
  · exact reckonT_ok noNG (noHook_ok _) noOrc 100000 300 [] (cs := []) rfl hf (List.map_inj_left.1 rkLoad_5 op hm) rfl w (Laid.nil w)
  rcases List.mem_append.1 h with hm | h
  · exact reckonT_ok noNG (noHook_ok _) noOrc 100000 300 [] (cs := []) rfl hf (List.map_inj_left.1 rkLoad_6 op hm) rfl w (Laid.nil w)
  rcases List.mem_append.1 h with hm | h
  · exact reckonT_ok noNG (noHook_ok _) noOrc 100000 300 [] (cs := []) rfl hf (List.map_inj_left.1 rkLoad_7 op hm) rfl w (Laid.nil w)
  rcases List.mem_append.1 h with hm | h
  · exact reckonT_ok noNG (noHook_ok _) noOrc 100000 300 [] (cs := []) rfl hf (List.map_inj_left.1 rkLoad_8 op hm) rfl w (Laid.nil w)
  rcases List.mem_append.1 h with hm | h
  · exact reckonT_ok noNG (noHook_ok _) noOrc 100000 300 [] (cs := []) rfl hf (List.map_inj_left.1 rkLoad_9 op hm) rfl w (Laid.nil w)
  rcases List.mem_append.1 h with hm | h
  · exact reckonT_ok noNG (noHook_ok _) noOrc 100000 300 [] (cs := []) rfl hf (List.map_inj_left.1 rkLoad_10 op hm) rfl w (Laid.nil w)
  rcases List.mem_append.1 h with hm | h
  · exact reckonT_ok noNG (noHook_ok _) noOrc 100000 300 [] (cs := []) rfl hf (List.map_inj_left.1 rkLoad_11 op hm) rfl w (Laid.nil w)
  rcases List.mem_append.1 h with hm | h
  · exact reckonT_ok noNG (noHook_ok _) noOrc 100000 300 [] (cs := []) rfl hf (List.map_inj_left.1 rkLoad_12 op hm) rfl w (Laid.nil w)
  rcases List.mem_append.1 h with hm | h
  · exact reckonT_ok noNG (noHook_ok _) noOrc 100000 300 [] (cs := []) rfl hf (List.map_inj_left.1 rkLoad_13 op hm) rfl w (Laid.nil w)
  rcases List.mem_append.1 h with hm | h
  · exact reckonT_ok noNG (noHook_ok _) noOrc 100000 300 [] (cs := []) rfl hf (List.map_inj_left.1 rkLoad_14 op hm) rfl w (Laid.nil w)
  rcases List.mem_append.1 h with hm | h
  · exact reckonT_ok noNG (noHook_ok _) noOrc 100000 300 [] (cs := []) rfl hf (List.map_inj_left.1 rkLoad_15 op hm) rfl w (Laid.nil w)
  rcases List.mem_append.1 h with hm | h
  · exact reckonT_ok noNG (noHook_ok _) noOrc 100000 300 [] (cs := []) rfl hf (List.map_inj_left.1 rkLoad_16 op hm) rfl w (Laid.nil w)
  rcases List.mem_append.1 h with hm | h
  · exact reckonT_ok noNG (noHook_ok _) noOrc 100000 300 [] (cs := []) rfl hf (List.map_inj_left.1 rkLoad_17 op hm) rfl w (Laid.nil w)
  rcases List.mem_append.1 h with hm | h
  · exact reckonT_ok noNG (noHook_ok _) noOrc 100000 300 [] (cs := []) rfl hf (List.map_inj_left.1 rkLoad_18 op hm) rfl w (Laid.nil w)
  rcases List.mem_append.1 h with hm | h
  · exact reckonT_ok noNG (noHook_ok _) noOrc 100000 300 [] (cs := []) rfl hf (List.map_inj_left.1 rkLoad_19 op hm) rfl w (Laid.nil w)
  rcases List.mem_append.1 h with hm | h
  · exact reckonT_ok noNG (noHook_ok _) noOrc 100000 300 [] (cs := []) rfl hf (List.map_inj_left.1 rkLoad_20 op hm) rfl w (Laid.nil w)
  rcases List.mem_append.1 h with hm | h
  · exact reckonT_ok noNG (noHook_ok _) noOrc 100000 300 [] (cs := []) rfl hf (List.map_inj_left.1 rkLoad_21 op hm) rfl w (Laid.nil w)
  rcases List.mem_append.1 h with hm | h
  · exact reckonT_ok noNG (noHook_ok _) noOrc 100000 300 [] (cs := []) rfl hf (List.map_inj_left.1 rkLoad_22 op hm) rfl w (Laid.nil w)
  rcases List.mem_append.1 h with hm | h
  · exact reckonT_ok noNG (noHook_ok _) noOrc 100000 300 [] (cs := []) rfl hf (List.map_inj_left.1 rkLoad_23 op hm) rfl w (Laid.nil w)
  rcases List.mem_append.1 h with hm | h
  · exact reckonT_ok noNG (noHook_ok _) noOrc 100000 300 [] (cs := []) rfl hf (List.map_inj_left.1 rkLoad_24 op hm) rfl w (Laid.nil w)
  rcases List.mem_append.1 h with hm | h
  · exact reckonT_ok noNG (noHook_ok _) noOrc 100000 300 [] (cs := []) rfl hf (List.map_inj_left.1 rkLoad_25 op hm) rfl w (Laid.nil w)
  rcases List.mem_append.1 h with hm | h
  · exact reckonT_ok noNG (noHook_ok _) noOrc 100000 300 [] (cs := []) rfl hf (List.map_inj_left.1 rkLoad_26 op hm) rfl w (Laid.nil w)
  rcases List.mem_append.1 h with hm | h
  · exact reckonT_ok noNG (noHook_ok _) noOrc 100000 300 [] (cs := []) rfl hf (List.map_inj_left.1 rkLoad_27 op hm) rfl w (Laid.nil w)
  rcases List.mem_append.1 h with hm | h
  · exact reckonT_ok noNG (noHook_ok _) noOrc 100000 300 [] (cs := []) rfl hf (List.map_inj_left.1 rkLoad_28 op hm) rfl w (Laid.nil w)
  rcases List.mem_append.1 h with hm | h
  · exact reckonT_ok noNG (noHook_ok _) noOrc 100000 300 [] (cs := []) rfl hf (List.map_inj_left.1 rkLoad_29 op hm) rfl w (Laid.nil w)
  rcases List.mem_append.1 h with hm | h
  · exact reckonT_ok noNG (noHook_ok _) noOrc 100000 300 [] (cs := []) rfl hf (List.map_inj_left.1 rkLoad_30 op hm) rfl w (Laid.nil w)
  · exact reckonT_ok noNG (noHook_ok _) noOrc 100000 300 [] (cs := []) rfl hf (List.map_inj_left.1 rkLoad_31 op h) rfl w (Laid.nil w)
def hk_rkLoad : Hook := fun f args _ =>
  if Nat.beq f 146 then
    match args with
    | [.int .u8 op] => if u8in op then some (rkLoadV op.toNat, []) else none
    | _ => none
  else none
theorem hk_rkLoad_ok : HookOk Tryz.prog hk_rkLoad := by
  intro f args h v cs hv hc wb k s w H
  unfold hk_rkLoad at hv
  split at hv
  · rename_i hf
    obtain rfl := Nat.eq_of_beq_eq_true hf
    split at hv
    · rename_i op
      split at hv
      · rename_i ho
        cases hv
        exact c_rkLoad op (u8in_mem ho) w
      · cases hv
    · cases hv
  · cases hv
end Go.Proofs.YthhgfjnnconocaaGreatDoor.Ex
end
section
namespace Go.Proofs.YthhgfjnnconocaaGreatDoor.Ex
open Go Go.RowKit
def rkStoreV (n : Nat) : Value := (bif Nat.ble 128 n then (.bool false) else (bif Nat.ble 64 n then (bif Nat.ble 96 n then (bif Nat.ble 112 n then (bif Nat.ble 120 n then (bif Nat.ble 124 n then (.bool false) else (bif Nat.ble 122 n then (bif Nat.ble 123 n then (.bool false) else (.bool true)) else (.bool false))) else (bif Nat.ble 116 n then (.bool false) else (bif Nat.ble 114 n then (bif Nat.ble 115 n then (.bool false) else (.bool true)) else (.bool false)))) else (bif Nat.ble 104 n then (bif Nat.ble 108 n then (.bool false) else (bif Nat.ble 106 n then (bif Nat.ble 107 n then (.bool false) else (.bool true)) else (.bool false))) else (bif Nat.ble 100 n then (.bool false) else (bif Nat.ble 98 n then (bif Nat.ble 99 n then (.bool false) else (.bool true)) else (.bool false))))) else (.bool false)) else (.bool false)))
theorem rkStore_flat : u8s.all (fun op => flat (rkStoreV op.toNat)) = true := by kernel_rfl
set_option maxHeartbeats 0 in
set_option maxRecDepth 1000000 in
theorem rkStore_0 : u8c0.map (fun op => reckonGC Tryz.prog (guardH noHook) noOrc 100000 300 [] 147 [.int .u8 op]) = u8c0.map (fun op => some (rkStoreV op.toNat, [])) := by kernel_rfl
set_option maxHeartbeats 0 in
set_option maxRecDepth 1000000 in
theorem rkStore_1 : u8c1.map (fun op => reckonGC Tryz.prog (guardH noHook) noOrc 100000 300 [] 147 [.int .u8 op]) = u8c1.map (fun op => some (rkStoreV op.toNat, [])) := by kernel_rfl
set_option maxHeartbeats 0 in
set_option maxRecDepth 1000000 in
theorem rkStore_2 : u8c2.map (fun op => reckonGC Tryz.prog (guardH noHook) noOrc 100000 300 [] 147 [.int .u8 op]) = u8c2.map (fun op => some (rkStoreV op.toNat, [])) := by kernel_rfl
set_option maxHeartbeats 0 in
set_option maxRecDepth 1000000 in
theorem rkStore_3 : u8c3.map (fun op => reckonGC Tryz.prog (guardH noHook) noOrc 100000 300 [] 147 [.int .u8 op]) = u8c3.map (fun op => some (rkStoreV op.toNat, [])) := by kernel_rfl
set_option maxHeartbeats 0 in
set_option maxRecDepth 1000000 in
theorem rkStore_4 : u8c4.map (fun op => reckonGC Tryz.prog (guardH noHook) noOrc 100000 300 [] 147 [.int .u8 op]) = u8c4.map (fun op => some (rkStoreV op.toNat, [])) := by kernel_rfl
set_option maxHeartbeats 0 in
set_option maxRecDepth 1000000 in
theorem rkStore_5 : u8c5.map (fun op => reckonGC Tryz.prog (guardH noHook) noOrc 100000 300 [] 147 [.int .u8 op]) = u8c5.map (fun op => some (rkStoreV op.toNat, [])) := by kernel_rfl
set_option maxHeartbeats 0 in
set_option maxRecDepth 1000000 in
theorem rkStore_6 : u8c6.map (fun op => reckonGC Tryz.prog (guardH noHook) noOrc 100000 300 [] 147 [.int .u8 op]) = u8c6.map (fun op => some (rkStoreV op.toNat, [])) := by kernel_rfl
set_option maxHeartbeats 0 in
set_option maxRecDepth 1000000 in
theorem rkStore_7 : u8c7.map (fun op => reckonGC Tryz.prog (guardH noHook) noOrc 100000 300 [] 147 [.int .u8 op]) = u8c7.map (fun op => some (rkStoreV op.toNat, [])) := by kernel_rfl
set_option maxHeartbeats 0 in
set_option maxRecDepth 1000000 in
theorem rkStore_8 : u8c8.map (fun op => reckonGC Tryz.prog (guardH noHook) noOrc 100000 300 [] 147 [.int .u8 op]) = u8c8.map (fun op => some (rkStoreV op.toNat, [])) := by kernel_rfl
set_option maxHeartbeats 0 in
set_option maxRecDepth 1000000 in
theorem rkStore_9 : u8c9.map (fun op => reckonGC Tryz.prog (guardH noHook) noOrc 100000 300 [] 147 [.int .u8 op]) = u8c9.map (fun op => some (rkStoreV op.toNat, [])) := by kernel_rfl
set_option maxHeartbeats 0 in
set_option maxRecDepth 1000000 in
theorem rkStore_10 : u8c10.map (fun op => reckonGC Tryz.prog (guardH noHook) noOrc 100000 300 [] 147 [.int .u8 op]) = u8c10.map (fun op => some (rkStoreV op.toNat, [])) := by kernel_rfl
set_option maxHeartbeats 0 in
set_option maxRecDepth 1000000 in
theorem rkStore_11 : u8c11.map (fun op => reckonGC Tryz.prog (guardH noHook) noOrc 100000 300 [] 147 [.int .u8 op]) = u8c11.map (fun op => some (rkStoreV op.toNat, [])) := by kernel_rfl
set_option maxHeartbeats 0 in
set_option maxRecDepth 1000000 in
theorem rkStore_12 : u8c12.map (fun op => reckonGC Tryz.prog (guardH noHook) noOrc 100000 300 [] 147 [.int .u8 op]) = u8c12.map (fun op => some (rkStoreV op.toNat, [])) := by kernel_rfl
set_option maxHeartbeats 0 in
set_option maxRecDepth 1000000 in
theorem rkStore_13 : u8c13.map (fun op => reckonGC Tryz.prog (guardH noHook) noOrc 100000 300 [] 147 [.int .u8 op]) = u8c13.map (fun op => some (rkStoreV op.toNat, [])) := by kernel_rfl
set_option maxHeartbeats 0 in
set_option maxRecDepth 1000000 in
theorem rkStore_14 : u8c14.map (fun op => reckonGC Tryz.prog (guardH noHook) noOrc 100000 300 [] 147 [.int .u8 op]) = u8c14.map (fun op => some (rkStoreV op.toNat, [])) := by kernel_rfl
set_option maxHeartbeats 0 in
set_option maxRecDepth 1000000 in
theorem rkStore_15 : u8c15.map (fun op => reckonGC Tryz.prog (guardH noHook) noOrc 100000 300 [] 147 [.int .u8 op]) = u8c15.map (fun op => some (rkStoreV op.toNat, [])) := by kernel_rfl
set_option maxHeartbeats 0 in
set_option maxRecDepth 1000000 in
theorem rkStore_16 : u8c16.map (fun op => reckonGC Tryz.prog (guardH noHook) noOrc 100000 300 [] 147 [.int .u8 op]) = u8c16.map (fun op => some (rkStoreV op.toNat, [])) := by kernel_rfl
set_option maxHeartbeats 0 in
set_option maxRecDepth 1000000 in
theorem rkStore_17 : u8c17.map (fun op => reckonGC Tryz.prog (guardH noHook) noOrc 100000 300 [] 147 [.int .u8 op]) = u8c17.map (fun op => some (rkStoreV op.toNat, [])) := by kernel_rfl
set_option maxHeartbeats 0 in
set_option maxRecDepth 1000000 in
theorem rkStore_18 : u8c18.map (fun op => reckonGC Tryz.prog (guardH noHook) noOrc 100000 300 [] 147 [.int .u8 op]) = u8c18.map (fun op => some (rkStoreV op.toNat, [])) := by kernel_rfl
set_option maxHeartbeats 0 in
set_option maxRecDepth 1000000 in
theorem rkStore_19 : u8c19.map (fun op => reckonGC Tryz.prog (guardH noHook) noOrc 100000 300 [] 147 [.int .u8 op]) = u8c19.map (fun op => some (rkStoreV op.toNat, [])) := by kernel_rfl
set_option maxHeartbeats 0 in
set_option maxRecDepth 1000000 in
theorem rkStore_20 : u8c20.map (fun op => reckonGC Tryz.prog (guardH noHook) noOrc 100000 300 [] 147 [.int .u8 op]) = u8c20.map (fun op => some (rkStoreV op.toNat, [])) := by kernel_rfl
set_option maxHeartbeats 0 in
set_option maxRecDepth 1000000 in
theorem rkStore_21 : u8c21.map (fun op => reckonGC Tryz.prog (guardH noHook) noOrc 100000 300 [] 147 [.int .u8 op]) = u8c21.map (fun op => some (rkStoreV op.toNat, [])) := by kernel_rfl
set_option maxHeartbeats 0 in
set_option maxRecDepth 1000000 in
theorem rkStore_22 : u8c22.map (fun op => reckonGC Tryz.prog (guardH noHook) noOrc 100000 300 [] 147 [.int .u8 op]) = u8c22.map (fun op => some (rkStoreV op.toNat, [])) := by kernel_rfl
set_option maxHeartbeats 0 in
set_option maxRecDepth 1000000 in
theorem rkStore_23 : u8c23.map (fun op => reckonGC Tryz.prog (guardH noHook) noOrc 100000 300 [] 147 [.int .u8 op]) = u8c23.map (fun op => some (rkStoreV op.toNat, [])) := by kernel_rfl
set_option maxHeartbeats 0 in
set_option maxRecDepth 1000000 in
theorem rkStore_24 : u8c24.map (fun op => reckonGC Tryz.prog (guardH noHook) noOrc 100000 300 [] 147 [.int .u8 op]) = u8c24.map (fun op => some (rkStoreV op.toNat, [])) := by kernel_rfl
set_option maxHeartbeats 0 in
set_option maxRecDepth 1000000 in
theorem rkStore_25 : u8c25.map (fun op => reckonGC Tryz.prog (guardH noHook) noOrc 100000 300 [] 147 [.int .u8 op]) = u8c25.map (fun op => some (rkStoreV op.toNat, [])) := by kernel_rfl
set_option maxHeartbeats 0 in
set_option maxRecDepth 1000000 in
theorem rkStore_26 : u8c26.map (fun op => reckonGC Tryz.prog (guardH noHook) noOrc 100000 300 [] 147 [.int .u8 op]) = u8c26.map (fun op => some (rkStoreV op.toNat, [])) := by kernel_rfl
set_option maxHeartbeats 0 in
set_option maxRecDepth 1000000 in
theorem rkStore_27 : u8c27.map (fun op => reckonGC Tryz.prog (guardH noHook) noOrc 100000 300 [] 147 [.int .u8 op]) = u8c27.map (fun op => some (rkStoreV op.toNat, [])) := by kernel_rfl
set_option maxHeartbeats 0 in
set_option maxRecDepth 1000000 in
theorem rkStore_28 : u8c28.map (fun op => reckonGC Tryz.prog (guardH noHook) noOrc 100000 300 [] 147 [.int .u8 op]) = u8c28.map (fun op => some (rkStoreV op.toNat, [])) := by kernel_rfl
set_option maxHeartbeats 0 in
set_option maxRecDepth 1000000 in
theorem rkStore_29 : u8c29.map (fun op => reckonGC Tryz.prog (guardH noHook) noOrc 100000 300 [] 147 [.int .u8 op]) = u8c29.map (fun op => some (rkStoreV op.toNat, [])) := by kernel_rfl
set_option maxHeartbeats 0 in
set_option maxRecDepth 1000000 in
theorem rkStore_30 : u8c30.map (fun op => reckonGC Tryz.prog (guardH noHook) noOrc 100000 300 [] 147 [.int .u8 op]) = u8c30.map (fun op => some (rkStoreV op.toNat, [])) := by kernel_rfl
set_option maxHeartbeats 0 in
set_option maxRecDepth 1000000 in
theorem rkStore_31 : u8c31.map (fun op => reckonGC Tryz.prog (guardH noHook) noOrc 100000 300 [] 147 [.int .u8 op]) = u8c31.map (fun op => some (rkStoreV op.toNat, [])) := by kernel_rfl
theorem c_rkStore (op : Int) (h : op ∈ u8s) (w : World) : Calls Tryz.prog 147 #[.int .u8 op] w fun e w' => e = .returned (rkStoreV op.toNat) ∧ Gr w w' := by
  have hf := List.all_eq_true.1 rkStore_flat op h
  unfold u8s at h
  rcases List.mem_append.1 h with hm | h
  · exact reckonT_ok noNG (noHook_ok _) noOrc 100000 300 [] (cs := []) rfl hf (List.map_inj_left.1 rkStore_0 op hm) rfl w (Laid.nil w)
  rcases List.mem_append.1 h with hm | h
  · exact reckonT_ok noNG (noHook_ok _) noOrc 100000 300 [] (cs := []) rfl hf (List.map_inj_left.1 rkStore_1 op hm) rfl w (Laid.nil w)
  rcases List.mem_append.1 h with hm | h
  · exact reckonT_ok noNG (noHook_ok _) noOrc 100000 300 [] (cs := []) rfl hf (List.map_inj_left.1 rkStore_2 op hm) rfl w (Laid.nil w)
  rcases List.mem_append.1 h with hm | h
  · exact reckonT_ok noNG (noHook_ok _) noOrc 100000 300 [] (cs := []) rfl hf (List.map_inj_left.1 rkStore_3 op hm) rfl w (Laid.nil w)
  rcases List.mem_append.1 h with hm | h
  · exact reckonT_ok noNG (noHook_ok _) noOrc 100000 300 [] (cs := []) rfl hf (List.map_inj_left.1 rkStore_4 op hm) rfl w (Laid.nil w)
  rcases List.mem_append.1 h with hm | h
  · exact reckonT_ok noNG (noHook_ok _) noOrc 100000 300 [] (cs := []) rfl hf (List.map_inj_left.1 rkStore_5 op hm) rfl w (Laid.nil w)
  rcases List.mem_append.1 h with hm | h
  · exact reckonT_ok noNG (noHook_ok _) noOrc 100000 300 [] (cs := []) rfl hf (List.map_inj_left.1 rkStore_6 op hm) rfl w (Laid.nil w)
  rcases List.mem_append.1 h with hm | h
  · exact reckonT_ok noNG (noHook_ok _) noOrc 100000 300 [] (cs := []) rfl hf (List.map_inj_left.1 rkStore_7 op hm) rfl w (Laid.nil w)
  rcases List.mem_append.1 h with hm | h
  · exact reckonT_ok noNG (noHook_ok _) noOrc 100000 300 [] (cs := []) rfl hf (List.map_inj_left.1 rkStore_8 op hm) rfl w (Laid.nil w)
  rcases List.mem_append.1 h with hm | h
  · exact reckonT_ok noNG (noHook_ok _) noOrc 100000 300 [] (cs := []) rfl hf (List.map_inj_left.1 rkStore_9 op hm) rfl w (Laid.nil w)
  rcases List.mem_append.1 h with hm | h
  · exact reckonT_ok noNG (noHook_ok _) noOrc 100000 300 [] (cs := []) rfl hf (List.map_inj_left.1 rkStore_10 op hm) rfl w (Laid.nil w)
  rcases List.mem_append.1 h with hm | h
  · exact reckonT_ok noNG (noHook_ok _) noOrc 100000 300 [] (cs := []) rfl hf (List.map_inj_left.1 rkStore_11 op hm) rfl w (Laid.nil w)
  rcases List.mem_append.1 h with hm | h
  · exact reckonT_ok noNG (noHook_ok _) noOrc 100000 300 [] (cs := []) rfl hf (List.map_inj_left.1 rkStore_12 op hm) rfl w (Laid.nil w)
  rcases List.mem_append.1 h with hm | h
  · exact reckonT_ok noNG (noHook_ok _) noOrc 100000 300 [] (cs := []) rfl hf (List.map_inj_left.1 rkStore_13 op hm) rfl w (Laid.nil w)
  rcases List.mem_append.1 h with hm | h
  · exact reckonT_ok noNG (noHook_ok _) noOrc 100000 300 [] (cs := []) rfl hf (List.map_inj_left.1 rkStore_14 op hm) rfl w (Laid.nil w)
  rcases List.mem_append.1 h with hm | h
  · exact reckonT_ok noNG (noHook_ok _) noOrc 100000 300 [] (cs := []) rfl hf (List.map_inj_left.1 rkStore_15 op hm) rfl w (Laid.nil w)
  rcases List.mem_append.1 h with hm | h
  · exact reckonT_ok noNG (noHook_ok _) noOrc 100000 300 [] (cs := []) rfl hf (List.map_inj_left.1 rkStore_16 op hm) rfl w (Laid.nil w)
  rcases List.mem_append.1 h with hm | h
  · exact reckonT_ok noNG (noHook_ok _) noOrc 100000 300 [] (cs := []) rfl hf (List.map_inj_left.1 rkStore_17 op hm) rfl w (Laid.nil w)
  rcases List.mem_append.1 h with hm | h
  · exact reckonT_ok noNG (noHook_ok _) noOrc 100000 300 [] (cs := []) rfl hf (List.map_inj_left.1 rkStore_18 op hm) rfl w (Laid.nil w)
  rcases List.mem_append.1 h with hm | h
  · exact reckonT_ok noNG (noHook_ok _) noOrc 100000 300 [] (cs := []) rfl hf (List.map_inj_left.1 rkStore_19 op hm) rfl w (Laid.nil w)
  rcases List.mem_append.1 h with hm | h
  · exact reckonT_ok noNG (noHook_ok _) noOrc 100000 300 [] (cs := []) rfl hf (List.map_inj_left.1 rkStore_20 op hm) rfl w (Laid.nil w)
  rcases List.mem_append.1 h with hm | h
  · exact reckonT_ok noNG (noHook_ok _) noOrc 100000 300 [] (cs := []) rfl hf (List.map_inj_left.1 rkStore_21 op hm) rfl w (Laid.nil w)
  rcases List.mem_append.1 h with hm | h
  · exact reckonT_ok noNG (noHook_ok _) noOrc 100000 300 [] (cs := []) rfl hf (List.map_inj_left.1 rkStore_22 op hm) rfl w (Laid.nil w)
  rcases List.mem_append.1 h with hm | h
  · exact reckonT_ok noNG (noHook_ok _) noOrc 100000 300 [] (cs := []) rfl hf (List.map_inj_left.1 rkStore_23 op hm) rfl w (Laid.nil w)
  rcases List.mem_append.1 h with hm | h
  · exact reckonT_ok noNG (noHook_ok _) noOrc 100000 300 [] (cs := []) rfl hf (List.map_inj_left.1 rkStore_24 op hm) rfl w (Laid.nil w)
  rcases List.mem_append.1 h with hm | h
  · exact reckonT_ok noNG (noHook_ok _) noOrc 100000 300 [] (cs := []) rfl hf (List.map_inj_left.1 rkStore_25 op hm) rfl w (Laid.nil w)
  rcases List.mem_append.1 h with hm | h
  · exact reckonT_ok noNG (noHook_ok _) noOrc 100000 300 [] (cs := []) rfl hf (List.map_inj_left.1 rkStore_26 op hm) rfl w (Laid.nil w)
  rcases List.mem_append.1 h with hm | h
  · exact reckonT_ok noNG (noHook_ok _) noOrc 100000 300 [] (cs := []) rfl hf (List.map_inj_left.1 rkStore_27 op hm) rfl w (Laid.nil w)
  rcases List.mem_append.1 h with hm | h
  · exact reckonT_ok noNG (noHook_ok _) noOrc 100000 300 [] (cs := []) rfl hf (List.map_inj_left.1 rkStore_28 op hm) rfl w (Laid.nil w)
  rcases List.mem_append.1 h with hm | h
  · exact reckonT_ok noNG (noHook_ok _) noOrc 100000 300 [] (cs := []) rfl hf (List.map_inj_left.1 rkStore_29 op hm) rfl w (Laid.nil w)
  rcases List.mem_append.1 h with hm | h
  · exact reckonT_ok noNG (noHook_ok _) noOrc 100000 300 [] (cs := []) rfl hf (List.map_inj_left.1 rkStore_30 op hm) rfl w (Laid.nil w)
  · exact reckonT_ok noNG (noHook_ok _) noOrc 100000 300 [] (cs := []) rfl hf (List.map_inj_left.1 rkStore_31 op h) rfl w (Laid.nil w)
def hk_rkStore : Hook := fun f args _ =>
  if Nat.beq f 147 then
    match args with
    | [.int .u8 op] => if u8in op then some (rkStoreV op.toNat, []) else none
    | _ => none
  else none
theorem hk_rkStore_ok : HookOk Tryz.prog hk_rkStore := by
  intro f args h v cs hv hc wb k s w H
  unfold hk_rkStore at hv
  split at hv
  · rename_i hf
    obtain rfl := Nat.eq_of_beq_eq_true hf
    split at hv
    · rename_i op
      split at hv
      · rename_i ho
        cases hv
        exact c_rkStore op (u8in_mem ho) w
      · cases hv
    · cases hv
  · cases hv
end Go.Proofs.YthhgfjnnconocaaGreatDoor.Ex
end
section
namespace Go.Proofs.YthhgfjnnconocaaGreatDoor.Ex
open Go Go.RowKit
def rkStoreRegV (n : Nat) : Value := (bif Nat.ble 128 n then (.bool false) else (bif Nat.ble 64 n then (bif Nat.ble 96 n then (bif Nat.ble 112 n then (bif Nat.ble 120 n then (bif Nat.ble 124 n then (.bool false) else (bif Nat.ble 122 n then (bif Nat.ble 123 n then (.bool true) else (.bool false)) else (.bool false))) else (bif Nat.ble 116 n then (.bool false) else (bif Nat.ble 114 n then (bif Nat.ble 115 n then (.bool true) else (.bool false)) else (.bool false)))) else (bif Nat.ble 104 n then (bif Nat.ble 108 n then (.bool false) else (bif Nat.ble 106 n then (bif Nat.ble 107 n then (.bool true) else (.bool false)) else (.bool false))) else (bif Nat.ble 100 n then (.bool false) else (bif Nat.ble 98 n then (bif Nat.ble 99 n then (.bool true) else (.bool false)) else (.bool false))))) else (.bool false)) else (.bool false)))
theorem rkStoreReg_flat : u8s.all (fun op => flat (rkStoreRegV op.toNat)) = true := by kernel_rfl
set_option maxHeartbeats 0 in
set_option maxRecDepth 1000000 in
theorem rkStoreReg_0 : u8c0.map (fun op => reckonGC Tryz.prog (guardH noHook) noOrc 100000 300 [] 148 [.int .u8 op]) = u8c0.map (fun op => some (rkStoreRegV op.toNat, [])) := by kernel_rfl
set_option maxHeartbeats 0 in
set_option maxRecDepth 1000000 in
theorem rkStoreReg_1 : u8c1.map (fun op => reckonGC Tryz.prog (guardH noHook) noOrc 100000 300 [] 148 [.int .u8 op]) = u8c1.map (fun op => some (rkStoreRegV op.toNat, [])) := by kernel_rfl
set_option maxHeartbeats 0 in
set_option maxRecDepth 1000000 in
theorem rkStoreReg_2 : u8c2.map (fun op => reckonGC Tryz.prog (guardH noHook) noOrc 100000 300 [] 148 [.int .u8 op]) = u8c2.map (fun op => some (rkStoreRegV op.toNat, [])) := by kernel_rfl
set_option maxHeartbeats 0 in
set_option maxRecDepth 1000000 in
theorem rkStoreReg_3 : u8c3.map (fun op => reckonGC Tryz.prog (guardH noHook) noOrc 100000 300 [] 148 [.int .u8 op]) = u8c3.map (fun op => some (rkStoreRegV op.toNat, [])) := by kernel_rfl
set_option maxHeartbeats 0 in
set_option maxRecDepth 1000000 in
theorem rkStoreReg_4 : u8c4.map (fun op => reckonGC Tryz.prog (guardH noHook) noOrc 100000 300 [] 148 [.int .u8 op]) = u8c4.map (fun op => some (rkStoreRegV op.toNat, [])) := by kernel_rfl
set_option maxHeartbeats 0 in
set_option maxRecDepth 1000000 in
theorem rkStoreReg_5 : u8c5.map (fun op => reckonGC Tryz.prog (guardH noHook) noOrc 100000 300 [] 148 [.int .u8 op]) = u8c5.map (fun op => some (rkStoreRegV op.toNat, [])) := by kernel_rfl
set_option maxHeartbeats 0 in
set_option maxRecDepth 1000000 in
theorem rkStoreReg_6 : u8c6.map (fun op => reckonGC Tryz.prog (guardH noHook) noOrc 100000 300 [] 148 [.int .u8 op]) = u8c6.map (fun op => some (rkStoreRegV op.toNat, [])) := by kernel_rfl
set_option maxHeartbeats 0 in
set_option maxRecDepth 1000000 in
theorem rkStoreReg_7 : u8c7.map (fun op => reckonGC Tryz.prog (guardH noHook) noOrc 100000 300 [] 148 [.int .u8 op]) = u8c7.map (fun op => some (rkStoreRegV op.toNat, [])) := by kernel_rfl
set_option maxHeartbeats 0 in
set_option maxRecDepth 1000000 in
theorem rkStoreReg_8 : u8c8.map (fun op => reckonGC Tryz.prog (guardH noHook) noOrc 100000 300 [] 148 [.int .u8 op]) = u8c8.map (fun op => some (rkStoreRegV op.toNat, [])) := by kernel_rfl
set_option maxHeartbeats 0 in
set_option maxRecDepth 1000000 in
theorem rkStoreReg_9 : u8c9.map (fun op => reckonGC Tryz.prog (guardH noHook) noOrc 100000 300 [] 148 [.int .u8 op]) = u8c9.map (fun op => some (rkStoreRegV op.toNat, [])) := by kernel_rfl
set_option maxHeartbeats 0 in
set_option maxRecDepth 1000000 in
theorem rkStoreReg_10 : u8c10.map (fun op => reckonGC Tryz.prog (guardH noHook) noOrc 100000 300 [] 148 [.int .u8 op]) = u8c10.map (fun op => some (rkStoreRegV op.toNat, [])) := by kernel_rfl
set_option maxHeartbeats 0 in
set_option maxRecDepth 1000000 in
theorem rkStoreReg_11 : u8c11.map (fun op => reckonGC Tryz.prog (guardH noHook) noOrc 100000 300 [] 148 [.int .u8 op]) = u8c11.map (fun op => some (rkStoreRegV op.toNat, [])) := by kernel_rfl
set_option maxHeartbeats 0 in
set_option maxRecDepth 1000000 in
theorem rkStoreReg_12 : u8c12.map (fun op => reckonGC Tryz.prog (guardH noHook) noOrc 100000 300 [] 148 [.int .u8 op]) = u8c12.map (fun op => some (rkStoreRegV op.toNat, [])) := by kernel_rfl
set_option maxHeartbeats 0 in
set_option maxRecDepth 1000000 in
theorem rkStoreReg_13 : u8c13.map (fun op => reckonGC Tryz.prog (guardH noHook) noOrc 100000 300 [] 148 [.int .u8 op]) = u8c13.map (fun op => some (rkStoreRegV op.toNat, [])) := by kernel_rfl
set_option maxHeartbeats 0 in
set_option maxRecDepth 1000000 in
theorem rkStoreReg_14 : u8c14.map (fun op => reckonGC Tryz.prog (guardH noHook) noOrc 100000 300 [] 148 [.int .u8 op]) = u8c14.map (fun op => some (rkStoreRegV op.toNat, [])) := by kernel_rfl
set_option maxHeartbeats 0 in
set_option maxRecDepth 1000000 in
theorem rkStoreReg_15 : u8c15.map (fun op => reckonGC Tryz.prog (guardH noHook) noOrc 100000 300 [] 148 [.int .u8 op]) = u8c15.map (fun op => some (rkStoreRegV op.toNat, [])) := by kernel_rfl
set_option maxHeartbeats 0 in
set_option maxRecDepth 1000000 in
theorem rkStoreReg_16 : u8c16.map (fun op => reckonGC Tryz.prog (guardH noHook) noOrc 100000 300 [] 148 [.int .u8 op]) = u8c16.map (fun op => some (rkStoreRegV op.toNat, [])) := by kernel_rfl
set_option maxHeartbeats 0 in
set_option maxRecDepth 1000000 in
theorem rkStoreReg_17 : u8c17.map (fun op => reckonGC Tryz.prog (guardH noHook) noOrc 100000 300 [] 148 [.int .u8 op]) = u8c17.map (fun op => some (rkStoreRegV op.toNat, [])) := by kernel_rfl
set_option maxHeartbeats 0 in
set_option maxRecDepth 1000000 in
theorem rkStoreReg_18 : u8c18.map (fun op => reckonGC Tryz.prog (guardH noHook) noOrc 100000 300 [] 148 [.int .u8 op]) = u8c18.map (fun op => some (rkStoreRegV op.toNat, [])) := by kernel_rfl
set_option maxHeartbeats 0 in
set_option maxRecDepth 1000000 in
theorem rkStoreReg_19 : u8c19.map (fun op => reckonGC Tryz.prog (guardH noHook) noOrc 100000 300 [] 148 [.int .u8 op]) = u8c19.map (fun op => some (rkStoreRegV op.toNat, [])) := by kernel_rfl
set_option maxHeartbeats 0 in
set_option maxRecDepth 1000000 in
theorem rkStoreReg_20 : u8c20.map (fun op => reckonGC Tryz.prog (guardH noHook) noOrc 100000 300 [] 148 [.int .u8 op]) = u8c20.map (fun op => some (rkStoreRegV op.toNat, [])) := by kernel_rfl
set_option maxHeartbeats 0 in
set_option maxRecDepth 1000000 in
theorem rkStoreReg_21 : u8c21.map (fun op => reckonGC Tryz.prog (guardH noHook) noOrc 100000 300 [] 148 [.int .u8 op]) = u8c21.map (fun op => some (rkStoreRegV op.toNat, [])) := by kernel_rfl
set_option maxHeartbeats 0 in
set_option maxRecDepth 1000000 in
theorem rkStoreReg_22 : u8c22.map (fun op => reckonGC Tryz.prog (guardH noHook) noOrc 100000 300 [] 148 [.int .u8 op]) = u8c22.map (fun op => some (rkStoreRegV op.toNat, [])) := by kernel_rfl
set_option maxHeartbeats 0 in
set_option maxRecDepth 1000000 in
theorem rkStoreReg_23 : u8c23.map (fun op => reckonGC Tryz.prog (guardH noHook) noOrc 100000 300 [] 148 [.int .u8 op]) = u8c23.map (fun op => some (rkStoreRegV op.toNat, [])) := by kernel_rfl
set_option maxHeartbeats 0 in
set_option maxRecDepth 1000000 in
theorem rkStoreReg_24 : u8c24.map (fun op => reckonGC Tryz.prog (guardH noHook) noOrc 100000 300 [] 148 [.int .u8 op]) = u8c24.map (fun op => some (rkStoreRegV op.toNat, [])) := by kernel_rfl
set_option maxHeartbeats 0 in
set_option maxRecDepth 1000000 in
theorem rkStoreReg_25 : u8c25.map (fun op => reckonGC Tryz.prog (guardH noHook) noOrc 100000 300 [] 148 [.int .u8 op]) = u8c25.map (fun op => some (rkStoreRegV op.toNat, [])) := by kernel_rfl
set_option maxHeartbeats 0 in
set_option maxRecDepth 1000000 in
theorem rkStoreReg_26 : u8c26.map (fun op => reckonGC Tryz.prog (guardH noHook) noOrc 100000 300 [] 148 [.int .u8 op]) = u8c26.map (fun op => some (rkStoreRegV op.toNat, [])) := by kernel_rfl
set_option maxHeartbeats 0 in
set_option maxRecDepth 1000000 in
theorem rkStoreReg_27 : u8c27.map (fun op => reckonGC Tryz.prog (guardH noHook) noOrc 100000 300 [] 148 [.int .u8 op]) = u8c27.map (fun op => some (rkStoreRegV op.toNat, [])) := by kernel_rfl
set_option maxHeartbeats 0 in
set_option maxRecDepth 1000000 in
theorem rkStoreReg_28 : u8c28.map (fun op => reckonGC Tryz.prog (guardH noHook) noOrc 100000 300 [] 148 [.int .u8 op]) = u8c28.map (fun op => some (rkStoreRegV op.toNat, [])) := by kernel_rfl
set_option maxHeartbeats 0 in
set_option maxRecDepth 1000000 in
theorem rkStoreReg_29 : u8c29.map (fun op => reckonGC Tryz.prog (guardH noHook) noOrc 100000 300 [] 148 [.int .u8 op]) = u8c29.map (fun op => some (rkStoreRegV op.toNat, [])) := by kernel_rfl
set_option maxHeartbeats 0 in
set_option maxRecDepth 1000000 in
theorem rkStoreReg_30 : u8c30.map (fun op => reckonGC Tryz.prog (guardH noHook) noOrc 100000 300 [] 148 [.int .u8 op]) = u8c30.map (fun op => some (rkStoreRegV op.toNat, [])) := by kernel_rfl
set_option maxHeartbeats 0 in
set_option maxRecDepth 1000000 in
theorem rkStoreReg_31 : u8c31.map (fun op => reckonGC Tryz.prog (guardH noHook) noOrc 100000 300 [] 148 [.int .u8 op]) = u8c31.map (fun op => some (rkStoreRegV op.toNat, [])) := by kernel_rfl
theorem c_rkStoreReg (op : Int) (h : op ∈ u8s) (w : World) : Calls Tryz.prog 148 #[.int .u8 op] w fun e w' => e = .returned (rkStoreRegV op.toNat) ∧ Gr w w' := by
  have hf := List.all_eq_true.1 rkStoreReg_flat op h
  unfold u8s at h
  rcases List.mem_append.1 h with hm | h
  · exact reckonT_ok noNG (noHook_ok _) noOrc 100000 300 [] (cs := []) rfl hf (List.map_inj_left.1 rkStoreReg_0 op hm) rfl w (Laid.nil w)
  rcases List.mem_append.1 h with hm | h
  · exact reckonT_ok noNG (noHook_ok _) noOrc 100000 300 [] (cs := []) rfl hf (List.map_inj_left.1 rkStoreReg_1 op hm) rfl w (Laid.nil w)
  rcases List.mem_append.1 h with hm | h
  · exact reckonT_ok noNG (noHook_ok _) noOrc 100000 300 [] (cs := []) rfl hf (List.map_inj_left.1 rkStoreReg_2 op hm) rfl w (Laid.nil w)
  rcases List.mem_append.1 h with hm | h
  · exact reckonT_ok noNG (noHook_ok _) noOrc 100000 300 [] (cs := []) rfl hf (List.map_inj_left.1 rkStoreReg_3 op hm) rfl w (Laid.nil w)
  rcases List.mem_append.1 h with hm | h
  · exact reckonT_ok noNG (noHook_ok _) noOrc 100000 300 [] (cs := []) rfl hf (List.map_inj_left.1 rkStoreReg_4 op hm) rfl w (Laid.nil w)
  rcases List.mem_append.1 h with hm | h
  · exact reckonT_ok noNG (noHook_ok _) noOrc 100000 300 [] (cs := []) rfl hf (List.map_inj_left.1 rkStoreReg_5 op hm) rfl w (Laid.nil w)
  rcases List.mem_append.1 h with hm | h
  · exact reckonT_ok noNG (noHook_ok _) noOrc 100000 300 [] (cs := []) rfl hf (List.map_inj_left.1 rkStoreReg_6 op hm) rfl w (Laid.nil w)
  rcases List.mem_append.1 h with hm | h
  · exact reckonT_ok noNG (noHook_ok _) noOrc 100000 300 [] (cs := []) rfl hf (List.map_inj_left.1 rkStoreReg_7 op hm) rfl w (Laid.nil w)
  rcases List.mem_append.1 h with hm | h
  · exact reckonT_ok noNG (noHook_ok _) noOrc 100000 300 [] (cs := []) rfl hf (List.map_inj_left.1 rkStoreReg_8 op hm) rfl w (Laid.nil w)
  rcases List.mem_append.1 h with hm | h
  · exact reckonT_ok noNG (noHook_ok _) noOrc 100000 300 [] (cs := []) rfl hf (List.map_inj_left.1 rkStoreReg_9 op hm) rfl w (Laid.nil w)
  rcases List.mem_append.1 h with hm | h
  · exact reckonT_ok noNG (noHook_ok _) noOrc 100000 300 [] (cs := []) rfl hf (List.map_inj_left.1 rkStoreReg_10 op hm) rfl w (Laid.nil w)
  rcases List.mem_append.1 h with hm | h
  · exact reckonT_ok noNG (noHook_ok _) noOrc 100000 300 [] (cs := []) rfl hf (List.map_inj_left.1 rkStoreReg_11 op hm) rfl w (Laid.nil w)
  rcases List.mem_append.1 h with hm | h
  · exact reckonT_ok noNG (noHook_ok _) noOrc 100000 300 [] (cs := []) rfl hf (List.map_inj_left.1 rkStoreReg_12 op hm) rfl w (Laid.nil w)
  rcases List.mem_append.1 h with hm | h
  · exact reckonT_ok noNG (noHook_ok _) noOrc 100000 300 [] (cs := []) rfl hf (List.map_inj_left.1 rkStoreReg_13 op hm) rfl w (Laid.nil w)
  rcases List.mem_append.1 h with hm | h
  · exact reckonT_ok noNG (noHook_ok _) noOrc 100000 300 [] (cs := []) rfl hf (List.map_inj_left.1 rkStoreReg_14 op hm) rfl w (Laid.nil w)
  rcases List.mem_append.1 h with hm | h
  · exact reckonT_ok noNG (noHook_ok _) noOrc 100000 300 [] (cs := []) rfl hf (List.map_inj_left.1 rkStoreReg_15 op hm) rfl w (Laid.nil w)
  rcases List.mem_append.1 h with hm | h
  · exact reckonT_ok noNG (noHook_ok _) noOrc 100000 300 [] (cs := []) rfl hf (List.map_inj_left.1 rkStoreReg_16 op hm) rfl w (Laid.nil w)
  rcases List.mem_append.1 h with hm | h
  · exact reckonT_ok noNG (noHook_ok _) noOrc 100000 300 [] (cs := []) rfl hf (List.map_inj_left.1 rkStoreReg_17 op hm) rfl w (Laid.nil w)
  rcases List.mem_append.1 h with hm | h
  · exact reckonT_ok noNG (noHook_ok _) noOrc 100000 300 [] (cs := []) rfl hf (List.map_inj_left.1 rkStoreReg_18 op hm) rfl w (Laid.nil w)
  rcases List.mem_append.1 h with hm | h
  · exact reckonT_ok noNG (noHook_ok _) noOrc 100000 300 [] (cs := []) rfl hf (List.map_inj_left.1 rkStoreReg_19 op hm) rfl w (Laid.nil w)
  rcases List.mem_append.1 h with hm | h
  · exact reckonT_ok noNG (noHook_ok _) noOrc 100000 300 [] (cs := []) rfl hf (List.map_inj_left.1 rkStoreReg_20 op hm) rfl w (Laid.nil w)
  rcases List.mem_append.1 h with hm | h
  · exact reckonT_ok noNG (noHook_ok _) noOrc 100000 300 [] (cs := []) rfl hf (List.map_inj_left.1 rkStoreReg_21 op hm) rfl w (Laid.nil w)
  rcases List.mem_append.1 h with hm | h
  · exact reckonT_ok noNG (noHook_ok _) noOrc 100000 300 [] (cs := []) rfl hf (List.map_inj_left.1 rkStoreReg_22 op hm) rfl w (Laid.nil w)
  rcases List.mem_append.1 h with hm | h
  · exact reckonT_ok noNG (noHook_ok _) noOrc 100000 300 [] (cs := []) rfl hf (List.map_inj_left.1 rkStoreReg_23 op hm) rfl w (Laid.nil w)
  rcases List.mem_append.1 h with hm | h
  · exact reckonT_ok noNG (noHook_ok _) noOrc 100000 300 [] (cs := []) rfl hf (List.map_inj_left.1 rkStoreReg_24 op hm) rfl w (Laid.nil w)
  rcases List.mem_append.1 h with hm | h
  · exact reckonT_ok noNG (noHook_ok _) noOrc 100000 300 [] (cs := []) rfl hf (List.map_inj_left.1 rkStoreReg_25 op hm) rfl w (Laid.nil w)
  rcases List.mem_append.1 h with hm | h
  · exact reckonT_ok noNG (noHook_ok _) noOrc 100000 300 [] (cs := []) rfl hf (List.map_inj_left.1 rkStoreReg_26 op hm) rfl w (Laid.nil w)
  rcases List.mem_append.1 h with hm | h
  · exact reckonT_ok noNG (noHook_ok _) noOrc 100000 300 [] (cs := []) rfl hf (List.map_inj_left.1 rkStoreReg_27 op hm) rfl w (Laid.nil w)
  rcases List.mem_append.1 h with hm | h
  · exact reckonT_ok noNG (noHook_ok _) noOrc 100000 300 [] (cs := []) rfl hf (List.map_inj_left.1 rkStoreReg_28 op hm) rfl w (Laid.nil w)
  rcases List.mem_append.1 h with hm | h
  · exact reckonT_ok noNG (noHook_ok _) noOrc 100000 300 [] (cs := []) rfl hf (List.map_inj_left.1 rkStoreReg_29 op hm) rfl w (Laid.nil w)
  rcases List.mem_append.1 h with hm | h
  · exact reckonT_ok noNG (noHook_ok _) noOrc 100000 300 [] (cs := []) rfl hf (List.map_inj_left.1 rkStoreReg_30 op hm) rfl w (Laid.nil w)
  · exact reckonT_ok noNG (noHook_ok _) noOrc 100000 300 [] (cs := []) rfl hf (List.map_inj_left.1 rkStoreReg_31 op h) rfl w (Laid.nil w)
def hk_rkStoreReg : Hook := fun f args _ =>
  if Nat.beq f 148 then
    match args with
    | [.int .u8 op] => if u8in op then some (rkStoreRegV op.toNat, []) else none
    | _ => none
  else none
theorem hk_rkStoreReg_ok : HookOk Tryz.prog hk_rkStoreReg := by
  intro f args h v cs hv hc wb k s w H
  unfold hk_rkStoreReg at hv
  split at hv
  · rename_i hf
    obtain rfl := Nat.eq_of_beq_eq_true hf
    split at hv
    · rename_i op
      split at hv
      · rename_i ho
        cases hv
        exact c_rkStoreReg op (u8in_mem ho) w
      · cases hv
    · cases hv
  · cases hv
end Go.Proofs.YthhgfjnnconocaaGreatDoor.Ex
end
section
namespace Go.Proofs.YthhgfjnnconocaaGreatDoor.Ex
open Go Go.RowKit
def rkRegV (n : Nat) : Value := (bif Nat.ble 128 n then (bif Nat.ble 192 n then (bif Nat.ble 224 n then (bif Nat.ble 240 n then (bif Nat.ble 248 n then (.bool true) else (.bool false)) else (bif Nat.ble 232 n then (.bool true) else (.bool false))) else (bif Nat.ble 208 n then (bif Nat.ble 216 n then (.bool true) else (.bool false)) else (bif Nat.ble 200 n then (.bool true) else (.bool false)))) else (bif Nat.ble 160 n then (bif Nat.ble 176 n then (bif Nat.ble 184 n then (.bool true) else (.bool false)) else (bif Nat.ble 168 n then (.bool true) else (.bool false))) else (bif Nat.ble 144 n then (bif Nat.ble 152 n then (.bool true) else (.bool false)) else (bif Nat.ble 136 n then (.bool true) else (.bool false))))) else (bif Nat.ble 64 n then (bif Nat.ble 96 n then (bif Nat.ble 112 n then (bif Nat.ble 120 n then (.bool true) else (.bool false)) else (bif Nat.ble 104 n then (.bool true) else (.bool false))) else (bif Nat.ble 80 n then (bif Nat.ble 88 n then (.bool true) else (.bool false)) else (bif Nat.ble 72 n then (.bool true) else (.bool false)))) else (bif Nat.ble 32 n then (bif Nat.ble 48 n then (bif Nat.ble 56 n then (.bool true) else (.bool false)) else (bif Nat.ble 40 n then (.bool true) else (.bool false))) else (bif Nat.ble 16 n then (bif Nat.ble 24 n then (.bool true) else (.bool false)) else (bif Nat.ble 8 n then (.bool true) else (.bool false))))))
theorem rkReg_flat : u8s.all (fun op => flat (rkRegV op.toNat)) = true := by kernel_rfl
set_option maxHeartbeats 0 in
set_option maxRecDepth 1000000 in
theorem rkReg_0 : u8c0.map (fun op => reckonGC Tryz.prog (guardH noHook) noOrc 100000 300 [] 149 [.int .u8 op]) = u8c0.map (fun op => some (rkRegV op.toNat, [])) := by kernel_rfl
set_option maxHeartbeats 0 in
set_option maxRecDepth 1000000 in
theorem rkReg_1 : u8c1.map (fun op => reckonGC Tryz.prog (guardH noHook) noOrc 100000 300 [] 149 [.int .u8 op]) = u8c1.map (fun op => some (rkRegV op.toNat, [])) := by kernel_rfl
set_option maxHeartbeats 0 in
set_option maxRecDepth 1000000 in
theorem rkReg_2 : u8c2.map (fun op => reckonGC Tryz.prog (guardH noHook) noOrc 100000 300 [] 149 [.int .u8 op]) = u8c2.map (fun op => some (rkRegV op.toNat, [])) := by kernel_rfl
set_option maxHeartbeats 0 in
set_option maxRecDepth 1000000 in
theorem rkReg_3 : u8c3.map (fun op => reckonGC Tryz.prog (guardH noHook) noOrc 100000 300 [] 149 [.int .u8 op]) = u8c3.map (fun op => some (rkRegV op.toNat, [])) := by kernel_rfl
set_option maxHeartbeats 0 in
set_option maxRecDepth 1000000 in
theorem rkReg_4 : u8c4.map (fun op => reckonGC Tryz.prog (guardH noHook) noOrc 100000 300 [] 149 [.int .u8 op]) = u8c4.map (fun op => some (rkRegV op.toNat, [])) := by kernel_rfl
set_option maxHeartbeats 0 in
set_option maxRecDepth 1000000 in
theorem rkReg_5 : u8c5.map (fun op => reckonGC Tryz.prog (guardH noHook) noOrc 100000 300 [] 149 [.int .u8 op]) = u8c5.map (fun op => some (rkRegV op.toNat, [])) := by kernel_rfl
set_option maxHeartbeats 0 in
set_option maxRecDepth 1000000 in
theorem rkReg_6 : u8c6.map (fun op => reckonGC Tryz.prog (guardH noHook) noOrc 100000 300 [] 149 [.int .u8 op]) = u8c6.map (fun op => some (rkRegV op.toNat, [])) := by kernel_rfl
set_option maxHeartbeats 0 in
set_option maxRecDepth 1000000 in
theorem rkReg_7 : u8c7.map (fun op => reckonGC Tryz.prog (guardH noHook) noOrc 100000 300 [] 149 [.int .u8 op]) = u8c7.map (fun op => some (rkRegV op.toNat, [])) := by kernel_rfl
set_option maxHeartbeats 0 in
set_option maxRecDepth 1000000 in
theorem rkReg_8 : u8c8.map (fun op => reckonGC Tryz.prog (guardH noHook) noOrc 100000 300 [] 149 [.int .u8 op]) = u8c8.map (fun op => some (rkRegV op.toNat, [])) := by kernel_rfl
set_option maxHeartbeats 0 in
set_option maxRecDepth 1000000 in
theorem rkReg_9 : u8c9.map (fun op => reckonGC Tryz.prog (guardH noHook) noOrc 100000 300 [] 149 [.int .u8 op]) = u8c9.map (fun op => some (rkRegV op.toNat, [])) := by kernel_rfl
set_option maxHeartbeats 0 in
set_option maxRecDepth 1000000 in
theorem rkReg_10 : u8c10.map (fun op => reckonGC Tryz.prog (guardH noHook) noOrc 100000 300 [] 149 [.int .u8 op]) = u8c10.map (fun op => some (rkRegV op.toNat, [])) := by kernel_rfl
set_option maxHeartbeats 0 in
set_option maxRecDepth 1000000 in
theorem rkReg_11 : u8c11.map (fun op => reckonGC Tryz.prog (guardH noHook) noOrc 100000 300 [] 149 [.int .u8 op]) = u8c11.map (fun op => some (rkRegV op.toNat, [])) := by kernel_rfl
set_option maxHeartbeats 0 in
set_option maxRecDepth 1000000 in
theorem rkReg_12 : u8c12.map (fun op => reckonGC Tryz.prog (guardH noHook) noOrc 100000 300 [] 149 [.int .u8 op]) = u8c12.map (fun op => some (rkRegV op.toNat, [])) := by kernel_rfl
set_option maxHeartbeats 0 in
set_option maxRecDepth 1000000 in
theorem rkReg_13 : u8c13.map (fun op => reckonGC Tryz.prog (guardH noHook) noOrc 100000 300 [] 149 [.int .u8 op]) = u8c13.map (fun op => some (rkRegV op.toNat, [])) := by kernel_rfl
set_option maxHeartbeats 0 in
set_option maxRecDepth 1000000 in
theorem rkReg_14 : u8c14.map (fun op => reckonGC Tryz.prog (guardH noHook) noOrc 100000 300 [] 149 [.int .u8 op]) = u8c14.map (fun op => some (rkRegV op.toNat, [])) := by kernel_rfl
set_option maxHeartbeats 0 in
set_option maxRecDepth 1000000 in
theorem rkReg_15 : u8c15.map (fun op => reckonGC Tryz.prog (guardH noHook) noOrc 100000 300 [] 149 [.int .u8 op]) = u8c15.map (fun op => some (rkRegV op.toNat, [])) := by kernel_rfl
set_option maxHeartbeats 0 in
set_option maxRecDepth 1000000 in
theorem rkReg_16 : u8c16.map (fun op => reckonGC Tryz.prog (guardH noHook) noOrc 100000 300 [] 149 [.int .u8 op]) = u8c16.map (fun op => some (rkRegV op.toNat, [])) := by kernel_rfl
set_option maxHeartbeats 0 in
set_option maxRecDepth 1000000 in
theorem rkReg_17 : u8c17.map (fun op => reckonGC Tryz.prog (guardH noHook) noOrc 100000 300 [] 149 [.int .u8 op]) = u8c17.map (fun op => some (rkRegV op.toNat, [])) := by kernel_rfl
set_option maxHeartbeats 0 in
set_option maxRecDepth 1000000 in
theorem rkReg_18 : u8c18.map (fun op => reckonGC Tryz.prog (guardH noHook) noOrc 100000 300 [] 149 [.int .u8 op]) = u8c18.map (fun op => some (rkRegV op.toNat, [])) := by kernel_rfl
set_option maxHeartbeats 0 in
set_option maxRecDepth 1000000 in
theorem rkReg_19 : u8c19.map (fun op => reckonGC Tryz.prog (guardH noHook) noOrc 100000 300 [] 149 [.int .u8 op]) = u8c19.map (fun op => some (rkRegV op.toNat, [])) := by kernel_rfl
set_option maxHeartbeats 0 in
set_option maxRecDepth 1000000 in
theorem rkReg_20 : u8c20.map (fun op => reckonGC Tryz.prog (guardH noHook) noOrc 100000 300 [] 149 [.int .u8 op]) = u8c20.map (fun op => some (rkRegV op.toNat, [])) := by kernel_rfl
set_option maxHeartbeats 0 in
set_option maxRecDepth 1000000 in
theorem rkReg_21 : u8c21.map (fun op => reckonGC Tryz.prog (guardH noHook) noOrc 100000 300 [] 149 [.int .u8 op]) = u8c21.map (fun op => some (rkRegV op.toNat, [])) := by kernel_rfl
set_option maxHeartbeats 0 in
set_option maxRecDepth 1000000 in
theorem rkReg_22 : u8c22.map (fun op => reckonGC Tryz.prog (guardH noHook) noOrc 100000 300 [] 149 [.int .u8 op]) = u8c22.map (fun op => some (rkRegV op.toNat, [])) := by kernel_rfl
set_option maxHeartbeats 0 in
set_option maxRecDepth 1000000 in
theorem rkReg_23 : u8c23.map (fun op => reckonGC Tryz.prog (guardH noHook) noOrc 100000 300 [] 149 [.int .u8 op]) = u8c23.map (fun op => some (rkRegV op.toNat, [])) := by kernel_rfl
set_option maxHeartbeats 0 in
set_option maxRecDepth 1000000 in
theorem rkReg_24 : u8c24.map (fun op => reckonGC Tryz.prog (guardH noHook) noOrc 100000 300 [] 149 [.int .u8 op]) = u8c24.map (fun op => some (rkRegV op.toNat, [])) := by kernel_rfl
set_option maxHeartbeats 0 in
set_option maxRecDepth 1000000 in
theorem rkReg_25 : u8c25.map (fun op => reckonGC Tryz.prog (guardH noHook) noOrc 100000 300 [] 149 [.int .u8 op]) = u8c25.map (fun op => some (rkRegV op.toNat, [])) := by kernel_rfl
set_option maxHeartbeats 0 in
set_option maxRecDepth 1000000 in
theorem rkReg_26 : u8c26.map (fun op => reckonGC Tryz.prog (guardH noHook) noOrc 100000 300 [] 149 [.int .u8 op]) = u8c26.map (fun op => some (rkRegV op.toNat, [])) := by kernel_rfl
set_option maxHeartbeats 0 in
set_option maxRecDepth 1000000 in
theorem rkReg_27 : u8c27.map (fun op => reckonGC Tryz.prog (guardH noHook) noOrc 100000 300 [] 149 [.int .u8 op]) = u8c27.map (fun op => some (rkRegV op.toNat, [])) := by kernel_rfl
set_option maxHeartbeats 0 in
set_option maxRecDepth 1000000 in
theorem rkReg_28 : u8c28.map (fun op => reckonGC Tryz.prog (guardH noHook) noOrc 100000 300 [] 149 [.int .u8 op]) = u8c28.map (fun op => some (rkRegV op.toNat, [])) := by kernel_rfl
set_option maxHeartbeats 0 in
set_option maxRecDepth 1000000 in
theorem rkReg_29 : u8c29.map (fun op => reckonGC Tryz.prog (guardH noHook) noOrc 100000 300 [] 149 [.int .u8 op]) = u8c29.map (fun op => some (rkRegV op.toNat, [])) := by kernel_rfl
set_option maxHeartbeats 0 in
set_option maxRecDepth 1000000 in
theorem rkReg_30 : u8c30.map (fun op => reckonGC Tryz.prog (guardH noHook) noOrc 100000 300 [] 149 [.int .u8 op]) = u8c30.map (fun op => some (rkRegV op.toNat, [])) := by kernel_rfl
set_option maxHeartbeats 0 in
set_option maxRecDepth 1000000 in
theorem rkReg_31 : u8c31.map (fun op => reckonGC Tryz.prog (guardH noHook) noOrc 100000 300 [] 149 [.int .u8 op]) = u8c31.map (fun op => some (rkRegV op.toNat, [])) := by kernel_rfl
theorem c_rkReg (op : Int) (h : op ∈ u8s) (w : World) : Calls Tryz.prog 149 #[.int .u8 op] w fun e w' => e = .returned (rkRegV op.toNat) ∧ Gr w w' := by
  have hf := List.all_eq_true.1 rkReg_flat op h
  unfold u8s at h
  rcases List.mem_append.1 h with hm | h
  · exact reckonT_ok noNG (noHook_ok _) noOrc 100000 300 [] (cs := []) rfl hf (List.map_inj_left.1 rkReg_0 op hm) rfl w (Laid.nil w)
  rcases List.mem_append.1 h with hm | h
  · exact reckonT_ok noNG (noHook_ok _) noOrc 100000 300 [] (cs := []) rfl hf (List.map_inj_left.1 rkReg_1 op hm) rfl w (Laid.nil w)
  rcases List.mem_append.1 h with hm | h
  · exact reckonT_ok noNG (noHook_ok _) noOrc 100000 300 [] (cs := []) rfl hf (List.map_inj_left.1 rkReg_2 op hm) rfl w (Laid.nil w)
  rcases List.mem_append.1 h with hm | h
  · exact reckonT_ok noNG (noHook_ok _) noOrc 100000 300 [] (cs := []) rfl hf (List.map_inj_left.1 rkReg_3 op hm) rfl w (Laid.nil w)
  rcases List.mem_append.1 h with hm | h
  · exact reckonT_ok noNG (noHook_ok _) noOrc 100000 300 [] (cs := []) rfl hf (List.map_inj_left.1 rkReg_4 op hm) rfl w (Laid.nil w)
  rcases List.mem_append.1 h with hm | h
  · exact reckonT_ok noNG (noHook_ok _) noOrc 100000 300 [] (cs := []) rfl hf (List.map_inj_left.1 rkReg_5 op hm) rfl w (Laid.nil w)
  rcases List.mem_append.1 h with hm | h
  · exact reckonT_ok noNG (noHook_ok _) noOrc 100000 300 [] (cs := []) rfl hf (List.map_inj_left.1 rkReg_6 op hm) rfl w (Laid.nil w)
  rcases List.mem_append.1 h with hm | h
  · exact reckonT_ok noNG (noHook_ok _) noOrc 100000 300 [] (cs := []) rfl hf (List.map_inj_left.1 rkReg_7 op hm) rfl w (Laid.nil w)
  rcases List.mem_append.1 h with hm | h
  · exact reckonT_ok noNG (noHook_ok _) noOrc 100000 300 [] (cs := []) rfl hf (List.map_inj_left.1 rkReg_8 op hm) rfl w (Laid.nil w)
  rcases List.mem_append.1 h with hm | h
  · exact reckonT_ok noNG (noHook_ok _) noOrc 100000 300 [] (cs := []) rfl hf (List.map_inj_left.1 rkReg_9 op hm) rfl w (Laid.nil w)
  rcases List.mem_append.1 h with hm | h
  · exact reckonT_ok noNG (noHook_ok _) noOrc 100000 300 [] (cs := []) rfl hf (List.map_inj_left.1 rkReg_10 op hm) rfl w (Laid.nil w)
  rcases List.mem_append.1 h with hm | h
  · exact reckonT_ok noNG (noHook_ok _) noOrc 100000 300 [] (cs := []) rfl hf (List.map_inj_left.1 rkReg_11 op hm) rfl w (Laid.nil w)
  rcases List.mem_append.1 h with hm | h
  · exact reckonT_ok noNG (noHook_ok _) noOrc 100000 300 [] (cs := []) rfl hf (List.map_inj_left.1 rkReg_12 op hm) rfl w (Laid.nil w)
  rcases List.mem_append.1 h with hm | h
  · exact reckonT_ok noNG (noHook_ok _) noOrc 100000 300 [] (cs := []) rfl hf (List.map_inj_left.1 rkReg_13 op hm) rfl w (Laid.nil w)
  rcases List.mem_append.1 h with hm | h
  · exact reckonT_ok noNG (noHook_ok _) noOrc 100000 300 [] (cs := []) rfl hf (List.map_inj_left.1 rkReg_14 op hm) rfl w (Laid.nil w)
  rcases List.mem_append.1 h with hm | h
  · exact reckonT_ok noNG (noHook_ok _) noOrc 100000 300 [] (cs := []) rfl hf (List.map_inj_left.1 rkReg_15 op hm) rfl w (Laid.nil w)
  rcases List.mem_append.1 h with hm | h
  · exact reckonT_ok noNG (noHook_ok _) noOrc 100000 300 [] (cs := []) rfl hf (List.map_inj_left.1 rkReg_16 op hm) rfl w (Laid.nil w)
  rcases List.mem_append.1 h with hm | h
  · exact reckonT_ok noNG (noHook_ok _) noOrc 100000 300 [] (cs := []) rfl hf (List.map_inj_left.1 rkReg_17 op hm) rfl w (Laid.nil w)
  rcases List.mem_append.1 h with hm | h
  · exact reckonT_ok noNG (noHook_ok _) noOrc 100000 300 [] (cs := []) rfl hf (List.map_inj_left.1 rkReg_18 op hm) rfl w (Laid.nil w)
  rcases List.mem_append.1 h with hm | h
  · exact reckonT_ok noNG (noHook_ok _) noOrc 100000 300 [] (cs := []) rfl hf (List.map_inj_left.1 rkReg_19 op hm) rfl w (Laid.nil w)
  rcases List.mem_append.1 h with hm | h
  · exact reckonT_ok noNG (noHook_ok _) noOrc 100000 300 [] (cs := []) rfl hf (List.map_inj_left.1 rkReg_20 op hm) rfl w (Laid.nil w)
  rcases List.mem_append.1 h with hm | h
  · exact reckonT_ok noNG (noHook_ok _) noOrc 100000 300 [] (cs := []) rfl hf (List.map_inj_left.1 rkReg_21 op hm) rfl w (Laid.nil w)
  rcases List.mem_append.1 h with hm | h
  · exact reckonT_ok noNG (noHook_ok _) noOrc 100000 300 [] (cs := []) rfl hf (List.map_inj_left.1 rkReg_22 op hm) rfl w (Laid.nil w)
  rcases List.mem_append.1 h with hm | h
  · exact reckonT_ok noNG (noHook_ok _) noOrc 100000 300 [] (cs := []) rfl hf (List.map_inj_left.1 rkReg_23 op hm) rfl w (Laid.nil w)
  rcases List.mem_append.1 h with hm | h
  · exact reckonT_ok noNG (noHook_ok _) noOrc 100000 300 [] (cs := []) rfl hf (List.map_inj_left.1 rkReg_24 op hm) rfl w (Laid.nil w)
  rcases List.mem_append.1 h with hm | h
  · exact reckonT_ok noNG (noHook_ok _) noOrc 100000 300 [] (cs := []) rfl hf (List.map_inj_left.1 rkReg_25 op hm) rfl w (Laid.nil w)
  rcases List.mem_append.1 h with hm | h
  · exact reckonT_ok noNG (noHook_ok _) noOrc 100000 300 [] (cs := []) rfl hf (List.map_inj_left.1 rkReg_26 op hm) rfl w (Laid.nil w)
  rcases List.mem_append.1 h with hm | h
  · exact reckonT_ok noNG (noHook_ok _) noOrc 100000 300 [] (cs := []) rfl hf (List.map_inj_left.1 rkReg_27 op hm) rfl w (Laid.nil w)
  rcases List.mem_append.1 h with hm | h
  · exact reckonT_ok noNG (noHook_ok _) noOrc 100000 300 [] (cs := []) rfl hf (List.map_inj_left.1 rkReg_28 op hm) rfl w (Laid.nil w)
  rcases List.mem_append.1 h with hm | h
  · exact reckonT_ok noNG (noHook_ok _) noOrc 100000 300 [] (cs := []) rfl hf (List.map_inj_left.1 rkReg_29 op hm) rfl w (Laid.nil w)
  rcases List.mem_append.1 h with hm | h
  · exact reckonT_ok noNG (noHook_ok _) noOrc 100000 300 [] (cs := []) rfl hf (List.map_inj_left.1 rkReg_30 op hm) rfl w (Laid.nil w)
  · exact reckonT_ok noNG (noHook_ok _) noOrc 100000 300 [] (cs := []) rfl hf (List.map_inj_left.1 rkReg_31 op h) rfl w (Laid.nil w)
def hk_rkReg : Hook := fun f args _ =>
  if Nat.beq f 149 then
    match args with
    | [.int .u8 op] => if u8in op then some (rkRegV op.toNat, []) else none
    | _ => none
  else none
theorem hk_rkReg_ok : HookOk Tryz.prog hk_rkReg := by
  intro f args h v cs hv hc wb k s w H
  unfold hk_rkReg at hv
  split at hv
  · rename_i hf
    obtain rfl := Nat.eq_of_beq_eq_true hf
    split at hv
    · rename_i op
      split at hv
      · rename_i ho
        cases hv
        exact c_rkReg op (u8in_mem ho) w
      · cases hv
    · cases hv
  · cases hv
end Go.Proofs.YthhgfjnnconocaaGreatDoor.Ex
end
section
namespace Go.Proofs.YthhgfjnnconocaaGreatDoor.Ex
open Go Go.RowKit
def rkArithV (n : Nat) : Value := (bif Nat.ble 128 n then (bif Nat.ble 192 n then (bif Nat.ble 224 n then (bif Nat.ble 240 n then (bif Nat.ble 248 n then (bif Nat.ble 252 n then (bif Nat.ble 254 n then (bif Nat.ble 255 n then (.bool true) else (.bool false)) else (bif Nat.ble 253 n then (.bool false) else (.bool true))) else (.bool false)) else (bif Nat.ble 244 n then (bif Nat.ble 246 n then (bif Nat.ble 247 n then (.bool true) else (.bool false)) else (bif Nat.ble 245 n then (.bool false) else (.bool true))) else (.bool false))) else (bif Nat.ble 232 n then (bif Nat.ble 236 n then (bif Nat.ble 238 n then (bif Nat.ble 239 n then (.bool true) else (.bool false)) else (bif Nat.ble 237 n then (.bool false) else (.bool true))) else (.bool false)) else (bif Nat.ble 228 n then (bif Nat.ble 230 n then (bif Nat.ble 231 n then (.bool true) else (.bool false)) else (bif Nat.ble 229 n then (.bool false) else (.bool true))) else (.bool false)))) else (bif Nat.ble 208 n then (bif Nat.ble 216 n then (bif Nat.ble 220 n then (bif Nat.ble 222 n then (bif Nat.ble 223 n then (.bool true) else (.bool false)) else (bif Nat.ble 221 n then (.bool false) else (.bool true))) else (.bool false)) else (bif Nat.ble 212 n then (bif Nat.ble 214 n then (bif Nat.ble 215 n then (.bool true) else (.bool false)) else (bif Nat.ble 213 n then (.bool false) else (.bool true))) else (.bool false))) else (bif Nat.ble 200 n then (bif Nat.ble 204 n then (bif Nat.ble 206 n then (bif Nat.ble 207 n then (.bool true) else (.bool false)) else (bif Nat.ble 205 n then (.bool false) else (.bool true))) else (.bool false)) else (bif Nat.ble 196 n then (bif Nat.ble 198 n then (bif Nat.ble 199 n then (.bool true) else (.bool false)) else (bif Nat.ble 197 n then (.bool false) else (.bool true))) else (.bool false))))) else (bif Nat.ble 160 n then (bif Nat.ble 176 n then (bif Nat.ble 184 n then (bif Nat.ble 188 n then (bif Nat.ble 190 n then (bif Nat.ble 191 n then (.bool true) else (.bool false)) else (bif Nat.ble 189 n then (.bool false) else (.bool true))) else (.bool false)) else (bif Nat.ble 180 n then (bif Nat.ble 182 n then (bif Nat.ble 183 n then (.bool true) else (.bool false)) else (bif Nat.ble 181 n then (.bool false) else (.bool true))) else (.bool false))) else (bif Nat.ble 168 n then (bif Nat.ble 172 n then (bif Nat.ble 174 n then (bif Nat.ble 175 n then (.bool true) else (.bool false)) else (bif Nat.ble 173 n then (.bool false) else (.bool true))) else (.bool false)) else (bif Nat.ble 164 n then (bif Nat.ble 166 n then (bif Nat.ble 167 n then (.bool true) else (.bool false)) else (bif Nat.ble 165 n then (.bool false) else (.bool true))) else (.bool false)))) else (bif Nat.ble 144 n then (bif Nat.ble 152 n then (bif Nat.ble 156 n then (bif Nat.ble 158 n then (bif Nat.ble 159 n then (.bool true) else (.bool false)) else (bif Nat.ble 157 n then (.bool false) else (.bool true))) else (.bool false)) else (bif Nat.ble 148 n then (bif Nat.ble 150 n then (bif Nat.ble 151 n then (.bool true) else (.bool false)) else (bif Nat.ble 149 n then (.bool false) else (.bool true))) else (.bool false))) else (bif Nat.ble 136 n then (bif Nat.ble 140 n then (bif Nat.ble 142 n then (bif Nat.ble 143 n then (.bool true) else (.bool false)) else (bif Nat.ble 141 n then (.bool false) else (.bool true))) else (.bool false)) else (bif Nat.ble 132 n then (bif Nat.ble 134 n then (bif Nat.ble 135 n then (.bool true) else (.bool false)) else (bif Nat.ble 133 n then (.bool false) else (.bool true))) else (.bool false)))))) else (bif Nat.ble 64 n then (bif Nat.ble 96 n then (bif Nat.ble 112 n then (bif Nat.ble 120 n then (bif Nat.ble 124 n then (bif Nat.ble 126 n then (bif Nat.ble 127 n then (.bool true) else (.bool false)) else (bif Nat.ble 125 n then (.bool false) else (.bool true))) else (.bool false)) else (bif Nat.ble 116 n then (bif Nat.ble 118 n then (bif Nat.ble 119 n then (.bool true) else (.bool false)) else (bif Nat.ble 117 n then (.bool false) else (.bool true))) else (.bool false))) else (bif Nat.ble 104 n then (bif Nat.ble 108 n then (bif Nat.ble 110 n then (bif Nat.ble 111 n then (.bool true) else (.bool false)) else (bif Nat.ble 109 n then (.bool false) else (.bool true))) else (.bool false)) else (bif Nat.ble 100 n then (bif Nat.ble 102 n then (bif Nat.ble 103 n then (.bool true) else (.bool false)) else (bif Nat.ble 101 n then (.bool false) else (.bool true))) else (.bool false)))) else (bif Nat.ble 80 n then (bif Nat.ble 88 n then (bif Nat.ble 92 n then (bif Nat.ble 94 n then (bif Nat.ble 95 n then (.bool true) else (.bool false)) else (bif Nat.ble 93 n then (.bool false) else (.bool true))) else (.bool false)) else (bif Nat.ble 84 n then (bif Nat.ble 86 n then (bif Nat.ble 87 n then (.bool true) else (.bool false)) else (bif Nat.ble 85 n then (.bool false) else (.bool true))) else (.bool false))) else (bif Nat.ble 72 n then (bif Nat.ble 76 n then (bif Nat.ble 78 n then (bif Nat.ble 79 n then (.bool true) else (.bool false)) else (bif Nat.ble 77 n then (.bool false) else (.bool true))) else (.bool false)) else (bif Nat.ble 68 n then (bif Nat.ble 70 n then (bif Nat.ble 71 n then (.bool true) else (.bool false)) else (bif Nat.ble 69 n then (.bool false) else (.bool true))) else (.bool false))))) else (bif Nat.ble 32 n then (bif Nat.ble 48 n then (bif Nat.ble 56 n then (bif Nat.ble 60 n then (bif Nat.ble 62 n then (bif Nat.ble 63 n then (.bool true) else (.bool false)) else (bif Nat.ble 61 n then (.bool false) else (.bool true))) else (.bool false)) else (bif Nat.ble 52 n then (bif Nat.ble 54 n then (bif Nat.ble 55 n then (.bool true) else (.bool false)) else (bif Nat.ble 53 n then (.bool false) else (.bool true))) else (.bool false))) else (bif Nat.ble 40 n then (bif Nat.ble 44 n then (bif Nat.ble 46 n then (bif Nat.ble 47 n then (.bool true) else (.bool false)) else (bif Nat.ble 45 n then (.bool false) else (.bool true))) else (.bool false)) else (bif Nat.ble 36 n then (bif Nat.ble 38 n then (bif Nat.ble 39 n then (.bool true) else (.bool false)) else (bif Nat.ble 37 n then (.bool false) else (.bool true))) else (.bool false)))) else (bif Nat.ble 16 n then (bif Nat.ble 24 n then (bif Nat.ble 28 n then (bif Nat.ble 30 n then (bif Nat.ble 31 n then (.bool true) else (.bool false)) else (bif Nat.ble 29 n then (.bool false) else (.bool true))) else (.bool false)) else (bif Nat.ble 20 n then (bif Nat.ble 22 n then (bif Nat.ble 23 n then (.bool true) else (.bool false)) else (bif Nat.ble 21 n then (.bool false) else (.bool true))) else (.bool false))) else (bif Nat.ble 8 n then (bif Nat.ble 12 n then (bif Nat.ble 14 n then (bif Nat.ble 15 n then (.bool true) else (.bool false)) else (bif Nat.ble 13 n then (.bool false) else (.bool true))) else (.bool false)) else (bif Nat.ble 4 n then (bif Nat.ble 6 n then (bif Nat.ble 7 n then (.bool true) else (.bool false)) else (bif Nat.ble 5 n then (.bool false) else (.bool true))) else (.bool false)))))))
theorem rkArith_flat : u8s.all (fun op => flat (rkArithV op.toNat)) = true := by kernel_rfl
set_option maxHeartbeats 0 in
set_option maxRecDepth 1000000 in
theorem rkArith_0 : u8c0.map (fun op => reckonGC Tryz.prog (guardH noHook) noOrc 100000 300 [] 150 [.int .u8 op]) = u8c0.map (fun op => some (rkArithV op.toNat, [])) := by kernel_rfl
set_option maxHeartbeats 0 in
set_option maxRecDepth 1000000 in
theorem rkArith_1 : u8c1.map (fun op => reckonGC Tryz.prog (guardH noHook) noOrc 100000 300 [] 150 [.int .u8 op]) = u8c1.map (fun op => some (rkArithV op.toNat, [])) := by kernel_rfl
set_option maxHeartbeats 0 in
set_option maxRecDepth 1000000 in
theorem rkArith_2 : u8c2.map (fun op => reckonGC Tryz.prog (guardH noHook) noOrc 100000 300 [] 150 [.int .u8 op]) = u8c2.map (fun op => some (rkArithV op.toNat, [])) := by kernel_rfl
set_option maxHeartbeats 0 in
set_option maxRecDepth 1000000 in
theorem rkArith_3 : u8c3.map (fun op => reckonGC Tryz.prog (guardH noHook) noOrc 100000 300 [] 150 [.int .u8 op]) = u8c3.map (fun op => some (rkArithV op.toNat, [])) := by kernel_rfl
set_option maxHeartbeats 0 in
set_option maxRecDepth 1000000 in
theorem rkArith_4 : u8c4.map (fun op => reckonGC Tryz.prog (guardH noHook) noOrc 100000 300 [] 150 [.int .u8 op]) = u8c4.map (fun op => some (rkArithV op.toNat, [])) := by kernel_rfl
set_option maxHeartbeats 0 in
set_option maxRecDepth 1000000 in
theorem rkArith_5 : u8c5.map (fun op => reckonGC Tryz.prog (guardH noHook) noOrc 100000 300 [] 150 [.int .u8 op]) = u8c5.map (fun op => some (rkArithV op.toNat, [])) := by kernel_rfl
set_option maxHeartbeats 0 in
set_option maxRecDepth 1000000 in
theorem rkArith_6 : u8c6.map (fun op => reckonGC Tryz.prog (guardH noHook) noOrc 100000 300 [] 150 [.int .u8 op]) = u8c6.map (fun op => some (rkArithV op.toNat, [])) := by kernel_rfl
set_option maxHeartbeats 0 in
set_option maxRecDepth 1000000 in
theorem rkArith_7 : u8c7.map (fun op => reckonGC Tryz.prog (guardH noHook) noOrc 100000 300 [] 150 [.int .u8 op]) = u8c7.map (fun op => some (rkArithV op.toNat, [])) := by kernel_rfl
set_option maxHeartbeats 0 in
set_option maxRecDepth 1000000 in
theorem rkArith_8 : u8c8.map (fun op => reckonGC Tryz.prog (guardH noHook) noOrc 100000 300 [] 150 [.int .u8 op]) = u8c8.map (fun op => some (rkArithV op.toNat, [])) := by kernel_rfl
set_option maxHeartbeats 0 in
set_option maxRecDepth 1000000 in
theorem rkArith_9 : u8c9.map (fun op => reckonGC Tryz.prog (guardH noHook) noOrc 100000 300 [] 150 [.int .u8 op]) = u8c9.map (fun op => some (rkArithV op.toNat, [])) := by kernel_rfl
set_option maxHeartbeats 0 in
set_option maxRecDepth 1000000 in
theorem rkArith_10 : u8c10.map (fun op => reckonGC Tryz.prog (guardH noHook) noOrc 100000 300 [] 150 [.int .u8 op]) = u8c10.map (fun op => some (rkArithV op.toNat, [])) := by kernel_rfl
set_option maxHeartbeats 0 in
set_option maxRecDepth 1000000 in
theorem rkArith_11 : u8c11.map (fun op => reckonGC Tryz.prog (guardH noHook) noOrc 100000 300 [] 150 [.int .u8 op]) = u8c11.map (fun op => some (rkArithV op.toNat, [])) := by kernel_rfl
set_option maxHeartbeats 0 in
set_option maxRecDepth 1000000 in
theorem rkArith_12 : u8c12.map (fun op => reckonGC Tryz.prog (guardH noHook) noOrc 100000 300 [] 150 [.int .u8 op]) = u8c12.map (fun op => some (rkArithV op.toNat, [])) := by kernel_rfl
set_option maxHeartbeats 0 in
set_option maxRecDepth 1000000 in
theorem rkArith_13 : u8c13.map (fun op => reckonGC Tryz.prog (guardH noHook) noOrc 100000 300 [] 150 [.int .u8 op]) = u8c13.map (fun op => some (rkArithV op.toNat, [])) := by kernel_rfl
set_option maxHeartbeats 0 in
set_option maxRecDepth 1000000 in
theorem rkArith_14 : u8c14.map (fun op => reckonGC Tryz.prog (guardH noHook) noOrc 100000 300 [] 150 [.int .u8 op]) = u8c14.map (fun op => some (rkArithV op.toNat, [])) := by kernel_rfl
set_option maxHeartbeats 0 in
set_option maxRecDepth 1000000 in
theorem rkArith_15 : u8c15.map (fun op => reckonGC Tryz.prog (guardH noHook) noOrc 100000 300 [] 150 [.int .u8 op]) = u8c15.map (fun op => some (rkArithV op.toNat, [])) := by kernel_rfl
set_option maxHeartbeats 0 in
set_option maxRecDepth 1000000 in
theorem rkArith_16 : u8c16.map (fun op => reckonGC Tryz.prog (guardH noHook) noOrc 100000 300 [] 150 [.int .u8 op]) = u8c16.map (fun op => some (rkArithV op.toNat, [])) := by kernel_rfl
set_option maxHeartbeats 0 in
set_option maxRecDepth 1000000 in
theorem rkArith_17 : u8c17.map (fun op => reckonGC Tryz.prog (guardH noHook) noOrc 100000 300 [] 150 [.int .u8 op]) = u8c17.map (fun op => some (rkArithV op.toNat, [])) := by kernel_rfl
set_option maxHeartbeats 0 in
set_option maxRecDepth 1000000 in
theorem rkArith_18 : u8c18.map (fun op => reckonGC Tryz.prog (guardH noHook) noOrc 100000 300 [] 150 [.int .u8 op]) = u8c18.map (fun op => some (rkArithV op.toNat, [])) := by kernel_rfl
set_option maxHeartbeats 0 in
set_option maxRecDepth 1000000 in
theorem rkArith_19 : u8c19.map (fun op => reckonGC Tryz.prog (guardH noHook) noOrc 100000 300 [] 150 [.int .u8 op]) = u8c19.map (fun op => some (rkArithV op.toNat, [])) := by kernel_rfl
set_option maxHeartbeats 0 in
set_option maxRecDepth 1000000 in
theorem rkArith_20 : u8c20.map (fun op => reckonGC Tryz.prog (guardH noHook) noOrc 100000 300 [] 150 [.int .u8 op]) = u8c20.map (fun op => some (rkArithV op.toNat, [])) := by kernel_rfl
set_option maxHeartbeats 0 in
set_option maxRecDepth 1000000 in
theorem rkArith_21 : u8c21.map (fun op => reckonGC Tryz.prog (guardH noHook) noOrc 100000 300 [] 150 [.int .u8 op]) = u8c21.map (fun op => some (rkArithV op.toNat, [])) := by kernel_rfl
set_option maxHeartbeats 0 in
set_option maxRecDepth 1000000 in
theorem rkArith_22 : u8c22.map (fun op => reckonGC Tryz.prog (guardH noHook) noOrc 100000 300 [] 150 [.int .u8 op]) = u8c22.map (fun op => some (rkArithV op.toNat, [])) := by kernel_rfl
set_option maxHeartbeats 0 in
set_option maxRecDepth 1000000 in
theorem rkArith_23 : u8c23.map (fun op => reckonGC Tryz.prog (guardH noHook) noOrc 100000 300 [] 150 [.int .u8 op]) = u8c23.map (fun op => some (rkArithV op.toNat, [])) := by kernel_rfl
set_option maxHeartbeats 0 in
set_option maxRecDepth 1000000 in
theorem rkArith_24 : u8c24.map (fun op => reckonGC Tryz.prog (guardH noHook) noOrc 100000 300 [] 150 [.int .u8 op]) = u8c24.map (fun op => some (rkArithV op.toNat, [])) := by kernel_rfl
set_option maxHeartbeats 0 in
set_option maxRecDepth 1000000 in
theorem rkArith_25 : u8c25.map (fun op => reckonGC Tryz.prog (guardH noHook) noOrc 100000 300 [] 150 [.int .u8 op]) = u8c25.map (fun op => some (rkArithV op.toNat, [])) := by kernel_rfl
set_option maxHeartbeats 0 in
set_option maxRecDepth 1000000 in
theorem rkArith_26 : u8c26.map (fun op => reckonGC Tryz.prog (guardH noHook) noOrc 100000 300 [] 150 [.int .u8 op]) = u8c26.map (fun op => some (rkArithV op.toNat, [])) := by kernel_rfl
set_option maxHeartbeats 0 in
set_option maxRecDepth 1000000 in
theorem rkArith_27 : u8c27.map (fun op => reckonGC Tryz.prog (guardH noHook) noOrc 100000 300 [] 150 [.int .u8 op]) = u8c27.map (fun op => some (rkArithV op.toNat, [])) := by kernel_rfl
set_option maxHeartbeats 0 in
set_option maxRecDepth 1000000 in
theorem rkArith_28 : u8c28.map (fun op => reckonGC Tryz.prog (guardH noHook) noOrc 100000 300 [] 150 [.int .u8 op]) = u8c28.map (fun op => some (rkArithV op.toNat, [])) := by kernel_rfl
set_option maxHeartbeats 0 in
set_option maxRecDepth 1000000 in
theorem rkArith_29 : u8c29.map (fun op => reckonGC Tryz.prog (guardH noHook) noOrc 100000 300 [] 150 [.int .u8 op]) = u8c29.map (fun op => some (rkArithV op.toNat, [])) := by kernel_rfl
set_option maxHeartbeats 0 in
set_option maxRecDepth 1000000 in
theorem rkArith_30 : u8c30.map (fun op => reckonGC Tryz.prog (guardH noHook) noOrc 100000 300 [] 150 [.int .u8 op]) = u8c30.map (fun op => some (rkArithV op.toNat, [])) := by kernel_rfl
set_option maxHeartbeats 0 in
set_option maxRecDepth 1000000 in
theorem rkArith_31 : u8c31.map (fun op => reckonGC Tryz.prog (guardH noHook) noOrc 100000 300 [] 150 [.int .u8 op]) = u8c31.map (fun op => some (rkArithV op.toNat, [])) := by kernel_rfl
theorem c_rkArith (op : Int) (h : op ∈ u8s) (w : World) : Calls Tryz.prog 150 #[.int .u8 op] w fun e w' => e = .returned (rkArithV op.toNat) ∧ Gr w w' := by
  have hf := List.all_eq_true.1 rkArith_flat op h
  unfold u8s at h
  rcases List.mem_append.1 h with hm | h
  · exact reckonT_ok noNG (noHook_ok _) noOrc 100000 300 [] (cs := []) rfl hf (List.map_inj_left.1 rkArith_0 op hm) rfl w (Laid.nil w)
  rcases List.mem_append.1 h with hm | h
  · exact reckonT_ok noNG (noHook_ok _) noOrc 100000 300 [] (cs := []) rfl hf (List.map_inj_left.1 rkArith_1 op hm) rfl w (Laid.nil w)
  rcases List.mem_append.1 h with hm | h
  · exact reckonT_ok noNG (noHook_ok _) noOrc 100000 300 [] (cs := []) rfl hf (List.map_inj_left.1 rkArith_2 op hm) rfl w (Laid.nil w)
  rcases List.mem_append.1 h with hm | h
  · exact reckonT_ok noNG (noHook_ok _) noOrc 100000 300 [] (cs := []) rfl hf (List.map_inj_left.1 rkArith_3 op hm) rfl w (Laid.nil w)
  rcases List.mem_append.1 h with hm | h
  · exact reckonT_ok noNG (noHook_ok _) noOrc 100000 300 [] (cs := []) rfl hf (List.map_inj_left.1 rkArith_4 op hm) rfl w (Laid.nil w)
  rcases List.mem_append.1 h with hm | h
  · exact reckonT_ok noNG (noHook_ok _) noOrc 100000 300 [] (cs := []) rfl hf (List.map_inj_left.1 rkArith_5 op hm) rfl w (Laid.nil w)
  rcases List.mem_append.1 h with hm | h
  · exact reckonT_ok noNG (noHook_ok _) noOrc 100000 300 [] (cs := []) rfl hf (List.map_inj_left.1 rkArith_6 op hm) rfl w (Laid.nil w)
  rcases List.mem_append.1 h with hm | h
  · exact reckonT_ok noNG (noHook_ok _) noOrc 100000 300 [] (cs := []) rfl hf (List.map_inj_left.1 rkArith_7 op hm) rfl w (Laid.nil w)
  rcases List.mem_append.1 h with hm | h
  · exact reckonT_ok noNG (noHook_ok _) noOrc 100000 300 [] (cs := []) rfl hf (List.map_inj_left.1 rkArith_8 op hm) rfl w (Laid.nil w)
  rcases List.mem_append.1 h with hm | h
  · exact reckonT_ok noNG (noHook_ok _) noOrc 100000 300 [] (cs := []) rfl hf (List.map_inj_left.1 rkArith_9 op hm) rfl w (Laid.nil w)
  rcases List.mem_append.1 h with hm | h
  · exact reckonT_ok noNG (noHook_ok _) noOrc 100000 300 [] (cs := []) rfl hf (List.map_inj_left.1 rkArith_10 op hm) rfl w (Laid.nil w)
  rcases List.mem_append.1 h with hm | h
  · exact reckonT_ok noNG (noHook_ok _) noOrc 100000 300 [] (cs := []) rfl hf (List.map_inj_left.1 rkArith_11 op hm) rfl w (Laid.nil w)
  rcases List.mem_append.1 h with hm | h
  · exact reckonT_ok noNG (noHook_ok _) noOrc 100000 300 [] (cs := []) rfl hf (List.map_inj_left.1 rkArith_12 op hm) rfl w (Laid.nil w)
  rcases List.mem_append.1 h with hm | h
  · exact reckonT_ok noNG (noHook_ok _) noOrc 100000 300 [] (cs := []) rfl hf (List.map_inj_left.1 rkArith_13 op hm) rfl w (Laid.nil w)
  rcases List.mem_append.1 h with hm | h
  · exact reckonT_ok noNG (noHook_ok _) noOrc 100000 300 [] (cs := []) rfl hf (List.map_inj_left.1 rkArith_14 op hm) rfl w (Laid.nil w)
  rcases List.mem_append.1 h with hm | h
  · exact reckonT_ok noNG (noHook_ok _) noOrc 100000 300 [] (cs := []) rfl hf (List.map_inj_left.1 rkArith_15 op hm) rfl w (Laid.nil w)
  rcases List.mem_append.1 h with hm | h
  · exact reckonT_ok noNG (noHook_ok _) noOrc 100000 300 [] (cs := []) rfl hf (List.map_inj_left.1 rkArith_16 op hm) rfl w (Laid.nil w)
  rcases List.mem_append.1 h with hm | h
  · exact reckonT_ok noNG (noHook_ok _) noOrc 100000 300 [] (cs := []) rfl hf (List.map_inj_left.1 rkArith_17 op hm) rfl w (Laid.nil w)
  rcases List.mem_append.1 h with hm | h
  · exact reckonT_ok noNG (noHook_ok _) noOrc 100000 300 [] (cs := []) rfl hf (List.map_inj_left.1 rkArith_18 op hm) rfl w (Laid.nil w)
  rcases List.mem_append.1 h with hm | h
  · exact reckonT_ok noNG (noHook_ok _) noOrc 100000 300 [] (cs := []) rfl hf (List.map_inj_left.1 rkArith_19 op hm) rfl w (Laid.nil w)
  rcases List.mem_append.1 h with hm | h
  · exact reckonT_ok noNG (noHook_ok _) noOrc 100000 300 [] (cs := []) rfl hf (List.map_inj_left.1 rkArith_20 op hm) rfl w (Laid.nil w)
  rcases List.mem_append.1 h with hm | h
  · exact reckonT_ok noNG (noHook_ok _) noOrc 100000 300 [] (cs := []) rfl hf (List.map_inj_left.1 rkArith_21 op hm) rfl w (Laid.nil w)
  rcases List.mem_append.1 h with hm | h
  · exact reckonT_ok noNG (noHook_ok _) noOrc 100000 300 [] (cs := []) rfl hf (List.map_inj_left.1 rkArith_22 op hm) rfl w (Laid.nil w)
  rcases List.mem_append.1 h with hm | h
  · exact reckonT_ok noNG (noHook_ok _) noOrc 100000 300 [] (cs := []) rfl hf (List.map_inj_left.1 rkArith_23 op hm) rfl w (Laid.nil w)
  rcases List.mem_append.1 h with hm | h
  · exact reckonT_ok noNG (noHook_ok _) noOrc 100000 300 [] (cs := []) rfl hf (List.map_inj_left.1 rkArith_24 op hm) rfl w (Laid.nil w)
  rcases List.mem_append.1 h with hm | h
  · exact reckonT_ok noNG (noHook_ok _) noOrc 100000 300 [] (cs := []) rfl hf (List.map_inj_left.1 rkArith_25 op hm) rfl w (Laid.nil w)
  rcases List.mem_append.1 h with hm | h
  · exact reckonT_ok noNG (noHook_ok _) noOrc 100000 300 [] (cs := []) rfl hf (List.map_inj_left.1 rkArith_26 op hm) rfl w (Laid.nil w)
  rcases List.mem_append.1 h with hm | h
  · exact reckonT_ok noNG (noHook_ok _) noOrc 100000 300 [] (cs := []) rfl hf (List.map_inj_left.1 rkArith_27 op hm) rfl w (Laid.nil w)
  rcases List.mem_append.1 h with hm | h
  · exact reckonT_ok noNG (noHook_ok _) noOrc 100000 300 [] (cs := []) rfl hf (List.map_inj_left.1 rkArith_28 op hm) rfl w (Laid.nil w)
  rcases List.mem_append.1 h with hm | h
  · exact reckonT_ok noNG (noHook_ok _) noOrc 100000 300 [] (cs := []) rfl hf (List.map_inj_left.1 rkArith_29 op hm) rfl w (Laid.nil w)
  rcases List.mem_append.1 h with hm | h
  · exact reckonT_ok noNG (noHook_ok _) noOrc 100000 300 [] (cs := []) rfl hf (List.map_inj_left.1 rkArith_30 op hm) rfl w (Laid.nil w)
  · exact reckonT_ok noNG (noHook_ok _) noOrc 100000 300 [] (cs := []) rfl hf (List.map_inj_left.1 rkArith_31 op h) rfl w (Laid.nil w)
def hk_rkArith : Hook := fun f args _ =>
  if Nat.beq f 150 then
    match args with
    | [.int .u8 op] => if u8in op then some (rkArithV op.toNat, []) else none
    | _ => none
  else none
theorem hk_rkArith_ok : HookOk Tryz.prog hk_rkArith := by
  intro f args h v cs hv hc wb k s w H
  unfold hk_rkArith at hv
  split at hv
  · rename_i hf
    obtain rfl := Nat.eq_of_beq_eq_true hf
    split at hv
    · rename_i op
      split at hv
      · rename_i ho
        cases hv
        exact c_rkArith op (u8in_mem ho) w
      · cases hv
    · cases hv
  · cases hv
end Go.Proofs.YthhgfjnnconocaaGreatDoor.Ex
end
section
namespace Go.Proofs.YthhgfjnnconocaaGreatDoor.Ex
open Go Go.RowKit
def rkJumpV (n : Nat) : Value := (bif Nat.ble 128 n then (bif Nat.ble 192 n then (bif Nat.ble 224 n then (bif Nat.ble 240 n then (bif Nat.ble 248 n then (bif Nat.ble 252 n then (bif Nat.ble 254 n then (bif Nat.ble 255 n then (.bool false) else (.bool true)) else (bif Nat.ble 253 n then (.bool true) else (.bool false))) else (.bool false)) else (bif Nat.ble 244 n then (bif Nat.ble 246 n then (bif Nat.ble 247 n then (.bool false) else (.bool true)) else (bif Nat.ble 245 n then (.bool true) else (.bool false))) else (.bool false))) else (bif Nat.ble 232 n then (bif Nat.ble 236 n then (bif Nat.ble 238 n then (bif Nat.ble 239 n then (.bool false) else (.bool true)) else (bif Nat.ble 237 n then (.bool true) else (.bool false))) else (.bool false)) else (bif Nat.ble 228 n then (bif Nat.ble 230 n then (bif Nat.ble 231 n then (.bool false) else (.bool true)) else (bif Nat.ble 229 n then (.bool true) else (.bool false))) else (.bool false)))) else (bif Nat.ble 208 n then (bif Nat.ble 216 n then (bif Nat.ble 220 n then (bif Nat.ble 222 n then (bif Nat.ble 223 n then (.bool false) else (.bool true)) else (bif Nat.ble 221 n then (.bool true) else (.bool false))) else (.bool false)) else (bif Nat.ble 212 n then (bif Nat.ble 214 n then (bif Nat.ble 215 n then (.bool false) else (.bool true)) else (bif Nat.ble 213 n then (.bool true) else (.bool false))) else (.bool false))) else (bif Nat.ble 200 n then (bif Nat.ble 204 n then (bif Nat.ble 206 n then (bif Nat.ble 207 n then (.bool false) else (.bool true)) else (bif Nat.ble 205 n then (.bool true) else (.bool false))) else (.bool false)) else (bif Nat.ble 196 n then (bif Nat.ble 198 n then (bif Nat.ble 199 n then (.bool false) else (.bool true)) else (bif Nat.ble 197 n then (.bool true) else (.bool false))) else (.bool false))))) else (bif Nat.ble 160 n then (bif Nat.ble 176 n then (bif Nat.ble 184 n then (bif Nat.ble 188 n then (bif Nat.ble 190 n then (bif Nat.ble 191 n then (.bool false) else (.bool true)) else (bif Nat.ble 189 n then (.bool true) else (.bool false))) else (.bool false)) else (bif Nat.ble 180 n then (bif Nat.ble 182 n then (bif Nat.ble 183 n then (.bool false) else (.bool true)) else (bif Nat.ble 181 n then (.bool true) else (.bool false))) else (.bool false))) else (bif Nat.ble 168 n then (bif Nat.ble 172 n then (bif Nat.ble 174 n then (bif Nat.ble 175 n then (.bool false) else (.bool true)) else (bif Nat.ble 173 n then (.bool true) else (.bool false))) else (.bool false)) else (bif Nat.ble 164 n then (bif Nat.ble 166 n then (bif Nat.ble 167 n then (.bool false) else (.bool true)) else (bif Nat.ble 165 n then (.bool true) else (.bool false))) else (.bool false)))) else (bif Nat.ble 144 n then (bif Nat.ble 152 n then (bif Nat.ble 156 n then (bif Nat.ble 158 n then (bif Nat.ble 159 n then (.bool false) else (.bool true)) else (bif Nat.ble 157 n then (.bool true) else (.bool false))) else (.bool false)) else (bif Nat.ble 148 n then (bif Nat.ble 150 n then (bif Nat.ble 151 n then (.bool false) else (.bool true)) else (bif Nat.ble 149 n then (.bool true) else (.bool false))) else (.bool false))) else (bif Nat.ble 136 n then (bif Nat.ble 140 n then (bif Nat.ble 142 n then (bif Nat.ble 143 n then (.bool false) else (.bool true)) else (bif Nat.ble 141 n then (.bool true) else (.bool false))) else (.bool false)) else (bif Nat.ble 132 n then (bif Nat.ble 134 n then (bif Nat.ble 135 n then (.bool false) else (.bool true)) else (bif Nat.ble 133 n then (.bool true) else (.bool false))) else (.bool false)))))) else (bif Nat.ble 64 n then (bif Nat.ble 96 n then (bif Nat.ble 112 n then (bif Nat.ble 120 n then (bif Nat.ble 124 n then (bif Nat.ble 126 n then (bif Nat.ble 127 n then (.bool false) else (.bool true)) else (bif Nat.ble 125 n then (.bool true) else (.bool false))) else (.bool false)) else (bif Nat.ble 116 n then (bif Nat.ble 118 n then (bif Nat.ble 119 n then (.bool false) else (.bool true)) else (bif Nat.ble 117 n then (.bool true) else (.bool false))) else (.bool false))) else (bif Nat.ble 104 n then (bif Nat.ble 108 n then (bif Nat.ble 110 n then (bif Nat.ble 111 n then (.bool false) else (.bool true)) else (bif Nat.ble 109 n then (.bool true) else (.bool false))) else (.bool false)) else (bif Nat.ble 100 n then (bif Nat.ble 102 n then (bif Nat.ble 103 n then (.bool false) else (.bool true)) else (bif Nat.ble 101 n then (.bool true) else (.bool false))) else (.bool false)))) else (bif Nat.ble 80 n then (bif Nat.ble 88 n then (bif Nat.ble 92 n then (bif Nat.ble 94 n then (bif Nat.ble 95 n then (.bool false) else (.bool true)) else (bif Nat.ble 93 n then (.bool true) else (.bool false))) else (.bool false)) else (bif Nat.ble 84 n then (bif Nat.ble 86 n then (bif Nat.ble 87 n then (.bool false) else (.bool true)) else (bif Nat.ble 85 n then (.bool true) else (.bool false))) else (.bool false))) else (bif Nat.ble 72 n then (bif Nat.ble 76 n then (bif Nat.ble 78 n then (bif Nat.ble 79 n then (.bool false) else (.bool true)) else (bif Nat.ble 77 n then (.bool true) else (.bool false))) else (.bool false)) else (bif Nat.ble 68 n then (bif Nat.ble 70 n then (bif Nat.ble 71 n then (.bool false) else (.bool true)) else (bif Nat.ble 69 n then (.bool true) else (.bool false))) else (.bool false))))) else (bif Nat.ble 32 n then (bif Nat.ble 48 n then (bif Nat.ble 56 n then (bif Nat.ble 60 n then (bif Nat.ble 62 n then (bif Nat.ble 63 n then (.bool false) else (.bool true)) else (bif Nat.ble 61 n then (.bool true) else (.bool false))) else (.bool false)) else (bif Nat.ble 52 n then (bif Nat.ble 54 n then (bif Nat.ble 55 n then (.bool false) else (.bool true)) else (bif Nat.ble 53 n then (.bool true) else (.bool false))) else (.bool false))) else (bif Nat.ble 40 n then (bif Nat.ble 44 n then (bif Nat.ble 46 n then (bif Nat.ble 47 n then (.bool false) else (.bool true)) else (bif Nat.ble 45 n then (.bool true) else (.bool false))) else (.bool false)) else (bif Nat.ble 36 n then (bif Nat.ble 38 n then (bif Nat.ble 39 n then (.bool false) else (.bool true)) else (bif Nat.ble 37 n then (.bool true) else (.bool false))) else (.bool false)))) else (bif Nat.ble 16 n then (bif Nat.ble 24 n then (bif Nat.ble 28 n then (bif Nat.ble 30 n then (bif Nat.ble 31 n then (.bool false) else (.bool true)) else (bif Nat.ble 29 n then (.bool true) else (.bool false))) else (.bool false)) else (bif Nat.ble 20 n then (bif Nat.ble 22 n then (bif Nat.ble 23 n then (.bool false) else (.bool true)) else (bif Nat.ble 21 n then (.bool true) else (.bool false))) else (.bool false))) else (bif Nat.ble 8 n then (bif Nat.ble 12 n then (bif Nat.ble 14 n then (bif Nat.ble 15 n then (.bool false) else (.bool true)) else (bif Nat.ble 13 n then (.bool true) else (.bool false))) else (.bool false)) else (bif Nat.ble 4 n then (bif Nat.ble 6 n then (bif Nat.ble 7 n then (.bool false) else (.bool true)) else (bif Nat.ble 5 n then (.bool true) else (.bool false))) else (.bool false)))))))
theorem rkJump_flat : u8s.all (fun op => flat (rkJumpV op.toNat)) = true := by kernel_rfl
set_option maxHeartbeats 0 in
set_option maxRecDepth 1000000 in
theorem rkJump_0 : u8c0.map (fun op => reckonGC Tryz.prog (guardH noHook) noOrc 100000 300 [] 151 [.int .u8 op]) = u8c0.map (fun op => some (rkJumpV op.toNat, [])) := by kernel_rfl
set_option maxHeartbeats 0 in
set_option maxRecDepth 1000000 in
theorem rkJump_1 : u8c1.map (fun op => reckonGC Tryz.prog (guardH noHook) noOrc 100000 300 [] 151 [.int .u8 op]) = u8c1.map (fun op => some (rkJumpV op.toNat, [])) := by kernel_rfl
set_option maxHeartbeats 0 in
set_option maxRecDepth 1000000 in
theorem rkJump_2 : u8c2.map (fun op => reckonGC Tryz.prog (guardH noHook) noOrc 100000 300 [] 151 [.int .u8 op]) = u8c2.map (fun op => some (rkJumpV op.toNat, [])) := by kernel_rfl
set_option maxHeartbeats 0 in
set_option maxRecDepth 1000000 in
theorem rkJump_3 : u8c3.map (fun op => reckonGC Tryz.prog (guardH noHook) noOrc 100000 300 [] 151 [.int .u8 op]) = u8c3.map (fun op => some (rkJumpV op.toNat, [])) := by kernel_rfl
set_option maxHeartbeats 0 in
set_option maxRecDepth 1000000 in
theorem rkJump_4 : u8c4.map (fun op => reckonGC Tryz.prog (guardH noHook) noOrc 100000 300 [] 151 [.int .u8 op]) = u8c4.map (fun op => some (rkJumpV op.toNat, [])) := by kernel_rfl
set_option maxHeartbeats 0 in
set_option maxRecDepth 1000000 in
theorem rkJump_5 : u8c5.map (fun op => reckonGC Tryz.prog (guardH noHook) noOrc 100000 300 [] 151 [.int .u8 op]) = u8c5.map (fun op => some (rkJumpV op.toNat, [])) := by kernel_rfl
set_option maxHeartbeats 0 in
set_option maxRecDepth 1000000 in
theorem rkJump_6 : u8c6.map (fun op => reckonGC Tryz.prog (guardH noHook) noOrc 100000 300 [] 151 [.int .u8 op]) = u8c6.map (fun op => some (rkJumpV op.toNat, [])) := by kernel_rfl
set_option maxHeartbeats 0 in
set_option maxRecDepth 1000000 in
theorem rkJump_7 : u8c7.map (fun op => reckonGC Tryz.prog (guardH noHook) noOrc 100000 300 [] 151 [.int .u8 op]) = u8c7.map (fun op => some (rkJumpV op.toNat, [])) := by kernel_rfl
set_option maxHeartbeats 0 in
set_option maxRecDepth 1000000 in
theorem rkJump_8 : u8c8.map (fun op => reckonGC Tryz.prog (guardH noHook) noOrc 100000 300 [] 151 [.int .u8 op]) = u8c8.map (fun op => some (rkJumpV op.toNat, [])) := by kernel_rfl
set_option maxHeartbeats 0 in
set_option maxRecDepth 1000000 in
theorem rkJump_9 : u8c9.map (fun op => reckonGC Tryz.prog (guardH noHook) noOrc 100000 300 [] 151 [.int .u8 op]) = u8c9.map (fun op => some (rkJumpV op.toNat, [])) := by kernel_rfl
set_option maxHeartbeats 0 in
set_option maxRecDepth 1000000 in
theorem rkJump_10 : u8c10.map (fun op => reckonGC Tryz.prog (guardH noHook) noOrc 100000 300 [] 151 [.int .u8 op]) = u8c10.map (fun op => some (rkJumpV op.toNat, [])) := by kernel_rfl
set_option maxHeartbeats 0 in
set_option maxRecDepth 1000000 in
theorem rkJump_11 : u8c11.map (fun op => reckonGC Tryz.prog (guardH noHook) noOrc 100000 300 [] 151 [.int .u8 op]) = u8c11.map (fun op => some (rkJumpV op.toNat, [])) := by kernel_rfl
set_option maxHeartbeats 0 in
set_option maxRecDepth 1000000 in
theorem rkJump_12 : u8c12.map (fun op => reckonGC Tryz.prog (guardH noHook) noOrc 100000 300 [] 151 [.int .u8 op]) = u8c12.map (fun op => some (rkJumpV op.toNat, [])) := by kernel_rfl
set_option maxHeartbeats 0 in
set_option maxRecDepth 1000000 in
theorem rkJump_13 : u8c13.map (fun op => reckonGC Tryz.prog (guardH noHook) noOrc 100000 300 [] 151 [.int .u8 op]) = u8c13.map (fun op => some (rkJumpV op.toNat, [])) := by kernel_rfl
set_option maxHeartbeats 0 in
set_option maxRecDepth 1000000 in
theorem rkJump_14 : u8c14.map (fun op => reckonGC Tryz.prog (guardH noHook) noOrc 100000 300 [] 151 [.int .u8 op]) = u8c14.map (fun op => some (rkJumpV op.toNat, [])) := by kernel_rfl
set_option maxHeartbeats 0 in
set_option maxRecDepth 1000000 in
theorem rkJump_15 : u8c15.map (fun op => reckonGC Tryz.prog (guardH noHook) noOrc 100000 300 [] 151 [.int .u8 op]) = u8c15.map (fun op => some (rkJumpV op.toNat, [])) := by kernel_rfl
set_option maxHeartbeats 0 in
set_option maxRecDepth 1000000 in
theorem rkJump_16 : u8c16.map (fun op => reckonGC Tryz.prog (guardH noHook) noOrc 100000 300 [] 151 [.int .u8 op]) = u8c16.map (fun op => some (rkJumpV op.toNat, [])) := by kernel_rfl
set_option maxHeartbeats 0 in
set_option maxRecDepth 1000000 in
theorem rkJump_17 : u8c17.map (fun op => reckonGC Tryz.prog (guardH noHook) noOrc 100000 300 [] 151 [.int .u8 op]) = u8c17.map (fun op => some (rkJumpV op.toNat, [])) := by kernel_rfl
set_option maxHeartbeats 0 in
set_option maxRecDepth 1000000 in
theorem rkJump_18 : u8c18.map (fun op => reckonGC Tryz.prog (guardH noHook) noOrc 100000 300 [] 151 [.int .u8 op]) = u8c18.map (fun op => some (rkJumpV op.toNat, [])) := by kernel_rfl
set_option maxHeartbeats 0 in
set_option maxRecDepth 1000000 in
theorem rkJump_19 : u8c19.map (fun op => reckonGC Tryz.prog (guardH noHook) noOrc 100000 300 [] 151 [.int .u8 op]) = u8c19.map (fun op => some (rkJumpV op.toNat, [])) := by kernel_rfl
set_option maxHeartbeats 0 in
set_option maxRecDepth 1000000 in
theorem rkJump_20 : u8c20.map (fun op => reckonGC Tryz.prog (guardH noHook) noOrc 100000 300 [] 151 [.int .u8 op]) = u8c20.map (fun op => some (rkJumpV op.toNat, [])) := by kernel_rfl
set_option maxHeartbeats 0 in
set_option maxRecDepth 1000000 in
theorem rkJump_21 : u8c21.map (fun op => reckonGC Tryz.prog (guardH noHook) noOrc 100000 300 [] 151 [.int .u8 op]) = u8c21.map (fun op => some (rkJumpV op.toNat, [])) := by kernel_rfl
set_option maxHeartbeats 0 in
set_option maxRecDepth 1000000 in
theorem rkJump_22 : u8c22.map (fun op => reckonGC Tryz.prog (guardH noHook) noOrc 100000 300 [] 151 [.int .u8 op]) = u8c22.map (fun op => some (rkJumpV op.toNat, [])) := by kernel_rfl
set_option maxHeartbeats 0 in
set_option maxRecDepth 1000000 in
theorem rkJump_23 : u8c23.map (fun op => reckonGC Tryz.prog (guardH noHook) noOrc 100000 300 [] 151 [.int .u8 op]) = u8c23.map (fun op => some (rkJumpV op.toNat, [])) := by kernel_rfl
set_option maxHeartbeats 0 in
set_option maxRecDepth 1000000 in
theorem rkJump_24 : u8c24.map (fun op => reckonGC Tryz.prog (guardH noHook) noOrc 100000 300 [] 151 [.int .u8 op]) = u8c24.map (fun op => some (rkJumpV op.toNat, [])) := by kernel_rfl
set_option maxHeartbeats 0 in
set_option maxRecDepth 1000000 in
theorem rkJump_25 : u8c25.map (fun op => reckonGC Tryz.prog (guardH noHook) noOrc 100000 300 [] 151 [.int .u8 op]) = u8c25.map (fun op => some (rkJumpV op.toNat, [])) := by kernel_rfl
set_option maxHeartbeats 0 in
set_option maxRecDepth 1000000 in
theorem rkJump_26 : u8c26.map (fun op => reckonGC Tryz.prog (guardH noHook) noOrc 100000 300 [] 151 [.int .u8 op]) = u8c26.map (fun op => some (rkJumpV op.toNat, [])) := by kernel_rfl
set_option maxHeartbeats 0 in
set_option maxRecDepth 1000000 in
theorem rkJump_27 : u8c27.map (fun op => reckonGC Tryz.prog (guardH noHook) noOrc 100000 300 [] 151 [.int .u8 op]) = u8c27.map (fun op => some (rkJumpV op.toNat, [])) := by kernel_rfl
set_option maxHeartbeats 0 in
set_option maxRecDepth 1000000 in
theorem rkJump_28 : u8c28.map (fun op => reckonGC Tryz.prog (guardH noHook) noOrc 100000 300 [] 151 [.int .u8 op]) = u8c28.map (fun op => some (rkJumpV op.toNat, [])) := by kernel_rfl
set_option maxHeartbeats 0 in
set_option maxRecDepth 1000000 in
theorem rkJump_29 : u8c29.map (fun op => reckonGC Tryz.prog (guardH noHook) noOrc 100000 300 [] 151 [.int .u8 op]) = u8c29.map (fun op => some (rkJumpV op.toNat, [])) := by kernel_rfl
set_option maxHeartbeats 0 in
set_option maxRecDepth 1000000 in
theorem rkJump_30 : u8c30.map (fun op => reckonGC Tryz.prog (guardH noHook) noOrc 100000 300 [] 151 [.int .u8 op]) = u8c30.map (fun op => some (rkJumpV op.toNat, [])) := by kernel_rfl
set_option maxHeartbeats 0 in
set_option maxRecDepth 1000000 in
theorem rkJump_31 : u8c31.map (fun op => reckonGC Tryz.prog (guardH noHook) noOrc 100000 300 [] 151 [.int .u8 op]) = u8c31.map (fun op => some (rkJumpV op.toNat, [])) := by kernel_rfl
theorem c_rkJump (op : Int) (h : op ∈ u8s) (w : World) : Calls Tryz.prog 151 #[.int .u8 op] w fun e w' => e = .returned (rkJumpV op.toNat) ∧ Gr w w' := by
  have hf := List.all_eq_true.1 rkJump_flat op h
  unfold u8s at h
  rcases List.mem_append.1 h with hm | h
  · exact reckonT_ok noNG (noHook_ok _) noOrc 100000 300 [] (cs := []) rfl hf (List.map_inj_left.1 rkJump_0 op hm) rfl w (Laid.nil w)
  rcases List.mem_append.1 h with hm | h
  · exact reckonT_ok noNG (noHook_ok _) noOrc 100000 300 [] (cs := []) rfl hf (List.map_inj_left.1 rkJump_1 op hm) rfl w (Laid.nil w)
  rcases List.mem_append.1 h with hm | h
  · exact reckonT_ok noNG (noHook_ok _) noOrc 100000 300 [] (cs := []) rfl hf (List.map_inj_left.1 rkJump_2 op hm) rfl w (Laid.nil w)
  rcases List.mem_append.1 h with hm | h
  · exact reckonT_ok noNG (noHook_ok _) noOrc 100000 300 [] (cs := []) rfl hf (List.map_inj_left.1 rkJump_3 op hm) rfl w (Laid.nil w)
  rcases List.mem_append.1 h with hm | h
  · exact reckonT_ok noNG (noHook_ok _) noOrc 100000 300 [] (cs := []) rfl hf (List.map_inj_left.1 rkJump_4 op hm) rfl w (Laid.nil w)
  rcases List.mem_append.1 h with hm | h
  · exact reckonT_ok noNG (noHook_ok _) noOrc 100000 300 [] (cs := []) rfl hf (List.map_inj_left.1 rkJump_5 op hm) rfl w (Laid.nil w)
  rcases List.mem_append.1 h with hm | h
  · exact reckonT_ok noNG (noHook_ok _) noOrc 100000 300 [] (cs := []) rfl hf (List.map_inj_left.1 rkJump_6 op hm) rfl w (Laid.nil w)
  rcases List.mem_append.1 h with hm | h
  · exact reckonT_ok noNG (noHook_ok _) noOrc 100000 300 [] (cs := []) rfl hf (List.map_inj_left.1 rkJump_7 op hm) rfl w (Laid.nil w)
  rcases List.mem_append.1 h with hm | h
  · exact reckonT_ok noNG (noHook_ok _) noOrc 100000 300 [] (cs := []) rfl hf (List.map_inj_left.1 rkJump_8 op hm) rfl w (Laid.nil w)
  rcases List.mem_append.1 h with hm | h
  · exact reckonT_ok noNG (noHook_ok _) noOrc 100000 300 [] (cs := []) rfl hf (List.map_inj_left.1 rkJump_9 op hm) rfl w (Laid.nil w)
  rcases List.mem_append.1 h with hm | h
  · exact reckonT_ok noNG (noHook_ok _) noOrc 100000 300 [] (cs := []) rfl hf (List.map_inj_left.1 rkJump_10 op hm) rfl w (Laid.nil w)
  rcases List.mem_append.1 h with hm | h
  · exact reckonT_ok noNG (noHook_ok _) noOrc 100000 300 [] (cs := []) rfl hf (List.map_inj_left.1 rkJump_11 op hm) rfl w (Laid.nil w)
  rcases List.mem_append.1 h with hm | h
  · exact reckonT_ok noNG (noHook_ok _) noOrc 100000 300 [] (cs := []) rfl hf (List.map_inj_left.1 rkJump_12 op hm) rfl w (Laid.nil w)
  rcases List.mem_append.1 h with hm | h
  · exact reckonT_ok noNG (noHook_ok _) noOrc 100000 300 [] (cs := []) rfl hf (List.map_inj_left.1 rkJump_13 op hm) rfl w (Laid.nil w)
  rcases List.mem_append.1 h with hm | h
  · exact reckonT_ok noNG (noHook_ok _) noOrc 100000 300 [] (cs := []) rfl hf (List.map_inj_left.1 rkJump_14 op hm) rfl w (Laid.nil w)
  rcases List.mem_append.1 h with hm | h
  · exact reckonT_ok noNG (noHook_ok _) noOrc 100000 300 [] (cs := []) rfl hf (List.map_inj_left.1 rkJump_15 op hm) rfl w (Laid.nil w)
  rcases List.mem_append.1 h with hm | h
  · exact reckonT_ok noNG (noHook_ok _) noOrc 100000 300 [] (cs := []) rfl hf (List.map_inj_left.1 rkJump_16 op hm) rfl w (Laid.nil w)
  rcases List.mem_append.1 h with hm | h
  · exact reckonT_ok noNG (noHook_ok _) noOrc 100000 300 [] (cs := []) rfl hf (List.map_inj_left.1 rkJump_17 op hm) rfl w (Laid.nil w)
  rcases List.mem_append.1 h with hm | h
  · exact reckonT_ok noNG (noHook_ok _) noOrc 100000 300 [] (cs := []) rfl hf (List.map_inj_left.1 rkJump_18 op hm) rfl w (Laid.nil w)
  rcases List.mem_append.1 h with hm | h
  · exact reckonT_ok noNG (noHook_ok _) noOrc 100000 300 [] (cs := []) rfl hf (List.map_inj_left.1 rkJump_19 op hm) rfl w (Laid.nil w)
  rcases List.mem_append.1 h with hm | h
  · exact reckonT_ok noNG (noHook_ok _) noOrc 100000 300 [] (cs := []) rfl hf (List.map_inj_left.1 rkJump_20 op hm) rfl w (Laid.nil w)
  rcases List.mem_append.1 h with hm | h
  · exact reckonT_ok noNG (noHook_ok _) noOrc 100000 300 [] (cs := []) rfl hf (List.map_inj_left.1 rkJump_21 op hm) rfl w (Laid.nil w)
  rcases List.mem_append.1 h with hm | h
  · exact reckonT_ok noNG (noHook_ok _) noOrc 100000 300 [] (cs := []) rfl hf (List.map_inj_left.1 rkJump_22 op hm) rfl w (Laid.nil w)
  rcases List.mem_append.1 h with hm | h
  · exact reckonT_ok noNG (noHook_ok _) noOrc 100000 300 [] (cs := []) rfl hf (List.map_inj_left.1 rkJump_23 op hm) rfl w (Laid.nil w)
  rcases List.mem_append.1 h with hm | h
  · exact reckonT_ok noNG (noHook_ok _) noOrc 100000 300 [] (cs := []) rfl hf (List.map_inj_left.1 rkJump_24 op hm) rfl w (Laid.nil w)
  rcases List.mem_append.1 h with hm | h
  · exact reckonT_ok noNG (noHook_ok _) noOrc 100000 300 [] (cs := []) rfl hf (List.map_inj_left.1 rkJump_25 op hm) rfl w (Laid.nil w)
  rcases List.mem_append.1 h with hm | h
  · exact reckonT_ok noNG (noHook_ok _) noOrc 100000 300 [] (cs := []) rfl hf (List.map_inj_left.1 rkJump_26 op hm) rfl w (Laid.nil w)
  rcases List.mem_append.1 h with hm | h
  · exact reckonT_ok noNG (noHook_ok _) noOrc 100000 300 [] (cs := []) rfl hf (List.map_inj_left.1 rkJump_27 op hm) rfl w (Laid.nil w)
  rcases List.mem_append.1 h with hm | h
  · exact reckonT_ok noNG (noHook_ok _) noOrc 100000 300 [] (cs := []) rfl hf (List.map_inj_left.1 rkJump_28 op hm) rfl w (Laid.nil w)
  rcases List.mem_append.1 h with hm | h
  · exact reckonT_ok noNG (noHook_ok _) noOrc 100000 300 [] (cs := []) rfl hf (List.map_inj_left.1 rkJump_29 op hm) rfl w (Laid.nil w)
  rcases List.mem_append.1 h with hm | h
  · exact reckonT_ok noNG (noHook_ok _) noOrc 100000 300 [] (cs := []) rfl hf (List.map_inj_left.1 rkJump_30 op hm) rfl w (Laid.nil w)
  · exact reckonT_ok noNG (noHook_ok _) noOrc 100000 300 [] (cs := []) rfl hf (List.map_inj_left.1 rkJump_31 op h) rfl w (Laid.nil w)
def hk_rkJump : Hook := fun f args _ =>
  if Nat.beq f 151 then
    match args with
    | [.int .u8 op] => if u8in op then some (rkJumpV op.toNat, []) else none
    | _ => none
  else none
theorem hk_rkJump_ok : HookOk Tryz.prog hk_rkJump := by
  intro f args h v cs hv hc wb k s w H
  unfold hk_rkJump at hv
  split at hv
  · rename_i hf
    obtain rfl := Nat.eq_of_beq_eq_true hf
    split at hv
    · rename_i op
      split at hv
      · rename_i ho
        cases hv
        exact c_rkJump op (u8in_mem ho) w
      · cases hv
    · cases hv
  · cases hv
end Go.Proofs.YthhgfjnnconocaaGreatDoor.Ex
end
section
namespace Go.Proofs.YthhgfjnnconocaaGreatDoor.Ex
open Go Go.RowKit
def rkCodeV (n : Nat) : Value := (bif Nat.ble 128 n then (bif Nat.ble 192 n then (bif Nat.ble 224 n then (bif Nat.ble 240 n then (.int .i64 240) else (.int .i64 224)) else (bif Nat.ble 208 n then (.int .i64 208) else (.int .i64 192))) else (bif Nat.ble 160 n then (bif Nat.ble 176 n then (.int .i64 176) else (.int .i64 160)) else (bif Nat.ble 144 n then (.int .i64 144) else (.int .i64 128)))) else (bif Nat.ble 64 n then (bif Nat.ble 96 n then (bif Nat.ble 112 n then (.int .i64 112) else (.int .i64 96)) else (bif Nat.ble 80 n then (.int .i64 80) else (.int .i64 64))) else (bif Nat.ble 32 n then (bif Nat.ble 48 n then (.int .i64 48) else (.int .i64 32)) else (bif Nat.ble 16 n then (.int .i64 16) else (.int .i64 0)))))
theorem rkCode_flat : u8s.all (fun op => flat (rkCodeV op.toNat)) = true := by kernel_rfl
set_option maxHeartbeats 0 in
set_option maxRecDepth 1000000 in
theorem rkCode_0 : u8c0.map (fun op => reckonGC Tryz.prog (guardH noHook) noOrc 100000 300 [] 153 [.int .u8 op]) = u8c0.map (fun op => some (rkCodeV op.toNat, [])) := by kernel_rfl
set_option maxHeartbeats 0 in
set_option maxRecDepth 1000000 in
theorem rkCode_1 : u8c1.map (fun op => reckonGC Tryz.prog (guardH noHook) noOrc 100000 300 [] 153 [.int .u8 op]) = u8c1.map (fun op => some (rkCodeV op.toNat, [])) := by kernel_rfl
set_option maxHeartbeats 0 in
set_option maxRecDepth 1000000 in
theorem rkCode_2 : u8c2.map (fun op => reckonGC Tryz.prog (guardH noHook) noOrc 100000 300 [] 153 [.int .u8 op]) = u8c2.map (fun op => some (rkCodeV op.toNat, [])) := by kernel_rfl
set_option maxHeartbeats 0 in
set_option maxRecDepth 1000000 in
theorem rkCode_3 : u8c3.map (fun op => reckonGC Tryz.prog (guardH noHook) noOrc 100000 300 [] 153 [.int .u8 op]) = u8c3.map (fun op => some (rkCodeV op.toNat, [])) := by kernel_rfl
set_option maxHeartbeats 0 in
set_option maxRecDepth 1000000 in
theorem rkCode_4 : u8c4.map (fun op => reckonGC Tryz.prog (guardH noHook) noOrc 100000 300 [] 153 [.int .u8 op]) = u8c4.map (fun op => some (rkCodeV op.toNat, [])) := by kernel_rfl
set_option maxHeartbeats 0 in
set_option maxRecDepth 1000000 in
theorem rkCode_5 : u8c5.map (fun op => reckonGC Tryz.prog (guardH noHook) noOrc 100000 300 [] 153 [.int .u8 op]) = u8c5.map (fun op => some (rkCodeV op.toNat, [])) := by kernel_rfl
set_option maxHeartbeats 0 in
set_option maxRecDepth 1000000 in
theorem rkCode_6 : u8c6.map (fun op => reckonGC Tryz.prog (guardH noHook) noOrc 100000 300 [] 153 [.int .u8 op]) = u8c6.map (fun op => some (rkCodeV op.toNat, [])) := by kernel_rfl
set_option maxHeartbeats 0 in
set_option maxRecDepth 1000000 in
theorem rkCode_7 : u8c7.map (fun op => reckonGC Tryz.prog (guardH noHook) noOrc 100000 300 [] 153 [.int .u8 op]) = u8c7.map (fun op => some (rkCodeV op.toNat, [])) := by kernel_rfl
set_option maxHeartbeats 0 in
set_option maxRecDepth 1000000 in
theorem rkCode_8 : u8c8.map (fun op => reckonGC Tryz.prog (guardH noHook) noOrc 100000 300 [] 153 [.int .u8 op]) = u8c8.map (fun op => some (rkCodeV op.toNat, [])) := by kernel_rfl
set_option maxHeartbeats 0 in
set_option maxRecDepth 1000000 in
theorem rkCode_9 : u8c9.map (fun op => reckonGC Tryz.prog (guardH noHook) noOrc 100000 300 [] 153 [.int .u8 op]) = u8c9.map (fun op => some (rkCodeV op.toNat, [])) := by kernel_rfl
set_option maxHeartbeats 0 in
set_option maxRecDepth 1000000 in
theorem rkCode_10 : u8c10.map (fun op => reckonGC Tryz.prog (guardH noHook) noOrc 100000 300 [] 153 [.int .u8 op]) = u8c10.map (fun op => some (rkCodeV op.toNat, [])) := by kernel_rfl
set_option maxHeartbeats 0 in
set_option maxRecDepth 1000000 in
theorem rkCode_11 : u8c11.map (fun op => reckonGC Tryz.prog (guardH noHook) noOrc 100000 300 [] 153 [.int .u8 op]) = u8c11.map (fun op => some (rkCodeV op.toNat, [])) := by kernel_rfl
set_option maxHeartbeats 0 in
set_option maxRecDepth 1000000 in
theorem rkCode_12 : u8c12.map (fun op => reckonGC Tryz.prog (guardH noHook) noOrc 100000 300 [] 153 [.int .u8 op]) = u8c12.map (fun op => some (rkCodeV op.toNat, [])) := by kernel_rfl
set_option maxHeartbeats 0 in
set_option maxRecDepth 1000000 in
theorem rkCode_13 : u8c13.map (fun op => reckonGC Tryz.prog (guardH noHook) noOrc 100000 300 [] 153 [.int .u8 op]) = u8c13.map (fun op => some (rkCodeV op.toNat, [])) := by kernel_rfl
set_option maxHeartbeats 0 in
set_option maxRecDepth 1000000 in
theorem rkCode_14 : u8c14.map (fun op => reckonGC Tryz.prog (guardH noHook) noOrc 100000 300 [] 153 [.int .u8 op]) = u8c14.map (fun op => some (rkCodeV op.toNat, [])) := by kernel_rfl
set_option maxHeartbeats 0 in
set_option maxRecDepth 1000000 in
theorem rkCode_15 : u8c15.map (fun op => reckonGC Tryz.prog (guardH noHook) noOrc 100000 300 [] 153 [.int .u8 op]) = u8c15.map (fun op => some (rkCodeV op.toNat, [])) := by kernel_rfl
set_option maxHeartbeats 0 in
set_option maxRecDepth 1000000 in
theorem rkCode_16 : u8c16.map (fun op => reckonGC Tryz.prog (guardH noHook) noOrc 100000 300 [] 153 [.int .u8 op]) = u8c16.map (fun op => some (rkCodeV op.toNat, [])) := by kernel_rfl
set_option maxHeartbeats 0 in
set_option maxRecDepth 1000000 in
theorem rkCode_17 : u8c17.map (fun op => reckonGC Tryz.prog (guardH noHook) noOrc 100000 300 [] 153 [.int .u8 op]) = u8c17.map (fun op => some (rkCodeV op.toNat, [])) := by kernel_rfl
set_option maxHeartbeats 0 in
set_option maxRecDepth 1000000 in
theorem rkCode_18 : u8c18.map (fun op => reckonGC Tryz.prog (guardH noHook) noOrc 100000 300 [] 153 [.int .u8 op]) = u8c18.map (fun op => some (rkCodeV op.toNat, [])) := by kernel_rfl
set_option maxHeartbeats 0 in
set_option maxRecDepth 1000000 in
theorem rkCode_19 : u8c19.map (fun op => reckonGC Tryz.prog (guardH noHook) noOrc 100000 300 [] 153 [.int .u8 op]) = u8c19.map (fun op => some (rkCodeV op.toNat, [])) := by kernel_rfl
set_option maxHeartbeats 0 in
set_option maxRecDepth 1000000 in
theorem rkCode_20 : u8c20.map (fun op => reckonGC Tryz.prog (guardH noHook) noOrc 100000 300 [] 153 [.int .u8 op]) = u8c20.map (fun op => some (rkCodeV op.toNat, [])) := by kernel_rfl
set_option maxHeartbeats 0 in
set_option maxRecDepth 1000000 in
theorem rkCode_21 : u8c21.map (fun op => reckonGC Tryz.prog (guardH noHook) noOrc 100000 300 [] 153 [.int .u8 op]) = u8c21.map (fun op => some (rkCodeV op.toNat, [])) := by kernel_rfl
set_option maxHeartbeats 0 in
set_option maxRecDepth 1000000 in
theorem rkCode_22 : u8c22.map (fun op => reckonGC Tryz.prog (guardH noHook) noOrc 100000 300 [] 153 [.int .u8 op]) = u8c22.map (fun op => some (rkCodeV op.toNat, [])) := by kernel_rfl
set_option maxHeartbeats 0 in
set_option maxRecDepth 1000000 in
theorem rkCode_23 : u8c23.map (fun op => reckonGC Tryz.prog (guardH noHook) noOrc 100000 300 [] 153 [.int .u8 op]) = u8c23.map (fun op => some (rkCodeV op.toNat, [])) := by kernel_rfl
set_option maxHeartbeats 0 in
set_option maxRecDepth 1000000 in
theorem rkCode_24 : u8c24.map (fun op => reckonGC Tryz.prog (guardH noHook) noOrc 100000 300 [] 153 [.int .u8 op]) = u8c24.map (fun op => some (rkCodeV op.toNat, [])) := by kernel_rfl
set_option maxHeartbeats 0 in
set_option maxRecDepth 1000000 in
theorem rkCode_25 : u8c25.map (fun op => reckonGC Tryz.prog (guardH noHook) noOrc 100000 300 [] 153 [.int .u8 op]) = u8c25.map (fun op => some (rkCodeV op.toNat, [])) := by kernel_rfl
set_option maxHeartbeats 0 in
set_option maxRecDepth 1000000 in
theorem rkCode_26 : u8c26.map (fun op => reckonGC Tryz.prog (guardH noHook) noOrc 100000 300 [] 153 [.int .u8 op]) = u8c26.map (fun op => some (rkCodeV op.toNat, [])) := by kernel_rfl
set_option maxHeartbeats 0 in
set_option maxRecDepth 1000000 in
theorem rkCode_27 : u8c27.map (fun op => reckonGC Tryz.prog (guardH noHook) noOrc 100000 300 [] 153 [.int .u8 op]) = u8c27.map (fun op => some (rkCodeV op.toNat, [])) := by kernel_rfl
set_option maxHeartbeats 0 in
set_option maxRecDepth 1000000 in
theorem rkCode_28 : u8c28.map (fun op => reckonGC Tryz.prog (guardH noHook) noOrc 100000 300 [] 153 [.int .u8 op]) = u8c28.map (fun op => some (rkCodeV op.toNat, [])) := by kernel_rfl
set_option maxHeartbeats 0 in
set_option maxRecDepth 1000000 in
theorem rkCode_29 : u8c29.map (fun op => reckonGC Tryz.prog (guardH noHook) noOrc 100000 300 [] 153 [.int .u8 op]) = u8c29.map (fun op => some (rkCodeV op.toNat, [])) := by kernel_rfl
set_option maxHeartbeats 0 in
set_option maxRecDepth 1000000 in
theorem rkCode_30 : u8c30.map (fun op => reckonGC Tryz.prog (guardH noHook) noOrc 100000 300 [] 153 [.int .u8 op]) = u8c30.map (fun op => some (rkCodeV op.toNat, [])) := by kernel_rfl
set_option maxHeartbeats 0 in
set_option maxRecDepth 1000000 in
theorem rkCode_31 : u8c31.map (fun op => reckonGC Tryz.prog (guardH noHook) noOrc 100000 300 [] 153 [.int .u8 op]) = u8c31.map (fun op => some (rkCodeV op.toNat, [])) := by kernel_rfl
theorem c_rkCode (op : Int) (h : op ∈ u8s) (w : World) : Calls Tryz.prog 153 #[.int .u8 op] w fun e w' => e = .returned (rkCodeV op.toNat) ∧ Gr w w' := by
  have hf := List.all_eq_true.1 rkCode_flat op h
  unfold u8s at h
  rcases List.mem_append.1 h with hm | h
  · exact reckonT_ok noNG (noHook_ok _) noOrc 100000 300 [] (cs := []) rfl hf (List.map_inj_left.1 rkCode_0 op hm) rfl w (Laid.nil w)
  rcases List.mem_append.1 h with hm | h
  · exact reckonT_ok noNG (noHook_ok _) noOrc 100000 300 [] (cs := []) rfl hf (List.map_inj_left.1 rkCode_1 op hm) rfl w (Laid.nil w)
  rcases List.mem_append.1 h with hm | h
  · exact reckonT_ok noNG (noHook_ok _) noOrc 100000 300 [] (cs := []) rfl hf (List.map_inj_left.1 rkCode_2 op hm) rfl w (Laid.nil w)
  rcases List.mem_append.1 h with hm | h
  · exact reckonT_ok noNG (noHook_ok _) noOrc 100000 300 [] (cs := []) rfl hf (List.map_inj_left.1 rkCode_3 op hm) rfl w (Laid.nil w)
  rcases List.mem_append.1 h with hm | h
  · exact reckonT_ok noNG (noHook_ok _) noOrc 100000 300 [] (cs := []) rfl hf (List.map_inj_left.1 rkCode_4 op hm) rfl w (Laid.nil w)
  rcases List.mem_append.1 h with hm | h
  · exact reckonT_ok noNG (noHook_ok _) noOrc 100000 300 [] (cs := []) rfl hf (List.map_inj_left.1 rkCode_5 op hm) rfl w (Laid.nil w)
  rcases List.mem_append.1 h with hm | h
  · exact reckonT_ok noNG (noHook_ok _) noOrc 100000 300 [] (cs := []) rfl hf (List.map_inj_left.1 rkCode_6 op hm) rfl w (Laid.nil w)
  rcases List.mem_append.1 h with hm | h
  · exact reckonT_ok noNG (noHook_ok _) noOrc 100000 300 [] (cs := []) rfl hf (List.map_inj_left.1 rkCode_7 op hm) rfl w (Laid.nil w)
  rcases List.mem_append.1 h with hm | h
  · exact reckonT_ok noNG (noHook_ok _) noOrc 100000 300 [] (cs := []) rfl hf (List.map_inj_left.1 rkCode_8 op hm) rfl w (Laid.nil w)
  rcases List.mem_append.1 h with hm | h
  · exact reckonT_ok noNG (noHook_ok _) noOrc 100000 300 [] (cs := []) rfl hf (List.map_inj_left.1 rkCode_9 op hm) rfl w (Laid.nil w)
  rcases List.mem_append.1 h with hm | h
  · exact reckonT_ok noNG (noHook_ok _) noOrc 100000 300 [] (cs := []) rfl hf (List.map_inj_left.1 rkCode_10 op hm) rfl w (Laid.nil w)
  rcases List.mem_append.1 h with hm | h
  · exact reckonT_ok noNG (noHook_ok _) noOrc 100000 300 [] (cs := []) rfl hf (List.map_inj_left.1 rkCode_11 op hm) rfl w (Laid.nil w)
  rcases List.mem_append.1 h with hm | h
  · exact reckonT_ok noNG (noHook_ok _) noOrc 100000 300 [] (cs := []) rfl hf (List.map_inj_left.1 rkCode_12 op hm) rfl w (Laid.nil w)
  rcases List.mem_append.1 h with hm | h
  · exact reckonT_ok noNG (noHook_ok _) noOrc 100000 300 [] (cs := []) rfl hf (List.map_inj_left.1 rkCode_13 op hm) rfl w (Laid.nil w)
  rcases List.mem_append.1 h with hm | h
  · exact reckonT_ok noNG (noHook_ok _) noOrc 100000 300 [] (cs := []) rfl hf (List.map_inj_left.1 rkCode_14 op hm) rfl w (Laid.nil w)
  rcases List.mem_append.1 h with hm | h
  · exact reckonT_ok noNG (noHook_ok _) noOrc 100000 300 [] (cs := []) rfl hf (List.map_inj_left.1 rkCode_15 op hm) rfl w (Laid.nil w)
  rcases List.mem_append.1 h with hm | h
  · exact reckonT_ok noNG (noHook_ok _) noOrc 100000 300 [] (cs := []) rfl hf (List.map_inj_left.1 rkCode_16 op hm) rfl w (Laid.nil w)
  rcases List.mem_append.1 h with hm | h
  · exact reckonT_ok noNG (noHook_ok _) noOrc 100000 300 [] (cs := []) rfl hf (List.map_inj_left.1 rkCode_17 op hm) rfl w (Laid.nil w)
  rcases List.mem_append.1 h with hm | h
  · exact reckonT_ok noNG (noHook_ok _) noOrc 100000 300 [] (cs := []) rfl hf (List.map_inj_left.1 rkCode_18 op hm) rfl w (Laid.nil w)
  rcases List.mem_append.1 h with hm | h
  · exact reckonT_ok noNG (noHook_ok _) noOrc 100000 300 [] (cs := []) rfl hf (List.map_inj_left.1 rkCode_19 op hm) rfl w (Laid.nil w)
  rcases List.mem_append.1 h with hm | h
  · exact reckonT_ok noNG (noHook_ok _) noOrc 100000 300 [] (cs := []) rfl hf (List.map_inj_left.1 rkCode_20 op hm) rfl w (Laid.nil w)
  rcases List.mem_append.1 h with hm | h
  · exact reckonT_ok noNG (noHook_ok _) noOrc 100000 300 [] (cs := []) rfl hf (List.map_inj_left.1 rkCode_21 op hm) rfl w (Laid.nil w)
  rcases List.mem_append.1 h with hm | h
  · exact reckonT_ok noNG (noHook_ok _) noOrc 100000 300 [] (cs := []) rfl hf (List.map_inj_left.1 rkCode_22 op hm) rfl w (Laid.nil w)
  rcases List.mem_append.1 h with hm | h
  · exact reckonT_ok noNG (noHook_ok _) noOrc 100000 300 [] (cs := []) rfl hf (List.map_inj_left.1 rkCode_23 op hm) rfl w (Laid.nil w)
  rcases List.mem_append.1 h with hm | h
  · exact reckonT_ok noNG (noHook_ok _) noOrc 100000 300 [] (cs := []) rfl hf (List.map_inj_left.1 rkCode_24 op hm) rfl w (Laid.nil w)
  rcases List.mem_append.1 h with hm | h
  · exact reckonT_ok noNG (noHook_ok _) noOrc 100000 300 [] (cs := []) rfl hf (List.map_inj_left.1 rkCode_25 op hm) rfl w (Laid.nil w)
  rcases List.mem_append.1 h with hm | h
  · exact reckonT_ok noNG (noHook_ok _) noOrc 100000 300 [] (cs := []) rfl hf (List.map_inj_left.1 rkCode_26 op hm) rfl w (Laid.nil w)
  rcases List.mem_append.1 h with hm | h
  · exact reckonT_ok noNG (noHook_ok _) noOrc 100000 300 [] (cs := []) rfl hf (List.map_inj_left.1 rkCode_27 op hm) rfl w (Laid.nil w)
  rcases List.mem_append.1 h with hm | h
  · exact reckonT_ok noNG (noHook_ok _) noOrc 100000 300 [] (cs := []) rfl hf (List.map_inj_left.1 rkCode_28 op hm) rfl w (Laid.nil w)
  rcases List.mem_append.1 h with hm | h
  · exact reckonT_ok noNG (noHook_ok _) noOrc 100000 300 [] (cs := []) rfl hf (List.map_inj_left.1 rkCode_29 op hm) rfl w (Laid.nil w)
  rcases List.mem_append.1 h with hm | h
  · exact reckonT_ok noNG (noHook_ok _) noOrc 100000 300 [] (cs := []) rfl hf (List.map_inj_left.1 rkCode_30 op hm) rfl w (Laid.nil w)
  · exact reckonT_ok noNG (noHook_ok _) noOrc 100000 300 [] (cs := []) rfl hf (List.map_inj_left.1 rkCode_31 op h) rfl w (Laid.nil w)
def hk_rkCode : Hook := fun f args _ =>
  if Nat.beq f 153 then
    match args with
    | [.int .u8 op] => if u8in op then some (rkCodeV op.toNat, []) else none
    | _ => none
  else none
theorem hk_rkCode_ok : HookOk Tryz.prog hk_rkCode := by
  intro f args h v cs hv hc wb k s w H
  unfold hk_rkCode at hv
  split at hv
  · rename_i hf
    obtain rfl := Nat.eq_of_beq_eq_true hf
    split at hv
    · rename_i op
      split at hv
      · rename_i ho
        cases hv
        exact c_rkCode op (u8in_mem ho) w
      · cases hv
    · cases hv
  · cases hv
end Go.Proofs.YthhgfjnnconocaaGreatDoor.Ex
end
