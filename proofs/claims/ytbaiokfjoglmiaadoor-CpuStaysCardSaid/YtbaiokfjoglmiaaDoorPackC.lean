/-
  Lemmas for the laws of this seat, part C: Ex13, Ex14, LaidArr, Plain, Flat, NoNG, NumsMath, AluMath, Nums, Memo, ExI.
-/
import Derived.Test.YtbaiokfjoglmiaaDoorPackB
import Derived.OpenShut
import Derived.MakeChecks
import Derived.Deep.Fields
import Derived.ChangeSame
import Derived.ProofKit
import Derived.WalkKit
import Derived.ShutString
import Derived.Test.YtbaiokfjoglmiaaDoorProg
import Derived.Handy
import Derived.Lib.SlBytesRow
section
namespace Go.Proofs.YtbaiokfjoglmiaaDoor.Ex
open Go Go.RowKit

/-! The same values: what numbers must be the same for it. -/
def optA (a b : Option Addr) : Bool := decide (a = b)
def veq0 : Value → Value → Bool
  | .bool a, .bool b => a == b
  | .string a, .string b => a.data.toList == b.data.toList
  | .pointer a, .pointer b => optA a b
  | .slice a l c, .slice b m d => optA a b && l == m && c == d
  | .map a, .map b => a == b
  | .nilFunc, .nilFunc => true
  | .nilIface, .nilIface => true
  | _, _ => false
theorem arr_ext {α : Type} {a b : Array α} (h : a.toList = b.toList) : a = b := by cases a; cases b; simp at h; rw [h]
theorem veq0_ok {x y : Value} (h : veq0 x y = true) : x = y := by
  unfold veq0 at h
  split at h
  case h_2 a b => rw [ByteArray.ext (arr_ext (eq_of_beq h))]
  all_goals simp_all [optA]
def Hold (c : Cs) : Prop := ∀ x ∈ c, x.1 = x.2
theorem Hold.app {a b : Cs} (h : Hold (a ++ b)) : Hold a ∧ Hold b := ⟨fun x hx => h x (List.mem_append_left _ hx), fun x hx => h x (List.mem_append_right _ hx)⟩
def cmpL (p : Value → Value → Option Cs) : List Value → List Value → Option Cs
  | [], [] => some []
  | x :: xs, y :: ys =>
    match p x y with
    | some a =>
      match cmpL p xs ys with
      | some b => some (a ++ b)
      | none => none
    | none => none
  | _, _ => none
theorem cmpL_ok {p : Value → Value → Option Cs} (hp : ∀ x y c, p x y = some c → Hold c → x = y) : ∀ {xs ys : List Value} {c : Cs}, cmpL p xs ys = some c → Hold c → xs = ys
  | [], [], _, _, _ => rfl
  | x :: xs, y :: ys, c, h, hc => by
    simp only [cmpL] at h
    split at h
    · rename_i a ha
      split at h
      · rename_i b hb
        cases h
        obtain ⟨h1, h2⟩ := hc.app
        rw [hp x y a ha h1, cmpL_ok hp hb h2]
      · cases h
    · cases h
  | [], _ :: _, _, h, _ => by simp [cmpL] at h
  | _ :: _, [], _, h, _ => by simp [cmpL] at h
theorem veqc {x y : Value} {c : Cs} (h : (if veq0 x y then some [] else none) = some c) : x = y := by
  split at h
  · rename_i hv; exact veq0_ok hv
  · cases h
def cmpF : Nat → Value → Value → Option Cs
  | 0, x, y => if veq0 x y then some [] else none
  | n + 1, x, y =>
    match x, y with
    | .int k a, .int j b => if k = j then some [(a, b)] else none
    | .agg a, .agg b => cmpL (cmpF n) a.toList b.toList
    | .tuple a, .tuple b => cmpL (cmpF n) a.toList b.toList
    | .iface t a, .iface u b => if t = u then cmpF n a b else none
    | .func (.func f) a c, .func (.func g) b d =>
      if f == g then
        match cmpL (cmpF n) a.toList b.toList, cmpL (cmpF n) c.toList d.toList with
        | some x, some y => some (x ++ y)
        | _, _ => none
      else none
    | x, y => if veq0 x y then some [] else none
theorem cmpF_ok : ∀ (n : Nat) (x y : Value) (c : Cs), cmpF n x y = some c → Hold c → x = y
  | 0, x, y, c, h, _ => veqc h
  | n + 1, x, y, c, h, hc => by
    have ih := cmpF_ok n
    unfold cmpF at h
    split at h
    · split at h
      · rename_i k a j b hk
        cases h
        rw [hk, show a = b from hc (a, b) (by simp)]
      · cases h
    · rw [arr_ext (cmpL_ok ih h hc)]
    · rw [arr_ext (cmpL_ok ih h hc)]
    · split at h
      · rename_i hu
        rw [hu, ih _ _ _ h hc]
      · cases h
    · split at h
      · rename_i hfg
        split at h
        · rename_i h1 h2
          cases h
          simp only [beq_iff_eq] at hfg
          rw [hfg, arr_ext (cmpL_ok ih h1 hc.app.1), arr_ext (cmpL_ok ih h2 hc.app.2)]
        · cases h
      · cases h
    · exact veqc h
def cmp0 : Value → Value → Option Cs := cmpF 6
theorem cmp0_ok (x y : Value) (c : Cs) (h : cmp0 x y = some c) (hc : Hold c) : x = y := cmpF_ok 6 x y c h hc
def cmpV : Value → Value → Option Cs := cmpF 6
theorem cmpV_ok (x y : Value) (c : Cs) (h : cmpV x y = some c) (hc : Hold c) : x = y := cmpF_ok 6 x y c h hc
def cmpH : List AO → List AO → Option Cs
  | [], [] => some []
  | x :: xs, y :: ys =>
    if x.live == y.live && x.es == y.es then
      match cmpL cmp0 x.cs y.cs with
      | some a =>
        match cmpH xs ys with
        | some b => some (a ++ b)
        | none => none
      | none => none
    else none
  | _, _ => none
theorem cmpH_ok : ∀ {xs ys : List AO} {c : Cs}, cmpH xs ys = some c → Hold c → xs = ys
  | [], [], _, _, _ => rfl
  | x :: xs, y :: ys, c, h, hc => by
    simp only [cmpH] at h
    split at h
    · rename_i hle
      split at h
      · rename_i a ha
        split at h
        · rename_i b hb
          cases h
          obtain ⟨h1, h2⟩ := hc.app
          simp only [Bool.and_eq_true, beq_iff_eq] at hle
          obtain ⟨l1, e1, c1⟩ := x
          obtain ⟨l2, e2, c2⟩ := y
          simp only at hle ha
          rw [hle.1, hle.2, cmpL_ok cmp0_ok ha h1, cmpH_ok hb h2]
        · cases h
      · cases h
    · cases h
  | [], _ :: _, _, h, _ => by simp [cmpH] at h
  | _ :: _, [], _, h, _ => by simp [cmpH] at h

def stepE (P : Program) (rec : Rec) (ops : Array Oper) (i : Nat) (x : St) : Option St :=
  match ops[i]? with
  | none => none
  | some o => if wantedA ops x.t o then operA P (aOp P) rec o x else some ⟨putA x.t o.dst undef, x.h, x.m⟩
/-- What must be so that all others leave what the first one leaves. -/
def allE (f : Nat → Option St) (y : St) : List Nat → Option Cs
  | [] => some []
  | j :: js =>
    match f j with
    | some z =>
      if z.m.1 == y.m.1 then
        match cmpL cmpV z.t y.t, cmpH z.h y.h, allE f y js with
        | some a, some b, some cs => some (z.m.2 ++ (a ++ (b ++ cs)))
        | _, _, _ => none
      else none
    | none => none
/-- An operation that looks at no memory. -/
def pureStep (P : Program) (ops : Array Oper) (i : Nat) (x : St) : Option St :=
  match ops[i]? with
  | none => none
  | some o =>
    if wantedA ops x.t o then
      if o.op.operands.toList.all (okX x.h) then
        match sOp P (lookA x.t) o [] with
        | some (.value v, _, _) => some ⟨putA x.t o.dst v, x.h, x.m⟩
        | _ => none
      else none
    else some ⟨putA x.t o.dst undef, x.h, x.m⟩
def firstPure (P : Program) (ops : Array Oper) (listed : Array Bool) (x : St) : List Nat → Option (Nat × St)
  | [] => none
  | i :: is =>
    if Region.free .any ops listed i then
      match pureStep P ops i x with
      | some x' => some (i, x')
      | none => firstPure P ops listed x is
    else firstPure P ops listed x is
def explore (P : Program) (rec : Rec) (ops : Array Oper) : Nat → Array Bool → St → Option St
  | 0, listed, x => if (Region.ready .any ops listed).isEmpty then some x else none
  | f + 1, listed, x =>
    match Region.ready .any ops listed with
    | [] => some x
    | i :: is =>
      match firstPure P ops listed x (i :: is) with
      | some (j, x') => explore P rec ops f (listed.setIfInBounds j true) x'
      | none =>
        let go := fun j =>
          match stepE P rec ops j x with
          | some x' => explore P rec ops f (listed.setIfInBounds j true) x'
          | none => none
        match go i with
        | some y =>
          match allE go y is with
          | some cs => some ⟨y.t, y.h, (y.m.1, y.m.2 ++ cs)⟩
          | none => none
        | none => none
theorem allE_ok {f : Nat → Option St} {y : St} : ∀ {l : List Nat} {cs : Cs}, allE f y l = some cs → Hold cs → ∀ j ∈ l, ∃ z, f j = some z ∧ z.m.1 = y.m.1 ∧ Hold z.m.2 ∧ z.t = y.t ∧ z.h = y.h
  | [], _, _, _, j, hj => by cases hj
  | i :: l, cs, h, hc, j, hj => by
    simp only [allE] at h
    split at h
    · rename_i z hz
      split at h
      · rename_i hm
        split at h
        · rename_i a b cs' ha hb hcs
          cases h
          simp only [beq_iff_eq] at hm
          obtain ⟨h1, h2⟩ := hc.app
          obtain ⟨h2, h3⟩ := h2.app
          obtain ⟨h3, h4⟩ := h3.app
          rcases List.mem_cons.1 hj with e | e
          · exact ⟨z, by rw [e]; exact hz, hm, h1, cmpL_ok cmpV_ok ha h2, cmpH_ok hb h3⟩
          · exact allE_ok hcs h4 j e
        · cases h
      · cases h
    · cases h
section
variable {P : Program} {rec : Rec} {ops : Array Oper}
theorem stepE_low {i : Nat} {x x' : St} (hr : stepE P rec ops i x = some x') {k : Nat} (hm : Bnd k x'.m) : Bnd k x.m := by
  unfold stepE at hr
  split at hr
  · cases hr
  · split at hr
    · exact operA_low hr hm
    · cases hr; exact hm
theorem stepE_ok (hrec : RecOk P rec) {i : Nat} {x x' : St} (hr : stepE P rec ops i x = some x') {wb : World} {k : Nat} {s : Ren} {a : Act} {w : World} (hm : Bnd k x'.m) (H : SR wb k s x a w)
    {K : Act → World → Prop} {Q : Exit → Act → World → Prop} (hn : ∀ s' a' w', Le s s' → SR wb k s' x' a' w' → K a' w') : wpOp P ops Q i K a w := by
  unfold stepE at hr
  unfold wpOp
  split at hr
  · cases hr
  · rename_i o ho
    rw [ho]
    simp only [wanted_ok H.t]
    split at hr
    · rename_i hw
      rw [if_pos hw]
      exact .inl (operA_ok (aOp_ok P hrec.2.2.1) hrec hr hm H hn)
    · rename_i hw
      rw [if_neg hw]
      cases hr
      exact hn s _ w (Le.refl s) ⟨put_ok H.t o.dst (.same rfl), by cases hd : o.dst <;> simp [Act.put, H.d], H.h⟩
theorem firstPure_spec {listed : Array Bool} {x : St} : ∀ {l : List Nat} {j : Nat} {x' : St}, firstPure P ops listed x l = some (j, x') → j ∈ l ∧ Region.free .any ops listed j = true ∧ pureStep P ops j x = some x'
  | [], j, x', h => by simp [firstPure] at h
  | i :: is, j, x', h => by
    simp only [firstPure] at h
    split at h
    · rename_i hf
      split at h
      · rename_i y hy
        cases h
        exact ⟨by simp, hf, hy⟩
      · obtain ⟨h1, h2, h3⟩ := firstPure_spec h
        exact ⟨by simp [h1], h2, h3⟩
    · obtain ⟨h1, h2, h3⟩ := firstPure_spec h
      exact ⟨by simp [h1], h2, h3⟩
theorem pureStep_m {i : Nat} {x x' : St} (hr : pureStep P ops i x = some x') : x'.m = x.m := by
  unfold pureStep at hr
  split at hr
  · cases hr
  · split at hr
    · split at hr
      · split at hr
        · cases hr; rfl
        · cases hr
      · cases hr
    · cases hr; rfl
theorem pureStep_ok (hng : NoNG P) {i : Nat} {x x' : St} (hr : pureStep P ops i x = some x') {wb : World} {k : Nat} {s : Ren} {a : Act} {w : World} (H : SR wb k s x a w) :
    ∃ o v, ops[i]? = some o ∧ Yields P ops o v a ∧ SR wb k s x' (a.put o.dst v) w := by
  unfold pureStep at hr
  split at hr
  · cases hr
  · rename_i o ho
    split at hr
    · rename_i hw
      split at hr
      · rename_i hok
        have hρ : ∀ y ∈ o.op.operands, VR s (lookA x.t y) (a.eval y) := fun y hy => eval_ok H.t H.h.glob (List.all_eq_true.1 hok y (by simpa using hy))
        split at hr
        · rename_i v x1 x2 hs
          cases hr
          have hall : ∀ w, Okay0 P s [] w (execOp a.eval o) (.value v, x1, x2) := fun w => sOp_ok P hng s [] w _ _ o _ (fun j p hj => by simp at hj) hρ hs
          obtain ⟨n', e1, e2, _⟩ := hall w
          cases n' <;> simp only [NR] at e2
          rename_i v'
          -- the value is the same in each world
          refine ⟨o, v', ho, .inl ⟨by rw [wanted_ok H.t]; exact hw, fun w2 => ?_⟩, ⟨put_ok H.t o.dst e2, by cases hd : o.dst <;> simp [Act.put, H.d], H.h⟩⟩
          obtain ⟨n2, g1, g2, _⟩ := hall w2
          cases n2 <;> simp only [NR] at g2
          rw [g1, VR.det g2 e2]
        · cases hr
      · cases hr
    · rename_i hw
      cases hr
      exact ⟨o, undef, ho, .inr ⟨by rw [wanted_ok H.t]; simpa using hw, rfl⟩, ⟨put_ok H.t o.dst (.same rfl), by cases hd : o.dst <;> simp [Act.put, H.d], H.h⟩⟩
theorem explore_low {k : Nat} : ∀ (f : Nat) (listed : Array Bool) (x y : St), explore P rec ops f listed x = some y → Bnd k y.m → Bnd k x.m
  | 0, listed, x, y, hr, hm => by
    simp only [explore] at hr
    split at hr
    · cases hr; exact hm
    · cases hr
  | f + 1, listed, x, y, hr, hm => by
    simp only [explore] at hr
    split at hr
    · cases hr; exact hm
    · rename_i i is _
      split at hr
      · rename_i j x' hp
        rw [← pureStep_m (firstPure_spec hp).2.2]
        exact explore_low f _ x' y hr hm
      · split at hr
        · rename_i z hz
          split at hr
          · rename_i cs hcs
            cases hr
            have hm' : Bnd k z.m := ⟨hm.1, fun c hc => hm.2 c (List.mem_append_left _ hc)⟩
            split at hz
            · rename_i x' hx'
              exact stepE_low hx' (explore_low f _ x' _ hz hm')
            · cases hz
          · cases hr
        · cases hr
theorem explore_ok (hrec : RecOk P rec) (hsel : Region.noSelect ops = true) {wb : World} {k : Nat} {Q : Exit → Act → World → Prop} (hQp : ∀ c a w, ¬ Q (.panic c) a w) : ∀ (f : Nat) (listed : Array Bool) (x y : St), explore P rec ops f listed x = some y → Bnd k y.m → ∀ (s : Ren) (a : Act) (w : World), SR wb k s x a w →
    (∀ s' a' w', Le s s' → SR wb k s' y a' w' → Q .normal a' w') → wpAny P .any ops Q f listed a w
  | 0, listed, x, y, hr, hm, s, a, w, H, hQ => by
    simp only [explore] at hr
    split at hr
    · rename_i he
      cases hr
      exact ⟨by simpa using he, hQ s a w (Le.refl s) H⟩
    · cases hr
  | f + 1, listed, x, y, hr, hm, s, a, w, H, hQ => by
    simp only [explore] at hr
    split at hr
    · rename_i he
      cases hr
      refine ⟨fun _ => hQ s a w (Le.refl s) H, fun i hi => ?_⟩
      rw [he] at hi
      cases hi
    · rename_i i is he
      split at hr
      · rename_i j x' hp
        obtain ⟨h1, h2, h3⟩ := firstPure_spec hp
        obtain ⟨o, v, ho, hy, H'⟩ := pureStep_ok hrec.2.2.1 h3 H
        refine wpAny_take ho hsel h2 (by rw [he]; simpa using h1) (fun c a w h => absurd h (hQp c _ w)) hy ?_
        exact explore_ok hrec hsel hQp f _ x' y hr hm s _ w H' hQ
      split at hr
      · rename_i z hz
        split at hr
        · rename_i cs hall
          cases hr
          refine ⟨fun h0 => (by rw [he] at h0; cases h0), fun j hj => ?_⟩
          have hgo : ∃ y', (match stepE P rec ops j x with
              | some x' => explore P rec ops f (listed.setIfInBounds j true) x'
              | none => none) = some y' ∧ Bnd k y'.m ∧ y'.t = z.t ∧ y'.h = z.h := by
            rw [he] at hj
            rcases List.mem_cons.1 hj with e | e
            · exact ⟨z, by rw [e]; exact hz, ⟨hm.1, fun c hc => hm.2 c (List.mem_append_left _ hc)⟩, rfl, rfl⟩
            · obtain ⟨z', g1, g2, g3, g4, g5⟩ := allE_ok hall (fun c hc => hm.2 c (List.mem_append_right _ hc)) j e
              exact ⟨z', g1, ⟨by rw [g2]; exact hm.1, g3⟩, g4, g5⟩
          obtain ⟨y', hgo, hm', ht', hh'⟩ := hgo
          split at hgo
          · rename_i x' hx'
            refine stepE_ok hrec hx' (explore_low f _ x' y' hgo hm') H fun s' a' w' hle H' => ?_
            refine explore_ok hrec hsel hQp f (listed.setIfInBounds j true) x' y' hgo hm' s' a' w' H' fun s'' a'' w'' hle' H'' => hQ s'' a'' w'' (hle.trans hle') ⟨by rw [← ht']; exact H''.t, H''.d, by rw [← hh']; exact H''.h⟩
          · cases hgo
        · cases hr
      · cases hr
end

/-- What stands behind the head's end waits for it. -/
def backB (ops : Array Oper) (n : Nat) : Bool := (List.range ops.size).all fun t => decide (t ≤ n) || (List.range t).any fun j => decide (n ≤ j) && Region.waitsFor .any ops t j
def tailX (ops : Array Oper) (n : Nat) (base : Array Bool) : Bool := decide (n < ops.size) && sinkL ops n base && backB ops n
/-- A drawn region by its head, and by all orders of what stands behind it. -/
def drawX (P : Program) : DrawFn := fun rec ops x =>
  match headRun P rec ops x.h ops.toList 0 x.t [] with
  | (n, t, l, es) =>
    if P.follows .mixedOrders && Region.noSelect ops && decide (n ≤ ops.size) && depsB ops n && memB ops n es && tailX ops n (baseOf ops n es) then
      match lexHeap x.h.length es x.h.length (x.h ++ List.replicate l.length dead) with
      | some h => explore P rec ops (ops.size - n) (lexMask ops n) ⟨t, h, low x.m (headM es)⟩
      | none => none
    else none
theorem drawX_low (P : Program) : DrawLow (drawX P) := by
  intro rec ops x x' hr k hm
  unfold drawX at hr
  split at hr
  split at hr
  · split at hr
    · exact (bnd_low (explore_low _ _ _ _ hr hm)).1
    · cases hr
  · cases hr
section
variable {P : Program} {rec : Rec} {ops : Array Oper} {n : Nat} {t0 t' : List Value} {h0 l' : List AO} {es : List HE} {T : Nat → List Value} {E : Nat → HE} {N : Nat → List AO}
theorem drawX_ok (P : Program) : DrawOk P (drawX P) := by
  intro rec hrec ops x x' hr wb k s id a w hm HS
  unfold drawX at hr
  cases hh : headRun P rec ops x.h ops.toList 0 x.t [] with
  | mk n tl =>
    obtain ⟨t, l, es⟩ := tl
    rw [hh] at hr
    simp only at hr
    split at hr
    · rename_i hc
      split at hr
      rotate_left
      · cases hr
      rename_i hN hlex
      simp only [Bool.and_eq_true, decide_eq_true_eq] at hc
      obtain ⟨⟨⟨⟨⟨hmix, hsel⟩, hnl⟩, hdp⟩, hmem⟩, htl⟩ := hc
      obtain ⟨T, E, N, S⟩ := headRun_spec hrec.2.2.2 _ _ _ _ _ _ _ _ hh
      have hcs : Bnd k (headM es) := (bnd_low (explore_low _ _ _ _ hr hm)).2
      refine wp_region_any hmix ?_
      have H0 : HR wb k s x.h w.drew := HS.h.drew
      have hlf : MH n x.h E N (fun _ => true) hN (fun j => if j < x.h.length then s j else none) := by
        refine lexHeap_ok S hmem n 0 _ (by omega) ?_ (by simpa [S.l0] using hlex)
        rw [show (fun j => decide (j < 0)) = fun _ => false by funext j; simp, ← S.ln]
        exact mh_start S fun i hi => if_neg (by omega)
      have J : Mid ops n x.t x.h E N wb k s (Array.replicate ops.size false) a w.drew := by
        have e : (fun i => (Array.replicate ops.size false).getD i false) = fun _ => false := by funext i; exact getD_replicate_false _ _
        refine ⟨s, x.t, _, Le.refl s, fun _ _ => rfl, HS.t, HS.d, H0.pad (N n).length, fun _ => H0, ?_, ?_⟩
        · rw [e]; exact mt_start
        · rw [e]; exact mh_start S H0.dom
      have inv : HeadInv .any ops n (Array.replicate ops.size false) :=
        ⟨by simp, fun j _ _ hl => (by rw [getD_replicate_false] at hl; cases hl), fun t _ h2 => getD_in (by simpa using h2) (getD_replicate_false _ _)⟩
      have hleft : left n (Array.replicate ops.size false) = n := by
        unfold left
        rw [List.filter_eq_self.2 fun i _ => by rw [getD_replicate_false]; rfl]
        simp
      have hsc : n < ops.size → sinkL ops n (baseOf ops n es) = true ∧ ∀ t, n < t → t < ops.size → ∃ j, n ≤ j ∧ j < ops.size ∧ Region.waitsFor .any ops t j = true := by
        intro hlt
        unfold tailX at htl
        simp only [Bool.and_eq_true, decide_eq_true_eq] at htl
        refine ⟨htl.1.2, fun t ht htl2 => ?_⟩
        have h1 := List.all_eq_true.1 htl.2 t (List.mem_range.2 htl2)
        simp only [Bool.or_eq_true, decide_eq_true_eq] at h1
        rcases h1 with h1 | h1
        · omega
        · obtain ⟨j, hj, hj2⟩ := List.any_eq_true.1 h1
          simp only [Bool.and_eq_true, decide_eq_true_eq] at hj2
          exact ⟨j, hj2.1, by have := List.mem_range.1 hj; omega, hj2.2⟩
      have A := head_any S hdp hrec hmem hcs hnl hsc (wb := wb) (s0 := s) HS.h.kle (Q := Post wb k s x' .normal) (g := ops.size - n) (fun listed a' w' inv' hall J' => ?_)
      · have e2 : left n (Array.replicate ops.size false) + (ops.size - n) = ops.size := by omega
        have fin : wpAny P .any ops (Post wb k s x' .normal) (left n (Array.replicate ops.size false) + (ops.size - n)) (Array.replicate ops.size false) a w.drew := by
          by_cases hb0 : (n == ops.size || Region.sinkB .any ops n) = true
          · have e : baseOf ops n es = Array.replicate ops.size false := by unfold baseOf; rw [if_pos hb0]
            rw [e] at A
            exact A _ _ a w.drew inv (fun i hi => hi) rfl J
          · have e : baseOf ops n es = prepL ops es (List.range n) (Array.replicate ops.size false) := by unfold baseOf; rw [if_neg hb0]
            rw [e] at A
            exact prep_ok hrec.2.2.1 hrec.2.2.2 S hdp hsel hcs (Q := Post wb k s x' .normal) (fun c a w h => by cases h.1) (List.range n) _ a (fun i hi => List.mem_range.1 hi) inv J fun a' inv' J' => A _ _ a' w.drew inv' (fun i hi => hi) rfl J'
        rwa [e2] at fin
      · obtain ⟨s', t2, h2, hle, _, ht, hdf, H, _, M, MM⟩ := J'
        obtain rfl := mt_full S hdp M hall
        obtain rfl := mh_same S MM hlf hall fun _ _ => rfl
        have hQ : ∀ s'' a'' w'', Le s' s'' → SR wb k s'' x' a'' w'' → Post wb k s x' .normal .normal a'' w'' := fun s'' a'' w'' hle' hsr => ⟨rfl, s'', hle.trans hle', hsr⟩
        have hmask : listed = lexMask ops n := by
          apply Array.ext_getElem?
          intro i
          have e0 : (lexMask ops n)[i]? = (List.replicate n true ++ List.replicate (ops.size - n) false)[i]? := by
            unfold lexMask
            simp
          rw [e0]
          rcases Nat.lt_or_ge i n with hi | hi
          · have := hall i hi
            have hisz : i < listed.size := by rw [inv'.size]; omega
            rw [List.getElem?_append_left (by simpa using hi), List.getElem?_replicate, if_pos hi]
            rw [Array.getElem?_eq_getElem hisz]
            simpa [hisz] using this
          · rw [List.getElem?_append_right (by simpa using hi), List.getElem?_replicate]
            simp only [List.length_replicate]
            by_cases hlt : i < ops.size
            · have := inv'.tail i hi hlt
              have hisz : i < listed.size := by rw [inv'.size]; omega
              rw [if_pos (by omega), Array.getElem?_eq_getElem hisz]
              simpa [hisz] using this
            · rw [if_neg (by omega), Array.getElem?_eq_none (by rw [inv'.size]; omega)]
        rw [hmask]
        exact explore_ok hrec hsel (fun c a w h => by cases h.1) (ops.size - n) (lexMask ops n) _ x' hr hm s' a' w' ⟨ht, hdf, H⟩ hQ
    · cases hr

end
/-- What only reckons, and is waited for by nothing up to the first one behind the head: it may come whenever it is ready. -/
def floatAt (ops : Array Oper) (n : Nat) (es : List HE) (i : Nat) : Bool :=
  pureAt es i && Region.free .any ops (lexMask ops i) i && !((List.range (n + 1)).any fun j => decide (i < j) && Region.waitsFor .any ops j i)
def sinkF (ops : Array Oper) (n : Nat) (es : List HE) : Bool :=
  (List.range n).all fun i => floatAt ops n es i || (List.range (n + 1)).any fun j => decide (i < j) && Region.waitsFor .any ops j i && (Nat.beq j n || !floatAt ops n es j)
def tailY (ops : Array Oper) (n : Nat) (es : List HE) : Bool := decide (n < ops.size) && sinkF ops n es && backB ops n
/-- The same as drawX, where some that only reckon stand in the head and nothing waits for them. -/
def drawY (P : Program) : DrawFn := fun rec ops x =>
  match headRun P rec ops x.h ops.toList 0 x.t [] with
  | (n, t, l, es) =>
    if P.follows .mixedOrders && Region.noSelect ops && decide (n ≤ ops.size) && depsB ops n && memB ops n es && tailY ops n es then
      match lexHeap x.h.length es x.h.length (x.h ++ List.replicate l.length dead) with
      | some h => explore P rec ops (ops.size - n) (lexMask ops n) ⟨t, h, low x.m (headM es)⟩
      | none => none
    else none
theorem drawY_low (P : Program) : DrawLow (drawY P) := by
  intro rec ops x x' hr k hm
  unfold drawY at hr
  split at hr
  split at hr
  · split at hr
    · exact (bnd_low (explore_low _ _ _ _ hr hm)).1
    · cases hr
  · cases hr
section
variable {P : Program} {rec : Rec} {ops : Array Oper} {n : Nat} {t0 t' : List Value} {h0 l' : List AO} {es : List HE} {T : Nat → List Value} {E : Nat → HE} {N : Nat → List AO}
theorem free_lex {listed : Array Bool} {i : Nat} (hi : i ≤ ops.size) (hb : ∀ j, j < i → listed.getD j false = true) (h : Region.free .any ops (lexMask ops i) i = true) : Region.free .any ops listed i = true := by
  unfold Region.free at h ⊢
  split at h
  · cases h
  · rename_i oi ho
    refine List.all_eq_true.2 fun j hj => ?_
    have h1 := List.all_eq_true.1 h j hj
    have hlt := List.mem_range.1 hj
    by_cases hji : j < i
    · have h2 := hb j hji
      have h3 : listed.getD j true = true := by
        rw [Array.getD_eq_getD_getElem?] at h2 ⊢
        cases hq : listed[j]? with
        | none => rw [hq] at h2; cases h2
        | some b => rw [hq] at h2; exact h2
      rw [h3]; simp
    · have e : (lexMask ops i).getD j true = false := by
        rw [Array.getD_eq_getD_getElem?]
        have e0 : (lexMask ops i)[j]? = (List.replicate i true ++ List.replicate (ops.size - i) false)[j]? := by
          unfold lexMask
          simp
        rw [e0, List.getElem?_append_right (by simp; omega), List.getElem?_replicate, if_pos (by simp; omega)]
        rfl
      rw [e, Bool.or_false] at h1
      rw [Bool.or_assoc]
      simp only [Bool.or_eq_true] at h1 ⊢
      rcases h1 with h1 | h1
      · exact .inl h1
      · exact .inr (.inr h1)
theorem free_mono {listed : Array Bool} {i : Nat} (h : Region.free .any ops (Array.replicate ops.size false) i = true) : Region.free .any ops listed i = true := by
  unfold Region.free at h ⊢
  split at h
  · cases h
  · rename_i oi ho
    refine List.all_eq_true.2 fun j hj => ?_
    have h1 := List.all_eq_true.1 h j hj
    have hlt := List.mem_range.1 hj
    have e : (Array.replicate ops.size false).getD j true = false := getD_in (by simpa using hlt) (getD_replicate_false _ _)
    rw [e, Bool.or_false] at h1
    rw [Bool.or_assoc]
    simp only [Bool.or_eq_true] at h1 ⊢
    rcases h1 with h1 | h1
    · exact .inl h1
    · exact .inr (.inr h1)
theorem tail_waitsF (F : Nat → Bool) (hs : ∀ i, i < n → F i = true ∨ ∃ j, i < j ∧ j ≤ n ∧ Region.waitsFor .any ops j i = true ∧ (j = n ∨ F j = false)) (hc : ∀ t, n < t → t < ops.size → ∃ j, n ≤ j ∧ j < ops.size ∧ Region.waitsFor .any ops t j = true) (hn : n < ops.size)
    {listed : Array Bool} (inv : HeadInv .any ops n listed) : ∀ (d i : Nat), n - i = d → i < n → F i = false → listed.getD i true = false → ∀ t, n ≤ t → t ∉ Region.ready .any ops listed := by
  intro d
  induction d using Nat.strongRecOn with
  | _ d ih =>
    intro i hd hi hFi hun t ht hr
    obtain ⟨_, ot, hot, hall⟩ := mem_ready.1 hr
    have htlt : t < ops.size := (Array.getElem?_eq_some_iff.1 hot).1
    by_cases htn : t = n
    · subst htn
      rcases hs i hi with h1 | ⟨j, hj1, hj2, hj3, hj4⟩
      · rw [hFi] at h1; cases h1
      obtain ⟨oj, hoj, e, he, hb', hon⟩ := Region.waitsFor_spec hj3
      by_cases hjt : j = t
      · subst hjt
        have : oj = ot := Option.some.inj (hoj.symm.trans hot)
        subst this
        have h2 := hall e he hb'
        rw [hon, getD_both hun] at h2
        cases h2
      · cases hl : listed.getD j false with
        | true =>
          have h2 := inv.closed j oj hoj hl e he hb'
          rw [hon, getD_both hun] at h2
          cases h2
        | false =>
          have hjs : j < listed.size := by rw [inv.size]; omega
          rcases hj4 with h4 | h4
          · exact hjt h4
          · exact ih (t - j) (by omega) j rfl (by omega) h4 (getD_in hjs hl) t (Nat.le_refl _) hr
    · obtain ⟨j, hj1, hj2, h1⟩ := hc t (by omega) htlt
      obtain ⟨o', ho', e, he, hb', hon⟩ := Region.waitsFor_spec h1
      have : o' = ot := Option.some.inj (ho'.symm.trans hot)
      subst this
      have h2 := hall e he hb'
      rw [hon, getD_both (inv.tail j hj1 hj2)] at h2
      cases h2
theorem head_float (hng : NoNG P) (hacc : rec.acc = accP) (hsel : Region.noSelect ops = true) (F : Nat → Bool) (hF : ∀ i, i < n → F i = true → pureE (E i) = true ∧ Region.free .any ops (lexMask ops i) i = true) (S : HeadSpec P rec ops h0 ops.toList 0 n t0 [] t' l' es T E N) (hd : depsB ops n = true) (hrec : RecOk P rec) (hmem : memB ops n es = true) {k : Nat} (hcs : Bnd k (headM es)) (hnl : n ≤ ops.size) (hs : n < ops.size → (∀ i, i < n → F i = true ∨ ∃ j, i < j ∧ j ≤ n ∧ Region.waitsFor .any ops j i = true ∧ (j = n ∨ F j = false)) ∧ ∀ t, n < t → t < ops.size → ∃ j, n ≤ j ∧ j < ops.size ∧ Region.waitsFor .any ops t j = true)
    {wb : World} {s0 : Ren} (hk : k ≤ h0.length) {Q : Exit → Act → World → Prop} (hQp : ∀ c a w, ¬ Q (.panic c) a w) {g : Nat}
    (hend : ∀ listed a w, HeadInv .any ops n listed → (∀ i, i < n → listed.getD i false = true) → Mid ops n t0 h0 E N wb k s0 listed a w → wpAny P .any ops Q g listed a w) :
    ∀ (f : Nat) (listed : Array Bool) (a : Act) (w : World), HeadInv .any ops n listed → left n listed = f → Mid ops n t0 h0 E N wb k s0 listed a w → wpAny P .any ops Q (f + g) listed a w
  | 0, listed, a, w, inv, hl, J => by rw [Nat.zero_add]; exact hend listed a w inv (fun i hi => left_zero hl hi) J
  | f + 1, listed, a, w, inv, hl, J => by
    -- one that is not done, the first of them
    have hex : ∃ i, i < n ∧ listed.getD i false = false := by
      rcases Classical.em (∃ i, i < n ∧ listed.getD i false = false) with h | h
      · exact h
      · have : (List.range n).filter (fun i => !listed.getD i false) = [] := List.filter_eq_nil_iff.2 fun i hi => by
          have hi' := List.mem_range.1 hi
          cases hq : listed.getD i false with
          | true => simp
          | false => exact absurd ⟨i, hi', hq⟩ h
        unfold left at hl
        rw [this] at hl
        cases hl
    have hfirst : ∃ i, i < n ∧ listed.getD i false = false ∧ ∀ j, j < i → listed.getD j false = true := by
      obtain ⟨i, hi, hu⟩ := hex
      induction i using Nat.strongRecOn with
      | _ i ih =>
        rcases Classical.em (∃ j, j < i ∧ listed.getD j false = false) with ⟨j, hj, hju⟩ | h
        · exact ih j hj (by omega) hju
        · refine ⟨i, hi, hu, fun j hj => ?_⟩
          cases hq : listed.getD j false with
          | true => rfl
          | false => exact absurd ⟨j, hj, hq⟩ h
    obtain ⟨i, hi, hu, hbel⟩ := hfirst
    have hisz : i < listed.size := by rw [inv.size]; omega
    obtain ⟨o, ho, _, _⟩ := op_at S hi
    have hri : i ∈ Region.ready .any ops listed := mem_ready.2 ⟨getD_in hisz hu, o, ho, fun e he hb => hbel _ ((depsB_spec hd hi ho).1 e he hb)⟩
    rw [show f + 1 + g = (f + g) + 1 by omega]
    cases hFi : F i with
    | true =>
      obtain ⟨hp, hfr⟩ := hF i hi hFi
      obtain ⟨o2, v, ho2, hy, J'⟩ := mid_pure hng hacc S hd inv J hri hi hp (headM_bnd hcs i _ (eff_at S hi)).2
      refine wpAny_take ho2 hsel (free_lex (by omega) hbel hfr) (by simpa using hri) (fun c a w h => absurd h (hQp c _ w)) hy ?_
      refine head_float hng hacc hsel F hF S hd hrec hmem hcs hnl hs hk hQp hend f _ _ w (inv.set hri hi) ?_ J'
      have := left_next hi hisz hu
      omega
    | false =>
    refine ⟨fun h0 => (by rw [h0] at hri; cases hri), fun j hj => ?_⟩
    have hjn : j < n := by
      rcases Nat.lt_or_ge j n with h | h
      · exact h
      · obtain ⟨_, oj, hoj, _⟩ := mem_ready.1 hj
        have hjs := (Array.getElem?_eq_some_iff.1 hoj).1
        obtain ⟨h1, h2⟩ := hs (by omega)
        exact absurd hj (tail_waitsF F h1 h2 (by omega) inv _ i rfl hi hFi (getD_in hisz hu) j h)
    have hju := getD_both (mem_ready.1 hj).1
    have hjs : j < listed.size := by rw [inv.size]; omega
    refine mid_op S hd hrec hmem hcs hk inv J hj hjn fun a' w' J' => ?_
    refine head_float hng hacc hsel F hF S hd hrec hmem hcs hnl hs hk hQp hend f _ a' w' (inv.set hj hjn) ?_ J'
    have := left_next hjn hjs hju
    omega
theorem drawY_ok (P : Program) : DrawOk P (drawY P) := by
  intro rec hrec ops x x' hr wb k s id a w hm HS
  unfold drawY at hr
  cases hh : headRun P rec ops x.h ops.toList 0 x.t [] with
  | mk n tl =>
    obtain ⟨t, l, es⟩ := tl
    rw [hh] at hr
    simp only at hr
    split at hr
    · rename_i hc
      split at hr
      rotate_left
      · cases hr
      rename_i hN hlex
      simp only [Bool.and_eq_true, decide_eq_true_eq] at hc
      obtain ⟨⟨⟨⟨⟨hmix, hsel⟩, hnl⟩, hdp⟩, hmem⟩, htl⟩ := hc
      obtain ⟨T, E, N, S⟩ := headRun_spec hrec.2.2.2 _ _ _ _ _ _ _ _ hh
      have hcs : Bnd k (headM es) := (bnd_low (explore_low _ _ _ _ hr hm)).2
      refine wp_region_any hmix ?_
      have H0 : HR wb k s x.h w.drew := HS.h.drew
      have hlf : MH n x.h E N (fun _ => true) hN (fun j => if j < x.h.length then s j else none) := by
        refine lexHeap_ok S hmem n 0 _ (by omega) ?_ (by simpa [S.l0] using hlex)
        rw [show (fun j => decide (j < 0)) = fun _ => false by funext j; simp, ← S.ln]
        exact mh_start S fun i hi => if_neg (by omega)
      have J : Mid ops n x.t x.h E N wb k s (Array.replicate ops.size false) a w.drew := by
        have e : (fun i => (Array.replicate ops.size false).getD i false) = fun _ => false := by funext i; exact getD_replicate_false _ _
        refine ⟨s, x.t, _, Le.refl s, fun _ _ => rfl, HS.t, HS.d, H0.pad (N n).length, fun _ => H0, ?_, ?_⟩
        · rw [e]; exact mt_start
        · rw [e]; exact mh_start S H0.dom
      have inv : HeadInv .any ops n (Array.replicate ops.size false) :=
        ⟨by simp, fun j _ _ hl => (by rw [getD_replicate_false] at hl; cases hl), fun t _ h2 => getD_in (by simpa using h2) (getD_replicate_false _ _)⟩
      have hleft : left n (Array.replicate ops.size false) = n := by
        unfold left
        rw [List.filter_eq_self.2 fun i _ => by rw [getD_replicate_false]; rfl]
        simp
      have htl' := htl
      unfold tailY at htl'
      simp only [Bool.and_eq_true, decide_eq_true_eq] at htl'
      have hsc : n < ops.size → (∀ i, i < n → floatAt ops n es i = true ∨ ∃ j, i < j ∧ j ≤ n ∧ Region.waitsFor .any ops j i = true ∧ (j = n ∨ floatAt ops n es j = false)) ∧ ∀ t, n < t → t < ops.size → ∃ j, n ≤ j ∧ j < ops.size ∧ Region.waitsFor .any ops t j = true := by
        intro hlt
        refine ⟨fun i hi => ?_, fun t ht htl2 => ?_⟩
        · have h1 := List.all_eq_true.1 htl'.1.2 i (List.mem_range.2 hi)
          simp only [Bool.or_eq_true] at h1
          rcases h1 with h1 | h1
          · exact .inl h1
          · obtain ⟨j, hj, hj2⟩ := List.any_eq_true.1 h1
            simp only [Bool.and_eq_true, decide_eq_true_eq, Bool.or_eq_true, Bool.not_eq_true'] at hj2
            refine .inr ⟨j, hj2.1.1, by have := List.mem_range.1 hj; omega, hj2.1.2, ?_⟩
            rcases hj2.2 with h3 | h3
            · exact .inl (Nat.eq_of_beq_eq_true h3)
            · exact .inr h3
        · have h1 := List.all_eq_true.1 htl'.2 t (List.mem_range.2 htl2)
          simp only [Bool.or_eq_true, decide_eq_true_eq] at h1
          rcases h1 with h1 | h1
          · omega
          · obtain ⟨j, hj, hj2⟩ := List.any_eq_true.1 h1
            simp only [Bool.and_eq_true, decide_eq_true_eq] at hj2
            exact ⟨j, hj2.1, by have := List.mem_range.1 hj; omega, hj2.2⟩
      have hFl : ∀ i, i < n → floatAt ops n es i = true → pureE (E i) = true ∧ Region.free .any ops (lexMask ops i) i = true := by
        intro i hi hf
        unfold floatAt at hf
        simp only [Bool.and_eq_true] at hf
        refine ⟨?_, hf.1.2⟩
        have hp := hf.1.1
        unfold pureAt at hp
        rw [eff_at S hi] at hp
        exact hp
      have A := head_float hrec.2.2.1 hrec.2.2.2 hsel (floatAt ops n es) hFl S hdp hrec hmem hcs hnl hsc (wb := wb) (s0 := s) HS.h.kle (Q := Post wb k s x' .normal) (fun c a w h => by cases h.1) (g := ops.size - n) (fun listed a' w' inv' hall J' => ?_)
      · have e2 : left n (Array.replicate ops.size false) + (ops.size - n) = ops.size := by omega
        have fin := A _ _ a w.drew inv rfl J
        rwa [e2] at fin
      · obtain ⟨s', t2, h2, hle, _, ht, hdf, H, _, M, MM⟩ := J'
        obtain rfl := mt_full S hdp M hall
        obtain rfl := mh_same S MM hlf hall fun _ _ => rfl
        have hQ : ∀ s'' a'' w'', Le s' s'' → SR wb k s'' x' a'' w'' → Post wb k s x' .normal .normal a'' w'' := fun s'' a'' w'' hle' hsr => ⟨rfl, s'', hle.trans hle', hsr⟩
        have hmask : listed = lexMask ops n := by
          apply Array.ext_getElem?
          intro i
          have e0 : (lexMask ops n)[i]? = (List.replicate n true ++ List.replicate (ops.size - n) false)[i]? := by
            unfold lexMask
            simp
          rw [e0]
          rcases Nat.lt_or_ge i n with hi | hi
          · have := hall i hi
            have hisz : i < listed.size := by rw [inv'.size]; omega
            rw [List.getElem?_append_left (by simpa using hi), List.getElem?_replicate, if_pos hi]
            rw [Array.getElem?_eq_getElem hisz]
            simpa [hisz] using this
          · rw [List.getElem?_append_right (by simpa using hi), List.getElem?_replicate]
            simp only [List.length_replicate]
            by_cases hlt : i < ops.size
            · have := inv'.tail i hi hlt
              have hisz : i < listed.size := by rw [inv'.size]; omega
              rw [if_pos (by omega), Array.getElem?_eq_getElem hisz]
              simpa [hisz] using this
            · rw [if_neg (by omega), Array.getElem?_eq_none (by rw [inv'.size]; omega)]
        rw [hmask]
        exact explore_ok hrec hsel (fun c a w h => by cases h.1) (ops.size - n) (lexMask ops n) _ x' hr hm s' a' w' ⟨ht, hdf, H⟩ hQ
    · cases hr

end
/-! The last two operations, the other way about. -/
def swI (n i : Nat) : Nat := if i = n then n + 1 else if i = n + 1 then n else i
def swM (n : Nat) (m : Array Bool) : Array Bool := (m.setIfInBounds n (m.getD (n + 1) true)).setIfInBounds (n + 1) (m.getD n true)
theorem swI_swI (n i : Nat) : swI n (swI n i) = i := by unfold swI; split <;> split <;> (try split) <;> omega
theorem swM_size (n : Nat) (m : Array Bool) : (swM n m).size = m.size := by unfold swM; simp
theorem swM_get {n : Nat} {m : Array Bool} (hm : m.size = n + 2) (i : Nat) : (swM n m)[i]? = m[swI n i]? := by
  have g : ∀ (j : Nat) (hj : j < n + 2), m.getD j true = m[j]'(by omega) := fun j hj => by simp [Array.getD, hm, hj]
  unfold swM swI
  rw [Array.getElem?_setIfInBounds, Array.getElem?_setIfInBounds, g n (by omega), g (n + 1) (by omega)]
  by_cases h1 : i = n
  · subst h1
    rw [if_neg (by omega), if_pos rfl, if_pos (by omega), if_pos rfl, Array.getElem?_eq_getElem]
  · by_cases h2 : i = n + 1
    · subst h2
      rw [if_pos rfl, if_pos (by simp; omega), if_neg (by omega), if_pos rfl, Array.getElem?_eq_getElem]
    · rw [if_neg (by omega), if_neg (by omega), if_neg h1, if_neg h2]
theorem swM_getD {n : Nat} {m : Array Bool} (hm : m.size = n + 2) (i : Nat) (b : Bool) : (swM n m).getD i b = m.getD (swI n i) b := by
  rw [Array.getD_eq_getD_getElem?, Array.getD_eq_getD_getElem?, swM_get hm]
theorem swM_set {n : Nat} {m : Array Bool} (hm : m.size = n + 2) (i : Nat) : swM n (m.setIfInBounds i true) = (swM n m).setIfInBounds (swI n i) true := by
  apply Array.ext_getElem?
  intro j
  rw [swM_get (by simpa using hm), Array.getElem?_setIfInBounds, Array.getElem?_setIfInBounds, swM_get hm]
  have e : (i = swI n j) ↔ (swI n i = j) := ⟨fun h => by rw [h, swI_swI], fun h => by rw [← h, swI_swI]⟩
  by_cases h : i = swI n j
  · rw [if_pos h, if_pos (e.1 h)]
    have : (swI n i < (swM n m).size) ↔ (i < m.size) := by rw [swM_size, hm]; unfold swI; split <;> (try split) <;> omega
    by_cases hi : i < m.size
    · rw [if_pos hi, if_pos (this.2 hi)]
    · rw [if_neg hi, if_neg fun q => hi (this.1 q)]
  · rw [if_neg h, if_neg fun q => h (e.2 q)]
/-- No operation waits for the last two, or is guarded by them. -/
def loneB (n : Nat) (l : List Oper) : Bool := l.all fun o => (o.after.toList.all fun e => !Region.binds .any e || decide (e.on < n)) && (match o.guard with | none => true | some (j, _) => decide (j < n))
section
variable {P : Program} {l : List Oper} {o1 o2 : Oper} {Q : Exit → Act → World → Prop}
theorem sw_op (i : Nat) : (⟨l ++ [o2, o1]⟩ : Array Oper)[swI l.length i]? = (⟨l ++ [o1, o2]⟩ : Array Oper)[i]? := by
  simp only [List.getElem?_toArray]
  unfold swI
  by_cases h1 : i = l.length
  · subst h1
    rw [if_pos rfl, List.getElem?_append_right (by omega), List.getElem?_append_right (by omega)]
    simp
  · by_cases h2 : i = l.length + 1
    · subst h2
      rw [if_neg (by omega), if_pos rfl, List.getElem?_append_right (by omega), List.getElem?_append_right (by omega)]
      simp
    · rw [if_neg h1, if_neg h2]
      by_cases h3 : i < l.length
      · rw [List.getElem?_append_left h3, List.getElem?_append_left h3]
      · rw [List.getElem?_eq_none (by simp; omega), List.getElem?_eq_none (by simp; omega)]
theorem sw_low {j : Nat} (h : j < l.length) : swI l.length j = j := by unfold swI; rw [if_neg (by omega), if_neg (by omega)]
theorem sw_ready (hl : loneB l.length (l ++ [o1, o2]) = true) {m : Array Bool} (hm : m.size = l.length + 2) {i : Nat} (h : i ∈ Region.ready .any ⟨l ++ [o1, o2]⟩ m) : swI l.length i ∈ Region.ready .any ⟨l ++ [o2, o1]⟩ (swM l.length m) := by
  obtain ⟨h1, o, ho, ha⟩ := mem_ready.1 h
  refine mem_ready.2 ⟨by rw [swM_getD hm, swI_swI]; exact h1, o, by rw [sw_op]; exact ho, fun e he hb => ?_⟩
  have hmem : o ∈ l ++ [o1, o2] := List.mem_of_getElem? (by simpa using ho)
  have h2 := List.all_eq_true.1 hl o hmem
  simp only [Bool.and_eq_true] at h2
  have h3 := List.all_eq_true.1 h2.1 e (by simpa using he)
  simp only [hb, Bool.not_true, Bool.false_or, decide_eq_true_eq] at h3
  rw [swM_getD hm, sw_low h3]
  exact ha e he hb
theorem sw_any (hl : loneB l.length (l ++ [o1, o2]) = true) (hl' : loneB l.length (l ++ [o2, o1]) = true) : ∀ (f : Nat) (m : Array Bool) (a : Act) (w : World), m.size = l.length + 2 →
    wpAny P .any ⟨l ++ [o2, o1]⟩ Q f (swM l.length m) a w → wpAny P .any ⟨l ++ [o1, o2]⟩ Q f m a w := by
  have back : ∀ {m : Array Bool}, m.size = l.length + 2 → Region.ready .any ⟨l ++ [o1, o2]⟩ m = [] → Region.ready .any ⟨l ++ [o2, o1]⟩ (swM l.length m) = [] := by
    intro m hm h
    apply List.eq_nil_iff_forall_not_mem.2
    intro i hi
    have h2 := sw_ready (o1 := o2) (o2 := o1) hl' (m := swM l.length m) (by rw [swM_size]; exact hm) hi
    have e : swM l.length (swM l.length m) = m := by
      apply Array.ext_getElem?
      intro j
      rw [swM_get (by rw [swM_size]; exact hm), swM_get hm, swI_swI]
    rw [e, h] at h2
    cases h2
  intro f
  induction f with
  | zero =>
    intro m a w hm h
    refine ⟨?_, h.2⟩
    apply List.eq_nil_iff_forall_not_mem.2
    intro i hi
    have := sw_ready hl hm hi
    rw [h.1] at this
    cases this
  | succ f ih =>
    intro m a w hm h
    refine ⟨fun h0 => h.1 (back hm h0), fun i hi => ?_⟩
    have h2 := h.2 _ (sw_ready hl hm hi)
    rw [← swM_set hm] at h2
    unfold wpOp at h2 ⊢
    rw [sw_op] at h2
    split at h2
    · exact ih _ a w (by simpa using hm) h2
    · rename_i o ho
      have hmem : o ∈ l ++ [o1, o2] := List.mem_of_getElem? (by simpa using ho)
      have h3 := List.all_eq_true.1 hl o hmem
      simp only [Bool.and_eq_true] at h3
      have hw : Region.wanted o (yielded ⟨l ++ [o2, o1]⟩ a.tmps) = Region.wanted o (yielded ⟨l ++ [o1, o2]⟩ a.tmps) := by
        unfold Region.wanted
        have h4 := h3.2
        cases hg : o.guard with
        | none => rfl
        | some jb =>
          obtain ⟨j, b⟩ := jb
          rw [hg] at h4
          simp only [decide_eq_true_eq] at h4
          simp only
          have : yielded ⟨l ++ [o2, o1]⟩ a.tmps j = yielded ⟨l ++ [o1, o2]⟩ a.tmps j := by
            unfold yielded
            have := sw_op (l := l) (o1 := o1) (o2 := o2) j
            rw [sw_low h4] at this
            rw [this]
          rw [this]
      rw [hw] at h2
      split
      · rename_i hc
        rw [if_pos hc] at h2
        exact h2.imp (Oper.wp_mono fun a' w' h' => ih _ a' w' (by simpa using hm) h') id
      · rename_i hc
        rw [if_neg hc] at h2
        exact ih _ _ w (by simpa using hm) h2
end
def swapL : List Oper → Option (List Oper × Oper × Oper)
  | [] => none
  | [_] => none
  | [a, b] => some ([], a, b)
  | o :: r =>
    match swapL r with
    | some (l, a, b) => some (o :: l, a, b)
    | none => none
theorem swapL_spec : ∀ {r l : List Oper} {a b : Oper}, swapL r = some (l, a, b) → r = l ++ [a, b]
  | [], _, _, _, h => by cases h
  | [_], _, _, _, h => by cases h
  | [x, y], l, a, b, h => by
    simp only [swapL, Option.some.injEq, Prod.mk.injEq] at h
    obtain ⟨rfl, rfl, rfl⟩ := h
    rfl
  | o :: x :: y :: r, l, a, b, h => by
    simp only [swapL] at h
    split at h
    · rename_i l' a' b' hh
      simp only [Option.some.injEq, Prod.mk.injEq] at h
      obtain ⟨rfl, rfl, rfl⟩ := h
      rw [swapL_spec hh]; rfl
    · cases h
/-- .. a drawn region whose last two wait for each other in no way: told with these the other way about. -/
def drawZ (P : Program) : DrawFn := fun rec ops x =>
  match swapL ops.toList with
  | some (l, a, b) => if loneB l.length (l ++ [a, b]) && loneB l.length (l ++ [b, a]) then drawA P rec ⟨l ++ [b, a]⟩ x else none
  | none => none
theorem drawZ_low (P : Program) : DrawLow (drawZ P) := by
  intro rec ops x x' hr k hm
  unfold drawZ at hr
  split at hr
  · split at hr
    · exact drawA_low P rec _ x _ hr k hm
    · cases hr
  · cases hr
theorem drawZ_ok (P : Program) : DrawOk P (drawZ P) := by
  intro rec hrec ops x x' hr wb k s id a w hm HS
  unfold drawZ at hr
  split at hr
  · rename_i l o1 o2 hs
    split at hr
    · rename_i hc
      simp only [Bool.and_eq_true] at hc
      obtain ⟨h1, h2⟩ := drawA_any P hrec hr hm HS
      refine wp_region_any h1 ?_
      obtain ⟨r⟩ := ops
      have e : r = l ++ [o1, o2] := swapL_spec hs
      subst e
      have hsz : (⟨l ++ [o1, o2]⟩ : Array Oper).size = l.length + 2 := by simp
      have hsz' : (⟨l ++ [o2, o1]⟩ : Array Oper).size = l.length + 2 := by simp
      rw [hsz'] at h2
      rw [hsz]
      refine sw_any hc.1 hc.2 _ _ _ _ (by simp) ?_
      have em : swM l.length (Array.replicate (l.length + 2) false) = Array.replicate (l.length + 2) false := by
        apply Array.ext_getElem?
        intro j
        rw [swM_get (by simp)]
        simp only [Array.getElem?_replicate]
        have : (swI l.length j < l.length + 2) ↔ (j < l.length + 2) := by unfold swI; split <;> (try split) <;> omega
        by_cases hj : j < l.length + 2
        · rw [if_pos hj, if_pos (this.2 hj)]
        · rw [if_neg hj, if_neg fun q => hj (this.1 q)]
      rw [em]
      exact h2
    · cases hr
  · cases hr
/-- A drawn region: by its head and its tail; if it has no such form, by each of its orders. -/
def drawE (P : Program) : DrawFn := fun rec ops x =>
  match drawA P rec ops x with
  | some y => some y
  | none =>
    match (match drawX P rec ops x with | some y => some y | none => (match drawY P rec ops x with | some y => some y | none => drawZ P rec ops x)) with
    | some y => some y
    | none => if P.follows .mixedOrders && Region.noSelect ops then explore P rec ops ops.size (Array.replicate ops.size false) x else none
theorem drawE_low (P : Program) : DrawLow (drawE P) := by
  intro rec ops x x' hr k hm
  unfold drawE at hr
  split at hr
  · rename_i y hy
    cases hr
    exact drawA_low P rec ops x _ hy k hm
  · split at hr
    · rename_i y hy
      cases hr
      split at hy
      · rename_i z hz
        cases hy
        exact drawX_low P rec ops x _ hz k hm
      · split at hy
        · rename_i z hz
          cases hy
          exact drawY_low P rec ops x _ hz k hm
        · exact drawZ_low P rec ops x _ hy k hm
    · split at hr
      · exact explore_low _ _ _ _ hr hm
      · cases hr
theorem drawE_ok (P : Program) : DrawOk P (drawE P) := by
  intro rec hrec ops x x' hr wb k s id a w hm HS
  unfold drawE at hr
  split at hr
  · rename_i y hy
    cases hr
    exact drawA_ok P rec hrec ops x _ hy wb k s id a w hm HS
  split at hr
  · rename_i y hy
    cases hr
    split at hy
    · rename_i z hz
      cases hy
      exact drawX_ok P rec hrec ops x _ hz wb k s id a w hm HS
    · split at hy
      · rename_i z hz
        cases hy
        exact drawY_ok P rec hrec ops x _ hz wb k s id a w hm HS
      · exact drawZ_ok P rec hrec ops x _ hy wb k s id a w hm HS
  · split at hr
    · rename_i hc
      simp only [Bool.and_eq_true] at hc
      refine wp_region_any hc.1 ?_
      exact explore_ok hrec hc.2 (fun c a w h => by cases h.1) ops.size _ x x' hr hm s a w.drew ⟨HS.t, HS.d, HS.h.drew⟩ fun s' a' w' hle H' => ⟨rfl, s', hle, H'⟩
    · cases hr

abbrev Hook := FuncId → List Value → List AO → Option (Value × Cs)
def noHook : Hook := fun _ _ _ => none
theorem noHook_ok (P : Program) : HookOk P noHook := by intro f args h0 v cs h; cases h
/-- What the kernel reckons of a call whose arguments and whose answer hold no address: its answer, and one side of what must be the same; and the other side. -/
noncomputable def ranOf (P : Program) (hk : Hook) (L f : Nat) (g : FuncId) (args : List Value) : Option (Value × List AO × Mk) := callA P ⟨ex P (aOp P) (drawE P) (liftH (guardH hk)) noOrc accQ L f, liftH (guardH hk), fun _ _ => none, accQ⟩ g args []
noncomputable def reckonL (P : Program) (hk : Hook) (L f : Nat) (g : FuncId) (args : List Value) : Option (Value × List Int) :=
  match ranOf P hk L f g args with
  | some (v, _, m) => some (v, m.2.map (·.1))
  | none => none
noncomputable def reckonR (P : Program) (hk : Hook) (L f : Nat) (g : FuncId) (args : List Value) (v : Value) : Option (Value × List Int) :=
  match ranOf P hk L f g args with
  | some (_, _, m) => some (v, m.2.map (·.2))
  | none => some (v, [])
theorem map_same {α : Type} : ∀ {l : List (α × α)}, l.map (·.1) = l.map (·.2) → ∀ c ∈ l, c.1 = c.2
  | [], _, c, hc => by cases hc
  | x :: l, h, c, hc => by
    simp only [List.map_cons, List.cons.injEq] at h
    rcases List.mem_cons.1 hc with e | e
    · rw [e]; exact h.1
    · exact map_same h.2 c e
theorem reckonH_ok {P : Program} (hng : NoNG P) {hk : Hook} (hhk : HookOk P hk) (L f : Nat) {g : FuncId} {args : List Value} {v : Value} (ha : args.all flat = true) (hv : flat v = true) (h : reckonL P hk L f g args = reckonR P hk L f g args v) (w : World) :
    Calls P g ⟨args⟩ w fun e w' => e = .returned v ∧ Gr w w' := by
  unfold reckonL reckonR ranOf at h
  cases hc : callA P ⟨ex P (aOp P) (drawE P) (liftH (guardH hk)) noOrc accQ L f, liftH (guardH hk), fun _ _ => none, accQ⟩ g args [] with
  | none => rw [hc] at h; cases h
  | some r =>
    obtain ⟨v', h', m⟩ := r
    rw [hc] at h
    simp only [Option.some.injEq, Prod.mk.injEq] at h
    obtain ⟨rfl, h2⟩ := h
    exact closed_call accQ_eq hng (aOp_ok P hng) (drawE_ok P) (drawE_low P) (lift_ok (guard_ok hhk)) L f ha hv hc (map_same h2) w
theorem reckon_ok {P : Program} (hng : NoNG P) (L f : Nat) {g : FuncId} {args : List Value} {v : Value} (ha : args.all flat = true) (hv : flat v = true) (h : reckonL P noHook L f g args = reckonR P noHook L f g args v) (w : World) :
    Calls P g ⟨args⟩ w fun e w' => e = .returned v ∧ Gr w w' := reckonH_ok hng (noHook_ok P) L f ha hv h w
end Go.Proofs.YtbaiokfjoglmiaaDoor.Ex
end
section
namespace Go.Proofs.YtbaiokfjoglmiaaDoor.Ex
open Go Go.RowKit

/-- The first blocks: a package's variables; those that are not spoken of are given up. -/
def placeG (h0 : List AO) (w : World) : Ren := fun g =>
  match h0[g]?, w.shape? g with
  | some o, some (_, tot) => if o.live then some ⟨g, 0, tot, some GM⟩ else none
  | _, _ => none
def Laid (h0 : List AO) (w : World) : Prop :=
  ∀ (g : Nat) (o : AO), h0[g]? = some o → o.live = true → o.es = some GM ∧ o.cs.all flat = true ∧ ∃ T tot, w.shape? g = some (T, tot) ∧ o.cs.length ≤ tot ∧ ∀ (j : Nat) (v : Value), o.cs[j]? = some v → w.cell? ⟨g, j, none⟩ = some v
theorem shape_cells {w : World} {g : Nat} {T : TypeId} {n : Nat} (h : w.shape? g = some (T, n)) : g < w.heap.size ∧ ∀ j, j < n → (w.cell? ⟨g, j, none⟩).isSome = true := by
  unfold World.shape? at h
  split at h
  · rename_i c e f hh
    cases h
    refine ⟨(Array.getElem?_eq_some_iff.1 hh).1, fun j hj => ?_⟩
    unfold World.cell?
    simp only [hh]
    simpa using hj
  · cases h
theorem HR.start {h0 : List AO} {w : World} (hL : Laid h0 w) : HR w h0.length (placeG h0 w) h0 w := by
  have pl : ∀ g p, placeG h0 w g = some p → ∃ o T tot, h0[g]? = some o ∧ o.live = true ∧ w.shape? g = some (T, tot) ∧ p = ⟨g, 0, tot, some GM⟩ := by
    intro g p hp
    unfold placeG at hp
    split at hp
    · rename_i o T tot ho hs
      split at hp
      · rename_i hl; cases hp; exact ⟨o, T, tot, ho, hl, hs, rfl⟩
      · cases hp
    · cases hp
  refine ⟨Gr.refl w, Nat.le_refl _, fun i hi => ?_, fun i p hp => ?_, fun i o ho hl => ?_, fun i j a b p q hi hj _ _ hp hq e => ?_, fun g p hp _ => ?_⟩
  · unfold placeG
    rw [List.getElem?_eq_none hi]
  · obtain ⟨o, T, tot, ho, hl, hs, rfl⟩ := pl i p hp
    have := (shape_cells hs).1
    have hlt := (List.getElem?_eq_some_iff.1 ho).1
    exact ⟨fun _ => this, fun h => absurd h (by omega), this⟩
  · obtain ⟨he, hf, T, tot, hs, hle, hc⟩ := hL i o ho hl
    refine ⟨⟨i, 0, tot, some GM⟩, by unfold placeG; simp [ho, hl, hs], he.symm, ObjAt.block (by unfold isM; rw [he]; rfl) ⟨by simpa using hle, (shape_cells hs).2, ⟨T, hs⟩, fun hg => absurd rfl hg, fun j v hv => ⟨v, ?_, .same (all_get hf hv)⟩⟩⟩
    rw [Nat.zero_add]
    exact hc j v hv
  · obtain ⟨_, _, _, _, _, _, rfl⟩ := pl i p hp
    obtain ⟨_, _, _, _, _, _, rfl⟩ := pl j q hq
    exact e
  · obtain ⟨_, _, _, _, _, _, rfl⟩ := pl g p hp
    exact ⟨rfl, rfl⟩
/-- A memory that is told by a heap whose first blocks are such variables has these. -/
def eqI : Value → Value → Bool
  | .int k a, .int j b => if k = j then a == b else false
  | x, y => veq0 x y
theorem eqI_ok {x y : Value} (h : eqI x y = true) : x = y := by
  unfold eqI at h
  split at h
  · split at h
    · rename_i hk; rw [hk, eq_of_beq h]
    · cases h
  · exact veq0_ok h
def eqL : List Value → List Value → Bool
  | [], [] => true
  | x :: xs, y :: ys => eqI x y && eqL xs ys
  | _, _ => false
theorem eqL_ok : ∀ {xs ys : List Value}, eqL xs ys = true → xs = ys
  | [], [], _ => rfl
  | x :: xs, y :: ys, h => by
    simp only [eqL, Bool.and_eq_true] at h
    rw [eqI_ok h.1, eqL_ok h.2]
  | [], _ :: _, h => by cases h
  | _ :: _, [], h => by cases h
def hasG : List AO → List AO → Bool
  | [], _ => true
  | _ :: _, [] => false
  | o :: l, p :: h => (!o.live || (p.live && (match p.es with | some e => Nat.beq e GM | none => false) && eqL p.cs o.cs)) && hasG l h
theorem hasG_at : ∀ {h0 h : List AO}, hasG h0 h = true → ∀ (g : Nat) (o : AO), h0[g]? = some o → o.live = true → ∃ p, h[g]? = some p ∧ p.live = true ∧ p.es = some GM ∧ p.cs = o.cs
  | [], _, _, g, o, ho, _ => by simp at ho
  | _ :: _, [], h, _, _, _, _ => by cases h
  | o :: l, p :: h, hh, g, q, hq, hl => by
    simp only [hasG, Bool.and_eq_true] at hh
    cases g with
    | succ g => simpa using hasG_at hh.2 g q (by simpa using hq) hl
    | zero =>
      simp at hq
      subst hq
      have h1 := hh.1
      simp only [hl, Bool.not_true, Bool.false_or, Bool.and_eq_true] at h1
      refine ⟨p, rfl, h1.1.1, ?_, eqL_ok h1.2⟩
      cases he : p.es with
      | none => rw [he] at h1; cases h1.1.2
      | some e => rw [he] at h1; rw [Nat.eq_of_beq_eq_true h1.1.2]
theorem HR.laid {wb : World} {k : Nat} {s : Ren} {h h0 : List AO} {w : World} (H : HR wb k s h w) (hh : hasG h0 h = true) (hf : h0.all (fun o => !o.live || (match o.es with | some e => Nat.beq e GM | none => false) && o.cs.all flat) = true) : Laid h0 w := by
  intro g o ho hl
  obtain ⟨p, hp, hpl, hpe, hpc⟩ := hasG_at hh g o ho hl
  have hfo := List.all_eq_true.1 hf o (List.mem_of_getElem? ho)
  simp only [hl, Bool.not_true, Bool.false_or, Bool.and_eq_true] at hfo
  have hoe : o.es = some GM := by
    cases he : o.es with
    | none => rw [he] at hfo; cases hfo.1
    | some e => rw [he] at hfo; rw [Nat.eq_of_beq_eq_true hfo.1]
  obtain ⟨q, hq, hqe, hb⟩ := H.obj g p hp hpl
  obtain ⟨e1, e2⟩ := H.gl g q hq (by rw [hqe, hpe])
  have B := hb.2 (by unfold isM; rw [hpe]; rfl)
  obtain ⟨T, hT⟩ := B.shp
  rw [e1] at hT
  refine ⟨hoe, hfo.2, T, q.tot, hT, ?_, fun j v hv => ?_⟩
  · have := B.fit
    rw [hpc] at this
    omega
  · obtain ⟨v', h1, h2⟩ := B.rel j v (by rw [hpc]; exact hv)
    rw [e1, e2, Nat.zero_add, h2.eq_of_flat (all_get hfo.2 hv)] at h1
    exact h1
noncomputable def ranG (P : Program) (hk : Hook) (orc : Orc) (L f : Nat) (h0 : List AO) (g : FuncId) (args : List Value) : Option (Value × List AO × Mk) :=
  match callA P ⟨ex P (aOp P) (drawE P) (liftH hk) orc accQ L f, liftH hk, fun _ _ => none, accQ⟩ g args h0 with
  | some (v, h, m) => if quietB h0.length m.1 then some (v, h, m) else none
  | none => none
noncomputable def reckonGL (P : Program) (hk : Hook) (orc : Orc) (L f : Nat) (h0 : List AO) (g : FuncId) (args : List Value) : Option (Value × List Int) :=
  match ranG P hk orc L f h0 g args with
  | some (v, _, m) => some (v, m.2.map (·.1))
  | none => none
noncomputable def reckonGR (P : Program) (hk : Hook) (orc : Orc) (L f : Nat) (h0 : List AO) (g : FuncId) (args : List Value) (v : Value) : Option (Value × List Int) :=
  match ranG P hk orc L f h0 g args with
  | some (_, _, m) => some (v, m.2.map (·.2))
  | none => some (v, [])
/-- A run with tests that are not reckoned: 'orc' says which way each goes; what it must hold for is 'ls = rs'. -/
theorem reckonX_any {P : Program} (hng : NoNG P) {hk : Hook} (hhk : HookOk2 P hk) (orc : Orc) (L f : Nat) (h0 : List AO) {g : FuncId} {args : List Value} {v : Value} (ha : args.all flat = true) (hv : flat v = true) (h : reckonGL P hk orc L f h0 g args = reckonGR P hk orc L f h0 g args v) (w : World) (hL : Laid h0 w) :
    Calls P g ⟨args⟩ w fun e w' => e = .returned v ∧ Gr w w' := by
  unfold reckonGL reckonGR ranG at h
  cases hc : callA P ⟨ex P (aOp P) (drawE P) (liftH hk) orc accQ L f, liftH hk, fun _ _ => none, accQ⟩ g args h0 with
  | none => rw [hc] at h; cases h
  | some r =>
    obtain ⟨v', h', m⟩ := r
    rw [hc] at h
    simp only at h
    split at h
    · rename_i r2 v2 h2 m2 hm2
      split at hm2
      · rename_i hq
        cases hm2
        simp only [Option.some.injEq, Prod.mk.injEq] at h
        obtain ⟨rfl, h3⟩ := h
        refine (callA_ok (ex_ok accQ_eq hng (aOp_ok P hng) (drawE_ok P) (drawE_low P) (lift_ok hhk) L f _) hc (wb := w) (k := h0.length) (s := placeG h0 w) ⟨quietB_ok hq, map_same h3⟩ (LR.ofFlat ha) (HR.start hL)).mono ?_
        rintro e w' ⟨s', u, rfl, _, H, hvr⟩
        rw [hvr.eq_of_flat hv]
        exact ⟨rfl, H.grown⟩
      · cases hm2
    · cases h
theorem reckonG_any {P : Program} (hng : NoNG P) {hk : Hook} (hhk : HookOk P hk) (orc : Orc) (L f : Nat) (h0 : List AO) {g : FuncId} {args : List Value} {v : Value} (ha : args.all flat = true) (hv : flat v = true) (h : reckonGL P (guardH hk) orc L f h0 g args = reckonGR P (guardH hk) orc L f h0 g args v) (w : World) (hL : Laid h0 w) :
    Calls P g ⟨args⟩ w fun e w' => e = .returned v ∧ Gr w w' := reckonX_any hng (guard_ok hhk) orc L f h0 ha hv h w hL
theorem reckonG_ok {P : Program} (hng : NoNG P) {hk : Hook} (hhk : HookOk P hk) (L f : Nat) (h0 : List AO) {g : FuncId} {args : List Value} {v : Value} (ha : args.all flat = true) (hv : flat v = true) (h : reckonGL P (guardH hk) noOrc L f h0 g args = reckonGR P (guardH hk) noOrc L f h0 g args v) (w : World) (hL : Laid h0 w) :
    Calls P g ⟨args⟩ w fun e w' => e = .returned v ∧ Gr w w' := reckonG_any hng hhk noOrc L f h0 ha hv h w hL
theorem reckonS_ok {P : Program} (hng : NoNG P) {hk : Hook} (hhk : HookOk P hk) (orc : Orc) (L f : Nat) (h0 : List AO) {g : FuncId} {args : List Value} {v : Value} {ls rs : List Int} (ha : args.all flat = true) (hv : flat v = true) (h1 : reckonGL P (guardH hk) orc L f h0 g args = some (v, ls))
    (h2 : reckonGR P (guardH hk) orc L f h0 g args v = some (v, rs)) (he : ls = rs) (w : World) (hL : Laid h0 w) : Calls P g ⟨args⟩ w fun e w' => e = .returned v ∧ Gr w w' :=
  reckonG_any hng hhk orc L f h0 ha hv (h1.trans (he ▸ h2.symm)) w hL
noncomputable def reckonGC (P : Program) (hk : Hook) (orc : Orc) (L f : Nat) (h0 : List AO) (g : FuncId) (args : List Value) : Option (Value × Cs) :=
  match ranG P hk orc L f h0 g args with
  | some (v, _, m) => some (v, m.2)
  | none => none
/-- The same, of one run alone: 'cs' are the pairs that must be the same. -/
theorem reckonT_ok {P : Program} (hng : NoNG P) {hk : Hook} (hhk : HookOk P hk) (orc : Orc) (L f : Nat) (h0 : List AO) {g : FuncId} {args : List Value} {v : Value} {cs : Cs} (ha : args.all flat = true) (hv : flat v = true) (h : reckonGC P (guardH hk) orc L f h0 g args = some (v, cs))
    (he : cs.map (·.1) = cs.map (·.2)) (w : World) (hL : Laid h0 w) : Calls P g ⟨args⟩ w fun e w' => e = .returned v ∧ Gr w w' := by
  refine reckonG_any hng hhk orc L f h0 ha hv ?_ w hL
  unfold reckonGC at h
  unfold reckonGL reckonGR
  split at h
  · rename_i v' h' m hr
    cases h
    simp only [he]
  · cases h
theorem reckonX_ok {P : Program} (hng : NoNG P) {hk : Hook} (hhk : HookOk2 P hk) (L f : Nat) (h0 : List AO) {g : FuncId} {args : List Value} {v : Value} (ha : args.all flat = true) (hv : flat v = true) (h : reckonGL P hk noOrc L f h0 g args = reckonGR P hk noOrc L f h0 g args v) (w : World) (hL : Laid h0 w) :
    Calls P g ⟨args⟩ w fun e w' => e = .returned v ∧ Gr w w' := reckonX_any hng hhk noOrc L f h0 ha hv h w hL
/-- Of one run alone, with hooks of any arguments: 'cs' are the pairs that must be the same. -/
theorem reckonXT_ok {P : Program} (hng : NoNG P) {hk : Hook} (hhk : HookOk2 P hk) (orc : Orc) (L f : Nat) (h0 : List AO) {g : FuncId} {args : List Value} {v : Value} {cs : Cs} (ha : args.all flat = true) (hv : flat v = true) (h : reckonGC P hk orc L f h0 g args = some (v, cs))
    (he : cs.map (·.1) = cs.map (·.2)) (w : World) (hL : Laid h0 w) : Calls P g ⟨args⟩ w fun e w' => e = .returned v ∧ Gr w w' := by
  refine reckonX_any hng hhk orc L f h0 ha hv ?_ w hL
  unfold reckonGC at h
  unfold reckonGL reckonGR
  split at h
  · rename_i v' h' m hr
    cases h
    simp only [he]
  · cases h
theorem laid_at {g : Nat} {cs : List Value} {w : World} (h : ∃ t fr, w.heap[g]? = some (.cells ⟨cs⟩ t fr)) : ∃ T tot, w.shape? g = some (T, tot) ∧ cs.length ≤ tot ∧ ∀ (j : Nat) (v : Value), cs[j]? = some v → w.cell? ⟨g, j, none⟩ = some v := by
  obtain ⟨t, fr, hh⟩ := h
  refine ⟨t, cs.length, by simp [World.shape?, hh], Nat.le_refl _, fun j v hv => ?_⟩
  unfold World.cell?
  simp only [hh]
  simpa using hv
/-- One variable, at its place. -/
theorem Laid.one {g0 : Nat} {cs : List Value} {w : World} (hf : cs.all flat = true) (h : ∃ t fr, w.heap[g0]? = some (.cells ⟨cs⟩ t fr)) : Laid (List.replicate g0 dead ++ [⟨true, some GM, cs⟩]) w := by
  intro g o ho hl
  by_cases e : g < g0
  · rw [List.getElem?_append_left (by simpa using e), List.getElem?_replicate, if_pos e] at ho
    cases ho
    cases hl
  · have h2 := (List.getElem?_eq_some_iff.1 ho).1
    simp only [List.length_append, List.length_replicate, List.length_singleton] at h2
    obtain rfl : g = g0 := by omega
    rw [List.getElem?_append_right (by simp)] at ho
    simp only [List.length_replicate, Nat.sub_self, List.getElem?_cons_zero, Option.some.injEq] at ho
    subst ho
    exact ⟨rfl, hf, laid_at h⟩
theorem Laid.nil (w : World) : Laid [] w := fun g o h => by simp at h
theorem Laid.gr {h0 : List AO} {w w' : World} (h : Laid h0 w) (g : Gr w w') : Laid h0 w' := fun i o ho hl =>
  let ⟨a, b, T, tot, hs, hle, hc⟩ := h i o ho hl
  ⟨a, b, T, tot, gr_shape g (shape_cells hs).1 hs, hle, fun j v hv => (gr_cell g (a := ⟨i, j, none⟩) (shape_cells hs).1).trans (hc j v hv)⟩
end Go.Proofs.YtbaiokfjoglmiaaDoor.Ex
end
section
namespace Go.Proofs.YtbaiokfjoglmiaaDoor.Ex
open Go Go.RowKit Go.ChangeShapes Go.WideShapes Go.WideMaps Go.WideElems Go.ChangeAt Go.Deep

theorem cells_of_ints {H : Type} {enc : TypeId × Value → H} {P : Program} {w : World} {base : Nat} {spare : Nat → Bool} {held : Bool} {fuel : Nat} {t e : TypeId} {len : Nat} {cs : List Value} {k : IntKind} {ns : List Int} {x : DataW H × List MemPlace}
    (ht : P.underlying t = some (.array len e)) (he : P.underlying e = some (.int k)) (hc : P.cellsOf e = 1) (hct : P.cellsOf t = len) (h : DataW.trod enc P w base spare held fuel t cs = some x) (hx : x.1 = .agg (ns.map fun n => .lit (.int k n))) : cs = ns.map (.int k) := by
  obtain ⟨xs, m, _, hxx, hlen, hn, hall⟩ := DataW.trod_array ht h
  rw [hct] at hlen
  simp only [hc] at hall
  have hm : xs.map (·.1) = ns.map fun n => .lit (.int k n) := by
    have h1 := congrArg Prod.fst hxx
    rw [hx] at h1
    injection h1 with h2
    exact h2.symm
  have hl : ns.length = len := by
    have := congrArg List.length hm
    simp at this
    omega
  apply List.ext_getElem?
  intro i
  by_cases hi : i < len
  · have hn0 : ∃ n, ns[i]? = some n := ⟨_, List.getElem?_eq_getElem (by omega)⟩
    obtain ⟨n, hn0⟩ := hn0
    obtain ⟨y, hy⟩ : ∃ y, xs[i]? = some y := ⟨_, List.getElem?_eq_getElem (by omega)⟩
    have hh := (hall i hi).trans hy
    obtain ⟨n', e1, rfl, _⟩ := DataW.trod_int he hh
    have h2 : (xs.map (·.1))[i]? = some (.lit (.int k n')) := by rw [List.getElem?_map, hy]; rfl
    rw [hm, List.getElem?_map, hn0] at h2
    simp at h2
    subst h2
    have h3 := congrArg (·[0]?) e1
    simp at h3
    rw [List.getElem?_map, hn0]
    simpa using h3
  · rw [List.getElem?_eq_none (by omega), List.getElem?_eq_none (by simp; omega)]
/-- An array of structs of two numbers. -/
theorem cells_of_pairs {H : Type} {enc : TypeId × Value → H} {P : Program} {w : World} {base : Nat} {spare : Nat → Bool} {held : Bool} {fuel : Nat} {t e : TypeId} {len : Nat} {cs : List Value} {k j : IntKind} {f0 f1 : Field} {ns : List (Int × Int)} {x : DataW H × List MemPlace}
    (ht : P.underlying t = some (.array len e)) (he : P.underlying e = some (.struct #[f0, f1])) (hone : oneCellFields P #[f0, f1] = true) (hc : P.cellsOf e = 2) (hct : P.cellsOf t = 2 * len) (u0 : P.underlying f0.type = some (.int k)) (u1 : P.underlying f1.type = some (.int j))
    (h : DataW.trod enc P w base spare held fuel t cs = some x) (hx : x.1 = .agg (ns.map fun n => .agg [.lit (.int k n.1), .lit (.int j n.2)])) : cs = (ns.map fun n => [Value.int k n.1, Value.int j n.2]).flatten := by
  obtain ⟨xs, m, _, hxx, hlen, hn, hall⟩ := DataW.trod_array ht h
  rw [hct] at hlen
  simp only [hc] at hall
  have hm : xs.map (·.1) = ns.map fun n => .agg [.lit (.int k n.1), .lit (.int j n.2)] := by
    have h1 := congrArg Prod.fst hxx
    rw [hx] at h1
    injection h1 with h2
    exact h2.symm
  have hl : ns.length = len := by
    have := congrArg List.length hm
    simp at this
    omega
  have each : ∀ (i : Nat), i < len → ∀ n, ns[i]? = some n → (cs.drop (i * 2)).take 2 = [Value.int k n.1, Value.int j n.2] := by
    intro i hi n hn0
    obtain ⟨y, hy⟩ : ∃ y, xs[i]? = some y := ⟨_, List.getElem?_eq_getElem (by omega)⟩
    have hh := (hall i hi).trans hy
    have h2 : (xs.map (·.1))[i]? = some y.1 := by rw [List.getElem?_map, hy]; rfl
    rw [hm, List.getElem?_map, hn0] at h2
    simp only [Option.map_some, Option.some.injEq] at h2
    obtain ⟨y0, y1, q, hyy, hll, h0, h1⟩ := trod_struct2 he hh
    rw [hc] at hll
    obtain ⟨o0, k0⟩ := hone_of hone 0 f0 rfl
    obtain ⟨o1, k1⟩ := hone_of hone 1 f1 rfl
    generalize (cs.drop (i * 2)).take 2 = ds at h0 h1 hll ⊢
    match ds, hll with
    | [c0, c1], _ =>
      simp only [o0, k0, o1, k1, List.drop_zero, List.take_succ_cons, List.take_zero, List.drop_succ_cons] at h0 h1
      obtain ⟨n0, e0, rfl, _⟩ := DataW.trod_int u0 h0
      obtain ⟨n1, e1, rfl, _⟩ := DataW.trod_int u1 h1
      rw [hyy] at h2
      simp at h2 e0 e1
      rw [e0, e1, h2.1, h2.2]
  have all : ∀ (l : List (Int × Int)) (i : Nat), l = ns.drop i → cs.drop (i * 2) = (l.map fun n => [Value.int k n.1, Value.int j n.2]).flatten := by
    intro l
    induction l with
    | nil =>
      intro i hi
      have : ns.length ≤ i := by
        have := congrArg List.length hi
        simp at this
        omega
      simp only [List.map_nil, List.flatten_nil]
      exact List.drop_eq_nil_of_le (by omega)
    | cons n l ih =>
      intro i hi
      have hn0 : ns[i]? = some n := by
        have := congrArg (·[0]?) hi
        simpa using this.symm
      have hilt : i < len := by rw [← hl]; exact (List.getElem?_eq_some_iff.1 hn0).1
      have h1 := each i hilt n hn0
      have h2 := ih (i + 1) (by
        have := congrArg (List.drop 1) hi
        simpa using this)
      rw [← List.take_append_drop 2 (cs.drop (i * 2)), h1, List.drop_drop, show i * 2 + 2 = (i + 1) * 2 by omega, h2]
      rfl
  have := all ns 0 (by simp)
  simpa using this
end Go.Proofs.YtbaiokfjoglmiaaDoor.Ex
end
section
namespace Go.Proofs.YtbaiokfjoglmiaaDoor
open Go.ChangeShapes Go.WideShapes Go.RowKit

inductive Kd where
  | i (k : IntKind)
  | b
  | s
def Kd.ok : Kd → Value → Prop
  | .i k, v => ∃ n, v = .int k n ∧ (Lit.int k n).wf = true
  | .b, v => ∃ x, v = .bool x
  | .s, v => ∃ x : ByteArray, v = .string x ∧ x.size ≤ maxLen
def okL : List Kd → List Value → Prop
  | [], [] => True
  | k :: ks, v :: vs => k.ok v ∧ okL ks vs
  | _, _ => False
theorem okL.nil {cs : List Value} (h : okL [] cs) : cs = [] := by cases cs with | nil => rfl | cons _ _ => exact h.elim
theorem okL.cons {k : Kd} {ks : List Kd} {cs : List Value} (h : okL (k :: ks) cs) : ∃ v vs, cs = v :: vs ∧ k.ok v ∧ okL ks vs := by
  cases cs with
  | nil => exact h.elim
  | cons v vs => exact ⟨v, vs, rfl, h.1, h.2⟩
theorem okL.length : ∀ {ks : List Kd} {cs : List Value}, okL ks cs → cs.length = ks.length
  | [], cs, h => by rw [h.nil]; rfl
  | k :: ks, cs, h => by
    obtain ⟨v, vs, rfl, _, h2⟩ := h.cons
    simp [okL.length h2]
theorem okL.append : ∀ {ks ls : List Kd} {cs ds : List Value}, okL ks cs → okL ls ds → okL (ks ++ ls) (cs ++ ds)
  | [], ls, cs, ds, h, g => by rw [h.nil]; exact g
  | k :: ks, ls, cs, ds, h, g => by
    obtain ⟨v, vs, rfl, h1, h2⟩ := h.cons
    exact ⟨h1, okL.append h2 g⟩
/-- The kinds of a struct's fields, one behind the other. -/
def kindsF (g : TypeId → Option (List Kd)) (cells : TypeId → Nat) : List Field → Nat → Option (List Kd)
  | [], _ => some []
  | f :: fs, off =>
    match g f.type with
    | some ks =>
      if f.offset = off ∧ cells f.type = ks.length then
        match kindsF g cells fs (off + ks.length) with
        | some ls => some (ks ++ ls)
        | none => none
      else none
    | none => none
def kindsT (P : Program) : Nat → TypeId → Option (List Kd)
  | 0, _ => none
  | f + 1, t =>
    match P.underlying t with
    | some .bool => some [.b]
    | some (.int k) => some [.i k]
    | some .string => some [.s]
    | some (.array n e) =>
      match kindsT P f e with
      | some ks => if P.cellsOf e = ks.length ∧ P.cellsOf t = n * ks.length then some (List.replicate n ks).flatten else none
      | none => none
    | some (.struct fs) =>
      match kindsF (kindsT P f) P.cellsOf fs.toList 0 with
      | some ks => if P.cellsOf t = ks.length then some ks else none
      | none => none
    | _ => none
theorem mapM_same {α β : Type} {g g' : α → Option β} : ∀ {l : List α} {xs : List β}, l.mapM g = some xs → (∀ a ∈ l, ∀ y, g a = some y → g' a = some y) → l.mapM g' = some xs
  | [], xs, h, _ => by simpa using h
  | a :: l, xs, h, hg => by
    simp only [List.mapM_cons] at h ⊢
    cases ha : g a with
    | none => rw [ha] at h; cases h
    | some y =>
      rw [ha] at h
      cases hl : l.mapM g with
      | none => rw [hl] at h; cases h
      | some ys =>
        rw [hl] at h
        rw [hg a (by simp) y ha, mapM_same hl fun b hb => hg b (by simp [hb])]
        exact h
theorem mapM_all {α β : Type} {g : α → Option β} {p : β → Prop} : ∀ {l : List α} {xs : List β}, l.mapM g = some xs → (∀ a ∈ l, ∀ y, g a = some y → p y) → ∀ y ∈ xs, p y
  | [], xs, h, _ => by simp at h; subst h; intro y hy; cases hy
  | a :: l, xs, h, hg => by
    simp only [List.mapM_cons] at h
    cases ha : g a with
    | none => rw [ha] at h; cases h
    | some y =>
      rw [ha] at h
      cases hl : l.mapM g with
      | none => rw [hl] at h; cases h
      | some ys =>
        rw [hl] at h
        cases h
        intro z hz
        rcases List.mem_cons.1 hz with e | e
        · rw [e]; exact hg a (by simp) y ha
        · exact mapM_all hl (fun b hb => hg b (by simp [hb])) z e
theorem mapM_each {α β : Type} {g : α → Option β} : ∀ {l : List α} {xs : List β}, l.mapM g = some xs → ∀ a ∈ l, ∃ y, g a = some y
  | [], _, _, a, ha => by cases ha
  | a :: l, xs, h, b, hb => by
    simp only [List.mapM_cons] at h
    cases ha : g a with
    | none => rw [ha] at h; cases h
    | some y =>
      rw [ha] at h
      cases hl : l.mapM g with
      | none => rw [hl] at h; cases h
      | some ys =>
        rcases List.mem_cons.1 hb with e | e
        · rw [e]; exact ⟨y, ha⟩
        · exact mapM_each hl b e
theorem arr_ok {cs : List Value} {ks : List Kd} : ∀ (m j : Nat), (∀ i, j ≤ i → i < j + m → okL ks ((cs.drop (i * ks.length)).take ks.length)) → okL (List.replicate m ks).flatten ((cs.drop (j * ks.length)).take (m * ks.length))
  | 0, j, _ => by simp [okL]
  | m + 1, j, h => by
    have h1 := h j (Nat.le_refl _) (by omega)
    have h2 := arr_ok m (j + 1) fun i h3 h4 => h i (by omega) (by omega)
    have e : (cs.drop (j * ks.length)).take ((m + 1) * ks.length) = (cs.drop (j * ks.length)).take ks.length ++ (cs.drop ((j + 1) * ks.length)).take (m * ks.length) := by
      rw [show (m + 1) * ks.length = ks.length + m * ks.length by rw [Nat.add_mul]; omega, List.take_add, List.drop_drop, show j * ks.length + ks.length = (j + 1) * ks.length by rw [Nat.add_mul]; omega]
    rw [e, List.replicate_succ, List.flatten_cons]
    exact h1.append h2
theorem str_ok {g : TypeId → Option (List Kd)} {cells : TypeId → Nat} {cs : List Value} : ∀ (fs : List Field) (off : Nat) (ks : List Kd), kindsF g cells fs off = some ks →
    (∀ f ∈ fs, ∀ ls, g f.type = some ls → okL ls ((cs.drop f.offset).take (cells f.type))) → okL ks ((cs.drop off).take ks.length)
  | [], off, ks, h, _ => by simp [kindsF] at h; subst h; simp [okL]
  | f :: fs, off, ks, h, hf => by
    simp only [kindsF] at h
    split at h
    · rename_i k1 hk
      split at h
      · rename_i hc
        split at h
        · rename_i k2 h2
          cases h
          have a1 := hf f (by simp) k1 hk
          rw [hc.1, hc.2] at a1
          have a2 := str_ok fs _ _ h2 fun q hq => hf q (by simp [hq])
          rw [List.length_append, List.take_add, List.drop_drop]
          exact a1.append a2
        · cases h
      · cases h
    · cases h
section
variable {H : Type} {enc : TypeId × Value → H} {P : Program}
theorem plain_kinds : ∀ (f : Nat) {t : TypeId} {ks : List Kd}, kindsT P f t = some ks → ∀ {w : World} {base : Nat} {sp : Nat → Bool} {held : Bool} {n : Nat} {cs : List Value} {x : DataW H × List MemPlace}, DataW.trod enc P w base sp held n t cs = some x → okL ks cs
  | 0, t, ks, h => by simp [kindsT] at h
  | f + 1, t, ks, h => by
    rename_i w base sp held n cs x
    intro hx
    simp only [kindsT] at h
    split at h
    · cases h
      rename_i hu
      cases n with
      | zero => simp [DataW.trod] at hx
      | succ n =>
        simp only [DataW.trod, hu] at hx
        split at hx <;> simp_all [okL, Kd.ok]
    · cases h
      rename_i k hu
      obtain ⟨m, rfl, _, hw⟩ := DataW.trod_int hu hx
      exact ⟨⟨m, rfl, hw⟩, trivial⟩
    · cases h
      rename_i hu
      obtain ⟨m, rfl, _, hw⟩ := DataW.trod_string hu hx
      exact ⟨⟨m, rfl, hw⟩, trivial⟩
    · rename_i m e hu
      split at h
      · rename_i k1 hk
        split at h
        · rename_i hc
          cases h
          obtain ⟨xs, q, rfl, _, hlen, hn, hall⟩ := DataW.trod_array hu hx
          have := arr_ok (cs := cs) (ks := k1) m 0 fun i _ hi => by
            have h1 := hall i (by omega)
            rw [hc.1] at h1
            exact plain_kinds f hk (h1.trans (List.getElem?_eq_getElem (by omega)))
          rw [Nat.zero_mul, List.drop_zero, ← hc.2, ← hlen, List.take_length] at this
          exact this
        · cases h
      · cases h
    · rename_i fs hu
      split at h
      · rename_i k1 hk
        split at h
        · rename_i hc
          cases h
          cases n with
          | zero => simp [DataW.trod] at hx
          | succ n =>
            have hx2 : (if cs.length = P.cellsOf t then (fs.toList.mapM fun f => DataW.trod enc P w base sp held n f.type ((cs.drop f.offset).take (P.cellsOf f.type))).map fun xs => ((DataW.agg (xs.map (·.1)) : DataW H), xs.flatMap (·.2)) else none) = some x := by
              rw [← hx]; simp only [DataW.trod, hu]
            split at hx2
            · rename_i hlen
              cases hm : fs.toList.mapM fun f => DataW.trod enc P w base sp held n f.type ((cs.drop f.offset).take (P.cellsOf f.type)) with
              | none => rw [hm] at hx2; cases hx2
              | some xs =>
                have := str_ok (cs := cs) fs.toList 0 ks hk fun g hg ls hl => by
                  obtain ⟨y, hy⟩ := mapM_each hm g hg
                  exact plain_kinds f hl hy
                rw [List.drop_zero, ← hc, ← hlen, List.take_length] at this
                exact this
            · cases hx2
        · cases h
      · cases h
    · cases h
theorem kindsF_each {g : TypeId → Option (List Kd)} {cells : TypeId → Nat} : ∀ {fs : List Field} {off : Nat} {ks : List Kd}, kindsF g cells fs off = some ks → ∀ f ∈ fs, ∃ ls, g f.type = some ls
  | [], _, _, _, f, hf => by cases hf
  | f :: fs, off, ks, h, q, hq => by
    simp only [kindsF] at h
    split at h
    · rename_i k1 hk
      split at h
      · split at h
        · rename_i k2 h2
          rcases List.mem_cons.1 hq with e | e
          · rw [e]; exact ⟨k1, hk⟩
          · exact kindsF_each h2 q e
        · cases h
      · cases h
    · cases h
theorem plain_any : ∀ (f : Nat) {t : TypeId} {ks : List Kd}, kindsT P f t = some ks → ∀ {w : World} {base : Nat} {sp : Nat → Bool} {held : Bool} {n : Nat} {cs : List Value} {x : DataW H × List MemPlace}, DataW.trod enc P w base sp held n t cs = some x →
    x.2 = [] ∧ ∀ (w' : World) (base' : Nat) (sp' : Nat → Bool) (held' : Bool), DataW.trod enc P w' base' sp' held' n t cs = some x
  | 0, t, ks, h => by simp [kindsT] at h
  | f + 1, t, ks, h => by
    rename_i w base sp held n cs x
    intro hx
    have hk1 := plain_kinds (f + 1) h hx
    simp only [kindsT] at h
    cases n with
    | zero => simp [DataW.trod] at hx
    | succ n =>
      split at h
      · cases h
        rename_i hu
        obtain ⟨v, vs, rfl, ⟨y, rfl⟩, hn⟩ := hk1.cons
        obtain rfl := hn.nil
        simp only [DataW.trod, hu] at hx ⊢
        cases hx
        exact ⟨rfl, fun _ _ _ _ => rfl⟩
      · cases h
        rename_i k hu
        obtain ⟨v, vs, rfl, ⟨y, rfl, hw⟩, hn⟩ := hk1.cons
        obtain rfl := hn.nil
        simp only [DataW.trod, hu, hw, and_self, if_true] at hx ⊢
        cases hx
        exact ⟨rfl, fun _ _ _ _ => rfl⟩
      · cases h
        rename_i hu
        obtain ⟨v, vs, rfl, ⟨y, rfl, hw⟩, hn⟩ := hk1.cons
        obtain rfl := hn.nil
        simp only [DataW.trod, hu, hw, if_true] at hx ⊢
        cases hx
        exact ⟨rfl, fun _ _ _ _ => rfl⟩
      · rename_i m e hu
        split at h
        · rename_i k1 hk
          have hd : ∀ (w : World) (base : Nat) (sp : Nat → Bool) (held : Bool), DataW.trod enc P w base sp held (n + 1) t cs = (if cs.length = P.cellsOf t then ((List.range m).mapM fun i => DataW.trod enc P w base sp held n e ((cs.drop (i * P.cellsOf e)).take (P.cellsOf e))).map fun xs => ((DataW.agg (xs.map (·.1)) : DataW H), xs.flatMap (·.2)) else none) := fun _ _ _ _ => by simp only [DataW.trod, hu]
          rw [hd] at hx
          split at hx
          · rename_i hlen
            cases hm : (List.range m).mapM fun i => DataW.trod enc P w base sp held n e ((cs.drop (i * P.cellsOf e)).take (P.cellsOf e)) with
            | none => rw [hm] at hx; cases hx
            | some xs =>
              rw [hm] at hx
              cases hx
              refine ⟨?_, fun w' base' sp' held' => ?_⟩
              · simp only [List.flatMap_eq_nil_iff]
                exact mapM_all hm fun a _ y hy => (plain_any f hk hy).1
              · rw [hd, if_pos hlen, mapM_same hm fun a _ y hy => (plain_any f hk hy).2 w' base' sp' held']
                rfl
          · cases hx
        · cases h
      · rename_i fs hu
        split at h
        · rename_i k1 hk
          have hd : ∀ (w : World) (base : Nat) (sp : Nat → Bool) (held : Bool), DataW.trod enc P w base sp held (n + 1) t cs = (if cs.length = P.cellsOf t then (fs.toList.mapM fun f => DataW.trod enc P w base sp held n f.type ((cs.drop f.offset).take (P.cellsOf f.type))).map fun xs => ((DataW.agg (xs.map (·.1)) : DataW H), xs.flatMap (·.2)) else none) := fun _ _ _ _ => by simp only [DataW.trod, hu]
          rw [hd] at hx
          split at hx
          · rename_i hlen
            cases hm : fs.toList.mapM fun f => DataW.trod enc P w base sp held n f.type ((cs.drop f.offset).take (P.cellsOf f.type)) with
            | none => rw [hm] at hx; cases hx
            | some xs =>
              rw [hm] at hx
              cases hx
              have hfs := kindsF_each hk
              refine ⟨?_, fun w' base' sp' held' => ?_⟩
              · simp only [List.flatMap_eq_nil_iff]
                exact mapM_all hm fun a ha y hy => let ⟨ls, hl⟩ := hfs a ha; (plain_any f hl hy).1
              · rw [hd, if_pos hlen, mapM_same hm fun a ha y hy => let ⟨ls, hl⟩ := hfs a ha; (plain_any f hl hy).2 w' base' sp' held']
                rfl
          · cases hx
        · cases h
      · cases h
/-- A parameter of plain data, of two cells or more. -/
theorem open_plain {f : Nat} {t : TypeId} {ks : List Kd} (hk : kindsT P f t = some ks) (h2 : 2 ≤ ks.length) {w : World} {base : Nat} {sp : Nat → Bool} {held : Bool} {v : Value} {d : DataW H} {p : List MemPlace} (h : DataW.Trod enc P w base sp held t v d p) :
    p = [] ∧ (∃ cs, v = .agg ⟨cs⟩ ∧ okL ks cs) ∧ ∀ (w' : World) (base' : Nat) (sp' : Nat → Bool) (held' : Bool), DataW.Trod enc P w' base' sp' held' t v d [] := by
  obtain ⟨n, hn⟩ := h
  obtain ⟨h1, h3⟩ := plain_any f hk hn
  simp only at h1
  subst h1
  have h4 := plain_kinds f hk hn
  refine ⟨rfl, ?_, fun w' b' s' h' => ⟨n, h3 w' b' s' h'⟩⟩
  have h5 := h4.length
  cases v with
  | agg cs => exact ⟨cs.toList, rfl, h4⟩
  | _ => simp [Value.cells] at h5; omega
/-- A parameter of plain data, of one cell. -/
theorem shut_plain {f : Nat} {t : TypeId} {ks : List Kd} (hk : kindsT P f t = some ks) {w : World} {base : Nat} {sp : Nat → Bool} {held : Bool} {v : Value} {d : DataW H} {p : List MemPlace} (h : DataW.Trod enc P w base sp held t v d p) :
    p = [] ∧ ∀ (w' : World) (base' : Nat) (sp' : Nat → Bool) (held' : Bool), DataW.Trod enc P w' base' sp' held' t v d [] := by
  obtain ⟨n, hn⟩ := h
  obtain ⟨h1, h3⟩ := plain_any f hk hn
  simp only at h1
  subst h1
  exact ⟨rfl, fun w' b' s' h' => ⟨n, h3 w' b' s' h'⟩⟩
end
end Go.Proofs.YtbaiokfjoglmiaaDoor
end
section
namespace Go.Proofs.YtbaiokfjoglmiaaDoor
open Go.ChangeShapes Go.WideShapes Go.RowKit

def flatD {H : Type} : Nat → DataW H → List Value
  | 0, _ => []
  | _ + 1, .lit (.int k n) => [.int k n]
  | _ + 1, .lit (.bool b) => [.bool b]
  | _ + 1, .lit (.string s) => [.string ⟨s.toArray⟩]
  | f + 1, .agg l => l.flatMap (flatD f)
  | _ + 1, _ => []
theorem arr_flat {α : Type} {cs : List Value} {k : Nat} {F : α → List Value} : ∀ (xs : List α) (j : Nat), (∀ i y, xs[i]? = some y → (cs.drop ((j + i) * k)).take k = F y) → (cs.drop (j * k)).take (xs.length * k) = xs.flatMap F
  | [], j, h => by simp
  | a :: l, j, h => by
    have h1 := h 0 a rfl
    have h2 := arr_flat l (j + 1) fun i y hy => by
      have := h (i + 1) y (by simpa using hy)
      rw [show j + (i + 1) = j + 1 + i by omega] at this
      exact this
    rw [List.length_cons, show (l.length + 1) * k = k + l.length * k by rw [Nat.add_mul]; omega, List.take_add, List.drop_drop, show j * k + k = (j + 1) * k by rw [Nat.add_mul]; omega, h2]
    rw [Nat.add_zero] at h1
    rw [h1]
    rfl
theorem str_flat {α : Type} {g : TypeId → Option (List Kd)} {cells : TypeId → Nat} {cs : List Value} {tr : Field → Option α} {F : α → List Value} : ∀ (fs : List Field) (off : Nat) (ks : List Kd) (xs : List α), kindsF g cells fs off = some ks → fs.mapM tr = some xs →
    (∀ f ∈ fs, ∀ y, tr f = some y → (cs.drop f.offset).take (cells f.type) = F y) → (cs.drop off).take ks.length = xs.flatMap F
  | [], off, ks, xs, h, hx, _ => by
    simp [kindsF] at h
    simp at hx
    subst h hx
    simp
  | f :: fs, off, ks, xs, h, hx, hf => by
    simp only [List.mapM_cons] at hx
    cases ha : tr f with
    | none => rw [ha] at hx; cases hx
    | some y =>
      rw [ha] at hx
      cases hl : fs.mapM tr with
      | none => rw [hl] at hx; cases hx
      | some ys =>
        rw [hl] at hx
        cases hx
        simp only [kindsF] at h
        split at h
        · rename_i k1 hk
          split at h
          · rename_i hc
            split at h
            · rename_i k2 h2
              cases h
              have a1 := hf f (by simp) y ha
              rw [hc.1, hc.2] at a1
              have a2 := str_flat fs _ _ _ h2 hl fun q hq => hf q (by simp [hq])
              rw [List.length_append, List.take_add, List.drop_drop, a1, a2]
              rfl
            · cases h
          · cases h
        · cases h
theorem flatMap_map {α β γ : Type} (l : List α) (g : α → β) (F : β → List γ) : (l.map g).flatMap F = l.flatMap fun a => F (g a) := by
  induction l with
  | nil => rfl
  | cons a l ih => simp [ih]
variable {H : Type} {enc : TypeId × Value → H} {P : Program}
theorem plain_flat : ∀ (f : Nat) {t : TypeId} {ks : List Kd}, kindsT P f t = some ks → ∀ {w : World} {base : Nat} {sp : Nat → Bool} {held : Bool} {n : Nat} {cs : List Value} {x : DataW H × List MemPlace}, DataW.trod enc P w base sp held n t cs = some x → cs = flatD f x.1
  | 0, t, ks, h => by simp [kindsT] at h
  | f + 1, t, ks, h => by
    rename_i w base sp held n cs x
    intro hx
    have hk1 := plain_kinds (f + 1) h hx
    simp only [kindsT] at h
    cases n with
    | zero => simp [DataW.trod] at hx
    | succ n =>
      split at h
      · cases h
        rename_i hu
        obtain ⟨v, vs, rfl, ⟨y, rfl⟩, hn⟩ := hk1.cons
        obtain rfl := hn.nil
        simp only [DataW.trod, hu] at hx
        cases hx
        rfl
      · cases h
        rename_i k hu
        obtain ⟨v, vs, rfl, ⟨y, rfl, hw⟩, hn⟩ := hk1.cons
        obtain rfl := hn.nil
        simp only [DataW.trod, hu, hw, and_self, if_true] at hx
        cases hx
        rfl
      · cases h
        rename_i hu
        obtain ⟨v, vs, rfl, ⟨y, rfl, hw⟩, hn⟩ := hk1.cons
        obtain rfl := hn.nil
        simp only [DataW.trod, hu, hw, if_true] at hx
        cases hx
        rfl
      · rename_i m e hu
        split at h
        · rename_i k1 hk
          split at h
          · rename_i hc
            cases h
            obtain ⟨xs, q, _, hxx, hlen, hn, hall⟩ := DataW.trod_array hu hx
            have := arr_flat (cs := cs) (k := k1.length) (F := fun y : DataW H × List MemPlace => flatD f y.1) xs 0 fun i y hy => by
              have hi : i < m := by
                have := (List.getElem?_eq_some_iff.1 hy).1
                omega
              have h1 := (hall i hi).trans hy
              rw [hc.1] at h1
              rw [Nat.zero_add]
              exact plain_flat f hk h1
            rw [Nat.zero_mul, List.drop_zero, hn, ← hc.2, ← hlen, List.take_length] at this
            rw [hxx]
            simp only [flatD]
            rw [flatMap_map]
            exact this
          · cases h
        · cases h
      · rename_i fs hu
        split at h
        · rename_i k1 hk
          split at h
          · rename_i hc
            cases h
            have hx2 : (if cs.length = P.cellsOf t then (fs.toList.mapM fun f => DataW.trod enc P w base sp held n f.type ((cs.drop f.offset).take (P.cellsOf f.type))).map fun xs => ((DataW.agg (xs.map (·.1)) : DataW H), xs.flatMap (·.2)) else none) = some x := by
              rw [← hx]; simp only [DataW.trod, hu]
            split at hx2
            · rename_i hlen
              cases hm : fs.toList.mapM fun f => DataW.trod enc P w base sp held n f.type ((cs.drop f.offset).take (P.cellsOf f.type)) with
              | none => rw [hm] at hx2; cases hx2
              | some xs =>
                rw [hm] at hx2
                cases hx2
                have hfs := kindsF_each hk
                have := str_flat (cs := cs) (F := fun y : DataW H × List MemPlace => flatD f y.1) fs.toList 0 ks xs hk hm fun g hg y hy => by
                  obtain ⟨ls, hl⟩ := hfs g hg
                  exact plain_flat f hl hy
                rw [List.drop_zero, ← hc, ← hlen, List.take_length] at this
                simp only [flatD]
                rw [flatMap_map]
                exact this
            · cases hx2
          · cases h
        · cases h
      · cases h
end Go.Proofs.YtbaiokfjoglmiaaDoor
end
section
namespace Go.Proofs.YtbaiokfjoglmiaaDoor.Ex
open Go Go.RowKit
set_option maxRecDepth 1000000 in
theorem noNG : NoNG Tryd.prog := noNG_ok (by kernel_rfl)
end Go.Proofs.YtbaiokfjoglmiaaDoor.Ex
end
section
namespace Go.Proofs.YtbaiokfjoglmiaaDoor

def lowS (v : BitVec 64) (b : Int) : BitVec 64 := if b ≤ 0 then 0 else if 64 ≤ b then v else v &&& (1#64 <<< b.toNat - 1#64)
def signS (v : BitVec 64) (b : Int) : BitVec 64 := if b ≤ 0 then 0 else if 64 ≤ b then v else (v <<< (64 - b).toNat).sshiftRight (64 - b).toNat

/-- The number of the first k of some bytes. -/
def numF (f : Nat → BitVec 8) : Nat → BitVec 64
  | 0 => 0#64
  | k + 1 => numF f k ||| ((f k).setWidth 64 <<< (8 * k))
def byteAt (s : ByteArray) (i : Nat) : BitVec 8 := (s.data.toList.getD i 0).toBitVec
def numS (s : ByteArray) : BitVec 64 := numF (byteAt s) (min s.size 8)
theorem numF_succ (f : Nat → BitVec 8) (k : Nat) : numF f (k + 1) = numF f k ||| ((f k).setWidth 64 <<< (8 * k)) := rfl
theorem byteAt_get (s : ByteArray) (k : Nat) (h : k < s.size) : BitVec.ofNat 64 s[k].toNat = (byteAt s k).setWidth 64 := by
  unfold byteAt
  have h' : k < s.data.toList.length := by simpa using h
  rw [List.getD_eq_getElem?_getD, List.getElem?_eq_getElem h']
  rw [← BitVec.ofNat_toNat]; rfl
theorem numS_eq (s : ByteArray) (k : Nat) (h : k = min s.size 8) : numF (byteAt s) k = numS s := by rw [h]; rfl

theorem numF_bit (f : Nat → BitVec 8) (k j : Nat) : (numF f k).getLsbD j = (decide (j < 64) && decide (j < 8 * k) && (f (j / 8)).getLsbD (j % 8)) := by
  induction k with
  | zero => simp [numF]
  | succ k ih =>
    rw [numF_succ, BitVec.getLsbD_or, ih, BitVec.getLsbD_shiftLeft, BitVec.getLsbD_setWidth]
    by_cases h64 : j < 64
    · by_cases h1 : j < 8 * k
      · have h2 : j < 8 * (k + 1) := by omega
        simp [h64, h1, h2]
      · by_cases h2 : j < 8 * (k + 1)
        · have e1 : j / 8 = k := by omega
          have e2 : j - 8 * k = j % 8 := by omega
          have e3 : j % 8 < 64 := by omega
          simp [h64, h1, h2, e1, e2, e3]
        · have e2 : 8 ≤ j - 8 * k := by omega
          simp [h64, h1, h2, BitVec.getLsbD_of_ge _ _ e2]
    · simp [h64]

/-- The number of m bytes from the place 'lo' on, from the highest one. -/
def numH (f : Nat → BitVec 8) (lo : Nat) : Nat → BitVec 64
  | 0 => 0#64
  | m + 1 => numH f (lo + 1) m <<< 8 ||| (f lo).setWidth 64
theorem numH_bit (f : Nat → BitVec 8) (m : Nat) : ∀ lo j, (numH f lo m).getLsbD j = (decide (j < 64) && decide (j < 8 * m) && (f (lo + j / 8)).getLsbD (j % 8)) := by
  induction m with
  | zero => intro lo j; simp [numH]
  | succ m ih =>
    intro lo j
    rw [numH, BitVec.getLsbD_or, BitVec.getLsbD_shiftLeft, ih, BitVec.getLsbD_setWidth]
    by_cases h64 : j < 64
    · by_cases h8 : j < 8
      · have e1 : j / 8 = 0 := by omega
        have e2 : j % 8 = j := by omega
        have e3 : j < 8 * (m + 1) := by omega
        simp [h64, h8, e1, e2, e3]
      · have e1 : lo + 1 + (j - 8) / 8 = lo + j / 8 := by omega
        have e2 : (j - 8) % 8 = j % 8 := by omega
        have e4 : j - 8 < 64 := by omega
        have e5 : (f lo).getLsbD j = false := BitVec.getLsbD_of_ge _ _ (by omega)
        by_cases h3 : j < 8 * (m + 1)
        · have e3 : j - 8 < 8 * m := by omega
          simp [h64, h8, e1, e2, e3, e4, e5, h3]
        · have e3 : ¬ j - 8 < 8 * m := by omega
          simp [h64, h8, e3, e5, h3]
    · simp [h64]
theorem numF_numH (f : Nat → BitVec 8) (m : Nat) : numH f 0 m = numF f m := by
  apply BitVec.eq_of_getLsbD_eq
  intro i hi
  rw [numF_bit, numH_bit, Nat.zero_add]
theorem mul256_add (v : BitVec 64) (c : BitVec 8) : v * 256#64 + c.setWidth 64 = v <<< 8 ||| c.setWidth 64 := by
  have e : v * 256#64 = v <<< 8 := by
    rw [BitVec.shiftLeft_eq_mul_twoPow]; congr 1
  rw [e]
  apply BitVec.add_eq_or_of_and_eq_zero
  apply BitVec.eq_of_getLsbD_eq
  intro i hi
  simp only [BitVec.getLsbD_and, BitVec.getLsbD_shiftLeft, BitVec.getLsbD_setWidth, BitVec.getLsbD_zero]
  by_cases h : i < 8
  · simp [h]
  · simp [BitVec.getLsbD_of_ge c i (by omega)]
theorem numH_step (f : Nat → BitVec 8) (lo m : Nat) : numH f (lo + 1) m * 256#64 + (f lo).setWidth 64 = numH f lo (m + 1) := by
  rw [mul256_add]; rfl

def byteOf (v : BitVec 64) (i : Nat) : BitVec 8 := (v >>> (8 * i)).setWidth 8
def bytesN (v : BitVec 64) (n : Nat) : ByteArray := ⟨((List.range n).map fun i => UInt8.ofBitVec (byteOf v i)).toArray⟩
theorem bytesN_size (v : BitVec 64) (n : Nat) : (bytesN v n).size = n := by
  show (bytesN v n).data.size = n
  simp [bytesN]
theorem bytesN_list (v : BitVec 64) (n : Nat) : (bytesN v n).data.toList = (List.range n).map fun i => UInt8.ofBitVec (byteOf v i) := by simp [bytesN]
theorem bytesN_get (v : BitVec 64) (n i : Nat) (h : i < (bytesN v n).size) : ((bytesN v n)[i].toNat : Int) = N (byteOf v i) := by
  have e : (bytesN v n)[i] = (bytesN v n).data[i]'(by simpa using h) := rfl
  rw [e]
  simp [bytesN, N]
theorem byteAt_bytesN (v : BitVec 64) (n i : Nat) (h : i < n) : byteAt (bytesN v n) i = byteOf v i := by
  unfold byteAt
  rw [bytesN_list, List.getD_eq_getElem?_getD]
  simp [h]

/-- nums.Bytes: the text of a number's n lowest bytes. -/
def bytesS (v : BitVec 64) (n : Int) : ByteArray := if n < 0 ∨ 8 < n then ⟨#[]⟩ else bytesN v n.toNat

theorem low_mod (v : BitVec 64) (b : Nat) : v % (1#64 <<< b) = v &&& (1#64 <<< b - 1#64) ∨ 64 ≤ b := by
  by_cases h : b < 64
  · left
    apply BitVec.eq_of_toNat_eq
    have hp : 2 ^ b < 2 ^ 64 := Nat.pow_lt_pow_right (by decide) h
    have e1 : (1#64 <<< b).toNat = 2 ^ b := by
      rw [BitVec.toNat_shiftLeft]; simp [Nat.shiftLeft_eq]; exact hp
    have hp0 : 0 < 2 ^ b := Nat.two_pow_pos b
    have e2 : (1#64 <<< b - 1#64).toNat = 2 ^ b - 1 := by
      rw [BitVec.toNat_sub, e1]; simp; omega
    rw [BitVec.toNat_umod, BitVec.toNat_and, e1, e2, Nat.and_two_pow_sub_one_eq_mod]
  · right; omega
theorem low_of_mod (v : BitVec 64) (b : Int) (h0 : 0 < b) (h1 : b < 64) : v % (1#64 <<< b.toNat) = lowS v b := by
  unfold lowS
  rw [if_neg (by omega), if_neg (by omega)]
  exact (low_mod v b.toNat).resolve_right (by omega)
theorem low_toNat (v : BitVec 64) (b : Int) (h0 : 0 < b) (h1 : b < 64) : (lowS v b).toNat = v.toNat % 2 ^ b.toNat := by
  rw [← low_of_mod v b h0 h1, BitVec.toNat_umod, BitVec.toNat_shiftLeft]
  have hp : 2 ^ b.toNat < 2 ^ 64 := Nat.pow_lt_pow_right (by decide) (by omega)
  simp only [BitVec.toNat_ofNat, Nat.shiftLeft_eq]
  rw [Nat.mod_eq_of_lt (a := 1) (by decide), Nat.one_mul, Nat.mod_eq_of_lt hp]
theorem low_bit (v : BitVec 64) (b : Int) (i : Nat) : (lowS v b).getLsbD i = (decide ((i : Int) < b) && v.getLsbD i) := by
  by_cases h0 : b ≤ 0
  · unfold lowS; rw [if_pos h0]
    have : ¬ (i : Int) < b := by omega
    simp [this]
  · by_cases h1 : 64 ≤ b
    · unfold lowS; rw [if_neg h0, if_pos h1]
      by_cases hi : i < 64
      · have : (i : Int) < b := by omega
        simp [this]
      · simp [BitVec.getLsbD_of_ge v i (by omega)]
    · have e := low_toNat v b (by omega) (by omega)
      rw [BitVec.getLsbD, e, Nat.testBit_mod_two_pow]
      congr 1
      simp only [decide_eq_decide]; omega
theorem sign_bit (v : BitVec 64) (b : Int) (i : Nat) (hb : 0 < b) (hi : i < 64) : (signS v b).getLsbD i = if (i : Int) < b then v.getLsbD i else v.getLsbD (b.toNat - 1) := by
  unfold signS
  rw [if_neg (by omega)]
  by_cases h1 : 64 ≤ b
  · rw [if_pos h1, if_pos (by omega)]
  · rw [if_neg h1]
    obtain ⟨n, rfl⟩ := Int.eq_ofNat_of_zero_le (show 0 ≤ b by omega)
    generalize hk' : (64 - (n : Int)).toNat = k
    have hk : k + n = 64 := by omega
    clear hk'
    rw [Int.toNat_natCast, BitVec.getLsbD_sshiftRight]
    by_cases h2 : i < n
    · have h3 : k + i < 64 := by omega
      have h4 : ¬ 64 ≤ i := by omega
      have h5 : (i : Int) < n := by omega
      rw [if_pos h3, if_pos h5, BitVec.getLsbD_shiftLeft]
      simp only [h3, h4, show ¬ k + i < k from by omega, Nat.add_sub_cancel_left, decide_false, decide_true, Bool.not_false, Bool.true_and]
    · have h3 : ¬ k + i < 64 := by omega
      have h4 : ¬ 64 ≤ i := by omega
      have h5 : ¬ (i : Int) < n := by omega
      have h6 : ¬ 63 < k := by omega
      have e : 63 - k = n - 1 := by omega
      rw [if_neg h3, if_neg h5, BitVec.msb_eq_getLsbD_last, BitVec.getLsbD_shiftLeft]
      simp only [h4, h6, decide_false, decide_true, Bool.not_false, Bool.true_and, show 64 - 1 < 64 from by decide, show 64 - 1 - k = n - 1 from by omega]
theorem low_lt_iff (v : BitVec 64) (b : Int) (h0 : 0 < b) (h1 : b < 64) : (N (lowS v b) < N (1#64 <<< (b - 1).toNat)) ↔ v.getLsbD (b.toNat - 1) = false := by
  obtain ⟨n, rfl⟩ : ∃ n : Nat, b = (n : Int) + 1 := ⟨(b - 1).toNat, by omega⟩
  have hp : 2 ^ n < 2 ^ 64 := Nat.pow_lt_pow_right (by decide) (by omega)
  have e1 : (1#64 <<< ((n : Int) + 1 - 1).toNat).toNat = 2 ^ n := by
    rw [show ((n : Int) + 1 - 1).toNat = n by omega, BitVec.toNat_shiftLeft]; simp [Nat.shiftLeft_eq]; exact hp
  have e2 := low_toNat v ((n : Int) + 1) h0 h1
  rw [show ((n : Int) + 1).toNat = n + 1 by omega] at e2 ⊢
  unfold N
  rw [e1, e2, Nat.add_sub_cancel, BitVec.getLsbD, Nat.mod_pow_succ]
  have h3 : v.toNat % 2 ^ n < 2 ^ n := Nat.mod_lt _ (Nat.two_pow_pos n)
  rw [Nat.testBit_eq_decide_div_mod_eq]
  have h4 : v.toNat / 2 ^ n % 2 = 0 ∨ v.toNat / 2 ^ n % 2 = 1 := by omega
  rcases h4 with h4 | h4
  · simp [h4]; exact_mod_cast h3
  · simp [h4]; omega
theorem sign_of_low (v : BitVec 64) (b : Int) (h0 : 0 < b) (h1 : b < 64) :
    signS v b = if v.getLsbD (b.toNat - 1) = false then lowS v b else lowS v b - 1#64 <<< b.toNat := by
  have hlow : ∀ i, (lowS v b).getLsbD i = (decide ((i : Int) < b) && v.getLsbD i) := low_bit v b
  split
  · rename_i h
    apply BitVec.eq_of_getLsbD_eq
    intro i hi
    rw [sign_bit v b i h0 hi, hlow i]
    by_cases hib : (i : Int) < b <;> simp only [hib, if_true, if_false, h, decide_true, decide_false, Bool.true_and, Bool.false_and]
  · rename_i h
    have h' : v.getLsbD (b.toNat - 1) = true := by simpa using h
    obtain ⟨n, rfl⟩ := Int.eq_ofNat_of_zero_le (show 0 ≤ b by omega)
    rw [Int.toNat_natCast] at h' ⊢
    have hn : n < 64 := by omega
    have hmask : ∀ i, i < 64 → (~~~(1#64 <<< n - 1#64)).getLsbD i = decide (n ≤ i) := by
      intro i hi
      have hp : 2 ^ n < 2 ^ 64 := Nat.pow_lt_pow_right (by decide) hn
      have e1 : (1#64 <<< n).toNat = 2 ^ n := by
        rw [BitVec.toNat_shiftLeft]; simp [Nat.shiftLeft_eq]; exact hp
      have hp0 : 0 < 2 ^ n := Nat.two_pow_pos n
      have e2 : (1#64 <<< n - 1#64).toNat = 2 ^ n - 1 := by
        rw [BitVec.toNat_sub, e1]; simp; omega
      rw [BitVec.getLsbD_not, BitVec.getLsbD, e2, Nat.testBit_two_pow_sub_one]
      by_cases hni : n ≤ i
      · simp [hi, hni]
      · simp [hi, hni]; omega
    have hneg : -(1#64 <<< n) = ~~~(1#64 <<< n - 1#64) := by
      rw [BitVec.neg_eq_not_add, BitVec.not_sub_one_eq_not_add_one]
    rw [BitVec.sub_eq_add_neg, hneg, BitVec.add_eq_or_of_and_eq_zero]
    · apply BitVec.eq_of_getLsbD_eq
      intro i hi
      rw [sign_bit v _ i h0 hi, BitVec.getLsbD_or, hlow i, hmask i hi, Int.toNat_natCast]
      by_cases hib : i < n
      · have h2 : ¬ n ≤ i := by omega
        simp [hib, h2]
      · have h2 : n ≤ i := by omega
        have h3 : ¬ (i : Int) < n := by omega
        simp [h2, h3, h']
    · apply BitVec.eq_of_getLsbD_eq
      intro i hi
      rw [BitVec.getLsbD_and, hlow i, hmask i hi]
      by_cases hib : i < n
      · have h2 : ¬ n ≤ i := by omega
        simp [h2]
      · simp [hib]
theorem shl1_ne (b : Int) (h0 : 0 ≤ b) (h1 : b < 64) : ¬ N (1#64 <<< b.toNat) = 0 := by
  have hp : 2 ^ b.toNat < 2 ^ 64 := Nat.pow_lt_pow_right (by decide) (by omega)
  have hp0 : 0 < 2 ^ b.toNat := Nat.two_pow_pos _
  unfold N
  rw [BitVec.toNat_shiftLeft]
  simp only [BitVec.toNat_ofNat, Nat.shiftLeft_eq]
  rw [Nat.mod_eq_of_lt (a := 1) (by decide), Nat.one_mul, Nat.mod_eq_of_lt hp]
  omega
/-- What the document's Sign goes by: whether no sign is told on. -/
def plainB (v : BitVec 64) (b : Int) : Bool := decide (N (lowS v b) < N (1#64 <<< (b - 1).toNat))
theorem sign_le0 (v : BitVec 64) (b : Int) (h : b ≤ 0) : lowS v b = signS v b := by unfold lowS signS; rw [if_pos h, if_pos h]
theorem sign_ge64 (v : BitVec 64) (b : Int) (h : 64 ≤ b) : lowS v b = signS v b := by unfold lowS signS; rw [if_neg (show ¬ b ≤ 0 by omega), if_pos h, if_neg (show ¬ b ≤ 0 by omega), if_pos h]
theorem sign_plain (v : BitVec 64) (b : Int) (h0 : 0 < b) (h1 : b < 64) (h : N (lowS v b) < N (1#64 <<< (b.toNat - 1))) : lowS v b = signS v b := by
  rw [show b.toNat - 1 = (b - 1).toNat by omega] at h
  rw [sign_of_low v b h0 h1, if_pos ((low_lt_iff v b h0 h1).1 h)]
theorem sign_minus (v : BitVec 64) (b : Int) (h0 : 0 < b) (h1 : b < 64) (h : ¬ N (lowS v b) < N (1#64 <<< (b.toNat - 1))) : lowS v b - 1#64 <<< b.toNat = signS v b := by
  rw [show b.toNat - 1 = (b - 1).toNat by omega] at h
  rw [sign_of_low v b h0 h1, if_neg (fun h' => h ((low_lt_iff v b h0 h1).2 h'))]
theorem shl_succ (k : Nat) : 1#64 <<< k * 2#64 = 1#64 <<< (k + 1) := by
  apply BitVec.eq_of_toNat_eq
  simp [Nat.shiftLeft_eq, Nat.pow_succ]
end Go.Proofs.YtbaiokfjoglmiaaDoor
end
section
namespace Go.Proofs.YtbaiokfjoglmiaaDoor

/-- What arithmetic comes to, of numbers of w bits; x: the operation. -/
def aluW {w : Nat} (x : Int) (a b : BitVec w) : BitVec w :=
  if x = 0 then a + b else if x = 16 then a - b else if x = 32 then a * b else if x = 48 then a / b else if x = 144 then a % b
  else if x = 64 then a ||| b else if x = 80 then a &&& b else if x = 160 then a ^^^ b else if x = 96 then a <<< (b.toNat % w)
  else if x = 112 then a >>> (b.toNat % w) else if x = 192 then a.sshiftRight (b.toNat % w) else if x = 128 then -a else if x = 176 then b else 0#w
def aluS (x : Int) (wide : Bool) (a b : BitVec 64) : BitVec 64 :=
  if wide then aluW x a b else (aluW x (a.setWidth 32) (b.setWidth 32)).setWidth 64

/-- No operation at all. -/
def NoOp (x : Int) : Prop := ¬ x = 0 ∧ ¬ x = 16 ∧ ¬ x = 32 ∧ ¬ x = 48 ∧ ¬ x = 144 ∧ ¬ x = 64 ∧ ¬ x = 80 ∧ ¬ x = 160 ∧ ¬ x = 96 ∧ ¬ x = 112 ∧ ¬ x = 192 ∧ ¬ x = 128 ∧ ¬ x = 176
theorem alu_cases (x : Int) : x = 0 ∨ x = 16 ∨ x = 32 ∨ x = 48 ∨ x = 144 ∨ x = 64 ∨ x = 80 ∨ x = 160 ∨ x = 96 ∨ x = 112 ∨ x = 192 ∨ x = 128 ∨ x = 176 ∨ NoOp x := by
  unfold NoOp; omega
theorem aluW_none {w : Nat} {x : Int} (h : NoOp x) (a b : BitVec w) : aluW x a b = 0#w := by
  obtain ⟨h1, h2, h3, h4, h5, h6, h7, h8, h9, h10, h11, h12, h13⟩ := h
  unfold aluW
  rw [if_neg h1, if_neg h2, if_neg h3, if_neg h4, if_neg h5, if_neg h6, if_neg h7, if_neg h8, if_neg h9, if_neg h10, if_neg h11, if_neg h12, if_neg h13]
/-- The same as the tests of a switch have it. -/
theorem noOp_beq {x : Int} (h : NoOp x) : (x == 0) = false ∧ (x == 16) = false ∧ (x == 32) = false ∧ (x == 48) = false ∧ (x == 144) = false ∧ (x == 64) = false ∧ (x == 80) = false ∧ (x == 160) = false ∧ (x == 96) = false ∧ (x == 112) = false ∧ (x == 192) = false ∧ (x == 128) = false ∧ (x == 176) = false := by
  obtain ⟨h1, h2, h3, h4, h5, h6, h7, h8, h9, h10, h11, h12, h13⟩ := h
  refine ⟨?_, ?_, ?_, ?_, ?_, ?_, ?_, ?_, ?_, ?_, ?_, ?_, ?_⟩ <;> (rw [beq_eq_false_iff_ne]; assumption)

theorem tmod64 (b : BitVec 64) : (N b).tmod 64 = ((b.toNat % 64 : Nat) : Int) := by
  unfold N; rw [Int.tmod_eq_emod_of_nonneg (by omega)]; omega
theorem tmod32 (b : BitVec 32) : (N b).tmod 32 = ((b.toNat % 32 : Nat) : Int) := by
  unfold N; rw [Int.tmod_eq_emod_of_nonneg (by omega)]; omega
theorem sign32 (a : BitVec 32) (k : Nat) : ((signS (a.setWidth 64) 32).sshiftRight k).setWidth 32 = a.sshiftRight k := by
  apply BitVec.eq_of_getLsbD_eq
  intro i hi
  rw [BitVec.getLsbD_setWidth, BitVec.getLsbD_sshiftRight, BitVec.getLsbD_sshiftRight]
  have hs : ∀ j, j < 64 → (signS (a.setWidth 64) 32).getLsbD j = if j < 32 then a.getLsbD j else a.getLsbD 31 := by
    intro j hj
    rw [sign_bit _ 32 j (by decide) hj, BitVec.getLsbD_setWidth, BitVec.getLsbD_setWidth]
    by_cases h : j < 32
    · have h' : (j : Int) < 32 := by omega
      simp only [h, h', if_true, hj, decide_true, Bool.true_and]
    · have h' : ¬ (j : Int) < 32 := by omega
      simp only [h, h', if_false]
      rfl
  rw [BitVec.msb_eq_getLsbD_last, BitVec.msb_eq_getLsbD_last, hs (64 - 1) (by decide)]
  have hi64 : ¬ 64 ≤ i := by omega
  have hi32 : ¬ 32 ≤ i := by omega
  simp only [hi, hi64, hi32, decide_true, decide_false, Bool.not_false, Bool.true_and]
  by_cases h1 : k + i < 64
  · rw [if_pos h1, hs _ h1]
  · rw [if_neg h1, if_neg (show ¬ k + i < 32 by omega)]
    rfl
theorem sext32 (v : BitVec 64) : v.signExtend 32 = v.setWidth 32 := by
  apply BitVec.eq_of_getLsbD_eq
  intro i hi
  rw [BitVec.getLsbD_signExtend, BitVec.getLsbD_setWidth]
  simp only [hi, decide_true, Bool.true_and, show i < 64 by omega, if_true]
theorem low_setWidth (v : BitVec 64) : (lowS v 32).setWidth 32 = v.setWidth 32 := by
  apply BitVec.eq_of_getLsbD_eq
  intro i hi
  rw [BitVec.getLsbD_setWidth, BitVec.getLsbD_setWidth, low_bit]
  have h' : (i : Int) < 32 := by omega
  simp only [h', decide_true, Bool.true_and]
theorem low64 (v : BitVec 64) : lowS v 64 = v := by unfold lowS; rw [if_neg (by decide), if_pos (by decide)]
theorem sign64 (v : BitVec 64) : signS v 64 = v := by unfold signS; rw [if_neg (by decide), if_pos (by decide)]
theorem low32 (v : BitVec 64) : lowS v 32 = (v.setWidth 32).setWidth 64 := by
  apply BitVec.eq_of_toNat_eq
  rw [low_toNat v 32 (by decide) (by decide)]
  simp
  omega
end Go.Proofs.YtbaiokfjoglmiaaDoor
end
section
namespace Go.Proofs.YtbaiokfjoglmiaaDoor
open Go.RowKit

attribute [local go_sem] u64_wrap u8_wrap BitVec.ofInt_add BitVec.ofInt_mul ofInt_sub' ofInt_N ofInt_Nw ofInt_Z ofInt_pow ofInt_shl wrap64_N mul_shl1 N_shr Z_shr u64_and u64_or N_div8 N_div16 N_div24 N_div32 N_div40 N_div48 N_div56

theorem ret64 {a b : BitVec 64} (h : a = b) : Ending.returned (.int .u64 (N a)) = .returned (.int .u64 (N b)) := by rw [h]
theorem ret0 {b : BitVec 64} (h : 0 = b) : Ending.returned (.int .u64 0) = .returned (.int .u64 (N b)) := by rw [← h]; rfl

set_option maxHeartbeats 400000 in
theorem low_N (v : BitVec 64) (b : Int) (w : World) (h1 : -9223372036854775808 ≤ b) (h2 : b ≤ 9223372036854775807) :
    Calls Tryd.prog 72 #[.int .u64 (N v), .int .i64 b] w fun e w' => e = .returned (.int .u64 (N (lowS v b))) ∧ w = w' := by
  go_enter Tryd.func72, Tryd.ntmps72
  go_wp2
  · go_ret
    exact ⟨ret0 (by unfold lowS; rw [if_pos ‹_›]), rfl⟩
  · go_ret
    exact ⟨ret64 (by unfold lowS; rw [if_neg (by omega), if_pos ‹_›]), rfl⟩
  · go_ret
    exact ⟨ret64 (by unfold lowS; rw [if_neg (by omega), if_neg (by omega)]), rfl⟩

set_option maxHeartbeats 400000 in
theorem sign_N (v : BitVec 64) (b : Int) (w : World) (h1 : -9223372036854775808 ≤ b) (h2 : b ≤ 9223372036854775807) :
    Calls Tryd.prog 75 #[.int .u64 (N v), .int .i64 b] w fun e w' => e = .returned (.int .u64 (N (signS v b))) ∧ w = w' := by
  go_enter Tryd.func75, Tryd.ntmps75
  go_wp2
  · go_ret
    exact ⟨ret0 (by unfold signS; rw [if_pos ‹_›]), rfl⟩
  · go_ret
    exact ⟨ret64 (by unfold signS; rw [if_neg (by omega), if_pos ‹_›]), rfl⟩
  · go_ret
    exact ⟨ret64 (by unfold signS; rw [if_neg (by omega), if_neg (by omega)]), rfl⟩

set_option maxHeartbeats 400000 in
theorem num_any (s : ByteArray) (w : World) (hs : s.size ≤ maxLen) :
    Calls Tryd.prog 105 #[.string s] w fun e w' => e = .returned (.int .u64 (N (numS s))) ∧ w = w' := by
  unfold maxLen at hs
  go_enter Tryd.func105, Tryd.ntmps105
  go_wp2
  all_goals
    go_loop [3, 8] (fun v i => ∃ k : Nat, k ≤ s.size ∧ k ≤ 8 ∧ i = .int .i64 k ∧ v = .int .u64 (N (numF (byteAt s) k))) (fun _ i => 8 - (intOf i).toNat)
    case atStart => exact ⟨0, by omega, by omega, rfl, rfl⟩
    case round =>
      obtain ⟨k, hk, hk8, rfl, rfl⟩ := hrel
      by_cases hlt : k < s.size ∧ k < 8
      · obtain ⟨ha, hb⟩ := hlt
        go_wp2
        go_round
        case rel => exact ⟨k + 1, by omega, by omega, by go_num, by rw [numF_succ, ← byteAt_get s k ha]⟩
        case measure => simp [intOf]; omega
      · go_wp2
        all_goals
          go_ret
          exact ⟨ret64 (numS_eq s k (by omega)), rfl⟩

end Go.Proofs.YtbaiokfjoglmiaaDoor
end
section
namespace Go.Proofs.YtbaiokfjoglmiaaDoor.Ex
open Go Go.RowKit
def eqM : Value → Value → Bool
  | .agg ⟨a⟩, .agg ⟨b⟩ => eqL a b
  | x, y => eqI x y
theorem eqM_ok {x y : Value} (h : eqM x y = true) : x = y := by
  unfold eqM at h
  split at h
  · rw [eqL_ok h]
  · exact eqI_ok h
def eqML : List Value → List Value → Bool
  | [], [] => true
  | x :: xs, y :: ys => eqM x y && eqML xs ys
  | _, _ => false
theorem eqML_ok : ∀ {xs ys : List Value}, eqML xs ys = true → xs = ys
  | [], [], _ => rfl
  | x :: xs, y :: ys, h => by
    simp only [eqML, Bool.and_eq_true] at h
    rw [eqM_ok h.1, eqML_ok h.2]
  | [], _ :: _, h => by cases h
  | _ :: _, [], h => by cases h
/-- Of one function: arguments, and what it comes to. -/
abbrev Tab := List (List Value × Value)
def tabFind : Tab → List Value → Option Value
  | [], _ => none
  | e :: r, args => if eqML args e.1 then some e.2 else tabFind r args
theorem tabFind_mem : ∀ {t : Tab} {args : List Value} {v : Value}, tabFind t args = some v → (args, v) ∈ t
  | [], _, _, h => by cases h
  | e :: r, args, v, h => by
    simp only [tabFind] at h
    split at h
    · rename_i he
      cases h
      rw [eqML_ok he]
      simp
    · exact List.mem_cons_of_mem _ (tabFind_mem h)
def TabOk (P : Program) (h0 : List AO) (g : FuncId) : Tab → Prop
  | [] => True
  | e :: r => (∀ w, Laid h0 w → Calls P g ⟨e.1⟩ w fun x w' => x = .returned e.2 ∧ Gr w w') ∧ TabOk P h0 g r
theorem TabOk.at {P : Program} {h0 : List AO} {g : FuncId} : ∀ {t : Tab}, TabOk P h0 g t → ∀ e ∈ t, ∀ w, Laid h0 w → Calls P g ⟨e.1⟩ w fun x w' => x = .returned e.2 ∧ Gr w w'
  | [], _, e, he => by cases he
  | a :: r, h, e, he => by
    rcases List.mem_cons.1 he with q | q
    · rw [q]; exact h.1
    · exact h.2.at e q
theorem TabOk.app {P : Program} {h0 : List AO} {g : FuncId} : ∀ {s t : Tab}, TabOk P h0 g s → TabOk P h0 g t → TabOk P h0 g (s ++ t)
  | [], _, _, h => h
  | _ :: _, _, a, h => ⟨a.1, a.2.app h⟩
def memoHook (h0 : List AO) (g : FuncId) (t : Tab) : Hook := fun f args h =>
  if Nat.beq f g then
    match tabFind t args with
    | some v => if hasG h0 h then some (v, []) else none
    | none => none
  else none
theorem memoHook_ok {P : Program} {h0 : List AO} (hf : h0.all (fun o => !o.live || (match o.es with | some e => Nat.beq e GM | none => false) && o.cs.all flat) = true) {g : FuncId} {t : Tab} (ht : TabOk P h0 g t) : HookOk P (memoHook h0 g t) := by
  intro f args h v cs hv _ wb k s w H
  unfold memoHook at hv
  split at hv
  · rename_i hc
    obtain rfl := Nat.eq_of_beq_eq_true hc
    split at hv
    · rename_i v' hm
      split at hv
      · rename_i hg
        cases hv
        exact ht.at _ (tabFind_mem hm) w (H.laid hg hf)
      · cases hv
    · cases hv
  · cases hv
def orHook (a b : Hook) : Hook := fun f args h =>
  match a f args h with
  | some r => some r
  | none => b f args h
theorem orHook_ok {P : Program} {a b : Hook} (ha : HookOk P a) (hb : HookOk P b) : HookOk P (orHook a b) := by
  intro f args h v cs hv
  unfold orHook at hv
  split at hv
  · rename_i r hr
    cases hv
    exact ha f args h v cs hr
  · exact hb f args h v cs hv
/-- A call of no arguments, told by its contract. -/
def oneHook (h0 : List AO) (g : FuncId) (v : Value) : Hook := memoHook h0 g [([], v)]
end Go.Proofs.YtbaiokfjoglmiaaDoor.Ex
end
section
namespace Go.Proofs.YtbaiokfjoglmiaaDoor.Ex
open Go Go.RowKit

def inter : Cs → List Int
  | [] => []
  | c :: l => c.1 :: c.2 :: inter l
theorem inter_inj : ∀ {a b : Cs}, inter a = inter b → a = b
  | [], [], _ => rfl
  | c :: a, d :: b, h => by
    simp only [inter, List.cons.injEq] at h
    obtain ⟨h1, h2, h3⟩ := h
    rw [inter_inj h3, Prod.ext h1 h2]
  | [], _ :: _, h => by simp [inter] at h
  | _ :: _, [], h => by simp [inter] at h
noncomputable def reckonGI (P : Program) (hk : Hook) (orc : Orc) (L f : Nat) (h0 : List AO) (g : FuncId) (args : List Value) : Option (Value × List Int) :=
  match ranG P hk orc L f h0 g args with
  | some (v, _, m) => some (v, inter m.2)
  | none => none
theorem reckonI_ok {P : Program} (hng : NoNG P) {hk : Hook} (hhk : HookOk2 P hk) (orc : Orc) (L f : Nat) (h0 : List AO) {g : FuncId} {args : List Value} {v : Value} {cs : Cs} (ha : args.all flat = true) (hv : flat v = true) (h : reckonGI P hk orc L f h0 g args = some (v, inter cs))
    (he : ∀ c ∈ cs, c.1 = c.2) (w : World) (hL : Laid h0 w) : Calls P g ⟨args⟩ w fun e w' => e = .returned v ∧ Gr w w' := by
  refine reckonX_any hng hhk orc L f h0 ha hv ?_ w hL
  unfold reckonGI at h
  unfold reckonGL reckonGR
  split at h
  · rename_i v' h' m hr
    simp only [Option.some.injEq, Prod.mk.injEq] at h
    obtain ⟨rfl, h2⟩ := h
    have h3 := inter_inj h2
    try rw [hr]
    simp only [h3]
    rw [List.map_congr_left he]
  · cases h
end Go.Proofs.YtbaiokfjoglmiaaDoor.Ex
end
