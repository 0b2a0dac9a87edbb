/-
  Runs that the kernel reckons, part 26: rounds that keep all blocks, of whose temporaries some are not told, whatever stands there.
-/
import Derived.Test.YtafegjmaldbbiaaEx25
namespace Go.Proofs.Ytafegjmaldbbiaa.Ex
open Go Go.RowKit
set_option linter.unusedVariables false
def maskQ : List Bool → List Value → List Value
  | d :: ds, v :: vs => (bif d then .bool true else v) :: maskQ ds vs
  | _, vs => vs
theorem unmaskQ_of {β : Nat → Value} : ∀ {i : Nat} {ds : List Bool} {xs ts : List Value}, maskQ ds xs = ts → (∀ j x, xs[j]? = some x → β (i + j) = x) → xs = unmask β i ds ts
  | i, [], xs, ts, h, _ => by
    have e : maskQ [] xs = xs := by cases xs <;> rfl
    have e2 : unmask β i [] ts = ts := by cases ts <;> rfl
    rw [e2, ← h, e]
  | i, d :: ds, [], ts, h, _ => by
    cases ts with
    | nil => rfl
    | cons t ts => simp [maskQ] at h
  | i, d :: ds, x :: xs, [], h, _ => by simp [maskQ] at h
  | i, d :: ds, x :: xs, t :: ts, h, hb => by
    simp only [maskQ, List.cons.injEq] at h
    obtain ⟨h1, h2⟩ := h
    have ih := unmaskQ_of (β := β) (i := i + 1) h2 (fun j y hy => by rw [show i + 1 + j = i + (j + 1) by omega]; exact hb (j + 1) y (by simpa using hy))
    simp only [unmask, ← ih]
    congr 1
    cases d
    · exact h1
    · have h5 := hb 0 x rfl
      rw [Nat.add_zero] at h5
      exact h5.symm
def atQ (xs : List Value) (k : Nat) : Value := xs.getD k .nilFunc
theorem atQ_at {xs : List Value} {j : Nat} {x : Value} (h : xs[j]? = some x) : atQ xs j = x := by
  unfold atQ
  rw [List.getD_eq_getElem?_getD, h]
  rfl
section
variable {P : Program} {c : Code}
theorem Hop.trans {n N : Nat} {t t1 t2 : List Value} {h h1 h2 : List AO} {m1 m2 m3 : Mk} (a : Hop P c n t h t1 h1 m1) (b : Hop P c N t1 h1 t2 h2 m2) (hm1 : ∀ k, Bnd k m3 → Bnd k m1) (hm2 : ∀ k, Bnd k m3 → Bnd k m2) : Hop P c (n + N) t h t2 h2 m3 := by
  intro wb k hm s m act w H M Q hQ
  rw [Nat.add_assoc]
  exact a wb k (hm1 k hm) s m act w H (N + M) Q fun s' a' w' hle H' => b wb k (hm2 k hm) s' m a' w' H' M Q fun s'' a'' w'' hle' H'' => hQ s'' a'' w'' (hle.trans hle') H''
theorem Hop.zero (t : List Value) (h : List AO) (m : Mk) : Hop P c 0 t h t h m := by
  intro wb k hm s m a w H N Q hQ
  rw [Nat.zero_add]
  exact hQ s a w (Le.refl s) H
theorem Hop.stop' {n N : Nat} {t t1 t2 : List Value} {h h1 h2 : List AO} {e : Exit} {m1 m2 m3 : Mk} (a : Hop P c n t h t1 h1 m1) (b : Stop P c N t1 h1 e t2 h2 m2) (hm1 : ∀ k, Bnd k m3 → Bnd k m1) (hm2 : ∀ k, Bnd k m3 → Bnd k m2) : Stop P c (n + N) t h e t2 h2 m3 := by
  intro wb k hm s m act w H m'
  exact a wb k (hm1 k hm) s m act w H N _ fun s' a' w' hle H' => rounds_le hle N a' w' (b wb k (hm2 k hm) s' m a' w' H' m')
theorem hopM_ok (hng : NoNG P) {hk : Hook3} (hhk : HookOk3 P hk) {lh : LoopHook} (hll : LoopLow lh) (hlo : LoopsOk P lh) {orc : Orc} {fid : FuncId} {nn : Nat} (h1 : oneLoopN P fid nn = true) {n : Nat} {t : List Value} {h h2 : List AO} {lo : Option Nat} {cs : Cs}
    {ds : List Bool} {T : (Nat → Value) → List Value} (hun : ∀ β, unmask β 0 ds (T fun _ => .bool true) = T β)
    (hr : (iterB (bodyL P hk orc lh fid (theLoopN P fid nn)) n ⟨t, h, (none, [])⟩).map (fun x => (maskQ ds x.t, x.h, x.m.1, inter x.m.2)) = some (T fun _ => .bool true, h2, lo, inter cs)) (hc : ∀ c ∈ cs, c.1 = c.2) : ∃ β', Hop P (theLoopN P fid nn) n t h (T β') h2 (lo, []) := by
  cases hx : iterB (bodyL P hk orc lh fid (theLoopN P fid nn)) n ⟨t, h, (none, [])⟩ with
  | none => rw [hx] at hr; cases hr
  | some x =>
    obtain ⟨xt, xh, xm⟩ := x
    rw [hx] at hr
    simp only [Option.map_some, Option.some.injEq, Prod.mk.injEq] at hr
    obtain ⟨g1, g2, g3, g4⟩ := hr
    have g4 := inter_inj g4
    subst g2
    refine ⟨atQ xt, ?_⟩
    have e := unmaskQ_of (β := atQ xt) (i := 0) g1 (fun j x hx => by rw [Nat.zero_add]; exact atQ_at hx)
    rw [hun] at e
    rw [← e]
    intro wb k hm s m a w H N Q hQ
    exact iterB_ok (bodyL_ok hng hhk hll hlo orc fid _ (loopV_of hlo h1)) wb k (bodyL_low orc hll fid _ k) n ⟨t, h, (none, [])⟩ ⟨xt, xh, xm⟩ hx (by
      obtain ⟨x1, x2⟩ := xm
      simp only at g3 g4
      subst g3 g4
      exact ⟨hm.1, hc⟩) s a w ⟨H.t, H.d, H.h⟩ N Q fun s' a' w' hle H' => hQ s' a' w' hle ⟨H'.t, H'.d, H'.h⟩
theorem stopM_ok (hng : NoNG P) {hk : Hook3} (hhk : HookOk3 P hk) {lh : LoopHook} (hll : LoopLow lh) (hlo : LoopsOk P lh) {orc : Orc} {fid : FuncId} {nn : Nat} (h1 : oneLoopN P fid nn = true) {n : Nat} {t : List Value} {h h2 : List AO} {e : Exit} {lo : Option Nat} {cs : Cs}
    {ds : List Bool} {T : (Nat → Value) → List Value} (hun : ∀ β, unmask β 0 ds (T fun _ => .bool true) = T β)
    (hr : (loopN (bodyL P hk orc lh fid (theLoopN P fid nn)) n ⟨t, h, (none, [])⟩).map (fun r => (r.1, maskQ ds r.2.t, r.2.h, r.2.m.1, inter r.2.m.2)) = some (e, T fun _ => .bool true, h2, lo, inter cs)) (hc : ∀ c ∈ cs, c.1 = c.2) : ∃ β', Stop P (theLoopN P fid nn) n t h e (T β') h2 (lo, []) := by
  cases hx : loopN (bodyL P hk orc lh fid (theLoopN P fid nn)) n ⟨t, h, (none, [])⟩ with
  | none => rw [hx] at hr; cases hr
  | some x =>
    obtain ⟨e1, xt, xh, xm⟩ := x
    rw [hx] at hr
    simp only [Option.map_some, Option.some.injEq, Prod.mk.injEq] at hr
    obtain ⟨rfl, g1, g2, g3, g4⟩ := hr
    have g4 := inter_inj g4
    subst g2
    refine ⟨atQ xt, ?_⟩
    have e := unmaskQ_of (β := atQ xt) (i := 0) g1 (fun j x hx => by rw [Nat.zero_add]; exact atQ_at hx)
    rw [hun] at e
    rw [← e]
    intro wb k hm s m a w H m'
    have st := stopL_any (bodyL_ok hng hhk hll hlo orc fid _ (loopV_of hlo h1)) (bodyL_low orc hll fid _) hx wb k (by
      obtain ⟨x1, x2⟩ := xm
      simp only at g3 g4
      subst g3 g4
      exact ⟨hm.1, hc⟩) s m a w H m'
    exact st
end
end Go.Proofs.Ytafegjmaldbbiaa.Ex
