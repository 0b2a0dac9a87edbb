/-
  Runs that the kernel reckons, part 27: rounds behind which all blocks that are told keep their numbers; what leads to the first blocks alone is not told.
-/
import Derived.Test.YtafegjmaldbbiaaEx26
namespace Go.Proofs.Ytafegjmaldbbiaa.Ex
open Go Go.RowKit
set_option linter.unusedVariables false
section
variable {P : Program}
theorem hopR0_ok (hng : NoNG P) {hk : Hook3} (hhk : HookOk3 P hk) {lh : LoopHook} (hll : LoopLow lh) (hlo : LoopsOk P lh) {orc : Orc} {fid : FuncId} {nn : Nat} (h1 : oneLoopN P fid nn = true) {n q q0 : Nat} {t : List Value} {h h2 : List AO} {lo : Option Nat} {cs : Cs}
    {ds : List Bool} {T : (Nat → Value) → List Value} (hun : ∀ β, unmask β 0 ds (T fun _ => .bool true) = T β) (chg : Nat → Bool) {β : Nat → Value} (hβ : FlR q0 β)
    (hr : (hopRunL P hk orc lh fid (theLoopN P fid nn) n q [] t h).map (fun r => (maskR q0 ds r.1, r.2)) = some (T fun k => bif chg k then .bool true else .bool (okR q0 (β k)), h2, lo, inter cs))
    (hq : h2.length = q) (hq0 : q0 ≤ q) (hd : deadAt ds (T fun _ => .bool true) = true) (hdb : deadB h2 = true) (hb : hopC (T fun _ => .bool true) h2 = true) (hc : ∀ c ∈ cs, c.1 = c.2) : ∃ β', FlR q0 β' ∧ HopQ P (theLoopN P fid nn) n q t h (T β') h2 (lo, []) := by
  refine hopR2_ok hng hhk hll hlo (orc := orc) h1 [] hun (fun _ => true) (β := fun _ => .bool true) (fun _ => rfl) ?_ (reH_id hq hdb hb) hq0 (by omega) hd hb hc
  have e : (T fun k => bif chg k then .bool true else .bool (okR q0 (β k))) = T fun _ => .bool true := congrArg T (funext fun k => by cases chg k <;> simp [hβ k])
  rw [hr, e]
  simp only [cond_true, (hopC_id hq (.inr trivial) hb).1]
theorem stopR0_ok (hng : NoNG P) {hk : Hook3} (hhk : HookOk3 P hk) {lh : LoopHook} (hll : LoopLow lh) (hlo : LoopsOk P lh) {orc : Orc} {fid : FuncId} {nn : Nat} (h1 : oneLoopN P fid nn = true) {n q q0 : Nat} {t : List Value} {h h2 : List AO} {e : Exit} {lo : Option Nat} {cs : Cs}
    {ds : List Bool} {T : (Nat → Value) → List Value} (hun : ∀ β, unmask β 0 ds (T fun _ => .bool true) = T β) (chg : Nat → Bool) {β : Nat → Value} (hβ : FlR q0 β)
    (hr : (stopRunL P hk orc lh fid (theLoopN P fid nn) n q [] t h).map (fun r => (r.1, r.2.map fun r => (maskR q0 ds r.1, r.2))) = some (e, some (T fun k => bif chg k then .bool true else .bool (okR q0 (β k)), h2, lo, inter cs)))
    (hq : h2.length = q) (hq0 : q0 ≤ q) (hd : deadAt ds (T fun _ => .bool true) = true) (hdb : deadB h2 = true) (hb : hopC (T fun _ => .bool true) h2 = true) (hc : ∀ c ∈ cs, c.1 = c.2) : ∃ β', FlR q0 β' ∧ StopQ P (theLoopN P fid nn) n q t h e (T β') h2 (lo, []) := by
  refine stopR2_ok hng hhk hll hlo (orc := orc) h1 [] hun (fun _ => true) (β := fun _ => .bool true) (fun _ => rfl) ?_ (reH_id hq hdb hb) hq0 (by omega) hd hb hc
  have e1 : (T fun k => bif chg k then .bool true else .bool (okR q0 (β k))) = T fun _ => .bool true := congrArg T (funext fun k => by cases chg k <;> simp [hβ k])
  rw [hr, e1]
  simp only [cond_true, (hopC_id hq (.inr trivial) hb).1]
theorem HopQ.shrink {c : Code} {n q q' : Nat} {t t1 : List Value} {h h1 : List AO} {m : Mk} (a : HopQ P c n q' t h t1 h1 m) (hq : q ≤ q') : HopQ P c n q t h t1 h1 m :=
  fun wb k hm hkq s m0 act w H N Q hQ => a wb k hm (by omega) s m0 act w H N Q fun s' a' w' hle H' => hQ s' a' w' (fun i p hi => hle i p (by omega)) H'
theorem StopQ.shrink {c : Code} {n q q' : Nat} {t t1 : List Value} {h h1 : List AO} {e : Exit} {m : Mk} (a : StopQ P c n q' t h e t1 h1 m) (hq : q ≤ q') : StopQ P c n q t h e t1 h1 m :=
  fun wb k hm hkq s m0 act w H m' => rounds_mono (fun e' a'' w'' hp => ⟨hp.1, let ⟨s'', h3, h4⟩ := hp.2; ⟨s'', fun i p hi => h3 i p (by omega), h4⟩⟩) n act w (a wb k hm (by omega) s m0 act w H m')
/-- Dead blocks at the end of what is told. -/
theorem HopQ.padded {c : Code} {n q : Nat} {t t1 : List Value} {h h1 : List AO} {m : Mk} (a : HopQ P c n q t h t1 h1 m) (r : Nat) : HopQ P c n q t h t1 (h1 ++ List.replicate r dead) m :=
  fun wb k hm hkq s m0 act w H N Q hQ => a wb k hm hkq s m0 act w H N Q fun s' a' w' hle H' => hQ s' a' w' hle ⟨H'.t, H'.d, H'.h.pad r⟩
theorem okR_mono {a b : Nat} (h : a ≤ b) {v : Value} (hv : okR a v = true) : okR b v = true := refF_mono (fun x hx => decide_eq_true (by have := of_decide_eq_true hx; omega)) 6 hv
theorem FlR.mono {a b : Nat} {β : Nat → Value} (h : a ≤ b) (hf : FlR a β) : FlR b β := fun k => okR_mono h (hf k)
end
end Go.Proofs.Ytafegjmaldbbiaa.Ex
