/-
  Runs that the kernel reckons, part 5: comparing with nil, calls, lengths; which operation is told by what.
-/
import Derived.Test.YtafegjmaldbbiaaEx4
namespace Go.Proofs.Ytafegjmaldbbiaa.Ex
open Go Go.RowKit

section
variable {P : Program} {wb : Wb} {k : Nat} {s : Ren} {h : List AO} {w : World}

theorem eqNil_d (d0 : Nat) {t : TypeId} {x x' y y' : Value} (hx : VR s x x') (hy : VR s y y') {b : Bool} (hr : oEqNil P t x y = some b) :
    (Op.equalIn (d0 + 1) t x' y').run P w = .ok b w ∧ ∀ op xo yo, (eqGuard op t xo yo x' y').run P w = .ok () w := by
  unfold oEqNil at hr
  split at hr
  · rename_i d q hu
    cases hr
    rw [hx.eq_of_flat rfl]
    have hq : ∃ q', y' = .pointer q' ∧ q'.isNone = q.isNone := by
      cases q with
      | none => exact ⟨none, hy.eq_of_flat rfl, rfl⟩
      | some a => obtain ⟨p, _, _, rfl⟩ := hy.ptr_inv; exact ⟨_, rfl, rfl⟩
    obtain ⟨q', rfl, hq⟩ := hq
    refine ⟨by simp [Op.equalIn, run_under hu, hq], fun op xo yo => ?_⟩
    unfold eqGuard; cases op <;> simp
  · rename_i d q hu
    cases hr
    obtain ⟨p, _, _, rfl⟩ := hx.ptr_inv
    rw [hy.eq_of_flat rfl]
    refine ⟨by simp [Op.equalIn, run_under hu], fun op xo yo => ?_⟩
    unfold eqGuard; cases op <;> simp
  · rename_i d l c q l' c' hu
    cases hr
    rw [hx.eq_of_flat rfl]
    have hq : ∃ q' m n, y' = .slice q' m n ∧ q'.isNone = q.isNone := by
      cases q with
      | none => exact ⟨none, _, _, hy.eq_of_flat rfl, rfl⟩
      | some a => obtain ⟨p, _, _, _, _, rfl⟩ := hy.slice_inv; exact ⟨_, _, _, rfl, rfl⟩
    obtain ⟨q', m, n, rfl, hq⟩ := hq
    refine ⟨by simp [Op.equalIn, run_under hu, hq], fun op xo yo => ?_⟩
    unfold eqGuard; cases op <;> simp
  · rename_i d q l c l' c' hu
    cases hr
    obtain ⟨p, _, _, _, _, rfl⟩ := hx.slice_inv
    rw [hy.eq_of_flat rfl]
    refine ⟨by simp [Op.equalIn, run_under hu], fun op xo yo => ?_⟩
    unfold eqGuard; cases op <;> simp
  · rename_i d e q hu
    cases hr
    rw [hx.eq_of_flat rfl]
    have hq : ∃ q', y' = .map q' ∧ q'.isNone = q.isNone := by
      cases q with
      | none => exact ⟨none, hy.eq_of_flat rfl, rfl⟩
      | some a => obtain ⟨p, _, rfl⟩ := hy.map_inv; exact ⟨_, rfl, rfl⟩
    obtain ⟨q', rfl, hq⟩ := hq
    refine ⟨by simp [Op.equalIn, run_under hu, hq], fun op xo yo => ?_⟩
    unfold eqGuard; cases op <;> simp
  · rename_i d e q hu
    cases hr
    obtain ⟨p, _, rfl⟩ := hx.map_inv
    rw [hy.eq_of_flat rfl]
    refine ⟨by simp [Op.equalIn, run_under hu], fun op xo yo => ?_⟩
    unfold eqGuard; cases op <;> simp
  · cases hr
theorem eqNil_ok {t : TypeId} {x x' y y' : Value} (hx : VR s x x') (hy : VR s y y') {b : Bool} (hr : oEqNil P t x y = some b) :
    (Op.equal t x' y').run P w = .ok b w ∧ ∀ op xo yo, (eqGuard op t xo yo x' y').run P w = .ok () w := eqNil_d 9999 hx hy hr
def oCmp (P : Program) (op : BinOp) (t : TypeId) (x y : Value) (h : List AO) : Option Out :=
  match op, oEqNil P t x y with
  | .eql, some b => some (.value (.bool b), h, none)
  | .neq, some b => some (.value (.bool (!b)), h, none)
  | _, _ => none
theorem oEqNil_form {t : TypeId} {x y : Value} {b : Bool} (hr : oEqNil P t x y = some b) :
    (∃ p q, x = .pointer p ∧ y = .pointer q) ∨ (∃ p l c q m d, x = .slice p l c ∧ y = .slice q m d) ∨ (∃ p q, x = .map p ∧ y = .map q) := by
  unfold oEqNil at hr
  split at hr
  · exact .inl ⟨_, _, rfl, rfl⟩
  · exact .inl ⟨_, _, rfl, rfl⟩
  · exact .inr (.inl ⟨_, _, _, _, _, _, rfl, rfl⟩)
  · exact .inr (.inl ⟨_, _, _, _, _, _, rfl, rfl⟩)
  · exact .inr (.inr ⟨_, _, rfl, rfl⟩)
  · exact .inr (.inr ⟨_, _, rfl, rfl⟩)
  · cases hr
theorem VR.ptr_form {s : Ren} {p : Option Addr} {v' : Value} (h : VR s (.pointer p) v') : ∃ q, v' = .pointer q := by
  cases p with
  | none => exact ⟨none, h.eq_of_flat rfl⟩
  | some a => obtain ⟨p, _, _, rfl⟩ := h.ptr_inv; exact ⟨_, rfl⟩
theorem VR.slice_form {s : Ren} {p : Option Addr} {l c : Nat} {v' : Value} (h : VR s (.slice p l c) v') : ∃ q c', v' = .slice q l c' := by
  cases p with
  | none => exact ⟨none, _, h.eq_of_flat rfl⟩
  | some a => obtain ⟨p, _, _, _, _, rfl⟩ := h.slice_inv; exact ⟨_, _, rfl⟩
theorem VR.map_form {s : Ren} {p : Option Nat} {v' : Value} (h : VR s (.map p) v') : ∃ q, v' = .map q := by
  cases p with
  | none => exact ⟨none, h.eq_of_flat rfl⟩
  | some a => obtain ⟨p, _, rfl⟩ := h.map_inv; exact ⟨_, rfl⟩
theorem cmp_ok {op : BinOp} {t : TypeId} {x x' y y' : Value} (hx : VR s x x') (hy : VR s y y') {xo yo : Operand} {r : Out} (hr : oCmp P op t x y h = some r) :
    Okay0 P s h w (aval (do eqGuard op t xo yo x' y'; binOp op t x' y')) r := by
  unfold oCmp at hr
  split at hr
  · rename_i b hb
    cases hr
    obtain ⟨h1, h2⟩ := eqNil_ok (w := w) hx hy hb
    refine okay0 (v' := .bool b) ?_ (VR.same rfl)
    have h3 : (binOp .eql t x' y').run P w = .ok (.bool b) w := by
      rcases oEqNil_form hb with ⟨p, q, rfl, rfl⟩ | ⟨p, l, c, q, m, d, rfl, rfl⟩ | ⟨p, q, rfl, rfl⟩
      · obtain ⟨_, rfl⟩ := hx.ptr_form
        obtain ⟨_, rfl⟩ := hy.ptr_form
        simp [binOp, h1]
      · obtain ⟨_, _, rfl⟩ := hx.slice_form
        obtain ⟨_, _, rfl⟩ := hy.slice_form
        simp [binOp, h1]
      · obtain ⟨_, rfl⟩ := hx.map_form
        obtain ⟨_, rfl⟩ := hy.map_form
        simp [binOp, h1]
    simp [h2, h3]
  · rename_i b hb
    cases hr
    obtain ⟨h1, h2⟩ := eqNil_ok (w := w) hx hy hb
    refine okay0 (v' := .bool !b) ?_ (VR.same rfl)
    have h3 : (binOp .neq t x' y').run P w = .ok (.bool !b) w := by
      rcases oEqNil_form hb with ⟨p, q, rfl, rfl⟩ | ⟨p, l, c, q, m, d, rfl, rfl⟩ | ⟨p, q, rfl, rfl⟩
      · obtain ⟨_, rfl⟩ := hx.ptr_form
        obtain ⟨_, rfl⟩ := hy.ptr_form
        simp [binOp, h1]
      · obtain ⟨_, _, rfl⟩ := hx.slice_form
        obtain ⟨_, _, rfl⟩ := hy.slice_form
        simp [binOp, h1]
      · obtain ⟨_, rfl⟩ := hx.map_form
        obtain ⟨_, rfl⟩ := hy.map_form
        simp [binOp, h1]
    simp [h2, h3]
  · cases hr

/-! Calls. -/
def oCall (P : Program) (f : Value) (args : List Value) (h : List AO) : Option Out :=
  match f with
  | .func (.func g) a c =>
    match P.funcs[g]? with
    | some fn => if fn.body.isSome then some (.enter g ⟨a.toList ++ args ++ c.toList⟩, h, none) else none
    | none => none
  | _ => none
theorem call_ok (hng : NoNG P) {ρ ρ' : Operand → Value} {c : Call} {f : Operand} (hc : c.callee = .value f) (type : TypeId) (hf : VR s (ρ f) (ρ' f)) (ha : LR s (c.args.toList.map ρ) (c.args.toList.map ρ')) {r : Out}
    (hr : oCall P (ρ f) (c.args.toList.map ρ) h = some r) : Okay0 P s h w (do let d ← resolve ρ' c type; invoke d.target d.args) r := by
  unfold oCall at hr
  split at hr
  · rename_i g a b hfv
    rw [hfv] at hf
    obtain ⟨a⟩ := a
    obtain ⟨b⟩ := b
    obtain ⟨ys, vs, hf', h1, h2⟩ := hf.func_inv
    split at hr
    · rename_i fn hfn
      split at hr
      · rename_i hcond
        cases hr
        have hb : ¬ fn.body = none := by
          intro e
          rw [e] at hcond
          simp at hcond
        have hn := hng g fn hfn
        refine ⟨.enter g ((⟨ys⟩ : Array Value) ++ c.args.map ρ' ++ (⟨vs⟩ : Array Value)), ?_, ⟨rfl, ?_⟩, rfl⟩
        · simp [resolve, hc, hf', Deferred.ofValue, invoke, callFunc, program, Sem.run, hfn, hn, hb]
        · simp only [Array.toList_append, Array.toList_map]
          rw [List.append_assoc]
          rw [List.append_assoc]
          exact h1.append (ha.append h2)
      · cases hr
    · cases hr
  · cases hr
def oLen (P : Program) (c : Call) (args : List Value) (h : List AO) : Option Out :=
  match c.argTypes[0]?, args with
  | some t, x :: _ =>
    match P.underlying t, x with
    | some (.slice _), .slice (some _) n _ => some (.value (.int .i64 n), h, none)
    | some (.array n _), _ => some (.value (.int .i64 n), h, none)
    | _, _ => none
  | _, _ => none
theorem len_ok {ρ ρ' : Operand → Value} {c : Call} (hc : c.callee = .builtin .len) (type : TypeId) (ha : LR s (c.args.toList.map ρ) (c.args.toList.map ρ')) {r : Out}
    (hr : oLen P c (c.args.toList.map ρ) h = some r) : Okay0 P s h w (do let d ← resolve ρ' c type; invoke d.target d.args) r := by
  unfold oLen at hr
  split at hr
  · rename_i t x rest ht hxs
    obtain ⟨y, hy, hxy⟩ := ha.get (i := 0) (x := x) (by rw [hxs]; rfl)
    have hy0 : (c.args.map ρ')[0]? = some y := by
      rw [← hy, ← Array.toList_map]; exact Array.getElem?_toList.symm
    split at hr
    · rename_i e a n cp hu
      cases hr
      obtain ⟨p, c', _, _, _, rfl⟩ := hxy.slice_inv
      refine ⟨.value (.int .i64 n), ?_, VR.same rfl, rfl⟩
      simp [resolve, hc, invoke, builtin, Builtin.len_, ht, hy0, run_under hu, goInt]
    · rename_i n e hu
      cases hr
      refine ⟨.value (.int .i64 n), ?_, VR.same rfl, rfl⟩
      simp [resolve, hc, invoke, builtin, Builtin.len_, ht, hy0, run_under hu, goInt]
    · cases hr
  · cases hr
end
end Go.Proofs.Ytafegjmaldbbiaa.Ex
