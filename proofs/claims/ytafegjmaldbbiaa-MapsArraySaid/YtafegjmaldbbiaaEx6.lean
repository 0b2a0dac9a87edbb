/-
  Runs that the kernel reckons, part 6: statements, loops and calls.
-/
import Derived.Test.YtafegjmaldbbiaaEx5
import Derived.LoopN
import Derived.Scope
namespace Go.Proofs.Ytafegjmaldbbiaa.Ex
open Go Go.RowKit

/-- Numbers that must be the same (behind two orders). -/
abbrev Cs := List (Int × Int)
/-- The lowest block that was written, and what must be the same. -/
abbrev Mk := Option Nat × Cs
structure St where
  t : List Value
  h : List AO
  m : Mk
def lowO (a b : Option Nat) : Option Nat :=
  match a, b with
  | none, b => b
  | some a, none => some a
  | some a, some b => some (min a b)
def low (a b : Mk) : Mk := (lowO a.1 b.1, a.2 ++ b.2)
def BndO (k : Nat) (m : Option Nat) : Prop := ∀ i, m = some i → k ≤ i
def Bnd (k : Nat) (m : Mk) : Prop := BndO k m.1 ∧ ∀ c ∈ m.2, c.1 = c.2
theorem bnd_lowO {k : Nat} {a b : Option Nat} (h : BndO k (lowO a b)) : BndO k a ∧ BndO k b := by
  cases a with
  | none => exact ⟨fun i h => (by cases h), h⟩
  | some a =>
    cases b with
    | none => exact ⟨h, fun i h => (by cases h)⟩
    | some b =>
      have := h _ rfl
      exact ⟨fun i hi => (by cases hi; omega), fun i hi => (by cases hi; omega)⟩
theorem bnd_low {k : Nat} {a b : Mk} (h : Bnd k (low a b)) : Bnd k a ∧ Bnd k b := by
  obtain ⟨h1, h2⟩ := h
  obtain ⟨g1, g2⟩ := bnd_lowO h1
  exact ⟨⟨g1, fun c hc => h2 c (List.mem_append_left _ hc)⟩, ⟨g2, fun c hc => h2 c (List.mem_append_right _ hc)⟩⟩
def lookA (t : List Value) : Operand → Value
  | .tmp i => t.getD i undef
  | .const v => v
  | .func f => .func (.func f) #[] #[]
  | .global g => .pointer (some ⟨g, 0, none⟩)
/-- Is a block a package's variable, at its own place? -/
def isG (h : List AO) (g : Nat) : Bool :=
  match h[g]? with
  | some o => o.live && (match o.es with | some e => Nat.beq e GM | none => false)
  | none => false
def okX (h : List AO) : Operand → Bool
  | .const v => flat v
  | .global g => isG h g
  | _ => true
def GlOk (s : Ren) (h : List AO) : Prop := ∀ g, isG h g = true → ∃ p, s g = some p ∧ p.blk = g ∧ p.off = 0
theorem HR.glob {wb : Wb} {k : Nat} {s : Ren} {h : List AO} {w : World} (H : HR wb k s h w) : GlOk s h := by
  intro g hg
  unfold isG at hg
  cases ho : h[g]? with
  | none => rw [ho] at hg; cases hg
  | some o =>
    rw [ho] at hg
    simp only [Bool.and_eq_true] at hg
    obtain ⟨p, hp, he, _⟩ := H.obj g o ho hg.1
    have h2 := hg.2
    cases hes : o.es with
    | none => rw [hes] at h2; cases h2
    | some e =>
      rw [hes] at h2
      have h3 : e = GM := Nat.eq_of_beq_eq_true h2
      obtain ⟨h4, h5⟩ := H.gl g p hp (by rw [he, hes, h3])
      exact ⟨p, hp, h4, h5⟩
def putA (t : List Value) (d : Option Tmp) (v : Value) : List Value :=
  match d with
  | some d => t.set d v
  | none => t
def yA (ops : Array Oper) (t : List Value) (j : Nat) : Option Bool :=
  match ((ops[j]?).bind (·.dst)).bind (fun d => t[d]?) with
  | some (.bool b) => some b
  | _ => none
def wantedA (ops : Array Oper) (t : List Value) (o : Oper) : Bool :=
  match o.guard with
  | none => true
  | some (j, want) => yA ops t j == some want

structure SR (wb : Wb) (k : Nat) (s : Ren) (x : St) (a : Act) (w : World) : Prop where
  t : LR s x.t a.tmps.toList
  d : a.defers = []
  h : HR wb k s x.h w

theorem eval_ok {s : Ren} {t : List Value} {a : Act} {hp : List AO} (h : LR s t a.tmps.toList) (hgl : GlOk s hp) {x : Operand} (hx : okX hp x = true) : VR s (lookA t x) (a.eval x) := by
  cases x with
  | tmp i =>
    have := h.getD i (d := undef) rfl
    simpa [lookA, Act.eval, List.getD, Array.getD_eq_getD_getElem?] using this
  | const v => exact .same hx
  | func f => exact .same rfl
  | global g =>
    obtain ⟨p, h1, h2, h3⟩ := hgl g hx
    have := VR.ptr (s := s) (a := ⟨g, 0, none⟩) rfl h1
    rw [h2, h3] at this
    exact this
theorem put_ok {s : Ren} {t : List Value} {a : Act} (h : LR s t a.tmps.toList) (d : Option Tmp) {v v' : Value} (hv : VR s v v') : LR s (putA t d v) (a.put d v').tmps.toList := by
  cases d with
  | none => exact h
  | some d => simpa [putA, Act.put] using h.set hv d
theorem vr_bool {s : Ren} {v : Value} {b : Bool} (h : VR s v (.bool b)) : v = .bool b := by
  generalize e : Value.bool b = v' at h
  cases h with
  | same _ => rfl
  | _ => cases e
theorem yielded_ok {s : Ren} (ops : Array Oper) {t : List Value} {a : Act} (h : LR s t a.tmps.toList) (j : Nat) : yielded ops a.tmps j = yA ops t j := by
  unfold yielded yA
  cases hd : (ops[j]?).bind (·.dst) with
  | none => rfl
  | some d =>
    simp only [Option.bind_some]
    cases hv : t[d]? with
    | none =>
      have : a.tmps[d]? = none := by
        rw [List.getElem?_eq_none_iff] at hv
        rw [Array.getElem?_eq_none_iff]
        have := h.1
        simp at this
        omega
      rw [this]
    | some v =>
      obtain ⟨v', hv', hr⟩ := h.get hv
      rw [Array.getElem?_toList] at hv'
      rw [hv']
      by_cases hb : ∃ b, v = .bool b
      · obtain ⟨b, rfl⟩ := hb
        rw [hr.bool_inv]
      · have hb1 : ∀ b, v ≠ .bool b := fun b e => hb ⟨b, e⟩
        have hb2 : ∀ b, v' ≠ .bool b := fun b e => hb ⟨b, vr_bool (e ▸ hr)⟩
        have e1 : ∀ u : Value, (∀ b, u ≠ .bool b) → (match some u with | some (Value.bool b) => some b | _ => none) = none := by
          intro u hu
          cases u <;> first | rfl | exact absurd rfl (hu _)
        exact (e1 v' hb2).trans (e1 v hb1).symm
theorem wanted_ok {s : Ren} {ops : Array Oper} {t : List Value} {a : Act} (h : LR s t a.tmps.toList) (o : Oper) : Region.wanted o (yielded ops a.tmps) = wantedA ops t o := by
  unfold Region.wanted wantedA
  cases o.guard with
  | none => rfl
  | some g => simp only [yielded_ok ops h]

/-- How temporaries are read and laid: as they are (accP), or by the kernel's own recursors (accQ): the same. -/
structure Acc where
  look : List Value → Operand → Value
  put : List Value → Option Tmp → Value → List Value
  same : Option Out → Option Out → Bool
noncomputable def sameC (a b : Option Out) : Bool := @decide (a = b) (Classical.propDecidable _)
theorem sameC_ok {a b : Option Out} (h : sameC a b = true) : a = b := @of_decide_eq_true _ (Classical.propDecidable _) h
theorem sameC_of {a b : Option Out} (h : a = b) : sameC a b = true := @decide_eq_true _ (Classical.propDecidable _) h
noncomputable def accP : Acc := ⟨lookA, putA, sameC⟩
/-- For compiled tools alone. -/
def accD : Acc := ⟨lookA, putA, fun _ _ => true⟩
noncomputable def nthQ (l : List Value) : Nat → Value := List.rec (motive := fun _ => Nat → Value) (fun _ => undef) (fun x _ ih n => Nat.rec (motive := fun _ => Value) x (fun m _ => ih m) n) l
noncomputable def setQ (v : Value) (l : List Value) : Nat → List Value := List.rec (motive := fun _ => Nat → List Value) (fun _ => []) (fun x r ih n => Nat.rec (motive := fun _ => List Value) (v :: r) (fun m _ => x :: ih m) n) l
theorem nthQ_eq : ∀ (l : List Value) (n : Nat), nthQ l n = l.getD n undef
  | [], _ => rfl
  | _ :: _, 0 => rfl
  | _ :: l, n + 1 => nthQ_eq l n
theorem setQ_eq (v : Value) : ∀ (l : List Value) (n : Nat), setQ v l n = l.set n v
  | [], _ => rfl
  | _ :: _, 0 => rfl
  | x :: l, n + 1 => congrArg (x :: ·) (setQ_eq v l n)
noncomputable def accQ : Acc := ⟨fun t x => match x with | .tmp i => nthQ t i | .const v => v | .func f => .func (.func f) #[] #[] | .global g => .pointer (some ⟨g, 0, none⟩), fun t d v => match d with | some d => setQ v t d | none => t, sameC⟩
theorem accQ_eq : accQ = accP := by
  unfold accQ accP
  congr 1
  · funext t x
    cases x <;> first | rfl | exact nthQ_eq t _
  · funext t d v
    cases d <;> first | rfl | exact setQ_eq v t _
abbrev OpFn := (Operand → Value) → Oper → List AO → Option Out
def OpOk (P : Program) (op : OpFn) : Prop :=
  ∀ (wb : Wb) (k : Nat) (s : Ren) (h : List AO) (w : World) (ρ ρ' : Operand → Value) (o : Oper) (r : Out), HR wb k s h w → (∀ x ∈ o.op.operands, VR s (ρ x) (ρ' x)) → op ρ o h = some r → BndO k r.2.2 →
    Okay P wb k s w (execOp ρ' o) r
structure Rec where
  run : FuncId → Code → St → Option (Exit × St)
  hook : FuncId → List Value → List AO → Option (Value × List AO × Cs)
  orc : Tmp → List Value → Option Value
  acc : Acc
/-- Calls that are told by a contract. -/
def HookOk (P : Program) (hk : FuncId → List Value → List AO → Option (Value × Cs)) : Prop :=
  ∀ (f : FuncId) (args : List Value) (h : List AO) (v : Value) (cs : Cs), hk f args h = some (v, cs) → (∀ c ∈ cs, c.1 = c.2) → ∀ (wb : Wb) (k : Nat) (s : Ren) (w : World), HR wb k s h w → Calls P f ⟨args⟩ w fun e w' => e = .returned v ∧ Gr w w'
/-- The same, of any arguments, as they are told. -/
def HookOk2 (P : Program) (hk : FuncId → List Value → List AO → Option (Value × Cs)) : Prop :=
  ∀ (f : FuncId) (args : List Value) (h : List AO) (v : Value) (cs : Cs), hk f args h = some (v, cs) → (∀ c ∈ cs, c.1 = c.2) → ∀ (wb : Wb) (k : Nat) (s : Ren) (w : World) (args' : List Value), HR wb k s h w → LR s args args' →
    Calls P f ⟨args'⟩ w fun e w' => e = .returned v ∧ Gr w w'
/-- Calls that are told by a contract and may lay blocks behind those that are there. -/
abbrev Hook3 := FuncId → List Value → List AO → Option (Value × List AO × Cs)
/-- From here on a block's number of elements means: what a call leaves in a block that is there already. -/
def EFF : Nat := 4000000000
def effB (o : AO) : Option Nat :=
  bif o.live then none else match o.es with
  | some e => bif Nat.ble EFF e then some (e - EFF) else none
  | none => none
def setC (h : List AO) (b : Nat) (cs : List Value) : List AO :=
  match h[b]? with
  | some o => h.set b ⟨o.live, o.es, cs⟩
  | none => h
/-- The memory behind a call that is told: what it leaves in blocks, and blocks behind those that are there. -/
def hookH : List AO → List AO → List AO
  | h, [] => h
  | h, o :: new =>
    match effB o with
    | some b => hookH (setC h b o.cs) new
    | none => h ++ o :: new
def effL : List AO → Option Nat
  | [] => none
  | o :: new =>
    match effB o with
    | some b => lowO (some b) (effL new)
    | none => none
def plainN : List AO → Bool
  | [] => true
  | o :: _ => (effB o).isNone
theorem hookH_plain {h new : List AO} (hp : plainN new = true) : hookH h new = h ++ new := by
  cases new with
  | nil => simp [hookH]
  | cons o new =>
    change (effB o).isNone = true at hp
    unfold hookH
    cases he : effB o with
    | none => rfl
    | some b => rw [he] at hp; cases hp
theorem effL_plain {new : List AO} (hp : plainN new = true) : effL new = none := by
  cases new with
  | nil => rfl
  | cons o new =>
    change (effB o).isNone = true at hp
    unfold effL
    cases he : effB o with
    | none => rfl
    | some b => rw [he] at hp; cases hp
def HookOk3 (P : Program) (hk : Hook3) : Prop :=
  ∀ (f : FuncId) (args : List Value) (h : List AO) (v : Value) (new : List AO) (cs : Cs), hk f args h = some (v, new, cs) → (∀ c ∈ cs, c.1 = c.2) → ∀ (wb : Wb) (k : Nat) (s : Ren) (w : World) (args' : List Value), BndO k (effL new) → HR wb k s h w → LR s args args' →
    Calls P f ⟨args'⟩ w fun e w' => ∃ s' v', e = .returned v' ∧ Le s s' ∧ HR wb k s' (hookH h new) w' ∧ VR s' v v'
def liftH (hk : FuncId → List Value → List AO → Option (Value × Cs)) : Hook3 := fun f args h =>
  match hk f args h with
  | some (v, cs) => if flat v then some (v, [], cs) else none
  | none => none
theorem lift_ok {P : Program} {hk : FuncId → List Value → List AO → Option (Value × Cs)} (hh : HookOk2 P hk) : HookOk3 P (liftH hk) := by
  intro f args h v new cs hv hc wb k s w args' hb H ha
  unfold liftH at hv
  split at hv
  · rename_i u cs0 hu
    split at hv
    · rename_i hfl
      cases hv
      refine (hh f args h _ _ hu hc wb k s w args' H ha).mono ?_
      rintro e w' ⟨rfl, hg⟩
      exact ⟨s, _, rfl, Le.refl s, H.grow hg, .same hfl⟩
    · cases hv
  · cases hv
def guardH (hk : FuncId → List Value → List AO → Option (Value × Cs)) : FuncId → List Value → List AO → Option (Value × Cs) := fun f args h => if args.all flat then hk f args h else none
theorem guard_ok {P : Program} {hk : FuncId → List Value → List AO → Option (Value × Cs)} (hh : HookOk P hk) : HookOk2 P (guardH hk) := by
  intro f args h v cs hv hc wb k s w args' H ha
  unfold guardH at hv
  split at hv
  · rename_i hall
    rw [ha.eq_of_flat hall]
    exact hh f args h v cs hv hc wb k s w H
  · cases hv
def Post (wb : Wb) (k : Nat) (s : Ren) (x : St) (e : Exit) : Exit → Act → World → Prop := fun e' a w => e' = e ∧ ∃ s', Le s s' ∧ SR wb k s' x a w
/-- What is run of a function's body, and of its parts, is so of any run. -/
def RunOk (P : Program) (rec : Rec) : Prop :=
  ∃ good : FuncId → Code → Prop, (∀ (f : FuncId) (fn : Func) (c : Code), P.funcs[f]? = some fn → fn.body = some c → good f c) ∧
    ∀ (wb : Wb) (k : Nat) (s : Ren) (g : FuncId) (c : Code) (x x' : St) (e : Exit) (a : Act) (w : World), good g c → rec.run g c x = some (e, x') → Bnd k x'.m → SR wb k s x a w → c.wp P (Post wb k s x' e) a w
def RecOk (P : Program) (rec : Rec) : Prop := RunOk P rec ∧ HookOk3 P rec.hook ∧ NoNG P ∧ rec.acc = accP

/-! Results. -/
def resL (P : Program) (t : List Value) (h : List AO) : List ResultVar → Option (List Value)
  | [] => some []
  | .tmp i :: rs =>
    match resL P t h rs with
    | some vs => some (t.getD i undef :: vs)
    | none => none
  | .cell a ty :: rs =>
    match oLoad P ty (t.getD a undef) h, resL P t h rs with
    | some (.value v, _, _), some vs => some (v :: vs)
    | _, _ => none
def oneOf (vs : List Value) : Value :=
  match vs with
  | [v] => v
  | vs => .tuple ⟨vs⟩
theorem oneOf_ok {s : Ren} {vs vs' : List Value} (h : LR s vs vs') : VR s (oneOf vs) (oneOf vs') := by
  match vs, vs', h with
  | [], [], _ => exact .same rfl
  | [v], [v'], h => exact h.uncons.1
  | a :: b :: c, a' :: b' :: c', h => exact VR.tuple h.1 h.2
  | [], _ :: _, h => have := h.1; simp at this
  | [_], [], h => have := h.1; simp at this
  | [_], _ :: _ :: _, h => have := h.1; simp at this
  | _ :: _ :: _, [], h => have := h.1; simp at this
  | _ :: _ :: _, [_], h => have := h.1; simp at this
def resOp (tmps : Array Value) : ResultVar → Sem Value
  | .tmp t => pure (tmps.getD t undef)
  | .cell a t => do loadVar t (← asAddr (tmps.getD a undef))
theorem resL_ok {P : Program} {wb : Wb} {k : Nat} {s : Ren} {t : List Value} {h : List AO} {tmps : Array Value} {w : World} (ht : LR s t tmps.toList) (H : HR wb k s h w) :
    ∀ (l : List ResultVar) (vs : List Value), resL P t h l = some vs → ∃ vs', (l.mapM (resOp tmps)).run P w = .ok vs' w ∧ LR s vs vs'
  | [], vs, hr => by
    simp [resL] at hr
    subst hr
    exact ⟨[], by simp, LR.nil s⟩
  | .tmp i :: rs, vs, hr => by
    simp only [resL] at hr
    split at hr
    · rename_i vs0 h0
      cases hr
      obtain ⟨vs', h1, h2⟩ := resL_ok ht H rs vs0 h0
      refine ⟨tmps.getD i undef :: vs', ?_, LR.cons ?_ h2⟩
      · simp only [List.mapM_cons, resOp, Sem.run_bind, Sem.run_pure, Result.andThen_ok, h1]
      · have := ht.getD i (d := undef) rfl
        simpa [List.getD, Array.getD_eq_getD_getElem?] using this
    · cases hr
  | .cell ad ty :: rs, vs, hr => by
    simp only [resL] at hr
    split at hr
    · rename_i v h' m' vs0 hl h0
      cases hr
      obtain ⟨vs', h1, h2⟩ := resL_ok ht H rs vs0 h0
      have hx : VR s (t.getD ad undef) (tmps.getD ad undef) := by
        have := ht.getD ad (d := undef) rfl
        simpa [List.getD, Array.getD_eq_getD_getElem?] using this
      have hshape : ∃ q, t.getD ad undef = .pointer (some q) := by
        unfold oLoad at hl
        split at hl
        · rename_i q d i e _ _; exact ⟨q, e⟩
        · cases hl
      obtain ⟨q, hq⟩ := hshape
      rw [hq] at hx
      obtain ⟨p, _, hp, hx'⟩ := hx.ptr_inv
      rw [hq] at hl
      unfold oLoad at hl
      split at hl
      · rename_i q2 d i hqe hd hi
        cases hqe
        split at hl
        · rename_i hag
          split at hl
          · rename_i us hus
            cases hl
            obtain ⟨hlen, us', hv, hc⟩ := aload_spec H.mr hus hp
            have e2 := run_loadCells_list (P := P) w ⟨p.blk, p.off + q.off, none⟩ us' hc
            rw [← hv.1, hlen] at e2
            refine ⟨.agg ⟨us'⟩ :: vs', ?_, LR.cons (VR.agg hv.1 hv.2) h2⟩
            have e3 : (resOp tmps (.cell ad ty)).run P w = .ok (.agg ⟨us'⟩) w := by
              simp only [resOp, Sem.run_bind, hx', asAddr, Sem.run_pure, Result.andThen_ok, loadVar, run_aggD hd, hag, if_true, run_size hi, e2]
            simp only [List.mapM_cons, Sem.run_bind, e3, Result.andThen_ok, h1, Sem.run_pure]
          · cases hl
        · rename_i hag
          split at hl
          · rename_i u rest hus
            cases hl
            obtain ⟨hlen, us', hv, hc⟩ := aload_spec H.mr hus hp
            cases us' with
            | nil => have := hv.1; simp at this
            | cons u' rest' =>
              have e2 := hc 0 u' rfl
              rw [add_none] at e2
              simp only [Nat.add_zero] at e2
              refine ⟨u' :: vs', ?_, LR.cons hv.uncons.1 h2⟩
              have e3 : (resOp tmps (.cell ad ty)).run P w = .ok u' w := by
                simp only [resOp, Sem.run_bind, hx', asAddr, Sem.run_pure, Result.andThen_ok, loadVar, run_aggD hd, hag]
                simp [e2]
              simp only [List.mapM_cons, Sem.run_bind, e3, Result.andThen_ok, h1, Sem.run_pure]
          · cases hl
      · cases hl
    · cases hr
theorem results_ok {P : Program} {wb : Wb} {k : Nat} {s : Ren} {t : List Value} {h : List AO} {tmps : Array Value} {w : World} (ht : LR s t tmps.toList) (H : HR wb k s h w) {fn : Func} {vs : List Value}
    (hr : resL P t h fn.results.toList = some vs) : ∃ v', (results fn tmps).run P w = .ok v' w ∧ VR s (oneOf vs) v' := by
  obtain ⟨vs', h1, h2⟩ := resL_ok (P := P) ht H fn.results.toList vs hr
  refine ⟨oneOf vs', ?_, oneOf_ok h2⟩
  have e : results fn tmps = (do let vs ← fn.results.mapM (resOp tmps); pure (if h : vs.size = 1 then vs[0] else .tuple vs)) := rfl
  rw [e, Array.mapM_eq_mapM_toList]
  simp only [Sem.run_bind, Sem.run_map, h1, Result.andThen_ok, Sem.run_pure]
  congr 1
  match vs' with
  | [] => rfl
  | [_] => rfl
  | _ :: _ :: _ => simp [oneOf]
end Go.Proofs.Ytafegjmaldbbiaa.Ex
