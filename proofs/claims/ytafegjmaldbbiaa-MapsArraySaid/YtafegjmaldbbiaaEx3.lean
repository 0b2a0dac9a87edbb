/-
  Runs that the kernel reckons, part 3: the operations that touch memory, or hand on addresses, one by one.
-/
import Derived.Test.YtafegjmaldbbiaaEx2
namespace Go.Proofs.Ytafegjmaldbbiaa.Ex
open Go Go.RowKit

abbrev Out := Next × List AO × Option Nat
/-- No function is the one call that the model answers by itself. -/
def NoNG (P : Program) : Prop := ∀ (f : FuncId) (fn : Func), P.funcs[f]? = some fn → ¬ fn.name = "runtime.NumGoroutine"
def noNGB (P : Program) : Bool := P.funcs.toList.all fun fn => fn.name != "runtime.NumGoroutine"
theorem noNG_ok {P : Program} (h : noNGB P = true) : NoNG P := by
  intro f fn hf
  have h1 := List.all_eq_true.1 h fn (List.mem_of_getElem? (by rw [Array.getElem?_toList]; exact hf))
  simpa using h1
def NR (s : Ren) : Next → Next → Prop
  | .value v, .value v' => VR s v v'
  | .skip, .skip => True
  | .enter f xs, .enter g ys => f = g ∧ LR s xs.toList ys.toList
  | _, _ => False
def Okay (P : Program) (wb : Wb) (k : Nat) (s : Ren) (w : World) (x : Sem Next) (r : Out) : Prop :=
  ∃ s' n' w', x.run P w = .ok n' w' ∧ Le s s' ∧ HR wb k s' r.2.1 w' ∧ NR s' r.1 n'
def aval (x : Sem Value) : Sem Next := do pure (.value (← x))
def aunit (x : Sem Unit) : Sem Next := do x; pure .skip
/-- What leaves memory as it is. -/
def Okay0 (P : Program) (s : Ren) (h : List AO) (w : World) (x : Sem Next) (r : Out) : Prop :=
  ∃ n', x.run P w = .ok n' w ∧ NR s r.1 n' ∧ r.2 = (h, none)
theorem Okay0.okay {P : Program} {wb : Wb} {k : Nat} {s : Ren} {h : List AO} {w : World} (H : HR wb k s h w) {x : Sem Next} {r : Out} (hx : Okay0 P s h w x r) : Okay P wb k s w x r := by
  obtain ⟨n', h1, h2, h3⟩ := hx
  exact ⟨s, n', w, h1, Le.refl s, by rw [h3]; exact H, h2⟩
theorem okay0 {P : Program} {s : Ren} {h : List AO} {w : World} {x : Sem Value} {v v' : Value} (hx : x.run P w = .ok v' w) (hv : VR s v v') :
    Okay0 P s h w (aval x) (.value v, h, none) := ⟨.value v', by simp [aval, hx], hv, rfl⟩

section
variable {P : Program} {wb : Wb} {k : Nat} {s : Ren} {h : List AO} {w : World}

/-! Types. -/
theorem run_info {t : TypeId} {i : TypeInfo} (hi : P.info? t = some i) (w : World) : (typeInfo t).run P w = .ok i w := by
  simp [typeInfo, program, hi, Sem.run]
theorem run_under {t : TypeId} {d : TypeDesc} (hi : P.underlying t = some d) (w : World) : (underlying t).run P w = .ok d w := by
  simp [underlying, program, hi, Sem.run]
theorem run_size {t : TypeId} {i : TypeInfo} (hi : P.info? t = some i) (w : World) : (sizeOf t).run P w = .ok i.size w := by
  simp [sizeOf, run_info hi]
theorem run_zero {t : TypeId} {i : TypeInfo} {z : Value} (hi : P.info? t = some i) (hz : i.zero = some z) (w : World) : (zeroValue t).run P w = .ok z w := by
  simp [zeroValue, run_info hi, hz]
def aggD : TypeDesc → Bool
  | .struct _ => true
  | .array _ _ => true
  | _ => false
theorem run_aggD {t : TypeId} {d : TypeDesc} (hi : P.underlying t = some d) (w : World) : (isAgg t).run P w = .ok (aggD d) w := by
  simp only [isAgg, Sem.run_bind, run_under hi, Result.andThen_ok]
  cases d <;> rfl

/-! New blocks. -/
def oNew (v : Value) (h : List AO) : Out := (.value (.pointer (some ⟨h.length, 0, none⟩)), h ++ [⟨true, none, v.cells.toList⟩], none)
theorem run_newVar (t : TypeId) (v : Value) (w : World) : (newVar t v).run P w = .ok ⟨w.heap.size, 0, none⟩ (w.alloc (.cells v.cells t)) := rfl
theorem box_ok (H : HR wb k s h w) (t : TypeId) {v v' : Value} (hv : VR s v v') : Okay P wb k s w (aval (Instr.box t v')) (oNew v h) := by
  obtain ⟨H', hle⟩ := H.new' t hv.cells
  refine ⟨_, .value (.pointer (some ⟨w.heap.size, 0, none⟩)), w.alloc (.cells v'.cells t), ?_, hle, H', ?_⟩
  · simp [aval, Instr.box, run_newVar]
  · exact VR.ptr (a := ⟨h.length, 0, none⟩) rfl (upd_same _ _ _)
def oAlloc (P : Program) (t : TypeId) (h : List AO) : Option Out :=
  match P.info? t with
  | some i =>
    match i.zero with
    | some z => if flat z then some (oNew z h) else none
    | none => none
  | none => none
theorem alloc_ok (H : HR wb k s h w) {t : TypeId} {r : Out} (hr : oAlloc P t h = some r) : Okay P wb k s w (aval (Instr.alloc t true (.tuple #[]))) r := by
  unfold oAlloc at hr
  split at hr
  · rename_i i hi
    split at hr
    · rename_i z hz
      split at hr
      · rename_i hf
        cases hr
        obtain ⟨H', hle⟩ := H.new' t (VR.same (s := s) hf).cells
        refine ⟨_, .value (.pointer (some ⟨w.heap.size, 0, none⟩)), w.alloc (.cells z.cells t), ?_, hle, H', ?_⟩
        · simp [aval, Instr.alloc, run_zero hi hz, run_newVar]
        · exact VR.ptr (a := ⟨h.length, 0, none⟩) rfl (upd_same _ _ _)
      · cases hr
    · cases hr
  · cases hr

/-! Loads and stores. -/
def oLoad (P : Program) (t : TypeId) (x : Value) (h : List AO) : Option Out :=
  match x, P.underlying t, P.info? t with
  | .pointer (some a), some d, some i =>
    if aggD d then
      match aload h a i.size with
      | some vs => some (.value (.agg ⟨vs⟩), h, none)
      | none => none
    else
      match aload h a 1 with
      | some (v :: _) => some (.value v, h, none)
      | _ => none
  | _, _, _ => none
theorem load_ok (H : MR s h w) {t : TypeId} {x x' : Value} (hx : VR s x x') {r : Out} (hr : oLoad P t x h = some r) : Okay0 P s h w (aval (Instr.loadAt t x')) r := by
  unfold oLoad at hr
  split at hr
  · rename_i a d i hd hi
    obtain ⟨p, hs, hp, rfl⟩ := hx.ptr_inv
    split at hr
    · rename_i ha
      split at hr
      · rename_i vs hl
        cases hr
        obtain ⟨hlen, vs', hv, hc⟩ := aload_spec H hl hp
        refine okay0 (v' := .agg ⟨vs'⟩) ?_ (VR.agg hv.1 hv.2)
        have h2 := run_loadCells_list (P := P) w ⟨p.blk, p.off + a.off, none⟩ vs' hc
        rw [← hv.1, hlen] at h2
        simp [Instr.loadAt, Instr.sureAddr, loadVar, run_aggD hd, ha, run_size hi, h2]
      · cases hr
    · rename_i ha
      split at hr
      · rename_i v rest hl
        cases hr
        obtain ⟨hlen, vs', hv, hc⟩ := aload_spec H hl hp
        cases vs' with
        | nil => have := hv.1; simp at this
        | cons v' rest' =>
          refine okay0 (v' := v') ?_ hv.uncons.1
          have h2 := hc 0 v' rfl
          rw [add_none] at h2
          simp only [Nat.add_zero] at h2
          simp [Instr.loadAt, Instr.sureAddr, loadVar, run_aggD hd, ha, h2]
      · cases hr
  · cases hr
def oStore (P : Program) (t : TypeId) (x y : Value) (h : List AO) : Option Out :=
  match x, P.info? t with
  | .pointer (some a), some i =>
    if y.cells.toList.length == i.size && y.cells.toList.all (·.oneCell') then
      match astore h a y.cells.toList with
      | some h' => some (.skip, h', some a.block)
      | none => none
    else none
  | _, _ => none
theorem store_ok (H : HR wb k s h w) {t : TypeId} {x x' y y' : Value} (hx : VR s x x') (hy : VR s y y') {r : Out} (hr : oStore P t x y h = some r) (hk : ∀ i, r.2.2 = some i → k ≤ i) :
    Okay P wb k s w (aunit (Instr.storeAt t x' y')) r := by
  unfold oStore at hr
  split at hr
  · rename_i a i hi
    obtain ⟨p, hs, hp, rfl⟩ := hx.ptr_inv
    split at hr
    · rename_i hc
      simp only [Bool.and_eq_true, beq_iff_eq] at hc
      split at hr
      · rename_i h' hst
        cases hr
        obtain ⟨h1, h2, H'⟩ := astore_spec H hst (hk _ rfl) hp hy.cells
        refine ⟨s, .skip, _, ?_, Le.refl s, H', trivial⟩
        have hone : ∀ v ∈ y'.cells.toList, v.oneCell' = true := by
          intro v hv
          obtain ⟨j, hj⟩ := List.getElem?_of_mem hv
          obtain ⟨u, hu, huv⟩ := hy.cells.get' hj
          exact huv.one (all_get hc.2 hu)
        have h3 := run_storeCells_cells (P := P) p.blk (p.off + a.off) y'.cells.toList 0 w (by simpa using h1) (by simpa using h2) hone
        have hsz : y'.cells.size = i.size := by rw [← hc.1, hy.cells.1]; simp
        simp [aunit, Instr.storeAt, Instr.sureAddr, storeVar, run_size hi, hsz, h3]
      · cases hr
    · cases hr
  · cases hr

/-! Places in memory. -/
theorem vr_add (_ : True) {a : Addr} {p : Pl} (hs : a.spot = none) (hp : s a.block = some p) (n : Nat) :
    VR s (.pointer (some (a.add n))) (.pointer (some ((⟨p.blk, p.off + a.off, none⟩ : Addr).add n))) := by
  have e : a.add n = ⟨a.block, a.off + n, none⟩ := by
    obtain ⟨b, o, sp⟩ := a
    simp at hs
    subst hs
    exact add_none n
  rw [e, add_none, Nat.add_assoc]
  exact VR.ptr (a := ⟨a.block, a.off + n, none⟩) rfl hp
def oFieldAt (P : Program) (t : TypeId) (x : Value) (f : Nat) (h : List AO) : Option Out :=
  match x, P.underlying t with
  | .pointer (some a), some (.struct fs) =>
    match fs[f]? with
    | some fd =>
      match P.info? fd.type with
      | some i => if i.size == 0 then none else some (.value (.pointer (some (a.add fd.offset))), h, none)
      | none => none
    | none => none
  | _, _ => none
theorem fieldAt_ok {t : TypeId} {x x' : Value} {f : Nat} (hx : VR s x x') {r : Out} (hr : oFieldAt P t x f h = some r) : Okay0 P s h w (aval (Instr.fieldAt t x' f)) r := by
  unfold oFieldAt at hr
  split at hr
  · rename_i a fs hu
    obtain ⟨p, hs, hp, rfl⟩ := hx.ptr_inv
    split at hr
    · rename_i fd hf
      split at hr
      · rename_i i hi
        split at hr
        · cases hr
        · rename_i hz
          cases hr
          refine okay0 ?_ (vr_add trivial hs hp fd.offset)
          simp at hz
          simp [Instr.fieldAt, run_under hu, hf, Instr.sureAddr, fieldPlace, run_size hi, hz]
      · cases hr
    · cases hr
  · cases hr
def oIndexAt (P : Program) (t : TypeId) (x ix : Value) (h : List AO) : Option Out :=
  match ix, P.underlying t, x with
  | .int _ i, some (.array len e), .pointer (some a) =>
    match P.info? e with
    | some n => if decide (0 ≤ i) && decide (i < len) then some (.value (.pointer (some (a.add (i.toNat * n.size)))), h, none) else none
    | none => none
  | .int _ i, some (.slice e), .slice (some a) len _ =>
    match P.info? e with
    | some n => if decide (0 ≤ i) && decide (i < len) then some (.value (.pointer (some (a.add (i.toNat * n.size)))), h, none) else none
    | none => none
  | _, _, _ => none
theorem indexAt_ok {t : TypeId} {x x' ix ix' : Value} (hx : VR s x x') (hi : VR s ix ix') {r : Out} (hr : oIndexAt P t x ix h = some r) : Okay0 P s h w (aval (Instr.indexAt t x' ix')) r := by
  unfold oIndexAt at hr
  split at hr
  · rename_i kk i len e a hu
    obtain ⟨p, hs, hp, rfl⟩ := hx.ptr_inv
    rw [hi.int_inv]
    split at hr
    · rename_i n hn
      split at hr
      · rename_i hc
        cases hr
        simp at hc
        refine okay0 ?_ (vr_add trivial hs hp (i.toNat * n.size))
        simp [Instr.indexAt, asIntOf, run_under hu, Instr.sureAddr, hc.1, hc.2, run_size hn]
      · cases hr
    · cases hr
  · rename_i kk i e a len c hu
    obtain ⟨p, c', hs, hp, _, rfl⟩ := hx.slice_inv
    rw [hi.int_inv]
    split at hr
    · rename_i n hn
      split at hr
      · rename_i hc
        cases hr
        simp at hc
        refine okay0 ?_ (vr_add trivial hs hp (i.toNat * n.size))
        simp [Instr.indexAt, asIntOf, run_under hu, hc.1, hc.2, run_size hn]
      · cases hr
    · cases hr
  · cases hr
end
end Go.Proofs.Ytafegjmaldbbiaa.Ex
