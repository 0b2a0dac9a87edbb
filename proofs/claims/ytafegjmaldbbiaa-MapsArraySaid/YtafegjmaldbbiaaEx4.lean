/-
  Runs that the kernel reckons, part 4: operations whose operands hold no address; parts of values; what is nil; calls; literals.
-/
import Derived.Test.YtafegjmaldbbiaaEx3
namespace Go.Proofs.Ytafegjmaldbbiaa.Ex
open Go Go.RowKit

/-- What a computation that touches no memory comes to. -/
def pureRun (P : Program) {α : Type} : Sem α → Option α
  | .pure a => some a
  | .program k => pureRun P (k P)
  | .mark _ k => pureRun P k
  | _ => none
theorem pureRun_ok {P : Program} {α : Type} (x : Sem α) {a : α} (h : pureRun P x = some a) (w : World) : x.run P w = .ok a w := by
  induction x with
  | pure b => simp [pureRun] at h; subst h; rfl
  | program k ih => simp only [Sem.run]; exact ih P (by simpa [pureRun] using h)
  | mark m k ih => simp only [Sem.run]; exact ih (by simpa [pureRun] using h)
  | _ => simp [pureRun] at h

def chooses : Op → Bool
  | .select _ _ => true
  | _ => false
def oPure (P : Program) (ρ : Operand → Value) (o : Oper) (h : List AO) : Option Out :=
  if !chooses o.op && o.op.operands.toList.all (fun x => flat (ρ x)) then
    match pureRun P (execOp ρ o) with
    | some (.value v) => if flat v then some (.value v, h, none) else none
    | some .skip => some (.skip, h, none)
    | _ => none
  else none

section
variable {P : Program} {wb : Wb} {k : Nat} {s : Ren} {h : List AO} {w : World}
theorem pure_ok {ρ ρ' : Operand → Value} {o : Oper} (hρ : ∀ x ∈ o.op.operands, VR s (ρ x) (ρ' x)) {r : Out} (hr : oPure P ρ o h = some r) : Okay0 P s h w (execOp ρ' o) r := by
  unfold oPure at hr
  split at hr
  · rename_i hc
    simp only [Bool.and_eq_true, Bool.not_eq_true'] at hc
    have e : execOp ρ o = execOp ρ' o := execOp_congr o (fun cs b e => by rw [e] at hc; exact absurd hc.1 (by simp [chooses])) fun x hx =>
      ((hρ x hx).eq_of_flat (List.all_eq_true.1 hc.2 x (by simpa using hx))).symm
    rw [← e]
    split at hr
    · rename_i v hv
      split at hr
      · rename_i hf
        cases hr
        exact ⟨_, pureRun_ok _ hv w, VR.same hf, rfl⟩
      · cases hr
    · rename_i hv
      cases hr
      exact ⟨_, pureRun_ok _ hv w, trivial, rfl⟩
    · cases hr
  · cases hr

def oNil (x : Value) (h : List AO) : Option Out :=
  match x with
  | .pointer (some a) => some (.value (.pointer (some a)), h, none)
  | .func (.func f) a b => some (.value (.func (.func f) a b), h, none)
  | _ => none
def nilOp (x : Value) : Sem Next :=
  match x with
  | .pointer none | .nilIface | .nilFunc => runtimePanic .nilDeref
  | .func (.method name) first captured =>
    match (first[0]? : Option Value) with
    | some .nilIface => runtimePanic .nilDeref
    | some (.iface t w) => do
      if (← nilAhead ((← program).types.size + Made.depth) t w name) != some false then
        unsupported (.noEntry "op/nilCheck.the method's receiver behind this interface value is a nil pointer, or cannot be seen to be none, and the arguments act or may panic (ledger 612)")
      pure (.value (.func (.method name) first captured))
    | _ => pure (.value (.func (.method name) first captured))
  | x => pure (.value x)
theorem nil_ok {x x' : Value} (hx : VR s x x') {r : Out} (hr : oNil x h = some r) : Okay0 P s h w (nilOp x') r := by
  unfold oNil at hr
  split at hr
  · cases hr
    obtain ⟨p, _, _, rfl⟩ := hx.ptr_inv
    exact ⟨_, rfl, hx, rfl⟩
  · cases hr
    rename_i f a b
    obtain ⟨a⟩ := a
    obtain ⟨b⟩ := b
    obtain ⟨ys, vs, rfl, _, _⟩ := hx.func_inv
    exact ⟨_, rfl, hx, rfl⟩
  · cases hr

def oPick (c x y : Value) (h : List AO) : Option Out :=
  match c with
  | .bool b => some (.value (if b then x else y), h, none)
  | _ => none
theorem pick_ok {c c' x x' y y' : Value} (hc : VR s c c') (hx : VR s x x') (hy : VR s y y') {r : Out} (hr : oPick c x y h = some r) :
    Okay0 P s h w (do pure (.value (if ← asBool c' then x' else y'))) r := by
  unfold oPick at hr
  split at hr
  · rename_i b
    cases hr
    rw [hc.bool_inv]
    refine ⟨.value (if b then x' else y'), by simp [asBool], ?_, rfl⟩
    cases b
    · exact hy
    · exact hx
  · cases hr

def oExtract (x : Value) (i : Nat) (h : List AO) : Option Out :=
  match x with
  | .tuple vs =>
    match vs.toList[i]? with
    | some v => some (.value v, h, none)
    | none => none
  | _ => none
theorem extract_ok {x x' : Value} (hx : VR s x x') {i : Nat} {r : Out} (hr : oExtract x i h = some r) : Okay0 P s h w (aval (Instr.extract x' i)) r := by
  unfold oExtract at hr
  split at hr
  · rename_i vs
    obtain ⟨vs⟩ := vs
    obtain ⟨ys, rfl, hl⟩ := hx.tuple_inv
    split at hr
    · rename_i v hv
      cases hr
      obtain ⟨y, hy, hvy⟩ := hl.get hv
      refine okay0 ?_ hvy
      simp [Instr.extract, hy]
    · cases hr
  · cases hr

/-! Parts of a value. -/
def oPart (P : Program) (t : TypeId) (cs : List Value) (off : Nat) : Option Value :=
  match P.underlying t, P.info? t with
  | some d, some i => if aggD d then some (.agg ⟨(cs.drop off).take i.size⟩) else cs[off]?
  | _, _ => none
theorem part_ok {t : TypeId} {cs cs' : List Value} (hl : LR s cs cs') {off : Nat} {v : Value} (hr : oPart P t cs off = some v) : ∃ v', (part t ⟨cs'⟩ off).run P w = .ok v' w ∧ VR s v v' := by
  unfold oPart at hr
  split at hr
  · rename_i d i hd hi
    split at hr
    · rename_i ha
      cases hr
      refine ⟨.agg ⟨(cs'.drop off).take i.size⟩, ?_, VR.agg ((hl.drop off).take i.size).1 ((hl.drop off).take i.size).2⟩
      simp [part, run_aggD hd, ha, run_size hi]
    · rename_i ha
      obtain ⟨v', hv', hvr⟩ := hl.get hr
      exact ⟨v', by simp [part, run_aggD hd, ha, hv'], hvr⟩
  · cases hr
def oField (P : Program) (t : TypeId) (x : Value) (f : Nat) (h : List AO) : Option Out :=
  match x, P.underlying t with
  | .agg cs, some (.struct fs) =>
    match fs[f]? with
    | some fd =>
      match oPart P fd.type cs.toList fd.offset with
      | some v => some (.value v, h, none)
      | none => none
    | none => none
  | _, _ => none
theorem field_ok {t : TypeId} {x x' : Value} (hx : VR s x x') {f : Nat} {r : Out} (hr : oField P t x f h = some r) : Okay0 P s h w (aval (Instr.field t x' f)) r := by
  unfold oField at hr
  split at hr
  · rename_i cs fs hu
    obtain ⟨cs⟩ := cs
    obtain ⟨ys, rfl, hl⟩ := hx.agg_inv
    split at hr
    · rename_i fd hf
      split at hr
      · rename_i v hv
        cases hr
        obtain ⟨v', h1, h2⟩ := part_ok (w := w) hl hv
        refine okay0 ?_ h2
        simp [Instr.field, run_under hu, hf, asAgg, h1]
      · cases hr
    · cases hr
  · cases hr
def oIndex (P : Program) (t : TypeId) (x ix : Value) (h : List AO) : Option Out :=
  match ix, P.underlying t, x with
  | .int _ i, some (.array len e), .agg cs =>
    match P.info? e with
    | some n =>
      if decide (0 ≤ i) && decide (i < len) then
        match oPart P e cs.toList (i.toNat * n.size) with
        | some v => some (.value v, h, none)
        | none => none
      else none
    | none => none
  | .int _ i, some .string, .string b =>
    if decide (0 ≤ i) then
      match b.data.toList[i.toNat]? with
      | some c => some (.value (.int .u8 c.toNat), h, none)
      | none => none
    else none
  | _, _, _ => none
theorem bytes_get (b : ByteArray) (i : Nat) : b[i]? = b.data.toList[i]? := by
  by_cases hi : i < b.size
  · rw [getElem?_pos b i hi, List.getElem?_eq_getElem (by simpa using hi)]; rfl
  · rw [getElem?_neg b i hi, List.getElem?_eq_none (by simpa using hi)]
theorem index_ok {t : TypeId} {x x' ix ix' : Value} (hx : VR s x x') (hi : VR s ix ix') {r : Out} (hr : oIndex P t x ix h = some r) : Okay0 P s h w (aval (Instr.index t x' ix')) r := by
  unfold oIndex at hr
  split at hr
  · rename_i kk i len e cs hu
    obtain ⟨cs⟩ := cs
    obtain ⟨ys, rfl, hl⟩ := hx.agg_inv
    rw [hi.int_inv]
    split at hr
    · rename_i n hn
      split at hr
      · rename_i hc
        simp at hc
        split at hr
        · rename_i v hv
          cases hr
          obtain ⟨v', h1, h2⟩ := part_ok (w := w) hl hv
          refine okay0 ?_ h2
          simp [Instr.index, asIntOf, run_under hu, hc.1, hc.2, run_size hn, h1]
        · cases hr
      · cases hr
    · cases hr
  · rename_i kk i b hu
    rw [hi.int_inv, hx.string_inv]
    split at hr
    · rename_i hc
      simp at hc
      split at hr
      · rename_i c hv
        cases hr
        refine okay0 ?_ (VR.same rfl)
        rw [← bytes_get] at hv
        simp [Instr.index, asIntOf, run_under hu, hc, hv]
      · cases hr
    · cases hr
  · cases hr

/-! What is nil. -/
def oEqNil (P : Program) (t : TypeId) (x y : Value) : Option Bool :=
  match P.underlying t, x, y with
  | some (.pointer _), .pointer none, .pointer b => some b.isNone
  | some (.pointer _), .pointer (some _), .pointer none => some false
  | some (.slice _), .slice none _ _, .slice b _ _ => some b.isNone
  | some (.slice _), .slice (some _) _ _, .slice none _ _ => some false
  | some (.map _ _), .map none, .map b => some b.isNone
  | some (.map _ _), .map (some _), .map none => some false
  | _, _, _ => none
end
end Go.Proofs.Ytafegjmaldbbiaa.Ex
