/-
  Runs that the kernel reckons, part 9: which operation is told by what.
-/
import Derived.Test.YtafegjmaldbbiaaEx8
import Derived.Test.YtafegjmaldbbiaaEx3g
import Derived.Test.YtafegjmaldbbiaaEx5b
namespace Go.Proofs.Ytafegjmaldbbiaa.Ex
open Go Go.RowKit

/-- Operations that leave memory as it is. -/
def sOp (P : Program) : OpFn := fun ρ o h =>
  match o.op with
  | .move x => some (.value (ρ x), h, none)
  | .assign x => some (.value (ρ x), h, none)
  | .pick c a b => oPick (ρ c) (ρ a) (ρ b) h
  | .extract x i => oExtract (ρ x) i h
  | .load t x => oLoad P t (ρ x) h
  | .nilCheck x => oNil (ρ x) h
  | .fieldAddr t x f => oFieldAt P t (ρ x) f h
  | .indexAddr t x i => oIndexAt P t (ρ x) (ρ i) h
  | .field t x f => oField P t (ρ x) f h
  | .index t x i => oIndex P t (ρ x) (ρ i) h
  | .binOp b t x y _ =>
    match oFastBin P b t (ρ x) (ρ y) h with
    | some r => some r
    | none =>
      match oCmp P b t (ρ x) (ρ y) h with
      | some r => some r
      | none => oPure P ρ o h
  | .makeFunc fn a b => oFunc fn (a.toList.map ρ) (b.toList.map ρ) h
  | .build t ps =>
    match oBuild P t (ps.map fun (i, x) => (i, ρ x)) h with
    | some r => some r
    | none => oPure P ρ o h
  | .slice t x lo hi none =>
    match oSlice P t (ρ x) (lo.map ρ) (hi.map ρ) h with
    | some r => some r
    | none => oPure P ρ o h
  | .convert a b x =>
    match oFastConv P a b (ρ x) h with
    | some r => some r
    | none =>
      match oToStr P a b (ρ x) h with
      | some r => some r
      | none => oPure P ρ o h
  | .call c =>
    match c.callee with
    | .value f =>
      match oCall P (ρ f) (c.args.toList.map ρ) h with
      | some r => some r
      | none => oPure P ρ o h
    | .builtin .len =>
      match oLen P c (c.args.toList.map ρ) h with
      | some r => some r
      | none =>
        match oLenMap P c (c.args.toList.map ρ) h with
        | some r => some r
        | none => oPure P ρ o h
    | .invoke x name => oInvoke P (ρ x) name (c.args.toList.map ρ) h
    | _ => oPure P ρ o h
  | .lookup t x ix ok => oLookup P t (ρ x) (ρ ix) ok h
  | .makeInterface t x => oIface P t (ρ x) h
  | .typeAssert x _ t ok =>
    match oAssert P (ρ x) t ok h with
    | some r => some r
    | none => oPure P ρ o h
  | _ => oPure P ρ o h

theorem args_ok {s : Ren} {ρ ρ' : Operand → Value} {l : List Operand} (h : ∀ x ∈ l, VR s (ρ x) (ρ' x)) : LR s (l.map ρ) (l.map ρ') := by
  induction l with
  | nil => exact LR.nil s
  | cons x l ih => exact LR.cons (h x (by simp)) (ih fun y hy => h y (by simp [hy]))
def StillOk (P : Program) (op : OpFn) : Prop :=
  ∀ (s : Ren) (h : List AO) (w : World) (ρ ρ' : Operand → Value) (o : Oper) (r : Out), MR s h w → (∀ x ∈ o.op.operands, VR s (ρ x) (ρ' x)) → op ρ o h = some r → Okay0 P s h w (execOp ρ' o) r
theorem sOp_ok (P : Program) (hng : NoNG P) : StillOk P (sOp P) := by
  intro s h w ρ ρ' o r H hρ hr
  have hp := fun h2 => pure_ok (P := P) (s := s) (w := w) (h := h) (ρ := ρ) (ρ' := ρ') (o := o) hρ (r := r) h2
  obtain ⟨dst, op, type, pos, after, guard⟩ := o
  unfold sOp at hr
  simp only at hr hρ
  cases op
  case move x => cases hr; exact ⟨_, rfl, hρ x (by simp [Op.operands]), rfl⟩
  case assign x => cases hr; exact ⟨_, rfl, hρ x (by simp [Op.operands]), rfl⟩
  case pick c a b => exact pick_ok (hρ c (by simp [Op.operands])) (hρ a (by simp [Op.operands])) (hρ b (by simp [Op.operands])) hr
  case extract x i => exact extract_ok (hρ x (by simp [Op.operands])) hr
  case load t x => exact load_ok H (hρ x (by simp [Op.operands])) hr
  case nilCheck x => exact nil_ok (hρ x (by simp [Op.operands])) hr
  case fieldAddr t x f => exact fieldAt_ok (hρ x (by simp [Op.operands])) hr
  case indexAddr t x i => exact indexAt_ok (hρ x (by simp [Op.operands])) (hρ i (by simp [Op.operands])) hr
  case field t x f => exact field_ok (hρ x (by simp [Op.operands])) hr
  case index t x i => exact index_ok (hρ x (by simp [Op.operands])) (hρ i (by simp [Op.operands])) hr
  case binOp b t x y t2 =>
    simp only at hr
    split at hr
    · rename_i r' hc
      cases hr
      exact fastBin_ok (hρ x (by simp [Op.operands])) (hρ y (by simp [Op.operands])) hc
    · split at hr
      · rename_i r' hc
        cases hr
        exact cmp_ok (hρ x (by simp [Op.operands])) (hρ y (by simp [Op.operands])) hc
      · exact hp hr
  case makeFunc fn a b => exact func_ok (args_ok fun x hx => hρ x (by simp only [Op.operands, Array.mem_append]; left; simpa using hx)) (args_ok fun x hx => hρ x (by simp only [Op.operands, Array.mem_append]; right; simpa using hx)) hr
  case build t ps =>
    simp only at hr
    split at hr
    · rename_i r' hl
      cases hr
      exact build_ok (parts_ok fun x hx => hρ x (by simp only [Op.operands]; simpa using hx)) hl
    · exact hp hr
  case slice t x lo hi mx =>
    cases mx with
    | some m => exact hp hr
    | none =>
      simp only at hr
      split at hr
      · rename_i r' hl
        cases hr
        refine slice_ok H (hρ x (by simp [Op.operands])) ?_ ?_ hl
        · cases lo with
          | none => trivial
          | some y => exact hρ y (by simp [Op.operands])
        · cases hi with
          | none => trivial
          | some y => exact hρ y (by simp [Op.operands])
      · exact hp hr
  case convert a b x =>
    simp only at hr
    split at hr
    · rename_i r' hl
      cases hr
      exact fastConv_ok (hρ x (by simp [Op.operands])) hl
    · split at hr
      · rename_i r' hl
        cases hr
        exact toStr_ok H (hρ x (by simp [Op.operands])) hl
      · exact hp hr
  case call c =>
    have hargs : LR s (c.args.toList.map ρ) (c.args.toList.map ρ') := args_ok fun x hx => hρ x (by simp [Op.operands, Call.operands]; right; simpa using hx)
    simp only at hr
    split at hr
    · rename_i f hc
      split at hr
      · rename_i r' hl
        cases hr
        exact call_ok hng hc type (hρ f (by simp [Op.operands, Call.operands, hc])) hargs hl
      · exact hp hr
    · rename_i hc
      split at hr
      · rename_i r' hl
        cases hr
        exact len_ok hc type hargs hl
      · split at hr
        · rename_i r' hl
          cases hr
          exact lenMap_ok H hc type hargs hl
        · exact hp hr
    · rename_i x name hc
      exact invoke_ok hng hc type (hρ x (by simp [Op.operands, Call.operands, hc])) hargs hr
    · exact hp hr
  case lookup t x ix ok => exact lookup_ok H (hρ x (by simp [Op.operands])) (hρ ix (by simp [Op.operands])) hr
  case makeInterface t x => exact iface_ok (hρ x (by simp [Op.operands])) hr
  case typeAssert x xt t ok =>
    simp only at hr
    split at hr
    · rename_i r' hl
      cases hr
      exact assert_ok (hρ x (by simp [Op.operands])) hl
    · exact hp hr
  all_goals exact hp hr

/-- The address of a new block: as a pointer, or as a slice of so many. -/
def mkNew (id : Nat) : Option (Nat × Nat) → Value
  | none => .pointer (some ⟨id, 0, none⟩)
  | some (l, c) => .slice (some ⟨id, 0, none⟩) l c
theorem mkNew_ok {s : Ren} {id b tot : Nat} (h : s id = some ⟨b, 0, tot, none⟩) (x : Option (Nat × Nat)) : VR s (mkNew id x) (mkNew b x) := by
  cases x with
  | none => exact VR.ptr (a := ⟨id, 0, none⟩) rfl h
  | some lc => exact VR.slice (a := ⟨id, 0, none⟩) rfl h (by unfold CapOk; rfl)
/-- Operations that lay one new block, and tell its address: the cells that it has. -/
def nOp (P : Program) (ρ : Operand → Value) (o : Oper) : Option (List Value × Option (Nat × Nat)) :=
  match o.op with
  | .alloc t =>
    match P.info? t with
    | some i =>
      match i.zero with
      | some z => if flat z then some (z.cells.toList, none) else none
      | none => none
    | none => none
  | .box _ x => some ((ρ x).cells.toList, none)
  | .buildSlice t n ps =>
    match oRow P t n (ps.map fun (i, x) => (i, ρ x)) with
    | some (cs, l, c) => some (cs, some (l, c))
    | none => none
  | .makeSlice t l c =>
    match oMake P t (ρ l) (ρ c) with
    | some (cs, l, c) => some (cs, some (l, c))
    | none => none
  | _ => none
theorem nOp_ok {P : Program} {s : Ren} {ρ ρ' : Operand → Value} {o : Oper} (hρ : ∀ x ∈ o.op.operands, VR s (ρ x) (ρ' x)) {cs : List Value} {x : Option (Nat × Nat)} (hr : nOp P ρ o = some (cs, x)) (w : World) :
    ∃ (arr : Array Value) (T : TypeId), (execOp ρ' o).run P w = .ok (.value (mkNew w.heap.size x)) (w.alloc (.cells arr T)) ∧ LR s cs arr.toList := by
  obtain ⟨dst, op, type, pos, after, guard⟩ := o
  unfold nOp at hr
  simp only at hr hρ
  cases op
  case alloc t =>
    simp only at hr
    split at hr
    · rename_i i hi
      split at hr
      · rename_i z hz
        split at hr
        · rename_i hf
          cases hr
          exact ⟨z.cells, t, by simp [execOp, Instr.alloc, run_zero hi hz, run_newVar, mkNew], (VR.same (s := s) hf).cells⟩
        · cases hr
      · cases hr
    · cases hr
  case box t x =>
    cases hr
    exact ⟨(ρ' x).cells, t, by simp [execOp, Instr.box, run_newVar, mkNew], (hρ x (by simp [Op.operands])).cells⟩
  case buildSlice t n ps =>
    simp only at hr
    split at hr
    · rename_i cs' l c hrow
      cases hr
      obtain ⟨arr, T, h1, h2⟩ := row_ok (parts_ok (ρ' := ρ') fun x hx => hρ x (by simp only [Op.operands]; simpa using hx)) hrow w
      exact ⟨arr, T, by simp only [execOp, Sem.run_bind, h1, Result.andThen_ok, Sem.run_pure, mkNew], h2⟩
    · cases hr
  case makeSlice t l c =>
    simp only at hr
    split at hr
    · rename_i cs' l' c' hrow
      cases hr
      obtain ⟨arr, T, h1, h2⟩ := make_ok (hρ l (by simp [Op.operands])) (hρ c (by simp [Op.operands])) hrow w
      exact ⟨arr, T, by simp only [execOp, Sem.run_bind, h1, Result.andThen_ok, Sem.run_pure, mkNew], h2⟩
    · cases hr
  all_goals cases hr

def aOp (P : Program) : OpFn := fun ρ o h =>
  match nOp P ρ o with
  | some (cs, x) => some (.value (mkNew h.length x), h ++ [⟨true, none, cs⟩], none)
  | none =>
    match o.op with
    | .store t x y => oStore P t (ρ x) (ρ y) h
    | .slice t x lo hi none =>
      match sOp P ρ o h with
      | some r => some r
      | none => oSliceEnd P t (ρ x) (lo.map ρ) (hi.map ρ) h
    | .makeMap _ x => oMakeMap (x.map ρ) h
    | .mapUpdate t m x y => oMapUpdate P t (ρ m) (ρ x) (ρ y) h
    | .insert t m x y => oMapUpdate P t (ρ m) (ρ x) (ρ y) h
    | .convert a b x =>
      match oFromStr P a b (ρ x) h with
      | some r => some r
      | none => sOp P ρ o h
    | .call c =>
      match c.callee, c.args.toList with
      | .builtin .append, [a, b] =>
        match oAppend P c.argTypes (ρ a) (ρ b) h with
        | some r => some r
        | none => sOp P ρ o h
      | .builtin .copy, [a, b] =>
        match oCopy P c.argTypes (ρ a) (ρ b) h with
        | some r => some r
        | none => sOp P ρ o h
      | _, _ => sOp P ρ o h
    | _ => sOp P ρ o h
theorem args_two {c : Call} {a b : Operand} (h : c.args.toList = [a, b]) (ρ : Operand → Value) : c.args.map ρ = #[ρ a, ρ b] := by
  apply Array.ext'
  rw [Array.toList_map, h]
  rfl
theorem aOp_ok (P : Program) (hng : NoNG P) : OpOk P (aOp P) := by
  intro wb k s h w ρ ρ' o r H hρ hr hm
  have hS := fun h2 => (sOp_ok P hng s h w ρ ρ' o r H.mr hρ h2).okay H
  unfold aOp at hr
  split at hr
  · rename_i cs x hn
    cases hr
    obtain ⟨arr, T, h1, h2⟩ := nOp_ok hρ hn w
    obtain ⟨H', hle⟩ := H.new cs arr T none rfl (by have := h2.1; simp at this; omega) (fun o v hv => by
      obtain ⟨y, hy, hvy⟩ := h2.get hv
      exact ⟨y, by rw [← Array.getElem?_toList]; exact hy, hvy⟩)
    exact ⟨_, _, _, h1, hle, H', mkNew_ok (upd_same _ _ _) x⟩
  · obtain ⟨dst, op, type, pos, after, guard⟩ := o
    split at hr
    · rename_i t x y ho
      simp only at ho hρ
      subst ho
      exact store_ok H (hρ x (by simp [Op.operands])) (hρ y (by simp [Op.operands])) hr hm
    · rename_i t x lo hi ho
      simp only at ho hρ
      subst ho
      split at hr
      · rename_i r' hl
        cases hr
        exact hS hl
      · refine sliceEnd_ok H (hρ x (by simp [Op.operands])) ?_ ?_ hr hm
        · cases lo with
          | none => trivial
          | some y => exact hρ y (by simp [Op.operands])
        · cases hi with
          | none => trivial
          | some y => exact hρ y (by simp [Op.operands])
    · rename_i t x ho
      simp only at ho hρ
      subst ho
      refine makeMap_ok H ?_ hr
      cases x with
      | none => trivial
      | some y => exact hρ y (by simp [Op.operands])
    · rename_i t x y z ho
      simp only at ho hρ
      subst ho
      exact mapUpdate_ok H (hρ x (by simp [Op.operands])) (hρ y (by simp [Op.operands])) (hρ z (by simp [Op.operands])) hr hm
    · rename_i t x y z ho
      simp only at ho hρ
      subst ho
      exact mapUpdate_ok H (hρ x (by simp [Op.operands])) (hρ y (by simp [Op.operands])) (hρ z (by simp [Op.operands])) hr hm
    · rename_i a b x ho
      simp only at ho hρ
      subst ho
      split at hr
      · rename_i r' hl
        cases hr
        exact fromStr_ok H (hρ x (by simp [Op.operands])) hl
      · exact hS hr
    · rename_i c ho
      simp only at ho hρ
      subst ho
      split at hr
      · rename_i a b hcal hargs
        have hva : VR s (ρ a) (ρ' a) := hρ a (by
          have : a ∈ c.args := by rw [← Array.mem_toList_iff, hargs]; simp
          simp [Op.operands, Call.operands, this])
        have hvb : VR s (ρ b) (ρ' b) := hρ b (by
          have : b ∈ c.args := by rw [← Array.mem_toList_iff, hargs]; simp
          simp [Op.operands, Call.operands, this])
        split at hr
        · rename_i r' hl
          cases hr
          have := append_ok (ty := type) H hva hvb hl hm
          simp only [execOp, resolve, hcal, args_two hargs, invoke, builtin, pure_bind]
          exact this
        · exact hS hr
      · rename_i a b hcal hargs
        have hva : VR s (ρ a) (ρ' a) := hρ a (by
          have : a ∈ c.args := by rw [← Array.mem_toList_iff, hargs]; simp
          simp [Op.operands, Call.operands, this])
        have hvb : VR s (ρ b) (ρ' b) := hρ b (by
          have : b ∈ c.args := by rw [← Array.mem_toList_iff, hargs]; simp
          simp [Op.operands, Call.operands, this])
        split at hr
        · rename_i r' hl
          cases hr
          have := copy_ok (ty := type) H hva hvb hl hm
          simp only [execOp, resolve, hcal, args_two hargs, invoke, builtin, pure_bind]
          exact this
        · exact hS hr
      · exact hS hr
    · exact hS hr

def noDraw : DrawFn := fun _ _ _ => none
theorem noDraw_ok (P : Program) : DrawOk P noDraw := by intro rec _ ops x x' h; simp [noDraw] at h
theorem noDraw_low : DrawLow noDraw := by intro rec ops x x' h; simp [noDraw] at h
end Go.Proofs.Ytafegjmaldbbiaa.Ex
