/-
  Runs that the kernel reckons: structs and arrays of plain data compared, cell by cell, in one step.
-/
import Derived.Test.YtafegjmaldbbiaaEx5
import Derived.Laws.StructEq
import Derived.ChangeKeysEq
namespace Go.Proofs.Ytafegjmaldbbiaa.Ex
open Go Go.RowKit

/-- Kinds of cells. -/
inductive Kc where
  | i (k : IntKind)
  | b
  | s
def Kc.fit : Kc → Value → Bool
  | .i k, .int j _ => k == j
  | .b, .bool _ => true
  | .s, .string _ => true
  | _, _ => false
def fitL : List Kc → List Value → Bool
  | [], [] => true
  | k :: ks, v :: vs => k.fit v && fitL ks vs
  | _, _ => false
def kcF (g : TypeId → Option (List Kc)) (cells : TypeId → Nat) : List Field → Nat → Option (List Kc)
  | [], _ => some []
  | f :: fs, off =>
    match g f.type with
    | some ks =>
      if f.name ≠ "_" ∧ f.offset = off ∧ cells f.type = ks.length then
        match kcF g cells fs (off + ks.length) with
        | some ls => some (ks ++ ls)
        | none => none
      else none
    | none => none
def kcT (P : Program) : Nat → TypeId → Option (List Kc)
  | 0, _ => none
  | f + 1, t =>
    match P.underlying t with
    | some .bool => some [.b]
    | some (.int k) => some [.i k]
    | some .string => some [.s]
    | some (.array n e) =>
      match kcT P f e with
      | some ks => if P.cellsOf e = ks.length then some (List.replicate n ks).flatten else none
      | none => none
    | some (.struct fs) =>
      if P.stoodInHeld t then none else kcF (kcT P f) P.cellsOf fs.toList 0
    | _ => none
/-- One cell is the same as another one, of one kind. -/
def eqW : Value → Value → Bool
  | .int _ a, .int _ b => a == b
  | .bool a, .bool b => a == b
  | .string a, .string b => a.data.toList == b.data.toList
  | _, _ => false
def eqD : List Value → List Value → Bool
  | [], [] => true
  | x :: xs, y :: ys => eqW x y && eqD xs ys
  | _, _ => false
theorem fitL.length : ∀ {ks : List Kc} {vs : List Value}, fitL ks vs = true → vs.length = ks.length
  | [], [], _ => rfl
  | _ :: ks, _ :: vs, h => by
    simp only [fitL, Bool.and_eq_true] at h
    simp [fitL.length h.2]
  | [], _ :: _, h => by cases h
  | _ :: _, [], h => by cases h
theorem fitL.split : ∀ {ks ls : List Kc} {vs : List Value}, fitL (ks ++ ls) vs = true → fitL ks (vs.take ks.length) = true ∧ fitL ls (vs.drop ks.length) = true
  | [], _, _, h => by simpa [fitL] using h
  | _ :: ks, ls, [], h => by cases h
  | k :: ks, ls, v :: vs, h => by
    simp only [List.cons_append, fitL, Bool.and_eq_true] at h
    have := fitL.split h.2
    simp [fitL, h.1, this.1, this.2]
theorem eqD_split : ∀ {n : Nat} {xs ys : List Value}, xs.length = ys.length → eqD xs ys = (eqD (xs.take n) (ys.take n) && eqD (xs.drop n) (ys.drop n))
  | 0, xs, ys, _ => by simp [eqD]
  | n + 1, [], [], _ => by simp [eqD]
  | n + 1, x :: xs, y :: ys, h => by
    have := eqD_split (n := n) (xs := xs) (ys := ys) (by simpa using h)
    simp [eqD, this, Bool.and_assoc]
  | _ + 1, [], _ :: _, h => by simp at h
  | _ + 1, _ :: _, [], h => by simp at h
def asV (P : Program) (t : TypeId) (cs : List Value) : Value :=
  match P.underlying t with
  | some d => if aggD d then .agg ⟨cs⟩ else cs.headD undef
  | none => undef
theorem kcT_info {P : Program} {f : Nat} {t : TypeId} {ks : List Kc} (h : kcT P f t = some ks) : ∃ d i, P.underlying t = some d ∧ P.info? t = some i ∧ (aggD d = false → ks.length = 1) := by
  cases f with
  | zero => cases h
  | succ f =>
    unfold kcT at h
    cases hu : P.underlying t with
    | none => rw [hu] at h; cases h
    | some d =>
      have hi : ∃ i, P.info? t = some i := by
        cases hh : P.info? t with
        | none => simp [Program.underlying, hh] at hu
        | some i => exact ⟨i, rfl⟩
      obtain ⟨i, hi⟩ := hi
      refine ⟨d, i, rfl, hi, fun ha => ?_⟩
      rw [hu] at h
      cases d <;> simp_all [aggD] <;> (subst h; rfl)
theorem part_plain {P : Program} {f : Nat} {t : TypeId} {ks : List Kc} (h : kcT P f t = some ks) (hc : P.cellsOf t = ks.length) {cs : List Value} {off : Nat} (hl : off + ks.length ≤ cs.length) (w : World) :
    (part t ⟨cs⟩ off).run P w = .ok (asV P t ((cs.drop off).take ks.length)) w := by
  obtain ⟨d, i, hu, hi, h1⟩ := kcT_info h
  have hs : i.size = ks.length := by rw [← hc]; simp [Program.cellsOf, hi]
  unfold asV
  rw [hu]
  cases ha : aggD d with
  | true => simp [part, run_aggD hu, ha, run_size hi, hs]
  | false =>
    have h2 := h1 ha
    have hlt : off < cs.length := by omega
    have e : (cs.drop off).take ks.length = [cs[off]] := by
      rw [h2, List.drop_eq_getElem_cons hlt]
      rfl
    rw [e]
    simp [part, run_aggD hu, ha, hlt]
theorem asV_agg {P : Program} {t : TypeId} {d : TypeDesc} (hu : P.underlying t = some d) (ha : aggD d = true) (cs : List Value) : asV P t cs = .agg ⟨cs⟩ := by
  unfold asV; rw [hu]; simp [ha]
theorem asV_one {P : Program} {t : TypeId} {d : TypeDesc} (hu : P.underlying t = some d) (ha : aggD d = false) (v : Value) : asV P t [v] = v := by
  unfold asV; rw [hu]; simp [ha]
def EqT (P : Program) (D : Nat) (t : TypeId) (ks : List Kc) : Prop :=
  ∀ (w : World) (xs ys : List Value), fitL ks xs = true → fitL ks ys = true → (Op.equalIn D t (asV P t xs) (asV P t ys)).run P w = .ok (eqD xs ys) w
theorem eqFields_ok {P : Program} {D f : Nat} (ih : ∀ t ks, kcT P f t = some ks → EqT P D t ks) (xs ys : List Value) (w : World) : ∀ (fs : List Field) (off : Nat) (ks : List Kc), kcF (kcT P f) P.cellsOf fs off = some ks → off ≤ xs.length → off ≤ ys.length →
    fitL ks (xs.drop off) = true → fitL ks (ys.drop off) = true → (Op.eqFields D ⟨xs⟩ ⟨ys⟩ fs).run P w = .ok (eqD (xs.drop off) (ys.drop off)) w
  | [], off, ks, h, _, _, hx, hy => by
    simp only [kcF, Option.some.injEq] at h
    subst h
    have ex : xs.drop off = [] := List.eq_nil_of_length_eq_zero (fitL.length hx)
    have ey : ys.drop off = [] := List.eq_nil_of_length_eq_zero (fitL.length hy)
    rw [ex, ey]
    simp [Op.eqFields, eqD]
  | fd :: fs, off, ks, h, ox, oy, hx, hy => by
    simp only [kcF] at h
    split at h
    · rename_i k1 hk1
      split at h
      · rename_i hc
        obtain ⟨hn, ho, hcells⟩ := hc
        split at h
        · rename_i k2 hk2
          cases h
          obtain ⟨x1, x2⟩ := fitL.split hx
          obtain ⟨y1, y2⟩ := fitL.split hy
          have lx := fitL.length hx
          have ly := fitL.length hy
          simp only [List.length_drop, List.length_append] at lx ly
          rw [List.drop_drop] at x2 y2
          have bx : off + k1.length ≤ xs.length := by omega
          have bY : off + k1.length ≤ ys.length := by omega
          have r := eqFields_ok ih xs ys w fs (off + k1.length) k2 hk2 bx bY x2 y2
          have p1 := part_plain hk1 hcells (cs := xs) (off := off) bx w
          have p2 := part_plain hk1 hcells (cs := ys) (off := off) bY w
          have e := ih fd.type k1 hk1 w _ _ x1 y1
          have sp := eqD_split (n := k1.length) (xs := xs.drop off) (ys := ys.drop off) (by simp; omega)
          rw [List.drop_drop, List.drop_drop] at sp
          simp only [Op.eqFields, ho, hn, ne_eq, not_false_eq_true, if_true, Sem.run_bind, p1, p2, e, Result.andThen_ok, sp]
          cases eqD ((xs.drop off).take k1.length) ((ys.drop off).take k1.length) <;> simp [r]
        · cases h
      · cases h
    · cases h
theorem eqItems_ok {P : Program} {D f : Nat} {e : TypeId} {ks : List Kc} (hk : kcT P f e = some ks) (hc : P.cellsOf e = ks.length) (ih : EqT P D e ks) (xs ys : List Value) (w : World) : ∀ (n j : Nat), j * ks.length ≤ xs.length → j * ks.length ≤ ys.length →
    fitL (List.replicate n ks).flatten (xs.drop (j * ks.length)) = true → fitL (List.replicate n ks).flatten (ys.drop (j * ks.length)) = true →
    (Op.eqItems D e (P.cellsOf e) ⟨xs⟩ ⟨ys⟩ (List.range' j n)).run P w = .ok (eqD (xs.drop (j * ks.length)) (ys.drop (j * ks.length))) w
  | 0, j, _, _, hx, hy => by
    have ex : xs.drop (j * ks.length) = [] := List.eq_nil_of_length_eq_zero (by simpa using fitL.length hx)
    have ey : ys.drop (j * ks.length) = [] := List.eq_nil_of_length_eq_zero (by simpa using fitL.length hy)
    rw [ex, ey]
    simp [Op.eqItems, eqD]
  | n + 1, j, ox, oy, hx, hy => by
    rw [List.replicate_succ, List.flatten_cons] at hx hy
    have lx := fitL.length hx
    have ly := fitL.length hy
    obtain ⟨x1, x2⟩ := fitL.split hx
    obtain ⟨y1, y2⟩ := fitL.split hy
    simp only [List.length_drop, List.length_append] at lx ly
    rw [List.drop_drop, show j * ks.length + ks.length = (j + 1) * ks.length by rw [Nat.add_mul]; omega] at x2 y2
    have bx : j * ks.length + ks.length ≤ xs.length := by omega
    have bY : j * ks.length + ks.length ≤ ys.length := by omega
    have r := eqItems_ok hk hc ih xs ys w n (j + 1) (by rw [Nat.add_mul, Nat.one_mul]; exact bx) (by rw [Nat.add_mul, Nat.one_mul]; exact bY) x2 y2
    have p1 := part_plain hk hc (cs := xs) (off := j * ks.length) bx w
    have p2 := part_plain hk hc (cs := ys) (off := j * ks.length) bY w
    have e1 := ih w _ _ x1 y1
    have sp := eqD_split (n := ks.length) (xs := xs.drop (j * ks.length)) (ys := ys.drop (j * ks.length)) (by simp; omega)
    rw [List.drop_drop, List.drop_drop, show j * ks.length + ks.length = (j + 1) * ks.length by rw [Nat.add_mul]; omega] at sp
    rw [List.range'_succ]
    simp only [Op.eqItems, Sem.run_bind, hc, p1, p2, e1, Result.andThen_ok, sp]
    rw [hc] at r
    cases eqD ((xs.drop (j * ks.length)).take ks.length) ((ys.drop (j * ks.length)).take ks.length) <;> simp [r]
theorem fit_int {k : IntKind} {xs : List Value} (h : fitL [.i k] xs = true) : ∃ a, xs = [.int k a] := by
  cases xs with
  | nil => cases h
  | cons v vs =>
    simp only [fitL, Bool.and_eq_true] at h
    obtain rfl : vs = [] := List.eq_nil_of_length_eq_zero (fitL.length h.2)
    have h1 := h.1
    cases v <;> simp only [Kc.fit, Bool.false_eq_true, beq_iff_eq] at h1
    subst h1
    exact ⟨_, rfl⟩
theorem eqT_ok (P : Program) (D : Nat) : ∀ (f : Nat) (t : TypeId) (ks : List Kc), kcT P f t = some ks → EqT P (D + f) t ks
  | 0, _, _, h => by cases h
  | f + 1, t, ks, h => by
    have ih := eqT_ok P D f
    intro w xs ys hx hy
    have h0 := h
    unfold kcT at h
    cases hu : P.underlying t with
    | none => rw [hu] at h; cases h
    | some d =>
      rw [hu] at h
      cases d
      case bool =>
        cases h
        match xs, ys, hx, hy with
        | [.bool a], [.bool b], _, _ =>
          rw [asV_one hu rfl, asV_one hu rfl]
          show (Op.equalIn (D + f + 1) t (.bool a) (.bool b)).run P w = _
          rw [run_equalIn_bool' w (D + f) t a b hu]
          simp [eqD, eqW]
      case int k =>
        cases h
        obtain ⟨a, rfl⟩ := fit_int hx
        obtain ⟨b, rfl⟩ := fit_int hy
        · rw [asV_one hu rfl, asV_one hu rfl]
          show (Op.equalIn (D + f + 1) t (.int k a) (.int k b)).run P w = _
          rw [run_equalIn_int w (D + f) t k k a b hu]
          simp [eqD, eqW]
      case string =>
        cases h
        match xs, ys, hx, hy with
        | [.string a], [.string b], _, _ =>
          rw [asV_one hu rfl, asV_one hu rfl]
          show (Op.equalIn (D + f + 1) t (.string a) (.string b)).run P w = _
          rw [run_equalIn_string w (D + f) t a b hu]
          simp [eqD, eqW, ByteArray.toList_eq]
      case array n e =>
        simp only at h
        split at h
        · rename_i k1 hk1
          split at h
          · rename_i hc
            cases h
            rw [asV_agg hu rfl, asV_agg hu rfl]
            obtain ⟨_, i, _, hi, _⟩ := kcT_info hk1
            show (Op.equalIn (D + f + 1) t (.agg ⟨xs⟩) (.agg ⟨ys⟩)).run P w = _
            rw [run_equalIn_array w (D + f) _ _ hu hi, List.range_eq_range']
            have := eqItems_ok hk1 hc (ih e k1 hk1) xs ys w n 0 (by simp) (by simp) (by simpa using hx) (by simpa using hy)
            simpa using this
          · cases h
        · cases h
      case struct fs =>
        simp only at h
        split at h
        · cases h
        · rename_i hst
          have hfs : P.fieldsOf t = fs := by simp [Program.fieldsOf, hu]
          rw [asV_agg hu rfl, asV_agg hu rfl]
          show (Op.equalIn (D + f + 1) t (.agg ⟨xs⟩) (.agg ⟨ys⟩)).run P w = _
          rw [run_equalIn_struct w (D + f) t _ _ (by rw [hfs]; exact hu) (by simpa using hst), hfs]
          have := eqFields_ok ih xs ys w fs.toList 0 ks h (Nat.zero_le _) (Nat.zero_le _) (by simpa using hx) (by simpa using hy)
          simpa using this
      all_goals (simp at h)
/-- Two structs, or arrays, of plain data: are they the same? -/
def oEqAgg (P : Program) (t : TypeId) (x y : Value) : Option Bool :=
  match x, y with
  | .agg xs, .agg ys =>
    match P.underlying t with
    | some d =>
      if aggD d && !P.eqGuardType P.depth t then
        match kcT P 10 t with
        | some ks => if fitL ks xs.toList && fitL ks ys.toList then some (eqD xs.toList ys.toList) else none
        | none => none
      else none
    | none => none
  | _, _ => none
theorem oEqAgg_ok {P : Program} {t : TypeId} {x y : Value} {b : Bool} (h : oEqAgg P t x y = some b) (w : World) (op : BinOp) (xo yo : Operand) :
    ∃ xs ys, x = .agg xs ∧ y = .agg ys ∧ (Op.equal t x y).run P w = .ok b w ∧ (eqGuard op t xo yo x y).run P w = .ok () w := by
  unfold oEqAgg at h
  split at h
  · rename_i xs ys
    split at h
    · rename_i d hu
      split at h
      · rename_i hc
        simp only [Bool.and_eq_true, Bool.not_eq_true'] at hc
        split at h
        · rename_i ks hk
          split at h
          · rename_i hf
            cases h
            simp only [Bool.and_eq_true] at hf
            have := eqT_ok P 9990 10 t ks hk w _ _ hf.1 hf.2
            rw [asV_agg hu hc.1, asV_agg hu hc.1] at this
            exact ⟨xs, ys, rfl, rfl, this, run_eqGuard_agg w op t xo yo xs ys hc.2⟩
          · cases h
        · cases h
      · cases h
    · cases h
  · cases h
def kIx : IntKind → Nat
  | .i8 => 0 | .i16 => 1 | .i32 => 2 | .i64 => 3 | .u8 => 4 | .u16 => 5 | .u32 => 6 | .u64 => 7
theorem kIx_inj {a b : IntKind} (h : Nat.beq (kIx a) (kIx b) = true) : a = b := by
  cases a <;> cases b <;> first | rfl | (exact absurd h (by decide))
/-- Two numbers of one kind, by an operator; not shifts. -/
def oFastInt (b : BinOp) (k : IntKind) (a c : Int) : Option Value :=
  match b with
  | .add => some (.int k (k.wrap (a + c)))
  | .sub => some (.int k (k.wrap (a - c)))
  | .mul => some (.int k (k.wrap (a * c)))
  | .quo => if c = 0 then none else some (.int k (k.wrap (a.tdiv c)))
  | .rem => if c = 0 then none else some (.int k (a.tmod c))
  | .and => some (.int k (k.wrap (BitVec.ofInt k.bits a &&& BitVec.ofInt k.bits c).toNat))
  | .or => some (.int k (k.wrap (BitVec.ofInt k.bits a ||| BitVec.ofInt k.bits c).toNat))
  | .xor => some (.int k (k.wrap (BitVec.ofInt k.bits a ^^^ BitVec.ofInt k.bits c).toNat))
  | .andNot => some (.int k (k.wrap (BitVec.ofInt k.bits a &&& ~~~BitVec.ofInt k.bits c).toNat))
  | .eql => some (.bool (a == c))
  | .neq => some (.bool (a != c))
  | .lss => some (.bool (decide (a < c)))
  | .leq => some (.bool (decide (a ≤ c)))
  | .gtr => some (.bool (decide (a > c)))
  | .geq => some (.bool (decide (a ≥ c)))
  | _ => none
theorem oFastInt_ok {P : Program} {b : BinOp} {k : IntKind} {a c : Int} {v : Value} (h : oFastInt b k a c = some v) (t : TypeId) (w : World) : (binOp b t (.int k a) (.int k c)).run P w = .ok v w := by
  cases b <;> simp only [oFastInt] at h
  case quo =>
    split at h
    · cases h
    · rename_i hc; cases h; simp [binOp, Op.intDiv, hc]
  case rem =>
    split at h
    · cases h
    · rename_i hc; cases h; simp [binOp, Op.intDiv, hc]
  all_goals first | (cases h; done) | (cases h; simp [binOp, Op.intArith, Op.intBits, Op.intCmp])
theorem int_guard {P : Program} (b : BinOp) (t : TypeId) (xo yo : Operand) (k j : IntKind) (a c : Int) (w : World) : (eqGuard b t xo yo (.int k a) (.int j c)).run P w = .ok () w := by
  unfold eqGuard; cases b <;> simp
/-- Two strings, compared or put together. -/
def oFastStr (b : BinOp) (a c : ByteArray) : Option Value :=
  match b with
  | .eql => some (.bool (a.data.toList == c.data.toList))
  | .neq => some (.bool !(a.data.toList == c.data.toList))
  | .add => if ((a.size + c.size : Nat) : Int) > IntKind.i64.max then none else some (.string ⟨⟨a.data.toList ++ c.data.toList⟩⟩)
  | _ => none
theorem oFastStr_ok {P : Program} {b : BinOp} {a c : ByteArray} {v : Value} (h : oFastStr b a c = some v) (t : TypeId) (w : World) : (binOp b t (.string a) (.string c)).run P w = .ok v w := by
  cases b <;> simp only [oFastStr] at h
  case add =>
    split at h
    · cases h
    · rename_i hc
      cases h
      have e : (a ++ c : ByteArray) = ⟨⟨a.data.toList ++ c.data.toList⟩⟩ := by
        apply ByteArray.ext
        rw [ByteArray.data_append]
        apply Array.toList_inj.1
        simp
      show (Op.stringOp .add a c).run P w = _
      unfold Op.stringOp
      simp only [hc, if_false, e]
      rfl
  all_goals first | (cases h; done) | (cases h; simp [binOp, Op.stringOp, ByteArray.toList_eq])
theorem str_guard {P : Program} (b : BinOp) (t : TypeId) (xo yo : Operand) (a c : ByteArray) (w : World) : (eqGuard b t xo yo (.string a) (.string c)).run P w = .ok () w := by
  unfold eqGuard; cases b <;> simp
/-- What an operator comes to of numbers of one kind, or of structs and arrays of plain data that are compared. -/
def oFastBin (P : Program) (b : BinOp) (t : TypeId) (x y : Value) (h : List AO) : Option Out :=
  match x, y with
  | .int k a, .int j c =>
    if Nat.beq (kIx k) (kIx j) then
      match oFastInt b k a c with
      | some v => some (.value v, h, none)
      | none => none
    else none
  | .agg xs, .agg ys =>
    match b with
    | .eql =>
      match oEqAgg P t (.agg xs) (.agg ys) with
      | some r => some (.value (.bool r), h, none)
      | none => none
    | .neq =>
      match oEqAgg P t (.agg xs) (.agg ys) with
      | some r => some (.value (.bool !r), h, none)
      | none => none
    | _ => none
  | .string a, .string c =>
    match oFastStr b a c with
    | some v => some (.value v, h, none)
    | none => none
  | _, _ => none
theorem fitL.flat : ∀ {ks : List Kc} {vs : List Value}, fitL ks vs = true → vs.all scal = true
  | [], [], _ => rfl
  | k :: ks, v :: vs, h => by
    simp only [fitL, Bool.and_eq_true] at h
    simp only [List.all_cons, fitL.flat h.2, Bool.and_true]
    cases k <;> cases v <;> simp_all [Kc.fit, scal]
  | [], _ :: _, h => by cases h
  | _ :: _, [], h => by cases h
theorem oEqAgg_flat {P : Program} {t : TypeId} {x y : Value} {b : Bool} (h : oEqAgg P t x y = some b) : flat x = true ∧ flat y = true := by
  unfold oEqAgg at h
  split at h
  · rename_i xs ys
    split at h
    · split at h
      · split at h
        · split at h
          · rename_i hf
            simp only [Bool.and_eq_true] at hf
            exact ⟨by simpa [flat, flat1] using fitL.flat hf.1, by simpa [flat, flat1] using fitL.flat hf.2⟩
          · cases h
        · cases h
      · cases h
    · cases h
  · cases h
theorem fastBin_ok {P : Program} {s : Ren} {h : List AO} {w : World} {b : BinOp} {t : TypeId} {x x' y y' : Value} (hx : VR s x x') (hy : VR s y y') {xo yo : Operand} {r : Out} (hr : oFastBin P b t x y h = some r) :
    Okay0 P s h w (aval (do eqGuard b t xo yo x' y'; binOp b t x' y')) r := by
  unfold oFastBin at hr
  split at hr
  · rename_i k a j c
    rw [hx.eq_of_flat rfl, hy.eq_of_flat rfl]
    split at hr
    · rename_i hk
      obtain rfl := kIx_inj hk
      split at hr
      · rename_i v hv
        cases hr
        refine okay0 (v' := v) ?_ (VR.same ?_)
        · simp [int_guard, oFastInt_ok hv]
        · cases b <;> simp only [oFastInt] at hv
          case quo => split at hv <;> cases hv; rfl
          case rem => split at hv <;> cases hv; rfl
          all_goals first | (cases hv; done) | (cases hv; rfl)
      · cases hr
    · cases hr
  · rename_i xs ys
    split at hr
    · split at hr
      · rename_i q hq
        cases hr
        obtain ⟨f1, f2⟩ := oEqAgg_flat hq
        rw [hx.eq_of_flat f1, hy.eq_of_flat f2]
        obtain ⟨_, _, _, _, e1, e2⟩ := oEqAgg_ok hq w .eql xo yo
        refine okay0 (v' := .bool q) ?_ (VR.same rfl)
        simp [binOp, e1, e2]
      · cases hr
    · split at hr
      · rename_i q hq
        cases hr
        obtain ⟨f1, f2⟩ := oEqAgg_flat hq
        rw [hx.eq_of_flat f1, hy.eq_of_flat f2]
        obtain ⟨_, _, _, _, e1, e2⟩ := oEqAgg_ok hq w .neq xo yo
        refine okay0 (v' := .bool !q) ?_ (VR.same rfl)
        simp [binOp, e1, e2]
      · cases hr
    · cases hr
  · rename_i a c
    rw [hx.eq_of_flat rfl, hy.eq_of_flat rfl]
    split at hr
    · rename_i v hv
      cases hr
      refine okay0 (v' := v) ?_ (VR.same ?_)
      · simp [str_guard, oFastStr_ok hv]
      · cases b <;> simp only [oFastStr] at hv
        case add => split at hv <;> cases hv; rfl
        all_goals first | (cases hv; done) | (cases hv; rfl)
    · cases hr
  · cases hr
/-- A number as one of another kind. -/
def oFastConv (P : Program) (a b : TypeId) (x : Value) (h : List AO) : Option Out :=
  match x with
  | .int _ n =>
    match P.underlying a, P.underlying b with
    | some _, some (.int k) => some (.value (.int k (k.wrap n)), h, none)
    | _, _ => none
  | _ => none
theorem fastConv_ok {P : Program} {s : Ren} {h : List AO} {w : World} {a b : TypeId} {x x' : Value} (hx : VR s x x') {r : Out} (hr : oFastConv P a b x h = some r) : Okay0 P s h w (aval (convert a b x')) r := by
  unfold oFastConv at hr
  split at hr
  · rename_i j n
    rw [hx.eq_of_flat rfl]
    split at hr
    · rename_i d k h1 h2
      cases hr
      refine okay0 (v' := .int k (k.wrap n)) ?_ (VR.same rfl)
      simp [convert, run_under h1, run_under h2, Conv.intToInt]
    · cases hr
  · cases hr
end Go.Proofs.Ytafegjmaldbbiaa.Ex
