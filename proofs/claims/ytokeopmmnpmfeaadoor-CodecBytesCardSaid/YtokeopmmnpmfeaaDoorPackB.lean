/-
  Lemmas for the laws of this seat, part B: Ex7, Ex8, Ex9, Ex10, Ex11.
-/
import Derived.Test.YtokeopmmnpmfeaaDoorPackA
section
namespace Go.Proofs.YtokeopmmnpmfeaaDoor.Ex
set_option maxRecDepth 20000

open Go Go.RowKit

def quietB (n : Nat) (m : Option Nat) : Bool :=
  match m with
  | none => true
  | some m => decide (n ≤ m)
theorem quietB_ok {n : Nat} {m : Option Nat} (h : quietB n m = true) : BndO n m := by
  intro i hi
  subst hi
  simpa [quietB] using h
def callA (P : Program) (rec : Rec) (f : FuncId) (args : List Value) (h : List AO) : Option (Value × List AO × Mk) :=
  match rec.hook f args h with
  | some (v, new, cs) => some (v, hookH h new, (effL new, cs))
  | none =>
  match P.funcs[f]? with
  | none => none
  | some fn =>
    match fn.body with
    | none => none
    | some c =>
      match rec.run f c ⟨args ++ List.replicate (fn.ntmps - args.length) undef, h, (none, [])⟩ with
      | some (.normal, x) | some (.ret, x) =>
        match resL P x.t x.h fn.results.toList with
        | some vs =>
          if flat (oneOf vs) && quietB h.length x.m.1 then some (oneOf vs, h, (none, x.m.2))
          else some (oneOf vs, x.h, x.m)
        | none => none
      | _ => none
def b2i : Bool → Int
  | true => 1
  | false => 0
theorem b2i_inj {a b : Bool} (h : b2i a = b2i b) : a = b := by cases a <;> cases b <;> first | rfl | (simp [b2i] at h)
/-- A value that is told: what it must be the same as. -/
def fixV (u : Option Value) (v : Value) : Option (Value × Cs) :=
  match u with
  | none => some (v, [])
  | some .nilFunc => some (v, [])
  | some .nilIface => some (v, [])
  | some (.map none) => some (v, [])
  | some (.tuple _) => some (v, [])
  | some (.int j n) =>
    match v with
    | .int k m => if k = j then some (.int j n, [(m, n)]) else none
    | _ => none
  | some (.bool b) =>
    match v with
    | .bool a => some (.bool b, [(b2i a, b2i b)])
    | _ => none
  | _ => none
theorem fixV_ok {u : Option Value} {v v' : Value} {cs : Cs} (h : fixV u v = some (v', cs)) (hc : ∀ c ∈ cs, c.1 = c.2) : v' = v := by
  unfold fixV at h
  split at h
  · cases h; rfl
  · cases h; rfl
  · cases h; rfl
  · cases h; rfl
  · cases h; rfl
  · split at h
    · split at h
      · rename_i hk
        cases h
        have := hc _ (List.mem_singleton.2 rfl)
        simp only at this
        rw [hk, this]
      · cases h
    · cases h
  · split at h
    · cases h
      have := hc _ (List.mem_singleton.2 rfl)
      rw [b2i_inj this]
    · cases h
  · cases h
/-- A quotient, or what is left, by a number that may not be known: it must not be 0. An oracle says `.nilIface` there. -/
def quoB (u : Option Value) : Bool :=
  match u with
  | some .nilIface => true
  | _ => false
def qOp (ρ : Operand → Value) (o : Oper) : Option (Value × Cs) :=
  match o.op with
  | .binOp b _ x y _ =>
    match ρ x, ρ y with
    | .int k a, .int j c =>
      if Nat.beq (kIx k) (kIx j) then
        match b with
        | .quo => some (.int k (k.wrap (a.tdiv c)), [(b2i (decide (c = 0)), 0)])
        | .rem => some (.int k (a.tmod c), [(b2i (decide (c = 0)), 0)])
        | .shl => some (.int k (k.wrap (a * 2 ^ min c.toNat k.bits)), [(b2i (decide (c < 0)), 0)])
        | .shr => some (.int k (a.fdiv (2 ^ min c.toNat k.bits)), [(b2i (decide (c < 0)), 0)])
        | _ => none
      else none
    | _, _ => none
  | _ => none
theorem qOp_ok {P : Program} {s : Ren} {ρ ρ' : Operand → Value} {o : Oper} {v : Value} {cs : Cs} (hρ : ∀ x ∈ o.op.operands, VR s (ρ x) (ρ' x)) (h : qOp ρ o = some (v, cs)) (hc : ∀ c ∈ cs, c.1 = c.2) (w : World) :
    (execOp ρ' o).run P w = .ok (.value v) w ∧ flat v = true := by
  obtain ⟨dst, op, type, pos, after, guard⟩ := o
  unfold qOp at h
  cases op <;> simp only at h <;> try (cases h; done)
  rename_i b t x y t2
  have hx := hρ x (by simp [Op.operands])
  have hy := hρ y (by simp [Op.operands])
  split at h
  · rename_i k a j c hxa hyc
    rw [hxa] at hx
    rw [hyc] at hy
    have ex := hx.eq_of_flat rfl
    have ey := hy.eq_of_flat rfl
    split at h
    · rename_i hk
      obtain rfl := kIx_inj hk
      split at h
      · cases h
        have h0 : decide (c = 0) = false := b2i_inj (b := false) (hc _ (List.mem_singleton.2 rfl))
        have hne : c ≠ 0 := by simpa using h0
        refine ⟨?_, rfl⟩
        simp [execOp, ex, ey, int_guard, binOp, Op.intDiv, hne]
      · cases h
        have h0 : decide (c = 0) = false := b2i_inj (b := false) (hc _ (List.mem_singleton.2 rfl))
        have hne : c ≠ 0 := by simpa using h0
        refine ⟨?_, rfl⟩
        simp [execOp, ex, ey, int_guard, binOp, Op.intDiv, hne]
      · cases h
        have h0 : decide (c < 0) = false := b2i_inj (b := false) (hc _ (List.mem_singleton.2 rfl))
        have hne : ¬ c < 0 := by simpa using h0
        refine ⟨?_, rfl⟩
        simp [execOp, ex, ey, int_guard, binOp, Op.shift, hne]
      · cases h
        have h0 : decide (c < 0) = false := b2i_inj (b := false) (hc _ (List.mem_singleton.2 rfl))
        have hne : ¬ c < 0 := by simpa using h0
        refine ⟨?_, rfl⟩
        simp [execOp, ex, ey, int_guard, binOp, Op.shift, hne]
      · cases h
    · cases h
  · cases h
/-- A number that is not known, looked up in a map that does not have it: it must be none of its keys. An oracle says `.nilIface` there. -/
def keysNe (k : IntKind) (a : Int) : List Value → Option Cs
  | [] => some []
  | x :: r =>
    match keyOf x with
    | .int j c =>
      if Nat.beq (kIx k) (kIx j) then
        match keysNe k a r with
        | some cs => some ((b2i (a == c), 0) :: cs)
        | none => none
      else none
    | _ => none
theorem keysNe_ok {k : IntKind} {a : Int} : ∀ {l : List Value} {ps : Cs}, keysNe k a l = some ps → (∀ c ∈ ps, c.1 = c.2) → ∀ (n i : Nat), Instr.findNow (.int k) (.int k a) (ents n l) i = some none
  | [], _, _, _, n, i => rfl
  | x :: r, ps, h, hc, n, i => by
    unfold keysNe at h
    split at h
    · rename_i j c hk
      split at h
      · rename_i hj
        obtain rfl := kIx_inj hj
        split at h
        · rename_i cs hr
          cases h
          have h0 : (a == c) = false := b2i_inj (b := false) (hc _ (List.mem_cons_self ..))
          simp only [ents, Instr.findNow, hk, Instr.sameNow, h0, if_true]
          exact keysNe_ok hr (fun c hm => hc c (List.mem_cons_of_mem _ hm)) (n + 1) (i + 1)
        · cases h
      · cases h
    · cases h
def lOp (P : Program) (ρ : Operand → Value) (h : List AO) (o : Oper) : Option (Value × Cs) :=
  match o.op with
  | .lookup t x ix ok =>
    match P.underlying t with
    | some (.map kt et) =>
      match P.underlying kt, mapCells (ρ x) h, ρ ix with
      | some (.int k), some cs, .int j a =>
        if Nat.beq (kIx j) (kIx k) then
          match keysNe k a cs with
          | some ps =>
            match P.info? et with
            | some i =>
              match i.zero with
              | some z => if flat z && flat (okPair ok false z) then some (okPair ok false z, ps) else none
              | none => none
            | none => none
          | none => none
        else none
      | _, _, _ => none
    | _ => none
  | _ => none
theorem lOp_ok {P : Program} {s : Ren} {ρ ρ' : Operand → Value} {h : List AO} {w : World} (H : MR s h w) {o : Oper} {v : Value} {cs : Cs} (hρ : ∀ x ∈ o.op.operands, VR s (ρ x) (ρ' x)) (hr : lOp P ρ h o = some (v, cs)) (hc : ∀ c ∈ cs, c.1 = c.2) :
    (execOp ρ' o).run P w = .ok (.value v) w ∧ flat v = true := by
  obtain ⟨dst, op, type, pos, after, guard⟩ := o
  unfold lOp at hr
  cases op <;> simp only at hr <;> try (cases hr; done)
  rename_i t x ix ok
  have hx := hρ x (by simp [Op.operands])
  have hi := hρ ix (by simp [Op.operands])
  split at hr
  · rename_i kt et hu
    split at hr
    · rename_i k cs1 j a hd hm hix
      split at hr
      · rename_i hj
        obtain rfl := kIx_inj hj
        split at hr
        · rename_i ps hps
          split at hr
          · rename_i i hinf
            split at hr
            · rename_i z hz
              split at hr
              · rename_i hzf0
                cases hr
                simp only [Bool.and_eq_true] at hzf0
                obtain ⟨hzf, hfl⟩ := hzf0
                have hf := keysNe_ok hps hc 0 0
                have ho : oLookup P t (ρ x) (ρ ix) ok h = some (.value (okPair ok false z), h, none) := by
                  unfold oLookup
                  rw [hu]
                  simp only
                  rw [hd, hm]
                  simp only
                  rw [hix]
                  rw [if_pos (show keyB (.int j) (.int j a) = true by simp [keyB]), hf]
                  simp only
                  rw [hinf]
                  simp only
                  rw [hz]
                  simp only
                  rw [if_pos hzf]
                obtain ⟨n', e1, e2, _⟩ := lookup_ok H hx hi ho
                refine ⟨?_, hfl⟩
                cases n' <;> simp only [NR] at e2
                rw [e2.eq_of_flat hfl] at e1
                exact e1
              · cases hr
            · cases hr
          · cases hr
        · cases hr
      · cases hr
    · cases hr
  · cases hr
/-- A number that is not known, looked up in a map: it is its j-th key. An oracle says `.iface 0 (.int k j)` there. -/
def keysTo (k : IntKind) (a : Int) : Nat → List Value → Option (Cs × Value)
  | _, [] => none
  | 0, x :: _ =>
    match keyOf x with
    | .int j c => if Nat.beq (kIx k) (kIx j) then some ([(b2i (a == c), 1)], valOf x) else none
    | _ => none
  | m + 1, x :: r =>
    match keyOf x with
    | .int j c =>
      if Nat.beq (kIx k) (kIx j) then
        match keysTo k a m r with
        | some (cs, v) => some ((b2i (a == c), 0) :: cs, v)
        | none => none
      else none
    | _ => none
theorem keysTo_ok {k : IntKind} {a : Int} : ∀ {m : Nat} {l : List Value} {ps : Cs} {v : Value}, keysTo k a m l = some (ps, v) → (∀ c ∈ ps, c.1 = c.2) → ∀ (n i : Nat), Instr.findNow (.int k) (.int k a) (ents n l) i = some (some (i + m, v))
  | _, [], _, _, h, _, _, _ => by simp [keysTo] at h
  | 0, x :: r, ps, v, h, hc, n, i => by
    unfold keysTo at h
    split at h
    · rename_i j c hk
      split at h
      · rename_i hj
        obtain rfl := kIx_inj hj
        cases h
        have h0 : (a == c) = true := b2i_inj (b := true) (hc _ (List.mem_cons_self ..))
        simp only [ents, Instr.findNow, hk, Instr.sameNow, h0, if_true]
        simp
      · cases h
    · cases h
  | m + 1, x :: r, ps, v, h, hc, n, i => by
    unfold keysTo at h
    split at h
    · rename_i j c hk
      split at h
      · rename_i hj
        obtain rfl := kIx_inj hj
        split at h
        · rename_i cs v' hr
          cases h
          have h0 : (a == c) = false := b2i_inj (b := false) (hc _ (List.mem_cons_self ..))
          simp only [ents, Instr.findNow, hk, Instr.sameNow, h0, if_true]
          have := keysTo_ok hr (fun c hm => hc c (List.mem_cons_of_mem _ hm)) (n + 1) (i + 1)
          rw [show i + (m + 1) = i + 1 + m by omega]
          exact this
        · cases h
      · cases h
    · cases h
def kAsk (u : Option Value) : Option Nat :=
  match u with
  | some (.iface _ (.int _ j)) => some j.toNat
  | _ => none
def kOp (P : Program) (ρ : Operand → Value) (h : List AO) (o : Oper) (m : Nat) : Option (Value × Cs) :=
  match o.op with
  | .lookup t x ix ok =>
    match P.underlying t with
    | some (.map kt _) =>
      match P.underlying kt, mapCells (ρ x) h, ρ ix with
      | some (.int k), some cs, .int j a =>
        if Nat.beq (kIx j) (kIx k) then
          match keysTo k a m cs with
          | some (ps, v) => if flat (okPair ok true v) then some (okPair ok true v, ps) else none
          | none => none
        else none
      | _, _, _ => none
    | _ => none
  | _ => none
theorem kOp_ok {P : Program} {s : Ren} {ρ ρ' : Operand → Value} {h : List AO} {w : World} (H : MR s h w) {o : Oper} {m : Nat} {v : Value} {cs : Cs} (hρ : ∀ x ∈ o.op.operands, VR s (ρ x) (ρ' x)) (hr : kOp P ρ h o m = some (v, cs)) (hc : ∀ c ∈ cs, c.1 = c.2) :
    (execOp ρ' o).run P w = .ok (.value v) w ∧ flat v = true := by
  obtain ⟨dst, op, type, pos, after, guard⟩ := o
  unfold kOp at hr
  cases op <;> simp only at hr <;> try (cases hr; done)
  rename_i t x ix ok
  have hx := hρ x (by simp [Op.operands])
  have hi := hρ ix (by simp [Op.operands])
  split at hr
  · rename_i kt et hu
    split at hr
    · rename_i k cs1 j a hd hm hix
      split at hr
      · rename_i hj
        obtain rfl := kIx_inj hj
        split at hr
        · rename_i ps v1 hps
          split at hr
          · rename_i hfl
            cases hr
            have hf := keysTo_ok hps hc 0 0
            have ho : oLookup P t (ρ x) (ρ ix) ok h = some (.value (okPair ok true v1), h, none) := by
              unfold oLookup
              rw [hu]
              simp only
              rw [hd, hm]
              simp only
              rw [hix]
              rw [if_pos (show keyB (.int j) (.int j a) = true by simp [keyB]), hf]
              all_goals rfl
            obtain ⟨n', e1, e2, _⟩ := lookup_ok H hx hi ho
            refine ⟨?_, hfl⟩
            cases n' <;> simp only [NR] at e2
            rw [e2.eq_of_flat hfl] at e1
            exact e1
          · cases hr
        · cases hr
      · cases hr
    · cases hr
  · cases hr
/-- A number that is not known, laid into a map as a new key: it must be none of its keys. An oracle says `.nilIface` at the place 1000001. -/
def uAsk (o : Oper) (u : Option Value) : Bool :=
  match o.op with
  | .mapUpdate _ _ _ _ => quoB u
  | _ => false
def uOp (P : Program) (ρ : Operand → Value) (h : List AO) (o : Oper) : Option (List AO × Nat × Cs) :=
  match o.op with
  | .mapUpdate t m key v =>
    match P.underlying t, ρ m with
    | some (.map kt _), .map (some r) =>
      match P.underlying kt, h[r]?, ρ key with
      | some (.int k), some ob, .int j a =>
        if Nat.beq (kIx j) (kIx k) && (ob.live && isM ob) then
          match keysNe k a ob.cs with
          | some ps => some (h.set r ⟨true, some 0, ob.cs ++ [.tuple ⟨[ρ key, ρ v]⟩]⟩, r, ps)
          | none => none
        else none
      | _, _, _ => none
    | _, _ => none
  | _ => none
theorem uOp_ok {P : Program} {wb : Wb} {k0 : Nat} {s : Ren} {ρ ρ' : Operand → Value} {h : List AO} {w : World} (H : HR wb k0 s h w) {o : Oper} {h' : List AO} {b : Nat} {cs : Cs} (hρ : ∀ x ∈ o.op.operands, VR s (ρ x) (ρ' x)) (hr : uOp P ρ h o = some (h', b, cs)) (hc : ∀ c ∈ cs, c.1 = c.2) (hk : k0 ≤ b) :
    Okay P wb k0 s w (execOp ρ' o) (.skip, h', some b) := by
  obtain ⟨dst, op, type, pos, after, guard⟩ := o
  unfold uOp at hr
  cases op <;> simp only at hr <;> try (cases hr; done)
  rename_i t m key v
  have hm := hρ m (by simp [Op.operands])
  have hkey := hρ key (by simp [Op.operands])
  have hv := hρ v (by simp [Op.operands])
  split at hr
  · rename_i kt et r hu hmr
    split at hr
    · rename_i k ob j a hd ho hkk
      split at hr
      · rename_i hcond
        simp only [Bool.and_eq_true] at hcond
        obtain ⟨hj, hlive, hmm⟩ := hcond
        obtain rfl := kIx_inj hj
        split at hr
        · rename_i ps hps
          cases hr
          have hf := keysNe_ok hps hc 0 0
          have hou : oMapUpdate P t (ρ m) (ρ key) (ρ v) h = some (.skip, h.set b ⟨true, some 0, ob.cs ++ [.tuple ⟨[ρ key, ρ v]⟩]⟩, some b) := by
            unfold oMapUpdate
            rw [hu, hmr]
            simp only
            rw [hd, ho]
            simp only
            rw [hkk, if_pos (by simp [hlive, hmm, keyB]), hf]
            all_goals rfl
          exact mapUpdate_ok H hm hkey hv hou (fun i hi => by cases hi; exact hk)
        · cases hr
      · cases hr
    · cases hr
  · cases hr
/-- A number that is not known, looked up in a map whose first key it is. An oracle says `.map none` there. -/
def hitB (u : Option Value) : Bool :=
  match u with
  | some (.map none) => true
  | _ => false
def hOp (P : Program) (ρ : Operand → Value) (h : List AO) (o : Oper) : Option (Value × Cs) :=
  match o.op with
  | .lookup t x ix ok =>
    match P.underlying t with
    | some (.map kt _) =>
      match P.underlying kt, mapCells (ρ x) h, ρ ix with
      | some (.int k), some (y :: _), .int j a =>
        if Nat.beq (kIx j) (kIx k) then
          match keyOf y with
          | .int j2 c =>
            if Nat.beq (kIx k) (kIx j2) && flat (okPair ok true (valOf y)) then some (okPair ok true (valOf y), [(b2i (a == c), 1)]) else none
          | _ => none
        else none
      | _, _, _ => none
    | _ => none
  | _ => none
theorem hOp_ok {P : Program} {s : Ren} {ρ ρ' : Operand → Value} {h : List AO} {w : World} (H : MR s h w) {o : Oper} {v : Value} {cs : Cs} (hρ : ∀ x ∈ o.op.operands, VR s (ρ x) (ρ' x)) (hr : hOp P ρ h o = some (v, cs)) (hc : ∀ c ∈ cs, c.1 = c.2) :
    (execOp ρ' o).run P w = .ok (.value v) w ∧ flat v = true := by
  obtain ⟨dst, op, type, pos, after, guard⟩ := o
  unfold hOp at hr
  cases op <;> simp only at hr <;> try (cases hr; done)
  rename_i t x ix ok
  have hx := hρ x (by simp [Op.operands])
  have hi := hρ ix (by simp [Op.operands])
  split at hr
  · rename_i kt et hu
    split at hr
    · rename_i k y r j a hd hm hix
      split at hr
      · rename_i hj
        obtain rfl := kIx_inj hj
        split at hr
        · rename_i j2 c hk
          split at hr
          · rename_i hjf
            cases hr
            simp only [Bool.and_eq_true] at hjf
            obtain ⟨hj2, hfl⟩ := hjf
            obtain rfl := kIx_inj hj2
            have h0 : (a == c) = true := b2i_inj (b := true) (hc _ (List.mem_singleton.2 rfl))
            have hf : Instr.findNow (.int j) (.int j a) (ents 0 (y :: r)) 0 = some (some (0, valOf y)) := by
              simp only [ents, Instr.findNow, hk, Instr.sameNow, h0, if_true]
            have ho : oLookup P t (ρ x) (ρ ix) ok h = some (.value (okPair ok true (valOf y)), h, none) := by
              unfold oLookup
              rw [hu]
              simp only
              rw [hd, hm]
              simp only
              rw [hix]
              rw [if_pos (show keyB (.int j) (.int j a) = true by simp [keyB]), hf]
              all_goals rfl
            obtain ⟨n', e1, e2, _⟩ := lookup_ok H hx hi ho
            refine ⟨?_, hfl⟩
            cases n' <;> simp only [NR] at e2
            rw [e2.eq_of_flat hfl] at e1
            exact e1
          · cases hr
        · cases hr
      · cases hr
    · cases hr
  · cases hr
def hitA (u : Option Value) (P : Program) (ρ : Operand → Value) (h : List AO) (o : Oper) : Option (Value × Cs) := if hitB u then hOp P ρ h o else none
theorem hitA_ok {u : Option Value} {P : Program} {s : Ren} {ρ ρ' : Operand → Value} {h : List AO} {w : World} (H : MR s h w) {o : Oper} {v : Value} {cs : Cs} (hρ : ∀ x ∈ o.op.operands, VR s (ρ x) (ρ' x)) (hr : hitA u P ρ h o = some (v, cs)) (hc : ∀ c ∈ cs, c.1 = c.2) :
    (execOp ρ' o).run P w = .ok (.value v) w ∧ flat v = true := by
  unfold hitA at hr
  split at hr
  · exact hOp_ok H hρ hr hc
  · cases hr
/-- A text that is not known: a byte of it, and a part of it. An oracle says `.nilIface` there. -/
def byteI (s : ByteArray) (i : Int) : Int := ((s.data.toList.getD i.toNat 0).toNat : Int)
def numsK (k : IntKind) : List Value → Option (List Int)
  | [] => some []
  | .int j n :: l =>
    if Nat.beq (kIx j) (kIx k) then
      match numsK k l with
      | some ns => some (n :: ns)
      | none => none
    else none
  | _ => none
theorem numsK_ok {k : IntKind} : ∀ {l : List Value} {ns : List Int}, numsK k l = some ns → l = ns.map (.int k)
  | [], ns, h => by cases h; rfl
  | x :: l, ns, h => by
    unfold numsK at h
    split at h
    · rename_i he; cases he
    · rename_i j n l' he
      cases he
      split at h
      · rename_i hk
        split at h
        · rename_i ns' hn
          cases h
          rw [kIx_inj (Nat.beq (kIx j) (kIx k) |> fun _ => hk), numsK_ok hn]
          rfl
        · cases h
      · cases h
    · cases h
/-- The numbers of a list, all of one kind. -/
def numsOf : List Value → Option (IntKind × List Int)
  | .int k n :: l =>
    match numsK k l with
    | some ns => some (k, n :: ns)
    | none => none
  | _ => none
theorem numsOf_ok {l : List Value} {k : IntKind} {ns : List Int} (h : numsOf l = some (k, ns)) : l = ns.map (.int k) := by
  unfold numsOf at h
  split at h
  · split at h
    · rename_i ns' hn
      cases h
      rw [numsK_ok hn]; rfl
    · cases h
  · cases h
def strOp (P : Program) (ρ : Operand → Value) (o : Oper) : Option (Value × Cs) :=
  match o.op with
  | .index t x ix =>
    match P.underlying t, ρ x, ρ ix with
    | some .string, .string s, .int _ i => some (.int .u8 (byteI s i), [(b2i (decide (0 ≤ i) && decide (i < (s.size : Int))), 1)])
    | some (.array len e), .agg cs, .int _ i =>
      match P.underlying e, P.info? e, numsOf cs.toList with
      | some d, some n, some (k, ns) =>
        if !aggD d && Nat.beq n.size 1 then some (.int k (ns.getD i.toNat 0), [(b2i (decide (0 ≤ i) && (decide (i < (len : Int)) && decide (i.toNat < ns.length))), 1)]) else none
      | _, _, _ => none
    | _, _, _ => none
  | .slice t x lo hi none =>
    match P.underlying t, ρ x, lo.map ρ, hi.map ρ with
    | some .string, .string s, some (.int _ l), none => some (.string (s.extract l.toNat s.size), [(b2i (decide (0 ≤ l) && decide (l ≤ (s.size : Int))), 1)])
    | some .string, .string s, none, some (.int _ h) => some (.string (s.extract 0 h.toNat), [(b2i (decide (0 ≤ h) && decide (h ≤ (s.size : Int))), 1)])
    | some .string, .string s, some (.int _ l), some (.int _ h) => some (.string (s.extract l.toNat h.toNat), [(b2i (decide (0 ≤ l) && (decide (l ≤ h) && decide (h ≤ (s.size : Int)))), 1)])
    | _, _, _, _ => none
  | .binOp .add _ x y _ =>
    match ρ x, ρ y with
    | .string a, .string c => some (.string ⟨⟨a.data.toList ++ c.data.toList⟩⟩, [(b2i (decide (((a.size + c.size : Nat) : Int) ≤ 9223372036854775807)), 1)])
    | _, _ => none
  | _ => none
theorem strOp_ok {P : Program} {s : Ren} {ρ ρ' : Operand → Value} {o : Oper} {v : Value} {cs : Cs} (hρ : ∀ x ∈ o.op.operands, VR s (ρ x) (ρ' x)) (h : strOp P ρ o = some (v, cs)) (hc : ∀ c ∈ cs, c.1 = c.2) (w : World) :
    (execOp ρ' o).run P w = .ok (.value v) w ∧ flat v = true := by
  obtain ⟨dst, op, type, pos, after, guard⟩ := o
  unfold strOp at h
  cases op <;> simp only at h <;> try (cases h; done)
  case binOp b t x y t2 =>
    cases b <;> simp only at h <;> try (cases h; done)
    have hx := hρ x (by simp [Op.operands])
    have hy := hρ y (by simp [Op.operands])
    split at h
    · rename_i a c hxs hys
      cases h
      rw [hxs] at hx
      rw [hys] at hy
      have ex := hx.eq_of_flat rfl
      have ey := hy.eq_of_flat rfl
      have h0 : decide (((a.size + c.size : Nat) : Int) ≤ 9223372036854775807) = true := b2i_inj (b := true) (hc _ (List.mem_singleton.2 rfl))
      have h1 := of_decide_eq_true h0
      have hv : oFastStr .add a c = some (.string ⟨⟨a.data.toList ++ c.data.toList⟩⟩) := by
        unfold oFastStr
        simp only
        rw [if_neg (by have e : IntKind.i64.max = 9223372036854775807 := by decide
                       omega)]
      refine ⟨?_, rfl⟩
      simp [execOp, ex, ey, str_guard, oFastStr_ok hv]
    · cases h
  case index t x ix =>
    have hx := hρ x (by simp [Op.operands])
    have hi := hρ ix (by simp [Op.operands])
    split at h
    · rename_i d a k i hu hxs his
      cases h
      rw [hxs] at hx
      rw [his] at hi
      have ex := hx.eq_of_flat rfl
      have ei := hi.eq_of_flat rfl
      have h0 : (decide (0 ≤ i) && decide (i < (a.size : Int))) = true := b2i_inj (b := true) (hc _ (List.mem_singleton.2 rfl))
      simp only [Bool.and_eq_true, decide_eq_true_eq] at h0
      have hlt : i.toNat < a.size := by omega
      refine ⟨?_, rfl⟩
      have e1 : a[i.toNat]? = some (a.data.toList.getD i.toNat 0) := by
        rw [getElem?_pos a i.toNat hlt]
        congr 1
        have hl : i.toNat < a.data.toList.length := by simpa using hlt
        rw [List.getD_eq_getElem?_getD, List.getElem?_eq_getElem hl]
        rfl
      simp [execOp, Instr.index, ex, ei, run_under hu, asIntOf, h0.1, e1, byteI]
    · rename_i d len e cs kk i hu hxs his
      split at h
      · rename_i de ne k ns hd hne hns
        split at h
        · rename_i hc1
          cases h
          simp only [Bool.and_eq_true, Bool.not_eq_true'] at hc1
          have hsz := Nat.eq_of_beq_eq_true hc1.2
          have hcs := numsOf_ok hns
          rw [hxs] at hx
          rw [his] at hi
          obtain ⟨cs⟩ := cs
          simp only at hcs
          have hfl : flat (.agg ⟨cs⟩) = true := by
            simp only [flat, flat1]
            rw [hcs]
            exact List.all_eq_true.2 fun v hv => by obtain ⟨n, _, rfl⟩ := List.mem_map.1 hv; rfl
          have ex := hx.eq_of_flat hfl
          have ei := hi.eq_of_flat rfl
          have h0 : (decide (0 ≤ i) && (decide (i < (len : Int)) && decide (i.toNat < ns.length))) = true := b2i_inj (b := true) (hc _ (List.mem_singleton.2 rfl))
          simp only [Bool.and_eq_true, decide_eq_true_eq] at h0
          obtain ⟨g1, g2, g3⟩ := h0
          refine ⟨?_, rfl⟩
          have hget : cs[i.toNat]? = some (.int k (ns.getD i.toNat 0)) := by
            rw [hcs, List.getElem?_map, List.getElem?_eq_getElem g3, List.getD_eq_getElem?_getD, List.getElem?_eq_getElem g3]
            rfl
          have hpart : oPart P e cs (i.toNat * ne.size) = some (.int k (ns.getD i.toNat 0)) := by
            unfold oPart
            rw [hd, hne]
            simp only [hc1.1, Bool.false_eq_true, if_false, hsz, Nat.mul_one]
            exact hget
          obtain ⟨v', h1, h2⟩ := part_ok (P := P) (s := s) (w := w) (LR.ofFlat (by rw [hcs]; exact List.all_eq_true.2 fun v hv => by obtain ⟨n, _, rfl⟩ := List.mem_map.1 hv; rfl)) hpart
          have e2 := h2.eq_of_flat rfl
          subst e2
          simp [execOp, Instr.index, ex, ei, asIntOf, run_under hu, g1, g2, run_size hne, h1]
        · cases h
      · cases h
    · cases h
  case slice t x lo hi mx =>
    cases mx with
    | some m => cases h
    | none =>
    have hx := hρ x (by simp [Op.operands])
    simp only at h
    split at h
    · rename_i d a k l hu hxs hlo hhi
      cases h
      rw [hxs] at hx
      have ex := hx.eq_of_flat rfl
      cases lo with
      | none => cases hlo
      | some lx =>
      cases hi with
      | some hy => cases hhi
      | none =>
      simp only [Option.map_some, Option.some.injEq] at hlo
      have hl := hρ lx (by simp [Op.operands])
      rw [hlo] at hl
      have el := hl.eq_of_flat rfl
      have h0 : (decide (0 ≤ l) && decide (l ≤ (a.size : Int))) = true := b2i_inj (b := true) (hc _ (List.mem_singleton.2 rfl))
      simp only [Bool.and_eq_true, decide_eq_true_eq] at h0
      refine ⟨?_, rfl⟩
      simp [execOp, Instr.sliceAt, Instr.slice, ex, el, run_under hu, Instr.sliceBounds, Instr.sliceBound, asIntOf, h0.1, h0.2]
    · rename_i d a k l hu hxs hlo hhi
      cases h
      rw [hxs] at hx
      have ex := hx.eq_of_flat rfl
      cases lo with
      | some lx => cases hlo
      | none =>
      cases hi with
      | none => cases hhi
      | some hy =>
      simp only [Option.map_some, Option.some.injEq] at hhi
      have hl := hρ hy (by simp [Op.operands])
      rw [hhi] at hl
      have el := hl.eq_of_flat rfl
      have h0 : (decide (0 ≤ l) && decide (l ≤ (a.size : Int))) = true := b2i_inj (b := true) (hc _ (List.mem_singleton.2 rfl))
      simp only [Bool.and_eq_true, decide_eq_true_eq] at h0
      refine ⟨?_, rfl⟩
      simp [execOp, Instr.sliceAt, Instr.slice, ex, el, run_under hu, Instr.sliceBounds, Instr.sliceBound, asIntOf, h0.1, h0.2]
    · rename_i d a k l k2 m hu hxs hlo hhi
      cases h
      rw [hxs] at hx
      have ex := hx.eq_of_flat rfl
      cases lo with
      | none => cases hlo
      | some lx =>
      cases hi with
      | none => cases hhi
      | some hy =>
      simp only [Option.map_some, Option.some.injEq] at hlo hhi
      have hl := hρ lx (by simp [Op.operands])
      rw [hlo] at hl
      have el := hl.eq_of_flat rfl
      have hm := hρ hy (by simp [Op.operands])
      rw [hhi] at hm
      have em := hm.eq_of_flat rfl
      have h0 : (decide (0 ≤ l) && (decide (l ≤ m) && decide (m ≤ (a.size : Int)))) = true := b2i_inj (b := true) (hc _ (List.mem_singleton.2 rfl))
      simp only [Bool.and_eq_true, decide_eq_true_eq] at h0
      refine ⟨?_, rfl⟩
      have h1 : 0 ≤ m := by omega
      simp [execOp, Instr.sliceAt, Instr.slice, ex, el, em, run_under hu, Instr.sliceBounds, Instr.sliceBound, asIntOf, h0.1, h0.2.2, h1]
      intro hh
      rw [Int.max_eq_left h1] at hh
      omega
    · cases h
/-- An element whose place is not known: its address; a number that lies there, where the block begins with numbers. An oracle says `.nilIface` there. -/
def prefN (k : IntKind) : List Value → List Int
  | .int j n :: l => if Nat.beq (kIx j) (kIx k) then n :: prefN k l else []
  | _ => []
def pref : List Value → Option (IntKind × List Int)
  | .int k n :: l => some (k, n :: prefN k l)
  | _ => none
theorem prefN_ok {k : IntKind} : ∀ {l : List Value} {i : Nat}, i < (prefN k l).length → l[i]? = some (.int k ((prefN k l).getD i 0))
  | [], i, h => by simp [prefN] at h
  | x :: l, i, h => by
    unfold prefN at h ⊢
    split at h
    · rename_i j n l' he
      cases he
      by_cases hk : Nat.beq (kIx j) (kIx k) = true
      · simp only [hk, if_true] at h ⊢
        obtain rfl := kIx_inj hk
        cases i with
        | zero => rfl
        | succ i =>
          simp only [List.length_cons, Nat.succ_lt_succ_iff] at h
          simpa using prefN_ok h
      · rw [if_neg hk] at h
        simp at h
    · simp at h
theorem pref_ok {l : List Value} {k : IntKind} {ns : List Int} (h : pref l = some (k, ns)) {i : Nat} (hi : i < ns.length) : l[i]? = some (.int k (ns.getD i 0)) := by
  unfold pref at h
  split at h
  · rename_i j n l'
    cases h
    cases i with
    | zero => rfl
    | succ i =>
      simp only [List.length_cons, Nat.succ_lt_succ_iff] at hi
      simpa using prefN_ok hi
  · cases h
theorem add_spot {a : Addr} (h : a.spot = none) (n : Nat) : (⟨a.block, a.off + n, none⟩ : Addr) = a.add n := by
  obtain ⟨b, o, sp⟩ := a
  simp only at h
  subst h
  unfold Addr.add
  by_cases e : n = 0
  · subst e; rfl
  · rw [if_neg e]
def xOp (P : Program) (ρ : Operand → Value) (h : List AO) (o : Oper) : Option (Value × Cs) :=
  match o.op with
  | .indexAddr t x ix =>
    match ρ ix, P.underlying t, ρ x with
    | .int _ i, some (.array len e), .pointer (some a) =>
      match P.info? e with
      | some n =>
        match a.spot with
        | none => some (.pointer (some ⟨a.block, a.off + i.toNat * n.size, none⟩), [(b2i (decide (0 ≤ i) && decide (i < len)), 1)])
        | some _ => none
      | none => none
    | _, _, _ => none
  | .load t x =>
    match ρ x, P.underlying t, P.info? t with
    | .pointer (some a), some d, some _ =>
      if aggD d then none
      else
        match h[a.block]? with
        | some b =>
          if b.live && !isM b then
            match pref b.cs with
            | some (k, ns) => some (.int k (ns.getD a.off 0), [(b2i (decide (a.off < ns.length)), 1)])
            | none => none
          else none
        | none => none
    | _, _, _ => none
  | _ => none
theorem xOp_ok {P : Program} {s : Ren} {ρ ρ' : Operand → Value} {h : List AO} {w : World} (H : MR s h w) {o : Oper} {v : Value} {cs : Cs} (hρ : ∀ x ∈ o.op.operands, VR s (ρ x) (ρ' x)) (hr : xOp P ρ h o = some (v, cs)) (hc : ∀ c ∈ cs, c.1 = c.2) :
    Okay0 P s h w (execOp ρ' o) (.value v, h, none) := by
  obtain ⟨dst, op, type, pos, after, guard⟩ := o
  unfold xOp at hr
  cases op <;> simp only at hr <;> try (cases hr; done)
  case indexAddr t x ix =>
    have hx := hρ x (by simp [Op.operands])
    have hi := hρ ix (by simp [Op.operands])
    split at hr
    · rename_i kk i len e a hix hu hxa
      split at hr
      · rename_i n hn
        split at hr
        · rename_i hsp
          cases hr
          have h0 : (decide (0 ≤ i) && decide (i < len)) = true := b2i_inj (b := true) (hc _ (List.mem_singleton.2 rfl))
          rw [add_spot hsp]
          have ho : oIndexAt P t (ρ x) (ρ ix) h = some (.value (.pointer (some (a.add (i.toNat * n.size)))), h, none) := by
            unfold oIndexAt
            rw [hix, hu, hxa]
            simp only
            rw [hn]
            simp only
            rw [if_pos h0]
          exact indexAt_ok hx hi ho
        · cases hr
      · cases hr
    · cases hr
  case load t x =>
    have hx := hρ x (by simp [Op.operands])
    split at hr
    · rename_i a d i0 hxa hd hi
      split at hr
      · cases hr
      · rename_i hag
        split at hr
        · rename_i b hb
          split at hr
          · rename_i hlv
            split at hr
            · rename_i k ns hp
              cases hr
              have h0 : decide (a.off < ns.length) = true := b2i_inj (b := true) (hc _ (List.mem_singleton.2 rfl))
              have h1 := pref_ok hp (of_decide_eq_true h0)
              have hlt := (List.getElem?_eq_some_iff.1 h1).1
              simp only [Bool.and_eq_true] at hlv
              have hal : aload h a 1 = some [.int k (ns.getD a.off 0)] := by
                unfold aload
                rw [hb]
                simp only [hlv.1, hlv.2, Bool.true_and, decide_eq_true (show a.off + 1 ≤ b.cs.length by omega), if_true, Option.some.injEq]
                apply List.ext_getElem?
                intro j
                rw [List.getElem?_take]
                cases j with
                | zero => simp [List.getElem?_drop, h1]
                | succ j => simp
              have ho : oLoad P t (ρ x) h = some (.value (.int k (ns.getD a.off 0)), h, none) := by
                unfold oLoad
                rw [hxa, hd, hi]
                simp only [hag, Bool.false_eq_true, if_false]
                rw [hal]
              exact load_ok H hx ho
            · cases hr
          · cases hr
        · cases hr
    · cases hr
/-- A slice of which it is not known how many it has, nor where it begins: an element's address; a number that lies there; a part of it. An oracle says `.nilIface` there. -/
def isKV (k : IntKind) : Value → Bool
  | .int j _ => Nat.beq (kIx j) (kIx k)
  | _ => false
def nOfV : Value → Int
  | .int _ n => n
  | _ => 0
theorem isKV_eq {k : IntKind} {v : Value} (h : isKV k v = true) : v = .int k (nOfV v) := by
  unfold isKV at h
  split at h
  · rename_i j n
    rw [kIx_inj h]
    rfl
  · cases h
def slOp (P : Program) (ρ : Operand → Value) (h : List AO) (o : Oper) : Option (Value × Cs) :=
  match o.op with
  | .indexAddr t x ix =>
    match ρ ix, P.underlying t, ρ x with
    | .int _ i, some (.slice e), .slice (some a) len _ =>
      match P.info? e with
      | some n =>
        match a.spot with
        | none => some (.pointer (some ⟨a.block, a.off + i.toNat * n.size, none⟩), [(b2i (decide (0 ≤ i) && decide (i < len)), 1)])
        | some _ => none
      | none => none
    | _, _, _ => none
  | .load t x =>
    match ρ x, P.underlying t, P.info? t with
    | .pointer (some a), some (.int k), some _ =>
      match h[a.block]? with
      | some b =>
        if b.live && !isM b then some (.int k (nOfV (b.cs.getD a.off .nilFunc)), [(b2i (decide (a.off < b.cs.length) && isKV k (b.cs.getD a.off .nilFunc)), 1)])
        else none
      | none => none
    | _, _, _ => none
  | .slice t x lo none none =>
    match P.underlying t, ρ x, lo.map ρ with
    | some (.slice e), .slice (some a) len cap, some (.int _ l) =>
      match P.info? e, esOf h a.block with
      | some i, some none => some (.slice (some ⟨a.block, bif Nat.beq cap l.toNat then a.off else a.off + l.toNat * i.size, none⟩) (len - l.toNat) (cap - l.toNat), [(b2i (decide (0 ≤ l) && decide (l ≤ len)), 1)])
      | _, _ => none
    | _, _, _ => none
  | _ => none
theorem slOp_ok {P : Program} {s : Ren} {ρ ρ' : Operand → Value} {h : List AO} {w : World} (H : MR s h w) {o : Oper} {v : Value} {cs : Cs} (hρ : ∀ x ∈ o.op.operands, VR s (ρ x) (ρ' x)) (hr : slOp P ρ h o = some (v, cs)) (hc : ∀ c ∈ cs, c.1 = c.2) :
    Okay0 P s h w (execOp ρ' o) (.value v, h, none) := by
  obtain ⟨dst, op, type, pos, after, guard⟩ := o
  unfold slOp at hr
  cases op <;> simp only at hr <;> try (cases hr; done)
  case indexAddr t x ix =>
    have hx := hρ x (by simp [Op.operands])
    have hi := hρ ix (by simp [Op.operands])
    split at hr
    · rename_i kk i e a len cp hix hu hxa
      split at hr
      · rename_i n hn
        split at hr
        · rename_i hsp
          cases hr
          have h0 : (decide (0 ≤ i) && decide (i < len)) = true := b2i_inj (b := true) (hc _ (List.mem_singleton.2 rfl))
          rw [add_spot hsp]
          have ho : oIndexAt P t (ρ x) (ρ ix) h = some (.value (.pointer (some (a.add (i.toNat * n.size)))), h, none) := by
            unfold oIndexAt
            rw [hix, hu, hxa]
            simp only
            rw [hn]
            simp only
            rw [if_pos h0]
          exact indexAt_ok hx hi ho
        · cases hr
      · cases hr
    · cases hr
  case load t x =>
    have hx := hρ x (by simp [Op.operands])
    split at hr
    · rename_i a k i0 hxa hd hi
      split at hr
      · rename_i b hb
        split at hr
        · rename_i hlv
          cases hr
          have h0 : (decide (a.off < b.cs.length) && isKV k (b.cs.getD a.off .nilFunc)) = true := b2i_inj (b := true) (hc _ (List.mem_singleton.2 rfl))
          simp only [Bool.and_eq_true, decide_eq_true_eq] at h0
          simp only [Bool.and_eq_true] at hlv
          have h1 : b.cs[a.off]? = some (.int k (nOfV (b.cs.getD a.off .nilFunc))) := by
            rw [← isKV_eq h0.2, List.getD_eq_getElem?_getD, List.getElem?_eq_getElem h0.1]
            rfl
          have hal : aload h a 1 = some [.int k (nOfV (b.cs.getD a.off .nilFunc))] := by
            unfold aload
            rw [hb]
            simp only [hlv.1, hlv.2, Bool.true_and, decide_eq_true (show a.off + 1 ≤ b.cs.length by omega), if_true, Option.some.injEq]
            apply List.ext_getElem?
            intro j
            rw [List.getElem?_take]
            cases j with
            | zero => simp only [List.getElem?_drop, Nat.add_zero, h1]; rfl
            | succ j => simp
          have ho : oLoad P t (ρ x) h = some (.value (.int k (nOfV (b.cs.getD a.off .nilFunc))), h, none) := by
            unfold oLoad
            rw [hxa, hd, hi]
            simp only [aggD, Bool.false_eq_true, if_false]
            rw [hal]
          exact load_ok H hx ho
        · cases hr
      · cases hr
    · cases hr
  case slice t x lo hi mx =>
    have hx := hρ x (by simp [Op.operands])
    cases hi with
    | some y => cases hr
    | none =>
      cases mx with
      | some y => cases hr
      | none =>
        simp only at hr
        split at hr
        · rename_i e a len cap kk l hu hxa hlo
          split at hr
          · rename_i i hi0 hes
            cases hr
            have h0 : (decide (0 ≤ l) && decide (l ≤ len)) = true := b2i_inj (b := true) (hc _ (List.mem_singleton.2 rfl))
            simp only [Bool.and_eq_true, decide_eq_true_eq] at h0
            rw [hxa] at hx
            obtain ⟨p, c', hs, hp, hcap, hv'⟩ := hx.slice_inv
            have ha : (if cap = l.toNat then a else a.add (l.toNat * i.size)) = ⟨a.block, bif Nat.beq cap l.toNat then a.off else a.off + l.toNat * i.size, none⟩ := by
              by_cases he : cap = l.toNat
              · rw [if_pos he, show Nat.beq cap l.toNat = true from by rw [Nat.beq_eq]; exact he, cond_true, ← hs]
              · rw [if_neg he, (add_vr (p := p) hs _).1, show Nat.beq cap l.toNat = false from by
                  cases hb : Nat.beq cap l.toNat with
                  | false => rfl
                  | true => exact absurd (Nat.eq_of_beq_eq_true hb) he, cond_false]
            have ho : oSlice P t (ρ x) (lo.map ρ) none h = some (.value (.slice (some ⟨a.block, bif Nat.beq cap l.toNat then a.off else a.off + l.toNat * i.size, none⟩) (len - l.toNat) (cap - l.toNat)), h, none) := by
              unfold oSlice
              rw [hxa, hu, hlo]
              simp only [hi0, hes, hiA, loA]
              rw [if_pos ⟨h0.1, h0.2⟩]
              simp only [ha]
            rw [← hxa] at hx
            refine slice_ok (lo := lo.map ρ) (lo' := lo.map ρ') (hi := none) (hi' := none) H hx ?_ trivial ho
            cases lo with
            | none => trivial
            | some y => exact hρ y (by simp [Op.operands])
          · cases hr
        · cases hr
/-- A slice of a slice from and to places that are not known. -/
def loI (lo : Option Value) : Option Int :=
  match lo with
  | none => some 0
  | some (.int _ i) => some i
  | _ => none
def hiI (hi : Option Value) (len : Nat) : Option Int :=
  match hi with
  | none => some (Int.ofNat len)
  | some (.int _ i) => some i
  | _ => none
theorem loA_loI {lo : Option Value} {l : Int} {n : Nat} (h : loI lo = some l) (h0 : 0 ≤ l) (h1 : l.toNat ≤ n) : loA lo n = some l.toNat := by
  unfold loI at h
  split at h
  · cases h; rfl
  · cases h
    unfold loA
    simp only
    rw [if_pos ⟨h0, by omega⟩]
  · cases h
theorem hiA_hiI {hi : Option Value} {u : Int} {len n : Nat} (h : hiI hi len = some u) (h0 : 0 ≤ u) (h1 : u ≤ (n : Int)) : hiA hi len n = some u.toNat := by
  unfold hiI at h
  split at h
  · cases h; rfl
  · cases h
    unfold hiA
    simp only
    rw [if_pos ⟨h0, h1⟩]
  · cases h
def sl2Op (P : Program) (ρ : Operand → Value) (h : List AO) (o : Oper) : Option (Value × Cs) :=
  match o.op with
  | .slice t x lo hi none =>
    match P.underlying t, ρ x with
    | some (.slice e), .slice (some a) len cap =>
      match P.info? e, esOf h a.block, loI (lo.map ρ), hiI (hi.map ρ) len with
      | some i, some none, some l, some u =>
        some (.slice (some ⟨a.block, bif Nat.beq cap l.toNat then a.off else a.off + l.toNat * i.size, none⟩) (u.toNat - l.toNat) (cap - l.toNat), [(b2i ((decide (0 ≤ u) && decide (u ≤ (cap : Int))) && (decide (0 ≤ l) && decide (l ≤ u))), 1)])
      | some i, some (some q), some l, some u =>
        if Nat.beq q i.size then
          some (.slice (some ⟨a.block, a.off + l.toNat * i.size, none⟩) (u.toNat - l.toNat) (u.toNat - l.toNat), [(b2i ((decide (0 ≤ u) && decide (u ≤ (len : Int))) && ((decide (0 ≤ l) && decide (l ≤ u)) && (decide (l = 0) || decide (l < (len : Int))))), 1)])
        else none
      | _, _, _, _ => none
    | _, _ => none
  | _ => none
theorem sl2Op_ok {P : Program} {s : Ren} {ρ ρ' : Operand → Value} {h : List AO} {w : World} (H : MR s h w) {o : Oper} {v : Value} {cs : Cs} (hρ : ∀ x ∈ o.op.operands, VR s (ρ x) (ρ' x)) (hr : sl2Op P ρ h o = some (v, cs)) (hc : ∀ c ∈ cs, c.1 = c.2) :
    Okay0 P s h w (execOp ρ' o) (.value v, h, none) := by
  obtain ⟨dst, op, type, pos, after, guard⟩ := o
  unfold sl2Op at hr
  cases op <;> simp only at hr <;> try (cases hr; done)
  case slice t x lo hi mx =>
    have hx := hρ x (by simp [Op.operands])
    cases mx with
    | some y => cases hr
    | none =>
      have hlr : OR s (lo.map ρ) (lo.map ρ') := by
        cases lo with
        | none => trivial
        | some y => exact hρ y (by simp [Op.operands])
      have hhr : OR s (hi.map ρ) (hi.map ρ') := by
        cases hi with
        | none => trivial
        | some y => exact hρ y (by simp [Op.operands])
      simp only at hr
      split at hr
      · rename_i e a len cap hu hxa
        rw [hxa] at hx
        obtain ⟨p, c', hs, hp, hcap, hv'⟩ := hx.slice_inv
        rw [← hxa] at hx
        split at hr
        · rename_i i l u hi0 hes hli hui
          cases hr
          have h0 := b2i_inj (b := true) (hc _ (List.mem_singleton.2 rfl))
          simp only [Bool.and_eq_true, decide_eq_true_eq] at h0
          have ha : (if cap = l.toNat then a else a.add (l.toNat * i.size)) = ⟨a.block, bif Nat.beq cap l.toNat then a.off else a.off + l.toNat * i.size, none⟩ := by
            by_cases he : cap = l.toNat
            · rw [if_pos he, show Nat.beq cap l.toNat = true from by rw [Nat.beq_eq]; exact he, cond_true, ← hs]
            · rw [if_neg he, (add_vr (p := p) hs _).1, show Nat.beq cap l.toNat = false from by
                cases hb : Nat.beq cap l.toNat with
                | false => rfl
                | true => exact absurd (Nat.eq_of_beq_eq_true hb) he, cond_false]
          refine slice_ok (lo := lo.map ρ) (lo' := lo.map ρ') (hi := hi.map ρ) (hi' := hi.map ρ') H hx hlr hhr ?_
          unfold oSlice
          rw [hxa, hu]
          simp only [hi0, hes, hiA_hiI hui h0.1.1 h0.1.2, loA_loI hli h0.2.1 (n := u.toNat) (by omega), ha]
        · rename_i i q l u hi0 hes hli hui
          split at hr
          · rename_i hq
            cases hr
            have h0 := b2i_inj (b := true) (hc _ (List.mem_singleton.2 rfl))
            simp only [Bool.and_eq_true, Bool.or_eq_true, decide_eq_true_eq] at h0
            refine slice_ok (lo := lo.map ρ) (lo' := lo.map ρ') (hi := hi.map ρ) (hi' := hi.map ρ') H hx hlr hhr ?_
            unfold oSlice
            rw [hxa, hu]
            simp only [hi0, hes, hiA_hiI hui h0.1.1 h0.1.2, loA_loI hli h0.2.1.1 (n := u.toNat) (by omega)]
            rw [if_pos ⟨Nat.eq_of_beq_eq_true hq, by omega⟩, (add_vr (p := p) hs _).1]
          · cases hr
        · cases hr
      · cases hr
def s2Op (P : Program) (ρ : Operand → Value) (h : List AO) (o : Oper) : Option (Value × Cs) :=
  match slOp P ρ h o with
  | some r => some r
  | none => sl2Op P ρ h o
theorem s2Op_ok {P : Program} {s : Ren} {ρ ρ' : Operand → Value} {h : List AO} {w : World} (H : MR s h w) {o : Oper} {v : Value} {cs : Cs} (hρ : ∀ x ∈ o.op.operands, VR s (ρ x) (ρ' x)) (hr : s2Op P ρ h o = some (v, cs)) (hc : ∀ c ∈ cs, c.1 = c.2) :
    Okay0 P s h w (execOp ρ' o) (.value v, h, none) := by
  unfold s2Op at hr
  split at hr
  · rename_i r hq
    cases hr
    exact slOp_ok H hρ hq hc
  · exact sl2Op_ok H hρ hr hc
/-- In heads, at a mark: an operation on numbers or on texts; one that only reads the heap. -/
def qsOp (P : Program) (ρ : Operand → Value) (o : Oper) : Option (Value × Cs) :=
  match qOp ρ o with
  | some r => some r
  | none => strOp P ρ o
theorem qsOp_ok {P : Program} {s : Ren} {ρ ρ' : Operand → Value} {o : Oper} {v : Value} {cs : Cs} (hρ : ∀ x ∈ o.op.operands, VR s (ρ x) (ρ' x)) (h : qsOp P ρ o = some (v, cs)) (hc : ∀ c ∈ cs, c.1 = c.2) (w : World) :
    (execOp ρ' o).run P w = .ok (.value v) w ∧ flat v = true := by
  unfold qsOp at h
  split at h
  · rename_i r hq
    cases h
    exact qOp_ok hρ hq hc w
  · exact strOp_ok hρ h hc w
def xsOp (P : Program) (ρ : Operand → Value) (h : List AO) (o : Oper) : Option (Value × Cs) :=
  match xOp P ρ h o with
  | some r => some r
  | none => s2Op P ρ h o
theorem xsOp_ok {P : Program} {s : Ren} {ρ ρ' : Operand → Value} {h : List AO} {w : World} (H : MR s h w) {o : Oper} {v : Value} {cs : Cs} (hρ : ∀ x ∈ o.op.operands, VR s (ρ x) (ρ' x)) (hr : xsOp P ρ h o = some (v, cs)) (hc : ∀ c ∈ cs, c.1 = c.2) :
    Okay0 P s h w (execOp ρ' o) (.value v, h, none) := by
  unfold xsOp at hr
  split at hr
  · rename_i r hq
    cases hr
    exact xOp_ok H hρ hq hc
  · exact s2Op_ok H hρ hr hc
/-- Bytes of which it is not known how many there are: made; as a text. An oracle says `.nilIface` there. -/
def u8Of : Value → UInt8
  | .int _ n => UInt8.ofNat n.toNat
  | _ => 0
def isU8 : Value → Bool
  | .int .u8 _ => true
  | _ => false
theorem nsOf_all : ∀ {l : List Value}, l.all isU8 = true → ∃ ns, nsOf l = some ns ∧ (ns.map fun n => UInt8.ofNat n.toNat) = l.map u8Of
  | [], _ => ⟨[], rfl, rfl⟩
  | x :: l, h => by
    simp only [List.all_cons, Bool.and_eq_true] at h
    obtain ⟨ns, h1, h2⟩ := nsOf_all h.2
    have hx := h.1
    unfold isU8 at hx
    split at hx
    · rename_i n
      exact ⟨n :: ns, by simp [nsOf, h1], by simp [u8Of, h2]⟩
    · cases hx
theorem all_part {l : List Value} (h : l.all isU8 = true) (a n : Nat) : ((l.drop a).take n).all isU8 = true :=
  List.all_eq_true.2 fun x hx => List.all_eq_true.1 h x (List.mem_of_mem_drop (List.mem_of_mem_take hx))
theorem repeatZ_one (x : Value) (n : Nat) : (repeatZ #[x] n).toList = List.replicate n x := by
  simp only [repeatZ, List.length_singleton, Nat.mod_one, List.getD_cons_zero]
  exact List.ext_getElem (by simp) (by simp)
def bOp (P : Program) (ρ : Operand → Value) (h : List AO) (o : Oper) : Option (Value × List AO × Cs) :=
  match o.op with
  | .makeSlice t len cap =>
    match P.underlying t, ρ len, ρ cap with
    | some (.slice e), .int _ l, .int _ c =>
      match P.info? e with
      | some i =>
        match i.zero with
        | some (.int .u8 n0) =>
          if Nat.beq i.bytes 1 && (Nat.beq i.size 1 && n0 == 0) then
            some (.slice (some ⟨h.length, 0, none⟩) l.toNat c.toNat, [⟨true, none, List.replicate c.toNat (.int .u8 0)⟩], [(b2i (decide (0 ≤ l) && (decide (l ≤ c) && decide (c ≤ 1000000))), 1)])
          else none
        | _ => none
      | none => none
    | _, _, _ => none
  | .convert src dst x =>
    match P.underlying src, P.underlying dst, ρ x with
    | some (.slice e), some .string, .slice (some a) l _ =>
      match P.underlying e, h[a.block]? with
      | some (.int .u8), some b =>
        if b.live && !isM b then some (.string ⟨⟨((b.cs.drop a.off).take l).map u8Of⟩⟩, [], [(b2i (b.cs.all isU8 && decide (a.off + l ≤ b.cs.length)), 1)]) else none
      | _, _ => none
    | _, _, _ => none
  | _ => none
theorem bOp_ok {P : Program} {wb : Wb} {k : Nat} {s : Ren} {ρ ρ' : Operand → Value} {h : List AO} {w : World} (H : HR wb k s h w) {o : Oper} {v : Value} {bs : List AO} {cs : Cs} (hρ : ∀ x ∈ o.op.operands, VR s (ρ x) (ρ' x)) (hr : bOp P ρ h o = some (v, bs, cs)) (hc : ∀ c ∈ cs, c.1 = c.2) :
    ∃ s' v' w', (execOp ρ' o).run P w = .ok (.value v') w' ∧ Le s s' ∧ HR wb k s' (h ++ bs) w' ∧ VR s' v v' := by
  obtain ⟨dst, op, type, pos, after, guard⟩ := o
  unfold bOp at hr
  cases op <;> simp only at hr <;> try (cases hr; done)
  case makeSlice t len cap =>
    have hl := hρ len (by simp [Op.operands])
    have hcp := hρ cap (by simp [Op.operands])
    split at hr
    · rename_i e k1 l k2 c hu hle hca
      split at hr
      · rename_i i hi
        split at hr
        · rename_i n0 hz
          split at hr
          · rename_i hcond
            cases hr
            simp only [Bool.and_eq_true] at hcond
            obtain ⟨g1, g2, g3⟩ := hcond
            have g1 := Nat.eq_of_beq_eq_true g1
            have g2 := Nat.eq_of_beq_eq_true g2
            obtain rfl := eq_of_beq g3
            have h0 : (decide (0 ≤ l) && (decide (l ≤ c) && decide (c ≤ 1000000))) = true := b2i_inj (b := true) (hc _ (List.mem_singleton.2 rfl))
            simp only [Bool.and_eq_true, decide_eq_true_eq] at h0
            obtain ⟨a1, a2, a3⟩ := h0
            have wr : ∀ x : Int, 0 ≤ x → x ≤ 1000000 → IntKind.i64.wrap x = x := by
              intro x h1 h2
              have e : x % 2 ^ 64 = x := by omega
              simp only [IntKind.wrap, IntKind.signed, IntKind.bits, e]
              rw [if_neg]
              simp only [Bool.true_and, decide_eq_true_eq]
              omega
            have ho : oMake P t (ρ len) (ρ cap) = some (List.replicate c.toNat (.int .u8 0), l.toNat, c.toNat) := by
              unfold oMake
              rw [hu, hle, hca]
              simp only
              rw [hi]
              simp only
              rw [if_pos (by
                simp [wr l a1 (by omega), wr c (by omega) a3, a1, a2, g1]
                omega), g2, Nat.mul_one]
              split
              · rename_i hz0
                rw [hz0]; rfl
              · rw [hz]
                simp only
                have e1 : (repeatZ (Value.int .u8 0).cells c.toNat).toList = List.replicate c.toNat (.int .u8 0) := repeatZ_one _ _
                rw [e1, if_pos (List.all_eq_true.2 fun x hx => by rw [List.eq_of_mem_replicate hx]; rfl)]
            obtain ⟨arr, T, e1, e2⟩ := make_ok hl hcp ho w
            obtain ⟨H', hle'⟩ := H.new' T e2
            refine ⟨_, _, _, by simp only [execOp, Sem.run_bind, e1, Result.andThen_ok, Sem.run_pure]; rfl, hle', H', ?_⟩
            exact VR.slice (a := ⟨h.length, 0, none⟩) rfl (upd_same _ _ _) (by unfold CapOk; rfl)
          · cases hr
        · cases hr
      · cases hr
    · cases hr
  case convert src dst x =>
    have hx := hρ x (by simp [Op.operands])
    split at hr
    · rename_i e a l c hsu hdu hxa
      split at hr
      · rename_i b heu hb
        split at hr
        · rename_i hlv
          cases hr
          have h0 : (b.cs.all isU8 && decide (a.off + l ≤ b.cs.length)) = true := b2i_inj (b := true) (hc _ (List.mem_singleton.2 rfl))
          simp only [Bool.and_eq_true, decide_eq_true_eq] at h0 hlv
          obtain ⟨ns, n1, n2⟩ := nsOf_all (all_part h0.1 a.off l)
          have hal : aload h a l = some ((b.cs.drop a.off).take l) := by
            unfold aload
            rw [hb]
            simp only [hlv.1, hlv.2, Bool.true_and, decide_eq_true h0.2, if_true]
          have ho : oToStr P src dst (ρ x) h = some (.value (.string ⟨⟨((b.cs.drop a.off).take l).map u8Of⟩⟩), h, none) := by
            unfold oToStr
            rw [hsu, hdu, hxa]
            simp only
            rw [heu]
            simp only
            rw [hal]
            simp only
            rw [n1]
            simp only [n2]
          obtain ⟨n', h1, h2, _⟩ := toStr_ok H.mr hx ho
          cases n' <;> simp only [NR] at h2
          rw [List.append_nil]
          exact ⟨s, _, w, h1, Le.refl s, H, h2⟩
        · cases hr
      · cases hr
    · cases hr
/-- Bytes put into a block at a place that is not known; bytes of an unknown number put behind nothing (a copy of its own). An oracle says `.nilIface` there. -/
theorem args_two7 {c : Call} {a b : Operand} (h : c.args.toList = [a, b]) (ρ : Operand → Value) : c.args.map ρ = #[ρ a, ρ b] := by
  apply Array.ext'
  rw [Array.toList_map, h]
  rfl
def mOp (P : Program) (ρ : Operand → Value) (h : List AO) (o : Oper) : Option (Value × List AO × Option Nat × Cs) :=
  match o.op with
  | .call c =>
    match c.callee, c.args.toList with
    | .builtin .copy, [a, b] =>
      match c.argTypes[0]?, ρ a, ρ b with
      | some dT, .slice (some p) dl _, .string x =>
        match P.underlying dT with
        | some (.slice e) =>
          match P.info? e, h[p.block]? with
          | some i, some q =>
            if Nat.beq i.size 1 && (q.live && isW q) then
              some (.int .i64 (x.size : Int), h.set p.block ⟨true, q.es, splice q.cs p.off (x.data.toList.map fun c => Value.int .u8 c.toNat)⟩, some p.block, [(b2i (decide (x.size ≤ dl) && decide (p.off + x.size ≤ q.cs.length)), 1)])
            else none
          | _, _ => none
        | _ => none
      | _, _, _ => none
    | .builtin .append, [a, b] =>
      match c.argTypes[0]?, c.argTypes[1]?, ρ a, ρ b with
      | some sT, some xT, .slice (some p) 0 0, .slice (some r) n _ =>
        match P.underlying sT, P.underlying xT with
        | some (.slice e), some d =>
          match P.info? e, h[r.block]?, h[p.block]? with
          | some i, some q, some u =>
            if Nat.beq i.size 1 && (!intD d && ((q.live && !isM q) && (u.live && (!isM u && (u.es.isNone && Nat.beq p.off 0))))) then
              some (.slice (some ⟨h.length, 0, none⟩) n n, h ++ [⟨true, some 1, (q.cs.drop r.off).take n⟩], none,
                [(b2i (decide (0 < n) && (decide (r.off + n ≤ q.cs.length) && (((q.cs.drop r.off).take n).all (·.oneCell') && roomB i n))), 1)])
            else none
          | _, _, _ => none
        | _, _ => none
      | _, _, _, _ => none
    | _, _ => none
  | _ => none
theorem oneCell_u8 (l : List UInt8) : (l.map fun c => Value.int .u8 c.toNat).all (·.oneCell') = true := List.all_eq_true.2 fun v hv => by obtain ⟨c, _, rfl⟩ := List.mem_map.1 hv; rfl
theorem mOp_ok {P : Program} {wb : Wb} {k : Nat} {s : Ren} {ρ ρ' : Operand → Value} {h : List AO} {w : World} (H : HR wb k s h w) {o : Oper} {v : Value} {h' : List AO} {m : Option Nat} {cs : Cs} (hρ : ∀ x ∈ o.op.operands, VR s (ρ x) (ρ' x))
    (hr : mOp P ρ h o = some (v, h', m, cs)) (hc : ∀ c ∈ cs, c.1 = c.2) (hk : ∀ i, m = some i → k ≤ i) : Okay P wb k s w (execOp ρ' o) (.value v, h', m) := by
  obtain ⟨dst, op, type, pos, after, guard⟩ := o
  unfold mOp at hr
  cases op <;> simp only at hr <;> try (cases hr; done)
  case call c =>
    have hop : ∀ a ∈ c.args.toList, VR s (ρ a) (ρ' a) := fun a ha => hρ a (by simp [Op.operands, Call.operands, Array.mem_toList_iff.1 ha])
    split at hr
    · rename_i a b hcal hargs
      have hva := hop a (by rw [hargs]; simp)
      have hvb := hop b (by rw [hargs]; simp)
      split at hr
      · rename_i dT p dl dc x h0 hpa hxb
        split at hr
        · rename_i e hu
          split at hr
          · rename_i i q hi hq
            split at hr
            · rename_i hcond
              cases hr
              simp only [Bool.and_eq_true] at hcond
              obtain ⟨g1, g2, g3⟩ := hcond
              have g1 := Nat.eq_of_beq_eq_true g1
              have hb0 : (decide (x.size ≤ dl) && decide (p.off + x.size ≤ q.cs.length)) = true := b2i_inj (b := true) (hc _ (List.mem_singleton.2 rfl))
              simp only [Bool.and_eq_true, decide_eq_true_eq] at hb0
              have hlen : (x.data.toList.map fun c => Value.int .u8 c.toNat).length = x.size := by simp
              have ho : oCopy P c.argTypes (ρ a) (ρ b) h = some (.value (.int .i64 (x.size : Int)), h.set p.block ⟨true, q.es, splice q.cs p.off (x.data.toList.map fun c => Value.int .u8 c.toNat)⟩, some p.block) := by
                unfold oCopy
                rw [h0, hpa, hxb]
                simp only [lenA]
                rw [hu]
                simp only
                rw [hi]
                simp only
                have hmin : Nat.min x.size dl = x.size := Nat.min_eq_left hb0.1
                have hsrc : srcCells (.string x) i.size (Nat.min x.size dl) h = some (x.data.toList.map fun c => Value.int .u8 c.toNat) := by
                  simp only [srcCells, hmin]
                  rw [List.take_of_length_le (by simp)]
                rw [hsrc]
                simp only [hmin]
                rw [if_pos ⟨by rw [hlen, g1, Nat.mul_one], oneCell_u8 _⟩]
                unfold astore
                rw [hq]
                simp only [g2, g3, Bool.true_and]
                rw [if_pos (by rw [hlen]; exact decide_eq_true hb0.2)]
              have := copy_ok (ty := type) H hva hvb ho hk
              simp only [execOp, resolve, hcal, args_two7 hargs, invoke, builtin, pure_bind]
              exact this
            · cases hr
          · cases hr
        · cases hr
      · cases hr
    · rename_i a b hcal hargs
      have hva := hop a (by rw [hargs]; simp)
      have hvb := hop b (by rw [hargs]; simp)
      split at hr
      · rename_i sT xT p r n rc hs0 hx0 hpa hxb
        split at hr
        · rename_i e d hu hud
          split at hr
          · rename_i i q u hi hq hub
            split at hr
            · rename_i hcond
              cases hr
              simp only [Bool.and_eq_true, Bool.not_eq_true'] at hcond
              obtain ⟨g1, g2, ⟨g3, g4⟩, g5, g6, g7, g8⟩ := hcond
              have g1 := Nat.eq_of_beq_eq_true g1
              have g8 := Nat.eq_of_beq_eq_true g8
              have hb0 : (decide (0 < n) && (decide (r.off + n ≤ q.cs.length) && (((q.cs.drop r.off).take n).all (·.oneCell') && roomB i n))) = true := b2i_inj (b := true) (hc _ (List.mem_singleton.2 rfl))
              simp only [Bool.and_eq_true, decide_eq_true_eq] at hb0
              obtain ⟨b1, b2, b3, b4⟩ := hb0
              have ho : oAppend P c.argTypes (ρ a) (ρ b) h = some (.value (.slice (some ⟨h.length, 0, none⟩) n n), h ++ [⟨true, some 1, (q.cs.drop r.off).take n⟩], none) := by
                unfold oAppend
                rw [hs0, hx0]
                simp only
                rw [hu, hud, hxb]
                simp only [lenA]
                rw [hi]
                simp only
                have hsrc : srcCells (.slice (some r) n rc) i.size n h = some ((q.cs.drop r.off).take n) := by
                  simp only [srcCells, g1, Nat.mul_one]
                  unfold aload
                  rw [hq]
                  simp only [g3, g4, Bool.not_false, Bool.true_and, decide_eq_true b2, if_true]
                rw [hsrc]
                simp only
                rw [if_pos ⟨g2, by rw [g1, Nat.mul_one, List.length_take, List.length_drop]; omega, b3⟩, hpa]
                simp only
                have hes : esOf h p.block = some none := by
                  unfold esOf
                  rw [hub]
                  simp only [g5, if_true]
                  cases hue : u.es with
                  | none => rfl
                  | some z => rw [hue] at g7; cases g7
                rw [hes]
                simp only
                rw [if_neg (by omega)]
                have hal : aload h p (0 * i.size) = some [] := by
                  unfold aload
                  rw [hub]
                  simp only [g5, g6, Bool.not_false, Bool.true_and, Nat.zero_mul, g8, Nat.add_zero, decide_eq_true (Nat.zero_le _), if_true, List.take_zero]
                rw [hal]
                simp only [Nat.zero_add, List.nil_append, g1]
                rw [if_pos b4]
              have := append_ok (ty := type) H hva hvb ho hk
              simp only [execOp, resolve, hcal, args_two7 hargs, invoke, builtin, pure_bind]
              exact this
            · cases hr
          · cases hr
        · cases hr
      · cases hr
    · cases hr
theorem HR.pad {wb : Wb} {k : Nat} {s : Ren} {h : List AO} {w : World} (H : HR wb k s h w) (r : Nat) : HR wb k s (h ++ List.replicate r dead) w := by
  have old : ∀ (i : Nat) (o : AO), (h ++ List.replicate r dead)[i]? = some o → o.live = true → h[i]? = some o := by
    intro i o ho hl
    by_cases hi : i < h.length
    · rwa [List.getElem?_append_left hi] at ho
    · rw [List.getElem?_append_right (by omega), List.getElem?_replicate] at ho
      split at ho
      · cases ho; cases hl
      · cases ho
  exact ⟨H.grown, by simp; have := H.kle; omega, fun i hi => H.dom i (by simp at hi; omega), H.plc, fun i o ho hl => H.obj i o (old i o ho hl) hl,
    fun i j a b p q hi hj ha hb => H.sep i j a b p q (old i a hi ha) (old j b hj hb) ha hb, H.gl⟩
/-- A MAP OF WHICH NOT EVEN ITS NUMBER OF ENTRIES IS KNOWN: what is found in it by a number, as an oracle tells (at the lookup's slot: `tld (.int l b)`: it is there, with b; `tld (.bool false)`: it isn't there). -/
def mFind (k : IntKind) (a : Int) (cs : List Value) : Option (Option (Nat × Value)) := Instr.findNow (.int k) (.int k a) (ents 0 cs) 0
def mapB (k : IntKind) (a : Int) (cs : List Value) (l : IntKind) (b : Int) : Bool :=
  match mFind k a cs with
  | some (some (_, .int l' c)) => Nat.beq (kIx l) (kIx l') && c == b
  | _ => false
def mapN (k : IntKind) (a : Int) (cs : List Value) : Bool :=
  match mFind k a cs with
  | some none => true
  | _ => false
theorem mapB_ok {k : IntKind} {a : Int} {cs : List Value} {l : IntKind} {b : Int} (h : mapB k a cs l b = true) : ∃ i, Instr.findNow (.int k) (.int k a) (ents 0 cs) 0 = some (some (i, .int l b)) := by
  unfold mapB at h
  split at h
  · rename_i i l' c he
    simp only [Bool.and_eq_true, beq_iff_eq] at h
    obtain ⟨h1, rfl⟩ := h
    obtain rfl := kIx_inj h1
    exact ⟨i, he⟩
  · cases h
theorem mapN_ok {k : IntKind} {a : Int} {cs : List Value} (h : mapN k a cs = true) : Instr.findNow (.int k) (.int k a) (ents 0 cs) 0 = some none := by
  unfold mapN at h
  split at h
  · rename_i he; exact he
  · cases h
def moOp (P : Program) (ρ : Operand → Value) (h : List AO) (t : TypeId) (x ix : Operand) (ok : Bool) (v : Value) : Option (Value × Cs) :=
  match P.underlying t with
  | some (.map kt et) =>
    match P.underlying kt, mapCells (ρ x) h, ρ ix with
    | some (.int k), some cs, .int j a =>
      if Nat.beq (kIx j) (kIx k) then
        match v with
        | .int l b => some (okPair ok true (.int l b), [(b2i (mapB k a cs l b), 1)])
        | .bool false =>
          match P.info? et with
          | some i =>
            match i.zero with
            | some z => if flat z then some (okPair ok false z, [(b2i (mapN k a cs), 1)]) else none
            | none => none
          | none => none
        | _ => none
      else none
    | _, _, _ => none
  | _ => none
theorem moOp_ok {P : Program} {s : Ren} {ρ ρ' : Operand → Value} {h : List AO} {w : World} (H : MR s h w) {t : TypeId} {x ix : Operand} {ok : Bool} {u v : Value} {cs : Cs} (hx : VR s (ρ x) (ρ' x)) (hi : VR s (ρ ix) (ρ' ix)) (hr : moOp P ρ h t x ix ok u = some (v, cs)) (hc : ∀ c ∈ cs, c.1 = c.2) :
    Okay0 P s h w (aval (Instr.lookup t (ρ' x) (ρ' ix) ok)) (.value v, h, none) := by
  unfold moOp at hr
  split at hr
  · rename_i kt et hu
    split at hr
    · rename_i k cs1 j a hd hm hix
      split at hr
      · rename_i hj
        obtain rfl := kIx_inj hj
        split at hr
        · rename_i l b
          cases hr
          obtain ⟨i, hf⟩ := mapB_ok (b2i_inj (b := true) (hc _ (List.mem_cons_self ..)))
          have ho : oLookup P t (ρ x) (ρ ix) ok h = some (.value (okPair ok true (.int l b)), h, none) := by
            unfold oLookup
            rw [hu]
            simp only
            rw [hd, hm]
            simp only
            rw [hix]
            rw [if_pos (show keyB (.int j) (.int j a) = true by simp [keyB]), hf]
            all_goals rfl
          exact lookup_ok H hx hi ho
        · split at hr
          · rename_i i hinf
            split at hr
            · rename_i z hz
              split at hr
              · rename_i hzf
                cases hr
                have hf := mapN_ok (b2i_inj (b := true) (hc _ (List.mem_cons_self ..)))
                have ho : oLookup P t (ρ x) (ρ ix) ok h = some (.value (okPair ok false z), h, none) := by
                  unfold oLookup
                  rw [hu]
                  simp only
                  rw [hd, hm]
                  simp only
                  rw [hix]
                  rw [if_pos (show keyB (.int j) (.int j a) = true by simp [keyB]), hf]
                  simp only
                  rw [hinf]
                  simp only
                  rw [hz]
                  simp only
                  rw [if_pos hzf]
                exact lookup_ok H hx hi ho
              · cases hr
            · cases hr
          · cases hr
        · cases hr
      · cases hr
    · cases hr
  · cases hr
/-- A LOAD THAT IS TOLD: by an oracle that says `.tuple [.nilIface, v]` at its slot; that these cells of that block are v goes into the pairs (nothing else of the heap does). -/
def toldV (u : Option Value) : Option Value :=
  match u with
  | some (.tuple vs) =>
    match vs.toList with
    | [.nilIface, v] => some v
    | _ => none
  | _ => none
def tOp (P : Program) (same : Option Out → Option Out → Bool) (ρ : Operand → Value) (h : List AO) (o : Oper) (v : Value) : Option (Value × Cs) :=
  match o.op with
  | .load t x =>
    match ρ x, P.underlying t, P.info? t with
    | .pointer (some a), some d, some i =>
      match h[a.block]? with
      | some b =>
        if b.live && !isM b then
          if aggD d then some (v, [(b2i (decide (a.off + i.size ≤ b.cs.length)), 1), (b2i (same (some (.value (.agg ⟨(b.cs.drop a.off).take i.size⟩), [], none)) (some (.value v, [], none))), 1)])
          else some (v, [(b2i (decide (a.off < b.cs.length)), 1), (b2i (same (some (.value (b.cs.getD a.off .nilFunc), [], none)) (some (.value v, [], none))), 1)])
        else none
      | none => none
    | _, _, _ => none
  | .lookup t x ix ok => moOp P ρ h t x ix ok v
  | _ => none
theorem tOp_ok {P : Program} {s : Ren} {ρ ρ' : Operand → Value} {h : List AO} {w : World} (H : MR s h w) {o : Oper} {u v : Value} {cs : Cs} (hρ : ∀ x ∈ o.op.operands, VR s (ρ x) (ρ' x)) (hr : tOp P sameC ρ h o u = some (v, cs)) (hc : ∀ c ∈ cs, c.1 = c.2) :
    Okay0 P s h w (execOp ρ' o) (.value v, h, none) := by
  obtain ⟨dst, op, type, pos, after, guard⟩ := o
  unfold tOp at hr
  cases op <;> simp only at hr <;> try (cases hr; done)
  case load t x =>
    have hx := hρ x (by simp [Op.operands])
    split at hr
    · rename_i a d i0 hxa hd hi
      split at hr
      · rename_i b hb
        split at hr
        · rename_i hlv
          simp only [Bool.and_eq_true] at hlv
          split at hr
          · rename_i hag
            cases hr
            have h0 := of_decide_eq_true (b2i_inj (b := true) (hc _ (List.mem_cons_self ..)))
            have h1 := sameC_ok (b2i_inj (b := true) (hc _ (List.mem_cons_of_mem _ (List.mem_cons_self ..))))
            simp only [Option.some.injEq, Prod.mk.injEq, Next.value.injEq, and_true] at h1
            have hal : aload h a i0.size = some ((b.cs.drop a.off).take i0.size) := by
              unfold aload
              rw [hb]
              simp only [hlv.1, hlv.2, Bool.true_and, decide_eq_true h0, if_true]
            have ho : oLoad P t (ρ x) h = some (.value u, h, none) := by
              unfold oLoad
              rw [hxa, hd, hi]
              simp only [hag, if_true]
              rw [hal, ← h1]
            exact load_ok H hx ho
          · rename_i hag
            cases hr
            have h0 := of_decide_eq_true (b2i_inj (b := true) (hc _ (List.mem_cons_self ..)))
            have h1 := sameC_ok (b2i_inj (b := true) (hc _ (List.mem_cons_of_mem _ (List.mem_cons_self ..))))
            simp only [Option.some.injEq, Prod.mk.injEq, Next.value.injEq, and_true] at h1
            have h2 : b.cs[a.off]? = some u := by
              rw [← h1, List.getD_eq_getElem?_getD, List.getElem?_eq_getElem h0]
              rfl
            have hal : aload h a 1 = some [u] := by
              unfold aload
              rw [hb]
              simp only [hlv.1, hlv.2, Bool.true_and, decide_eq_true (show a.off + 1 ≤ b.cs.length by omega), if_true, Option.some.injEq]
              apply List.ext_getElem?
              intro j
              rw [List.getElem?_take]
              cases j with
              | zero => simp only [List.getElem?_drop, Nat.add_zero, h2]; rfl
              | succ j => simp
            have ho : oLoad P t (ρ x) h = some (.value u, h, none) := by
              unfold oLoad
              rw [hxa, hd, hi]
              simp only [hag, Bool.false_eq_true, if_false]
              rw [hal]
            exact load_ok H hx ho
        · cases hr
      · cases hr
    · cases hr
  case lookup t x ix ok =>
    exact moOp_ok H (hρ x (by simp [Op.operands])) (hρ ix (by simp [Op.operands])) hr hc
/-- A STORE AT A PLACE THAT IS NOT KNOWN: by an oracle that says, at the pseudo place 2000000 + the address's slot, `.nilIface`; or `.tuple [.nilIface, .agg cells]`: what the block has then is told (that it is so goes into the pairs). -/
def wAsk (o : Oper) (ask : Tmp → Option Value) : Option (Option (List Value)) :=
  match o.op with
  | .store _ (.tmp i) _ =>
    match ask (2000000 + i) with
    | some .nilIface => some none
    | some (.tuple vs) =>
      match vs.toList with
      | [.nilIface, .agg cs] => some (some cs.toList)
      | _ => none
    | _ => none
  | _ => none
def wOp (P : Program) (same : Option Out → Option Out → Bool) (ρ : Operand → Value) (h : List AO) (o : Oper) (u : Option (List Value)) : Option (List AO × Nat × Cs) :=
  match o.op with
  | .store t x y =>
    match ρ x, P.info? t with
    | .pointer (some a), some i =>
      match h[a.block]? with
      | some b =>
        if b.live && isW b then
          match u with
          | none => some (h.set a.block ⟨true, b.es, splice b.cs a.off (ρ y).cells.toList⟩, a.block, [(b2i ((ρ y).cells.toList.length == i.size && (ρ y).cells.toList.all (·.oneCell')), 1), (b2i (decide (a.off + (ρ y).cells.toList.length ≤ b.cs.length)), 1)])
          | some cs' => some (h.set a.block ⟨true, b.es, cs'⟩, a.block, [(b2i ((ρ y).cells.toList.length == i.size && (ρ y).cells.toList.all (·.oneCell')), 1), (b2i (decide (a.off + (ρ y).cells.toList.length ≤ b.cs.length)), 1), (b2i (same (some (.value (.agg ⟨splice b.cs a.off (ρ y).cells.toList⟩), [], none)) (some (.value (.agg ⟨cs'⟩), [], none))), 1)])
        else none
      | none => none
    | _, _ => none
  | _ => none
theorem wOp_ok {P : Program} {wb : Wb} {k : Nat} {s : Ren} {ρ ρ' : Operand → Value} {h h' : List AO} {w : World} (H : HR wb k s h w) {o : Oper} {u : Option (List Value)} {b : Nat} {cs : Cs} (hρ : ∀ x ∈ o.op.operands, VR s (ρ x) (ρ' x)) (hr : wOp P sameC ρ h o u = some (h', b, cs)) (hc : ∀ c ∈ cs, c.1 = c.2) (hk : k ≤ b) :
    Okay P wb k s w (execOp ρ' o) (.skip, h', some b) := by
  obtain ⟨dst, op, type, pos, after, guard⟩ := o
  unfold wOp at hr
  cases op <;> simp only at hr <;> try (cases hr; done)
  case store t x y =>
    have hx := hρ x (by simp [Op.operands])
    have hy := hρ y (by simp [Op.operands])
    split at hr
    · rename_i a i hxa hi
      split at hr
      · rename_i b0 hb
        split at hr
        · rename_i hlv
          simp only [Bool.and_eq_true] at hlv
          have fin : ((ρ y).cells.toList.length == i.size && (ρ y).cells.toList.all (·.oneCell')) = true → a.off + (ρ y).cells.toList.length ≤ b0.cs.length → k ≤ a.block → Okay P wb k s w (execOp ρ' ⟨dst, .store t x y, type, pos, after, guard⟩) (.skip, h.set a.block ⟨true, b0.es, splice b0.cs a.off (ρ y).cells.toList⟩, some a.block) := by
            intro hsz h0 hk
            have hst : astore h a (ρ y).cells.toList = some (h.set a.block ⟨true, b0.es, splice b0.cs a.off (ρ y).cells.toList⟩) := by
              unfold astore
              rw [hb]
              simp only [hlv.1, hlv.2, Bool.true_and, decide_eq_true h0, if_true]
            have ho : oStore P t (ρ x) (ρ y) h = some (.skip, h.set a.block ⟨true, b0.es, splice b0.cs a.off (ρ y).cells.toList⟩, some a.block) := by
              unfold oStore
              rw [hxa, hi]
              simp only
              rw [if_pos hsz, hst]
            exact store_ok H hx hy ho (fun i hi => by cases hi; exact hk)
          split at hr
          · cases hr
            exact fin (b2i_inj (b := true) (hc _ (List.mem_cons_self ..))) (of_decide_eq_true (b2i_inj (b := true) (hc _ (List.mem_cons_of_mem _ (List.mem_cons_self ..))))) hk
          · rename_i cs'
            cases hr
            have h0 := of_decide_eq_true (b2i_inj (b := true) (hc _ (List.mem_cons_of_mem _ (List.mem_cons_self ..))))
            have h1 := sameC_ok (b2i_inj (b := true) (hc _ (List.mem_cons_of_mem _ (List.mem_cons_of_mem _ (List.mem_cons_self ..)))))
            simp only [Option.some.injEq, Prod.mk.injEq, Next.value.injEq, Value.agg.injEq, Array.mk.injEq, and_true] at h1
            rw [← h1]
            exact fin (b2i_inj (b := true) (hc _ (List.mem_cons_self ..))) h0 hk
        · cases hr
      · cases hr
    · cases hr
/-- AN OPERATION WHOSE OUTCOME IS TOLD by the oracle (`.tuple [.nilFunc, value]`; with a block's number and cells: what it lays there; with a room's size and cells: a new block): that it comes to that goes into the pairs. -/
def tellV (u : Option Value) (h : List AO) : Option (Value × List AO × Option Nat) :=
  match u with
  | some (.tuple vs) =>
    match vs.toList with
    | [.nilFunc, v] => some (v, h, none)
    | [.nilFunc, v, .int .i64 b, .agg cs] =>
      match h[b.toNat]? with
      | some o => some (v, h.set b.toNat ⟨o.live, o.es, cs.toList⟩, some b.toNat)
      | none => none
    | [.nilFunc, .int _ l, .nilIface, .int .i64 e, .agg cs] => some (.slice (some ⟨h.length, 0, none⟩) l.toNat l.toNat, h ++ [⟨true, bif (decide (e < 0)) then none else some e.toNat, cs.toList⟩], none)
    | _ => none
  | _ => none
/-- A value told, and behind it a block that nothing is told of: it parts two calls that are alike (an oracle sees blocks' numbers). -/
def padV (u : Option Value) : Option Value :=
  match u with
  | some (.tuple vs) =>
    match vs.toList with
    | [.nilFunc, v, .nilFunc] => some v
    | _ => none
  | _ => none
/-- An operation as it is, and behind it a block that nothing is told of. -/
def padB (u : Option Value) : Bool :=
  match u with
  | some (.tuple vs) =>
    match vs.toList with
    | [.nilIface] => true
    | _ => false
  | _ => false
/-- A new key of a map of which no entry is known. An oracle says `.map none` at the place 1000001. -/
def u2Ask (o : Oper) (u : Option Value) : Bool :=
  match o.op with
  | .mapUpdate _ _ _ _ => hitB u
  | _ => false
def u2Op (P : Program) (ρ : Operand → Value) (h : List AO) (o : Oper) : Option (List AO × Nat × Cs) :=
  match o.op with
  | .mapUpdate t m key v =>
    match P.underlying t, ρ m with
    | some (.map kt _), .map (some r) =>
      match P.underlying kt, h[r]?, ρ key with
      | some (.int k), some ob, .int j a =>
        if Nat.beq (kIx j) (kIx k) && (ob.live && isM ob) then some (h.set r ⟨true, some 0, ob.cs ++ [.tuple ⟨[ρ key, ρ v]⟩]⟩, r, [(b2i (mapN k a ob.cs), 1)])
        else none
      | _, _, _ => none
    | _, _ => none
  | _ => none
theorem u2Op_ok {P : Program} {wb : Wb} {k0 : Nat} {s : Ren} {ρ ρ' : Operand → Value} {h : List AO} {w : World} (H : HR wb k0 s h w) {o : Oper} {h' : List AO} {b : Nat} {cs : Cs} (hρ : ∀ x ∈ o.op.operands, VR s (ρ x) (ρ' x)) (hr : u2Op P ρ h o = some (h', b, cs)) (hc : ∀ c ∈ cs, c.1 = c.2) (hk : k0 ≤ b) :
    Okay P wb k0 s w (execOp ρ' o) (.skip, h', some b) := by
  obtain ⟨dst, op, type, pos, after, guard⟩ := o
  unfold u2Op at hr
  cases op <;> simp only at hr <;> try (cases hr; done)
  rename_i t m key v
  have hm := hρ m (by simp [Op.operands])
  have hkey := hρ key (by simp [Op.operands])
  have hv := hρ v (by simp [Op.operands])
  split at hr
  · rename_i kt et r hu hmr
    split at hr
    · rename_i k ob j a hd ho hkk
      split at hr
      · rename_i hcond
        simp only [Bool.and_eq_true] at hcond
        obtain ⟨hj, hlive, hmm⟩ := hcond
        obtain rfl := kIx_inj hj
        cases hr
        have hf := mapN_ok (b2i_inj (b := true) (hc _ (List.mem_cons_self ..)))
        have hou : oMapUpdate P t (ρ m) (ρ key) (ρ v) h = some (.skip, h.set b ⟨true, some 0, ob.cs ++ [.tuple ⟨[ρ key, ρ v]⟩]⟩, some b) := by
          unfold oMapUpdate
          rw [hu, hmr]
          simp only
          rw [hd, ho]
          simp only
          rw [hkk, if_pos (by simp [hlive, hmm, keyB]), hf]
          all_goals rfl
        exact mapUpdate_ok H hm hkey hv hou (fun i hi => by cases hi; exact hk)
      · cases hr
    · cases hr
  · cases hr
def operA (P : Program) (op : OpFn) (rec : Rec) (o : Oper) (x : St) : Option St :=
  if o.op.operands.toList.all (okX x.h) then
    if u2Ask o (rec.orc 1000001 x.t) then
      match u2Op P (rec.acc.look x.t) x.h o with
      | some (h', b, cs) => some ⟨rec.acc.put x.t o.dst undef, h', low x.m (some b, cs)⟩
      | none => none
    else
    if uAsk o (rec.orc 1000001 x.t) then
      match uOp P (rec.acc.look x.t) x.h o with
      | some (h', b, cs) => some ⟨rec.acc.put x.t o.dst undef, h', low x.m (some b, cs)⟩
      | none => none
    else
    match wAsk o (fun d => rec.orc d x.t) with
    | some u =>
      match wOp P rec.acc.same (rec.acc.look x.t) x.h o u with
      | some (h', b, cs) => some ⟨rec.acc.put x.t o.dst undef, h', low x.m (some b, cs)⟩
      | none => none
    | none =>
    match toldV (o.dst.bind fun d => rec.orc d x.t) with
    | some u =>
      match tOp P rec.acc.same (rec.acc.look x.t) x.h o u with
      | some (v, cs) => some ⟨rec.acc.put x.t o.dst v, x.h, low x.m (none, cs)⟩
      | none => none
    | none =>
    match kAsk (o.dst.bind fun d => rec.orc d x.t) with
    | some j =>
      match kOp P (rec.acc.look x.t) x.h o j with
      | some (v, cs) => some ⟨rec.acc.put x.t o.dst v, x.h, low x.m (none, cs)⟩
      | none => none
    | none =>
    match tellV (o.dst.bind fun d => rec.orc d x.t) x.h with
    | some (v, h', m) => some ⟨rec.acc.put x.t o.dst v, h', low x.m (m, [(b2i (rec.acc.same (op (rec.acc.look x.t) o x.h) (some (.value v, h', m))), 1)])⟩
    | none =>
    match padV (o.dst.bind fun d => rec.orc d x.t) with
    | some v => some ⟨rec.acc.put x.t o.dst v, x.h ++ List.replicate 1 dead, low x.m (none, [(b2i (rec.acc.same (op (rec.acc.look x.t) o x.h) (some (.value v, x.h, none))), 1)])⟩
    | none =>
    if padB (o.dst.bind fun d => rec.orc d x.t) then
      match op (rec.acc.look x.t) o x.h with
      | some (.value v, h, m) => some ⟨rec.acc.put x.t o.dst v, h ++ List.replicate 1 dead, low x.m (m, [])⟩
      | _ => none
    else
    if quoB (o.dst.bind fun d => rec.orc d x.t) then
      match qOp (rec.acc.look x.t) o with
      | some (v, cs) => some ⟨rec.acc.put x.t o.dst v, x.h, low x.m (none, cs)⟩
      | none =>
        match lOp P (rec.acc.look x.t) x.h o with
        | some (v, cs) => some ⟨rec.acc.put x.t o.dst v, x.h, low x.m (none, cs)⟩
        | none =>
          match strOp P (rec.acc.look x.t) o with
          | some (v, cs) => some ⟨rec.acc.put x.t o.dst v, x.h, low x.m (none, cs)⟩
          | none =>
            match s2Op P (rec.acc.look x.t) x.h o with
            | some (v, cs) => some ⟨rec.acc.put x.t o.dst v, x.h, low x.m (none, cs)⟩
            | none =>
              match bOp P (rec.acc.look x.t) x.h o with
              | some (v, bs, cs) => some ⟨rec.acc.put x.t o.dst v, x.h ++ bs, low x.m (none, cs)⟩
              | none =>
                match xOp P (rec.acc.look x.t) x.h o with
                | some (v, cs) => some ⟨rec.acc.put x.t o.dst v, x.h, low x.m (none, cs)⟩
                | none =>
                  match mOp P (rec.acc.look x.t) x.h o with
                  | some (v, h', m, cs) => some ⟨rec.acc.put x.t o.dst v, h', low x.m (m, cs)⟩
                  | none => none
    else
    match hitA (o.dst.bind fun d => rec.orc d x.t) P (rec.acc.look x.t) x.h o with
    | some (v, cs) => some ⟨rec.acc.put x.t o.dst v, x.h, low x.m (none, cs)⟩
    | none =>
    match op (rec.acc.look x.t) o x.h with
    | some (.value v, h, m) =>
      match fixV (o.dst.bind fun d => rec.orc d x.t) v with
      | some (v', cs) => some ⟨rec.acc.put x.t o.dst v', h, low x.m (m, cs)⟩
      | none => none
    | some (.skip, h, m) => some ⟨rec.acc.put x.t o.dst undef, h, low x.m (m, [])⟩
    | some (.enter f args, h, m) =>
      match callA P rec f args.toList h with
      | some (v, h', m') => some ⟨rec.acc.put x.t o.dst v, h', low (low x.m (m, [])) m'⟩
      | none => none
    | _ => none
  else none
def seqA (P : Program) (op : OpFn) (rec : Rec) (ops : Array Oper) : List Oper → St → Option St
  | [], x => some x
  | o :: l, x =>
    if wantedA ops x.t o then
      match operA P op rec o x with
      | some x' => seqA P op rec ops l x'
      | none => none
    else seqA P op rec ops l ⟨rec.acc.put x.t o.dst undef, x.h, x.m⟩

section
variable {P : Program} {op : OpFn} {rec : Rec}

def CallPost (wb : Wb) (k : Nat) (s : Ren) (v : Value) (h : List AO) (e : Ending) (w : World) : Prop :=
  ∃ s' v', e = .returned v' ∧ Le s s' ∧ HR wb k s' h w ∧ VR s' v v'
theorem call_post {fn : Func} {vs : List Value} {x : St} {e : Exit} (he : e = .normal ∨ e = .ret) (hr : resL P x.t x.h fn.results.toList = some vs) {wb : Wb} {k : Nat} {s : Ren} {R : Ending → World → Prop}
    (hR : ∀ s' v' w', Le s s' → HR wb k s' x.h w' → VR s' (oneOf vs) v' → R (.returned v') w') :
    ∀ e' a' w', Post wb k s x e e' a' w' → bodyPost P fn R e' a' w' := by
  rintro e' a' w' ⟨rfl, s', hle, hsr⟩
  obtain ⟨v', h1, h2⟩ := results_ok (P := P) hsr.t hsr.h hr
  rcases he with rfl | rfl
  · exact ⟨hsr.d, v', h1, hR s' v' w' hle hsr.h h2⟩
  · exact ⟨hsr.d, v', h1, hR s' v' w' hle hsr.h h2⟩
theorem callA_ok (hrec : RecOk P rec) {f : FuncId} {args args' : List Value} {h : List AO} {v : Value} {h' : List AO} {m : Mk} (hr : callA P rec f args h = some (v, h', m)) {wb : Wb} {k : Nat} {s : Ren} {w : World}
    (hm : Bnd k m) (ha : LR s args args') (H : HR wb k s h w) : Calls P f ⟨args'⟩ w (CallPost wb k s v h') := by
  unfold callA at hr
  split at hr
  · rename_i u new cs0 hu
    cases hr
    exact hrec.2.1 f args h _ _ _ hu hm.2 wb k s w args' hm.1 H ha
  cases hf : P.funcs[f]? with
  | none => rw [hf] at hr; cases hr
  | some fn =>
    rw [hf] at hr
    simp only at hr
    cases hb : fn.body with
    | none => rw [hb] at hr; cases hr
    | some c =>
      rw [hb] at hr
      simp only at hr
      cases hx : rec.run f c ⟨args ++ List.replicate (fn.ntmps - args.length) undef, h, (none, [])⟩ with
      | none => rw [hx] at hr; cases hr
      | some ex =>
        obtain ⟨e, x⟩ := ex
        rw [hx] at hr
        have he : e = .normal ∨ e = .ret := by
          cases e <;> first | exact .inl rfl | exact .inr rfl | cases hr
        have hr2 : (match resL P x.t x.h fn.results.toList with
          | some vs =>
            if flat (oneOf vs) && quietB h.length x.m.1 then some (oneOf vs, h, (none, x.m.2))
            else some (oneOf vs, x.h, x.m)
          | none => none) = some (v, h', m) := by
          rcases he with rfl | rfl
          · exact hr
          · exact hr
        clear hr
        cases hrs : resL P x.t x.h fn.results.toList with
        | none => rw [hrs] at hr2; cases hr2
        | some vs =>
          rw [hrs] at hr2
          simp only at hr2
          obtain ⟨good, hgood, hrun⟩ := hrec.1
          refine calls_of_wp hf hb ?_
          have htl : ∀ (wb : Wb) (k : Nat), HR wb k s h w → SR wb k s ⟨args ++ List.replicate (fn.ntmps - args.length) undef, h, (none, [])⟩ { tmps := (⟨args'⟩ : Array Value) ++ Array.replicate (fn.ntmps - (⟨args'⟩ : Array Value).size) undef, defers := [] } w := by
            intro wb k H
            refine ⟨?_, rfl, H⟩
            have e1 : (⟨args'⟩ : Array Value).size = args.length := by simp [ha.1]
            rw [e1]
            simp only [Array.toList_append, Array.toList_replicate]
            exact ha.append (LR.ofFlat (List.all_eq_true.2 fun u hu => by rw [List.eq_of_mem_replicate hu]; rfl))
          split at hr2
          · rename_i hq
            cases hr2
            simp only [Bool.and_eq_true] at hq
            have hbnd : Bnd h.length x.m := ⟨quietB_ok hq.2, hm.2⟩
            refine Code.wp_mono ?_ (hrun w h.length s f c _ x e _ w (hgood f fn c hf hb) hx hbnd (htl w h.length H.here))
            refine call_post he hrs fun s' v' w' _ H' hv => ?_
            rw [hv.eq_of_flat hq.1]
            exact ⟨s, _, rfl, Le.refl s, H.grow H'.grown.gr, .same hq.1⟩
          · cases hr2
            refine Code.wp_mono ?_ (hrun wb k s f c _ x e _ w (hgood f fn c hf hb) hx hm (htl wb k H))
            exact call_post he hrs fun s' v' w' hle H' hv => ⟨s', v', rfl, hle, H', hv⟩

theorem operA_low {o : Oper} {x x' : St} (hr : operA P op rec o x = some x') {k : Nat} (hm : Bnd k x'.m) : Bnd k x.m := by
  unfold operA at hr
  split at hr
  · split at hr
    · split at hr
      · cases hr; exact (bnd_low hm).1
      · cases hr
    split at hr
    · split at hr
      · cases hr; exact (bnd_low hm).1
      · cases hr
    split at hr
    · split at hr
      · cases hr; exact (bnd_low hm).1
      · cases hr
    split at hr
    · split at hr
      · cases hr; exact (bnd_low hm).1
      · cases hr
    split at hr
    · split at hr
      · cases hr; exact (bnd_low hm).1
      · cases hr
    split at hr
    · cases hr; exact (bnd_low hm).1
    split at hr
    · cases hr; exact (bnd_low hm).1
    split at hr
    · split at hr
      · cases hr; exact (bnd_low hm).1
      · cases hr
    split at hr
    · split at hr
      · cases hr; exact (bnd_low hm).1
      · split at hr
        · cases hr; exact (bnd_low hm).1
        · split at hr
          · cases hr; exact (bnd_low hm).1
          · split at hr
            · cases hr; exact (bnd_low hm).1
            · split at hr
              · cases hr; exact (bnd_low hm).1
              · split at hr
                · cases hr; exact (bnd_low hm).1
                · split at hr
                  · cases hr; exact (bnd_low hm).1
                  · cases hr
    split at hr
    · cases hr; exact (bnd_low hm).1
    split at hr
    · split at hr
      · cases hr; exact (bnd_low hm).1
      · cases hr
    · cases hr; exact (bnd_low hm).1
    · split at hr
      · cases hr; exact (bnd_low (bnd_low hm).1).1
      · cases hr
    · cases hr
  · cases hr
theorem operA_ok (hop : OpOk P op) (hrec : RecOk P rec) {o : Oper} {x x' : St} (hr : operA P op rec o x = some x') {wb : Wb} {k : Nat} {s : Ren} {a : Act} {w : World} (hm : Bnd k x'.m) (H : SR wb k s x a w)
    {next : Act → World → Prop} {Q : Exit → Act → World → Prop} (hn : ∀ s' a' w', Le s s' → SR wb k s' x' a' w' → next a' w') : o.wp P a w next Q := by
  unfold operA at hr
  rw [hrec.2.2.2] at hr
  simp only [accP] at hr
  split at hr
  · rename_i hok
    have hρ : ∀ y ∈ o.op.operands, VR s (lookA x.t y) (a.eval y) := fun y hy => eval_ok H.t H.h.glob (List.all_eq_true.1 hok y (by simpa using hy))
    split at hr
    · split at hr
      · rename_i h' b cs hq
        cases hr
        obtain ⟨s', n', w', h1, h2, h3, h4⟩ := u2Op_ok (P := P) H.h hρ hq (bnd_low hm).2.2 ((bnd_low hm).2.1 _ rfl)
        unfold Oper.wp
        rw [h1]
        cases n' <;> simp only [NR] at h4
        exact hn s' _ w' h2 ⟨put_ok (H.t.mono h2) o.dst (.same rfl), by cases hd : o.dst <;> simp [Act.put, H.d], h3⟩
      · cases hr
    split at hr
    · split at hr
      · rename_i h' b cs hq
        cases hr
        obtain ⟨s', n', w', h1, h2, h3, h4⟩ := uOp_ok (P := P) H.h hρ hq (bnd_low hm).2.2 ((bnd_low hm).2.1 _ rfl)
        unfold Oper.wp
        rw [h1]
        cases n' <;> simp only [NR] at h4
        exact hn s' _ w' h2 ⟨put_ok (H.t.mono h2) o.dst (.same rfl), by cases hd : o.dst <;> simp [Act.put, H.d], h3⟩
      · cases hr
    split at hr
    · rename_i u0 _
      split at hr
      · rename_i h' b cs hq
        cases hr
        obtain ⟨s', n', w', h1, h2, h3, h4⟩ := wOp_ok (P := P) H.h hρ hq (bnd_low hm).2.2 ((bnd_low hm).2.1 _ rfl)
        unfold Oper.wp
        rw [h1]
        cases n' <;> simp only [NR] at h4
        exact hn s' _ w' h2 ⟨put_ok (H.t.mono h2) o.dst (.same rfl), by cases hd : o.dst <;> simp [Act.put, H.d], h3⟩
      · cases hr
    split at hr
    · rename_i u0 _
      split at hr
      · rename_i v cs hq
        cases hr
        obtain ⟨n', h1, h2, _⟩ := tOp_ok (P := P) H.h.mr hρ hq (bnd_low hm).2.2
        unfold Oper.wp
        rw [h1]
        cases n' <;> simp only [NR] at h2
        exact hn s _ w (Le.refl s) ⟨put_ok H.t o.dst h2, by cases hd : o.dst <;> simp [Act.put, H.d], H.h⟩
      · cases hr
    split at hr
    · split at hr
      · rename_i v cs hq
        cases hr
        obtain ⟨h1, h2⟩ := kOp_ok (P := P) H.h.mr hρ hq (bnd_low hm).2.2
        unfold Oper.wp
        rw [h1]
        exact hn s _ w (Le.refl s) ⟨put_ok H.t o.dst (.same h2), by cases hd : o.dst <;> simp [Act.put, H.d], H.h⟩
      · cases hr
    split at hr
    · rename_i v h' m htl
      cases hr
      have ho := sameC_ok (b2i_inj (b := true) ((bnd_low hm).2.2 _ (List.mem_singleton.2 rfl)))
      obtain ⟨s', n', w', h1, h2, h3, h4⟩ := hop wb k s x.h w _ _ o _ H.h hρ ho (bnd_low hm).2.1
      unfold Oper.wp
      rw [h1]
      cases n' <;> simp only [NR] at h4
      exact hn s' _ w' h2 ⟨put_ok (H.t.mono h2) o.dst h4, by cases hd : o.dst <;> simp [Act.put, H.d], h3⟩
    split at hr
    · rename_i v htl
      cases hr
      have ho := sameC_ok (b2i_inj (b := true) ((bnd_low hm).2.2 _ (List.mem_singleton.2 rfl)))
      obtain ⟨s', n', w', h1, h2, h3, h4⟩ := hop wb k s x.h w _ _ o _ H.h hρ ho (bnd_low hm).2.1
      unfold Oper.wp
      rw [h1]
      cases n' <;> simp only [NR] at h4
      exact hn s' _ w' h2 ⟨put_ok (H.t.mono h2) o.dst h4, by cases hd : o.dst <;> simp [Act.put, H.d], h3.pad 1⟩
    split at hr
    · split at hr
      · rename_i v h m ho
        cases hr
        obtain ⟨s', n', w', h1, h2, h3, h4⟩ := hop wb k s x.h w _ _ o _ H.h hρ ho (bnd_low hm).2.1
        unfold Oper.wp
        rw [h1]
        cases n' <;> simp only [NR] at h4
        exact hn s' _ w' h2 ⟨put_ok (H.t.mono h2) o.dst h4, by cases hd : o.dst <;> simp [Act.put, H.d], h3.pad 1⟩
      · cases hr
    split at hr
    · split at hr
      · rename_i v cs hq
        cases hr
        obtain ⟨h1, h2⟩ := qOp_ok (P := P) hρ hq (bnd_low hm).2.2 w
        unfold Oper.wp
        rw [h1]
        exact hn s _ w (Le.refl s) ⟨put_ok H.t o.dst (.same h2), by cases hd : o.dst <;> simp [Act.put, H.d], H.h⟩
      · split at hr
        · rename_i v cs hq
          cases hr
          obtain ⟨h1, h2⟩ := lOp_ok (P := P) H.h.mr hρ hq (bnd_low hm).2.2
          unfold Oper.wp
          rw [h1]
          exact hn s _ w (Le.refl s) ⟨put_ok H.t o.dst (.same h2), by cases hd : o.dst <;> simp [Act.put, H.d], H.h⟩
        · split at hr
          · rename_i v cs hq
            cases hr
            obtain ⟨h1, h2⟩ := strOp_ok (P := P) hρ hq (bnd_low hm).2.2 w
            unfold Oper.wp
            rw [h1]
            exact hn s _ w (Le.refl s) ⟨put_ok H.t o.dst (.same h2), by cases hd : o.dst <;> simp [Act.put, H.d], H.h⟩
          · split at hr
            · rename_i v cs hq
              cases hr
              obtain ⟨n', h1, h2, _⟩ := s2Op_ok (P := P) H.h.mr hρ hq (bnd_low hm).2.2
              unfold Oper.wp
              rw [h1]
              cases n' <;> simp only [NR] at h2
              exact hn s _ w (Le.refl s) ⟨put_ok H.t o.dst h2, by cases hd : o.dst <;> simp [Act.put, H.d], H.h⟩
            · split at hr
              · rename_i v bs cs hq
                cases hr
                obtain ⟨s', v', w', h1, h2, h3, h4⟩ := bOp_ok (P := P) H.h hρ hq (bnd_low hm).2.2
                unfold Oper.wp
                rw [h1]
                exact hn s' _ w' h2 ⟨put_ok (H.t.mono h2) o.dst h4, by cases hd : o.dst <;> simp [Act.put, H.d], h3⟩
              · split at hr
                · rename_i v cs hq
                  cases hr
                  obtain ⟨n', h1, h2, _⟩ := xOp_ok (P := P) H.h.mr hρ hq (bnd_low hm).2.2
                  unfold Oper.wp
                  rw [h1]
                  cases n' <;> simp only [NR] at h2
                  exact hn s _ w (Le.refl s) ⟨put_ok H.t o.dst h2, by cases hd : o.dst <;> simp [Act.put, H.d], H.h⟩
                · split at hr
                  · rename_i v h' m cs hq
                    cases hr
                    obtain ⟨s', n', w', h1, h2, h3, h4⟩ := mOp_ok (P := P) H.h hρ hq (bnd_low hm).2.2 (bnd_low hm).2.1
                    unfold Oper.wp
                    rw [h1]
                    cases n' <;> simp only [NR] at h4
                    exact hn s' _ w' h2 ⟨put_ok (H.t.mono h2) o.dst h4, by cases hd : o.dst <;> simp [Act.put, H.d], h3⟩
                  · cases hr
    split at hr
    · rename_i v cs hq
      cases hr
      obtain ⟨h1, h2⟩ := hitA_ok (P := P) H.h.mr hρ hq (bnd_low hm).2.2
      unfold Oper.wp
      rw [h1]
      exact hn s _ w (Le.refl s) ⟨put_ok H.t o.dst (.same h2), by cases hd : o.dst <;> simp [Act.put, H.d], H.h⟩
    split at hr
    · rename_i v h m ho
      split at hr
      · rename_i v2 cs hfx
        cases hr
        have hv2 := fixV_ok hfx (bnd_low hm).2.2
        subst hv2
        obtain ⟨s', n', w', h1, h2, h3, h4⟩ := hop wb k s x.h w _ _ o _ H.h hρ ho (bnd_low hm).2.1
        unfold Oper.wp
        rw [h1]
        cases n' <;> simp only [NR] at h4
        exact hn s' _ w' h2 ⟨put_ok (H.t.mono h2) o.dst h4, by cases hd : o.dst <;> simp [Act.put, H.d], h3⟩
      · cases hr
    · rename_i h m ho
      cases hr
      obtain ⟨s', n', w', h1, h2, h3, h4⟩ := hop wb k s x.h w _ _ o _ H.h hρ ho (bnd_low hm).2.1
      unfold Oper.wp
      rw [h1]
      cases n' <;> simp only [NR] at h4
      exact hn s' _ w' h2 ⟨put_ok (H.t.mono h2) o.dst (.same rfl), by cases hd : o.dst <;> simp [Act.put, H.d], h3⟩
    · rename_i f args h m ho
      split at hr
      · rename_i v h' m' hc
        cases hr
        obtain ⟨s', n', w', h1, h2, h3, h4⟩ := hop wb k s x.h w _ _ o _ H.h hρ ho (bnd_low (bnd_low hm).1).2.1
        unfold Oper.wp
        rw [h1]
        cases n' <;> simp only [NR] at h4
        rename_i g args'
        obtain ⟨rfl, hargs⟩ := h4
        refine (callA_ok hrec hc (bnd_low hm).2 hargs h3).mono ?_
        rintro e w'' ⟨s'', v', rfl, hle, H'', hv⟩
        exact hn s'' _ w'' (h2.trans hle) ⟨put_ok (H.t.mono (h2.trans hle)) o.dst hv, by cases hd : o.dst <;> simp [Act.put, H.d], H''⟩
      · cases hr
    · cases hr
  · cases hr
theorem seqA_low {ops : Array Oper} : ∀ {l : List Oper} {x x' : St}, seqA P op rec ops l x = some x' → ∀ {k : Nat}, Bnd k x'.m → Bnd k x.m
  | [], x, x', hr, k, hm => by simp [seqA] at hr; subst hr; exact hm
  | o :: l, x, x', hr, k, hm => by
    simp only [seqA] at hr
    split at hr
    · split at hr
      · rename_i x1 h1
        exact operA_low h1 (seqA_low hr hm)
      · cases hr
    · exact seqA_low (x := ⟨rec.acc.put x.t o.dst undef, x.h, x.m⟩) hr hm
theorem seqA_ok (hop : OpOk P op) (hrec : RecOk P rec) {ops : Array Oper} : ∀ {l : List Oper} {x x' : St}, seqA P op rec ops l x = some x' → ∀ {wb : Wb} {k : Nat} {s : Ren} {a : Act} {w : World}, Bnd k x'.m → SR wb k s x a w →
    ∀ {Q : Exit → Act → World → Prop}, (∀ s' a' w', Le s s' → SR wb k s' x' a' w' → Q .normal a' w') → wpList P ops Q l a w
  | [], x, x', hr, wb, k, s, a, w, hm, H, Q, hQ => by
    simp [seqA] at hr; subst hr
    exact hQ s a w (Le.refl s) H
  | o :: l, x, x', hr, wb, k, s, a, w, hm, H, Q, hQ => by
    simp only [seqA] at hr
    rw [hrec.2.2.2] at hr
    simp only [accP] at hr
    simp only [wpList, wanted_ok H.t]
    split at hr
    · rename_i hw
      rw [if_pos hw]
      split at hr
      · rename_i x1 h1
        left
        refine operA_ok hop hrec h1 (seqA_low hr hm) H fun s' a' w' hle H' => ?_
        exact seqA_ok hop hrec hr hm H' fun s'' a'' w'' hle' H'' => hQ s'' a'' w'' (hle.trans hle') H''
      · cases hr
    · rename_i hw
      rw [if_neg hw]
      refine seqA_ok hop hrec (x := ⟨putA x.t o.dst undef, x.h, x.m⟩) hr hm ⟨put_ok H.t o.dst (.same rfl), by cases hd : o.dst <;> simp [Act.put, H.d], H.h⟩ hQ

/-! Code. -/
abbrev DrawFn := Rec → Array Oper → St → Option St
def DrawOk (P : Program) (dr : DrawFn) : Prop :=
  ∀ (rec : Rec), RecOk P rec → ∀ (ops : Array Oper) (x x' : St), dr rec ops x = some x' → ∀ (wb : Wb) (k : Nat) (s : Ren) (id : Nat) (a : Act) (w : World), Bnd k x'.m → SR wb k s x a w →
    (Code.region id ops true).wp P (Post wb k s x' .normal) a w
def DrawLow (dr : DrawFn) : Prop := ∀ (rec : Rec) (ops : Array Oper) (x x' : St), dr rec ops x = some x' → ∀ (k : Nat), Bnd k x'.m → Bnd k x.m
def loopN (body : St → Option (Exit × St)) : Nat → St → Option (Exit × St)
  | 0, _ => none
  | n + 1, x =>
    match body x with
    | some (.normal, x') => loopN body n x'
    | r => r
/-- What a number or a test comes to that cannot be reckoned: by the function, the place that it is laid in, and the temporaries then. -/
abbrev Orc := FuncId → Tmp → List Value → Option Value
def noOrc : Orc := fun _ _ _ => none
/-- Loops that are told by a theorem: by the function, the loop's body, the state ahead of it. -/
abbrev LoopHook := FuncId → Code → St → Option (Exit × St)
def noLoop : LoopHook := fun _ _ _ => none
def exG (P : Program) (op : OpFn) (dr : DrawFn) (hk : Hook3) (orc : Orc) (ac : Acc) (lh : LoopHook) (L : Nat) : Nat → FuncId → Code → St → Option (Exit × St)
  | 0, _, _, _ => none
  | f + 1, fid, c, x =>
    match c with
    | .skip => some (.normal, x)
    | .label _ => some (.normal, x)
    | .region _ ops false =>
      match seqA P op ⟨exG P op dr hk orc ac lh L f, hk, orc fid, ac⟩ ops ops.toList x with
      | some x' => some (.normal, x')
      | none => none
    | .region _ ops true =>
      match dr ⟨exG P op dr hk orc ac lh L f, hk, orc fid, ac⟩ ops x with
      | some x' => some (.normal, x')
      | none => none
    | .seq a b =>
      match exG P op dr hk orc ac lh L f fid a x with
      | some (.normal, x') => exG P op dr hk orc ac lh L f fid b x'
      | r => r
    | .cond c a b =>
      if okX x.h c then
        match lookA x.t c with
        | .bool true => exG P op dr hk orc ac lh L f fid a x
        | .bool false => exG P op dr hk orc ac lh L f fid b x
        | _ => none
      else none
    | .block id c =>
      match exG P op dr hk orc ac lh L f fid c x with
      | some (.exit i, x') => if i = id then some (.normal, x') else some (.exit i, x')
      | r => r
    | .loop c =>
      match lh fid c x with
      | some r => some r
      | none => loopN (exG P op dr hk orc ac lh L f fid c) L x
    | .exit id => some (.exit id, x)
    | .ret => some (.ret, x)
    | .scope c =>
      match exG P op dr hk orc ac lh L f fid c x with
      | some (.goto _, _) => none
      | r => r
    | _ => none
def ex (P : Program) (op : OpFn) (dr : DrawFn) (hk : Hook3) (orc : Orc) (ac : Acc) (L : Nat) := exG P op dr hk orc ac noLoop L
end
end Go.Proofs.YtokeopmmnpmfeaaDoor.Ex
end
section
namespace Go.Proofs.YtokeopmmnpmfeaaDoor.Ex
set_option maxRecDepth 20000

open Go Go.RowKit

section
variable {P : Program} {op : OpFn} {dr : DrawFn} {hk : Hook3} {orc : Orc} {ac : Acc}

theorem post_le {wb : Wb} {k : Nat} {s t : Ren} (h : Le s t) {x : St} {e e' : Exit} {a : Act} {w : World} (hp : Post wb k t x e e' a w) : Post wb k s x e e' a w :=
  ⟨hp.1, let ⟨s', h1, h2⟩ := hp.2; ⟨s', h.trans h1, h2⟩⟩
theorem loopN_low {body : St → Option (Exit × St)} {k : Nat} (hl : ∀ (x x' : St) (e : Exit), body x = some (e, x') → Bnd k x'.m → Bnd k x.m) :
    ∀ (n : Nat) (x x' : St) (e : Exit), loopN body n x = some (e, x') → Bnd k x'.m → Bnd k x.m
  | 0, x, x', e, hr, _ => by simp [loopN] at hr
  | n + 1, x, x', e, hr, hm => by
    simp only [loopN] at hr
    split at hr
    · rename_i x1 h1
      exact hl x x1 .normal h1 (loopN_low hl n x1 x' e hr hm)
    · exact hl x x' e hr hm
/-- Whatever stands behind such a loop leaves what it asks for. -/
def LoopLow (lh : LoopHook) : Prop := ∀ (f : FuncId) (c : Code) (x x' : St) (e : Exit), lh f c x = some (e, x') → ∀ (k : Nat), Bnd k x'.m → Bnd k x.m
/-- What is told of a loop is so of any run of it. -/
def LoopV (P : Program) (lh : LoopHook) (f : FuncId) (c : Code) : Prop :=
  ∀ (x x' : St) (e : Exit), lh f c x = some (e, x') → ∀ (wb : Wb) (k : Nat) (s : Ren) (a : Act) (w : World), Bnd k x'.m → SR wb k s x a w → (Code.loop c).wp P (Post wb k s x' e) a w
/-- The loops of a piece of code. -/
def loopsIn : Code → List Code
  | .seq a b => loopsIn a ++ loopsIn b
  | .cond _ a b => loopsIn a ++ loopsIn b
  | .block _ c => loopsIn c
  | .loop c => c :: loopsIn c
  | .scope c => loopsIn c
  | _ => []
def LoopsOk (P : Program) (lh : LoopHook) : Prop := ∀ (f : FuncId) (fn : Func) (c : Code), P.funcs[f]? = some fn → fn.body = some c → ∀ c' ∈ loopsIn c, LoopV P lh f c'
theorem noLoop_low : LoopLow noLoop := by intro f c x x' e h; cases h
theorem noLoop_ok (P : Program) : LoopsOk P noLoop := by intro f fn c _ _ c' _ x x' e h; cases h
theorem exG_low (hdl : DrawLow dr) {lh : LoopHook} (hll : LoopLow lh) (L : Nat) (k : Nat) : ∀ (f : Nat) (fid : FuncId) (c : Code) (x x' : St) (e : Exit), exG P op dr hk orc ac lh L f fid c x = some (e, x') → Bnd k x'.m → Bnd k x.m
  | 0, fid, c, x, x', e, hr, _ => by simp [exG] at hr
  | f + 1, fid, c, x, x', e, hr, hm => by
    have ih := exG_low hdl hll L k f fid
    cases c with
    | skip => simp [exG] at hr; obtain ⟨rfl, rfl⟩ := hr; exact hm
    | label l => simp [exG] at hr; obtain ⟨rfl, rfl⟩ := hr; exact hm
    | exit id => simp [exG] at hr; obtain ⟨rfl, rfl⟩ := hr; exact hm
    | ret => simp [exG] at hr; obtain ⟨rfl, rfl⟩ := hr; exact hm
    | region id ops draw =>
      cases draw with
      | false =>
        simp only [exG] at hr
        split at hr
        · rename_i x1 h1; cases hr; exact seqA_low h1 hm
        · cases hr
      | true =>
        simp only [exG] at hr
        split at hr
        · rename_i x1 h1; cases hr; exact hdl _ ops x _ h1 k hm
        · cases hr
    | seq c1 c2 =>
      simp only [exG] at hr
      split at hr
      · rename_i x1 h1; exact ih c1 x x1 _ h1 (ih c2 x1 x' e hr hm)
      · exact ih c1 x x' e hr hm
    | cond c a b =>
      simp only [exG] at hr
      split at hr
      · split at hr
        · exact ih a x x' e hr hm
        · exact ih b x x' e hr hm
        · cases hr
      · cases hr
    | block id c =>
      simp only [exG] at hr
      split at hr
      · rename_i i x1 h1
        split at hr
        · cases hr; exact ih c x _ _ h1 hm
        · cases hr; exact ih c x _ _ h1 hm
      · exact ih c x x' e hr hm
    | loop c =>
      simp only [exG] at hr
      split at hr
      · rename_i r h1
        cases hr
        exact hll fid c x _ _ h1 k hm
      · exact loopN_low (fun x x' e h => ih c x x' e h) L x x' e hr hm
    | scope c =>
      simp only [exG] at hr
      split at hr
      · cases hr
      · exact ih c x x' e hr hm
    | rangeFunc _ _ _ _ => simp [exG] at hr
    | goto _ => simp [exG] at hr
    | refuse _ => simp [exG] at hr

theorem loopN_ok {body : St → Option (Exit × St)} {c : Code}
    (hb : ∀ (wb : Wb) (k : Nat) (s : Ren) (x x' : St) (e : Exit) (a : Act) (w : World), body x = some (e, x') → Bnd k x'.m → SR wb k s x a w → c.wp P (Post wb k s x' e) a w)
    (wb : Wb) (k : Nat) (hl : ∀ (x x' : St) (e : Exit), body x = some (e, x') → Bnd k x'.m → Bnd k x.m) :
    ∀ (n : Nat) (x x' : St) (e : Exit), loopN body n x = some (e, x') → Bnd k x'.m → ∀ (s : Ren) (a : Act) (w : World), SR wb k s x a w → Code.rounds P c (Post wb k s x' e) n a w
  | 0, x, x', e, hr, _ => by simp [loopN] at hr
  | n + 1, x, x', e, hr, hm => by
    simp only [loopN] at hr
    split at hr
    · rename_i x1 h1
      have g1 := loopN_low hl n x1 x' e hr hm
      have g2 := loopN_ok hb wb k hl n x1 x' e hr hm
      intro s a w H
      rw [rounds_succ]
      refine Code.wp_mono ?_ (hb wb k s x x1 .normal a w h1 g1 H)
      rintro e' a' w' ⟨rfl, s', hle, H'⟩
      have g3 := g2 s' a' w' H'
      have mono : ∀ (n : Nat) (a : Act) (w : World), Code.rounds P c (Post wb k s' x' e) n a w → Code.rounds P c (Post wb k s x' e) n a w := by
        intro n
        induction n with
        | zero => intro a w h; exact h
        | succ n ih =>
          intro a w h
          rw [rounds_succ] at h ⊢
          refine Code.wp_mono (fun e' a' w' hp => ?_) h
          cases e' <;> first | exact ih _ _ hp | exact post_le hle hp
      exact mono n a' w' g3
    · rename_i r hne
      intro s a w H
      rw [rounds_succ]
      refine Code.wp_mono ?_ (hb wb k s x x' e a w hr hm H)
      rintro e' a' w' ⟨rfl, hp⟩
      have hne' : e' ≠ .normal := by
        intro he
        subst he
        exact hne x' hr
      cases e' <;> first | exact absurd rfl hne' | exact ⟨rfl, hp⟩

theorem exG_run (hac : ac = accP) (hng : NoNG P) (hop : OpOk P op) (hdr : DrawOk P dr) (hdl : DrawLow dr) (hhk : HookOk3 P hk) {lh : LoopHook} (hll : LoopLow lh) (hlo : LoopsOk P lh) (L : Nat) : ∀ (f : Nat) (wb : Wb) (k : Nat) (s : Ren) (fid : FuncId) (c : Code) (x x' : St) (e : Exit) (a : Act) (w : World),
    (∀ c' ∈ loopsIn c, LoopV P lh fid c') → exG P op dr hk orc ac lh L f fid c x = some (e, x') → Bnd k x'.m → SR wb k s x a w → c.wp P (Post wb k s x' e) a w
  | 0 => by intro wb k s g c x x' e a w _ hr; simp [exG] at hr
  | f + 1 => by
    have ihr0 := exG_run hac hng hop hdr hdl hhk hll hlo L f
    intro wb k s fid c x x' e a w hg hr hm H
    have ihr : RecOk P ⟨exG P op dr hk orc ac lh L f, hk, orc fid, ac⟩ := ⟨⟨fun fid c => ∀ c' ∈ loopsIn c, LoopV P lh fid c', hlo, ihr0⟩, hhk, hng, hac⟩
    have ih0 := ihr0
    have ih := fun wb k s => ih0 wb k s fid
    have lo := exG_low (P := P) (op := op) (hk := hk) (orc := orc) (ac := ac) hdl hll L k f fid
    cases c with
    | skip => simp [exG] at hr; obtain ⟨rfl, rfl⟩ := hr; exact wp_skip ⟨rfl, s, Le.refl s, H⟩
    | label l => simp [exG] at hr; obtain ⟨rfl, rfl⟩ := hr; exact wp_label ⟨rfl, s, Le.refl s, H⟩
    | exit id => simp [exG] at hr; obtain ⟨rfl, rfl⟩ := hr; exact wp_exit ⟨rfl, s, Le.refl s, H⟩
    | ret => simp [exG] at hr; obtain ⟨rfl, rfl⟩ := hr; exact wp_ret ⟨rfl, s, Le.refl s, H⟩
    | region id ops draw =>
      cases draw with
      | false =>
        simp only [exG] at hr
        split at hr
        · rename_i x1 h1
          cases hr
          refine wp_region ?_
          have e1 : List.range ops.size = List.range' 0 ops.toList.length := by simp [List.range_eq_range']
          rw [e1, wpOps_eq_wpList ops.toList 0 (fun j => by simp)]
          exact seqA_ok hop ihr h1 hm H fun s' a' w' hle H' => ⟨rfl, s', hle, H'⟩
        · cases hr
      | true =>
        simp only [exG] at hr
        split at hr
        · rename_i x1 h1
          cases hr
          exact hdr _ ihr ops x _ h1 wb k s id a w hm H
        · cases hr
    | seq c1 c2 =>
      simp only [exG] at hr
      split at hr
      · rename_i x1 h1
        have hm1 : Bnd k x1.m := lo c2 x1 x' e hr hm
        refine wp_seq ?_
        refine Code.wp_mono ?_ (ih wb k s c1 x x1 .normal a w (fun c' h => hg c' (List.mem_append_left _ h)) h1 hm1 H)
        rintro e' a' w' ⟨rfl, s', hle, H'⟩
        exact Code.wp_mono (fun _ _ _ hp => post_le hle hp) (ih wb k s' c2 x1 x' e a' w' (fun c' h => hg c' (List.mem_append_right _ h)) hr hm H')
      · rename_i r hne
        refine wp_seq ?_
        refine Code.wp_mono ?_ (ih wb k s c1 x x' e a w (fun c' h => hg c' (List.mem_append_left _ h)) hr hm H)
        rintro e' a' w' ⟨rfl, hp⟩
        cases e' <;> first | exact ⟨rfl, hp⟩ | exact absurd hr (hne _)
    | cond c c1 c2 =>
      simp only [exG] at hr
      split at hr
      · rename_i hok
        have hv := eval_ok H.t H.h.glob hok
        split at hr
        · rename_i hc
          rw [hc] at hv
          exact wp_cond_true hv.bool_inv (ih wb k s c1 x x' e a w (fun c' h => hg c' (List.mem_append_left _ h)) hr hm H)
        · rename_i hc
          rw [hc] at hv
          exact wp_cond_false hv.bool_inv (ih wb k s c2 x x' e a w (fun c' h => hg c' (List.mem_append_right _ h)) hr hm H)
        · cases hr
      · cases hr
    | block id c =>
      simp only [exG] at hr
      refine wp_block ?_
      split at hr
      · rename_i i x1 h1
        split at hr
        · rename_i hi
          cases hr
          refine Code.wp_mono ?_ (ih wb k s c x _ _ a w hg h1 hm H)
          rintro e' a' w' ⟨rfl, hp⟩
          simp only [Exit.inBlock, hi, if_true]
          exact ⟨rfl, hp⟩
        · rename_i hi
          cases hr
          refine Code.wp_mono ?_ (ih wb k s c x _ _ a w hg h1 hm H)
          rintro e' a' w' ⟨rfl, hp⟩
          simp only [Exit.inBlock, hi, if_false]
          exact ⟨rfl, hp⟩
      · rename_i r hne
        refine Code.wp_mono ?_ (ih wb k s c x x' e a w hg hr hm H)
        rintro e' a' w' ⟨rfl, hp⟩
        cases e' <;> first | exact ⟨rfl, hp⟩ | exact absurd hr (hne _ _)
    | loop c =>
      simp only [exG] at hr
      split at hr
      · rename_i r h1
        cases hr
        exact hg c List.mem_cons_self x _ _ h1 wb k s a w hm H
      · exact wp_loop_rounds L (loopN_ok (fun wb k s x x' e a w h1 h2 h3 => ih wb k s c x x' e a w (fun c' h => hg c' (List.mem_cons_of_mem _ h)) h1 h2 h3) wb k (fun x x' e h => lo c x x' e h) L x x' e hr hm s a w H)
    | scope c =>
      simp only [exG] at hr
      refine wp_scope_straight ?_
      split at hr
      · cases hr
      · rename_i r hne
        refine Code.wp_mono ?_ (ih wb k s c x x' e a w hg hr hm H)
        rintro e' a' w' ⟨rfl, hp⟩
        cases e' <;> first | exact ⟨rfl, hp⟩ | exact absurd hr (hne _ _)
    | rangeFunc _ _ _ _ => simp [exG] at hr
    | goto _ => simp [exG] at hr
    | refuse _ => simp [exG] at hr

theorem exG_ok (hac : ac = accP) (hng : NoNG P) (hop : OpOk P op) (hdr : DrawOk P dr) (hdl : DrawLow dr) (hhk : HookOk3 P hk) {lh : LoopHook} (hll : LoopLow lh) (hlo : LoopsOk P lh) (L : Nat) (f : Nat) (g : Tmp → List Value → Option Value) : RecOk P ⟨exG P op dr hk orc ac lh L f, hk, g, ac⟩ :=
  ⟨⟨fun fid c => ∀ c' ∈ loopsIn c, LoopV P lh fid c', hlo, exG_run hac hng hop hdr hdl hhk hll hlo L f⟩, hhk, hng, hac⟩
theorem ex_ok (hac : ac = accP) (hng : NoNG P) (hop : OpOk P op) (hdr : DrawOk P dr) (hdl : DrawLow dr) (hhk : HookOk3 P hk) (L : Nat) (f : Nat) (g : Tmp → List Value → Option Value) : RecOk P ⟨ex P op dr hk orc ac L f, hk, g, ac⟩ :=
  exG_ok hac hng hop hdr hdl hhk noLoop_low (noLoop_ok P) L f g

end
end Go.Proofs.YtokeopmmnpmfeaaDoor.Ex
end
section
namespace Go.Proofs.YtokeopmmnpmfeaaDoor.Ex
set_option maxRecDepth 20000

open Go Go.RowKit

/-- Operations that leave memory as it is. -/
def sOp (P : Program) : OpFn := fun ρ o h =>
  match o.op with
  | .move x => some (.value (ρ x), h, none)
  | .assign x => some (.value (ρ x), h, none)
  | .pick c a b => oPick (ρ c) (ρ a) (ρ b) h
  | .extract x i => oExtract (ρ x) i h
  | .load t x => oLoad P t (ρ x) h
  | .nilCheck x => oNil (ρ x) h
  | .fieldAddr t x f => oFieldAt P t (ρ x) f h
  | .indexAddr t x i => oIndexAt P t (ρ x) (ρ i) h
  | .field t x f => oField P t (ρ x) f h
  | .index t x i => oIndex P t (ρ x) (ρ i) h
  | .binOp b t x y _ =>
    match oFastBin P b t (ρ x) (ρ y) h with
    | some r => some r
    | none =>
      match oCmp P b t (ρ x) (ρ y) h with
      | some r => some r
      | none => oPure P ρ o h
  | .makeFunc fn a b => oFunc fn (a.toList.map ρ) (b.toList.map ρ) h
  | .build t ps =>
    match oBuild P t (ps.map fun (i, x) => (i, ρ x)) h with
    | some r => some r
    | none => oPure P ρ o h
  | .slice t x lo hi none =>
    match oSlice P t (ρ x) (lo.map ρ) (hi.map ρ) h with
    | some r => some r
    | none => oPure P ρ o h
  | .convert a b x =>
    match oFastConv P a b (ρ x) h with
    | some r => some r
    | none =>
      match oToStr P a b (ρ x) h with
      | some r => some r
      | none => oPure P ρ o h
  | .call c =>
    match c.callee with
    | .value f =>
      match oCall P (ρ f) (c.args.toList.map ρ) h with
      | some r => some r
      | none => oPure P ρ o h
    | .builtin .len =>
      match oLen P c (c.args.toList.map ρ) h with
      | some r => some r
      | none =>
        match oLenMap P c (c.args.toList.map ρ) h with
        | some r => some r
        | none => oPure P ρ o h
    | .invoke x name => oInvoke P (ρ x) name (c.args.toList.map ρ) h
    | _ => oPure P ρ o h
  | .lookup t x ix ok => oLookup P t (ρ x) (ρ ix) ok h
  | .makeInterface t x => oIface P t (ρ x) h
  | .typeAssert x _ t ok =>
    match oAssert P (ρ x) t ok h with
    | some r => some r
    | none => oPure P ρ o h
  | _ => oPure P ρ o h

theorem args_ok {s : Ren} {ρ ρ' : Operand → Value} {l : List Operand} (h : ∀ x ∈ l, VR s (ρ x) (ρ' x)) : LR s (l.map ρ) (l.map ρ') := by
  induction l with
  | nil => exact LR.nil s
  | cons x l ih => exact LR.cons (h x (by simp)) (ih fun y hy => h y (by simp [hy]))
def StillOk (P : Program) (op : OpFn) : Prop :=
  ∀ (s : Ren) (h : List AO) (w : World) (ρ ρ' : Operand → Value) (o : Oper) (r : Out), MR s h w → (∀ x ∈ o.op.operands, VR s (ρ x) (ρ' x)) → op ρ o h = some r → Okay0 P s h w (execOp ρ' o) r
theorem sOp_ok (P : Program) (hng : NoNG P) : StillOk P (sOp P) := by
  intro s h w ρ ρ' o r H hρ hr
  have hp := fun h2 => pure_ok (P := P) (s := s) (w := w) (h := h) (ρ := ρ) (ρ' := ρ') (o := o) hρ (r := r) h2
  obtain ⟨dst, op, type, pos, after, guard⟩ := o
  unfold sOp at hr
  simp only at hr hρ
  cases op
  case move x => cases hr; exact ⟨_, rfl, hρ x (by simp [Op.operands]), rfl⟩
  case assign x => cases hr; exact ⟨_, rfl, hρ x (by simp [Op.operands]), rfl⟩
  case pick c a b => exact pick_ok (hρ c (by simp [Op.operands])) (hρ a (by simp [Op.operands])) (hρ b (by simp [Op.operands])) hr
  case extract x i => exact extract_ok (hρ x (by simp [Op.operands])) hr
  case load t x => exact load_ok H (hρ x (by simp [Op.operands])) hr
  case nilCheck x => exact nil_ok (hρ x (by simp [Op.operands])) hr
  case fieldAddr t x f => exact fieldAt_ok (hρ x (by simp [Op.operands])) hr
  case indexAddr t x i => exact indexAt_ok (hρ x (by simp [Op.operands])) (hρ i (by simp [Op.operands])) hr
  case field t x f => exact field_ok (hρ x (by simp [Op.operands])) hr
  case index t x i => exact index_ok (hρ x (by simp [Op.operands])) (hρ i (by simp [Op.operands])) hr
  case binOp b t x y t2 =>
    simp only at hr
    split at hr
    · rename_i r' hc
      cases hr
      exact fastBin_ok (hρ x (by simp [Op.operands])) (hρ y (by simp [Op.operands])) hc
    · split at hr
      · rename_i r' hc
        cases hr
        exact cmp_ok (hρ x (by simp [Op.operands])) (hρ y (by simp [Op.operands])) hc
      · exact hp hr
  case makeFunc fn a b => exact func_ok (args_ok fun x hx => hρ x (by simp only [Op.operands, Array.mem_append]; left; simpa using hx)) (args_ok fun x hx => hρ x (by simp only [Op.operands, Array.mem_append]; right; simpa using hx)) hr
  case build t ps =>
    simp only at hr
    split at hr
    · rename_i r' hl
      cases hr
      exact build_ok (parts_ok fun x hx => hρ x (by simp only [Op.operands]; simpa using hx)) hl
    · exact hp hr
  case slice t x lo hi mx =>
    cases mx with
    | some m => exact hp hr
    | none =>
      simp only at hr
      split at hr
      · rename_i r' hl
        cases hr
        refine slice_ok H (hρ x (by simp [Op.operands])) ?_ ?_ hl
        · cases lo with
          | none => trivial
          | some y => exact hρ y (by simp [Op.operands])
        · cases hi with
          | none => trivial
          | some y => exact hρ y (by simp [Op.operands])
      · exact hp hr
  case convert a b x =>
    simp only at hr
    split at hr
    · rename_i r' hl
      cases hr
      exact fastConv_ok (hρ x (by simp [Op.operands])) hl
    · split at hr
      · rename_i r' hl
        cases hr
        exact toStr_ok H (hρ x (by simp [Op.operands])) hl
      · exact hp hr
  case call c =>
    have hargs : LR s (c.args.toList.map ρ) (c.args.toList.map ρ') := args_ok fun x hx => hρ x (by simp [Op.operands, Call.operands]; right; simpa using hx)
    simp only at hr
    split at hr
    · rename_i f hc
      split at hr
      · rename_i r' hl
        cases hr
        exact call_ok hng hc type (hρ f (by simp [Op.operands, Call.operands, hc])) hargs hl
      · exact hp hr
    · rename_i hc
      split at hr
      · rename_i r' hl
        cases hr
        exact len_ok hc type hargs hl
      · split at hr
        · rename_i r' hl
          cases hr
          exact lenMap_ok H hc type hargs hl
        · exact hp hr
    · rename_i x name hc
      exact invoke_ok hng hc type (hρ x (by simp [Op.operands, Call.operands, hc])) hargs hr
    · exact hp hr
  case lookup t x ix ok => exact lookup_ok H (hρ x (by simp [Op.operands])) (hρ ix (by simp [Op.operands])) hr
  case makeInterface t x => exact iface_ok (hρ x (by simp [Op.operands])) hr
  case typeAssert x xt t ok =>
    simp only at hr
    split at hr
    · rename_i r' hl
      cases hr
      exact assert_ok (hρ x (by simp [Op.operands])) hl
    · exact hp hr
  all_goals exact hp hr

/-- The address of a new block: as a pointer, or as a slice of so many. -/
def mkNew (id : Nat) : Option (Nat × Nat) → Value
  | none => .pointer (some ⟨id, 0, none⟩)
  | some (l, c) => .slice (some ⟨id, 0, none⟩) l c
theorem mkNew_ok {s : Ren} {id b tot : Nat} (h : s id = some ⟨b, 0, tot, none⟩) (x : Option (Nat × Nat)) : VR s (mkNew id x) (mkNew b x) := by
  cases x with
  | none => exact VR.ptr (a := ⟨id, 0, none⟩) rfl h
  | some lc => exact VR.slice (a := ⟨id, 0, none⟩) rfl h (by unfold CapOk; rfl)
/-- Operations that lay one new block, and tell its address: the cells that it has. -/
def nOp (P : Program) (ρ : Operand → Value) (o : Oper) : Option (List Value × Option (Nat × Nat)) :=
  match o.op with
  | .alloc t =>
    match P.info? t with
    | some i =>
      match i.zero with
      | some z => if flat z then some (z.cells.toList, none) else none
      | none => none
    | none => none
  | .box _ x => some ((ρ x).cells.toList, none)
  | .buildSlice t n ps =>
    match oRow P t n (ps.map fun (i, x) => (i, ρ x)) with
    | some (cs, l, c) => some (cs, some (l, c))
    | none => none
  | .makeSlice t l c =>
    match oMake P t (ρ l) (ρ c) with
    | some (cs, l, c) => some (cs, some (l, c))
    | none => none
  | _ => none
theorem nOp_ok {P : Program} {s : Ren} {ρ ρ' : Operand → Value} {o : Oper} (hρ : ∀ x ∈ o.op.operands, VR s (ρ x) (ρ' x)) {cs : List Value} {x : Option (Nat × Nat)} (hr : nOp P ρ o = some (cs, x)) (w : World) :
    ∃ (arr : Array Value) (T : TypeId), (execOp ρ' o).run P w = .ok (.value (mkNew w.heap.size x)) (w.alloc (.cells arr T)) ∧ LR s cs arr.toList := by
  obtain ⟨dst, op, type, pos, after, guard⟩ := o
  unfold nOp at hr
  simp only at hr hρ
  cases op
  case alloc t =>
    simp only at hr
    split at hr
    · rename_i i hi
      split at hr
      · rename_i z hz
        split at hr
        · rename_i hf
          cases hr
          exact ⟨z.cells, t, by simp [execOp, Instr.alloc, run_zero hi hz, run_newVar, mkNew], (VR.same (s := s) hf).cells⟩
        · cases hr
      · cases hr
    · cases hr
  case box t x =>
    cases hr
    exact ⟨(ρ' x).cells, t, by simp [execOp, Instr.box, run_newVar, mkNew], (hρ x (by simp [Op.operands])).cells⟩
  case buildSlice t n ps =>
    simp only at hr
    split at hr
    · rename_i cs' l c hrow
      cases hr
      obtain ⟨arr, T, h1, h2⟩ := row_ok (parts_ok (ρ' := ρ') fun x hx => hρ x (by simp only [Op.operands]; simpa using hx)) hrow w
      exact ⟨arr, T, by simp only [execOp, Sem.run_bind, h1, Result.andThen_ok, Sem.run_pure, mkNew], h2⟩
    · cases hr
  case makeSlice t l c =>
    simp only at hr
    split at hr
    · rename_i cs' l' c' hrow
      cases hr
      obtain ⟨arr, T, h1, h2⟩ := make_ok (hρ l (by simp [Op.operands])) (hρ c (by simp [Op.operands])) hrow w
      exact ⟨arr, T, by simp only [execOp, Sem.run_bind, h1, Result.andThen_ok, Sem.run_pure, mkNew], h2⟩
    · cases hr
  all_goals cases hr

def aOp (P : Program) : OpFn := fun ρ o h =>
  match nOp P ρ o with
  | some (cs, x) => some (.value (mkNew h.length x), h ++ [⟨true, none, cs⟩], none)
  | none =>
    match o.op with
    | .store t x y => oStore P t (ρ x) (ρ y) h
    | .slice t x lo hi none =>
      match sOp P ρ o h with
      | some r => some r
      | none => oSliceEnd P t (ρ x) (lo.map ρ) (hi.map ρ) h
    | .makeMap _ x => oMakeMap (x.map ρ) h
    | .mapUpdate t m x y => oMapUpdate P t (ρ m) (ρ x) (ρ y) h
    | .insert t m x y => oMapUpdate P t (ρ m) (ρ x) (ρ y) h
    | .convert a b x =>
      match oFromStr P a b (ρ x) h with
      | some r => some r
      | none => sOp P ρ o h
    | .call c =>
      match c.callee, c.args.toList with
      | .builtin .append, [a, b] =>
        match oAppend P c.argTypes (ρ a) (ρ b) h with
        | some r => some r
        | none => sOp P ρ o h
      | .builtin .copy, [a, b] =>
        match oCopy P c.argTypes (ρ a) (ρ b) h with
        | some r => some r
        | none => sOp P ρ o h
      | _, _ => sOp P ρ o h
    | _ => sOp P ρ o h
theorem args_two {c : Call} {a b : Operand} (h : c.args.toList = [a, b]) (ρ : Operand → Value) : c.args.map ρ = #[ρ a, ρ b] := by
  apply Array.ext'
  rw [Array.toList_map, h]
  rfl
theorem aOp_ok (P : Program) (hng : NoNG P) : OpOk P (aOp P) := by
  intro wb k s h w ρ ρ' o r H hρ hr hm
  have hS := fun h2 => (sOp_ok P hng s h w ρ ρ' o r H.mr hρ h2).okay H
  unfold aOp at hr
  split at hr
  · rename_i cs x hn
    cases hr
    obtain ⟨arr, T, h1, h2⟩ := nOp_ok hρ hn w
    obtain ⟨H', hle⟩ := H.new cs arr T none rfl (by have := h2.1; simp at this; omega) (fun o v hv => by
      obtain ⟨y, hy, hvy⟩ := h2.get hv
      exact ⟨y, by rw [← Array.getElem?_toList]; exact hy, hvy⟩)
    exact ⟨_, _, _, h1, hle, H', mkNew_ok (upd_same _ _ _) x⟩
  · obtain ⟨dst, op, type, pos, after, guard⟩ := o
    split at hr
    · rename_i t x y ho
      simp only at ho hρ
      subst ho
      exact store_ok H (hρ x (by simp [Op.operands])) (hρ y (by simp [Op.operands])) hr hm
    · rename_i t x lo hi ho
      simp only at ho hρ
      subst ho
      split at hr
      · rename_i r' hl
        cases hr
        exact hS hl
      · refine sliceEnd_ok H (hρ x (by simp [Op.operands])) ?_ ?_ hr hm
        · cases lo with
          | none => trivial
          | some y => exact hρ y (by simp [Op.operands])
        · cases hi with
          | none => trivial
          | some y => exact hρ y (by simp [Op.operands])
    · rename_i t x ho
      simp only at ho hρ
      subst ho
      refine makeMap_ok H ?_ hr
      cases x with
      | none => trivial
      | some y => exact hρ y (by simp [Op.operands])
    · rename_i t x y z ho
      simp only at ho hρ
      subst ho
      exact mapUpdate_ok H (hρ x (by simp [Op.operands])) (hρ y (by simp [Op.operands])) (hρ z (by simp [Op.operands])) hr hm
    · rename_i t x y z ho
      simp only at ho hρ
      subst ho
      exact mapUpdate_ok H (hρ x (by simp [Op.operands])) (hρ y (by simp [Op.operands])) (hρ z (by simp [Op.operands])) hr hm
    · rename_i a b x ho
      simp only at ho hρ
      subst ho
      split at hr
      · rename_i r' hl
        cases hr
        exact fromStr_ok H (hρ x (by simp [Op.operands])) hl
      · exact hS hr
    · rename_i c ho
      simp only at ho hρ
      subst ho
      split at hr
      · rename_i a b hcal hargs
        have hva : VR s (ρ a) (ρ' a) := hρ a (by
          have : a ∈ c.args := by rw [← Array.mem_toList_iff, hargs]; simp
          simp [Op.operands, Call.operands, this])
        have hvb : VR s (ρ b) (ρ' b) := hρ b (by
          have : b ∈ c.args := by rw [← Array.mem_toList_iff, hargs]; simp
          simp [Op.operands, Call.operands, this])
        split at hr
        · rename_i r' hl
          cases hr
          have := append_ok (ty := type) H hva hvb hl hm
          simp only [execOp, resolve, hcal, args_two hargs, invoke, builtin, pure_bind]
          exact this
        · exact hS hr
      · rename_i a b hcal hargs
        have hva : VR s (ρ a) (ρ' a) := hρ a (by
          have : a ∈ c.args := by rw [← Array.mem_toList_iff, hargs]; simp
          simp [Op.operands, Call.operands, this])
        have hvb : VR s (ρ b) (ρ' b) := hρ b (by
          have : b ∈ c.args := by rw [← Array.mem_toList_iff, hargs]; simp
          simp [Op.operands, Call.operands, this])
        split at hr
        · rename_i r' hl
          cases hr
          have := copy_ok (ty := type) H hva hvb hl hm
          simp only [execOp, resolve, hcal, args_two hargs, invoke, builtin, pure_bind]
          exact this
        · exact hS hr
      · exact hS hr
    · exact hS hr

end Go.Proofs.YtokeopmmnpmfeaaDoor.Ex
end
section
namespace Go.Proofs.YtokeopmmnpmfeaaDoor.Ex
set_option maxRecDepth 20000

open Go Go.RowKit

/-! Values whose addresses are below a bound. -/
def blw0 (n : Nat) : Value → Bool
  | .pointer (some a) => decide (a.block < n)
  | .slice (some a) _ _ => decide (a.block < n)
  | .map (some r) => decide (r < n)
  | v => scal v
def blw1 (n : Nat) : Value → Bool
  | .agg cs => cs.toList.all (blw0 n)
  | .func (.func _) a b => a.toList.all (blw0 n) && b.toList.all (blw0 n)
  | .iface _ v => blw0 n v
  | v => blw0 n v
theorem blw1_of_blw0 {n : Nat} {v : Value} (h : blw0 n v = true) : blw1 n v = true := by
  cases v with
  | agg cs => simp [blw0, scal] at h
  | func f a b =>
    cases f with
    | func g => 
      obtain ⟨a⟩ := a
      obtain ⟨b⟩ := b
      simp [blw0, scal] at h
      obtain ⟨rfl, rfl⟩ := h
      rfl
    | _ => simp [blw0, scal] at h
  | iface t v => simp [blw0, scal] at h
  | _ => exact h
theorem VR.blw {s t : Ren} {n : Nat} (hst : ∀ i, i < n → s i = t i) {v v' : Value} (h : VR s v v') : blw1 n v = true → VR t v v' := by
  induction h with
  | same h => exact fun _ => .same h
  | ptr hs hp => exact fun h => .ptr hs (by rw [← hst _ (by simpa [blw1, blw0] using h)]; exact hp)
  | slice hs hp hc => exact fun h => .slice hs (by rw [← hst _ (by simpa [blw1, blw0] using h)]; exact hp) hc
  | agg hl _ ih => exact fun h => .agg hl fun i x y hx hy => ih i x y hx hy (blw1_of_blw0 (all_get (by simpa [blw1] using h) hx))
  | tuple hl _ ih => intro h; simp [blw1, blw0, scal] at h
  | func hl _ hl' _ ih ih' =>
    intro h
    simp only [blw1, Bool.and_eq_true] at h
    exact .func hl (fun i x y hx hy => ih i x y hx hy (blw1_of_blw0 (all_get h.1 hx))) hl' fun i x y hx hy => ih' i x y hx hy (blw1_of_blw0 (all_get h.2 hx))
  | iface _ ih => exact fun h => .iface (ih (blw1_of_blw0 (by simpa [blw1] using h)))
  | map hp => exact fun h => .map (by rw [← hst _ (by simpa [blw1, blw0] using h)]; exact hp)
theorem LR.blw {s t : Ren} {n : Nat} (hst : ∀ i, i < n → s i = t i) {xs ys : List Value} (h : LR s xs ys) (hb : xs.all (blw1 n) = true) : LR t xs ys :=
  ⟨h.1, fun i x y hx hy => (h.2 i x y hx hy).blw hst (all_get hb hx)⟩

/-! Values that hold no other addresses than such. -/
def refF (ok : Nat → Bool) : Nat → Value → Bool
  | 0, v => scal v
  | n + 1, v =>
    match v with
    | .pointer (some a) => ok a.block
    | .slice (some a) _ _ => ok a.block
    | .map (some r) => ok r
    | .agg cs => cs.toList.all (refF ok n)
    | .tuple cs => cs.toList.all (refF ok n)
    | .iface _ v => refF ok n v
    | .func (.func _) a b => a.toList.all (refF ok n) && b.toList.all (refF ok n)
    | v => scal v
theorem VR.refs {s t : Ren} {ok : Nat → Bool} (hst : ∀ i, ok i = true → s i = t i) : ∀ (n : Nat) {v v' : Value}, VR s v v' → refF ok n v = true → VR t v v'
  | 0, v, v', h, hr => by
    have hf : flat v = true := flat_of_scal hr
    rw [h.eq_of_flat hf]
    exact .same hf
  | n + 1, v, v', h, hr => by
    have ih := fun {v v' : Value} => VR.refs hst n (v := v) (v' := v')
    cases h with
    | same h => exact .same h
    | ptr hs hp => exact .ptr hs (by rw [← hst _ hr]; exact hp)
    | slice hs hp hc => exact .slice hs (by rw [← hst _ hr]; exact hp) hc
    | agg hl hh => exact .agg hl fun i x y hx hy => ih (hh i x y hx hy) (all_get hr hx)
    | tuple hl hh => exact .tuple hl fun i x y hx hy => ih (hh i x y hx hy) (all_get hr hx)
    | func hl hh hl' hh' =>
      simp only [refF, Bool.and_eq_true] at hr
      exact .func hl (fun i x y hx hy => ih (hh i x y hx hy) (all_get hr.1 hx)) hl' fun i x y hx hy => ih (hh' i x y hx hy) (all_get hr.2 hx)
    | iface h => exact .iface (ih h hr)
    | map hp => exact .map (by rw [← hst _ hr]; exact hp)
theorem LR.refs {s t : Ren} {ok : Nat → Bool} (hst : ∀ i, ok i = true → s i = t i) (n : Nat) {xs ys : List Value} (h : LR s xs ys) (hb : xs.all (refF ok n) = true) : LR t xs ys :=
  ⟨h.1, fun i x y hx hy => (h.2 i x y hx hy).refs hst n (all_get hb hx)⟩
def refO (ok : Nat → Bool) (o : AO) : Bool := !o.live || o.cs.all (refF ok 6)
theorem ObjAt.refs {s t : Ren} {ok : Nat → Bool} (hst : ∀ i, ok i = true → s i = t i) {p : Pl} {o : AO} {w : World} (h : ObjAt s p o w) (hb : o.cs.all (refF ok 6) = true) : ObjAt t p o w :=
  ⟨fun hm => let ⟨cs', h1, h2⟩ := h.1 hm; ⟨cs', h1.refs hst 6 hb, h2⟩, fun hm => let B := h.2 hm
    ⟨B.fit, B.all, B.shp, B.free, fun o v hv => let ⟨v', h1, h2⟩ := B.rel o v hv; ⟨v', h1, h2.refs hst 6 (all_get hb hv)⟩⟩⟩

/-! Blocks laid one behind the other. -/
def layL (h : List AO) (q : Nat) (bs : List AO) : List AO := h.take q ++ bs ++ h.drop (q + bs.length)
theorem layL_length {h bs : List AO} {q : Nat} (hf : q + bs.length ≤ h.length) : (layL h q bs).length = h.length := by simp [layL]; omega
theorem layL_get {h bs : List AO} {q : Nat} (hf : q + bs.length ≤ h.length) (x : Nat) : (layL h q bs)[x]? = if q ≤ x ∧ x < q + bs.length then bs[x - q]? else h[x]? := by
  unfold layL
  by_cases h1 : x < q
  · rw [if_neg (by omega), List.append_assoc, List.getElem?_append_left (by simp; omega), List.getElem?_take, if_pos h1]
  · by_cases h2 : x < q + bs.length
    · rw [if_pos ⟨by omega, h2⟩, List.append_assoc, List.getElem?_append_right (by simp; omega), List.getElem?_append_left (by simp; omega)]
      congr 1
      simp; omega
    · rw [if_neg (by omega), List.getElem?_append_right (by simp; omega), List.getElem?_drop]
      congr 1
      simp; omega
theorem layL_one {h : List AO} {q : Nat} (hq : q < h.length) (o : AO) : layL h q [o] = h.set q o := by
  apply List.ext_getElem?
  intro x
  rw [layL_get (by simp; omega), List.getElem?_set]
  by_cases e : q = x
  · subst e; simp [hq]
  · rw [if_neg (by simp; omega), if_neg e]

/-! Places that are laid later. -/
theorem HR.fillO {wb : Wb} {k : Nat} {s : Ren} {h : List AO} {w : World} (H : HR wb k s h w) {q : Nat} (hq : s q = none) (hql : q < h.length) (hk : k ≤ q) (ao : AO) (ob : Obj) (tot : Nat) (hes : ao.es ≠ some GM)
    (hob : ObjAt (upd s q ⟨w.heap.size, 0, tot, ao.es⟩) ⟨w.heap.size, 0, tot, ao.es⟩ ao (w.alloc ob)) :
    HR wb k (upd s q ⟨w.heap.size, 0, tot, ao.es⟩) (h.set q ao) (w.alloc ob) ∧ Le s (upd s q ⟨w.heap.size, 0, tot, ao.es⟩) := by
  have hle := Le.upd (s := s) (i := q) ⟨w.heap.size, 0, tot, ao.es⟩ hq
  have g : Gr w (w.alloc ob) := (Gr.refl w).allocO _
  have hwb : wb.w.heap.size ≤ w.heap.size := H.grown.2.2
  have old : ∀ (i : Nat) (a : AO), i ≠ q → (h.set q ao)[i]? = some a → h[i]? = some a := by
    intro i a e ho
    rwa [List.getElem?_set, if_neg (Ne.symm e)] at ho
  refine ⟨⟨GrB.trans H.grown g, by simpa using H.kle, fun i hi => ?_, fun i p hp => ?_, fun i o ho hl => ?_, fun i j a b p r hi hj ha hb hp hr' e => ?_, fun i p hp hg => ?_⟩, hle⟩
  · simp at hi
    rw [upd_other _ _ (by omega)]
    exact H.dom i hi
  · by_cases e : i = q
    · subst e
      rw [upd_same] at hp
      cases hp
      exact ⟨fun hlt => absurd hk (by omega), fun _ => .inl hwb, by simp⟩
    · rw [upd_other _ _ e] at hp
      obtain ⟨a, b, c⟩ := H.plc i p hp
      exact ⟨a, b, by simp; omega⟩
  · by_cases e : i = q
    · subst e
      rw [List.getElem?_set, if_pos rfl, if_pos hql] at ho
      cases ho
      exact ⟨_, upd_same _ _ _, rfl, hob⟩
    · have ho := old i o e ho
      obtain ⟨p, hp, he, hb⟩ := H.obj i o ho hl
      exact ⟨p, by rw [upd_other _ _ e]; exact hp, he, (hb.grown (H.plc i p hp).2.2 g).mono hle⟩
  · by_cases ei : i = q
    · by_cases ej : j = q
      · omega
      · subst ei
        rw [upd_same] at hp
        cases hp
        rw [upd_other _ _ ej] at hr'
        have := (H.plc j r hr').2.2
        simp at e
        omega
    · rw [upd_other _ _ ei] at hp
      by_cases ej : j = q
      · subst ej
        rw [upd_same] at hr'
        cases hr'
        have := (H.plc i p hp).2.2
        simp at e
        omega
      · rw [upd_other _ _ ej] at hr'
        exact H.sep i j a b p r (old i a ei hi) (old j b ej hj) ha hb hp hr' e
  · by_cases e : i = q
    · subst e
      rw [upd_same] at hp
      cases hp
      exact absurd hg hes
    · rw [upd_other _ _ e] at hp
      exact H.gl i p hp hg
/-- A block whose capacity may not be known. -/
theorem HR.fillF {wb : Wb} {k : Nat} {s : Ren} {h : List AO} {w : World} (H : HR wb k s h w) {q : Nat} (hq : s q = none) (hql : q < h.length) (hk : k ≤ q) {cs : List Value} {arr : Array Value} (T : TypeId) (es : Option Nat) (hes : isW ⟨true, es, cs⟩ = true) (fz : Nat × Nat)
    (hfz : ∀ o, o < arr.size → ¬ (fz.1 ≤ o ∧ o < fz.2)) (hn : cs.length ≤ arr.size) (hr : ∀ (o : Nat) (v : Value), cs[o]? = some v → ∃ v', arr[o]? = some v' ∧ VR s v v') :
    HR wb k (upd s q ⟨w.heap.size, 0, arr.size, es⟩) (h.set q ⟨true, es, cs⟩) (w.alloc (.cells arr T fz)) ∧ Le s (upd s q ⟨w.heap.size, 0, arr.size, es⟩) := by
  have hle := Le.upd (s := s) (i := q) ⟨w.heap.size, 0, arr.size, es⟩ hq
  refine H.fillO hq hql hk ⟨true, es, cs⟩ (.cells arr T fz) arr.size (isW_spec hes).2 (ObjAt.block (isW_spec hes).1 ⟨by simpa using hn, fun o ho => ?_, ⟨T, ?_⟩, fun _ o h1 h2 _ => ?_, fun o v hv => ?_⟩)
  · have ho' : o < arr.size := ho
    rw [World.cell?_alloc_mark]
    simpa using ho'
  · simp only [World.alloc, World.shape?, Array.getElem?_push_size]
  · rw [show (w.alloc (.cells arr T fz)) = w.alloc (.cells arr T (fz.1, fz.2)) from rfl, World.frozen?_alloc_mark]
    have := hfz o h2
    simp only [Bool.and_eq_false_imp, decide_eq_true_eq, decide_eq_false_iff_not]
    exact fun g1 g2 => this ⟨g1, g2⟩
  · obtain ⟨v', h1, h2⟩ := hr o v hv
    exact ⟨v', by rw [World.cell?_alloc_mark]; simpa using h1, h2.mono hle⟩
theorem HR.fill {wb : Wb} {k : Nat} {s : Ren} {h : List AO} {w : World} (H : HR wb k s h w) {q : Nat} (hq : s q = none) (hql : q < h.length) (hk : k ≤ q) {cs : List Value} {arr : Array Value} (T : TypeId) (hr : LR s cs arr.toList) :
    HR wb k (upd s q ⟨w.heap.size, 0, arr.size, none⟩) (h.set q ⟨true, none, cs⟩) (w.alloc (.cells arr T)) ∧ Le s (upd s q ⟨w.heap.size, 0, arr.size, none⟩) :=
  H.fillF hq hql hk T none rfl (0, 0) (fun o _ h => by have := h.2; simp at this) (by have := hr.1; simp at this; omega) fun o v hv => by
    obtain ⟨y, hy, hvy⟩ := hr.get hv
    exact ⟨y, by rw [← Array.getElem?_toList]; exact hy, hvy⟩

/-- Blocks that a call has laid, at places that are free. -/
theorem HR.layNew {wb : Wb} {k : Nat} {s : Ren} {h : List AO} {w : World} (H : HR wb k s h w) {q : Nat} {bs : List AO} (hfit : q + bs.length ≤ h.length) (hk : k ≤ q) (hfree : ∀ x, q ≤ x → x < q + bs.length → s x = none)
    {s1 : Ren} {h1 : List AO} {w' : World} (H1 : HR w q s1 h1 w') (hh1 : ∀ x o, bs[x]? = some o → h1[q + x]? = some o) {old : Nat → Bool} (hlo : ∀ x, old x = true → x < q) (hold : ∀ x, old x = true → s1 x = s x)
    (hrb : bs.all (refO fun x => old x || (decide (q ≤ x) && decide (x < q + bs.length))) = true) :
    HR wb k (fun x => if q ≤ x ∧ x < q + bs.length then s1 x else s x) (layL h q bs) w' ∧ Le s (fun x => if q ≤ x ∧ x < q + bs.length then s1 x else s x) ∧
      ∀ x, (old x || (decide (q ≤ x) && decide (x < q + bs.length))) = true → s1 x = (fun x => if q ≤ x ∧ x < q + bs.length then s1 x else s x) x := by
  have hle : Le s (fun x => if q ≤ x ∧ x < q + bs.length then s1 x else s x) := fun x p hp => by
    by_cases e : q ≤ x ∧ x < q + bs.length
    · rw [hfree x e.1 e.2] at hp; cases hp
    · simp only [if_neg e]; exact hp
  have hok : ∀ x, (old x || (decide (q ≤ x) && decide (x < q + bs.length))) = true → s1 x = (fun x => if q ≤ x ∧ x < q + bs.length then s1 x else s x) x := fun x hx => by
    simp only [Bool.or_eq_true, Bool.and_eq_true, decide_eq_true_eq] at hx
    rcases hx with hx | hx
    · have := hlo x hx
      simp only [if_neg (show ¬ (q ≤ x ∧ x < q + bs.length) by omega)]; exact hold x hx
    · simp only [if_pos hx]
  have g : Gr w w' := H1.grown.gr
  have hwb : wb.w.heap.size ≤ w.heap.size := H.grown.2.2
  have newAt : ∀ x o, q ≤ x ∧ x < q + bs.length → (layL h q bs)[x]? = some o → h1[x]? = some o ∧ bs[x - q]? = some o := by
    intro x o hx ho
    rw [layL_get hfit, if_pos hx] at ho
    have := hh1 _ _ ho
    rw [show q + (x - q) = x by omega] at this
    exact ⟨this, ho⟩
  have oldAt : ∀ x o, ¬ (q ≤ x ∧ x < q + bs.length) → (layL h q bs)[x]? = some o → h[x]? = some o := by
    intro x o hx ho
    rwa [layL_get hfit, if_neg hx] at ho
  refine ⟨⟨GrB.trans H.grown g, by rw [layL_length hfit]; exact H.kle, fun x hx => ?_, fun x p hp => ?_, fun x o ho hl => ?_, fun x y a b p r hx hy ha hb hp hr e => ?_, fun x p hp hg => ?_⟩, hle, hok⟩
  · rw [layL_length hfit] at hx
    simp only [if_neg (show ¬ (q ≤ x ∧ x < q + bs.length) by omega)]
    exact H.dom x hx
  · by_cases e : q ≤ x ∧ x < q + bs.length
    · simp only [if_pos e] at hp
      obtain ⟨_, b, c⟩ := H1.plc x p hp
      exact ⟨fun hlt => absurd hk (by omega), fun _ => .inl (Nat.le_trans hwb (H1.above hp e.1)), c⟩
    · simp only [if_neg e] at hp
      obtain ⟨a, b, c⟩ := H.plc x p hp
      exact ⟨a, b, Nat.lt_of_lt_of_le c g.2.2⟩
  · by_cases e : q ≤ x ∧ x < q + bs.length
    · obtain ⟨n1, n2⟩ := newAt x o e ho
      obtain ⟨p, hp, he, hb⟩ := H1.obj x o n1 hl
      refine ⟨p, by simp only [if_pos e]; exact hp, he, hb.refs hok ?_⟩
      have := List.all_eq_true.1 hrb o (List.mem_of_getElem? n2)
      simpa [refO, hl] using this
    · obtain ⟨p, hp, he, hb⟩ := H.obj x o (oldAt x o e ho) hl
      exact ⟨p, by simp only [if_neg e]; exact hp, he, (hb.grown (H.plc x p hp).2.2 g).mono hle⟩
  · by_cases ex : q ≤ x ∧ x < q + bs.length
    · simp only [if_pos ex] at hp
      by_cases ey : q ≤ y ∧ y < q + bs.length
      · simp only [if_pos ey] at hr
        exact H1.sep x y a b p r (newAt x a ex hx).1 (newAt y b ey hy).1 ha hb hp hr e
      · simp only [if_neg ey] at hr
        have h2 := H1.above hp ex.1
        have h3 := (H.plc y r hr).2.2
        omega
    · simp only [if_neg ex] at hp
      by_cases ey : q ≤ y ∧ y < q + bs.length
      · simp only [if_pos ey] at hr
        have h2 := H1.above hr ey.1
        have h3 := (H.plc x p hp).2.2
        omega
      · simp only [if_neg ey] at hr
        exact H.sep x y a b p r (oldAt x a ex hx) (oldAt y b ey hy) ha hb hp hr e
  · by_cases e : q ≤ x ∧ x < q + bs.length
    · simp only [if_pos e] at hp
      exact H1.gl x p hp hg
    · simp only [if_neg e] at hp
      exact H.gl x p hp hg

/-! Bytes of a string. -/
def fOp (P : Program) (ρ : Operand → Value) (o : Oper) : Option (AO × Nat) :=
  match o.op with
  | .convert a b x =>
    match oFromStr P a b (ρ x) [] with
    | some (.value (.slice _ l _), [ao], _) => some (ao, l)
    | _ => none
  | _ => none
theorem fOp_ok {P : Program} {s : Ren} {ρ ρ' : Operand → Value} {o : Oper} (hρ : ∀ x ∈ o.op.operands, VR s (ρ x) (ρ' x)) {ao : AO} {l : Nat} (hr : fOp P ρ o = some (ao, l)) (w : World) :
    ∃ (arr : Array Value) (e : TypeId), ao.live = true ∧ ao.es = some 1 ∧ ao.cs.length ≤ arr.size ∧ l ≤ arr.size ∧ (∀ (o : Nat) (v : Value), ao.cs[o]? = some v → arr[o]? = some v ∧ flat v = true) ∧
      (execOp ρ' o).run P w = .ok (.value (.slice (some ⟨w.heap.size, 0, none⟩) l arr.size)) (w.drew.alloc (.cells arr e (arr.size, arr.size + 1))) := by
  obtain ⟨dst, op, type, pos, after, guard⟩ := o
  unfold fOp at hr
  simp only at hr hρ
  cases op
  case convert src dst x =>
    simp only at hr
    split at hr
    · rename_i p l' c' ao' m ho
      cases hr
      have hx := hρ x (by simp [Op.operands])
      unfold oFromStr at ho
      split at ho
      · rename_i e b hsu hdu hbx
        rw [hbx] at hx
        split at ho
        · rename_i heu
          simp only [List.length_nil, List.nil_append, Option.some.injEq, Prod.mk.injEq, Next.value.injEq, Value.slice.injEq, List.cons.injEq, and_true] at ho
          obtain ⟨⟨_, hl, _⟩, hao, _⟩ := ho
          subst hl
          subst hao
          let q := Question.appendCap b.size 0 e
          let c := q.cut (w.tape w.drawn q)
          have hc : b.size ≤ c := by
            show b.size ≤ b.size + (w.tape w.drawn q) % (2 ^ 63 - b.size)
            omega
          have hch : (choose (.appendCap b.size 0 e)).run P w = .ok c w.drew := by
            show (Sem.choose q .pure).run P w = _
            simp only [Sem.run]
            rw [if_neg (by simp [q, Question.forced])]
            rfl
          let cells : Array Value := b.data.map fun c => Value.int .u8 c.toNat
          let arr : Array Value := cells ++ Array.replicate (c - b.size) (.int .u8 0)
          have hbs : cells.size = b.size := by simp [cells]
          have hsz : arr.size = c := by simp only [arr, Array.size_append, hbs, Array.size_replicate]; omega
          have hcl : (b.data.toList.map fun c => Value.int .u8 c.toNat) = cells.toList := (Array.toList_map ..).symm
          have hflat : cells.toList.all flat = true := by
            simp only [cells, Array.toList_map]
            exact List.all_eq_true.2 fun v hv => by obtain ⟨n, _, rfl⟩ := List.mem_map.1 hv; rfl
          refine ⟨arr, e, rfl, rfl, ?_, by omega, fun o v hv => ?_, ?_⟩
          · show (b.data.toList.map fun c => Value.int .u8 c.toNat).length ≤ _
            rw [hcl, Array.length_toList]
            omega
          · have hv' : cells.toList[o]? = some v := by rw [← hcl]; exact hv
            refine ⟨?_, all_get hflat hv'⟩
            rw [← Array.getElem?_toList]
            simp only [arr, Array.toList_append]
            rw [List.getElem?_append_left (List.getElem?_eq_some_iff.1 hv').1]
            exact hv'
          · have hfr : (w.drew.alloc (.cells arr e)).freeze ⟨w.heap.size, arr.size, none⟩ 1 = w.drew.alloc (.cells arr e (arr.size, arr.size + 1)) := by
              have e1 : (w.drew.alloc (.cells arr e)).heap = w.heap.push (.cells arr e) := rfl
              unfold World.freeze
              rw [if_neg (by omega)]
              show ({ (w.drew.alloc (.cells arr e)) with heap := _ } : World) = _
              rw [e1]
              have e2 : ∀ (f : Obj → Obj) (o : Obj), (w.heap.push o).modify w.heap.size f = w.heap.push (f o) := by
                intro f o
                apply Array.ext_getElem?
                intro j
                rw [Array.getElem?_modify]
                by_cases ej : w.heap.size = j
                · subst ej; simp
                · rw [if_neg ej, Array.getElem?_push, Array.getElem?_push, if_neg (Ne.symm ej), if_neg (Ne.symm ej)]
              rw [e2]
              rfl
            have hsh : (w.drew.alloc (.cells arr e)).shape? w.heap.size = some (e, arr.size) := by
              show World.shape? (w.alloc (.cells arr e)) w.heap.size = _
              simp only [World.alloc, World.shape?, Array.getElem?_push_size]
            have hmk : (markStringish ⟨w.heap.size, 0, none⟩).run P (w.drew.alloc (.cells arr e)) = .ok () (w.drew.alloc (.cells arr e (arr.size, arr.size + 1))) := by
              rw [← hfr]
              simp only [markStringish, shape, freeze, Sem.run_bind, Sem.run, hsh, Result.andThen_ok]
            have hnr : (newRow e arr).run P w.drew = .ok ⟨w.heap.size, 0, none⟩ (w.drew.alloc (.cells arr e)) := rfl
            have hx' := hx.string_inv
            show (aval (convert src dst (ρ' x))).run P w = _
            rw [hx', hsz]
            simp only [aval, convert, Conv.stringToBytes, Sem.run_bind, run_under hsu, run_under hdu, run_under heu, Result.andThen_ok, hch]
            simp only [arr, cells] at hnr hmk ⊢
            simp only [hnr, Result.andThen_ok, hmk, Sem.run_pure]
            have hsz' := hsz
            simp only [arr, cells] at hsz'
            rw [hsz']
        · cases ho
      · cases ho
    · cases hr
  all_goals cases hr

/-! The head: one operation, and all of them in the text's order. -/
/-- What an operation reads of memory: nothing, some cells, or what it will. -/
inductive Rd where
  | none
  | cells (a : Addr) (n : Nat)
  | any
/-- An argument that holds an address of a block that is there, or that the head lays. -/
def newArg (n nid : Nat) (v : Value) : Bool :=
  match v with
  | .slice (some a) _ _ => decide (a.block < nid)
  | .pointer (some a) => decide (a.block < nid)
  | v => blw1 n v
def ment (x : Nat) (v : Value) : Bool :=
  match v with
  | .slice (some a) _ _ => Nat.beq a.block x
  | .pointer (some a) => Nat.beq a.block x
  | _ => false
/-- The head's new blocks that arguments hold the address of; others are given up. -/
def padL (args : List Value) : Nat → List AO → List AO
  | _, [] => []
  | x, o :: l => (if args.any (ment x) && o.cs.all flat && !isM o then o else dead) :: padL args (x + 1) l
theorem padL_length (args : List Value) : ∀ (x : Nat) (l : List AO), (padL args x l).length = l.length
  | _, [] => rfl
  | x, o :: l => by simp [padL, padL_length args (x + 1) l]
theorem padL_get {args : List Value} : ∀ {x : Nat} {l : List AO} {y : Nat} {o : AO}, (padL args x l)[y]? = some o → o.live = true → l[y]? = some o ∧ args.any (ment (x + y)) = true ∧ o.cs.all flat = true ∧ isM o = false
  | _, [], y, o, h, _ => by simp [padL] at h
  | x, q :: l, 0, o, h, hl => by
    simp only [padL, List.getElem?_cons_zero, Option.some.injEq] at h
    split at h
    · rename_i hc
      subst h
      simp only [Bool.and_eq_true, Bool.not_eq_true'] at hc
      exact ⟨rfl, hc.1.1, hc.1.2, hc.2⟩
    · subst h; cases hl
  | x, q :: l, y + 1, o, h, hl => by
    simp only [padL, List.getElem?_cons_succ] at h
    have := padL_get h hl
    rw [show x + 1 + y = x + (y + 1) by omega] at this
    simpa using this
theorem ment_some {s : Ren} {x : Nat} {v v' : Value} (h : VR s v v') (hm : ment x v = true) : ∃ p, s x = some p := by
  unfold ment at hm
  split at hm
  · obtain ⟨p, _, _, hp, _⟩ := h.slice_inv
    obtain rfl := Nat.eq_of_beq_eq_true hm
    exact ⟨p, hp⟩
  · obtain ⟨p, _, hp, _⟩ := h.ptr_inv
    obtain rfl := Nat.eq_of_beq_eq_true hm
    exact ⟨p, hp⟩
  · cases hm
theorem ments_some {s : Ren} {x : Nat} {vs vs' : List Value} (h : LR s vs vs') (hm : vs.any (ment x) = true) : ∃ p, s x = some p := by
  obtain ⟨v, hv, hx⟩ := List.any_eq_true.1 hm
  obtain ⟨i, hi, e⟩ := List.getElem_of_mem hv
  obtain ⟨v', _, hr⟩ := h.get (List.getElem?_eq_getElem hi)
  rw [e] at hr
  exact ment_some hr hx
theorem newArg_ok {s t : Ren} {n nid : Nat} (hn : n ≤ nid) (hst : ∀ i, i < nid → s i = t i) {v v' : Value} (h : VR s v v') (hb : newArg n nid v = true) : VR t v v' := by
  unfold newArg at hb
  split at hb
  · obtain ⟨p, c', hs, hp, hc, rfl⟩ := h.slice_inv
    exact .slice hs (by rw [← hst _ (by simpa using hb)]; exact hp) hc
  · obtain ⟨p, hs, hp, rfl⟩ := h.ptr_inv
    exact .ptr hs (by rw [← hst _ (by simpa using hb)]; exact hp)
  · exact h.blw (fun i hi => hst i (by omega)) hb
theorem newArgs_ok {s t : Ren} {n nid : Nat} (hn : n ≤ nid) (hst : ∀ i, i < nid → s i = t i) {vs vs' : List Value} (h : LR s vs vs') (hb : vs.all (newArg n nid) = true) : LR t vs vs' :=
  ⟨h.1, fun i x y hx hy => newArg_ok hn hst (h.2 i x y hx hy) (all_get hb hx)⟩
/-- What is told of old blocks and of some new ones together. -/
theorem HR.both {wb : Wb} {k : Nat} {s s0 : Ren} {h h0 pad : List AO} {w : World} (H : HR wb k s h w) (H1 : HR wb k s0 h0 w) (hbel : ∀ i, i < h0.length → s i = s0 i)
    (hlv : ∀ (x : Nat) (o : AO), h0[x]? = some o → o.live = true → ∃ o', h[x]? = some o' ∧ o'.live = true)
    (hpad : ∀ (y : Nat) (o : AO), pad[y]? = some o → o.live = true → h[h0.length + y]? = some o ∧ o.cs.all flat = true ∧ isM o = false) :
    HR wb k (fun i => if i < h0.length + pad.length then s i else none) (h0 ++ pad) w := by
  have some_s : ∀ i p, (if i < h0.length + pad.length then s i else none) = some p → s i = some p := fun i p hp => by
    split at hp
    · exact hp
    · cases hp
  have le0 : Le s0 (fun i => if i < h0.length + pad.length then s i else none) := fun i p hp => by
    have hi : i < h0.length := by
      by_cases e : i < h0.length
      · exact e
      · rw [H1.dom i (by omega)] at hp; cases hp
    show (if i < h0.length + pad.length then s i else none) = some p
    rw [if_pos (by omega), hbel i hi]
    exact hp
  have at' : ∀ (i : Nat) (o : AO), (h0 ++ pad)[i]? = some o → o.live = true → i < h0.length + pad.length ∧ ∃ o', h[i]? = some o' ∧ o'.live = true := by
    intro i o ho hl
    have hi := (List.getElem?_eq_some_iff.1 ho).1
    rw [List.length_append] at hi
    refine ⟨hi, ?_⟩
    by_cases e : i < h0.length
    · rw [List.getElem?_append_left e] at ho
      exact hlv i o ho hl
    · rw [List.getElem?_append_right (by omega)] at ho
      have := (hpad _ o ho hl).1
      rw [show h0.length + (i - h0.length) = i by omega] at this
      exact ⟨o, this, hl⟩
  refine ⟨H.grown, by rw [List.length_append]; have := H1.kle; omega, fun i hi => by rw [List.length_append] at hi; exact if_neg (by omega), fun i p hp => H.plc i p (some_s i p hp), fun i o ho hl => ?_, fun i j a b p q hi hj ha hb hp hq e => ?_, fun g p hp => H.gl g p (some_s g p hp)⟩
  · by_cases e : i < h0.length
    · rw [List.getElem?_append_left e] at ho
      obtain ⟨p, hp, he, hb⟩ := H1.obj i o ho hl
      exact ⟨p, le0 i p hp, he, hb.mono le0⟩
    · have hi := (at' i o ho hl).1
      rw [List.getElem?_append_right (by omega)] at ho
      obtain ⟨h1, h2, h3⟩ := hpad _ o ho hl
      rw [show h0.length + (i - h0.length) = i by omega] at h1
      obtain ⟨p, hp, he, hb⟩ := H.obj i o h1 hl
      refine ⟨p, by show (if i < h0.length + pad.length then s i else none) = some p; rw [if_pos hi]; exact hp, he, ObjAt.block h3 ?_⟩
      have B := hb.2 h3
      exact ⟨B.fit, B.all, B.shp, B.free, fun x v hv => by
        obtain ⟨v', h4, h5⟩ := B.rel x v hv
        have hf := all_get h2 hv
        exact ⟨v', h4, by rw [h5.eq_of_flat hf]; exact .same hf⟩⟩
  · obtain ⟨_, a', ha1, ha2⟩ := at' i a hi ha
    obtain ⟨_, b', hb1, hb2⟩ := at' j b hj hb
    exact H.sep i j a' b' p q ha1 hb1 ha2 hb2 (some_s i p hp) (some_s j q hq) e
/-- What an operation of the head does: its value, a block that it lays, numbers that must be the same, cells that it stores, what it reads. -/
structure HE where
  v : Value
  b : List AO
  d : Cs
  st : Option (Addr × List Value)
  rd : Rd
def liveB (h : List AO) (x : Nat) : Bool :=
  match h[x]? with
  | some o => o.live
  | none => false
def storeH (P : Program) (t : TypeId) (x y : Value) (h0 : List AO) : Option (Addr × List Value) :=
  match x, P.info? t with
  | .pointer (some a), some i =>
    if y.cells.toList.length == i.size && y.cells.toList.all (·.oneCell') then
      match h0[a.block]? with
      | some o => if o.live && isW o && decide (a.off + y.cells.toList.length ≤ o.cs.length) then some (a, y.cells.toList) else none
      | none => none
    else none
  | _, _ => none
def loadH (P : Program) (t : TypeId) (x : Value) : Option (Addr × Nat) :=
  match x, P.underlying t, P.info? t with
  | .pointer (some a), some d, some i => some (a, if aggD d then i.size else 1)
  | _, _, _ => none
/-- A slice put behind another one: it may lay a block. -/
def isApp : Op → Bool
  | .call c => (match c.callee with | .builtin .append => true | _ => false)
  | _ => false
/-- Bytes of which it is not known how many there are, made in a head. -/
def bMk (P : Program) (ρ : Operand → Value) (o : Oper) : Option (List Value × (Nat × Nat) × Cs) :=
  match o.op with
  | .makeSlice t len cap =>
    match P.underlying t, ρ len, ρ cap with
    | some (.slice e), .int _ l, .int _ c =>
      match P.info? e with
      | some i =>
        match i.zero with
        | some (.int .u8 n0) =>
          if Nat.beq i.bytes 1 && (Nat.beq i.size 1 && n0 == 0) then
            some (List.replicate c.toNat (.int .u8 0), (l.toNat, c.toNat), [(b2i (decide (0 ≤ l) && (decide (l ≤ c) && decide (c ≤ 1000000))), 1)])
          else none
        | _ => none
      | none => none
    | _, _, _ => none
  | _ => none
theorem bMk_ok {P : Program} {s : Ren} {ρ ρ' : Operand → Value} {o : Oper} (hρ : ∀ x ∈ o.op.operands, VR s (ρ x) (ρ' x)) {cs0 : List Value} {x : Nat × Nat} {cs : Cs} (hr : bMk P ρ o = some (cs0, x, cs)) (hc : ∀ c ∈ cs, c.1 = c.2) (w : World) :
    ∃ (arr : Array Value) (T : TypeId), (execOp ρ' o).run P w = .ok (.value (mkNew w.heap.size (some x))) (w.alloc (.cells arr T)) ∧ LR s cs0 arr.toList := by
  obtain ⟨dst, op, type, pos, after, guard⟩ := o
  unfold bMk at hr
  cases op <;> simp only at hr <;> try (cases hr; done)
  case makeSlice t len cap =>
    have hl := hρ len (by simp [Op.operands])
    have hcp := hρ cap (by simp [Op.operands])
    split at hr
    · rename_i e k1 l k2 c hu hle hca
      split at hr
      · rename_i i hi
        split at hr
        · rename_i n0 hz
          split at hr
          · rename_i hcond
            cases hr
            simp only [Bool.and_eq_true] at hcond
            obtain ⟨g1, g2, g3⟩ := hcond
            have g1 := Nat.eq_of_beq_eq_true g1
            have g2 := Nat.eq_of_beq_eq_true g2
            obtain rfl := eq_of_beq g3
            have h0 : (decide (0 ≤ l) && (decide (l ≤ c) && decide (c ≤ 1000000))) = true := b2i_inj (b := true) (hc _ (List.mem_singleton.2 rfl))
            simp only [Bool.and_eq_true, decide_eq_true_eq] at h0
            obtain ⟨a1, a2, a3⟩ := h0
            have wr : ∀ x : Int, 0 ≤ x → x ≤ 1000000 → IntKind.i64.wrap x = x := by
              intro x h1 h2
              have e : x % 2 ^ 64 = x := by omega
              simp only [IntKind.wrap, IntKind.signed, IntKind.bits, e]
              rw [if_neg]
              simp only [Bool.true_and, decide_eq_true_eq]
              omega
            have ho : oMake P t (ρ len) (ρ cap) = some (List.replicate c.toNat (.int .u8 0), l.toNat, c.toNat) := by
              unfold oMake
              rw [hu, hle, hca]
              simp only
              rw [hi]
              simp only
              rw [if_pos (by
                simp [wr l a1 (by omega), wr c (by omega) a3, a1, a2, g1]
                omega), g2, Nat.mul_one]
              split
              · rename_i hz0
                rw [hz0]; rfl
              · rw [hz]
                simp only
                have e1 : (repeatZ (Value.int .u8 0).cells c.toNat).toList = List.replicate c.toNat (.int .u8 0) := repeatZ_one _ _
                rw [e1, if_pos (List.all_eq_true.2 fun x hx => by rw [List.eq_of_mem_replicate hx]; rfl)]
            obtain ⟨arr, T, e1, e2⟩ := make_ok hl hcp ho w
            exact ⟨arr, T, by simp only [execOp, Sem.run_bind, e1, Result.andThen_ok, Sem.run_pure]; rfl, e2⟩
          · cases hr
        · cases hr
      · cases hr
    · cases hr
/-- A text of bytes that the head itself has laid. -/
def bTx (P : Program) (ρ : Operand → Value) (h0 nl : List AO) (o : Oper) : Option (Value × Cs) :=
  match o.op with
  | .convert _ _ x =>
    match ρ x with
    | .slice (some a) _ _ =>
      if Nat.ble h0.length a.block then
        match nl[a.block - h0.length]? with
        | some b =>
          if b.live && !isM b then
            match bOp P ρ (h0 ++ (List.replicate (a.block - h0.length) dead ++ [b])) o with
            | some (v, [], cs) => if flat v then some (v, (b2i (b.cs.all flat), 1) :: cs) else none
            | _ => none
          else none
        | none => none
      else none
    | _ => none
  | _ => none
theorem bTx_inv {P : Program} {ρ : Operand → Value} {h0 nl : List AO} {o : Oper} {v : Value} {cs : Cs} (h : bTx P ρ h0 nl o = some (v, cs)) :
    ∃ src dst x a l c b cs', o.op = .convert src dst x ∧ ρ x = .slice (some a) l c ∧ h0.length ≤ a.block ∧ nl[a.block - h0.length]? = some b ∧ b.live = true ∧ isM b = false ∧
      bOp P ρ (h0 ++ (List.replicate (a.block - h0.length) dead ++ [b])) o = some (v, [], cs') ∧ flat v = true ∧ cs = (b2i (b.cs.all flat), 1) :: cs' := by
  unfold bTx at h
  split at h
  · rename_i src dst x hop
    split at h
    · rename_i a l c hx
      split at h
      · rename_i hn
        split at h
        · rename_i b hb
          split at h
          · rename_i hlv
            split at h
            · rename_i v' cs' hq
              split at h
              · rename_i hf
                cases h
                simp only [Bool.and_eq_true, Bool.not_eq_true'] at hlv
                exact ⟨src, dst, x, a, l, c, b, cs', hop, hx, Nat.le_of_ble_eq_true hn, hb, hlv.1, hlv.2, hq, hf, rfl⟩
              · cases h
            · cases h
          · cases h
        · cases h
      · cases h
    · cases h
  · cases h
theorem refF_scal {ok : Nat → Bool} : ∀ (n : Nat) {v : Value}, scal v = true → refF ok n v = true
  | 0, _, h => h
  | n + 1, v, h => by
    unfold refF
    split <;> first | exact h | (simp [scal] at h; done) | (simp [scal] at h; obtain ⟨rfl, rfl⟩ := h; rfl)
theorem refO_scal {ok : Nat → Bool} {o : AO} (h : o.cs.all scal = true) : refO ok o = true := by
  unfold refO
  rw [Bool.or_eq_true]
  exact .inr (List.all_eq_true.2 fun v hv => refF_scal 6 (List.all_eq_true.1 h v hv))
/-- What an oracle tells of an operation that only reads. -/
def tellP (u : Option Value) : Option Value :=
  match u with
  | some (.tuple vs) =>
    match vs.toList with
    | [.nilFunc, v] => some v
    | _ => none
  | _ => none
/-- The mark of a call in a head whose arguments and whose answer are flat, but stand still: an oracle says `.tuple [.nilIface, .nilIface, .nilIface]`. -/
def flatM (u : Option Value) : Bool :=
  match u with
  | some (.tuple vs) =>
    match vs.toList with
    | [.nilIface, .nilIface, .nilIface] => true
    | _ => false
  | _ => false
def headStep0 (P : Program) (rec : Rec) (ops : Array Oper) (o : Oper) (t : List Value) (h0 : List AO) (nid : Nat) (nl : List AO) : Option HE :=
  if wantedA ops t o then
    if o.op.operands.toList.all (okX h0) then
      match tellP (o.dst.bind fun d => rec.orc d t) with
      | some v => some ⟨v, [], [(b2i (rec.acc.same (sOp P (rec.acc.look t) o h0) (some (.value v, h0, none))), 1)], none, .any⟩
      | none =>
      if flatM (o.dst.bind fun d => rec.orc d t) then
        match sOp P (rec.acc.look t) o [] with
        | some (.enter f args, _, _) =>
          match rec.hook f args.toList h0 with
          | some (v, [], cs) => some ⟨v, [], (b2i (args.toList.all flat && flat v), 1) :: cs, none, .any⟩
          | _ => none
        | _ => none
      else
      match toldV (o.dst.bind fun d => rec.orc d t) with
      | some u =>
        match tOp P rec.acc.same (rec.acc.look t) h0 o u with
        | some (v, cs) => some ⟨v, [], cs, none, .any⟩
        | none => none
      | none =>
      if quoB (o.dst.bind fun d => rec.orc d t) then
        match qsOp P (rec.acc.look t) o with
        | some (v, cs) => some ⟨v, [], cs, none, .none⟩
        | none =>
          match xsOp P (rec.acc.look t) h0 o with
          | some (v, cs) => some ⟨v, [], cs, none, .any⟩
          | none =>
            match bMk P (rec.acc.look t) o with
            | some (cs0, x, cs) => some ⟨mkNew nid (some x), [⟨true, none, cs0⟩], cs, none, .none⟩
            | none =>
              match bTx P (rec.acc.look t) h0 nl o with
              | some (v, cs) => some ⟨v, [], cs, none, .any⟩
              | none =>
                match sOp P (rec.acc.look t) o [] with
                | some (.enter f args, _, _) =>
                  if args.toList.all (blw1 h0.length) then
                    match callA P rec f args.toList (h0 ++ List.replicate (nid - h0.length) dead) with
                    | some (v, h', (m, cs)) =>
                      if quietB nid m && refF (fun x => liveB h0 x || (decide (nid ≤ x) && decide (x < nid + (h'.drop nid).length))) 6 v then
                        some ⟨v, h'.drop nid, cs ++ (h'.drop nid).map (fun o => (b2i (o.cs.all scal), 1)), none, .any⟩
                      else none
                    | _ => none
                  else none
                | _ => none
      else
      match nOp P (rec.acc.look t) o with
      | some (cs, x) => some ⟨mkNew nid x, [⟨true, none, cs⟩], [], none, .none⟩
      | none =>
        match fOp P (rec.acc.look t) o with
        | some (ao, l) => some ⟨.slice (some ⟨nid, 0, none⟩) l l, [ao], [], none, .none⟩
        | none =>
        match sOp P (rec.acc.look t) o [] with
        | some (.value v, _, _) => some ⟨v, [], [], none, .none⟩
        | some (.enter f args, _, _) =>
          if args.toList.all (blw1 h0.length) then
            match callA P rec f args.toList (h0 ++ List.replicate (nid - h0.length) dead) with
            | some (v, h', (m, cs)) =>
              if quietB nid m && refF (fun x => liveB h0 x || (decide (nid ≤ x) && decide (x < nid + (h'.drop nid).length))) 6 v &&
                  (h'.drop nid).all (refO fun x => liveB h0 x || (decide (nid ≤ x) && decide (x < nid + (h'.drop nid).length))) then
                some ⟨v, h'.drop nid, cs, none, .any⟩
              else none
            | _ => none
          else if args.toList.all (newArg h0.length nid) then
            match callA P rec f args.toList (h0 ++ padL args.toList h0.length nl) with
            | some (v, _, (m, cs)) => if flat v && quietB nid m then some ⟨v, [], cs, none, .any⟩ else none
            | _ => none
          else none
        | _ =>
          match o.op with
          | .store ty x y =>
            match storeH P ty (rec.acc.look t x) (rec.acc.look t y) h0 with
            | some st => some ⟨undef, [], [], some st, .none⟩
            | none => none
          | .load ty x =>
            match oLoad P ty (rec.acc.look t x) h0, loadH P ty (rec.acc.look t x) with
            | some (.value v, _, _), some (a, n) => some ⟨v, [], [], none, .cells a n⟩
            | _, _ => none
          | _ =>
            match sOp P (rec.acc.look t) o h0 with
            | some (.value v, _, _) => some ⟨v, [], [], none, .any⟩
            | _ =>
              match isApp o.op && o.op.operands.toList.all (fun x => blw1 h0.length (rec.acc.look t x)) with
              | true =>
                match aOp P (rec.acc.look t) o (h0 ++ List.replicate (nid - h0.length) dead) with
                | some (.value v, h', m) =>
                  if quietB nid m && refF (fun x => liveB h0 x || (decide (nid ≤ x) && decide (x < nid + (h'.drop nid).length))) 6 v &&
                      (h'.drop nid).all (refO fun x => liveB h0 x || (decide (nid ≤ x) && decide (x < nid + (h'.drop nid).length))) then
                    some ⟨v, h'.drop nid, [], none, .any⟩
                  else none
                | _ => none
              | false => none
    else none
  else some ⟨undef, [], [], none, .none⟩
/-- The mark of a call that is not tried in a head. -/
def markB (u : Option Value) : Bool :=
  match u with
  | some .nilFunc => true
  | _ => false
/-- The same, where a number or a test may be told. -/
def headStep (P : Program) (rec : Rec) (ops : Array Oper) (o : Oper) (t : List Value) (h0 : List AO) (nid : Nat) (nl : List AO) : Option HE :=
  if markB (o.dst.bind fun d => rec.orc d t) || (wAsk o fun d => rec.orc d t).isSome then none else
  match headStep0 P rec ops o t h0 nid nl with
  | some e =>
    match fixV (if wantedA ops t o then o.dst.bind fun d => rec.orc d t else none) e.v with
    | some (v', cs) => some ⟨v', e.b, e.d ++ cs, e.st, e.rd⟩
    | none => none
  | none => none
theorem headStep_inv {P : Program} {rec : Rec} {ops : Array Oper} {o : Oper} {t : List Value} {h0 : List AO} {nid : Nat} {nl : List AO} {e : HE} (h : headStep P rec ops o t h0 nid nl = some e) (hd : ∀ c ∈ e.d, c.1 = c.2) :
    ∃ e0 cs, headStep0 P rec ops o t h0 nid nl = some e0 ∧ ∀ e1, some e1 = some e0 → (⟨e1.v, e1.b, e1.d ++ cs, e1.st, e1.rd⟩ : HE) = e := by
  unfold headStep at h
  split at h
  · cases h
  split at h
  · rename_i e0 h0
    split at h
    · rename_i v' cs hf
      cases h
      refine ⟨e0, cs, h0, fun e1 h1 => ?_⟩
      cases h1
      rw [fixV_ok hf fun c hc => hd c (List.mem_append_right _ hc)]
    · cases h
  · cases h
def addNew (l bs : List AO) : List AO := l ++ bs
def headRun (P : Program) (rec : Rec) (ops : Array Oper) (h0 : List AO) : List Oper → Nat → List Value → List AO → Nat × List Value × List AO × List HE
  | [], n, t, l => (n, t, l, [])
  | o :: rest, n, t, l =>
    match headStep P rec ops o t h0 (h0.length + l.length) l with
    | some e =>
      match headRun P rec ops h0 rest (n + 1) (rec.acc.put t o.dst e.v) (addNew l e.b) with
      | (n', t', l', es) => (n', t', l', e :: es)
    | none => (n, t, l, [])
/-- What the head's run tells of its operations: the temporaries ahead of each, what it does, the blocks laid ahead of it. -/
structure HeadSpec (P : Program) (rec : Rec) (ops : Array Oper) (h0 : List AO) (l : List Oper) (n0 n : Nat) (t : List Value) (l0 : List AO) (t' : List Value) (l' : List AO) (es : List HE)
    (T : Nat → List Value) (E : Nat → HE) (N : Nat → List AO) : Prop where
  le : n0 ≤ n
  t0 : T n0 = t
  tn : T n = t'
  l0 : N n0 = l0
  ln : N n = l'
  len : es.length = n - n0
  eff : ∀ i, n0 ≤ i → i < n → es[i - n0]? = some (E i)
  step : ∀ i, n0 ≤ i → i < n → ∃ o, l[i - n0]? = some o ∧ headStep P rec ops o (T i) h0 (h0.length + (N i).length) (N i) = some (E i) ∧ T (i + 1) = putA (T i) o.dst (E i).v ∧ N (i + 1) = addNew (N i) (E i).b
theorem headRun_spec {P : Program} {rec : Rec} (hacc : rec.acc = accP) {ops : Array Oper} {h0 : List AO} : ∀ (l : List Oper) (n0 : Nat) (t : List Value) (l0 : List AO) (n : Nat) (t' : List Value) (l' : List AO) (es : List HE), headRun P rec ops h0 l n0 t l0 = (n, t', l', es) →
    ∃ T E N, HeadSpec P rec ops h0 l n0 n t l0 t' l' es T E N
  | [], n0, t, l0, n, t', l', es, hr => by
    simp only [headRun, Prod.mk.injEq] at hr
    obtain ⟨rfl, rfl, rfl, rfl⟩ := hr
    exact ⟨fun _ => t, fun _ => ⟨undef, [], [], none, .none⟩, fun _ => l0, ⟨Nat.le_refl _, rfl, rfl, rfl, rfl, by simp, fun i h1 h2 => absurd h1 (by omega), fun i h1 h2 => absurd h1 (by omega)⟩⟩
  | o :: rest, n0, t, l0, n, t', l', es, hr => by
    simp only [headRun] at hr
    split at hr
    · rename_i e hs
      rw [hacc] at hr
      simp only [accP] at hr
      cases hrec : headRun P rec ops h0 rest (n0 + 1) (putA t o.dst e.v) (addNew l0 e.b) with
      | mk n1 r1 =>
        obtain ⟨t1, l1, es1⟩ := r1
        rw [hrec] at hr
        simp only [Prod.mk.injEq] at hr
        obtain ⟨rfl, rfl, rfl, rfl⟩ := hr
        obtain ⟨T, E, N, S⟩ := headRun_spec hacc rest (n0 + 1) _ _ n1 t1 l1 es1 hrec
        have hne : ∀ i, n0 + 1 ≤ i → i ≠ n0 := fun i h => by omega
        have hle := S.le
        refine ⟨fun i => if i = n0 then t else T i, fun i => if i = n0 then e else E i, fun i => if i = n0 then l0 else N i, ⟨by omega, by simp, ?_, by simp, ?_, by have := S.len; simp; omega, fun i h1 h2 => ?_, fun i h1 h2 => ?_⟩⟩
        · simp only [if_neg (hne n1 S.le)]; exact S.tn
        · simp only [if_neg (hne n1 S.le)]; exact S.ln
        · by_cases q : i = n0
          · subst q; simp
          · rw [show i - n0 = (i - (n0 + 1)) + 1 by omega]
            simp only [List.getElem?_cons_succ, if_neg q]
            exact S.eff i (by omega) h2
        · by_cases q : i = n0
          · subst q
            refine ⟨o, by simp, by simp only [if_true]; exact hs, ?_, ?_⟩
            · simp only [if_true, if_neg (hne (i + 1) (by omega))]; exact S.t0
            · simp only [if_true, if_neg (hne (i + 1) (by omega))]; exact S.l0
          · obtain ⟨o', g1, g2, g3, g4⟩ := S.step i (by omega) h2
            refine ⟨o', ?_, ?_, ?_, ?_⟩
            · rw [show i - n0 = (i - (n0 + 1)) + 1 by omega]; simpa using g1
            · simp only [if_neg q]; exact g2
            · simp only [if_neg q, if_neg (hne (i + 1) (by omega))]; exact g3
            · simp only [if_neg q, if_neg (hne (i + 1) (by omega))]; exact g4
    · simp only [Prod.mk.injEq] at hr
      obtain ⟨rfl, rfl, rfl, rfl⟩ := hr
      exact ⟨fun _ => t, fun _ => ⟨undef, [], [], none, .none⟩, fun _ => l0, ⟨Nat.le_refl _, rfl, rfl, rfl, rfl, by simp, fun i h1 h2 => absurd h1 (by omega), fun i h1 h2 => absurd h1 (by omega)⟩⟩
end Go.Proofs.YtokeopmmnpmfeaaDoor.Ex
end
section
namespace Go.Proofs.YtokeopmmnpmfeaaDoor.Ex
set_option maxRecDepth 20000

open Go Go.RowKit

def waits (o : Oper) (j : Nat) : Bool := o.after.toList.any fun e => Region.binds .any e && e.on == j
def depsB (ops : Array Oper) (n : Nat) : Bool :=
  (List.range n).all fun i =>
    match ops[i]? with
    | none => false
    | some o => (o.after.toList.all fun e => !Region.binds .any e || decide (e.on < i)) &&
      (List.range n).all fun j =>
        match ops[j]? with
        | none => false
        | some p =>
          match p.dst with
          | none => true
          | some d => (i == j || o.dst != some d) && (!(o.looksAt ops).contains d || i == j || (if j < i then waits o j else waits p i))
theorem depsB_spec {ops : Array Oper} {n : Nat} (h : depsB ops n = true) {i : Nat} (hi : i < n) {o : Oper} (ho : ops[i]? = some o) :
    (∀ e ∈ o.after, Region.binds .any e = true → e.on < i) ∧ ∀ j p d, j < n → ops[j]? = some p → p.dst = some d → i ≠ j →
      o.dst ≠ some d ∧ (d ∈ o.looksAt ops → (j < i → waits o j = true) ∧ (i < j → waits p i = true)) := by
  have h1 := List.all_eq_true.1 h i (List.mem_range.2 hi)
  simp only [ho, Bool.and_eq_true] at h1
  refine ⟨fun e he hb => ?_, fun j p d hj hp hd hne => ?_⟩
  · have := List.all_eq_true.1 h1.1 e (by simpa using he)
    simpa [hb] using this
  · have h2 := List.all_eq_true.1 h1.2 j (List.mem_range.2 hj)
    simp only [hp, hd, Bool.and_eq_true] at h2
    have hne' : (i == j) = false := by simpa using hne
    refine ⟨?_, fun hm => ?_⟩
    · have := h2.1
      simpa [hne'] using this
    · have h3 := h2.2
      have hc : (o.looksAt ops).contains d = true := by simpa using hm
      simp only [hc, hne', Bool.not_true, Bool.false_or] at h3
      refine ⟨fun hlt => by rwa [if_pos hlt] at h3, fun hlt => by rwa [if_neg (by omega)] at h3⟩
theorem waits_spec {o : Oper} {j : Nat} (h : waits o j = true) : ∃ e ∈ o.after, Region.binds .any e = true ∧ e.on = j := by
  obtain ⟨e, he, hb⟩ := List.any_eq_true.1 h
  simp only [Bool.and_eq_true, beq_iff_eq] at hb
  exact ⟨e, by simpa using he, hb.1, hb.2⟩

def disj (a : Addr) (n : Nat) (b : Addr) (m : Nat) : Bool := a.block != b.block || decide (a.off + n ≤ b.off) || decide (b.off + m ≤ a.off)
/-- The stores lie apart from one another, and from what is read unless the store waits for it. -/
def memB (ops : Array Oper) (n : Nat) (es : List HE) : Bool :=
  (List.range n).all fun j =>
    match es[j]? with
    | none => false
    | some e =>
      match e.st with
      | none => true
      | some (b, vs) => (List.range n).all fun i => i == j ||
        match es[i]?, ops[j]? with
        | some f, some oj =>
          (match f.st with | none => true | some (a, us) => disj a us.length b vs.length) &&
          (match f.rd with | .none => true | .any => waits oj i | .cells a m => waits oj i || disj a m b vs.length)
        | _, _ => false
theorem memB_spec {ops : Array Oper} {n : Nat} {es : List HE} (h : memB ops n es = true) {j : Nat} (hj : j < n) {e : HE} (he : es[j]? = some e) {b : Addr} {vs : List Value} (hs : e.st = some (b, vs)) {i : Nat} (hi : i < n) (hne : i ≠ j)
    {f : HE} (hf : es[i]? = some f) {oj : Oper} (ho : ops[j]? = some oj) : (∀ a us, f.st = some (a, us) → disj a us.length b vs.length = true) ∧ (f.rd = .any → waits oj i = true) ∧ (∀ a m, f.rd = .cells a m → waits oj i = true ∨ disj a m b vs.length = true) := by
  have h1 := List.all_eq_true.1 h j (List.mem_range.2 hj)
  simp only [he, hs] at h1
  have h2 := List.all_eq_true.1 h1 i (List.mem_range.2 hi)
  have hne' : (i == j) = false := by simpa using hne
  simp only [hne', Bool.false_or, hf, ho, Bool.and_eq_true] at h2
  refine ⟨fun a us hst => ?_, fun hr => ?_, fun a m hr => ?_⟩
  · have := h2.1; rw [hst] at this; exact this
  · have := h2.2; rw [hr] at this; exact this
  · have := h2.2; rw [hr] at this; simpa using this
theorem disj_spec {a b : Addr} {n m : Nat} (h : disj a n b m = true) (hb : a.block = b.block) : a.off + n ≤ b.off ∨ b.off + m ≤ a.off := by
  simp only [disj, hb, Bool.or_eq_true, decide_eq_true_eq, bne_self_eq_false, Bool.false_eq_true, false_or] at h
  exact h

/-- What temporaries are when some of the head's operations are done. -/
structure MT (ops : Array Oper) (n : Nat) (t0 : List Value) (E : Nat → HE) (done : Nat → Bool) (t : List Value) : Prop where
  tl : t.length = t0.length
  t1 : ∀ i o d, i < n → ops[i]? = some o → o.dst = some d → done i = true → d < t0.length → t[d]? = some (E i).v
  t2 : ∀ x, (∀ i o, i < n → ops[i]? = some o → done i = true → o.dst ≠ some x) → t[x]? = t0[x]?
/-- A block as it is behind the stores that are done. -/
def BlkAt (n : Nat) (E : Nat → HE) (done : Nat → Bool) (x : Nat) (o o' : AO) : Prop :=
  o'.live = o.live ∧ o'.es = o.es ∧ o'.cs.length = o.cs.length ∧
    (∀ i a vs y, i < n → (E i).st = some (a, vs) → done i = true → a.block = x → y < vs.length → o'.cs[a.off + y]? = vs[y]?) ∧
    (∀ z, (∀ i a vs, i < n → (E i).st = some (a, vs) → done i = true → a.block = x → ¬ (a.off ≤ z ∧ z < a.off + vs.length)) → o'.cs[z]? = o.cs[z]?)
/-- What blocks are. -/
structure MH (n : Nat) (h0 : List AO) (E : Nat → HE) (N : Nat → List AO) (done : Nat → Bool) (h : List AO) (s : Ren) : Prop where
  hl : h.length = h0.length + (N n).length
  h1 : ∀ (x : Nat) (o : AO), h0[x]? = some o → ∃ o', h[x]? = some o' ∧ BlkAt n E done x o o'
  h2 : ∀ i y cs, i < n → (E i).b[y]? = some cs → done i = true → h[h0.length + (N i).length + y]? = some cs
  h3 : ∀ i y cs, i < n → (E i).b[y]? = some cs → done i = false → h[h0.length + (N i).length + y]? = some dead ∧ s (h0.length + (N i).length + y) = none

section
variable {P : Program} {rec : Rec} {ops : Array Oper} {n : Nat} {t0 t' : List Value} {h0 l' : List AO} {es : List HE} {T : Nat → List Value} {E : Nat → HE} {N : Nat → List AO}

theorem N_pre (S : HeadSpec P rec ops h0 ops.toList 0 n t0 [] t' l' es T E N) {i : Nat} : ∀ (j : Nat), i ≤ j → j ≤ n → (N i).length ≤ (N j).length ∧ ∀ x, x < (N i).length → (N j)[x]? = (N i)[x]? := by
  intro j
  induction j with
  | zero => intro h _; obtain rfl : i = 0 := by omega
            exact ⟨Nat.le_refl _, fun _ _ => rfl⟩
  | succ j ih =>
    intro h hj
    by_cases e : i = j + 1
    · subst e; exact ⟨Nat.le_refl _, fun _ _ => rfl⟩
    · obtain ⟨g1, g2⟩ := ih (by omega) (by omega)
      obtain ⟨o, _, _, _, g3⟩ := S.step j (by omega) (by omega)
      rw [g3]
      exact ⟨by simp [addNew]; omega, fun x hx => by simp only [addNew]; rw [List.getElem?_append_left (by omega)]; exact g2 x hx⟩
theorem N_next (S : HeadSpec P rec ops h0 ops.toList 0 n t0 [] t' l' es T E N) {i : Nat} (hi : i < n) : N (i + 1) = N i ++ (E i).b := by
  obtain ⟨o, _, _, _, g3⟩ := S.step i (by omega) hi
  exact g3
theorem N_at (S : HeadSpec P rec ops h0 ops.toList 0 n t0 [] t' l' es T E N) {i : Nat} (hi : i < n) {y : Nat} {cs : AO} (hb : (E i).b[y]? = some cs) :
    (N n)[(N i).length + y]? = some cs ∧ ∀ j, i < j → j ≤ n → (N i).length + y < (N j).length := by
  have g3 := N_next S hi
  have hy : y < (E i).b.length := (List.getElem?_eq_some_iff.1 hb).1
  have e : (N (i + 1)).length = (N i).length + (E i).b.length := by rw [g3]; simp
  refine ⟨?_, fun j hj hjn => ?_⟩
  · rw [(N_pre S n (i := i + 1) (by omega) (Nat.le_refl _)).2 _ (by omega), g3, List.getElem?_append_right (by omega)]
    rw [show (N i).length + y - (N i).length = y by omega]
    exact hb
  · have := (N_pre S j (i := i + 1) (by omega) hjn).1
    omega
theorem N_sur (S : HeadSpec P rec ops h0 ops.toList 0 n t0 [] t' l' es T E N) : ∀ (j : Nat), j ≤ n → ∀ x, x < (N j).length → ∃ i y cs, i < j ∧ (E i).b[y]? = some cs ∧ (N i).length + y = x := by
  intro j
  induction j with
  | zero => intro _ x hx; rw [S.l0] at hx; simp at hx
  | succ j ih =>
    intro hj x hx
    have g3 := N_next S (i := j) (by omega)
    by_cases hlt : x < (N j).length
    · obtain ⟨i, y, cs, h1, h2, h3⟩ := ih (by omega) x hlt
      exact ⟨i, y, cs, by omega, h2, h3⟩
    · rw [g3] at hx
      simp at hx
      have hy : x - (N j).length < (E j).b.length := by omega
      exact ⟨j, x - (N j).length, _, by omega, List.getElem?_eq_getElem hy, by omega⟩
theorem N_fit (S : HeadSpec P rec ops h0 ops.toList 0 n t0 [] t' l' es T E N) {i : Nat} (hi : i < n) : (N i).length + (E i).b.length ≤ (N n).length := by
  have e : (N (i + 1)).length = (N i).length + (E i).b.length := by rw [N_next S hi]; simp
  have := (N_pre S n (i := i + 1) (by omega) (Nat.le_refl _)).1
  omega
theorem op_at (S : HeadSpec P rec ops h0 ops.toList 0 n t0 [] t' l' es T E N) {i : Nat} (hi : i < n) : ∃ o, ops[i]? = some o ∧ headStep P rec ops o (T i) h0 (h0.length + (N i).length) (N i) = some (E i) ∧ T (i + 1) = putA (T i) o.dst (E i).v := by
  obtain ⟨o, g1, g2, g3, _⟩ := S.step i (by omega) hi
  exact ⟨o, by rw [← Array.getElem?_toList]; simpa using g1, g2, g3⟩
theorem eff_at (S : HeadSpec P rec ops h0 ops.toList 0 n t0 [] t' l' es T E N) {i : Nat} (hi : i < n) : es[i]? = some (E i) := by
  have := S.eff i (by omega) hi
  simpa using this
theorem putA_length (t : List Value) (d : Option Tmp) (v : Value) : (putA t d v).length = t.length := by cases d <;> simp [putA]
theorem putA_other (t : List Value) {d : Option Tmp} (v : Value) {x : Nat} (h : d ≠ some x) : (putA t d v)[x]? = t[x]? := by
  cases d with
  | none => rfl
  | some d => simp only [putA]; rw [List.getElem?_set, if_neg (fun e => h (by rw [e]))]
theorem putA_same (t : List Value) {d : Nat} (v : Value) (h : d < t.length) : (putA t (some d) v)[d]? = some v := by
  simp only [putA]; rw [List.getElem?_set, if_pos rfl, if_pos h]
/-- The text's own order. -/
theorem lex_ok (S : HeadSpec P rec ops h0 ops.toList 0 n t0 [] t' l' es T E N) (hd : depsB ops n = true) : ∀ (i : Nat), i ≤ n → (T i).length = t0.length ∧
    (∀ j o d, j < i → ops[j]? = some o → o.dst = some d → d < t0.length → (T i)[d]? = some (E j).v) ∧ (∀ x, (∀ j o, j < i → ops[j]? = some o → o.dst ≠ some x) → (T i)[x]? = t0[x]?) := by
  intro i
  induction i with
  | zero => intro _; rw [S.t0]; exact ⟨rfl, fun j o d h => absurd h (by omega), fun _ _ => rfl⟩
  | succ i ih =>
    intro hi
    obtain ⟨g1, g2, g3⟩ := ih (by omega)
    obtain ⟨o, ho, _, hT⟩ := op_at S (i := i) (by omega)
    rw [hT]
    refine ⟨by rw [putA_length]; exact g1, fun j p d hj hp hpd hdl => ?_, fun x hx => ?_⟩
    · by_cases e : j = i
      · subst e
        rw [ho] at hp
        cases hp
        rw [hpd]
        exact putA_same _ _ (by rw [g1]; exact hdl)
      · rw [putA_other _ _ ((depsB_spec hd (by omega) ho).2 j p d (by omega) hp hpd (by omega)).1]
        exact g2 j p d (by omega) hp hpd hdl
    · rw [putA_other _ _ (hx i o (by omega) ho)]
      exact g3 x fun j p hj hp => hx j p (by omega) hp
theorem mt_next (hd : depsB ops n = true) {done : Nat → Bool} {t : List Value} (M : MT ops n t0 E done t) {i : Nat} (hi : i < n) {o : Oper} (ho : ops[i]? = some o) : MT ops n t0 E (fun j => done j || j == i) (putA t o.dst (E i).v) := by
  refine ⟨by rw [putA_length]; exact M.tl, fun j p d hj hp hpd hdn hdl => ?_, fun x hx => ?_⟩
  · by_cases e : j = i
    · subst e
      rw [ho] at hp
      cases hp
      rw [hpd]
      exact putA_same _ _ (by rw [M.tl]; exact hdl)
    · rw [putA_other _ _ ((depsB_spec hd hi ho).2 j p d hj hp hpd (by omega)).1]
      exact M.t1 j p d hj hp hpd (by simpa [e] using hdn) hdl
  · rw [putA_other _ _ (hx i o hi ho (by simp))]
    exact M.t2 x fun j p hj hp hdn => hx j p hj hp (by simp [hdn])
theorem blk_next {done : Nat → Bool} {x : Nat} {o o' : AO} (h : BlkAt n E done x o o') {i : Nat} (hst : (E i).st = none) : BlkAt n E (fun j => done j || j == i) x o o' := by
  obtain ⟨g1, g2, g3, g4, g5⟩ := h
  refine ⟨g1, g2, g3, fun j a vs y hj hs hdn hb hy => ?_, fun z hz => g5 z fun j a vs hj hs hdn hb => hz j a vs hj hs (by simp [hdn]) hb⟩
  have e : j ≠ i := fun e => by rw [e, hst] at hs; cases hs
  exact g4 j a vs y hj hs (by simpa [e] using hdn) hb hy
theorem mh_still {done : Nat → Bool} {h : List AO} {s : Ren} (M : MH n h0 E N done h s) {i : Nat} (hst : (E i).st = none) (hb : (E i).b = []) : MH n h0 E N (fun j => done j || j == i) h s := by
  refine ⟨M.hl, fun x o hx => ?_, fun j y cs hj hc hdn => ?_, fun j y cs hj hc hdn => ?_⟩
  · obtain ⟨o', g1, g2⟩ := M.h1 x o hx
    exact ⟨o', g1, blk_next g2 hst⟩
  · have e : j ≠ i := fun e => by rw [e, hb] at hc; simp at hc
    exact M.h2 j y cs hj hc (by simpa [e] using hdn)
  · exact M.h3 j y cs hj hc (by cases hq : done j with | false => rfl | true => simp [hq] at hdn)
theorem mh_new (S : HeadSpec P rec ops h0 ops.toList 0 n t0 [] t' l' es T E N) {done : Nat → Bool} {h : List AO} {s : Ren} (M : MH n h0 E N done h s) {i : Nat} (hi : i < n) (hst : (E i).st = none)
    (s' : Ren) (hs : ∀ q, ¬ (h0.length + (N i).length ≤ q ∧ q < h0.length + (N i).length + (E i).b.length) → s' q = s q) : MH n h0 E N (fun j => done j || j == i) (layL h (h0.length + (N i).length) (E i).b) s' := by
  have hfit : h0.length + (N i).length + (E i).b.length ≤ h.length := by rw [M.hl]; have := N_fit S hi; omega
  have slot : ∀ j y cs, j < n → (E j).b[y]? = some cs → j ≠ i → ¬ (h0.length + (N i).length ≤ h0.length + (N j).length + y ∧ h0.length + (N j).length + y < h0.length + (N i).length + (E i).b.length) := by
    intro j y cs hj hc hne
    rcases Nat.lt_or_ge j i with hlt | hge
    · have := (N_at S hj hc).2 i hlt (by omega); omega
    · have h1 := (N_pre S j (i := i + 1) (by omega) (by omega)).1
      have h2 : (N (i + 1)).length = (N i).length + (E i).b.length := by rw [N_next S hi]; simp
      omega
  refine ⟨by rw [layL_length hfit]; exact M.hl, fun x o hx => ?_, fun j y cs' hj hc hdn => ?_, fun j y cs' hj hc hdn => ?_⟩
  · obtain ⟨o', g1, g2⟩ := M.h1 x o hx
    have hxl := (List.getElem?_eq_some_iff.1 hx).1
    exact ⟨o', by rw [layL_get hfit, if_neg (by omega)]; exact g1, blk_next g2 hst⟩
  · by_cases e : j = i
    · subst e
      have hy : y < (E j).b.length := (List.getElem?_eq_some_iff.1 hc).1
      rw [layL_get hfit, if_pos ⟨by omega, by omega⟩, show h0.length + (N j).length + y - (h0.length + (N j).length) = y by omega]
      exact hc
    · rw [layL_get hfit, if_neg (slot j y cs' hj hc e)]
      exact M.h2 j y cs' hj hc (by simpa [e] using hdn)
  · have e : j ≠ i := fun e => by simp [e] at hdn
    obtain ⟨g1, g2⟩ := M.h3 j y cs' hj hc (by cases hq : done j with | false => rfl | true => simp [hq] at hdn)
    have hne := slot j y cs' hj hc e
    exact ⟨by rw [layL_get hfit, if_neg hne]; exact g1, by rw [hs _ hne]; exact g2⟩
theorem mh_store (S : HeadSpec P rec ops h0 ops.toList 0 n t0 [] t' l' es T E N) (hmem : memB ops n es = true) {done : Nat → Bool} {h h' : List AO} {s : Ren} (M : MH n h0 E N done h s) {i : Nat} (hi : i < n) (hb : (E i).b = []) {a : Addr} {vs : List Value} (hst : (E i).st = some (a, vs))
    {o0 : AO} (ho0 : h0[a.block]? = some o0) (_hfit : a.off + vs.length ≤ o0.cs.length) (hs : astore h a vs = some h') : MH n h0 E N (fun j => done j || j == i) h' s := by
  obtain ⟨o1, ho1, g1, g2, g3, g4, g5⟩ := M.h1 _ _ ho0
  have hal : a.block < h0.length := (List.getElem?_eq_some_iff.1 ho0).1
  have hah : a.block < h.length := (List.getElem?_eq_some_iff.1 ho1).1
  unfold astore at hs
  rw [ho1] at hs
  simp only at hs
  split at hs
  · rename_i hc
    cases hs
    simp at hc
    have hf1 : a.off + vs.length ≤ o1.cs.length := hc.2
    refine ⟨by simp [M.hl], fun x o hx => ?_, fun j y cs hj hbj hdn => ?_, fun j y cs hj hbj hdn => ?_⟩
    · by_cases ex : a.block = x
      · subst ex
        rw [ho0] at hx
        cases hx
        refine ⟨⟨true, o1.es, splice o1.cs a.off vs⟩, by rw [List.getElem?_set, if_pos rfl, if_pos hah], by rw [← g1]; exact hc.1.1.symm, g2, by simp only [splice_length hf1]; exact g3, fun j b us y hj hsj hdn hbj hy => ?_, fun z hz => ?_⟩
        · simp only
          rw [splice_get hf1]
          by_cases e : j = i
          · subst e
            rw [hst] at hsj
            cases hsj
            rw [if_pos ⟨by omega, by omega⟩]
            congr 1
            omega
          · obtain ⟨oi, hoi, _, _⟩ := op_at S hi
            have hdj := disj_spec ((memB_spec hmem hi (eff_at S hi) hst hj e (eff_at S hj) hoi).1 b us hsj) hbj
            rw [if_neg (by omega)]
            exact g4 j b us y hj hsj (by simpa [e] using hdn) hbj hy
        · simp only
          have hz1 := hz i a vs hi hst (by simp) rfl
          rw [splice_get hf1, if_neg hz1]
          exact g5 z fun j b us hj hsj hdn hbj => hz j b us hj hsj (by simp [hdn]) hbj
      · obtain ⟨o', q1, q2, q3, q4, q5, q6⟩ := M.h1 x o hx
        refine ⟨o', by rw [List.getElem?_set, if_neg ex]; exact q1, q2, q3, q4, fun j b us y hj hsj hdn hbj hy => ?_, fun z hz => q6 z fun j b us hj hsj hdn hbj => hz j b us hj hsj (by simp [hdn]) hbj⟩
        have e : j ≠ i := fun e => by
          subst e
          rw [hst] at hsj
          cases hsj
          exact ex hbj
        exact q5 j b us y hj hsj (by simpa [e] using hdn) hbj hy
    · have e : j ≠ i := fun e => by rw [e, hb] at hbj; simp at hbj
      rw [List.getElem?_set, if_neg (by omega)]
      exact M.h2 j y cs hj hbj (by simpa [e] using hdn)
    · obtain ⟨q1, q2⟩ := M.h3 j y cs hj hbj (by cases hq : done j with | false => rfl | true => simp [hq] at hdn)
      exact ⟨by rw [List.getElem?_set, if_neg (by omega)]; exact q1, q2⟩
  · cases hs
theorem mt_full (S : HeadSpec P rec ops h0 ops.toList 0 n t0 [] t' l' es T E N) (hd : depsB ops n = true) {done : Nat → Bool} {t : List Value} (M : MT ops n t0 E done t) (hall : ∀ i, i < n → done i = true) : t = t' := by
  obtain ⟨g1, g2, g3⟩ := lex_ok S hd n (Nat.le_refl _)
  rw [S.tn] at g1 g2 g3
  refine List.ext_getElem? fun x => ?_
  by_cases hx : x < t0.length
  · by_cases hw : ∃ i o, i < n ∧ ops[i]? = some o ∧ o.dst = some x
    · obtain ⟨i, o, hi, ho, hdx⟩ := hw
      rw [M.t1 i o x hi ho hdx (hall i hi) hx, g2 i o x hi ho hdx hx]
    · have hn : ∀ j o, j < n → ops[j]? = some o → o.dst ≠ some x := fun j o hj ho e => hw ⟨j, o, hj, ho, e⟩
      rw [M.t2 x fun j o hj ho _ => hn j o hj ho, g3 x hn]
  · rw [List.getElem?_eq_none (by rw [M.tl]; omega), List.getElem?_eq_none (by rw [g1]; omega)]
/-- Two memories behind all of the head are the same. -/
theorem mh_same (S : HeadSpec P rec ops h0 ops.toList 0 n t0 [] t' l' es T E N) {done done' : Nat → Bool} {h h' : List AO} {s s' : Ren} (M : MH n h0 E N done h s) (M' : MH n h0 E N done' h' s') (hall : ∀ i, i < n → done i = true) (hall' : ∀ i, i < n → done' i = true) : h = h' := by
  refine List.ext_getElem? fun x => ?_
  by_cases hx : x < h0.length
  · obtain ⟨o, ho⟩ : ∃ o, h0[x]? = some o := ⟨_, List.getElem?_eq_getElem hx⟩
    obtain ⟨a, a1, a2, a3, a4, a5, a6⟩ := M.h1 x o ho
    obtain ⟨b, b1, b2, b3, b4, b5, b6⟩ := M'.h1 x o ho
    rw [a1, b1]
    obtain ⟨la, ea, ca⟩ := a
    obtain ⟨lb, eb, cb⟩ := b
    simp only at a2 a3 a4 a5 a6 b2 b3 b4 b5 b6
    have hc : ca = cb := by
      refine List.ext_getElem? fun z => ?_
      by_cases hz : ∃ i c vs, i < n ∧ (E i).st = some (c, vs) ∧ c.block = x ∧ c.off ≤ z ∧ z < c.off + vs.length
      · obtain ⟨i, c, vs, hi, hs, hb, g1, g2⟩ := hz
        have := a5 i c vs (z - c.off) hi hs (hall i hi) hb (by omega)
        rw [show c.off + (z - c.off) = z by omega] at this
        have := b5 i c vs (z - c.off) hi hs (hall' i hi) hb (by omega)
        rw [show c.off + (z - c.off) = z by omega] at this
        simp_all
      · rw [a6 z fun i c vs hi hs _ hb hh => hz ⟨i, c, vs, hi, hs, hb, hh⟩, b6 z fun i c vs hi hs _ hb hh => hz ⟨i, c, vs, hi, hs, hb, hh⟩]
    rw [hc, a2, a3, b2, b3]
  · by_cases hx2 : x < h0.length + (N n).length
    · obtain ⟨i, y, cs, hi, hb, hl⟩ := N_sur S n (Nat.le_refl _) (x - h0.length) (by omega)
      have e := M.h2 i y cs hi hb (hall i hi)
      have e' := M'.h2 i y cs hi hb (hall' i hi)
      rw [Nat.add_assoc, hl, show h0.length + (x - h0.length) = x by omega] at e e'
      rw [e, e']
    · rw [List.getElem?_eq_none (by rw [M.hl]; omega), List.getElem?_eq_none (by rw [M'.hl]; omega)]
theorem mt_start : MT ops n t0 E (fun _ => false) t0 := ⟨rfl, fun _ _ _ _ _ _ h => by simp at h, fun _ _ => rfl⟩
theorem mh_start (S : HeadSpec P rec ops h0 ops.toList 0 n t0 [] t' l' es T E N) {s : Ren} (hs : ∀ i, h0.length ≤ i → s i = none) : MH n h0 E N (fun _ => false) (h0 ++ List.replicate (N n).length dead) s := by
  refine ⟨by simp, fun x o hx => ⟨o, by rw [List.getElem?_append_left (List.getElem?_eq_some_iff.1 hx).1]; exact hx, rfl, rfl, rfl, fun _ _ _ _ _ _ h => by simp at h, fun _ _ => rfl⟩, fun _ _ _ _ _ h => by simp at h, fun i y cs hi hb _ => ⟨?_, hs _ (by omega)⟩⟩
  have := (N_at S hi hb).2 n (by omega) (Nat.le_refl _)
  rw [List.getElem?_append_right (by omega), List.getElem?_replicate, if_pos (by omega)]
end
end Go.Proofs.YtokeopmmnpmfeaaDoor.Ex
end
