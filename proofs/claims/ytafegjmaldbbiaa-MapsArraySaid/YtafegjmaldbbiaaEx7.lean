/-
  Runs that the kernel reckons, part 7: a whole call.
-/
import Derived.Test.YtafegjmaldbbiaaEx6
import Derived.Test.YtafegjmaldbbiaaEx5b
import Derived.Test.YtafegjmaldbbiaaEx3g
namespace Go.Proofs.Ytafegjmaldbbiaa.Ex
open Go Go.RowKit

def quietB (n : Nat) (m : Option Nat) : Bool :=
  match m with
  | none => true
  | some m => decide (n ≤ m)
theorem quietB_ok {n : Nat} {m : Option Nat} (h : quietB n m = true) : BndO n m := by
  intro i hi
  subst hi
  simpa [quietB] using h
def callA (P : Program) (rec : Rec) (f : FuncId) (args : List Value) (h : List AO) : Option (Value × List AO × Mk) :=
  match rec.hook f args h with
  | some (v, new, cs) => some (v, hookH h new, (effL new, cs))
  | none =>
  match P.funcs[f]? with
  | none => none
  | some fn =>
    match fn.body with
    | none => none
    | some c =>
      match rec.run f c ⟨args ++ List.replicate (fn.ntmps - args.length) undef, h, (none, [])⟩ with
      | some (.normal, x) | some (.ret, x) =>
        match resL P x.t x.h fn.results.toList with
        | some vs =>
          if flat (oneOf vs) && quietB h.length x.m.1 then some (oneOf vs, h, (none, x.m.2))
          else some (oneOf vs, x.h, x.m)
        | none => none
      | _ => none
def b2i : Bool → Int
  | true => 1
  | false => 0
theorem b2i_inj {a b : Bool} (h : b2i a = b2i b) : a = b := by cases a <;> cases b <;> first | rfl | (simp [b2i] at h)
/-- A value that is told: what it must be the same as. -/
def fixV (u : Option Value) (v : Value) : Option (Value × Cs) :=
  match u with
  | none => some (v, [])
  | some .nilFunc => some (v, [])
  | some .nilIface => some (v, [])
  | some (.map none) => some (v, [])
  | some (.tuple _) => some (v, [])
  | some (.int j n) =>
    match v with
    | .int k m => if k = j then some (.int j n, [(m, n)]) else none
    | _ => none
  | some (.bool b) =>
    match v with
    | .bool a => some (.bool b, [(b2i a, b2i b)])
    | _ => none
  | _ => none
theorem fixV_ok {u : Option Value} {v v' : Value} {cs : Cs} (h : fixV u v = some (v', cs)) (hc : ∀ c ∈ cs, c.1 = c.2) : v' = v := by
  unfold fixV at h
  split at h
  · cases h; rfl
  · cases h; rfl
  · cases h; rfl
  · cases h; rfl
  · cases h; rfl
  · split at h
    · split at h
      · rename_i hk
        cases h
        have := hc _ (List.mem_singleton.2 rfl)
        simp only at this
        rw [hk, this]
      · cases h
    · cases h
  · split at h
    · cases h
      have := hc _ (List.mem_singleton.2 rfl)
      rw [b2i_inj this]
    · cases h
  · cases h
/-- A quotient, or what is left, by a number that may not be known: it must not be 0. An oracle says `.nilIface` there. -/
def quoB (u : Option Value) : Bool :=
  match u with
  | some .nilIface => true
  | _ => false
def qOp (ρ : Operand → Value) (o : Oper) : Option (Value × Cs) :=
  match o.op with
  | .binOp b _ x y _ =>
    match ρ x, ρ y with
    | .int k a, .int j c =>
      if Nat.beq (kIx k) (kIx j) then
        match b with
        | .quo => some (.int k (k.wrap (a.tdiv c)), [(b2i (decide (c = 0)), 0)])
        | .rem => some (.int k (a.tmod c), [(b2i (decide (c = 0)), 0)])
        | .shl => some (.int k (k.wrap (a * 2 ^ min c.toNat k.bits)), [(b2i (decide (c < 0)), 0)])
        | .shr => some (.int k (a.fdiv (2 ^ min c.toNat k.bits)), [(b2i (decide (c < 0)), 0)])
        | _ => none
      else none
    | _, _ => none
  | _ => none
theorem qOp_ok {P : Program} {s : Ren} {ρ ρ' : Operand → Value} {o : Oper} {v : Value} {cs : Cs} (hρ : ∀ x ∈ o.op.operands, VR s (ρ x) (ρ' x)) (h : qOp ρ o = some (v, cs)) (hc : ∀ c ∈ cs, c.1 = c.2) (w : World) :
    (execOp ρ' o).run P w = .ok (.value v) w ∧ flat v = true := by
  obtain ⟨dst, op, type, pos, after, guard⟩ := o
  unfold qOp at h
  cases op <;> simp only at h <;> try (cases h; done)
  rename_i b t x y t2
  have hx := hρ x (by simp [Op.operands])
  have hy := hρ y (by simp [Op.operands])
  split at h
  · rename_i k a j c hxa hyc
    rw [hxa] at hx
    rw [hyc] at hy
    have ex := hx.eq_of_flat rfl
    have ey := hy.eq_of_flat rfl
    split at h
    · rename_i hk
      obtain rfl := kIx_inj hk
      split at h
      · cases h
        have h0 : decide (c = 0) = false := b2i_inj (b := false) (hc _ (List.mem_singleton.2 rfl))
        have hne : c ≠ 0 := by simpa using h0
        refine ⟨?_, rfl⟩
        simp [execOp, ex, ey, int_guard, binOp, Op.intDiv, hne]
      · cases h
        have h0 : decide (c = 0) = false := b2i_inj (b := false) (hc _ (List.mem_singleton.2 rfl))
        have hne : c ≠ 0 := by simpa using h0
        refine ⟨?_, rfl⟩
        simp [execOp, ex, ey, int_guard, binOp, Op.intDiv, hne]
      · cases h
        have h0 : decide (c < 0) = false := b2i_inj (b := false) (hc _ (List.mem_singleton.2 rfl))
        have hne : ¬ c < 0 := by simpa using h0
        refine ⟨?_, rfl⟩
        simp [execOp, ex, ey, int_guard, binOp, Op.shift, hne]
      · cases h
        have h0 : decide (c < 0) = false := b2i_inj (b := false) (hc _ (List.mem_singleton.2 rfl))
        have hne : ¬ c < 0 := by simpa using h0
        refine ⟨?_, rfl⟩
        simp [execOp, ex, ey, int_guard, binOp, Op.shift, hne]
      · cases h
    · cases h
  · cases h
/-- A number that is not known, looked up in a map that does not have it: it must be none of its keys. An oracle says `.nilIface` there. -/
def keysNe (k : IntKind) (a : Int) : List Value → Option Cs
  | [] => some []
  | x :: r =>
    match keyOf x with
    | .int j c =>
      if Nat.beq (kIx k) (kIx j) then
        match keysNe k a r with
        | some cs => some ((b2i (a == c), 0) :: cs)
        | none => none
      else none
    | _ => none
theorem keysNe_ok {k : IntKind} {a : Int} : ∀ {l : List Value} {ps : Cs}, keysNe k a l = some ps → (∀ c ∈ ps, c.1 = c.2) → ∀ (n i : Nat), Instr.findNow (.int k) (.int k a) (ents n l) i = some none
  | [], _, _, _, n, i => rfl
  | x :: r, ps, h, hc, n, i => by
    unfold keysNe at h
    split at h
    · rename_i j c hk
      split at h
      · rename_i hj
        obtain rfl := kIx_inj hj
        split at h
        · rename_i cs hr
          cases h
          have h0 : (a == c) = false := b2i_inj (b := false) (hc _ (List.mem_cons_self ..))
          simp only [ents, Instr.findNow, hk, Instr.sameNow, h0, if_true]
          exact keysNe_ok hr (fun c hm => hc c (List.mem_cons_of_mem _ hm)) (n + 1) (i + 1)
        · cases h
      · cases h
    · cases h
def lOp (P : Program) (ρ : Operand → Value) (h : List AO) (o : Oper) : Option (Value × Cs) :=
  match o.op with
  | .lookup t x ix ok =>
    match P.underlying t with
    | some (.map kt et) =>
      match P.underlying kt, mapCells (ρ x) h, ρ ix with
      | some (.int k), some cs, .int j a =>
        if Nat.beq (kIx j) (kIx k) then
          match keysNe k a cs with
          | some ps =>
            match P.info? et with
            | some i =>
              match i.zero with
              | some z => if flat z && flat (okPair ok false z) then some (okPair ok false z, ps) else none
              | none => none
            | none => none
          | none => none
        else none
      | _, _, _ => none
    | _ => none
  | _ => none
theorem lOp_ok {P : Program} {s : Ren} {ρ ρ' : Operand → Value} {h : List AO} {w : World} (H : MR s h w) {o : Oper} {v : Value} {cs : Cs} (hρ : ∀ x ∈ o.op.operands, VR s (ρ x) (ρ' x)) (hr : lOp P ρ h o = some (v, cs)) (hc : ∀ c ∈ cs, c.1 = c.2) :
    (execOp ρ' o).run P w = .ok (.value v) w ∧ flat v = true := by
  obtain ⟨dst, op, type, pos, after, guard⟩ := o
  unfold lOp at hr
  cases op <;> simp only at hr <;> try (cases hr; done)
  rename_i t x ix ok
  have hx := hρ x (by simp [Op.operands])
  have hi := hρ ix (by simp [Op.operands])
  split at hr
  · rename_i kt et hu
    split at hr
    · rename_i k cs1 j a hd hm hix
      split at hr
      · rename_i hj
        obtain rfl := kIx_inj hj
        split at hr
        · rename_i ps hps
          split at hr
          · rename_i i hinf
            split at hr
            · rename_i z hz
              split at hr
              · rename_i hzf0
                cases hr
                simp only [Bool.and_eq_true] at hzf0
                obtain ⟨hzf, hfl⟩ := hzf0
                have hf := keysNe_ok hps hc 0 0
                have ho : oLookup P t (ρ x) (ρ ix) ok h = some (.value (okPair ok false z), h, none) := by
                  unfold oLookup
                  rw [hu]
                  simp only
                  rw [hd, hm]
                  simp only
                  rw [hix]
                  rw [if_pos (show keyB (.int j) (.int j a) = true by simp [keyB]), hf]
                  simp only
                  rw [hinf]
                  simp only
                  rw [hz]
                  simp only
                  rw [if_pos hzf]
                obtain ⟨n', e1, e2, _⟩ := lookup_ok H hx hi ho
                refine ⟨?_, hfl⟩
                cases n' <;> simp only [NR] at e2
                rw [e2.eq_of_flat hfl] at e1
                exact e1
              · cases hr
            · cases hr
          · cases hr
        · cases hr
      · cases hr
    · cases hr
  · cases hr
/-- A number that is not known, looked up in a map: it is its j-th key. An oracle says `.iface 0 (.int k j)` there. -/
def keysTo (k : IntKind) (a : Int) : Nat → List Value → Option (Cs × Value)
  | _, [] => none
  | 0, x :: _ =>
    match keyOf x with
    | .int j c => if Nat.beq (kIx k) (kIx j) then some ([(b2i (a == c), 1)], valOf x) else none
    | _ => none
  | m + 1, x :: r =>
    match keyOf x with
    | .int j c =>
      if Nat.beq (kIx k) (kIx j) then
        match keysTo k a m r with
        | some (cs, v) => some ((b2i (a == c), 0) :: cs, v)
        | none => none
      else none
    | _ => none
theorem keysTo_ok {k : IntKind} {a : Int} : ∀ {m : Nat} {l : List Value} {ps : Cs} {v : Value}, keysTo k a m l = some (ps, v) → (∀ c ∈ ps, c.1 = c.2) → ∀ (n i : Nat), Instr.findNow (.int k) (.int k a) (ents n l) i = some (some (i + m, v))
  | _, [], _, _, h, _, _, _ => by simp [keysTo] at h
  | 0, x :: r, ps, v, h, hc, n, i => by
    unfold keysTo at h
    split at h
    · rename_i j c hk
      split at h
      · rename_i hj
        obtain rfl := kIx_inj hj
        cases h
        have h0 : (a == c) = true := b2i_inj (b := true) (hc _ (List.mem_cons_self ..))
        simp only [ents, Instr.findNow, hk, Instr.sameNow, h0, if_true]
        simp
      · cases h
    · cases h
  | m + 1, x :: r, ps, v, h, hc, n, i => by
    unfold keysTo at h
    split at h
    · rename_i j c hk
      split at h
      · rename_i hj
        obtain rfl := kIx_inj hj
        split at h
        · rename_i cs v' hr
          cases h
          have h0 : (a == c) = false := b2i_inj (b := false) (hc _ (List.mem_cons_self ..))
          simp only [ents, Instr.findNow, hk, Instr.sameNow, h0, if_true]
          have := keysTo_ok hr (fun c hm => hc c (List.mem_cons_of_mem _ hm)) (n + 1) (i + 1)
          rw [show i + (m + 1) = i + 1 + m by omega]
          exact this
        · cases h
      · cases h
    · cases h
def kAsk (u : Option Value) : Option Nat :=
  match u with
  | some (.iface _ (.int _ j)) => some j.toNat
  | _ => none
def kOp (P : Program) (ρ : Operand → Value) (h : List AO) (o : Oper) (m : Nat) : Option (Value × Cs) :=
  match o.op with
  | .lookup t x ix ok =>
    match P.underlying t with
    | some (.map kt _) =>
      match P.underlying kt, mapCells (ρ x) h, ρ ix with
      | some (.int k), some cs, .int j a =>
        if Nat.beq (kIx j) (kIx k) then
          match keysTo k a m cs with
          | some (ps, v) => if flat (okPair ok true v) then some (okPair ok true v, ps) else none
          | none => none
        else none
      | _, _, _ => none
    | _ => none
  | _ => none
theorem kOp_ok {P : Program} {s : Ren} {ρ ρ' : Operand → Value} {h : List AO} {w : World} (H : MR s h w) {o : Oper} {m : Nat} {v : Value} {cs : Cs} (hρ : ∀ x ∈ o.op.operands, VR s (ρ x) (ρ' x)) (hr : kOp P ρ h o m = some (v, cs)) (hc : ∀ c ∈ cs, c.1 = c.2) :
    (execOp ρ' o).run P w = .ok (.value v) w ∧ flat v = true := by
  obtain ⟨dst, op, type, pos, after, guard⟩ := o
  unfold kOp at hr
  cases op <;> simp only at hr <;> try (cases hr; done)
  rename_i t x ix ok
  have hx := hρ x (by simp [Op.operands])
  have hi := hρ ix (by simp [Op.operands])
  split at hr
  · rename_i kt et hu
    split at hr
    · rename_i k cs1 j a hd hm hix
      split at hr
      · rename_i hj
        obtain rfl := kIx_inj hj
        split at hr
        · rename_i ps v1 hps
          split at hr
          · rename_i hfl
            cases hr
            have hf := keysTo_ok hps hc 0 0
            have ho : oLookup P t (ρ x) (ρ ix) ok h = some (.value (okPair ok true v1), h, none) := by
              unfold oLookup
              rw [hu]
              simp only
              rw [hd, hm]
              simp only
              rw [hix]
              rw [if_pos (show keyB (.int j) (.int j a) = true by simp [keyB]), hf]
              all_goals rfl
            obtain ⟨n', e1, e2, _⟩ := lookup_ok H hx hi ho
            refine ⟨?_, hfl⟩
            cases n' <;> simp only [NR] at e2
            rw [e2.eq_of_flat hfl] at e1
            exact e1
          · cases hr
        · cases hr
      · cases hr
    · cases hr
  · cases hr
/-- A number that is not known, laid into a map as a new key: it must be none of its keys. An oracle says `.nilIface` at the place 1000001. -/
def uAsk (o : Oper) (u : Option Value) : Bool :=
  match o.op with
  | .mapUpdate _ _ _ _ => quoB u
  | _ => false
def uOp (P : Program) (ρ : Operand → Value) (h : List AO) (o : Oper) : Option (List AO × Nat × Cs) :=
  match o.op with
  | .mapUpdate t m key v =>
    match P.underlying t, ρ m with
    | some (.map kt _), .map (some r) =>
      match P.underlying kt, h[r]?, ρ key with
      | some (.int k), some ob, .int j a =>
        if Nat.beq (kIx j) (kIx k) && (ob.live && isM ob) then
          match keysNe k a ob.cs with
          | some ps => some (h.set r ⟨true, some 0, ob.cs ++ [.tuple ⟨[ρ key, ρ v]⟩]⟩, r, ps)
          | none => none
        else none
      | _, _, _ => none
    | _, _ => none
  | _ => none
theorem uOp_ok {P : Program} {wb : Wb} {k0 : Nat} {s : Ren} {ρ ρ' : Operand → Value} {h : List AO} {w : World} (H : HR wb k0 s h w) {o : Oper} {h' : List AO} {b : Nat} {cs : Cs} (hρ : ∀ x ∈ o.op.operands, VR s (ρ x) (ρ' x)) (hr : uOp P ρ h o = some (h', b, cs)) (hc : ∀ c ∈ cs, c.1 = c.2) (hk : k0 ≤ b) :
    Okay P wb k0 s w (execOp ρ' o) (.skip, h', some b) := by
  obtain ⟨dst, op, type, pos, after, guard⟩ := o
  unfold uOp at hr
  cases op <;> simp only at hr <;> try (cases hr; done)
  rename_i t m key v
  have hm := hρ m (by simp [Op.operands])
  have hkey := hρ key (by simp [Op.operands])
  have hv := hρ v (by simp [Op.operands])
  split at hr
  · rename_i kt et r hu hmr
    split at hr
    · rename_i k ob j a hd ho hkk
      split at hr
      · rename_i hcond
        simp only [Bool.and_eq_true] at hcond
        obtain ⟨hj, hlive, hmm⟩ := hcond
        obtain rfl := kIx_inj hj
        split at hr
        · rename_i ps hps
          cases hr
          have hf := keysNe_ok hps hc 0 0
          have hou : oMapUpdate P t (ρ m) (ρ key) (ρ v) h = some (.skip, h.set b ⟨true, some 0, ob.cs ++ [.tuple ⟨[ρ key, ρ v]⟩]⟩, some b) := by
            unfold oMapUpdate
            rw [hu, hmr]
            simp only
            rw [hd, ho]
            simp only
            rw [hkk, if_pos (by simp [hlive, hmm, keyB]), hf]
            all_goals rfl
          exact mapUpdate_ok H hm hkey hv hou (fun i hi => by cases hi; exact hk)
        · cases hr
      · cases hr
    · cases hr
  · cases hr
/-- A number that is not known, looked up in a map whose first key it is. An oracle says `.map none` there. -/
def hitB (u : Option Value) : Bool :=
  match u with
  | some (.map none) => true
  | _ => false
def hOp (P : Program) (ρ : Operand → Value) (h : List AO) (o : Oper) : Option (Value × Cs) :=
  match o.op with
  | .lookup t x ix ok =>
    match P.underlying t with
    | some (.map kt _) =>
      match P.underlying kt, mapCells (ρ x) h, ρ ix with
      | some (.int k), some (y :: _), .int j a =>
        if Nat.beq (kIx j) (kIx k) then
          match keyOf y with
          | .int j2 c =>
            if Nat.beq (kIx k) (kIx j2) && flat (okPair ok true (valOf y)) then some (okPair ok true (valOf y), [(b2i (a == c), 1)]) else none
          | _ => none
        else none
      | _, _, _ => none
    | _ => none
  | _ => none
theorem hOp_ok {P : Program} {s : Ren} {ρ ρ' : Operand → Value} {h : List AO} {w : World} (H : MR s h w) {o : Oper} {v : Value} {cs : Cs} (hρ : ∀ x ∈ o.op.operands, VR s (ρ x) (ρ' x)) (hr : hOp P ρ h o = some (v, cs)) (hc : ∀ c ∈ cs, c.1 = c.2) :
    (execOp ρ' o).run P w = .ok (.value v) w ∧ flat v = true := by
  obtain ⟨dst, op, type, pos, after, guard⟩ := o
  unfold hOp at hr
  cases op <;> simp only at hr <;> try (cases hr; done)
  rename_i t x ix ok
  have hx := hρ x (by simp [Op.operands])
  have hi := hρ ix (by simp [Op.operands])
  split at hr
  · rename_i kt et hu
    split at hr
    · rename_i k y r j a hd hm hix
      split at hr
      · rename_i hj
        obtain rfl := kIx_inj hj
        split at hr
        · rename_i j2 c hk
          split at hr
          · rename_i hjf
            cases hr
            simp only [Bool.and_eq_true] at hjf
            obtain ⟨hj2, hfl⟩ := hjf
            obtain rfl := kIx_inj hj2
            have h0 : (a == c) = true := b2i_inj (b := true) (hc _ (List.mem_singleton.2 rfl))
            have hf : Instr.findNow (.int j) (.int j a) (ents 0 (y :: r)) 0 = some (some (0, valOf y)) := by
              simp only [ents, Instr.findNow, hk, Instr.sameNow, h0, if_true]
            have ho : oLookup P t (ρ x) (ρ ix) ok h = some (.value (okPair ok true (valOf y)), h, none) := by
              unfold oLookup
              rw [hu]
              simp only
              rw [hd, hm]
              simp only
              rw [hix]
              rw [if_pos (show keyB (.int j) (.int j a) = true by simp [keyB]), hf]
              all_goals rfl
            obtain ⟨n', e1, e2, _⟩ := lookup_ok H hx hi ho
            refine ⟨?_, hfl⟩
            cases n' <;> simp only [NR] at e2
            rw [e2.eq_of_flat hfl] at e1
            exact e1
          · cases hr
        · cases hr
      · cases hr
    · cases hr
  · cases hr
def hitA (u : Option Value) (P : Program) (ρ : Operand → Value) (h : List AO) (o : Oper) : Option (Value × Cs) := if hitB u then hOp P ρ h o else none
theorem hitA_ok {u : Option Value} {P : Program} {s : Ren} {ρ ρ' : Operand → Value} {h : List AO} {w : World} (H : MR s h w) {o : Oper} {v : Value} {cs : Cs} (hρ : ∀ x ∈ o.op.operands, VR s (ρ x) (ρ' x)) (hr : hitA u P ρ h o = some (v, cs)) (hc : ∀ c ∈ cs, c.1 = c.2) :
    (execOp ρ' o).run P w = .ok (.value v) w ∧ flat v = true := by
  unfold hitA at hr
  split at hr
  · exact hOp_ok H hρ hr hc
  · cases hr
/-- A text that is not known: a byte of it, and a part of it. An oracle says `.nilIface` there. -/
def byteI (s : ByteArray) (i : Int) : Int := ((s.data.toList.getD i.toNat 0).toNat : Int)
def numsK (k : IntKind) : List Value → Option (List Int)
  | [] => some []
  | .int j n :: l =>
    if Nat.beq (kIx j) (kIx k) then
      match numsK k l with
      | some ns => some (n :: ns)
      | none => none
    else none
  | _ => none
theorem numsK_ok {k : IntKind} : ∀ {l : List Value} {ns : List Int}, numsK k l = some ns → l = ns.map (.int k)
  | [], ns, h => by cases h; rfl
  | x :: l, ns, h => by
    unfold numsK at h
    split at h
    · rename_i he; cases he
    · rename_i j n l' he
      cases he
      split at h
      · rename_i hk
        split at h
        · rename_i ns' hn
          cases h
          rw [kIx_inj (Nat.beq (kIx j) (kIx k) |> fun _ => hk), numsK_ok hn]
          rfl
        · cases h
      · cases h
    · cases h
/-- The numbers of a list, all of one kind. -/
def numsOf : List Value → Option (IntKind × List Int)
  | .int k n :: l =>
    match numsK k l with
    | some ns => some (k, n :: ns)
    | none => none
  | _ => none
theorem numsOf_ok {l : List Value} {k : IntKind} {ns : List Int} (h : numsOf l = some (k, ns)) : l = ns.map (.int k) := by
  unfold numsOf at h
  split at h
  · split at h
    · rename_i ns' hn
      cases h
      rw [numsK_ok hn]; rfl
    · cases h
  · cases h
def strOp (P : Program) (ρ : Operand → Value) (o : Oper) : Option (Value × Cs) :=
  match o.op with
  | .index t x ix =>
    match P.underlying t, ρ x, ρ ix with
    | some .string, .string s, .int _ i => some (.int .u8 (byteI s i), [(b2i (decide (0 ≤ i) && decide (i < (s.size : Int))), 1)])
    | some (.array len e), .agg cs, .int _ i =>
      match P.underlying e, P.info? e, numsOf cs.toList with
      | some d, some n, some (k, ns) =>
        if !aggD d && Nat.beq n.size 1 then some (.int k (ns.getD i.toNat 0), [(b2i (decide (0 ≤ i) && (decide (i < (len : Int)) && decide (i.toNat < ns.length))), 1)]) else none
      | _, _, _ => none
    | _, _, _ => none
  | .slice t x lo hi none =>
    match P.underlying t, ρ x, lo.map ρ, hi.map ρ with
    | some .string, .string s, some (.int _ l), none => some (.string (s.extract l.toNat s.size), [(b2i (decide (0 ≤ l) && decide (l ≤ (s.size : Int))), 1)])
    | some .string, .string s, none, some (.int _ h) => some (.string (s.extract 0 h.toNat), [(b2i (decide (0 ≤ h) && decide (h ≤ (s.size : Int))), 1)])
    | some .string, .string s, some (.int _ l), some (.int _ h) => some (.string (s.extract l.toNat h.toNat), [(b2i (decide (0 ≤ l) && (decide (l ≤ h) && decide (h ≤ (s.size : Int)))), 1)])
    | _, _, _, _ => none
  | .binOp .add _ x y _ =>
    match ρ x, ρ y with
    | .string a, .string c => some (.string ⟨⟨a.data.toList ++ c.data.toList⟩⟩, [(b2i (decide (((a.size + c.size : Nat) : Int) ≤ 9223372036854775807)), 1)])
    | _, _ => none
  | _ => none
theorem strOp_ok {P : Program} {s : Ren} {ρ ρ' : Operand → Value} {o : Oper} {v : Value} {cs : Cs} (hρ : ∀ x ∈ o.op.operands, VR s (ρ x) (ρ' x)) (h : strOp P ρ o = some (v, cs)) (hc : ∀ c ∈ cs, c.1 = c.2) (w : World) :
    (execOp ρ' o).run P w = .ok (.value v) w ∧ flat v = true := by
  obtain ⟨dst, op, type, pos, after, guard⟩ := o
  unfold strOp at h
  cases op <;> simp only at h <;> try (cases h; done)
  case binOp b t x y t2 =>
    cases b <;> simp only at h <;> try (cases h; done)
    have hx := hρ x (by simp [Op.operands])
    have hy := hρ y (by simp [Op.operands])
    split at h
    · rename_i a c hxs hys
      cases h
      rw [hxs] at hx
      rw [hys] at hy
      have ex := hx.eq_of_flat rfl
      have ey := hy.eq_of_flat rfl
      have h0 : decide (((a.size + c.size : Nat) : Int) ≤ 9223372036854775807) = true := b2i_inj (b := true) (hc _ (List.mem_singleton.2 rfl))
      have h1 := of_decide_eq_true h0
      have hv : oFastStr .add a c = some (.string ⟨⟨a.data.toList ++ c.data.toList⟩⟩) := by
        unfold oFastStr
        simp only
        rw [if_neg (by have e : IntKind.i64.max = 9223372036854775807 := by decide
                       omega)]
      refine ⟨?_, rfl⟩
      simp [execOp, ex, ey, str_guard, oFastStr_ok hv]
    · cases h
  case index t x ix =>
    have hx := hρ x (by simp [Op.operands])
    have hi := hρ ix (by simp [Op.operands])
    split at h
    · rename_i d a k i hu hxs his
      cases h
      rw [hxs] at hx
      rw [his] at hi
      have ex := hx.eq_of_flat rfl
      have ei := hi.eq_of_flat rfl
      have h0 : (decide (0 ≤ i) && decide (i < (a.size : Int))) = true := b2i_inj (b := true) (hc _ (List.mem_singleton.2 rfl))
      simp only [Bool.and_eq_true, decide_eq_true_eq] at h0
      have hlt : i.toNat < a.size := by omega
      refine ⟨?_, rfl⟩
      have e1 : a[i.toNat]? = some (a.data.toList.getD i.toNat 0) := by
        rw [getElem?_pos a i.toNat hlt]
        congr 1
        have hl : i.toNat < a.data.toList.length := by simpa using hlt
        rw [List.getD_eq_getElem?_getD, List.getElem?_eq_getElem hl]
        rfl
      simp [execOp, Instr.index, ex, ei, run_under hu, asIntOf, h0.1, e1, byteI]
    · rename_i d len e cs kk i hu hxs his
      split at h
      · rename_i de ne k ns hd hne hns
        split at h
        · rename_i hc1
          cases h
          simp only [Bool.and_eq_true, Bool.not_eq_true'] at hc1
          have hsz := Nat.eq_of_beq_eq_true hc1.2
          have hcs := numsOf_ok hns
          rw [hxs] at hx
          rw [his] at hi
          obtain ⟨cs⟩ := cs
          simp only at hcs
          have hfl : flat (.agg ⟨cs⟩) = true := by
            simp only [flat, flat1]
            rw [hcs]
            exact List.all_eq_true.2 fun v hv => by obtain ⟨n, _, rfl⟩ := List.mem_map.1 hv; rfl
          have ex := hx.eq_of_flat hfl
          have ei := hi.eq_of_flat rfl
          have h0 : (decide (0 ≤ i) && (decide (i < (len : Int)) && decide (i.toNat < ns.length))) = true := b2i_inj (b := true) (hc _ (List.mem_singleton.2 rfl))
          simp only [Bool.and_eq_true, decide_eq_true_eq] at h0
          obtain ⟨g1, g2, g3⟩ := h0
          refine ⟨?_, rfl⟩
          have hget : cs[i.toNat]? = some (.int k (ns.getD i.toNat 0)) := by
            rw [hcs, List.getElem?_map, List.getElem?_eq_getElem g3, List.getD_eq_getElem?_getD, List.getElem?_eq_getElem g3]
            rfl
          have hpart : oPart P e cs (i.toNat * ne.size) = some (.int k (ns.getD i.toNat 0)) := by
            unfold oPart
            rw [hd, hne]
            simp only [hc1.1, Bool.false_eq_true, if_false, hsz, Nat.mul_one]
            exact hget
          obtain ⟨v', h1, h2⟩ := part_ok (P := P) (s := s) (w := w) (LR.ofFlat (by rw [hcs]; exact List.all_eq_true.2 fun v hv => by obtain ⟨n, _, rfl⟩ := List.mem_map.1 hv; rfl)) hpart
          have e2 := h2.eq_of_flat rfl
          subst e2
          simp [execOp, Instr.index, ex, ei, asIntOf, run_under hu, g1, g2, run_size hne, h1]
        · cases h
      · cases h
    · cases h
  case slice t x lo hi mx =>
    cases mx with
    | some m => cases h
    | none =>
    have hx := hρ x (by simp [Op.operands])
    simp only at h
    split at h
    · rename_i d a k l hu hxs hlo hhi
      cases h
      rw [hxs] at hx
      have ex := hx.eq_of_flat rfl
      cases lo with
      | none => cases hlo
      | some lx =>
      cases hi with
      | some hy => cases hhi
      | none =>
      simp only [Option.map_some, Option.some.injEq] at hlo
      have hl := hρ lx (by simp [Op.operands])
      rw [hlo] at hl
      have el := hl.eq_of_flat rfl
      have h0 : (decide (0 ≤ l) && decide (l ≤ (a.size : Int))) = true := b2i_inj (b := true) (hc _ (List.mem_singleton.2 rfl))
      simp only [Bool.and_eq_true, decide_eq_true_eq] at h0
      refine ⟨?_, rfl⟩
      simp [execOp, Instr.sliceAt, Instr.slice, ex, el, run_under hu, Instr.sliceBounds, Instr.sliceBound, asIntOf, h0.1, h0.2]
    · rename_i d a k l hu hxs hlo hhi
      cases h
      rw [hxs] at hx
      have ex := hx.eq_of_flat rfl
      cases lo with
      | some lx => cases hlo
      | none =>
      cases hi with
      | none => cases hhi
      | some hy =>
      simp only [Option.map_some, Option.some.injEq] at hhi
      have hl := hρ hy (by simp [Op.operands])
      rw [hhi] at hl
      have el := hl.eq_of_flat rfl
      have h0 : (decide (0 ≤ l) && decide (l ≤ (a.size : Int))) = true := b2i_inj (b := true) (hc _ (List.mem_singleton.2 rfl))
      simp only [Bool.and_eq_true, decide_eq_true_eq] at h0
      refine ⟨?_, rfl⟩
      simp [execOp, Instr.sliceAt, Instr.slice, ex, el, run_under hu, Instr.sliceBounds, Instr.sliceBound, asIntOf, h0.1, h0.2]
    · rename_i d a k l k2 m hu hxs hlo hhi
      cases h
      rw [hxs] at hx
      have ex := hx.eq_of_flat rfl
      cases lo with
      | none => cases hlo
      | some lx =>
      cases hi with
      | none => cases hhi
      | some hy =>
      simp only [Option.map_some, Option.some.injEq] at hlo hhi
      have hl := hρ lx (by simp [Op.operands])
      rw [hlo] at hl
      have el := hl.eq_of_flat rfl
      have hm := hρ hy (by simp [Op.operands])
      rw [hhi] at hm
      have em := hm.eq_of_flat rfl
      have h0 : (decide (0 ≤ l) && (decide (l ≤ m) && decide (m ≤ (a.size : Int)))) = true := b2i_inj (b := true) (hc _ (List.mem_singleton.2 rfl))
      simp only [Bool.and_eq_true, decide_eq_true_eq] at h0
      refine ⟨?_, rfl⟩
      have h1 : 0 ≤ m := by omega
      simp [execOp, Instr.sliceAt, Instr.slice, ex, el, em, run_under hu, Instr.sliceBounds, Instr.sliceBound, asIntOf, h0.1, h0.2.2, h1]
      intro hh
      rw [Int.max_eq_left h1] at hh
      omega
    · cases h
/-- An element whose place is not known: its address; a number that lies there, where the block begins with numbers. An oracle says `.nilIface` there. -/
def prefN (k : IntKind) : List Value → List Int
  | .int j n :: l => if Nat.beq (kIx j) (kIx k) then n :: prefN k l else []
  | _ => []
def pref : List Value → Option (IntKind × List Int)
  | .int k n :: l => some (k, n :: prefN k l)
  | _ => none
theorem prefN_ok {k : IntKind} : ∀ {l : List Value} {i : Nat}, i < (prefN k l).length → l[i]? = some (.int k ((prefN k l).getD i 0))
  | [], i, h => by simp [prefN] at h
  | x :: l, i, h => by
    unfold prefN at h ⊢
    split at h
    · rename_i j n l' he
      cases he
      by_cases hk : Nat.beq (kIx j) (kIx k) = true
      · simp only [hk, if_true] at h ⊢
        obtain rfl := kIx_inj hk
        cases i with
        | zero => rfl
        | succ i =>
          simp only [List.length_cons, Nat.succ_lt_succ_iff] at h
          simpa using prefN_ok h
      · rw [if_neg hk] at h
        simp at h
    · simp at h
theorem pref_ok {l : List Value} {k : IntKind} {ns : List Int} (h : pref l = some (k, ns)) {i : Nat} (hi : i < ns.length) : l[i]? = some (.int k (ns.getD i 0)) := by
  unfold pref at h
  split at h
  · rename_i j n l'
    cases h
    cases i with
    | zero => rfl
    | succ i =>
      simp only [List.length_cons, Nat.succ_lt_succ_iff] at hi
      simpa using prefN_ok hi
  · cases h
theorem add_spot {a : Addr} (h : a.spot = none) (n : Nat) : (⟨a.block, a.off + n, none⟩ : Addr) = a.add n := by
  obtain ⟨b, o, sp⟩ := a
  simp only at h
  subst h
  unfold Addr.add
  by_cases e : n = 0
  · subst e; rfl
  · rw [if_neg e]
def xOp (P : Program) (ρ : Operand → Value) (h : List AO) (o : Oper) : Option (Value × Cs) :=
  match o.op with
  | .indexAddr t x ix =>
    match ρ ix, P.underlying t, ρ x with
    | .int _ i, some (.array len e), .pointer (some a) =>
      match P.info? e with
      | some n =>
        match a.spot with
        | none => some (.pointer (some ⟨a.block, a.off + i.toNat * n.size, none⟩), [(b2i (decide (0 ≤ i) && decide (i < len)), 1)])
        | some _ => none
      | none => none
    | _, _, _ => none
  | .load t x =>
    match ρ x, P.underlying t, P.info? t with
    | .pointer (some a), some d, some _ =>
      if aggD d then none
      else
        match h[a.block]? with
        | some b =>
          if b.live && !isM b then
            match pref b.cs with
            | some (k, ns) => some (.int k (ns.getD a.off 0), [(b2i (decide (a.off < ns.length)), 1)])
            | none => none
          else none
        | none => none
    | _, _, _ => none
  | _ => none
theorem xOp_ok {P : Program} {s : Ren} {ρ ρ' : Operand → Value} {h : List AO} {w : World} (H : MR s h w) {o : Oper} {v : Value} {cs : Cs} (hρ : ∀ x ∈ o.op.operands, VR s (ρ x) (ρ' x)) (hr : xOp P ρ h o = some (v, cs)) (hc : ∀ c ∈ cs, c.1 = c.2) :
    Okay0 P s h w (execOp ρ' o) (.value v, h, none) := by
  obtain ⟨dst, op, type, pos, after, guard⟩ := o
  unfold xOp at hr
  cases op <;> simp only at hr <;> try (cases hr; done)
  case indexAddr t x ix =>
    have hx := hρ x (by simp [Op.operands])
    have hi := hρ ix (by simp [Op.operands])
    split at hr
    · rename_i kk i len e a hix hu hxa
      split at hr
      · rename_i n hn
        split at hr
        · rename_i hsp
          cases hr
          have h0 : (decide (0 ≤ i) && decide (i < len)) = true := b2i_inj (b := true) (hc _ (List.mem_singleton.2 rfl))
          rw [add_spot hsp]
          have ho : oIndexAt P t (ρ x) (ρ ix) h = some (.value (.pointer (some (a.add (i.toNat * n.size)))), h, none) := by
            unfold oIndexAt
            rw [hix, hu, hxa]
            simp only
            rw [hn]
            simp only
            rw [if_pos h0]
          exact indexAt_ok hx hi ho
        · cases hr
      · cases hr
    · cases hr
  case load t x =>
    have hx := hρ x (by simp [Op.operands])
    split at hr
    · rename_i a d i0 hxa hd hi
      split at hr
      · cases hr
      · rename_i hag
        split at hr
        · rename_i b hb
          split at hr
          · rename_i hlv
            split at hr
            · rename_i k ns hp
              cases hr
              have h0 : decide (a.off < ns.length) = true := b2i_inj (b := true) (hc _ (List.mem_singleton.2 rfl))
              have h1 := pref_ok hp (of_decide_eq_true h0)
              have hlt := (List.getElem?_eq_some_iff.1 h1).1
              simp only [Bool.and_eq_true] at hlv
              have hal : aload h a 1 = some [.int k (ns.getD a.off 0)] := by
                unfold aload
                rw [hb]
                simp only [hlv.1, hlv.2, Bool.true_and, decide_eq_true (show a.off + 1 ≤ b.cs.length by omega), if_true, Option.some.injEq]
                apply List.ext_getElem?
                intro j
                rw [List.getElem?_take]
                cases j with
                | zero => simp [List.getElem?_drop, h1]
                | succ j => simp
              have ho : oLoad P t (ρ x) h = some (.value (.int k (ns.getD a.off 0)), h, none) := by
                unfold oLoad
                rw [hxa, hd, hi]
                simp only [hag, Bool.false_eq_true, if_false]
                rw [hal]
              exact load_ok H hx ho
            · cases hr
          · cases hr
        · cases hr
    · cases hr
/-- A slice of which it is not known how many it has, nor where it begins: an element's address; a number that lies there; a part of it. An oracle says `.nilIface` there. -/
def isKV (k : IntKind) : Value → Bool
  | .int j _ => Nat.beq (kIx j) (kIx k)
  | _ => false
def nOfV : Value → Int
  | .int _ n => n
  | _ => 0
theorem isKV_eq {k : IntKind} {v : Value} (h : isKV k v = true) : v = .int k (nOfV v) := by
  unfold isKV at h
  split at h
  · rename_i j n
    rw [kIx_inj h]
    rfl
  · cases h
def slOp (P : Program) (ρ : Operand → Value) (h : List AO) (o : Oper) : Option (Value × Cs) :=
  match o.op with
  | .indexAddr t x ix =>
    match ρ ix, P.underlying t, ρ x with
    | .int _ i, some (.slice e), .slice (some a) len _ =>
      match P.info? e with
      | some n =>
        match a.spot with
        | none => some (.pointer (some ⟨a.block, a.off + i.toNat * n.size, none⟩), [(b2i (decide (0 ≤ i) && decide (i < len)), 1)])
        | some _ => none
      | none => none
    | _, _, _ => none
  | .load t x =>
    match ρ x, P.underlying t, P.info? t with
    | .pointer (some a), some (.int k), some _ =>
      match h[a.block]? with
      | some b =>
        if b.live && !isM b then some (.int k (nOfV (b.cs.getD a.off .nilFunc)), [(b2i (decide (a.off < b.cs.length) && isKV k (b.cs.getD a.off .nilFunc)), 1)])
        else none
      | none => none
    | _, _, _ => none
  | .slice t x lo none none =>
    match P.underlying t, ρ x, lo.map ρ with
    | some (.slice e), .slice (some a) len cap, some (.int _ l) =>
      match P.info? e, esOf h a.block with
      | some i, some none => some (.slice (some ⟨a.block, bif Nat.beq cap l.toNat then a.off else a.off + l.toNat * i.size, none⟩) (len - l.toNat) (cap - l.toNat), [(b2i (decide (0 ≤ l) && decide (l ≤ len)), 1)])
      | _, _ => none
    | _, _, _ => none
  | _ => none
theorem slOp_ok {P : Program} {s : Ren} {ρ ρ' : Operand → Value} {h : List AO} {w : World} (H : MR s h w) {o : Oper} {v : Value} {cs : Cs} (hρ : ∀ x ∈ o.op.operands, VR s (ρ x) (ρ' x)) (hr : slOp P ρ h o = some (v, cs)) (hc : ∀ c ∈ cs, c.1 = c.2) :
    Okay0 P s h w (execOp ρ' o) (.value v, h, none) := by
  obtain ⟨dst, op, type, pos, after, guard⟩ := o
  unfold slOp at hr
  cases op <;> simp only at hr <;> try (cases hr; done)
  case indexAddr t x ix =>
    have hx := hρ x (by simp [Op.operands])
    have hi := hρ ix (by simp [Op.operands])
    split at hr
    · rename_i kk i e a len cp hix hu hxa
      split at hr
      · rename_i n hn
        split at hr
        · rename_i hsp
          cases hr
          have h0 : (decide (0 ≤ i) && decide (i < len)) = true := b2i_inj (b := true) (hc _ (List.mem_singleton.2 rfl))
          rw [add_spot hsp]
          have ho : oIndexAt P t (ρ x) (ρ ix) h = some (.value (.pointer (some (a.add (i.toNat * n.size)))), h, none) := by
            unfold oIndexAt
            rw [hix, hu, hxa]
            simp only
            rw [hn]
            simp only
            rw [if_pos h0]
          exact indexAt_ok hx hi ho
        · cases hr
      · cases hr
    · cases hr
  case load t x =>
    have hx := hρ x (by simp [Op.operands])
    split at hr
    · rename_i a k i0 hxa hd hi
      split at hr
      · rename_i b hb
        split at hr
        · rename_i hlv
          cases hr
          have h0 : (decide (a.off < b.cs.length) && isKV k (b.cs.getD a.off .nilFunc)) = true := b2i_inj (b := true) (hc _ (List.mem_singleton.2 rfl))
          simp only [Bool.and_eq_true, decide_eq_true_eq] at h0
          simp only [Bool.and_eq_true] at hlv
          have h1 : b.cs[a.off]? = some (.int k (nOfV (b.cs.getD a.off .nilFunc))) := by
            rw [← isKV_eq h0.2, List.getD_eq_getElem?_getD, List.getElem?_eq_getElem h0.1]
            rfl
          have hal : aload h a 1 = some [.int k (nOfV (b.cs.getD a.off .nilFunc))] := by
            unfold aload
            rw [hb]
            simp only [hlv.1, hlv.2, Bool.true_and, decide_eq_true (show a.off + 1 ≤ b.cs.length by omega), if_true, Option.some.injEq]
            apply List.ext_getElem?
            intro j
            rw [List.getElem?_take]
            cases j with
            | zero => simp only [List.getElem?_drop, Nat.add_zero, h1]; rfl
            | succ j => simp
          have ho : oLoad P t (ρ x) h = some (.value (.int k (nOfV (b.cs.getD a.off .nilFunc))), h, none) := by
            unfold oLoad
            rw [hxa, hd, hi]
            simp only [aggD, Bool.false_eq_true, if_false]
            rw [hal]
          exact load_ok H hx ho
        · cases hr
      · cases hr
    · cases hr
  case slice t x lo hi mx =>
    have hx := hρ x (by simp [Op.operands])
    cases hi with
    | some y => cases hr
    | none =>
      cases mx with
      | some y => cases hr
      | none =>
        simp only at hr
        split at hr
        · rename_i e a len cap kk l hu hxa hlo
          split at hr
          · rename_i i hi0 hes
            cases hr
            have h0 : (decide (0 ≤ l) && decide (l ≤ len)) = true := b2i_inj (b := true) (hc _ (List.mem_singleton.2 rfl))
            simp only [Bool.and_eq_true, decide_eq_true_eq] at h0
            rw [hxa] at hx
            obtain ⟨p, c', hs, hp, hcap, hv'⟩ := hx.slice_inv
            have ha : (if cap = l.toNat then a else a.add (l.toNat * i.size)) = ⟨a.block, bif Nat.beq cap l.toNat then a.off else a.off + l.toNat * i.size, none⟩ := by
              by_cases he : cap = l.toNat
              · rw [if_pos he, show Nat.beq cap l.toNat = true from by rw [Nat.beq_eq]; exact he, cond_true, ← hs]
              · rw [if_neg he, (add_vr (p := p) hs _).1, show Nat.beq cap l.toNat = false from by
                  cases hb : Nat.beq cap l.toNat with
                  | false => rfl
                  | true => exact absurd (Nat.eq_of_beq_eq_true hb) he, cond_false]
            have ho : oSlice P t (ρ x) (lo.map ρ) none h = some (.value (.slice (some ⟨a.block, bif Nat.beq cap l.toNat then a.off else a.off + l.toNat * i.size, none⟩) (len - l.toNat) (cap - l.toNat)), h, none) := by
              unfold oSlice
              rw [hxa, hu, hlo]
              simp only [hi0, hes, hiA, loA]
              rw [if_pos ⟨h0.1, h0.2⟩]
              simp only [ha]
            rw [← hxa] at hx
            refine slice_ok (lo := lo.map ρ) (lo' := lo.map ρ') (hi := none) (hi' := none) H hx ?_ trivial ho
            cases lo with
            | none => trivial
            | some y => exact hρ y (by simp [Op.operands])
          · cases hr
        · cases hr
/-- A slice of a slice from and to places that are not known. -/
def loI (lo : Option Value) : Option Int :=
  match lo with
  | none => some 0
  | some (.int _ i) => some i
  | _ => none
def hiI (hi : Option Value) (len : Nat) : Option Int :=
  match hi with
  | none => some (Int.ofNat len)
  | some (.int _ i) => some i
  | _ => none
theorem loA_loI {lo : Option Value} {l : Int} {n : Nat} (h : loI lo = some l) (h0 : 0 ≤ l) (h1 : l.toNat ≤ n) : loA lo n = some l.toNat := by
  unfold loI at h
  split at h
  · cases h; rfl
  · cases h
    unfold loA
    simp only
    rw [if_pos ⟨h0, by omega⟩]
  · cases h
theorem hiA_hiI {hi : Option Value} {u : Int} {len n : Nat} (h : hiI hi len = some u) (h0 : 0 ≤ u) (h1 : u ≤ (n : Int)) : hiA hi len n = some u.toNat := by
  unfold hiI at h
  split at h
  · cases h; rfl
  · cases h
    unfold hiA
    simp only
    rw [if_pos ⟨h0, h1⟩]
  · cases h
def sl2Op (P : Program) (ρ : Operand → Value) (h : List AO) (o : Oper) : Option (Value × Cs) :=
  match o.op with
  | .slice t x lo hi none =>
    match P.underlying t, ρ x with
    | some (.slice e), .slice (some a) len cap =>
      match P.info? e, esOf h a.block, loI (lo.map ρ), hiI (hi.map ρ) len with
      | some i, some none, some l, some u =>
        some (.slice (some ⟨a.block, bif Nat.beq cap l.toNat then a.off else a.off + l.toNat * i.size, none⟩) (u.toNat - l.toNat) (cap - l.toNat), [(b2i ((decide (0 ≤ u) && decide (u ≤ (cap : Int))) && (decide (0 ≤ l) && decide (l ≤ u))), 1)])
      | some i, some (some q), some l, some u =>
        if Nat.beq q i.size then
          some (.slice (some ⟨a.block, a.off + l.toNat * i.size, none⟩) (u.toNat - l.toNat) (u.toNat - l.toNat), [(b2i ((decide (0 ≤ u) && decide (u ≤ (len : Int))) && ((decide (0 ≤ l) && decide (l ≤ u)) && (decide (l = 0) || decide (l < (len : Int))))), 1)])
        else none
      | _, _, _, _ => none
    | _, _ => none
  | _ => none
theorem sl2Op_ok {P : Program} {s : Ren} {ρ ρ' : Operand → Value} {h : List AO} {w : World} (H : MR s h w) {o : Oper} {v : Value} {cs : Cs} (hρ : ∀ x ∈ o.op.operands, VR s (ρ x) (ρ' x)) (hr : sl2Op P ρ h o = some (v, cs)) (hc : ∀ c ∈ cs, c.1 = c.2) :
    Okay0 P s h w (execOp ρ' o) (.value v, h, none) := by
  obtain ⟨dst, op, type, pos, after, guard⟩ := o
  unfold sl2Op at hr
  cases op <;> simp only at hr <;> try (cases hr; done)
  case slice t x lo hi mx =>
    have hx := hρ x (by simp [Op.operands])
    cases mx with
    | some y => cases hr
    | none =>
      have hlr : OR s (lo.map ρ) (lo.map ρ') := by
        cases lo with
        | none => trivial
        | some y => exact hρ y (by simp [Op.operands])
      have hhr : OR s (hi.map ρ) (hi.map ρ') := by
        cases hi with
        | none => trivial
        | some y => exact hρ y (by simp [Op.operands])
      simp only at hr
      split at hr
      · rename_i e a len cap hu hxa
        rw [hxa] at hx
        obtain ⟨p, c', hs, hp, hcap, hv'⟩ := hx.slice_inv
        rw [← hxa] at hx
        split at hr
        · rename_i i l u hi0 hes hli hui
          cases hr
          have h0 := b2i_inj (b := true) (hc _ (List.mem_singleton.2 rfl))
          simp only [Bool.and_eq_true, decide_eq_true_eq] at h0
          have ha : (if cap = l.toNat then a else a.add (l.toNat * i.size)) = ⟨a.block, bif Nat.beq cap l.toNat then a.off else a.off + l.toNat * i.size, none⟩ := by
            by_cases he : cap = l.toNat
            · rw [if_pos he, show Nat.beq cap l.toNat = true from by rw [Nat.beq_eq]; exact he, cond_true, ← hs]
            · rw [if_neg he, (add_vr (p := p) hs _).1, show Nat.beq cap l.toNat = false from by
                cases hb : Nat.beq cap l.toNat with
                | false => rfl
                | true => exact absurd (Nat.eq_of_beq_eq_true hb) he, cond_false]
          refine slice_ok (lo := lo.map ρ) (lo' := lo.map ρ') (hi := hi.map ρ) (hi' := hi.map ρ') H hx hlr hhr ?_
          unfold oSlice
          rw [hxa, hu]
          simp only [hi0, hes, hiA_hiI hui h0.1.1 h0.1.2, loA_loI hli h0.2.1 (n := u.toNat) (by omega), ha]
        · rename_i i q l u hi0 hes hli hui
          split at hr
          · rename_i hq
            cases hr
            have h0 := b2i_inj (b := true) (hc _ (List.mem_singleton.2 rfl))
            simp only [Bool.and_eq_true, Bool.or_eq_true, decide_eq_true_eq] at h0
            refine slice_ok (lo := lo.map ρ) (lo' := lo.map ρ') (hi := hi.map ρ) (hi' := hi.map ρ') H hx hlr hhr ?_
            unfold oSlice
            rw [hxa, hu]
            simp only [hi0, hes, hiA_hiI hui h0.1.1 h0.1.2, loA_loI hli h0.2.1.1 (n := u.toNat) (by omega)]
            rw [if_pos ⟨Nat.eq_of_beq_eq_true hq, by omega⟩, (add_vr (p := p) hs _).1]
          · cases hr
        · cases hr
      · cases hr
def s2Op (P : Program) (ρ : Operand → Value) (h : List AO) (o : Oper) : Option (Value × Cs) :=
  match slOp P ρ h o with
  | some r => some r
  | none => sl2Op P ρ h o
theorem s2Op_ok {P : Program} {s : Ren} {ρ ρ' : Operand → Value} {h : List AO} {w : World} (H : MR s h w) {o : Oper} {v : Value} {cs : Cs} (hρ : ∀ x ∈ o.op.operands, VR s (ρ x) (ρ' x)) (hr : s2Op P ρ h o = some (v, cs)) (hc : ∀ c ∈ cs, c.1 = c.2) :
    Okay0 P s h w (execOp ρ' o) (.value v, h, none) := by
  unfold s2Op at hr
  split at hr
  · rename_i r hq
    cases hr
    exact slOp_ok H hρ hq hc
  · exact sl2Op_ok H hρ hr hc
/-- In heads, at a mark: an operation on numbers or on texts; one that only reads the heap. -/
def qsOp (P : Program) (ρ : Operand → Value) (o : Oper) : Option (Value × Cs) :=
  match qOp ρ o with
  | some r => some r
  | none => strOp P ρ o
theorem qsOp_ok {P : Program} {s : Ren} {ρ ρ' : Operand → Value} {o : Oper} {v : Value} {cs : Cs} (hρ : ∀ x ∈ o.op.operands, VR s (ρ x) (ρ' x)) (h : qsOp P ρ o = some (v, cs)) (hc : ∀ c ∈ cs, c.1 = c.2) (w : World) :
    (execOp ρ' o).run P w = .ok (.value v) w ∧ flat v = true := by
  unfold qsOp at h
  split at h
  · rename_i r hq
    cases h
    exact qOp_ok hρ hq hc w
  · exact strOp_ok hρ h hc w
def xsOp (P : Program) (ρ : Operand → Value) (h : List AO) (o : Oper) : Option (Value × Cs) :=
  match xOp P ρ h o with
  | some r => some r
  | none => s2Op P ρ h o
theorem xsOp_ok {P : Program} {s : Ren} {ρ ρ' : Operand → Value} {h : List AO} {w : World} (H : MR s h w) {o : Oper} {v : Value} {cs : Cs} (hρ : ∀ x ∈ o.op.operands, VR s (ρ x) (ρ' x)) (hr : xsOp P ρ h o = some (v, cs)) (hc : ∀ c ∈ cs, c.1 = c.2) :
    Okay0 P s h w (execOp ρ' o) (.value v, h, none) := by
  unfold xsOp at hr
  split at hr
  · rename_i r hq
    cases hr
    exact xOp_ok H hρ hq hc
  · exact s2Op_ok H hρ hr hc
/-- Bytes of which it is not known how many there are: made; as a text. An oracle says `.nilIface` there. -/
def u8Of : Value → UInt8
  | .int _ n => UInt8.ofNat n.toNat
  | _ => 0
def isU8 : Value → Bool
  | .int .u8 _ => true
  | _ => false
theorem nsOf_all : ∀ {l : List Value}, l.all isU8 = true → ∃ ns, nsOf l = some ns ∧ (ns.map fun n => UInt8.ofNat n.toNat) = l.map u8Of
  | [], _ => ⟨[], rfl, rfl⟩
  | x :: l, h => by
    simp only [List.all_cons, Bool.and_eq_true] at h
    obtain ⟨ns, h1, h2⟩ := nsOf_all h.2
    have hx := h.1
    unfold isU8 at hx
    split at hx
    · rename_i n
      exact ⟨n :: ns, by simp [nsOf, h1], by simp [u8Of, h2]⟩
    · cases hx
theorem all_part {l : List Value} (h : l.all isU8 = true) (a n : Nat) : ((l.drop a).take n).all isU8 = true :=
  List.all_eq_true.2 fun x hx => List.all_eq_true.1 h x (List.mem_of_mem_drop (List.mem_of_mem_take hx))
theorem repeatZ_one (x : Value) (n : Nat) : (repeatZ #[x] n).toList = List.replicate n x := by
  simp only [repeatZ, List.length_singleton, Nat.mod_one, List.getD_cons_zero]
  exact List.ext_getElem (by simp) (by simp)
def bOp (P : Program) (ρ : Operand → Value) (h : List AO) (o : Oper) : Option (Value × List AO × Cs) :=
  match o.op with
  | .makeSlice t len cap =>
    match P.underlying t, ρ len, ρ cap with
    | some (.slice e), .int _ l, .int _ c =>
      match P.info? e with
      | some i =>
        match i.zero with
        | some (.int .u8 n0) =>
          if Nat.beq i.bytes 1 && (Nat.beq i.size 1 && n0 == 0) then
            some (.slice (some ⟨h.length, 0, none⟩) l.toNat c.toNat, [⟨true, none, List.replicate c.toNat (.int .u8 0)⟩], [(b2i (decide (0 ≤ l) && (decide (l ≤ c) && decide (c ≤ 1000000))), 1)])
          else none
        | _ => none
      | none => none
    | _, _, _ => none
  | .convert src dst x =>
    match P.underlying src, P.underlying dst, ρ x with
    | some (.slice e), some .string, .slice (some a) l _ =>
      match P.underlying e, h[a.block]? with
      | some (.int .u8), some b =>
        if b.live && !isM b then some (.string ⟨⟨((b.cs.drop a.off).take l).map u8Of⟩⟩, [], [(b2i (b.cs.all isU8 && decide (a.off + l ≤ b.cs.length)), 1)]) else none
      | _, _ => none
    | _, _, _ => none
  | _ => none
theorem bOp_ok {P : Program} {wb : Wb} {k : Nat} {s : Ren} {ρ ρ' : Operand → Value} {h : List AO} {w : World} (H : HR wb k s h w) {o : Oper} {v : Value} {bs : List AO} {cs : Cs} (hρ : ∀ x ∈ o.op.operands, VR s (ρ x) (ρ' x)) (hr : bOp P ρ h o = some (v, bs, cs)) (hc : ∀ c ∈ cs, c.1 = c.2) :
    ∃ s' v' w', (execOp ρ' o).run P w = .ok (.value v') w' ∧ Le s s' ∧ HR wb k s' (h ++ bs) w' ∧ VR s' v v' := by
  obtain ⟨dst, op, type, pos, after, guard⟩ := o
  unfold bOp at hr
  cases op <;> simp only at hr <;> try (cases hr; done)
  case makeSlice t len cap =>
    have hl := hρ len (by simp [Op.operands])
    have hcp := hρ cap (by simp [Op.operands])
    split at hr
    · rename_i e k1 l k2 c hu hle hca
      split at hr
      · rename_i i hi
        split at hr
        · rename_i n0 hz
          split at hr
          · rename_i hcond
            cases hr
            simp only [Bool.and_eq_true] at hcond
            obtain ⟨g1, g2, g3⟩ := hcond
            have g1 := Nat.eq_of_beq_eq_true g1
            have g2 := Nat.eq_of_beq_eq_true g2
            obtain rfl := eq_of_beq g3
            have h0 : (decide (0 ≤ l) && (decide (l ≤ c) && decide (c ≤ 1000000))) = true := b2i_inj (b := true) (hc _ (List.mem_singleton.2 rfl))
            simp only [Bool.and_eq_true, decide_eq_true_eq] at h0
            obtain ⟨a1, a2, a3⟩ := h0
            have wr : ∀ x : Int, 0 ≤ x → x ≤ 1000000 → IntKind.i64.wrap x = x := by
              intro x h1 h2
              have e : x % 2 ^ 64 = x := by omega
              simp only [IntKind.wrap, IntKind.signed, IntKind.bits, e]
              rw [if_neg]
              simp only [Bool.true_and, decide_eq_true_eq]
              omega
            have ho : oMake P t (ρ len) (ρ cap) = some (List.replicate c.toNat (.int .u8 0), l.toNat, c.toNat) := by
              unfold oMake
              rw [hu, hle, hca]
              simp only
              rw [hi]
              simp only
              rw [if_pos (by
                simp [wr l a1 (by omega), wr c (by omega) a3, a1, a2, g1]
                omega), g2, Nat.mul_one]
              split
              · rename_i hz0
                rw [hz0]; rfl
              · rw [hz]
                simp only
                have e1 : (repeatZ (Value.int .u8 0).cells c.toNat).toList = List.replicate c.toNat (.int .u8 0) := repeatZ_one _ _
                rw [e1, if_pos (List.all_eq_true.2 fun x hx => by rw [List.eq_of_mem_replicate hx]; rfl)]
            obtain ⟨arr, T, e1, e2⟩ := make_ok hl hcp ho w
            obtain ⟨H', hle'⟩ := H.new' T e2
            refine ⟨_, _, _, by simp only [execOp, Sem.run_bind, e1, Result.andThen_ok, Sem.run_pure]; rfl, hle', H', ?_⟩
            exact VR.slice (a := ⟨h.length, 0, none⟩) rfl (upd_same _ _ _) (by unfold CapOk; rfl)
          · cases hr
        · cases hr
      · cases hr
    · cases hr
  case convert src dst x =>
    have hx := hρ x (by simp [Op.operands])
    split at hr
    · rename_i e a l c hsu hdu hxa
      split at hr
      · rename_i b heu hb
        split at hr
        · rename_i hlv
          cases hr
          have h0 : (b.cs.all isU8 && decide (a.off + l ≤ b.cs.length)) = true := b2i_inj (b := true) (hc _ (List.mem_singleton.2 rfl))
          simp only [Bool.and_eq_true, decide_eq_true_eq] at h0 hlv
          obtain ⟨ns, n1, n2⟩ := nsOf_all (all_part h0.1 a.off l)
          have hal : aload h a l = some ((b.cs.drop a.off).take l) := by
            unfold aload
            rw [hb]
            simp only [hlv.1, hlv.2, Bool.true_and, decide_eq_true h0.2, if_true]
          have ho : oToStr P src dst (ρ x) h = some (.value (.string ⟨⟨((b.cs.drop a.off).take l).map u8Of⟩⟩), h, none) := by
            unfold oToStr
            rw [hsu, hdu, hxa]
            simp only
            rw [heu]
            simp only
            rw [hal]
            simp only
            rw [n1]
            simp only [n2]
          obtain ⟨n', h1, h2, _⟩ := toStr_ok H.mr hx ho
          cases n' <;> simp only [NR] at h2
          rw [List.append_nil]
          exact ⟨s, _, w, h1, Le.refl s, H, h2⟩
        · cases hr
      · cases hr
    · cases hr
/-- Bytes put into a block at a place that is not known; bytes of an unknown number put behind nothing (a copy of its own). An oracle says `.nilIface` there. -/
theorem args_two7 {c : Call} {a b : Operand} (h : c.args.toList = [a, b]) (ρ : Operand → Value) : c.args.map ρ = #[ρ a, ρ b] := by
  apply Array.ext'
  rw [Array.toList_map, h]
  rfl
def mOp (P : Program) (ρ : Operand → Value) (h : List AO) (o : Oper) : Option (Value × List AO × Option Nat × Cs) :=
  match o.op with
  | .call c =>
    match c.callee, c.args.toList with
    | .builtin .copy, [a, b] =>
      match c.argTypes[0]?, ρ a, ρ b with
      | some dT, .slice (some p) dl _, .string x =>
        match P.underlying dT with
        | some (.slice e) =>
          match P.info? e, h[p.block]? with
          | some i, some q =>
            if Nat.beq i.size 1 && (q.live && isW q) then
              some (.int .i64 (x.size : Int), h.set p.block ⟨true, q.es, splice q.cs p.off (x.data.toList.map fun c => Value.int .u8 c.toNat)⟩, some p.block, [(b2i (decide (x.size ≤ dl) && decide (p.off + x.size ≤ q.cs.length)), 1)])
            else none
          | _, _ => none
        | _ => none
      | _, _, _ => none
    | .builtin .append, [a, b] =>
      match c.argTypes[0]?, c.argTypes[1]?, ρ a, ρ b with
      | some sT, some xT, .slice (some p) 0 0, .slice (some r) n _ =>
        match P.underlying sT, P.underlying xT with
        | some (.slice e), some d =>
          match P.info? e, h[r.block]?, h[p.block]? with
          | some i, some q, some u =>
            if Nat.beq i.size 1 && (!intD d && ((q.live && !isM q) && (u.live && (!isM u && (u.es.isNone && Nat.beq p.off 0))))) then
              some (.slice (some ⟨h.length, 0, none⟩) n n, h ++ [⟨true, some 1, (q.cs.drop r.off).take n⟩], none,
                [(b2i (decide (0 < n) && (decide (r.off + n ≤ q.cs.length) && (((q.cs.drop r.off).take n).all (·.oneCell') && roomB i n))), 1)])
            else none
          | _, _, _ => none
        | _, _ => none
      | _, _, _, _ => none
    | _, _ => none
  | _ => none
theorem oneCell_u8 (l : List UInt8) : (l.map fun c => Value.int .u8 c.toNat).all (·.oneCell') = true := List.all_eq_true.2 fun v hv => by obtain ⟨c, _, rfl⟩ := List.mem_map.1 hv; rfl
theorem mOp_ok {P : Program} {wb : Wb} {k : Nat} {s : Ren} {ρ ρ' : Operand → Value} {h : List AO} {w : World} (H : HR wb k s h w) {o : Oper} {v : Value} {h' : List AO} {m : Option Nat} {cs : Cs} (hρ : ∀ x ∈ o.op.operands, VR s (ρ x) (ρ' x))
    (hr : mOp P ρ h o = some (v, h', m, cs)) (hc : ∀ c ∈ cs, c.1 = c.2) (hk : ∀ i, m = some i → k ≤ i) : Okay P wb k s w (execOp ρ' o) (.value v, h', m) := by
  obtain ⟨dst, op, type, pos, after, guard⟩ := o
  unfold mOp at hr
  cases op <;> simp only at hr <;> try (cases hr; done)
  case call c =>
    have hop : ∀ a ∈ c.args.toList, VR s (ρ a) (ρ' a) := fun a ha => hρ a (by simp [Op.operands, Call.operands, Array.mem_toList_iff.1 ha])
    split at hr
    · rename_i a b hcal hargs
      have hva := hop a (by rw [hargs]; simp)
      have hvb := hop b (by rw [hargs]; simp)
      split at hr
      · rename_i dT p dl dc x h0 hpa hxb
        split at hr
        · rename_i e hu
          split at hr
          · rename_i i q hi hq
            split at hr
            · rename_i hcond
              cases hr
              simp only [Bool.and_eq_true] at hcond
              obtain ⟨g1, g2, g3⟩ := hcond
              have g1 := Nat.eq_of_beq_eq_true g1
              have hb0 : (decide (x.size ≤ dl) && decide (p.off + x.size ≤ q.cs.length)) = true := b2i_inj (b := true) (hc _ (List.mem_singleton.2 rfl))
              simp only [Bool.and_eq_true, decide_eq_true_eq] at hb0
              have hlen : (x.data.toList.map fun c => Value.int .u8 c.toNat).length = x.size := by simp
              have ho : oCopy P c.argTypes (ρ a) (ρ b) h = some (.value (.int .i64 (x.size : Int)), h.set p.block ⟨true, q.es, splice q.cs p.off (x.data.toList.map fun c => Value.int .u8 c.toNat)⟩, some p.block) := by
                unfold oCopy
                rw [h0, hpa, hxb]
                simp only [lenA]
                rw [hu]
                simp only
                rw [hi]
                simp only
                have hmin : Nat.min x.size dl = x.size := Nat.min_eq_left hb0.1
                have hsrc : srcCells (.string x) i.size (Nat.min x.size dl) h = some (x.data.toList.map fun c => Value.int .u8 c.toNat) := by
                  simp only [srcCells, hmin]
                  rw [List.take_of_length_le (by simp)]
                rw [hsrc]
                simp only [hmin]
                rw [if_pos ⟨by rw [hlen, g1, Nat.mul_one], oneCell_u8 _⟩]
                unfold astore
                rw [hq]
                simp only [g2, g3, Bool.true_and]
                rw [if_pos (by rw [hlen]; exact decide_eq_true hb0.2)]
              have := copy_ok (ty := type) H hva hvb ho hk
              simp only [execOp, resolve, hcal, args_two7 hargs, invoke, builtin, pure_bind]
              exact this
            · cases hr
          · cases hr
        · cases hr
      · cases hr
    · rename_i a b hcal hargs
      have hva := hop a (by rw [hargs]; simp)
      have hvb := hop b (by rw [hargs]; simp)
      split at hr
      · rename_i sT xT p r n rc hs0 hx0 hpa hxb
        split at hr
        · rename_i e d hu hud
          split at hr
          · rename_i i q u hi hq hub
            split at hr
            · rename_i hcond
              cases hr
              simp only [Bool.and_eq_true, Bool.not_eq_true'] at hcond
              obtain ⟨g1, g2, ⟨g3, g4⟩, g5, g6, g7, g8⟩ := hcond
              have g1 := Nat.eq_of_beq_eq_true g1
              have g8 := Nat.eq_of_beq_eq_true g8
              have hb0 : (decide (0 < n) && (decide (r.off + n ≤ q.cs.length) && (((q.cs.drop r.off).take n).all (·.oneCell') && roomB i n))) = true := b2i_inj (b := true) (hc _ (List.mem_singleton.2 rfl))
              simp only [Bool.and_eq_true, decide_eq_true_eq] at hb0
              obtain ⟨b1, b2, b3, b4⟩ := hb0
              have ho : oAppend P c.argTypes (ρ a) (ρ b) h = some (.value (.slice (some ⟨h.length, 0, none⟩) n n), h ++ [⟨true, some 1, (q.cs.drop r.off).take n⟩], none) := by
                unfold oAppend
                rw [hs0, hx0]
                simp only
                rw [hu, hud, hxb]
                simp only [lenA]
                rw [hi]
                simp only
                have hsrc : srcCells (.slice (some r) n rc) i.size n h = some ((q.cs.drop r.off).take n) := by
                  simp only [srcCells, g1, Nat.mul_one]
                  unfold aload
                  rw [hq]
                  simp only [g3, g4, Bool.not_false, Bool.true_and, decide_eq_true b2, if_true]
                rw [hsrc]
                simp only
                rw [if_pos ⟨g2, by rw [g1, Nat.mul_one, List.length_take, List.length_drop]; omega, b3⟩, hpa]
                simp only
                have hes : esOf h p.block = some none := by
                  unfold esOf
                  rw [hub]
                  simp only [g5, if_true]
                  cases hue : u.es with
                  | none => rfl
                  | some z => rw [hue] at g7; cases g7
                rw [hes]
                simp only
                rw [if_neg (by omega)]
                have hal : aload h p (0 * i.size) = some [] := by
                  unfold aload
                  rw [hub]
                  simp only [g5, g6, Bool.not_false, Bool.true_and, Nat.zero_mul, g8, Nat.add_zero, decide_eq_true (Nat.zero_le _), if_true, List.take_zero]
                rw [hal]
                simp only [Nat.zero_add, List.nil_append, g1]
                rw [if_pos b4]
              have := append_ok (ty := type) H hva hvb ho hk
              simp only [execOp, resolve, hcal, args_two7 hargs, invoke, builtin, pure_bind]
              exact this
            · cases hr
          · cases hr
        · cases hr
      · cases hr
    · cases hr
theorem HR.pad {wb : Wb} {k : Nat} {s : Ren} {h : List AO} {w : World} (H : HR wb k s h w) (r : Nat) : HR wb k s (h ++ List.replicate r dead) w := by
  have old : ∀ (i : Nat) (o : AO), (h ++ List.replicate r dead)[i]? = some o → o.live = true → h[i]? = some o := by
    intro i o ho hl
    by_cases hi : i < h.length
    · rwa [List.getElem?_append_left hi] at ho
    · rw [List.getElem?_append_right (by omega), List.getElem?_replicate] at ho
      split at ho
      · cases ho; cases hl
      · cases ho
  exact ⟨H.grown, by simp; have := H.kle; omega, fun i hi => H.dom i (by simp at hi; omega), H.plc, fun i o ho hl => H.obj i o (old i o ho hl) hl,
    fun i j a b p q hi hj ha hb => H.sep i j a b p q (old i a hi ha) (old j b hj hb) ha hb, H.gl⟩
/-- A MAP OF WHICH NOT EVEN ITS NUMBER OF ENTRIES IS KNOWN: what is found in it by a number, as an oracle tells (at the lookup's slot: `tld (.int l b)`: it is there, with b; `tld (.bool false)`: it isn't there). -/
def mFind (k : IntKind) (a : Int) (cs : List Value) : Option (Option (Nat × Value)) := Instr.findNow (.int k) (.int k a) (ents 0 cs) 0
def mapB (k : IntKind) (a : Int) (cs : List Value) (l : IntKind) (b : Int) : Bool :=
  match mFind k a cs with
  | some (some (_, .int l' c)) => Nat.beq (kIx l) (kIx l') && c == b
  | _ => false
def mapN (k : IntKind) (a : Int) (cs : List Value) : Bool :=
  match mFind k a cs with
  | some none => true
  | _ => false
theorem mapB_ok {k : IntKind} {a : Int} {cs : List Value} {l : IntKind} {b : Int} (h : mapB k a cs l b = true) : ∃ i, Instr.findNow (.int k) (.int k a) (ents 0 cs) 0 = some (some (i, .int l b)) := by
  unfold mapB at h
  split at h
  · rename_i i l' c he
    simp only [Bool.and_eq_true, beq_iff_eq] at h
    obtain ⟨h1, rfl⟩ := h
    obtain rfl := kIx_inj h1
    exact ⟨i, he⟩
  · cases h
theorem mapN_ok {k : IntKind} {a : Int} {cs : List Value} (h : mapN k a cs = true) : Instr.findNow (.int k) (.int k a) (ents 0 cs) 0 = some none := by
  unfold mapN at h
  split at h
  · rename_i he; exact he
  · cases h
def moOp (P : Program) (ρ : Operand → Value) (h : List AO) (t : TypeId) (x ix : Operand) (ok : Bool) (v : Value) : Option (Value × Cs) :=
  match P.underlying t with
  | some (.map kt et) =>
    match P.underlying kt, mapCells (ρ x) h, ρ ix with
    | some (.int k), some cs, .int j a =>
      if Nat.beq (kIx j) (kIx k) then
        match v with
        | .int l b => some (okPair ok true (.int l b), [(b2i (mapB k a cs l b), 1)])
        | .bool false =>
          match P.info? et with
          | some i =>
            match i.zero with
            | some z => if flat z then some (okPair ok false z, [(b2i (mapN k a cs), 1)]) else none
            | none => none
          | none => none
        | _ => none
      else none
    | _, _, _ => none
  | _ => none
theorem moOp_ok {P : Program} {s : Ren} {ρ ρ' : Operand → Value} {h : List AO} {w : World} (H : MR s h w) {t : TypeId} {x ix : Operand} {ok : Bool} {u v : Value} {cs : Cs} (hx : VR s (ρ x) (ρ' x)) (hi : VR s (ρ ix) (ρ' ix)) (hr : moOp P ρ h t x ix ok u = some (v, cs)) (hc : ∀ c ∈ cs, c.1 = c.2) :
    Okay0 P s h w (aval (Instr.lookup t (ρ' x) (ρ' ix) ok)) (.value v, h, none) := by
  unfold moOp at hr
  split at hr
  · rename_i kt et hu
    split at hr
    · rename_i k cs1 j a hd hm hix
      split at hr
      · rename_i hj
        obtain rfl := kIx_inj hj
        split at hr
        · rename_i l b
          cases hr
          obtain ⟨i, hf⟩ := mapB_ok (b2i_inj (b := true) (hc _ (List.mem_cons_self ..)))
          have ho : oLookup P t (ρ x) (ρ ix) ok h = some (.value (okPair ok true (.int l b)), h, none) := by
            unfold oLookup
            rw [hu]
            simp only
            rw [hd, hm]
            simp only
            rw [hix]
            rw [if_pos (show keyB (.int j) (.int j a) = true by simp [keyB]), hf]
            all_goals rfl
          exact lookup_ok H hx hi ho
        · split at hr
          · rename_i i hinf
            split at hr
            · rename_i z hz
              split at hr
              · rename_i hzf
                cases hr
                have hf := mapN_ok (b2i_inj (b := true) (hc _ (List.mem_cons_self ..)))
                have ho : oLookup P t (ρ x) (ρ ix) ok h = some (.value (okPair ok false z), h, none) := by
                  unfold oLookup
                  rw [hu]
                  simp only
                  rw [hd, hm]
                  simp only
                  rw [hix]
                  rw [if_pos (show keyB (.int j) (.int j a) = true by simp [keyB]), hf]
                  simp only
                  rw [hinf]
                  simp only
                  rw [hz]
                  simp only
                  rw [if_pos hzf]
                exact lookup_ok H hx hi ho
              · cases hr
            · cases hr
          · cases hr
        · cases hr
      · cases hr
    · cases hr
  · cases hr
/-- A LOAD THAT IS TOLD: by an oracle that says `.tuple [.nilIface, v]` at its slot; that these cells of that block are v goes into the pairs (nothing else of the heap does). -/
def toldV (u : Option Value) : Option Value :=
  match u with
  | some (.tuple vs) =>
    match vs.toList with
    | [.nilIface, v] => some v
    | _ => none
  | _ => none
def tOp (P : Program) (same : Option Out → Option Out → Bool) (ρ : Operand → Value) (h : List AO) (o : Oper) (v : Value) : Option (Value × Cs) :=
  match o.op with
  | .load t x =>
    match ρ x, P.underlying t, P.info? t with
    | .pointer (some a), some d, some i =>
      match h[a.block]? with
      | some b =>
        if b.live && !isM b then
          if aggD d then some (v, [(b2i (decide (a.off + i.size ≤ b.cs.length)), 1), (b2i (same (some (.value (.agg ⟨(b.cs.drop a.off).take i.size⟩), [], none)) (some (.value v, [], none))), 1)])
          else some (v, [(b2i (decide (a.off < b.cs.length)), 1), (b2i (same (some (.value (b.cs.getD a.off .nilFunc), [], none)) (some (.value v, [], none))), 1)])
        else none
      | none => none
    | _, _, _ => none
  | .lookup t x ix ok => moOp P ρ h t x ix ok v
  | _ => none
theorem tOp_ok {P : Program} {s : Ren} {ρ ρ' : Operand → Value} {h : List AO} {w : World} (H : MR s h w) {o : Oper} {u v : Value} {cs : Cs} (hρ : ∀ x ∈ o.op.operands, VR s (ρ x) (ρ' x)) (hr : tOp P sameC ρ h o u = some (v, cs)) (hc : ∀ c ∈ cs, c.1 = c.2) :
    Okay0 P s h w (execOp ρ' o) (.value v, h, none) := by
  obtain ⟨dst, op, type, pos, after, guard⟩ := o
  unfold tOp at hr
  cases op <;> simp only at hr <;> try (cases hr; done)
  case load t x =>
    have hx := hρ x (by simp [Op.operands])
    split at hr
    · rename_i a d i0 hxa hd hi
      split at hr
      · rename_i b hb
        split at hr
        · rename_i hlv
          simp only [Bool.and_eq_true] at hlv
          split at hr
          · rename_i hag
            cases hr
            have h0 := of_decide_eq_true (b2i_inj (b := true) (hc _ (List.mem_cons_self ..)))
            have h1 := sameC_ok (b2i_inj (b := true) (hc _ (List.mem_cons_of_mem _ (List.mem_cons_self ..))))
            simp only [Option.some.injEq, Prod.mk.injEq, Next.value.injEq, and_true] at h1
            have hal : aload h a i0.size = some ((b.cs.drop a.off).take i0.size) := by
              unfold aload
              rw [hb]
              simp only [hlv.1, hlv.2, Bool.true_and, decide_eq_true h0, if_true]
            have ho : oLoad P t (ρ x) h = some (.value u, h, none) := by
              unfold oLoad
              rw [hxa, hd, hi]
              simp only [hag, if_true]
              rw [hal, ← h1]
            exact load_ok H hx ho
          · rename_i hag
            cases hr
            have h0 := of_decide_eq_true (b2i_inj (b := true) (hc _ (List.mem_cons_self ..)))
            have h1 := sameC_ok (b2i_inj (b := true) (hc _ (List.mem_cons_of_mem _ (List.mem_cons_self ..))))
            simp only [Option.some.injEq, Prod.mk.injEq, Next.value.injEq, and_true] at h1
            have h2 : b.cs[a.off]? = some u := by
              rw [← h1, List.getD_eq_getElem?_getD, List.getElem?_eq_getElem h0]
              rfl
            have hal : aload h a 1 = some [u] := by
              unfold aload
              rw [hb]
              simp only [hlv.1, hlv.2, Bool.true_and, decide_eq_true (show a.off + 1 ≤ b.cs.length by omega), if_true, Option.some.injEq]
              apply List.ext_getElem?
              intro j
              rw [List.getElem?_take]
              cases j with
              | zero => simp only [List.getElem?_drop, Nat.add_zero, h2]; rfl
              | succ j => simp
            have ho : oLoad P t (ρ x) h = some (.value u, h, none) := by
              unfold oLoad
              rw [hxa, hd, hi]
              simp only [hag, Bool.false_eq_true, if_false]
              rw [hal]
            exact load_ok H hx ho
        · cases hr
      · cases hr
    · cases hr
  case lookup t x ix ok =>
    exact moOp_ok H (hρ x (by simp [Op.operands])) (hρ ix (by simp [Op.operands])) hr hc
/-- A STORE AT A PLACE THAT IS NOT KNOWN: by an oracle that says, at the pseudo place 2000000 + the address's slot, `.nilIface`; or `.tuple [.nilIface, .agg cells]`: what the block has then is told (that it is so goes into the pairs). -/
def wAsk (o : Oper) (ask : Tmp → Option Value) : Option (Option (List Value)) :=
  match o.op with
  | .store _ (.tmp i) _ =>
    match ask (2000000 + i) with
    | some .nilIface => some none
    | some (.tuple vs) =>
      match vs.toList with
      | [.nilIface, .agg cs] => some (some cs.toList)
      | _ => none
    | _ => none
  | _ => none
def wOp (P : Program) (same : Option Out → Option Out → Bool) (ρ : Operand → Value) (h : List AO) (o : Oper) (u : Option (List Value)) : Option (List AO × Nat × Cs) :=
  match o.op with
  | .store t x y =>
    match ρ x, P.info? t with
    | .pointer (some a), some i =>
      match h[a.block]? with
      | some b =>
        if b.live && isW b then
          match u with
          | none => some (h.set a.block ⟨true, b.es, splice b.cs a.off (ρ y).cells.toList⟩, a.block, [(b2i ((ρ y).cells.toList.length == i.size && (ρ y).cells.toList.all (·.oneCell')), 1), (b2i (decide (a.off + (ρ y).cells.toList.length ≤ b.cs.length)), 1)])
          | some cs' => some (h.set a.block ⟨true, b.es, cs'⟩, a.block, [(b2i ((ρ y).cells.toList.length == i.size && (ρ y).cells.toList.all (·.oneCell')), 1), (b2i (decide (a.off + (ρ y).cells.toList.length ≤ b.cs.length)), 1), (b2i (same (some (.value (.agg ⟨splice b.cs a.off (ρ y).cells.toList⟩), [], none)) (some (.value (.agg ⟨cs'⟩), [], none))), 1)])
        else none
      | none => none
    | _, _ => none
  | _ => none
theorem wOp_ok {P : Program} {wb : Wb} {k : Nat} {s : Ren} {ρ ρ' : Operand → Value} {h h' : List AO} {w : World} (H : HR wb k s h w) {o : Oper} {u : Option (List Value)} {b : Nat} {cs : Cs} (hρ : ∀ x ∈ o.op.operands, VR s (ρ x) (ρ' x)) (hr : wOp P sameC ρ h o u = some (h', b, cs)) (hc : ∀ c ∈ cs, c.1 = c.2) (hk : k ≤ b) :
    Okay P wb k s w (execOp ρ' o) (.skip, h', some b) := by
  obtain ⟨dst, op, type, pos, after, guard⟩ := o
  unfold wOp at hr
  cases op <;> simp only at hr <;> try (cases hr; done)
  case store t x y =>
    have hx := hρ x (by simp [Op.operands])
    have hy := hρ y (by simp [Op.operands])
    split at hr
    · rename_i a i hxa hi
      split at hr
      · rename_i b0 hb
        split at hr
        · rename_i hlv
          simp only [Bool.and_eq_true] at hlv
          have fin : ((ρ y).cells.toList.length == i.size && (ρ y).cells.toList.all (·.oneCell')) = true → a.off + (ρ y).cells.toList.length ≤ b0.cs.length → k ≤ a.block → Okay P wb k s w (execOp ρ' ⟨dst, .store t x y, type, pos, after, guard⟩) (.skip, h.set a.block ⟨true, b0.es, splice b0.cs a.off (ρ y).cells.toList⟩, some a.block) := by
            intro hsz h0 hk
            have hst : astore h a (ρ y).cells.toList = some (h.set a.block ⟨true, b0.es, splice b0.cs a.off (ρ y).cells.toList⟩) := by
              unfold astore
              rw [hb]
              simp only [hlv.1, hlv.2, Bool.true_and, decide_eq_true h0, if_true]
            have ho : oStore P t (ρ x) (ρ y) h = some (.skip, h.set a.block ⟨true, b0.es, splice b0.cs a.off (ρ y).cells.toList⟩, some a.block) := by
              unfold oStore
              rw [hxa, hi]
              simp only
              rw [if_pos hsz, hst]
            exact store_ok H hx hy ho (fun i hi => by cases hi; exact hk)
          split at hr
          · cases hr
            exact fin (b2i_inj (b := true) (hc _ (List.mem_cons_self ..))) (of_decide_eq_true (b2i_inj (b := true) (hc _ (List.mem_cons_of_mem _ (List.mem_cons_self ..))))) hk
          · rename_i cs'
            cases hr
            have h0 := of_decide_eq_true (b2i_inj (b := true) (hc _ (List.mem_cons_of_mem _ (List.mem_cons_self ..))))
            have h1 := sameC_ok (b2i_inj (b := true) (hc _ (List.mem_cons_of_mem _ (List.mem_cons_of_mem _ (List.mem_cons_self ..)))))
            simp only [Option.some.injEq, Prod.mk.injEq, Next.value.injEq, Value.agg.injEq, Array.mk.injEq, and_true] at h1
            rw [← h1]
            exact fin (b2i_inj (b := true) (hc _ (List.mem_cons_self ..))) h0 hk
        · cases hr
      · cases hr
    · cases hr
/-- AN OPERATION WHOSE OUTCOME IS TOLD by the oracle (`.tuple [.nilFunc, value]`; with a block's number and cells: what it lays there; with a room's size and cells: a new block): that it comes to that goes into the pairs. -/
def tellV (u : Option Value) (h : List AO) : Option (Value × List AO × Option Nat) :=
  match u with
  | some (.tuple vs) =>
    match vs.toList with
    | [.nilFunc, v] => some (v, h, none)
    | [.nilFunc, v, .int .i64 b, .agg cs] =>
      match h[b.toNat]? with
      | some o => some (v, h.set b.toNat ⟨o.live, o.es, cs.toList⟩, some b.toNat)
      | none => none
    | [.nilFunc, .int _ l, .nilIface, .int .i64 e, .agg cs] => some (.slice (some ⟨h.length, 0, none⟩) l.toNat l.toNat, h ++ [⟨true, bif (decide (e < 0)) then none else some e.toNat, cs.toList⟩], none)
    | _ => none
  | _ => none
/-- A value told, and behind it a block that nothing is told of: it parts two calls that are alike (an oracle sees blocks' numbers). -/
def padV (u : Option Value) : Option Value :=
  match u with
  | some (.tuple vs) =>
    match vs.toList with
    | [.nilFunc, v, .nilFunc] => some v
    | _ => none
  | _ => none
/-- An operation as it is, and behind it a block that nothing is told of. -/
def padB (u : Option Value) : Bool :=
  match u with
  | some (.tuple vs) =>
    match vs.toList with
    | [.nilIface] => true
    | _ => false
  | _ => false
/-- A new key of a map of which no entry is known. An oracle says `.map none` at the place 1000001. -/
def u2Ask (o : Oper) (u : Option Value) : Bool :=
  match o.op with
  | .mapUpdate _ _ _ _ => hitB u
  | _ => false
def u2Op (P : Program) (ρ : Operand → Value) (h : List AO) (o : Oper) : Option (List AO × Nat × Cs) :=
  match o.op with
  | .mapUpdate t m key v =>
    match P.underlying t, ρ m with
    | some (.map kt _), .map (some r) =>
      match P.underlying kt, h[r]?, ρ key with
      | some (.int k), some ob, .int j a =>
        if Nat.beq (kIx j) (kIx k) && (ob.live && isM ob) then some (h.set r ⟨true, some 0, ob.cs ++ [.tuple ⟨[ρ key, ρ v]⟩]⟩, r, [(b2i (mapN k a ob.cs), 1)])
        else none
      | _, _, _ => none
    | _, _ => none
  | _ => none
theorem u2Op_ok {P : Program} {wb : Wb} {k0 : Nat} {s : Ren} {ρ ρ' : Operand → Value} {h : List AO} {w : World} (H : HR wb k0 s h w) {o : Oper} {h' : List AO} {b : Nat} {cs : Cs} (hρ : ∀ x ∈ o.op.operands, VR s (ρ x) (ρ' x)) (hr : u2Op P ρ h o = some (h', b, cs)) (hc : ∀ c ∈ cs, c.1 = c.2) (hk : k0 ≤ b) :
    Okay P wb k0 s w (execOp ρ' o) (.skip, h', some b) := by
  obtain ⟨dst, op, type, pos, after, guard⟩ := o
  unfold u2Op at hr
  cases op <;> simp only at hr <;> try (cases hr; done)
  rename_i t m key v
  have hm := hρ m (by simp [Op.operands])
  have hkey := hρ key (by simp [Op.operands])
  have hv := hρ v (by simp [Op.operands])
  split at hr
  · rename_i kt et r hu hmr
    split at hr
    · rename_i k ob j a hd ho hkk
      split at hr
      · rename_i hcond
        simp only [Bool.and_eq_true] at hcond
        obtain ⟨hj, hlive, hmm⟩ := hcond
        obtain rfl := kIx_inj hj
        cases hr
        have hf := mapN_ok (b2i_inj (b := true) (hc _ (List.mem_cons_self ..)))
        have hou : oMapUpdate P t (ρ m) (ρ key) (ρ v) h = some (.skip, h.set b ⟨true, some 0, ob.cs ++ [.tuple ⟨[ρ key, ρ v]⟩]⟩, some b) := by
          unfold oMapUpdate
          rw [hu, hmr]
          simp only
          rw [hd, ho]
          simp only
          rw [hkk, if_pos (by simp [hlive, hmm, keyB]), hf]
          all_goals rfl
        exact mapUpdate_ok H hm hkey hv hou (fun i hi => by cases hi; exact hk)
      · cases hr
    · cases hr
  · cases hr
def operA (P : Program) (op : OpFn) (rec : Rec) (o : Oper) (x : St) : Option St :=
  if o.op.operands.toList.all (okX x.h) then
    if u2Ask o (rec.orc 1000001 x.t) then
      match u2Op P (rec.acc.look x.t) x.h o with
      | some (h', b, cs) => some ⟨rec.acc.put x.t o.dst undef, h', low x.m (some b, cs)⟩
      | none => none
    else
    if uAsk o (rec.orc 1000001 x.t) then
      match uOp P (rec.acc.look x.t) x.h o with
      | some (h', b, cs) => some ⟨rec.acc.put x.t o.dst undef, h', low x.m (some b, cs)⟩
      | none => none
    else
    match wAsk o (fun d => rec.orc d x.t) with
    | some u =>
      match wOp P rec.acc.same (rec.acc.look x.t) x.h o u with
      | some (h', b, cs) => some ⟨rec.acc.put x.t o.dst undef, h', low x.m (some b, cs)⟩
      | none => none
    | none =>
    match toldV (o.dst.bind fun d => rec.orc d x.t) with
    | some u =>
      match tOp P rec.acc.same (rec.acc.look x.t) x.h o u with
      | some (v, cs) => some ⟨rec.acc.put x.t o.dst v, x.h, low x.m (none, cs)⟩
      | none => none
    | none =>
    match kAsk (o.dst.bind fun d => rec.orc d x.t) with
    | some j =>
      match kOp P (rec.acc.look x.t) x.h o j with
      | some (v, cs) => some ⟨rec.acc.put x.t o.dst v, x.h, low x.m (none, cs)⟩
      | none => none
    | none =>
    match tellV (o.dst.bind fun d => rec.orc d x.t) x.h with
    | some (v, h', m) => some ⟨rec.acc.put x.t o.dst v, h', low x.m (m, [(b2i (rec.acc.same (op (rec.acc.look x.t) o x.h) (some (.value v, h', m))), 1)])⟩
    | none =>
    match padV (o.dst.bind fun d => rec.orc d x.t) with
    | some v => some ⟨rec.acc.put x.t o.dst v, x.h ++ List.replicate 1 dead, low x.m (none, [(b2i (rec.acc.same (op (rec.acc.look x.t) o x.h) (some (.value v, x.h, none))), 1)])⟩
    | none =>
    if padB (o.dst.bind fun d => rec.orc d x.t) then
      match op (rec.acc.look x.t) o x.h with
      | some (.value v, h, m) => some ⟨rec.acc.put x.t o.dst v, h ++ List.replicate 1 dead, low x.m (m, [])⟩
      | _ => none
    else
    if quoB (o.dst.bind fun d => rec.orc d x.t) then
      match qOp (rec.acc.look x.t) o with
      | some (v, cs) => some ⟨rec.acc.put x.t o.dst v, x.h, low x.m (none, cs)⟩
      | none =>
        match lOp P (rec.acc.look x.t) x.h o with
        | some (v, cs) => some ⟨rec.acc.put x.t o.dst v, x.h, low x.m (none, cs)⟩
        | none =>
          match strOp P (rec.acc.look x.t) o with
          | some (v, cs) => some ⟨rec.acc.put x.t o.dst v, x.h, low x.m (none, cs)⟩
          | none =>
            match s2Op P (rec.acc.look x.t) x.h o with
            | some (v, cs) => some ⟨rec.acc.put x.t o.dst v, x.h, low x.m (none, cs)⟩
            | none =>
              match bOp P (rec.acc.look x.t) x.h o with
              | some (v, bs, cs) => some ⟨rec.acc.put x.t o.dst v, x.h ++ bs, low x.m (none, cs)⟩
              | none =>
                match xOp P (rec.acc.look x.t) x.h o with
                | some (v, cs) => some ⟨rec.acc.put x.t o.dst v, x.h, low x.m (none, cs)⟩
                | none =>
                  match mOp P (rec.acc.look x.t) x.h o with
                  | some (v, h', m, cs) => some ⟨rec.acc.put x.t o.dst v, h', low x.m (m, cs)⟩
                  | none => none
    else
    match hitA (o.dst.bind fun d => rec.orc d x.t) P (rec.acc.look x.t) x.h o with
    | some (v, cs) => some ⟨rec.acc.put x.t o.dst v, x.h, low x.m (none, cs)⟩
    | none =>
    match op (rec.acc.look x.t) o x.h with
    | some (.value v, h, m) =>
      match fixV (o.dst.bind fun d => rec.orc d x.t) v with
      | some (v', cs) => some ⟨rec.acc.put x.t o.dst v', h, low x.m (m, cs)⟩
      | none => none
    | some (.skip, h, m) => some ⟨rec.acc.put x.t o.dst undef, h, low x.m (m, [])⟩
    | some (.enter f args, h, m) =>
      match callA P rec f args.toList h with
      | some (v, h', m') => some ⟨rec.acc.put x.t o.dst v, h', low (low x.m (m, [])) m'⟩
      | none => none
    | _ => none
  else none
def seqA (P : Program) (op : OpFn) (rec : Rec) (ops : Array Oper) : List Oper → St → Option St
  | [], x => some x
  | o :: l, x =>
    if wantedA ops x.t o then
      match operA P op rec o x with
      | some x' => seqA P op rec ops l x'
      | none => none
    else seqA P op rec ops l ⟨rec.acc.put x.t o.dst undef, x.h, x.m⟩

section
variable {P : Program} {op : OpFn} {rec : Rec}

def CallPost (wb : Wb) (k : Nat) (s : Ren) (v : Value) (h : List AO) (e : Ending) (w : World) : Prop :=
  ∃ s' v', e = .returned v' ∧ Le s s' ∧ HR wb k s' h w ∧ VR s' v v'
theorem call_post {fn : Func} {vs : List Value} {x : St} {e : Exit} (he : e = .normal ∨ e = .ret) (hr : resL P x.t x.h fn.results.toList = some vs) {wb : Wb} {k : Nat} {s : Ren} {R : Ending → World → Prop}
    (hR : ∀ s' v' w', Le s s' → HR wb k s' x.h w' → VR s' (oneOf vs) v' → R (.returned v') w') :
    ∀ e' a' w', Post wb k s x e e' a' w' → bodyPost P fn R e' a' w' := by
  rintro e' a' w' ⟨rfl, s', hle, hsr⟩
  obtain ⟨v', h1, h2⟩ := results_ok (P := P) hsr.t hsr.h hr
  rcases he with rfl | rfl
  · exact ⟨hsr.d, v', h1, hR s' v' w' hle hsr.h h2⟩
  · exact ⟨hsr.d, v', h1, hR s' v' w' hle hsr.h h2⟩
theorem callA_ok (hrec : RecOk P rec) {f : FuncId} {args args' : List Value} {h : List AO} {v : Value} {h' : List AO} {m : Mk} (hr : callA P rec f args h = some (v, h', m)) {wb : Wb} {k : Nat} {s : Ren} {w : World}
    (hm : Bnd k m) (ha : LR s args args') (H : HR wb k s h w) : Calls P f ⟨args'⟩ w (CallPost wb k s v h') := by
  unfold callA at hr
  split at hr
  · rename_i u new cs0 hu
    cases hr
    exact hrec.2.1 f args h _ _ _ hu hm.2 wb k s w args' hm.1 H ha
  cases hf : P.funcs[f]? with
  | none => rw [hf] at hr; cases hr
  | some fn =>
    rw [hf] at hr
    simp only at hr
    cases hb : fn.body with
    | none => rw [hb] at hr; cases hr
    | some c =>
      rw [hb] at hr
      simp only at hr
      cases hx : rec.run f c ⟨args ++ List.replicate (fn.ntmps - args.length) undef, h, (none, [])⟩ with
      | none => rw [hx] at hr; cases hr
      | some ex =>
        obtain ⟨e, x⟩ := ex
        rw [hx] at hr
        have he : e = .normal ∨ e = .ret := by
          cases e <;> first | exact .inl rfl | exact .inr rfl | cases hr
        have hr2 : (match resL P x.t x.h fn.results.toList with
          | some vs =>
            if flat (oneOf vs) && quietB h.length x.m.1 then some (oneOf vs, h, (none, x.m.2))
            else some (oneOf vs, x.h, x.m)
          | none => none) = some (v, h', m) := by
          rcases he with rfl | rfl
          · exact hr
          · exact hr
        clear hr
        cases hrs : resL P x.t x.h fn.results.toList with
        | none => rw [hrs] at hr2; cases hr2
        | some vs =>
          rw [hrs] at hr2
          simp only at hr2
          obtain ⟨good, hgood, hrun⟩ := hrec.1
          refine calls_of_wp hf hb ?_
          have htl : ∀ (wb : Wb) (k : Nat), HR wb k s h w → SR wb k s ⟨args ++ List.replicate (fn.ntmps - args.length) undef, h, (none, [])⟩ { tmps := (⟨args'⟩ : Array Value) ++ Array.replicate (fn.ntmps - (⟨args'⟩ : Array Value).size) undef, defers := [] } w := by
            intro wb k H
            refine ⟨?_, rfl, H⟩
            have e1 : (⟨args'⟩ : Array Value).size = args.length := by simp [ha.1]
            rw [e1]
            simp only [Array.toList_append, Array.toList_replicate]
            exact ha.append (LR.ofFlat (List.all_eq_true.2 fun u hu => by rw [List.eq_of_mem_replicate hu]; rfl))
          split at hr2
          · rename_i hq
            cases hr2
            simp only [Bool.and_eq_true] at hq
            have hbnd : Bnd h.length x.m := ⟨quietB_ok hq.2, hm.2⟩
            refine Code.wp_mono ?_ (hrun w h.length s f c _ x e _ w (hgood f fn c hf hb) hx hbnd (htl w h.length H.here))
            refine call_post he hrs fun s' v' w' _ H' hv => ?_
            rw [hv.eq_of_flat hq.1]
            exact ⟨s, _, rfl, Le.refl s, H.grow H'.grown.gr, .same hq.1⟩
          · cases hr2
            refine Code.wp_mono ?_ (hrun wb k s f c _ x e _ w (hgood f fn c hf hb) hx hm (htl wb k H))
            exact call_post he hrs fun s' v' w' hle H' hv => ⟨s', v', rfl, hle, H', hv⟩

theorem operA_low {o : Oper} {x x' : St} (hr : operA P op rec o x = some x') {k : Nat} (hm : Bnd k x'.m) : Bnd k x.m := by
  unfold operA at hr
  split at hr
  · split at hr
    · split at hr
      · cases hr; exact (bnd_low hm).1
      · cases hr
    split at hr
    · split at hr
      · cases hr; exact (bnd_low hm).1
      · cases hr
    split at hr
    · split at hr
      · cases hr; exact (bnd_low hm).1
      · cases hr
    split at hr
    · split at hr
      · cases hr; exact (bnd_low hm).1
      · cases hr
    split at hr
    · split at hr
      · cases hr; exact (bnd_low hm).1
      · cases hr
    split at hr
    · cases hr; exact (bnd_low hm).1
    split at hr
    · cases hr; exact (bnd_low hm).1
    split at hr
    · split at hr
      · cases hr; exact (bnd_low hm).1
      · cases hr
    split at hr
    · split at hr
      · cases hr; exact (bnd_low hm).1
      · split at hr
        · cases hr; exact (bnd_low hm).1
        · split at hr
          · cases hr; exact (bnd_low hm).1
          · split at hr
            · cases hr; exact (bnd_low hm).1
            · split at hr
              · cases hr; exact (bnd_low hm).1
              · split at hr
                · cases hr; exact (bnd_low hm).1
                · split at hr
                  · cases hr; exact (bnd_low hm).1
                  · cases hr
    split at hr
    · cases hr; exact (bnd_low hm).1
    split at hr
    · split at hr
      · cases hr; exact (bnd_low hm).1
      · cases hr
    · cases hr; exact (bnd_low hm).1
    · split at hr
      · cases hr; exact (bnd_low (bnd_low hm).1).1
      · cases hr
    · cases hr
  · cases hr
theorem operA_ok (hop : OpOk P op) (hrec : RecOk P rec) {o : Oper} {x x' : St} (hr : operA P op rec o x = some x') {wb : Wb} {k : Nat} {s : Ren} {a : Act} {w : World} (hm : Bnd k x'.m) (H : SR wb k s x a w)
    {next : Act → World → Prop} {Q : Exit → Act → World → Prop} (hn : ∀ s' a' w', Le s s' → SR wb k s' x' a' w' → next a' w') : o.wp P a w next Q := by
  unfold operA at hr
  rw [hrec.2.2.2] at hr
  simp only [accP] at hr
  split at hr
  · rename_i hok
    have hρ : ∀ y ∈ o.op.operands, VR s (lookA x.t y) (a.eval y) := fun y hy => eval_ok H.t H.h.glob (List.all_eq_true.1 hok y (by simpa using hy))
    split at hr
    · split at hr
      · rename_i h' b cs hq
        cases hr
        obtain ⟨s', n', w', h1, h2, h3, h4⟩ := u2Op_ok (P := P) H.h hρ hq (bnd_low hm).2.2 ((bnd_low hm).2.1 _ rfl)
        unfold Oper.wp
        rw [h1]
        cases n' <;> simp only [NR] at h4
        exact hn s' _ w' h2 ⟨put_ok (H.t.mono h2) o.dst (.same rfl), by cases hd : o.dst <;> simp [Act.put, H.d], h3⟩
      · cases hr
    split at hr
    · split at hr
      · rename_i h' b cs hq
        cases hr
        obtain ⟨s', n', w', h1, h2, h3, h4⟩ := uOp_ok (P := P) H.h hρ hq (bnd_low hm).2.2 ((bnd_low hm).2.1 _ rfl)
        unfold Oper.wp
        rw [h1]
        cases n' <;> simp only [NR] at h4
        exact hn s' _ w' h2 ⟨put_ok (H.t.mono h2) o.dst (.same rfl), by cases hd : o.dst <;> simp [Act.put, H.d], h3⟩
      · cases hr
    split at hr
    · rename_i u0 _
      split at hr
      · rename_i h' b cs hq
        cases hr
        obtain ⟨s', n', w', h1, h2, h3, h4⟩ := wOp_ok (P := P) H.h hρ hq (bnd_low hm).2.2 ((bnd_low hm).2.1 _ rfl)
        unfold Oper.wp
        rw [h1]
        cases n' <;> simp only [NR] at h4
        exact hn s' _ w' h2 ⟨put_ok (H.t.mono h2) o.dst (.same rfl), by cases hd : o.dst <;> simp [Act.put, H.d], h3⟩
      · cases hr
    split at hr
    · rename_i u0 _
      split at hr
      · rename_i v cs hq
        cases hr
        obtain ⟨n', h1, h2, _⟩ := tOp_ok (P := P) H.h.mr hρ hq (bnd_low hm).2.2
        unfold Oper.wp
        rw [h1]
        cases n' <;> simp only [NR] at h2
        exact hn s _ w (Le.refl s) ⟨put_ok H.t o.dst h2, by cases hd : o.dst <;> simp [Act.put, H.d], H.h⟩
      · cases hr
    split at hr
    · split at hr
      · rename_i v cs hq
        cases hr
        obtain ⟨h1, h2⟩ := kOp_ok (P := P) H.h.mr hρ hq (bnd_low hm).2.2
        unfold Oper.wp
        rw [h1]
        exact hn s _ w (Le.refl s) ⟨put_ok H.t o.dst (.same h2), by cases hd : o.dst <;> simp [Act.put, H.d], H.h⟩
      · cases hr
    split at hr
    · rename_i v h' m htl
      cases hr
      have ho := sameC_ok (b2i_inj (b := true) ((bnd_low hm).2.2 _ (List.mem_singleton.2 rfl)))
      obtain ⟨s', n', w', h1, h2, h3, h4⟩ := hop wb k s x.h w _ _ o _ H.h hρ ho (bnd_low hm).2.1
      unfold Oper.wp
      rw [h1]
      cases n' <;> simp only [NR] at h4
      exact hn s' _ w' h2 ⟨put_ok (H.t.mono h2) o.dst h4, by cases hd : o.dst <;> simp [Act.put, H.d], h3⟩
    split at hr
    · rename_i v htl
      cases hr
      have ho := sameC_ok (b2i_inj (b := true) ((bnd_low hm).2.2 _ (List.mem_singleton.2 rfl)))
      obtain ⟨s', n', w', h1, h2, h3, h4⟩ := hop wb k s x.h w _ _ o _ H.h hρ ho (bnd_low hm).2.1
      unfold Oper.wp
      rw [h1]
      cases n' <;> simp only [NR] at h4
      exact hn s' _ w' h2 ⟨put_ok (H.t.mono h2) o.dst h4, by cases hd : o.dst <;> simp [Act.put, H.d], h3.pad 1⟩
    split at hr
    · split at hr
      · rename_i v h m ho
        cases hr
        obtain ⟨s', n', w', h1, h2, h3, h4⟩ := hop wb k s x.h w _ _ o _ H.h hρ ho (bnd_low hm).2.1
        unfold Oper.wp
        rw [h1]
        cases n' <;> simp only [NR] at h4
        exact hn s' _ w' h2 ⟨put_ok (H.t.mono h2) o.dst h4, by cases hd : o.dst <;> simp [Act.put, H.d], h3.pad 1⟩
      · cases hr
    split at hr
    · split at hr
      · rename_i v cs hq
        cases hr
        obtain ⟨h1, h2⟩ := qOp_ok (P := P) hρ hq (bnd_low hm).2.2 w
        unfold Oper.wp
        rw [h1]
        exact hn s _ w (Le.refl s) ⟨put_ok H.t o.dst (.same h2), by cases hd : o.dst <;> simp [Act.put, H.d], H.h⟩
      · split at hr
        · rename_i v cs hq
          cases hr
          obtain ⟨h1, h2⟩ := lOp_ok (P := P) H.h.mr hρ hq (bnd_low hm).2.2
          unfold Oper.wp
          rw [h1]
          exact hn s _ w (Le.refl s) ⟨put_ok H.t o.dst (.same h2), by cases hd : o.dst <;> simp [Act.put, H.d], H.h⟩
        · split at hr
          · rename_i v cs hq
            cases hr
            obtain ⟨h1, h2⟩ := strOp_ok (P := P) hρ hq (bnd_low hm).2.2 w
            unfold Oper.wp
            rw [h1]
            exact hn s _ w (Le.refl s) ⟨put_ok H.t o.dst (.same h2), by cases hd : o.dst <;> simp [Act.put, H.d], H.h⟩
          · split at hr
            · rename_i v cs hq
              cases hr
              obtain ⟨n', h1, h2, _⟩ := s2Op_ok (P := P) H.h.mr hρ hq (bnd_low hm).2.2
              unfold Oper.wp
              rw [h1]
              cases n' <;> simp only [NR] at h2
              exact hn s _ w (Le.refl s) ⟨put_ok H.t o.dst h2, by cases hd : o.dst <;> simp [Act.put, H.d], H.h⟩
            · split at hr
              · rename_i v bs cs hq
                cases hr
                obtain ⟨s', v', w', h1, h2, h3, h4⟩ := bOp_ok (P := P) H.h hρ hq (bnd_low hm).2.2
                unfold Oper.wp
                rw [h1]
                exact hn s' _ w' h2 ⟨put_ok (H.t.mono h2) o.dst h4, by cases hd : o.dst <;> simp [Act.put, H.d], h3⟩
              · split at hr
                · rename_i v cs hq
                  cases hr
                  obtain ⟨n', h1, h2, _⟩ := xOp_ok (P := P) H.h.mr hρ hq (bnd_low hm).2.2
                  unfold Oper.wp
                  rw [h1]
                  cases n' <;> simp only [NR] at h2
                  exact hn s _ w (Le.refl s) ⟨put_ok H.t o.dst h2, by cases hd : o.dst <;> simp [Act.put, H.d], H.h⟩
                · split at hr
                  · rename_i v h' m cs hq
                    cases hr
                    obtain ⟨s', n', w', h1, h2, h3, h4⟩ := mOp_ok (P := P) H.h hρ hq (bnd_low hm).2.2 (bnd_low hm).2.1
                    unfold Oper.wp
                    rw [h1]
                    cases n' <;> simp only [NR] at h4
                    exact hn s' _ w' h2 ⟨put_ok (H.t.mono h2) o.dst h4, by cases hd : o.dst <;> simp [Act.put, H.d], h3⟩
                  · cases hr
    split at hr
    · rename_i v cs hq
      cases hr
      obtain ⟨h1, h2⟩ := hitA_ok (P := P) H.h.mr hρ hq (bnd_low hm).2.2
      unfold Oper.wp
      rw [h1]
      exact hn s _ w (Le.refl s) ⟨put_ok H.t o.dst (.same h2), by cases hd : o.dst <;> simp [Act.put, H.d], H.h⟩
    split at hr
    · rename_i v h m ho
      split at hr
      · rename_i v2 cs hfx
        cases hr
        have hv2 := fixV_ok hfx (bnd_low hm).2.2
        subst hv2
        obtain ⟨s', n', w', h1, h2, h3, h4⟩ := hop wb k s x.h w _ _ o _ H.h hρ ho (bnd_low hm).2.1
        unfold Oper.wp
        rw [h1]
        cases n' <;> simp only [NR] at h4
        exact hn s' _ w' h2 ⟨put_ok (H.t.mono h2) o.dst h4, by cases hd : o.dst <;> simp [Act.put, H.d], h3⟩
      · cases hr
    · rename_i h m ho
      cases hr
      obtain ⟨s', n', w', h1, h2, h3, h4⟩ := hop wb k s x.h w _ _ o _ H.h hρ ho (bnd_low hm).2.1
      unfold Oper.wp
      rw [h1]
      cases n' <;> simp only [NR] at h4
      exact hn s' _ w' h2 ⟨put_ok (H.t.mono h2) o.dst (.same rfl), by cases hd : o.dst <;> simp [Act.put, H.d], h3⟩
    · rename_i f args h m ho
      split at hr
      · rename_i v h' m' hc
        cases hr
        obtain ⟨s', n', w', h1, h2, h3, h4⟩ := hop wb k s x.h w _ _ o _ H.h hρ ho (bnd_low (bnd_low hm).1).2.1
        unfold Oper.wp
        rw [h1]
        cases n' <;> simp only [NR] at h4
        rename_i g args'
        obtain ⟨rfl, hargs⟩ := h4
        refine (callA_ok hrec hc (bnd_low hm).2 hargs h3).mono ?_
        rintro e w'' ⟨s'', v', rfl, hle, H'', hv⟩
        exact hn s'' _ w'' (h2.trans hle) ⟨put_ok (H.t.mono (h2.trans hle)) o.dst hv, by cases hd : o.dst <;> simp [Act.put, H.d], H''⟩
      · cases hr
    · cases hr
  · cases hr
theorem seqA_low {ops : Array Oper} : ∀ {l : List Oper} {x x' : St}, seqA P op rec ops l x = some x' → ∀ {k : Nat}, Bnd k x'.m → Bnd k x.m
  | [], x, x', hr, k, hm => by simp [seqA] at hr; subst hr; exact hm
  | o :: l, x, x', hr, k, hm => by
    simp only [seqA] at hr
    split at hr
    · split at hr
      · rename_i x1 h1
        exact operA_low h1 (seqA_low hr hm)
      · cases hr
    · exact seqA_low (x := ⟨rec.acc.put x.t o.dst undef, x.h, x.m⟩) hr hm
theorem seqA_ok (hop : OpOk P op) (hrec : RecOk P rec) {ops : Array Oper} : ∀ {l : List Oper} {x x' : St}, seqA P op rec ops l x = some x' → ∀ {wb : Wb} {k : Nat} {s : Ren} {a : Act} {w : World}, Bnd k x'.m → SR wb k s x a w →
    ∀ {Q : Exit → Act → World → Prop}, (∀ s' a' w', Le s s' → SR wb k s' x' a' w' → Q .normal a' w') → wpList P ops Q l a w
  | [], x, x', hr, wb, k, s, a, w, hm, H, Q, hQ => by
    simp [seqA] at hr; subst hr
    exact hQ s a w (Le.refl s) H
  | o :: l, x, x', hr, wb, k, s, a, w, hm, H, Q, hQ => by
    simp only [seqA] at hr
    rw [hrec.2.2.2] at hr
    simp only [accP] at hr
    simp only [wpList, wanted_ok H.t]
    split at hr
    · rename_i hw
      rw [if_pos hw]
      split at hr
      · rename_i x1 h1
        left
        refine operA_ok hop hrec h1 (seqA_low hr hm) H fun s' a' w' hle H' => ?_
        exact seqA_ok hop hrec hr hm H' fun s'' a'' w'' hle' H'' => hQ s'' a'' w'' (hle.trans hle') H''
      · cases hr
    · rename_i hw
      rw [if_neg hw]
      refine seqA_ok hop hrec (x := ⟨putA x.t o.dst undef, x.h, x.m⟩) hr hm ⟨put_ok H.t o.dst (.same rfl), by cases hd : o.dst <;> simp [Act.put, H.d], H.h⟩ hQ

/-! Code. -/
abbrev DrawFn := Rec → Array Oper → St → Option St
def DrawOk (P : Program) (dr : DrawFn) : Prop :=
  ∀ (rec : Rec), RecOk P rec → ∀ (ops : Array Oper) (x x' : St), dr rec ops x = some x' → ∀ (wb : Wb) (k : Nat) (s : Ren) (id : Nat) (a : Act) (w : World), Bnd k x'.m → SR wb k s x a w →
    (Code.region id ops true).wp P (Post wb k s x' .normal) a w
def DrawLow (dr : DrawFn) : Prop := ∀ (rec : Rec) (ops : Array Oper) (x x' : St), dr rec ops x = some x' → ∀ (k : Nat), Bnd k x'.m → Bnd k x.m
def loopN (body : St → Option (Exit × St)) : Nat → St → Option (Exit × St)
  | 0, _ => none
  | n + 1, x =>
    match body x with
    | some (.normal, x') => loopN body n x'
    | r => r
/-- What a number or a test comes to that cannot be reckoned: by the function, the place that it is laid in, and the temporaries then. -/
abbrev Orc := FuncId → Tmp → List Value → Option Value
def noOrc : Orc := fun _ _ _ => none
/-- Loops that are told by a theorem: by the function, the loop's body, the state ahead of it. -/
abbrev LoopHook := FuncId → Code → St → Option (Exit × St)
def noLoop : LoopHook := fun _ _ _ => none
def exG (P : Program) (op : OpFn) (dr : DrawFn) (hk : Hook3) (orc : Orc) (ac : Acc) (lh : LoopHook) (L : Nat) : Nat → FuncId → Code → St → Option (Exit × St)
  | 0, _, _, _ => none
  | f + 1, fid, c, x =>
    match c with
    | .skip => some (.normal, x)
    | .label _ => some (.normal, x)
    | .region _ ops false =>
      match seqA P op ⟨exG P op dr hk orc ac lh L f, hk, orc fid, ac⟩ ops ops.toList x with
      | some x' => some (.normal, x')
      | none => none
    | .region _ ops true =>
      match dr ⟨exG P op dr hk orc ac lh L f, hk, orc fid, ac⟩ ops x with
      | some x' => some (.normal, x')
      | none => none
    | .seq a b =>
      match exG P op dr hk orc ac lh L f fid a x with
      | some (.normal, x') => exG P op dr hk orc ac lh L f fid b x'
      | r => r
    | .cond c a b =>
      if okX x.h c then
        match lookA x.t c with
        | .bool true => exG P op dr hk orc ac lh L f fid a x
        | .bool false => exG P op dr hk orc ac lh L f fid b x
        | _ => none
      else none
    | .block id c =>
      match exG P op dr hk orc ac lh L f fid c x with
      | some (.exit i, x') => if i = id then some (.normal, x') else some (.exit i, x')
      | r => r
    | .loop c =>
      match lh fid c x with
      | some r => some r
      | none => loopN (exG P op dr hk orc ac lh L f fid c) L x
    | .exit id => some (.exit id, x)
    | .ret => some (.ret, x)
    | .scope c =>
      match exG P op dr hk orc ac lh L f fid c x with
      | some (.goto _, _) => none
      | r => r
    | _ => none
def ex (P : Program) (op : OpFn) (dr : DrawFn) (hk : Hook3) (orc : Orc) (ac : Acc) (L : Nat) := exG P op dr hk orc ac noLoop L
end
end Go.Proofs.Ytafegjmaldbbiaa.Ex
