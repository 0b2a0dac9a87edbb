/-
  Lemmas for the laws of this seat, part M: Ex12, Ex13, Ex14, Memo, Shelf, RepHook, NoNG, Law08a, Ex15, Ex16, Ex18, ExI, Ex19, Ex23.
-/
import Derived.Test.YtafegjmaldbbiaaPackL
import Derived.Shelf.Strings.Repeat
import Derived.Test.YtafegjmaldbbiaaProg
section
namespace Go.Proofs.Ytafegjmaldbbiaa.Ex
open Go Go.RowKit

def lexMask (ops : Array Oper) (n : Nat) : Array Bool := ⟨List.replicate n true ++ List.replicate (ops.size - n) false⟩
/-- What stands behind the head is forced. -/
def tailB (ops : Array Oper) (n : Nat) : Bool :=
  n == ops.size || (decide (n < ops.size) && Region.sinkB .any ops n && Region.chainB .any ops n && Region.seqB .any ops (ops.size - n) n (lexMask ops n))
/-- What memory is behind the head, in the text's order. -/
def lexHeap (k : Nat) : List HE → Nat → List AO → Option (List AO)
  | [], _, h => some h
  | e :: es, q, h =>
    match e.b, e.st with
    | [], none => lexHeap k es q h
    | b :: bs, none => lexHeap k es (q + (b :: bs).length) (layL h q (b :: bs))
    | [], some (a, vs) =>
      if a.block < k then
        match astore h a vs with
        | some h' => lexHeap k es q h'
        | none => none
      else none
    | _ :: _, some _ => none
/-- What the head marks. -/
def headM : List HE → Mk
  | [] => (none, [])
  | e :: es => low (e.st.map (·.1.block), e.d) (headM es)
theorem headM_bnd {k : Nat} : ∀ {es : List HE}, Bnd k (headM es) → ∀ (i : Nat) (e : HE), es[i]? = some e → (∀ a vs, e.st = some (a, vs) → k ≤ a.block) ∧ ∀ c ∈ e.d, c.1 = c.2
  | [], _, i, e, he => by simp at he
  | f :: es, h, i, e, he => by
    obtain ⟨h1, h2⟩ := bnd_low h
    cases i with
    | zero =>
      simp at he
      subst he
      exact ⟨fun a vs hs => h1.1 _ (by simp [hs]), h1.2⟩
    | succ i => exact headM_bnd h2 i e (by simpa using he)
/-- What only reckons, and lays nothing. -/
def pureE (e : HE) : Bool :=
  match e.b, e.st, e.rd with
  | [], none, .none => true
  | _, _, _ => false
def pureAt (es : List HE) (i : Nat) : Bool :=
  match es[i]? with
  | some e => pureE e
  | none => false
def readyB (ops : Array Oper) (listed : Array Bool) (i : Nat) : Bool :=
  match ops[i]? with
  | some o => !listed.getD i true && o.after.toList.all fun e => !Region.binds .any e || listed.getD e.on false
  | none => false
/-- Operations that only reckon may be taken ahead. -/
def prepL (ops : Array Oper) (es : List HE) : List Nat → Array Bool → Array Bool
  | [], listed => listed
  | i :: is, listed =>
    if pureAt es i && readyB ops listed i && Region.free .any ops listed i then prepL ops es is (listed.setIfInBounds i true)
    else prepL ops es is listed
def sinkL (ops : Array Oper) (n : Nat) (base : Array Bool) : Bool :=
  (List.range n).all fun i => base.getD i false || (List.range (n + 1)).any fun j => decide (i < j) && Region.waitsFor .any ops j i
def baseOf (ops : Array Oper) (n : Nat) (es : List HE) : Array Bool :=
  if n == ops.size || Region.sinkB .any ops n then Array.replicate ops.size false else prepL ops es (List.range n) (Array.replicate ops.size false)
/-- What stands behind the head is forced. -/
def tailL (ops : Array Oper) (n : Nat) (base : Array Bool) : Bool :=
  n == ops.size || (decide (n < ops.size) && sinkL ops n base && Region.chainB .any ops n && Region.seqB .any ops (ops.size - n) n (lexMask ops n))
def drawA (P : Program) : DrawFn := fun rec ops x =>
  match headRun P rec ops x.h ops.toList 0 x.t [] with
  | (n, t, l, es) =>
    if P.follows .mixedOrders && Region.noSelect ops && decide (n ≤ ops.size) && depsB ops n && memB ops n es && tailL ops n (baseOf ops n es) then
      match lexHeap x.h.length es x.h.length (x.h ++ List.replicate l.length dead) with
      | some h => seqA P (aOp P) rec ops (ops.toList.drop n) ⟨t, h, low x.m (headM es)⟩
      | none => none
    else none
theorem drawA_low (P : Program) : DrawLow (drawA P) := by
  intro rec ops x x' hr k hm
  unfold drawA at hr
  split at hr
  split at hr
  · split at hr
    · exact (bnd_low (seqA_low hr hm)).1
    · cases hr
  · cases hr

section
variable {P : Program} {rec : Rec} {ops : Array Oper} {n : Nat} {t0 t' : List Value} {h0 l' : List AO} {es : List HE} {T : Nat → List Value} {E : Nat → HE} {N : Nat → List AO}

theorem aload_same {h h0 : List AO} {a : Addr} {m : Nat} {o o' : AO} (h1 : h0[a.block]? = some o) (h2 : h[a.block]? = some o') (hl : o'.live = o.live) (he : o'.es = o.es) (hn : o'.cs.length = o.cs.length)
    (hc : ∀ z, a.off ≤ z → z < a.off + m → o'.cs[z]? = o.cs[z]?) : aload h a m = aload h0 a m := by
  unfold aload
  rw [h1, h2]
  have hm : isM o' = isM o := by unfold isM; rw [he]
  simp only [hl, hn, hm]
  split
  · congr 1
    refine List.ext_getElem? fun x => ?_
    rw [List.getElem?_take, List.getElem?_take]
    split
    · rw [List.getElem?_drop, List.getElem?_drop]
      exact hc _ (by omega) (by omega)
    · rfl
  · rfl
theorem oLoad_same {h h0 : List AO} {t : TypeId} {x v : Value} {r : List AO × Option Nat} (hr : oLoad P t x h0 = some (.value v, r)) (ha : ∀ a m, loadH P t x = some (a, m) → aload h a m = aload h0 a m) : oLoad P t x h = some (.value v, h, none) := by
  cases hd : P.underlying t with
  | none => cases x <;> simp [oLoad, hd] at hr
  | some d =>
    cases hi : P.info? t with
    | none => cases x <;> simp [oLoad, hd, hi] at hr
    | some i =>
      cases x with
      | pointer p =>
        cases p with
        | none => simp [oLoad] at hr
        | some a =>
          have h1 := ha a (if aggD d then i.size else 1) (by simp [loadH, hd, hi])
          simp only [oLoad, hd, hi] at hr ⊢
          by_cases hg : aggD d = true
          · simp only [hg, if_true] at hr h1 ⊢
            rw [h1]
            cases hl : aload h0 a i.size with
            | none => rw [hl] at hr; cases hr
            | some vs => rw [hl] at hr; cases hr; rfl
          · simp only [hg] at hr h1 ⊢
            simp only [Bool.false_eq_true, if_false] at hr h1 ⊢
            rw [h1]
            cases hl : aload h0 a 1 with
            | none => rw [hl] at hr; cases hr
            | some vs =>
              rw [hl] at hr
              cases vs with
              | nil => cases hr
              | cons u vs => cases hr; rfl
      | _ => simp [oLoad] at hr
theorem execOp_store {ρ : Operand → Value} {o : Oper} {t : TypeId} {x y : Operand} (h : o.op = .store t x y) : execOp ρ o = aunit (Instr.storeAt t (ρ x) (ρ y)) := by
  obtain ⟨dst, op, type, pos, after, guard⟩ := o
  simp only at h
  subst h
  rfl
/-- A store of the head: what it must find. -/
theorem storeH_spec {t : TypeId} {x y : Value} {a : Addr} {vs : List Value} (h : storeH P t x y h0 = some (a, vs)) :
    x = .pointer (some a) ∧ vs = y.cells.toList ∧ (∃ i, P.info? t = some i ∧ vs.length = i.size) ∧ vs.all (·.oneCell') = true ∧ ∃ o, h0[a.block]? = some o ∧ o.live = true ∧ isW o = true ∧ a.off + vs.length ≤ o.cs.length := by
  unfold storeH at h
  split at h
  · rename_i b i hi
    split at h
    · rename_i hc
      simp only [Bool.and_eq_true, beq_iff_eq] at hc
      split at h
      · rename_i o ho
        split at h
        · rename_i hl
          simp only [Bool.and_eq_true, decide_eq_true_eq] at hl
          simp only [Option.some.injEq, Prod.mk.injEq] at h
          obtain ⟨rfl, rfl⟩ := h
          exact ⟨rfl, rfl, ⟨i, hi, hc.1⟩, hc.2, o, ho, hl.1.1, hl.1.2, hl.2⟩
        · cases h
      · cases h
    · cases h
  · cases h
theorem isW_es {o o' : AO} (h : o'.es = o.es) : isW o' = isW o := by unfold isW; rw [h]
theorem astore_some {h : List AO} {a : Addr} {vs : List Value} {o : AO} (ho : h[a.block]? = some o) (hl : o.live = true) (hw : isW o = true) (hf : a.off + vs.length ≤ o.cs.length) : ∃ h', astore h a vs = some h' := by
  unfold astore
  rw [ho]
  simp [hl, hw, hf]
theorem store_run {wb : Wb} {k : Nat} {s : Ren} {h h' : List AO} {w : World} (H : HR wb k s h w) {t : TypeId} {a : Addr} {x' y y' : Value} (hx : VR s (.pointer (some a)) x') (hy : VR s y y') {i : TypeInfo} (hi : P.info? t = some i)
    (hl : y.cells.toList.length = i.size) (ho : y.cells.toList.all (·.oneCell') = true) (hst : astore h a y.cells.toList = some h') (hk : k ≤ a.block) :
    ∃ w', (aunit (Instr.storeAt t x' y')).run P w = .ok .skip w' ∧ HR wb k s h' w' := by
  obtain ⟨p, hs, hp, rfl⟩ := hx.ptr_inv
  obtain ⟨h1, h2, H'⟩ := astore_spec H hst hk hp hy.cells
  have hone : ∀ v ∈ y'.cells.toList, v.oneCell' = true := by
    intro v hv
    obtain ⟨j, hj⟩ := List.getElem?_of_mem hv
    obtain ⟨u, hu, huv⟩ := hy.cells.get' hj
    exact huv.one (all_get ho hu)
  have h3 := run_storeCells_cells (P := P) p.blk (p.off + a.off) y'.cells.toList 0 w (by simpa using h1) (by simpa using h2) hone
  have hsz : y'.cells.size = i.size := by rw [← hl, hy.cells.1]; simp
  exact ⟨_, by simp [aunit, Instr.storeAt, Instr.sureAddr, storeVar, run_size hi, hsz, h3], H'⟩

/-- The state when some of the head's operations are done. -/
def Mid (ops : Array Oper) (n : Nat) (t0 : List Value) (h0 : List AO) (E : Nat → HE) (N : Nat → List AO) (wb : Wb) (k : Nat) (s0 : Ren) (listed : Array Bool) (a : Act) (w : World) : Prop :=
  ∃ s t h, Le s0 s ∧ (∀ i, i < h0.length → s i = s0 i) ∧ LR s t a.tmps.toList ∧ a.defers = [] ∧ HR wb k s h w ∧ ((∀ j, j < n → (E j).st ≠ none → listed.getD j false = false) → HR wb k s0 h0 w) ∧
    MT ops n t0 E (fun i => listed.getD i false) t ∧ MH n h0 E N (fun i => listed.getD i false) h s

theorem glob_same {s : Ren} {h : List AO} {done : Nat → Bool} (hg : GlOk s h) (h1 : ∀ (x : Nat) (o : AO), h0[x]? = some o → ∃ o', h[x]? = some o' ∧ BlkAt n E done x o o') : GlOk s h0 := by
  intro g hgg
  refine hg g ?_
  unfold isG at hgg ⊢
  cases ho : h0[g]? with
  | none => rw [ho] at hgg; cases hgg
  | some o =>
    rw [ho] at hgg
    obtain ⟨o', e1, e2, e3, _⟩ := h1 g o ho
    rw [e1]
    simp only at hgg ⊢
    rw [e2, e3]
    exact hgg
theorem mask_next {listed : Array Bool} {i : Nat} (hi : i < listed.size) : (fun j => (listed.setIfInBounds i true).getD j false) = fun j => listed.getD j false || j == i := by
  funext j
  by_cases e : i = j
  · subst e
    simp [hi]
  · rw [getD_set_ne false e]
    simp [Ne.symm e]
theorem mid_ctx (S : HeadSpec P rec ops h0 ops.toList 0 n t0 [] t' l' es T E N) (hd : depsB ops n = true) {listed : Array Bool} (inv : HeadInv .any ops n listed) {t : List Value} (M : MT ops n t0 E (fun i => listed.getD i false) t) {i : Nat}
    (hr : i ∈ Region.ready .any ops listed) (hi : i < n) {o1 : Oper} (ho : ops[i]? = some o1) : (∀ y, y ∈ o1.op.operands → lookA t y = lookA (T i) y) ∧ wantedA ops t o1 = wantedA ops (T i) o1 := by
  obtain ⟨hun, o2, ho2, hall⟩ := mem_ready.1 hr
  have eo : o1 = o2 := Option.some.inj (ho.symm.trans ho2)
  subst eo
  obtain ⟨hd1, hd2⟩ := depsB_spec hd hi ho
  have hisz : i < listed.size := by rw [inv.size]; exact (Array.getElem?_eq_some_iff.1 ho).1
  have hnd : listed.getD i false = false := getD_both hun
  obtain ⟨g1, g2, g3⟩ := lex_ok S hd i (by omega)
  -- what the operation looks at is as in the text's order
  have agree : ∀ d, d ∈ o1.looksAt ops → t[d]? = (T i)[d]? := by
    intro d hdl
    by_cases hx : d < t0.length
    · by_cases hw : ∃ j p, j < n ∧ ops[j]? = some p ∧ p.dst = some d
      · obtain ⟨j, p, hj, hp, hpd⟩ := hw
        have hone : ∀ j' p', j' < n → ops[j']? = some p' → p'.dst = some d → j' = j := by
          intro j' p' hj' hp' hpd'
          rcases Nat.decEq j' j with hne | he
          · exact absurd hpd' ((depsB_spec hd hj' hp').2 j p d hj hp hpd hne).1
          · exact he
        rcases Nat.lt_trichotomy j i with hlt | heq | hgt
        · obtain ⟨e, he, hb, hon⟩ := waits_spec (((hd2 j p d hj hp hpd (by omega)).2 hdl).1 hlt)
          have hdone := hall e he hb
          rw [hon] at hdone
          rw [M.t1 j p d hj hp hpd hdone hx, g2 j p d hlt hp hpd hx]
        · rw [M.t2 d fun j' p' hj' hp' hdn hpd' => by
            have h5 := hone j' p' hj' hp' hpd'
            have h6 : listed.getD j' false = true := hdn
            rw [h5, heq, hnd] at h6
            cases h6]
          rw [g3 d fun j' p' hj' hp' hpd' => by
            have h5 := hone j' p' (by omega) hp' hpd'
            omega]
        · have hnj : listed.getD j false = false := by
            cases hq : listed.getD j false with
            | false => rfl
            | true =>
              obtain ⟨e, he, hb, hon⟩ := waits_spec (((hd2 j p d hj hp hpd (by omega)).2 hdl).2 hgt)
              have := inv.closed j p hp hq e he hb
              rw [hon, hnd] at this
              cases this
          rw [M.t2 d fun j' p' hj' hp' hdn hpd' => by
            have h5 := hone j' p' hj' hp' hpd'
            have h6 : listed.getD j' false = true := hdn
            rw [h5, hnj] at h6
            cases h6]
          rw [g3 d fun j' p' hj' hp' hpd' => by
            have h5 := hone j' p' (by omega) hp' hpd'
            omega]
      · have hn : ∀ j p, j < n → ops[j]? = some p → p.dst ≠ some d := fun j p hj hp e => hw ⟨j, p, hj, hp, e⟩
        rw [M.t2 d fun j p hj hp _ => hn j p hj hp, g3 d fun j p hj hp => hn j p (by omega) hp]
    · have hx' : t0.length ≤ d := Nat.le_of_not_lt hx
      rw [List.getElem?_eq_none (by rw [M.tl]; exact hx'), List.getElem?_eq_none (by rw [g1]; exact hx')]
  have hlook : ∀ y, y ∈ o1.op.operands → lookA t y = lookA (T i) y := by
    intro y hy
    cases y with
    | tmp d =>
      have : d ∈ o1.looksAt ops := by
        unfold Oper.looksAt
        refine List.mem_append_left _ (List.mem_filterMap.2 ⟨.tmp d, by simpa using hy, rfl⟩)
      simp only [lookA, List.getD, agree d this]
    | _ => rfl
  have hwant : wantedA ops t o1 = wantedA ops (T i) o1 := by
    unfold wantedA
    cases hg : o1.guard with
    | none => rfl
    | some gw =>
      obtain ⟨g, want⟩ := gw
      have : yA ops t g = yA ops (T i) g := by
        unfold yA
        cases hdg : (ops[g]?).bind (·.dst) with
        | none => rfl
        | some d =>
          have hm : d ∈ o1.looksAt ops := by
            unfold Oper.looksAt
            refine List.mem_append_right _ ?_
            rw [hg]
            simp [hdg]
          simp only [Option.bind_some, agree d hm]
      simp only [this]
  exact ⟨hlook, hwant⟩
theorem mid_pure (hng : NoNG P) (hacc : rec.acc = accP) (S : HeadSpec P rec ops h0 ops.toList 0 n t0 [] t' l' es T E N) (hd : depsB ops n = true) {k : Nat} {wb : Wb} {s0 : Ren} {listed : Array Bool} {a : Act} {w : World} (inv : HeadInv .any ops n listed)
    (J : Mid ops n t0 h0 E N wb k s0 listed a w) {i : Nat} (hr : i ∈ Region.ready .any ops listed) (hi : i < n) (hp : pureE (E i) = true) (hdi : ∀ c ∈ (E i).d, c.1 = c.2) :
    ∃ o v, ops[i]? = some o ∧ Yields P ops o v a ∧ Mid ops n t0 h0 E N wb k s0 (listed.setIfInBounds i true) (a.put o.dst v) w := by
  obtain ⟨s, t, h, hle, hbel, ht, hdf, H, H0, M, MM⟩ := J
  obtain ⟨o1, ho, hs, hT⟩ := op_at S hi
  obtain ⟨hlook, hwant⟩ := mid_ctx S hd inv M hr hi ho
  have hisz : i < listed.size := by rw [inv.size]; exact (Array.getElem?_eq_some_iff.1 ho).1
  have hmask := mask_next (i := i) hisz
  have hb : (E i).b = [] ∧ (E i).st = none ∧ (E i).rd = .none := by
    unfold pureE at hp
    split at hp
    · exact ⟨by assumption, by assumption, by assumption⟩
    · cases hp
  obtain ⟨hb1, hb2, hb3⟩ := hb
  have hno : (∀ j, j < n → (E j).st ≠ none → (listed.setIfInBounds i true).getD j false = false) → ∀ j, j < n → (E j).st ≠ none → listed.getD j false = false := by
    intro hh j hj hst
    have h1 := hh j hj hst
    have h2 := congrFun hmask j
    rw [h1] at h2
    cases hq : listed.getD j false with
    | false => rfl
    | true => rw [hq] at h2; simp at h2
  have go : ∀ v', VR s (E i).v v' → Mid ops n t0 h0 E N wb k s0 (listed.setIfInBounds i true) (a.put o1.dst v') w := by
    intro v' hv
    refine ⟨s, putA t o1.dst (E i).v, h, hle, hbel, put_ok ht o1.dst hv, by cases hq : o1.dst <;> simp [Act.put, hdf], H, fun hh => H0 (hno hh), ?_, ?_⟩
    · rw [hmask]; exact mt_next hd M hi ho
    · rw [hmask]; exact mh_still MM hb2 hb1
  obtain ⟨e0, cs0, hs, inj⟩ := headStep_inv hs hdi
  unfold headStep0 at hs
  rw [hacc] at hs
  simp only [accP] at hs
  split at hs
  · rename_i hwt
    split at hs
    · rename_i hok
      have hρ : ∀ y ∈ o1.op.operands, VR s (lookA (T i) y) (a.eval y) := fun y hy => by
        rw [← hlook y hy]
        exact eval_ok ht (glob_same H.glob MM.h1) (List.all_eq_true.1 hok y (by simpa using hy))
      split at hs
      · rw [← inj _ hs] at hb3
        cases hb3
      split at hs
      · split at hs
        · split at hs
          · rw [← inj _ hs] at hb3
            cases hb3
          · cases hs
        · cases hs
      split at hs
      · split at hs
        · rw [← inj _ hs] at hb3
          cases hb3
        · cases hs
      split at hs
      · split at hs
        · rename_i v cs1 hq
          have hE := inj _ hs
          have hcs1 : ∀ c ∈ cs1, c.1 = c.2 := fun c hc => hdi c (by rw [← hE]; exact List.mem_append_left _ hc)
          refine ⟨o1, v, ho, .inl ⟨by rw [wanted_ok ht, hwant]; exact hwt, fun w2 => (qsOp_ok (P := P) hρ hq hcs1 w2).1⟩, go v (by rw [← hE]; exact .same (qsOp_ok (P := P) hρ hq hcs1 w).2)⟩
        · split at hs
          · rw [← inj _ hs] at hb3
            cases hb3
          · split at hs
            · rw [← inj _ hs] at hb1
              cases hb1
            · split at hs
              · rw [← inj _ hs] at hb3
                cases hb3
              · split at hs
                · split at hs
                  · split at hs
                    · split at hs
                      · rw [← inj _ hs] at hb3
                        cases hb3
                      · cases hs
                    · cases hs
                  · cases hs
                · cases hs
      split at hs
      · rw [← inj _ hs] at hb1
        cases hb1
      · split at hs
        · rw [← inj _ hs] at hb1
          cases hb1
        · split at hs
          · rename_i v x1 x2 hso
            have hE := inj _ hs
            have hall : ∀ w, Okay0 P s [] w (execOp a.eval o1) (.value v, x1, x2) := fun w => sOp_ok P hng s [] w _ _ o1 _ (fun j p hj => by simp at hj) hρ hso
            obtain ⟨n', e1, e2, _⟩ := hall w
            cases n' <;> simp only [NR] at e2
            rename_i v'
            refine ⟨o1, v', ho, .inl ⟨by rw [wanted_ok ht, hwant]; exact hwt, fun w2 => ?_⟩, go v' (by rw [← hE]; exact e2)⟩
            obtain ⟨n2, g1, g2, _⟩ := hall w2
            cases n2 <;> simp only [NR] at g2
            rw [g1, VR.det g2 e2]
          · split at hs
            · split at hs
              · split at hs
                · rw [← inj _ hs] at hb3
                  cases hb3
                · cases hs
              · cases hs
            · split at hs
              · split at hs
                · split at hs
                  · rw [← inj _ hs] at hb3
                    cases hb3
                  · cases hs
                · cases hs
              · cases hs
          · split at hs
            · split at hs
              · rw [← inj _ hs] at hb2
                cases hb2
              · cases hs
            · split at hs
              · rw [← inj _ hs] at hb3
                cases hb3
              · cases hs
            · split at hs
              · rw [← inj _ hs] at hb3
                cases hb3
              · split at hs
                · split at hs
                  · split at hs
                    · rw [← inj _ hs] at hb3
                      cases hb3
                    · cases hs
                  · cases hs
                · cases hs
    · cases hs
  · rename_i hwt
    have hE := inj _ hs
    exact ⟨o1, undef, ho, .inr ⟨by rw [wanted_ok ht, hwant]; simpa using hwt, rfl⟩, go undef (by rw [← hE]; exact .same rfl)⟩
theorem mid_op (S : HeadSpec P rec ops h0 ops.toList 0 n t0 [] t' l' es T E N) (hd : depsB ops n = true) (hrec : RecOk P rec) (hmem : memB ops n es = true) {k : Nat} (hcs : Bnd k (headM es)) {wb : Wb} {s0 : Ren} {listed : Array Bool} {a : Act} {w : World}
    (hk : k ≤ h0.length) (inv : HeadInv .any ops n listed) (J : Mid ops n t0 h0 E N wb k s0 listed a w) {i : Nat} (hr : i ∈ Region.ready .any ops listed) (hi : i < n) {Q : Exit → Act → World → Prop} {K : Act → World → Prop}
    (hK : ∀ a' w', Mid ops n t0 h0 E N wb k s0 (listed.setIfInBounds i true) a' w' → K a' w') : wpOp P ops Q i K a w := by
  obtain ⟨s, t, h, hle, hbel, ht, hdf, H, H0, M, MM⟩ := J
  obtain ⟨hun, o1, ho1, hall⟩ := mem_ready.1 hr
  obtain ⟨o, ho, hs, hT⟩ := op_at S hi
  have eo : o1 = o := Option.some.inj (ho1.symm.trans ho)
  subst eo
  obtain ⟨hd1, hd2⟩ := depsB_spec hd hi ho
  have hisz : i < listed.size := by rw [inv.size]; exact (Array.getElem?_eq_some_iff.1 ho).1
  have hnd : listed.getD i false = false := getD_both hun
  obtain ⟨g1, g2, g3⟩ := lex_ok S hd i (by omega)
  -- what the operation looks at is as in the text's order
  have agree : ∀ d, d ∈ o1.looksAt ops → t[d]? = (T i)[d]? := by
    intro d hdl
    by_cases hx : d < t0.length
    · by_cases hw : ∃ j p, j < n ∧ ops[j]? = some p ∧ p.dst = some d
      · obtain ⟨j, p, hj, hp, hpd⟩ := hw
        have hone : ∀ j' p', j' < n → ops[j']? = some p' → p'.dst = some d → j' = j := by
          intro j' p' hj' hp' hpd'
          rcases Nat.decEq j' j with hne | he
          · exact absurd hpd' ((depsB_spec hd hj' hp').2 j p d hj hp hpd hne).1
          · exact he
        rcases Nat.lt_trichotomy j i with hlt | heq | hgt
        · obtain ⟨e, he, hb, hon⟩ := waits_spec (((hd2 j p d hj hp hpd (by omega)).2 hdl).1 hlt)
          have hdone := hall e he hb
          rw [hon] at hdone
          rw [M.t1 j p d hj hp hpd hdone hx, g2 j p d hlt hp hpd hx]
        · rw [M.t2 d fun j' p' hj' hp' hdn hpd' => by
            have h5 := hone j' p' hj' hp' hpd'
            have h6 : listed.getD j' false = true := hdn
            rw [h5, heq, hnd] at h6
            cases h6]
          rw [g3 d fun j' p' hj' hp' hpd' => by
            have h5 := hone j' p' (by omega) hp' hpd'
            omega]
        · have hnj : listed.getD j false = false := by
            cases hq : listed.getD j false with
            | false => rfl
            | true =>
              obtain ⟨e, he, hb, hon⟩ := waits_spec (((hd2 j p d hj hp hpd (by omega)).2 hdl).2 hgt)
              have := inv.closed j p hp hq e he hb
              rw [hon, hnd] at this
              cases this
          rw [M.t2 d fun j' p' hj' hp' hdn hpd' => by
            have h5 := hone j' p' hj' hp' hpd'
            have h6 : listed.getD j' false = true := hdn
            rw [h5, hnj] at h6
            cases h6]
          rw [g3 d fun j' p' hj' hp' hpd' => by
            have h5 := hone j' p' (by omega) hp' hpd'
            omega]
      · have hn : ∀ j p, j < n → ops[j]? = some p → p.dst ≠ some d := fun j p hj hp e => hw ⟨j, p, hj, hp, e⟩
        rw [M.t2 d fun j p hj hp _ => hn j p hj hp, g3 d fun j p hj hp => hn j p (by omega) hp]
    · have hx' : t0.length ≤ d := Nat.le_of_not_lt hx
      rw [List.getElem?_eq_none (by rw [M.tl]; exact hx'), List.getElem?_eq_none (by rw [g1]; exact hx')]
  have hlook : ∀ y, y ∈ o1.op.operands → lookA t y = lookA (T i) y := by
    intro y hy
    cases y with
    | tmp d =>
      have : d ∈ o1.looksAt ops := by
        unfold Oper.looksAt
        refine List.mem_append_left _ (List.mem_filterMap.2 ⟨.tmp d, by simpa using hy, rfl⟩)
      simp only [lookA, List.getD, agree d this]
    | _ => rfl
  have hwant : wantedA ops t o1 = wantedA ops (T i) o1 := by
    unfold wantedA
    cases hg : o1.guard with
    | none => rfl
    | some gw =>
      obtain ⟨g, want⟩ := gw
      have : yA ops t g = yA ops (T i) g := by
        unfold yA
        cases hdg : (ops[g]?).bind (·.dst) with
        | none => rfl
        | some d =>
          have hm : d ∈ o1.looksAt ops := by
            unfold Oper.looksAt
            refine List.mem_append_right _ ?_
            rw [hg]
            simp [hdg]
          simp only [Option.bind_some, agree d hm]
      simp only [this]
  have hmask := mask_next (i := i) hisz
  have hEi := eff_at S hi
  obtain ⟨hbi, hdi⟩ := headM_bnd hcs i _ hEi
  have hno : (∀ j, j < n → (E j).st ≠ none → (listed.setIfInBounds i true).getD j false = false) → ∀ j, j < n → (E j).st ≠ none → listed.getD j false = false := by
    intro hh j hj hst
    have h1 := hh j hj hst
    have h2 := congrFun hmask j
    rw [h1] at h2
    cases hq : listed.getD j false with
    | false => rfl
    | true => rw [hq] at h2; simp at h2
  -- what waits for it is not done
  have behind : ∀ j oj, ops[j]? = some oj → waits oj i = true → listed.getD j false = false := by
    intro j oj hoj hw
    cases hq : listed.getD j false with
    | false => rfl
    | true =>
      obtain ⟨e, he, hb, hon⟩ := waits_spec hw
      have := inv.closed j oj hoj hq e he hb
      rw [hon, hnd] at this
      cases this
  have reads : (E i).rd = .any → HR wb k s0 h0 w := by
    intro hrd
    refine H0 fun j hj hst => ?_
    obtain ⟨⟨b, vs⟩, hs'⟩ := Option.ne_none_iff_exists'.1 hst
    by_cases e : i = j
    · rw [← e]; exact hnd
    · obtain ⟨oj, hoj, _, _⟩ := op_at S hj
      exact behind j oj hoj ((memB_spec hmem hj (eff_at S hj) hs' hi e hEi hoj).2.1 hrd)
  have mr0 : HR wb k s0 h0 w → MR s h0 w := fun H' j p hj hl => by
    obtain ⟨q, hq, he, hb⟩ := H'.obj j p hj hl
    exact ⟨q, hle _ _ hq, he, hb.mono hle⟩
  have mrn : MR s [] w := fun j p hj _ => by simp at hj
  -- how it goes on
  have still : ∀ (v' : Value) (w' : World), (E i).b = [] → (E i).st = none → VR s (E i).v v' → Gr w w' → K (a.put o1.dst v') w' := by
    intro v' w' hb hst hv hg
    refine hK _ _ ⟨s, putA t o1.dst (E i).v, h, hle, hbel, put_ok ht o1.dst hv, by cases hq : o1.dst <;> simp [Act.put, hdf], H.grow hg, fun hh => (H0 (hno hh)).grow hg, ?_, ?_⟩
    · rw [hmask]; exact mt_next hd M hi ho
    · rw [hmask]; exact mh_still MM hst hb
  unfold wpOp
  rw [ho]
  simp only
  rw [wanted_ok ht, hwant]
  obtain ⟨e0, cs0, hs, inj⟩ := headStep_inv hs hdi
  unfold headStep0 at hs
  rw [hrec.2.2.2] at hs
  simp only [accP] at hs
  split at hs
  · rename_i hwt
    rw [if_pos hwt]
    left
    split at hs
    · rename_i hok
      have hρ : ∀ y ∈ o1.op.operands, VR s (lookA (T i) y) (a.eval y) := fun y hy => by
        rw [← hlook y hy]
        exact eval_ok ht (glob_same H.glob MM.h1) (List.all_eq_true.1 hok y (by simpa using hy))
      split at hs
      · rename_i v htl
        have hE := inj _ hs
        have H1 := reads (by rw [← hE])
        have hso := sameC_ok (b2i_inj (b := true) (hdi (b2i (sameC (sOp P (lookA (T i)) o1 h0) (some (.value v, h0, none))), 1) (by rw [← hE]; simp)))
        obtain ⟨n', e1, e2, _⟩ := sOp_ok P hrec.2.2.1 s h0 w _ _ o1 _ (mr0 H1) hρ hso
        unfold Oper.wp
        rw [e1]
        cases n' <;> simp only [NR] at e2
        exact still _ _ (by rw [← hE]) (by rw [← hE]) (by rw [← hE]; exact e2) (Gr.refl w)
      split at hs
      · -- flatC
        split at hs
        · rename_i f args x1 x2 hso
          split at hs
          · rename_i v cs3 hca
            have hE := inj _ hs
            have H1 := reads (by rw [← hE])
            obtain ⟨n', e1, e2, _⟩ := sOp_ok P hrec.2.2.1 s [] w _ _ o1 _ mrn hρ hso
            unfold Oper.wp
            rw [e1]
            cases n' <;> simp only [NR] at e2
            rename_i g args'
            obtain ⟨rfl, hargs⟩ := e2
            have hd0 : ∀ c ∈ ((b2i (args.toList.all flat && flat v), 1) : Int × Int) :: cs3, c.1 = c.2 := fun c hc => hdi c (by rw [← hE]; exact List.mem_append_left _ hc)
            have hfl := b2i_inj (b := true) (hd0 _ (List.mem_cons_self ..))
            simp only [Bool.and_eq_true] at hfl
            have hea := hargs.eq_of_flat hfl.1
            obtain ⟨al⟩ := args'
            simp only at hea
            rw [hea]
            refine (hrec.2.1 _ args.toList h0 v [] cs3 hca (fun c hc => hd0 c (List.mem_cons_of_mem _ hc)) w h0.length s0 w args.toList (fun i hi => by cases hi) H1.here (LR.ofFlat hfl.1)).mono ?_
            rintro e w' ⟨s', v', rfl, hle1, H', hvr⟩
            have hv0 : (E i).v = v := by rw [← hE]
            exact still v' w' (by rw [← hE]) (by rw [← hE]) (by rw [hv0, hvr.eq_of_flat hfl.2]; exact .same hfl.2) H'.grown.gr
          · cases hs
        · cases hs
      split at hs
      · split at hs
        · rename_i v cs1 hq
          have hE := inj _ hs
          have H1 := reads (by rw [← hE])
          obtain ⟨n', e1, e2, _⟩ := tOp_ok (P := P) (mr0 H1) hρ hq (fun c hc => hdi c (by rw [← hE]; exact List.mem_append_left _ hc))
          unfold Oper.wp
          rw [e1]
          cases n' <;> simp only [NR] at e2
          exact still _ _ (by rw [← hE]) (by rw [← hE]) (by rw [← hE]; exact e2) (Gr.refl w)
        · cases hs
      split at hs
      · split at hs
        · rename_i v cs1 hq
          have hE := inj _ hs
          obtain ⟨e1, e2⟩ := qsOp_ok (P := P) hρ hq (fun c hc => hdi c (by rw [← hE]; exact List.mem_append_left _ hc)) w
          unfold Oper.wp
          rw [e1]
          exact still _ _ (by rw [← hE]) (by rw [← hE]) (by rw [← hE]; exact .same e2) (Gr.refl w)
        · split at hs
          · rename_i v cs1 hq
            have hE := inj _ hs
            have H1 := reads (by rw [← hE])
            obtain ⟨n', e1, e2, _⟩ := xsOp_ok (P := P) (mr0 H1) hρ hq (fun c hc => hdi c (by rw [← hE]; exact List.mem_append_left _ hc))
            unfold Oper.wp
            rw [e1]
            cases n' <;> simp only [NR] at e2
            exact still _ _ (by rw [← hE]) (by rw [← hE]) (by rw [← hE]; exact e2) (Gr.refl w)
          · split at hs
            · rename_i cs0' x cs1 hn
              have hE := inj _ hs
              have hb : (E i).b = [⟨true, none, cs0'⟩] := by rw [← hE]
              have hst : (E i).st = none := by rw [← hE]
              obtain ⟨arr, Ty, e1, e2⟩ := bMk_ok (P := P) hρ hn (fun c hc => hdi c (by rw [← hE]; exact List.mem_append_left _ hc)) w
              obtain ⟨q1, q2⟩ := MM.h3 i 0 _ hi (by rw [hb]; rfl) hnd
              simp only [Nat.add_zero] at q1 q2
              have hql : h0.length + (N i).length < h.length := (List.getElem?_eq_some_iff.1 q1).1
              obtain ⟨H', hle'⟩ := H.fill q2 hql (by omega) Ty e2
              have hg : Gr w (w.alloc (.cells arr Ty)) := Gr.alloc (Gr.refl w) arr Ty
              unfold Oper.wp
              rw [e1]
              refine hK _ _ ⟨_, putA t o1.dst (E i).v, _, hle.trans hle', fun j hj => ?_, put_ok (ht.mono hle') o1.dst ?_, by cases hq : o1.dst <;> simp [Act.put, hdf], H', fun hh => (H0 (hno hh)).grow hg, ?_, ?_⟩
              · rw [upd_other _ _ (by omega)]; exact hbel j hj
              · rw [← hE]
                exact mkNew_ok (upd_same _ _ _) (some x)
              · rw [hmask]; exact mt_next hd M hi ho
              · rw [hmask, ← layL_one hql, ← hb]
                exact mh_new S MM hi hst _ fun q hq => upd_other _ _ fun e => hq (by rw [hb, e]; simp)
            · split at hs
              · rename_i v cs1 hq
                have hE := inj _ hs
                have H1 := reads (by rw [← hE])
                have hdc : ∀ c ∈ cs1, c.1 = c.2 := fun c hc => hdi c (by rw [← hE]; exact List.mem_append_left _ hc)
                obtain ⟨src, dst, x, a0, l, c, b, cs', hop, hx, hle0, hnb, hlv, him, hbo, hfv, rfl⟩ := bTx_inv hq
                have hfl : b.cs.all flat = true := b2i_inj (b := true) (hdc _ (List.mem_cons_self ..))
                have hNn := N_pre S n (i := i) (by omega) (Nat.le_refl _)
                have hjl : a0.block - h0.length < (N i).length := (List.getElem?_eq_some_iff.1 hnb).1
                have hx' : VR s (.slice (some a0) l c) (a.eval x) := by
                  rw [← hx]
                  exact hρ x (by rw [hop]; simp [Op.operands])
                have hpl : (List.replicate (a0.block - h0.length) dead ++ [b]).length = a0.block - h0.length + 1 := by simp
                have HB := (HR.both H H1 hbel (fun x o hx hl => by
                  obtain ⟨o', h4, h5⟩ := MM.h1 x o hx
                  exact ⟨o', h4, h5.1.trans hl⟩) (pad := List.replicate (a0.block - h0.length) dead ++ [b]) (fun y o hy hl => by
                  have hyj : y = a0.block - h0.length ∧ o = b := by
                    by_cases e : y < a0.block - h0.length
                    · rw [List.getElem?_append_left (by simpa using e), List.getElem?_replicate, if_pos e] at hy
                      cases hy
                      cases hl
                    · rw [List.getElem?_append_right (by simpa using Nat.le_of_not_lt e), List.length_replicate] at hy
                      cases e2 : y - (a0.block - h0.length) with
                      | zero => rw [e2] at hy; exact ⟨by omega, by simpa using hy.symm⟩
                      | succ z => rw [e2] at hy; simp at hy
                  obtain ⟨rfl, rfl⟩ := hyj
                  refine ⟨?_, hfl, him⟩
                  obtain ⟨j, z, cs, hj, hb, hz⟩ := N_sur S i (by omega) _ hjl
                  have h6 := (N_at S (i := j) (by omega) hb).1
                  rw [hz, hNn.2 _ hjl, hnb] at h6
                  cases h6
                  cases hq : listed.getD j false with
                  | true =>
                    have := MM.h2 j z _ (by omega) hb hq
                    rwa [Nat.add_assoc, hz] at this
                  | false =>
                    have := (MM.h3 j z _ (by omega) hb hq).2
                    rw [Nat.add_assoc, hz] at this
                    obtain ⟨p, _, _, hp, _⟩ := hx'.slice_inv
                    rw [show h0.length + (a0.block - h0.length) = a0.block by omega] at this
                    rw [this] at hp
                    cases hp)).here
                obtain ⟨s', v', w', e1, hle1, H', hvr⟩ := bOp_ok (P := P) HB (ρ' := a.eval) (fun y hy => by
                  rw [hop] at hy
                  obtain rfl : y = x := by simpa [Op.operands] using hy
                  rw [hx]
                  exact newArg_ok (n := h0.length) (nid := a0.block + 1) (by omega) (fun j hj => by rw [hpl, if_pos (by omega)]) hx' (by simp [newArg])) hbo (fun c hc => hdc c (List.mem_cons_of_mem _ hc))
                unfold Oper.wp
                rw [e1]
                have hv0 : (E i).v = v := by rw [← hE]
                exact still v' w' (by rw [← hE]) (by rw [← hE]) (by rw [hv0, hvr.eq_of_flat hfv]; exact .same hfv) H'.grown.gr
              · split at hs
                · rename_i f args x1 x2 hso
                  split at hs
                  · rename_i hblw
                    split at hs
                    · rename_i v h1 m3 cs3 hca
                      split at hs
                      · rename_i hcond
                        simp only [Bool.and_eq_true] at hcond
                        obtain ⟨hq3, hrv⟩ := hcond
                        have hE := inj _ hs
                        have H1 := reads (by rw [← hE])
                        obtain ⟨n', e1, e2, _⟩ := sOp_ok P hrec.2.2.1 s [] w _ _ o1 _ mrn hρ hso
                        unfold Oper.wp
                        rw [e1]
                        cases n' <;> simp only [NR] at e2
                        rename_i g args'
                        obtain ⟨rfl, hargs⟩ := e2
                        have enid : h0.length + (N i).length - h0.length = (N i).length := by omega
                        rw [enid] at hca
                        have HP := (H1.pad (N i).length).here
                        rw [List.length_append, List.length_replicate] at HP
                        have hdd : ∀ c ∈ cs3 ++ (h1.drop (h0.length + (N i).length)).map (fun o => ((b2i (o.cs.all scal), 1) : Int × Int)), c.1 = c.2 := fun c hc => hdi c (by rw [← hE]; exact List.mem_append_left _ hc)
                        refine (callA_ok hrec hca (wb := w) (k := h0.length + (N i).length) ⟨quietB_ok hq3, fun c hc => hdd c (List.mem_append_left _ hc)⟩ (hargs.blw hbel hblw) HP).mono ?_
                        rintro e w' ⟨s', v', rfl, hle1, H', hvr⟩
                        have hb : (E i).b = h1.drop (h0.length + (N i).length) := by rw [← hE]
                        have hst : (E i).st = none := by rw [← hE]
                        have hv0 : (E i).v = v := by rw [← hE]
                        rw [← hb] at hrv
                        have hro : ∀ f, (E i).b.all (refO f) = true := fun f => List.all_eq_true.2 fun o ho => refO_scal (b2i_inj (b := true) (hdd (b2i (o.cs.all scal), 1) (List.mem_append_right _ (List.mem_map.2 ⟨o, by rw [← hb]; exact ho, rfl⟩))))
                        have hfit : h0.length + (N i).length + (E i).b.length ≤ h.length := by rw [MM.hl]; have := N_fit S hi; omega
                        have hlive : ∀ x, liveB h0 x = true → x < h0.length ∧ ∃ p, s0 x = some p := by
                          intro x hx
                          unfold liveB at hx
                          split at hx
                          · rename_i o ho
                            obtain ⟨p, hp, _⟩ := H1.obj x o ho hx
                            exact ⟨(List.getElem?_eq_some_iff.1 ho).1, p, hp⟩
                          · cases hx
                        obtain ⟨H2, hle2, hok⟩ := H.layNew (q := h0.length + (N i).length) (bs := (E i).b) hfit (by omega) (fun x hx1 hx2 => by
                            have hy : x - (h0.length + (N i).length) < (E i).b.length := by omega
                            have := (MM.h3 i (x - (h0.length + (N i).length)) _ hi (List.getElem?_eq_getElem hy) hnd).2
                            rwa [show h0.length + (N i).length + (x - (h0.length + (N i).length)) = x by omega] at this)
                          H' (fun x o ho => by rw [hb, List.getElem?_drop] at ho; exact ho) (old := liveB h0) (fun x hx => by have := (hlive x hx).1; omega)
                          (fun x hx => by
                            obtain ⟨hx1, p, hp⟩ := hlive x hx
                            rw [hbel x hx1, hp]
                            exact hle1 x p hp) (hro _)
                        refine hK _ _ ⟨_, putA t o1.dst (E i).v, _, hle.trans hle2, fun j hj => ?_, put_ok (ht.mono hle2) o1.dst ?_, by cases hq : o1.dst <;> simp [Act.put, hdf], H2, fun hh => (H0 (hno hh)).grow H'.grown.gr, ?_, ?_⟩
                        · rw [if_neg (by omega)]; exact hbel j hj
                        · rw [hv0]; exact hvr.refs hok 6 hrv
                        · rw [hmask]; exact mt_next hd M hi ho
                        · rw [hmask]
                          exact mh_new S MM hi hst _ fun q hq => if_neg hq
                      · cases hs
                    · cases hs
                  · cases hs
                · cases hs
      split at hs
      · rename_i cs sh hn
        have hE := inj _ hs
        have hb : (E i).b = [⟨true, none, cs⟩] := by rw [← hE]
        have hst : (E i).st = none := by rw [← hE]
        obtain ⟨arr, Ty, e1, e2⟩ := nOp_ok hρ hn w
        obtain ⟨q1, q2⟩ := MM.h3 i 0 _ hi (by rw [hb]; rfl) hnd
        simp only [Nat.add_zero] at q1 q2
        have hql : h0.length + (N i).length < h.length := (List.getElem?_eq_some_iff.1 q1).1
        obtain ⟨H', hle'⟩ := H.fill q2 hql (by omega) Ty e2
        have hg : Gr w (w.alloc (.cells arr Ty)) := Gr.alloc (Gr.refl w) arr Ty
        unfold Oper.wp
        rw [e1]
        refine hK _ _ ⟨_, putA t o1.dst (E i).v, _, hle.trans hle', fun j hj => ?_, put_ok (ht.mono hle') o1.dst ?_, by cases hq : o1.dst <;> simp [Act.put, hdf], H', fun hh => (H0 (hno hh)).grow hg, ?_, ?_⟩
        · rw [upd_other _ _ (by omega)]; exact hbel j hj
        · rw [← hE]
          exact mkNew_ok (upd_same _ _ _) sh
        · rw [hmask]; exact mt_next hd M hi ho
        · rw [hmask, ← layL_one hql, ← hb]
          exact mh_new S MM hi hst _ fun q hq => upd_other _ _ fun e => hq (by rw [hb, e]; simp)
      · split at hs
        · rename_i ao l hf
          have hE := inj _ hs
          have hb : (E i).b = [ao] := by rw [← hE]
          have hst : (E i).st = none := by rw [← hE]
          obtain ⟨arr, Ty, al, ae, e1, e2, e3, e4⟩ := fOp_ok hρ hf w
          obtain ⟨live, eso, cs⟩ := ao
          simp only at al ae e1 e3
          subst al
          subst ae
          obtain ⟨q1, q2⟩ := MM.h3 i 0 _ hi (by rw [hb]; rfl) hnd
          simp only [Nat.add_zero] at q1 q2
          have hql : h0.length + (N i).length < h.length := (List.getElem?_eq_some_iff.1 q1).1
          obtain ⟨H', hle'⟩ := H.drew.fillF q2 hql (by omega) Ty (some 1) rfl (arr.size, arr.size + 1) (fun o ho hh => by have := hh.1; omega) e1 (fun o v hv => ⟨v, (e3 o v hv).1, .same (e3 o v hv).2⟩)
          have hg : Gr w (w.drew.alloc (.cells arr Ty (arr.size, arr.size + 1))) := (Gr.drew (Gr.refl w)).allocO _
          unfold Oper.wp
          rw [e4]
          refine hK _ _ ⟨_, putA t o1.dst (E i).v, _, hle.trans hle', fun j hj => ?_, put_ok (ht.mono hle') o1.dst ?_, by cases hq : o1.dst <;> simp [Act.put, hdf], H', fun hh => (H0 (hno hh)).grow hg, ?_, ?_⟩
          · rw [upd_other _ _ (by omega)]; exact hbel j hj
          · rw [← hE]
            exact VR.slice (a := ⟨h0.length + (N i).length, 0, none⟩) rfl (upd_same _ _ _) (by unfold CapOk; exact ⟨by omega, by simp only [Nat.zero_add, Nat.mul_one, Nat.add_zero], e2⟩)
          · rw [hmask]; exact mt_next hd M hi ho
          · rw [hmask, ← layL_one hql, ← hb]
            exact mh_new S MM hi hst _ fun q hq => upd_other _ _ fun e => hq (by rw [hb, e]; simp)
        · split at hs
          · rename_i v x1 x2 hso
            have hE := inj _ hs
            obtain ⟨n', e1, e2, _⟩ := sOp_ok P hrec.2.2.1 s [] w _ _ o1 _ mrn hρ hso
            unfold Oper.wp
            rw [e1]
            cases n' <;> simp only [NR] at e2
            exact still _ _ (by rw [← hE]) (by rw [← hE]) (by rw [← hE]; exact e2) (Gr.refl w)
          · rename_i f args x1 x2 hso
            split at hs
            · rename_i hblw
              split at hs
              · rename_i v h1 m3 cs3 hca
                split at hs
                · rename_i hcond
                  simp only [Bool.and_eq_true] at hcond
                  obtain ⟨⟨hq3, hrv⟩, hro⟩ := hcond
                  have hE := inj _ hs
                  have H1 := reads (by rw [← hE])
                  obtain ⟨n', e1, e2, _⟩ := sOp_ok P hrec.2.2.1 s [] w _ _ o1 _ mrn hρ hso
                  unfold Oper.wp
                  rw [e1]
                  cases n' <;> simp only [NR] at e2
                  rename_i g args'
                  obtain ⟨rfl, hargs⟩ := e2
                  have enid : h0.length + (N i).length - h0.length = (N i).length := by omega
                  rw [enid] at hca
                  have HP := (H1.pad (N i).length).here
                  rw [List.length_append, List.length_replicate] at HP
                  refine (callA_ok hrec hca (wb := w) (k := h0.length + (N i).length) ⟨quietB_ok hq3, fun c hc => hdi c (by rw [← hE]; exact List.mem_append_left _ hc)⟩ (hargs.blw hbel hblw) HP).mono ?_
                  rintro e w' ⟨s', v', rfl, hle1, H', hvr⟩
                  have hb : (E i).b = h1.drop (h0.length + (N i).length) := by rw [← hE]
                  have hst : (E i).st = none := by rw [← hE]
                  have hv0 : (E i).v = v := by rw [← hE]
                  rw [← hb] at hrv hro
                  have hfit : h0.length + (N i).length + (E i).b.length ≤ h.length := by rw [MM.hl]; have := N_fit S hi; omega
                  have hlive : ∀ x, liveB h0 x = true → x < h0.length ∧ ∃ p, s0 x = some p := by
                    intro x hx
                    unfold liveB at hx
                    split at hx
                    · rename_i o ho
                      obtain ⟨p, hp, _⟩ := H1.obj x o ho hx
                      exact ⟨(List.getElem?_eq_some_iff.1 ho).1, p, hp⟩
                    · cases hx
                  obtain ⟨H2, hle2, hok⟩ := H.layNew (q := h0.length + (N i).length) (bs := (E i).b) hfit (by omega) (fun x hx1 hx2 => by
                      have hy : x - (h0.length + (N i).length) < (E i).b.length := by omega
                      have := (MM.h3 i (x - (h0.length + (N i).length)) _ hi (List.getElem?_eq_getElem hy) hnd).2
                      rwa [show h0.length + (N i).length + (x - (h0.length + (N i).length)) = x by omega] at this)
                    H' (fun x o ho => by rw [hb, List.getElem?_drop] at ho; exact ho) (old := liveB h0) (fun x hx => by have := (hlive x hx).1; omega)
                    (fun x hx => by
                      obtain ⟨hx1, p, hp⟩ := hlive x hx
                      rw [hbel x hx1, hp]
                      exact hle1 x p hp) hro
                  refine hK _ _ ⟨_, putA t o1.dst (E i).v, _, hle.trans hle2, fun j hj => ?_, put_ok (ht.mono hle2) o1.dst ?_, by cases hq : o1.dst <;> simp [Act.put, hdf], H2, fun hh => (H0 (hno hh)).grow H'.grown.gr, ?_, ?_⟩
                  · rw [if_neg (by omega)]; exact hbel j hj
                  · rw [hv0]; exact hvr.refs hok 6 hrv
                  · rw [hmask]; exact mt_next hd M hi ho
                  · rw [hmask]
                    exact mh_new S MM hi hst _ fun q hq => if_neg hq
                · cases hs
              · cases hs
            · split at hs
              · rename_i hnew
                split at hs
                · rename_i v h1 m3 cs3 hca
                  split at hs
                  · rename_i hcond
                    simp only [Bool.and_eq_true] at hcond
                    obtain ⟨hfv, hq3⟩ := hcond
                    have hE := inj _ hs
                    have H1 := reads (by rw [← hE])
                    obtain ⟨n', e1, e2, _⟩ := sOp_ok P hrec.2.2.1 s [] w _ _ o1 _ mrn hρ hso
                    unfold Oper.wp
                    rw [e1]
                    cases n' <;> simp only [NR] at e2
                    rename_i g args'
                    obtain ⟨rfl, hargs⟩ := e2
                    have hNn := N_pre S n (i := i) (by omega) (Nat.le_refl _)
                    have HB := (HR.both H H1 hbel (fun x o hx hl => by
                      obtain ⟨o', h4, h5⟩ := MM.h1 x o hx
                      exact ⟨o', h4, h5.1.trans hl⟩) (pad := padL args.toList h0.length (N i)) (fun y o hy hl => by
                      obtain ⟨p1, p2, p3, p4⟩ := padL_get hy hl
                      refine ⟨?_, p3, p4⟩
                      have hyl := (List.getElem?_eq_some_iff.1 p1).1
                      obtain ⟨j, z, cs, hj, hb, hz⟩ := N_sur S i (by omega) y hyl
                      have h6 := (N_at S (i := j) (by omega) hb).1
                      rw [hz, hNn.2 y hyl, p1] at h6
                      cases h6
                      cases hq : listed.getD j false with
                      | true =>
                        have := MM.h2 j z _ (by omega) hb hq
                        rwa [Nat.add_assoc, hz] at this
                      | false =>
                        have := (MM.h3 j z _ (by omega) hb hq).2
                        rw [Nat.add_assoc, hz] at this
                        obtain ⟨p, hp⟩ := ments_some hargs p2
                        rw [this] at hp
                        cases hp)).here
                    rw [List.length_append, padL_length] at HB
                    refine (callA_ok hrec hca (wb := w) (k := h0.length + (N i).length) ⟨quietB_ok hq3, fun c hc => hdi c (by rw [← hE]; exact List.mem_append_left _ hc)⟩
                      (newArgs_ok (by omega) (fun j hj => by rw [if_pos hj]) hargs hnew) HB).mono ?_
                    rintro e w' ⟨s', v', rfl, hle1, H', hvr⟩
                    have hv0 : (E i).v = v := by rw [← hE]
                    exact still v' w' (by rw [← hE]) (by rw [← hE]) (by rw [hv0, hvr.eq_of_flat hfv]; exact .same hfv) H'.grown.gr
                  · cases hs
                · cases hs
              · cases hs
          · split at hs
            · rename_i ty x y hop
              split at hs
              · rename_i st hsh
                obtain ⟨b, vs⟩ := st
                have hE := inj _ hs
                have hst : (E i).st = some (b, vs) := by rw [← hE]
                have hbn : (E i).b = [] := by rw [← hE]
                obtain ⟨hx, hvs, ⟨info, hinfo, hlen⟩, hone, o0, ho0, hlive, hwr, hfit⟩ := storeH_spec hsh
                obtain ⟨o2, ho2, q1, q2, q3, _, _⟩ := MM.h1 _ _ ho0
                obtain ⟨h', hst'⟩ := astore_some (vs := vs) ho2 (q1.trans hlive) (by rw [isW_es q2]; exact hwr) (by omega)
                have hmh := mh_store S hmem MM hi hbn hst ho0 hfit hst'
                have vx := hρ x (by rw [hop]; simp [Op.operands])
                have vy := hρ y (by rw [hop]; simp [Op.operands])
                rw [hx] at vx
                obtain ⟨w', e1, H'⟩ := store_run (P := P) H vx vy hinfo (by rw [← hvs]; exact hlen) (by rw [← hvs]; exact hone) (by rw [← hvs]; exact hst') (hbi b vs hst)
                unfold Oper.wp
                rw [execOp_store hop, e1]
                refine hK _ _ ⟨s, putA t o1.dst (E i).v, h', hle, hbel, put_ok ht o1.dst (by rw [← hE]; exact .same rfl), by cases hq : o1.dst <;> simp [Act.put, hdf], H', fun hh => ?_, ?_, ?_⟩
                · have h1 := hh i hi (by rw [hst]; simp)
                  have h2 := congrFun hmask i
                  rw [h1] at h2
                  simp at h2
                · rw [hmask]; exact mt_next hd M hi ho
                · rw [hmask]; exact hmh
              · cases hs
            · rename_i ty x hop
              split at hs
              · rename_i v x1 x2 b m hl hlh
                have hE := inj _ hs
                have hl' : oLoad P ty (lookA (T i) x) h = some (.value v, h, none) := by
                  refine oLoad_same hl fun b' m' hlh' => ?_
                  rw [hlh] at hlh'
                  simp only [Option.some.injEq, Prod.mk.injEq] at hlh'
                  obtain ⟨rfl, rfl⟩ := hlh'
                  cases ho0 : h0[b.block]? with
                  | none =>
                    exfalso
                    have : ∀ m, aload h0 b m = none := fun m => by unfold aload; rw [ho0]
                    unfold loadH at hlh
                    split at hlh
                    · rename_i b' d' i' h1 h2 h3
                      simp only [Option.some.injEq, Prod.mk.injEq] at hlh
                      obtain ⟨rfl, _⟩ := hlh
                      simp [oLoad, h1, h2, h3, this] at hl
                    · cases hlh
                  | some o0 =>
                    obtain ⟨o2, ho2, q1, q2, q3, q4, q5⟩ := MM.h1 _ _ ho0
                    refine aload_same ho0 ho2 q1 q2 q3 fun z hz1 hz2 => q5 z fun j c us hj hst hdn hcb hz => ?_
                    by_cases e : i = j
                    · subst e
                      rw [← hE] at hst
                      cases hst
                    · obtain ⟨oj, hoj, _, _⟩ := op_at S hj
                      rcases (memB_spec hmem hj (eff_at S hj) hst hi e hEi hoj).2.2 b m (by rw [← hE]) with hw | hdj
                      · have h9 : listed.getD j false = true := hdn
                        rw [behind j oj hoj hw] at h9
                        cases h9
                      · have := disj_spec hdj hcb.symm
                        omega
                have hso : sOp P (lookA (T i)) o1 h = some (.value v, h, none) := by simp only [sOp, hop]; exact hl'
                obtain ⟨n', e1, e2, _⟩ := sOp_ok P hrec.2.2.1 s h w _ _ o1 _ H.mr hρ hso
                unfold Oper.wp
                rw [e1]
                cases n' <;> simp only [NR] at e2
                exact still _ _ (by rw [← hE]) (by rw [← hE]) (by rw [← hE]; exact e2) (Gr.refl w)
              · cases hs
            · split at hs
              · rename_i v x1 x2 hso
                have hE := inj _ hs
                have H1 := reads (by rw [← hE])
                obtain ⟨n', e1, e2, _⟩ := sOp_ok P hrec.2.2.1 s h0 w _ _ o1 _ (mr0 H1) hρ hso
                unfold Oper.wp
                rw [e1]
                cases n' <;> simp only [NR] at e2
                exact still _ _ (by rw [← hE]) (by rw [← hE]) (by rw [← hE]; exact e2) (Gr.refl w)
              · split at hs
                · rename_i hopb
                  simp only [Bool.and_eq_true] at hopb
                  obtain ⟨_, hblw⟩ := hopb
                  split at hs
                  · rename_i v h1 m3 hca
                    split at hs
                    · rename_i hcond
                      simp only [Bool.and_eq_true] at hcond
                      obtain ⟨⟨hq3, hrv⟩, hro⟩ := hcond
                      have hE := inj _ hs
                      have H1 := reads (by rw [← hE])
                      have enid : h0.length + (N i).length - h0.length = (N i).length := by omega
                      rw [enid] at hca
                      have HP := (H1.pad (N i).length).here
                      rw [List.length_append, List.length_replicate] at HP
                      obtain ⟨s', n', w', e1, hle1, H', e2⟩ := aOp_ok P hrec.2.2.1 w (h0.length + (N i).length) s0 _ w _ (a.eval ·) o1 _ HP (fun y hy => (hρ y hy).blw hbel (List.all_eq_true.1 hblw y (by simpa using hy))) hca (quietB_ok hq3)
                      simp only at H' e2
                      unfold Oper.wp
                      rw [e1]
                      cases n' <;> simp only [NR] at e2
                      rename_i v'
                      have hvr := e2
                      have hb : (E i).b = h1.drop (h0.length + (N i).length) := by rw [← hE]
                      have hst : (E i).st = none := by rw [← hE]
                      have hv0 : (E i).v = v := by rw [← hE]
                      rw [← hb] at hrv hro
                      have hfit : h0.length + (N i).length + (E i).b.length ≤ h.length := by rw [MM.hl]; have := N_fit S hi; omega
                      have hlive : ∀ x, liveB h0 x = true → x < h0.length ∧ ∃ p, s0 x = some p := by
                        intro x hx
                        unfold liveB at hx
                        split at hx
                        · rename_i o ho
                          obtain ⟨p, hp, _⟩ := H1.obj x o ho hx
                          exact ⟨(List.getElem?_eq_some_iff.1 ho).1, p, hp⟩
                        · cases hx
                      obtain ⟨H2, hle2, hok⟩ := H.layNew (q := h0.length + (N i).length) (bs := (E i).b) hfit (by omega) (fun x hx1 hx2 => by
                          have hy : x - (h0.length + (N i).length) < (E i).b.length := by omega
                          have := (MM.h3 i (x - (h0.length + (N i).length)) _ hi (List.getElem?_eq_getElem hy) hnd).2
                          rwa [show h0.length + (N i).length + (x - (h0.length + (N i).length)) = x by omega] at this)
                        H' (fun x o ho => by rw [hb, List.getElem?_drop] at ho; exact ho) (old := liveB h0) (fun x hx => by have := (hlive x hx).1; omega)
                        (fun x hx => by
                          obtain ⟨hx1, p, hp⟩ := hlive x hx
                          rw [hbel x hx1, hp]
                          exact hle1 x p hp) hro
                      refine hK _ _ ⟨_, putA t o1.dst (E i).v, _, hle.trans hle2, fun j hj => ?_, put_ok (ht.mono hle2) o1.dst ?_, by cases hq : o1.dst <;> simp [Act.put, hdf], H2, fun hh => (H0 (hno hh)).grow H'.grown.gr, ?_, ?_⟩
                      · rw [if_neg (by omega)]; exact hbel j hj
                      · rw [hv0]; exact hvr.refs hok 6 hrv
                      · rw [hmask]; exact mt_next hd M hi ho
                      · rw [hmask]
                        exact mh_new S MM hi hst _ fun q hq => if_neg hq
                    · cases hs
                  · cases hs
                · cases hs
    · cases hs
  · rename_i hwt
    rw [if_neg hwt]
    have hE := inj _ hs
    exact still _ _ (by rw [← hE]) (by rw [← hE]) (by rw [← hE]; exact .same rfl) (Gr.refl w)

/-- How many of the head's operations are not done. -/
def left (n : Nat) (listed : Array Bool) : Nat := ((List.range n).filter fun i => !listed.getD i false).length
theorem left_zero {n : Nat} {listed : Array Bool} (h : left n listed = 0) {i : Nat} (hi : i < n) : listed.getD i false = true := by
  unfold left at h
  have h1 := List.length_eq_zero_iff.1 h
  cases hq : listed.getD i false with
  | true => rfl
  | false =>
    have : i ∈ (List.range n).filter fun i => !listed.getD i false := List.mem_filter.2 ⟨List.mem_range.2 hi, by simp only [hq]; rfl⟩
    rw [h1] at this
    cases this
theorem filter_drop_one {p q : Nat → Bool} : ∀ (l : List Nat) (i : Nat), l.Nodup → i ∈ l → p i = true → q i = false → (∀ j, j ≠ i → q j = p j) → (l.filter q).length + 1 = (l.filter p).length
  | [], i, _, hi, _, _, _ => by cases hi
  | x :: l, i, hn, hi, hp, hq, he => by
    rw [List.nodup_cons] at hn
    by_cases e : x = i
    · subst e
      have : l.filter q = l.filter p := List.filter_congr fun j hj => he j fun e => hn.1 (e ▸ hj)
      simp [hp, hq, this]
    · have hi' : i ∈ l := by
        rcases List.mem_cons.1 hi with h | h
        · exact absurd h.symm e
        · exact h
      have ih := filter_drop_one l i hn.2 hi' hp hq he
      rw [List.filter_cons, List.filter_cons, he x e]
      split
      · simp; omega
      · exact ih
theorem left_next {n : Nat} {listed : Array Bool} {i : Nat} (hi : i < n) (hs : i < listed.size) (hu : listed.getD i false = false) : left n (listed.setIfInBounds i true) + 1 = left n listed := by
  unfold left
  refine filter_drop_one (List.range n) i List.nodup_range (List.mem_range.2 hi) (by rw [hu]; rfl) ?_ fun j hj => ?_
  · have h7 : (listed.setIfInBounds i true).getD i false = (listed.getD i false || i == i) := congrFun (mask_next hs) i
    rw [h7]
    simp
  · rw [getD_set_ne false (Ne.symm hj)]

theorem readyB_spec {listed : Array Bool} {i : Nat} (h : readyB ops listed i = true) : i ∈ Region.ready .any ops listed := by
  unfold readyB at h
  split at h
  · rename_i o ho
    simp only [Bool.and_eq_true, Bool.not_eq_true'] at h
    refine mem_ready.2 ⟨h.1, o, ho, fun e he hb => ?_⟩
    have := List.all_eq_true.1 h.2 e (by simpa using he)
    simpa [hb] using this
  · cases h
theorem tail_waitsL {base listed : Array Bool} (hs : sinkL ops n base = true) (hb : ∀ i, base.getD i false = true → listed.getD i false = true) (hc : ∀ t, n < t → t < ops.size → ∃ j, n ≤ j ∧ j < ops.size ∧ Region.waitsFor .any ops t j = true) (hn : n < ops.size) (inv : HeadInv .any ops n listed) :
    ∀ (d i : Nat), n - i = d → i < n → listed.getD i true = false → ∀ t, n ≤ t → t ∉ Region.ready .any ops listed := by
  intro d
  induction d using Nat.strongRecOn with
  | _ d ih =>
    intro i hd hi hun t ht hr
    obtain ⟨_, ot, hot, hall⟩ := mem_ready.1 hr
    have htlt : t < ops.size := (Array.getElem?_eq_some_iff.1 hot).1
    by_cases htn : t = n
    · subst htn
      have h1 := List.all_eq_true.1 hs i (List.mem_range.2 hi)
      simp only [Bool.or_eq_true] at h1
      rcases h1 with h1 | h1
      · have := hb i h1
        rw [getD_both hun] at this
        cases this
      obtain ⟨j, hj, hj2⟩ := List.any_eq_true.1 h1
      simp only [Bool.and_eq_true, decide_eq_true_eq] at hj2
      obtain ⟨oj, hoj, e, he, hb', hon⟩ := Region.waitsFor_spec hj2.2
      have hjle : j ≤ t := by have := List.mem_range.1 hj; omega
      by_cases hjt : j = t
      · subst hjt
        have : oj = ot := Option.some.inj (hoj.symm.trans hot)
        subst this
        have h2 := hall e he hb'
        rw [hon, getD_both hun] at h2
        cases h2
      · cases hl : listed.getD j false with
        | true =>
          have h2 := inv.closed j oj hoj hl e he hb'
          rw [hon, getD_both hun] at h2
          cases h2
        | false =>
          have hjs : j < listed.size := by rw [inv.size]; omega
          exact ih (t - j) (by omega) j rfl (by omega) (getD_in hjs hl) t (Nat.le_refl _) hr
    · obtain ⟨j, hj1, hj2, h1⟩ := hc t (by omega) htlt
      obtain ⟨o', ho', e, he, hb', hon⟩ := Region.waitsFor_spec h1
      have : o' = ot := Option.some.inj (ho'.symm.trans hot)
      subst this
      have h2 := hall e he hb'
      rw [hon, getD_both (inv.tail j hj1 hj2)] at h2
      cases h2
theorem chain_back (hc : Region.chainB .any ops n = true) : ∀ t, n < t → t < ops.size → ∃ j, n ≤ j ∧ j < ops.size ∧ Region.waitsFor .any ops t j = true := by
  intro t ht hlt
  have h1 := List.all_eq_true.1 hc t (List.mem_range.2 hlt)
  simp only [Bool.or_eq_true, decide_eq_true_eq] at h1
  rcases h1 with h1 | h1
  · omega
  · exact ⟨t - 1, by omega, by omega, h1⟩
theorem prep_ok (hng : NoNG P) (hacc : rec.acc = accP) (S : HeadSpec P rec ops h0 ops.toList 0 n t0 [] t' l' es T E N) (hd : depsB ops n = true) (hsel : Region.noSelect ops = true) {k : Nat} (hcs : Bnd k (headM es)) {wb : Wb} {s0 : Ren} {Q : Exit → Act → World → Prop} (hQp : ∀ c a w, ¬ Q (.panic c) a w) {g : Nat} {w : World} :
    ∀ (l : List Nat) (listed : Array Bool) (a : Act), (∀ i ∈ l, i < n) → HeadInv .any ops n listed → Mid ops n t0 h0 E N wb k s0 listed a w →
    (∀ a', HeadInv .any ops n (prepL ops es l listed) → Mid ops n t0 h0 E N wb k s0 (prepL ops es l listed) a' w → wpAny P .any ops Q (left n (prepL ops es l listed) + g) (prepL ops es l listed) a' w) →
    wpAny P .any ops Q (left n listed + g) listed a w
  | [], listed, a, _, inv, J, h => h a inv J
  | i :: is, listed, a, hl, inv, J, h => by
    simp only [prepL] at h
    split at h
    · rename_i hc
      simp only [Bool.and_eq_true] at hc
      obtain ⟨⟨hp, hrd⟩, hfr⟩ := hc
      have hi : i < n := hl i (by simp)
      have hr := readyB_spec hrd
      have hp' : pureE (E i) = true := by
        unfold pureAt at hp
        rw [eff_at S hi] at hp
        exact hp
      obtain ⟨o, v, ho, hy, J'⟩ := mid_pure hng hacc S hd inv J hr hi hp' (headM_bnd hcs i _ (eff_at S hi)).2
      have hisz : i < listed.size := by rw [inv.size]; exact (Array.getElem?_eq_some_iff.1 ho).1
      have hln := left_next hi hisz (getD_both (mem_ready.1 hr).1)
      rw [show left n listed + g = (left n (listed.setIfInBounds i true) + g) + 1 by omega]
      refine wpAny_take ho hsel hfr (by simpa using hr) (fun c a w h => absurd h (hQp c _ w)) hy ?_
      exact prep_ok hng hacc S hd hsel hcs hQp is _ _ (fun j hj => hl j (by simp [hj])) (inv.set hr hi) J' h
    · exact prep_ok hng hacc S hd hsel hcs hQp is listed a (fun j hj => hl j (by simp [hj])) inv J h
theorem head_any (S : HeadSpec P rec ops h0 ops.toList 0 n t0 [] t' l' es T E N) (hd : depsB ops n = true) (hrec : RecOk P rec) (hmem : memB ops n es = true) {k : Nat} (hcs : Bnd k (headM es)) (hnl : n ≤ ops.size) {base : Array Bool} (hs : n < ops.size → sinkL ops n base = true ∧ ∀ t, n < t → t < ops.size → ∃ j, n ≤ j ∧ j < ops.size ∧ Region.waitsFor .any ops t j = true)
    {wb : Wb} {s0 : Ren} (hk : k ≤ h0.length) {Q : Exit → Act → World → Prop} {g : Nat}
    (hend : ∀ listed a w, HeadInv .any ops n listed → (∀ i, i < n → listed.getD i false = true) → Mid ops n t0 h0 E N wb k s0 listed a w → wpAny P .any ops Q g listed a w) :
    ∀ (f : Nat) (listed : Array Bool) (a : Act) (w : World), HeadInv .any ops n listed → (∀ i, base.getD i false = true → listed.getD i false = true) → left n listed = f → Mid ops n t0 h0 E N wb k s0 listed a w → wpAny P .any ops Q (f + g) listed a w
  | 0, listed, a, w, inv, _, hl, J => by rw [Nat.zero_add]; exact hend listed a w inv (fun i hi => left_zero hl hi) J
  | f + 1, listed, a, w, inv, hbs, hl, J => by
    -- one that is not done, the first of them
    have hex : ∃ i, i < n ∧ listed.getD i false = false := by
      rcases Classical.em (∃ i, i < n ∧ listed.getD i false = false) with h | h
      · exact h
      · have : (List.range n).filter (fun i => !listed.getD i false) = [] := List.filter_eq_nil_iff.2 fun i hi => by
          have hi' := List.mem_range.1 hi
          cases hq : listed.getD i false with
          | true => simp
          | false => exact absurd ⟨i, hi', hq⟩ h
        unfold left at hl
        rw [this] at hl
        cases hl
    have hfirst : ∃ i, i < n ∧ listed.getD i false = false ∧ ∀ j, j < i → listed.getD j false = true := by
      obtain ⟨i, hi, hu⟩ := hex
      induction i using Nat.strongRecOn with
      | _ i ih =>
        rcases Classical.em (∃ j, j < i ∧ listed.getD j false = false) with ⟨j, hj, hju⟩ | h
        · exact ih j hj (by omega) hju
        · refine ⟨i, hi, hu, fun j hj => ?_⟩
          cases hq : listed.getD j false with
          | true => rfl
          | false => exact absurd ⟨j, hj, hq⟩ h
    obtain ⟨i, hi, hu, hbel⟩ := hfirst
    have hisz : i < listed.size := by rw [inv.size]; omega
    obtain ⟨o, ho, _, _⟩ := op_at S hi
    have hri : i ∈ Region.ready .any ops listed := mem_ready.2 ⟨getD_in hisz hu, o, ho, fun e he hb => hbel _ ((depsB_spec hd hi ho).1 e he hb)⟩
    rw [show f + 1 + g = (f + g) + 1 by omega]
    refine ⟨fun h0 => (by rw [h0] at hri; cases hri), fun j hj => ?_⟩
    have hjn : j < n := by
      rcases Nat.lt_or_ge j n with h | h
      · exact h
      · obtain ⟨_, oj, hoj, _⟩ := mem_ready.1 hj
        have hjs := (Array.getElem?_eq_some_iff.1 hoj).1
        obtain ⟨h1, h2⟩ := hs (by omega)
        exact absurd hj (tail_waitsL h1 hbs h2 (by omega) inv _ i rfl hi (getD_in hisz hu) j h)
    have hju := getD_both (mem_ready.1 hj).1
    have hjs : j < listed.size := by rw [inv.size]; omega
    refine mid_op S hd hrec hmem hcs hk inv J hj hjn fun a' w' J' => ?_
    refine head_any S hd hrec hmem hcs hnl hs hk hend f _ a' w' (inv.set hj hjn) (fun m hm => ?_) ?_ J'
    · have h8 := congrFun (mask_next (listed := listed) hjs) m
      rw [hbs m hm] at h8
      simpa using h8
    have := left_next hjn hjs hju
    omega
/-- The text's own order leaves what every order leaves. -/
theorem lexHeap_ok (S : HeadSpec P rec ops h0 ops.toList 0 n t0 [] t' l' es T E N) (hmem : memB ops n es = true) {s : Ren} {h' : List AO} : ∀ (f i : Nat) (h : List AO), f + i = n → MH n h0 E N (fun j => decide (j < i)) h (fun j => if j < h0.length then s j else none) →
    lexHeap h0.length (es.drop i) (h0.length + (N i).length) h = some h' → MH n h0 E N (fun _ => true) h' (fun j => if j < h0.length then s j else none)
  | 0, i, h, hi, M, hr => by
    obtain rfl : i = n := by omega
    have hlen : es.length = i := by have := S.len; omega
    rw [List.drop_eq_nil_of_le (by omega)] at hr
    simp only [lexHeap, Option.some.injEq] at hr
    subst hr
    refine ⟨M.hl, fun x o hx => ?_, fun j y cs hj hb _ => M.h2 j y cs hj hb (by simpa using hj), fun j y cs hj hb hf => by cases hf⟩
    obtain ⟨o', g1, g2, g3, g4, g5, g6⟩ := M.h1 x o hx
    exact ⟨o', g1, g2, g3, g4, fun j a vs y hj hst _ => g5 j a vs y hj hst (by simpa using hj), fun z hz => g6 z fun j a vs hj hst _ => hz j a vs hj hst rfl⟩
  | f + 1, i, h, hi, M, hr => by
    have hin : i < n := by omega
    have hEi := eff_at S hin
    have hlt : i < es.length := (List.getElem?_eq_some_iff.1 hEi).1
    rw [List.drop_eq_getElem_cons hlt, (List.getElem?_eq_some_iff.1 hEi).2] at hr
    simp only [lexHeap] at hr
    obtain ⟨o, _, _, _, hN⟩ := S.step i (by omega) hin
    have hmask : (fun j => decide (j < i + 1)) = fun j => decide (j < i) || j == i := by
      funext j
      by_cases e : j = i
      · subst e; simp
      · have : (j == i) = false := by simpa using e
        rw [this, Bool.or_false]
        exact decide_eq_decide.2 (by omega)
    split at hr
    · rename_i hb hst
      refine lexHeap_ok S hmem f (i + 1) h (by omega) ?_ (by rw [hN, hb]; simpa [addNew] using hr)
      rw [hmask]
      exact mh_still M hst hb
    · rename_i b bs hb hst
      refine lexHeap_ok S hmem f (i + 1) _ (by omega) ?_ (by rw [hN, hb]; simpa only [addNew, List.length_append, Nat.add_assoc] using hr)
      rw [hmask]
      have := mh_new S M hin hst (fun j => if j < h0.length then s j else none) fun _ _ => rfl
      rw [hb] at this
      exact this
    · rename_i a vs hb hst
      split at hr
      · rename_i hbl
        split at hr
        · rename_i h1 hs1
          refine lexHeap_ok S hmem f (i + 1) h1 (by omega) ?_ (by rw [hN, hb]; simpa [addNew] using hr)
          rw [hmask]
          have ho0 : h0[a.block]? = some h0[a.block] := List.getElem?_eq_getElem hbl
          obtain ⟨o2, ho2, q1, q2, q3, _, _⟩ := M.h1 _ _ ho0
          refine mh_store S hmem M hin hb hst ho0 ?_ hs1
          unfold astore at hs1
          rw [ho2] at hs1
          simp only at hs1
          split at hs1
          · rename_i hc
            simp at hc
            omega
          · cases hs1
        · cases hr
      · cases hr
    · cases hr

theorem drawA_any (P : Program) {rec : Rec} (hrec : RecOk P rec) {ops : Array Oper} {x x' : St} (hr : drawA P rec ops x = some x') {wb : Wb} {k : Nat} {s : Ren} {a : Act} {w : World} (hm : Bnd k x'.m) (HS : SR wb k s x a w) :
    P.follows .mixedOrders = true ∧ wpAny P .any ops (Post wb k s x' .normal) ops.size (Array.replicate ops.size false) a w.drew := by
  unfold drawA at hr
  cases hh : headRun P rec ops x.h ops.toList 0 x.t [] with
  | mk n tl =>
    obtain ⟨t, l, es⟩ := tl
    rw [hh] at hr
    simp only at hr
    split at hr
    · rename_i hc
      split at hr
      rotate_left
      · cases hr
      rename_i hN hlex
      simp only [Bool.and_eq_true, decide_eq_true_eq] at hc
      obtain ⟨⟨⟨⟨⟨hmix, hsel⟩, hnl⟩, hdp⟩, hmem⟩, htl⟩ := hc
      obtain ⟨T, E, N, S⟩ := headRun_spec hrec.2.2.2 _ _ _ _ _ _ _ _ hh
      have hcs : Bnd k (headM es) := (bnd_low (seqA_low hr hm)).2
      refine ⟨hmix, ?_⟩
      have H0 : HR wb k s x.h w.drew := HS.h.drew
      have hlf : MH n x.h E N (fun _ => true) hN (fun j => if j < x.h.length then s j else none) := by
        refine lexHeap_ok S hmem n 0 _ (by omega) ?_ (by simpa [S.l0] using hlex)
        rw [show (fun j => decide (j < 0)) = fun _ => false by funext j; simp, ← S.ln]
        exact mh_start S fun i hi => if_neg (by omega)
      have J : Mid ops n x.t x.h E N wb k s (Array.replicate ops.size false) a w.drew := by
        have e : (fun i => (Array.replicate ops.size false).getD i false) = fun _ => false := by funext i; exact getD_replicate_false _ _
        refine ⟨s, x.t, _, Le.refl s, fun _ _ => rfl, HS.t, HS.d, H0.pad (N n).length, fun _ => H0, ?_, ?_⟩
        · rw [e]; exact mt_start
        · rw [e]; exact mh_start S H0.dom
      have inv : HeadInv .any ops n (Array.replicate ops.size false) :=
        ⟨by simp, fun j _ _ hl => (by rw [getD_replicate_false] at hl; cases hl), fun t _ h2 => getD_in (by simpa using h2) (getD_replicate_false _ _)⟩
      have hleft : left n (Array.replicate ops.size false) = n := by
        unfold left
        rw [List.filter_eq_self.2 fun i _ => by rw [getD_replicate_false]; rfl]
        simp
      have hsc : n < ops.size → sinkL ops n (baseOf ops n es) = true ∧ ∀ t, n < t → t < ops.size → ∃ j, n ≤ j ∧ j < ops.size ∧ Region.waitsFor .any ops t j = true := by
        intro hlt
        unfold tailL at htl
        simp only [Bool.or_eq_true, beq_iff_eq, Bool.and_eq_true, decide_eq_true_eq] at htl
        rcases htl with h | h
        · omega
        · exact ⟨h.1.1.2, chain_back h.1.2⟩
      have A := head_any S hdp hrec hmem hcs hnl hsc (wb := wb) (s0 := s) HS.h.kle (Q := Post wb k s x' .normal) (g := ops.size - n) (fun listed a' w' inv' hall J' => ?_)
      · have e2 : left n (Array.replicate ops.size false) + (ops.size - n) = ops.size := by omega
        have fin : wpAny P .any ops (Post wb k s x' .normal) (left n (Array.replicate ops.size false) + (ops.size - n)) (Array.replicate ops.size false) a w.drew := by
          by_cases hb0 : (n == ops.size || Region.sinkB .any ops n) = true
          · have e : baseOf ops n es = Array.replicate ops.size false := by unfold baseOf; rw [if_pos hb0]
            rw [e] at A
            exact A _ _ a w.drew inv (fun i hi => hi) rfl J
          · have e : baseOf ops n es = prepL ops es (List.range n) (Array.replicate ops.size false) := by unfold baseOf; rw [if_neg hb0]
            rw [e] at A
            exact prep_ok hrec.2.2.1 hrec.2.2.2 S hdp hsel hcs (Q := Post wb k s x' .normal) (fun c a w h => by cases h.1) (List.range n) _ a (fun i hi => List.mem_range.1 hi) inv J fun a' inv' J' => A _ _ a' w.drew inv' (fun i hi => hi) rfl J'
        rwa [e2] at fin
      · obtain ⟨s', t2, h2, hle, _, ht, hdf, H, _, M, MM⟩ := J'
        obtain rfl := mt_full S hdp M hall
        obtain rfl := mh_same S MM hlf hall fun _ _ => rfl
        have hQ : ∀ s'' a'' w'', Le s' s'' → SR wb k s'' x' a'' w'' → Post wb k s x' .normal .normal a'' w'' := fun s'' a'' w'' hle' hsr => ⟨rfl, s'', hle.trans hle', hsr⟩
        have hL := seqA_ok (aOp_ok P hrec.2.2.1) hrec hr hm (wb := wb) (k := k) (s := s') (a := a') (w := w') ⟨ht, hdf, H⟩ (Q := Post wb k s x' .normal) hQ
        have hlen : (ops.toList.drop n).length = ops.size - n := by simp
        have hmask : listed = lexMask ops n := by
          apply Array.ext_getElem?
          intro i
          have e0 : (lexMask ops n)[i]? = (List.replicate n true ++ List.replicate (ops.size - n) false)[i]? := by
            unfold lexMask
            simp
          rw [e0]
          rcases Nat.lt_or_ge i n with hi | hi
          · have := hall i hi
            have hisz : i < listed.size := by rw [inv'.size]; omega
            rw [List.getElem?_append_left (by simpa using hi), List.getElem?_replicate, if_pos hi]
            rw [Array.getElem?_eq_getElem hisz]
            simpa [hisz] using this
          · rw [List.getElem?_append_right (by simpa using hi), List.getElem?_replicate]
            simp only [List.length_replicate]
            by_cases hlt : i < ops.size
            · have := inv'.tail i hi hlt
              have hisz : i < listed.size := by rw [inv'.size]; omega
              rw [if_pos (by omega), Array.getElem?_eq_getElem hisz]
              simpa [hisz] using this
            · rw [if_neg (by omega), Array.getElem?_eq_none (by rw [inv'.size]; omega)]
        have hseq : Region.seqB .any ops (ops.size - n) n listed = true := by
          unfold tailL at htl
          simp only [Bool.or_eq_true, beq_iff_eq, Bool.and_eq_true, decide_eq_true_eq] at htl
          rcases htl with h | h
          · rw [h, Nat.sub_self]
            simp only [Region.seqB, List.isEmpty_iff]
            refine List.filter_eq_nil_iff.2 fun i hi => ?_
            have hi' := List.mem_range.1 hi
            have := hall i (by omega)
            have hisz : i < listed.size := by rw [inv'.size]; omega
            have e : listed.getD i true = true := by
              simp [hisz] at this ⊢
              exact this
            simp [e]
          · rw [hmask]; exact h.2
        have := wpAny_of_seq (md := .any) (Q' := Post wb k s x' .normal) (ops.toList.drop n) n listed a' w' (fun j => by simp [List.getElem?_drop]) (by rw [hlen]; exact hseq) hL
        rwa [hlen] at this
    · cases hr

end
theorem drawA_ok (P : Program) : DrawOk P (drawA P) := by
  intro rec hrec ops x x' hr wb k s id a w hm HS
  obtain ⟨h1, h2⟩ := drawA_any P hrec hr hm HS
  exact wp_region_any h1 h2
end Go.Proofs.Ytafegjmaldbbiaa.Ex
end
section
namespace Go.Proofs.Ytafegjmaldbbiaa.Ex
open Go Go.RowKit

/-! The same values: what numbers must be the same for it. -/
def optA (a b : Option Addr) : Bool := decide (a = b)
def veq0 : Value → Value → Bool
  | .bool a, .bool b => a == b
  | .string a, .string b => a.data.toList == b.data.toList
  | .pointer a, .pointer b => optA a b
  | .slice a l c, .slice b m d => optA a b && l == m && c == d
  | .map a, .map b => a == b
  | .nilFunc, .nilFunc => true
  | .nilIface, .nilIface => true
  | _, _ => false
theorem arr_ext {α : Type} {a b : Array α} (h : a.toList = b.toList) : a = b := by cases a; cases b; simp at h; rw [h]
theorem veq0_ok {x y : Value} (h : veq0 x y = true) : x = y := by
  unfold veq0 at h
  split at h
  case h_2 a b => rw [ByteArray.ext (arr_ext (eq_of_beq h))]
  all_goals simp_all [optA]
def Hold (c : Cs) : Prop := ∀ x ∈ c, x.1 = x.2
theorem Hold.app {a b : Cs} (h : Hold (a ++ b)) : Hold a ∧ Hold b := ⟨fun x hx => h x (List.mem_append_left _ hx), fun x hx => h x (List.mem_append_right _ hx)⟩
def cmpL (p : Value → Value → Option Cs) : List Value → List Value → Option Cs
  | [], [] => some []
  | x :: xs, y :: ys =>
    match p x y with
    | some a =>
      match cmpL p xs ys with
      | some b => some (a ++ b)
      | none => none
    | none => none
  | _, _ => none
theorem cmpL_ok {p : Value → Value → Option Cs} (hp : ∀ x y c, p x y = some c → Hold c → x = y) : ∀ {xs ys : List Value} {c : Cs}, cmpL p xs ys = some c → Hold c → xs = ys
  | [], [], _, _, _ => rfl
  | x :: xs, y :: ys, c, h, hc => by
    simp only [cmpL] at h
    split at h
    · rename_i a ha
      split at h
      · rename_i b hb
        cases h
        obtain ⟨h1, h2⟩ := hc.app
        rw [hp x y a ha h1, cmpL_ok hp hb h2]
      · cases h
    · cases h
  | [], _ :: _, _, h, _ => by simp [cmpL] at h
  | _ :: _, [], _, h, _ => by simp [cmpL] at h
theorem veqc {x y : Value} {c : Cs} (h : (if veq0 x y then some [] else none) = some c) : x = y := by
  split at h
  · rename_i hv; exact veq0_ok hv
  · cases h
def cmpF : Nat → Value → Value → Option Cs
  | 0, x, y => if veq0 x y then some [] else none
  | n + 1, x, y =>
    match x, y with
    | .int k a, .int j b => if k = j then some [(a, b)] else none
    | .agg a, .agg b => cmpL (cmpF n) a.toList b.toList
    | .tuple a, .tuple b => cmpL (cmpF n) a.toList b.toList
    | .iface t a, .iface u b => if t = u then cmpF n a b else none
    | .func (.func f) a c, .func (.func g) b d =>
      if f == g then
        match cmpL (cmpF n) a.toList b.toList, cmpL (cmpF n) c.toList d.toList with
        | some x, some y => some (x ++ y)
        | _, _ => none
      else none
    | x, y => if veq0 x y then some [] else none
theorem cmpF_ok : ∀ (n : Nat) (x y : Value) (c : Cs), cmpF n x y = some c → Hold c → x = y
  | 0, x, y, c, h, _ => veqc h
  | n + 1, x, y, c, h, hc => by
    have ih := cmpF_ok n
    unfold cmpF at h
    split at h
    · split at h
      · rename_i k a j b hk
        cases h
        rw [hk, show a = b from hc (a, b) (by simp)]
      · cases h
    · rw [arr_ext (cmpL_ok ih h hc)]
    · rw [arr_ext (cmpL_ok ih h hc)]
    · split at h
      · rename_i hu
        rw [hu, ih _ _ _ h hc]
      · cases h
    · split at h
      · rename_i hfg
        split at h
        · rename_i h1 h2
          cases h
          simp only [beq_iff_eq] at hfg
          rw [hfg, arr_ext (cmpL_ok ih h1 hc.app.1), arr_ext (cmpL_ok ih h2 hc.app.2)]
        · cases h
      · cases h
    · exact veqc h
def cmp0 : Value → Value → Option Cs := cmpF 6
theorem cmp0_ok (x y : Value) (c : Cs) (h : cmp0 x y = some c) (hc : Hold c) : x = y := cmpF_ok 6 x y c h hc
def cmpV : Value → Value → Option Cs := cmpF 6
theorem cmpV_ok (x y : Value) (c : Cs) (h : cmpV x y = some c) (hc : Hold c) : x = y := cmpF_ok 6 x y c h hc
def cmpH : List AO → List AO → Option Cs
  | [], [] => some []
  | x :: xs, y :: ys =>
    if x.live == y.live && x.es == y.es then
      match cmpL cmp0 x.cs y.cs with
      | some a =>
        match cmpH xs ys with
        | some b => some (a ++ b)
        | none => none
      | none => none
    else none
  | _, _ => none
theorem cmpH_ok : ∀ {xs ys : List AO} {c : Cs}, cmpH xs ys = some c → Hold c → xs = ys
  | [], [], _, _, _ => rfl
  | x :: xs, y :: ys, c, h, hc => by
    simp only [cmpH] at h
    split at h
    · rename_i hle
      split at h
      · rename_i a ha
        split at h
        · rename_i b hb
          cases h
          obtain ⟨h1, h2⟩ := hc.app
          simp only [Bool.and_eq_true, beq_iff_eq] at hle
          obtain ⟨l1, e1, c1⟩ := x
          obtain ⟨l2, e2, c2⟩ := y
          simp only at hle ha
          rw [hle.1, hle.2, cmpL_ok cmp0_ok ha h1, cmpH_ok hb h2]
        · cases h
      · cases h
    · cases h
  | [], _ :: _, _, h, _ => by simp [cmpH] at h
  | _ :: _, [], _, h, _ => by simp [cmpH] at h

def stepE (P : Program) (rec : Rec) (ops : Array Oper) (i : Nat) (x : St) : Option St :=
  match ops[i]? with
  | none => none
  | some o => if wantedA ops x.t o then operA P (aOp P) rec o x else some ⟨putA x.t o.dst undef, x.h, x.m⟩
/-- What must be so that all others leave what the first one leaves. -/
def allE (f : Nat → Option St) (y : St) : List Nat → Option Cs
  | [] => some []
  | j :: js =>
    match f j with
    | some z =>
      if z.m.1 == y.m.1 then
        match cmpL cmpV z.t y.t, cmpH z.h y.h, allE f y js with
        | some a, some b, some cs => some (z.m.2 ++ (a ++ (b ++ cs)))
        | _, _, _ => none
      else none
    | none => none
/-- An operation that looks at no memory. -/
def pureStep (P : Program) (ops : Array Oper) (i : Nat) (x : St) : Option St :=
  match ops[i]? with
  | none => none
  | some o =>
    if wantedA ops x.t o then
      if o.op.operands.toList.all (okX x.h) then
        match sOp P (lookA x.t) o [] with
        | some (.value v, _, _) => some ⟨putA x.t o.dst v, x.h, x.m⟩
        | _ => none
      else none
    else some ⟨putA x.t o.dst undef, x.h, x.m⟩
def firstPure (P : Program) (ops : Array Oper) (listed : Array Bool) (x : St) : List Nat → Option (Nat × St)
  | [] => none
  | i :: is =>
    if Region.free .any ops listed i then
      match pureStep P ops i x with
      | some x' => some (i, x')
      | none => firstPure P ops listed x is
    else firstPure P ops listed x is
def explore (P : Program) (rec : Rec) (ops : Array Oper) : Nat → Array Bool → St → Option St
  | 0, listed, x => if (Region.ready .any ops listed).isEmpty then some x else none
  | f + 1, listed, x =>
    match Region.ready .any ops listed with
    | [] => some x
    | i :: is =>
      match firstPure P ops listed x (i :: is) with
      | some (j, x') => explore P rec ops f (listed.setIfInBounds j true) x'
      | none =>
        let go := fun j =>
          match stepE P rec ops j x with
          | some x' => explore P rec ops f (listed.setIfInBounds j true) x'
          | none => none
        match go i with
        | some y =>
          match allE go y is with
          | some cs => some ⟨y.t, y.h, (y.m.1, y.m.2 ++ cs)⟩
          | none => none
        | none => none
theorem allE_ok {f : Nat → Option St} {y : St} : ∀ {l : List Nat} {cs : Cs}, allE f y l = some cs → Hold cs → ∀ j ∈ l, ∃ z, f j = some z ∧ z.m.1 = y.m.1 ∧ Hold z.m.2 ∧ z.t = y.t ∧ z.h = y.h
  | [], _, _, _, j, hj => by cases hj
  | i :: l, cs, h, hc, j, hj => by
    simp only [allE] at h
    split at h
    · rename_i z hz
      split at h
      · rename_i hm
        split at h
        · rename_i a b cs' ha hb hcs
          cases h
          simp only [beq_iff_eq] at hm
          obtain ⟨h1, h2⟩ := hc.app
          obtain ⟨h2, h3⟩ := h2.app
          obtain ⟨h3, h4⟩ := h3.app
          rcases List.mem_cons.1 hj with e | e
          · exact ⟨z, by rw [e]; exact hz, hm, h1, cmpL_ok cmpV_ok ha h2, cmpH_ok hb h3⟩
          · exact allE_ok hcs h4 j e
        · cases h
      · cases h
    · cases h
section
variable {P : Program} {rec : Rec} {ops : Array Oper}
theorem stepE_low {i : Nat} {x x' : St} (hr : stepE P rec ops i x = some x') {k : Nat} (hm : Bnd k x'.m) : Bnd k x.m := by
  unfold stepE at hr
  split at hr
  · cases hr
  · split at hr
    · exact operA_low hr hm
    · cases hr; exact hm
theorem stepE_ok (hrec : RecOk P rec) {i : Nat} {x x' : St} (hr : stepE P rec ops i x = some x') {wb : Wb} {k : Nat} {s : Ren} {a : Act} {w : World} (hm : Bnd k x'.m) (H : SR wb k s x a w)
    {K : Act → World → Prop} {Q : Exit → Act → World → Prop} (hn : ∀ s' a' w', Le s s' → SR wb k s' x' a' w' → K a' w') : wpOp P ops Q i K a w := by
  unfold stepE at hr
  unfold wpOp
  split at hr
  · cases hr
  · rename_i o ho
    rw [ho]
    simp only [wanted_ok H.t]
    split at hr
    · rename_i hw
      rw [if_pos hw]
      exact .inl (operA_ok (aOp_ok P hrec.2.2.1) hrec hr hm H hn)
    · rename_i hw
      rw [if_neg hw]
      cases hr
      exact hn s _ w (Le.refl s) ⟨put_ok H.t o.dst (.same rfl), by cases hd : o.dst <;> simp [Act.put, H.d], H.h⟩
theorem firstPure_spec {listed : Array Bool} {x : St} : ∀ {l : List Nat} {j : Nat} {x' : St}, firstPure P ops listed x l = some (j, x') → j ∈ l ∧ Region.free .any ops listed j = true ∧ pureStep P ops j x = some x'
  | [], j, x', h => by simp [firstPure] at h
  | i :: is, j, x', h => by
    simp only [firstPure] at h
    split at h
    · rename_i hf
      split at h
      · rename_i y hy
        cases h
        exact ⟨by simp, hf, hy⟩
      · obtain ⟨h1, h2, h3⟩ := firstPure_spec h
        exact ⟨by simp [h1], h2, h3⟩
    · obtain ⟨h1, h2, h3⟩ := firstPure_spec h
      exact ⟨by simp [h1], h2, h3⟩
theorem pureStep_m {i : Nat} {x x' : St} (hr : pureStep P ops i x = some x') : x'.m = x.m := by
  unfold pureStep at hr
  split at hr
  · cases hr
  · split at hr
    · split at hr
      · split at hr
        · cases hr; rfl
        · cases hr
      · cases hr
    · cases hr; rfl
theorem pureStep_ok (hng : NoNG P) {i : Nat} {x x' : St} (hr : pureStep P ops i x = some x') {wb : Wb} {k : Nat} {s : Ren} {a : Act} {w : World} (H : SR wb k s x a w) :
    ∃ o v, ops[i]? = some o ∧ Yields P ops o v a ∧ SR wb k s x' (a.put o.dst v) w := by
  unfold pureStep at hr
  split at hr
  · cases hr
  · rename_i o ho
    split at hr
    · rename_i hw
      split at hr
      · rename_i hok
        have hρ : ∀ y ∈ o.op.operands, VR s (lookA x.t y) (a.eval y) := fun y hy => eval_ok H.t H.h.glob (List.all_eq_true.1 hok y (by simpa using hy))
        split at hr
        · rename_i v x1 x2 hs
          cases hr
          have hall : ∀ w, Okay0 P s [] w (execOp a.eval o) (.value v, x1, x2) := fun w => sOp_ok P hng s [] w _ _ o _ (fun j p hj => by simp at hj) hρ hs
          obtain ⟨n', e1, e2, _⟩ := hall w
          cases n' <;> simp only [NR] at e2
          rename_i v'
          -- the value is the same in each world
          refine ⟨o, v', ho, .inl ⟨by rw [wanted_ok H.t]; exact hw, fun w2 => ?_⟩, ⟨put_ok H.t o.dst e2, by cases hd : o.dst <;> simp [Act.put, H.d], H.h⟩⟩
          obtain ⟨n2, g1, g2, _⟩ := hall w2
          cases n2 <;> simp only [NR] at g2
          rw [g1, VR.det g2 e2]
        · cases hr
      · cases hr
    · rename_i hw
      cases hr
      exact ⟨o, undef, ho, .inr ⟨by rw [wanted_ok H.t]; simpa using hw, rfl⟩, ⟨put_ok H.t o.dst (.same rfl), by cases hd : o.dst <;> simp [Act.put, H.d], H.h⟩⟩
theorem explore_low {k : Nat} : ∀ (f : Nat) (listed : Array Bool) (x y : St), explore P rec ops f listed x = some y → Bnd k y.m → Bnd k x.m
  | 0, listed, x, y, hr, hm => by
    simp only [explore] at hr
    split at hr
    · cases hr; exact hm
    · cases hr
  | f + 1, listed, x, y, hr, hm => by
    simp only [explore] at hr
    split at hr
    · cases hr; exact hm
    · rename_i i is _
      split at hr
      · rename_i j x' hp
        rw [← pureStep_m (firstPure_spec hp).2.2]
        exact explore_low f _ x' y hr hm
      · split at hr
        · rename_i z hz
          split at hr
          · rename_i cs hcs
            cases hr
            have hm' : Bnd k z.m := ⟨hm.1, fun c hc => hm.2 c (List.mem_append_left _ hc)⟩
            split at hz
            · rename_i x' hx'
              exact stepE_low hx' (explore_low f _ x' _ hz hm')
            · cases hz
          · cases hr
        · cases hr
theorem explore_ok (hrec : RecOk P rec) (hsel : Region.noSelect ops = true) {wb : Wb} {k : Nat} {Q : Exit → Act → World → Prop} (hQp : ∀ c a w, ¬ Q (.panic c) a w) : ∀ (f : Nat) (listed : Array Bool) (x y : St), explore P rec ops f listed x = some y → Bnd k y.m → ∀ (s : Ren) (a : Act) (w : World), SR wb k s x a w →
    (∀ s' a' w', Le s s' → SR wb k s' y a' w' → Q .normal a' w') → wpAny P .any ops Q f listed a w
  | 0, listed, x, y, hr, hm, s, a, w, H, hQ => by
    simp only [explore] at hr
    split at hr
    · rename_i he
      cases hr
      exact ⟨by simpa using he, hQ s a w (Le.refl s) H⟩
    · cases hr
  | f + 1, listed, x, y, hr, hm, s, a, w, H, hQ => by
    simp only [explore] at hr
    split at hr
    · rename_i he
      cases hr
      refine ⟨fun _ => hQ s a w (Le.refl s) H, fun i hi => ?_⟩
      rw [he] at hi
      cases hi
    · rename_i i is he
      split at hr
      · rename_i j x' hp
        obtain ⟨h1, h2, h3⟩ := firstPure_spec hp
        obtain ⟨o, v, ho, hy, H'⟩ := pureStep_ok hrec.2.2.1 h3 H
        refine wpAny_take ho hsel h2 (by rw [he]; simpa using h1) (fun c a w h => absurd h (hQp c _ w)) hy ?_
        exact explore_ok hrec hsel hQp f _ x' y hr hm s _ w H' hQ
      split at hr
      · rename_i z hz
        split at hr
        · rename_i cs hall
          cases hr
          refine ⟨fun h0 => (by rw [he] at h0; cases h0), fun j hj => ?_⟩
          have hgo : ∃ y', (match stepE P rec ops j x with
              | some x' => explore P rec ops f (listed.setIfInBounds j true) x'
              | none => none) = some y' ∧ Bnd k y'.m ∧ y'.t = z.t ∧ y'.h = z.h := by
            rw [he] at hj
            rcases List.mem_cons.1 hj with e | e
            · exact ⟨z, by rw [e]; exact hz, ⟨hm.1, fun c hc => hm.2 c (List.mem_append_left _ hc)⟩, rfl, rfl⟩
            · obtain ⟨z', g1, g2, g3, g4, g5⟩ := allE_ok hall (fun c hc => hm.2 c (List.mem_append_right _ hc)) j e
              exact ⟨z', g1, ⟨by rw [g2]; exact hm.1, g3⟩, g4, g5⟩
          obtain ⟨y', hgo, hm', ht', hh'⟩ := hgo
          split at hgo
          · rename_i x' hx'
            refine stepE_ok hrec hx' (explore_low f _ x' y' hgo hm') H fun s' a' w' hle H' => ?_
            refine explore_ok hrec hsel hQp f (listed.setIfInBounds j true) x' y' hgo hm' s' a' w' H' fun s'' a'' w'' hle' H'' => hQ s'' a'' w'' (hle.trans hle') ⟨by rw [← ht']; exact H''.t, H''.d, by rw [← hh']; exact H''.h⟩
          · cases hgo
        · cases hr
      · cases hr
end

/-- What stands behind the head's end waits for it. -/
def backB (ops : Array Oper) (n : Nat) : Bool := (List.range ops.size).all fun t => decide (t ≤ n) || (List.range t).any fun j => decide (n ≤ j) && Region.waitsFor .any ops t j
def tailX (ops : Array Oper) (n : Nat) (base : Array Bool) : Bool := decide (n < ops.size) && sinkL ops n base && backB ops n
/-- A drawn region by its head, and by all orders of what stands behind it. -/
def drawX (P : Program) : DrawFn := fun rec ops x =>
  match headRun P rec ops x.h ops.toList 0 x.t [] with
  | (n, t, l, es) =>
    if P.follows .mixedOrders && Region.noSelect ops && decide (n ≤ ops.size) && depsB ops n && memB ops n es && tailX ops n (baseOf ops n es) then
      match lexHeap x.h.length es x.h.length (x.h ++ List.replicate l.length dead) with
      | some h => explore P rec ops (ops.size - n) (lexMask ops n) ⟨t, h, low x.m (headM es)⟩
      | none => none
    else none
theorem drawX_low (P : Program) : DrawLow (drawX P) := by
  intro rec ops x x' hr k hm
  unfold drawX at hr
  split at hr
  split at hr
  · split at hr
    · exact (bnd_low (explore_low _ _ _ _ hr hm)).1
    · cases hr
  · cases hr
section
variable {P : Program} {rec : Rec} {ops : Array Oper} {n : Nat} {t0 t' : List Value} {h0 l' : List AO} {es : List HE} {T : Nat → List Value} {E : Nat → HE} {N : Nat → List AO}
theorem drawX_ok (P : Program) : DrawOk P (drawX P) := by
  intro rec hrec ops x x' hr wb k s id a w hm HS
  unfold drawX at hr
  cases hh : headRun P rec ops x.h ops.toList 0 x.t [] with
  | mk n tl =>
    obtain ⟨t, l, es⟩ := tl
    rw [hh] at hr
    simp only at hr
    split at hr
    · rename_i hc
      split at hr
      rotate_left
      · cases hr
      rename_i hN hlex
      simp only [Bool.and_eq_true, decide_eq_true_eq] at hc
      obtain ⟨⟨⟨⟨⟨hmix, hsel⟩, hnl⟩, hdp⟩, hmem⟩, htl⟩ := hc
      obtain ⟨T, E, N, S⟩ := headRun_spec hrec.2.2.2 _ _ _ _ _ _ _ _ hh
      have hcs : Bnd k (headM es) := (bnd_low (explore_low _ _ _ _ hr hm)).2
      refine wp_region_any hmix ?_
      have H0 : HR wb k s x.h w.drew := HS.h.drew
      have hlf : MH n x.h E N (fun _ => true) hN (fun j => if j < x.h.length then s j else none) := by
        refine lexHeap_ok S hmem n 0 _ (by omega) ?_ (by simpa [S.l0] using hlex)
        rw [show (fun j => decide (j < 0)) = fun _ => false by funext j; simp, ← S.ln]
        exact mh_start S fun i hi => if_neg (by omega)
      have J : Mid ops n x.t x.h E N wb k s (Array.replicate ops.size false) a w.drew := by
        have e : (fun i => (Array.replicate ops.size false).getD i false) = fun _ => false := by funext i; exact getD_replicate_false _ _
        refine ⟨s, x.t, _, Le.refl s, fun _ _ => rfl, HS.t, HS.d, H0.pad (N n).length, fun _ => H0, ?_, ?_⟩
        · rw [e]; exact mt_start
        · rw [e]; exact mh_start S H0.dom
      have inv : HeadInv .any ops n (Array.replicate ops.size false) :=
        ⟨by simp, fun j _ _ hl => (by rw [getD_replicate_false] at hl; cases hl), fun t _ h2 => getD_in (by simpa using h2) (getD_replicate_false _ _)⟩
      have hleft : left n (Array.replicate ops.size false) = n := by
        unfold left
        rw [List.filter_eq_self.2 fun i _ => by rw [getD_replicate_false]; rfl]
        simp
      have hsc : n < ops.size → sinkL ops n (baseOf ops n es) = true ∧ ∀ t, n < t → t < ops.size → ∃ j, n ≤ j ∧ j < ops.size ∧ Region.waitsFor .any ops t j = true := by
        intro hlt
        unfold tailX at htl
        simp only [Bool.and_eq_true, decide_eq_true_eq] at htl
        refine ⟨htl.1.2, fun t ht htl2 => ?_⟩
        have h1 := List.all_eq_true.1 htl.2 t (List.mem_range.2 htl2)
        simp only [Bool.or_eq_true, decide_eq_true_eq] at h1
        rcases h1 with h1 | h1
        · omega
        · obtain ⟨j, hj, hj2⟩ := List.any_eq_true.1 h1
          simp only [Bool.and_eq_true, decide_eq_true_eq] at hj2
          exact ⟨j, hj2.1, by have := List.mem_range.1 hj; omega, hj2.2⟩
      have A := head_any S hdp hrec hmem hcs hnl hsc (wb := wb) (s0 := s) HS.h.kle (Q := Post wb k s x' .normal) (g := ops.size - n) (fun listed a' w' inv' hall J' => ?_)
      · have e2 : left n (Array.replicate ops.size false) + (ops.size - n) = ops.size := by omega
        have fin : wpAny P .any ops (Post wb k s x' .normal) (left n (Array.replicate ops.size false) + (ops.size - n)) (Array.replicate ops.size false) a w.drew := by
          by_cases hb0 : (n == ops.size || Region.sinkB .any ops n) = true
          · have e : baseOf ops n es = Array.replicate ops.size false := by unfold baseOf; rw [if_pos hb0]
            rw [e] at A
            exact A _ _ a w.drew inv (fun i hi => hi) rfl J
          · have e : baseOf ops n es = prepL ops es (List.range n) (Array.replicate ops.size false) := by unfold baseOf; rw [if_neg hb0]
            rw [e] at A
            exact prep_ok hrec.2.2.1 hrec.2.2.2 S hdp hsel hcs (Q := Post wb k s x' .normal) (fun c a w h => by cases h.1) (List.range n) _ a (fun i hi => List.mem_range.1 hi) inv J fun a' inv' J' => A _ _ a' w.drew inv' (fun i hi => hi) rfl J'
        rwa [e2] at fin
      · obtain ⟨s', t2, h2, hle, _, ht, hdf, H, _, M, MM⟩ := J'
        obtain rfl := mt_full S hdp M hall
        obtain rfl := mh_same S MM hlf hall fun _ _ => rfl
        have hQ : ∀ s'' a'' w'', Le s' s'' → SR wb k s'' x' a'' w'' → Post wb k s x' .normal .normal a'' w'' := fun s'' a'' w'' hle' hsr => ⟨rfl, s'', hle.trans hle', hsr⟩
        have hmask : listed = lexMask ops n := by
          apply Array.ext_getElem?
          intro i
          have e0 : (lexMask ops n)[i]? = (List.replicate n true ++ List.replicate (ops.size - n) false)[i]? := by
            unfold lexMask
            simp
          rw [e0]
          rcases Nat.lt_or_ge i n with hi | hi
          · have := hall i hi
            have hisz : i < listed.size := by rw [inv'.size]; omega
            rw [List.getElem?_append_left (by simpa using hi), List.getElem?_replicate, if_pos hi]
            rw [Array.getElem?_eq_getElem hisz]
            simpa [hisz] using this
          · rw [List.getElem?_append_right (by simpa using hi), List.getElem?_replicate]
            simp only [List.length_replicate]
            by_cases hlt : i < ops.size
            · have := inv'.tail i hi hlt
              have hisz : i < listed.size := by rw [inv'.size]; omega
              rw [if_pos (by omega), Array.getElem?_eq_getElem hisz]
              simpa [hisz] using this
            · rw [if_neg (by omega), Array.getElem?_eq_none (by rw [inv'.size]; omega)]
        rw [hmask]
        exact explore_ok hrec hsel (fun c a w h => by cases h.1) (ops.size - n) (lexMask ops n) _ x' hr hm s' a' w' ⟨ht, hdf, H⟩ hQ
    · cases hr

end
/-- What only reckons, and is waited for by nothing up to the first one behind the head: it may come whenever it is ready. -/
def floatAt (ops : Array Oper) (n : Nat) (es : List HE) (i : Nat) : Bool :=
  pureAt es i && Region.free .any ops (lexMask ops i) i && !((List.range (n + 1)).any fun j => decide (i < j) && Region.waitsFor .any ops j i)
def sinkF (ops : Array Oper) (n : Nat) (es : List HE) : Bool :=
  (List.range n).all fun i => floatAt ops n es i || (List.range (n + 1)).any fun j => decide (i < j) && Region.waitsFor .any ops j i && (Nat.beq j n || !floatAt ops n es j)
def tailY (ops : Array Oper) (n : Nat) (es : List HE) : Bool := decide (n < ops.size) && sinkF ops n es && backB ops n
/-- The same as drawX, where some that only reckon stand in the head and nothing waits for them. -/
def drawY (P : Program) : DrawFn := fun rec ops x =>
  match headRun P rec ops x.h ops.toList 0 x.t [] with
  | (n, t, l, es) =>
    if P.follows .mixedOrders && Region.noSelect ops && decide (n ≤ ops.size) && depsB ops n && memB ops n es && tailY ops n es then
      match lexHeap x.h.length es x.h.length (x.h ++ List.replicate l.length dead) with
      | some h => explore P rec ops (ops.size - n) (lexMask ops n) ⟨t, h, low x.m (headM es)⟩
      | none => none
    else none
theorem drawY_low (P : Program) : DrawLow (drawY P) := by
  intro rec ops x x' hr k hm
  unfold drawY at hr
  split at hr
  split at hr
  · split at hr
    · exact (bnd_low (explore_low _ _ _ _ hr hm)).1
    · cases hr
  · cases hr
section
variable {P : Program} {rec : Rec} {ops : Array Oper} {n : Nat} {t0 t' : List Value} {h0 l' : List AO} {es : List HE} {T : Nat → List Value} {E : Nat → HE} {N : Nat → List AO}
theorem free_lex {listed : Array Bool} {i : Nat} (hi : i ≤ ops.size) (hb : ∀ j, j < i → listed.getD j false = true) (h : Region.free .any ops (lexMask ops i) i = true) : Region.free .any ops listed i = true := by
  unfold Region.free at h ⊢
  split at h
  · cases h
  · rename_i oi ho
    refine List.all_eq_true.2 fun j hj => ?_
    have h1 := List.all_eq_true.1 h j hj
    have hlt := List.mem_range.1 hj
    by_cases hji : j < i
    · have h2 := hb j hji
      have h3 : listed.getD j true = true := by
        rw [Array.getD_eq_getD_getElem?] at h2 ⊢
        cases hq : listed[j]? with
        | none => rw [hq] at h2; cases h2
        | some b => rw [hq] at h2; exact h2
      rw [h3]; simp
    · have e : (lexMask ops i).getD j true = false := by
        rw [Array.getD_eq_getD_getElem?]
        have e0 : (lexMask ops i)[j]? = (List.replicate i true ++ List.replicate (ops.size - i) false)[j]? := by
          unfold lexMask
          simp
        rw [e0, List.getElem?_append_right (by simp; omega), List.getElem?_replicate, if_pos (by simp; omega)]
        rfl
      rw [e, Bool.or_false] at h1
      rw [Bool.or_assoc]
      simp only [Bool.or_eq_true] at h1 ⊢
      rcases h1 with h1 | h1
      · exact .inl h1
      · exact .inr (.inr h1)
theorem free_mono {listed : Array Bool} {i : Nat} (h : Region.free .any ops (Array.replicate ops.size false) i = true) : Region.free .any ops listed i = true := by
  unfold Region.free at h ⊢
  split at h
  · cases h
  · rename_i oi ho
    refine List.all_eq_true.2 fun j hj => ?_
    have h1 := List.all_eq_true.1 h j hj
    have hlt := List.mem_range.1 hj
    have e : (Array.replicate ops.size false).getD j true = false := getD_in (by simpa using hlt) (getD_replicate_false _ _)
    rw [e, Bool.or_false] at h1
    rw [Bool.or_assoc]
    simp only [Bool.or_eq_true] at h1 ⊢
    rcases h1 with h1 | h1
    · exact .inl h1
    · exact .inr (.inr h1)
theorem tail_waitsF (F : Nat → Bool) (hs : ∀ i, i < n → F i = true ∨ ∃ j, i < j ∧ j ≤ n ∧ Region.waitsFor .any ops j i = true ∧ (j = n ∨ F j = false)) (hc : ∀ t, n < t → t < ops.size → ∃ j, n ≤ j ∧ j < ops.size ∧ Region.waitsFor .any ops t j = true) (hn : n < ops.size)
    {listed : Array Bool} (inv : HeadInv .any ops n listed) : ∀ (d i : Nat), n - i = d → i < n → F i = false → listed.getD i true = false → ∀ t, n ≤ t → t ∉ Region.ready .any ops listed := by
  intro d
  induction d using Nat.strongRecOn with
  | _ d ih =>
    intro i hd hi hFi hun t ht hr
    obtain ⟨_, ot, hot, hall⟩ := mem_ready.1 hr
    have htlt : t < ops.size := (Array.getElem?_eq_some_iff.1 hot).1
    by_cases htn : t = n
    · subst htn
      rcases hs i hi with h1 | ⟨j, hj1, hj2, hj3, hj4⟩
      · rw [hFi] at h1; cases h1
      obtain ⟨oj, hoj, e, he, hb', hon⟩ := Region.waitsFor_spec hj3
      by_cases hjt : j = t
      · subst hjt
        have : oj = ot := Option.some.inj (hoj.symm.trans hot)
        subst this
        have h2 := hall e he hb'
        rw [hon, getD_both hun] at h2
        cases h2
      · cases hl : listed.getD j false with
        | true =>
          have h2 := inv.closed j oj hoj hl e he hb'
          rw [hon, getD_both hun] at h2
          cases h2
        | false =>
          have hjs : j < listed.size := by rw [inv.size]; omega
          rcases hj4 with h4 | h4
          · exact hjt h4
          · exact ih (t - j) (by omega) j rfl (by omega) h4 (getD_in hjs hl) t (Nat.le_refl _) hr
    · obtain ⟨j, hj1, hj2, h1⟩ := hc t (by omega) htlt
      obtain ⟨o', ho', e, he, hb', hon⟩ := Region.waitsFor_spec h1
      have : o' = ot := Option.some.inj (ho'.symm.trans hot)
      subst this
      have h2 := hall e he hb'
      rw [hon, getD_both (inv.tail j hj1 hj2)] at h2
      cases h2
theorem head_float (hng : NoNG P) (hacc : rec.acc = accP) (hsel : Region.noSelect ops = true) (F : Nat → Bool) (hF : ∀ i, i < n → F i = true → pureE (E i) = true ∧ Region.free .any ops (lexMask ops i) i = true) (S : HeadSpec P rec ops h0 ops.toList 0 n t0 [] t' l' es T E N) (hd : depsB ops n = true) (hrec : RecOk P rec) (hmem : memB ops n es = true) {k : Nat} (hcs : Bnd k (headM es)) (hnl : n ≤ ops.size) (hs : n < ops.size → (∀ i, i < n → F i = true ∨ ∃ j, i < j ∧ j ≤ n ∧ Region.waitsFor .any ops j i = true ∧ (j = n ∨ F j = false)) ∧ ∀ t, n < t → t < ops.size → ∃ j, n ≤ j ∧ j < ops.size ∧ Region.waitsFor .any ops t j = true)
    {wb : Wb} {s0 : Ren} (hk : k ≤ h0.length) {Q : Exit → Act → World → Prop} (hQp : ∀ c a w, ¬ Q (.panic c) a w) {g : Nat}
    (hend : ∀ listed a w, HeadInv .any ops n listed → (∀ i, i < n → listed.getD i false = true) → Mid ops n t0 h0 E N wb k s0 listed a w → wpAny P .any ops Q g listed a w) :
    ∀ (f : Nat) (listed : Array Bool) (a : Act) (w : World), HeadInv .any ops n listed → left n listed = f → Mid ops n t0 h0 E N wb k s0 listed a w → wpAny P .any ops Q (f + g) listed a w
  | 0, listed, a, w, inv, hl, J => by rw [Nat.zero_add]; exact hend listed a w inv (fun i hi => left_zero hl hi) J
  | f + 1, listed, a, w, inv, hl, J => by
    -- one that is not done, the first of them
    have hex : ∃ i, i < n ∧ listed.getD i false = false := by
      rcases Classical.em (∃ i, i < n ∧ listed.getD i false = false) with h | h
      · exact h
      · have : (List.range n).filter (fun i => !listed.getD i false) = [] := List.filter_eq_nil_iff.2 fun i hi => by
          have hi' := List.mem_range.1 hi
          cases hq : listed.getD i false with
          | true => simp
          | false => exact absurd ⟨i, hi', hq⟩ h
        unfold left at hl
        rw [this] at hl
        cases hl
    have hfirst : ∃ i, i < n ∧ listed.getD i false = false ∧ ∀ j, j < i → listed.getD j false = true := by
      obtain ⟨i, hi, hu⟩ := hex
      induction i using Nat.strongRecOn with
      | _ i ih =>
        rcases Classical.em (∃ j, j < i ∧ listed.getD j false = false) with ⟨j, hj, hju⟩ | h
        · exact ih j hj (by omega) hju
        · refine ⟨i, hi, hu, fun j hj => ?_⟩
          cases hq : listed.getD j false with
          | true => rfl
          | false => exact absurd ⟨j, hj, hq⟩ h
    obtain ⟨i, hi, hu, hbel⟩ := hfirst
    have hisz : i < listed.size := by rw [inv.size]; omega
    obtain ⟨o, ho, _, _⟩ := op_at S hi
    have hri : i ∈ Region.ready .any ops listed := mem_ready.2 ⟨getD_in hisz hu, o, ho, fun e he hb => hbel _ ((depsB_spec hd hi ho).1 e he hb)⟩
    rw [show f + 1 + g = (f + g) + 1 by omega]
    cases hFi : F i with
    | true =>
      obtain ⟨hp, hfr⟩ := hF i hi hFi
      obtain ⟨o2, v, ho2, hy, J'⟩ := mid_pure hng hacc S hd inv J hri hi hp (headM_bnd hcs i _ (eff_at S hi)).2
      refine wpAny_take ho2 hsel (free_lex (by omega) hbel hfr) (by simpa using hri) (fun c a w h => absurd h (hQp c _ w)) hy ?_
      refine head_float hng hacc hsel F hF S hd hrec hmem hcs hnl hs hk hQp hend f _ _ w (inv.set hri hi) ?_ J'
      have := left_next hi hisz hu
      omega
    | false =>
    refine ⟨fun h0 => (by rw [h0] at hri; cases hri), fun j hj => ?_⟩
    have hjn : j < n := by
      rcases Nat.lt_or_ge j n with h | h
      · exact h
      · obtain ⟨_, oj, hoj, _⟩ := mem_ready.1 hj
        have hjs := (Array.getElem?_eq_some_iff.1 hoj).1
        obtain ⟨h1, h2⟩ := hs (by omega)
        exact absurd hj (tail_waitsF F h1 h2 (by omega) inv _ i rfl hi hFi (getD_in hisz hu) j h)
    have hju := getD_both (mem_ready.1 hj).1
    have hjs : j < listed.size := by rw [inv.size]; omega
    refine mid_op S hd hrec hmem hcs hk inv J hj hjn fun a' w' J' => ?_
    refine head_float hng hacc hsel F hF S hd hrec hmem hcs hnl hs hk hQp hend f _ a' w' (inv.set hj hjn) ?_ J'
    have := left_next hjn hjs hju
    omega
theorem drawY_ok (P : Program) : DrawOk P (drawY P) := by
  intro rec hrec ops x x' hr wb k s id a w hm HS
  unfold drawY at hr
  cases hh : headRun P rec ops x.h ops.toList 0 x.t [] with
  | mk n tl =>
    obtain ⟨t, l, es⟩ := tl
    rw [hh] at hr
    simp only at hr
    split at hr
    · rename_i hc
      split at hr
      rotate_left
      · cases hr
      rename_i hN hlex
      simp only [Bool.and_eq_true, decide_eq_true_eq] at hc
      obtain ⟨⟨⟨⟨⟨hmix, hsel⟩, hnl⟩, hdp⟩, hmem⟩, htl⟩ := hc
      obtain ⟨T, E, N, S⟩ := headRun_spec hrec.2.2.2 _ _ _ _ _ _ _ _ hh
      have hcs : Bnd k (headM es) := (bnd_low (explore_low _ _ _ _ hr hm)).2
      refine wp_region_any hmix ?_
      have H0 : HR wb k s x.h w.drew := HS.h.drew
      have hlf : MH n x.h E N (fun _ => true) hN (fun j => if j < x.h.length then s j else none) := by
        refine lexHeap_ok S hmem n 0 _ (by omega) ?_ (by simpa [S.l0] using hlex)
        rw [show (fun j => decide (j < 0)) = fun _ => false by funext j; simp, ← S.ln]
        exact mh_start S fun i hi => if_neg (by omega)
      have J : Mid ops n x.t x.h E N wb k s (Array.replicate ops.size false) a w.drew := by
        have e : (fun i => (Array.replicate ops.size false).getD i false) = fun _ => false := by funext i; exact getD_replicate_false _ _
        refine ⟨s, x.t, _, Le.refl s, fun _ _ => rfl, HS.t, HS.d, H0.pad (N n).length, fun _ => H0, ?_, ?_⟩
        · rw [e]; exact mt_start
        · rw [e]; exact mh_start S H0.dom
      have inv : HeadInv .any ops n (Array.replicate ops.size false) :=
        ⟨by simp, fun j _ _ hl => (by rw [getD_replicate_false] at hl; cases hl), fun t _ h2 => getD_in (by simpa using h2) (getD_replicate_false _ _)⟩
      have hleft : left n (Array.replicate ops.size false) = n := by
        unfold left
        rw [List.filter_eq_self.2 fun i _ => by rw [getD_replicate_false]; rfl]
        simp
      have htl' := htl
      unfold tailY at htl'
      simp only [Bool.and_eq_true, decide_eq_true_eq] at htl'
      have hsc : n < ops.size → (∀ i, i < n → floatAt ops n es i = true ∨ ∃ j, i < j ∧ j ≤ n ∧ Region.waitsFor .any ops j i = true ∧ (j = n ∨ floatAt ops n es j = false)) ∧ ∀ t, n < t → t < ops.size → ∃ j, n ≤ j ∧ j < ops.size ∧ Region.waitsFor .any ops t j = true := by
        intro hlt
        refine ⟨fun i hi => ?_, fun t ht htl2 => ?_⟩
        · have h1 := List.all_eq_true.1 htl'.1.2 i (List.mem_range.2 hi)
          simp only [Bool.or_eq_true] at h1
          rcases h1 with h1 | h1
          · exact .inl h1
          · obtain ⟨j, hj, hj2⟩ := List.any_eq_true.1 h1
            simp only [Bool.and_eq_true, decide_eq_true_eq, Bool.or_eq_true, Bool.not_eq_true'] at hj2
            refine .inr ⟨j, hj2.1.1, by have := List.mem_range.1 hj; omega, hj2.1.2, ?_⟩
            rcases hj2.2 with h3 | h3
            · exact .inl (Nat.eq_of_beq_eq_true h3)
            · exact .inr h3
        · have h1 := List.all_eq_true.1 htl'.2 t (List.mem_range.2 htl2)
          simp only [Bool.or_eq_true, decide_eq_true_eq] at h1
          rcases h1 with h1 | h1
          · omega
          · obtain ⟨j, hj, hj2⟩ := List.any_eq_true.1 h1
            simp only [Bool.and_eq_true, decide_eq_true_eq] at hj2
            exact ⟨j, hj2.1, by have := List.mem_range.1 hj; omega, hj2.2⟩
      have hFl : ∀ i, i < n → floatAt ops n es i = true → pureE (E i) = true ∧ Region.free .any ops (lexMask ops i) i = true := by
        intro i hi hf
        unfold floatAt at hf
        simp only [Bool.and_eq_true] at hf
        refine ⟨?_, hf.1.2⟩
        have hp := hf.1.1
        unfold pureAt at hp
        rw [eff_at S hi] at hp
        exact hp
      have A := head_float hrec.2.2.1 hrec.2.2.2 hsel (floatAt ops n es) hFl S hdp hrec hmem hcs hnl hsc (wb := wb) (s0 := s) HS.h.kle (Q := Post wb k s x' .normal) (fun c a w h => by cases h.1) (g := ops.size - n) (fun listed a' w' inv' hall J' => ?_)
      · have e2 : left n (Array.replicate ops.size false) + (ops.size - n) = ops.size := by omega
        have fin := A _ _ a w.drew inv rfl J
        rwa [e2] at fin
      · obtain ⟨s', t2, h2, hle, _, ht, hdf, H, _, M, MM⟩ := J'
        obtain rfl := mt_full S hdp M hall
        obtain rfl := mh_same S MM hlf hall fun _ _ => rfl
        have hQ : ∀ s'' a'' w'', Le s' s'' → SR wb k s'' x' a'' w'' → Post wb k s x' .normal .normal a'' w'' := fun s'' a'' w'' hle' hsr => ⟨rfl, s'', hle.trans hle', hsr⟩
        have hmask : listed = lexMask ops n := by
          apply Array.ext_getElem?
          intro i
          have e0 : (lexMask ops n)[i]? = (List.replicate n true ++ List.replicate (ops.size - n) false)[i]? := by
            unfold lexMask
            simp
          rw [e0]
          rcases Nat.lt_or_ge i n with hi | hi
          · have := hall i hi
            have hisz : i < listed.size := by rw [inv'.size]; omega
            rw [List.getElem?_append_left (by simpa using hi), List.getElem?_replicate, if_pos hi]
            rw [Array.getElem?_eq_getElem hisz]
            simpa [hisz] using this
          · rw [List.getElem?_append_right (by simpa using hi), List.getElem?_replicate]
            simp only [List.length_replicate]
            by_cases hlt : i < ops.size
            · have := inv'.tail i hi hlt
              have hisz : i < listed.size := by rw [inv'.size]; omega
              rw [if_pos (by omega), Array.getElem?_eq_getElem hisz]
              simpa [hisz] using this
            · rw [if_neg (by omega), Array.getElem?_eq_none (by rw [inv'.size]; omega)]
        rw [hmask]
        exact explore_ok hrec hsel (fun c a w h => by cases h.1) (ops.size - n) (lexMask ops n) _ x' hr hm s' a' w' ⟨ht, hdf, H⟩ hQ
    · cases hr

end
/-! The last two operations, the other way about. -/
def swI (n i : Nat) : Nat := if i = n then n + 1 else if i = n + 1 then n else i
def swM (n : Nat) (m : Array Bool) : Array Bool := (m.setIfInBounds n (m.getD (n + 1) true)).setIfInBounds (n + 1) (m.getD n true)
theorem swI_swI (n i : Nat) : swI n (swI n i) = i := by unfold swI; split <;> split <;> (try split) <;> omega
theorem swM_size (n : Nat) (m : Array Bool) : (swM n m).size = m.size := by unfold swM; simp
theorem swM_get {n : Nat} {m : Array Bool} (hm : m.size = n + 2) (i : Nat) : (swM n m)[i]? = m[swI n i]? := by
  have g : ∀ (j : Nat) (hj : j < n + 2), m.getD j true = m[j]'(by omega) := fun j hj => by simp [Array.getD, hm, hj]
  unfold swM swI
  rw [Array.getElem?_setIfInBounds, Array.getElem?_setIfInBounds, g n (by omega), g (n + 1) (by omega)]
  by_cases h1 : i = n
  · subst h1
    rw [if_neg (by omega), if_pos rfl, if_pos (by omega), if_pos rfl, Array.getElem?_eq_getElem]
  · by_cases h2 : i = n + 1
    · subst h2
      rw [if_pos rfl, if_pos (by simp; omega), if_neg (by omega), if_pos rfl, Array.getElem?_eq_getElem]
    · rw [if_neg (by omega), if_neg (by omega), if_neg h1, if_neg h2]
theorem swM_getD {n : Nat} {m : Array Bool} (hm : m.size = n + 2) (i : Nat) (b : Bool) : (swM n m).getD i b = m.getD (swI n i) b := by
  rw [Array.getD_eq_getD_getElem?, Array.getD_eq_getD_getElem?, swM_get hm]
theorem swM_set {n : Nat} {m : Array Bool} (hm : m.size = n + 2) (i : Nat) : swM n (m.setIfInBounds i true) = (swM n m).setIfInBounds (swI n i) true := by
  apply Array.ext_getElem?
  intro j
  rw [swM_get (by simpa using hm), Array.getElem?_setIfInBounds, Array.getElem?_setIfInBounds, swM_get hm]
  have e : (i = swI n j) ↔ (swI n i = j) := ⟨fun h => by rw [h, swI_swI], fun h => by rw [← h, swI_swI]⟩
  by_cases h : i = swI n j
  · rw [if_pos h, if_pos (e.1 h)]
    have : (swI n i < (swM n m).size) ↔ (i < m.size) := by rw [swM_size, hm]; unfold swI; split <;> (try split) <;> omega
    by_cases hi : i < m.size
    · rw [if_pos hi, if_pos (this.2 hi)]
    · rw [if_neg hi, if_neg fun q => hi (this.1 q)]
  · rw [if_neg h, if_neg fun q => h (e.2 q)]
/-- No operation waits for the last two, or is guarded by them. -/
def loneB (n : Nat) (l : List Oper) : Bool := l.all fun o => (o.after.toList.all fun e => !Region.binds .any e || decide (e.on < n)) && (match o.guard with | none => true | some (j, _) => decide (j < n))
section
variable {P : Program} {l : List Oper} {o1 o2 : Oper} {Q : Exit → Act → World → Prop}
theorem sw_op (i : Nat) : (⟨l ++ [o2, o1]⟩ : Array Oper)[swI l.length i]? = (⟨l ++ [o1, o2]⟩ : Array Oper)[i]? := by
  simp only [List.getElem?_toArray]
  unfold swI
  by_cases h1 : i = l.length
  · subst h1
    rw [if_pos rfl, List.getElem?_append_right (by omega), List.getElem?_append_right (by omega)]
    simp
  · by_cases h2 : i = l.length + 1
    · subst h2
      rw [if_neg (by omega), if_pos rfl, List.getElem?_append_right (by omega), List.getElem?_append_right (by omega)]
      simp
    · rw [if_neg h1, if_neg h2]
      by_cases h3 : i < l.length
      · rw [List.getElem?_append_left h3, List.getElem?_append_left h3]
      · rw [List.getElem?_eq_none (by simp; omega), List.getElem?_eq_none (by simp; omega)]
theorem sw_low {j : Nat} (h : j < l.length) : swI l.length j = j := by unfold swI; rw [if_neg (by omega), if_neg (by omega)]
theorem sw_ready (hl : loneB l.length (l ++ [o1, o2]) = true) {m : Array Bool} (hm : m.size = l.length + 2) {i : Nat} (h : i ∈ Region.ready .any ⟨l ++ [o1, o2]⟩ m) : swI l.length i ∈ Region.ready .any ⟨l ++ [o2, o1]⟩ (swM l.length m) := by
  obtain ⟨h1, o, ho, ha⟩ := mem_ready.1 h
  refine mem_ready.2 ⟨by rw [swM_getD hm, swI_swI]; exact h1, o, by rw [sw_op]; exact ho, fun e he hb => ?_⟩
  have hmem : o ∈ l ++ [o1, o2] := List.mem_of_getElem? (by simpa using ho)
  have h2 := List.all_eq_true.1 hl o hmem
  simp only [Bool.and_eq_true] at h2
  have h3 := List.all_eq_true.1 h2.1 e (by simpa using he)
  simp only [hb, Bool.not_true, Bool.false_or, decide_eq_true_eq] at h3
  rw [swM_getD hm, sw_low h3]
  exact ha e he hb
theorem sw_any (hl : loneB l.length (l ++ [o1, o2]) = true) (hl' : loneB l.length (l ++ [o2, o1]) = true) : ∀ (f : Nat) (m : Array Bool) (a : Act) (w : World), m.size = l.length + 2 →
    wpAny P .any ⟨l ++ [o2, o1]⟩ Q f (swM l.length m) a w → wpAny P .any ⟨l ++ [o1, o2]⟩ Q f m a w := by
  have back : ∀ {m : Array Bool}, m.size = l.length + 2 → Region.ready .any ⟨l ++ [o1, o2]⟩ m = [] → Region.ready .any ⟨l ++ [o2, o1]⟩ (swM l.length m) = [] := by
    intro m hm h
    apply List.eq_nil_iff_forall_not_mem.2
    intro i hi
    have h2 := sw_ready (o1 := o2) (o2 := o1) hl' (m := swM l.length m) (by rw [swM_size]; exact hm) hi
    have e : swM l.length (swM l.length m) = m := by
      apply Array.ext_getElem?
      intro j
      rw [swM_get (by rw [swM_size]; exact hm), swM_get hm, swI_swI]
    rw [e, h] at h2
    cases h2
  intro f
  induction f with
  | zero =>
    intro m a w hm h
    refine ⟨?_, h.2⟩
    apply List.eq_nil_iff_forall_not_mem.2
    intro i hi
    have := sw_ready hl hm hi
    rw [h.1] at this
    cases this
  | succ f ih =>
    intro m a w hm h
    refine ⟨fun h0 => h.1 (back hm h0), fun i hi => ?_⟩
    have h2 := h.2 _ (sw_ready hl hm hi)
    rw [← swM_set hm] at h2
    unfold wpOp at h2 ⊢
    rw [sw_op] at h2
    split at h2
    · exact ih _ a w (by simpa using hm) h2
    · rename_i o ho
      have hmem : o ∈ l ++ [o1, o2] := List.mem_of_getElem? (by simpa using ho)
      have h3 := List.all_eq_true.1 hl o hmem
      simp only [Bool.and_eq_true] at h3
      have hw : Region.wanted o (yielded ⟨l ++ [o2, o1]⟩ a.tmps) = Region.wanted o (yielded ⟨l ++ [o1, o2]⟩ a.tmps) := by
        unfold Region.wanted
        have h4 := h3.2
        cases hg : o.guard with
        | none => rfl
        | some jb =>
          obtain ⟨j, b⟩ := jb
          rw [hg] at h4
          simp only [decide_eq_true_eq] at h4
          simp only
          have : yielded ⟨l ++ [o2, o1]⟩ a.tmps j = yielded ⟨l ++ [o1, o2]⟩ a.tmps j := by
            unfold yielded
            have := sw_op (l := l) (o1 := o1) (o2 := o2) j
            rw [sw_low h4] at this
            rw [this]
          rw [this]
      rw [hw] at h2
      split
      · rename_i hc
        rw [if_pos hc] at h2
        exact h2.imp (Oper.wp_mono fun a' w' h' => ih _ a' w' (by simpa using hm) h') id
      · rename_i hc
        rw [if_neg hc] at h2
        exact ih _ _ w (by simpa using hm) h2
end
def swapL : List Oper → Option (List Oper × Oper × Oper)
  | [] => none
  | [_] => none
  | [a, b] => some ([], a, b)
  | o :: r =>
    match swapL r with
    | some (l, a, b) => some (o :: l, a, b)
    | none => none
theorem swapL_spec : ∀ {r l : List Oper} {a b : Oper}, swapL r = some (l, a, b) → r = l ++ [a, b]
  | [], _, _, _, h => by cases h
  | [_], _, _, _, h => by cases h
  | [x, y], l, a, b, h => by
    simp only [swapL, Option.some.injEq, Prod.mk.injEq] at h
    obtain ⟨rfl, rfl, rfl⟩ := h
    rfl
  | o :: x :: y :: r, l, a, b, h => by
    simp only [swapL] at h
    split at h
    · rename_i l' a' b' hh
      simp only [Option.some.injEq, Prod.mk.injEq] at h
      obtain ⟨rfl, rfl, rfl⟩ := h
      rw [swapL_spec hh]; rfl
    · cases h
/-- .. a drawn region whose last two wait for each other in no way: told with these the other way about. -/
def drawZ (P : Program) : DrawFn := fun rec ops x =>
  match swapL ops.toList with
  | some (l, a, b) => if loneB l.length (l ++ [a, b]) && loneB l.length (l ++ [b, a]) then drawA P rec ⟨l ++ [b, a]⟩ x else none
  | none => none
theorem drawZ_low (P : Program) : DrawLow (drawZ P) := by
  intro rec ops x x' hr k hm
  unfold drawZ at hr
  split at hr
  · split at hr
    · exact drawA_low P rec _ x _ hr k hm
    · cases hr
  · cases hr
theorem drawZ_ok (P : Program) : DrawOk P (drawZ P) := by
  intro rec hrec ops x x' hr wb k s id a w hm HS
  unfold drawZ at hr
  split at hr
  · rename_i l o1 o2 hs
    split at hr
    · rename_i hc
      simp only [Bool.and_eq_true] at hc
      obtain ⟨h1, h2⟩ := drawA_any P hrec hr hm HS
      refine wp_region_any h1 ?_
      obtain ⟨r⟩ := ops
      have e : r = l ++ [o1, o2] := swapL_spec hs
      subst e
      have hsz : (⟨l ++ [o1, o2]⟩ : Array Oper).size = l.length + 2 := by simp
      have hsz' : (⟨l ++ [o2, o1]⟩ : Array Oper).size = l.length + 2 := by simp
      rw [hsz'] at h2
      rw [hsz]
      refine sw_any hc.1 hc.2 _ _ _ _ (by simp) ?_
      have em : swM l.length (Array.replicate (l.length + 2) false) = Array.replicate (l.length + 2) false := by
        apply Array.ext_getElem?
        intro j
        rw [swM_get (by simp)]
        simp only [Array.getElem?_replicate]
        have : (swI l.length j < l.length + 2) ↔ (j < l.length + 2) := by unfold swI; split <;> (try split) <;> omega
        by_cases hj : j < l.length + 2
        · rw [if_pos hj, if_pos (this.2 hj)]
        · rw [if_neg hj, if_neg fun q => hj (this.1 q)]
      rw [em]
      exact h2
    · cases hr
  · cases hr
/-- A drawn region: by its head and its tail; if it has no such form, by each of its orders. -/
def drawE (P : Program) : DrawFn := fun rec ops x =>
  match drawA P rec ops x with
  | some y => some y
  | none =>
    match (match drawX P rec ops x with | some y => some y | none => (match drawY P rec ops x with | some y => some y | none => drawZ P rec ops x)) with
    | some y => some y
    | none => if P.follows .mixedOrders && Region.noSelect ops then explore P rec ops ops.size (Array.replicate ops.size false) x else none
theorem drawE_low (P : Program) : DrawLow (drawE P) := by
  intro rec ops x x' hr k hm
  unfold drawE at hr
  split at hr
  · rename_i y hy
    cases hr
    exact drawA_low P rec ops x _ hy k hm
  · split at hr
    · rename_i y hy
      cases hr
      split at hy
      · rename_i z hz
        cases hy
        exact drawX_low P rec ops x _ hz k hm
      · split at hy
        · rename_i z hz
          cases hy
          exact drawY_low P rec ops x _ hz k hm
        · exact drawZ_low P rec ops x _ hy k hm
    · split at hr
      · exact explore_low _ _ _ _ hr hm
      · cases hr
theorem drawE_ok (P : Program) : DrawOk P (drawE P) := by
  intro rec hrec ops x x' hr wb k s id a w hm HS
  unfold drawE at hr
  split at hr
  · rename_i y hy
    cases hr
    exact drawA_ok P rec hrec ops x _ hy wb k s id a w hm HS
  split at hr
  · rename_i y hy
    cases hr
    split at hy
    · rename_i z hz
      cases hy
      exact drawX_ok P rec hrec ops x _ hz wb k s id a w hm HS
    · split at hy
      · rename_i z hz
        cases hy
        exact drawY_ok P rec hrec ops x _ hz wb k s id a w hm HS
      · exact drawZ_ok P rec hrec ops x _ hy wb k s id a w hm HS
  · split at hr
    · rename_i hc
      simp only [Bool.and_eq_true] at hc
      refine wp_region_any hc.1 ?_
      exact explore_ok hrec hc.2 (fun c a w h => by cases h.1) ops.size _ x x' hr hm s a w.drew ⟨HS.t, HS.d, HS.h.drew⟩ fun s' a' w' hle H' => ⟨rfl, s', hle, H'⟩
    · cases hr

abbrev Hook := FuncId → List Value → List AO → Option (Value × Cs)
def noHook : Hook := fun _ _ _ => none
theorem noHook_ok (P : Program) : HookOk P noHook := by intro f args h0 v cs h; cases h
/-- What the kernel reckons of a call whose arguments and whose answer hold no address: its answer, and one side of what must be the same; and the other side. -/
noncomputable def ranOf (P : Program) (hk : Hook) (L f : Nat) (g : FuncId) (args : List Value) : Option (Value × List AO × Mk) := callA P ⟨ex P (aOp P) (drawE P) (liftH (guardH hk)) noOrc accQ L f, liftH (guardH hk), fun _ _ => none, accQ⟩ g args []
noncomputable def reckonL (P : Program) (hk : Hook) (L f : Nat) (g : FuncId) (args : List Value) : Option (Value × List Int) :=
  match ranOf P hk L f g args with
  | some (v, _, m) => some (v, m.2.map (·.1))
  | none => none
noncomputable def reckonR (P : Program) (hk : Hook) (L f : Nat) (g : FuncId) (args : List Value) (v : Value) : Option (Value × List Int) :=
  match ranOf P hk L f g args with
  | some (_, _, m) => some (v, m.2.map (·.2))
  | none => some (v, [])
theorem map_same {α : Type} : ∀ {l : List (α × α)}, l.map (·.1) = l.map (·.2) → ∀ c ∈ l, c.1 = c.2
  | [], _, c, hc => by cases hc
  | x :: l, h, c, hc => by
    simp only [List.map_cons, List.cons.injEq] at h
    rcases List.mem_cons.1 hc with e | e
    · rw [e]; exact h.1
    · exact map_same h.2 c e
theorem reckonH_ok {P : Program} (hng : NoNG P) {hk : Hook} (hhk : HookOk P hk) (L f : Nat) {g : FuncId} {args : List Value} {v : Value} (ha : args.all flat = true) (hv : flat v = true) (h : reckonL P hk L f g args = reckonR P hk L f g args v) (w : World) :
    Calls P g ⟨args⟩ w fun e w' => e = .returned v ∧ Gr w w' := by
  unfold reckonL reckonR ranOf at h
  cases hc : callA P ⟨ex P (aOp P) (drawE P) (liftH (guardH hk)) noOrc accQ L f, liftH (guardH hk), fun _ _ => none, accQ⟩ g args [] with
  | none => rw [hc] at h; cases h
  | some r =>
    obtain ⟨v', h', m⟩ := r
    rw [hc] at h
    simp only [Option.some.injEq, Prod.mk.injEq] at h
    obtain ⟨rfl, h2⟩ := h
    exact closed_call accQ_eq hng (aOp_ok P hng) (drawE_ok P) (drawE_low P) (lift_ok (guard_ok hhk)) L f ha hv hc (map_same h2) w
theorem reckon_ok {P : Program} (hng : NoNG P) (L f : Nat) {g : FuncId} {args : List Value} {v : Value} (ha : args.all flat = true) (hv : flat v = true) (h : reckonL P noHook L f g args = reckonR P noHook L f g args v) (w : World) :
    Calls P g ⟨args⟩ w fun e w' => e = .returned v ∧ Gr w w' := reckonH_ok hng (noHook_ok P) L f ha hv h w
end Go.Proofs.Ytafegjmaldbbiaa.Ex
end
section
namespace Go.Proofs.Ytafegjmaldbbiaa.Ex
open Go Go.RowKit

/-- The first blocks: a package's variables; those that are not spoken of are given up. -/
def placeG (h0 : List AO) (w : World) : Ren := fun g =>
  match h0[g]?, w.shape? g with
  | some o, some (_, tot) => if o.live then some ⟨g, 0, tot, some GM⟩ else none
  | _, _ => none
def Laid (h0 : List AO) (w : World) : Prop :=
  ∀ (g : Nat) (o : AO), h0[g]? = some o → o.live = true → o.es = some GM ∧ o.cs.all flat = true ∧ ∃ T tot, w.shape? g = some (T, tot) ∧ o.cs.length ≤ tot ∧ ∀ (j : Nat) (v : Value), o.cs[j]? = some v → w.cell? ⟨g, j, none⟩ = some v
theorem shape_cells {w : World} {g : Nat} {T : TypeId} {n : Nat} (h : w.shape? g = some (T, n)) : g < w.heap.size ∧ ∀ j, j < n → (w.cell? ⟨g, j, none⟩).isSome = true := by
  unfold World.shape? at h
  split at h
  · rename_i c e f hh
    cases h
    refine ⟨(Array.getElem?_eq_some_iff.1 hh).1, fun j hj => ?_⟩
    unfold World.cell?
    simp only [hh]
    simpa using hj
  · cases h
theorem HR.start {h0 : List AO} {w : World} (hL : Laid h0 w) : HR w h0.length (placeG h0 w) h0 w := by
  have pl : ∀ g p, placeG h0 w g = some p → ∃ o T tot, h0[g]? = some o ∧ o.live = true ∧ w.shape? g = some (T, tot) ∧ p = ⟨g, 0, tot, some GM⟩ := by
    intro g p hp
    unfold placeG at hp
    split at hp
    · rename_i o T tot ho hs
      split at hp
      · rename_i hl; cases hp; exact ⟨o, T, tot, ho, hl, hs, rfl⟩
      · cases hp
    · cases hp
  refine ⟨GrB.refl w _, Nat.le_refl _, fun i hi => ?_, fun i p hp => ?_, fun i o ho hl => ?_, fun i j a b p q hi hj _ _ hp hq e => ?_, fun g p hp _ => ?_⟩
  · unfold placeG
    rw [List.getElem?_eq_none hi]
  · obtain ⟨o, T, tot, ho, hl, hs, rfl⟩ := pl i p hp
    have := (shape_cells hs).1
    have hlt := (List.getElem?_eq_some_iff.1 ho).1
    exact ⟨fun _ => ⟨this, fun f => f⟩, fun h => absurd h (by omega), this⟩
  · obtain ⟨he, hf, T, tot, hs, hle, hc⟩ := hL i o ho hl
    refine ⟨⟨i, 0, tot, some GM⟩, by unfold placeG; simp [ho, hl, hs], he.symm, ObjAt.block (by unfold isM; rw [he]; rfl) ⟨by simpa using hle, (shape_cells hs).2, ⟨T, hs⟩, fun hg => absurd rfl hg, fun j v hv => ⟨v, ?_, .same (all_get hf hv)⟩⟩⟩
    rw [Nat.zero_add]
    exact hc j v hv
  · obtain ⟨_, _, _, _, _, _, rfl⟩ := pl i p hp
    obtain ⟨_, _, _, _, _, _, rfl⟩ := pl j q hq
    exact e
  · obtain ⟨_, _, _, _, _, _, rfl⟩ := pl g p hp
    exact ⟨rfl, rfl⟩
/-- A memory that is told by a heap whose first blocks are such variables has these. -/
def eqI : Value → Value → Bool
  | .int k a, .int j b => if k = j then a == b else false
  | x, y => veq0 x y
theorem eqI_ok {x y : Value} (h : eqI x y = true) : x = y := by
  unfold eqI at h
  split at h
  · split at h
    · rename_i hk; rw [hk, eq_of_beq h]
    · cases h
  · exact veq0_ok h
def eqL : List Value → List Value → Bool
  | [], [] => true
  | x :: xs, y :: ys => eqI x y && eqL xs ys
  | _, _ => false
theorem eqL_ok : ∀ {xs ys : List Value}, eqL xs ys = true → xs = ys
  | [], [], _ => rfl
  | x :: xs, y :: ys, h => by
    simp only [eqL, Bool.and_eq_true] at h
    rw [eqI_ok h.1, eqL_ok h.2]
  | [], _ :: _, h => by cases h
  | _ :: _, [], h => by cases h
def hasG : List AO → List AO → Bool
  | [], _ => true
  | _ :: _, [] => false
  | o :: l, p :: h => (!o.live || (p.live && (match p.es with | some e => Nat.beq e GM | none => false) && eqL p.cs o.cs)) && hasG l h
theorem hasG_at : ∀ {h0 h : List AO}, hasG h0 h = true → ∀ (g : Nat) (o : AO), h0[g]? = some o → o.live = true → ∃ p, h[g]? = some p ∧ p.live = true ∧ p.es = some GM ∧ p.cs = o.cs
  | [], _, _, g, o, ho, _ => by simp at ho
  | _ :: _, [], h, _, _, _, _ => by cases h
  | o :: l, p :: h, hh, g, q, hq, hl => by
    simp only [hasG, Bool.and_eq_true] at hh
    cases g with
    | succ g => simpa using hasG_at hh.2 g q (by simpa using hq) hl
    | zero =>
      simp at hq
      subst hq
      have h1 := hh.1
      simp only [hl, Bool.not_true, Bool.false_or, Bool.and_eq_true] at h1
      refine ⟨p, rfl, h1.1.1, ?_, eqL_ok h1.2⟩
      cases he : p.es with
      | none => rw [he] at h1; cases h1.1.2
      | some e => rw [he] at h1; rw [Nat.eq_of_beq_eq_true h1.1.2]
theorem HR.laid {wb : Wb} {k : Nat} {s : Ren} {h h0 : List AO} {w : World} (H : HR wb k s h w) (hh : hasG h0 h = true) (hf : h0.all (fun o => !o.live || (match o.es with | some e => Nat.beq e GM | none => false) && o.cs.all flat) = true) : Laid h0 w := by
  intro g o ho hl
  obtain ⟨p, hp, hpl, hpe, hpc⟩ := hasG_at hh g o ho hl
  have hfo := List.all_eq_true.1 hf o (List.mem_of_getElem? ho)
  simp only [hl, Bool.not_true, Bool.false_or, Bool.and_eq_true] at hfo
  have hoe : o.es = some GM := by
    cases he : o.es with
    | none => rw [he] at hfo; cases hfo.1
    | some e => rw [he] at hfo; rw [Nat.eq_of_beq_eq_true hfo.1]
  obtain ⟨q, hq, hqe, hb⟩ := H.obj g p hp hpl
  obtain ⟨e1, e2⟩ := H.gl g q hq (by rw [hqe, hpe])
  have B := hb.2 (by unfold isM; rw [hpe]; rfl)
  obtain ⟨T, hT⟩ := B.shp
  rw [e1] at hT
  refine ⟨hoe, hfo.2, T, q.tot, hT, ?_, fun j v hv => ?_⟩
  · have := B.fit
    rw [hpc] at this
    omega
  · obtain ⟨v', h1, h2⟩ := B.rel j v (by rw [hpc]; exact hv)
    rw [e1, e2, Nat.zero_add, h2.eq_of_flat (all_get hfo.2 hv)] at h1
    exact h1
noncomputable def ranG (P : Program) (hk : Hook) (orc : Orc) (L f : Nat) (h0 : List AO) (g : FuncId) (args : List Value) : Option (Value × List AO × Mk) :=
  match callA P ⟨ex P (aOp P) (drawE P) (liftH hk) orc accQ L f, liftH hk, fun _ _ => none, accQ⟩ g args h0 with
  | some (v, h, m) => if quietB h0.length m.1 then some (v, h, m) else none
  | none => none
noncomputable def reckonGL (P : Program) (hk : Hook) (orc : Orc) (L f : Nat) (h0 : List AO) (g : FuncId) (args : List Value) : Option (Value × List Int) :=
  match ranG P hk orc L f h0 g args with
  | some (v, _, m) => some (v, m.2.map (·.1))
  | none => none
noncomputable def reckonGR (P : Program) (hk : Hook) (orc : Orc) (L f : Nat) (h0 : List AO) (g : FuncId) (args : List Value) (v : Value) : Option (Value × List Int) :=
  match ranG P hk orc L f h0 g args with
  | some (_, _, m) => some (v, m.2.map (·.2))
  | none => some (v, [])
/-- A run with tests that are not reckoned: 'orc' says which way each goes; what it must hold for is 'ls = rs'. -/
theorem reckonX_any {P : Program} (hng : NoNG P) {hk : Hook} (hhk : HookOk2 P hk) (orc : Orc) (L f : Nat) (h0 : List AO) {g : FuncId} {args : List Value} {v : Value} (ha : args.all flat = true) (hv : flat v = true) (h : reckonGL P hk orc L f h0 g args = reckonGR P hk orc L f h0 g args v) (w : World) (hL : Laid h0 w) :
    Calls P g ⟨args⟩ w fun e w' => e = .returned v ∧ Gr w w' := by
  unfold reckonGL reckonGR ranG at h
  cases hc : callA P ⟨ex P (aOp P) (drawE P) (liftH hk) orc accQ L f, liftH hk, fun _ _ => none, accQ⟩ g args h0 with
  | none => rw [hc] at h; cases h
  | some r =>
    obtain ⟨v', h', m⟩ := r
    rw [hc] at h
    simp only at h
    split at h
    · rename_i r2 v2 h2 m2 hm2
      split at hm2
      · rename_i hq
        cases hm2
        simp only [Option.some.injEq, Prod.mk.injEq] at h
        obtain ⟨rfl, h3⟩ := h
        refine (callA_ok (ex_ok accQ_eq hng (aOp_ok P hng) (drawE_ok P) (drawE_low P) (lift_ok hhk) L f _) hc (wb := w) (k := h0.length) (s := placeG h0 w) ⟨quietB_ok hq, map_same h3⟩ (LR.ofFlat ha) (HR.start hL)).mono ?_
        rintro e w' ⟨s', u, rfl, _, H, hvr⟩
        rw [hvr.eq_of_flat hv]
        exact ⟨rfl, H.grown.gr⟩
      · cases hm2
    · cases h
theorem reckonG_any {P : Program} (hng : NoNG P) {hk : Hook} (hhk : HookOk P hk) (orc : Orc) (L f : Nat) (h0 : List AO) {g : FuncId} {args : List Value} {v : Value} (ha : args.all flat = true) (hv : flat v = true) (h : reckonGL P (guardH hk) orc L f h0 g args = reckonGR P (guardH hk) orc L f h0 g args v) (w : World) (hL : Laid h0 w) :
    Calls P g ⟨args⟩ w fun e w' => e = .returned v ∧ Gr w w' := reckonX_any hng (guard_ok hhk) orc L f h0 ha hv h w hL
theorem reckonG_ok {P : Program} (hng : NoNG P) {hk : Hook} (hhk : HookOk P hk) (L f : Nat) (h0 : List AO) {g : FuncId} {args : List Value} {v : Value} (ha : args.all flat = true) (hv : flat v = true) (h : reckonGL P (guardH hk) noOrc L f h0 g args = reckonGR P (guardH hk) noOrc L f h0 g args v) (w : World) (hL : Laid h0 w) :
    Calls P g ⟨args⟩ w fun e w' => e = .returned v ∧ Gr w w' := reckonG_any hng hhk noOrc L f h0 ha hv h w hL
theorem reckonS_ok {P : Program} (hng : NoNG P) {hk : Hook} (hhk : HookOk P hk) (orc : Orc) (L f : Nat) (h0 : List AO) {g : FuncId} {args : List Value} {v : Value} {ls rs : List Int} (ha : args.all flat = true) (hv : flat v = true) (h1 : reckonGL P (guardH hk) orc L f h0 g args = some (v, ls))
    (h2 : reckonGR P (guardH hk) orc L f h0 g args v = some (v, rs)) (he : ls = rs) (w : World) (hL : Laid h0 w) : Calls P g ⟨args⟩ w fun e w' => e = .returned v ∧ Gr w w' :=
  reckonG_any hng hhk orc L f h0 ha hv (h1.trans (he ▸ h2.symm)) w hL
noncomputable def reckonGC (P : Program) (hk : Hook) (orc : Orc) (L f : Nat) (h0 : List AO) (g : FuncId) (args : List Value) : Option (Value × Cs) :=
  match ranG P hk orc L f h0 g args with
  | some (v, _, m) => some (v, m.2)
  | none => none
/-- The same, of one run alone: 'cs' are the pairs that must be the same. -/
theorem reckonT_ok {P : Program} (hng : NoNG P) {hk : Hook} (hhk : HookOk P hk) (orc : Orc) (L f : Nat) (h0 : List AO) {g : FuncId} {args : List Value} {v : Value} {cs : Cs} (ha : args.all flat = true) (hv : flat v = true) (h : reckonGC P (guardH hk) orc L f h0 g args = some (v, cs))
    (he : cs.map (·.1) = cs.map (·.2)) (w : World) (hL : Laid h0 w) : Calls P g ⟨args⟩ w fun e w' => e = .returned v ∧ Gr w w' := by
  refine reckonG_any hng hhk orc L f h0 ha hv ?_ w hL
  unfold reckonGC at h
  unfold reckonGL reckonGR
  split at h
  · rename_i v' h' m hr
    cases h
    simp only [he]
  · cases h
theorem reckonX_ok {P : Program} (hng : NoNG P) {hk : Hook} (hhk : HookOk2 P hk) (L f : Nat) (h0 : List AO) {g : FuncId} {args : List Value} {v : Value} (ha : args.all flat = true) (hv : flat v = true) (h : reckonGL P hk noOrc L f h0 g args = reckonGR P hk noOrc L f h0 g args v) (w : World) (hL : Laid h0 w) :
    Calls P g ⟨args⟩ w fun e w' => e = .returned v ∧ Gr w w' := reckonX_any hng hhk noOrc L f h0 ha hv h w hL
/-- Of one run alone, with hooks of any arguments: 'cs' are the pairs that must be the same. -/
theorem reckonXT_ok {P : Program} (hng : NoNG P) {hk : Hook} (hhk : HookOk2 P hk) (orc : Orc) (L f : Nat) (h0 : List AO) {g : FuncId} {args : List Value} {v : Value} {cs : Cs} (ha : args.all flat = true) (hv : flat v = true) (h : reckonGC P hk orc L f h0 g args = some (v, cs))
    (he : cs.map (·.1) = cs.map (·.2)) (w : World) (hL : Laid h0 w) : Calls P g ⟨args⟩ w fun e w' => e = .returned v ∧ Gr w w' := by
  refine reckonX_any hng hhk orc L f h0 ha hv ?_ w hL
  unfold reckonGC at h
  unfold reckonGL reckonGR
  split at h
  · rename_i v' h' m hr
    cases h
    simp only [he]
  · cases h
theorem laid_at {g : Nat} {cs : List Value} {w : World} (h : ∃ t fr, w.heap[g]? = some (.cells ⟨cs⟩ t fr)) : ∃ T tot, w.shape? g = some (T, tot) ∧ cs.length ≤ tot ∧ ∀ (j : Nat) (v : Value), cs[j]? = some v → w.cell? ⟨g, j, none⟩ = some v := by
  obtain ⟨t, fr, hh⟩ := h
  refine ⟨t, cs.length, by simp [World.shape?, hh], Nat.le_refl _, fun j v hv => ?_⟩
  unfold World.cell?
  simp only [hh]
  simpa using hv
/-- One variable, at its place. -/
theorem Laid.one {g0 : Nat} {cs : List Value} {w : World} (hf : cs.all flat = true) (h : ∃ t fr, w.heap[g0]? = some (.cells ⟨cs⟩ t fr)) : Laid (List.replicate g0 dead ++ [⟨true, some GM, cs⟩]) w := by
  intro g o ho hl
  by_cases e : g < g0
  · rw [List.getElem?_append_left (by simpa using e), List.getElem?_replicate, if_pos e] at ho
    cases ho
    cases hl
  · have h2 := (List.getElem?_eq_some_iff.1 ho).1
    simp only [List.length_append, List.length_replicate, List.length_singleton] at h2
    obtain rfl : g = g0 := by omega
    rw [List.getElem?_append_right (by simp)] at ho
    simp only [List.length_replicate, Nat.sub_self, List.getElem?_cons_zero, Option.some.injEq] at ho
    subst ho
    exact ⟨rfl, hf, laid_at h⟩
theorem Laid.nil (w : World) : Laid [] w := fun g o h => by simp at h
theorem Laid.gr {h0 : List AO} {w w' : World} (h : Laid h0 w) (g : Gr w w') : Laid h0 w' := fun i o ho hl =>
  let ⟨a, b, T, tot, hs, hle, hc⟩ := h i o ho hl
  ⟨a, b, T, tot, gr_shape g (shape_cells hs).1 hs, hle, fun j v hv => (gr_cell g (a := ⟨i, j, none⟩) (shape_cells hs).1).trans (hc j v hv)⟩
end Go.Proofs.Ytafegjmaldbbiaa.Ex
end
section
namespace Go.Proofs.Ytafegjmaldbbiaa.Ex
open Go Go.RowKit
def eqM : Value → Value → Bool
  | .agg ⟨a⟩, .agg ⟨b⟩ => eqL a b
  | x, y => eqI x y
theorem eqM_ok {x y : Value} (h : eqM x y = true) : x = y := by
  unfold eqM at h
  split at h
  · rw [eqL_ok h]
  · exact eqI_ok h
def eqML : List Value → List Value → Bool
  | [], [] => true
  | x :: xs, y :: ys => eqM x y && eqML xs ys
  | _, _ => false
theorem eqML_ok : ∀ {xs ys : List Value}, eqML xs ys = true → xs = ys
  | [], [], _ => rfl
  | x :: xs, y :: ys, h => by
    simp only [eqML, Bool.and_eq_true] at h
    rw [eqM_ok h.1, eqML_ok h.2]
  | [], _ :: _, h => by cases h
  | _ :: _, [], h => by cases h
/-- Of one function: arguments, and what it comes to. -/
abbrev Tab := List (List Value × Value)
def tabFind : Tab → List Value → Option Value
  | [], _ => none
  | e :: r, args => if eqML args e.1 then some e.2 else tabFind r args
theorem tabFind_mem : ∀ {t : Tab} {args : List Value} {v : Value}, tabFind t args = some v → (args, v) ∈ t
  | [], _, _, h => by cases h
  | e :: r, args, v, h => by
    simp only [tabFind] at h
    split at h
    · rename_i he
      cases h
      rw [eqML_ok he]
      simp
    · exact List.mem_cons_of_mem _ (tabFind_mem h)
def TabOk (P : Program) (h0 : List AO) (g : FuncId) : Tab → Prop
  | [] => True
  | e :: r => (∀ w, Laid h0 w → Calls P g ⟨e.1⟩ w fun x w' => x = .returned e.2 ∧ Gr w w') ∧ TabOk P h0 g r
theorem TabOk.at {P : Program} {h0 : List AO} {g : FuncId} : ∀ {t : Tab}, TabOk P h0 g t → ∀ e ∈ t, ∀ w, Laid h0 w → Calls P g ⟨e.1⟩ w fun x w' => x = .returned e.2 ∧ Gr w w'
  | [], _, e, he => by cases he
  | a :: r, h, e, he => by
    rcases List.mem_cons.1 he with q | q
    · rw [q]; exact h.1
    · exact h.2.at e q
theorem TabOk.app {P : Program} {h0 : List AO} {g : FuncId} : ∀ {s t : Tab}, TabOk P h0 g s → TabOk P h0 g t → TabOk P h0 g (s ++ t)
  | [], _, _, h => h
  | _ :: _, _, a, h => ⟨a.1, a.2.app h⟩
def memoHook (h0 : List AO) (g : FuncId) (t : Tab) : Hook := fun f args h =>
  if Nat.beq f g then
    match tabFind t args with
    | some v => if hasG h0 h then some (v, []) else none
    | none => none
  else none
theorem memoHook_ok {P : Program} {h0 : List AO} (hf : h0.all (fun o => !o.live || (match o.es with | some e => Nat.beq e GM | none => false) && o.cs.all flat) = true) {g : FuncId} {t : Tab} (ht : TabOk P h0 g t) : HookOk P (memoHook h0 g t) := by
  intro f args h v cs hv _ wb k s w H
  unfold memoHook at hv
  split at hv
  · rename_i hc
    obtain rfl := Nat.eq_of_beq_eq_true hc
    split at hv
    · rename_i v' hm
      split at hv
      · rename_i hg
        cases hv
        exact ht.at _ (tabFind_mem hm) w (H.laid hg hf)
      · cases hv
    · cases hv
  · cases hv
def orHook (a b : Hook) : Hook := fun f args h =>
  match a f args h with
  | some r => some r
  | none => b f args h
theorem orHook_ok {P : Program} {a b : Hook} (ha : HookOk P a) (hb : HookOk P b) : HookOk P (orHook a b) := by
  intro f args h v cs hv
  unfold orHook at hv
  split at hv
  · rename_i r hr
    cases hv
    exact ha f args h v cs hr
  · exact hb f args h v cs hv
/-- A call of no arguments, told by its contract. -/
def oneHook (h0 : List AO) (g : FuncId) (v : Value) : Hook := memoHook h0 g [([], v)]
end Go.Proofs.Ytafegjmaldbbiaa.Ex
end
section
namespace Go.Proofs
open Go.Shelf
def Try.lays105_ren : Go.Shelf.Ren := ⟨fun | 105 => 36 | 212 => 47 | 99 => 48 | 165 => 49 | 166 => 50 | 170 => 51 | 169 => 52 | 263 => 64 | 264 => 65 | 206 => 66 | 240 => 67 | 241 => 68 | 276 => 74 | 277 => 75 | n => n, fun | 9 => 9 | 3 => 3 | 4 => 4 | 20 => 20 | 0 => 0 | 46 => 101 | 109 => 104 | 5 => 5 | 72 => 109 | 76 => 113 | 51 => 129 | 146 => 131 | 53 => 30 | 148 => 133 | 70 => 107 | 37 => 43 | 75 => 112 | 127 => 135 | 164 => 142 | 80 => 115 | n => n, fun | n => n⟩
theorem Try.lays105 : Go.Proofs.Lays.n105 Try.prog Try.lays105_ren := {
  mixed := by kernel_rfl
  f99 := Try.func48.trans (congrArg some (by kernel_rfl))
  f105 := Try.func36.trans (congrArg some (by kernel_rfl))
  f165 := Try.func49.trans (congrArg some (by kernel_rfl))
  f166 := Try.func50.trans (congrArg some (by kernel_rfl))
  f169 := Try.func52.trans (congrArg some (by kernel_rfl))
  f170 := Try.func51.trans (congrArg some (by kernel_rfl))
  f206 := Try.func66.trans (congrArg some (by kernel_rfl))
  f212 := Try.func47.trans (congrArg some (by kernel_rfl))
  f240 := Try.func67.trans (congrArg some (by kernel_rfl))
  f241 := Try.func68.trans (congrArg some (by kernel_rfl))
  f263 := Try.func64.trans (congrArg some (by kernel_rfl))
  f264 := Try.func65.trans (congrArg some (by kernel_rfl))
  f276 := Try.func74.trans (congrArg some (by kernel_rfl))
  f277 := Try.func75.trans (congrArg some (by kernel_rfl))
  t0 := Try.underlying0
  a0 := Try.isAgg0
  z0 := Try.sizeOf0
  v0 := Try.zeroValue0
  t3 := Try.underlying3
  a3 := Try.isAgg3
  z3 := Try.sizeOf3
  v3 := Try.zeroValue3
  t4 := Try.underlying4
  a4 := Try.isAgg4
  z4 := Try.sizeOf4
  v4 := Try.zeroValue4
  t5 := Try.underlying5
  a5 := Try.isAgg5
  z5 := Try.sizeOf5
  v5 := Try.zeroValue5
  t9 := Try.underlying9
  a9 := Try.isAgg9
  z9 := Try.sizeOf9
  v9 := Try.zeroValue9
  t20 := Try.underlying20
  a20 := Try.isAgg20
  z20 := Try.sizeOf20
  v20 := Try.zeroValue20
  t37 := Try.underlying43
  a37 := Try.isAgg43
  z37 := Try.sizeOf43
  v37 := Try.zeroValue43
  t46 := Try.underlying101
  a46 := Try.isAgg101
  z46 := Try.sizeOf101
  v46 := Try.zeroValue101
  t51 := Try.underlying129
  a51 := Try.isAgg129
  z51 := Try.sizeOf129
  v51 := Try.zeroValue129
  t53 := Try.underlying30
  a53 := Try.isAgg30
  z53 := Try.sizeOf30
  v53 := Try.zeroValue30
  t70 := Try.underlying107
  a70 := Try.isAgg107
  z70 := Try.sizeOf107
  v70 := Try.zeroValue107
  t72 := Try.underlying109
  a72 := Try.isAgg109
  z72 := Try.sizeOf109
  v72 := Try.zeroValue109
  t75 := Try.underlying112
  a75 := Try.isAgg112
  z75 := Try.sizeOf112
  v75 := Try.zeroValue112
  t76 := Try.underlying113
  a76 := Try.isAgg113
  z76 := Try.sizeOf113
  v76 := Try.zeroValue113
  t109 := Try.underlying104
  a109 := Try.isAgg104
  z109 := Try.sizeOf104
  v109 := Try.zeroValue104
  t127 := Try.underlying135
  a127 := Try.isAgg135
  z127 := Try.sizeOf135
  v127 := Try.zeroValue135
  t146 := Try.underlying131
  a146 := Try.isAgg131
  z146 := Try.sizeOf131
  v146 := Try.zeroValue131
  t148 := Try.underlying133
  a148 := Try.isAgg133
  z148 := Try.sizeOf133
  v148 := Try.zeroValue133
  t164 := Try.underlying142
  a164 := Try.isAgg142
  z164 := Try.sizeOf142
  v164 := Try.zeroValue142 }
theorem Try.Builder_Extra_105 : Builder.Extra Try.prog Try.lays105_ren := {
  sizeBuilder := by kernel_rfl
  liesBuilder := by kernel_rfl
  t5 := Try.underlying5
  a5 := Try.isAgg5
  z5 := Try.sizeOf5
  v5 := Try.zeroValue5
  infoByte := by kernel_rfl
  cellsByte := by kernel_rfl
  sizeByte := by kernel_rfl
  neB5 := by decide }
open Go.RowKit Go.Lib in
/-- THE MAIN CASE: at least two copies of a string that is not empty. (LAID: no walk: one application.) -/
theorem Try.strings_Repeat_main (s : ByteArray) (c : Nat) (w : World) (hc2 : 2 ≤ c) (hc : c ≤ 9223372036854775807) (hlen : s.size * c ≤ 140737488355328) (h0 : 0 < s.size) :
    Calls Try.prog 36 #[.string s, .int .i64 c] w fun e w' => e = .returned (.string ⟨(Lib.repeatL s.data.toList c).toArray⟩) ∧ Below w.heap.size w w' := Any.strings_Repeat_main Try.lays105 Try.Builder_Extra_105 s c w hc2 hc hlen h0
open Go.RowKit Go.Lib in
theorem Try.strings_Repeat_zero (s : ByteArray) (w : World) :
    Calls Try.prog 36 #[.string s, .int .i64 0] w fun e w' => e = .returned (.string ⟨#[]⟩) ∧ w' = w := Any.strings_Repeat_zero Try.lays105 s w
open Go.RowKit Go.Lib in
theorem Try.strings_Repeat_one (s : ByteArray) (w : World) :
    Calls Try.prog 36 #[.string s, .int .i64 1] w fun e w' => e = .returned (.string s) ∧ w' = w := Any.strings_Repeat_one Try.lays105 s w
open Go.RowKit Go.Lib in
/-- Copies of the empty string. (LAID: no walk: one application.) -/
theorem Try.strings_Repeat_empty (s : ByteArray) (c : Nat) (w : World) (hc2 : 2 ≤ c) (hc : c ≤ 9223372036854775807) (h0 : s.size = 0) :
    Calls Try.prog 36 #[.string s, .int .i64 c] w fun e w' => e = .returned (.string ⟨#[]⟩) ∧ w' = w := Any.strings_Repeat_empty Try.lays105 s c w hc2 hc h0
open Go.RowKit Go.Lib in
/-- count < 0: "It panics if count is negative". (LAID: no walk: one application.) -/
theorem Try.strings_Repeat_negative (s : ByteArray) (c : Int) (w : World) (hc : c < 0) :
    Calls Try.prog 36 #[.string s, .int .i64 c] w fun e w' => e = .panicked [{ v := repeatPanic Try.lays105_ren "strings: negative Repeat count", recovered := false }] ∧ w' = w := Any.strings_Repeat_negative Try.lays105 s c w hc
open Go.RowKit Go.Lib in
/-- len(s) * count is no int: ".. or if the result of (len(s) * count) overflows". (LAID: no walk: one application.) -/
theorem Try.strings_Repeat_overflow (s : ByteArray) (c : Nat) (w : World) (hc : c ≤ 9223372036854775807) (hs : s.size ≤ 9223372036854775807) (hbig : 9223372036854775807 < s.size * c) :
    Calls Try.prog 36 #[.string s, .int .i64 c] w fun e w' => e = .panicked [{ v := repeatPanic Try.lays105_ren "strings: Repeat output length overflow", recovered := false }] ∧ w' = w := Any.strings_Repeat_overflow Try.lays105 s c w hc hs hbig
open Go.RowKit Go.Lib in
/-- **strings.Repeat: count ≥ 0, the result within one allocation: count copies of s.** (LAID: no walk: one application.) -/
theorem Try.strings_Repeat (s : ByteArray) (c : Nat) (w : World) (hc : c ≤ 9223372036854775807) (hlen : s.size * c ≤ 140737488355328) :
    Calls Try.prog 36 #[.string s, .int .i64 c] w fun e w' => e = .returned (.string ⟨(Lib.repeatL s.data.toList c).toArray⟩) ∧ Below w.heap.size w w' := Any.strings_Repeat Try.lays105 Try.Builder_Extra_105 s c w hc hlen
end Go.Proofs
end
section
namespace Go.Proofs.Ytafegjmaldbbiaa.Ex
open Go Go.RowKit

theorem Gr.of_below {w w' : World} (h : Below w.heap.size w w') : Gr w w' := ⟨⟨h.os, h.output⟩, h.block, h.size⟩
def repHook : Hook := fun f args _ =>
  if Nat.beq f 36 then
    match args with
    | [.string s, .int .i64 n] => some (.string ⟨(Lib.repeatL s.data.toList n.toNat).toArray⟩, [(b2i (decide (0 ≤ n) && decide (n ≤ 100000) && decide (s.size ≤ 100000)), 1)])
    | _ => none
  else none
theorem repHook_ok : HookOk Try.prog repHook := by
  intro f args h0 v cs h hcs _ _ _ w _
  unfold repHook at h
  split at h
  · rename_i hf
    obtain rfl := Nat.eq_of_beq_eq_true hf
    split at h
    · rename_i s n
      cases h
      have hc : (decide (0 ≤ n) && decide (n ≤ 100000) && decide (s.size ≤ 100000)) = true := b2i_inj (hcs _ (List.mem_singleton.2 rfl))
      simp only [Bool.and_eq_true, decide_eq_true_eq] at hc
      have e : n = ((n.toNat : Nat) : Int) := by omega
      have hmul : s.size * n.toNat ≤ 100000 * 100000 := Nat.mul_le_mul hc.2 (by omega)
      have := Try.strings_Repeat s n.toNat w (by omega) (by omega)
      rw [← e] at this
      exact this.mono fun e w' h => ⟨h.1, Gr.of_below h.2⟩
    · cases h
  · cases h
end Go.Proofs.Ytafegjmaldbbiaa.Ex
end
section
namespace Go.Proofs.Ytafegjmaldbbiaa.Ex
open Go Go.RowKit
set_option maxRecDepth 1000000 in
theorem noNG : NoNG Try.prog := noNG_ok (by kernel_rfl)
end Go.Proofs.Ytafegjmaldbbiaa.Ex
end
section
namespace Go.Proofs.Ytafegjmaldbbiaa.Ex
open Go Go.RowKit
set_option maxHeartbeats 0 in
set_option maxRecDepth 1000000 in
theorem kept_any (w : World) : Calls Try.prog 6 #[] w fun e w' => e = .returned (.bool true) ∧ Gr w w' :=
  reckonH_ok noNG repHook_ok 100000 300 rfl rfl (by kernel_rfl) w
def keptHook : Hook := fun f args _ => if Nat.beq f 6 && args.isEmpty then some (.bool true, []) else none
theorem keptHook_ok : HookOk Try.prog keptHook := by
  intro f args h v cs hv _ wb k s w _
  unfold keptHook at hv
  split at hv
  · rename_i hc
    cases hv
    simp only [Bool.and_eq_true] at hc
    obtain rfl := Nat.eq_of_beq_eq_true hc.1
    obtain rfl : args = [] := by simpa using hc.2
    exact kept_any w
  · cases hv
end Go.Proofs.Ytafegjmaldbbiaa.Ex
end
section
namespace Go.Proofs.Ytafegjmaldbbiaa.Ex
open Go Go.RowKit

/-- What the kernel reckons of a call, with hooks that may lay memory. -/
noncomputable def ran3 (P : Program) (hk : Hook3) (orc : Orc) (L f : Nat) (h0 : List AO) (g : FuncId) (args : List Value) : Option (Value × List AO × Mk) :=
  match callA P ⟨ex P (aOp P) (drawE P) hk orc accQ L f, hk, fun _ _ => none, accQ⟩ g args h0 with
  | some (v, h, m) => if quietB h0.length m.1 then some (v, h, m) else none
  | none => none
noncomputable def reckon3L (P : Program) (hk : Hook3) (orc : Orc) (L f : Nat) (h0 : List AO) (g : FuncId) (args : List Value) : Option (Value × List Int) :=
  match ran3 P hk orc L f h0 g args with
  | some (v, _, m) => some (v, m.2.map (·.1))
  | none => none
noncomputable def reckon3R (P : Program) (hk : Hook3) (orc : Orc) (L f : Nat) (h0 : List AO) (g : FuncId) (args : List Value) (v : Value) : Option (Value × List Int) :=
  match ran3 P hk orc L f h0 g args with
  | some (_, _, m) => some (v, m.2.map (·.2))
  | none => some (v, [])
theorem reckon3_any {P : Program} (hng : NoNG P) {hk : Hook3} (hhk : HookOk3 P hk) (orc : Orc) (L f : Nat) (h0 : List AO) {g : FuncId} {args : List Value} {v : Value} (ha : args.all flat = true) (hv : flat v = true) (h : reckon3L P hk orc L f h0 g args = reckon3R P hk orc L f h0 g args v) (w : World) (hL : Laid h0 w) :
    Calls P g ⟨args⟩ w fun e w' => e = .returned v ∧ Gr w w' := by
  unfold reckon3L reckon3R ran3 at h
  cases hc : callA P ⟨ex P (aOp P) (drawE P) hk orc accQ L f, hk, fun _ _ => none, accQ⟩ g args h0 with
  | none => rw [hc] at h; cases h
  | some r =>
    obtain ⟨v', h', m⟩ := r
    rw [hc] at h
    simp only at h
    split at h
    · rename_i r2 v2 h2 m2 hm2
      split at hm2
      · rename_i hq
        cases hm2
        simp only [Option.some.injEq, Prod.mk.injEq] at h
        obtain ⟨rfl, h3⟩ := h
        refine (callA_ok (ex_ok accQ_eq hng (aOp_ok P hng) (drawE_ok P) (drawE_low P) hhk L f _) hc (wb := w) (k := h0.length) (s := placeG h0 w) ⟨quietB_ok hq, map_same h3⟩ (LR.ofFlat ha) (HR.start hL)).mono ?_
        rintro e w' ⟨s', u, rfl, _, H, hvr⟩
        rw [hvr.eq_of_flat hv]
        exact ⟨rfl, H.grown.gr⟩
      · cases hm2
    · cases h
theorem reckon3_ok {P : Program} (hng : NoNG P) {hk : Hook3} (hhk : HookOk3 P hk) (orc : Orc) (L f : Nat) (h0 : List AO) {g : FuncId} {args : List Value} {v : Value} {ls rs : List Int} (ha : args.all flat = true) (hv : flat v = true) (h1 : reckon3L P hk orc L f h0 g args = some (v, ls))
    (h2 : reckon3R P hk orc L f h0 g args v = some (v, rs)) (he : ls = rs) (w : World) (hL : Laid h0 w) : Calls P g ⟨args⟩ w fun e w' => e = .returned v ∧ Gr w w' :=
  reckon3_any hng hhk orc L f h0 ha hv (h1.trans (he ▸ h2.symm)) w hL
/-- The blocks that a call of flat arguments lays, where so many blocks are told already: its value, they, and what must be the same. -/
noncomputable def lays (P : Program) (hk : Hook3) (orc : Orc) (L f : Nat) (q : Nat) (g : FuncId) (args : List Value) : Option (Value × List AO × Cs) :=
  match callA P ⟨ex P (aOp P) (drawE P) hk orc accQ L f, hk, fun _ _ => none, accQ⟩ g args (List.replicate q dead) with
  | some (v, h, m) =>
    if quietB q m.1 && (refF (fun x => decide (q ≤ x) && decide (x < q + (h.drop q).length)) 6 v && (h.drop q).all (refO fun x => decide (q ≤ x) && decide (x < q + (h.drop q).length))) then some (v, h.drop q, m.2) else none
  | none => none
theorem layL_end {h new : List AO} : layL (h ++ List.replicate new.length dead) h.length new = h ++ new := by
  unfold layL
  rw [List.take_left', List.drop_of_length_le (by simp)]
  · simp
  · rfl
theorem lays_ok {P : Program} (hng : NoNG P) {hk : Hook3} (hhk : HookOk3 P hk) {orc : Orc} {L f q : Nat} {g : FuncId} {args : List Value} {v : Value} {new : List AO} {cs : Cs} (ha : args.all flat = true) (hr : lays P hk orc L f q g args = some (v, new, cs)) (hc : ∀ c ∈ cs, c.1 = c.2)
    {wb : Wb} {k : Nat} {s : Ren} {h : List AO} {w : World} (hq : h.length = q) (H : HR wb k s h w) : Calls P g ⟨args⟩ w (CallPost wb k s v (h ++ new)) := by
  unfold lays at hr
  split at hr
  · rename_i v1 h1 m hca
    split at hr
    · rename_i hcond
      cases hr
      simp only [Bool.and_eq_true] at hcond
      obtain ⟨hq3, hrv, hro⟩ := hcond
      have HP := ((HR.init w).pad q).here
      rw [List.nil_append, List.length_replicate] at HP
      refine (callA_ok (ex_ok accQ_eq hng (aOp_ok P hng) (drawE_ok P) (drawE_low P) hhk L f _) hca (wb := w) (k := q) ⟨quietB_ok hq3, hc⟩ (LR.ofFlat ha) HP).mono ?_
      rintro e w' ⟨s', v', rfl, _, H', hvr⟩
      have HD := H.pad (h1.drop q).length
      have hr1 : (h1.drop q).all (refO fun x => (fun _ => false) x || (decide (q ≤ x) && decide (x < q + (h1.drop q).length))) = true := by simpa using hro
      obtain ⟨H2, hle2, hok⟩ := HD.layNew (q := q) (bs := h1.drop q) (by simp only [List.length_append, List.length_replicate]; omega) (by have := H.kle; omega) (fun x hx1 _ => H.dom x (by omega))
        H' (fun x o ho => by rw [List.getElem?_drop] at ho; exact ho) (old := fun _ => false) (fun x hx => by cases hx) (fun x hx => by cases hx) hr1
      subst hq
      rw [layL_end] at H2
      refine ⟨_, v', rfl, hle2, H2, hvr.refs hok 6 ?_⟩
      simpa using hrv
    · cases hr
  · cases hr
/-- A table of calls that lay memory: by function, arguments and how many blocks are told already. -/
structure LayCall where
  f : FuncId
  args : List Value
  q : Nat
  v : Value
  new : List AO
def layHook (same : List Value → List Value → Bool) : List LayCall → Hook3
  | [] => fun _ _ _ => none
  | e :: l => fun f args h => if Nat.beq f e.f && (Nat.beq h.length e.q && same args e.args) && plainN e.new then some (e.v, e.new, []) else layHook same l f args h
/-- Its call does that, wherever so many blocks are told. -/
def LayOk (P : Program) (e : LayCall) : Prop :=
  ∀ (wb : Wb) (k : Nat) (s : Ren) (h : List AO) (w : World), h.length = e.q → HR wb k s h w → Calls P e.f ⟨e.args⟩ w (CallPost wb k s e.v (h ++ e.new))
theorem layHook_ok {P : Program} {same : List Value → List Value → Bool} (hs : ∀ a b, same a b = true → a = b) : ∀ {t : List LayCall}, (∀ e ∈ t, e.args.all flat = true ∧ LayOk P e) → HookOk3 P (layHook same t)
  | [], _ => by intro f args h v new cs hv; cases hv
  | e :: t, ht => by
    intro f args h v new cs hv hc wb k s w args' hb H ha
    unfold layHook at hv
    split at hv
    · rename_i hcond
      simp only [Bool.and_eq_true] at hcond
      obtain ⟨⟨h1, h2, h3⟩, hpl⟩ := hcond
      cases hv
      rw [hookH_plain hpl]
      obtain rfl := Nat.eq_of_beq_eq_true h1
      obtain rfl := hs _ _ h3
      obtain ⟨hfl, hok⟩ := ht e (List.mem_cons_self ..)
      rw [ha.eq_of_flat hfl]
      exact hok wb k s h w (Nat.eq_of_beq_eq_true h2) H
    · exact layHook_ok hs (fun e he => ht e (List.mem_cons_of_mem _ he)) f args h v new cs hv hc wb k s w args' hb H ha
def orHook3 (a b : Hook3) : Hook3 := fun f args h =>
  match a f args h with
  | some r => some r
  | none => b f args h
theorem orHook3_ok {P : Program} {a b : Hook3} (ha : HookOk3 P a) (hb : HookOk3 P b) : HookOk3 P (orHook3 a b) := by
  intro f args h v new cs hv
  unfold orHook3 at hv
  split at hv
  · rename_i r hr
    cases hv
    exact ha f args h v new cs hr
  · exact hb f args h v new cs hv
end Go.Proofs.Ytafegjmaldbbiaa.Ex
end
section
namespace Go.Proofs.Ytafegjmaldbbiaa.Ex
open Go Go.RowKit

/-- A memory has, at the same places, what a smaller one tells of. -/
def eqEs : Option Nat → Option Nat → Bool
  | none, none => true
  | some a, some b => Nat.beq a b
  | _, _ => false
theorem eqEs_ok {a b : Option Nat} (h : eqEs a b = true) : a = b := by
  cases a <;> cases b <;> first | rfl | (cases h; done) | (rw [Nat.eq_of_beq_eq_true h])
def subH : List AO → List AO → Bool
  | [], _ => true
  | _ :: _, [] => false
  | o :: l, p :: h => (!o.live || (p.live && eqEs p.es o.es && eqL p.cs o.cs)) && subH l h
theorem subH_at : ∀ {h0 h : List AO}, subH h0 h = true → ∀ (g : Nat) (o : AO), h0[g]? = some o → o.live = true → h[g]? = some o
  | [], _, _, g, o, ho, _ => by simp at ho
  | _ :: _, [], h, _, _, _, _ => by cases h
  | o :: l, p :: h, hh, g, q, hq, hl => by
    simp only [subH, Bool.and_eq_true] at hh
    cases g with
    | succ g => simpa using subH_at hh.2 g q (by simpa using hq) hl
    | zero =>
      simp at hq
      subst hq
      have h1 := hh.1
      simp only [hl, Bool.not_true, Bool.false_or, Bool.and_eq_true] at h1
      have e1 := eqEs_ok h1.1.2
      have e2 := eqL_ok h1.2
      obtain ⟨pl, pe, pc⟩ := p
      obtain ⟨ol, oe, oc⟩ := o
      simp only at h1 hl e1 e2
      rw [List.getElem?_cons_zero, hl, h1.1.1, e1, e2]
theorem HR.sub {wb : Wb} {k : Nat} {s : Ren} {h h0 : List AO} {w : World} (H : HR wb k s h w) (hs : subH h0 h = true) (hl : h.length = h0.length) : HR wb k s h0 w :=
  ⟨H.grown, by rw [← hl]; exact H.kle, fun i hi => H.dom i (by rw [hl]; exact hi), H.plc, fun i o ho hv => H.obj i o (subH_at hs i o ho hv) hv,
    fun i j a c p q hi hj ha hc => H.sep i j a c p q (subH_at hs i a hi ha) (subH_at hs j c hj hc) ha hc, H.gl⟩
/-- Of some blocks those that are kept; others are given up. -/
def thinL (keep : Nat → Bool) : Nat → List AO → List AO
  | _, [] => []
  | i, o :: l => (if keep i then o else dead) :: thinL keep (i + 1) l
theorem thinL_length (keep : Nat → Bool) : ∀ (i : Nat) (l : List AO), (thinL keep i l).length = l.length
  | _, [] => rfl
  | i, o :: l => by simp [thinL, thinL_length keep (i + 1) l]
theorem thinL_at {keep : Nat → Bool} : ∀ {i : Nat} {l : List AO} {j : Nat} {o : AO}, (thinL keep i l)[j]? = some o → o.live = true → l[j]? = some o
  | _, [], _, _, h, _ => by simp [thinL] at h
  | i, q :: l, 0, o, h, hl => by
    simp only [thinL, List.getElem?_cons_zero, Option.some.injEq] at h
    split at h
    · subst h; rfl
    · subst h; cases hl
  | i, q :: l, j + 1, o, h, hl => by
    simp only [thinL, List.getElem?_cons_succ] at h
    simpa using thinL_at h hl
theorem HR.less {wb : Wb} {k : Nat} {s : Ren} {h h0 : List AO} {w : World} (H : HR wb k s h w) (hs : ∀ (i : Nat) (o : AO), h0[i]? = some o → o.live = true → h[i]? = some o) (hl : h.length = h0.length) : HR wb k s h0 w :=
  ⟨H.grown, by rw [← hl]; exact H.kle, fun i hi => H.dom i (by rw [hl]; exact hi), H.plc, fun i o ho hv => H.obj i o (hs i o ho hv) hv,
    fun i j a c p q hi hj ha hc => H.sep i j a c p q (hs i a hi ha) (hs j c hj hc) ha hc, H.gl⟩
/-- The blocks that a call lays behind those of a memory: its value, those of them that are kept, and what must be the same. -/
noncomputable def laysS (P : Program) (hk : Hook3) (orc : Orc) (L f : Nat) (keep : Nat → Bool) (h0 : List AO) (g : FuncId) (args : List Value) : Option (Value × List AO × Cs) :=
  match callA P ⟨ex P (aOp P) (drawE P) hk orc accQ L f, hk, fun _ _ => none, accQ⟩ g args h0 with
  | some (v, h, m) =>
    if quietB h0.length m.1 && (Nat.ble h0.length h.length && (refF (fun x => decide (h0.length ≤ x) && decide (x < h0.length + (thinL keep 0 (h.drop h0.length)).length)) 6 v && (thinL keep 0 (h.drop h0.length)).all (refO fun x => decide (h0.length ≤ x) && decide (x < h0.length + (thinL keep 0 (h.drop h0.length)).length)))) then some (v, thinL keep 0 (h.drop h0.length), m.2) else none
  | none => none
theorem laysS_ok {P : Program} (hng : NoNG P) {hk : Hook3} (hhk : HookOk3 P hk) {orc : Orc} {L f : Nat} {keep : Nat → Bool} {h0 : List AO} {g : FuncId} {args args' : List Value} {v : Value} {new : List AO} {cs : Cs} (hr : laysS P hk orc L f keep h0 g args = some (v, new, cs)) (hc : ∀ c ∈ cs, c.1 = c.2)
    {wb : Wb} {k : Nat} {s : Ren} {h : List AO} {w : World} (hq : h.length = h0.length) (hs : subH h0 h = true) (H : HR wb k s h w) (ha : LR s args args') : Calls P g ⟨args'⟩ w (CallPost wb k s v (h ++ new)) := by
  unfold laysS at hr
  split at hr
  · rename_i v1 h1 m hca
    split at hr
    · rename_i hcond
      simp only [Option.some.injEq, Prod.mk.injEq] at hr
      obtain ⟨rfl, hnew, rfl⟩ := hr
      simp only [Bool.and_eq_true] at hcond
      obtain ⟨hq3, hq4, hrv, hro⟩ := hcond
      have hge := Nat.le_of_ble_eq_true hq4
      have hnl : new.length = (h1.drop h0.length).length := by rw [← hnew, thinL_length]
      rw [hnew] at hrv hro
      have HP := (H.sub hs hq).here
      refine (callA_ok (ex_ok accQ_eq hng (aOp_ok P hng) (drawE_ok P) (drawE_low P) hhk L f _) hca (wb := w) (k := h0.length) ⟨quietB_ok hq3, hc⟩ ha HP).mono ?_
      rintro e w' ⟨s', v', rfl, _, H1, hvr⟩
      have H' : HR w h0.length s' (h1.take h0.length ++ new) w' := by
        refine H1.less (fun i o ho hl => ?_) (by rw [List.length_append, List.length_take, hnl, List.length_drop]; omega)
        by_cases hi : i < h0.length
        · rw [List.getElem?_append_left (by rw [List.length_take]; omega), List.getElem?_take, if_pos hi] at ho
          exact ho
        · rw [List.getElem?_append_right (by rw [List.length_take]; omega), List.length_take, Nat.min_eq_left hge, ← hnew] at ho
          have := thinL_at ho hl
          rw [List.getElem?_drop] at this
          rw [← this]
          congr 1
          omega
      have HD := H.pad new.length
      have hr1 : new.all (refO fun x => (fun _ => false) x || (decide (h0.length ≤ x) && decide (x < h0.length + new.length))) = true := by simpa using hro
      obtain ⟨H2, hle2, hok⟩ := HD.layNew (q := h0.length) (bs := new) (by simp only [List.length_append, List.length_replicate]; omega) (by have := H.kle; omega) (fun x hx1 _ => H.dom x (by omega))
        H' (fun x o ho => by
          rw [List.getElem?_append_right (by rw [List.length_take]; omega), List.length_take, Nat.min_eq_left hge, Nat.add_sub_cancel_left]
          exact ho) (old := fun _ => false) (fun x hx => by cases hx) (fun x hx => by cases hx) hr1
      rw [← hq] at hle2 hok hrv
      rw [← hq, layL_end] at H2
      exact ⟨_, v', rfl, hle2, H2, hvr.refs hok 6 (by simpa using hrv)⟩
    · cases hr
  · cases hr
/-- A table of such calls: by function, arguments and the memory that it asks for. -/
structure LayS where
  f : FuncId
  args : List Value
  h0 : List AO
  v : Value
  new : List AO
def laySHook : List LayS → Hook3
  | [] => fun _ _ _ => none
  | e :: l => fun f args h => if Nat.beq f e.f && (Nat.beq h.length e.h0.length && (eqML args e.args && subH e.h0 h)) && plainN e.new then some (e.v, e.new, []) else laySHook l f args h
def LaySOk (P : Program) (e : LayS) : Prop :=
  ∀ (wb : Wb) (k : Nat) (s : Ren) (h : List AO) (w : World) (args' : List Value), h.length = e.h0.length → subH e.h0 h = true → HR wb k s h w → LR s e.args args' → Calls P e.f ⟨args'⟩ w (CallPost wb k s e.v (h ++ e.new))
theorem laySHook_ok {P : Program} : ∀ {t : List LayS}, (∀ e ∈ t, LaySOk P e) → HookOk3 P (laySHook t)
  | [], _ => by intro f args h v new cs hv; cases hv
  | e :: t, ht => by
    intro f args h v new cs hv hc wb k s w args' hb H ha
    unfold laySHook at hv
    split at hv
    · rename_i hcond
      simp only [Bool.and_eq_true] at hcond
      obtain ⟨⟨h1, h2, h3, h4⟩, hpl⟩ := hcond
      cases hv
      rw [hookH_plain hpl]
      obtain rfl := Nat.eq_of_beq_eq_true h1
      rw [eqML_ok h3] at ha
      exact ht e (List.mem_cons_self ..) wb k s h w args' (Nat.eq_of_beq_eq_true h2) h4 H ha
    · exact laySHook_ok (fun e he => ht e (List.mem_cons_of_mem _ he)) f args h v new cs hv hc wb k s w args' hb H ha
theorem layS_mk {P : Program} (hng : NoNG P) {hk : Hook3} (hhk : HookOk3 P hk) (keep : Nat → Bool) (e : LayS) {cs : Cs} (hr : laysS P hk noOrc 100000 300 keep e.h0 e.f e.args = some (e.v, e.new, cs)) (hc : cs.map (·.1) = cs.map (·.2)) : LaySOk P e :=
  fun _ _ _ _ _ _ hq hs H ha => laysS_ok hng hhk hr (map_same hc) hq hs H ha
end Go.Proofs.Ytafegjmaldbbiaa.Ex
end
section
namespace Go.Proofs.Ytafegjmaldbbiaa.Ex
open Go Go.RowKit

def iterB (body : St → Option (Exit × St)) : Nat → St → Option St
  | 0, x => some x
  | n + 1, x =>
    match body x with
    | some (.normal, x') => iterB body n x'
    | _ => none
section
variable {P : Program}
theorem iterB_low {body : St → Option (Exit × St)} {k : Nat} (hl : ∀ (x x' : St) (e : Exit), body x = some (e, x') → Bnd k x'.m → Bnd k x.m) :
    ∀ (n : Nat) (x x' : St), iterB body n x = some x' → Bnd k x'.m → Bnd k x.m
  | 0, x, x', hr, hm => by simp [iterB] at hr; subst hr; exact hm
  | n + 1, x, x', hr, hm => by
    simp only [iterB] at hr
    split at hr
    · rename_i x1 h1
      exact hl x x1 .normal h1 (iterB_low hl n x1 x' hr hm)
    · cases hr
theorem iterB_ok {body : St → Option (Exit × St)} {c : Code}
    (hb : ∀ (wb : Wb) (k : Nat) (s : Ren) (x x' : St) (e : Exit) (a : Act) (w : World), body x = some (e, x') → Bnd k x'.m → SR wb k s x a w → c.wp P (Post wb k s x' e) a w)
    (wb : Wb) (k : Nat) (hl : ∀ (x x' : St) (e : Exit), body x = some (e, x') → Bnd k x'.m → Bnd k x.m) :
    ∀ (n : Nat) (x x' : St), iterB body n x = some x' → Bnd k x'.m → ∀ (s : Ren) (a : Act) (w : World), SR wb k s x a w → ∀ (N : Nat) (Q : Exit → Act → World → Prop),
      (∀ s' a' w', Le s s' → SR wb k s' x' a' w' → Code.rounds P c Q N a' w') → Code.rounds P c Q (n + N) a w
  | 0, x, x', hr, hm => by
    simp [iterB] at hr
    subst hr
    intro s a w H N Q hQ
    rw [Nat.zero_add]
    exact hQ s a w (Le.refl s) H
  | n + 1, x, x', hr, hm => by
    simp only [iterB] at hr
    split at hr
    · rename_i x1 h1
      have g1 := iterB_low hl n x1 x' hr hm
      intro s a w H N Q hQ
      rw [show n + 1 + N = (n + N) + 1 by omega, rounds_succ]
      refine Code.wp_mono ?_ (hb wb k s x x1 .normal a w h1 g1 H)
      rintro e' a' w' ⟨rfl, s', hle, H'⟩
      exact iterB_ok hb wb k hl n x1 x' hr hm s' a' w' H' N Q fun s'' a'' w'' hle' H'' => hQ s'' a'' w'' (hle.trans hle') H''
    · cases hr
theorem rounds_le {c : Code} {wb : Wb} {k : Nat} {s t : Ren} (h : Le s t) {x : St} {e : Exit} : ∀ (n : Nat) (a : Act) (w : World), Code.rounds P c (Post wb k t x e) n a w → Code.rounds P c (Post wb k s x e) n a w := by
  intro n
  induction n with
  | zero => intro a w h; exact h
  | succ n ih =>
    intro a w h0
    rw [rounds_succ] at h0 ⊢
    refine Code.wp_mono (fun e' a' w' hp => ?_) h0
    cases e' <;> first | exact ih _ _ hp | exact post_le h hp
/-- So many rounds lead from a state to another one. -/
def Hop (P : Program) (c : Code) (n : Nat) (t : List Value) (h : List AO) (t' : List Value) (h' : List AO) (mE : Mk) : Prop :=
  ∀ (wb : Wb) (k : Nat), Bnd k mE → ∀ (s : Ren) (m : Mk) (a : Act) (w : World), SR wb k s ⟨t, h, m⟩ a w → ∀ (N : Nat) (Q : Exit → Act → World → Prop),
    (∀ s' a' w', Le s s' → SR wb k s' ⟨t', h', m⟩ a' w' → Code.rounds P c Q N a' w') → Code.rounds P c Q (n + N) a w
/-- Within so many rounds the loop ends. -/
def Stop (P : Program) (c : Code) (n : Nat) (t : List Value) (h : List AO) (e : Exit) (t' : List Value) (h' : List AO) (mE : Mk) : Prop :=
  ∀ (wb : Wb) (k : Nat), Bnd k mE → ∀ (s : Ren) (m : Mk) (a : Act) (w : World), SR wb k s ⟨t, h, m⟩ a w → ∀ (m' : Mk), Code.rounds P c (Post wb k s ⟨t', h', m'⟩ e) n a w
noncomputable def bodyE (P : Program) (hk : Hook3) (orc : Orc) (fid : FuncId) (c : Code) : St → Option (Exit × St) := exG P (aOp P) (drawE P) hk orc accQ noLoop 100000 300 fid c
theorem bodyE_ok (hng : NoNG P) {hk : Hook3} (hhk : HookOk3 P hk) (orc : Orc) (fid : FuncId) (c : Code) (wb : Wb) (k : Nat) (s : Ren) (x x' : St) (e : Exit) (a : Act) (w : World) (h : bodyE P hk orc fid c x = some (e, x')) (hm : Bnd k x'.m) (H : SR wb k s x a w) : c.wp P (Post wb k s x' e) a w :=
  exG_run accQ_eq hng (aOp_ok P hng) (drawE_ok P) (drawE_low P) hhk noLoop_low (noLoop_ok P) 100000 300 wb k s fid c x x' e a w (fun c' _ x x' e h => by cases h) h hm H
theorem bodyE_low {hk : Hook3} (orc : Orc) (fid : FuncId) (c : Code) (k : Nat) (x x' : St) (e : Exit) (h : bodyE P hk orc fid c x = some (e, x')) (hm : Bnd k x'.m) : Bnd k x.m :=
  exG_low (drawE_low P) noLoop_low 100000 k 300 fid c x x' e h hm
theorem hop_ok (hng : NoNG P) {hk : Hook3} (hhk : HookOk3 P hk) {orc : Orc} {fid : FuncId} {c : Code} {n : Nat} {t t' : List Value} {h h' : List AO} {mE : Mk} (hr : iterB (bodyE P hk orc fid c) n ⟨t, h, (none, [])⟩ = some ⟨t', h', mE⟩) : Hop P c n t h t' h' mE := by
  intro wb k hm s m a w H N Q hQ
  exact iterB_ok (bodyE_ok hng hhk orc fid c) wb k (bodyE_low orc fid c k) n ⟨t, h, (none, [])⟩ ⟨t', h', mE⟩ hr hm s a w ⟨H.t, H.d, H.h⟩ N Q fun s' a' w' hle H' => hQ s' a' w' hle ⟨H'.t, H'.d, H'.h⟩
theorem stop_ok (hng : NoNG P) {hk : Hook3} (hhk : HookOk3 P hk) {orc : Orc} {fid : FuncId} {c : Code} {n : Nat} {t t' : List Value} {h h' : List AO} {e : Exit} {mE : Mk} (hr : loopN (bodyE P hk orc fid c) n ⟨t, h, (none, [])⟩ = some (e, ⟨t', h', mE⟩)) : Stop P c n t h e t' h' mE := by
  intro wb k hm s m a w H m'
  have h1 := loopN_ok (bodyE_ok hng hhk orc fid c) wb k (bodyE_low orc fid c k) n ⟨t, h, (none, [])⟩ ⟨t', h', mE⟩ e hr hm s a w ⟨H.t, H.d, H.h⟩
  have mono : ∀ (n : Nat) (a : Act) (w : World), Code.rounds P c (Post wb k s ⟨t', h', mE⟩ e) n a w → Code.rounds P c (Post wb k s ⟨t', h', m'⟩ e) n a w := by
    intro n
    induction n with
    | zero => intro a w h; exact h
    | succ n ih =>
      intro a w h0
      rw [rounds_succ] at h0 ⊢
      refine Code.wp_mono (fun e' a' w' hp => ?_) h0
      cases e' <;> first | exact ih _ _ hp | exact ⟨hp.1, let ⟨s', h1, h2⟩ := hp.2; ⟨s', h1, ⟨h2.t, h2.d, h2.h⟩⟩⟩
  exact mono n a w h1
theorem Hop.stop {c : Code} {n N : Nat} {t t1 t2 : List Value} {h h1 h2 : List AO} {e : Exit} {m1 m2 : Mk} (a : Hop P c n t h t1 h1 m1) (b : Stop P c N t1 h1 e t2 h2 m2) : Stop P c (n + N) t h e t2 h2 (low m1 m2) := by
  intro wb k hm s m act w H m'
  refine a wb k (bnd_low hm).1 s m act w H N _ fun s' a' w' hle H' => ?_
  exact rounds_le hle N a' w' (b wb k (bnd_low hm).2 s' m a' w' H' m')
/-- A loop, from a state on to its end. -/
structure LoopT where
  f : FuncId
  t : List Value
  h : List AO
  e : Exit
  t' : List Value
  h' : List AO
  m : Mk
def eqAll (p : Value → Value → Bool) : List Value → List Value → Bool
  | [], [] => true
  | x :: xs, y :: ys => p x y && eqAll p xs ys
  | _, _ => false
theorem eqAll_ok {p : Value → Value → Bool} (hp : ∀ x y, p x y = true → x = y) : ∀ {xs ys : List Value}, eqAll p xs ys = true → xs = ys
  | [], [], _ => rfl
  | x :: xs, y :: ys, h => by
    simp only [eqAll, Bool.and_eq_true] at h
    rw [hp x y h.1, eqAll_ok hp h.2]
  | [], _ :: _, h => by cases h
  | _ :: _, [], h => by cases h
def eqD2 : Nat → Value → Value → Bool
  | 0, _, _ => false
  | n + 1, .agg ⟨a⟩, .agg ⟨b⟩ => eqAll (eqD2 n) a b
  | n + 1, .tuple ⟨a⟩, .tuple ⟨b⟩ => eqAll (eqD2 n) a b
  | _ + 1, x, y => eqI x y
theorem eqD2_ok : ∀ (n : Nat) (x y : Value), eqD2 n x y = true → x = y
  | 0, x, y, h => by simp [eqD2] at h
  | n + 1, x, y, h => by
    unfold eqD2 at h
    split at h
    · cases ‹_ + 1 = 0›
    · cases ‹_ + 1 = _ + 1›; rw [eqAll_ok (eqD2_ok _) h]
    · cases ‹_ + 1 = _ + 1›; rw [eqAll_ok (eqD2_ok _) h]
    · exact eqI_ok h
def eqHp : List AO → List AO → Bool
  | [], [] => true
  | o :: l, p :: h => (o.live == p.live && (eqEs o.es p.es && eqAll (eqD2 4) o.cs p.cs)) && eqHp l h
  | _, _ => false
theorem eqHp_ok : ∀ {l h : List AO}, eqHp l h = true → l = h
  | [], [], _ => rfl
  | o :: l, p :: h, hh => by
    simp only [eqHp, Bool.and_eq_true] at hh
    obtain ⟨⟨h1, h2, h3⟩, h4⟩ := hh
    obtain ⟨ol, oe, oc⟩ := o
    obtain ⟨pl, pe, pc⟩ := p
    simp only at h1 h2 h3
    rw [eq_of_beq h1, eqEs_ok h2, eqAll_ok (eqD2_ok 4) h3, eqHp_ok h4]
  | [], _ :: _, h => by cases h
  | _ :: _, [], h => by cases h
def LoopE.is (e : LoopT) (fid : FuncId) (x : St) : Bool := Nat.beq fid e.f && (Nat.beq x.h.length e.h.length && (eqAll (eqD2 4) x.t e.t && eqHp x.h e.h))
def loopHook : List LoopT → LoopHook
  | [] => fun _ _ _ => none
  | e :: l => fun fid c x => if LoopE.is e fid x then some (e.e, ⟨e.t', e.h', low x.m e.m⟩) else loopHook l fid c x
def LoopTOk (P : Program) (e : LoopT) : Prop := ∀ (fn : Func) (c : Code), P.funcs[e.f]? = some fn → fn.body = some c → ∀ c' ∈ loopsIn c,
  ∀ (wb : Wb) (k : Nat), Bnd k e.m → ∀ (s : Ren) (m m' : Mk) (a : Act) (w : World), SR wb k s ⟨e.t, e.h, m⟩ a w → (Code.loop c').wp P (Post wb k s ⟨e.t', e.h', m'⟩ e.e) a w
theorem loopHook_low : ∀ (l : List LoopT), LoopLow (loopHook l)
  | [] => by intro f c x x' e h; cases h
  | q :: l => by
    intro f c x x' e h k hm
    unfold loopHook at h
    split at h
    · cases h
      exact (bnd_low hm).1
    · exact loopHook_low l f c x x' e h k hm
theorem loopHook_ok : ∀ {l : List LoopT}, (∀ e ∈ l, LoopTOk P e) → LoopsOk P (loopHook l)
  | [], _ => by intro f fn c _ _ c' _ x x' e h; cases h
  | q :: l, hq => by
    intro f fn c hf hb c' hc x x' e h wb k s a w hm H
    unfold loopHook at h
    split at h
    · rename_i hi
      cases h
      unfold LoopE.is at hi
      simp only [Bool.and_eq_true] at hi
      obtain ⟨h1, _, h3, h4⟩ := hi
      obtain rfl := Nat.eq_of_beq_eq_true h1
      obtain ⟨xt, xh, xm⟩ := x
      obtain rfl := eqAll_ok (eqD2_ok 4) h3
      obtain rfl := eqHp_ok h4
      exact hq q List.mem_cons_self fn c hf hb c' hc wb k (bnd_low hm).2 s xm (low xm q.m) a w H
    · exact loopHook_ok (fun e he => hq e (List.mem_cons_of_mem _ he)) f fn c hf hb c' hc x x' e h wb k s a w hm H
/-- The loop of a function that has one. -/
def theLoop (P : Program) (f : FuncId) : Code :=
  match P.funcs[f]? with
  | some fn =>
    match fn.body with
    | some c =>
      match loopsIn c with
      | [c'] => c'
      | _ => .skip
    | none => .skip
  | none => .skip
def oneLoop (P : Program) (f : FuncId) : Bool :=
  match P.funcs[f]? with
  | some fn =>
    match fn.body with
    | some c =>
      match loopsIn c with
      | [_] => true
      | _ => false
    | none => false
  | none => false
theorem loopT_ok {e : LoopT} {n : Nat} (h1 : oneLoop P e.f = true) (hs : Stop P (theLoop P e.f) n e.t e.h e.e e.t' e.h' e.m) : LoopTOk P e := by
  intro fn c hf hb c' hc wb k hm s m m' a w H
  unfold oneLoop at h1
  unfold theLoop at hs
  rw [hf] at h1 hs
  simp only [hb] at h1 hs
  split at h1
  · rename_i c0 hl
    rw [hl] at hc hs
    rw [List.mem_singleton.1 hc]
    exact wp_loop_rounds n (hs wb k hm s m a w H m')
  · cases h1
/-- The blocks that a call of flat arguments lays, with loops that are told. -/
noncomputable def laysL (P : Program) (hk : Hook3) (orc : Orc) (lh : LoopHook) (L f : Nat) (q : Nat) (g : FuncId) (args : List Value) : Option (Value × List AO × Cs) :=
  match callA P ⟨exG P (aOp P) (drawE P) hk orc accQ lh L f, hk, fun _ _ => none, accQ⟩ g args (List.replicate q dead) with
  | some (v, h, m) =>
    if quietB q m.1 && (refF (fun x => decide (q ≤ x) && decide (x < q + (h.drop q).length)) 6 v && (h.drop q).all (refO fun x => decide (q ≤ x) && decide (x < q + (h.drop q).length))) then some (v, h.drop q, m.2) else none
  | none => none
theorem laysL_ok (hng : NoNG P) {hk : Hook3} (hhk : HookOk3 P hk) {lh : LoopHook} (hll : LoopLow lh) (hlo : LoopsOk P lh) {orc : Orc} {L f q : Nat} {g : FuncId} {args : List Value} {v : Value} {new : List AO} {cs : Cs} (ha : args.all flat = true) (hr : laysL P hk orc lh L f q g args = some (v, new, cs)) (hc : ∀ c ∈ cs, c.1 = c.2)
    {wb : Wb} {k : Nat} {s : Ren} {h : List AO} {w : World} (hq : h.length = q) (H : HR wb k s h w) : Calls P g ⟨args⟩ w (CallPost wb k s v (h ++ new)) := by
  unfold laysL at hr
  split at hr
  · rename_i v1 h1 m hca
    split at hr
    · rename_i hcond
      cases hr
      simp only [Bool.and_eq_true] at hcond
      obtain ⟨hq3, hrv, hro⟩ := hcond
      have HP := ((HR.init w).pad q).here
      rw [List.nil_append, List.length_replicate] at HP
      refine (callA_ok (exG_ok accQ_eq hng (aOp_ok P hng) (drawE_ok P) (drawE_low P) hhk hll hlo L f _) hca (wb := w) (k := q) ⟨quietB_ok hq3, hc⟩ (LR.ofFlat ha) HP).mono ?_
      rintro e w' ⟨s', v', rfl, _, H', hvr⟩
      have HD := H.pad (h1.drop q).length
      have hr1 : (h1.drop q).all (refO fun x => (fun _ => false) x || (decide (q ≤ x) && decide (x < q + (h1.drop q).length))) = true := by simpa using hro
      obtain ⟨H2, hle2, hok⟩ := HD.layNew (q := q) (bs := h1.drop q) (by simp only [List.length_append, List.length_replicate]; omega) (by have := H.kle; omega) (fun x hx1 _ => H.dom x (by omega))
        H' (fun x o ho => by rw [List.getElem?_drop] at ho; exact ho) (old := fun _ => false) (fun x hx => by cases hx) (fun x hx => by cases hx) hr1
      subst hq
      rw [layL_end] at H2
      refine ⟨_, v', rfl, hle2, H2, hvr.refs hok 6 ?_⟩
      simpa using hrv
    · cases hr
  · cases hr
theorem layL_mk (hng : NoNG P) {hk : Hook3} (hhk : HookOk3 P hk) {lh : LoopHook} (hll : LoopLow lh) (hlo : LoopsOk P lh) (e : LayCall) {cs : Cs} (ha : e.args.all flat = true) (hr : laysL P hk noOrc lh 100000 300 e.q e.f e.args = some (e.v, e.new, cs)) (hc : cs.map (·.1) = cs.map (·.2)) : LayOk P e :=
  fun _ _ _ _ _ hq H => laysL_ok hng hhk hll hlo ha hr (map_same hc) hq H
end
end Go.Proofs.Ytafegjmaldbbiaa.Ex
end
section
namespace Go.Proofs.Ytafegjmaldbbiaa.Ex
open Go Go.RowKit

def inter : Cs → List Int
  | [] => []
  | c :: l => c.1 :: c.2 :: inter l
theorem inter_inj : ∀ {a b : Cs}, inter a = inter b → a = b
  | [], [], _ => rfl
  | c :: a, d :: b, h => by
    simp only [inter, List.cons.injEq] at h
    obtain ⟨h1, h2, h3⟩ := h
    rw [inter_inj h3, Prod.ext h1 h2]
  | [], _ :: _, h => by simp [inter] at h
  | _ :: _, [], h => by simp [inter] at h
noncomputable def reckonGI (P : Program) (hk : Hook) (orc : Orc) (L f : Nat) (h0 : List AO) (g : FuncId) (args : List Value) : Option (Value × List Int) :=
  match ranG P hk orc L f h0 g args with
  | some (v, _, m) => some (v, inter m.2)
  | none => none
theorem reckonI_ok {P : Program} (hng : NoNG P) {hk : Hook} (hhk : HookOk2 P hk) (orc : Orc) (L f : Nat) (h0 : List AO) {g : FuncId} {args : List Value} {v : Value} {cs : Cs} (ha : args.all flat = true) (hv : flat v = true) (h : reckonGI P hk orc L f h0 g args = some (v, inter cs))
    (he : ∀ c ∈ cs, c.1 = c.2) (w : World) (hL : Laid h0 w) : Calls P g ⟨args⟩ w fun e w' => e = .returned v ∧ Gr w w' := by
  refine reckonX_any hng hhk orc L f h0 ha hv ?_ w hL
  unfold reckonGI at h
  unfold reckonGL reckonGR
  split at h
  · rename_i v' h' m hr
    simp only [Option.some.injEq, Prod.mk.injEq] at h
    obtain ⟨rfl, h2⟩ := h
    have h3 := inter_inj h2
    try rw [hr]
    simp only [h3]
    rw [List.map_congr_left he]
  · cases h
end Go.Proofs.Ytafegjmaldbbiaa.Ex
end
section
namespace Go.Proofs.Ytafegjmaldbbiaa.Ex
open Go Go.RowKit
set_option linter.unusedVariables false

/-- So many times the same, and what stands behind. -/
noncomputable def rp (n : Nat) (x : Value) (l : List Value) : List Value := Nat.rec (motive := fun _ => List Value) l (fun _ ih => x :: ih) n
noncomputable def rpO (n : Nat) (x : AO) (l : List AO) : List AO := Nat.rec (motive := fun _ => List AO) l (fun _ ih => x :: ih) n
/-- A value with its blocks told by other numbers. -/
def reV (f : Nat → Nat) : Nat → Value → Value
  | 0, v => v
  | n + 1, v =>
    match v with
    | .pointer (some a) => .pointer (some ⟨f a.block, a.off, a.spot⟩)
    | .slice (some a) l c => .slice (some ⟨f a.block, a.off, a.spot⟩) l c
    | .map (some i) => .map (some (f i))
    | .agg cs => .agg ⟨cs.toList.map (reV f n)⟩
    | .tuple cs => .tuple ⟨cs.toList.map (reV f n)⟩
    | .iface t x => .iface t (reV f n x)
    | .func (.func g) a b => .func (.func g) ⟨a.toList.map (reV f n)⟩ ⟨b.toList.map (reV f n)⟩
    | v => v
theorem LR.unmap {s t : Ren} {g : Value → Value} {ok : Value → Bool} (hg : ∀ {v v' : Value}, VR s (g v) v' → ok v = true → VR t v v') {xs ys : List Value} (h : LR s (xs.map g) ys) (ho : xs.all ok = true) : LR t xs ys := by
  refine ⟨by simpa using h.1, fun i x y hx hy => hg (h.2 i (g x) y (by rw [List.getElem?_map, hx]; rfl) hy) (all_get ho hx)⟩
theorem VR.ren {s t : Ren} {f : Nat → Nat} {ok : Nat → Bool} (hst : ∀ j p, ok j = true → s (f j) = some p → t j = some p) : ∀ (n : Nat) {v v' : Value}, VR s (reV f n v) v' → refF ok n v = true → VR t v v'
  | 0, v, v', h, hr => by
    have hf : flat v = true := flat_of_scal hr
    have h' : VR s v v' := h
    rw [h'.eq_of_flat hf]
    exact .same hf
  | n + 1, v, v', h, hr => by
    have ih := fun {v v' : Value} => VR.ren hst n (v := v) (v' := v')
    have plain : ∀ u : Value, VR s u v' → scal u = true → VR t u v' := fun u hu hs => by
      have hf := flat_of_scal hs
      rw [hu.eq_of_flat hf]
      exact .same hf
    cases v with
    | pointer a =>
      cases a with
      | none => exact plain _ h rfl
      | some a =>
        obtain ⟨p, h1, h2, rfl⟩ := VR.ptr_inv (a := ⟨f a.block, a.off, a.spot⟩) h
        exact VR.ptr (a := a) h1 (hst _ _ hr h2)
    | slice a l c =>
      cases a with
      | none => exact plain _ h rfl
      | some a =>
        obtain ⟨p, c', h1, h2, h3, rfl⟩ := VR.slice_inv (a := ⟨f a.block, a.off, a.spot⟩) h
        exact VR.slice (a := a) h1 (hst _ _ hr h2) h3
    | map i =>
      cases i with
      | none => exact plain _ h rfl
      | some i =>
        obtain ⟨p, h1, rfl⟩ := VR.map_inv (i := f i) h
        exact VR.map (hst _ _ hr h1)
    | agg cs =>
      obtain ⟨xs⟩ := cs
      obtain ⟨ys, rfl, hl⟩ := VR.agg_inv (xs := xs.map (reV f n)) h
      have := hl.unmap ih hr
      exact VR.agg this.1 this.2
    | tuple cs =>
      obtain ⟨xs⟩ := cs
      obtain ⟨ys, rfl, hl⟩ := VR.tuple_inv (xs := xs.map (reV f n)) h
      have := hl.unmap ih hr
      exact VR.tuple this.1 this.2
    | iface t' x =>
      obtain ⟨y, rfl, hv⟩ := VR.iface_inv (x := reV f n x) h
      exact VR.iface (ih hv hr)
    | func g a b =>
      cases g with
      | func g =>
        obtain ⟨xs⟩ := a
        obtain ⟨us⟩ := b
        obtain ⟨ys, vs, rfl, hl, hl'⟩ := VR.func_inv (xs := xs.map (reV f n)) (us := us.map (reV f n)) h
        simp only [refF, Bool.and_eq_true] at hr
        have h1 := hl.unmap ih hr.1
        have h2 := hl'.unmap ih hr.2
        exact VR.func h1.1 h1.2 h2.1 h2.2
      | _ => simp [refF, scal] at hr
    | _ => exact plain _ h hr
def reO (f : Nat → Nat) (o : AO) : AO := ⟨o.live, o.es, o.cs.map (reV f 6)⟩
theorem ObjAt.ren {s t : Ren} {f : Nat → Nat} {ok : Nat → Bool} (hst : ∀ j p, ok j = true → s (f j) = some p → t j = some p) {p : Pl} {o : AO} {w : World} (h : ObjAt s p (reO f o) w) (hb : o.cs.all (refF ok 6) = true) : ObjAt t p o w := by
  refine ⟨fun hm => ?_, fun hm => ?_⟩
  · obtain ⟨cs', h1, h2⟩ := h.1 hm
    have h1 : LR s (o.cs.map (reV f 6)) cs' := h1
    exact ⟨cs', h1.unmap (VR.ren hst 6) hb, h2⟩
  · have B := h.2 hm
    refine ⟨by simpa [reO] using B.fit, B.all, B.shp, fun g1 g2 g3 g4 g5 => B.free g1 g2 g3 g4 (by simpa [reO] using g5), fun x v hv => ?_⟩
    obtain ⟨v', h1, h2⟩ := B.rel x (reV f 6 v) (by simp only [reO, List.getElem?_map, hv, Option.map_some])
    exact ⟨v', h1, h2.ren hst 6 (all_get hb hv)⟩
/-- Blocks told by other numbers, others given up. -/
theorem HR.renum {wb : Wb} {k : Nat} {s : Ren} {h1 : List AO} {w : World} (H : HR wb k s h1 w) {f : Nat → Nat} {q : Nat} {h2 : List AO} (hkq : k ≤ q) (hq : q ≤ h2.length) (hid : ∀ j, j < q → f j = j) (hge : ∀ j, q ≤ j → j < h2.length → q ≤ f j)
    (hinj : ∀ i j, i < h2.length → j < h2.length → f i = f j → i = j) (ho : ∀ j o, h2[j]? = some o → h1[f j]? = some (reO f o)) (hl : ∀ j o, h2[j]? = some o → q ≤ j → o.live = true ∧ o.es ≠ some GM)
    (hr : h2.all (refO fun x => decide (x < h2.length)) = true) : HR wb k (fun j => if j < h2.length then s (f j) else none) h2 w := by
  have hst : ∀ j p, (fun x => decide (x < h2.length)) j = true → s (f j) = some p → (fun j => if j < h2.length then s (f j) else none) j = some p := by
    intro j p hj hs
    simp only [decide_eq_true_eq] at hj
    simp only [if_pos hj]
    exact hs
  have at' : ∀ i p, (if i < h2.length then s (f i) else none) = some p → i < h2.length ∧ s (f i) = some p := by
    intro i p hp
    split at hp
    · rename_i hi; exact ⟨hi, hp⟩
    · cases hp
  refine ⟨H.grown, by omega, fun i hi => if_neg (by omega), fun i p hp => ?_, fun i o hi hv => ?_, fun i j a b p q' hi hj ha hb hp hq' e => ?_, fun g p hp hg => ?_⟩
  · obtain ⟨hi, hs⟩ := at' i p hp
    obtain ⟨c1, c2, c3⟩ := H.plc _ p hs
    by_cases hiq : i < q
    · rw [hid i hiq] at c1 c2
      exact ⟨c1, c2, c3⟩
    · exact ⟨fun hlt => absurd hlt (by omega), fun _ => c2 (by have := hge i (by omega) hi; omega), c3⟩
  · have hlt := (List.getElem?_eq_some_iff.1 hi).1
    obtain ⟨p, hp, he, hob⟩ := H.obj _ _ (ho i o hi) hv
    have hro := all_get' hr hi hv
    exact ⟨p, by rw [if_pos hlt]; exact hp, he, hob.ren hst hro⟩
  · have hlt := (List.getElem?_eq_some_iff.1 hi).1
    have hlt2 := (List.getElem?_eq_some_iff.1 hj).1
    rw [if_pos hlt] at hp
    rw [if_pos hlt2] at hq'
    exact hinj i j hlt hlt2 (H.sep _ _ _ _ p q' (ho i a hi) (ho j b hj) ha hb hp hq' e)
  · obtain ⟨hi, hs⟩ := at' g p hp
    by_cases hgq : g < q
    · rw [hid g hgq] at hs
      exact H.gl g p hs hg
    · have hx := List.getElem?_eq_getElem hi
      obtain ⟨h3, h4⟩ := hl g _ hx (by omega)
      obtain ⟨p', hp', he, _⟩ := H.obj _ _ (ho g _ hx) h3
      rw [hs] at hp'
      cases hp'
      exact absurd (he.symm.trans hg) h4
where
  all_get' {h2 : List AO} {ok : Nat → Bool} (hr : h2.all (refO ok) = true) {i : Nat} {o : AO} (hi : h2[i]? = some o) (hv : o.live = true) : o.cs.all (refF ok 6) = true := by
    have := List.all_eq_true.1 hr o (List.mem_of_getElem? hi)
    simpa [refO, hv] using this
/-- The first blocks keep their numbers; behind them stand those that are named. -/
def keepF (q : Nat) (keep : List Nat) (j : Nat) : Nat := bif Nat.blt j q then j else keep.getD (j - q) 0
def upB (q : Nat) : Nat → List Nat → Bool
  | _, [] => true
  | n, x :: l => Nat.ble n x && upB q (x + 1) l
theorem upB_spec {q : Nat} : ∀ {n : Nat} {l : List Nat}, upB q n l = true → (∀ (i x : Nat), l[i]? = some x → n ≤ x) ∧ ∀ (i j x : Nat), l[i]? = some x → l[j]? = some x → i = j
  | n, [], _ => ⟨fun i x h => by simp at h, fun i j x h => by simp at h⟩
  | n, y :: l, h => by
    simp only [upB, Bool.and_eq_true] at h
    obtain ⟨h1, h2⟩ := upB_spec h.2
    have hy := Nat.le_of_ble_eq_true h.1
    refine ⟨fun i x hx => ?_, fun i j x hx hj => ?_⟩
    · cases i with
      | zero => simp at hx; omega
      | succ i => have := h1 i x (by simpa using hx); omega
    · cases i with
      | zero =>
        cases j with
        | zero => rfl
        | succ j => simp at hx; subst hx; have := h1 j y (by simpa using hj); omega
      | succ i =>
        cases j with
        | zero => simp at hj; subst hj; have := h1 i y (by simpa using hx); omega
        | succ j => rw [h2 i j x (by simpa using hx) (by simpa using hj)]
def aliveB (o : AO) : Bool := o.live && (match o.es with | some e => !(Nat.beq e GM) | none => true)
/-- So many rounds lead from a state to another one; of the blocks the first ones keep their numbers. -/
def HopQ (P : Program) (c : Code) (n q : Nat) (t : List Value) (h : List AO) (t' : List Value) (h' : List AO) (mE : Mk) : Prop :=
  ∀ (wb : Wb) (k : Nat), Bnd k mE → k ≤ q → ∀ (s : Ren) (m : Mk) (a : Act) (w : World), SR wb k s ⟨t, h, m⟩ a w → ∀ (N : Nat) (Q : Exit → Act → World → Prop),
    (∀ s' a' w', (∀ i p, i < q → s i = some p → s' i = some p) → SR wb k s' ⟨t', h', m⟩ a' w' → Code.rounds P c Q N a' w') → Code.rounds P c Q (n + N) a w
/-- A state behind a run, with the blocks that are kept. -/
def keepS (q : Nat) (keep : List Nat) (x : St) : Option (List Value × List AO × Option Nat × List Int) :=
  if Nat.ble q x.h.length && (upB q q keep && keep.all fun i => aliveB (x.h.getD i dead)) then some (x.t, x.h.take q ++ keep.map fun i => x.h.getD i dead, x.m.1, inter x.m.2) else none
def hopC (t : List Value) (h : List AO) : Bool := t.all (refF (fun x => decide (x < h.length)) 6) && h.all (refO fun x => decide (x < h.length))
theorem keepS_ok {q : Nat} {keep : List Nat} {x : St} {t2 : List Value} {h2 : List AO} {lo : Option Nat} {cs : Cs} (hr : keepS q keep x = some (t2.map (reV (keepF q keep) 6), h2.map (reO (keepF q keep)), lo, inter cs)) (hb : hopC t2 h2 = true) :
    x.m = (lo, cs) ∧ ∀ (wb : Wb) (k : Nat) (s : Ren) (m : Mk) (a : Act) (w : World), k ≤ q → SR wb k s x a w → ∃ s', (∀ i p, i < q → s i = some p → s' i = some p) ∧ SR wb k s' ⟨t2, h2, m⟩ a w := by
  unfold keepS at hr
  split at hr
  · rename_i hcond
    simp only [Option.some.injEq, Prod.mk.injEq] at hr
    obtain ⟨ht, hh, hlo, hin⟩ := hr
    have hcs := inter_inj hin
    simp only [Bool.and_eq_true] at hcond
    obtain ⟨g2, g3, g4⟩ := hcond
    have g2 := Nat.le_of_ble_eq_true g2
    obtain ⟨u1, u2⟩ := upB_spec g3
    simp only [hopC, Bool.and_eq_true] at hb
    have hlen : h2.length = q + keep.length := by
      have := congrArg List.length hh
      simp only [List.length_append, List.length_take, List.length_map] at this
      omega
    have hlt : ∀ j, j < q → keepF q keep j = j := by
      intro j hj
      have : Nat.blt j q = true := by simpa [Nat.blt_eq] using hj
      simp [keepF, this]
    have hgt : ∀ j, q ≤ j → keepF q keep j = keep.getD (j - q) 0 := by
      intro j hj
      have : Nat.blt j q = false := by
        cases hb : Nat.blt j q with
        | false => rfl
        | true => rw [Nat.blt_eq] at hb; omega
      simp [keepF, this]
    have hkl : ∀ (i y : Nat), keep[i]? = some y → y < x.h.length := by
      intro i y hy
      by_cases hlt : y < x.h.length
      · exact hlt
      · have := List.all_eq_true.1 g4 y (List.mem_of_getElem? hy)
        rw [List.getD_eq_getElem?_getD, List.getElem?_eq_none (by omega)] at this
        simp [aliveB, dead] at this
    have hkeep : ∀ j, q ≤ j → j < h2.length → ∃ y, keep[j - q]? = some y ∧ keepF q keep j = y := by
      intro j h1 h3
      have hj : j - q < keep.length := by omega
      exact ⟨keep[j - q], List.getElem?_eq_getElem hj, by rw [hgt j h1, List.getD_eq_getElem?_getD, List.getElem?_eq_getElem hj]; rfl⟩
    have hat : ∀ j o, h2[j]? = some o → x.h[keepF q keep j]? = some (reO (keepF q keep) o) := by
      intro j o ho
      have hj := (List.getElem?_eq_some_iff.1 ho).1
      have e : (x.h.take q ++ keep.map fun i => x.h.getD i dead)[j]? = some (reO (keepF q keep) o) := by
        rw [hh, List.getElem?_map, ho]; rfl
      by_cases hjq : j < q
      · rw [hlt j hjq]
        rw [List.getElem?_append_left (by rw [List.length_take]; omega), List.getElem?_take, if_pos hjq] at e
        exact e
      · obtain ⟨y, hy, hfy⟩ := hkeep j (by omega) hj
        rw [hfy]
        rw [List.getElem?_append_right (by rw [List.length_take]; omega), List.length_take, Nat.min_eq_left g2, List.getElem?_map, hy] at e
        simp only [Option.map_some, Option.some.injEq] at e
        have hyl := hkl _ _ hy
        rw [List.getElem?_eq_getElem hyl, ← e, List.getD_eq_getElem?_getD, List.getElem?_eq_getElem hyl]
        rfl
    refine ⟨by rw [← hlo, ← hcs], fun wb k s m a w hkq H' => ?_⟩
    have HH := H'.h.renum (f := keepF q keep) (q := q) (h2 := h2) hkq (by omega) hlt
      (fun j h1 h3 => by
        obtain ⟨y, hy, hfy⟩ := hkeep j h1 h3
        rw [hfy]; exact u1 _ _ hy)
      (fun i j hi hj e => by
        by_cases h1 : i < q
        · rw [hlt i h1] at e
          by_cases h3 : j < q
          · rw [hlt j h3] at e; exact e
          · obtain ⟨y, hy, hfy⟩ := hkeep j (by omega) hj
            have := u1 _ _ hy
            omega
        · obtain ⟨y, hy, hfy⟩ := hkeep i (by omega) hi
          by_cases h3 : j < q
          · rw [hlt j h3] at e
            have := u1 _ _ hy
            omega
          · obtain ⟨z, hz, hfz⟩ := hkeep j (by omega) hj
            rw [hfy, hfz] at e
            subst e
            have := u2 _ _ _ hy hz
            omega) hat
      (fun j o ho hjq => by
        have hj := (List.getElem?_eq_some_iff.1 ho).1
        obtain ⟨y, hy, hfy⟩ := hkeep j hjq hj
        have e := hat j o ho
        rw [hfy] at e
        have hl := List.all_eq_true.1 g4 y (List.mem_of_getElem? hy)
        rw [List.getD_eq_getElem?_getD, e] at hl
        simp only [Option.getD_some, aliveB, reO, Bool.and_eq_true] at hl
        refine ⟨hl.1, fun hg => ?_⟩
        rw [hg] at hl
        simp [Nat.beq_refl] at hl) hb.2
    refine ⟨_, fun i p hi hp => ?_, ⟨?_, H'.d, HH⟩⟩
    · show (if i < h2.length then s (keepF q keep i) else none) = some p
      rw [if_pos (by omega), hlt i hi]
      exact hp
    · have h5 : LR s (t2.map (reV (keepF q keep) 6)) a.tmps.toList := by
        have := H'.t
        rw [ht] at this
        exact this
      refine h5.unmap (VR.ren (ok := fun y => decide (y < h2.length)) (fun j p hj hs => ?_) 6) hb.1
      simp only [decide_eq_true_eq] at hj
      show (if j < h2.length then s (keepF q keep j) else none) = some p
      rw [if_pos hj]
      exact hs
  · cases hr
/-- So many rounds: the state behind them, with the blocks that are kept. -/
noncomputable def hopRun (P : Program) (hk : Hook3) (orc : Orc) (fid : FuncId) (c : Code) (n q : Nat) (keep : List Nat) (t : List Value) (h : List AO) : Option (List Value × List AO × Option Nat × List Int) :=
  match iterB (bodyE P hk orc fid c) n ⟨t, h, (none, [])⟩ with
  | some x => keepS q keep x
  | none => none
theorem hopR_ok {P : Program} (hng : NoNG P) {hk : Hook3} (hhk : HookOk3 P hk) {orc : Orc} {fid : FuncId} {c : Code} {n q : Nat} (keep : List Nat) {t t2 : List Value} {h h2 : List AO} {lo : Option Nat} {cs : Cs}
    (hr : hopRun P hk orc fid c n q keep t h = some (t2.map (reV (keepF q keep) 6), h2.map (reO (keepF q keep)), lo, inter cs)) (hb : hopC t2 h2 = true) (hc : ∀ c ∈ cs, c.1 = c.2) : HopQ P c n q t h t2 h2 (lo, []) := by
  unfold hopRun at hr
  split at hr
  · rename_i x hx
    obtain ⟨hm2, hk2⟩ := keepS_ok hr hb
    intro wb k hm hkq s m a w H N Q hQ
    refine iterB_ok (bodyE_ok hng hhk orc fid c) wb k (bodyE_low orc fid c k) n ⟨t, h, (none, [])⟩ x hx (by rw [hm2]; exact ⟨hm.1, hc⟩) s a w ⟨H.t, H.d, H.h⟩ N Q fun s' a' w' hle H' => ?_
    obtain ⟨s2, h1, h3⟩ := hk2 wb k s' m a' w' hkq H'
    exact hQ s2 a' w' (fun i p hi hp => h1 i p hi (hle i p hp)) h3
  · cases hr
section
variable {P : Program} {c : Code}
theorem HopQ.zero (q : Nat) (t : List Value) (h : List AO) (m : Mk) : HopQ P c 0 q t h t h m := by
  intro wb k hm hkq s m a w H N Q hQ
  rw [Nat.zero_add]
  exact hQ s a w (fun _ _ _ h => h) H
theorem HopQ.trans {n N q : Nat} {t t1 t2 : List Value} {h h1 h2 : List AO} {m1 m2 m3 : Mk} (a : HopQ P c n q t h t1 h1 m1) (b : HopQ P c N q t1 h1 t2 h2 m2) (hm1 : ∀ k, k ≤ q → Bnd k m3 → Bnd k m1) (hm2 : ∀ k, k ≤ q → Bnd k m3 → Bnd k m2) : HopQ P c (n + N) q t h t2 h2 m3 := by
  intro wb k hm hkq s m act w H M Q hQ
  rw [Nat.add_assoc]
  exact a wb k (hm1 k hkq hm) hkq s m act w H (N + M) Q fun s' a' w' hle H' => b wb k (hm2 k hkq hm) hkq s' m a' w' H' M Q fun s'' a'' w'' hle' H'' => hQ s'' a'' w'' (fun i p hi hp => hle' i p hi (hle i p hi hp)) H''
/-- Within so many rounds the loop ends, of the blocks the first ones keep their numbers. -/
def StopQ (P : Program) (c : Code) (n q : Nat) (t : List Value) (h : List AO) (e : Exit) (t' : List Value) (h' : List AO) (mE : Mk) : Prop :=
  ∀ (wb : Wb) (k : Nat), Bnd k mE → k ≤ q → ∀ (s : Ren) (m : Mk) (a : Act) (w : World), SR wb k s ⟨t, h, m⟩ a w → ∀ (m' : Mk), Code.rounds P c (fun e' a' w' => e' = e ∧ ∃ s', (∀ i p, i < q → s i = some p → s' i = some p) ∧ SR wb k s' ⟨t', h', m'⟩ a' w') n a w
theorem rounds_mono {A B : Exit → Act → World → Prop} (h : ∀ e a w, A e a w → B e a w) : ∀ (n : Nat) (a : Act) (w : World), Code.rounds P c A n a w → Code.rounds P c B n a w := by
  intro n
  induction n with
  | zero => intro a w h; exact h
  | succ n ih =>
    intro a w h0
    rw [rounds_succ] at h0 ⊢
    refine Code.wp_mono (fun e' a' w' hp => ?_) h0
    cases e' <;> first | exact ih _ _ hp | exact h _ _ _ hp
theorem HopQ.stop {n N q : Nat} {t t1 t2 : List Value} {h h1 h2 : List AO} {e : Exit} {m1 m2 m3 : Mk} (a : HopQ P c n q t h t1 h1 m1) (b : StopQ P c N q t1 h1 e t2 h2 m2) (hm1 : ∀ k, k ≤ q → Bnd k m3 → Bnd k m1) (hm2 : ∀ k, k ≤ q → Bnd k m3 → Bnd k m2) : StopQ P c (n + N) q t h e t2 h2 m3 := by
  intro wb k hm hkq s m act w H m'
  refine a wb k (hm1 k hkq hm) hkq s m act w H N _ fun s' a' w' hle H' => ?_
  exact rounds_mono (fun e' a'' w'' hp => ⟨hp.1, let ⟨s'', h3, h4⟩ := hp.2; ⟨s'', fun i p hi hq => h3 i p hi (hle i p hi hq), h4⟩⟩) N a' w' (b wb k (hm2 k hkq hm) hkq s' m a' w' H' m')
theorem StopQ.stop {n q : Nat} {t t2 : List Value} {h h2 : List AO} {e : Exit} {m : Mk} (a : StopQ P c n q t h e t2 h2 m) (hq : h.length = q) : Stop P c n t h e t2 h2 m := by
  intro wb k hm s m0 act w H m'
  have hkq : k ≤ q := by have : k ≤ h.length := H.h.kle; omega
  refine rounds_mono (fun e' a'' w'' hp => ⟨hp.1, let ⟨s'', h3, h4⟩ := hp.2; ⟨s'', fun i p hi => ?_, h4⟩⟩) n act w (a wb k hm hkq s m0 act w H m')
  have hlt : i < q := by
    rcases Nat.lt_or_ge i q with h1 | h1
    · exact h1
    · have e1 : s i = none := H.h.dom i (by show h.length ≤ i; omega)
      rw [e1] at hi; cases hi
  exact h3 i p hlt hi
end
/-- The end of a loop, with the blocks that are kept. -/
noncomputable def stopRun (P : Program) (hk : Hook3) (orc : Orc) (fid : FuncId) (c : Code) (n q : Nat) (keep : List Nat) (t : List Value) (h : List AO) : Option (Exit × Option (List Value × List AO × Option Nat × List Int)) :=
  match loopN (bodyE P hk orc fid c) n ⟨t, h, (none, [])⟩ with
  | some (e, x) => some (e, keepS q keep x)
  | none => none
theorem stopR_ok {P : Program} (hng : NoNG P) {hk : Hook3} (hhk : HookOk3 P hk) {orc : Orc} {fid : FuncId} {c : Code} {n q : Nat} (keep : List Nat) {t t2 : List Value} {h h2 : List AO} {e : Exit} {lo : Option Nat} {cs : Cs}
    (hr : stopRun P hk orc fid c n q keep t h = some (e, some (t2.map (reV (keepF q keep) 6), h2.map (reO (keepF q keep)), lo, inter cs))) (hb : hopC t2 h2 = true) (hc : ∀ c ∈ cs, c.1 = c.2) : StopQ P c n q t h e t2 h2 (lo, []) := by
  unfold stopRun at hr
  split at hr
  · rename_i e1 x hx
    simp only [Option.some.injEq, Prod.mk.injEq] at hr
    obtain ⟨rfl, hr⟩ := hr
    obtain ⟨hm2, hk2⟩ := keepS_ok hr hb
    intro wb k hm hkq s m a w H m'
    obtain ⟨xt, xh, xm⟩ := x
    have st := stop_ok hng hhk hx wb k (by rw [show xm = (lo, cs) from hm2]; exact ⟨hm.1, hc⟩) s m a w H xm
    exact rounds_mono (fun e' a' w' hp => ⟨hp.1, let ⟨s', h1, h2⟩ := hp.2; let ⟨s2, h3, h4⟩ := hk2 wb k s' m' a' w' hkq h2; ⟨s2, fun i p hi hq => h3 i p hi (h1 i p hq), h4⟩⟩) n a w st
  · cases hr

def loB (q : Nat) (lo lo3 : Option Nat) : Bool :=
  match lo with
  | none => true
  | some i => Nat.ble q i || (match lo3 with | some j => Nat.ble j i | none => false)
theorem bndW {q : Nat} {lo lo3 : Option Nat} (h : loB q lo lo3 = true) : ∀ k, k ≤ q → Bnd k (lo3, []) → Bnd k (lo, []) := by
  intro k hk hm
  refine ⟨fun i hi => ?_, fun c hc => by cases hc⟩
  simp only at hi
  subst hi
  simp only [loB, Bool.or_eq_true] at h
  rcases h with h | h
  · have := Nat.le_of_ble_eq_true h
    omega
  · cases lo3 with
    | none => cases h
    | some j =>
      have h1 := Nat.le_of_ble_eq_true h
      have h2 := hm.1 j rfl
      omega
theorem no_cs {P : Int × Int → Prop} : ∀ c ∈ ([] : Cs), P c := fun _ h => by cases h

/-! Patterns: a number that is not known stands as a hole. -/
def hole (j : Nat) (k : IntKind) : Value := .tuple ⟨[.chan (some j), .int k 0]⟩
def holeOf : Value → Option (Nat × IntKind)
  | .tuple vs =>
    match vs.toList with
    | [.chan (some j), .int k _] => some (j, k)
    | _ => none
  | _ => none
abbrev Bs := List (Nat × Int)
def matchL (m : Value → Value → Option Bs) : List Value → List Value → Option Bs
  | [], [] => some []
  | x :: xs, y :: ys =>
    match m x y with
    | some a =>
      match matchL m xs ys with
      | some b => some (a ++ b)
      | none => none
    | none => none
  | _, _ => none
def matchV : Nat → Value → Value → Option Bs
  | 0, _, _ => none
  | n + 1, p, v =>
    match holeOf p with
    | some (j, k) =>
      match v with
      | .int k' m => if Nat.beq (kIx k') (kIx k) then some [(j, m)] else none
      | _ => none
    | none =>
      match p, v with
      | .agg a, .agg b => matchL (matchV n) a.toList b.toList
      | .tuple a, .tuple b => matchL (matchV n) a.toList b.toList
      | x, y => if eqI x y then some [] else none
def inst (ρ : Nat → Int) : Nat → Value → Value
  | 0, v => v
  | n + 1, p =>
    match holeOf p with
    | some (j, k) => .int k (ρ j)
    | none =>
      match p with
      | .agg a => .agg ⟨a.toList.map (inst ρ n)⟩
      | .tuple a => .tuple ⟨a.toList.map (inst ρ n)⟩
      | x => x
theorem matchL_ok {ρ : Nat → Int} {m : Value → Value → Option Bs} {g : Value → Value} (hm : ∀ x y bs, m x y = some bs → (∀ b ∈ bs, ρ b.1 = b.2) → g x = y) : ∀ {xs ys : List Value} {bs : Bs}, matchL m xs ys = some bs → (∀ b ∈ bs, ρ b.1 = b.2) → xs.map g = ys
  | [], [], _, _, _ => rfl
  | x :: xs, y :: ys, bs, h, hb => by
    simp only [matchL] at h
    split at h
    · rename_i a ha
      split at h
      · rename_i b hb'
        cases h
        rw [List.map_cons, hm x y a ha fun c hc => hb c (List.mem_append_left _ hc), matchL_ok hm hb' fun c hc => hb c (List.mem_append_right _ hc)]
      · cases h
    · cases h
  | [], _ :: _, _, h, _ => by cases h
  | _ :: _, [], _, h, _ => by cases h
theorem matchV_ok {ρ : Nat → Int} : ∀ (n : Nat) (p v : Value) (bs : Bs), matchV n p v = some bs → (∀ b ∈ bs, ρ b.1 = b.2) → inst ρ n p = v
  | 0, p, v, bs, h, _ => by cases h
  | n + 1, p, v, bs, h, hb => by
    unfold matchV at h
    unfold inst
    split at h
    · rename_i j k hh
      split at h
      · rename_i k' m
        split at h
        · rename_i hk
          cases h
          rw [kIx_inj hk, hb (j, m) (List.mem_singleton.2 rfl)]
        · cases h
      · cases h
    · rename_i hh
      split at h
      · rename_i a b
        simp only
        rw [matchL_ok (matchV_ok n) h hb]
      · rename_i a b
        simp only
        rw [matchL_ok (matchV_ok n) h hb]
      · rename_i x y hne1 hne2
        split at h
        · rename_i he
          obtain rfl := eqI_ok he
          split
          · rename_i a; exact absurd rfl (hne1 a a rfl)
          · rename_i a; exact absurd rfl (hne2 a a rfl)
          · rfl
        · cases h
def matchH : List AO → List AO → Option Bs
  | [], [] => some []
  | o :: l, p :: h =>
    if o.live == p.live && eqEs o.es p.es then
      match matchL (matchV 4) o.cs p.cs with
      | some a =>
        match matchH l h with
        | some b => some (a ++ b)
        | none => none
      | none => none
    else none
  | _, _ => none
def instO (ρ : Nat → Int) (o : AO) : AO := ⟨o.live, o.es, o.cs.map (inst ρ 4)⟩
theorem matchH_ok {ρ : Nat → Int} : ∀ {l h : List AO} {bs : Bs}, matchH l h = some bs → (∀ b ∈ bs, ρ b.1 = b.2) → l.map (instO ρ) = h
  | [], [], _, _, _ => rfl
  | o :: l, p :: h, bs, hh, hb => by
    simp only [matchH] at hh
    split at hh
    · rename_i hc
      split at hh
      · rename_i a ha
        split at hh
        · rename_i b hb'
          cases hh
          simp only [Bool.and_eq_true] at hc
          obtain ⟨pl, pe, pc⟩ := p
          have h1 := eq_of_beq hc.1
          have h2 := eqEs_ok hc.2
          have h3 := matchL_ok (ρ := ρ) (matchV_ok 4) ha fun c hm => hb c (List.mem_append_left _ hm)
          simp only at h1 h2 h3
          rw [List.map_cons, matchH_ok hb' fun c hm => hb c (List.mem_append_right _ hm), instO, h1, h2, h3]
        · cases hh
      · cases hh
    · cases hh
  | [], _ :: _, _, h, _ => by cases h
  | _ :: _, [], _, h, _ => by cases h
def lookB : Bs → Nat → Int
  | [], _ => 0
  | b :: l, j => bif Nat.beq b.1 j then b.2 else lookB l j
def freshB : Bs → Bool
  | [] => true
  | b :: l => l.all (fun c => !(Nat.beq c.1 b.1)) && freshB l
theorem lookB_ok : ∀ {l : Bs}, freshB l = true → ∀ b ∈ l, lookB l b.1 = b.2
  | [], _, b, hb => by cases hb
  | a :: l, h, b, hb => by
    simp only [freshB, Bool.and_eq_true] at h
    rcases List.mem_cons.1 hb with rfl | hm
    · simp [lookB, Nat.beq_refl]
    · have := List.all_eq_true.1 h.1 b hm
      have hne : Nat.beq a.1 b.1 = false := by
        cases hx : Nat.beq a.1 b.1 with
        | false => rfl
        | true =>
          have e := Nat.eq_of_beq_eq_true hx
          rw [e, Nat.beq_refl] at this
          cases this
      simp only [lookB, hne, cond_false]
      exact lookB_ok h.2 b hm
/-- A loop, from a state of a pattern on to its end. -/
structure LoopP where
  f : FuncId
  t : List Value
  h : List AO
  e : Exit
  t' : (Nat → Int) → List Value
  h' : (Nat → Int) → List AO
  lo : Option Nat
  cond : (Nat → Int) → Cs
def LoopP.at (e : LoopP) (ρ : Nat → Int) : LoopT := ⟨e.f, e.t.map (inst ρ 4), e.h.map (instO ρ), e.e, e.t' ρ, e.h' ρ, (e.lo, [])⟩
def matchS (e : LoopP) (fid : FuncId) (x : St) : Option Bs :=
  if Nat.beq fid e.f && Nat.beq x.h.length e.h.length then
    match matchL (matchV 4) e.t x.t with
    | some a =>
      match matchH e.h x.h with
      | some b => if freshB (a ++ b) then some (a ++ b) else none
      | none => none
    | none => none
  else none
def loopPHook : List LoopP → LoopHook
  | [] => fun _ _ _ => none
  | e :: l => fun fid c x =>
    match matchS e fid x with
    | some bs => some (e.e, ⟨e.t' (lookB bs), e.h' (lookB bs), low x.m (e.lo, e.cond (lookB bs))⟩)
    | none => loopPHook l fid c x
def LoopPOk (P : Program) (e : LoopP) : Prop := ∀ ρ : Nat → Int, (∀ c ∈ e.cond ρ, c.1 = c.2) → LoopTOk P (e.at ρ)
theorem loopPHook_low : ∀ (l : List LoopP), LoopLow (loopPHook l)
  | [] => by intro f c x x' e h; cases h
  | q :: l => by
    intro f c x x' e h k hm
    unfold loopPHook at h
    split at h
    · cases h
      exact (bnd_low hm).1
    · exact loopPHook_low l f c x x' e h k hm
theorem loopPHook_ok {P : Program} : ∀ {l : List LoopP}, (∀ e ∈ l, LoopPOk P e) → LoopsOk P (loopPHook l)
  | [], _ => by intro f fn c _ _ c' _ x x' e h; cases h
  | q :: l, hq => by
    intro f fn c hf hb c' hc x x' e h wb k s a w hm H
    unfold loopPHook at h
    split at h
    · rename_i bs hbs
      cases h
      unfold matchS at hbs
      split at hbs
      · rename_i hcond
        simp only [Bool.and_eq_true] at hcond
        obtain rfl := Nat.eq_of_beq_eq_true hcond.1
        split at hbs
        · rename_i a1 ha1
          split at hbs
          · rename_i b1 hb1
            split at hbs
            · rename_i hfr
              cases hbs
              have lk := lookB_ok hfr
              obtain ⟨xt, xh, xm⟩ := x
              have e1 := matchL_ok (matchV_ok 4) ha1 fun b hb => lk b (List.mem_append_left _ hb)
              have e2 := matchH_ok hb1 fun b hb => lk b (List.mem_append_right _ hb)
              simp only at e1 e2
              obtain ⟨hm1, hm2⟩ := bnd_low hm
              have := hq q List.mem_cons_self (lookB (a1 ++ b1)) hm2.2 fn c hf hb c' hc wb k ⟨hm2.1, fun c hc => by cases hc⟩ s xm (low xm (q.lo, q.cond (lookB (a1 ++ b1)))) a w
              exact this ⟨by show LR s (q.t.map (inst (lookB (a1 ++ b1)) 4)) _; rw [e1]; exact H.t, H.d, by show HR wb k s (q.h.map (instO (lookB (a1 ++ b1)))) w; rw [e2]; exact H.h⟩
            · cases hbs
          · cases hbs
        · cases hbs
      · cases hbs
    · exact loopPHook_ok (fun e he => hq e (List.mem_cons_of_mem _ he)) f fn c hf hb c' hc x x' e h wb k s a w hm H
/-- A run that reads a package's variables, with loops that are told. -/
noncomputable def reckonPI (P : Program) (hk : Hook3) (orc : Orc) (lh : LoopHook) (L f : Nat) (h0 : List AO) (g : FuncId) (args : List Value) : Option (Value × List Int) :=
  match callA P ⟨exG P (aOp P) (drawE P) hk orc accQ lh L f, hk, fun _ _ => none, accQ⟩ g args h0 with
  | some (v, _, m) => if quietB h0.length m.1 then some (v, inter m.2) else none
  | none => none
theorem reckonP_ok {P : Program} (hng : NoNG P) {hk : Hook3} (hhk : HookOk3 P hk) {lh : LoopHook} (hll : LoopLow lh) (hlo : LoopsOk P lh) (orc : Orc) (L f : Nat) (h0 : List AO) {g : FuncId} {args : List Value} {v : Value} {cs : Cs} (ha : args.all flat = true) (hv : flat v = true) (h : reckonPI P hk orc lh L f h0 g args = some (v, inter cs))
    (he : ∀ c ∈ cs, c.1 = c.2) (w : World) (hL : Laid h0 w) : Calls P g ⟨args⟩ w fun e w' => e = .returned v ∧ Gr w w' := by
  unfold reckonPI at h
  split at h
  · rename_i v' h' m hr
    split at h
    · rename_i hq
      simp only [Option.some.injEq, Prod.mk.injEq] at h
      obtain ⟨rfl, h2⟩ := h
      have h3 := inter_inj h2
      refine (callA_ok (exG_ok accQ_eq hng (aOp_ok P hng) (drawE_ok P) (drawE_low P) hhk hll hlo L f _) hr (wb := w) (k := h0.length) (s := placeG h0 w) ⟨quietB_ok hq, by rw [h3]; exact he⟩ (LR.ofFlat ha) (HR.start hL)).mono ?_
      rintro e w' ⟨s', u, rfl, _, H, hvr⟩
      rw [hvr.eq_of_flat hv]
      exact ⟨rfl, H.grown.gr⟩
    · cases h
  · cases h
end Go.Proofs.Ytafegjmaldbbiaa.Ex
end
section
namespace Go.Proofs.Ytafegjmaldbbiaa.Ex
open Go Go.RowKit
set_option linter.unusedVariables false
/-- A proposition as a pair: it must hold. -/
noncomputable def prP (p : Prop) : Int × Int := (b2i (@decide p (Classical.propDecidable p)), 1)
theorem prP_of {p : Prop} (h : (prP p).1 = (prP p).2) : p := by
  have h1 : @decide p (Classical.propDecidable p) = true := b2i_inj (b := true) h
  exact @of_decide_eq_true p (Classical.propDecidable p) h1
theorem prP_ok {p : Prop} (h : p) : (prP p).1 = (prP p).2 := by
  have h1 : @decide p (Classical.propDecidable p) = true := @decide_eq_true p (Classical.propDecidable p) h
  unfold prP
  rw [h1]
  rfl
/-- How many loops stand in a piece of code. -/
def nIn (c : Code) : Nat := (loopsIn c).length
/-- The number of the first region in a piece of code. -/
def regC : Code → Option Nat
  | .region i _ _ => some i
  | .seq a b => match regC a with | some i => some i | none => regC b
  | .cond _ a b => match regC a with | some i => some i | none => regC b
  | .block _ c => regC c
  | .loop c => regC c
  | .scope c => regC c
  | _ => none
/-- Is a loop the one that is named: by how many loops stand in it; from 1000 on by its first region. -/
def isN (c : Code) (n : Nat) : Bool := bif Nat.ble 1000 n then (match regC c with | some i => Nat.beq i (n - 1000) | none => false) else Nat.beq (nIn c) n
theorem loopsIn_trans : ∀ {b c c' : Code}, c ∈ loopsIn b → c' ∈ loopsIn c → c' ∈ loopsIn b := by
  intro b
  induction b with
  | seq x y hx hy => intro c c' h h'; simp only [loopsIn, List.mem_append] at h ⊢; exact h.imp (hx · h') (hy · h')
  | cond g x y hx hy => intro c c' h h'; simp only [loopsIn, List.mem_append] at h ⊢; exact h.imp (hx · h') (hy · h')
  | block i x hx => intro c c' h h'; simp only [loopsIn] at h ⊢; exact hx h h'
  | loop x hx =>
    intro c c' h h'
    simp only [loopsIn, List.mem_cons] at h ⊢
    rcases h with rfl | h
    · exact .inr h'
    · exact .inr (hx h h')
  | scope x hx => intro c c' h h'; simp only [loopsIn] at h ⊢; exact hx h h'
  | _ => intro c c' h h'; simp [loopsIn] at h
/-- A loop, from a state on to its end: the one of its function in which so many loops stand. -/
structure LoopQ where
  f : FuncId
  n : Nat
  sel : St → Bool
  t : List Value
  h : List AO
  e : Exit
  t' : List Value
  h' : List AO
  m : Mk
noncomputable def loopQHook : List LoopQ → LoopHook
  | [] => fun _ _ _ => none
  | e :: l => fun fid c x =>
    if Nat.beq fid e.f && (isN c e.n && e.sel x) then some (e.e, ⟨e.t', e.h', low x.m (low (none, [prP (x.t = e.t), prP (x.h = e.h)]) e.m)⟩)
    else loopQHook l fid c x
def LoopQOk (P : Program) (e : LoopQ) : Prop := ∀ (fn : Func) (c : Code), P.funcs[e.f]? = some fn → fn.body = some c → ∀ c' ∈ loopsIn c, isN c' e.n = true →
  ∀ (wb : Wb) (k : Nat), Bnd k e.m → ∀ (s : Ren) (m m' : Mk) (a : Act) (w : World), SR wb k s ⟨e.t, e.h, m⟩ a w → (Code.loop c').wp P (Post wb k s ⟨e.t', e.h', m'⟩ e.e) a w
theorem loopQHook_low : ∀ (l : List LoopQ), LoopLow (loopQHook l)
  | [] => by intro f c x x' e h; cases h
  | q :: l => by
    intro f c x x' e h k hm
    unfold loopQHook at h
    split at h
    · cases h
      exact (bnd_low hm).1
    · exact loopQHook_low l f c x x' e h k hm
theorem loopQHook_ok {P : Program} : ∀ {l : List LoopQ}, (∀ e ∈ l, LoopQOk P e) → LoopsOk P (loopQHook l)
  | [], _ => by intro f fn c _ _ c' _ x x' e h; cases h
  | q :: l, hq => by
    intro f fn c hf hb c' hc x x' e h wb k s a w hm H
    unfold loopQHook at h
    split at h
    · rename_i hi
      cases h
      simp only [Bool.and_eq_true] at hi
      obtain ⟨h1, h2, h3⟩ := hi
      obtain rfl := Nat.eq_of_beq_eq_true h1
      obtain ⟨xt, xh, xm⟩ := x
      obtain ⟨hm1, hm2⟩ := bnd_low hm
      obtain ⟨hm3, hm4⟩ := bnd_low hm2
      have e1 : xt = q.t := prP_of (hm3.2 _ List.mem_cons_self)
      have e2 : xh = q.h := prP_of (hm3.2 _ (List.mem_cons_of_mem _ List.mem_cons_self))
      subst e1 e2
      exact hq q List.mem_cons_self fn c hf hb c' hc h2 wb k hm4 s xm _ a w H
    · exact loopQHook_ok (fun e he => hq e (List.mem_cons_of_mem _ he)) f fn c hf hb c' hc x x' e h wb k s a w hm H
/-- The loop of a function in which so many loops stand. -/
def loopsN (P : Program) (f : FuncId) (n : Nat) : List Code :=
  match P.funcs[f]? with
  | some fn =>
    match fn.body with
    | some c => (loopsIn c).filter fun c' => isN c' n
    | none => []
  | none => []
def theLoopN (P : Program) (f : FuncId) (n : Nat) : Code :=
  match loopsN P f n with
  | [c'] => c'
  | _ => .skip
def oneLoopN (P : Program) (f : FuncId) (n : Nat) : Bool :=
  match loopsN P f n with
  | [_] => true
  | _ => false
section
variable {P : Program}
theorem loopQ_ok {e : LoopQ} {N : Nat} (h1 : oneLoopN P e.f e.n = true) (hs : Stop P (theLoopN P e.f e.n) N e.t e.h e.e e.t' e.h' e.m) : LoopQOk P e := by
  intro fn c hf hb c' hc hn wb k hm s m m' a w H
  unfold oneLoopN at h1
  unfold theLoopN at hs
  have hmem : c' ∈ loopsN P e.f e.n := by
    unfold loopsN
    rw [hf]
    simp only [hb]
    exact List.mem_filter.2 ⟨hc, hn⟩
  split at h1
  · rename_i c0 hl
    rw [hl] at hmem hs
    rw [List.mem_singleton.1 hmem]
    exact wp_loop_rounds N (hs wb k hm s m a w H m')
  · cases h1
theorem loopV_of {lh : LoopHook} (hlo : LoopsOk P lh) {f : FuncId} {n : Nat} (h1 : oneLoopN P f n = true) : ∀ c' ∈ loopsIn (theLoopN P f n), LoopV P lh f c' := by
  unfold oneLoopN at h1
  unfold theLoopN
  split at h1
  · rename_i c0 hl
    intro c' hc
    have hmem : c0 ∈ loopsN P f n := by rw [hl]; exact List.mem_singleton.2 rfl
    unfold loopsN at hmem
    split at hmem
    · rename_i fn hf
      split at hmem
      · rename_i b hb
        exact hlo f fn b hf hb c' (loopsIn_trans (List.mem_filter.1 hmem).1 hc)
      · cases hmem
    · cases hmem
  · cases h1
noncomputable def bodyL (P : Program) (hk : Hook3) (orc : Orc) (lh : LoopHook) (fid : FuncId) (c : Code) : St → Option (Exit × St) := exG P (aOp P) (drawE P) hk orc accQ lh 100000 300 fid c
theorem bodyL_ok (hng : NoNG P) {hk : Hook3} (hhk : HookOk3 P hk) {lh : LoopHook} (hll : LoopLow lh) (hlo : LoopsOk P lh) (orc : Orc) (fid : FuncId) (c : Code) (hv : ∀ c' ∈ loopsIn c, LoopV P lh fid c') (wb : Wb) (k : Nat) (s : Ren) (x x' : St) (e : Exit) (a : Act) (w : World) (h : bodyL P hk orc lh fid c x = some (e, x')) (hm : Bnd k x'.m) (H : SR wb k s x a w) : c.wp P (Post wb k s x' e) a w :=
  exG_run accQ_eq hng (aOp_ok P hng) (drawE_ok P) (drawE_low P) hhk hll hlo 100000 300 wb k s fid c x x' e a w hv h hm H
theorem bodyL_low {hk : Hook3} (orc : Orc) {lh : LoopHook} (hll : LoopLow lh) (fid : FuncId) (c : Code) (k : Nat) (x x' : St) (e : Exit) (h : bodyL P hk orc lh fid c x = some (e, x')) (hm : Bnd k x'.m) : Bnd k x.m :=
  exG_low (drawE_low P) hll 100000 k 300 fid c x x' e h hm
noncomputable def hopRunL (P : Program) (hk : Hook3) (orc : Orc) (lh : LoopHook) (fid : FuncId) (c : Code) (n q : Nat) (keep : List Nat) (t : List Value) (h : List AO) : Option (List Value × List AO × Option Nat × List Int) :=
  match iterB (bodyL P hk orc lh fid c) n ⟨t, h, (none, [])⟩ with
  | some x => keepS q keep x
  | none => none
theorem hopL_ok (hng : NoNG P) {hk : Hook3} (hhk : HookOk3 P hk) {lh : LoopHook} (hll : LoopLow lh) (hlo : LoopsOk P lh) {orc : Orc} {fid : FuncId} {nn : Nat} (h1 : oneLoopN P fid nn = true) {n q : Nat} (keep : List Nat) {t t2 : List Value} {h h2 : List AO} {lo : Option Nat} {cs : Cs}
    (hr : hopRunL P hk orc lh fid (theLoopN P fid nn) n q keep t h = some (t2.map (reV (keepF q keep) 6), h2.map (reO (keepF q keep)), lo, inter cs)) (hb : hopC t2 h2 = true) (hc : ∀ c ∈ cs, c.1 = c.2) : HopQ P (theLoopN P fid nn) n q t h t2 h2 (lo, []) := by
  unfold hopRunL at hr
  split at hr
  · rename_i x hx
    obtain ⟨hm2, hk2⟩ := keepS_ok hr hb
    intro wb k hm hkq s m a w H N Q hQ
    refine iterB_ok (bodyL_ok hng hhk hll hlo orc fid _ (loopV_of hlo h1)) wb k (bodyL_low orc hll fid _ k) n ⟨t, h, (none, [])⟩ x hx (by rw [hm2]; exact ⟨hm.1, hc⟩) s a w ⟨H.t, H.d, H.h⟩ N Q fun s' a' w' hle H' => ?_
    obtain ⟨s2, h1, h3⟩ := hk2 wb k s' m a' w' hkq H'
    exact hQ s2 a' w' (fun i p hi hp => h1 i p hi (hle i p hp)) h3
  · cases hr
noncomputable def stopRunL (P : Program) (hk : Hook3) (orc : Orc) (lh : LoopHook) (fid : FuncId) (c : Code) (n q : Nat) (keep : List Nat) (t : List Value) (h : List AO) : Option (Exit × Option (List Value × List AO × Option Nat × List Int)) :=
  match loopN (bodyL P hk orc lh fid c) n ⟨t, h, (none, [])⟩ with
  | some (e, x) => some (e, keepS q keep x)
  | none => none
theorem stopL_any {body : St → Option (Exit × St)} {c : Code}
    (hb : ∀ (wb : Wb) (k : Nat) (s : Ren) (x x' : St) (e : Exit) (a : Act) (w : World), body x = some (e, x') → Bnd k x'.m → SR wb k s x a w → c.wp P (Post wb k s x' e) a w)
    (hl : ∀ (k : Nat) (x x' : St) (e : Exit), body x = some (e, x') → Bnd k x'.m → Bnd k x.m) {n : Nat} {t t' : List Value} {h h' : List AO} {e : Exit} {mE : Mk} (hr : loopN body n ⟨t, h, (none, [])⟩ = some (e, ⟨t', h', mE⟩)) : Stop P c n t h e t' h' mE := by
  intro wb k hm s m a w H m'
  have h1 := loopN_ok hb wb k (hl k) n ⟨t, h, (none, [])⟩ ⟨t', h', mE⟩ e hr hm s a w ⟨H.t, H.d, H.h⟩
  have mono : ∀ (n : Nat) (a : Act) (w : World), Code.rounds P c (Post wb k s ⟨t', h', mE⟩ e) n a w → Code.rounds P c (Post wb k s ⟨t', h', m'⟩ e) n a w := by
    intro n
    induction n with
    | zero => intro a w h; exact h
    | succ n ih =>
      intro a w h0
      rw [rounds_succ] at h0 ⊢
      refine Code.wp_mono (fun e' a' w' hp => ?_) h0
      cases e' <;> first | exact ih _ _ hp | exact ⟨hp.1, let ⟨s', h1, h2⟩ := hp.2; ⟨s', h1, ⟨h2.t, h2.d, h2.h⟩⟩⟩
  exact mono n a w h1
theorem stopL_ok (hng : NoNG P) {hk : Hook3} (hhk : HookOk3 P hk) {lh : LoopHook} (hll : LoopLow lh) (hlo : LoopsOk P lh) {orc : Orc} {fid : FuncId} {nn : Nat} (h1 : oneLoopN P fid nn = true) {n q : Nat} (keep : List Nat) {t t2 : List Value} {h h2 : List AO} {e : Exit} {lo : Option Nat} {cs : Cs}
    (hr : stopRunL P hk orc lh fid (theLoopN P fid nn) n q keep t h = some (e, some (t2.map (reV (keepF q keep) 6), h2.map (reO (keepF q keep)), lo, inter cs))) (hb : hopC t2 h2 = true) (hc : ∀ c ∈ cs, c.1 = c.2) : StopQ P (theLoopN P fid nn) n q t h e t2 h2 (lo, []) := by
  unfold stopRunL at hr
  split at hr
  · rename_i e1 x hx
    simp only [Option.some.injEq, Prod.mk.injEq] at hr
    obtain ⟨rfl, hr⟩ := hr
    obtain ⟨hm2, hk2⟩ := keepS_ok hr hb
    intro wb k hm hkq s m a w H m'
    obtain ⟨xt, xh, xm⟩ := x
    have st := stopL_any (bodyL_ok hng hhk hll hlo orc fid _ (loopV_of hlo h1)) (bodyL_low orc hll fid _) hx wb k (by rw [show xm = (lo, cs) from hm2]; exact ⟨hm.1, hc⟩) s m a w H xm
    exact rounds_mono (fun e' a' w' hp => ⟨hp.1, let ⟨s', h1, h2⟩ := hp.2; let ⟨s2, h3, h4⟩ := hk2 wb k s' m' a' w' hkq h2; ⟨s2, fun i p hi hq => h3 i p hi (h1 i p hq), h4⟩⟩) n a w st
  · cases hr
end
end Go.Proofs.Ytafegjmaldbbiaa.Ex
end
