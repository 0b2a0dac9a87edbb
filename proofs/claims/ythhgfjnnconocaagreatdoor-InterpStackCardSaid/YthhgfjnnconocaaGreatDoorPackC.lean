/-
  Lemmas for the laws of this seat, part C: Ex12, Ex13, Ex14, Ex15, NoNG, RkBase, RkSize, RkLoad, RkStore, RkStoreReg, RkReg.
-/
import Derived.Test.YthhgfjnnconocaaGreatDoorPackB
import Derived.Test.YthhgfjnnconocaaGreatDoorProg
section
namespace Go.Proofs.YthhgfjnnconocaaGreatDoor.Ex
set_option maxRecDepth 20000

open Go Go.RowKit

def lexMask (ops : Array Oper) (n : Nat) : Array Bool := ⟨List.replicate n true ++ List.replicate (ops.size - n) false⟩
/-- What memory is behind the head, in the text's order. -/
def lexHeap (k : Nat) : List HE → Nat → List AO → Option (List AO)
  | [], _, h => some h
  | e :: es, q, h =>
    match e.b, e.st with
    | [], none => lexHeap k es q h
    | b :: bs, none => lexHeap k es (q + (b :: bs).length) (layL h q (b :: bs))
    | [], some (a, vs) =>
      if a.block < k then
        match astore h a vs with
        | some h' => lexHeap k es q h'
        | none => none
      else none
    | _ :: _, some _ => none
/-- What the head marks. -/
def headM : List HE → Mk
  | [] => (none, [])
  | e :: es => low (e.st.map (·.1.block), e.d) (headM es)
theorem headM_bnd {k : Nat} : ∀ {es : List HE}, Bnd k (headM es) → ∀ (i : Nat) (e : HE), es[i]? = some e → (∀ a vs, e.st = some (a, vs) → k ≤ a.block) ∧ ∀ c ∈ e.d, c.1 = c.2
  | [], _, i, e, he => by simp at he
  | f :: es, h, i, e, he => by
    obtain ⟨h1, h2⟩ := bnd_low h
    cases i with
    | zero =>
      simp at he
      subst he
      exact ⟨fun a vs hs => h1.1 _ (by simp [hs]), h1.2⟩
    | succ i => exact headM_bnd h2 i e (by simpa using he)
/-- What only reckons, and lays nothing. -/
def pureE (e : HE) : Bool :=
  match e.b, e.st, e.rd with
  | [], none, .none => true
  | _, _, _ => false
def pureAt (es : List HE) (i : Nat) : Bool :=
  match es[i]? with
  | some e => pureE e
  | none => false
def readyB (ops : Array Oper) (listed : Array Bool) (i : Nat) : Bool :=
  match ops[i]? with
  | some o => !listed.getD i true && o.after.toList.all fun e => !Region.binds .any e || listed.getD e.on false
  | none => false
/-- Operations that only reckon may be taken ahead. -/
def prepL (ops : Array Oper) (es : List HE) : List Nat → Array Bool → Array Bool
  | [], listed => listed
  | i :: is, listed =>
    if pureAt es i && readyB ops listed i && Region.free .any ops listed i then prepL ops es is (listed.setIfInBounds i true)
    else prepL ops es is listed
def sinkL (ops : Array Oper) (n : Nat) (base : Array Bool) : Bool :=
  (List.range n).all fun i => base.getD i false || (List.range (n + 1)).any fun j => decide (i < j) && Region.waitsFor .any ops j i
def baseOf (ops : Array Oper) (n : Nat) (es : List HE) : Array Bool :=
  if n == ops.size || Region.sinkB .any ops n then Array.replicate ops.size false else prepL ops es (List.range n) (Array.replicate ops.size false)
/-- What stands behind the head is forced. -/
def tailL (ops : Array Oper) (n : Nat) (base : Array Bool) : Bool :=
  n == ops.size || (decide (n < ops.size) && sinkL ops n base && Region.chainB .any ops n && Region.seqB .any ops (ops.size - n) n (lexMask ops n))
def drawA (P : Program) : DrawFn := fun rec ops x =>
  match headRun P rec ops x.h ops.toList 0 x.t [] with
  | (n, t, l, es) =>
    if P.follows .mixedOrders && Region.noSelect ops && decide (n ≤ ops.size) && depsB ops n && memB ops n es && tailL ops n (baseOf ops n es) then
      match lexHeap x.h.length es x.h.length (x.h ++ List.replicate l.length dead) with
      | some h => seqA P (aOp P) rec ops (ops.toList.drop n) ⟨t, h, low x.m (headM es)⟩
      | none => none
    else none
theorem drawA_low (P : Program) : DrawLow (drawA P) := by
  intro rec ops x x' hr k hm
  unfold drawA at hr
  split at hr
  split at hr
  · split at hr
    · exact (bnd_low (seqA_low hr hm)).1
    · cases hr
  · cases hr

section
variable {P : Program} {rec : Rec} {ops : Array Oper} {n : Nat} {t0 t' : List Value} {h0 l' : List AO} {es : List HE} {T : Nat → List Value} {E : Nat → HE} {N : Nat → List AO}

theorem aload_same {h h0 : List AO} {a : Addr} {m : Nat} {o o' : AO} (h1 : h0[a.block]? = some o) (h2 : h[a.block]? = some o') (hl : o'.live = o.live) (he : o'.es = o.es) (hn : o'.cs.length = o.cs.length)
    (hc : ∀ z, a.off ≤ z → z < a.off + m → o'.cs[z]? = o.cs[z]?) : aload h a m = aload h0 a m := by
  unfold aload
  rw [h1, h2]
  have hm : isM o' = isM o := by unfold isM; rw [he]
  simp only [hl, hn, hm]
  split
  · congr 1
    refine List.ext_getElem? fun x => ?_
    rw [List.getElem?_take, List.getElem?_take]
    split
    · rw [List.getElem?_drop, List.getElem?_drop]
      exact hc _ (by omega) (by omega)
    · rfl
  · rfl
theorem oLoad_same {h h0 : List AO} {t : TypeId} {x v : Value} {r : List AO × Option Nat} (hr : oLoad P t x h0 = some (.value v, r)) (ha : ∀ a m, loadH P t x = some (a, m) → aload h a m = aload h0 a m) : oLoad P t x h = some (.value v, h, none) := by
  cases hd : P.underlying t with
  | none => cases x <;> simp [oLoad, hd] at hr
  | some d =>
    cases hi : P.info? t with
    | none => cases x <;> simp [oLoad, hd, hi] at hr
    | some i =>
      cases x with
      | pointer p =>
        cases p with
        | none => simp [oLoad] at hr
        | some a =>
          have h1 := ha a (if aggD d then i.size else 1) (by simp [loadH, hd, hi])
          simp only [oLoad, hd, hi] at hr ⊢
          by_cases hg : aggD d = true
          · simp only [hg, if_true] at hr h1 ⊢
            rw [h1]
            cases hl : aload h0 a i.size with
            | none => rw [hl] at hr; cases hr
            | some vs => rw [hl] at hr; cases hr; rfl
          · simp only [hg] at hr h1 ⊢
            simp only [Bool.false_eq_true, if_false] at hr h1 ⊢
            rw [h1]
            cases hl : aload h0 a 1 with
            | none => rw [hl] at hr; cases hr
            | some vs =>
              rw [hl] at hr
              cases vs with
              | nil => cases hr
              | cons u vs => cases hr; rfl
      | _ => simp [oLoad] at hr
theorem execOp_store {ρ : Operand → Value} {o : Oper} {t : TypeId} {x y : Operand} (h : o.op = .store t x y) : execOp ρ o = aunit (Instr.storeAt t (ρ x) (ρ y)) := by
  obtain ⟨dst, op, type, pos, after, guard⟩ := o
  simp only at h
  subst h
  rfl
/-- A store of the head: what it must find. -/
theorem storeH_spec {t : TypeId} {x y : Value} {a : Addr} {vs : List Value} (h : storeH P t x y h0 = some (a, vs)) :
    x = .pointer (some a) ∧ vs = y.cells.toList ∧ (∃ i, P.info? t = some i ∧ vs.length = i.size) ∧ vs.all (·.oneCell') = true ∧ ∃ o, h0[a.block]? = some o ∧ o.live = true ∧ isW o = true ∧ a.off + vs.length ≤ o.cs.length := by
  unfold storeH at h
  split at h
  · rename_i b i hi
    split at h
    · rename_i hc
      simp only [Bool.and_eq_true, beq_iff_eq] at hc
      split at h
      · rename_i o ho
        split at h
        · rename_i hl
          simp only [Bool.and_eq_true, decide_eq_true_eq] at hl
          simp only [Option.some.injEq, Prod.mk.injEq] at h
          obtain ⟨rfl, rfl⟩ := h
          exact ⟨rfl, rfl, ⟨i, hi, hc.1⟩, hc.2, o, ho, hl.1.1, hl.1.2, hl.2⟩
        · cases h
      · cases h
    · cases h
  · cases h
theorem isW_es {o o' : AO} (h : o'.es = o.es) : isW o' = isW o := by unfold isW; rw [h]
theorem astore_some {h : List AO} {a : Addr} {vs : List Value} {o : AO} (ho : h[a.block]? = some o) (hl : o.live = true) (hw : isW o = true) (hf : a.off + vs.length ≤ o.cs.length) : ∃ h', astore h a vs = some h' := by
  unfold astore
  rw [ho]
  simp [hl, hw, hf]
theorem store_run {wb : Wb} {k : Nat} {s : Ren} {h h' : List AO} {w : World} (H : HR wb k s h w) {t : TypeId} {a : Addr} {x' y y' : Value} (hx : VR s (.pointer (some a)) x') (hy : VR s y y') {i : TypeInfo} (hi : P.info? t = some i)
    (hl : y.cells.toList.length = i.size) (ho : y.cells.toList.all (·.oneCell') = true) (hst : astore h a y.cells.toList = some h') (hk : k ≤ a.block) :
    ∃ w', (aunit (Instr.storeAt t x' y')).run P w = .ok .skip w' ∧ HR wb k s h' w' := by
  obtain ⟨p, hs, hp, rfl⟩ := hx.ptr_inv
  obtain ⟨h1, h2, H'⟩ := astore_spec H hst hk hp hy.cells
  have hone : ∀ v ∈ y'.cells.toList, v.oneCell' = true := by
    intro v hv
    obtain ⟨j, hj⟩ := List.getElem?_of_mem hv
    obtain ⟨u, hu, huv⟩ := hy.cells.get' hj
    exact huv.one (all_get ho hu)
  have h3 := run_storeCells_cells (P := P) p.blk (p.off + a.off) y'.cells.toList 0 w (by simpa using h1) (by simpa using h2) hone
  have hsz : y'.cells.size = i.size := by rw [← hl, hy.cells.1]; simp
  exact ⟨_, by simp [aunit, Instr.storeAt, Instr.sureAddr, storeVar, run_size hi, hsz, h3], H'⟩

/-- The state when some of the head's operations are done. -/
def Mid (ops : Array Oper) (n : Nat) (t0 : List Value) (h0 : List AO) (E : Nat → HE) (N : Nat → List AO) (wb : Wb) (k : Nat) (s0 : Ren) (listed : Array Bool) (a : Act) (w : World) : Prop :=
  ∃ s t h, Le s0 s ∧ (∀ i, i < h0.length → s i = s0 i) ∧ LR s t a.tmps.toList ∧ a.defers = [] ∧ HR wb k s h w ∧ ((∀ j, j < n → (E j).st ≠ none → listed.getD j false = false) → HR wb k s0 h0 w) ∧
    MT ops n t0 E (fun i => listed.getD i false) t ∧ MH n h0 E N (fun i => listed.getD i false) h s

theorem glob_same {s : Ren} {h : List AO} {done : Nat → Bool} (hg : GlOk s h) (h1 : ∀ (x : Nat) (o : AO), h0[x]? = some o → ∃ o', h[x]? = some o' ∧ BlkAt n E done x o o') : GlOk s h0 := by
  intro g hgg
  refine hg g ?_
  unfold isG at hgg ⊢
  cases ho : h0[g]? with
  | none => rw [ho] at hgg; cases hgg
  | some o =>
    rw [ho] at hgg
    obtain ⟨o', e1, e2, e3, _⟩ := h1 g o ho
    rw [e1]
    simp only at hgg ⊢
    rw [e2, e3]
    exact hgg
theorem mask_next {listed : Array Bool} {i : Nat} (hi : i < listed.size) : (fun j => (listed.setIfInBounds i true).getD j false) = fun j => listed.getD j false || j == i := by
  funext j
  by_cases e : i = j
  · subst e
    simp [hi]
  · rw [getD_set_ne false e]
    simp [Ne.symm e]
theorem mid_ctx (S : HeadSpec P rec ops h0 ops.toList 0 n t0 [] t' l' es T E N) (hd : depsB ops n = true) {listed : Array Bool} (inv : HeadInv .any ops n listed) {t : List Value} (M : MT ops n t0 E (fun i => listed.getD i false) t) {i : Nat}
    (hr : i ∈ Region.ready .any ops listed) (hi : i < n) {o1 : Oper} (ho : ops[i]? = some o1) : (∀ y, y ∈ o1.op.operands → lookA t y = lookA (T i) y) ∧ wantedA ops t o1 = wantedA ops (T i) o1 := by
  obtain ⟨hun, o2, ho2, hall⟩ := mem_ready.1 hr
  have eo : o1 = o2 := Option.some.inj (ho.symm.trans ho2)
  subst eo
  obtain ⟨hd1, hd2⟩ := depsB_spec hd hi ho
  have hisz : i < listed.size := by rw [inv.size]; exact (Array.getElem?_eq_some_iff.1 ho).1
  have hnd : listed.getD i false = false := getD_both hun
  obtain ⟨g1, g2, g3⟩ := lex_ok S hd i (by omega)
  -- what the operation looks at is as in the text's order
  have agree : ∀ d, d ∈ o1.looksAt ops → t[d]? = (T i)[d]? := by
    intro d hdl
    by_cases hx : d < t0.length
    · by_cases hw : ∃ j p, j < n ∧ ops[j]? = some p ∧ p.dst = some d
      · obtain ⟨j, p, hj, hp, hpd⟩ := hw
        have hone : ∀ j' p', j' < n → ops[j']? = some p' → p'.dst = some d → j' = j := by
          intro j' p' hj' hp' hpd'
          rcases Nat.decEq j' j with hne | he
          · exact absurd hpd' ((depsB_spec hd hj' hp').2 j p d hj hp hpd hne).1
          · exact he
        rcases Nat.lt_trichotomy j i with hlt | heq | hgt
        · obtain ⟨e, he, hb, hon⟩ := waits_spec (((hd2 j p d hj hp hpd (by omega)).2 hdl).1 hlt)
          have hdone := hall e he hb
          rw [hon] at hdone
          rw [M.t1 j p d hj hp hpd hdone hx, g2 j p d hlt hp hpd hx]
        · rw [M.t2 d fun j' p' hj' hp' hdn hpd' => by
            have h5 := hone j' p' hj' hp' hpd'
            have h6 : listed.getD j' false = true := hdn
            rw [h5, heq, hnd] at h6
            cases h6]
          rw [g3 d fun j' p' hj' hp' hpd' => by
            have h5 := hone j' p' (by omega) hp' hpd'
            omega]
        · have hnj : listed.getD j false = false := by
            cases hq : listed.getD j false with
            | false => rfl
            | true =>
              obtain ⟨e, he, hb, hon⟩ := waits_spec (((hd2 j p d hj hp hpd (by omega)).2 hdl).2 hgt)
              have := inv.closed j p hp hq e he hb
              rw [hon, hnd] at this
              cases this
          rw [M.t2 d fun j' p' hj' hp' hdn hpd' => by
            have h5 := hone j' p' hj' hp' hpd'
            have h6 : listed.getD j' false = true := hdn
            rw [h5, hnj] at h6
            cases h6]
          rw [g3 d fun j' p' hj' hp' hpd' => by
            have h5 := hone j' p' (by omega) hp' hpd'
            omega]
      · have hn : ∀ j p, j < n → ops[j]? = some p → p.dst ≠ some d := fun j p hj hp e => hw ⟨j, p, hj, hp, e⟩
        rw [M.t2 d fun j p hj hp _ => hn j p hj hp, g3 d fun j p hj hp => hn j p (by omega) hp]
    · have hx' : t0.length ≤ d := Nat.le_of_not_lt hx
      rw [List.getElem?_eq_none (by rw [M.tl]; exact hx'), List.getElem?_eq_none (by rw [g1]; exact hx')]
  have hlook : ∀ y, y ∈ o1.op.operands → lookA t y = lookA (T i) y := by
    intro y hy
    cases y with
    | tmp d =>
      have : d ∈ o1.looksAt ops := by
        unfold Oper.looksAt
        refine List.mem_append_left _ (List.mem_filterMap.2 ⟨.tmp d, by simpa using hy, rfl⟩)
      simp only [lookA, List.getD, agree d this]
    | _ => rfl
  have hwant : wantedA ops t o1 = wantedA ops (T i) o1 := by
    unfold wantedA
    cases hg : o1.guard with
    | none => rfl
    | some gw =>
      obtain ⟨g, want⟩ := gw
      have : yA ops t g = yA ops (T i) g := by
        unfold yA
        cases hdg : (ops[g]?).bind (·.dst) with
        | none => rfl
        | some d =>
          have hm : d ∈ o1.looksAt ops := by
            unfold Oper.looksAt
            refine List.mem_append_right _ ?_
            rw [hg]
            simp [hdg]
          simp only [Option.bind_some, agree d hm]
      simp only [this]
  exact ⟨hlook, hwant⟩
theorem mid_pure (hng : NoNG P) (hacc : rec.acc = accP) (S : HeadSpec P rec ops h0 ops.toList 0 n t0 [] t' l' es T E N) (hd : depsB ops n = true) {k : Nat} {wb : Wb} {s0 : Ren} {listed : Array Bool} {a : Act} {w : World} (inv : HeadInv .any ops n listed)
    (J : Mid ops n t0 h0 E N wb k s0 listed a w) {i : Nat} (hr : i ∈ Region.ready .any ops listed) (hi : i < n) (hp : pureE (E i) = true) (hdi : ∀ c ∈ (E i).d, c.1 = c.2) :
    ∃ o v, ops[i]? = some o ∧ Yields P ops o v a ∧ Mid ops n t0 h0 E N wb k s0 (listed.setIfInBounds i true) (a.put o.dst v) w := by
  obtain ⟨s, t, h, hle, hbel, ht, hdf, H, H0, M, MM⟩ := J
  obtain ⟨o1, ho, hs, hT⟩ := op_at S hi
  obtain ⟨hlook, hwant⟩ := mid_ctx S hd inv M hr hi ho
  have hisz : i < listed.size := by rw [inv.size]; exact (Array.getElem?_eq_some_iff.1 ho).1
  have hmask := mask_next (i := i) hisz
  have hb : (E i).b = [] ∧ (E i).st = none ∧ (E i).rd = .none := by
    unfold pureE at hp
    split at hp
    · exact ⟨by assumption, by assumption, by assumption⟩
    · cases hp
  obtain ⟨hb1, hb2, hb3⟩ := hb
  have hno : (∀ j, j < n → (E j).st ≠ none → (listed.setIfInBounds i true).getD j false = false) → ∀ j, j < n → (E j).st ≠ none → listed.getD j false = false := by
    intro hh j hj hst
    have h1 := hh j hj hst
    have h2 := congrFun hmask j
    rw [h1] at h2
    cases hq : listed.getD j false with
    | false => rfl
    | true => rw [hq] at h2; simp at h2
  have go : ∀ v', VR s (E i).v v' → Mid ops n t0 h0 E N wb k s0 (listed.setIfInBounds i true) (a.put o1.dst v') w := by
    intro v' hv
    refine ⟨s, putA t o1.dst (E i).v, h, hle, hbel, put_ok ht o1.dst hv, by cases hq : o1.dst <;> simp [Act.put, hdf], H, fun hh => H0 (hno hh), ?_, ?_⟩
    · rw [hmask]; exact mt_next hd M hi ho
    · rw [hmask]; exact mh_still MM hb2 hb1
  obtain ⟨e0, cs0, hs, inj⟩ := headStep_inv hs hdi
  unfold headStep0 at hs
  rw [hacc] at hs
  simp only [accP] at hs
  split at hs
  · rename_i hwt
    split at hs
    · rename_i hok
      have hρ : ∀ y ∈ o1.op.operands, VR s (lookA (T i) y) (a.eval y) := fun y hy => by
        rw [← hlook y hy]
        exact eval_ok ht (glob_same H.glob MM.h1) (List.all_eq_true.1 hok y (by simpa using hy))
      split at hs
      · rw [← inj _ hs] at hb3
        cases hb3
      split at hs
      · split at hs
        · split at hs
          · rw [← inj _ hs] at hb3
            cases hb3
          · cases hs
        · cases hs
      split at hs
      · split at hs
        · rw [← inj _ hs] at hb3
          cases hb3
        · cases hs
      split at hs
      · split at hs
        · rename_i v cs1 hq
          have hE := inj _ hs
          have hcs1 : ∀ c ∈ cs1, c.1 = c.2 := fun c hc => hdi c (by rw [← hE]; exact List.mem_append_left _ hc)
          refine ⟨o1, v, ho, .inl ⟨by rw [wanted_ok ht, hwant]; exact hwt, fun w2 => (qsOp_ok (P := P) hρ hq hcs1 w2).1⟩, go v (by rw [← hE]; exact .same (qsOp_ok (P := P) hρ hq hcs1 w).2)⟩
        · split at hs
          · rw [← inj _ hs] at hb3
            cases hb3
          · split at hs
            · rw [← inj _ hs] at hb1
              cases hb1
            · split at hs
              · rw [← inj _ hs] at hb3
                cases hb3
              · split at hs
                · split at hs
                  · split at hs
                    · split at hs
                      · rw [← inj _ hs] at hb3
                        cases hb3
                      · cases hs
                    · cases hs
                  · cases hs
                · cases hs
      split at hs
      · rw [← inj _ hs] at hb1
        cases hb1
      · split at hs
        · rw [← inj _ hs] at hb1
          cases hb1
        · split at hs
          · rename_i v x1 x2 hso
            have hE := inj _ hs
            have hall : ∀ w, Okay0 P s [] w (execOp a.eval o1) (.value v, x1, x2) := fun w => sOp_ok P hng s [] w _ _ o1 _ (fun j p hj => by simp at hj) hρ hso
            obtain ⟨n', e1, e2, _⟩ := hall w
            cases n' <;> simp only [NR] at e2
            rename_i v'
            refine ⟨o1, v', ho, .inl ⟨by rw [wanted_ok ht, hwant]; exact hwt, fun w2 => ?_⟩, go v' (by rw [← hE]; exact e2)⟩
            obtain ⟨n2, g1, g2, _⟩ := hall w2
            cases n2 <;> simp only [NR] at g2
            rw [g1, VR.det g2 e2]
          · split at hs
            · split at hs
              · split at hs
                · rw [← inj _ hs] at hb3
                  cases hb3
                · cases hs
              · cases hs
            · split at hs
              · split at hs
                · split at hs
                  · rw [← inj _ hs] at hb3
                    cases hb3
                  · cases hs
                · cases hs
              · cases hs
          · split at hs
            · split at hs
              · rw [← inj _ hs] at hb2
                cases hb2
              · cases hs
            · split at hs
              · rw [← inj _ hs] at hb3
                cases hb3
              · cases hs
            · split at hs
              · rw [← inj _ hs] at hb3
                cases hb3
              · split at hs
                · split at hs
                  · split at hs
                    · rw [← inj _ hs] at hb3
                      cases hb3
                    · cases hs
                  · cases hs
                · cases hs
    · cases hs
  · rename_i hwt
    have hE := inj _ hs
    exact ⟨o1, undef, ho, .inr ⟨by rw [wanted_ok ht, hwant]; simpa using hwt, rfl⟩, go undef (by rw [← hE]; exact .same rfl)⟩
theorem mid_op (S : HeadSpec P rec ops h0 ops.toList 0 n t0 [] t' l' es T E N) (hd : depsB ops n = true) (hrec : RecOk P rec) (hmem : memB ops n es = true) {k : Nat} (hcs : Bnd k (headM es)) {wb : Wb} {s0 : Ren} {listed : Array Bool} {a : Act} {w : World}
    (hk : k ≤ h0.length) (inv : HeadInv .any ops n listed) (J : Mid ops n t0 h0 E N wb k s0 listed a w) {i : Nat} (hr : i ∈ Region.ready .any ops listed) (hi : i < n) {Q : Exit → Act → World → Prop} {K : Act → World → Prop}
    (hK : ∀ a' w', Mid ops n t0 h0 E N wb k s0 (listed.setIfInBounds i true) a' w' → K a' w') : wpOp P ops Q i K a w := by
  obtain ⟨s, t, h, hle, hbel, ht, hdf, H, H0, M, MM⟩ := J
  obtain ⟨hun, o1, ho1, hall⟩ := mem_ready.1 hr
  obtain ⟨o, ho, hs, hT⟩ := op_at S hi
  have eo : o1 = o := Option.some.inj (ho1.symm.trans ho)
  subst eo
  obtain ⟨hd1, hd2⟩ := depsB_spec hd hi ho
  have hisz : i < listed.size := by rw [inv.size]; exact (Array.getElem?_eq_some_iff.1 ho).1
  have hnd : listed.getD i false = false := getD_both hun
  obtain ⟨g1, g2, g3⟩ := lex_ok S hd i (by omega)
  -- what the operation looks at is as in the text's order
  have agree : ∀ d, d ∈ o1.looksAt ops → t[d]? = (T i)[d]? := by
    intro d hdl
    by_cases hx : d < t0.length
    · by_cases hw : ∃ j p, j < n ∧ ops[j]? = some p ∧ p.dst = some d
      · obtain ⟨j, p, hj, hp, hpd⟩ := hw
        have hone : ∀ j' p', j' < n → ops[j']? = some p' → p'.dst = some d → j' = j := by
          intro j' p' hj' hp' hpd'
          rcases Nat.decEq j' j with hne | he
          · exact absurd hpd' ((depsB_spec hd hj' hp').2 j p d hj hp hpd hne).1
          · exact he
        rcases Nat.lt_trichotomy j i with hlt | heq | hgt
        · obtain ⟨e, he, hb, hon⟩ := waits_spec (((hd2 j p d hj hp hpd (by omega)).2 hdl).1 hlt)
          have hdone := hall e he hb
          rw [hon] at hdone
          rw [M.t1 j p d hj hp hpd hdone hx, g2 j p d hlt hp hpd hx]
        · rw [M.t2 d fun j' p' hj' hp' hdn hpd' => by
            have h5 := hone j' p' hj' hp' hpd'
            have h6 : listed.getD j' false = true := hdn
            rw [h5, heq, hnd] at h6
            cases h6]
          rw [g3 d fun j' p' hj' hp' hpd' => by
            have h5 := hone j' p' (by omega) hp' hpd'
            omega]
        · have hnj : listed.getD j false = false := by
            cases hq : listed.getD j false with
            | false => rfl
            | true =>
              obtain ⟨e, he, hb, hon⟩ := waits_spec (((hd2 j p d hj hp hpd (by omega)).2 hdl).2 hgt)
              have := inv.closed j p hp hq e he hb
              rw [hon, hnd] at this
              cases this
          rw [M.t2 d fun j' p' hj' hp' hdn hpd' => by
            have h5 := hone j' p' hj' hp' hpd'
            have h6 : listed.getD j' false = true := hdn
            rw [h5, hnj] at h6
            cases h6]
          rw [g3 d fun j' p' hj' hp' hpd' => by
            have h5 := hone j' p' (by omega) hp' hpd'
            omega]
      · have hn : ∀ j p, j < n → ops[j]? = some p → p.dst ≠ some d := fun j p hj hp e => hw ⟨j, p, hj, hp, e⟩
        rw [M.t2 d fun j p hj hp _ => hn j p hj hp, g3 d fun j p hj hp => hn j p (by omega) hp]
    · have hx' : t0.length ≤ d := Nat.le_of_not_lt hx
      rw [List.getElem?_eq_none (by rw [M.tl]; exact hx'), List.getElem?_eq_none (by rw [g1]; exact hx')]
  have hlook : ∀ y, y ∈ o1.op.operands → lookA t y = lookA (T i) y := by
    intro y hy
    cases y with
    | tmp d =>
      have : d ∈ o1.looksAt ops := by
        unfold Oper.looksAt
        refine List.mem_append_left _ (List.mem_filterMap.2 ⟨.tmp d, by simpa using hy, rfl⟩)
      simp only [lookA, List.getD, agree d this]
    | _ => rfl
  have hwant : wantedA ops t o1 = wantedA ops (T i) o1 := by
    unfold wantedA
    cases hg : o1.guard with
    | none => rfl
    | some gw =>
      obtain ⟨g, want⟩ := gw
      have : yA ops t g = yA ops (T i) g := by
        unfold yA
        cases hdg : (ops[g]?).bind (·.dst) with
        | none => rfl
        | some d =>
          have hm : d ∈ o1.looksAt ops := by
            unfold Oper.looksAt
            refine List.mem_append_right _ ?_
            rw [hg]
            simp [hdg]
          simp only [Option.bind_some, agree d hm]
      simp only [this]
  have hmask := mask_next (i := i) hisz
  have hEi := eff_at S hi
  obtain ⟨hbi, hdi⟩ := headM_bnd hcs i _ hEi
  have hno : (∀ j, j < n → (E j).st ≠ none → (listed.setIfInBounds i true).getD j false = false) → ∀ j, j < n → (E j).st ≠ none → listed.getD j false = false := by
    intro hh j hj hst
    have h1 := hh j hj hst
    have h2 := congrFun hmask j
    rw [h1] at h2
    cases hq : listed.getD j false with
    | false => rfl
    | true => rw [hq] at h2; simp at h2
  -- what waits for it is not done
  have behind : ∀ j oj, ops[j]? = some oj → waits oj i = true → listed.getD j false = false := by
    intro j oj hoj hw
    cases hq : listed.getD j false with
    | false => rfl
    | true =>
      obtain ⟨e, he, hb, hon⟩ := waits_spec hw
      have := inv.closed j oj hoj hq e he hb
      rw [hon, hnd] at this
      cases this
  have reads : (E i).rd = .any → HR wb k s0 h0 w := by
    intro hrd
    refine H0 fun j hj hst => ?_
    obtain ⟨⟨b, vs⟩, hs'⟩ := Option.ne_none_iff_exists'.1 hst
    by_cases e : i = j
    · rw [← e]; exact hnd
    · obtain ⟨oj, hoj, _, _⟩ := op_at S hj
      exact behind j oj hoj ((memB_spec hmem hj (eff_at S hj) hs' hi e hEi hoj).2.1 hrd)
  have mr0 : HR wb k s0 h0 w → MR s h0 w := fun H' j p hj hl => by
    obtain ⟨q, hq, he, hb⟩ := H'.obj j p hj hl
    exact ⟨q, hle _ _ hq, he, hb.mono hle⟩
  have mrn : MR s [] w := fun j p hj _ => by simp at hj
  -- how it goes on
  have still : ∀ (v' : Value) (w' : World), (E i).b = [] → (E i).st = none → VR s (E i).v v' → Gr w w' → K (a.put o1.dst v') w' := by
    intro v' w' hb hst hv hg
    refine hK _ _ ⟨s, putA t o1.dst (E i).v, h, hle, hbel, put_ok ht o1.dst hv, by cases hq : o1.dst <;> simp [Act.put, hdf], H.grow hg, fun hh => (H0 (hno hh)).grow hg, ?_, ?_⟩
    · rw [hmask]; exact mt_next hd M hi ho
    · rw [hmask]; exact mh_still MM hst hb
  unfold wpOp
  rw [ho]
  simp only
  rw [wanted_ok ht, hwant]
  obtain ⟨e0, cs0, hs, inj⟩ := headStep_inv hs hdi
  unfold headStep0 at hs
  rw [hrec.2.2.2] at hs
  simp only [accP] at hs
  split at hs
  · rename_i hwt
    rw [if_pos hwt]
    left
    split at hs
    · rename_i hok
      have hρ : ∀ y ∈ o1.op.operands, VR s (lookA (T i) y) (a.eval y) := fun y hy => by
        rw [← hlook y hy]
        exact eval_ok ht (glob_same H.glob MM.h1) (List.all_eq_true.1 hok y (by simpa using hy))
      split at hs
      · rename_i v htl
        have hE := inj _ hs
        have H1 := reads (by rw [← hE])
        have hso := sameC_ok (b2i_inj (b := true) (hdi (b2i (sameC (sOp P (lookA (T i)) o1 h0) (some (.value v, h0, none))), 1) (by rw [← hE]; simp)))
        obtain ⟨n', e1, e2, _⟩ := sOp_ok P hrec.2.2.1 s h0 w _ _ o1 _ (mr0 H1) hρ hso
        unfold Oper.wp
        rw [e1]
        cases n' <;> simp only [NR] at e2
        exact still _ _ (by rw [← hE]) (by rw [← hE]) (by rw [← hE]; exact e2) (Gr.refl w)
      split at hs
      · -- flatC
        split at hs
        · rename_i f args x1 x2 hso
          split at hs
          · rename_i v cs3 hca
            have hE := inj _ hs
            have H1 := reads (by rw [← hE])
            obtain ⟨n', e1, e2, _⟩ := sOp_ok P hrec.2.2.1 s [] w _ _ o1 _ mrn hρ hso
            unfold Oper.wp
            rw [e1]
            cases n' <;> simp only [NR] at e2
            rename_i g args'
            obtain ⟨rfl, hargs⟩ := e2
            have hd0 : ∀ c ∈ ((b2i (args.toList.all flat && flat v), 1) : Int × Int) :: cs3, c.1 = c.2 := fun c hc => hdi c (by rw [← hE]; exact List.mem_append_left _ hc)
            have hfl := b2i_inj (b := true) (hd0 _ (List.mem_cons_self ..))
            simp only [Bool.and_eq_true] at hfl
            have hea := hargs.eq_of_flat hfl.1
            obtain ⟨al⟩ := args'
            simp only at hea
            rw [hea]
            refine (hrec.2.1 _ args.toList h0 v [] cs3 hca (fun c hc => hd0 c (List.mem_cons_of_mem _ hc)) w h0.length s0 w args.toList (fun i hi => by cases hi) H1.here (LR.ofFlat hfl.1)).mono ?_
            rintro e w' ⟨s', v', rfl, hle1, H', hvr⟩
            have hv0 : (E i).v = v := by rw [← hE]
            exact still v' w' (by rw [← hE]) (by rw [← hE]) (by rw [hv0, hvr.eq_of_flat hfl.2]; exact .same hfl.2) H'.grown.gr
          · cases hs
        · cases hs
      split at hs
      · split at hs
        · rename_i v cs1 hq
          have hE := inj _ hs
          have H1 := reads (by rw [← hE])
          obtain ⟨n', e1, e2, _⟩ := tOp_ok (P := P) (mr0 H1) hρ hq (fun c hc => hdi c (by rw [← hE]; exact List.mem_append_left _ hc))
          unfold Oper.wp
          rw [e1]
          cases n' <;> simp only [NR] at e2
          exact still _ _ (by rw [← hE]) (by rw [← hE]) (by rw [← hE]; exact e2) (Gr.refl w)
        · cases hs
      split at hs
      · split at hs
        · rename_i v cs1 hq
          have hE := inj _ hs
          obtain ⟨e1, e2⟩ := qsOp_ok (P := P) hρ hq (fun c hc => hdi c (by rw [← hE]; exact List.mem_append_left _ hc)) w
          unfold Oper.wp
          rw [e1]
          exact still _ _ (by rw [← hE]) (by rw [← hE]) (by rw [← hE]; exact .same e2) (Gr.refl w)
        · split at hs
          · rename_i v cs1 hq
            have hE := inj _ hs
            have H1 := reads (by rw [← hE])
            obtain ⟨n', e1, e2, _⟩ := xsOp_ok (P := P) (mr0 H1) hρ hq (fun c hc => hdi c (by rw [← hE]; exact List.mem_append_left _ hc))
            unfold Oper.wp
            rw [e1]
            cases n' <;> simp only [NR] at e2
            exact still _ _ (by rw [← hE]) (by rw [← hE]) (by rw [← hE]; exact e2) (Gr.refl w)
          · split at hs
            · rename_i cs0' x cs1 hn
              have hE := inj _ hs
              have hb : (E i).b = [⟨true, none, cs0'⟩] := by rw [← hE]
              have hst : (E i).st = none := by rw [← hE]
              obtain ⟨arr, Ty, e1, e2⟩ := bMk_ok (P := P) hρ hn (fun c hc => hdi c (by rw [← hE]; exact List.mem_append_left _ hc)) w
              obtain ⟨q1, q2⟩ := MM.h3 i 0 _ hi (by rw [hb]; rfl) hnd
              simp only [Nat.add_zero] at q1 q2
              have hql : h0.length + (N i).length < h.length := (List.getElem?_eq_some_iff.1 q1).1
              obtain ⟨H', hle'⟩ := H.fill q2 hql (by omega) Ty e2
              have hg : Gr w (w.alloc (.cells arr Ty)) := Gr.alloc (Gr.refl w) arr Ty
              unfold Oper.wp
              rw [e1]
              refine hK _ _ ⟨_, putA t o1.dst (E i).v, _, hle.trans hle', fun j hj => ?_, put_ok (ht.mono hle') o1.dst ?_, by cases hq : o1.dst <;> simp [Act.put, hdf], H', fun hh => (H0 (hno hh)).grow hg, ?_, ?_⟩
              · rw [upd_other _ _ (by omega)]; exact hbel j hj
              · rw [← hE]
                exact mkNew_ok (upd_same _ _ _) (some x)
              · rw [hmask]; exact mt_next hd M hi ho
              · rw [hmask, ← layL_one hql, ← hb]
                exact mh_new S MM hi hst _ fun q hq => upd_other _ _ fun e => hq (by rw [hb, e]; simp)
            · split at hs
              · rename_i v cs1 hq
                have hE := inj _ hs
                have H1 := reads (by rw [← hE])
                have hdc : ∀ c ∈ cs1, c.1 = c.2 := fun c hc => hdi c (by rw [← hE]; exact List.mem_append_left _ hc)
                obtain ⟨src, dst, x, a0, l, c, b, cs', hop, hx, hle0, hnb, hlv, him, hbo, hfv, rfl⟩ := bTx_inv hq
                have hfl : b.cs.all flat = true := b2i_inj (b := true) (hdc _ (List.mem_cons_self ..))
                have hNn := N_pre S n (i := i) (by omega) (Nat.le_refl _)
                have hjl : a0.block - h0.length < (N i).length := (List.getElem?_eq_some_iff.1 hnb).1
                have hx' : VR s (.slice (some a0) l c) (a.eval x) := by
                  rw [← hx]
                  exact hρ x (by rw [hop]; simp [Op.operands])
                have hpl : (List.replicate (a0.block - h0.length) dead ++ [b]).length = a0.block - h0.length + 1 := by simp
                have HB := (HR.both H H1 hbel (fun x o hx hl => by
                  obtain ⟨o', h4, h5⟩ := MM.h1 x o hx
                  exact ⟨o', h4, h5.1.trans hl⟩) (pad := List.replicate (a0.block - h0.length) dead ++ [b]) (fun y o hy hl => by
                  have hyj : y = a0.block - h0.length ∧ o = b := by
                    by_cases e : y < a0.block - h0.length
                    · rw [List.getElem?_append_left (by simpa using e), List.getElem?_replicate, if_pos e] at hy
                      cases hy
                      cases hl
                    · rw [List.getElem?_append_right (by simpa using Nat.le_of_not_lt e), List.length_replicate] at hy
                      cases e2 : y - (a0.block - h0.length) with
                      | zero => rw [e2] at hy; exact ⟨by omega, by simpa using hy.symm⟩
                      | succ z => rw [e2] at hy; simp at hy
                  obtain ⟨rfl, rfl⟩ := hyj
                  refine ⟨?_, hfl, him⟩
                  obtain ⟨j, z, cs, hj, hb, hz⟩ := N_sur S i (by omega) _ hjl
                  have h6 := (N_at S (i := j) (by omega) hb).1
                  rw [hz, hNn.2 _ hjl, hnb] at h6
                  cases h6
                  cases hq : listed.getD j false with
                  | true =>
                    have := MM.h2 j z _ (by omega) hb hq
                    rwa [Nat.add_assoc, hz] at this
                  | false =>
                    have := (MM.h3 j z _ (by omega) hb hq).2
                    rw [Nat.add_assoc, hz] at this
                    obtain ⟨p, _, _, hp, _⟩ := hx'.slice_inv
                    rw [show h0.length + (a0.block - h0.length) = a0.block by omega] at this
                    rw [this] at hp
                    cases hp)).here
                obtain ⟨s', v', w', e1, hle1, H', hvr⟩ := bOp_ok (P := P) HB (ρ' := a.eval) (fun y hy => by
                  rw [hop] at hy
                  obtain rfl : y = x := by simpa [Op.operands] using hy
                  rw [hx]
                  exact newArg_ok (n := h0.length) (nid := a0.block + 1) (by omega) (fun j hj => by rw [hpl, if_pos (by omega)]) hx' (by simp [newArg])) hbo (fun c hc => hdc c (List.mem_cons_of_mem _ hc))
                unfold Oper.wp
                rw [e1]
                have hv0 : (E i).v = v := by rw [← hE]
                exact still v' w' (by rw [← hE]) (by rw [← hE]) (by rw [hv0, hvr.eq_of_flat hfv]; exact .same hfv) H'.grown.gr
              · split at hs
                · rename_i f args x1 x2 hso
                  split at hs
                  · rename_i hblw
                    split at hs
                    · rename_i v h1 m3 cs3 hca
                      split at hs
                      · rename_i hcond
                        simp only [Bool.and_eq_true] at hcond
                        obtain ⟨hq3, hrv⟩ := hcond
                        have hE := inj _ hs
                        have H1 := reads (by rw [← hE])
                        obtain ⟨n', e1, e2, _⟩ := sOp_ok P hrec.2.2.1 s [] w _ _ o1 _ mrn hρ hso
                        unfold Oper.wp
                        rw [e1]
                        cases n' <;> simp only [NR] at e2
                        rename_i g args'
                        obtain ⟨rfl, hargs⟩ := e2
                        have enid : h0.length + (N i).length - h0.length = (N i).length := by omega
                        rw [enid] at hca
                        have HP := (H1.pad (N i).length).here
                        rw [List.length_append, List.length_replicate] at HP
                        have hdd : ∀ c ∈ cs3 ++ (h1.drop (h0.length + (N i).length)).map (fun o => ((b2i (o.cs.all scal), 1) : Int × Int)), c.1 = c.2 := fun c hc => hdi c (by rw [← hE]; exact List.mem_append_left _ hc)
                        refine (callA_ok hrec hca (wb := w) (k := h0.length + (N i).length) ⟨quietB_ok hq3, fun c hc => hdd c (List.mem_append_left _ hc)⟩ (hargs.blw hbel hblw) HP).mono ?_
                        rintro e w' ⟨s', v', rfl, hle1, H', hvr⟩
                        have hb : (E i).b = h1.drop (h0.length + (N i).length) := by rw [← hE]
                        have hst : (E i).st = none := by rw [← hE]
                        have hv0 : (E i).v = v := by rw [← hE]
                        rw [← hb] at hrv
                        have hro : ∀ f, (E i).b.all (refO f) = true := fun f => List.all_eq_true.2 fun o ho => refO_scal (b2i_inj (b := true) (hdd (b2i (o.cs.all scal), 1) (List.mem_append_right _ (List.mem_map.2 ⟨o, by rw [← hb]; exact ho, rfl⟩))))
                        have hfit : h0.length + (N i).length + (E i).b.length ≤ h.length := by rw [MM.hl]; have := N_fit S hi; omega
                        have hlive : ∀ x, liveB h0 x = true → x < h0.length ∧ ∃ p, s0 x = some p := by
                          intro x hx
                          unfold liveB at hx
                          split at hx
                          · rename_i o ho
                            obtain ⟨p, hp, _⟩ := H1.obj x o ho hx
                            exact ⟨(List.getElem?_eq_some_iff.1 ho).1, p, hp⟩
                          · cases hx
                        obtain ⟨H2, hle2, hok⟩ := H.layNew (q := h0.length + (N i).length) (bs := (E i).b) hfit (by omega) (fun x hx1 hx2 => by
                            have hy : x - (h0.length + (N i).length) < (E i).b.length := by omega
                            have := (MM.h3 i (x - (h0.length + (N i).length)) _ hi (List.getElem?_eq_getElem hy) hnd).2
                            rwa [show h0.length + (N i).length + (x - (h0.length + (N i).length)) = x by omega] at this)
                          H' (fun x o ho => by rw [hb, List.getElem?_drop] at ho; exact ho) (old := liveB h0) (fun x hx => by have := (hlive x hx).1; omega)
                          (fun x hx => by
                            obtain ⟨hx1, p, hp⟩ := hlive x hx
                            rw [hbel x hx1, hp]
                            exact hle1 x p hp) (hro _)
                        refine hK _ _ ⟨_, putA t o1.dst (E i).v, _, hle.trans hle2, fun j hj => ?_, put_ok (ht.mono hle2) o1.dst ?_, by cases hq : o1.dst <;> simp [Act.put, hdf], H2, fun hh => (H0 (hno hh)).grow H'.grown.gr, ?_, ?_⟩
                        · rw [if_neg (by omega)]; exact hbel j hj
                        · rw [hv0]; exact hvr.refs hok 6 hrv
                        · rw [hmask]; exact mt_next hd M hi ho
                        · rw [hmask]
                          exact mh_new S MM hi hst _ fun q hq => if_neg hq
                      · cases hs
                    · cases hs
                  · cases hs
                · cases hs
      split at hs
      · rename_i cs sh hn
        have hE := inj _ hs
        have hb : (E i).b = [⟨true, none, cs⟩] := by rw [← hE]
        have hst : (E i).st = none := by rw [← hE]
        obtain ⟨arr, Ty, e1, e2⟩ := nOp_ok hρ hn w
        obtain ⟨q1, q2⟩ := MM.h3 i 0 _ hi (by rw [hb]; rfl) hnd
        simp only [Nat.add_zero] at q1 q2
        have hql : h0.length + (N i).length < h.length := (List.getElem?_eq_some_iff.1 q1).1
        obtain ⟨H', hle'⟩ := H.fill q2 hql (by omega) Ty e2
        have hg : Gr w (w.alloc (.cells arr Ty)) := Gr.alloc (Gr.refl w) arr Ty
        unfold Oper.wp
        rw [e1]
        refine hK _ _ ⟨_, putA t o1.dst (E i).v, _, hle.trans hle', fun j hj => ?_, put_ok (ht.mono hle') o1.dst ?_, by cases hq : o1.dst <;> simp [Act.put, hdf], H', fun hh => (H0 (hno hh)).grow hg, ?_, ?_⟩
        · rw [upd_other _ _ (by omega)]; exact hbel j hj
        · rw [← hE]
          exact mkNew_ok (upd_same _ _ _) sh
        · rw [hmask]; exact mt_next hd M hi ho
        · rw [hmask, ← layL_one hql, ← hb]
          exact mh_new S MM hi hst _ fun q hq => upd_other _ _ fun e => hq (by rw [hb, e]; simp)
      · split at hs
        · rename_i ao l hf
          have hE := inj _ hs
          have hb : (E i).b = [ao] := by rw [← hE]
          have hst : (E i).st = none := by rw [← hE]
          obtain ⟨arr, Ty, al, ae, e1, e2, e3, e4⟩ := fOp_ok hρ hf w
          obtain ⟨live, eso, cs⟩ := ao
          simp only at al ae e1 e3
          subst al
          subst ae
          obtain ⟨q1, q2⟩ := MM.h3 i 0 _ hi (by rw [hb]; rfl) hnd
          simp only [Nat.add_zero] at q1 q2
          have hql : h0.length + (N i).length < h.length := (List.getElem?_eq_some_iff.1 q1).1
          obtain ⟨H', hle'⟩ := H.drew.fillF q2 hql (by omega) Ty (some 1) rfl (arr.size, arr.size + 1) (fun o ho hh => by have := hh.1; omega) e1 (fun o v hv => ⟨v, (e3 o v hv).1, .same (e3 o v hv).2⟩)
          have hg : Gr w (w.drew.alloc (.cells arr Ty (arr.size, arr.size + 1))) := (Gr.drew (Gr.refl w)).allocO _
          unfold Oper.wp
          rw [e4]
          refine hK _ _ ⟨_, putA t o1.dst (E i).v, _, hle.trans hle', fun j hj => ?_, put_ok (ht.mono hle') o1.dst ?_, by cases hq : o1.dst <;> simp [Act.put, hdf], H', fun hh => (H0 (hno hh)).grow hg, ?_, ?_⟩
          · rw [upd_other _ _ (by omega)]; exact hbel j hj
          · rw [← hE]
            exact VR.slice (a := ⟨h0.length + (N i).length, 0, none⟩) rfl (upd_same _ _ _) (by unfold CapOk; exact ⟨by omega, by simp only [Nat.zero_add, Nat.mul_one, Nat.add_zero], e2⟩)
          · rw [hmask]; exact mt_next hd M hi ho
          · rw [hmask, ← layL_one hql, ← hb]
            exact mh_new S MM hi hst _ fun q hq => upd_other _ _ fun e => hq (by rw [hb, e]; simp)
        · split at hs
          · rename_i v x1 x2 hso
            have hE := inj _ hs
            obtain ⟨n', e1, e2, _⟩ := sOp_ok P hrec.2.2.1 s [] w _ _ o1 _ mrn hρ hso
            unfold Oper.wp
            rw [e1]
            cases n' <;> simp only [NR] at e2
            exact still _ _ (by rw [← hE]) (by rw [← hE]) (by rw [← hE]; exact e2) (Gr.refl w)
          · rename_i f args x1 x2 hso
            split at hs
            · rename_i hblw
              split at hs
              · rename_i v h1 m3 cs3 hca
                split at hs
                · rename_i hcond
                  simp only [Bool.and_eq_true] at hcond
                  obtain ⟨⟨hq3, hrv⟩, hro⟩ := hcond
                  have hE := inj _ hs
                  have H1 := reads (by rw [← hE])
                  obtain ⟨n', e1, e2, _⟩ := sOp_ok P hrec.2.2.1 s [] w _ _ o1 _ mrn hρ hso
                  unfold Oper.wp
                  rw [e1]
                  cases n' <;> simp only [NR] at e2
                  rename_i g args'
                  obtain ⟨rfl, hargs⟩ := e2
                  have enid : h0.length + (N i).length - h0.length = (N i).length := by omega
                  rw [enid] at hca
                  have HP := (H1.pad (N i).length).here
                  rw [List.length_append, List.length_replicate] at HP
                  refine (callA_ok hrec hca (wb := w) (k := h0.length + (N i).length) ⟨quietB_ok hq3, fun c hc => hdi c (by rw [← hE]; exact List.mem_append_left _ hc)⟩ (hargs.blw hbel hblw) HP).mono ?_
                  rintro e w' ⟨s', v', rfl, hle1, H', hvr⟩
                  have hb : (E i).b = h1.drop (h0.length + (N i).length) := by rw [← hE]
                  have hst : (E i).st = none := by rw [← hE]
                  have hv0 : (E i).v = v := by rw [← hE]
                  rw [← hb] at hrv hro
                  have hfit : h0.length + (N i).length + (E i).b.length ≤ h.length := by rw [MM.hl]; have := N_fit S hi; omega
                  have hlive : ∀ x, liveB h0 x = true → x < h0.length ∧ ∃ p, s0 x = some p := by
                    intro x hx
                    unfold liveB at hx
                    split at hx
                    · rename_i o ho
                      obtain ⟨p, hp, _⟩ := H1.obj x o ho hx
                      exact ⟨(List.getElem?_eq_some_iff.1 ho).1, p, hp⟩
                    · cases hx
                  obtain ⟨H2, hle2, hok⟩ := H.layNew (q := h0.length + (N i).length) (bs := (E i).b) hfit (by omega) (fun x hx1 hx2 => by
                      have hy : x - (h0.length + (N i).length) < (E i).b.length := by omega
                      have := (MM.h3 i (x - (h0.length + (N i).length)) _ hi (List.getElem?_eq_getElem hy) hnd).2
                      rwa [show h0.length + (N i).length + (x - (h0.length + (N i).length)) = x by omega] at this)
                    H' (fun x o ho => by rw [hb, List.getElem?_drop] at ho; exact ho) (old := liveB h0) (fun x hx => by have := (hlive x hx).1; omega)
                    (fun x hx => by
                      obtain ⟨hx1, p, hp⟩ := hlive x hx
                      rw [hbel x hx1, hp]
                      exact hle1 x p hp) hro
                  refine hK _ _ ⟨_, putA t o1.dst (E i).v, _, hle.trans hle2, fun j hj => ?_, put_ok (ht.mono hle2) o1.dst ?_, by cases hq : o1.dst <;> simp [Act.put, hdf], H2, fun hh => (H0 (hno hh)).grow H'.grown.gr, ?_, ?_⟩
                  · rw [if_neg (by omega)]; exact hbel j hj
                  · rw [hv0]; exact hvr.refs hok 6 hrv
                  · rw [hmask]; exact mt_next hd M hi ho
                  · rw [hmask]
                    exact mh_new S MM hi hst _ fun q hq => if_neg hq
                · cases hs
              · cases hs
            · split at hs
              · rename_i hnew
                split at hs
                · rename_i v h1 m3 cs3 hca
                  split at hs
                  · rename_i hcond
                    simp only [Bool.and_eq_true] at hcond
                    obtain ⟨hfv, hq3⟩ := hcond
                    have hE := inj _ hs
                    have H1 := reads (by rw [← hE])
                    obtain ⟨n', e1, e2, _⟩ := sOp_ok P hrec.2.2.1 s [] w _ _ o1 _ mrn hρ hso
                    unfold Oper.wp
                    rw [e1]
                    cases n' <;> simp only [NR] at e2
                    rename_i g args'
                    obtain ⟨rfl, hargs⟩ := e2
                    have hNn := N_pre S n (i := i) (by omega) (Nat.le_refl _)
                    have HB := (HR.both H H1 hbel (fun x o hx hl => by
                      obtain ⟨o', h4, h5⟩ := MM.h1 x o hx
                      exact ⟨o', h4, h5.1.trans hl⟩) (pad := padL args.toList h0.length (N i)) (fun y o hy hl => by
                      obtain ⟨p1, p2, p3, p4⟩ := padL_get hy hl
                      refine ⟨?_, p3, p4⟩
                      have hyl := (List.getElem?_eq_some_iff.1 p1).1
                      obtain ⟨j, z, cs, hj, hb, hz⟩ := N_sur S i (by omega) y hyl
                      have h6 := (N_at S (i := j) (by omega) hb).1
                      rw [hz, hNn.2 y hyl, p1] at h6
                      cases h6
                      cases hq : listed.getD j false with
                      | true =>
                        have := MM.h2 j z _ (by omega) hb hq
                        rwa [Nat.add_assoc, hz] at this
                      | false =>
                        have := (MM.h3 j z _ (by omega) hb hq).2
                        rw [Nat.add_assoc, hz] at this
                        obtain ⟨p, hp⟩ := ments_some hargs p2
                        rw [this] at hp
                        cases hp)).here
                    rw [List.length_append, padL_length] at HB
                    refine (callA_ok hrec hca (wb := w) (k := h0.length + (N i).length) ⟨quietB_ok hq3, fun c hc => hdi c (by rw [← hE]; exact List.mem_append_left _ hc)⟩
                      (newArgs_ok (by omega) (fun j hj => by rw [if_pos hj]) hargs hnew) HB).mono ?_
                    rintro e w' ⟨s', v', rfl, hle1, H', hvr⟩
                    have hv0 : (E i).v = v := by rw [← hE]
                    exact still v' w' (by rw [← hE]) (by rw [← hE]) (by rw [hv0, hvr.eq_of_flat hfv]; exact .same hfv) H'.grown.gr
                  · cases hs
                · cases hs
              · cases hs
          · split at hs
            · rename_i ty x y hop
              split at hs
              · rename_i st hsh
                obtain ⟨b, vs⟩ := st
                have hE := inj _ hs
                have hst : (E i).st = some (b, vs) := by rw [← hE]
                have hbn : (E i).b = [] := by rw [← hE]
                obtain ⟨hx, hvs, ⟨info, hinfo, hlen⟩, hone, o0, ho0, hlive, hwr, hfit⟩ := storeH_spec hsh
                obtain ⟨o2, ho2, q1, q2, q3, _, _⟩ := MM.h1 _ _ ho0
                obtain ⟨h', hst'⟩ := astore_some (vs := vs) ho2 (q1.trans hlive) (by rw [isW_es q2]; exact hwr) (by omega)
                have hmh := mh_store S hmem MM hi hbn hst ho0 hfit hst'
                have vx := hρ x (by rw [hop]; simp [Op.operands])
                have vy := hρ y (by rw [hop]; simp [Op.operands])
                rw [hx] at vx
                obtain ⟨w', e1, H'⟩ := store_run (P := P) H vx vy hinfo (by rw [← hvs]; exact hlen) (by rw [← hvs]; exact hone) (by rw [← hvs]; exact hst') (hbi b vs hst)
                unfold Oper.wp
                rw [execOp_store hop, e1]
                refine hK _ _ ⟨s, putA t o1.dst (E i).v, h', hle, hbel, put_ok ht o1.dst (by rw [← hE]; exact .same rfl), by cases hq : o1.dst <;> simp [Act.put, hdf], H', fun hh => ?_, ?_, ?_⟩
                · have h1 := hh i hi (by rw [hst]; simp)
                  have h2 := congrFun hmask i
                  rw [h1] at h2
                  simp at h2
                · rw [hmask]; exact mt_next hd M hi ho
                · rw [hmask]; exact hmh
              · cases hs
            · rename_i ty x hop
              split at hs
              · rename_i v x1 x2 b m hl hlh
                have hE := inj _ hs
                have hl' : oLoad P ty (lookA (T i) x) h = some (.value v, h, none) := by
                  refine oLoad_same hl fun b' m' hlh' => ?_
                  rw [hlh] at hlh'
                  simp only [Option.some.injEq, Prod.mk.injEq] at hlh'
                  obtain ⟨rfl, rfl⟩ := hlh'
                  cases ho0 : h0[b.block]? with
                  | none =>
                    exfalso
                    have : ∀ m, aload h0 b m = none := fun m => by unfold aload; rw [ho0]
                    unfold loadH at hlh
                    split at hlh
                    · rename_i b' d' i' h1 h2 h3
                      simp only [Option.some.injEq, Prod.mk.injEq] at hlh
                      obtain ⟨rfl, _⟩ := hlh
                      simp [oLoad, h1, h2, h3, this] at hl
                    · cases hlh
                  | some o0 =>
                    obtain ⟨o2, ho2, q1, q2, q3, q4, q5⟩ := MM.h1 _ _ ho0
                    refine aload_same ho0 ho2 q1 q2 q3 fun z hz1 hz2 => q5 z fun j c us hj hst hdn hcb hz => ?_
                    by_cases e : i = j
                    · subst e
                      rw [← hE] at hst
                      cases hst
                    · obtain ⟨oj, hoj, _, _⟩ := op_at S hj
                      rcases (memB_spec hmem hj (eff_at S hj) hst hi e hEi hoj).2.2 b m (by rw [← hE]) with hw | hdj
                      · have h9 : listed.getD j false = true := hdn
                        rw [behind j oj hoj hw] at h9
                        cases h9
                      · have := disj_spec hdj hcb.symm
                        omega
                have hso : sOp P (lookA (T i)) o1 h = some (.value v, h, none) := by simp only [sOp, hop]; exact hl'
                obtain ⟨n', e1, e2, _⟩ := sOp_ok P hrec.2.2.1 s h w _ _ o1 _ H.mr hρ hso
                unfold Oper.wp
                rw [e1]
                cases n' <;> simp only [NR] at e2
                exact still _ _ (by rw [← hE]) (by rw [← hE]) (by rw [← hE]; exact e2) (Gr.refl w)
              · cases hs
            · split at hs
              · rename_i v x1 x2 hso
                have hE := inj _ hs
                have H1 := reads (by rw [← hE])
                obtain ⟨n', e1, e2, _⟩ := sOp_ok P hrec.2.2.1 s h0 w _ _ o1 _ (mr0 H1) hρ hso
                unfold Oper.wp
                rw [e1]
                cases n' <;> simp only [NR] at e2
                exact still _ _ (by rw [← hE]) (by rw [← hE]) (by rw [← hE]; exact e2) (Gr.refl w)
              · split at hs
                · rename_i hopb
                  simp only [Bool.and_eq_true] at hopb
                  obtain ⟨_, hblw⟩ := hopb
                  split at hs
                  · rename_i v h1 m3 hca
                    split at hs
                    · rename_i hcond
                      simp only [Bool.and_eq_true] at hcond
                      obtain ⟨⟨hq3, hrv⟩, hro⟩ := hcond
                      have hE := inj _ hs
                      have H1 := reads (by rw [← hE])
                      have enid : h0.length + (N i).length - h0.length = (N i).length := by omega
                      rw [enid] at hca
                      have HP := (H1.pad (N i).length).here
                      rw [List.length_append, List.length_replicate] at HP
                      obtain ⟨s', n', w', e1, hle1, H', e2⟩ := aOp_ok P hrec.2.2.1 w (h0.length + (N i).length) s0 _ w _ (a.eval ·) o1 _ HP (fun y hy => (hρ y hy).blw hbel (List.all_eq_true.1 hblw y (by simpa using hy))) hca (quietB_ok hq3)
                      simp only at H' e2
                      unfold Oper.wp
                      rw [e1]
                      cases n' <;> simp only [NR] at e2
                      rename_i v'
                      have hvr := e2
                      have hb : (E i).b = h1.drop (h0.length + (N i).length) := by rw [← hE]
                      have hst : (E i).st = none := by rw [← hE]
                      have hv0 : (E i).v = v := by rw [← hE]
                      rw [← hb] at hrv hro
                      have hfit : h0.length + (N i).length + (E i).b.length ≤ h.length := by rw [MM.hl]; have := N_fit S hi; omega
                      have hlive : ∀ x, liveB h0 x = true → x < h0.length ∧ ∃ p, s0 x = some p := by
                        intro x hx
                        unfold liveB at hx
                        split at hx
                        · rename_i o ho
                          obtain ⟨p, hp, _⟩ := H1.obj x o ho hx
                          exact ⟨(List.getElem?_eq_some_iff.1 ho).1, p, hp⟩
                        · cases hx
                      obtain ⟨H2, hle2, hok⟩ := H.layNew (q := h0.length + (N i).length) (bs := (E i).b) hfit (by omega) (fun x hx1 hx2 => by
                          have hy : x - (h0.length + (N i).length) < (E i).b.length := by omega
                          have := (MM.h3 i (x - (h0.length + (N i).length)) _ hi (List.getElem?_eq_getElem hy) hnd).2
                          rwa [show h0.length + (N i).length + (x - (h0.length + (N i).length)) = x by omega] at this)
                        H' (fun x o ho => by rw [hb, List.getElem?_drop] at ho; exact ho) (old := liveB h0) (fun x hx => by have := (hlive x hx).1; omega)
                        (fun x hx => by
                          obtain ⟨hx1, p, hp⟩ := hlive x hx
                          rw [hbel x hx1, hp]
                          exact hle1 x p hp) hro
                      refine hK _ _ ⟨_, putA t o1.dst (E i).v, _, hle.trans hle2, fun j hj => ?_, put_ok (ht.mono hle2) o1.dst ?_, by cases hq : o1.dst <;> simp [Act.put, hdf], H2, fun hh => (H0 (hno hh)).grow H'.grown.gr, ?_, ?_⟩
                      · rw [if_neg (by omega)]; exact hbel j hj
                      · rw [hv0]; exact hvr.refs hok 6 hrv
                      · rw [hmask]; exact mt_next hd M hi ho
                      · rw [hmask]
                        exact mh_new S MM hi hst _ fun q hq => if_neg hq
                    · cases hs
                  · cases hs
                · cases hs
    · cases hs
  · rename_i hwt
    rw [if_neg hwt]
    have hE := inj _ hs
    exact still _ _ (by rw [← hE]) (by rw [← hE]) (by rw [← hE]; exact .same rfl) (Gr.refl w)

/-- How many of the head's operations are not done. -/
def left (n : Nat) (listed : Array Bool) : Nat := ((List.range n).filter fun i => !listed.getD i false).length
theorem left_zero {n : Nat} {listed : Array Bool} (h : left n listed = 0) {i : Nat} (hi : i < n) : listed.getD i false = true := by
  unfold left at h
  have h1 := List.length_eq_zero_iff.1 h
  cases hq : listed.getD i false with
  | true => rfl
  | false =>
    have : i ∈ (List.range n).filter fun i => !listed.getD i false := List.mem_filter.2 ⟨List.mem_range.2 hi, by simp only [hq]; rfl⟩
    rw [h1] at this
    cases this
theorem filter_drop_one {p q : Nat → Bool} : ∀ (l : List Nat) (i : Nat), l.Nodup → i ∈ l → p i = true → q i = false → (∀ j, j ≠ i → q j = p j) → (l.filter q).length + 1 = (l.filter p).length
  | [], i, _, hi, _, _, _ => by cases hi
  | x :: l, i, hn, hi, hp, hq, he => by
    rw [List.nodup_cons] at hn
    by_cases e : x = i
    · subst e
      have : l.filter q = l.filter p := List.filter_congr fun j hj => he j fun e => hn.1 (e ▸ hj)
      simp [hp, hq, this]
    · have hi' : i ∈ l := by
        rcases List.mem_cons.1 hi with h | h
        · exact absurd h.symm e
        · exact h
      have ih := filter_drop_one l i hn.2 hi' hp hq he
      rw [List.filter_cons, List.filter_cons, he x e]
      split
      · simp; omega
      · exact ih
theorem left_next {n : Nat} {listed : Array Bool} {i : Nat} (hi : i < n) (hs : i < listed.size) (hu : listed.getD i false = false) : left n (listed.setIfInBounds i true) + 1 = left n listed := by
  unfold left
  refine filter_drop_one (List.range n) i List.nodup_range (List.mem_range.2 hi) (by rw [hu]; rfl) ?_ fun j hj => ?_
  · have h7 : (listed.setIfInBounds i true).getD i false = (listed.getD i false || i == i) := congrFun (mask_next hs) i
    rw [h7]
    simp
  · rw [getD_set_ne false (Ne.symm hj)]

theorem readyB_spec {listed : Array Bool} {i : Nat} (h : readyB ops listed i = true) : i ∈ Region.ready .any ops listed := by
  unfold readyB at h
  split at h
  · rename_i o ho
    simp only [Bool.and_eq_true, Bool.not_eq_true'] at h
    refine mem_ready.2 ⟨h.1, o, ho, fun e he hb => ?_⟩
    have := List.all_eq_true.1 h.2 e (by simpa using he)
    simpa [hb] using this
  · cases h
theorem tail_waitsL {base listed : Array Bool} (hs : sinkL ops n base = true) (hb : ∀ i, base.getD i false = true → listed.getD i false = true) (hc : ∀ t, n < t → t < ops.size → ∃ j, n ≤ j ∧ j < ops.size ∧ Region.waitsFor .any ops t j = true) (hn : n < ops.size) (inv : HeadInv .any ops n listed) :
    ∀ (d i : Nat), n - i = d → i < n → listed.getD i true = false → ∀ t, n ≤ t → t ∉ Region.ready .any ops listed := by
  intro d
  induction d using Nat.strongRecOn with
  | _ d ih =>
    intro i hd hi hun t ht hr
    obtain ⟨_, ot, hot, hall⟩ := mem_ready.1 hr
    have htlt : t < ops.size := (Array.getElem?_eq_some_iff.1 hot).1
    by_cases htn : t = n
    · subst htn
      have h1 := List.all_eq_true.1 hs i (List.mem_range.2 hi)
      simp only [Bool.or_eq_true] at h1
      rcases h1 with h1 | h1
      · have := hb i h1
        rw [getD_both hun] at this
        cases this
      obtain ⟨j, hj, hj2⟩ := List.any_eq_true.1 h1
      simp only [Bool.and_eq_true, decide_eq_true_eq] at hj2
      obtain ⟨oj, hoj, e, he, hb', hon⟩ := Region.waitsFor_spec hj2.2
      have hjle : j ≤ t := by have := List.mem_range.1 hj; omega
      by_cases hjt : j = t
      · subst hjt
        have : oj = ot := Option.some.inj (hoj.symm.trans hot)
        subst this
        have h2 := hall e he hb'
        rw [hon, getD_both hun] at h2
        cases h2
      · cases hl : listed.getD j false with
        | true =>
          have h2 := inv.closed j oj hoj hl e he hb'
          rw [hon, getD_both hun] at h2
          cases h2
        | false =>
          have hjs : j < listed.size := by rw [inv.size]; omega
          exact ih (t - j) (by omega) j rfl (by omega) (getD_in hjs hl) t (Nat.le_refl _) hr
    · obtain ⟨j, hj1, hj2, h1⟩ := hc t (by omega) htlt
      obtain ⟨o', ho', e, he, hb', hon⟩ := Region.waitsFor_spec h1
      have : o' = ot := Option.some.inj (ho'.symm.trans hot)
      subst this
      have h2 := hall e he hb'
      rw [hon, getD_both (inv.tail j hj1 hj2)] at h2
      cases h2
theorem chain_back (hc : Region.chainB .any ops n = true) : ∀ t, n < t → t < ops.size → ∃ j, n ≤ j ∧ j < ops.size ∧ Region.waitsFor .any ops t j = true := by
  intro t ht hlt
  have h1 := List.all_eq_true.1 hc t (List.mem_range.2 hlt)
  simp only [Bool.or_eq_true, decide_eq_true_eq] at h1
  rcases h1 with h1 | h1
  · omega
  · exact ⟨t - 1, by omega, by omega, h1⟩
theorem prep_ok (hng : NoNG P) (hacc : rec.acc = accP) (S : HeadSpec P rec ops h0 ops.toList 0 n t0 [] t' l' es T E N) (hd : depsB ops n = true) (hsel : Region.noSelect ops = true) {k : Nat} (hcs : Bnd k (headM es)) {wb : Wb} {s0 : Ren} {Q : Exit → Act → World → Prop} (hQp : ∀ c a w, ¬ Q (.panic c) a w) {g : Nat} {w : World} :
    ∀ (l : List Nat) (listed : Array Bool) (a : Act), (∀ i ∈ l, i < n) → HeadInv .any ops n listed → Mid ops n t0 h0 E N wb k s0 listed a w →
    (∀ a', HeadInv .any ops n (prepL ops es l listed) → Mid ops n t0 h0 E N wb k s0 (prepL ops es l listed) a' w → wpAny P .any ops Q (left n (prepL ops es l listed) + g) (prepL ops es l listed) a' w) →
    wpAny P .any ops Q (left n listed + g) listed a w
  | [], listed, a, _, inv, J, h => h a inv J
  | i :: is, listed, a, hl, inv, J, h => by
    simp only [prepL] at h
    split at h
    · rename_i hc
      simp only [Bool.and_eq_true] at hc
      obtain ⟨⟨hp, hrd⟩, hfr⟩ := hc
      have hi : i < n := hl i (by simp)
      have hr := readyB_spec hrd
      have hp' : pureE (E i) = true := by
        unfold pureAt at hp
        rw [eff_at S hi] at hp
        exact hp
      obtain ⟨o, v, ho, hy, J'⟩ := mid_pure hng hacc S hd inv J hr hi hp' (headM_bnd hcs i _ (eff_at S hi)).2
      have hisz : i < listed.size := by rw [inv.size]; exact (Array.getElem?_eq_some_iff.1 ho).1
      have hln := left_next hi hisz (getD_both (mem_ready.1 hr).1)
      rw [show left n listed + g = (left n (listed.setIfInBounds i true) + g) + 1 by omega]
      refine wpAny_take ho hsel hfr (by simpa using hr) (fun c a w h => absurd h (hQp c _ w)) hy ?_
      exact prep_ok hng hacc S hd hsel hcs hQp is _ _ (fun j hj => hl j (by simp [hj])) (inv.set hr hi) J' h
    · exact prep_ok hng hacc S hd hsel hcs hQp is listed a (fun j hj => hl j (by simp [hj])) inv J h
theorem head_any (S : HeadSpec P rec ops h0 ops.toList 0 n t0 [] t' l' es T E N) (hd : depsB ops n = true) (hrec : RecOk P rec) (hmem : memB ops n es = true) {k : Nat} (hcs : Bnd k (headM es)) (hnl : n ≤ ops.size) {base : Array Bool} (hs : n < ops.size → sinkL ops n base = true ∧ ∀ t, n < t → t < ops.size → ∃ j, n ≤ j ∧ j < ops.size ∧ Region.waitsFor .any ops t j = true)
    {wb : Wb} {s0 : Ren} (hk : k ≤ h0.length) {Q : Exit → Act → World → Prop} {g : Nat}
    (hend : ∀ listed a w, HeadInv .any ops n listed → (∀ i, i < n → listed.getD i false = true) → Mid ops n t0 h0 E N wb k s0 listed a w → wpAny P .any ops Q g listed a w) :
    ∀ (f : Nat) (listed : Array Bool) (a : Act) (w : World), HeadInv .any ops n listed → (∀ i, base.getD i false = true → listed.getD i false = true) → left n listed = f → Mid ops n t0 h0 E N wb k s0 listed a w → wpAny P .any ops Q (f + g) listed a w
  | 0, listed, a, w, inv, _, hl, J => by rw [Nat.zero_add]; exact hend listed a w inv (fun i hi => left_zero hl hi) J
  | f + 1, listed, a, w, inv, hbs, hl, J => by
    -- one that is not done, the first of them
    have hex : ∃ i, i < n ∧ listed.getD i false = false := by
      rcases Classical.em (∃ i, i < n ∧ listed.getD i false = false) with h | h
      · exact h
      · have : (List.range n).filter (fun i => !listed.getD i false) = [] := List.filter_eq_nil_iff.2 fun i hi => by
          have hi' := List.mem_range.1 hi
          cases hq : listed.getD i false with
          | true => simp
          | false => exact absurd ⟨i, hi', hq⟩ h
        unfold left at hl
        rw [this] at hl
        cases hl
    have hfirst : ∃ i, i < n ∧ listed.getD i false = false ∧ ∀ j, j < i → listed.getD j false = true := by
      obtain ⟨i, hi, hu⟩ := hex
      induction i using Nat.strongRecOn with
      | _ i ih =>
        rcases Classical.em (∃ j, j < i ∧ listed.getD j false = false) with ⟨j, hj, hju⟩ | h
        · exact ih j hj (by omega) hju
        · refine ⟨i, hi, hu, fun j hj => ?_⟩
          cases hq : listed.getD j false with
          | true => rfl
          | false => exact absurd ⟨j, hj, hq⟩ h
    obtain ⟨i, hi, hu, hbel⟩ := hfirst
    have hisz : i < listed.size := by rw [inv.size]; omega
    obtain ⟨o, ho, _, _⟩ := op_at S hi
    have hri : i ∈ Region.ready .any ops listed := mem_ready.2 ⟨getD_in hisz hu, o, ho, fun e he hb => hbel _ ((depsB_spec hd hi ho).1 e he hb)⟩
    rw [show f + 1 + g = (f + g) + 1 by omega]
    refine ⟨fun h0 => (by rw [h0] at hri; cases hri), fun j hj => ?_⟩
    have hjn : j < n := by
      rcases Nat.lt_or_ge j n with h | h
      · exact h
      · obtain ⟨_, oj, hoj, _⟩ := mem_ready.1 hj
        have hjs := (Array.getElem?_eq_some_iff.1 hoj).1
        obtain ⟨h1, h2⟩ := hs (by omega)
        exact absurd hj (tail_waitsL h1 hbs h2 (by omega) inv _ i rfl hi (getD_in hisz hu) j h)
    have hju := getD_both (mem_ready.1 hj).1
    have hjs : j < listed.size := by rw [inv.size]; omega
    refine mid_op S hd hrec hmem hcs hk inv J hj hjn fun a' w' J' => ?_
    refine head_any S hd hrec hmem hcs hnl hs hk hend f _ a' w' (inv.set hj hjn) (fun m hm => ?_) ?_ J'
    · have h8 := congrFun (mask_next (listed := listed) hjs) m
      rw [hbs m hm] at h8
      simpa using h8
    have := left_next hjn hjs hju
    omega
/-- The text's own order leaves what every order leaves. -/
theorem lexHeap_ok (S : HeadSpec P rec ops h0 ops.toList 0 n t0 [] t' l' es T E N) (hmem : memB ops n es = true) {s : Ren} {h' : List AO} : ∀ (f i : Nat) (h : List AO), f + i = n → MH n h0 E N (fun j => decide (j < i)) h (fun j => if j < h0.length then s j else none) →
    lexHeap h0.length (es.drop i) (h0.length + (N i).length) h = some h' → MH n h0 E N (fun _ => true) h' (fun j => if j < h0.length then s j else none)
  | 0, i, h, hi, M, hr => by
    obtain rfl : i = n := by omega
    have hlen : es.length = i := by have := S.len; omega
    rw [List.drop_eq_nil_of_le (by omega)] at hr
    simp only [lexHeap, Option.some.injEq] at hr
    subst hr
    refine ⟨M.hl, fun x o hx => ?_, fun j y cs hj hb _ => M.h2 j y cs hj hb (by simpa using hj), fun j y cs hj hb hf => by cases hf⟩
    obtain ⟨o', g1, g2, g3, g4, g5, g6⟩ := M.h1 x o hx
    exact ⟨o', g1, g2, g3, g4, fun j a vs y hj hst _ => g5 j a vs y hj hst (by simpa using hj), fun z hz => g6 z fun j a vs hj hst _ => hz j a vs hj hst rfl⟩
  | f + 1, i, h, hi, M, hr => by
    have hin : i < n := by omega
    have hEi := eff_at S hin
    have hlt : i < es.length := (List.getElem?_eq_some_iff.1 hEi).1
    rw [List.drop_eq_getElem_cons hlt, (List.getElem?_eq_some_iff.1 hEi).2] at hr
    simp only [lexHeap] at hr
    obtain ⟨o, _, _, _, hN⟩ := S.step i (by omega) hin
    have hmask : (fun j => decide (j < i + 1)) = fun j => decide (j < i) || j == i := by
      funext j
      by_cases e : j = i
      · subst e; simp
      · have : (j == i) = false := by simpa using e
        rw [this, Bool.or_false]
        exact decide_eq_decide.2 (by omega)
    split at hr
    · rename_i hb hst
      refine lexHeap_ok S hmem f (i + 1) h (by omega) ?_ (by rw [hN, hb]; simpa [addNew] using hr)
      rw [hmask]
      exact mh_still M hst hb
    · rename_i b bs hb hst
      refine lexHeap_ok S hmem f (i + 1) _ (by omega) ?_ (by rw [hN, hb]; simpa only [addNew, List.length_append, Nat.add_assoc] using hr)
      rw [hmask]
      have := mh_new S M hin hst (fun j => if j < h0.length then s j else none) fun _ _ => rfl
      rw [hb] at this
      exact this
    · rename_i a vs hb hst
      split at hr
      · rename_i hbl
        split at hr
        · rename_i h1 hs1
          refine lexHeap_ok S hmem f (i + 1) h1 (by omega) ?_ (by rw [hN, hb]; simpa [addNew] using hr)
          rw [hmask]
          have ho0 : h0[a.block]? = some h0[a.block] := List.getElem?_eq_getElem hbl
          obtain ⟨o2, ho2, q1, q2, q3, _, _⟩ := M.h1 _ _ ho0
          refine mh_store S hmem M hin hb hst ho0 ?_ hs1
          unfold astore at hs1
          rw [ho2] at hs1
          simp only at hs1
          split at hs1
          · rename_i hc
            simp at hc
            omega
          · cases hs1
        · cases hr
      · cases hr
    · cases hr

theorem drawA_any (P : Program) {rec : Rec} (hrec : RecOk P rec) {ops : Array Oper} {x x' : St} (hr : drawA P rec ops x = some x') {wb : Wb} {k : Nat} {s : Ren} {a : Act} {w : World} (hm : Bnd k x'.m) (HS : SR wb k s x a w) :
    P.follows .mixedOrders = true ∧ wpAny P .any ops (Post wb k s x' .normal) ops.size (Array.replicate ops.size false) a w.drew := by
  unfold drawA at hr
  cases hh : headRun P rec ops x.h ops.toList 0 x.t [] with
  | mk n tl =>
    obtain ⟨t, l, es⟩ := tl
    rw [hh] at hr
    simp only at hr
    split at hr
    · rename_i hc
      split at hr
      rotate_left
      · cases hr
      rename_i hN hlex
      simp only [Bool.and_eq_true, decide_eq_true_eq] at hc
      obtain ⟨⟨⟨⟨⟨hmix, hsel⟩, hnl⟩, hdp⟩, hmem⟩, htl⟩ := hc
      obtain ⟨T, E, N, S⟩ := headRun_spec hrec.2.2.2 _ _ _ _ _ _ _ _ hh
      have hcs : Bnd k (headM es) := (bnd_low (seqA_low hr hm)).2
      refine ⟨hmix, ?_⟩
      have H0 : HR wb k s x.h w.drew := HS.h.drew
      have hlf : MH n x.h E N (fun _ => true) hN (fun j => if j < x.h.length then s j else none) := by
        refine lexHeap_ok S hmem n 0 _ (by omega) ?_ (by simpa [S.l0] using hlex)
        rw [show (fun j => decide (j < 0)) = fun _ => false by funext j; simp, ← S.ln]
        exact mh_start S fun i hi => if_neg (by omega)
      have J : Mid ops n x.t x.h E N wb k s (Array.replicate ops.size false) a w.drew := by
        have e : (fun i => (Array.replicate ops.size false).getD i false) = fun _ => false := by funext i; exact getD_replicate_false _ _
        refine ⟨s, x.t, _, Le.refl s, fun _ _ => rfl, HS.t, HS.d, H0.pad (N n).length, fun _ => H0, ?_, ?_⟩
        · rw [e]; exact mt_start
        · rw [e]; exact mh_start S H0.dom
      have inv : HeadInv .any ops n (Array.replicate ops.size false) :=
        ⟨by simp, fun j _ _ hl => (by rw [getD_replicate_false] at hl; cases hl), fun t _ h2 => getD_in (by simpa using h2) (getD_replicate_false _ _)⟩
      have hleft : left n (Array.replicate ops.size false) = n := by
        unfold left
        rw [List.filter_eq_self.2 fun i _ => by rw [getD_replicate_false]; rfl]
        simp
      have hsc : n < ops.size → sinkL ops n (baseOf ops n es) = true ∧ ∀ t, n < t → t < ops.size → ∃ j, n ≤ j ∧ j < ops.size ∧ Region.waitsFor .any ops t j = true := by
        intro hlt
        unfold tailL at htl
        simp only [Bool.or_eq_true, beq_iff_eq, Bool.and_eq_true, decide_eq_true_eq] at htl
        rcases htl with h | h
        · omega
        · exact ⟨h.1.1.2, chain_back h.1.2⟩
      have A := head_any S hdp hrec hmem hcs hnl hsc (wb := wb) (s0 := s) HS.h.kle (Q := Post wb k s x' .normal) (g := ops.size - n) (fun listed a' w' inv' hall J' => ?_)
      · have e2 : left n (Array.replicate ops.size false) + (ops.size - n) = ops.size := by omega
        have fin : wpAny P .any ops (Post wb k s x' .normal) (left n (Array.replicate ops.size false) + (ops.size - n)) (Array.replicate ops.size false) a w.drew := by
          by_cases hb0 : (n == ops.size || Region.sinkB .any ops n) = true
          · have e : baseOf ops n es = Array.replicate ops.size false := by unfold baseOf; rw [if_pos hb0]
            rw [e] at A
            exact A _ _ a w.drew inv (fun i hi => hi) rfl J
          · have e : baseOf ops n es = prepL ops es (List.range n) (Array.replicate ops.size false) := by unfold baseOf; rw [if_neg hb0]
            rw [e] at A
            exact prep_ok hrec.2.2.1 hrec.2.2.2 S hdp hsel hcs (Q := Post wb k s x' .normal) (fun c a w h => by cases h.1) (List.range n) _ a (fun i hi => List.mem_range.1 hi) inv J fun a' inv' J' => A _ _ a' w.drew inv' (fun i hi => hi) rfl J'
        rwa [e2] at fin
      · obtain ⟨s', t2, h2, hle, _, ht, hdf, H, _, M, MM⟩ := J'
        obtain rfl := mt_full S hdp M hall
        obtain rfl := mh_same S MM hlf hall fun _ _ => rfl
        have hQ : ∀ s'' a'' w'', Le s' s'' → SR wb k s'' x' a'' w'' → Post wb k s x' .normal .normal a'' w'' := fun s'' a'' w'' hle' hsr => ⟨rfl, s'', hle.trans hle', hsr⟩
        have hL := seqA_ok (aOp_ok P hrec.2.2.1) hrec hr hm (wb := wb) (k := k) (s := s') (a := a') (w := w') ⟨ht, hdf, H⟩ (Q := Post wb k s x' .normal) hQ
        have hlen : (ops.toList.drop n).length = ops.size - n := by simp
        have hmask : listed = lexMask ops n := by
          apply Array.ext_getElem?
          intro i
          have e0 : (lexMask ops n)[i]? = (List.replicate n true ++ List.replicate (ops.size - n) false)[i]? := by
            unfold lexMask
            simp
          rw [e0]
          rcases Nat.lt_or_ge i n with hi | hi
          · have := hall i hi
            have hisz : i < listed.size := by rw [inv'.size]; omega
            rw [List.getElem?_append_left (by simpa using hi), List.getElem?_replicate, if_pos hi]
            rw [Array.getElem?_eq_getElem hisz]
            simpa [hisz] using this
          · rw [List.getElem?_append_right (by simpa using hi), List.getElem?_replicate]
            simp only [List.length_replicate]
            by_cases hlt : i < ops.size
            · have := inv'.tail i hi hlt
              have hisz : i < listed.size := by rw [inv'.size]; omega
              rw [if_pos (by omega), Array.getElem?_eq_getElem hisz]
              simpa [hisz] using this
            · rw [if_neg (by omega), Array.getElem?_eq_none (by rw [inv'.size]; omega)]
        have hseq : Region.seqB .any ops (ops.size - n) n listed = true := by
          unfold tailL at htl
          simp only [Bool.or_eq_true, beq_iff_eq, Bool.and_eq_true, decide_eq_true_eq] at htl
          rcases htl with h | h
          · rw [h, Nat.sub_self]
            simp only [Region.seqB, List.isEmpty_iff]
            refine List.filter_eq_nil_iff.2 fun i hi => ?_
            have hi' := List.mem_range.1 hi
            have := hall i (by omega)
            have hisz : i < listed.size := by rw [inv'.size]; omega
            have e : listed.getD i true = true := by
              simp [hisz] at this ⊢
              exact this
            simp [e]
          · rw [hmask]; exact h.2
        have := wpAny_of_seq (md := .any) (Q' := Post wb k s x' .normal) (ops.toList.drop n) n listed a' w' (fun j => by simp [List.getElem?_drop]) (by rw [hlen]; exact hseq) hL
        rwa [hlen] at this
    · cases hr

end
theorem drawA_ok (P : Program) : DrawOk P (drawA P) := by
  intro rec hrec ops x x' hr wb k s id a w hm HS
  obtain ⟨h1, h2⟩ := drawA_any P hrec hr hm HS
  exact wp_region_any h1 h2
end Go.Proofs.YthhgfjnnconocaaGreatDoor.Ex
end
section
namespace Go.Proofs.YthhgfjnnconocaaGreatDoor.Ex
set_option maxRecDepth 20000

open Go Go.RowKit

/-! The same values: what numbers must be the same for it. -/
def optA (a b : Option Addr) : Bool := decide (a = b)
def veq0 : Value → Value → Bool
  | .bool a, .bool b => a == b
  | .string a, .string b => a.data.toList == b.data.toList
  | .pointer a, .pointer b => optA a b
  | .slice a l c, .slice b m d => optA a b && l == m && c == d
  | .map a, .map b => a == b
  | .nilFunc, .nilFunc => true
  | .nilIface, .nilIface => true
  | _, _ => false
theorem arr_ext {α : Type} {a b : Array α} (h : a.toList = b.toList) : a = b := by cases a; cases b; simp at h; rw [h]
theorem veq0_ok {x y : Value} (h : veq0 x y = true) : x = y := by
  unfold veq0 at h
  split at h
  case h_2 a b => rw [ByteArray.ext (arr_ext (eq_of_beq h))]
  all_goals simp_all [optA]
def Hold (c : Cs) : Prop := ∀ x ∈ c, x.1 = x.2
theorem Hold.app {a b : Cs} (h : Hold (a ++ b)) : Hold a ∧ Hold b := ⟨fun x hx => h x (List.mem_append_left _ hx), fun x hx => h x (List.mem_append_right _ hx)⟩
def cmpL (p : Value → Value → Option Cs) : List Value → List Value → Option Cs
  | [], [] => some []
  | x :: xs, y :: ys =>
    match p x y with
    | some a =>
      match cmpL p xs ys with
      | some b => some (a ++ b)
      | none => none
    | none => none
  | _, _ => none
theorem cmpL_ok {p : Value → Value → Option Cs} (hp : ∀ x y c, p x y = some c → Hold c → x = y) : ∀ {xs ys : List Value} {c : Cs}, cmpL p xs ys = some c → Hold c → xs = ys
  | [], [], _, _, _ => rfl
  | x :: xs, y :: ys, c, h, hc => by
    simp only [cmpL] at h
    split at h
    · rename_i a ha
      split at h
      · rename_i b hb
        cases h
        obtain ⟨h1, h2⟩ := hc.app
        rw [hp x y a ha h1, cmpL_ok hp hb h2]
      · cases h
    · cases h
  | [], _ :: _, _, h, _ => by simp [cmpL] at h
  | _ :: _, [], _, h, _ => by simp [cmpL] at h
theorem veqc {x y : Value} {c : Cs} (h : (if veq0 x y then some [] else none) = some c) : x = y := by
  split at h
  · rename_i hv; exact veq0_ok hv
  · cases h
def cmpF : Nat → Value → Value → Option Cs
  | 0, x, y => if veq0 x y then some [] else none
  | n + 1, x, y =>
    match x, y with
    | .int k a, .int j b => if k = j then some [(a, b)] else none
    | .agg a, .agg b => cmpL (cmpF n) a.toList b.toList
    | .tuple a, .tuple b => cmpL (cmpF n) a.toList b.toList
    | .iface t a, .iface u b => if t = u then cmpF n a b else none
    | .func (.func f) a c, .func (.func g) b d =>
      if f == g then
        match cmpL (cmpF n) a.toList b.toList, cmpL (cmpF n) c.toList d.toList with
        | some x, some y => some (x ++ y)
        | _, _ => none
      else none
    | x, y => if veq0 x y then some [] else none
theorem cmpF_ok : ∀ (n : Nat) (x y : Value) (c : Cs), cmpF n x y = some c → Hold c → x = y
  | 0, x, y, c, h, _ => veqc h
  | n + 1, x, y, c, h, hc => by
    have ih := cmpF_ok n
    unfold cmpF at h
    split at h
    · split at h
      · rename_i k a j b hk
        cases h
        rw [hk, show a = b from hc (a, b) (by simp)]
      · cases h
    · rw [arr_ext (cmpL_ok ih h hc)]
    · rw [arr_ext (cmpL_ok ih h hc)]
    · split at h
      · rename_i hu
        rw [hu, ih _ _ _ h hc]
      · cases h
    · split at h
      · rename_i hfg
        split at h
        · rename_i h1 h2
          cases h
          simp only [beq_iff_eq] at hfg
          rw [hfg, arr_ext (cmpL_ok ih h1 hc.app.1), arr_ext (cmpL_ok ih h2 hc.app.2)]
        · cases h
      · cases h
    · exact veqc h
def cmp0 : Value → Value → Option Cs := cmpF 6
theorem cmp0_ok (x y : Value) (c : Cs) (h : cmp0 x y = some c) (hc : Hold c) : x = y := cmpF_ok 6 x y c h hc
def cmpV : Value → Value → Option Cs := cmpF 6
theorem cmpV_ok (x y : Value) (c : Cs) (h : cmpV x y = some c) (hc : Hold c) : x = y := cmpF_ok 6 x y c h hc
def cmpH : List AO → List AO → Option Cs
  | [], [] => some []
  | x :: xs, y :: ys =>
    if x.live == y.live && x.es == y.es then
      match cmpL cmp0 x.cs y.cs with
      | some a =>
        match cmpH xs ys with
        | some b => some (a ++ b)
        | none => none
      | none => none
    else none
  | _, _ => none
theorem cmpH_ok : ∀ {xs ys : List AO} {c : Cs}, cmpH xs ys = some c → Hold c → xs = ys
  | [], [], _, _, _ => rfl
  | x :: xs, y :: ys, c, h, hc => by
    simp only [cmpH] at h
    split at h
    · rename_i hle
      split at h
      · rename_i a ha
        split at h
        · rename_i b hb
          cases h
          obtain ⟨h1, h2⟩ := hc.app
          simp only [Bool.and_eq_true, beq_iff_eq] at hle
          obtain ⟨l1, e1, c1⟩ := x
          obtain ⟨l2, e2, c2⟩ := y
          simp only at hle ha
          rw [hle.1, hle.2, cmpL_ok cmp0_ok ha h1, cmpH_ok hb h2]
        · cases h
      · cases h
    · cases h
  | [], _ :: _, _, h, _ => by simp [cmpH] at h
  | _ :: _, [], _, h, _ => by simp [cmpH] at h

def stepE (P : Program) (rec : Rec) (ops : Array Oper) (i : Nat) (x : St) : Option St :=
  match ops[i]? with
  | none => none
  | some o => if wantedA ops x.t o then operA P (aOp P) rec o x else some ⟨putA x.t o.dst undef, x.h, x.m⟩
/-- What must be so that all others leave what the first one leaves. -/
def allE (f : Nat → Option St) (y : St) : List Nat → Option Cs
  | [] => some []
  | j :: js =>
    match f j with
    | some z =>
      if z.m.1 == y.m.1 then
        match cmpL cmpV z.t y.t, cmpH z.h y.h, allE f y js with
        | some a, some b, some cs => some (z.m.2 ++ (a ++ (b ++ cs)))
        | _, _, _ => none
      else none
    | none => none
/-- An operation that looks at no memory. -/
def pureStep (P : Program) (ops : Array Oper) (i : Nat) (x : St) : Option St :=
  match ops[i]? with
  | none => none
  | some o =>
    if wantedA ops x.t o then
      if o.op.operands.toList.all (okX x.h) then
        match sOp P (lookA x.t) o [] with
        | some (.value v, _, _) => some ⟨putA x.t o.dst v, x.h, x.m⟩
        | _ => none
      else none
    else some ⟨putA x.t o.dst undef, x.h, x.m⟩
def firstPure (P : Program) (ops : Array Oper) (listed : Array Bool) (x : St) : List Nat → Option (Nat × St)
  | [] => none
  | i :: is =>
    if Region.free .any ops listed i then
      match pureStep P ops i x with
      | some x' => some (i, x')
      | none => firstPure P ops listed x is
    else firstPure P ops listed x is
def explore (P : Program) (rec : Rec) (ops : Array Oper) : Nat → Array Bool → St → Option St
  | 0, listed, x => if (Region.ready .any ops listed).isEmpty then some x else none
  | f + 1, listed, x =>
    match Region.ready .any ops listed with
    | [] => some x
    | i :: is =>
      match firstPure P ops listed x (i :: is) with
      | some (j, x') => explore P rec ops f (listed.setIfInBounds j true) x'
      | none =>
        let go := fun j =>
          match stepE P rec ops j x with
          | some x' => explore P rec ops f (listed.setIfInBounds j true) x'
          | none => none
        match go i with
        | some y =>
          match allE go y is with
          | some cs => some ⟨y.t, y.h, (y.m.1, y.m.2 ++ cs)⟩
          | none => none
        | none => none
theorem allE_ok {f : Nat → Option St} {y : St} : ∀ {l : List Nat} {cs : Cs}, allE f y l = some cs → Hold cs → ∀ j ∈ l, ∃ z, f j = some z ∧ z.m.1 = y.m.1 ∧ Hold z.m.2 ∧ z.t = y.t ∧ z.h = y.h
  | [], _, _, _, j, hj => by cases hj
  | i :: l, cs, h, hc, j, hj => by
    simp only [allE] at h
    split at h
    · rename_i z hz
      split at h
      · rename_i hm
        split at h
        · rename_i a b cs' ha hb hcs
          cases h
          simp only [beq_iff_eq] at hm
          obtain ⟨h1, h2⟩ := hc.app
          obtain ⟨h2, h3⟩ := h2.app
          obtain ⟨h3, h4⟩ := h3.app
          rcases List.mem_cons.1 hj with e | e
          · exact ⟨z, by rw [e]; exact hz, hm, h1, cmpL_ok cmpV_ok ha h2, cmpH_ok hb h3⟩
          · exact allE_ok hcs h4 j e
        · cases h
      · cases h
    · cases h
section
variable {P : Program} {rec : Rec} {ops : Array Oper}
theorem stepE_low {i : Nat} {x x' : St} (hr : stepE P rec ops i x = some x') {k : Nat} (hm : Bnd k x'.m) : Bnd k x.m := by
  unfold stepE at hr
  split at hr
  · cases hr
  · split at hr
    · exact operA_low hr hm
    · cases hr; exact hm
theorem stepE_ok (hrec : RecOk P rec) {i : Nat} {x x' : St} (hr : stepE P rec ops i x = some x') {wb : Wb} {k : Nat} {s : Ren} {a : Act} {w : World} (hm : Bnd k x'.m) (H : SR wb k s x a w)
    {K : Act → World → Prop} {Q : Exit → Act → World → Prop} (hn : ∀ s' a' w', Le s s' → SR wb k s' x' a' w' → K a' w') : wpOp P ops Q i K a w := by
  unfold stepE at hr
  unfold wpOp
  split at hr
  · cases hr
  · rename_i o ho
    rw [ho]
    simp only [wanted_ok H.t]
    split at hr
    · rename_i hw
      rw [if_pos hw]
      exact .inl (operA_ok (aOp_ok P hrec.2.2.1) hrec hr hm H hn)
    · rename_i hw
      rw [if_neg hw]
      cases hr
      exact hn s _ w (Le.refl s) ⟨put_ok H.t o.dst (.same rfl), by cases hd : o.dst <;> simp [Act.put, H.d], H.h⟩
theorem firstPure_spec {listed : Array Bool} {x : St} : ∀ {l : List Nat} {j : Nat} {x' : St}, firstPure P ops listed x l = some (j, x') → j ∈ l ∧ Region.free .any ops listed j = true ∧ pureStep P ops j x = some x'
  | [], j, x', h => by simp [firstPure] at h
  | i :: is, j, x', h => by
    simp only [firstPure] at h
    split at h
    · rename_i hf
      split at h
      · rename_i y hy
        cases h
        exact ⟨by simp, hf, hy⟩
      · obtain ⟨h1, h2, h3⟩ := firstPure_spec h
        exact ⟨by simp [h1], h2, h3⟩
    · obtain ⟨h1, h2, h3⟩ := firstPure_spec h
      exact ⟨by simp [h1], h2, h3⟩
theorem pureStep_m {i : Nat} {x x' : St} (hr : pureStep P ops i x = some x') : x'.m = x.m := by
  unfold pureStep at hr
  split at hr
  · cases hr
  · split at hr
    · split at hr
      · split at hr
        · cases hr; rfl
        · cases hr
      · cases hr
    · cases hr; rfl
theorem pureStep_ok (hng : NoNG P) {i : Nat} {x x' : St} (hr : pureStep P ops i x = some x') {wb : Wb} {k : Nat} {s : Ren} {a : Act} {w : World} (H : SR wb k s x a w) :
    ∃ o v, ops[i]? = some o ∧ Yields P ops o v a ∧ SR wb k s x' (a.put o.dst v) w := by
  unfold pureStep at hr
  split at hr
  · cases hr
  · rename_i o ho
    split at hr
    · rename_i hw
      split at hr
      · rename_i hok
        have hρ : ∀ y ∈ o.op.operands, VR s (lookA x.t y) (a.eval y) := fun y hy => eval_ok H.t H.h.glob (List.all_eq_true.1 hok y (by simpa using hy))
        split at hr
        · rename_i v x1 x2 hs
          cases hr
          have hall : ∀ w, Okay0 P s [] w (execOp a.eval o) (.value v, x1, x2) := fun w => sOp_ok P hng s [] w _ _ o _ (fun j p hj => by simp at hj) hρ hs
          obtain ⟨n', e1, e2, _⟩ := hall w
          cases n' <;> simp only [NR] at e2
          rename_i v'
          -- the value is the same in each world
          refine ⟨o, v', ho, .inl ⟨by rw [wanted_ok H.t]; exact hw, fun w2 => ?_⟩, ⟨put_ok H.t o.dst e2, by cases hd : o.dst <;> simp [Act.put, H.d], H.h⟩⟩
          obtain ⟨n2, g1, g2, _⟩ := hall w2
          cases n2 <;> simp only [NR] at g2
          rw [g1, VR.det g2 e2]
        · cases hr
      · cases hr
    · rename_i hw
      cases hr
      exact ⟨o, undef, ho, .inr ⟨by rw [wanted_ok H.t]; simpa using hw, rfl⟩, ⟨put_ok H.t o.dst (.same rfl), by cases hd : o.dst <;> simp [Act.put, H.d], H.h⟩⟩
theorem explore_low {k : Nat} : ∀ (f : Nat) (listed : Array Bool) (x y : St), explore P rec ops f listed x = some y → Bnd k y.m → Bnd k x.m
  | 0, listed, x, y, hr, hm => by
    simp only [explore] at hr
    split at hr
    · cases hr; exact hm
    · cases hr
  | f + 1, listed, x, y, hr, hm => by
    simp only [explore] at hr
    split at hr
    · cases hr; exact hm
    · rename_i i is _
      split at hr
      · rename_i j x' hp
        rw [← pureStep_m (firstPure_spec hp).2.2]
        exact explore_low f _ x' y hr hm
      · split at hr
        · rename_i z hz
          split at hr
          · rename_i cs hcs
            cases hr
            have hm' : Bnd k z.m := ⟨hm.1, fun c hc => hm.2 c (List.mem_append_left _ hc)⟩
            split at hz
            · rename_i x' hx'
              exact stepE_low hx' (explore_low f _ x' _ hz hm')
            · cases hz
          · cases hr
        · cases hr
theorem explore_ok (hrec : RecOk P rec) (hsel : Region.noSelect ops = true) {wb : Wb} {k : Nat} {Q : Exit → Act → World → Prop} (hQp : ∀ c a w, ¬ Q (.panic c) a w) : ∀ (f : Nat) (listed : Array Bool) (x y : St), explore P rec ops f listed x = some y → Bnd k y.m → ∀ (s : Ren) (a : Act) (w : World), SR wb k s x a w →
    (∀ s' a' w', Le s s' → SR wb k s' y a' w' → Q .normal a' w') → wpAny P .any ops Q f listed a w
  | 0, listed, x, y, hr, hm, s, a, w, H, hQ => by
    simp only [explore] at hr
    split at hr
    · rename_i he
      cases hr
      exact ⟨by simpa using he, hQ s a w (Le.refl s) H⟩
    · cases hr
  | f + 1, listed, x, y, hr, hm, s, a, w, H, hQ => by
    simp only [explore] at hr
    split at hr
    · rename_i he
      cases hr
      refine ⟨fun _ => hQ s a w (Le.refl s) H, fun i hi => ?_⟩
      rw [he] at hi
      cases hi
    · rename_i i is he
      split at hr
      · rename_i j x' hp
        obtain ⟨h1, h2, h3⟩ := firstPure_spec hp
        obtain ⟨o, v, ho, hy, H'⟩ := pureStep_ok hrec.2.2.1 h3 H
        refine wpAny_take ho hsel h2 (by rw [he]; simpa using h1) (fun c a w h => absurd h (hQp c _ w)) hy ?_
        exact explore_ok hrec hsel hQp f _ x' y hr hm s _ w H' hQ
      split at hr
      · rename_i z hz
        split at hr
        · rename_i cs hall
          cases hr
          refine ⟨fun h0 => (by rw [he] at h0; cases h0), fun j hj => ?_⟩
          have hgo : ∃ y', (match stepE P rec ops j x with
              | some x' => explore P rec ops f (listed.setIfInBounds j true) x'
              | none => none) = some y' ∧ Bnd k y'.m ∧ y'.t = z.t ∧ y'.h = z.h := by
            rw [he] at hj
            rcases List.mem_cons.1 hj with e | e
            · exact ⟨z, by rw [e]; exact hz, ⟨hm.1, fun c hc => hm.2 c (List.mem_append_left _ hc)⟩, rfl, rfl⟩
            · obtain ⟨z', g1, g2, g3, g4, g5⟩ := allE_ok hall (fun c hc => hm.2 c (List.mem_append_right _ hc)) j e
              exact ⟨z', g1, ⟨by rw [g2]; exact hm.1, g3⟩, g4, g5⟩
          obtain ⟨y', hgo, hm', ht', hh'⟩ := hgo
          split at hgo
          · rename_i x' hx'
            refine stepE_ok hrec hx' (explore_low f _ x' y' hgo hm') H fun s' a' w' hle H' => ?_
            refine explore_ok hrec hsel hQp f (listed.setIfInBounds j true) x' y' hgo hm' s' a' w' H' fun s'' a'' w'' hle' H'' => hQ s'' a'' w'' (hle.trans hle') ⟨by rw [← ht']; exact H''.t, H''.d, by rw [← hh']; exact H''.h⟩
          · cases hgo
        · cases hr
      · cases hr
end

/-- What stands behind the head's end waits for it. -/
def backB (ops : Array Oper) (n : Nat) : Bool := (List.range ops.size).all fun t => decide (t ≤ n) || (List.range t).any fun j => decide (n ≤ j) && Region.waitsFor .any ops t j
def tailX (ops : Array Oper) (n : Nat) (base : Array Bool) : Bool := decide (n < ops.size) && sinkL ops n base && backB ops n
/-- A drawn region by its head, and by all orders of what stands behind it. -/
def drawX (P : Program) : DrawFn := fun rec ops x =>
  match headRun P rec ops x.h ops.toList 0 x.t [] with
  | (n, t, l, es) =>
    if P.follows .mixedOrders && Region.noSelect ops && decide (n ≤ ops.size) && depsB ops n && memB ops n es && tailX ops n (baseOf ops n es) then
      match lexHeap x.h.length es x.h.length (x.h ++ List.replicate l.length dead) with
      | some h => explore P rec ops (ops.size - n) (lexMask ops n) ⟨t, h, low x.m (headM es)⟩
      | none => none
    else none
theorem drawX_low (P : Program) : DrawLow (drawX P) := by
  intro rec ops x x' hr k hm
  unfold drawX at hr
  split at hr
  split at hr
  · split at hr
    · exact (bnd_low (explore_low _ _ _ _ hr hm)).1
    · cases hr
  · cases hr
section
variable {P : Program} {rec : Rec} {ops : Array Oper} {n : Nat} {t0 t' : List Value} {h0 l' : List AO} {es : List HE} {T : Nat → List Value} {E : Nat → HE} {N : Nat → List AO}
theorem drawX_ok (P : Program) : DrawOk P (drawX P) := by
  intro rec hrec ops x x' hr wb k s id a w hm HS
  unfold drawX at hr
  cases hh : headRun P rec ops x.h ops.toList 0 x.t [] with
  | mk n tl =>
    obtain ⟨t, l, es⟩ := tl
    rw [hh] at hr
    simp only at hr
    split at hr
    · rename_i hc
      split at hr
      rotate_left
      · cases hr
      rename_i hN hlex
      simp only [Bool.and_eq_true, decide_eq_true_eq] at hc
      obtain ⟨⟨⟨⟨⟨hmix, hsel⟩, hnl⟩, hdp⟩, hmem⟩, htl⟩ := hc
      obtain ⟨T, E, N, S⟩ := headRun_spec hrec.2.2.2 _ _ _ _ _ _ _ _ hh
      have hcs : Bnd k (headM es) := (bnd_low (explore_low _ _ _ _ hr hm)).2
      refine wp_region_any hmix ?_
      have H0 : HR wb k s x.h w.drew := HS.h.drew
      have hlf : MH n x.h E N (fun _ => true) hN (fun j => if j < x.h.length then s j else none) := by
        refine lexHeap_ok S hmem n 0 _ (by omega) ?_ (by simpa [S.l0] using hlex)
        rw [show (fun j => decide (j < 0)) = fun _ => false by funext j; simp, ← S.ln]
        exact mh_start S fun i hi => if_neg (by omega)
      have J : Mid ops n x.t x.h E N wb k s (Array.replicate ops.size false) a w.drew := by
        have e : (fun i => (Array.replicate ops.size false).getD i false) = fun _ => false := by funext i; exact getD_replicate_false _ _
        refine ⟨s, x.t, _, Le.refl s, fun _ _ => rfl, HS.t, HS.d, H0.pad (N n).length, fun _ => H0, ?_, ?_⟩
        · rw [e]; exact mt_start
        · rw [e]; exact mh_start S H0.dom
      have inv : HeadInv .any ops n (Array.replicate ops.size false) :=
        ⟨by simp, fun j _ _ hl => (by rw [getD_replicate_false] at hl; cases hl), fun t _ h2 => getD_in (by simpa using h2) (getD_replicate_false _ _)⟩
      have hleft : left n (Array.replicate ops.size false) = n := by
        unfold left
        rw [List.filter_eq_self.2 fun i _ => by rw [getD_replicate_false]; rfl]
        simp
      have hsc : n < ops.size → sinkL ops n (baseOf ops n es) = true ∧ ∀ t, n < t → t < ops.size → ∃ j, n ≤ j ∧ j < ops.size ∧ Region.waitsFor .any ops t j = true := by
        intro hlt
        unfold tailX at htl
        simp only [Bool.and_eq_true, decide_eq_true_eq] at htl
        refine ⟨htl.1.2, fun t ht htl2 => ?_⟩
        have h1 := List.all_eq_true.1 htl.2 t (List.mem_range.2 htl2)
        simp only [Bool.or_eq_true, decide_eq_true_eq] at h1
        rcases h1 with h1 | h1
        · omega
        · obtain ⟨j, hj, hj2⟩ := List.any_eq_true.1 h1
          simp only [Bool.and_eq_true, decide_eq_true_eq] at hj2
          exact ⟨j, hj2.1, by have := List.mem_range.1 hj; omega, hj2.2⟩
      have A := head_any S hdp hrec hmem hcs hnl hsc (wb := wb) (s0 := s) HS.h.kle (Q := Post wb k s x' .normal) (g := ops.size - n) (fun listed a' w' inv' hall J' => ?_)
      · have e2 : left n (Array.replicate ops.size false) + (ops.size - n) = ops.size := by omega
        have fin : wpAny P .any ops (Post wb k s x' .normal) (left n (Array.replicate ops.size false) + (ops.size - n)) (Array.replicate ops.size false) a w.drew := by
          by_cases hb0 : (n == ops.size || Region.sinkB .any ops n) = true
          · have e : baseOf ops n es = Array.replicate ops.size false := by unfold baseOf; rw [if_pos hb0]
            rw [e] at A
            exact A _ _ a w.drew inv (fun i hi => hi) rfl J
          · have e : baseOf ops n es = prepL ops es (List.range n) (Array.replicate ops.size false) := by unfold baseOf; rw [if_neg hb0]
            rw [e] at A
            exact prep_ok hrec.2.2.1 hrec.2.2.2 S hdp hsel hcs (Q := Post wb k s x' .normal) (fun c a w h => by cases h.1) (List.range n) _ a (fun i hi => List.mem_range.1 hi) inv J fun a' inv' J' => A _ _ a' w.drew inv' (fun i hi => hi) rfl J'
        rwa [e2] at fin
      · obtain ⟨s', t2, h2, hle, _, ht, hdf, H, _, M, MM⟩ := J'
        obtain rfl := mt_full S hdp M hall
        obtain rfl := mh_same S MM hlf hall fun _ _ => rfl
        have hQ : ∀ s'' a'' w'', Le s' s'' → SR wb k s'' x' a'' w'' → Post wb k s x' .normal .normal a'' w'' := fun s'' a'' w'' hle' hsr => ⟨rfl, s'', hle.trans hle', hsr⟩
        have hmask : listed = lexMask ops n := by
          apply Array.ext_getElem?
          intro i
          have e0 : (lexMask ops n)[i]? = (List.replicate n true ++ List.replicate (ops.size - n) false)[i]? := by
            unfold lexMask
            simp
          rw [e0]
          rcases Nat.lt_or_ge i n with hi | hi
          · have := hall i hi
            have hisz : i < listed.size := by rw [inv'.size]; omega
            rw [List.getElem?_append_left (by simpa using hi), List.getElem?_replicate, if_pos hi]
            rw [Array.getElem?_eq_getElem hisz]
            simpa [hisz] using this
          · rw [List.getElem?_append_right (by simpa using hi), List.getElem?_replicate]
            simp only [List.length_replicate]
            by_cases hlt : i < ops.size
            · have := inv'.tail i hi hlt
              have hisz : i < listed.size := by rw [inv'.size]; omega
              rw [if_pos (by omega), Array.getElem?_eq_getElem hisz]
              simpa [hisz] using this
            · rw [if_neg (by omega), Array.getElem?_eq_none (by rw [inv'.size]; omega)]
        rw [hmask]
        exact explore_ok hrec hsel (fun c a w h => by cases h.1) (ops.size - n) (lexMask ops n) _ x' hr hm s' a' w' ⟨ht, hdf, H⟩ hQ
    · cases hr

end
/-- What only reckons, and is waited for by nothing up to the first one behind the head: it may come whenever it is ready. -/
def floatAt (ops : Array Oper) (n : Nat) (es : List HE) (i : Nat) : Bool :=
  pureAt es i && Region.free .any ops (lexMask ops i) i && !((List.range (n + 1)).any fun j => decide (i < j) && Region.waitsFor .any ops j i)
def sinkF (ops : Array Oper) (n : Nat) (es : List HE) : Bool :=
  (List.range n).all fun i => floatAt ops n es i || (List.range (n + 1)).any fun j => decide (i < j) && Region.waitsFor .any ops j i && (Nat.beq j n || !floatAt ops n es j)
def tailY (ops : Array Oper) (n : Nat) (es : List HE) : Bool := decide (n < ops.size) && sinkF ops n es && backB ops n
/-- The same as drawX, where some that only reckon stand in the head and nothing waits for them. -/
def drawY (P : Program) : DrawFn := fun rec ops x =>
  match headRun P rec ops x.h ops.toList 0 x.t [] with
  | (n, t, l, es) =>
    if P.follows .mixedOrders && Region.noSelect ops && decide (n ≤ ops.size) && depsB ops n && memB ops n es && tailY ops n es then
      match lexHeap x.h.length es x.h.length (x.h ++ List.replicate l.length dead) with
      | some h => explore P rec ops (ops.size - n) (lexMask ops n) ⟨t, h, low x.m (headM es)⟩
      | none => none
    else none
theorem drawY_low (P : Program) : DrawLow (drawY P) := by
  intro rec ops x x' hr k hm
  unfold drawY at hr
  split at hr
  split at hr
  · split at hr
    · exact (bnd_low (explore_low _ _ _ _ hr hm)).1
    · cases hr
  · cases hr
section
variable {P : Program} {rec : Rec} {ops : Array Oper} {n : Nat} {t0 t' : List Value} {h0 l' : List AO} {es : List HE} {T : Nat → List Value} {E : Nat → HE} {N : Nat → List AO}
theorem free_lex {listed : Array Bool} {i : Nat} (hi : i ≤ ops.size) (hb : ∀ j, j < i → listed.getD j false = true) (h : Region.free .any ops (lexMask ops i) i = true) : Region.free .any ops listed i = true := by
  unfold Region.free at h ⊢
  split at h
  · cases h
  · rename_i oi ho
    refine List.all_eq_true.2 fun j hj => ?_
    have h1 := List.all_eq_true.1 h j hj
    have hlt := List.mem_range.1 hj
    by_cases hji : j < i
    · have h2 := hb j hji
      have h3 : listed.getD j true = true := by
        rw [Array.getD_eq_getD_getElem?] at h2 ⊢
        cases hq : listed[j]? with
        | none => rw [hq] at h2; cases h2
        | some b => rw [hq] at h2; exact h2
      rw [h3]; simp
    · have e : (lexMask ops i).getD j true = false := by
        rw [Array.getD_eq_getD_getElem?]
        have e0 : (lexMask ops i)[j]? = (List.replicate i true ++ List.replicate (ops.size - i) false)[j]? := by
          unfold lexMask
          simp
        rw [e0, List.getElem?_append_right (by simp; omega), List.getElem?_replicate, if_pos (by simp; omega)]
        rfl
      rw [e, Bool.or_false] at h1
      rw [Bool.or_assoc]
      simp only [Bool.or_eq_true] at h1 ⊢
      rcases h1 with h1 | h1
      · exact .inl h1
      · exact .inr (.inr h1)
theorem tail_waitsF (F : Nat → Bool) (hs : ∀ i, i < n → F i = true ∨ ∃ j, i < j ∧ j ≤ n ∧ Region.waitsFor .any ops j i = true ∧ (j = n ∨ F j = false)) (hc : ∀ t, n < t → t < ops.size → ∃ j, n ≤ j ∧ j < ops.size ∧ Region.waitsFor .any ops t j = true) (hn : n < ops.size)
    {listed : Array Bool} (inv : HeadInv .any ops n listed) : ∀ (d i : Nat), n - i = d → i < n → F i = false → listed.getD i true = false → ∀ t, n ≤ t → t ∉ Region.ready .any ops listed := by
  intro d
  induction d using Nat.strongRecOn with
  | _ d ih =>
    intro i hd hi hFi hun t ht hr
    obtain ⟨_, ot, hot, hall⟩ := mem_ready.1 hr
    have htlt : t < ops.size := (Array.getElem?_eq_some_iff.1 hot).1
    by_cases htn : t = n
    · subst htn
      rcases hs i hi with h1 | ⟨j, hj1, hj2, hj3, hj4⟩
      · rw [hFi] at h1; cases h1
      obtain ⟨oj, hoj, e, he, hb', hon⟩ := Region.waitsFor_spec hj3
      by_cases hjt : j = t
      · subst hjt
        have : oj = ot := Option.some.inj (hoj.symm.trans hot)
        subst this
        have h2 := hall e he hb'
        rw [hon, getD_both hun] at h2
        cases h2
      · cases hl : listed.getD j false with
        | true =>
          have h2 := inv.closed j oj hoj hl e he hb'
          rw [hon, getD_both hun] at h2
          cases h2
        | false =>
          have hjs : j < listed.size := by rw [inv.size]; omega
          rcases hj4 with h4 | h4
          · exact hjt h4
          · exact ih (t - j) (by omega) j rfl (by omega) h4 (getD_in hjs hl) t (Nat.le_refl _) hr
    · obtain ⟨j, hj1, hj2, h1⟩ := hc t (by omega) htlt
      obtain ⟨o', ho', e, he, hb', hon⟩ := Region.waitsFor_spec h1
      have : o' = ot := Option.some.inj (ho'.symm.trans hot)
      subst this
      have h2 := hall e he hb'
      rw [hon, getD_both (inv.tail j hj1 hj2)] at h2
      cases h2
theorem head_float (hng : NoNG P) (hacc : rec.acc = accP) (hsel : Region.noSelect ops = true) (F : Nat → Bool) (hF : ∀ i, i < n → F i = true → pureE (E i) = true ∧ Region.free .any ops (lexMask ops i) i = true) (S : HeadSpec P rec ops h0 ops.toList 0 n t0 [] t' l' es T E N) (hd : depsB ops n = true) (hrec : RecOk P rec) (hmem : memB ops n es = true) {k : Nat} (hcs : Bnd k (headM es)) (hnl : n ≤ ops.size) (hs : n < ops.size → (∀ i, i < n → F i = true ∨ ∃ j, i < j ∧ j ≤ n ∧ Region.waitsFor .any ops j i = true ∧ (j = n ∨ F j = false)) ∧ ∀ t, n < t → t < ops.size → ∃ j, n ≤ j ∧ j < ops.size ∧ Region.waitsFor .any ops t j = true)
    {wb : Wb} {s0 : Ren} (hk : k ≤ h0.length) {Q : Exit → Act → World → Prop} (hQp : ∀ c a w, ¬ Q (.panic c) a w) {g : Nat}
    (hend : ∀ listed a w, HeadInv .any ops n listed → (∀ i, i < n → listed.getD i false = true) → Mid ops n t0 h0 E N wb k s0 listed a w → wpAny P .any ops Q g listed a w) :
    ∀ (f : Nat) (listed : Array Bool) (a : Act) (w : World), HeadInv .any ops n listed → left n listed = f → Mid ops n t0 h0 E N wb k s0 listed a w → wpAny P .any ops Q (f + g) listed a w
  | 0, listed, a, w, inv, hl, J => by rw [Nat.zero_add]; exact hend listed a w inv (fun i hi => left_zero hl hi) J
  | f + 1, listed, a, w, inv, hl, J => by
    -- one that is not done, the first of them
    have hex : ∃ i, i < n ∧ listed.getD i false = false := by
      rcases Classical.em (∃ i, i < n ∧ listed.getD i false = false) with h | h
      · exact h
      · have : (List.range n).filter (fun i => !listed.getD i false) = [] := List.filter_eq_nil_iff.2 fun i hi => by
          have hi' := List.mem_range.1 hi
          cases hq : listed.getD i false with
          | true => simp
          | false => exact absurd ⟨i, hi', hq⟩ h
        unfold left at hl
        rw [this] at hl
        cases hl
    have hfirst : ∃ i, i < n ∧ listed.getD i false = false ∧ ∀ j, j < i → listed.getD j false = true := by
      obtain ⟨i, hi, hu⟩ := hex
      induction i using Nat.strongRecOn with
      | _ i ih =>
        rcases Classical.em (∃ j, j < i ∧ listed.getD j false = false) with ⟨j, hj, hju⟩ | h
        · exact ih j hj (by omega) hju
        · refine ⟨i, hi, hu, fun j hj => ?_⟩
          cases hq : listed.getD j false with
          | true => rfl
          | false => exact absurd ⟨j, hj, hq⟩ h
    obtain ⟨i, hi, hu, hbel⟩ := hfirst
    have hisz : i < listed.size := by rw [inv.size]; omega
    obtain ⟨o, ho, _, _⟩ := op_at S hi
    have hri : i ∈ Region.ready .any ops listed := mem_ready.2 ⟨getD_in hisz hu, o, ho, fun e he hb => hbel _ ((depsB_spec hd hi ho).1 e he hb)⟩
    rw [show f + 1 + g = (f + g) + 1 by omega]
    cases hFi : F i with
    | true =>
      obtain ⟨hp, hfr⟩ := hF i hi hFi
      obtain ⟨o2, v, ho2, hy, J'⟩ := mid_pure hng hacc S hd inv J hri hi hp (headM_bnd hcs i _ (eff_at S hi)).2
      refine wpAny_take ho2 hsel (free_lex (by omega) hbel hfr) (by simpa using hri) (fun c a w h => absurd h (hQp c _ w)) hy ?_
      refine head_float hng hacc hsel F hF S hd hrec hmem hcs hnl hs hk hQp hend f _ _ w (inv.set hri hi) ?_ J'
      have := left_next hi hisz hu
      omega
    | false =>
    refine ⟨fun h0 => (by rw [h0] at hri; cases hri), fun j hj => ?_⟩
    have hjn : j < n := by
      rcases Nat.lt_or_ge j n with h | h
      · exact h
      · obtain ⟨_, oj, hoj, _⟩ := mem_ready.1 hj
        have hjs := (Array.getElem?_eq_some_iff.1 hoj).1
        obtain ⟨h1, h2⟩ := hs (by omega)
        exact absurd hj (tail_waitsF F h1 h2 (by omega) inv _ i rfl hi hFi (getD_in hisz hu) j h)
    have hju := getD_both (mem_ready.1 hj).1
    have hjs : j < listed.size := by rw [inv.size]; omega
    refine mid_op S hd hrec hmem hcs hk inv J hj hjn fun a' w' J' => ?_
    refine head_float hng hacc hsel F hF S hd hrec hmem hcs hnl hs hk hQp hend f _ a' w' (inv.set hj hjn) ?_ J'
    have := left_next hjn hjs hju
    omega
theorem drawY_ok (P : Program) : DrawOk P (drawY P) := by
  intro rec hrec ops x x' hr wb k s id a w hm HS
  unfold drawY at hr
  cases hh : headRun P rec ops x.h ops.toList 0 x.t [] with
  | mk n tl =>
    obtain ⟨t, l, es⟩ := tl
    rw [hh] at hr
    simp only at hr
    split at hr
    · rename_i hc
      split at hr
      rotate_left
      · cases hr
      rename_i hN hlex
      simp only [Bool.and_eq_true, decide_eq_true_eq] at hc
      obtain ⟨⟨⟨⟨⟨hmix, hsel⟩, hnl⟩, hdp⟩, hmem⟩, htl⟩ := hc
      obtain ⟨T, E, N, S⟩ := headRun_spec hrec.2.2.2 _ _ _ _ _ _ _ _ hh
      have hcs : Bnd k (headM es) := (bnd_low (explore_low _ _ _ _ hr hm)).2
      refine wp_region_any hmix ?_
      have H0 : HR wb k s x.h w.drew := HS.h.drew
      have hlf : MH n x.h E N (fun _ => true) hN (fun j => if j < x.h.length then s j else none) := by
        refine lexHeap_ok S hmem n 0 _ (by omega) ?_ (by simpa [S.l0] using hlex)
        rw [show (fun j => decide (j < 0)) = fun _ => false by funext j; simp, ← S.ln]
        exact mh_start S fun i hi => if_neg (by omega)
      have J : Mid ops n x.t x.h E N wb k s (Array.replicate ops.size false) a w.drew := by
        have e : (fun i => (Array.replicate ops.size false).getD i false) = fun _ => false := by funext i; exact getD_replicate_false _ _
        refine ⟨s, x.t, _, Le.refl s, fun _ _ => rfl, HS.t, HS.d, H0.pad (N n).length, fun _ => H0, ?_, ?_⟩
        · rw [e]; exact mt_start
        · rw [e]; exact mh_start S H0.dom
      have inv : HeadInv .any ops n (Array.replicate ops.size false) :=
        ⟨by simp, fun j _ _ hl => (by rw [getD_replicate_false] at hl; cases hl), fun t _ h2 => getD_in (by simpa using h2) (getD_replicate_false _ _)⟩
      have hleft : left n (Array.replicate ops.size false) = n := by
        unfold left
        rw [List.filter_eq_self.2 fun i _ => by rw [getD_replicate_false]; rfl]
        simp
      have htl' := htl
      unfold tailY at htl'
      simp only [Bool.and_eq_true, decide_eq_true_eq] at htl'
      have hsc : n < ops.size → (∀ i, i < n → floatAt ops n es i = true ∨ ∃ j, i < j ∧ j ≤ n ∧ Region.waitsFor .any ops j i = true ∧ (j = n ∨ floatAt ops n es j = false)) ∧ ∀ t, n < t → t < ops.size → ∃ j, n ≤ j ∧ j < ops.size ∧ Region.waitsFor .any ops t j = true := by
        intro hlt
        refine ⟨fun i hi => ?_, fun t ht htl2 => ?_⟩
        · have h1 := List.all_eq_true.1 htl'.1.2 i (List.mem_range.2 hi)
          simp only [Bool.or_eq_true] at h1
          rcases h1 with h1 | h1
          · exact .inl h1
          · obtain ⟨j, hj, hj2⟩ := List.any_eq_true.1 h1
            simp only [Bool.and_eq_true, decide_eq_true_eq, Bool.or_eq_true, Bool.not_eq_true'] at hj2
            refine .inr ⟨j, hj2.1.1, by have := List.mem_range.1 hj; omega, hj2.1.2, ?_⟩
            rcases hj2.2 with h3 | h3
            · exact .inl (Nat.eq_of_beq_eq_true h3)
            · exact .inr h3
        · have h1 := List.all_eq_true.1 htl'.2 t (List.mem_range.2 htl2)
          simp only [Bool.or_eq_true, decide_eq_true_eq] at h1
          rcases h1 with h1 | h1
          · omega
          · obtain ⟨j, hj, hj2⟩ := List.any_eq_true.1 h1
            simp only [Bool.and_eq_true, decide_eq_true_eq] at hj2
            exact ⟨j, hj2.1, by have := List.mem_range.1 hj; omega, hj2.2⟩
      have hFl : ∀ i, i < n → floatAt ops n es i = true → pureE (E i) = true ∧ Region.free .any ops (lexMask ops i) i = true := by
        intro i hi hf
        unfold floatAt at hf
        simp only [Bool.and_eq_true] at hf
        refine ⟨?_, hf.1.2⟩
        have hp := hf.1.1
        unfold pureAt at hp
        rw [eff_at S hi] at hp
        exact hp
      have A := head_float hrec.2.2.1 hrec.2.2.2 hsel (floatAt ops n es) hFl S hdp hrec hmem hcs hnl hsc (wb := wb) (s0 := s) HS.h.kle (Q := Post wb k s x' .normal) (fun c a w h => by cases h.1) (g := ops.size - n) (fun listed a' w' inv' hall J' => ?_)
      · have e2 : left n (Array.replicate ops.size false) + (ops.size - n) = ops.size := by omega
        have fin := A _ _ a w.drew inv rfl J
        rwa [e2] at fin
      · obtain ⟨s', t2, h2, hle, _, ht, hdf, H, _, M, MM⟩ := J'
        obtain rfl := mt_full S hdp M hall
        obtain rfl := mh_same S MM hlf hall fun _ _ => rfl
        have hQ : ∀ s'' a'' w'', Le s' s'' → SR wb k s'' x' a'' w'' → Post wb k s x' .normal .normal a'' w'' := fun s'' a'' w'' hle' hsr => ⟨rfl, s'', hle.trans hle', hsr⟩
        have hmask : listed = lexMask ops n := by
          apply Array.ext_getElem?
          intro i
          have e0 : (lexMask ops n)[i]? = (List.replicate n true ++ List.replicate (ops.size - n) false)[i]? := by
            unfold lexMask
            simp
          rw [e0]
          rcases Nat.lt_or_ge i n with hi | hi
          · have := hall i hi
            have hisz : i < listed.size := by rw [inv'.size]; omega
            rw [List.getElem?_append_left (by simpa using hi), List.getElem?_replicate, if_pos hi]
            rw [Array.getElem?_eq_getElem hisz]
            simpa [hisz] using this
          · rw [List.getElem?_append_right (by simpa using hi), List.getElem?_replicate]
            simp only [List.length_replicate]
            by_cases hlt : i < ops.size
            · have := inv'.tail i hi hlt
              have hisz : i < listed.size := by rw [inv'.size]; omega
              rw [if_pos (by omega), Array.getElem?_eq_getElem hisz]
              simpa [hisz] using this
            · rw [if_neg (by omega), Array.getElem?_eq_none (by rw [inv'.size]; omega)]
        rw [hmask]
        exact explore_ok hrec hsel (fun c a w h => by cases h.1) (ops.size - n) (lexMask ops n) _ x' hr hm s' a' w' ⟨ht, hdf, H⟩ hQ
    · cases hr

end
/-! The last two operations, the other way about. -/
def swI (n i : Nat) : Nat := if i = n then n + 1 else if i = n + 1 then n else i
def swM (n : Nat) (m : Array Bool) : Array Bool := (m.setIfInBounds n (m.getD (n + 1) true)).setIfInBounds (n + 1) (m.getD n true)
theorem swI_swI (n i : Nat) : swI n (swI n i) = i := by unfold swI; split <;> split <;> (try split) <;> omega
theorem swM_size (n : Nat) (m : Array Bool) : (swM n m).size = m.size := by unfold swM; simp
theorem swM_get {n : Nat} {m : Array Bool} (hm : m.size = n + 2) (i : Nat) : (swM n m)[i]? = m[swI n i]? := by
  have g : ∀ (j : Nat) (hj : j < n + 2), m.getD j true = m[j]'(by omega) := fun j hj => by simp [Array.getD, hm, hj]
  unfold swM swI
  rw [Array.getElem?_setIfInBounds, Array.getElem?_setIfInBounds, g n (by omega), g (n + 1) (by omega)]
  by_cases h1 : i = n
  · subst h1
    rw [if_neg (by omega), if_pos rfl, if_pos (by omega), if_pos rfl, Array.getElem?_eq_getElem]
  · by_cases h2 : i = n + 1
    · subst h2
      rw [if_pos rfl, if_pos (by simp; omega), if_neg (by omega), if_pos rfl, Array.getElem?_eq_getElem]
    · rw [if_neg (by omega), if_neg (by omega), if_neg h1, if_neg h2]
theorem swM_getD {n : Nat} {m : Array Bool} (hm : m.size = n + 2) (i : Nat) (b : Bool) : (swM n m).getD i b = m.getD (swI n i) b := by
  rw [Array.getD_eq_getD_getElem?, Array.getD_eq_getD_getElem?, swM_get hm]
theorem swM_set {n : Nat} {m : Array Bool} (hm : m.size = n + 2) (i : Nat) : swM n (m.setIfInBounds i true) = (swM n m).setIfInBounds (swI n i) true := by
  apply Array.ext_getElem?
  intro j
  rw [swM_get (by simpa using hm), Array.getElem?_setIfInBounds, Array.getElem?_setIfInBounds, swM_get hm]
  have e : (i = swI n j) ↔ (swI n i = j) := ⟨fun h => by rw [h, swI_swI], fun h => by rw [← h, swI_swI]⟩
  by_cases h : i = swI n j
  · rw [if_pos h, if_pos (e.1 h)]
    have : (swI n i < (swM n m).size) ↔ (i < m.size) := by rw [swM_size, hm]; unfold swI; split <;> (try split) <;> omega
    by_cases hi : i < m.size
    · rw [if_pos hi, if_pos (this.2 hi)]
    · rw [if_neg hi, if_neg fun q => hi (this.1 q)]
  · rw [if_neg h, if_neg fun q => h (e.2 q)]
/-- No operation waits for the last two, or is guarded by them. -/
def loneB (n : Nat) (l : List Oper) : Bool := l.all fun o => (o.after.toList.all fun e => !Region.binds .any e || decide (e.on < n)) && (match o.guard with | none => true | some (j, _) => decide (j < n))
section
variable {P : Program} {l : List Oper} {o1 o2 : Oper} {Q : Exit → Act → World → Prop}
theorem sw_op (i : Nat) : (⟨l ++ [o2, o1]⟩ : Array Oper)[swI l.length i]? = (⟨l ++ [o1, o2]⟩ : Array Oper)[i]? := by
  simp only [List.getElem?_toArray]
  unfold swI
  by_cases h1 : i = l.length
  · subst h1
    rw [if_pos rfl, List.getElem?_append_right (by omega), List.getElem?_append_right (by omega)]
    simp
  · by_cases h2 : i = l.length + 1
    · subst h2
      rw [if_neg (by omega), if_pos rfl, List.getElem?_append_right (by omega), List.getElem?_append_right (by omega)]
      simp
    · rw [if_neg h1, if_neg h2]
      by_cases h3 : i < l.length
      · rw [List.getElem?_append_left h3, List.getElem?_append_left h3]
      · rw [List.getElem?_eq_none (by simp; omega), List.getElem?_eq_none (by simp; omega)]
theorem sw_low {j : Nat} (h : j < l.length) : swI l.length j = j := by unfold swI; rw [if_neg (by omega), if_neg (by omega)]
theorem sw_ready (hl : loneB l.length (l ++ [o1, o2]) = true) {m : Array Bool} (hm : m.size = l.length + 2) {i : Nat} (h : i ∈ Region.ready .any ⟨l ++ [o1, o2]⟩ m) : swI l.length i ∈ Region.ready .any ⟨l ++ [o2, o1]⟩ (swM l.length m) := by
  obtain ⟨h1, o, ho, ha⟩ := mem_ready.1 h
  refine mem_ready.2 ⟨by rw [swM_getD hm, swI_swI]; exact h1, o, by rw [sw_op]; exact ho, fun e he hb => ?_⟩
  have hmem : o ∈ l ++ [o1, o2] := List.mem_of_getElem? (by simpa using ho)
  have h2 := List.all_eq_true.1 hl o hmem
  simp only [Bool.and_eq_true] at h2
  have h3 := List.all_eq_true.1 h2.1 e (by simpa using he)
  simp only [hb, Bool.not_true, Bool.false_or, decide_eq_true_eq] at h3
  rw [swM_getD hm, sw_low h3]
  exact ha e he hb
theorem sw_any (hl : loneB l.length (l ++ [o1, o2]) = true) (hl' : loneB l.length (l ++ [o2, o1]) = true) : ∀ (f : Nat) (m : Array Bool) (a : Act) (w : World), m.size = l.length + 2 →
    wpAny P .any ⟨l ++ [o2, o1]⟩ Q f (swM l.length m) a w → wpAny P .any ⟨l ++ [o1, o2]⟩ Q f m a w := by
  have back : ∀ {m : Array Bool}, m.size = l.length + 2 → Region.ready .any ⟨l ++ [o1, o2]⟩ m = [] → Region.ready .any ⟨l ++ [o2, o1]⟩ (swM l.length m) = [] := by
    intro m hm h
    apply List.eq_nil_iff_forall_not_mem.2
    intro i hi
    have h2 := sw_ready (o1 := o2) (o2 := o1) hl' (m := swM l.length m) (by rw [swM_size]; exact hm) hi
    have e : swM l.length (swM l.length m) = m := by
      apply Array.ext_getElem?
      intro j
      rw [swM_get (by rw [swM_size]; exact hm), swM_get hm, swI_swI]
    rw [e, h] at h2
    cases h2
  intro f
  induction f with
  | zero =>
    intro m a w hm h
    refine ⟨?_, h.2⟩
    apply List.eq_nil_iff_forall_not_mem.2
    intro i hi
    have := sw_ready hl hm hi
    rw [h.1] at this
    cases this
  | succ f ih =>
    intro m a w hm h
    refine ⟨fun h0 => h.1 (back hm h0), fun i hi => ?_⟩
    have h2 := h.2 _ (sw_ready hl hm hi)
    rw [← swM_set hm] at h2
    unfold wpOp at h2 ⊢
    rw [sw_op] at h2
    split at h2
    · exact ih _ a w (by simpa using hm) h2
    · rename_i o ho
      have hmem : o ∈ l ++ [o1, o2] := List.mem_of_getElem? (by simpa using ho)
      have h3 := List.all_eq_true.1 hl o hmem
      simp only [Bool.and_eq_true] at h3
      have hw : Region.wanted o (yielded ⟨l ++ [o2, o1]⟩ a.tmps) = Region.wanted o (yielded ⟨l ++ [o1, o2]⟩ a.tmps) := by
        unfold Region.wanted
        have h4 := h3.2
        cases hg : o.guard with
        | none => rfl
        | some jb =>
          obtain ⟨j, b⟩ := jb
          rw [hg] at h4
          simp only [decide_eq_true_eq] at h4
          simp only
          have : yielded ⟨l ++ [o2, o1]⟩ a.tmps j = yielded ⟨l ++ [o1, o2]⟩ a.tmps j := by
            unfold yielded
            have := sw_op (l := l) (o1 := o1) (o2 := o2) j
            rw [sw_low h4] at this
            rw [this]
          rw [this]
      rw [hw] at h2
      split
      · rename_i hc
        rw [if_pos hc] at h2
        exact h2.imp (Oper.wp_mono fun a' w' h' => ih _ a' w' (by simpa using hm) h') id
      · rename_i hc
        rw [if_neg hc] at h2
        exact ih _ _ w (by simpa using hm) h2
end
def swapL : List Oper → Option (List Oper × Oper × Oper)
  | [] => none
  | [_] => none
  | [a, b] => some ([], a, b)
  | o :: r =>
    match swapL r with
    | some (l, a, b) => some (o :: l, a, b)
    | none => none
theorem swapL_spec : ∀ {r l : List Oper} {a b : Oper}, swapL r = some (l, a, b) → r = l ++ [a, b]
  | [], _, _, _, h => by cases h
  | [_], _, _, _, h => by cases h
  | [x, y], l, a, b, h => by
    simp only [swapL, Option.some.injEq, Prod.mk.injEq] at h
    obtain ⟨rfl, rfl, rfl⟩ := h
    rfl
  | o :: x :: y :: r, l, a, b, h => by
    simp only [swapL] at h
    split at h
    · rename_i l' a' b' hh
      simp only [Option.some.injEq, Prod.mk.injEq] at h
      obtain ⟨rfl, rfl, rfl⟩ := h
      rw [swapL_spec hh]; rfl
    · cases h
/-- .. a drawn region whose last two wait for each other in no way: told with these the other way about. -/
def drawZ (P : Program) : DrawFn := fun rec ops x =>
  match swapL ops.toList with
  | some (l, a, b) => if loneB l.length (l ++ [a, b]) && loneB l.length (l ++ [b, a]) then drawA P rec ⟨l ++ [b, a]⟩ x else none
  | none => none
theorem drawZ_low (P : Program) : DrawLow (drawZ P) := by
  intro rec ops x x' hr k hm
  unfold drawZ at hr
  split at hr
  · split at hr
    · exact drawA_low P rec _ x _ hr k hm
    · cases hr
  · cases hr
theorem drawZ_ok (P : Program) : DrawOk P (drawZ P) := by
  intro rec hrec ops x x' hr wb k s id a w hm HS
  unfold drawZ at hr
  split at hr
  · rename_i l o1 o2 hs
    split at hr
    · rename_i hc
      simp only [Bool.and_eq_true] at hc
      obtain ⟨h1, h2⟩ := drawA_any P hrec hr hm HS
      refine wp_region_any h1 ?_
      obtain ⟨r⟩ := ops
      have e : r = l ++ [o1, o2] := swapL_spec hs
      subst e
      have hsz : (⟨l ++ [o1, o2]⟩ : Array Oper).size = l.length + 2 := by simp
      have hsz' : (⟨l ++ [o2, o1]⟩ : Array Oper).size = l.length + 2 := by simp
      rw [hsz'] at h2
      rw [hsz]
      refine sw_any hc.1 hc.2 _ _ _ _ (by simp) ?_
      have em : swM l.length (Array.replicate (l.length + 2) false) = Array.replicate (l.length + 2) false := by
        apply Array.ext_getElem?
        intro j
        rw [swM_get (by simp)]
        simp only [Array.getElem?_replicate]
        have : (swI l.length j < l.length + 2) ↔ (j < l.length + 2) := by unfold swI; split <;> (try split) <;> omega
        by_cases hj : j < l.length + 2
        · rw [if_pos hj, if_pos (this.2 hj)]
        · rw [if_neg hj, if_neg fun q => hj (this.1 q)]
      rw [em]
      exact h2
    · cases hr
  · cases hr
/-- A drawn region: by its head and its tail; if it has no such form, by each of its orders. -/
def drawE (P : Program) : DrawFn := fun rec ops x =>
  match drawA P rec ops x with
  | some y => some y
  | none =>
    match (match drawX P rec ops x with | some y => some y | none => (match drawY P rec ops x with | some y => some y | none => drawZ P rec ops x)) with
    | some y => some y
    | none => if P.follows .mixedOrders && Region.noSelect ops then explore P rec ops ops.size (Array.replicate ops.size false) x else none
theorem drawE_low (P : Program) : DrawLow (drawE P) := by
  intro rec ops x x' hr k hm
  unfold drawE at hr
  split at hr
  · rename_i y hy
    cases hr
    exact drawA_low P rec ops x _ hy k hm
  · split at hr
    · rename_i y hy
      cases hr
      split at hy
      · rename_i z hz
        cases hy
        exact drawX_low P rec ops x _ hz k hm
      · split at hy
        · rename_i z hz
          cases hy
          exact drawY_low P rec ops x _ hz k hm
        · exact drawZ_low P rec ops x _ hy k hm
    · split at hr
      · exact explore_low _ _ _ _ hr hm
      · cases hr
theorem drawE_ok (P : Program) : DrawOk P (drawE P) := by
  intro rec hrec ops x x' hr wb k s id a w hm HS
  unfold drawE at hr
  split at hr
  · rename_i y hy
    cases hr
    exact drawA_ok P rec hrec ops x _ hy wb k s id a w hm HS
  split at hr
  · rename_i y hy
    cases hr
    split at hy
    · rename_i z hz
      cases hy
      exact drawX_ok P rec hrec ops x _ hz wb k s id a w hm HS
    · split at hy
      · rename_i z hz
        cases hy
        exact drawY_ok P rec hrec ops x _ hz wb k s id a w hm HS
      · exact drawZ_ok P rec hrec ops x _ hy wb k s id a w hm HS
  · split at hr
    · rename_i hc
      simp only [Bool.and_eq_true] at hc
      refine wp_region_any hc.1 ?_
      exact explore_ok hrec hc.2 (fun c a w h => by cases h.1) ops.size _ x x' hr hm s a w.drew ⟨HS.t, HS.d, HS.h.drew⟩ fun s' a' w' hle H' => ⟨rfl, s', hle, H'⟩
    · cases hr

abbrev Hook := FuncId → List Value → List AO → Option (Value × Cs)
def noHook : Hook := fun _ _ _ => none
theorem noHook_ok (P : Program) : HookOk P noHook := by intro f args h0 v cs h; cases h
/-- What the kernel reckons of a call whose arguments and whose answer hold no address: its answer, and one side of what must be the same; and the other side. -/
noncomputable def ranOf (P : Program) (hk : Hook) (L f : Nat) (g : FuncId) (args : List Value) : Option (Value × List AO × Mk) := callA P ⟨ex P (aOp P) (drawE P) (liftH (guardH hk)) noOrc accQ L f, liftH (guardH hk), fun _ _ => none, accQ⟩ g args []
noncomputable def reckonL (P : Program) (hk : Hook) (L f : Nat) (g : FuncId) (args : List Value) : Option (Value × List Int) :=
  match ranOf P hk L f g args with
  | some (v, _, m) => some (v, m.2.map (·.1))
  | none => none
noncomputable def reckonR (P : Program) (hk : Hook) (L f : Nat) (g : FuncId) (args : List Value) (v : Value) : Option (Value × List Int) :=
  match ranOf P hk L f g args with
  | some (_, _, m) => some (v, m.2.map (·.2))
  | none => some (v, [])
theorem map_same {α : Type} : ∀ {l : List (α × α)}, l.map (·.1) = l.map (·.2) → ∀ c ∈ l, c.1 = c.2
  | [], _, c, hc => by cases hc
  | x :: l, h, c, hc => by
    simp only [List.map_cons, List.cons.injEq] at h
    rcases List.mem_cons.1 hc with e | e
    · rw [e]; exact h.1
    · exact map_same h.2 c e
theorem reckonH_ok {P : Program} (hng : NoNG P) {hk : Hook} (hhk : HookOk P hk) (L f : Nat) {g : FuncId} {args : List Value} {v : Value} (ha : args.all flat = true) (hv : flat v = true) (h : reckonL P hk L f g args = reckonR P hk L f g args v) (w : World) :
    Calls P g ⟨args⟩ w fun e w' => e = .returned v ∧ Gr w w' := by
  unfold reckonL reckonR ranOf at h
  cases hc : callA P ⟨ex P (aOp P) (drawE P) (liftH (guardH hk)) noOrc accQ L f, liftH (guardH hk), fun _ _ => none, accQ⟩ g args [] with
  | none => rw [hc] at h; cases h
  | some r =>
    obtain ⟨v', h', m⟩ := r
    rw [hc] at h
    simp only [Option.some.injEq, Prod.mk.injEq] at h
    obtain ⟨rfl, h2⟩ := h
    exact closed_call accQ_eq hng (aOp_ok P hng) (drawE_ok P) (drawE_low P) (lift_ok (guard_ok hhk)) L f ha hv hc (map_same h2) w
theorem reckon_ok {P : Program} (hng : NoNG P) (L f : Nat) {g : FuncId} {args : List Value} {v : Value} (ha : args.all flat = true) (hv : flat v = true) (h : reckonL P noHook L f g args = reckonR P noHook L f g args v) (w : World) :
    Calls P g ⟨args⟩ w fun e w' => e = .returned v ∧ Gr w w' := reckonH_ok hng (noHook_ok P) L f ha hv h w
end Go.Proofs.YthhgfjnnconocaaGreatDoor.Ex
end
section
namespace Go.Proofs.YthhgfjnnconocaaGreatDoor.Ex
set_option maxRecDepth 20000

open Go Go.RowKit

/-- The first blocks: a package's variables; those that are not spoken of are given up. -/
def placeG (h0 : List AO) (w : World) : Ren := fun g =>
  match h0[g]?, w.shape? g with
  | some o, some (_, tot) => if o.live then some ⟨g, 0, tot, some GM⟩ else none
  | _, _ => none
def Laid (h0 : List AO) (w : World) : Prop :=
  ∀ (g : Nat) (o : AO), h0[g]? = some o → o.live = true → o.es = some GM ∧ o.cs.all flat = true ∧ ∃ T tot, w.shape? g = some (T, tot) ∧ o.cs.length ≤ tot ∧ ∀ (j : Nat) (v : Value), o.cs[j]? = some v → w.cell? ⟨g, j, none⟩ = some v
theorem shape_cells {w : World} {g : Nat} {T : TypeId} {n : Nat} (h : w.shape? g = some (T, n)) : g < w.heap.size ∧ ∀ j, j < n → (w.cell? ⟨g, j, none⟩).isSome = true := by
  unfold World.shape? at h
  split at h
  · rename_i c e f hh
    cases h
    refine ⟨(Array.getElem?_eq_some_iff.1 hh).1, fun j hj => ?_⟩
    unfold World.cell?
    simp only [hh]
    simpa using hj
  · cases h
theorem HR.start {h0 : List AO} {w : World} (hL : Laid h0 w) : HR w h0.length (placeG h0 w) h0 w := by
  have pl : ∀ g p, placeG h0 w g = some p → ∃ o T tot, h0[g]? = some o ∧ o.live = true ∧ w.shape? g = some (T, tot) ∧ p = ⟨g, 0, tot, some GM⟩ := by
    intro g p hp
    unfold placeG at hp
    split at hp
    · rename_i o T tot ho hs
      split at hp
      · rename_i hl; cases hp; exact ⟨o, T, tot, ho, hl, hs, rfl⟩
      · cases hp
    · cases hp
  refine ⟨GrB.refl w _, Nat.le_refl _, fun i hi => ?_, fun i p hp => ?_, fun i o ho hl => ?_, fun i j a b p q hi hj _ _ hp hq e => ?_, fun g p hp _ => ?_⟩
  · unfold placeG
    rw [List.getElem?_eq_none hi]
  · obtain ⟨o, T, tot, ho, hl, hs, rfl⟩ := pl i p hp
    have := (shape_cells hs).1
    have hlt := (List.getElem?_eq_some_iff.1 ho).1
    exact ⟨fun _ => ⟨this, fun f => f⟩, fun h => absurd h (by omega), this⟩
  · obtain ⟨he, hf, T, tot, hs, hle, hc⟩ := hL i o ho hl
    refine ⟨⟨i, 0, tot, some GM⟩, by unfold placeG; simp [ho, hl, hs], he.symm, ObjAt.block (by unfold isM; rw [he]; rfl) ⟨by simpa using hle, (shape_cells hs).2, ⟨T, hs⟩, fun hg => absurd rfl hg, fun j v hv => ⟨v, ?_, .same (all_get hf hv)⟩⟩⟩
    rw [Nat.zero_add]
    exact hc j v hv
  · obtain ⟨_, _, _, _, _, _, rfl⟩ := pl i p hp
    obtain ⟨_, _, _, _, _, _, rfl⟩ := pl j q hq
    exact e
  · obtain ⟨_, _, _, _, _, _, rfl⟩ := pl g p hp
    exact ⟨rfl, rfl⟩
/-- A memory that is told by a heap whose first blocks are such variables has these. -/
def eqI : Value → Value → Bool
  | .int k a, .int j b => if k = j then a == b else false
  | x, y => veq0 x y
theorem eqI_ok {x y : Value} (h : eqI x y = true) : x = y := by
  unfold eqI at h
  split at h
  · split at h
    · rename_i hk; rw [hk, eq_of_beq h]
    · cases h
  · exact veq0_ok h
def eqL : List Value → List Value → Bool
  | [], [] => true
  | x :: xs, y :: ys => eqI x y && eqL xs ys
  | _, _ => false
theorem eqL_ok : ∀ {xs ys : List Value}, eqL xs ys = true → xs = ys
  | [], [], _ => rfl
  | x :: xs, y :: ys, h => by
    simp only [eqL, Bool.and_eq_true] at h
    rw [eqI_ok h.1, eqL_ok h.2]
  | [], _ :: _, h => by cases h
  | _ :: _, [], h => by cases h
def hasG : List AO → List AO → Bool
  | [], _ => true
  | _ :: _, [] => false
  | o :: l, p :: h => (!o.live || (p.live && (match p.es with | some e => Nat.beq e GM | none => false) && eqL p.cs o.cs)) && hasG l h
theorem hasG_at : ∀ {h0 h : List AO}, hasG h0 h = true → ∀ (g : Nat) (o : AO), h0[g]? = some o → o.live = true → ∃ p, h[g]? = some p ∧ p.live = true ∧ p.es = some GM ∧ p.cs = o.cs
  | [], _, _, g, o, ho, _ => by simp at ho
  | _ :: _, [], h, _, _, _, _ => by cases h
  | o :: l, p :: h, hh, g, q, hq, hl => by
    simp only [hasG, Bool.and_eq_true] at hh
    cases g with
    | succ g => simpa using hasG_at hh.2 g q (by simpa using hq) hl
    | zero =>
      simp at hq
      subst hq
      have h1 := hh.1
      simp only [hl, Bool.not_true, Bool.false_or, Bool.and_eq_true] at h1
      refine ⟨p, rfl, h1.1.1, ?_, eqL_ok h1.2⟩
      cases he : p.es with
      | none => rw [he] at h1; cases h1.1.2
      | some e => rw [he] at h1; rw [Nat.eq_of_beq_eq_true h1.1.2]
theorem HR.laid {wb : Wb} {k : Nat} {s : Ren} {h h0 : List AO} {w : World} (H : HR wb k s h w) (hh : hasG h0 h = true) (hf : h0.all (fun o => !o.live || (match o.es with | some e => Nat.beq e GM | none => false) && o.cs.all flat) = true) : Laid h0 w := by
  intro g o ho hl
  obtain ⟨p, hp, hpl, hpe, hpc⟩ := hasG_at hh g o ho hl
  have hfo := List.all_eq_true.1 hf o (List.mem_of_getElem? ho)
  simp only [hl, Bool.not_true, Bool.false_or, Bool.and_eq_true] at hfo
  have hoe : o.es = some GM := by
    cases he : o.es with
    | none => rw [he] at hfo; cases hfo.1
    | some e => rw [he] at hfo; rw [Nat.eq_of_beq_eq_true hfo.1]
  obtain ⟨q, hq, hqe, hb⟩ := H.obj g p hp hpl
  obtain ⟨e1, e2⟩ := H.gl g q hq (by rw [hqe, hpe])
  have B := hb.2 (by unfold isM; rw [hpe]; rfl)
  obtain ⟨T, hT⟩ := B.shp
  rw [e1] at hT
  refine ⟨hoe, hfo.2, T, q.tot, hT, ?_, fun j v hv => ?_⟩
  · have := B.fit
    rw [hpc] at this
    omega
  · obtain ⟨v', h1, h2⟩ := B.rel j v (by rw [hpc]; exact hv)
    rw [e1, e2, Nat.zero_add, h2.eq_of_flat (all_get hfo.2 hv)] at h1
    exact h1
noncomputable def ranG (P : Program) (hk : Hook) (orc : Orc) (L f : Nat) (h0 : List AO) (g : FuncId) (args : List Value) : Option (Value × List AO × Mk) :=
  match callA P ⟨ex P (aOp P) (drawE P) (liftH hk) orc accQ L f, liftH hk, fun _ _ => none, accQ⟩ g args h0 with
  | some (v, h, m) => if quietB h0.length m.1 then some (v, h, m) else none
  | none => none
noncomputable def reckonGL (P : Program) (hk : Hook) (orc : Orc) (L f : Nat) (h0 : List AO) (g : FuncId) (args : List Value) : Option (Value × List Int) :=
  match ranG P hk orc L f h0 g args with
  | some (v, _, m) => some (v, m.2.map (·.1))
  | none => none
noncomputable def reckonGR (P : Program) (hk : Hook) (orc : Orc) (L f : Nat) (h0 : List AO) (g : FuncId) (args : List Value) (v : Value) : Option (Value × List Int) :=
  match ranG P hk orc L f h0 g args with
  | some (_, _, m) => some (v, m.2.map (·.2))
  | none => some (v, [])
/-- A run with tests that are not reckoned: 'orc' says which way each goes; what it must hold for is 'ls = rs'. -/
theorem reckonX_any {P : Program} (hng : NoNG P) {hk : Hook} (hhk : HookOk2 P hk) (orc : Orc) (L f : Nat) (h0 : List AO) {g : FuncId} {args : List Value} {v : Value} (ha : args.all flat = true) (hv : flat v = true) (h : reckonGL P hk orc L f h0 g args = reckonGR P hk orc L f h0 g args v) (w : World) (hL : Laid h0 w) :
    Calls P g ⟨args⟩ w fun e w' => e = .returned v ∧ Gr w w' := by
  unfold reckonGL reckonGR ranG at h
  cases hc : callA P ⟨ex P (aOp P) (drawE P) (liftH hk) orc accQ L f, liftH hk, fun _ _ => none, accQ⟩ g args h0 with
  | none => rw [hc] at h; cases h
  | some r =>
    obtain ⟨v', h', m⟩ := r
    rw [hc] at h
    simp only at h
    split at h
    · rename_i r2 v2 h2 m2 hm2
      split at hm2
      · rename_i hq
        cases hm2
        simp only [Option.some.injEq, Prod.mk.injEq] at h
        obtain ⟨rfl, h3⟩ := h
        refine (callA_ok (ex_ok accQ_eq hng (aOp_ok P hng) (drawE_ok P) (drawE_low P) (lift_ok hhk) L f _) hc (wb := w) (k := h0.length) (s := placeG h0 w) ⟨quietB_ok hq, map_same h3⟩ (LR.ofFlat ha) (HR.start hL)).mono ?_
        rintro e w' ⟨s', u, rfl, _, H, hvr⟩
        rw [hvr.eq_of_flat hv]
        exact ⟨rfl, H.grown.gr⟩
      · cases hm2
    · cases h
theorem reckonG_any {P : Program} (hng : NoNG P) {hk : Hook} (hhk : HookOk P hk) (orc : Orc) (L f : Nat) (h0 : List AO) {g : FuncId} {args : List Value} {v : Value} (ha : args.all flat = true) (hv : flat v = true) (h : reckonGL P (guardH hk) orc L f h0 g args = reckonGR P (guardH hk) orc L f h0 g args v) (w : World) (hL : Laid h0 w) :
    Calls P g ⟨args⟩ w fun e w' => e = .returned v ∧ Gr w w' := reckonX_any hng (guard_ok hhk) orc L f h0 ha hv h w hL
theorem reckonG_ok {P : Program} (hng : NoNG P) {hk : Hook} (hhk : HookOk P hk) (L f : Nat) (h0 : List AO) {g : FuncId} {args : List Value} {v : Value} (ha : args.all flat = true) (hv : flat v = true) (h : reckonGL P (guardH hk) noOrc L f h0 g args = reckonGR P (guardH hk) noOrc L f h0 g args v) (w : World) (hL : Laid h0 w) :
    Calls P g ⟨args⟩ w fun e w' => e = .returned v ∧ Gr w w' := reckonG_any hng hhk noOrc L f h0 ha hv h w hL
noncomputable def reckonGC (P : Program) (hk : Hook) (orc : Orc) (L f : Nat) (h0 : List AO) (g : FuncId) (args : List Value) : Option (Value × Cs) :=
  match ranG P hk orc L f h0 g args with
  | some (v, _, m) => some (v, m.2)
  | none => none
/-- The same, of one run alone: 'cs' are the pairs that must be the same. -/
theorem reckonT_ok {P : Program} (hng : NoNG P) {hk : Hook} (hhk : HookOk P hk) (orc : Orc) (L f : Nat) (h0 : List AO) {g : FuncId} {args : List Value} {v : Value} {cs : Cs} (ha : args.all flat = true) (hv : flat v = true) (h : reckonGC P (guardH hk) orc L f h0 g args = some (v, cs))
    (he : cs.map (·.1) = cs.map (·.2)) (w : World) (hL : Laid h0 w) : Calls P g ⟨args⟩ w fun e w' => e = .returned v ∧ Gr w w' := by
  refine reckonG_any hng hhk orc L f h0 ha hv ?_ w hL
  unfold reckonGC at h
  unfold reckonGL reckonGR
  split at h
  · rename_i v' h' m hr
    cases h
    simp only [he]
  · cases h
theorem laid_at {g : Nat} {cs : List Value} {w : World} (h : ∃ t fr, w.heap[g]? = some (.cells ⟨cs⟩ t fr)) : ∃ T tot, w.shape? g = some (T, tot) ∧ cs.length ≤ tot ∧ ∀ (j : Nat) (v : Value), cs[j]? = some v → w.cell? ⟨g, j, none⟩ = some v := by
  obtain ⟨t, fr, hh⟩ := h
  refine ⟨t, cs.length, by simp [World.shape?, hh], Nat.le_refl _, fun j v hv => ?_⟩
  unfold World.cell?
  simp only [hh]
  simpa using hv
/-- One variable, at its place. -/
theorem Laid.one {g0 : Nat} {cs : List Value} {w : World} (hf : cs.all flat = true) (h : ∃ t fr, w.heap[g0]? = some (.cells ⟨cs⟩ t fr)) : Laid (List.replicate g0 dead ++ [⟨true, some GM, cs⟩]) w := by
  intro g o ho hl
  by_cases e : g < g0
  · rw [List.getElem?_append_left (by simpa using e), List.getElem?_replicate, if_pos e] at ho
    cases ho
    cases hl
  · have h2 := (List.getElem?_eq_some_iff.1 ho).1
    simp only [List.length_append, List.length_replicate, List.length_singleton] at h2
    obtain rfl : g = g0 := by omega
    rw [List.getElem?_append_right (by simp)] at ho
    simp only [List.length_replicate, Nat.sub_self, List.getElem?_cons_zero, Option.some.injEq] at ho
    subst ho
    exact ⟨rfl, hf, laid_at h⟩
theorem Laid.nil (w : World) : Laid [] w := fun g o h => by simp at h
theorem Laid.gr {h0 : List AO} {w w' : World} (h : Laid h0 w) (g : Gr w w') : Laid h0 w' := fun i o ho hl =>
  let ⟨a, b, T, tot, hs, hle, hc⟩ := h i o ho hl
  ⟨a, b, T, tot, gr_shape g (shape_cells hs).1 hs, hle, fun j v hv => (gr_cell g (a := ⟨i, j, none⟩) (shape_cells hs).1).trans (hc j v hv)⟩
end Go.Proofs.YthhgfjnnconocaaGreatDoor.Ex
end
section
namespace Go.Proofs.YthhgfjnnconocaaGreatDoor.Ex
set_option maxRecDepth 20000

open Go Go.RowKit

/-- What the kernel reckons of a call, with hooks that may lay memory. -/
noncomputable def ran3 (P : Program) (hk : Hook3) (orc : Orc) (L f : Nat) (h0 : List AO) (g : FuncId) (args : List Value) : Option (Value × List AO × Mk) :=
  match callA P ⟨ex P (aOp P) (drawE P) hk orc accQ L f, hk, fun _ _ => none, accQ⟩ g args h0 with
  | some (v, h, m) => if quietB h0.length m.1 then some (v, h, m) else none
  | none => none
noncomputable def reckon3L (P : Program) (hk : Hook3) (orc : Orc) (L f : Nat) (h0 : List AO) (g : FuncId) (args : List Value) : Option (Value × List Int) :=
  match ran3 P hk orc L f h0 g args with
  | some (v, _, m) => some (v, m.2.map (·.1))
  | none => none
noncomputable def reckon3R (P : Program) (hk : Hook3) (orc : Orc) (L f : Nat) (h0 : List AO) (g : FuncId) (args : List Value) (v : Value) : Option (Value × List Int) :=
  match ran3 P hk orc L f h0 g args with
  | some (_, _, m) => some (v, m.2.map (·.2))
  | none => some (v, [])
theorem reckon3_any {P : Program} (hng : NoNG P) {hk : Hook3} (hhk : HookOk3 P hk) (orc : Orc) (L f : Nat) (h0 : List AO) {g : FuncId} {args : List Value} {v : Value} (ha : args.all flat = true) (hv : flat v = true) (h : reckon3L P hk orc L f h0 g args = reckon3R P hk orc L f h0 g args v) (w : World) (hL : Laid h0 w) :
    Calls P g ⟨args⟩ w fun e w' => e = .returned v ∧ Gr w w' := by
  unfold reckon3L reckon3R ran3 at h
  cases hc : callA P ⟨ex P (aOp P) (drawE P) hk orc accQ L f, hk, fun _ _ => none, accQ⟩ g args h0 with
  | none => rw [hc] at h; cases h
  | some r =>
    obtain ⟨v', h', m⟩ := r
    rw [hc] at h
    simp only at h
    split at h
    · rename_i r2 v2 h2 m2 hm2
      split at hm2
      · rename_i hq
        cases hm2
        simp only [Option.some.injEq, Prod.mk.injEq] at h
        obtain ⟨rfl, h3⟩ := h
        refine (callA_ok (ex_ok accQ_eq hng (aOp_ok P hng) (drawE_ok P) (drawE_low P) hhk L f _) hc (wb := w) (k := h0.length) (s := placeG h0 w) ⟨quietB_ok hq, map_same h3⟩ (LR.ofFlat ha) (HR.start hL)).mono ?_
        rintro e w' ⟨s', u, rfl, _, H, hvr⟩
        rw [hvr.eq_of_flat hv]
        exact ⟨rfl, H.grown.gr⟩
      · cases hm2
    · cases h
/-- The blocks that a call of flat arguments lays, where so many blocks are told already: its value, they, and what must be the same. -/
noncomputable def lays (P : Program) (hk : Hook3) (orc : Orc) (L f : Nat) (q : Nat) (g : FuncId) (args : List Value) : Option (Value × List AO × Cs) :=
  match callA P ⟨ex P (aOp P) (drawE P) hk orc accQ L f, hk, fun _ _ => none, accQ⟩ g args (List.replicate q dead) with
  | some (v, h, m) =>
    if quietB q m.1 && (refF (fun x => decide (q ≤ x) && decide (x < q + (h.drop q).length)) 6 v && (h.drop q).all (refO fun x => decide (q ≤ x) && decide (x < q + (h.drop q).length))) then some (v, h.drop q, m.2) else none
  | none => none
theorem layL_end {h new : List AO} : layL (h ++ List.replicate new.length dead) h.length new = h ++ new := by
  unfold layL
  rw [List.take_left', List.drop_of_length_le (by simp)]
  · simp
  · rfl
/-- A table of calls that lay memory: by function, arguments and how many blocks are told already. -/
structure LayCall where
  f : FuncId
  args : List Value
  q : Nat
  v : Value
  new : List AO
def layHook (same : List Value → List Value → Bool) : List LayCall → Hook3
  | [] => fun _ _ _ => none
  | e :: l => fun f args h => if Nat.beq f e.f && (Nat.beq h.length e.q && same args e.args) && plainN e.new then some (e.v, e.new, []) else layHook same l f args h
/-- Its call does that, wherever so many blocks are told. -/
def LayOk (P : Program) (e : LayCall) : Prop :=
  ∀ (wb : Wb) (k : Nat) (s : Ren) (h : List AO) (w : World), h.length = e.q → HR wb k s h w → Calls P e.f ⟨e.args⟩ w (CallPost wb k s e.v (h ++ e.new))
theorem layHook_ok {P : Program} {same : List Value → List Value → Bool} (hs : ∀ a b, same a b = true → a = b) : ∀ {t : List LayCall}, (∀ e ∈ t, e.args.all flat = true ∧ LayOk P e) → HookOk3 P (layHook same t)
  | [], _ => by intro f args h v new cs hv; cases hv
  | e :: t, ht => by
    intro f args h v new cs hv hc wb k s w args' hb H ha
    unfold layHook at hv
    split at hv
    · rename_i hcond
      simp only [Bool.and_eq_true] at hcond
      obtain ⟨⟨h1, h2, h3⟩, hpl⟩ := hcond
      cases hv
      rw [hookH_plain hpl]
      obtain rfl := Nat.eq_of_beq_eq_true h1
      obtain rfl := hs _ _ h3
      obtain ⟨hfl, hok⟩ := ht e (List.mem_cons_self ..)
      rw [ha.eq_of_flat hfl]
      exact hok wb k s h w (Nat.eq_of_beq_eq_true h2) H
    · exact layHook_ok hs (fun e he => ht e (List.mem_cons_of_mem _ he)) f args h v new cs hv hc wb k s w args' hb H ha
def orHook3 (a b : Hook3) : Hook3 := fun f args h =>
  match a f args h with
  | some r => some r
  | none => b f args h
theorem orHook3_ok {P : Program} {a b : Hook3} (ha : HookOk3 P a) (hb : HookOk3 P b) : HookOk3 P (orHook3 a b) := by
  intro f args h v new cs hv
  unfold orHook3 at hv
  split at hv
  · rename_i r hr
    cases hv
    exact ha f args h v new cs hr
  · exact hb f args h v new cs hv
end Go.Proofs.YthhgfjnnconocaaGreatDoor.Ex
end
section
namespace Go.Proofs.YthhgfjnnconocaaGreatDoor.Ex
set_option maxRecDepth 20000

open Go Go.RowKit
set_option maxRecDepth 1000000 in
theorem noNG : NoNG Tryz.prog := noNG_ok (by kernel_rfl)
end Go.Proofs.YthhgfjnnconocaaGreatDoor.Ex
end
section
namespace Go.Proofs.YthhgfjnnconocaaGreatDoor.Ex
set_option maxRecDepth 20000

open Go Go.RowKit
def u8c0 : List Int := [0, 1, 2, 3, 4, 5, 6, 7]
def u8c1 : List Int := [8, 9, 10, 11, 12, 13, 14, 15]
def u8c2 : List Int := [16, 17, 18, 19, 20, 21, 22, 23]
def u8c3 : List Int := [24, 25, 26, 27, 28, 29, 30, 31]
def u8c4 : List Int := [32, 33, 34, 35, 36, 37, 38, 39]
def u8c5 : List Int := [40, 41, 42, 43, 44, 45, 46, 47]
def u8c6 : List Int := [48, 49, 50, 51, 52, 53, 54, 55]
def u8c7 : List Int := [56, 57, 58, 59, 60, 61, 62, 63]
def u8c8 : List Int := [64, 65, 66, 67, 68, 69, 70, 71]
def u8c9 : List Int := [72, 73, 74, 75, 76, 77, 78, 79]
def u8c10 : List Int := [80, 81, 82, 83, 84, 85, 86, 87]
def u8c11 : List Int := [88, 89, 90, 91, 92, 93, 94, 95]
def u8c12 : List Int := [96, 97, 98, 99, 100, 101, 102, 103]
def u8c13 : List Int := [104, 105, 106, 107, 108, 109, 110, 111]
def u8c14 : List Int := [112, 113, 114, 115, 116, 117, 118, 119]
def u8c15 : List Int := [120, 121, 122, 123, 124, 125, 126, 127]
def u8c16 : List Int := [128, 129, 130, 131, 132, 133, 134, 135]
def u8c17 : List Int := [136, 137, 138, 139, 140, 141, 142, 143]
def u8c18 : List Int := [144, 145, 146, 147, 148, 149, 150, 151]
def u8c19 : List Int := [152, 153, 154, 155, 156, 157, 158, 159]
def u8c20 : List Int := [160, 161, 162, 163, 164, 165, 166, 167]
def u8c21 : List Int := [168, 169, 170, 171, 172, 173, 174, 175]
def u8c22 : List Int := [176, 177, 178, 179, 180, 181, 182, 183]
def u8c23 : List Int := [184, 185, 186, 187, 188, 189, 190, 191]
def u8c24 : List Int := [192, 193, 194, 195, 196, 197, 198, 199]
def u8c25 : List Int := [200, 201, 202, 203, 204, 205, 206, 207]
def u8c26 : List Int := [208, 209, 210, 211, 212, 213, 214, 215]
def u8c27 : List Int := [216, 217, 218, 219, 220, 221, 222, 223]
def u8c28 : List Int := [224, 225, 226, 227, 228, 229, 230, 231]
def u8c29 : List Int := [232, 233, 234, 235, 236, 237, 238, 239]
def u8c30 : List Int := [240, 241, 242, 243, 244, 245, 246, 247]
def u8c31 : List Int := [248, 249, 250, 251, 252, 253, 254, 255]
def u8s : List Int := u8c0 ++ (u8c1 ++ (u8c2 ++ (u8c3 ++ (u8c4 ++ (u8c5 ++ (u8c6 ++ (u8c7 ++ (u8c8 ++ (u8c9 ++ (u8c10 ++ (u8c11 ++ (u8c12 ++ (u8c13 ++ (u8c14 ++ (u8c15 ++ (u8c16 ++ (u8c17 ++ (u8c18 ++ (u8c19 ++ (u8c20 ++ (u8c21 ++ (u8c22 ++ (u8c23 ++ (u8c24 ++ (u8c25 ++ (u8c26 ++ (u8c27 ++ (u8c28 ++ (u8c29 ++ (u8c30 ++ (u8c31)))))))))))))))))))))))))))))))
def u8in (x : Int) : Bool := decide (0 ≤ x ∧ x < 256)
theorem u8s_all : (List.range 256).all (fun n => u8s.contains (n : Int)) = true := by kernel_rfl
theorem u8in_mem {x : Int} (h : u8in x = true) : x ∈ u8s := by
  obtain ⟨h0, h1⟩ := of_decide_eq_true h
  obtain ⟨n, rfl⟩ := Int.eq_ofNat_of_zero_le h0
  exact List.contains_iff_mem.1 (List.all_eq_true.1 u8s_all n (List.mem_range.2 (by omega)))
end Go.Proofs.YthhgfjnnconocaaGreatDoor.Ex
end
section
namespace Go.Proofs.YthhgfjnnconocaaGreatDoor.Ex
set_option maxRecDepth 20000

open Go Go.RowKit
def rkSizeV (n : Nat) : Value := (bif Nat.ble 128 n then (.int .i64 0) else (bif Nat.ble 64 n then (bif Nat.ble 96 n then (bif Nat.ble 112 n then (bif Nat.ble 120 n then (bif Nat.ble 124 n then (.int .i64 0) else (bif Nat.ble 122 n then (.int .i64 8) else (bif Nat.ble 121 n then (.int .i64 8) else (.int .i64 0)))) else (bif Nat.ble 116 n then (.int .i64 0) else (bif Nat.ble 114 n then (.int .i64 1) else (bif Nat.ble 113 n then (.int .i64 1) else (.int .i64 0))))) else (bif Nat.ble 104 n then (bif Nat.ble 108 n then (.int .i64 0) else (bif Nat.ble 106 n then (.int .i64 2) else (bif Nat.ble 105 n then (.int .i64 2) else (.int .i64 0)))) else (bif Nat.ble 100 n then (.int .i64 0) else (bif Nat.ble 98 n then (.int .i64 4) else (bif Nat.ble 97 n then (.int .i64 4) else (.int .i64 0)))))) else (.int .i64 0)) else (.int .i64 0)))
theorem rkSize_flat : u8s.all (fun op => flat (rkSizeV op.toNat)) = true := by kernel_rfl
set_option maxHeartbeats 0 in
set_option maxRecDepth 1000000 in
theorem rkSize_0 : u8c0.map (fun op => reckonGC Tryz.prog (guardH noHook) noOrc 100000 300 [] 145 [.int .u8 op]) = u8c0.map (fun op => some (rkSizeV op.toNat, [])) := by kernel_rfl
set_option maxHeartbeats 0 in
set_option maxRecDepth 1000000 in
theorem rkSize_1 : u8c1.map (fun op => reckonGC Tryz.prog (guardH noHook) noOrc 100000 300 [] 145 [.int .u8 op]) = u8c1.map (fun op => some (rkSizeV op.toNat, [])) := by kernel_rfl
set_option maxHeartbeats 0 in
set_option maxRecDepth 1000000 in
theorem rkSize_2 : u8c2.map (fun op => reckonGC Tryz.prog (guardH noHook) noOrc 100000 300 [] 145 [.int .u8 op]) = u8c2.map (fun op => some (rkSizeV op.toNat, [])) := by kernel_rfl
set_option maxHeartbeats 0 in
set_option maxRecDepth 1000000 in
theorem rkSize_3 : u8c3.map (fun op => reckonGC Tryz.prog (guardH noHook) noOrc 100000 300 [] 145 [.int .u8 op]) = u8c3.map (fun op => some (rkSizeV op.toNat, [])) := by kernel_rfl
set_option maxHeartbeats 0 in
set_option maxRecDepth 1000000 in
theorem rkSize_4 : u8c4.map (fun op => reckonGC Tryz.prog (guardH noHook) noOrc 100000 300 [] 145 [.int .u8 op]) = u8c4.map (fun op => some (rkSizeV op.toNat, [])) := by kernel_rfl
set_option maxHeartbeats 0 in
set_option maxRecDepth 1000000 in
theorem rkSize_5 : u8c5.map (fun op => reckonGC Tryz.prog (guardH noHook) noOrc 100000 300 [] 145 [.int .u8 op]) = u8c5.map (fun op => some (rkSizeV op.toNat, [])) := by kernel_rfl
set_option maxHeartbeats 0 in
set_option maxRecDepth 1000000 in
theorem rkSize_6 : u8c6.map (fun op => reckonGC Tryz.prog (guardH noHook) noOrc 100000 300 [] 145 [.int .u8 op]) = u8c6.map (fun op => some (rkSizeV op.toNat, [])) := by kernel_rfl
set_option maxHeartbeats 0 in
set_option maxRecDepth 1000000 in
theorem rkSize_7 : u8c7.map (fun op => reckonGC Tryz.prog (guardH noHook) noOrc 100000 300 [] 145 [.int .u8 op]) = u8c7.map (fun op => some (rkSizeV op.toNat, [])) := by kernel_rfl
set_option maxHeartbeats 0 in
set_option maxRecDepth 1000000 in
theorem rkSize_8 : u8c8.map (fun op => reckonGC Tryz.prog (guardH noHook) noOrc 100000 300 [] 145 [.int .u8 op]) = u8c8.map (fun op => some (rkSizeV op.toNat, [])) := by kernel_rfl
set_option maxHeartbeats 0 in
set_option maxRecDepth 1000000 in
theorem rkSize_9 : u8c9.map (fun op => reckonGC Tryz.prog (guardH noHook) noOrc 100000 300 [] 145 [.int .u8 op]) = u8c9.map (fun op => some (rkSizeV op.toNat, [])) := by kernel_rfl
set_option maxHeartbeats 0 in
set_option maxRecDepth 1000000 in
theorem rkSize_10 : u8c10.map (fun op => reckonGC Tryz.prog (guardH noHook) noOrc 100000 300 [] 145 [.int .u8 op]) = u8c10.map (fun op => some (rkSizeV op.toNat, [])) := by kernel_rfl
set_option maxHeartbeats 0 in
set_option maxRecDepth 1000000 in
theorem rkSize_11 : u8c11.map (fun op => reckonGC Tryz.prog (guardH noHook) noOrc 100000 300 [] 145 [.int .u8 op]) = u8c11.map (fun op => some (rkSizeV op.toNat, [])) := by kernel_rfl
set_option maxHeartbeats 0 in
set_option maxRecDepth 1000000 in
theorem rkSize_12 : u8c12.map (fun op => reckonGC Tryz.prog (guardH noHook) noOrc 100000 300 [] 145 [.int .u8 op]) = u8c12.map (fun op => some (rkSizeV op.toNat, [])) := by kernel_rfl
set_option maxHeartbeats 0 in
set_option maxRecDepth 1000000 in
theorem rkSize_13 : u8c13.map (fun op => reckonGC Tryz.prog (guardH noHook) noOrc 100000 300 [] 145 [.int .u8 op]) = u8c13.map (fun op => some (rkSizeV op.toNat, [])) := by kernel_rfl
set_option maxHeartbeats 0 in
set_option maxRecDepth 1000000 in
theorem rkSize_14 : u8c14.map (fun op => reckonGC Tryz.prog (guardH noHook) noOrc 100000 300 [] 145 [.int .u8 op]) = u8c14.map (fun op => some (rkSizeV op.toNat, [])) := by kernel_rfl
set_option maxHeartbeats 0 in
set_option maxRecDepth 1000000 in
theorem rkSize_15 : u8c15.map (fun op => reckonGC Tryz.prog (guardH noHook) noOrc 100000 300 [] 145 [.int .u8 op]) = u8c15.map (fun op => some (rkSizeV op.toNat, [])) := by kernel_rfl
set_option maxHeartbeats 0 in
set_option maxRecDepth 1000000 in
theorem rkSize_16 : u8c16.map (fun op => reckonGC Tryz.prog (guardH noHook) noOrc 100000 300 [] 145 [.int .u8 op]) = u8c16.map (fun op => some (rkSizeV op.toNat, [])) := by kernel_rfl
set_option maxHeartbeats 0 in
set_option maxRecDepth 1000000 in
theorem rkSize_17 : u8c17.map (fun op => reckonGC Tryz.prog (guardH noHook) noOrc 100000 300 [] 145 [.int .u8 op]) = u8c17.map (fun op => some (rkSizeV op.toNat, [])) := by kernel_rfl
set_option maxHeartbeats 0 in
set_option maxRecDepth 1000000 in
theorem rkSize_18 : u8c18.map (fun op => reckonGC Tryz.prog (guardH noHook) noOrc 100000 300 [] 145 [.int .u8 op]) = u8c18.map (fun op => some (rkSizeV op.toNat, [])) := by kernel_rfl
set_option maxHeartbeats 0 in
set_option maxRecDepth 1000000 in
theorem rkSize_19 : u8c19.map (fun op => reckonGC Tryz.prog (guardH noHook) noOrc 100000 300 [] 145 [.int .u8 op]) = u8c19.map (fun op => some (rkSizeV op.toNat, [])) := by kernel_rfl
set_option maxHeartbeats 0 in
set_option maxRecDepth 1000000 in
theorem rkSize_20 : u8c20.map (fun op => reckonGC Tryz.prog (guardH noHook) noOrc 100000 300 [] 145 [.int .u8 op]) = u8c20.map (fun op => some (rkSizeV op.toNat, [])) := by kernel_rfl
set_option maxHeartbeats 0 in
set_option maxRecDepth 1000000 in
theorem rkSize_21 : u8c21.map (fun op => reckonGC Tryz.prog (guardH noHook) noOrc 100000 300 [] 145 [.int .u8 op]) = u8c21.map (fun op => some (rkSizeV op.toNat, [])) := by kernel_rfl
set_option maxHeartbeats 0 in
set_option maxRecDepth 1000000 in
theorem rkSize_22 : u8c22.map (fun op => reckonGC Tryz.prog (guardH noHook) noOrc 100000 300 [] 145 [.int .u8 op]) = u8c22.map (fun op => some (rkSizeV op.toNat, [])) := by kernel_rfl
set_option maxHeartbeats 0 in
set_option maxRecDepth 1000000 in
theorem rkSize_23 : u8c23.map (fun op => reckonGC Tryz.prog (guardH noHook) noOrc 100000 300 [] 145 [.int .u8 op]) = u8c23.map (fun op => some (rkSizeV op.toNat, [])) := by kernel_rfl
set_option maxHeartbeats 0 in
set_option maxRecDepth 1000000 in
theorem rkSize_24 : u8c24.map (fun op => reckonGC Tryz.prog (guardH noHook) noOrc 100000 300 [] 145 [.int .u8 op]) = u8c24.map (fun op => some (rkSizeV op.toNat, [])) := by kernel_rfl
set_option maxHeartbeats 0 in
set_option maxRecDepth 1000000 in
theorem rkSize_25 : u8c25.map (fun op => reckonGC Tryz.prog (guardH noHook) noOrc 100000 300 [] 145 [.int .u8 op]) = u8c25.map (fun op => some (rkSizeV op.toNat, [])) := by kernel_rfl
set_option maxHeartbeats 0 in
set_option maxRecDepth 1000000 in
theorem rkSize_26 : u8c26.map (fun op => reckonGC Tryz.prog (guardH noHook) noOrc 100000 300 [] 145 [.int .u8 op]) = u8c26.map (fun op => some (rkSizeV op.toNat, [])) := by kernel_rfl
set_option maxHeartbeats 0 in
set_option maxRecDepth 1000000 in
theorem rkSize_27 : u8c27.map (fun op => reckonGC Tryz.prog (guardH noHook) noOrc 100000 300 [] 145 [.int .u8 op]) = u8c27.map (fun op => some (rkSizeV op.toNat, [])) := by kernel_rfl
set_option maxHeartbeats 0 in
set_option maxRecDepth 1000000 in
theorem rkSize_28 : u8c28.map (fun op => reckonGC Tryz.prog (guardH noHook) noOrc 100000 300 [] 145 [.int .u8 op]) = u8c28.map (fun op => some (rkSizeV op.toNat, [])) := by kernel_rfl
set_option maxHeartbeats 0 in
set_option maxRecDepth 1000000 in
theorem rkSize_29 : u8c29.map (fun op => reckonGC Tryz.prog (guardH noHook) noOrc 100000 300 [] 145 [.int .u8 op]) = u8c29.map (fun op => some (rkSizeV op.toNat, [])) := by kernel_rfl
set_option maxHeartbeats 0 in
set_option maxRecDepth 1000000 in
theorem rkSize_30 : u8c30.map (fun op => reckonGC Tryz.prog (guardH noHook) noOrc 100000 300 [] 145 [.int .u8 op]) = u8c30.map (fun op => some (rkSizeV op.toNat, [])) := by kernel_rfl
set_option maxHeartbeats 0 in
set_option maxRecDepth 1000000 in
theorem rkSize_31 : u8c31.map (fun op => reckonGC Tryz.prog (guardH noHook) noOrc 100000 300 [] 145 [.int .u8 op]) = u8c31.map (fun op => some (rkSizeV op.toNat, [])) := by kernel_rfl
theorem c_rkSize (op : Int) (h : op ∈ u8s) (w : World) : Calls Tryz.prog 145 #[.int .u8 op] w fun e w' => e = .returned (rkSizeV op.toNat) ∧ Gr w w' := by
  have hf := List.all_eq_true.1 rkSize_flat op h
  unfold u8s at h
  rcases List.mem_append.1 h with hm | h
  · exact reckonT_ok noNG (noHook_ok _) noOrc 100000 300 [] (cs := []) rfl hf (List.map_inj_left.1 rkSize_0 op hm) rfl w (Laid.nil w)
  rcases List.mem_append.1 h with hm | h
  · exact reckonT_ok noNG (noHook_ok _) noOrc 100000 300 [] (cs := []) rfl hf (List.map_inj_left.1 rkSize_1 op hm) rfl w (Laid.nil w)
  rcases List.mem_append.1 h with hm | h
  · exact reckonT_ok noNG (noHook_ok _) noOrc 100000 300 [] (cs := []) rfl hf (List.map_inj_left.1 rkSize_2 op hm) rfl w (Laid.nil w)
  rcases List.mem_append.1 h with hm | h
  · exact reckonT_ok noNG (noHook_ok _) noOrc 100000 300 [] (cs := []) rfl hf (List.map_inj_left.1 rkSize_3 op hm) rfl w (Laid.nil w)
  rcases List.mem_append.1 h with hm | h
  · exact reckonT_ok noNG (noHook_ok _) noOrc 100000 300 [] (cs := []) rfl hf (List.map_inj_left.1 rkSize_4 op hm) rfl w (Laid.nil w)
  rcases List.mem_append.1 h with hm | h
  · exact reckonT_ok noNG (noHook_ok _) noOrc 100000 300 [] (cs := []) rfl hf (List.map_inj_left.1 rkSize_5 op hm) rfl w (Laid.nil w)
  rcases List.mem_append.1 h with hm | h
  · exact reckonT_ok noNG (noHook_ok _) noOrc 100000 300 [] (cs := []) rfl hf (List.map_inj_left.1 rkSize_6 op hm) rfl w (Laid.nil w)
  rcases List.mem_append.1 h with hm | h
  · exact reckonT_ok noNG (noHook_ok _) noOrc 100000 300 [] (cs := []) rfl hf (List.map_inj_left.1 rkSize_7 op hm) rfl w (Laid.nil w)
  rcases List.mem_append.1 h with hm | h
  · exact reckonT_ok noNG (noHook_ok _) noOrc 100000 300 [] (cs := []) rfl hf (List.map_inj_left.1 rkSize_8 op hm) rfl w (Laid.nil w)
  rcases List.mem_append.1 h with hm | h
  · exact reckonT_ok noNG (noHook_ok _) noOrc 100000 300 [] (cs := []) rfl hf (List.map_inj_left.1 rkSize_9 op hm) rfl w (Laid.nil w)
  rcases List.mem_append.1 h with hm | h
  · exact reckonT_ok noNG (noHook_ok _) noOrc 100000 300 [] (cs := []) rfl hf (List.map_inj_left.1 rkSize_10 op hm) rfl w (Laid.nil w)
  rcases List.mem_append.1 h with hm | h
  · exact reckonT_ok noNG (noHook_ok _) noOrc 100000 300 [] (cs := []) rfl hf (List.map_inj_left.1 rkSize_11 op hm) rfl w (Laid.nil w)
  rcases List.mem_append.1 h with hm | h
  · exact reckonT_ok noNG (noHook_ok _) noOrc 100000 300 [] (cs := []) rfl hf (List.map_inj_left.1 rkSize_12 op hm) rfl w (Laid.nil w)
  rcases List.mem_append.1 h with hm | h
  · exact reckonT_ok noNG (noHook_ok _) noOrc 100000 300 [] (cs := []) rfl hf (List.map_inj_left.1 rkSize_13 op hm) rfl w (Laid.nil w)
  rcases List.mem_append.1 h with hm | h
  · exact reckonT_ok noNG (noHook_ok _) noOrc 100000 300 [] (cs := []) rfl hf (List.map_inj_left.1 rkSize_14 op hm) rfl w (Laid.nil w)
  rcases List.mem_append.1 h with hm | h
  · exact reckonT_ok noNG (noHook_ok _) noOrc 100000 300 [] (cs := []) rfl hf (List.map_inj_left.1 rkSize_15 op hm) rfl w (Laid.nil w)
  rcases List.mem_append.1 h with hm | h
  · exact reckonT_ok noNG (noHook_ok _) noOrc 100000 300 [] (cs := []) rfl hf (List.map_inj_left.1 rkSize_16 op hm) rfl w (Laid.nil w)
  rcases List.mem_append.1 h with hm | h
  · exact reckonT_ok noNG (noHook_ok _) noOrc 100000 300 [] (cs := []) rfl hf (List.map_inj_left.1 rkSize_17 op hm) rfl w (Laid.nil w)
  rcases List.mem_append.1 h with hm | h
  · exact reckonT_ok noNG (noHook_ok _) noOrc 100000 300 [] (cs := []) rfl hf (List.map_inj_left.1 rkSize_18 op hm) rfl w (Laid.nil w)
  rcases List.mem_append.1 h with hm | h
  · exact reckonT_ok noNG (noHook_ok _) noOrc 100000 300 [] (cs := []) rfl hf (List.map_inj_left.1 rkSize_19 op hm) rfl w (Laid.nil w)
  rcases List.mem_append.1 h with hm | h
  · exact reckonT_ok noNG (noHook_ok _) noOrc 100000 300 [] (cs := []) rfl hf (List.map_inj_left.1 rkSize_20 op hm) rfl w (Laid.nil w)
  rcases List.mem_append.1 h with hm | h
  · exact reckonT_ok noNG (noHook_ok _) noOrc 100000 300 [] (cs := []) rfl hf (List.map_inj_left.1 rkSize_21 op hm) rfl w (Laid.nil w)
  rcases List.mem_append.1 h with hm | h
  · exact reckonT_ok noNG (noHook_ok _) noOrc 100000 300 [] (cs := []) rfl hf (List.map_inj_left.1 rkSize_22 op hm) rfl w (Laid.nil w)
  rcases List.mem_append.1 h with hm | h
  · exact reckonT_ok noNG (noHook_ok _) noOrc 100000 300 [] (cs := []) rfl hf (List.map_inj_left.1 rkSize_23 op hm) rfl w (Laid.nil w)
  rcases List.mem_append.1 h with hm | h
  · exact reckonT_ok noNG (noHook_ok _) noOrc 100000 300 [] (cs := []) rfl hf (List.map_inj_left.1 rkSize_24 op hm) rfl w (Laid.nil w)
  rcases List.mem_append.1 h with hm | h
  · exact reckonT_ok noNG (noHook_ok _) noOrc 100000 300 [] (cs := []) rfl hf (List.map_inj_left.1 rkSize_25 op hm) rfl w (Laid.nil w)
  rcases List.mem_append.1 h with hm | h
  · exact reckonT_ok noNG (noHook_ok _) noOrc 100000 300 [] (cs := []) rfl hf (List.map_inj_left.1 rkSize_26 op hm) rfl w (Laid.nil w)
  rcases List.mem_append.1 h with hm | h
  · exact reckonT_ok noNG (noHook_ok _) noOrc 100000 300 [] (cs := []) rfl hf (List.map_inj_left.1 rkSize_27 op hm) rfl w (Laid.nil w)
  rcases List.mem_append.1 h with hm | h
  · exact reckonT_ok noNG (noHook_ok _) noOrc 100000 300 [] (cs := []) rfl hf (List.map_inj_left.1 rkSize_28 op hm) rfl w (Laid.nil w)
  rcases List.mem_append.1 h with hm | h
  · exact reckonT_ok noNG (noHook_ok _) noOrc 100000 300 [] (cs := []) rfl hf (List.map_inj_left.1 rkSize_29 op hm) rfl w (Laid.nil w)
  rcases List.mem_append.1 h with hm | h
  · exact reckonT_ok noNG (noHook_ok _) noOrc 100000 300 [] (cs := []) rfl hf (List.map_inj_left.1 rkSize_30 op hm) rfl w (Laid.nil w)
  · exact reckonT_ok noNG (noHook_ok _) noOrc 100000 300 [] (cs := []) rfl hf (List.map_inj_left.1 rkSize_31 op h) rfl w (Laid.nil w)
def hk_rkSize : Hook := fun f args _ =>
  if Nat.beq f 145 then
    match args with
    | [.int .u8 op] => if u8in op then some (rkSizeV op.toNat, []) else none
    | _ => none
  else none
theorem hk_rkSize_ok : HookOk Tryz.prog hk_rkSize := by
  intro f args h v cs hv hc wb k s w H
  unfold hk_rkSize at hv
  split at hv
  · rename_i hf
    obtain rfl := Nat.eq_of_beq_eq_true hf
    split at hv
    · rename_i op
      split at hv
      · rename_i ho
        cases hv
        exact c_rkSize op (u8in_mem ho) w
      · cases hv
    · cases hv
  · cases hv
end Go.Proofs.YthhgfjnnconocaaGreatDoor.Ex
end
section
namespace Go.Proofs.YthhgfjnnconocaaGreatDoor.Ex
set_option maxRecDepth 20000

open Go Go.RowKit
def rkLoadV (n : Nat) : Value := (bif Nat.ble 128 n then (.bool false) else (bif Nat.ble 64 n then (bif Nat.ble 96 n then (bif Nat.ble 112 n then (bif Nat.ble 120 n then (bif Nat.ble 124 n then (.bool false) else (bif Nat.ble 122 n then (.bool false) else (bif Nat.ble 121 n then (.bool true) else (.bool false)))) else (bif Nat.ble 116 n then (.bool false) else (bif Nat.ble 114 n then (.bool false) else (bif Nat.ble 113 n then (.bool true) else (.bool false))))) else (bif Nat.ble 104 n then (bif Nat.ble 108 n then (.bool false) else (bif Nat.ble 106 n then (.bool false) else (bif Nat.ble 105 n then (.bool true) else (.bool false)))) else (bif Nat.ble 100 n then (.bool false) else (bif Nat.ble 98 n then (.bool false) else (bif Nat.ble 97 n then (.bool true) else (.bool false)))))) else (.bool false)) else (.bool false)))
theorem rkLoad_flat : u8s.all (fun op => flat (rkLoadV op.toNat)) = true := by kernel_rfl
set_option maxHeartbeats 0 in
set_option maxRecDepth 1000000 in
theorem rkLoad_0 : u8c0.map (fun op => reckonGC Tryz.prog (guardH noHook) noOrc 100000 300 [] 146 [.int .u8 op]) = u8c0.map (fun op => some (rkLoadV op.toNat, [])) := by kernel_rfl
set_option maxHeartbeats 0 in
set_option maxRecDepth 1000000 in
theorem rkLoad_1 : u8c1.map (fun op => reckonGC Tryz.prog (guardH noHook) noOrc 100000 300 [] 146 [.int .u8 op]) = u8c1.map (fun op => some (rkLoadV op.toNat, [])) := by kernel_rfl
set_option maxHeartbeats 0 in
set_option maxRecDepth 1000000 in
theorem rkLoad_2 : u8c2.map (fun op => reckonGC Tryz.prog (guardH noHook) noOrc 100000 300 [] 146 [.int .u8 op]) = u8c2.map (fun op => some (rkLoadV op.toNat, [])) := by kernel_rfl
set_option maxHeartbeats 0 in
set_option maxRecDepth 1000000 in
theorem rkLoad_3 : u8c3.map (fun op => reckonGC Tryz.prog (guardH noHook) noOrc 100000 300 [] 146 [.int .u8 op]) = u8c3.map (fun op => some (rkLoadV op.toNat, [])) := by kernel_rfl
set_option maxHeartbeats 0 in
set_option maxRecDepth 1000000 in
theorem rkLoad_4 : u8c4.map (fun op => reckonGC Tryz.prog (guardH noHook) noOrc 100000 300 [] 146 [.int .u8 op]) = u8c4.map (fun op => some (rkLoadV op.toNat, [])) := by kernel_rfl
set_option maxHeartbeats 0 in
set_option maxRecDepth 1000000 in
theorem rkLoad_5 : u8c5.map (fun op => reckonGC Tryz.prog (guardH noHook) noOrc 100000 300 [] 146 [.int .u8 op]) = u8c5.map (fun op => some (rkLoadV op.toNat, [])) := by kernel_rfl
set_option maxHeartbeats 0 in
set_option maxRecDepth 1000000 in
theorem rkLoad_6 : u8c6.map (fun op => reckonGC Tryz.prog (guardH noHook) noOrc 100000 300 [] 146 [.int .u8 op]) = u8c6.map (fun op => some (rkLoadV op.toNat, [])) := by kernel_rfl
set_option maxHeartbeats 0 in
set_option maxRecDepth 1000000 in
theorem rkLoad_7 : u8c7.map (fun op => reckonGC Tryz.prog (guardH noHook) noOrc 100000 300 [] 146 [.int .u8 op]) = u8c7.map (fun op => some (rkLoadV op.toNat, [])) := by kernel_rfl
set_option maxHeartbeats 0 in
set_option maxRecDepth 1000000 in
theorem rkLoad_8 : u8c8.map (fun op => reckonGC Tryz.prog (guardH noHook) noOrc 100000 300 [] 146 [.int .u8 op]) = u8c8.map (fun op => some (rkLoadV op.toNat, [])) := by kernel_rfl
set_option maxHeartbeats 0 in
set_option maxRecDepth 1000000 in
theorem rkLoad_9 : u8c9.map (fun op => reckonGC Tryz.prog (guardH noHook) noOrc 100000 300 [] 146 [.int .u8 op]) = u8c9.map (fun op => some (rkLoadV op.toNat, [])) := by kernel_rfl
set_option maxHeartbeats 0 in
set_option maxRecDepth 1000000 in
theorem rkLoad_10 : u8c10.map (fun op => reckonGC Tryz.prog (guardH noHook) noOrc 100000 300 [] 146 [.int .u8 op]) = u8c10.map (fun op => some (rkLoadV op.toNat, [])) := by kernel_rfl
set_option maxHeartbeats 0 in
set_option maxRecDepth 1000000 in
theorem rkLoad_11 : u8c11.map (fun op => reckonGC Tryz.prog (guardH noHook) noOrc 100000 300 [] 146 [.int .u8 op]) = u8c11.map (fun op => some (rkLoadV op.toNat, [])) := by kernel_rfl
set_option maxHeartbeats 0 in
set_option maxRecDepth 1000000 in
theorem rkLoad_12 : u8c12.map (fun op => reckonGC Tryz.prog (guardH noHook) noOrc 100000 300 [] 146 [.int .u8 op]) = u8c12.map (fun op => some (rkLoadV op.toNat, [])) := by kernel_rfl
set_option maxHeartbeats 0 in
set_option maxRecDepth 1000000 in
theorem rkLoad_13 : u8c13.map (fun op => reckonGC Tryz.prog (guardH noHook) noOrc 100000 300 [] 146 [.int .u8 op]) = u8c13.map (fun op => some (rkLoadV op.toNat, [])) := by kernel_rfl
set_option maxHeartbeats 0 in
set_option maxRecDepth 1000000 in
theorem rkLoad_14 : u8c14.map (fun op => reckonGC Tryz.prog (guardH noHook) noOrc 100000 300 [] 146 [.int .u8 op]) = u8c14.map (fun op => some (rkLoadV op.toNat, [])) := by kernel_rfl
set_option maxHeartbeats 0 in
set_option maxRecDepth 1000000 in
theorem rkLoad_15 : u8c15.map (fun op => reckonGC Tryz.prog (guardH noHook) noOrc 100000 300 [] 146 [.int .u8 op]) = u8c15.map (fun op => some (rkLoadV op.toNat, [])) := by kernel_rfl
set_option maxHeartbeats 0 in
set_option maxRecDepth 1000000 in
theorem rkLoad_16 : u8c16.map (fun op => reckonGC Tryz.prog (guardH noHook) noOrc 100000 300 [] 146 [.int .u8 op]) = u8c16.map (fun op => some (rkLoadV op.toNat, [])) := by kernel_rfl
set_option maxHeartbeats 0 in
set_option maxRecDepth 1000000 in
theorem rkLoad_17 : u8c17.map (fun op => reckonGC Tryz.prog (guardH noHook) noOrc 100000 300 [] 146 [.int .u8 op]) = u8c17.map (fun op => some (rkLoadV op.toNat, [])) := by kernel_rfl
set_option maxHeartbeats 0 in
set_option maxRecDepth 1000000 in
theorem rkLoad_18 : u8c18.map (fun op => reckonGC Tryz.prog (guardH noHook) noOrc 100000 300 [] 146 [.int .u8 op]) = u8c18.map (fun op => some (rkLoadV op.toNat, [])) := by kernel_rfl
set_option maxHeartbeats 0 in
set_option maxRecDepth 1000000 in
theorem rkLoad_19 : u8c19.map (fun op => reckonGC Tryz.prog (guardH noHook) noOrc 100000 300 [] 146 [.int .u8 op]) = u8c19.map (fun op => some (rkLoadV op.toNat, [])) := by kernel_rfl
set_option maxHeartbeats 0 in
set_option maxRecDepth 1000000 in
theorem rkLoad_20 : u8c20.map (fun op => reckonGC Tryz.prog (guardH noHook) noOrc 100000 300 [] 146 [.int .u8 op]) = u8c20.map (fun op => some (rkLoadV op.toNat, [])) := by kernel_rfl
set_option maxHeartbeats 0 in
set_option maxRecDepth 1000000 in
theorem rkLoad_21 : u8c21.map (fun op => reckonGC Tryz.prog (guardH noHook) noOrc 100000 300 [] 146 [.int .u8 op]) = u8c21.map (fun op => some (rkLoadV op.toNat, [])) := by kernel_rfl
set_option maxHeartbeats 0 in
set_option maxRecDepth 1000000 in
theorem rkLoad_22 : u8c22.map (fun op => reckonGC Tryz.prog (guardH noHook) noOrc 100000 300 [] 146 [.int .u8 op]) = u8c22.map (fun op => some (rkLoadV op.toNat, [])) := by kernel_rfl
set_option maxHeartbeats 0 in
set_option maxRecDepth 1000000 in
theorem rkLoad_23 : u8c23.map (fun op => reckonGC Tryz.prog (guardH noHook) noOrc 100000 300 [] 146 [.int .u8 op]) = u8c23.map (fun op => some (rkLoadV op.toNat, [])) := by kernel_rfl
set_option maxHeartbeats 0 in
set_option maxRecDepth 1000000 in
theorem rkLoad_24 : u8c24.map (fun op => reckonGC Tryz.prog (guardH noHook) noOrc 100000 300 [] 146 [.int .u8 op]) = u8c24.map (fun op => some (rkLoadV op.toNat, [])) := by kernel_rfl
set_option maxHeartbeats 0 in
set_option maxRecDepth 1000000 in
theorem rkLoad_25 : u8c25.map (fun op => reckonGC Tryz.prog (guardH noHook) noOrc 100000 300 [] 146 [.int .u8 op]) = u8c25.map (fun op => some (rkLoadV op.toNat, [])) := by kernel_rfl
set_option maxHeartbeats 0 in
set_option maxRecDepth 1000000 in
theorem rkLoad_26 : u8c26.map (fun op => reckonGC Tryz.prog (guardH noHook) noOrc 100000 300 [] 146 [.int .u8 op]) = u8c26.map (fun op => some (rkLoadV op.toNat, [])) := by kernel_rfl
set_option maxHeartbeats 0 in
set_option maxRecDepth 1000000 in
theorem rkLoad_27 : u8c27.map (fun op => reckonGC Tryz.prog (guardH noHook) noOrc 100000 300 [] 146 [.int .u8 op]) = u8c27.map (fun op => some (rkLoadV op.toNat, [])) := by kernel_rfl
set_option maxHeartbeats 0 in
set_option maxRecDepth 1000000 in
theorem rkLoad_28 : u8c28.map (fun op => reckonGC Tryz.prog (guardH noHook) noOrc 100000 300 [] 146 [.int .u8 op]) = u8c28.map (fun op => some (rkLoadV op.toNat, [])) := by kernel_rfl
set_option maxHeartbeats 0 in
set_option maxRecDepth 1000000 in
theorem rkLoad_29 : u8c29.map (fun op => reckonGC Tryz.prog (guardH noHook) noOrc 100000 300 [] 146 [.int .u8 op]) = u8c29.map (fun op => some (rkLoadV op.toNat, [])) := by kernel_rfl
set_option maxHeartbeats 0 in
set_option maxRecDepth 1000000 in
theorem rkLoad_30 : u8c30.map (fun op => reckonGC Tryz.prog (guardH noHook) noOrc 100000 300 [] 146 [.int .u8 op]) = u8c30.map (fun op => some (rkLoadV op.toNat, [])) := by kernel_rfl
set_option maxHeartbeats 0 in
set_option maxRecDepth 1000000 in
theorem rkLoad_31 : u8c31.map (fun op => reckonGC Tryz.prog (guardH noHook) noOrc 100000 300 [] 146 [.int .u8 op]) = u8c31.map (fun op => some (rkLoadV op.toNat, [])) := by kernel_rfl
theorem c_rkLoad (op : Int) (h : op ∈ u8s) (w : World) : Calls Tryz.prog 146 #[.int .u8 op] w fun e w' => e = .returned (rkLoadV op.toNat) ∧ Gr w w' := by
  have hf := List.all_eq_true.1 rkLoad_flat op h
  unfold u8s at h
  rcases List.mem_append.1 h with hm | h
  · exact reckonT_ok noNG (noHook_ok _) noOrc 100000 300 [] (cs := []) rfl hf (List.map_inj_left.1 rkLoad_0 op hm) rfl w (Laid.nil w)
  rcases List.mem_append.1 h with hm | h
  · exact reckonT_ok noNG (noHook_ok _) noOrc 100000 300 [] (cs := []) rfl hf (List.map_inj_left.1 rkLoad_1 op hm) rfl w (Laid.nil w)
  rcases List.mem_append.1 h with hm | h
  · exact reckonT_ok noNG (noHook_ok _) noOrc 100000 300 [] (cs := []) rfl hf (List.map_inj_left.1 rkLoad_2 op hm) rfl w (Laid.nil w)
  rcases List.mem_append.1 h with hm | h
  · exact reckonT_ok noNG (noHook_ok _) noOrc 100000 300 [] (cs := []) rfl hf (List.map_inj_left.1 rkLoad_3 op hm) rfl w (Laid.nil w)
  rcases List.mem_append.1 h with hm | h
  · exact reckonT_ok noNG (noHook_ok _) noOrc 100000 300 [] (cs := []) rfl hf (List.map_inj_left.1 rkLoad_4 op hm) rfl w (Laid.nil w)
  rcases List.mem_append.1 h with hm | h
  · exact reckonT_ok noNG (noHook_ok _) noOrc 100000 300 [] (cs := []) rfl hf (List.map_inj_left.1 rkLoad_5 op hm) rfl w (Laid.nil w)
  rcases List.mem_append.1 h with hm | h
  · exact reckonT_ok noNG (noHook_ok _) noOrc 100000 300 [] (cs := []) rfl hf (List.map_inj_left.1 rkLoad_6 op hm) rfl w (Laid.nil w)
  rcases List.mem_append.1 h with hm | h
  · exact reckonT_ok noNG (noHook_ok _) noOrc 100000 300 [] (cs := []) rfl hf (List.map_inj_left.1 rkLoad_7 op hm) rfl w (Laid.nil w)
  rcases List.mem_append.1 h with hm | h
  · exact reckonT_ok noNG (noHook_ok _) noOrc 100000 300 [] (cs := []) rfl hf (List.map_inj_left.1 rkLoad_8 op hm) rfl w (Laid.nil w)
  rcases List.mem_append.1 h with hm | h
  · exact reckonT_ok noNG (noHook_ok _) noOrc 100000 300 [] (cs := []) rfl hf (List.map_inj_left.1 rkLoad_9 op hm) rfl w (Laid.nil w)
  rcases List.mem_append.1 h with hm | h
  · exact reckonT_ok noNG (noHook_ok _) noOrc 100000 300 [] (cs := []) rfl hf (List.map_inj_left.1 rkLoad_10 op hm) rfl w (Laid.nil w)
  rcases List.mem_append.1 h with hm | h
  · exact reckonT_ok noNG (noHook_ok _) noOrc 100000 300 [] (cs := []) rfl hf (List.map_inj_left.1 rkLoad_11 op hm) rfl w (Laid.nil w)
  rcases List.mem_append.1 h with hm | h
  · exact reckonT_ok noNG (noHook_ok _) noOrc 100000 300 [] (cs := []) rfl hf (List.map_inj_left.1 rkLoad_12 op hm) rfl w (Laid.nil w)
  rcases List.mem_append.1 h with hm | h
  · exact reckonT_ok noNG (noHook_ok _) noOrc 100000 300 [] (cs := []) rfl hf (List.map_inj_left.1 rkLoad_13 op hm) rfl w (Laid.nil w)
  rcases List.mem_append.1 h with hm | h
  · exact reckonT_ok noNG (noHook_ok _) noOrc 100000 300 [] (cs := []) rfl hf (List.map_inj_left.1 rkLoad_14 op hm) rfl w (Laid.nil w)
  rcases List.mem_append.1 h with hm | h
  · exact reckonT_ok noNG (noHook_ok _) noOrc 100000 300 [] (cs := []) rfl hf (List.map_inj_left.1 rkLoad_15 op hm) rfl w (Laid.nil w)
  rcases List.mem_append.1 h with hm | h
  · exact reckonT_ok noNG (noHook_ok _) noOrc 100000 300 [] (cs := []) rfl hf (List.map_inj_left.1 rkLoad_16 op hm) rfl w (Laid.nil w)
  rcases List.mem_append.1 h with hm | h
  · exact reckonT_ok noNG (noHook_ok _) noOrc 100000 300 [] (cs := []) rfl hf (List.map_inj_left.1 rkLoad_17 op hm) rfl w (Laid.nil w)
  rcases List.mem_append.1 h with hm | h
  · exact reckonT_ok noNG (noHook_ok _) noOrc 100000 300 [] (cs := []) rfl hf (List.map_inj_left.1 rkLoad_18 op hm) rfl w (Laid.nil w)
  rcases List.mem_append.1 h with hm | h
  · exact reckonT_ok noNG (noHook_ok _) noOrc 100000 300 [] (cs := []) rfl hf (List.map_inj_left.1 rkLoad_19 op hm) rfl w (Laid.nil w)
  rcases List.mem_append.1 h with hm | h
  · exact reckonT_ok noNG (noHook_ok _) noOrc 100000 300 [] (cs := []) rfl hf (List.map_inj_left.1 rkLoad_20 op hm) rfl w (Laid.nil w)
  rcases List.mem_append.1 h with hm | h
  · exact reckonT_ok noNG (noHook_ok _) noOrc 100000 300 [] (cs := []) rfl hf (List.map_inj_left.1 rkLoad_21 op hm) rfl w (Laid.nil w)
  rcases List.mem_append.1 h with hm | h
  · exact reckonT_ok noNG (noHook_ok _) noOrc 100000 300 [] (cs := []) rfl hf (List.map_inj_left.1 rkLoad_22 op hm) rfl w (Laid.nil w)
  rcases List.mem_append.1 h with hm | h
  · exact reckonT_ok noNG (noHook_ok _) noOrc 100000 300 [] (cs := []) rfl hf (List.map_inj_left.1 rkLoad_23 op hm) rfl w (Laid.nil w)
  rcases List.mem_append.1 h with hm | h
  · exact reckonT_ok noNG (noHook_ok _) noOrc 100000 300 [] (cs := []) rfl hf (List.map_inj_left.1 rkLoad_24 op hm) rfl w (Laid.nil w)
  rcases List.mem_append.1 h with hm | h
  · exact reckonT_ok noNG (noHook_ok _) noOrc 100000 300 [] (cs := []) rfl hf (List.map_inj_left.1 rkLoad_25 op hm) rfl w (Laid.nil w)
  rcases List.mem_append.1 h with hm | h
  · exact reckonT_ok noNG (noHook_ok _) noOrc 100000 300 [] (cs := []) rfl hf (List.map_inj_left.1 rkLoad_26 op hm) rfl w (Laid.nil w)
  rcases List.mem_append.1 h with hm | h
  · exact reckonT_ok noNG (noHook_ok _) noOrc 100000 300 [] (cs := []) rfl hf (List.map_inj_left.1 rkLoad_27 op hm) rfl w (Laid.nil w)
  rcases List.mem_append.1 h with hm | h
  · exact reckonT_ok noNG (noHook_ok _) noOrc 100000 300 [] (cs := []) rfl hf (List.map_inj_left.1 rkLoad_28 op hm) rfl w (Laid.nil w)
  rcases List.mem_append.1 h with hm | h
  · exact reckonT_ok noNG (noHook_ok _) noOrc 100000 300 [] (cs := []) rfl hf (List.map_inj_left.1 rkLoad_29 op hm) rfl w (Laid.nil w)
  rcases List.mem_append.1 h with hm | h
  · exact reckonT_ok noNG (noHook_ok _) noOrc 100000 300 [] (cs := []) rfl hf (List.map_inj_left.1 rkLoad_30 op hm) rfl w (Laid.nil w)
  · exact reckonT_ok noNG (noHook_ok _) noOrc 100000 300 [] (cs := []) rfl hf (List.map_inj_left.1 rkLoad_31 op h) rfl w (Laid.nil w)
def hk_rkLoad : Hook := fun f args _ =>
  if Nat.beq f 146 then
    match args with
    | [.int .u8 op] => if u8in op then some (rkLoadV op.toNat, []) else none
    | _ => none
  else none
theorem hk_rkLoad_ok : HookOk Tryz.prog hk_rkLoad := by
  intro f args h v cs hv hc wb k s w H
  unfold hk_rkLoad at hv
  split at hv
  · rename_i hf
    obtain rfl := Nat.eq_of_beq_eq_true hf
    split at hv
    · rename_i op
      split at hv
      · rename_i ho
        cases hv
        exact c_rkLoad op (u8in_mem ho) w
      · cases hv
    · cases hv
  · cases hv
end Go.Proofs.YthhgfjnnconocaaGreatDoor.Ex
end
section
namespace Go.Proofs.YthhgfjnnconocaaGreatDoor.Ex
set_option maxRecDepth 20000

open Go Go.RowKit
def rkStoreV (n : Nat) : Value := (bif Nat.ble 128 n then (.bool false) else (bif Nat.ble 64 n then (bif Nat.ble 96 n then (bif Nat.ble 112 n then (bif Nat.ble 120 n then (bif Nat.ble 124 n then (.bool false) else (bif Nat.ble 122 n then (bif Nat.ble 123 n then (.bool false) else (.bool true)) else (.bool false))) else (bif Nat.ble 116 n then (.bool false) else (bif Nat.ble 114 n then (bif Nat.ble 115 n then (.bool false) else (.bool true)) else (.bool false)))) else (bif Nat.ble 104 n then (bif Nat.ble 108 n then (.bool false) else (bif Nat.ble 106 n then (bif Nat.ble 107 n then (.bool false) else (.bool true)) else (.bool false))) else (bif Nat.ble 100 n then (.bool false) else (bif Nat.ble 98 n then (bif Nat.ble 99 n then (.bool false) else (.bool true)) else (.bool false))))) else (.bool false)) else (.bool false)))
theorem rkStore_flat : u8s.all (fun op => flat (rkStoreV op.toNat)) = true := by kernel_rfl
set_option maxHeartbeats 0 in
set_option maxRecDepth 1000000 in
theorem rkStore_0 : u8c0.map (fun op => reckonGC Tryz.prog (guardH noHook) noOrc 100000 300 [] 147 [.int .u8 op]) = u8c0.map (fun op => some (rkStoreV op.toNat, [])) := by kernel_rfl
set_option maxHeartbeats 0 in
set_option maxRecDepth 1000000 in
theorem rkStore_1 : u8c1.map (fun op => reckonGC Tryz.prog (guardH noHook) noOrc 100000 300 [] 147 [.int .u8 op]) = u8c1.map (fun op => some (rkStoreV op.toNat, [])) := by kernel_rfl
set_option maxHeartbeats 0 in
set_option maxRecDepth 1000000 in
theorem rkStore_2 : u8c2.map (fun op => reckonGC Tryz.prog (guardH noHook) noOrc 100000 300 [] 147 [.int .u8 op]) = u8c2.map (fun op => some (rkStoreV op.toNat, [])) := by kernel_rfl
set_option maxHeartbeats 0 in
set_option maxRecDepth 1000000 in
theorem rkStore_3 : u8c3.map (fun op => reckonGC Tryz.prog (guardH noHook) noOrc 100000 300 [] 147 [.int .u8 op]) = u8c3.map (fun op => some (rkStoreV op.toNat, [])) := by kernel_rfl
set_option maxHeartbeats 0 in
set_option maxRecDepth 1000000 in
theorem rkStore_4 : u8c4.map (fun op => reckonGC Tryz.prog (guardH noHook) noOrc 100000 300 [] 147 [.int .u8 op]) = u8c4.map (fun op => some (rkStoreV op.toNat, [])) := by kernel_rfl
set_option maxHeartbeats 0 in
set_option maxRecDepth 1000000 in
theorem rkStore_5 : u8c5.map (fun op => reckonGC Tryz.prog (guardH noHook) noOrc 100000 300 [] 147 [.int .u8 op]) = u8c5.map (fun op => some (rkStoreV op.toNat, [])) := by kernel_rfl
set_option maxHeartbeats 0 in
set_option maxRecDepth 1000000 in
theorem rkStore_6 : u8c6.map (fun op => reckonGC Tryz.prog (guardH noHook) noOrc 100000 300 [] 147 [.int .u8 op]) = u8c6.map (fun op => some (rkStoreV op.toNat, [])) := by kernel_rfl
set_option maxHeartbeats 0 in
set_option maxRecDepth 1000000 in
theorem rkStore_7 : u8c7.map (fun op => reckonGC Tryz.prog (guardH noHook) noOrc 100000 300 [] 147 [.int .u8 op]) = u8c7.map (fun op => some (rkStoreV op.toNat, [])) := by kernel_rfl
set_option maxHeartbeats 0 in
set_option maxRecDepth 1000000 in
theorem rkStore_8 : u8c8.map (fun op => reckonGC Tryz.prog (guardH noHook) noOrc 100000 300 [] 147 [.int .u8 op]) = u8c8.map (fun op => some (rkStoreV op.toNat, [])) := by kernel_rfl
set_option maxHeartbeats 0 in
set_option maxRecDepth 1000000 in
theorem rkStore_9 : u8c9.map (fun op => reckonGC Tryz.prog (guardH noHook) noOrc 100000 300 [] 147 [.int .u8 op]) = u8c9.map (fun op => some (rkStoreV op.toNat, [])) := by kernel_rfl
set_option maxHeartbeats 0 in
set_option maxRecDepth 1000000 in
theorem rkStore_10 : u8c10.map (fun op => reckonGC Tryz.prog (guardH noHook) noOrc 100000 300 [] 147 [.int .u8 op]) = u8c10.map (fun op => some (rkStoreV op.toNat, [])) := by kernel_rfl
set_option maxHeartbeats 0 in
set_option maxRecDepth 1000000 in
theorem rkStore_11 : u8c11.map (fun op => reckonGC Tryz.prog (guardH noHook) noOrc 100000 300 [] 147 [.int .u8 op]) = u8c11.map (fun op => some (rkStoreV op.toNat, [])) := by kernel_rfl
set_option maxHeartbeats 0 in
set_option maxRecDepth 1000000 in
theorem rkStore_12 : u8c12.map (fun op => reckonGC Tryz.prog (guardH noHook) noOrc 100000 300 [] 147 [.int .u8 op]) = u8c12.map (fun op => some (rkStoreV op.toNat, [])) := by kernel_rfl
set_option maxHeartbeats 0 in
set_option maxRecDepth 1000000 in
theorem rkStore_13 : u8c13.map (fun op => reckonGC Tryz.prog (guardH noHook) noOrc 100000 300 [] 147 [.int .u8 op]) = u8c13.map (fun op => some (rkStoreV op.toNat, [])) := by kernel_rfl
set_option maxHeartbeats 0 in
set_option maxRecDepth 1000000 in
theorem rkStore_14 : u8c14.map (fun op => reckonGC Tryz.prog (guardH noHook) noOrc 100000 300 [] 147 [.int .u8 op]) = u8c14.map (fun op => some (rkStoreV op.toNat, [])) := by kernel_rfl
set_option maxHeartbeats 0 in
set_option maxRecDepth 1000000 in
theorem rkStore_15 : u8c15.map (fun op => reckonGC Tryz.prog (guardH noHook) noOrc 100000 300 [] 147 [.int .u8 op]) = u8c15.map (fun op => some (rkStoreV op.toNat, [])) := by kernel_rfl
set_option maxHeartbeats 0 in
set_option maxRecDepth 1000000 in
theorem rkStore_16 : u8c16.map (fun op => reckonGC Tryz.prog (guardH noHook) noOrc 100000 300 [] 147 [.int .u8 op]) = u8c16.map (fun op => some (rkStoreV op.toNat, [])) := by kernel_rfl
set_option maxHeartbeats 0 in
set_option maxRecDepth 1000000 in
theorem rkStore_17 : u8c17.map (fun op => reckonGC Tryz.prog (guardH noHook) noOrc 100000 300 [] 147 [.int .u8 op]) = u8c17.map (fun op => some (rkStoreV op.toNat, [])) := by kernel_rfl
set_option maxHeartbeats 0 in
set_option maxRecDepth 1000000 in
theorem rkStore_18 : u8c18.map (fun op => reckonGC Tryz.prog (guardH noHook) noOrc 100000 300 [] 147 [.int .u8 op]) = u8c18.map (fun op => some (rkStoreV op.toNat, [])) := by kernel_rfl
set_option maxHeartbeats 0 in
set_option maxRecDepth 1000000 in
theorem rkStore_19 : u8c19.map (fun op => reckonGC Tryz.prog (guardH noHook) noOrc 100000 300 [] 147 [.int .u8 op]) = u8c19.map (fun op => some (rkStoreV op.toNat, [])) := by kernel_rfl
set_option maxHeartbeats 0 in
set_option maxRecDepth 1000000 in
theorem rkStore_20 : u8c20.map (fun op => reckonGC Tryz.prog (guardH noHook) noOrc 100000 300 [] 147 [.int .u8 op]) = u8c20.map (fun op => some (rkStoreV op.toNat, [])) := by kernel_rfl
set_option maxHeartbeats 0 in
set_option maxRecDepth 1000000 in
theorem rkStore_21 : u8c21.map (fun op => reckonGC Tryz.prog (guardH noHook) noOrc 100000 300 [] 147 [.int .u8 op]) = u8c21.map (fun op => some (rkStoreV op.toNat, [])) := by kernel_rfl
set_option maxHeartbeats 0 in
set_option maxRecDepth 1000000 in
theorem rkStore_22 : u8c22.map (fun op => reckonGC Tryz.prog (guardH noHook) noOrc 100000 300 [] 147 [.int .u8 op]) = u8c22.map (fun op => some (rkStoreV op.toNat, [])) := by kernel_rfl
set_option maxHeartbeats 0 in
set_option maxRecDepth 1000000 in
theorem rkStore_23 : u8c23.map (fun op => reckonGC Tryz.prog (guardH noHook) noOrc 100000 300 [] 147 [.int .u8 op]) = u8c23.map (fun op => some (rkStoreV op.toNat, [])) := by kernel_rfl
set_option maxHeartbeats 0 in
set_option maxRecDepth 1000000 in
theorem rkStore_24 : u8c24.map (fun op => reckonGC Tryz.prog (guardH noHook) noOrc 100000 300 [] 147 [.int .u8 op]) = u8c24.map (fun op => some (rkStoreV op.toNat, [])) := by kernel_rfl
set_option maxHeartbeats 0 in
set_option maxRecDepth 1000000 in
theorem rkStore_25 : u8c25.map (fun op => reckonGC Tryz.prog (guardH noHook) noOrc 100000 300 [] 147 [.int .u8 op]) = u8c25.map (fun op => some (rkStoreV op.toNat, [])) := by kernel_rfl
set_option maxHeartbeats 0 in
set_option maxRecDepth 1000000 in
theorem rkStore_26 : u8c26.map (fun op => reckonGC Tryz.prog (guardH noHook) noOrc 100000 300 [] 147 [.int .u8 op]) = u8c26.map (fun op => some (rkStoreV op.toNat, [])) := by kernel_rfl
set_option maxHeartbeats 0 in
set_option maxRecDepth 1000000 in
theorem rkStore_27 : u8c27.map (fun op => reckonGC Tryz.prog (guardH noHook) noOrc 100000 300 [] 147 [.int .u8 op]) = u8c27.map (fun op => some (rkStoreV op.toNat, [])) := by kernel_rfl
set_option maxHeartbeats 0 in
set_option maxRecDepth 1000000 in
theorem rkStore_28 : u8c28.map (fun op => reckonGC Tryz.prog (guardH noHook) noOrc 100000 300 [] 147 [.int .u8 op]) = u8c28.map (fun op => some (rkStoreV op.toNat, [])) := by kernel_rfl
set_option maxHeartbeats 0 in
set_option maxRecDepth 1000000 in
theorem rkStore_29 : u8c29.map (fun op => reckonGC Tryz.prog (guardH noHook) noOrc 100000 300 [] 147 [.int .u8 op]) = u8c29.map (fun op => some (rkStoreV op.toNat, [])) := by kernel_rfl
set_option maxHeartbeats 0 in
set_option maxRecDepth 1000000 in
theorem rkStore_30 : u8c30.map (fun op => reckonGC Tryz.prog (guardH noHook) noOrc 100000 300 [] 147 [.int .u8 op]) = u8c30.map (fun op => some (rkStoreV op.toNat, [])) := by kernel_rfl
set_option maxHeartbeats 0 in
set_option maxRecDepth 1000000 in
theorem rkStore_31 : u8c31.map (fun op => reckonGC Tryz.prog (guardH noHook) noOrc 100000 300 [] 147 [.int .u8 op]) = u8c31.map (fun op => some (rkStoreV op.toNat, [])) := by kernel_rfl
theorem c_rkStore (op : Int) (h : op ∈ u8s) (w : World) : Calls Tryz.prog 147 #[.int .u8 op] w fun e w' => e = .returned (rkStoreV op.toNat) ∧ Gr w w' := by
  have hf := List.all_eq_true.1 rkStore_flat op h
  unfold u8s at h
  rcases List.mem_append.1 h with hm | h
  · exact reckonT_ok noNG (noHook_ok _) noOrc 100000 300 [] (cs := []) rfl hf (List.map_inj_left.1 rkStore_0 op hm) rfl w (Laid.nil w)
  rcases List.mem_append.1 h with hm | h
  · exact reckonT_ok noNG (noHook_ok _) noOrc 100000 300 [] (cs := []) rfl hf (List.map_inj_left.1 rkStore_1 op hm) rfl w (Laid.nil w)
  rcases List.mem_append.1 h with hm | h
  · exact reckonT_ok noNG (noHook_ok _) noOrc 100000 300 [] (cs := []) rfl hf (List.map_inj_left.1 rkStore_2 op hm) rfl w (Laid.nil w)
  rcases List.mem_append.1 h with hm | h
  · exact reckonT_ok noNG (noHook_ok _) noOrc 100000 300 [] (cs := []) rfl hf (List.map_inj_left.1 rkStore_3 op hm) rfl w (Laid.nil w)
  rcases List.mem_append.1 h with hm | h
  · exact reckonT_ok noNG (noHook_ok _) noOrc 100000 300 [] (cs := []) rfl hf (List.map_inj_left.1 rkStore_4 op hm) rfl w (Laid.nil w)
  rcases List.mem_append.1 h with hm | h
  · exact reckonT_ok noNG (noHook_ok _) noOrc 100000 300 [] (cs := []) rfl hf (List.map_inj_left.1 rkStore_5 op hm) rfl w (Laid.nil w)
  rcases List.mem_append.1 h with hm | h
  · exact reckonT_ok noNG (noHook_ok _) noOrc 100000 300 [] (cs := []) rfl hf (List.map_inj_left.1 rkStore_6 op hm) rfl w (Laid.nil w)
  rcases List.mem_append.1 h with hm | h
  · exact reckonT_ok noNG (noHook_ok _) noOrc 100000 300 [] (cs := []) rfl hf (List.map_inj_left.1 rkStore_7 op hm) rfl w (Laid.nil w)
  rcases List.mem_append.1 h with hm | h
  · exact reckonT_ok noNG (noHook_ok _) noOrc 100000 300 [] (cs := []) rfl hf (List.map_inj_left.1 rkStore_8 op hm) rfl w (Laid.nil w)
  rcases List.mem_append.1 h with hm | h
  · exact reckonT_ok noNG (noHook_ok _) noOrc 100000 300 [] (cs := []) rfl hf (List.map_inj_left.1 rkStore_9 op hm) rfl w (Laid.nil w)
  rcases List.mem_append.1 h with hm | h
  · exact reckonT_ok noNG (noHook_ok _) noOrc 100000 300 [] (cs := []) rfl hf (List.map_inj_left.1 rkStore_10 op hm) rfl w (Laid.nil w)
  rcases List.mem_append.1 h with hm | h
  · exact reckonT_ok noNG (noHook_ok _) noOrc 100000 300 [] (cs := []) rfl hf (List.map_inj_left.1 rkStore_11 op hm) rfl w (Laid.nil w)
  rcases List.mem_append.1 h with hm | h
  · exact reckonT_ok noNG (noHook_ok _) noOrc 100000 300 [] (cs := []) rfl hf (List.map_inj_left.1 rkStore_12 op hm) rfl w (Laid.nil w)
  rcases List.mem_append.1 h with hm | h
  · exact reckonT_ok noNG (noHook_ok _) noOrc 100000 300 [] (cs := []) rfl hf (List.map_inj_left.1 rkStore_13 op hm) rfl w (Laid.nil w)
  rcases List.mem_append.1 h with hm | h
  · exact reckonT_ok noNG (noHook_ok _) noOrc 100000 300 [] (cs := []) rfl hf (List.map_inj_left.1 rkStore_14 op hm) rfl w (Laid.nil w)
  rcases List.mem_append.1 h with hm | h
  · exact reckonT_ok noNG (noHook_ok _) noOrc 100000 300 [] (cs := []) rfl hf (List.map_inj_left.1 rkStore_15 op hm) rfl w (Laid.nil w)
  rcases List.mem_append.1 h with hm | h
  · exact reckonT_ok noNG (noHook_ok _) noOrc 100000 300 [] (cs := []) rfl hf (List.map_inj_left.1 rkStore_16 op hm) rfl w (Laid.nil w)
  rcases List.mem_append.1 h with hm | h
  · exact reckonT_ok noNG (noHook_ok _) noOrc 100000 300 [] (cs := []) rfl hf (List.map_inj_left.1 rkStore_17 op hm) rfl w (Laid.nil w)
  rcases List.mem_append.1 h with hm | h
  · exact reckonT_ok noNG (noHook_ok _) noOrc 100000 300 [] (cs := []) rfl hf (List.map_inj_left.1 rkStore_18 op hm) rfl w (Laid.nil w)
  rcases List.mem_append.1 h with hm | h
  · exact reckonT_ok noNG (noHook_ok _) noOrc 100000 300 [] (cs := []) rfl hf (List.map_inj_left.1 rkStore_19 op hm) rfl w (Laid.nil w)
  rcases List.mem_append.1 h with hm | h
  · exact reckonT_ok noNG (noHook_ok _) noOrc 100000 300 [] (cs := []) rfl hf (List.map_inj_left.1 rkStore_20 op hm) rfl w (Laid.nil w)
  rcases List.mem_append.1 h with hm | h
  · exact reckonT_ok noNG (noHook_ok _) noOrc 100000 300 [] (cs := []) rfl hf (List.map_inj_left.1 rkStore_21 op hm) rfl w (Laid.nil w)
  rcases List.mem_append.1 h with hm | h
  · exact reckonT_ok noNG (noHook_ok _) noOrc 100000 300 [] (cs := []) rfl hf (List.map_inj_left.1 rkStore_22 op hm) rfl w (Laid.nil w)
  rcases List.mem_append.1 h with hm | h
  · exact reckonT_ok noNG (noHook_ok _) noOrc 100000 300 [] (cs := []) rfl hf (List.map_inj_left.1 rkStore_23 op hm) rfl w (Laid.nil w)
  rcases List.mem_append.1 h with hm | h
  · exact reckonT_ok noNG (noHook_ok _) noOrc 100000 300 [] (cs := []) rfl hf (List.map_inj_left.1 rkStore_24 op hm) rfl w (Laid.nil w)
  rcases List.mem_append.1 h with hm | h
  · exact reckonT_ok noNG (noHook_ok _) noOrc 100000 300 [] (cs := []) rfl hf (List.map_inj_left.1 rkStore_25 op hm) rfl w (Laid.nil w)
  rcases List.mem_append.1 h with hm | h
  · exact reckonT_ok noNG (noHook_ok _) noOrc 100000 300 [] (cs := []) rfl hf (List.map_inj_left.1 rkStore_26 op hm) rfl w (Laid.nil w)
  rcases List.mem_append.1 h with hm | h
  · exact reckonT_ok noNG (noHook_ok _) noOrc 100000 300 [] (cs := []) rfl hf (List.map_inj_left.1 rkStore_27 op hm) rfl w (Laid.nil w)
  rcases List.mem_append.1 h with hm | h
  · exact reckonT_ok noNG (noHook_ok _) noOrc 100000 300 [] (cs := []) rfl hf (List.map_inj_left.1 rkStore_28 op hm) rfl w (Laid.nil w)
  rcases List.mem_append.1 h with hm | h
  · exact reckonT_ok noNG (noHook_ok _) noOrc 100000 300 [] (cs := []) rfl hf (List.map_inj_left.1 rkStore_29 op hm) rfl w (Laid.nil w)
  rcases List.mem_append.1 h with hm | h
  · exact reckonT_ok noNG (noHook_ok _) noOrc 100000 300 [] (cs := []) rfl hf (List.map_inj_left.1 rkStore_30 op hm) rfl w (Laid.nil w)
  · exact reckonT_ok noNG (noHook_ok _) noOrc 100000 300 [] (cs := []) rfl hf (List.map_inj_left.1 rkStore_31 op h) rfl w (Laid.nil w)
def hk_rkStore : Hook := fun f args _ =>
  if Nat.beq f 147 then
    match args with
    | [.int .u8 op] => if u8in op then some (rkStoreV op.toNat, []) else none
    | _ => none
  else none
theorem hk_rkStore_ok : HookOk Tryz.prog hk_rkStore := by
  intro f args h v cs hv hc wb k s w H
  unfold hk_rkStore at hv
  split at hv
  · rename_i hf
    obtain rfl := Nat.eq_of_beq_eq_true hf
    split at hv
    · rename_i op
      split at hv
      · rename_i ho
        cases hv
        exact c_rkStore op (u8in_mem ho) w
      · cases hv
    · cases hv
  · cases hv
end Go.Proofs.YthhgfjnnconocaaGreatDoor.Ex
end
section
namespace Go.Proofs.YthhgfjnnconocaaGreatDoor.Ex
set_option maxRecDepth 20000

open Go Go.RowKit
def rkStoreRegV (n : Nat) : Value := (bif Nat.ble 128 n then (.bool false) else (bif Nat.ble 64 n then (bif Nat.ble 96 n then (bif Nat.ble 112 n then (bif Nat.ble 120 n then (bif Nat.ble 124 n then (.bool false) else (bif Nat.ble 122 n then (bif Nat.ble 123 n then (.bool true) else (.bool false)) else (.bool false))) else (bif Nat.ble 116 n then (.bool false) else (bif Nat.ble 114 n then (bif Nat.ble 115 n then (.bool true) else (.bool false)) else (.bool false)))) else (bif Nat.ble 104 n then (bif Nat.ble 108 n then (.bool false) else (bif Nat.ble 106 n then (bif Nat.ble 107 n then (.bool true) else (.bool false)) else (.bool false))) else (bif Nat.ble 100 n then (.bool false) else (bif Nat.ble 98 n then (bif Nat.ble 99 n then (.bool true) else (.bool false)) else (.bool false))))) else (.bool false)) else (.bool false)))
theorem rkStoreReg_flat : u8s.all (fun op => flat (rkStoreRegV op.toNat)) = true := by kernel_rfl
set_option maxHeartbeats 0 in
set_option maxRecDepth 1000000 in
theorem rkStoreReg_0 : u8c0.map (fun op => reckonGC Tryz.prog (guardH noHook) noOrc 100000 300 [] 148 [.int .u8 op]) = u8c0.map (fun op => some (rkStoreRegV op.toNat, [])) := by kernel_rfl
set_option maxHeartbeats 0 in
set_option maxRecDepth 1000000 in
theorem rkStoreReg_1 : u8c1.map (fun op => reckonGC Tryz.prog (guardH noHook) noOrc 100000 300 [] 148 [.int .u8 op]) = u8c1.map (fun op => some (rkStoreRegV op.toNat, [])) := by kernel_rfl
set_option maxHeartbeats 0 in
set_option maxRecDepth 1000000 in
theorem rkStoreReg_2 : u8c2.map (fun op => reckonGC Tryz.prog (guardH noHook) noOrc 100000 300 [] 148 [.int .u8 op]) = u8c2.map (fun op => some (rkStoreRegV op.toNat, [])) := by kernel_rfl
set_option maxHeartbeats 0 in
set_option maxRecDepth 1000000 in
theorem rkStoreReg_3 : u8c3.map (fun op => reckonGC Tryz.prog (guardH noHook) noOrc 100000 300 [] 148 [.int .u8 op]) = u8c3.map (fun op => some (rkStoreRegV op.toNat, [])) := by kernel_rfl
set_option maxHeartbeats 0 in
set_option maxRecDepth 1000000 in
theorem rkStoreReg_4 : u8c4.map (fun op => reckonGC Tryz.prog (guardH noHook) noOrc 100000 300 [] 148 [.int .u8 op]) = u8c4.map (fun op => some (rkStoreRegV op.toNat, [])) := by kernel_rfl
set_option maxHeartbeats 0 in
set_option maxRecDepth 1000000 in
theorem rkStoreReg_5 : u8c5.map (fun op => reckonGC Tryz.prog (guardH noHook) noOrc 100000 300 [] 148 [.int .u8 op]) = u8c5.map (fun op => some (rkStoreRegV op.toNat, [])) := by kernel_rfl
set_option maxHeartbeats 0 in
set_option maxRecDepth 1000000 in
theorem rkStoreReg_6 : u8c6.map (fun op => reckonGC Tryz.prog (guardH noHook) noOrc 100000 300 [] 148 [.int .u8 op]) = u8c6.map (fun op => some (rkStoreRegV op.toNat, [])) := by kernel_rfl
set_option maxHeartbeats 0 in
set_option maxRecDepth 1000000 in
theorem rkStoreReg_7 : u8c7.map (fun op => reckonGC Tryz.prog (guardH noHook) noOrc 100000 300 [] 148 [.int .u8 op]) = u8c7.map (fun op => some (rkStoreRegV op.toNat, [])) := by kernel_rfl
set_option maxHeartbeats 0 in
set_option maxRecDepth 1000000 in
theorem rkStoreReg_8 : u8c8.map (fun op => reckonGC Tryz.prog (guardH noHook) noOrc 100000 300 [] 148 [.int .u8 op]) = u8c8.map (fun op => some (rkStoreRegV op.toNat, [])) := by kernel_rfl
set_option maxHeartbeats 0 in
set_option maxRecDepth 1000000 in
theorem rkStoreReg_9 : u8c9.map (fun op => reckonGC Tryz.prog (guardH noHook) noOrc 100000 300 [] 148 [.int .u8 op]) = u8c9.map (fun op => some (rkStoreRegV op.toNat, [])) := by kernel_rfl
set_option maxHeartbeats 0 in
set_option maxRecDepth 1000000 in
theorem rkStoreReg_10 : u8c10.map (fun op => reckonGC Tryz.prog (guardH noHook) noOrc 100000 300 [] 148 [.int .u8 op]) = u8c10.map (fun op => some (rkStoreRegV op.toNat, [])) := by kernel_rfl
set_option maxHeartbeats 0 in
set_option maxRecDepth 1000000 in
theorem rkStoreReg_11 : u8c11.map (fun op => reckonGC Tryz.prog (guardH noHook) noOrc 100000 300 [] 148 [.int .u8 op]) = u8c11.map (fun op => some (rkStoreRegV op.toNat, [])) := by kernel_rfl
set_option maxHeartbeats 0 in
set_option maxRecDepth 1000000 in
theorem rkStoreReg_12 : u8c12.map (fun op => reckonGC Tryz.prog (guardH noHook) noOrc 100000 300 [] 148 [.int .u8 op]) = u8c12.map (fun op => some (rkStoreRegV op.toNat, [])) := by kernel_rfl
set_option maxHeartbeats 0 in
set_option maxRecDepth 1000000 in
theorem rkStoreReg_13 : u8c13.map (fun op => reckonGC Tryz.prog (guardH noHook) noOrc 100000 300 [] 148 [.int .u8 op]) = u8c13.map (fun op => some (rkStoreRegV op.toNat, [])) := by kernel_rfl
set_option maxHeartbeats 0 in
set_option maxRecDepth 1000000 in
theorem rkStoreReg_14 : u8c14.map (fun op => reckonGC Tryz.prog (guardH noHook) noOrc 100000 300 [] 148 [.int .u8 op]) = u8c14.map (fun op => some (rkStoreRegV op.toNat, [])) := by kernel_rfl
set_option maxHeartbeats 0 in
set_option maxRecDepth 1000000 in
theorem rkStoreReg_15 : u8c15.map (fun op => reckonGC Tryz.prog (guardH noHook) noOrc 100000 300 [] 148 [.int .u8 op]) = u8c15.map (fun op => some (rkStoreRegV op.toNat, [])) := by kernel_rfl
set_option maxHeartbeats 0 in
set_option maxRecDepth 1000000 in
theorem rkStoreReg_16 : u8c16.map (fun op => reckonGC Tryz.prog (guardH noHook) noOrc 100000 300 [] 148 [.int .u8 op]) = u8c16.map (fun op => some (rkStoreRegV op.toNat, [])) := by kernel_rfl
set_option maxHeartbeats 0 in
set_option maxRecDepth 1000000 in
theorem rkStoreReg_17 : u8c17.map (fun op => reckonGC Tryz.prog (guardH noHook) noOrc 100000 300 [] 148 [.int .u8 op]) = u8c17.map (fun op => some (rkStoreRegV op.toNat, [])) := by kernel_rfl
set_option maxHeartbeats 0 in
set_option maxRecDepth 1000000 in
theorem rkStoreReg_18 : u8c18.map (fun op => reckonGC Tryz.prog (guardH noHook) noOrc 100000 300 [] 148 [.int .u8 op]) = u8c18.map (fun op => some (rkStoreRegV op.toNat, [])) := by kernel_rfl
set_option maxHeartbeats 0 in
set_option maxRecDepth 1000000 in
theorem rkStoreReg_19 : u8c19.map (fun op => reckonGC Tryz.prog (guardH noHook) noOrc 100000 300 [] 148 [.int .u8 op]) = u8c19.map (fun op => some (rkStoreRegV op.toNat, [])) := by kernel_rfl
set_option maxHeartbeats 0 in
set_option maxRecDepth 1000000 in
theorem rkStoreReg_20 : u8c20.map (fun op => reckonGC Tryz.prog (guardH noHook) noOrc 100000 300 [] 148 [.int .u8 op]) = u8c20.map (fun op => some (rkStoreRegV op.toNat, [])) := by kernel_rfl
set_option maxHeartbeats 0 in
set_option maxRecDepth 1000000 in
theorem rkStoreReg_21 : u8c21.map (fun op => reckonGC Tryz.prog (guardH noHook) noOrc 100000 300 [] 148 [.int .u8 op]) = u8c21.map (fun op => some (rkStoreRegV op.toNat, [])) := by kernel_rfl
set_option maxHeartbeats 0 in
set_option maxRecDepth 1000000 in
theorem rkStoreReg_22 : u8c22.map (fun op => reckonGC Tryz.prog (guardH noHook) noOrc 100000 300 [] 148 [.int .u8 op]) = u8c22.map (fun op => some (rkStoreRegV op.toNat, [])) := by kernel_rfl
set_option maxHeartbeats 0 in
set_option maxRecDepth 1000000 in
theorem rkStoreReg_23 : u8c23.map (fun op => reckonGC Tryz.prog (guardH noHook) noOrc 100000 300 [] 148 [.int .u8 op]) = u8c23.map (fun op => some (rkStoreRegV op.toNat, [])) := by kernel_rfl
set_option maxHeartbeats 0 in
set_option maxRecDepth 1000000 in
theorem rkStoreReg_24 : u8c24.map (fun op => reckonGC Tryz.prog (guardH noHook) noOrc 100000 300 [] 148 [.int .u8 op]) = u8c24.map (fun op => some (rkStoreRegV op.toNat, [])) := by kernel_rfl
set_option maxHeartbeats 0 in
set_option maxRecDepth 1000000 in
theorem rkStoreReg_25 : u8c25.map (fun op => reckonGC Tryz.prog (guardH noHook) noOrc 100000 300 [] 148 [.int .u8 op]) = u8c25.map (fun op => some (rkStoreRegV op.toNat, [])) := by kernel_rfl
set_option maxHeartbeats 0 in
set_option maxRecDepth 1000000 in
theorem rkStoreReg_26 : u8c26.map (fun op => reckonGC Tryz.prog (guardH noHook) noOrc 100000 300 [] 148 [.int .u8 op]) = u8c26.map (fun op => some (rkStoreRegV op.toNat, [])) := by kernel_rfl
set_option maxHeartbeats 0 in
set_option maxRecDepth 1000000 in
theorem rkStoreReg_27 : u8c27.map (fun op => reckonGC Tryz.prog (guardH noHook) noOrc 100000 300 [] 148 [.int .u8 op]) = u8c27.map (fun op => some (rkStoreRegV op.toNat, [])) := by kernel_rfl
set_option maxHeartbeats 0 in
set_option maxRecDepth 1000000 in
theorem rkStoreReg_28 : u8c28.map (fun op => reckonGC Tryz.prog (guardH noHook) noOrc 100000 300 [] 148 [.int .u8 op]) = u8c28.map (fun op => some (rkStoreRegV op.toNat, [])) := by kernel_rfl
set_option maxHeartbeats 0 in
set_option maxRecDepth 1000000 in
theorem rkStoreReg_29 : u8c29.map (fun op => reckonGC Tryz.prog (guardH noHook) noOrc 100000 300 [] 148 [.int .u8 op]) = u8c29.map (fun op => some (rkStoreRegV op.toNat, [])) := by kernel_rfl
set_option maxHeartbeats 0 in
set_option maxRecDepth 1000000 in
theorem rkStoreReg_30 : u8c30.map (fun op => reckonGC Tryz.prog (guardH noHook) noOrc 100000 300 [] 148 [.int .u8 op]) = u8c30.map (fun op => some (rkStoreRegV op.toNat, [])) := by kernel_rfl
set_option maxHeartbeats 0 in
set_option maxRecDepth 1000000 in
theorem rkStoreReg_31 : u8c31.map (fun op => reckonGC Tryz.prog (guardH noHook) noOrc 100000 300 [] 148 [.int .u8 op]) = u8c31.map (fun op => some (rkStoreRegV op.toNat, [])) := by kernel_rfl
theorem c_rkStoreReg (op : Int) (h : op ∈ u8s) (w : World) : Calls Tryz.prog 148 #[.int .u8 op] w fun e w' => e = .returned (rkStoreRegV op.toNat) ∧ Gr w w' := by
  have hf := List.all_eq_true.1 rkStoreReg_flat op h
  unfold u8s at h
  rcases List.mem_append.1 h with hm | h
  · exact reckonT_ok noNG (noHook_ok _) noOrc 100000 300 [] (cs := []) rfl hf (List.map_inj_left.1 rkStoreReg_0 op hm) rfl w (Laid.nil w)
  rcases List.mem_append.1 h with hm | h
  · exact reckonT_ok noNG (noHook_ok _) noOrc 100000 300 [] (cs := []) rfl hf (List.map_inj_left.1 rkStoreReg_1 op hm) rfl w (Laid.nil w)
  rcases List.mem_append.1 h with hm | h
  · exact reckonT_ok noNG (noHook_ok _) noOrc 100000 300 [] (cs := []) rfl hf (List.map_inj_left.1 rkStoreReg_2 op hm) rfl w (Laid.nil w)
  rcases List.mem_append.1 h with hm | h
  · exact reckonT_ok noNG (noHook_ok _) noOrc 100000 300 [] (cs := []) rfl hf (List.map_inj_left.1 rkStoreReg_3 op hm) rfl w (Laid.nil w)
  rcases List.mem_append.1 h with hm | h
  · exact reckonT_ok noNG (noHook_ok _) noOrc 100000 300 [] (cs := []) rfl hf (List.map_inj_left.1 rkStoreReg_4 op hm) rfl w (Laid.nil w)
  rcases List.mem_append.1 h with hm | h
  · exact reckonT_ok noNG (noHook_ok _) noOrc 100000 300 [] (cs := []) rfl hf (List.map_inj_left.1 rkStoreReg_5 op hm) rfl w (Laid.nil w)
  rcases List.mem_append.1 h with hm | h
  · exact reckonT_ok noNG (noHook_ok _) noOrc 100000 300 [] (cs := []) rfl hf (List.map_inj_left.1 rkStoreReg_6 op hm) rfl w (Laid.nil w)
  rcases List.mem_append.1 h with hm | h
  · exact reckonT_ok noNG (noHook_ok _) noOrc 100000 300 [] (cs := []) rfl hf (List.map_inj_left.1 rkStoreReg_7 op hm) rfl w (Laid.nil w)
  rcases List.mem_append.1 h with hm | h
  · exact reckonT_ok noNG (noHook_ok _) noOrc 100000 300 [] (cs := []) rfl hf (List.map_inj_left.1 rkStoreReg_8 op hm) rfl w (Laid.nil w)
  rcases List.mem_append.1 h with hm | h
  · exact reckonT_ok noNG (noHook_ok _) noOrc 100000 300 [] (cs := []) rfl hf (List.map_inj_left.1 rkStoreReg_9 op hm) rfl w (Laid.nil w)
  rcases List.mem_append.1 h with hm | h
  · exact reckonT_ok noNG (noHook_ok _) noOrc 100000 300 [] (cs := []) rfl hf (List.map_inj_left.1 rkStoreReg_10 op hm) rfl w (Laid.nil w)
  rcases List.mem_append.1 h with hm | h
  · exact reckonT_ok noNG (noHook_ok _) noOrc 100000 300 [] (cs := []) rfl hf (List.map_inj_left.1 rkStoreReg_11 op hm) rfl w (Laid.nil w)
  rcases List.mem_append.1 h with hm | h
  · exact reckonT_ok noNG (noHook_ok _) noOrc 100000 300 [] (cs := []) rfl hf (List.map_inj_left.1 rkStoreReg_12 op hm) rfl w (Laid.nil w)
  rcases List.mem_append.1 h with hm | h
  · exact reckonT_ok noNG (noHook_ok _) noOrc 100000 300 [] (cs := []) rfl hf (List.map_inj_left.1 rkStoreReg_13 op hm) rfl w (Laid.nil w)
  rcases List.mem_append.1 h with hm | h
  · exact reckonT_ok noNG (noHook_ok _) noOrc 100000 300 [] (cs := []) rfl hf (List.map_inj_left.1 rkStoreReg_14 op hm) rfl w (Laid.nil w)
  rcases List.mem_append.1 h with hm | h
  · exact reckonT_ok noNG (noHook_ok _) noOrc 100000 300 [] (cs := []) rfl hf (List.map_inj_left.1 rkStoreReg_15 op hm) rfl w (Laid.nil w)
  rcases List.mem_append.1 h with hm | h
  · exact reckonT_ok noNG (noHook_ok _) noOrc 100000 300 [] (cs := []) rfl hf (List.map_inj_left.1 rkStoreReg_16 op hm) rfl w (Laid.nil w)
  rcases List.mem_append.1 h with hm | h
  · exact reckonT_ok noNG (noHook_ok _) noOrc 100000 300 [] (cs := []) rfl hf (List.map_inj_left.1 rkStoreReg_17 op hm) rfl w (Laid.nil w)
  rcases List.mem_append.1 h with hm | h
  · exact reckonT_ok noNG (noHook_ok _) noOrc 100000 300 [] (cs := []) rfl hf (List.map_inj_left.1 rkStoreReg_18 op hm) rfl w (Laid.nil w)
  rcases List.mem_append.1 h with hm | h
  · exact reckonT_ok noNG (noHook_ok _) noOrc 100000 300 [] (cs := []) rfl hf (List.map_inj_left.1 rkStoreReg_19 op hm) rfl w (Laid.nil w)
  rcases List.mem_append.1 h with hm | h
  · exact reckonT_ok noNG (noHook_ok _) noOrc 100000 300 [] (cs := []) rfl hf (List.map_inj_left.1 rkStoreReg_20 op hm) rfl w (Laid.nil w)
  rcases List.mem_append.1 h with hm | h
  · exact reckonT_ok noNG (noHook_ok _) noOrc 100000 300 [] (cs := []) rfl hf (List.map_inj_left.1 rkStoreReg_21 op hm) rfl w (Laid.nil w)
  rcases List.mem_append.1 h with hm | h
  · exact reckonT_ok noNG (noHook_ok _) noOrc 100000 300 [] (cs := []) rfl hf (List.map_inj_left.1 rkStoreReg_22 op hm) rfl w (Laid.nil w)
  rcases List.mem_append.1 h with hm | h
  · exact reckonT_ok noNG (noHook_ok _) noOrc 100000 300 [] (cs := []) rfl hf (List.map_inj_left.1 rkStoreReg_23 op hm) rfl w (Laid.nil w)
  rcases List.mem_append.1 h with hm | h
  · exact reckonT_ok noNG (noHook_ok _) noOrc 100000 300 [] (cs := []) rfl hf (List.map_inj_left.1 rkStoreReg_24 op hm) rfl w (Laid.nil w)
  rcases List.mem_append.1 h with hm | h
  · exact reckonT_ok noNG (noHook_ok _) noOrc 100000 300 [] (cs := []) rfl hf (List.map_inj_left.1 rkStoreReg_25 op hm) rfl w (Laid.nil w)
  rcases List.mem_append.1 h with hm | h
  · exact reckonT_ok noNG (noHook_ok _) noOrc 100000 300 [] (cs := []) rfl hf (List.map_inj_left.1 rkStoreReg_26 op hm) rfl w (Laid.nil w)
  rcases List.mem_append.1 h with hm | h
  · exact reckonT_ok noNG (noHook_ok _) noOrc 100000 300 [] (cs := []) rfl hf (List.map_inj_left.1 rkStoreReg_27 op hm) rfl w (Laid.nil w)
  rcases List.mem_append.1 h with hm | h
  · exact reckonT_ok noNG (noHook_ok _) noOrc 100000 300 [] (cs := []) rfl hf (List.map_inj_left.1 rkStoreReg_28 op hm) rfl w (Laid.nil w)
  rcases List.mem_append.1 h with hm | h
  · exact reckonT_ok noNG (noHook_ok _) noOrc 100000 300 [] (cs := []) rfl hf (List.map_inj_left.1 rkStoreReg_29 op hm) rfl w (Laid.nil w)
  rcases List.mem_append.1 h with hm | h
  · exact reckonT_ok noNG (noHook_ok _) noOrc 100000 300 [] (cs := []) rfl hf (List.map_inj_left.1 rkStoreReg_30 op hm) rfl w (Laid.nil w)
  · exact reckonT_ok noNG (noHook_ok _) noOrc 100000 300 [] (cs := []) rfl hf (List.map_inj_left.1 rkStoreReg_31 op h) rfl w (Laid.nil w)
def hk_rkStoreReg : Hook := fun f args _ =>
  if Nat.beq f 148 then
    match args with
    | [.int .u8 op] => if u8in op then some (rkStoreRegV op.toNat, []) else none
    | _ => none
  else none
theorem hk_rkStoreReg_ok : HookOk Tryz.prog hk_rkStoreReg := by
  intro f args h v cs hv hc wb k s w H
  unfold hk_rkStoreReg at hv
  split at hv
  · rename_i hf
    obtain rfl := Nat.eq_of_beq_eq_true hf
    split at hv
    · rename_i op
      split at hv
      · rename_i ho
        cases hv
        exact c_rkStoreReg op (u8in_mem ho) w
      · cases hv
    · cases hv
  · cases hv
end Go.Proofs.YthhgfjnnconocaaGreatDoor.Ex
end
section
namespace Go.Proofs.YthhgfjnnconocaaGreatDoor.Ex
set_option maxRecDepth 20000

open Go Go.RowKit
def rkRegV (n : Nat) : Value := (bif Nat.ble 128 n then (bif Nat.ble 192 n then (bif Nat.ble 224 n then (bif Nat.ble 240 n then (bif Nat.ble 248 n then (.bool true) else (.bool false)) else (bif Nat.ble 232 n then (.bool true) else (.bool false))) else (bif Nat.ble 208 n then (bif Nat.ble 216 n then (.bool true) else (.bool false)) else (bif Nat.ble 200 n then (.bool true) else (.bool false)))) else (bif Nat.ble 160 n then (bif Nat.ble 176 n then (bif Nat.ble 184 n then (.bool true) else (.bool false)) else (bif Nat.ble 168 n then (.bool true) else (.bool false))) else (bif Nat.ble 144 n then (bif Nat.ble 152 n then (.bool true) else (.bool false)) else (bif Nat.ble 136 n then (.bool true) else (.bool false))))) else (bif Nat.ble 64 n then (bif Nat.ble 96 n then (bif Nat.ble 112 n then (bif Nat.ble 120 n then (.bool true) else (.bool false)) else (bif Nat.ble 104 n then (.bool true) else (.bool false))) else (bif Nat.ble 80 n then (bif Nat.ble 88 n then (.bool true) else (.bool false)) else (bif Nat.ble 72 n then (.bool true) else (.bool false)))) else (bif Nat.ble 32 n then (bif Nat.ble 48 n then (bif Nat.ble 56 n then (.bool true) else (.bool false)) else (bif Nat.ble 40 n then (.bool true) else (.bool false))) else (bif Nat.ble 16 n then (bif Nat.ble 24 n then (.bool true) else (.bool false)) else (bif Nat.ble 8 n then (.bool true) else (.bool false))))))
theorem rkReg_flat : u8s.all (fun op => flat (rkRegV op.toNat)) = true := by kernel_rfl
set_option maxHeartbeats 0 in
set_option maxRecDepth 1000000 in
theorem rkReg_0 : u8c0.map (fun op => reckonGC Tryz.prog (guardH noHook) noOrc 100000 300 [] 149 [.int .u8 op]) = u8c0.map (fun op => some (rkRegV op.toNat, [])) := by kernel_rfl
set_option maxHeartbeats 0 in
set_option maxRecDepth 1000000 in
theorem rkReg_1 : u8c1.map (fun op => reckonGC Tryz.prog (guardH noHook) noOrc 100000 300 [] 149 [.int .u8 op]) = u8c1.map (fun op => some (rkRegV op.toNat, [])) := by kernel_rfl
set_option maxHeartbeats 0 in
set_option maxRecDepth 1000000 in
theorem rkReg_2 : u8c2.map (fun op => reckonGC Tryz.prog (guardH noHook) noOrc 100000 300 [] 149 [.int .u8 op]) = u8c2.map (fun op => some (rkRegV op.toNat, [])) := by kernel_rfl
set_option maxHeartbeats 0 in
set_option maxRecDepth 1000000 in
theorem rkReg_3 : u8c3.map (fun op => reckonGC Tryz.prog (guardH noHook) noOrc 100000 300 [] 149 [.int .u8 op]) = u8c3.map (fun op => some (rkRegV op.toNat, [])) := by kernel_rfl
set_option maxHeartbeats 0 in
set_option maxRecDepth 1000000 in
theorem rkReg_4 : u8c4.map (fun op => reckonGC Tryz.prog (guardH noHook) noOrc 100000 300 [] 149 [.int .u8 op]) = u8c4.map (fun op => some (rkRegV op.toNat, [])) := by kernel_rfl
set_option maxHeartbeats 0 in
set_option maxRecDepth 1000000 in
theorem rkReg_5 : u8c5.map (fun op => reckonGC Tryz.prog (guardH noHook) noOrc 100000 300 [] 149 [.int .u8 op]) = u8c5.map (fun op => some (rkRegV op.toNat, [])) := by kernel_rfl
set_option maxHeartbeats 0 in
set_option maxRecDepth 1000000 in
theorem rkReg_6 : u8c6.map (fun op => reckonGC Tryz.prog (guardH noHook) noOrc 100000 300 [] 149 [.int .u8 op]) = u8c6.map (fun op => some (rkRegV op.toNat, [])) := by kernel_rfl
set_option maxHeartbeats 0 in
set_option maxRecDepth 1000000 in
theorem rkReg_7 : u8c7.map (fun op => reckonGC Tryz.prog (guardH noHook) noOrc 100000 300 [] 149 [.int .u8 op]) = u8c7.map (fun op => some (rkRegV op.toNat, [])) := by kernel_rfl
set_option maxHeartbeats 0 in
set_option maxRecDepth 1000000 in
theorem rkReg_8 : u8c8.map (fun op => reckonGC Tryz.prog (guardH noHook) noOrc 100000 300 [] 149 [.int .u8 op]) = u8c8.map (fun op => some (rkRegV op.toNat, [])) := by kernel_rfl
set_option maxHeartbeats 0 in
set_option maxRecDepth 1000000 in
theorem rkReg_9 : u8c9.map (fun op => reckonGC Tryz.prog (guardH noHook) noOrc 100000 300 [] 149 [.int .u8 op]) = u8c9.map (fun op => some (rkRegV op.toNat, [])) := by kernel_rfl
set_option maxHeartbeats 0 in
set_option maxRecDepth 1000000 in
theorem rkReg_10 : u8c10.map (fun op => reckonGC Tryz.prog (guardH noHook) noOrc 100000 300 [] 149 [.int .u8 op]) = u8c10.map (fun op => some (rkRegV op.toNat, [])) := by kernel_rfl
set_option maxHeartbeats 0 in
set_option maxRecDepth 1000000 in
theorem rkReg_11 : u8c11.map (fun op => reckonGC Tryz.prog (guardH noHook) noOrc 100000 300 [] 149 [.int .u8 op]) = u8c11.map (fun op => some (rkRegV op.toNat, [])) := by kernel_rfl
set_option maxHeartbeats 0 in
set_option maxRecDepth 1000000 in
theorem rkReg_12 : u8c12.map (fun op => reckonGC Tryz.prog (guardH noHook) noOrc 100000 300 [] 149 [.int .u8 op]) = u8c12.map (fun op => some (rkRegV op.toNat, [])) := by kernel_rfl
set_option maxHeartbeats 0 in
set_option maxRecDepth 1000000 in
theorem rkReg_13 : u8c13.map (fun op => reckonGC Tryz.prog (guardH noHook) noOrc 100000 300 [] 149 [.int .u8 op]) = u8c13.map (fun op => some (rkRegV op.toNat, [])) := by kernel_rfl
set_option maxHeartbeats 0 in
set_option maxRecDepth 1000000 in
theorem rkReg_14 : u8c14.map (fun op => reckonGC Tryz.prog (guardH noHook) noOrc 100000 300 [] 149 [.int .u8 op]) = u8c14.map (fun op => some (rkRegV op.toNat, [])) := by kernel_rfl
set_option maxHeartbeats 0 in
set_option maxRecDepth 1000000 in
theorem rkReg_15 : u8c15.map (fun op => reckonGC Tryz.prog (guardH noHook) noOrc 100000 300 [] 149 [.int .u8 op]) = u8c15.map (fun op => some (rkRegV op.toNat, [])) := by kernel_rfl
set_option maxHeartbeats 0 in
set_option maxRecDepth 1000000 in
theorem rkReg_16 : u8c16.map (fun op => reckonGC Tryz.prog (guardH noHook) noOrc 100000 300 [] 149 [.int .u8 op]) = u8c16.map (fun op => some (rkRegV op.toNat, [])) := by kernel_rfl
set_option maxHeartbeats 0 in
set_option maxRecDepth 1000000 in
theorem rkReg_17 : u8c17.map (fun op => reckonGC Tryz.prog (guardH noHook) noOrc 100000 300 [] 149 [.int .u8 op]) = u8c17.map (fun op => some (rkRegV op.toNat, [])) := by kernel_rfl
set_option maxHeartbeats 0 in
set_option maxRecDepth 1000000 in
theorem rkReg_18 : u8c18.map (fun op => reckonGC Tryz.prog (guardH noHook) noOrc 100000 300 [] 149 [.int .u8 op]) = u8c18.map (fun op => some (rkRegV op.toNat, [])) := by kernel_rfl
set_option maxHeartbeats 0 in
set_option maxRecDepth 1000000 in
theorem rkReg_19 : u8c19.map (fun op => reckonGC Tryz.prog (guardH noHook) noOrc 100000 300 [] 149 [.int .u8 op]) = u8c19.map (fun op => some (rkRegV op.toNat, [])) := by kernel_rfl
set_option maxHeartbeats 0 in
set_option maxRecDepth 1000000 in
theorem rkReg_20 : u8c20.map (fun op => reckonGC Tryz.prog (guardH noHook) noOrc 100000 300 [] 149 [.int .u8 op]) = u8c20.map (fun op => some (rkRegV op.toNat, [])) := by kernel_rfl
set_option maxHeartbeats 0 in
set_option maxRecDepth 1000000 in
theorem rkReg_21 : u8c21.map (fun op => reckonGC Tryz.prog (guardH noHook) noOrc 100000 300 [] 149 [.int .u8 op]) = u8c21.map (fun op => some (rkRegV op.toNat, [])) := by kernel_rfl
set_option maxHeartbeats 0 in
set_option maxRecDepth 1000000 in
theorem rkReg_22 : u8c22.map (fun op => reckonGC Tryz.prog (guardH noHook) noOrc 100000 300 [] 149 [.int .u8 op]) = u8c22.map (fun op => some (rkRegV op.toNat, [])) := by kernel_rfl
set_option maxHeartbeats 0 in
set_option maxRecDepth 1000000 in
theorem rkReg_23 : u8c23.map (fun op => reckonGC Tryz.prog (guardH noHook) noOrc 100000 300 [] 149 [.int .u8 op]) = u8c23.map (fun op => some (rkRegV op.toNat, [])) := by kernel_rfl
set_option maxHeartbeats 0 in
set_option maxRecDepth 1000000 in
theorem rkReg_24 : u8c24.map (fun op => reckonGC Tryz.prog (guardH noHook) noOrc 100000 300 [] 149 [.int .u8 op]) = u8c24.map (fun op => some (rkRegV op.toNat, [])) := by kernel_rfl
set_option maxHeartbeats 0 in
set_option maxRecDepth 1000000 in
theorem rkReg_25 : u8c25.map (fun op => reckonGC Tryz.prog (guardH noHook) noOrc 100000 300 [] 149 [.int .u8 op]) = u8c25.map (fun op => some (rkRegV op.toNat, [])) := by kernel_rfl
set_option maxHeartbeats 0 in
set_option maxRecDepth 1000000 in
theorem rkReg_26 : u8c26.map (fun op => reckonGC Tryz.prog (guardH noHook) noOrc 100000 300 [] 149 [.int .u8 op]) = u8c26.map (fun op => some (rkRegV op.toNat, [])) := by kernel_rfl
set_option maxHeartbeats 0 in
set_option maxRecDepth 1000000 in
theorem rkReg_27 : u8c27.map (fun op => reckonGC Tryz.prog (guardH noHook) noOrc 100000 300 [] 149 [.int .u8 op]) = u8c27.map (fun op => some (rkRegV op.toNat, [])) := by kernel_rfl
set_option maxHeartbeats 0 in
set_option maxRecDepth 1000000 in
theorem rkReg_28 : u8c28.map (fun op => reckonGC Tryz.prog (guardH noHook) noOrc 100000 300 [] 149 [.int .u8 op]) = u8c28.map (fun op => some (rkRegV op.toNat, [])) := by kernel_rfl
set_option maxHeartbeats 0 in
set_option maxRecDepth 1000000 in
theorem rkReg_29 : u8c29.map (fun op => reckonGC Tryz.prog (guardH noHook) noOrc 100000 300 [] 149 [.int .u8 op]) = u8c29.map (fun op => some (rkRegV op.toNat, [])) := by kernel_rfl
set_option maxHeartbeats 0 in
set_option maxRecDepth 1000000 in
theorem rkReg_30 : u8c30.map (fun op => reckonGC Tryz.prog (guardH noHook) noOrc 100000 300 [] 149 [.int .u8 op]) = u8c30.map (fun op => some (rkRegV op.toNat, [])) := by kernel_rfl
set_option maxHeartbeats 0 in
set_option maxRecDepth 1000000 in
theorem rkReg_31 : u8c31.map (fun op => reckonGC Tryz.prog (guardH noHook) noOrc 100000 300 [] 149 [.int .u8 op]) = u8c31.map (fun op => some (rkRegV op.toNat, [])) := by kernel_rfl
theorem c_rkReg (op : Int) (h : op ∈ u8s) (w : World) : Calls Tryz.prog 149 #[.int .u8 op] w fun e w' => e = .returned (rkRegV op.toNat) ∧ Gr w w' := by
  have hf := List.all_eq_true.1 rkReg_flat op h
  unfold u8s at h
  rcases List.mem_append.1 h with hm | h
  · exact reckonT_ok noNG (noHook_ok _) noOrc 100000 300 [] (cs := []) rfl hf (List.map_inj_left.1 rkReg_0 op hm) rfl w (Laid.nil w)
  rcases List.mem_append.1 h with hm | h
  · exact reckonT_ok noNG (noHook_ok _) noOrc 100000 300 [] (cs := []) rfl hf (List.map_inj_left.1 rkReg_1 op hm) rfl w (Laid.nil w)
  rcases List.mem_append.1 h with hm | h
  · exact reckonT_ok noNG (noHook_ok _) noOrc 100000 300 [] (cs := []) rfl hf (List.map_inj_left.1 rkReg_2 op hm) rfl w (Laid.nil w)
  rcases List.mem_append.1 h with hm | h
  · exact reckonT_ok noNG (noHook_ok _) noOrc 100000 300 [] (cs := []) rfl hf (List.map_inj_left.1 rkReg_3 op hm) rfl w (Laid.nil w)
  rcases List.mem_append.1 h with hm | h
  · exact reckonT_ok noNG (noHook_ok _) noOrc 100000 300 [] (cs := []) rfl hf (List.map_inj_left.1 rkReg_4 op hm) rfl w (Laid.nil w)
  rcases List.mem_append.1 h with hm | h
  · exact reckonT_ok noNG (noHook_ok _) noOrc 100000 300 [] (cs := []) rfl hf (List.map_inj_left.1 rkReg_5 op hm) rfl w (Laid.nil w)
  rcases List.mem_append.1 h with hm | h
  · exact reckonT_ok noNG (noHook_ok _) noOrc 100000 300 [] (cs := []) rfl hf (List.map_inj_left.1 rkReg_6 op hm) rfl w (Laid.nil w)
  rcases List.mem_append.1 h with hm | h
  · exact reckonT_ok noNG (noHook_ok _) noOrc 100000 300 [] (cs := []) rfl hf (List.map_inj_left.1 rkReg_7 op hm) rfl w (Laid.nil w)
  rcases List.mem_append.1 h with hm | h
  · exact reckonT_ok noNG (noHook_ok _) noOrc 100000 300 [] (cs := []) rfl hf (List.map_inj_left.1 rkReg_8 op hm) rfl w (Laid.nil w)
  rcases List.mem_append.1 h with hm | h
  · exact reckonT_ok noNG (noHook_ok _) noOrc 100000 300 [] (cs := []) rfl hf (List.map_inj_left.1 rkReg_9 op hm) rfl w (Laid.nil w)
  rcases List.mem_append.1 h with hm | h
  · exact reckonT_ok noNG (noHook_ok _) noOrc 100000 300 [] (cs := []) rfl hf (List.map_inj_left.1 rkReg_10 op hm) rfl w (Laid.nil w)
  rcases List.mem_append.1 h with hm | h
  · exact reckonT_ok noNG (noHook_ok _) noOrc 100000 300 [] (cs := []) rfl hf (List.map_inj_left.1 rkReg_11 op hm) rfl w (Laid.nil w)
  rcases List.mem_append.1 h with hm | h
  · exact reckonT_ok noNG (noHook_ok _) noOrc 100000 300 [] (cs := []) rfl hf (List.map_inj_left.1 rkReg_12 op hm) rfl w (Laid.nil w)
  rcases List.mem_append.1 h with hm | h
  · exact reckonT_ok noNG (noHook_ok _) noOrc 100000 300 [] (cs := []) rfl hf (List.map_inj_left.1 rkReg_13 op hm) rfl w (Laid.nil w)
  rcases List.mem_append.1 h with hm | h
  · exact reckonT_ok noNG (noHook_ok _) noOrc 100000 300 [] (cs := []) rfl hf (List.map_inj_left.1 rkReg_14 op hm) rfl w (Laid.nil w)
  rcases List.mem_append.1 h with hm | h
  · exact reckonT_ok noNG (noHook_ok _) noOrc 100000 300 [] (cs := []) rfl hf (List.map_inj_left.1 rkReg_15 op hm) rfl w (Laid.nil w)
  rcases List.mem_append.1 h with hm | h
  · exact reckonT_ok noNG (noHook_ok _) noOrc 100000 300 [] (cs := []) rfl hf (List.map_inj_left.1 rkReg_16 op hm) rfl w (Laid.nil w)
  rcases List.mem_append.1 h with hm | h
  · exact reckonT_ok noNG (noHook_ok _) noOrc 100000 300 [] (cs := []) rfl hf (List.map_inj_left.1 rkReg_17 op hm) rfl w (Laid.nil w)
  rcases List.mem_append.1 h with hm | h
  · exact reckonT_ok noNG (noHook_ok _) noOrc 100000 300 [] (cs := []) rfl hf (List.map_inj_left.1 rkReg_18 op hm) rfl w (Laid.nil w)
  rcases List.mem_append.1 h with hm | h
  · exact reckonT_ok noNG (noHook_ok _) noOrc 100000 300 [] (cs := []) rfl hf (List.map_inj_left.1 rkReg_19 op hm) rfl w (Laid.nil w)
  rcases List.mem_append.1 h with hm | h
  · exact reckonT_ok noNG (noHook_ok _) noOrc 100000 300 [] (cs := []) rfl hf (List.map_inj_left.1 rkReg_20 op hm) rfl w (Laid.nil w)
  rcases List.mem_append.1 h with hm | h
  · exact reckonT_ok noNG (noHook_ok _) noOrc 100000 300 [] (cs := []) rfl hf (List.map_inj_left.1 rkReg_21 op hm) rfl w (Laid.nil w)
  rcases List.mem_append.1 h with hm | h
  · exact reckonT_ok noNG (noHook_ok _) noOrc 100000 300 [] (cs := []) rfl hf (List.map_inj_left.1 rkReg_22 op hm) rfl w (Laid.nil w)
  rcases List.mem_append.1 h with hm | h
  · exact reckonT_ok noNG (noHook_ok _) noOrc 100000 300 [] (cs := []) rfl hf (List.map_inj_left.1 rkReg_23 op hm) rfl w (Laid.nil w)
  rcases List.mem_append.1 h with hm | h
  · exact reckonT_ok noNG (noHook_ok _) noOrc 100000 300 [] (cs := []) rfl hf (List.map_inj_left.1 rkReg_24 op hm) rfl w (Laid.nil w)
  rcases List.mem_append.1 h with hm | h
  · exact reckonT_ok noNG (noHook_ok _) noOrc 100000 300 [] (cs := []) rfl hf (List.map_inj_left.1 rkReg_25 op hm) rfl w (Laid.nil w)
  rcases List.mem_append.1 h with hm | h
  · exact reckonT_ok noNG (noHook_ok _) noOrc 100000 300 [] (cs := []) rfl hf (List.map_inj_left.1 rkReg_26 op hm) rfl w (Laid.nil w)
  rcases List.mem_append.1 h with hm | h
  · exact reckonT_ok noNG (noHook_ok _) noOrc 100000 300 [] (cs := []) rfl hf (List.map_inj_left.1 rkReg_27 op hm) rfl w (Laid.nil w)
  rcases List.mem_append.1 h with hm | h
  · exact reckonT_ok noNG (noHook_ok _) noOrc 100000 300 [] (cs := []) rfl hf (List.map_inj_left.1 rkReg_28 op hm) rfl w (Laid.nil w)
  rcases List.mem_append.1 h with hm | h
  · exact reckonT_ok noNG (noHook_ok _) noOrc 100000 300 [] (cs := []) rfl hf (List.map_inj_left.1 rkReg_29 op hm) rfl w (Laid.nil w)
  rcases List.mem_append.1 h with hm | h
  · exact reckonT_ok noNG (noHook_ok _) noOrc 100000 300 [] (cs := []) rfl hf (List.map_inj_left.1 rkReg_30 op hm) rfl w (Laid.nil w)
  · exact reckonT_ok noNG (noHook_ok _) noOrc 100000 300 [] (cs := []) rfl hf (List.map_inj_left.1 rkReg_31 op h) rfl w (Laid.nil w)
def hk_rkReg : Hook := fun f args _ =>
  if Nat.beq f 149 then
    match args with
    | [.int .u8 op] => if u8in op then some (rkRegV op.toNat, []) else none
    | _ => none
  else none
theorem hk_rkReg_ok : HookOk Tryz.prog hk_rkReg := by
  intro f args h v cs hv hc wb k s w H
  unfold hk_rkReg at hv
  split at hv
  · rename_i hf
    obtain rfl := Nat.eq_of_beq_eq_true hf
    split at hv
    · rename_i op
      split at hv
      · rename_i ho
        cases hv
        exact c_rkReg op (u8in_mem ho) w
      · cases hv
    · cases hv
  · cases hv
end Go.Proofs.YthhgfjnnconocaaGreatDoor.Ex
end
