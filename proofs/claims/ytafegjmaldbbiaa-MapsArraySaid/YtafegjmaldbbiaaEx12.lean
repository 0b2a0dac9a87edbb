/-
  Runs that the kernel reckons, part 12: drawn regions.
-/
import Derived.Test.YtafegjmaldbbiaaEx11
namespace Go.Proofs.Ytafegjmaldbbiaa.Ex
open Go Go.RowKit

def lexMask (ops : Array Oper) (n : Nat) : Array Bool := ⟨List.replicate n true ++ List.replicate (ops.size - n) false⟩
/-- What stands behind the head is forced. -/
def tailB (ops : Array Oper) (n : Nat) : Bool :=
  n == ops.size || (decide (n < ops.size) && Region.sinkB .any ops n && Region.chainB .any ops n && Region.seqB .any ops (ops.size - n) n (lexMask ops n))
/-- What memory is behind the head, in the text's order. -/
def lexHeap (k : Nat) : List HE → Nat → List AO → Option (List AO)
  | [], _, h => some h
  | e :: es, q, h =>
    match e.b, e.st with
    | [], none => lexHeap k es q h
    | b :: bs, none => lexHeap k es (q + (b :: bs).length) (layL h q (b :: bs))
    | [], some (a, vs) =>
      if a.block < k then
        match astore h a vs with
        | some h' => lexHeap k es q h'
        | none => none
      else none
    | _ :: _, some _ => none
/-- What the head marks. -/
def headM : List HE → Mk
  | [] => (none, [])
  | e :: es => low (e.st.map (·.1.block), e.d) (headM es)
theorem headM_bnd {k : Nat} : ∀ {es : List HE}, Bnd k (headM es) → ∀ (i : Nat) (e : HE), es[i]? = some e → (∀ a vs, e.st = some (a, vs) → k ≤ a.block) ∧ ∀ c ∈ e.d, c.1 = c.2
  | [], _, i, e, he => by simp at he
  | f :: es, h, i, e, he => by
    obtain ⟨h1, h2⟩ := bnd_low h
    cases i with
    | zero =>
      simp at he
      subst he
      exact ⟨fun a vs hs => h1.1 _ (by simp [hs]), h1.2⟩
    | succ i => exact headM_bnd h2 i e (by simpa using he)
/-- What only reckons, and lays nothing. -/
def pureE (e : HE) : Bool :=
  match e.b, e.st, e.rd with
  | [], none, .none => true
  | _, _, _ => false
def pureAt (es : List HE) (i : Nat) : Bool :=
  match es[i]? with
  | some e => pureE e
  | none => false
def readyB (ops : Array Oper) (listed : Array Bool) (i : Nat) : Bool :=
  match ops[i]? with
  | some o => !listed.getD i true && o.after.toList.all fun e => !Region.binds .any e || listed.getD e.on false
  | none => false
/-- Operations that only reckon may be taken ahead. -/
def prepL (ops : Array Oper) (es : List HE) : List Nat → Array Bool → Array Bool
  | [], listed => listed
  | i :: is, listed =>
    if pureAt es i && readyB ops listed i && Region.free .any ops listed i then prepL ops es is (listed.setIfInBounds i true)
    else prepL ops es is listed
def sinkL (ops : Array Oper) (n : Nat) (base : Array Bool) : Bool :=
  (List.range n).all fun i => base.getD i false || (List.range (n + 1)).any fun j => decide (i < j) && Region.waitsFor .any ops j i
def baseOf (ops : Array Oper) (n : Nat) (es : List HE) : Array Bool :=
  if n == ops.size || Region.sinkB .any ops n then Array.replicate ops.size false else prepL ops es (List.range n) (Array.replicate ops.size false)
/-- What stands behind the head is forced. -/
def tailL (ops : Array Oper) (n : Nat) (base : Array Bool) : Bool :=
  n == ops.size || (decide (n < ops.size) && sinkL ops n base && Region.chainB .any ops n && Region.seqB .any ops (ops.size - n) n (lexMask ops n))
def drawA (P : Program) : DrawFn := fun rec ops x =>
  match headRun P rec ops x.h ops.toList 0 x.t [] with
  | (n, t, l, es) =>
    if P.follows .mixedOrders && Region.noSelect ops && decide (n ≤ ops.size) && depsB ops n && memB ops n es && tailL ops n (baseOf ops n es) then
      match lexHeap x.h.length es x.h.length (x.h ++ List.replicate l.length dead) with
      | some h => seqA P (aOp P) rec ops (ops.toList.drop n) ⟨t, h, low x.m (headM es)⟩
      | none => none
    else none
theorem drawA_low (P : Program) : DrawLow (drawA P) := by
  intro rec ops x x' hr k hm
  unfold drawA at hr
  split at hr
  split at hr
  · split at hr
    · exact (bnd_low (seqA_low hr hm)).1
    · cases hr
  · cases hr

section
variable {P : Program} {rec : Rec} {ops : Array Oper} {n : Nat} {t0 t' : List Value} {h0 l' : List AO} {es : List HE} {T : Nat → List Value} {E : Nat → HE} {N : Nat → List AO}

theorem aload_same {h h0 : List AO} {a : Addr} {m : Nat} {o o' : AO} (h1 : h0[a.block]? = some o) (h2 : h[a.block]? = some o') (hl : o'.live = o.live) (he : o'.es = o.es) (hn : o'.cs.length = o.cs.length)
    (hc : ∀ z, a.off ≤ z → z < a.off + m → o'.cs[z]? = o.cs[z]?) : aload h a m = aload h0 a m := by
  unfold aload
  rw [h1, h2]
  have hm : isM o' = isM o := by unfold isM; rw [he]
  simp only [hl, hn, hm]
  split
  · congr 1
    refine List.ext_getElem? fun x => ?_
    rw [List.getElem?_take, List.getElem?_take]
    split
    · rw [List.getElem?_drop, List.getElem?_drop]
      exact hc _ (by omega) (by omega)
    · rfl
  · rfl
theorem oLoad_same {h h0 : List AO} {t : TypeId} {x v : Value} {r : List AO × Option Nat} (hr : oLoad P t x h0 = some (.value v, r)) (ha : ∀ a m, loadH P t x = some (a, m) → aload h a m = aload h0 a m) : oLoad P t x h = some (.value v, h, none) := by
  cases hd : P.underlying t with
  | none => cases x <;> simp [oLoad, hd] at hr
  | some d =>
    cases hi : P.info? t with
    | none => cases x <;> simp [oLoad, hd, hi] at hr
    | some i =>
      cases x with
      | pointer p =>
        cases p with
        | none => simp [oLoad] at hr
        | some a =>
          have h1 := ha a (if aggD d then i.size else 1) (by simp [loadH, hd, hi])
          simp only [oLoad, hd, hi] at hr ⊢
          by_cases hg : aggD d = true
          · simp only [hg, if_true] at hr h1 ⊢
            rw [h1]
            cases hl : aload h0 a i.size with
            | none => rw [hl] at hr; cases hr
            | some vs => rw [hl] at hr; cases hr; rfl
          · simp only [hg] at hr h1 ⊢
            simp only [Bool.false_eq_true, if_false] at hr h1 ⊢
            rw [h1]
            cases hl : aload h0 a 1 with
            | none => rw [hl] at hr; cases hr
            | some vs =>
              rw [hl] at hr
              cases vs with
              | nil => cases hr
              | cons u vs => cases hr; rfl
      | _ => simp [oLoad] at hr
theorem execOp_store {ρ : Operand → Value} {o : Oper} {t : TypeId} {x y : Operand} (h : o.op = .store t x y) : execOp ρ o = aunit (Instr.storeAt t (ρ x) (ρ y)) := by
  obtain ⟨dst, op, type, pos, after, guard⟩ := o
  simp only at h
  subst h
  rfl
/-- A store of the head: what it must find. -/
theorem storeH_spec {t : TypeId} {x y : Value} {a : Addr} {vs : List Value} (h : storeH P t x y h0 = some (a, vs)) :
    x = .pointer (some a) ∧ vs = y.cells.toList ∧ (∃ i, P.info? t = some i ∧ vs.length = i.size) ∧ vs.all (·.oneCell') = true ∧ ∃ o, h0[a.block]? = some o ∧ o.live = true ∧ isW o = true ∧ a.off + vs.length ≤ o.cs.length := by
  unfold storeH at h
  split at h
  · rename_i b i hi
    split at h
    · rename_i hc
      simp only [Bool.and_eq_true, beq_iff_eq] at hc
      split at h
      · rename_i o ho
        split at h
        · rename_i hl
          simp only [Bool.and_eq_true, decide_eq_true_eq] at hl
          simp only [Option.some.injEq, Prod.mk.injEq] at h
          obtain ⟨rfl, rfl⟩ := h
          exact ⟨rfl, rfl, ⟨i, hi, hc.1⟩, hc.2, o, ho, hl.1.1, hl.1.2, hl.2⟩
        · cases h
      · cases h
    · cases h
  · cases h
theorem isW_es {o o' : AO} (h : o'.es = o.es) : isW o' = isW o := by unfold isW; rw [h]
theorem astore_some {h : List AO} {a : Addr} {vs : List Value} {o : AO} (ho : h[a.block]? = some o) (hl : o.live = true) (hw : isW o = true) (hf : a.off + vs.length ≤ o.cs.length) : ∃ h', astore h a vs = some h' := by
  unfold astore
  rw [ho]
  simp [hl, hw, hf]
theorem store_run {wb : Wb} {k : Nat} {s : Ren} {h h' : List AO} {w : World} (H : HR wb k s h w) {t : TypeId} {a : Addr} {x' y y' : Value} (hx : VR s (.pointer (some a)) x') (hy : VR s y y') {i : TypeInfo} (hi : P.info? t = some i)
    (hl : y.cells.toList.length = i.size) (ho : y.cells.toList.all (·.oneCell') = true) (hst : astore h a y.cells.toList = some h') (hk : k ≤ a.block) :
    ∃ w', (aunit (Instr.storeAt t x' y')).run P w = .ok .skip w' ∧ HR wb k s h' w' := by
  obtain ⟨p, hs, hp, rfl⟩ := hx.ptr_inv
  obtain ⟨h1, h2, H'⟩ := astore_spec H hst hk hp hy.cells
  have hone : ∀ v ∈ y'.cells.toList, v.oneCell' = true := by
    intro v hv
    obtain ⟨j, hj⟩ := List.getElem?_of_mem hv
    obtain ⟨u, hu, huv⟩ := hy.cells.get' hj
    exact huv.one (all_get ho hu)
  have h3 := run_storeCells_cells (P := P) p.blk (p.off + a.off) y'.cells.toList 0 w (by simpa using h1) (by simpa using h2) hone
  have hsz : y'.cells.size = i.size := by rw [← hl, hy.cells.1]; simp
  exact ⟨_, by simp [aunit, Instr.storeAt, Instr.sureAddr, storeVar, run_size hi, hsz, h3], H'⟩

/-- The state when some of the head's operations are done. -/
def Mid (ops : Array Oper) (n : Nat) (t0 : List Value) (h0 : List AO) (E : Nat → HE) (N : Nat → List AO) (wb : Wb) (k : Nat) (s0 : Ren) (listed : Array Bool) (a : Act) (w : World) : Prop :=
  ∃ s t h, Le s0 s ∧ (∀ i, i < h0.length → s i = s0 i) ∧ LR s t a.tmps.toList ∧ a.defers = [] ∧ HR wb k s h w ∧ ((∀ j, j < n → (E j).st ≠ none → listed.getD j false = false) → HR wb k s0 h0 w) ∧
    MT ops n t0 E (fun i => listed.getD i false) t ∧ MH n h0 E N (fun i => listed.getD i false) h s

theorem glob_same {s : Ren} {h : List AO} {done : Nat → Bool} (hg : GlOk s h) (h1 : ∀ (x : Nat) (o : AO), h0[x]? = some o → ∃ o', h[x]? = some o' ∧ BlkAt n E done x o o') : GlOk s h0 := by
  intro g hgg
  refine hg g ?_
  unfold isG at hgg ⊢
  cases ho : h0[g]? with
  | none => rw [ho] at hgg; cases hgg
  | some o =>
    rw [ho] at hgg
    obtain ⟨o', e1, e2, e3, _⟩ := h1 g o ho
    rw [e1]
    simp only at hgg ⊢
    rw [e2, e3]
    exact hgg
theorem mask_next {listed : Array Bool} {i : Nat} (hi : i < listed.size) : (fun j => (listed.setIfInBounds i true).getD j false) = fun j => listed.getD j false || j == i := by
  funext j
  by_cases e : i = j
  · subst e
    simp [hi]
  · rw [getD_set_ne false e]
    simp [Ne.symm e]
theorem mid_ctx (S : HeadSpec P rec ops h0 ops.toList 0 n t0 [] t' l' es T E N) (hd : depsB ops n = true) {listed : Array Bool} (inv : HeadInv .any ops n listed) {t : List Value} (M : MT ops n t0 E (fun i => listed.getD i false) t) {i : Nat}
    (hr : i ∈ Region.ready .any ops listed) (hi : i < n) {o1 : Oper} (ho : ops[i]? = some o1) : (∀ y, y ∈ o1.op.operands → lookA t y = lookA (T i) y) ∧ wantedA ops t o1 = wantedA ops (T i) o1 := by
  obtain ⟨hun, o2, ho2, hall⟩ := mem_ready.1 hr
  have eo : o1 = o2 := Option.some.inj (ho.symm.trans ho2)
  subst eo
  obtain ⟨hd1, hd2⟩ := depsB_spec hd hi ho
  have hisz : i < listed.size := by rw [inv.size]; exact (Array.getElem?_eq_some_iff.1 ho).1
  have hnd : listed.getD i false = false := getD_both hun
  obtain ⟨g1, g2, g3⟩ := lex_ok S hd i (by omega)
  -- what the operation looks at is as in the text's order
  have agree : ∀ d, d ∈ o1.looksAt ops → t[d]? = (T i)[d]? := by
    intro d hdl
    by_cases hx : d < t0.length
    · by_cases hw : ∃ j p, j < n ∧ ops[j]? = some p ∧ p.dst = some d
      · obtain ⟨j, p, hj, hp, hpd⟩ := hw
        have hone : ∀ j' p', j' < n → ops[j']? = some p' → p'.dst = some d → j' = j := by
          intro j' p' hj' hp' hpd'
          rcases Nat.decEq j' j with hne | he
          · exact absurd hpd' ((depsB_spec hd hj' hp').2 j p d hj hp hpd hne).1
          · exact he
        rcases Nat.lt_trichotomy j i with hlt | heq | hgt
        · obtain ⟨e, he, hb, hon⟩ := waits_spec (((hd2 j p d hj hp hpd (by omega)).2 hdl).1 hlt)
          have hdone := hall e he hb
          rw [hon] at hdone
          rw [M.t1 j p d hj hp hpd hdone hx, g2 j p d hlt hp hpd hx]
        · rw [M.t2 d fun j' p' hj' hp' hdn hpd' => by
            have h5 := hone j' p' hj' hp' hpd'
            have h6 : listed.getD j' false = true := hdn
            rw [h5, heq, hnd] at h6
            cases h6]
          rw [g3 d fun j' p' hj' hp' hpd' => by
            have h5 := hone j' p' (by omega) hp' hpd'
            omega]
        · have hnj : listed.getD j false = false := by
            cases hq : listed.getD j false with
            | false => rfl
            | true =>
              obtain ⟨e, he, hb, hon⟩ := waits_spec (((hd2 j p d hj hp hpd (by omega)).2 hdl).2 hgt)
              have := inv.closed j p hp hq e he hb
              rw [hon, hnd] at this
              cases this
          rw [M.t2 d fun j' p' hj' hp' hdn hpd' => by
            have h5 := hone j' p' hj' hp' hpd'
            have h6 : listed.getD j' false = true := hdn
            rw [h5, hnj] at h6
            cases h6]
          rw [g3 d fun j' p' hj' hp' hpd' => by
            have h5 := hone j' p' (by omega) hp' hpd'
            omega]
      · have hn : ∀ j p, j < n → ops[j]? = some p → p.dst ≠ some d := fun j p hj hp e => hw ⟨j, p, hj, hp, e⟩
        rw [M.t2 d fun j p hj hp _ => hn j p hj hp, g3 d fun j p hj hp => hn j p (by omega) hp]
    · have hx' : t0.length ≤ d := Nat.le_of_not_lt hx
      rw [List.getElem?_eq_none (by rw [M.tl]; exact hx'), List.getElem?_eq_none (by rw [g1]; exact hx')]
  have hlook : ∀ y, y ∈ o1.op.operands → lookA t y = lookA (T i) y := by
    intro y hy
    cases y with
    | tmp d =>
      have : d ∈ o1.looksAt ops := by
        unfold Oper.looksAt
        refine List.mem_append_left _ (List.mem_filterMap.2 ⟨.tmp d, by simpa using hy, rfl⟩)
      simp only [lookA, List.getD, agree d this]
    | _ => rfl
  have hwant : wantedA ops t o1 = wantedA ops (T i) o1 := by
    unfold wantedA
    cases hg : o1.guard with
    | none => rfl
    | some gw =>
      obtain ⟨g, want⟩ := gw
      have : yA ops t g = yA ops (T i) g := by
        unfold yA
        cases hdg : (ops[g]?).bind (·.dst) with
        | none => rfl
        | some d =>
          have hm : d ∈ o1.looksAt ops := by
            unfold Oper.looksAt
            refine List.mem_append_right _ ?_
            rw [hg]
            simp [hdg]
          simp only [Option.bind_some, agree d hm]
      simp only [this]
  exact ⟨hlook, hwant⟩
theorem mid_pure (hng : NoNG P) (hacc : rec.acc = accP) (S : HeadSpec P rec ops h0 ops.toList 0 n t0 [] t' l' es T E N) (hd : depsB ops n = true) {k : Nat} {wb : Wb} {s0 : Ren} {listed : Array Bool} {a : Act} {w : World} (inv : HeadInv .any ops n listed)
    (J : Mid ops n t0 h0 E N wb k s0 listed a w) {i : Nat} (hr : i ∈ Region.ready .any ops listed) (hi : i < n) (hp : pureE (E i) = true) (hdi : ∀ c ∈ (E i).d, c.1 = c.2) :
    ∃ o v, ops[i]? = some o ∧ Yields P ops o v a ∧ Mid ops n t0 h0 E N wb k s0 (listed.setIfInBounds i true) (a.put o.dst v) w := by
  obtain ⟨s, t, h, hle, hbel, ht, hdf, H, H0, M, MM⟩ := J
  obtain ⟨o1, ho, hs, hT⟩ := op_at S hi
  obtain ⟨hlook, hwant⟩ := mid_ctx S hd inv M hr hi ho
  have hisz : i < listed.size := by rw [inv.size]; exact (Array.getElem?_eq_some_iff.1 ho).1
  have hmask := mask_next (i := i) hisz
  have hb : (E i).b = [] ∧ (E i).st = none ∧ (E i).rd = .none := by
    unfold pureE at hp
    split at hp
    · exact ⟨by assumption, by assumption, by assumption⟩
    · cases hp
  obtain ⟨hb1, hb2, hb3⟩ := hb
  have hno : (∀ j, j < n → (E j).st ≠ none → (listed.setIfInBounds i true).getD j false = false) → ∀ j, j < n → (E j).st ≠ none → listed.getD j false = false := by
    intro hh j hj hst
    have h1 := hh j hj hst
    have h2 := congrFun hmask j
    rw [h1] at h2
    cases hq : listed.getD j false with
    | false => rfl
    | true => rw [hq] at h2; simp at h2
  have go : ∀ v', VR s (E i).v v' → Mid ops n t0 h0 E N wb k s0 (listed.setIfInBounds i true) (a.put o1.dst v') w := by
    intro v' hv
    refine ⟨s, putA t o1.dst (E i).v, h, hle, hbel, put_ok ht o1.dst hv, by cases hq : o1.dst <;> simp [Act.put, hdf], H, fun hh => H0 (hno hh), ?_, ?_⟩
    · rw [hmask]; exact mt_next hd M hi ho
    · rw [hmask]; exact mh_still MM hb2 hb1
  obtain ⟨e0, cs0, hs, inj⟩ := headStep_inv hs hdi
  unfold headStep0 at hs
  rw [hacc] at hs
  simp only [accP] at hs
  split at hs
  · rename_i hwt
    split at hs
    · rename_i hok
      have hρ : ∀ y ∈ o1.op.operands, VR s (lookA (T i) y) (a.eval y) := fun y hy => by
        rw [← hlook y hy]
        exact eval_ok ht (glob_same H.glob MM.h1) (List.all_eq_true.1 hok y (by simpa using hy))
      split at hs
      · rw [← inj _ hs] at hb3
        cases hb3
      split at hs
      · split at hs
        · split at hs
          · rw [← inj _ hs] at hb3
            cases hb3
          · cases hs
        · cases hs
      split at hs
      · split at hs
        · rw [← inj _ hs] at hb3
          cases hb3
        · cases hs
      split at hs
      · split at hs
        · rename_i v cs1 hq
          have hE := inj _ hs
          have hcs1 : ∀ c ∈ cs1, c.1 = c.2 := fun c hc => hdi c (by rw [← hE]; exact List.mem_append_left _ hc)
          refine ⟨o1, v, ho, .inl ⟨by rw [wanted_ok ht, hwant]; exact hwt, fun w2 => (qsOp_ok (P := P) hρ hq hcs1 w2).1⟩, go v (by rw [← hE]; exact .same (qsOp_ok (P := P) hρ hq hcs1 w).2)⟩
        · split at hs
          · rw [← inj _ hs] at hb3
            cases hb3
          · split at hs
            · rw [← inj _ hs] at hb1
              cases hb1
            · split at hs
              · rw [← inj _ hs] at hb3
                cases hb3
              · split at hs
                · split at hs
                  · split at hs
                    · split at hs
                      · rw [← inj _ hs] at hb3
                        cases hb3
                      · cases hs
                    · cases hs
                  · cases hs
                · cases hs
      split at hs
      · rw [← inj _ hs] at hb1
        cases hb1
      · split at hs
        · rw [← inj _ hs] at hb1
          cases hb1
        · split at hs
          · rename_i v x1 x2 hso
            have hE := inj _ hs
            have hall : ∀ w, Okay0 P s [] w (execOp a.eval o1) (.value v, x1, x2) := fun w => sOp_ok P hng s [] w _ _ o1 _ (fun j p hj => by simp at hj) hρ hso
            obtain ⟨n', e1, e2, _⟩ := hall w
            cases n' <;> simp only [NR] at e2
            rename_i v'
            refine ⟨o1, v', ho, .inl ⟨by rw [wanted_ok ht, hwant]; exact hwt, fun w2 => ?_⟩, go v' (by rw [← hE]; exact e2)⟩
            obtain ⟨n2, g1, g2, _⟩ := hall w2
            cases n2 <;> simp only [NR] at g2
            rw [g1, VR.det g2 e2]
          · split at hs
            · split at hs
              · split at hs
                · rw [← inj _ hs] at hb3
                  cases hb3
                · cases hs
              · cases hs
            · split at hs
              · split at hs
                · split at hs
                  · rw [← inj _ hs] at hb3
                    cases hb3
                  · cases hs
                · cases hs
              · cases hs
          · split at hs
            · split at hs
              · rw [← inj _ hs] at hb2
                cases hb2
              · cases hs
            · split at hs
              · rw [← inj _ hs] at hb3
                cases hb3
              · cases hs
            · split at hs
              · rw [← inj _ hs] at hb3
                cases hb3
              · split at hs
                · split at hs
                  · split at hs
                    · rw [← inj _ hs] at hb3
                      cases hb3
                    · cases hs
                  · cases hs
                · cases hs
    · cases hs
  · rename_i hwt
    have hE := inj _ hs
    exact ⟨o1, undef, ho, .inr ⟨by rw [wanted_ok ht, hwant]; simpa using hwt, rfl⟩, go undef (by rw [← hE]; exact .same rfl)⟩
theorem mid_op (S : HeadSpec P rec ops h0 ops.toList 0 n t0 [] t' l' es T E N) (hd : depsB ops n = true) (hrec : RecOk P rec) (hmem : memB ops n es = true) {k : Nat} (hcs : Bnd k (headM es)) {wb : Wb} {s0 : Ren} {listed : Array Bool} {a : Act} {w : World}
    (hk : k ≤ h0.length) (inv : HeadInv .any ops n listed) (J : Mid ops n t0 h0 E N wb k s0 listed a w) {i : Nat} (hr : i ∈ Region.ready .any ops listed) (hi : i < n) {Q : Exit → Act → World → Prop} {K : Act → World → Prop}
    (hK : ∀ a' w', Mid ops n t0 h0 E N wb k s0 (listed.setIfInBounds i true) a' w' → K a' w') : wpOp P ops Q i K a w := by
  obtain ⟨s, t, h, hle, hbel, ht, hdf, H, H0, M, MM⟩ := J
  obtain ⟨hun, o1, ho1, hall⟩ := mem_ready.1 hr
  obtain ⟨o, ho, hs, hT⟩ := op_at S hi
  have eo : o1 = o := Option.some.inj (ho1.symm.trans ho)
  subst eo
  obtain ⟨hd1, hd2⟩ := depsB_spec hd hi ho
  have hisz : i < listed.size := by rw [inv.size]; exact (Array.getElem?_eq_some_iff.1 ho).1
  have hnd : listed.getD i false = false := getD_both hun
  obtain ⟨g1, g2, g3⟩ := lex_ok S hd i (by omega)
  -- what the operation looks at is as in the text's order
  have agree : ∀ d, d ∈ o1.looksAt ops → t[d]? = (T i)[d]? := by
    intro d hdl
    by_cases hx : d < t0.length
    · by_cases hw : ∃ j p, j < n ∧ ops[j]? = some p ∧ p.dst = some d
      · obtain ⟨j, p, hj, hp, hpd⟩ := hw
        have hone : ∀ j' p', j' < n → ops[j']? = some p' → p'.dst = some d → j' = j := by
          intro j' p' hj' hp' hpd'
          rcases Nat.decEq j' j with hne | he
          · exact absurd hpd' ((depsB_spec hd hj' hp').2 j p d hj hp hpd hne).1
          · exact he
        rcases Nat.lt_trichotomy j i with hlt | heq | hgt
        · obtain ⟨e, he, hb, hon⟩ := waits_spec (((hd2 j p d hj hp hpd (by omega)).2 hdl).1 hlt)
          have hdone := hall e he hb
          rw [hon] at hdone
          rw [M.t1 j p d hj hp hpd hdone hx, g2 j p d hlt hp hpd hx]
        · rw [M.t2 d fun j' p' hj' hp' hdn hpd' => by
            have h5 := hone j' p' hj' hp' hpd'
            have h6 : listed.getD j' false = true := hdn
            rw [h5, heq, hnd] at h6
            cases h6]
          rw [g3 d fun j' p' hj' hp' hpd' => by
            have h5 := hone j' p' (by omega) hp' hpd'
            omega]
        · have hnj : listed.getD j false = false := by
            cases hq : listed.getD j false with
            | false => rfl
            | true =>
              obtain ⟨e, he, hb, hon⟩ := waits_spec (((hd2 j p d hj hp hpd (by omega)).2 hdl).2 hgt)
              have := inv.closed j p hp hq e he hb
              rw [hon, hnd] at this
              cases this
          rw [M.t2 d fun j' p' hj' hp' hdn hpd' => by
            have h5 := hone j' p' hj' hp' hpd'
            have h6 : listed.getD j' false = true := hdn
            rw [h5, hnj] at h6
            cases h6]
          rw [g3 d fun j' p' hj' hp' hpd' => by
            have h5 := hone j' p' (by omega) hp' hpd'
            omega]
      · have hn : ∀ j p, j < n → ops[j]? = some p → p.dst ≠ some d := fun j p hj hp e => hw ⟨j, p, hj, hp, e⟩
        rw [M.t2 d fun j p hj hp _ => hn j p hj hp, g3 d fun j p hj hp => hn j p (by omega) hp]
    · have hx' : t0.length ≤ d := Nat.le_of_not_lt hx
      rw [List.getElem?_eq_none (by rw [M.tl]; exact hx'), List.getElem?_eq_none (by rw [g1]; exact hx')]
  have hlook : ∀ y, y ∈ o1.op.operands → lookA t y = lookA (T i) y := by
    intro y hy
    cases y with
    | tmp d =>
      have : d ∈ o1.looksAt ops := by
        unfold Oper.looksAt
        refine List.mem_append_left _ (List.mem_filterMap.2 ⟨.tmp d, by simpa using hy, rfl⟩)
      simp only [lookA, List.getD, agree d this]
    | _ => rfl
  have hwant : wantedA ops t o1 = wantedA ops (T i) o1 := by
    unfold wantedA
    cases hg : o1.guard with
    | none => rfl
    | some gw =>
      obtain ⟨g, want⟩ := gw
      have : yA ops t g = yA ops (T i) g := by
        unfold yA
        cases hdg : (ops[g]?).bind (·.dst) with
        | none => rfl
        | some d =>
          have hm : d ∈ o1.looksAt ops := by
            unfold Oper.looksAt
            refine List.mem_append_right _ ?_
            rw [hg]
            simp [hdg]
          simp only [Option.bind_some, agree d hm]
      simp only [this]
  have hmask := mask_next (i := i) hisz
  have hEi := eff_at S hi
  obtain ⟨hbi, hdi⟩ := headM_bnd hcs i _ hEi
  have hno : (∀ j, j < n → (E j).st ≠ none → (listed.setIfInBounds i true).getD j false = false) → ∀ j, j < n → (E j).st ≠ none → listed.getD j false = false := by
    intro hh j hj hst
    have h1 := hh j hj hst
    have h2 := congrFun hmask j
    rw [h1] at h2
    cases hq : listed.getD j false with
    | false => rfl
    | true => rw [hq] at h2; simp at h2
  -- what waits for it is not done
  have behind : ∀ j oj, ops[j]? = some oj → waits oj i = true → listed.getD j false = false := by
    intro j oj hoj hw
    cases hq : listed.getD j false with
    | false => rfl
    | true =>
      obtain ⟨e, he, hb, hon⟩ := waits_spec hw
      have := inv.closed j oj hoj hq e he hb
      rw [hon, hnd] at this
      cases this
  have reads : (E i).rd = .any → HR wb k s0 h0 w := by
    intro hrd
    refine H0 fun j hj hst => ?_
    obtain ⟨⟨b, vs⟩, hs'⟩ := Option.ne_none_iff_exists'.1 hst
    by_cases e : i = j
    · rw [← e]; exact hnd
    · obtain ⟨oj, hoj, _, _⟩ := op_at S hj
      exact behind j oj hoj ((memB_spec hmem hj (eff_at S hj) hs' hi e hEi hoj).2.1 hrd)
  have mr0 : HR wb k s0 h0 w → MR s h0 w := fun H' j p hj hl => by
    obtain ⟨q, hq, he, hb⟩ := H'.obj j p hj hl
    exact ⟨q, hle _ _ hq, he, hb.mono hle⟩
  have mrn : MR s [] w := fun j p hj _ => by simp at hj
  -- how it goes on
  have still : ∀ (v' : Value) (w' : World), (E i).b = [] → (E i).st = none → VR s (E i).v v' → Gr w w' → K (a.put o1.dst v') w' := by
    intro v' w' hb hst hv hg
    refine hK _ _ ⟨s, putA t o1.dst (E i).v, h, hle, hbel, put_ok ht o1.dst hv, by cases hq : o1.dst <;> simp [Act.put, hdf], H.grow hg, fun hh => (H0 (hno hh)).grow hg, ?_, ?_⟩
    · rw [hmask]; exact mt_next hd M hi ho
    · rw [hmask]; exact mh_still MM hst hb
  unfold wpOp
  rw [ho]
  simp only
  rw [wanted_ok ht, hwant]
  obtain ⟨e0, cs0, hs, inj⟩ := headStep_inv hs hdi
  unfold headStep0 at hs
  rw [hrec.2.2.2] at hs
  simp only [accP] at hs
  split at hs
  · rename_i hwt
    rw [if_pos hwt]
    left
    split at hs
    · rename_i hok
      have hρ : ∀ y ∈ o1.op.operands, VR s (lookA (T i) y) (a.eval y) := fun y hy => by
        rw [← hlook y hy]
        exact eval_ok ht (glob_same H.glob MM.h1) (List.all_eq_true.1 hok y (by simpa using hy))
      split at hs
      · rename_i v htl
        have hE := inj _ hs
        have H1 := reads (by rw [← hE])
        have hso := sameC_ok (b2i_inj (b := true) (hdi (b2i (sameC (sOp P (lookA (T i)) o1 h0) (some (.value v, h0, none))), 1) (by rw [← hE]; simp)))
        obtain ⟨n', e1, e2, _⟩ := sOp_ok P hrec.2.2.1 s h0 w _ _ o1 _ (mr0 H1) hρ hso
        unfold Oper.wp
        rw [e1]
        cases n' <;> simp only [NR] at e2
        exact still _ _ (by rw [← hE]) (by rw [← hE]) (by rw [← hE]; exact e2) (Gr.refl w)
      split at hs
      · -- flatC
        split at hs
        · rename_i f args x1 x2 hso
          split at hs
          · rename_i v cs3 hca
            have hE := inj _ hs
            have H1 := reads (by rw [← hE])
            obtain ⟨n', e1, e2, _⟩ := sOp_ok P hrec.2.2.1 s [] w _ _ o1 _ mrn hρ hso
            unfold Oper.wp
            rw [e1]
            cases n' <;> simp only [NR] at e2
            rename_i g args'
            obtain ⟨rfl, hargs⟩ := e2
            have hd0 : ∀ c ∈ ((b2i (args.toList.all flat && flat v), 1) : Int × Int) :: cs3, c.1 = c.2 := fun c hc => hdi c (by rw [← hE]; exact List.mem_append_left _ hc)
            have hfl := b2i_inj (b := true) (hd0 _ (List.mem_cons_self ..))
            simp only [Bool.and_eq_true] at hfl
            have hea := hargs.eq_of_flat hfl.1
            obtain ⟨al⟩ := args'
            simp only at hea
            rw [hea]
            refine (hrec.2.1 _ args.toList h0 v [] cs3 hca (fun c hc => hd0 c (List.mem_cons_of_mem _ hc)) w h0.length s0 w args.toList (fun i hi => by cases hi) H1.here (LR.ofFlat hfl.1)).mono ?_
            rintro e w' ⟨s', v', rfl, hle1, H', hvr⟩
            have hv0 : (E i).v = v := by rw [← hE]
            exact still v' w' (by rw [← hE]) (by rw [← hE]) (by rw [hv0, hvr.eq_of_flat hfl.2]; exact .same hfl.2) H'.grown.gr
          · cases hs
        · cases hs
      split at hs
      · split at hs
        · rename_i v cs1 hq
          have hE := inj _ hs
          have H1 := reads (by rw [← hE])
          obtain ⟨n', e1, e2, _⟩ := tOp_ok (P := P) (mr0 H1) hρ hq (fun c hc => hdi c (by rw [← hE]; exact List.mem_append_left _ hc))
          unfold Oper.wp
          rw [e1]
          cases n' <;> simp only [NR] at e2
          exact still _ _ (by rw [← hE]) (by rw [← hE]) (by rw [← hE]; exact e2) (Gr.refl w)
        · cases hs
      split at hs
      · split at hs
        · rename_i v cs1 hq
          have hE := inj _ hs
          obtain ⟨e1, e2⟩ := qsOp_ok (P := P) hρ hq (fun c hc => hdi c (by rw [← hE]; exact List.mem_append_left _ hc)) w
          unfold Oper.wp
          rw [e1]
          exact still _ _ (by rw [← hE]) (by rw [← hE]) (by rw [← hE]; exact .same e2) (Gr.refl w)
        · split at hs
          · rename_i v cs1 hq
            have hE := inj _ hs
            have H1 := reads (by rw [← hE])
            obtain ⟨n', e1, e2, _⟩ := xsOp_ok (P := P) (mr0 H1) hρ hq (fun c hc => hdi c (by rw [← hE]; exact List.mem_append_left _ hc))
            unfold Oper.wp
            rw [e1]
            cases n' <;> simp only [NR] at e2
            exact still _ _ (by rw [← hE]) (by rw [← hE]) (by rw [← hE]; exact e2) (Gr.refl w)
          · split at hs
            · rename_i cs0' x cs1 hn
              have hE := inj _ hs
              have hb : (E i).b = [⟨true, none, cs0'⟩] := by rw [← hE]
              have hst : (E i).st = none := by rw [← hE]
              obtain ⟨arr, Ty, e1, e2⟩ := bMk_ok (P := P) hρ hn (fun c hc => hdi c (by rw [← hE]; exact List.mem_append_left _ hc)) w
              obtain ⟨q1, q2⟩ := MM.h3 i 0 _ hi (by rw [hb]; rfl) hnd
              simp only [Nat.add_zero] at q1 q2
              have hql : h0.length + (N i).length < h.length := (List.getElem?_eq_some_iff.1 q1).1
              obtain ⟨H', hle'⟩ := H.fill q2 hql (by omega) Ty e2
              have hg : Gr w (w.alloc (.cells arr Ty)) := Gr.alloc (Gr.refl w) arr Ty
              unfold Oper.wp
              rw [e1]
              refine hK _ _ ⟨_, putA t o1.dst (E i).v, _, hle.trans hle', fun j hj => ?_, put_ok (ht.mono hle') o1.dst ?_, by cases hq : o1.dst <;> simp [Act.put, hdf], H', fun hh => (H0 (hno hh)).grow hg, ?_, ?_⟩
              · rw [upd_other _ _ (by omega)]; exact hbel j hj
              · rw [← hE]
                exact mkNew_ok (upd_same _ _ _) (some x)
              · rw [hmask]; exact mt_next hd M hi ho
              · rw [hmask, ← layL_one hql, ← hb]
                exact mh_new S MM hi hst _ fun q hq => upd_other _ _ fun e => hq (by rw [hb, e]; simp)
            · split at hs
              · rename_i v cs1 hq
                have hE := inj _ hs
                have H1 := reads (by rw [← hE])
                have hdc : ∀ c ∈ cs1, c.1 = c.2 := fun c hc => hdi c (by rw [← hE]; exact List.mem_append_left _ hc)
                obtain ⟨src, dst, x, a0, l, c, b, cs', hop, hx, hle0, hnb, hlv, him, hbo, hfv, rfl⟩ := bTx_inv hq
                have hfl : b.cs.all flat = true := b2i_inj (b := true) (hdc _ (List.mem_cons_self ..))
                have hNn := N_pre S n (i := i) (by omega) (Nat.le_refl _)
                have hjl : a0.block - h0.length < (N i).length := (List.getElem?_eq_some_iff.1 hnb).1
                have hx' : VR s (.slice (some a0) l c) (a.eval x) := by
                  rw [← hx]
                  exact hρ x (by rw [hop]; simp [Op.operands])
                have hpl : (List.replicate (a0.block - h0.length) dead ++ [b]).length = a0.block - h0.length + 1 := by simp
                have HB := (HR.both H H1 hbel (fun x o hx hl => by
                  obtain ⟨o', h4, h5⟩ := MM.h1 x o hx
                  exact ⟨o', h4, h5.1.trans hl⟩) (pad := List.replicate (a0.block - h0.length) dead ++ [b]) (fun y o hy hl => by
                  have hyj : y = a0.block - h0.length ∧ o = b := by
                    by_cases e : y < a0.block - h0.length
                    · rw [List.getElem?_append_left (by simpa using e), List.getElem?_replicate, if_pos e] at hy
                      cases hy
                      cases hl
                    · rw [List.getElem?_append_right (by simpa using Nat.le_of_not_lt e), List.length_replicate] at hy
                      cases e2 : y - (a0.block - h0.length) with
                      | zero => rw [e2] at hy; exact ⟨by omega, by simpa using hy.symm⟩
                      | succ z => rw [e2] at hy; simp at hy
                  obtain ⟨rfl, rfl⟩ := hyj
                  refine ⟨?_, hfl, him⟩
                  obtain ⟨j, z, cs, hj, hb, hz⟩ := N_sur S i (by omega) _ hjl
                  have h6 := (N_at S (i := j) (by omega) hb).1
                  rw [hz, hNn.2 _ hjl, hnb] at h6
                  cases h6
                  cases hq : listed.getD j false with
                  | true =>
                    have := MM.h2 j z _ (by omega) hb hq
                    rwa [Nat.add_assoc, hz] at this
                  | false =>
                    have := (MM.h3 j z _ (by omega) hb hq).2
                    rw [Nat.add_assoc, hz] at this
                    obtain ⟨p, _, _, hp, _⟩ := hx'.slice_inv
                    rw [show h0.length + (a0.block - h0.length) = a0.block by omega] at this
                    rw [this] at hp
                    cases hp)).here
                obtain ⟨s', v', w', e1, hle1, H', hvr⟩ := bOp_ok (P := P) HB (ρ' := a.eval) (fun y hy => by
                  rw [hop] at hy
                  obtain rfl : y = x := by simpa [Op.operands] using hy
                  rw [hx]
                  exact newArg_ok (n := h0.length) (nid := a0.block + 1) (by omega) (fun j hj => by rw [hpl, if_pos (by omega)]) hx' (by simp [newArg])) hbo (fun c hc => hdc c (List.mem_cons_of_mem _ hc))
                unfold Oper.wp
                rw [e1]
                have hv0 : (E i).v = v := by rw [← hE]
                exact still v' w' (by rw [← hE]) (by rw [← hE]) (by rw [hv0, hvr.eq_of_flat hfv]; exact .same hfv) H'.grown.gr
              · split at hs
                · rename_i f args x1 x2 hso
                  split at hs
                  · rename_i hblw
                    split at hs
                    · rename_i v h1 m3 cs3 hca
                      split at hs
                      · rename_i hcond
                        simp only [Bool.and_eq_true] at hcond
                        obtain ⟨hq3, hrv⟩ := hcond
                        have hE := inj _ hs
                        have H1 := reads (by rw [← hE])
                        obtain ⟨n', e1, e2, _⟩ := sOp_ok P hrec.2.2.1 s [] w _ _ o1 _ mrn hρ hso
                        unfold Oper.wp
                        rw [e1]
                        cases n' <;> simp only [NR] at e2
                        rename_i g args'
                        obtain ⟨rfl, hargs⟩ := e2
                        have enid : h0.length + (N i).length - h0.length = (N i).length := by omega
                        rw [enid] at hca
                        have HP := (H1.pad (N i).length).here
                        rw [List.length_append, List.length_replicate] at HP
                        have hdd : ∀ c ∈ cs3 ++ (h1.drop (h0.length + (N i).length)).map (fun o => ((b2i (o.cs.all scal), 1) : Int × Int)), c.1 = c.2 := fun c hc => hdi c (by rw [← hE]; exact List.mem_append_left _ hc)
                        refine (callA_ok hrec hca (wb := w) (k := h0.length + (N i).length) ⟨quietB_ok hq3, fun c hc => hdd c (List.mem_append_left _ hc)⟩ (hargs.blw hbel hblw) HP).mono ?_
                        rintro e w' ⟨s', v', rfl, hle1, H', hvr⟩
                        have hb : (E i).b = h1.drop (h0.length + (N i).length) := by rw [← hE]
                        have hst : (E i).st = none := by rw [← hE]
                        have hv0 : (E i).v = v := by rw [← hE]
                        rw [← hb] at hrv
                        have hro : ∀ f, (E i).b.all (refO f) = true := fun f => List.all_eq_true.2 fun o ho => refO_scal (b2i_inj (b := true) (hdd (b2i (o.cs.all scal), 1) (List.mem_append_right _ (List.mem_map.2 ⟨o, by rw [← hb]; exact ho, rfl⟩))))
                        have hfit : h0.length + (N i).length + (E i).b.length ≤ h.length := by rw [MM.hl]; have := N_fit S hi; omega
                        have hlive : ∀ x, liveB h0 x = true → x < h0.length ∧ ∃ p, s0 x = some p := by
                          intro x hx
                          unfold liveB at hx
                          split at hx
                          · rename_i o ho
                            obtain ⟨p, hp, _⟩ := H1.obj x o ho hx
                            exact ⟨(List.getElem?_eq_some_iff.1 ho).1, p, hp⟩
                          · cases hx
                        obtain ⟨H2, hle2, hok⟩ := H.layNew (q := h0.length + (N i).length) (bs := (E i).b) hfit (by omega) (fun x hx1 hx2 => by
                            have hy : x - (h0.length + (N i).length) < (E i).b.length := by omega
                            have := (MM.h3 i (x - (h0.length + (N i).length)) _ hi (List.getElem?_eq_getElem hy) hnd).2
                            rwa [show h0.length + (N i).length + (x - (h0.length + (N i).length)) = x by omega] at this)
                          H' (fun x o ho => by rw [hb, List.getElem?_drop] at ho; exact ho) (old := liveB h0) (fun x hx => by have := (hlive x hx).1; omega)
                          (fun x hx => by
                            obtain ⟨hx1, p, hp⟩ := hlive x hx
                            rw [hbel x hx1, hp]
                            exact hle1 x p hp) (hro _)
                        refine hK _ _ ⟨_, putA t o1.dst (E i).v, _, hle.trans hle2, fun j hj => ?_, put_ok (ht.mono hle2) o1.dst ?_, by cases hq : o1.dst <;> simp [Act.put, hdf], H2, fun hh => (H0 (hno hh)).grow H'.grown.gr, ?_, ?_⟩
                        · rw [if_neg (by omega)]; exact hbel j hj
                        · rw [hv0]; exact hvr.refs hok 6 hrv
                        · rw [hmask]; exact mt_next hd M hi ho
                        · rw [hmask]
                          exact mh_new S MM hi hst _ fun q hq => if_neg hq
                      · cases hs
                    · cases hs
                  · cases hs
                · cases hs
      split at hs
      · rename_i cs sh hn
        have hE := inj _ hs
        have hb : (E i).b = [⟨true, none, cs⟩] := by rw [← hE]
        have hst : (E i).st = none := by rw [← hE]
        obtain ⟨arr, Ty, e1, e2⟩ := nOp_ok hρ hn w
        obtain ⟨q1, q2⟩ := MM.h3 i 0 _ hi (by rw [hb]; rfl) hnd
        simp only [Nat.add_zero] at q1 q2
        have hql : h0.length + (N i).length < h.length := (List.getElem?_eq_some_iff.1 q1).1
        obtain ⟨H', hle'⟩ := H.fill q2 hql (by omega) Ty e2
        have hg : Gr w (w.alloc (.cells arr Ty)) := Gr.alloc (Gr.refl w) arr Ty
        unfold Oper.wp
        rw [e1]
        refine hK _ _ ⟨_, putA t o1.dst (E i).v, _, hle.trans hle', fun j hj => ?_, put_ok (ht.mono hle') o1.dst ?_, by cases hq : o1.dst <;> simp [Act.put, hdf], H', fun hh => (H0 (hno hh)).grow hg, ?_, ?_⟩
        · rw [upd_other _ _ (by omega)]; exact hbel j hj
        · rw [← hE]
          exact mkNew_ok (upd_same _ _ _) sh
        · rw [hmask]; exact mt_next hd M hi ho
        · rw [hmask, ← layL_one hql, ← hb]
          exact mh_new S MM hi hst _ fun q hq => upd_other _ _ fun e => hq (by rw [hb, e]; simp)
      · split at hs
        · rename_i ao l hf
          have hE := inj _ hs
          have hb : (E i).b = [ao] := by rw [← hE]
          have hst : (E i).st = none := by rw [← hE]
          obtain ⟨arr, Ty, al, ae, e1, e2, e3, e4⟩ := fOp_ok hρ hf w
          obtain ⟨live, eso, cs⟩ := ao
          simp only at al ae e1 e3
          subst al
          subst ae
          obtain ⟨q1, q2⟩ := MM.h3 i 0 _ hi (by rw [hb]; rfl) hnd
          simp only [Nat.add_zero] at q1 q2
          have hql : h0.length + (N i).length < h.length := (List.getElem?_eq_some_iff.1 q1).1
          obtain ⟨H', hle'⟩ := H.drew.fillF q2 hql (by omega) Ty (some 1) rfl (arr.size, arr.size + 1) (fun o ho hh => by have := hh.1; omega) e1 (fun o v hv => ⟨v, (e3 o v hv).1, .same (e3 o v hv).2⟩)
          have hg : Gr w (w.drew.alloc (.cells arr Ty (arr.size, arr.size + 1))) := (Gr.drew (Gr.refl w)).allocO _
          unfold Oper.wp
          rw [e4]
          refine hK _ _ ⟨_, putA t o1.dst (E i).v, _, hle.trans hle', fun j hj => ?_, put_ok (ht.mono hle') o1.dst ?_, by cases hq : o1.dst <;> simp [Act.put, hdf], H', fun hh => (H0 (hno hh)).grow hg, ?_, ?_⟩
          · rw [upd_other _ _ (by omega)]; exact hbel j hj
          · rw [← hE]
            exact VR.slice (a := ⟨h0.length + (N i).length, 0, none⟩) rfl (upd_same _ _ _) (by unfold CapOk; exact ⟨by omega, by simp only [Nat.zero_add, Nat.mul_one, Nat.add_zero], e2⟩)
          · rw [hmask]; exact mt_next hd M hi ho
          · rw [hmask, ← layL_one hql, ← hb]
            exact mh_new S MM hi hst _ fun q hq => upd_other _ _ fun e => hq (by rw [hb, e]; simp)
        · split at hs
          · rename_i v x1 x2 hso
            have hE := inj _ hs
            obtain ⟨n', e1, e2, _⟩ := sOp_ok P hrec.2.2.1 s [] w _ _ o1 _ mrn hρ hso
            unfold Oper.wp
            rw [e1]
            cases n' <;> simp only [NR] at e2
            exact still _ _ (by rw [← hE]) (by rw [← hE]) (by rw [← hE]; exact e2) (Gr.refl w)
          · rename_i f args x1 x2 hso
            split at hs
            · rename_i hblw
              split at hs
              · rename_i v h1 m3 cs3 hca
                split at hs
                · rename_i hcond
                  simp only [Bool.and_eq_true] at hcond
                  obtain ⟨⟨hq3, hrv⟩, hro⟩ := hcond
                  have hE := inj _ hs
                  have H1 := reads (by rw [← hE])
                  obtain ⟨n', e1, e2, _⟩ := sOp_ok P hrec.2.2.1 s [] w _ _ o1 _ mrn hρ hso
                  unfold Oper.wp
                  rw [e1]
                  cases n' <;> simp only [NR] at e2
                  rename_i g args'
                  obtain ⟨rfl, hargs⟩ := e2
                  have enid : h0.length + (N i).length - h0.length = (N i).length := by omega
                  rw [enid] at hca
                  have HP := (H1.pad (N i).length).here
                  rw [List.length_append, List.length_replicate] at HP
                  refine (callA_ok hrec hca (wb := w) (k := h0.length + (N i).length) ⟨quietB_ok hq3, fun c hc => hdi c (by rw [← hE]; exact List.mem_append_left _ hc)⟩ (hargs.blw hbel hblw) HP).mono ?_
                  rintro e w' ⟨s', v', rfl, hle1, H', hvr⟩
                  have hb : (E i).b = h1.drop (h0.length + (N i).length) := by rw [← hE]
                  have hst : (E i).st = none := by rw [← hE]
                  have hv0 : (E i).v = v := by rw [← hE]
                  rw [← hb] at hrv hro
                  have hfit : h0.length + (N i).length + (E i).b.length ≤ h.length := by rw [MM.hl]; have := N_fit S hi; omega
                  have hlive : ∀ x, liveB h0 x = true → x < h0.length ∧ ∃ p, s0 x = some p := by
                    intro x hx
                    unfold liveB at hx
                    split at hx
                    · rename_i o ho
                      obtain ⟨p, hp, _⟩ := H1.obj x o ho hx
                      exact ⟨(List.getElem?_eq_some_iff.1 ho).1, p, hp⟩
                    · cases hx
                  obtain ⟨H2, hle2, hok⟩ := H.layNew (q := h0.length + (N i).length) (bs := (E i).b) hfit (by omega) (fun x hx1 hx2 => by
                      have hy : x - (h0.length + (N i).length) < (E i).b.length := by omega
                      have := (MM.h3 i (x - (h0.length + (N i).length)) _ hi (List.getElem?_eq_getElem hy) hnd).2
                      rwa [show h0.length + (N i).length + (x - (h0.length + (N i).length)) = x by omega] at this)
                    H' (fun x o ho => by rw [hb, List.getElem?_drop] at ho; exact ho) (old := liveB h0) (fun x hx => by have := (hlive x hx).1; omega)
                    (fun x hx => by
                      obtain ⟨hx1, p, hp⟩ := hlive x hx
                      rw [hbel x hx1, hp]
                      exact hle1 x p hp) hro
                  refine hK _ _ ⟨_, putA t o1.dst (E i).v, _, hle.trans hle2, fun j hj => ?_, put_ok (ht.mono hle2) o1.dst ?_, by cases hq : o1.dst <;> simp [Act.put, hdf], H2, fun hh => (H0 (hno hh)).grow H'.grown.gr, ?_, ?_⟩
                  · rw [if_neg (by omega)]; exact hbel j hj
                  · rw [hv0]; exact hvr.refs hok 6 hrv
                  · rw [hmask]; exact mt_next hd M hi ho
                  · rw [hmask]
                    exact mh_new S MM hi hst _ fun q hq => if_neg hq
                · cases hs
              · cases hs
            · split at hs
              · rename_i hnew
                split at hs
                · rename_i v h1 m3 cs3 hca
                  split at hs
                  · rename_i hcond
                    simp only [Bool.and_eq_true] at hcond
                    obtain ⟨hfv, hq3⟩ := hcond
                    have hE := inj _ hs
                    have H1 := reads (by rw [← hE])
                    obtain ⟨n', e1, e2, _⟩ := sOp_ok P hrec.2.2.1 s [] w _ _ o1 _ mrn hρ hso
                    unfold Oper.wp
                    rw [e1]
                    cases n' <;> simp only [NR] at e2
                    rename_i g args'
                    obtain ⟨rfl, hargs⟩ := e2
                    have hNn := N_pre S n (i := i) (by omega) (Nat.le_refl _)
                    have HB := (HR.both H H1 hbel (fun x o hx hl => by
                      obtain ⟨o', h4, h5⟩ := MM.h1 x o hx
                      exact ⟨o', h4, h5.1.trans hl⟩) (pad := padL args.toList h0.length (N i)) (fun y o hy hl => by
                      obtain ⟨p1, p2, p3, p4⟩ := padL_get hy hl
                      refine ⟨?_, p3, p4⟩
                      have hyl := (List.getElem?_eq_some_iff.1 p1).1
                      obtain ⟨j, z, cs, hj, hb, hz⟩ := N_sur S i (by omega) y hyl
                      have h6 := (N_at S (i := j) (by omega) hb).1
                      rw [hz, hNn.2 y hyl, p1] at h6
                      cases h6
                      cases hq : listed.getD j false with
                      | true =>
                        have := MM.h2 j z _ (by omega) hb hq
                        rwa [Nat.add_assoc, hz] at this
                      | false =>
                        have := (MM.h3 j z _ (by omega) hb hq).2
                        rw [Nat.add_assoc, hz] at this
                        obtain ⟨p, hp⟩ := ments_some hargs p2
                        rw [this] at hp
                        cases hp)).here
                    rw [List.length_append, padL_length] at HB
                    refine (callA_ok hrec hca (wb := w) (k := h0.length + (N i).length) ⟨quietB_ok hq3, fun c hc => hdi c (by rw [← hE]; exact List.mem_append_left _ hc)⟩
                      (newArgs_ok (by omega) (fun j hj => by rw [if_pos hj]) hargs hnew) HB).mono ?_
                    rintro e w' ⟨s', v', rfl, hle1, H', hvr⟩
                    have hv0 : (E i).v = v := by rw [← hE]
                    exact still v' w' (by rw [← hE]) (by rw [← hE]) (by rw [hv0, hvr.eq_of_flat hfv]; exact .same hfv) H'.grown.gr
                  · cases hs
                · cases hs
              · cases hs
          · split at hs
            · rename_i ty x y hop
              split at hs
              · rename_i st hsh
                obtain ⟨b, vs⟩ := st
                have hE := inj _ hs
                have hst : (E i).st = some (b, vs) := by rw [← hE]
                have hbn : (E i).b = [] := by rw [← hE]
                obtain ⟨hx, hvs, ⟨info, hinfo, hlen⟩, hone, o0, ho0, hlive, hwr, hfit⟩ := storeH_spec hsh
                obtain ⟨o2, ho2, q1, q2, q3, _, _⟩ := MM.h1 _ _ ho0
                obtain ⟨h', hst'⟩ := astore_some (vs := vs) ho2 (q1.trans hlive) (by rw [isW_es q2]; exact hwr) (by omega)
                have hmh := mh_store S hmem MM hi hbn hst ho0 hfit hst'
                have vx := hρ x (by rw [hop]; simp [Op.operands])
                have vy := hρ y (by rw [hop]; simp [Op.operands])
                rw [hx] at vx
                obtain ⟨w', e1, H'⟩ := store_run (P := P) H vx vy hinfo (by rw [← hvs]; exact hlen) (by rw [← hvs]; exact hone) (by rw [← hvs]; exact hst') (hbi b vs hst)
                unfold Oper.wp
                rw [execOp_store hop, e1]
                refine hK _ _ ⟨s, putA t o1.dst (E i).v, h', hle, hbel, put_ok ht o1.dst (by rw [← hE]; exact .same rfl), by cases hq : o1.dst <;> simp [Act.put, hdf], H', fun hh => ?_, ?_, ?_⟩
                · have h1 := hh i hi (by rw [hst]; simp)
                  have h2 := congrFun hmask i
                  rw [h1] at h2
                  simp at h2
                · rw [hmask]; exact mt_next hd M hi ho
                · rw [hmask]; exact hmh
              · cases hs
            · rename_i ty x hop
              split at hs
              · rename_i v x1 x2 b m hl hlh
                have hE := inj _ hs
                have hl' : oLoad P ty (lookA (T i) x) h = some (.value v, h, none) := by
                  refine oLoad_same hl fun b' m' hlh' => ?_
                  rw [hlh] at hlh'
                  simp only [Option.some.injEq, Prod.mk.injEq] at hlh'
                  obtain ⟨rfl, rfl⟩ := hlh'
                  cases ho0 : h0[b.block]? with
                  | none =>
                    exfalso
                    have : ∀ m, aload h0 b m = none := fun m => by unfold aload; rw [ho0]
                    unfold loadH at hlh
                    split at hlh
                    · rename_i b' d' i' h1 h2 h3
                      simp only [Option.some.injEq, Prod.mk.injEq] at hlh
                      obtain ⟨rfl, _⟩ := hlh
                      simp [oLoad, h1, h2, h3, this] at hl
                    · cases hlh
                  | some o0 =>
                    obtain ⟨o2, ho2, q1, q2, q3, q4, q5⟩ := MM.h1 _ _ ho0
                    refine aload_same ho0 ho2 q1 q2 q3 fun z hz1 hz2 => q5 z fun j c us hj hst hdn hcb hz => ?_
                    by_cases e : i = j
                    · subst e
                      rw [← hE] at hst
                      cases hst
                    · obtain ⟨oj, hoj, _, _⟩ := op_at S hj
                      rcases (memB_spec hmem hj (eff_at S hj) hst hi e hEi hoj).2.2 b m (by rw [← hE]) with hw | hdj
                      · have h9 : listed.getD j false = true := hdn
                        rw [behind j oj hoj hw] at h9
                        cases h9
                      · have := disj_spec hdj hcb.symm
                        omega
                have hso : sOp P (lookA (T i)) o1 h = some (.value v, h, none) := by simp only [sOp, hop]; exact hl'
                obtain ⟨n', e1, e2, _⟩ := sOp_ok P hrec.2.2.1 s h w _ _ o1 _ H.mr hρ hso
                unfold Oper.wp
                rw [e1]
                cases n' <;> simp only [NR] at e2
                exact still _ _ (by rw [← hE]) (by rw [← hE]) (by rw [← hE]; exact e2) (Gr.refl w)
              · cases hs
            · split at hs
              · rename_i v x1 x2 hso
                have hE := inj _ hs
                have H1 := reads (by rw [← hE])
                obtain ⟨n', e1, e2, _⟩ := sOp_ok P hrec.2.2.1 s h0 w _ _ o1 _ (mr0 H1) hρ hso
                unfold Oper.wp
                rw [e1]
                cases n' <;> simp only [NR] at e2
                exact still _ _ (by rw [← hE]) (by rw [← hE]) (by rw [← hE]; exact e2) (Gr.refl w)
              · split at hs
                · rename_i hopb
                  simp only [Bool.and_eq_true] at hopb
                  obtain ⟨_, hblw⟩ := hopb
                  split at hs
                  · rename_i v h1 m3 hca
                    split at hs
                    · rename_i hcond
                      simp only [Bool.and_eq_true] at hcond
                      obtain ⟨⟨hq3, hrv⟩, hro⟩ := hcond
                      have hE := inj _ hs
                      have H1 := reads (by rw [← hE])
                      have enid : h0.length + (N i).length - h0.length = (N i).length := by omega
                      rw [enid] at hca
                      have HP := (H1.pad (N i).length).here
                      rw [List.length_append, List.length_replicate] at HP
                      obtain ⟨s', n', w', e1, hle1, H', e2⟩ := aOp_ok P hrec.2.2.1 w (h0.length + (N i).length) s0 _ w _ (a.eval ·) o1 _ HP (fun y hy => (hρ y hy).blw hbel (List.all_eq_true.1 hblw y (by simpa using hy))) hca (quietB_ok hq3)
                      simp only at H' e2
                      unfold Oper.wp
                      rw [e1]
                      cases n' <;> simp only [NR] at e2
                      rename_i v'
                      have hvr := e2
                      have hb : (E i).b = h1.drop (h0.length + (N i).length) := by rw [← hE]
                      have hst : (E i).st = none := by rw [← hE]
                      have hv0 : (E i).v = v := by rw [← hE]
                      rw [← hb] at hrv hro
                      have hfit : h0.length + (N i).length + (E i).b.length ≤ h.length := by rw [MM.hl]; have := N_fit S hi; omega
                      have hlive : ∀ x, liveB h0 x = true → x < h0.length ∧ ∃ p, s0 x = some p := by
                        intro x hx
                        unfold liveB at hx
                        split at hx
                        · rename_i o ho
                          obtain ⟨p, hp, _⟩ := H1.obj x o ho hx
                          exact ⟨(List.getElem?_eq_some_iff.1 ho).1, p, hp⟩
                        · cases hx
                      obtain ⟨H2, hle2, hok⟩ := H.layNew (q := h0.length + (N i).length) (bs := (E i).b) hfit (by omega) (fun x hx1 hx2 => by
                          have hy : x - (h0.length + (N i).length) < (E i).b.length := by omega
                          have := (MM.h3 i (x - (h0.length + (N i).length)) _ hi (List.getElem?_eq_getElem hy) hnd).2
                          rwa [show h0.length + (N i).length + (x - (h0.length + (N i).length)) = x by omega] at this)
                        H' (fun x o ho => by rw [hb, List.getElem?_drop] at ho; exact ho) (old := liveB h0) (fun x hx => by have := (hlive x hx).1; omega)
                        (fun x hx => by
                          obtain ⟨hx1, p, hp⟩ := hlive x hx
                          rw [hbel x hx1, hp]
                          exact hle1 x p hp) hro
                      refine hK _ _ ⟨_, putA t o1.dst (E i).v, _, hle.trans hle2, fun j hj => ?_, put_ok (ht.mono hle2) o1.dst ?_, by cases hq : o1.dst <;> simp [Act.put, hdf], H2, fun hh => (H0 (hno hh)).grow H'.grown.gr, ?_, ?_⟩
                      · rw [if_neg (by omega)]; exact hbel j hj
                      · rw [hv0]; exact hvr.refs hok 6 hrv
                      · rw [hmask]; exact mt_next hd M hi ho
                      · rw [hmask]
                        exact mh_new S MM hi hst _ fun q hq => if_neg hq
                    · cases hs
                  · cases hs
                · cases hs
    · cases hs
  · rename_i hwt
    rw [if_neg hwt]
    have hE := inj _ hs
    exact still _ _ (by rw [← hE]) (by rw [← hE]) (by rw [← hE]; exact .same rfl) (Gr.refl w)

/-- How many of the head's operations are not done. -/
def left (n : Nat) (listed : Array Bool) : Nat := ((List.range n).filter fun i => !listed.getD i false).length
theorem left_zero {n : Nat} {listed : Array Bool} (h : left n listed = 0) {i : Nat} (hi : i < n) : listed.getD i false = true := by
  unfold left at h
  have h1 := List.length_eq_zero_iff.1 h
  cases hq : listed.getD i false with
  | true => rfl
  | false =>
    have : i ∈ (List.range n).filter fun i => !listed.getD i false := List.mem_filter.2 ⟨List.mem_range.2 hi, by simp only [hq]; rfl⟩
    rw [h1] at this
    cases this
theorem filter_drop_one {p q : Nat → Bool} : ∀ (l : List Nat) (i : Nat), l.Nodup → i ∈ l → p i = true → q i = false → (∀ j, j ≠ i → q j = p j) → (l.filter q).length + 1 = (l.filter p).length
  | [], i, _, hi, _, _, _ => by cases hi
  | x :: l, i, hn, hi, hp, hq, he => by
    rw [List.nodup_cons] at hn
    by_cases e : x = i
    · subst e
      have : l.filter q = l.filter p := List.filter_congr fun j hj => he j fun e => hn.1 (e ▸ hj)
      simp [hp, hq, this]
    · have hi' : i ∈ l := by
        rcases List.mem_cons.1 hi with h | h
        · exact absurd h.symm e
        · exact h
      have ih := filter_drop_one l i hn.2 hi' hp hq he
      rw [List.filter_cons, List.filter_cons, he x e]
      split
      · simp; omega
      · exact ih
theorem left_next {n : Nat} {listed : Array Bool} {i : Nat} (hi : i < n) (hs : i < listed.size) (hu : listed.getD i false = false) : left n (listed.setIfInBounds i true) + 1 = left n listed := by
  unfold left
  refine filter_drop_one (List.range n) i List.nodup_range (List.mem_range.2 hi) (by rw [hu]; rfl) ?_ fun j hj => ?_
  · have h7 : (listed.setIfInBounds i true).getD i false = (listed.getD i false || i == i) := congrFun (mask_next hs) i
    rw [h7]
    simp
  · rw [getD_set_ne false (Ne.symm hj)]

theorem readyB_spec {listed : Array Bool} {i : Nat} (h : readyB ops listed i = true) : i ∈ Region.ready .any ops listed := by
  unfold readyB at h
  split at h
  · rename_i o ho
    simp only [Bool.and_eq_true, Bool.not_eq_true'] at h
    refine mem_ready.2 ⟨h.1, o, ho, fun e he hb => ?_⟩
    have := List.all_eq_true.1 h.2 e (by simpa using he)
    simpa [hb] using this
  · cases h
theorem tail_waitsL {base listed : Array Bool} (hs : sinkL ops n base = true) (hb : ∀ i, base.getD i false = true → listed.getD i false = true) (hc : ∀ t, n < t → t < ops.size → ∃ j, n ≤ j ∧ j < ops.size ∧ Region.waitsFor .any ops t j = true) (hn : n < ops.size) (inv : HeadInv .any ops n listed) :
    ∀ (d i : Nat), n - i = d → i < n → listed.getD i true = false → ∀ t, n ≤ t → t ∉ Region.ready .any ops listed := by
  intro d
  induction d using Nat.strongRecOn with
  | _ d ih =>
    intro i hd hi hun t ht hr
    obtain ⟨_, ot, hot, hall⟩ := mem_ready.1 hr
    have htlt : t < ops.size := (Array.getElem?_eq_some_iff.1 hot).1
    by_cases htn : t = n
    · subst htn
      have h1 := List.all_eq_true.1 hs i (List.mem_range.2 hi)
      simp only [Bool.or_eq_true] at h1
      rcases h1 with h1 | h1
      · have := hb i h1
        rw [getD_both hun] at this
        cases this
      obtain ⟨j, hj, hj2⟩ := List.any_eq_true.1 h1
      simp only [Bool.and_eq_true, decide_eq_true_eq] at hj2
      obtain ⟨oj, hoj, e, he, hb', hon⟩ := Region.waitsFor_spec hj2.2
      have hjle : j ≤ t := by have := List.mem_range.1 hj; omega
      by_cases hjt : j = t
      · subst hjt
        have : oj = ot := Option.some.inj (hoj.symm.trans hot)
        subst this
        have h2 := hall e he hb'
        rw [hon, getD_both hun] at h2
        cases h2
      · cases hl : listed.getD j false with
        | true =>
          have h2 := inv.closed j oj hoj hl e he hb'
          rw [hon, getD_both hun] at h2
          cases h2
        | false =>
          have hjs : j < listed.size := by rw [inv.size]; omega
          exact ih (t - j) (by omega) j rfl (by omega) (getD_in hjs hl) t (Nat.le_refl _) hr
    · obtain ⟨j, hj1, hj2, h1⟩ := hc t (by omega) htlt
      obtain ⟨o', ho', e, he, hb', hon⟩ := Region.waitsFor_spec h1
      have : o' = ot := Option.some.inj (ho'.symm.trans hot)
      subst this
      have h2 := hall e he hb'
      rw [hon, getD_both (inv.tail j hj1 hj2)] at h2
      cases h2
theorem chain_back (hc : Region.chainB .any ops n = true) : ∀ t, n < t → t < ops.size → ∃ j, n ≤ j ∧ j < ops.size ∧ Region.waitsFor .any ops t j = true := by
  intro t ht hlt
  have h1 := List.all_eq_true.1 hc t (List.mem_range.2 hlt)
  simp only [Bool.or_eq_true, decide_eq_true_eq] at h1
  rcases h1 with h1 | h1
  · omega
  · exact ⟨t - 1, by omega, by omega, h1⟩
theorem prep_ok (hng : NoNG P) (hacc : rec.acc = accP) (S : HeadSpec P rec ops h0 ops.toList 0 n t0 [] t' l' es T E N) (hd : depsB ops n = true) (hsel : Region.noSelect ops = true) {k : Nat} (hcs : Bnd k (headM es)) {wb : Wb} {s0 : Ren} {Q : Exit → Act → World → Prop} (hQp : ∀ c a w, ¬ Q (.panic c) a w) {g : Nat} {w : World} :
    ∀ (l : List Nat) (listed : Array Bool) (a : Act), (∀ i ∈ l, i < n) → HeadInv .any ops n listed → Mid ops n t0 h0 E N wb k s0 listed a w →
    (∀ a', HeadInv .any ops n (prepL ops es l listed) → Mid ops n t0 h0 E N wb k s0 (prepL ops es l listed) a' w → wpAny P .any ops Q (left n (prepL ops es l listed) + g) (prepL ops es l listed) a' w) →
    wpAny P .any ops Q (left n listed + g) listed a w
  | [], listed, a, _, inv, J, h => h a inv J
  | i :: is, listed, a, hl, inv, J, h => by
    simp only [prepL] at h
    split at h
    · rename_i hc
      simp only [Bool.and_eq_true] at hc
      obtain ⟨⟨hp, hrd⟩, hfr⟩ := hc
      have hi : i < n := hl i (by simp)
      have hr := readyB_spec hrd
      have hp' : pureE (E i) = true := by
        unfold pureAt at hp
        rw [eff_at S hi] at hp
        exact hp
      obtain ⟨o, v, ho, hy, J'⟩ := mid_pure hng hacc S hd inv J hr hi hp' (headM_bnd hcs i _ (eff_at S hi)).2
      have hisz : i < listed.size := by rw [inv.size]; exact (Array.getElem?_eq_some_iff.1 ho).1
      have hln := left_next hi hisz (getD_both (mem_ready.1 hr).1)
      rw [show left n listed + g = (left n (listed.setIfInBounds i true) + g) + 1 by omega]
      refine wpAny_take ho hsel hfr (by simpa using hr) (fun c a w h => absurd h (hQp c _ w)) hy ?_
      exact prep_ok hng hacc S hd hsel hcs hQp is _ _ (fun j hj => hl j (by simp [hj])) (inv.set hr hi) J' h
    · exact prep_ok hng hacc S hd hsel hcs hQp is listed a (fun j hj => hl j (by simp [hj])) inv J h
theorem head_any (S : HeadSpec P rec ops h0 ops.toList 0 n t0 [] t' l' es T E N) (hd : depsB ops n = true) (hrec : RecOk P rec) (hmem : memB ops n es = true) {k : Nat} (hcs : Bnd k (headM es)) (hnl : n ≤ ops.size) {base : Array Bool} (hs : n < ops.size → sinkL ops n base = true ∧ ∀ t, n < t → t < ops.size → ∃ j, n ≤ j ∧ j < ops.size ∧ Region.waitsFor .any ops t j = true)
    {wb : Wb} {s0 : Ren} (hk : k ≤ h0.length) {Q : Exit → Act → World → Prop} {g : Nat}
    (hend : ∀ listed a w, HeadInv .any ops n listed → (∀ i, i < n → listed.getD i false = true) → Mid ops n t0 h0 E N wb k s0 listed a w → wpAny P .any ops Q g listed a w) :
    ∀ (f : Nat) (listed : Array Bool) (a : Act) (w : World), HeadInv .any ops n listed → (∀ i, base.getD i false = true → listed.getD i false = true) → left n listed = f → Mid ops n t0 h0 E N wb k s0 listed a w → wpAny P .any ops Q (f + g) listed a w
  | 0, listed, a, w, inv, _, hl, J => by rw [Nat.zero_add]; exact hend listed a w inv (fun i hi => left_zero hl hi) J
  | f + 1, listed, a, w, inv, hbs, hl, J => by
    -- one that is not done, the first of them
    have hex : ∃ i, i < n ∧ listed.getD i false = false := by
      rcases Classical.em (∃ i, i < n ∧ listed.getD i false = false) with h | h
      · exact h
      · have : (List.range n).filter (fun i => !listed.getD i false) = [] := List.filter_eq_nil_iff.2 fun i hi => by
          have hi' := List.mem_range.1 hi
          cases hq : listed.getD i false with
          | true => simp
          | false => exact absurd ⟨i, hi', hq⟩ h
        unfold left at hl
        rw [this] at hl
        cases hl
    have hfirst : ∃ i, i < n ∧ listed.getD i false = false ∧ ∀ j, j < i → listed.getD j false = true := by
      obtain ⟨i, hi, hu⟩ := hex
      induction i using Nat.strongRecOn with
      | _ i ih =>
        rcases Classical.em (∃ j, j < i ∧ listed.getD j false = false) with ⟨j, hj, hju⟩ | h
        · exact ih j hj (by omega) hju
        · refine ⟨i, hi, hu, fun j hj => ?_⟩
          cases hq : listed.getD j false with
          | true => rfl
          | false => exact absurd ⟨j, hj, hq⟩ h
    obtain ⟨i, hi, hu, hbel⟩ := hfirst
    have hisz : i < listed.size := by rw [inv.size]; omega
    obtain ⟨o, ho, _, _⟩ := op_at S hi
    have hri : i ∈ Region.ready .any ops listed := mem_ready.2 ⟨getD_in hisz hu, o, ho, fun e he hb => hbel _ ((depsB_spec hd hi ho).1 e he hb)⟩
    rw [show f + 1 + g = (f + g) + 1 by omega]
    refine ⟨fun h0 => (by rw [h0] at hri; cases hri), fun j hj => ?_⟩
    have hjn : j < n := by
      rcases Nat.lt_or_ge j n with h | h
      · exact h
      · obtain ⟨_, oj, hoj, _⟩ := mem_ready.1 hj
        have hjs := (Array.getElem?_eq_some_iff.1 hoj).1
        obtain ⟨h1, h2⟩ := hs (by omega)
        exact absurd hj (tail_waitsL h1 hbs h2 (by omega) inv _ i rfl hi (getD_in hisz hu) j h)
    have hju := getD_both (mem_ready.1 hj).1
    have hjs : j < listed.size := by rw [inv.size]; omega
    refine mid_op S hd hrec hmem hcs hk inv J hj hjn fun a' w' J' => ?_
    refine head_any S hd hrec hmem hcs hnl hs hk hend f _ a' w' (inv.set hj hjn) (fun m hm => ?_) ?_ J'
    · have h8 := congrFun (mask_next (listed := listed) hjs) m
      rw [hbs m hm] at h8
      simpa using h8
    have := left_next hjn hjs hju
    omega
/-- The text's own order leaves what every order leaves. -/
theorem lexHeap_ok (S : HeadSpec P rec ops h0 ops.toList 0 n t0 [] t' l' es T E N) (hmem : memB ops n es = true) {s : Ren} {h' : List AO} : ∀ (f i : Nat) (h : List AO), f + i = n → MH n h0 E N (fun j => decide (j < i)) h (fun j => if j < h0.length then s j else none) →
    lexHeap h0.length (es.drop i) (h0.length + (N i).length) h = some h' → MH n h0 E N (fun _ => true) h' (fun j => if j < h0.length then s j else none)
  | 0, i, h, hi, M, hr => by
    obtain rfl : i = n := by omega
    have hlen : es.length = i := by have := S.len; omega
    rw [List.drop_eq_nil_of_le (by omega)] at hr
    simp only [lexHeap, Option.some.injEq] at hr
    subst hr
    refine ⟨M.hl, fun x o hx => ?_, fun j y cs hj hb _ => M.h2 j y cs hj hb (by simpa using hj), fun j y cs hj hb hf => by cases hf⟩
    obtain ⟨o', g1, g2, g3, g4, g5, g6⟩ := M.h1 x o hx
    exact ⟨o', g1, g2, g3, g4, fun j a vs y hj hst _ => g5 j a vs y hj hst (by simpa using hj), fun z hz => g6 z fun j a vs hj hst _ => hz j a vs hj hst rfl⟩
  | f + 1, i, h, hi, M, hr => by
    have hin : i < n := by omega
    have hEi := eff_at S hin
    have hlt : i < es.length := (List.getElem?_eq_some_iff.1 hEi).1
    rw [List.drop_eq_getElem_cons hlt, (List.getElem?_eq_some_iff.1 hEi).2] at hr
    simp only [lexHeap] at hr
    obtain ⟨o, _, _, _, hN⟩ := S.step i (by omega) hin
    have hmask : (fun j => decide (j < i + 1)) = fun j => decide (j < i) || j == i := by
      funext j
      by_cases e : j = i
      · subst e; simp
      · have : (j == i) = false := by simpa using e
        rw [this, Bool.or_false]
        exact decide_eq_decide.2 (by omega)
    split at hr
    · rename_i hb hst
      refine lexHeap_ok S hmem f (i + 1) h (by omega) ?_ (by rw [hN, hb]; simpa [addNew] using hr)
      rw [hmask]
      exact mh_still M hst hb
    · rename_i b bs hb hst
      refine lexHeap_ok S hmem f (i + 1) _ (by omega) ?_ (by rw [hN, hb]; simpa only [addNew, List.length_append, Nat.add_assoc] using hr)
      rw [hmask]
      have := mh_new S M hin hst (fun j => if j < h0.length then s j else none) fun _ _ => rfl
      rw [hb] at this
      exact this
    · rename_i a vs hb hst
      split at hr
      · rename_i hbl
        split at hr
        · rename_i h1 hs1
          refine lexHeap_ok S hmem f (i + 1) h1 (by omega) ?_ (by rw [hN, hb]; simpa [addNew] using hr)
          rw [hmask]
          have ho0 : h0[a.block]? = some h0[a.block] := List.getElem?_eq_getElem hbl
          obtain ⟨o2, ho2, q1, q2, q3, _, _⟩ := M.h1 _ _ ho0
          refine mh_store S hmem M hin hb hst ho0 ?_ hs1
          unfold astore at hs1
          rw [ho2] at hs1
          simp only at hs1
          split at hs1
          · rename_i hc
            simp at hc
            omega
          · cases hs1
        · cases hr
      · cases hr
    · cases hr

theorem drawA_any (P : Program) {rec : Rec} (hrec : RecOk P rec) {ops : Array Oper} {x x' : St} (hr : drawA P rec ops x = some x') {wb : Wb} {k : Nat} {s : Ren} {a : Act} {w : World} (hm : Bnd k x'.m) (HS : SR wb k s x a w) :
    P.follows .mixedOrders = true ∧ wpAny P .any ops (Post wb k s x' .normal) ops.size (Array.replicate ops.size false) a w.drew := by
  unfold drawA at hr
  cases hh : headRun P rec ops x.h ops.toList 0 x.t [] with
  | mk n tl =>
    obtain ⟨t, l, es⟩ := tl
    rw [hh] at hr
    simp only at hr
    split at hr
    · rename_i hc
      split at hr
      rotate_left
      · cases hr
      rename_i hN hlex
      simp only [Bool.and_eq_true, decide_eq_true_eq] at hc
      obtain ⟨⟨⟨⟨⟨hmix, hsel⟩, hnl⟩, hdp⟩, hmem⟩, htl⟩ := hc
      obtain ⟨T, E, N, S⟩ := headRun_spec hrec.2.2.2 _ _ _ _ _ _ _ _ hh
      have hcs : Bnd k (headM es) := (bnd_low (seqA_low hr hm)).2
      refine ⟨hmix, ?_⟩
      have H0 : HR wb k s x.h w.drew := HS.h.drew
      have hlf : MH n x.h E N (fun _ => true) hN (fun j => if j < x.h.length then s j else none) := by
        refine lexHeap_ok S hmem n 0 _ (by omega) ?_ (by simpa [S.l0] using hlex)
        rw [show (fun j => decide (j < 0)) = fun _ => false by funext j; simp, ← S.ln]
        exact mh_start S fun i hi => if_neg (by omega)
      have J : Mid ops n x.t x.h E N wb k s (Array.replicate ops.size false) a w.drew := by
        have e : (fun i => (Array.replicate ops.size false).getD i false) = fun _ => false := by funext i; exact getD_replicate_false _ _
        refine ⟨s, x.t, _, Le.refl s, fun _ _ => rfl, HS.t, HS.d, H0.pad (N n).length, fun _ => H0, ?_, ?_⟩
        · rw [e]; exact mt_start
        · rw [e]; exact mh_start S H0.dom
      have inv : HeadInv .any ops n (Array.replicate ops.size false) :=
        ⟨by simp, fun j _ _ hl => (by rw [getD_replicate_false] at hl; cases hl), fun t _ h2 => getD_in (by simpa using h2) (getD_replicate_false _ _)⟩
      have hleft : left n (Array.replicate ops.size false) = n := by
        unfold left
        rw [List.filter_eq_self.2 fun i _ => by rw [getD_replicate_false]; rfl]
        simp
      have hsc : n < ops.size → sinkL ops n (baseOf ops n es) = true ∧ ∀ t, n < t → t < ops.size → ∃ j, n ≤ j ∧ j < ops.size ∧ Region.waitsFor .any ops t j = true := by
        intro hlt
        unfold tailL at htl
        simp only [Bool.or_eq_true, beq_iff_eq, Bool.and_eq_true, decide_eq_true_eq] at htl
        rcases htl with h | h
        · omega
        · exact ⟨h.1.1.2, chain_back h.1.2⟩
      have A := head_any S hdp hrec hmem hcs hnl hsc (wb := wb) (s0 := s) HS.h.kle (Q := Post wb k s x' .normal) (g := ops.size - n) (fun listed a' w' inv' hall J' => ?_)
      · have e2 : left n (Array.replicate ops.size false) + (ops.size - n) = ops.size := by omega
        have fin : wpAny P .any ops (Post wb k s x' .normal) (left n (Array.replicate ops.size false) + (ops.size - n)) (Array.replicate ops.size false) a w.drew := by
          by_cases hb0 : (n == ops.size || Region.sinkB .any ops n) = true
          · have e : baseOf ops n es = Array.replicate ops.size false := by unfold baseOf; rw [if_pos hb0]
            rw [e] at A
            exact A _ _ a w.drew inv (fun i hi => hi) rfl J
          · have e : baseOf ops n es = prepL ops es (List.range n) (Array.replicate ops.size false) := by unfold baseOf; rw [if_neg hb0]
            rw [e] at A
            exact prep_ok hrec.2.2.1 hrec.2.2.2 S hdp hsel hcs (Q := Post wb k s x' .normal) (fun c a w h => by cases h.1) (List.range n) _ a (fun i hi => List.mem_range.1 hi) inv J fun a' inv' J' => A _ _ a' w.drew inv' (fun i hi => hi) rfl J'
        rwa [e2] at fin
      · obtain ⟨s', t2, h2, hle, _, ht, hdf, H, _, M, MM⟩ := J'
        obtain rfl := mt_full S hdp M hall
        obtain rfl := mh_same S MM hlf hall fun _ _ => rfl
        have hQ : ∀ s'' a'' w'', Le s' s'' → SR wb k s'' x' a'' w'' → Post wb k s x' .normal .normal a'' w'' := fun s'' a'' w'' hle' hsr => ⟨rfl, s'', hle.trans hle', hsr⟩
        have hL := seqA_ok (aOp_ok P hrec.2.2.1) hrec hr hm (wb := wb) (k := k) (s := s') (a := a') (w := w') ⟨ht, hdf, H⟩ (Q := Post wb k s x' .normal) hQ
        have hlen : (ops.toList.drop n).length = ops.size - n := by simp
        have hmask : listed = lexMask ops n := by
          apply Array.ext_getElem?
          intro i
          have e0 : (lexMask ops n)[i]? = (List.replicate n true ++ List.replicate (ops.size - n) false)[i]? := by
            unfold lexMask
            simp
          rw [e0]
          rcases Nat.lt_or_ge i n with hi | hi
          · have := hall i hi
            have hisz : i < listed.size := by rw [inv'.size]; omega
            rw [List.getElem?_append_left (by simpa using hi), List.getElem?_replicate, if_pos hi]
            rw [Array.getElem?_eq_getElem hisz]
            simpa [hisz] using this
          · rw [List.getElem?_append_right (by simpa using hi), List.getElem?_replicate]
            simp only [List.length_replicate]
            by_cases hlt : i < ops.size
            · have := inv'.tail i hi hlt
              have hisz : i < listed.size := by rw [inv'.size]; omega
              rw [if_pos (by omega), Array.getElem?_eq_getElem hisz]
              simpa [hisz] using this
            · rw [if_neg (by omega), Array.getElem?_eq_none (by rw [inv'.size]; omega)]
        have hseq : Region.seqB .any ops (ops.size - n) n listed = true := by
          unfold tailL at htl
          simp only [Bool.or_eq_true, beq_iff_eq, Bool.and_eq_true, decide_eq_true_eq] at htl
          rcases htl with h | h
          · rw [h, Nat.sub_self]
            simp only [Region.seqB, List.isEmpty_iff]
            refine List.filter_eq_nil_iff.2 fun i hi => ?_
            have hi' := List.mem_range.1 hi
            have := hall i (by omega)
            have hisz : i < listed.size := by rw [inv'.size]; omega
            have e : listed.getD i true = true := by
              simp [hisz] at this ⊢
              exact this
            simp [e]
          · rw [hmask]; exact h.2
        have := wpAny_of_seq (md := .any) (Q' := Post wb k s x' .normal) (ops.toList.drop n) n listed a' w' (fun j => by simp [List.getElem?_drop]) (by rw [hlen]; exact hseq) hL
        rwa [hlen] at this
    · cases hr

end
theorem drawA_ok (P : Program) : DrawOk P (drawA P) := by
  intro rec hrec ops x x' hr wb k s id a w hm HS
  obtain ⟨h1, h2⟩ := drawA_any P hrec hr hm HS
  exact wp_region_any h1 h2
end Go.Proofs.Ytafegjmaldbbiaa.Ex
