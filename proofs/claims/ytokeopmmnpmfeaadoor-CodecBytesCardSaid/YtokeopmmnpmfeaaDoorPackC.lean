/-
  Lemmas for the laws of this seat, part C: Ex12, Ex13, Ex14, Plain, Flat, NoNG, Law12a, Memo, NumsMath, Cd1, SlHook, Reg, CellsAt, PostGr, Dk1, Nums, Dk2, ExI, Dk0, Dk3, Dk3b, Dk5, Dk6, NumsMath2, Ex15, Ex16, Ex18.
-/
import Derived.Test.YtokeopmmnpmfeaaDoorPackB
import Derived.ProofKit
import Derived.WalkKit
import Derived.OpenShut
import Derived.ShutString
import Derived.Test.YtokeopmmnpmfeaaDoorProg
import Derived.Test.YtokeopmmnpmfeaaDoorRows
import Derived.MakeChecks
import Derived.Deep.Fields
import Derived.ChangeSame
import Derived.Handy
import Derived.BigQuiet
import Derived.Lib.SlBytesRow
import Derived.StillTail
import Derived.Deep.Quiet
section
namespace Go.Proofs.YtokeopmmnpmfeaaDoor.Ex
set_option maxRecDepth 20000

open Go Go.RowKit

def lexMask (ops : Array Oper) (n : Nat) : Array Bool := ⟨List.replicate n true ++ List.replicate (ops.size - n) false⟩
/-- What memory is behind the head, in the text's order. -/
def lexHeap (k : Nat) : List HE → Nat → List AO → Option (List AO)
  | [], _, h => some h
  | e :: es, q, h =>
    match e.b, e.st with
    | [], none => lexHeap k es q h
    | b :: bs, none => lexHeap k es (q + (b :: bs).length) (layL h q (b :: bs))
    | [], some (a, vs) =>
      if a.block < k then
        match astore h a vs with
        | some h' => lexHeap k es q h'
        | none => none
      else none
    | _ :: _, some _ => none
/-- What the head marks. -/
def headM : List HE → Mk
  | [] => (none, [])
  | e :: es => low (e.st.map (·.1.block), e.d) (headM es)
theorem headM_bnd {k : Nat} : ∀ {es : List HE}, Bnd k (headM es) → ∀ (i : Nat) (e : HE), es[i]? = some e → (∀ a vs, e.st = some (a, vs) → k ≤ a.block) ∧ ∀ c ∈ e.d, c.1 = c.2
  | [], _, i, e, he => by simp at he
  | f :: es, h, i, e, he => by
    obtain ⟨h1, h2⟩ := bnd_low h
    cases i with
    | zero =>
      simp at he
      subst he
      exact ⟨fun a vs hs => h1.1 _ (by simp [hs]), h1.2⟩
    | succ i => exact headM_bnd h2 i e (by simpa using he)
/-- What only reckons, and lays nothing. -/
def pureE (e : HE) : Bool :=
  match e.b, e.st, e.rd with
  | [], none, .none => true
  | _, _, _ => false
def pureAt (es : List HE) (i : Nat) : Bool :=
  match es[i]? with
  | some e => pureE e
  | none => false
def readyB (ops : Array Oper) (listed : Array Bool) (i : Nat) : Bool :=
  match ops[i]? with
  | some o => !listed.getD i true && o.after.toList.all fun e => !Region.binds .any e || listed.getD e.on false
  | none => false
/-- Operations that only reckon may be taken ahead. -/
def prepL (ops : Array Oper) (es : List HE) : List Nat → Array Bool → Array Bool
  | [], listed => listed
  | i :: is, listed =>
    if pureAt es i && readyB ops listed i && Region.free .any ops listed i then prepL ops es is (listed.setIfInBounds i true)
    else prepL ops es is listed
def sinkL (ops : Array Oper) (n : Nat) (base : Array Bool) : Bool :=
  (List.range n).all fun i => base.getD i false || (List.range (n + 1)).any fun j => decide (i < j) && Region.waitsFor .any ops j i
def baseOf (ops : Array Oper) (n : Nat) (es : List HE) : Array Bool :=
  if n == ops.size || Region.sinkB .any ops n then Array.replicate ops.size false else prepL ops es (List.range n) (Array.replicate ops.size false)
/-- What stands behind the head is forced. -/
def tailL (ops : Array Oper) (n : Nat) (base : Array Bool) : Bool :=
  n == ops.size || (decide (n < ops.size) && sinkL ops n base && Region.chainB .any ops n && Region.seqB .any ops (ops.size - n) n (lexMask ops n))
def drawA (P : Program) : DrawFn := fun rec ops x =>
  match headRun P rec ops x.h ops.toList 0 x.t [] with
  | (n, t, l, es) =>
    if P.follows .mixedOrders && Region.noSelect ops && decide (n ≤ ops.size) && depsB ops n && memB ops n es && tailL ops n (baseOf ops n es) then
      match lexHeap x.h.length es x.h.length (x.h ++ List.replicate l.length dead) with
      | some h => seqA P (aOp P) rec ops (ops.toList.drop n) ⟨t, h, low x.m (headM es)⟩
      | none => none
    else none
theorem drawA_low (P : Program) : DrawLow (drawA P) := by
  intro rec ops x x' hr k hm
  unfold drawA at hr
  split at hr
  split at hr
  · split at hr
    · exact (bnd_low (seqA_low hr hm)).1
    · cases hr
  · cases hr

section
variable {P : Program} {rec : Rec} {ops : Array Oper} {n : Nat} {t0 t' : List Value} {h0 l' : List AO} {es : List HE} {T : Nat → List Value} {E : Nat → HE} {N : Nat → List AO}

theorem aload_same {h h0 : List AO} {a : Addr} {m : Nat} {o o' : AO} (h1 : h0[a.block]? = some o) (h2 : h[a.block]? = some o') (hl : o'.live = o.live) (he : o'.es = o.es) (hn : o'.cs.length = o.cs.length)
    (hc : ∀ z, a.off ≤ z → z < a.off + m → o'.cs[z]? = o.cs[z]?) : aload h a m = aload h0 a m := by
  unfold aload
  rw [h1, h2]
  have hm : isM o' = isM o := by unfold isM; rw [he]
  simp only [hl, hn, hm]
  split
  · congr 1
    refine List.ext_getElem? fun x => ?_
    rw [List.getElem?_take, List.getElem?_take]
    split
    · rw [List.getElem?_drop, List.getElem?_drop]
      exact hc _ (by omega) (by omega)
    · rfl
  · rfl
theorem oLoad_same {h h0 : List AO} {t : TypeId} {x v : Value} {r : List AO × Option Nat} (hr : oLoad P t x h0 = some (.value v, r)) (ha : ∀ a m, loadH P t x = some (a, m) → aload h a m = aload h0 a m) : oLoad P t x h = some (.value v, h, none) := by
  cases hd : P.underlying t with
  | none => cases x <;> simp [oLoad, hd] at hr
  | some d =>
    cases hi : P.info? t with
    | none => cases x <;> simp [oLoad, hd, hi] at hr
    | some i =>
      cases x with
      | pointer p =>
        cases p with
        | none => simp [oLoad] at hr
        | some a =>
          have h1 := ha a (if aggD d then i.size else 1) (by simp [loadH, hd, hi])
          simp only [oLoad, hd, hi] at hr ⊢
          by_cases hg : aggD d = true
          · simp only [hg, if_true] at hr h1 ⊢
            rw [h1]
            cases hl : aload h0 a i.size with
            | none => rw [hl] at hr; cases hr
            | some vs => rw [hl] at hr; cases hr; rfl
          · simp only [hg] at hr h1 ⊢
            simp only [Bool.false_eq_true, if_false] at hr h1 ⊢
            rw [h1]
            cases hl : aload h0 a 1 with
            | none => rw [hl] at hr; cases hr
            | some vs =>
              rw [hl] at hr
              cases vs with
              | nil => cases hr
              | cons u vs => cases hr; rfl
      | _ => simp [oLoad] at hr
theorem execOp_store {ρ : Operand → Value} {o : Oper} {t : TypeId} {x y : Operand} (h : o.op = .store t x y) : execOp ρ o = aunit (Instr.storeAt t (ρ x) (ρ y)) := by
  obtain ⟨dst, op, type, pos, after, guard⟩ := o
  simp only at h
  subst h
  rfl
/-- A store of the head: what it must find. -/
theorem storeH_spec {t : TypeId} {x y : Value} {a : Addr} {vs : List Value} (h : storeH P t x y h0 = some (a, vs)) :
    x = .pointer (some a) ∧ vs = y.cells.toList ∧ (∃ i, P.info? t = some i ∧ vs.length = i.size) ∧ vs.all (·.oneCell') = true ∧ ∃ o, h0[a.block]? = some o ∧ o.live = true ∧ isW o = true ∧ a.off + vs.length ≤ o.cs.length := by
  unfold storeH at h
  split at h
  · rename_i b i hi
    split at h
    · rename_i hc
      simp only [Bool.and_eq_true, beq_iff_eq] at hc
      split at h
      · rename_i o ho
        split at h
        · rename_i hl
          simp only [Bool.and_eq_true, decide_eq_true_eq] at hl
          simp only [Option.some.injEq, Prod.mk.injEq] at h
          obtain ⟨rfl, rfl⟩ := h
          exact ⟨rfl, rfl, ⟨i, hi, hc.1⟩, hc.2, o, ho, hl.1.1, hl.1.2, hl.2⟩
        · cases h
      · cases h
    · cases h
  · cases h
theorem isW_es {o o' : AO} (h : o'.es = o.es) : isW o' = isW o := by unfold isW; rw [h]
theorem astore_some {h : List AO} {a : Addr} {vs : List Value} {o : AO} (ho : h[a.block]? = some o) (hl : o.live = true) (hw : isW o = true) (hf : a.off + vs.length ≤ o.cs.length) : ∃ h', astore h a vs = some h' := by
  unfold astore
  rw [ho]
  simp [hl, hw, hf]
theorem store_run {wb : Wb} {k : Nat} {s : Ren} {h h' : List AO} {w : World} (H : HR wb k s h w) {t : TypeId} {a : Addr} {x' y y' : Value} (hx : VR s (.pointer (some a)) x') (hy : VR s y y') {i : TypeInfo} (hi : P.info? t = some i)
    (hl : y.cells.toList.length = i.size) (ho : y.cells.toList.all (·.oneCell') = true) (hst : astore h a y.cells.toList = some h') (hk : k ≤ a.block) :
    ∃ w', (aunit (Instr.storeAt t x' y')).run P w = .ok .skip w' ∧ HR wb k s h' w' := by
  obtain ⟨p, hs, hp, rfl⟩ := hx.ptr_inv
  obtain ⟨h1, h2, H'⟩ := astore_spec H hst hk hp hy.cells
  have hone : ∀ v ∈ y'.cells.toList, v.oneCell' = true := by
    intro v hv
    obtain ⟨j, hj⟩ := List.getElem?_of_mem hv
    obtain ⟨u, hu, huv⟩ := hy.cells.get' hj
    exact huv.one (all_get ho hu)
  have h3 := run_storeCells_cells (P := P) p.blk (p.off + a.off) y'.cells.toList 0 w (by simpa using h1) (by simpa using h2) hone
  have hsz : y'.cells.size = i.size := by rw [← hl, hy.cells.1]; simp
  exact ⟨_, by simp [aunit, Instr.storeAt, Instr.sureAddr, storeVar, run_size hi, hsz, h3], H'⟩

/-- The state when some of the head's operations are done. -/
def Mid (ops : Array Oper) (n : Nat) (t0 : List Value) (h0 : List AO) (E : Nat → HE) (N : Nat → List AO) (wb : Wb) (k : Nat) (s0 : Ren) (listed : Array Bool) (a : Act) (w : World) : Prop :=
  ∃ s t h, Le s0 s ∧ (∀ i, i < h0.length → s i = s0 i) ∧ LR s t a.tmps.toList ∧ a.defers = [] ∧ HR wb k s h w ∧ ((∀ j, j < n → (E j).st ≠ none → listed.getD j false = false) → HR wb k s0 h0 w) ∧
    MT ops n t0 E (fun i => listed.getD i false) t ∧ MH n h0 E N (fun i => listed.getD i false) h s

theorem glob_same {s : Ren} {h : List AO} {done : Nat → Bool} (hg : GlOk s h) (h1 : ∀ (x : Nat) (o : AO), h0[x]? = some o → ∃ o', h[x]? = some o' ∧ BlkAt n E done x o o') : GlOk s h0 := by
  intro g hgg
  refine hg g ?_
  unfold isG at hgg ⊢
  cases ho : h0[g]? with
  | none => rw [ho] at hgg; cases hgg
  | some o =>
    rw [ho] at hgg
    obtain ⟨o', e1, e2, e3, _⟩ := h1 g o ho
    rw [e1]
    simp only at hgg ⊢
    rw [e2, e3]
    exact hgg
theorem mask_next {listed : Array Bool} {i : Nat} (hi : i < listed.size) : (fun j => (listed.setIfInBounds i true).getD j false) = fun j => listed.getD j false || j == i := by
  funext j
  by_cases e : i = j
  · subst e
    simp [hi]
  · rw [getD_set_ne false e]
    simp [Ne.symm e]
theorem mid_ctx (S : HeadSpec P rec ops h0 ops.toList 0 n t0 [] t' l' es T E N) (hd : depsB ops n = true) {listed : Array Bool} (inv : HeadInv .any ops n listed) {t : List Value} (M : MT ops n t0 E (fun i => listed.getD i false) t) {i : Nat}
    (hr : i ∈ Region.ready .any ops listed) (hi : i < n) {o1 : Oper} (ho : ops[i]? = some o1) : (∀ y, y ∈ o1.op.operands → lookA t y = lookA (T i) y) ∧ wantedA ops t o1 = wantedA ops (T i) o1 := by
  obtain ⟨hun, o2, ho2, hall⟩ := mem_ready.1 hr
  have eo : o1 = o2 := Option.some.inj (ho.symm.trans ho2)
  subst eo
  obtain ⟨hd1, hd2⟩ := depsB_spec hd hi ho
  have hisz : i < listed.size := by rw [inv.size]; exact (Array.getElem?_eq_some_iff.1 ho).1
  have hnd : listed.getD i false = false := getD_both hun
  obtain ⟨g1, g2, g3⟩ := lex_ok S hd i (by omega)
  -- what the operation looks at is as in the text's order
  have agree : ∀ d, d ∈ o1.looksAt ops → t[d]? = (T i)[d]? := by
    intro d hdl
    by_cases hx : d < t0.length
    · by_cases hw : ∃ j p, j < n ∧ ops[j]? = some p ∧ p.dst = some d
      · obtain ⟨j, p, hj, hp, hpd⟩ := hw
        have hone : ∀ j' p', j' < n → ops[j']? = some p' → p'.dst = some d → j' = j := by
          intro j' p' hj' hp' hpd'
          rcases Nat.decEq j' j with hne | he
          · exact absurd hpd' ((depsB_spec hd hj' hp').2 j p d hj hp hpd hne).1
          · exact he
        rcases Nat.lt_trichotomy j i with hlt | heq | hgt
        · obtain ⟨e, he, hb, hon⟩ := waits_spec (((hd2 j p d hj hp hpd (by omega)).2 hdl).1 hlt)
          have hdone := hall e he hb
          rw [hon] at hdone
          rw [M.t1 j p d hj hp hpd hdone hx, g2 j p d hlt hp hpd hx]
        · rw [M.t2 d fun j' p' hj' hp' hdn hpd' => by
            have h5 := hone j' p' hj' hp' hpd'
            have h6 : listed.getD j' false = true := hdn
            rw [h5, heq, hnd] at h6
            cases h6]
          rw [g3 d fun j' p' hj' hp' hpd' => by
            have h5 := hone j' p' (by omega) hp' hpd'
            omega]
        · have hnj : listed.getD j false = false := by
            cases hq : listed.getD j false with
            | false => rfl
            | true =>
              obtain ⟨e, he, hb, hon⟩ := waits_spec (((hd2 j p d hj hp hpd (by omega)).2 hdl).2 hgt)
              have := inv.closed j p hp hq e he hb
              rw [hon, hnd] at this
              cases this
          rw [M.t2 d fun j' p' hj' hp' hdn hpd' => by
            have h5 := hone j' p' hj' hp' hpd'
            have h6 : listed.getD j' false = true := hdn
            rw [h5, hnj] at h6
            cases h6]
          rw [g3 d fun j' p' hj' hp' hpd' => by
            have h5 := hone j' p' (by omega) hp' hpd'
            omega]
      · have hn : ∀ j p, j < n → ops[j]? = some p → p.dst ≠ some d := fun j p hj hp e => hw ⟨j, p, hj, hp, e⟩
        rw [M.t2 d fun j p hj hp _ => hn j p hj hp, g3 d fun j p hj hp => hn j p (by omega) hp]
    · have hx' : t0.length ≤ d := Nat.le_of_not_lt hx
      rw [List.getElem?_eq_none (by rw [M.tl]; exact hx'), List.getElem?_eq_none (by rw [g1]; exact hx')]
  have hlook : ∀ y, y ∈ o1.op.operands → lookA t y = lookA (T i) y := by
    intro y hy
    cases y with
    | tmp d =>
      have : d ∈ o1.looksAt ops := by
        unfold Oper.looksAt
        refine List.mem_append_left _ (List.mem_filterMap.2 ⟨.tmp d, by simpa using hy, rfl⟩)
      simp only [lookA, List.getD, agree d this]
    | _ => rfl
  have hwant : wantedA ops t o1 = wantedA ops (T i) o1 := by
    unfold wantedA
    cases hg : o1.guard with
    | none => rfl
    | some gw =>
      obtain ⟨g, want⟩ := gw
      have : yA ops t g = yA ops (T i) g := by
        unfold yA
        cases hdg : (ops[g]?).bind (·.dst) with
        | none => rfl
        | some d =>
          have hm : d ∈ o1.looksAt ops := by
            unfold Oper.looksAt
            refine List.mem_append_right _ ?_
            rw [hg]
            simp [hdg]
          simp only [Option.bind_some, agree d hm]
      simp only [this]
  exact ⟨hlook, hwant⟩
theorem mid_pure (hng : NoNG P) (hacc : rec.acc = accP) (S : HeadSpec P rec ops h0 ops.toList 0 n t0 [] t' l' es T E N) (hd : depsB ops n = true) {k : Nat} {wb : Wb} {s0 : Ren} {listed : Array Bool} {a : Act} {w : World} (inv : HeadInv .any ops n listed)
    (J : Mid ops n t0 h0 E N wb k s0 listed a w) {i : Nat} (hr : i ∈ Region.ready .any ops listed) (hi : i < n) (hp : pureE (E i) = true) (hdi : ∀ c ∈ (E i).d, c.1 = c.2) :
    ∃ o v, ops[i]? = some o ∧ Yields P ops o v a ∧ Mid ops n t0 h0 E N wb k s0 (listed.setIfInBounds i true) (a.put o.dst v) w := by
  obtain ⟨s, t, h, hle, hbel, ht, hdf, H, H0, M, MM⟩ := J
  obtain ⟨o1, ho, hs, hT⟩ := op_at S hi
  obtain ⟨hlook, hwant⟩ := mid_ctx S hd inv M hr hi ho
  have hisz : i < listed.size := by rw [inv.size]; exact (Array.getElem?_eq_some_iff.1 ho).1
  have hmask := mask_next (i := i) hisz
  have hb : (E i).b = [] ∧ (E i).st = none ∧ (E i).rd = .none := by
    unfold pureE at hp
    split at hp
    · exact ⟨by assumption, by assumption, by assumption⟩
    · cases hp
  obtain ⟨hb1, hb2, hb3⟩ := hb
  have hno : (∀ j, j < n → (E j).st ≠ none → (listed.setIfInBounds i true).getD j false = false) → ∀ j, j < n → (E j).st ≠ none → listed.getD j false = false := by
    intro hh j hj hst
    have h1 := hh j hj hst
    have h2 := congrFun hmask j
    rw [h1] at h2
    cases hq : listed.getD j false with
    | false => rfl
    | true => rw [hq] at h2; simp at h2
  have go : ∀ v', VR s (E i).v v' → Mid ops n t0 h0 E N wb k s0 (listed.setIfInBounds i true) (a.put o1.dst v') w := by
    intro v' hv
    refine ⟨s, putA t o1.dst (E i).v, h, hle, hbel, put_ok ht o1.dst hv, by cases hq : o1.dst <;> simp [Act.put, hdf], H, fun hh => H0 (hno hh), ?_, ?_⟩
    · rw [hmask]; exact mt_next hd M hi ho
    · rw [hmask]; exact mh_still MM hb2 hb1
  obtain ⟨e0, cs0, hs, inj⟩ := headStep_inv hs hdi
  unfold headStep0 at hs
  rw [hacc] at hs
  simp only [accP] at hs
  split at hs
  · rename_i hwt
    split at hs
    · rename_i hok
      have hρ : ∀ y ∈ o1.op.operands, VR s (lookA (T i) y) (a.eval y) := fun y hy => by
        rw [← hlook y hy]
        exact eval_ok ht (glob_same H.glob MM.h1) (List.all_eq_true.1 hok y (by simpa using hy))
      split at hs
      · rw [← inj _ hs] at hb3
        cases hb3
      split at hs
      · split at hs
        · split at hs
          · rw [← inj _ hs] at hb3
            cases hb3
          · cases hs
        · cases hs
      split at hs
      · split at hs
        · rw [← inj _ hs] at hb3
          cases hb3
        · cases hs
      split at hs
      · split at hs
        · rename_i v cs1 hq
          have hE := inj _ hs
          have hcs1 : ∀ c ∈ cs1, c.1 = c.2 := fun c hc => hdi c (by rw [← hE]; exact List.mem_append_left _ hc)
          refine ⟨o1, v, ho, .inl ⟨by rw [wanted_ok ht, hwant]; exact hwt, fun w2 => (qsOp_ok (P := P) hρ hq hcs1 w2).1⟩, go v (by rw [← hE]; exact .same (qsOp_ok (P := P) hρ hq hcs1 w).2)⟩
        · split at hs
          · rw [← inj _ hs] at hb3
            cases hb3
          · split at hs
            · rw [← inj _ hs] at hb1
              cases hb1
            · split at hs
              · rw [← inj _ hs] at hb3
                cases hb3
              · split at hs
                · split at hs
                  · split at hs
                    · split at hs
                      · rw [← inj _ hs] at hb3
                        cases hb3
                      · cases hs
                    · cases hs
                  · cases hs
                · cases hs
      split at hs
      · rw [← inj _ hs] at hb1
        cases hb1
      · split at hs
        · rw [← inj _ hs] at hb1
          cases hb1
        · split at hs
          · rename_i v x1 x2 hso
            have hE := inj _ hs
            have hall : ∀ w, Okay0 P s [] w (execOp a.eval o1) (.value v, x1, x2) := fun w => sOp_ok P hng s [] w _ _ o1 _ (fun j p hj => by simp at hj) hρ hso
            obtain ⟨n', e1, e2, _⟩ := hall w
            cases n' <;> simp only [NR] at e2
            rename_i v'
            refine ⟨o1, v', ho, .inl ⟨by rw [wanted_ok ht, hwant]; exact hwt, fun w2 => ?_⟩, go v' (by rw [← hE]; exact e2)⟩
            obtain ⟨n2, g1, g2, _⟩ := hall w2
            cases n2 <;> simp only [NR] at g2
            rw [g1, VR.det g2 e2]
          · split at hs
            · split at hs
              · split at hs
                · rw [← inj _ hs] at hb3
                  cases hb3
                · cases hs
              · cases hs
            · split at hs
              · split at hs
                · split at hs
                  · rw [← inj _ hs] at hb3
                    cases hb3
                  · cases hs
                · cases hs
              · cases hs
          · split at hs
            · split at hs
              · rw [← inj _ hs] at hb2
                cases hb2
              · cases hs
            · split at hs
              · rw [← inj _ hs] at hb3
                cases hb3
              · cases hs
            · split at hs
              · rw [← inj _ hs] at hb3
                cases hb3
              · split at hs
                · split at hs
                  · split at hs
                    · rw [← inj _ hs] at hb3
                      cases hb3
                    · cases hs
                  · cases hs
                · cases hs
    · cases hs
  · rename_i hwt
    have hE := inj _ hs
    exact ⟨o1, undef, ho, .inr ⟨by rw [wanted_ok ht, hwant]; simpa using hwt, rfl⟩, go undef (by rw [← hE]; exact .same rfl)⟩
theorem mid_op (S : HeadSpec P rec ops h0 ops.toList 0 n t0 [] t' l' es T E N) (hd : depsB ops n = true) (hrec : RecOk P rec) (hmem : memB ops n es = true) {k : Nat} (hcs : Bnd k (headM es)) {wb : Wb} {s0 : Ren} {listed : Array Bool} {a : Act} {w : World}
    (hk : k ≤ h0.length) (inv : HeadInv .any ops n listed) (J : Mid ops n t0 h0 E N wb k s0 listed a w) {i : Nat} (hr : i ∈ Region.ready .any ops listed) (hi : i < n) {Q : Exit → Act → World → Prop} {K : Act → World → Prop}
    (hK : ∀ a' w', Mid ops n t0 h0 E N wb k s0 (listed.setIfInBounds i true) a' w' → K a' w') : wpOp P ops Q i K a w := by
  obtain ⟨s, t, h, hle, hbel, ht, hdf, H, H0, M, MM⟩ := J
  obtain ⟨hun, o1, ho1, hall⟩ := mem_ready.1 hr
  obtain ⟨o, ho, hs, hT⟩ := op_at S hi
  have eo : o1 = o := Option.some.inj (ho1.symm.trans ho)
  subst eo
  obtain ⟨hd1, hd2⟩ := depsB_spec hd hi ho
  have hisz : i < listed.size := by rw [inv.size]; exact (Array.getElem?_eq_some_iff.1 ho).1
  have hnd : listed.getD i false = false := getD_both hun
  obtain ⟨g1, g2, g3⟩ := lex_ok S hd i (by omega)
  -- what the operation looks at is as in the text's order
  have agree : ∀ d, d ∈ o1.looksAt ops → t[d]? = (T i)[d]? := by
    intro d hdl
    by_cases hx : d < t0.length
    · by_cases hw : ∃ j p, j < n ∧ ops[j]? = some p ∧ p.dst = some d
      · obtain ⟨j, p, hj, hp, hpd⟩ := hw
        have hone : ∀ j' p', j' < n → ops[j']? = some p' → p'.dst = some d → j' = j := by
          intro j' p' hj' hp' hpd'
          rcases Nat.decEq j' j with hne | he
          · exact absurd hpd' ((depsB_spec hd hj' hp').2 j p d hj hp hpd hne).1
          · exact he
        rcases Nat.lt_trichotomy j i with hlt | heq | hgt
        · obtain ⟨e, he, hb, hon⟩ := waits_spec (((hd2 j p d hj hp hpd (by omega)).2 hdl).1 hlt)
          have hdone := hall e he hb
          rw [hon] at hdone
          rw [M.t1 j p d hj hp hpd hdone hx, g2 j p d hlt hp hpd hx]
        · rw [M.t2 d fun j' p' hj' hp' hdn hpd' => by
            have h5 := hone j' p' hj' hp' hpd'
            have h6 : listed.getD j' false = true := hdn
            rw [h5, heq, hnd] at h6
            cases h6]
          rw [g3 d fun j' p' hj' hp' hpd' => by
            have h5 := hone j' p' (by omega) hp' hpd'
            omega]
        · have hnj : listed.getD j false = false := by
            cases hq : listed.getD j false with
            | false => rfl
            | true =>
              obtain ⟨e, he, hb, hon⟩ := waits_spec (((hd2 j p d hj hp hpd (by omega)).2 hdl).2 hgt)
              have := inv.closed j p hp hq e he hb
              rw [hon, hnd] at this
              cases this
          rw [M.t2 d fun j' p' hj' hp' hdn hpd' => by
            have h5 := hone j' p' hj' hp' hpd'
            have h6 : listed.getD j' false = true := hdn
            rw [h5, hnj] at h6
            cases h6]
          rw [g3 d fun j' p' hj' hp' hpd' => by
            have h5 := hone j' p' (by omega) hp' hpd'
            omega]
      · have hn : ∀ j p, j < n → ops[j]? = some p → p.dst ≠ some d := fun j p hj hp e => hw ⟨j, p, hj, hp, e⟩
        rw [M.t2 d fun j p hj hp _ => hn j p hj hp, g3 d fun j p hj hp => hn j p (by omega) hp]
    · have hx' : t0.length ≤ d := Nat.le_of_not_lt hx
      rw [List.getElem?_eq_none (by rw [M.tl]; exact hx'), List.getElem?_eq_none (by rw [g1]; exact hx')]
  have hlook : ∀ y, y ∈ o1.op.operands → lookA t y = lookA (T i) y := by
    intro y hy
    cases y with
    | tmp d =>
      have : d ∈ o1.looksAt ops := by
        unfold Oper.looksAt
        refine List.mem_append_left _ (List.mem_filterMap.2 ⟨.tmp d, by simpa using hy, rfl⟩)
      simp only [lookA, List.getD, agree d this]
    | _ => rfl
  have hwant : wantedA ops t o1 = wantedA ops (T i) o1 := by
    unfold wantedA
    cases hg : o1.guard with
    | none => rfl
    | some gw =>
      obtain ⟨g, want⟩ := gw
      have : yA ops t g = yA ops (T i) g := by
        unfold yA
        cases hdg : (ops[g]?).bind (·.dst) with
        | none => rfl
        | some d =>
          have hm : d ∈ o1.looksAt ops := by
            unfold Oper.looksAt
            refine List.mem_append_right _ ?_
            rw [hg]
            simp [hdg]
          simp only [Option.bind_some, agree d hm]
      simp only [this]
  have hmask := mask_next (i := i) hisz
  have hEi := eff_at S hi
  obtain ⟨hbi, hdi⟩ := headM_bnd hcs i _ hEi
  have hno : (∀ j, j < n → (E j).st ≠ none → (listed.setIfInBounds i true).getD j false = false) → ∀ j, j < n → (E j).st ≠ none → listed.getD j false = false := by
    intro hh j hj hst
    have h1 := hh j hj hst
    have h2 := congrFun hmask j
    rw [h1] at h2
    cases hq : listed.getD j false with
    | false => rfl
    | true => rw [hq] at h2; simp at h2
  -- what waits for it is not done
  have behind : ∀ j oj, ops[j]? = some oj → waits oj i = true → listed.getD j false = false := by
    intro j oj hoj hw
    cases hq : listed.getD j false with
    | false => rfl
    | true =>
      obtain ⟨e, he, hb, hon⟩ := waits_spec hw
      have := inv.closed j oj hoj hq e he hb
      rw [hon, hnd] at this
      cases this
  have reads : (E i).rd = .any → HR wb k s0 h0 w := by
    intro hrd
    refine H0 fun j hj hst => ?_
    obtain ⟨⟨b, vs⟩, hs'⟩ := Option.ne_none_iff_exists'.1 hst
    by_cases e : i = j
    · rw [← e]; exact hnd
    · obtain ⟨oj, hoj, _, _⟩ := op_at S hj
      exact behind j oj hoj ((memB_spec hmem hj (eff_at S hj) hs' hi e hEi hoj).2.1 hrd)
  have mr0 : HR wb k s0 h0 w → MR s h0 w := fun H' j p hj hl => by
    obtain ⟨q, hq, he, hb⟩ := H'.obj j p hj hl
    exact ⟨q, hle _ _ hq, he, hb.mono hle⟩
  have mrn : MR s [] w := fun j p hj _ => by simp at hj
  -- how it goes on
  have still : ∀ (v' : Value) (w' : World), (E i).b = [] → (E i).st = none → VR s (E i).v v' → Gr w w' → K (a.put o1.dst v') w' := by
    intro v' w' hb hst hv hg
    refine hK _ _ ⟨s, putA t o1.dst (E i).v, h, hle, hbel, put_ok ht o1.dst hv, by cases hq : o1.dst <;> simp [Act.put, hdf], H.grow hg, fun hh => (H0 (hno hh)).grow hg, ?_, ?_⟩
    · rw [hmask]; exact mt_next hd M hi ho
    · rw [hmask]; exact mh_still MM hst hb
  unfold wpOp
  rw [ho]
  simp only
  rw [wanted_ok ht, hwant]
  obtain ⟨e0, cs0, hs, inj⟩ := headStep_inv hs hdi
  unfold headStep0 at hs
  rw [hrec.2.2.2] at hs
  simp only [accP] at hs
  split at hs
  · rename_i hwt
    rw [if_pos hwt]
    left
    split at hs
    · rename_i hok
      have hρ : ∀ y ∈ o1.op.operands, VR s (lookA (T i) y) (a.eval y) := fun y hy => by
        rw [← hlook y hy]
        exact eval_ok ht (glob_same H.glob MM.h1) (List.all_eq_true.1 hok y (by simpa using hy))
      split at hs
      · rename_i v htl
        have hE := inj _ hs
        have H1 := reads (by rw [← hE])
        have hso := sameC_ok (b2i_inj (b := true) (hdi (b2i (sameC (sOp P (lookA (T i)) o1 h0) (some (.value v, h0, none))), 1) (by rw [← hE]; simp)))
        obtain ⟨n', e1, e2, _⟩ := sOp_ok P hrec.2.2.1 s h0 w _ _ o1 _ (mr0 H1) hρ hso
        unfold Oper.wp
        rw [e1]
        cases n' <;> simp only [NR] at e2
        exact still _ _ (by rw [← hE]) (by rw [← hE]) (by rw [← hE]; exact e2) (Gr.refl w)
      split at hs
      · -- flatC
        split at hs
        · rename_i f args x1 x2 hso
          split at hs
          · rename_i v cs3 hca
            have hE := inj _ hs
            have H1 := reads (by rw [← hE])
            obtain ⟨n', e1, e2, _⟩ := sOp_ok P hrec.2.2.1 s [] w _ _ o1 _ mrn hρ hso
            unfold Oper.wp
            rw [e1]
            cases n' <;> simp only [NR] at e2
            rename_i g args'
            obtain ⟨rfl, hargs⟩ := e2
            have hd0 : ∀ c ∈ ((b2i (args.toList.all flat && flat v), 1) : Int × Int) :: cs3, c.1 = c.2 := fun c hc => hdi c (by rw [← hE]; exact List.mem_append_left _ hc)
            have hfl := b2i_inj (b := true) (hd0 _ (List.mem_cons_self ..))
            simp only [Bool.and_eq_true] at hfl
            have hea := hargs.eq_of_flat hfl.1
            obtain ⟨al⟩ := args'
            simp only at hea
            rw [hea]
            refine (hrec.2.1 _ args.toList h0 v [] cs3 hca (fun c hc => hd0 c (List.mem_cons_of_mem _ hc)) w h0.length s0 w args.toList (fun i hi => by cases hi) H1.here (LR.ofFlat hfl.1)).mono ?_
            rintro e w' ⟨s', v', rfl, hle1, H', hvr⟩
            have hv0 : (E i).v = v := by rw [← hE]
            exact still v' w' (by rw [← hE]) (by rw [← hE]) (by rw [hv0, hvr.eq_of_flat hfl.2]; exact .same hfl.2) H'.grown.gr
          · cases hs
        · cases hs
      split at hs
      · split at hs
        · rename_i v cs1 hq
          have hE := inj _ hs
          have H1 := reads (by rw [← hE])
          obtain ⟨n', e1, e2, _⟩ := tOp_ok (P := P) (mr0 H1) hρ hq (fun c hc => hdi c (by rw [← hE]; exact List.mem_append_left _ hc))
          unfold Oper.wp
          rw [e1]
          cases n' <;> simp only [NR] at e2
          exact still _ _ (by rw [← hE]) (by rw [← hE]) (by rw [← hE]; exact e2) (Gr.refl w)
        · cases hs
      split at hs
      · split at hs
        · rename_i v cs1 hq
          have hE := inj _ hs
          obtain ⟨e1, e2⟩ := qsOp_ok (P := P) hρ hq (fun c hc => hdi c (by rw [← hE]; exact List.mem_append_left _ hc)) w
          unfold Oper.wp
          rw [e1]
          exact still _ _ (by rw [← hE]) (by rw [← hE]) (by rw [← hE]; exact .same e2) (Gr.refl w)
        · split at hs
          · rename_i v cs1 hq
            have hE := inj _ hs
            have H1 := reads (by rw [← hE])
            obtain ⟨n', e1, e2, _⟩ := xsOp_ok (P := P) (mr0 H1) hρ hq (fun c hc => hdi c (by rw [← hE]; exact List.mem_append_left _ hc))
            unfold Oper.wp
            rw [e1]
            cases n' <;> simp only [NR] at e2
            exact still _ _ (by rw [← hE]) (by rw [← hE]) (by rw [← hE]; exact e2) (Gr.refl w)
          · split at hs
            · rename_i cs0' x cs1 hn
              have hE := inj _ hs
              have hb : (E i).b = [⟨true, none, cs0'⟩] := by rw [← hE]
              have hst : (E i).st = none := by rw [← hE]
              obtain ⟨arr, Ty, e1, e2⟩ := bMk_ok (P := P) hρ hn (fun c hc => hdi c (by rw [← hE]; exact List.mem_append_left _ hc)) w
              obtain ⟨q1, q2⟩ := MM.h3 i 0 _ hi (by rw [hb]; rfl) hnd
              simp only [Nat.add_zero] at q1 q2
              have hql : h0.length + (N i).length < h.length := (List.getElem?_eq_some_iff.1 q1).1
              obtain ⟨H', hle'⟩ := H.fill q2 hql (by omega) Ty e2
              have hg : Gr w (w.alloc (.cells arr Ty)) := Gr.alloc (Gr.refl w) arr Ty
              unfold Oper.wp
              rw [e1]
              refine hK _ _ ⟨_, putA t o1.dst (E i).v, _, hle.trans hle', fun j hj => ?_, put_ok (ht.mono hle') o1.dst ?_, by cases hq : o1.dst <;> simp [Act.put, hdf], H', fun hh => (H0 (hno hh)).grow hg, ?_, ?_⟩
              · rw [upd_other _ _ (by omega)]; exact hbel j hj
              · rw [← hE]
                exact mkNew_ok (upd_same _ _ _) (some x)
              · rw [hmask]; exact mt_next hd M hi ho
              · rw [hmask, ← layL_one hql, ← hb]
                exact mh_new S MM hi hst _ fun q hq => upd_other _ _ fun e => hq (by rw [hb, e]; simp)
            · split at hs
              · rename_i v cs1 hq
                have hE := inj _ hs
                have H1 := reads (by rw [← hE])
                have hdc : ∀ c ∈ cs1, c.1 = c.2 := fun c hc => hdi c (by rw [← hE]; exact List.mem_append_left _ hc)
                obtain ⟨src, dst, x, a0, l, c, b, cs', hop, hx, hle0, hnb, hlv, him, hbo, hfv, rfl⟩ := bTx_inv hq
                have hfl : b.cs.all flat = true := b2i_inj (b := true) (hdc _ (List.mem_cons_self ..))
                have hNn := N_pre S n (i := i) (by omega) (Nat.le_refl _)
                have hjl : a0.block - h0.length < (N i).length := (List.getElem?_eq_some_iff.1 hnb).1
                have hx' : VR s (.slice (some a0) l c) (a.eval x) := by
                  rw [← hx]
                  exact hρ x (by rw [hop]; simp [Op.operands])
                have hpl : (List.replicate (a0.block - h0.length) dead ++ [b]).length = a0.block - h0.length + 1 := by simp
                have HB := (HR.both H H1 hbel (fun x o hx hl => by
                  obtain ⟨o', h4, h5⟩ := MM.h1 x o hx
                  exact ⟨o', h4, h5.1.trans hl⟩) (pad := List.replicate (a0.block - h0.length) dead ++ [b]) (fun y o hy hl => by
                  have hyj : y = a0.block - h0.length ∧ o = b := by
                    by_cases e : y < a0.block - h0.length
                    · rw [List.getElem?_append_left (by simpa using e), List.getElem?_replicate, if_pos e] at hy
                      cases hy
                      cases hl
                    · rw [List.getElem?_append_right (by simpa using Nat.le_of_not_lt e), List.length_replicate] at hy
                      cases e2 : y - (a0.block - h0.length) with
                      | zero => rw [e2] at hy; exact ⟨by omega, by simpa using hy.symm⟩
                      | succ z => rw [e2] at hy; simp at hy
                  obtain ⟨rfl, rfl⟩ := hyj
                  refine ⟨?_, hfl, him⟩
                  obtain ⟨j, z, cs, hj, hb, hz⟩ := N_sur S i (by omega) _ hjl
                  have h6 := (N_at S (i := j) (by omega) hb).1
                  rw [hz, hNn.2 _ hjl, hnb] at h6
                  cases h6
                  cases hq : listed.getD j false with
                  | true =>
                    have := MM.h2 j z _ (by omega) hb hq
                    rwa [Nat.add_assoc, hz] at this
                  | false =>
                    have := (MM.h3 j z _ (by omega) hb hq).2
                    rw [Nat.add_assoc, hz] at this
                    obtain ⟨p, _, _, hp, _⟩ := hx'.slice_inv
                    rw [show h0.length + (a0.block - h0.length) = a0.block by omega] at this
                    rw [this] at hp
                    cases hp)).here
                obtain ⟨s', v', w', e1, hle1, H', hvr⟩ := bOp_ok (P := P) HB (ρ' := a.eval) (fun y hy => by
                  rw [hop] at hy
                  obtain rfl : y = x := by simpa [Op.operands] using hy
                  rw [hx]
                  exact newArg_ok (n := h0.length) (nid := a0.block + 1) (by omega) (fun j hj => by rw [hpl, if_pos (by omega)]) hx' (by simp [newArg])) hbo (fun c hc => hdc c (List.mem_cons_of_mem _ hc))
                unfold Oper.wp
                rw [e1]
                have hv0 : (E i).v = v := by rw [← hE]
                exact still v' w' (by rw [← hE]) (by rw [← hE]) (by rw [hv0, hvr.eq_of_flat hfv]; exact .same hfv) H'.grown.gr
              · split at hs
                · rename_i f args x1 x2 hso
                  split at hs
                  · rename_i hblw
                    split at hs
                    · rename_i v h1 m3 cs3 hca
                      split at hs
                      · rename_i hcond
                        simp only [Bool.and_eq_true] at hcond
                        obtain ⟨hq3, hrv⟩ := hcond
                        have hE := inj _ hs
                        have H1 := reads (by rw [← hE])
                        obtain ⟨n', e1, e2, _⟩ := sOp_ok P hrec.2.2.1 s [] w _ _ o1 _ mrn hρ hso
                        unfold Oper.wp
                        rw [e1]
                        cases n' <;> simp only [NR] at e2
                        rename_i g args'
                        obtain ⟨rfl, hargs⟩ := e2
                        have enid : h0.length + (N i).length - h0.length = (N i).length := by omega
                        rw [enid] at hca
                        have HP := (H1.pad (N i).length).here
                        rw [List.length_append, List.length_replicate] at HP
                        have hdd : ∀ c ∈ cs3 ++ (h1.drop (h0.length + (N i).length)).map (fun o => ((b2i (o.cs.all scal), 1) : Int × Int)), c.1 = c.2 := fun c hc => hdi c (by rw [← hE]; exact List.mem_append_left _ hc)
                        refine (callA_ok hrec hca (wb := w) (k := h0.length + (N i).length) ⟨quietB_ok hq3, fun c hc => hdd c (List.mem_append_left _ hc)⟩ (hargs.blw hbel hblw) HP).mono ?_
                        rintro e w' ⟨s', v', rfl, hle1, H', hvr⟩
                        have hb : (E i).b = h1.drop (h0.length + (N i).length) := by rw [← hE]
                        have hst : (E i).st = none := by rw [← hE]
                        have hv0 : (E i).v = v := by rw [← hE]
                        rw [← hb] at hrv
                        have hro : ∀ f, (E i).b.all (refO f) = true := fun f => List.all_eq_true.2 fun o ho => refO_scal (b2i_inj (b := true) (hdd (b2i (o.cs.all scal), 1) (List.mem_append_right _ (List.mem_map.2 ⟨o, by rw [← hb]; exact ho, rfl⟩))))
                        have hfit : h0.length + (N i).length + (E i).b.length ≤ h.length := by rw [MM.hl]; have := N_fit S hi; omega
                        have hlive : ∀ x, liveB h0 x = true → x < h0.length ∧ ∃ p, s0 x = some p := by
                          intro x hx
                          unfold liveB at hx
                          split at hx
                          · rename_i o ho
                            obtain ⟨p, hp, _⟩ := H1.obj x o ho hx
                            exact ⟨(List.getElem?_eq_some_iff.1 ho).1, p, hp⟩
                          · cases hx
                        obtain ⟨H2, hle2, hok⟩ := H.layNew (q := h0.length + (N i).length) (bs := (E i).b) hfit (by omega) (fun x hx1 hx2 => by
                            have hy : x - (h0.length + (N i).length) < (E i).b.length := by omega
                            have := (MM.h3 i (x - (h0.length + (N i).length)) _ hi (List.getElem?_eq_getElem hy) hnd).2
                            rwa [show h0.length + (N i).length + (x - (h0.length + (N i).length)) = x by omega] at this)
                          H' (fun x o ho => by rw [hb, List.getElem?_drop] at ho; exact ho) (old := liveB h0) (fun x hx => by have := (hlive x hx).1; omega)
                          (fun x hx => by
                            obtain ⟨hx1, p, hp⟩ := hlive x hx
                            rw [hbel x hx1, hp]
                            exact hle1 x p hp) (hro _)
                        refine hK _ _ ⟨_, putA t o1.dst (E i).v, _, hle.trans hle2, fun j hj => ?_, put_ok (ht.mono hle2) o1.dst ?_, by cases hq : o1.dst <;> simp [Act.put, hdf], H2, fun hh => (H0 (hno hh)).grow H'.grown.gr, ?_, ?_⟩
                        · rw [if_neg (by omega)]; exact hbel j hj
                        · rw [hv0]; exact hvr.refs hok 6 hrv
                        · rw [hmask]; exact mt_next hd M hi ho
                        · rw [hmask]
                          exact mh_new S MM hi hst _ fun q hq => if_neg hq
                      · cases hs
                    · cases hs
                  · cases hs
                · cases hs
      split at hs
      · rename_i cs sh hn
        have hE := inj _ hs
        have hb : (E i).b = [⟨true, none, cs⟩] := by rw [← hE]
        have hst : (E i).st = none := by rw [← hE]
        obtain ⟨arr, Ty, e1, e2⟩ := nOp_ok hρ hn w
        obtain ⟨q1, q2⟩ := MM.h3 i 0 _ hi (by rw [hb]; rfl) hnd
        simp only [Nat.add_zero] at q1 q2
        have hql : h0.length + (N i).length < h.length := (List.getElem?_eq_some_iff.1 q1).1
        obtain ⟨H', hle'⟩ := H.fill q2 hql (by omega) Ty e2
        have hg : Gr w (w.alloc (.cells arr Ty)) := Gr.alloc (Gr.refl w) arr Ty
        unfold Oper.wp
        rw [e1]
        refine hK _ _ ⟨_, putA t o1.dst (E i).v, _, hle.trans hle', fun j hj => ?_, put_ok (ht.mono hle') o1.dst ?_, by cases hq : o1.dst <;> simp [Act.put, hdf], H', fun hh => (H0 (hno hh)).grow hg, ?_, ?_⟩
        · rw [upd_other _ _ (by omega)]; exact hbel j hj
        · rw [← hE]
          exact mkNew_ok (upd_same _ _ _) sh
        · rw [hmask]; exact mt_next hd M hi ho
        · rw [hmask, ← layL_one hql, ← hb]
          exact mh_new S MM hi hst _ fun q hq => upd_other _ _ fun e => hq (by rw [hb, e]; simp)
      · split at hs
        · rename_i ao l hf
          have hE := inj _ hs
          have hb : (E i).b = [ao] := by rw [← hE]
          have hst : (E i).st = none := by rw [← hE]
          obtain ⟨arr, Ty, al, ae, e1, e2, e3, e4⟩ := fOp_ok hρ hf w
          obtain ⟨live, eso, cs⟩ := ao
          simp only at al ae e1 e3
          subst al
          subst ae
          obtain ⟨q1, q2⟩ := MM.h3 i 0 _ hi (by rw [hb]; rfl) hnd
          simp only [Nat.add_zero] at q1 q2
          have hql : h0.length + (N i).length < h.length := (List.getElem?_eq_some_iff.1 q1).1
          obtain ⟨H', hle'⟩ := H.drew.fillF q2 hql (by omega) Ty (some 1) rfl (arr.size, arr.size + 1) (fun o ho hh => by have := hh.1; omega) e1 (fun o v hv => ⟨v, (e3 o v hv).1, .same (e3 o v hv).2⟩)
          have hg : Gr w (w.drew.alloc (.cells arr Ty (arr.size, arr.size + 1))) := (Gr.drew (Gr.refl w)).allocO _
          unfold Oper.wp
          rw [e4]
          refine hK _ _ ⟨_, putA t o1.dst (E i).v, _, hle.trans hle', fun j hj => ?_, put_ok (ht.mono hle') o1.dst ?_, by cases hq : o1.dst <;> simp [Act.put, hdf], H', fun hh => (H0 (hno hh)).grow hg, ?_, ?_⟩
          · rw [upd_other _ _ (by omega)]; exact hbel j hj
          · rw [← hE]
            exact VR.slice (a := ⟨h0.length + (N i).length, 0, none⟩) rfl (upd_same _ _ _) (by unfold CapOk; exact ⟨by omega, by simp only [Nat.zero_add, Nat.mul_one, Nat.add_zero], e2⟩)
          · rw [hmask]; exact mt_next hd M hi ho
          · rw [hmask, ← layL_one hql, ← hb]
            exact mh_new S MM hi hst _ fun q hq => upd_other _ _ fun e => hq (by rw [hb, e]; simp)
        · split at hs
          · rename_i v x1 x2 hso
            have hE := inj _ hs
            obtain ⟨n', e1, e2, _⟩ := sOp_ok P hrec.2.2.1 s [] w _ _ o1 _ mrn hρ hso
            unfold Oper.wp
            rw [e1]
            cases n' <;> simp only [NR] at e2
            exact still _ _ (by rw [← hE]) (by rw [← hE]) (by rw [← hE]; exact e2) (Gr.refl w)
          · rename_i f args x1 x2 hso
            split at hs
            · rename_i hblw
              split at hs
              · rename_i v h1 m3 cs3 hca
                split at hs
                · rename_i hcond
                  simp only [Bool.and_eq_true] at hcond
                  obtain ⟨⟨hq3, hrv⟩, hro⟩ := hcond
                  have hE := inj _ hs
                  have H1 := reads (by rw [← hE])
                  obtain ⟨n', e1, e2, _⟩ := sOp_ok P hrec.2.2.1 s [] w _ _ o1 _ mrn hρ hso
                  unfold Oper.wp
                  rw [e1]
                  cases n' <;> simp only [NR] at e2
                  rename_i g args'
                  obtain ⟨rfl, hargs⟩ := e2
                  have enid : h0.length + (N i).length - h0.length = (N i).length := by omega
                  rw [enid] at hca
                  have HP := (H1.pad (N i).length).here
                  rw [List.length_append, List.length_replicate] at HP
                  refine (callA_ok hrec hca (wb := w) (k := h0.length + (N i).length) ⟨quietB_ok hq3, fun c hc => hdi c (by rw [← hE]; exact List.mem_append_left _ hc)⟩ (hargs.blw hbel hblw) HP).mono ?_
                  rintro e w' ⟨s', v', rfl, hle1, H', hvr⟩
                  have hb : (E i).b = h1.drop (h0.length + (N i).length) := by rw [← hE]
                  have hst : (E i).st = none := by rw [← hE]
                  have hv0 : (E i).v = v := by rw [← hE]
                  rw [← hb] at hrv hro
                  have hfit : h0.length + (N i).length + (E i).b.length ≤ h.length := by rw [MM.hl]; have := N_fit S hi; omega
                  have hlive : ∀ x, liveB h0 x = true → x < h0.length ∧ ∃ p, s0 x = some p := by
                    intro x hx
                    unfold liveB at hx
                    split at hx
                    · rename_i o ho
                      obtain ⟨p, hp, _⟩ := H1.obj x o ho hx
                      exact ⟨(List.getElem?_eq_some_iff.1 ho).1, p, hp⟩
                    · cases hx
                  obtain ⟨H2, hle2, hok⟩ := H.layNew (q := h0.length + (N i).length) (bs := (E i).b) hfit (by omega) (fun x hx1 hx2 => by
                      have hy : x - (h0.length + (N i).length) < (E i).b.length := by omega
                      have := (MM.h3 i (x - (h0.length + (N i).length)) _ hi (List.getElem?_eq_getElem hy) hnd).2
                      rwa [show h0.length + (N i).length + (x - (h0.length + (N i).length)) = x by omega] at this)
                    H' (fun x o ho => by rw [hb, List.getElem?_drop] at ho; exact ho) (old := liveB h0) (fun x hx => by have := (hlive x hx).1; omega)
                    (fun x hx => by
                      obtain ⟨hx1, p, hp⟩ := hlive x hx
                      rw [hbel x hx1, hp]
                      exact hle1 x p hp) hro
                  refine hK _ _ ⟨_, putA t o1.dst (E i).v, _, hle.trans hle2, fun j hj => ?_, put_ok (ht.mono hle2) o1.dst ?_, by cases hq : o1.dst <;> simp [Act.put, hdf], H2, fun hh => (H0 (hno hh)).grow H'.grown.gr, ?_, ?_⟩
                  · rw [if_neg (by omega)]; exact hbel j hj
                  · rw [hv0]; exact hvr.refs hok 6 hrv
                  · rw [hmask]; exact mt_next hd M hi ho
                  · rw [hmask]
                    exact mh_new S MM hi hst _ fun q hq => if_neg hq
                · cases hs
              · cases hs
            · split at hs
              · rename_i hnew
                split at hs
                · rename_i v h1 m3 cs3 hca
                  split at hs
                  · rename_i hcond
                    simp only [Bool.and_eq_true] at hcond
                    obtain ⟨hfv, hq3⟩ := hcond
                    have hE := inj _ hs
                    have H1 := reads (by rw [← hE])
                    obtain ⟨n', e1, e2, _⟩ := sOp_ok P hrec.2.2.1 s [] w _ _ o1 _ mrn hρ hso
                    unfold Oper.wp
                    rw [e1]
                    cases n' <;> simp only [NR] at e2
                    rename_i g args'
                    obtain ⟨rfl, hargs⟩ := e2
                    have hNn := N_pre S n (i := i) (by omega) (Nat.le_refl _)
                    have HB := (HR.both H H1 hbel (fun x o hx hl => by
                      obtain ⟨o', h4, h5⟩ := MM.h1 x o hx
                      exact ⟨o', h4, h5.1.trans hl⟩) (pad := padL args.toList h0.length (N i)) (fun y o hy hl => by
                      obtain ⟨p1, p2, p3, p4⟩ := padL_get hy hl
                      refine ⟨?_, p3, p4⟩
                      have hyl := (List.getElem?_eq_some_iff.1 p1).1
                      obtain ⟨j, z, cs, hj, hb, hz⟩ := N_sur S i (by omega) y hyl
                      have h6 := (N_at S (i := j) (by omega) hb).1
                      rw [hz, hNn.2 y hyl, p1] at h6
                      cases h6
                      cases hq : listed.getD j false with
                      | true =>
                        have := MM.h2 j z _ (by omega) hb hq
                        rwa [Nat.add_assoc, hz] at this
                      | false =>
                        have := (MM.h3 j z _ (by omega) hb hq).2
                        rw [Nat.add_assoc, hz] at this
                        obtain ⟨p, hp⟩ := ments_some hargs p2
                        rw [this] at hp
                        cases hp)).here
                    rw [List.length_append, padL_length] at HB
                    refine (callA_ok hrec hca (wb := w) (k := h0.length + (N i).length) ⟨quietB_ok hq3, fun c hc => hdi c (by rw [← hE]; exact List.mem_append_left _ hc)⟩
                      (newArgs_ok (by omega) (fun j hj => by rw [if_pos hj]) hargs hnew) HB).mono ?_
                    rintro e w' ⟨s', v', rfl, hle1, H', hvr⟩
                    have hv0 : (E i).v = v := by rw [← hE]
                    exact still v' w' (by rw [← hE]) (by rw [← hE]) (by rw [hv0, hvr.eq_of_flat hfv]; exact .same hfv) H'.grown.gr
                  · cases hs
                · cases hs
              · cases hs
          · split at hs
            · rename_i ty x y hop
              split at hs
              · rename_i st hsh
                obtain ⟨b, vs⟩ := st
                have hE := inj _ hs
                have hst : (E i).st = some (b, vs) := by rw [← hE]
                have hbn : (E i).b = [] := by rw [← hE]
                obtain ⟨hx, hvs, ⟨info, hinfo, hlen⟩, hone, o0, ho0, hlive, hwr, hfit⟩ := storeH_spec hsh
                obtain ⟨o2, ho2, q1, q2, q3, _, _⟩ := MM.h1 _ _ ho0
                obtain ⟨h', hst'⟩ := astore_some (vs := vs) ho2 (q1.trans hlive) (by rw [isW_es q2]; exact hwr) (by omega)
                have hmh := mh_store S hmem MM hi hbn hst ho0 hfit hst'
                have vx := hρ x (by rw [hop]; simp [Op.operands])
                have vy := hρ y (by rw [hop]; simp [Op.operands])
                rw [hx] at vx
                obtain ⟨w', e1, H'⟩ := store_run (P := P) H vx vy hinfo (by rw [← hvs]; exact hlen) (by rw [← hvs]; exact hone) (by rw [← hvs]; exact hst') (hbi b vs hst)
                unfold Oper.wp
                rw [execOp_store hop, e1]
                refine hK _ _ ⟨s, putA t o1.dst (E i).v, h', hle, hbel, put_ok ht o1.dst (by rw [← hE]; exact .same rfl), by cases hq : o1.dst <;> simp [Act.put, hdf], H', fun hh => ?_, ?_, ?_⟩
                · have h1 := hh i hi (by rw [hst]; simp)
                  have h2 := congrFun hmask i
                  rw [h1] at h2
                  simp at h2
                · rw [hmask]; exact mt_next hd M hi ho
                · rw [hmask]; exact hmh
              · cases hs
            · rename_i ty x hop
              split at hs
              · rename_i v x1 x2 b m hl hlh
                have hE := inj _ hs
                have hl' : oLoad P ty (lookA (T i) x) h = some (.value v, h, none) := by
                  refine oLoad_same hl fun b' m' hlh' => ?_
                  rw [hlh] at hlh'
                  simp only [Option.some.injEq, Prod.mk.injEq] at hlh'
                  obtain ⟨rfl, rfl⟩ := hlh'
                  cases ho0 : h0[b.block]? with
                  | none =>
                    exfalso
                    have : ∀ m, aload h0 b m = none := fun m => by unfold aload; rw [ho0]
                    unfold loadH at hlh
                    split at hlh
                    · rename_i b' d' i' h1 h2 h3
                      simp only [Option.some.injEq, Prod.mk.injEq] at hlh
                      obtain ⟨rfl, _⟩ := hlh
                      simp [oLoad, h1, h2, h3, this] at hl
                    · cases hlh
                  | some o0 =>
                    obtain ⟨o2, ho2, q1, q2, q3, q4, q5⟩ := MM.h1 _ _ ho0
                    refine aload_same ho0 ho2 q1 q2 q3 fun z hz1 hz2 => q5 z fun j c us hj hst hdn hcb hz => ?_
                    by_cases e : i = j
                    · subst e
                      rw [← hE] at hst
                      cases hst
                    · obtain ⟨oj, hoj, _, _⟩ := op_at S hj
                      rcases (memB_spec hmem hj (eff_at S hj) hst hi e hEi hoj).2.2 b m (by rw [← hE]) with hw | hdj
                      · have h9 : listed.getD j false = true := hdn
                        rw [behind j oj hoj hw] at h9
                        cases h9
                      · have := disj_spec hdj hcb.symm
                        omega
                have hso : sOp P (lookA (T i)) o1 h = some (.value v, h, none) := by simp only [sOp, hop]; exact hl'
                obtain ⟨n', e1, e2, _⟩ := sOp_ok P hrec.2.2.1 s h w _ _ o1 _ H.mr hρ hso
                unfold Oper.wp
                rw [e1]
                cases n' <;> simp only [NR] at e2
                exact still _ _ (by rw [← hE]) (by rw [← hE]) (by rw [← hE]; exact e2) (Gr.refl w)
              · cases hs
            · split at hs
              · rename_i v x1 x2 hso
                have hE := inj _ hs
                have H1 := reads (by rw [← hE])
                obtain ⟨n', e1, e2, _⟩ := sOp_ok P hrec.2.2.1 s h0 w _ _ o1 _ (mr0 H1) hρ hso
                unfold Oper.wp
                rw [e1]
                cases n' <;> simp only [NR] at e2
                exact still _ _ (by rw [← hE]) (by rw [← hE]) (by rw [← hE]; exact e2) (Gr.refl w)
              · split at hs
                · rename_i hopb
                  simp only [Bool.and_eq_true] at hopb
                  obtain ⟨_, hblw⟩ := hopb
                  split at hs
                  · rename_i v h1 m3 hca
                    split at hs
                    · rename_i hcond
                      simp only [Bool.and_eq_true] at hcond
                      obtain ⟨⟨hq3, hrv⟩, hro⟩ := hcond
                      have hE := inj _ hs
                      have H1 := reads (by rw [← hE])
                      have enid : h0.length + (N i).length - h0.length = (N i).length := by omega
                      rw [enid] at hca
                      have HP := (H1.pad (N i).length).here
                      rw [List.length_append, List.length_replicate] at HP
                      obtain ⟨s', n', w', e1, hle1, H', e2⟩ := aOp_ok P hrec.2.2.1 w (h0.length + (N i).length) s0 _ w _ (a.eval ·) o1 _ HP (fun y hy => (hρ y hy).blw hbel (List.all_eq_true.1 hblw y (by simpa using hy))) hca (quietB_ok hq3)
                      simp only at H' e2
                      unfold Oper.wp
                      rw [e1]
                      cases n' <;> simp only [NR] at e2
                      rename_i v'
                      have hvr := e2
                      have hb : (E i).b = h1.drop (h0.length + (N i).length) := by rw [← hE]
                      have hst : (E i).st = none := by rw [← hE]
                      have hv0 : (E i).v = v := by rw [← hE]
                      rw [← hb] at hrv hro
                      have hfit : h0.length + (N i).length + (E i).b.length ≤ h.length := by rw [MM.hl]; have := N_fit S hi; omega
                      have hlive : ∀ x, liveB h0 x = true → x < h0.length ∧ ∃ p, s0 x = some p := by
                        intro x hx
                        unfold liveB at hx
                        split at hx
                        · rename_i o ho
                          obtain ⟨p, hp, _⟩ := H1.obj x o ho hx
                          exact ⟨(List.getElem?_eq_some_iff.1 ho).1, p, hp⟩
                        · cases hx
                      obtain ⟨H2, hle2, hok⟩ := H.layNew (q := h0.length + (N i).length) (bs := (E i).b) hfit (by omega) (fun x hx1 hx2 => by
                          have hy : x - (h0.length + (N i).length) < (E i).b.length := by omega
                          have := (MM.h3 i (x - (h0.length + (N i).length)) _ hi (List.getElem?_eq_getElem hy) hnd).2
                          rwa [show h0.length + (N i).length + (x - (h0.length + (N i).length)) = x by omega] at this)
                        H' (fun x o ho => by rw [hb, List.getElem?_drop] at ho; exact ho) (old := liveB h0) (fun x hx => by have := (hlive x hx).1; omega)
                        (fun x hx => by
                          obtain ⟨hx1, p, hp⟩ := hlive x hx
                          rw [hbel x hx1, hp]
                          exact hle1 x p hp) hro
                      refine hK _ _ ⟨_, putA t o1.dst (E i).v, _, hle.trans hle2, fun j hj => ?_, put_ok (ht.mono hle2) o1.dst ?_, by cases hq : o1.dst <;> simp [Act.put, hdf], H2, fun hh => (H0 (hno hh)).grow H'.grown.gr, ?_, ?_⟩
                      · rw [if_neg (by omega)]; exact hbel j hj
                      · rw [hv0]; exact hvr.refs hok 6 hrv
                      · rw [hmask]; exact mt_next hd M hi ho
                      · rw [hmask]
                        exact mh_new S MM hi hst _ fun q hq => if_neg hq
                    · cases hs
                  · cases hs
                · cases hs
    · cases hs
  · rename_i hwt
    rw [if_neg hwt]
    have hE := inj _ hs
    exact still _ _ (by rw [← hE]) (by rw [← hE]) (by rw [← hE]; exact .same rfl) (Gr.refl w)

/-- How many of the head's operations are not done. -/
def left (n : Nat) (listed : Array Bool) : Nat := ((List.range n).filter fun i => !listed.getD i false).length
theorem left_zero {n : Nat} {listed : Array Bool} (h : left n listed = 0) {i : Nat} (hi : i < n) : listed.getD i false = true := by
  unfold left at h
  have h1 := List.length_eq_zero_iff.1 h
  cases hq : listed.getD i false with
  | true => rfl
  | false =>
    have : i ∈ (List.range n).filter fun i => !listed.getD i false := List.mem_filter.2 ⟨List.mem_range.2 hi, by simp only [hq]; rfl⟩
    rw [h1] at this
    cases this
theorem filter_drop_one {p q : Nat → Bool} : ∀ (l : List Nat) (i : Nat), l.Nodup → i ∈ l → p i = true → q i = false → (∀ j, j ≠ i → q j = p j) → (l.filter q).length + 1 = (l.filter p).length
  | [], i, _, hi, _, _, _ => by cases hi
  | x :: l, i, hn, hi, hp, hq, he => by
    rw [List.nodup_cons] at hn
    by_cases e : x = i
    · subst e
      have : l.filter q = l.filter p := List.filter_congr fun j hj => he j fun e => hn.1 (e ▸ hj)
      simp [hp, hq, this]
    · have hi' : i ∈ l := by
        rcases List.mem_cons.1 hi with h | h
        · exact absurd h.symm e
        · exact h
      have ih := filter_drop_one l i hn.2 hi' hp hq he
      rw [List.filter_cons, List.filter_cons, he x e]
      split
      · simp; omega
      · exact ih
theorem left_next {n : Nat} {listed : Array Bool} {i : Nat} (hi : i < n) (hs : i < listed.size) (hu : listed.getD i false = false) : left n (listed.setIfInBounds i true) + 1 = left n listed := by
  unfold left
  refine filter_drop_one (List.range n) i List.nodup_range (List.mem_range.2 hi) (by rw [hu]; rfl) ?_ fun j hj => ?_
  · have h7 : (listed.setIfInBounds i true).getD i false = (listed.getD i false || i == i) := congrFun (mask_next hs) i
    rw [h7]
    simp
  · rw [getD_set_ne false (Ne.symm hj)]

theorem readyB_spec {listed : Array Bool} {i : Nat} (h : readyB ops listed i = true) : i ∈ Region.ready .any ops listed := by
  unfold readyB at h
  split at h
  · rename_i o ho
    simp only [Bool.and_eq_true, Bool.not_eq_true'] at h
    refine mem_ready.2 ⟨h.1, o, ho, fun e he hb => ?_⟩
    have := List.all_eq_true.1 h.2 e (by simpa using he)
    simpa [hb] using this
  · cases h
theorem tail_waitsL {base listed : Array Bool} (hs : sinkL ops n base = true) (hb : ∀ i, base.getD i false = true → listed.getD i false = true) (hc : ∀ t, n < t → t < ops.size → ∃ j, n ≤ j ∧ j < ops.size ∧ Region.waitsFor .any ops t j = true) (hn : n < ops.size) (inv : HeadInv .any ops n listed) :
    ∀ (d i : Nat), n - i = d → i < n → listed.getD i true = false → ∀ t, n ≤ t → t ∉ Region.ready .any ops listed := by
  intro d
  induction d using Nat.strongRecOn with
  | _ d ih =>
    intro i hd hi hun t ht hr
    obtain ⟨_, ot, hot, hall⟩ := mem_ready.1 hr
    have htlt : t < ops.size := (Array.getElem?_eq_some_iff.1 hot).1
    by_cases htn : t = n
    · subst htn
      have h1 := List.all_eq_true.1 hs i (List.mem_range.2 hi)
      simp only [Bool.or_eq_true] at h1
      rcases h1 with h1 | h1
      · have := hb i h1
        rw [getD_both hun] at this
        cases this
      obtain ⟨j, hj, hj2⟩ := List.any_eq_true.1 h1
      simp only [Bool.and_eq_true, decide_eq_true_eq] at hj2
      obtain ⟨oj, hoj, e, he, hb', hon⟩ := Region.waitsFor_spec hj2.2
      have hjle : j ≤ t := by have := List.mem_range.1 hj; omega
      by_cases hjt : j = t
      · subst hjt
        have : oj = ot := Option.some.inj (hoj.symm.trans hot)
        subst this
        have h2 := hall e he hb'
        rw [hon, getD_both hun] at h2
        cases h2
      · cases hl : listed.getD j false with
        | true =>
          have h2 := inv.closed j oj hoj hl e he hb'
          rw [hon, getD_both hun] at h2
          cases h2
        | false =>
          have hjs : j < listed.size := by rw [inv.size]; omega
          exact ih (t - j) (by omega) j rfl (by omega) (getD_in hjs hl) t (Nat.le_refl _) hr
    · obtain ⟨j, hj1, hj2, h1⟩ := hc t (by omega) htlt
      obtain ⟨o', ho', e, he, hb', hon⟩ := Region.waitsFor_spec h1
      have : o' = ot := Option.some.inj (ho'.symm.trans hot)
      subst this
      have h2 := hall e he hb'
      rw [hon, getD_both (inv.tail j hj1 hj2)] at h2
      cases h2
theorem chain_back (hc : Region.chainB .any ops n = true) : ∀ t, n < t → t < ops.size → ∃ j, n ≤ j ∧ j < ops.size ∧ Region.waitsFor .any ops t j = true := by
  intro t ht hlt
  have h1 := List.all_eq_true.1 hc t (List.mem_range.2 hlt)
  simp only [Bool.or_eq_true, decide_eq_true_eq] at h1
  rcases h1 with h1 | h1
  · omega
  · exact ⟨t - 1, by omega, by omega, h1⟩
theorem prep_ok (hng : NoNG P) (hacc : rec.acc = accP) (S : HeadSpec P rec ops h0 ops.toList 0 n t0 [] t' l' es T E N) (hd : depsB ops n = true) (hsel : Region.noSelect ops = true) {k : Nat} (hcs : Bnd k (headM es)) {wb : Wb} {s0 : Ren} {Q : Exit → Act → World → Prop} (hQp : ∀ c a w, ¬ Q (.panic c) a w) {g : Nat} {w : World} :
    ∀ (l : List Nat) (listed : Array Bool) (a : Act), (∀ i ∈ l, i < n) → HeadInv .any ops n listed → Mid ops n t0 h0 E N wb k s0 listed a w →
    (∀ a', HeadInv .any ops n (prepL ops es l listed) → Mid ops n t0 h0 E N wb k s0 (prepL ops es l listed) a' w → wpAny P .any ops Q (left n (prepL ops es l listed) + g) (prepL ops es l listed) a' w) →
    wpAny P .any ops Q (left n listed + g) listed a w
  | [], listed, a, _, inv, J, h => h a inv J
  | i :: is, listed, a, hl, inv, J, h => by
    simp only [prepL] at h
    split at h
    · rename_i hc
      simp only [Bool.and_eq_true] at hc
      obtain ⟨⟨hp, hrd⟩, hfr⟩ := hc
      have hi : i < n := hl i (by simp)
      have hr := readyB_spec hrd
      have hp' : pureE (E i) = true := by
        unfold pureAt at hp
        rw [eff_at S hi] at hp
        exact hp
      obtain ⟨o, v, ho, hy, J'⟩ := mid_pure hng hacc S hd inv J hr hi hp' (headM_bnd hcs i _ (eff_at S hi)).2
      have hisz : i < listed.size := by rw [inv.size]; exact (Array.getElem?_eq_some_iff.1 ho).1
      have hln := left_next hi hisz (getD_both (mem_ready.1 hr).1)
      rw [show left n listed + g = (left n (listed.setIfInBounds i true) + g) + 1 by omega]
      refine wpAny_take ho hsel hfr (by simpa using hr) (fun c a w h => absurd h (hQp c _ w)) hy ?_
      exact prep_ok hng hacc S hd hsel hcs hQp is _ _ (fun j hj => hl j (by simp [hj])) (inv.set hr hi) J' h
    · exact prep_ok hng hacc S hd hsel hcs hQp is listed a (fun j hj => hl j (by simp [hj])) inv J h
theorem head_any (S : HeadSpec P rec ops h0 ops.toList 0 n t0 [] t' l' es T E N) (hd : depsB ops n = true) (hrec : RecOk P rec) (hmem : memB ops n es = true) {k : Nat} (hcs : Bnd k (headM es)) (hnl : n ≤ ops.size) {base : Array Bool} (hs : n < ops.size → sinkL ops n base = true ∧ ∀ t, n < t → t < ops.size → ∃ j, n ≤ j ∧ j < ops.size ∧ Region.waitsFor .any ops t j = true)
    {wb : Wb} {s0 : Ren} (hk : k ≤ h0.length) {Q : Exit → Act → World → Prop} {g : Nat}
    (hend : ∀ listed a w, HeadInv .any ops n listed → (∀ i, i < n → listed.getD i false = true) → Mid ops n t0 h0 E N wb k s0 listed a w → wpAny P .any ops Q g listed a w) :
    ∀ (f : Nat) (listed : Array Bool) (a : Act) (w : World), HeadInv .any ops n listed → (∀ i, base.getD i false = true → listed.getD i false = true) → left n listed = f → Mid ops n t0 h0 E N wb k s0 listed a w → wpAny P .any ops Q (f + g) listed a w
  | 0, listed, a, w, inv, _, hl, J => by rw [Nat.zero_add]; exact hend listed a w inv (fun i hi => left_zero hl hi) J
  | f + 1, listed, a, w, inv, hbs, hl, J => by
    -- one that is not done, the first of them
    have hex : ∃ i, i < n ∧ listed.getD i false = false := by
      rcases Classical.em (∃ i, i < n ∧ listed.getD i false = false) with h | h
      · exact h
      · have : (List.range n).filter (fun i => !listed.getD i false) = [] := List.filter_eq_nil_iff.2 fun i hi => by
          have hi' := List.mem_range.1 hi
          cases hq : listed.getD i false with
          | true => simp
          | false => exact absurd ⟨i, hi', hq⟩ h
        unfold left at hl
        rw [this] at hl
        cases hl
    have hfirst : ∃ i, i < n ∧ listed.getD i false = false ∧ ∀ j, j < i → listed.getD j false = true := by
      obtain ⟨i, hi, hu⟩ := hex
      induction i using Nat.strongRecOn with
      | _ i ih =>
        rcases Classical.em (∃ j, j < i ∧ listed.getD j false = false) with ⟨j, hj, hju⟩ | h
        · exact ih j hj (by omega) hju
        · refine ⟨i, hi, hu, fun j hj => ?_⟩
          cases hq : listed.getD j false with
          | true => rfl
          | false => exact absurd ⟨j, hj, hq⟩ h
    obtain ⟨i, hi, hu, hbel⟩ := hfirst
    have hisz : i < listed.size := by rw [inv.size]; omega
    obtain ⟨o, ho, _, _⟩ := op_at S hi
    have hri : i ∈ Region.ready .any ops listed := mem_ready.2 ⟨getD_in hisz hu, o, ho, fun e he hb => hbel _ ((depsB_spec hd hi ho).1 e he hb)⟩
    rw [show f + 1 + g = (f + g) + 1 by omega]
    refine ⟨fun h0 => (by rw [h0] at hri; cases hri), fun j hj => ?_⟩
    have hjn : j < n := by
      rcases Nat.lt_or_ge j n with h | h
      · exact h
      · obtain ⟨_, oj, hoj, _⟩ := mem_ready.1 hj
        have hjs := (Array.getElem?_eq_some_iff.1 hoj).1
        obtain ⟨h1, h2⟩ := hs (by omega)
        exact absurd hj (tail_waitsL h1 hbs h2 (by omega) inv _ i rfl hi (getD_in hisz hu) j h)
    have hju := getD_both (mem_ready.1 hj).1
    have hjs : j < listed.size := by rw [inv.size]; omega
    refine mid_op S hd hrec hmem hcs hk inv J hj hjn fun a' w' J' => ?_
    refine head_any S hd hrec hmem hcs hnl hs hk hend f _ a' w' (inv.set hj hjn) (fun m hm => ?_) ?_ J'
    · have h8 := congrFun (mask_next (listed := listed) hjs) m
      rw [hbs m hm] at h8
      simpa using h8
    have := left_next hjn hjs hju
    omega
/-- The text's own order leaves what every order leaves. -/
theorem lexHeap_ok (S : HeadSpec P rec ops h0 ops.toList 0 n t0 [] t' l' es T E N) (hmem : memB ops n es = true) {s : Ren} {h' : List AO} : ∀ (f i : Nat) (h : List AO), f + i = n → MH n h0 E N (fun j => decide (j < i)) h (fun j => if j < h0.length then s j else none) →
    lexHeap h0.length (es.drop i) (h0.length + (N i).length) h = some h' → MH n h0 E N (fun _ => true) h' (fun j => if j < h0.length then s j else none)
  | 0, i, h, hi, M, hr => by
    obtain rfl : i = n := by omega
    have hlen : es.length = i := by have := S.len; omega
    rw [List.drop_eq_nil_of_le (by omega)] at hr
    simp only [lexHeap, Option.some.injEq] at hr
    subst hr
    refine ⟨M.hl, fun x o hx => ?_, fun j y cs hj hb _ => M.h2 j y cs hj hb (by simpa using hj), fun j y cs hj hb hf => by cases hf⟩
    obtain ⟨o', g1, g2, g3, g4, g5, g6⟩ := M.h1 x o hx
    exact ⟨o', g1, g2, g3, g4, fun j a vs y hj hst _ => g5 j a vs y hj hst (by simpa using hj), fun z hz => g6 z fun j a vs hj hst _ => hz j a vs hj hst rfl⟩
  | f + 1, i, h, hi, M, hr => by
    have hin : i < n := by omega
    have hEi := eff_at S hin
    have hlt : i < es.length := (List.getElem?_eq_some_iff.1 hEi).1
    rw [List.drop_eq_getElem_cons hlt, (List.getElem?_eq_some_iff.1 hEi).2] at hr
    simp only [lexHeap] at hr
    obtain ⟨o, _, _, _, hN⟩ := S.step i (by omega) hin
    have hmask : (fun j => decide (j < i + 1)) = fun j => decide (j < i) || j == i := by
      funext j
      by_cases e : j = i
      · subst e; simp
      · have : (j == i) = false := by simpa using e
        rw [this, Bool.or_false]
        exact decide_eq_decide.2 (by omega)
    split at hr
    · rename_i hb hst
      refine lexHeap_ok S hmem f (i + 1) h (by omega) ?_ (by rw [hN, hb]; simpa [addNew] using hr)
      rw [hmask]
      exact mh_still M hst hb
    · rename_i b bs hb hst
      refine lexHeap_ok S hmem f (i + 1) _ (by omega) ?_ (by rw [hN, hb]; simpa only [addNew, List.length_append, Nat.add_assoc] using hr)
      rw [hmask]
      have := mh_new S M hin hst (fun j => if j < h0.length then s j else none) fun _ _ => rfl
      rw [hb] at this
      exact this
    · rename_i a vs hb hst
      split at hr
      · rename_i hbl
        split at hr
        · rename_i h1 hs1
          refine lexHeap_ok S hmem f (i + 1) h1 (by omega) ?_ (by rw [hN, hb]; simpa [addNew] using hr)
          rw [hmask]
          have ho0 : h0[a.block]? = some h0[a.block] := List.getElem?_eq_getElem hbl
          obtain ⟨o2, ho2, q1, q2, q3, _, _⟩ := M.h1 _ _ ho0
          refine mh_store S hmem M hin hb hst ho0 ?_ hs1
          unfold astore at hs1
          rw [ho2] at hs1
          simp only at hs1
          split at hs1
          · rename_i hc
            simp at hc
            omega
          · cases hs1
        · cases hr
      · cases hr
    · cases hr

theorem drawA_any (P : Program) {rec : Rec} (hrec : RecOk P rec) {ops : Array Oper} {x x' : St} (hr : drawA P rec ops x = some x') {wb : Wb} {k : Nat} {s : Ren} {a : Act} {w : World} (hm : Bnd k x'.m) (HS : SR wb k s x a w) :
    P.follows .mixedOrders = true ∧ wpAny P .any ops (Post wb k s x' .normal) ops.size (Array.replicate ops.size false) a w.drew := by
  unfold drawA at hr
  cases hh : headRun P rec ops x.h ops.toList 0 x.t [] with
  | mk n tl =>
    obtain ⟨t, l, es⟩ := tl
    rw [hh] at hr
    simp only at hr
    split at hr
    · rename_i hc
      split at hr
      rotate_left
      · cases hr
      rename_i hN hlex
      simp only [Bool.and_eq_true, decide_eq_true_eq] at hc
      obtain ⟨⟨⟨⟨⟨hmix, hsel⟩, hnl⟩, hdp⟩, hmem⟩, htl⟩ := hc
      obtain ⟨T, E, N, S⟩ := headRun_spec hrec.2.2.2 _ _ _ _ _ _ _ _ hh
      have hcs : Bnd k (headM es) := (bnd_low (seqA_low hr hm)).2
      refine ⟨hmix, ?_⟩
      have H0 : HR wb k s x.h w.drew := HS.h.drew
      have hlf : MH n x.h E N (fun _ => true) hN (fun j => if j < x.h.length then s j else none) := by
        refine lexHeap_ok S hmem n 0 _ (by omega) ?_ (by simpa [S.l0] using hlex)
        rw [show (fun j => decide (j < 0)) = fun _ => false by funext j; simp, ← S.ln]
        exact mh_start S fun i hi => if_neg (by omega)
      have J : Mid ops n x.t x.h E N wb k s (Array.replicate ops.size false) a w.drew := by
        have e : (fun i => (Array.replicate ops.size false).getD i false) = fun _ => false := by funext i; exact getD_replicate_false _ _
        refine ⟨s, x.t, _, Le.refl s, fun _ _ => rfl, HS.t, HS.d, H0.pad (N n).length, fun _ => H0, ?_, ?_⟩
        · rw [e]; exact mt_start
        · rw [e]; exact mh_start S H0.dom
      have inv : HeadInv .any ops n (Array.replicate ops.size false) :=
        ⟨by simp, fun j _ _ hl => (by rw [getD_replicate_false] at hl; cases hl), fun t _ h2 => getD_in (by simpa using h2) (getD_replicate_false _ _)⟩
      have hleft : left n (Array.replicate ops.size false) = n := by
        unfold left
        rw [List.filter_eq_self.2 fun i _ => by rw [getD_replicate_false]; rfl]
        simp
      have hsc : n < ops.size → sinkL ops n (baseOf ops n es) = true ∧ ∀ t, n < t → t < ops.size → ∃ j, n ≤ j ∧ j < ops.size ∧ Region.waitsFor .any ops t j = true := by
        intro hlt
        unfold tailL at htl
        simp only [Bool.or_eq_true, beq_iff_eq, Bool.and_eq_true, decide_eq_true_eq] at htl
        rcases htl with h | h
        · omega
        · exact ⟨h.1.1.2, chain_back h.1.2⟩
      have A := head_any S hdp hrec hmem hcs hnl hsc (wb := wb) (s0 := s) HS.h.kle (Q := Post wb k s x' .normal) (g := ops.size - n) (fun listed a' w' inv' hall J' => ?_)
      · have e2 : left n (Array.replicate ops.size false) + (ops.size - n) = ops.size := by omega
        have fin : wpAny P .any ops (Post wb k s x' .normal) (left n (Array.replicate ops.size false) + (ops.size - n)) (Array.replicate ops.size false) a w.drew := by
          by_cases hb0 : (n == ops.size || Region.sinkB .any ops n) = true
          · have e : baseOf ops n es = Array.replicate ops.size false := by unfold baseOf; rw [if_pos hb0]
            rw [e] at A
            exact A _ _ a w.drew inv (fun i hi => hi) rfl J
          · have e : baseOf ops n es = prepL ops es (List.range n) (Array.replicate ops.size false) := by unfold baseOf; rw [if_neg hb0]
            rw [e] at A
            exact prep_ok hrec.2.2.1 hrec.2.2.2 S hdp hsel hcs (Q := Post wb k s x' .normal) (fun c a w h => by cases h.1) (List.range n) _ a (fun i hi => List.mem_range.1 hi) inv J fun a' inv' J' => A _ _ a' w.drew inv' (fun i hi => hi) rfl J'
        rwa [e2] at fin
      · obtain ⟨s', t2, h2, hle, _, ht, hdf, H, _, M, MM⟩ := J'
        obtain rfl := mt_full S hdp M hall
        obtain rfl := mh_same S MM hlf hall fun _ _ => rfl
        have hQ : ∀ s'' a'' w'', Le s' s'' → SR wb k s'' x' a'' w'' → Post wb k s x' .normal .normal a'' w'' := fun s'' a'' w'' hle' hsr => ⟨rfl, s'', hle.trans hle', hsr⟩
        have hL := seqA_ok (aOp_ok P hrec.2.2.1) hrec hr hm (wb := wb) (k := k) (s := s') (a := a') (w := w') ⟨ht, hdf, H⟩ (Q := Post wb k s x' .normal) hQ
        have hlen : (ops.toList.drop n).length = ops.size - n := by simp
        have hmask : listed = lexMask ops n := by
          apply Array.ext_getElem?
          intro i
          have e0 : (lexMask ops n)[i]? = (List.replicate n true ++ List.replicate (ops.size - n) false)[i]? := by
            unfold lexMask
            simp
          rw [e0]
          rcases Nat.lt_or_ge i n with hi | hi
          · have := hall i hi
            have hisz : i < listed.size := by rw [inv'.size]; omega
            rw [List.getElem?_append_left (by simpa using hi), List.getElem?_replicate, if_pos hi]
            rw [Array.getElem?_eq_getElem hisz]
            simpa [hisz] using this
          · rw [List.getElem?_append_right (by simpa using hi), List.getElem?_replicate]
            simp only [List.length_replicate]
            by_cases hlt : i < ops.size
            · have := inv'.tail i hi hlt
              have hisz : i < listed.size := by rw [inv'.size]; omega
              rw [if_pos (by omega), Array.getElem?_eq_getElem hisz]
              simpa [hisz] using this
            · rw [if_neg (by omega), Array.getElem?_eq_none (by rw [inv'.size]; omega)]
        have hseq : Region.seqB .any ops (ops.size - n) n listed = true := by
          unfold tailL at htl
          simp only [Bool.or_eq_true, beq_iff_eq, Bool.and_eq_true, decide_eq_true_eq] at htl
          rcases htl with h | h
          · rw [h, Nat.sub_self]
            simp only [Region.seqB, List.isEmpty_iff]
            refine List.filter_eq_nil_iff.2 fun i hi => ?_
            have hi' := List.mem_range.1 hi
            have := hall i (by omega)
            have hisz : i < listed.size := by rw [inv'.size]; omega
            have e : listed.getD i true = true := by
              simp [hisz] at this ⊢
              exact this
            simp [e]
          · rw [hmask]; exact h.2
        have := wpAny_of_seq (md := .any) (Q' := Post wb k s x' .normal) (ops.toList.drop n) n listed a' w' (fun j => by simp [List.getElem?_drop]) (by rw [hlen]; exact hseq) hL
        rwa [hlen] at this
    · cases hr

end
theorem drawA_ok (P : Program) : DrawOk P (drawA P) := by
  intro rec hrec ops x x' hr wb k s id a w hm HS
  obtain ⟨h1, h2⟩ := drawA_any P hrec hr hm HS
  exact wp_region_any h1 h2
end Go.Proofs.YtokeopmmnpmfeaaDoor.Ex
end
section
namespace Go.Proofs.YtokeopmmnpmfeaaDoor.Ex
set_option maxRecDepth 20000

open Go Go.RowKit

/-! The same values: what numbers must be the same for it. -/
def optA (a b : Option Addr) : Bool := decide (a = b)
def veq0 : Value → Value → Bool
  | .bool a, .bool b => a == b
  | .string a, .string b => a.data.toList == b.data.toList
  | .pointer a, .pointer b => optA a b
  | .slice a l c, .slice b m d => optA a b && l == m && c == d
  | .map a, .map b => a == b
  | .nilFunc, .nilFunc => true
  | .nilIface, .nilIface => true
  | _, _ => false
theorem arr_ext {α : Type} {a b : Array α} (h : a.toList = b.toList) : a = b := by cases a; cases b; simp at h; rw [h]
theorem veq0_ok {x y : Value} (h : veq0 x y = true) : x = y := by
  unfold veq0 at h
  split at h
  case h_2 a b => rw [ByteArray.ext (arr_ext (eq_of_beq h))]
  all_goals simp_all [optA]
def Hold (c : Cs) : Prop := ∀ x ∈ c, x.1 = x.2
theorem Hold.app {a b : Cs} (h : Hold (a ++ b)) : Hold a ∧ Hold b := ⟨fun x hx => h x (List.mem_append_left _ hx), fun x hx => h x (List.mem_append_right _ hx)⟩
def cmpL (p : Value → Value → Option Cs) : List Value → List Value → Option Cs
  | [], [] => some []
  | x :: xs, y :: ys =>
    match p x y with
    | some a =>
      match cmpL p xs ys with
      | some b => some (a ++ b)
      | none => none
    | none => none
  | _, _ => none
theorem cmpL_ok {p : Value → Value → Option Cs} (hp : ∀ x y c, p x y = some c → Hold c → x = y) : ∀ {xs ys : List Value} {c : Cs}, cmpL p xs ys = some c → Hold c → xs = ys
  | [], [], _, _, _ => rfl
  | x :: xs, y :: ys, c, h, hc => by
    simp only [cmpL] at h
    split at h
    · rename_i a ha
      split at h
      · rename_i b hb
        cases h
        obtain ⟨h1, h2⟩ := hc.app
        rw [hp x y a ha h1, cmpL_ok hp hb h2]
      · cases h
    · cases h
  | [], _ :: _, _, h, _ => by simp [cmpL] at h
  | _ :: _, [], _, h, _ => by simp [cmpL] at h
theorem veqc {x y : Value} {c : Cs} (h : (if veq0 x y then some [] else none) = some c) : x = y := by
  split at h
  · rename_i hv; exact veq0_ok hv
  · cases h
def cmpF : Nat → Value → Value → Option Cs
  | 0, x, y => if veq0 x y then some [] else none
  | n + 1, x, y =>
    match x, y with
    | .int k a, .int j b => if k = j then some [(a, b)] else none
    | .agg a, .agg b => cmpL (cmpF n) a.toList b.toList
    | .tuple a, .tuple b => cmpL (cmpF n) a.toList b.toList
    | .iface t a, .iface u b => if t = u then cmpF n a b else none
    | .func (.func f) a c, .func (.func g) b d =>
      if f == g then
        match cmpL (cmpF n) a.toList b.toList, cmpL (cmpF n) c.toList d.toList with
        | some x, some y => some (x ++ y)
        | _, _ => none
      else none
    | x, y => if veq0 x y then some [] else none
theorem cmpF_ok : ∀ (n : Nat) (x y : Value) (c : Cs), cmpF n x y = some c → Hold c → x = y
  | 0, x, y, c, h, _ => veqc h
  | n + 1, x, y, c, h, hc => by
    have ih := cmpF_ok n
    unfold cmpF at h
    split at h
    · split at h
      · rename_i k a j b hk
        cases h
        rw [hk, show a = b from hc (a, b) (by simp)]
      · cases h
    · rw [arr_ext (cmpL_ok ih h hc)]
    · rw [arr_ext (cmpL_ok ih h hc)]
    · split at h
      · rename_i hu
        rw [hu, ih _ _ _ h hc]
      · cases h
    · split at h
      · rename_i hfg
        split at h
        · rename_i h1 h2
          cases h
          simp only [beq_iff_eq] at hfg
          rw [hfg, arr_ext (cmpL_ok ih h1 hc.app.1), arr_ext (cmpL_ok ih h2 hc.app.2)]
        · cases h
      · cases h
    · exact veqc h
def cmp0 : Value → Value → Option Cs := cmpF 6
theorem cmp0_ok (x y : Value) (c : Cs) (h : cmp0 x y = some c) (hc : Hold c) : x = y := cmpF_ok 6 x y c h hc
def cmpV : Value → Value → Option Cs := cmpF 6
theorem cmpV_ok (x y : Value) (c : Cs) (h : cmpV x y = some c) (hc : Hold c) : x = y := cmpF_ok 6 x y c h hc
def cmpH : List AO → List AO → Option Cs
  | [], [] => some []
  | x :: xs, y :: ys =>
    if x.live == y.live && x.es == y.es then
      match cmpL cmp0 x.cs y.cs with
      | some a =>
        match cmpH xs ys with
        | some b => some (a ++ b)
        | none => none
      | none => none
    else none
  | _, _ => none
theorem cmpH_ok : ∀ {xs ys : List AO} {c : Cs}, cmpH xs ys = some c → Hold c → xs = ys
  | [], [], _, _, _ => rfl
  | x :: xs, y :: ys, c, h, hc => by
    simp only [cmpH] at h
    split at h
    · rename_i hle
      split at h
      · rename_i a ha
        split at h
        · rename_i b hb
          cases h
          obtain ⟨h1, h2⟩ := hc.app
          simp only [Bool.and_eq_true, beq_iff_eq] at hle
          obtain ⟨l1, e1, c1⟩ := x
          obtain ⟨l2, e2, c2⟩ := y
          simp only at hle ha
          rw [hle.1, hle.2, cmpL_ok cmp0_ok ha h1, cmpH_ok hb h2]
        · cases h
      · cases h
    · cases h
  | [], _ :: _, _, h, _ => by simp [cmpH] at h
  | _ :: _, [], _, h, _ => by simp [cmpH] at h

def stepE (P : Program) (rec : Rec) (ops : Array Oper) (i : Nat) (x : St) : Option St :=
  match ops[i]? with
  | none => none
  | some o => if wantedA ops x.t o then operA P (aOp P) rec o x else some ⟨putA x.t o.dst undef, x.h, x.m⟩
/-- What must be so that all others leave what the first one leaves. -/
def allE (f : Nat → Option St) (y : St) : List Nat → Option Cs
  | [] => some []
  | j :: js =>
    match f j with
    | some z =>
      if z.m.1 == y.m.1 then
        match cmpL cmpV z.t y.t, cmpH z.h y.h, allE f y js with
        | some a, some b, some cs => some (z.m.2 ++ (a ++ (b ++ cs)))
        | _, _, _ => none
      else none
    | none => none
/-- An operation that looks at no memory. -/
def pureStep (P : Program) (ops : Array Oper) (i : Nat) (x : St) : Option St :=
  match ops[i]? with
  | none => none
  | some o =>
    if wantedA ops x.t o then
      if o.op.operands.toList.all (okX x.h) then
        match sOp P (lookA x.t) o [] with
        | some (.value v, _, _) => some ⟨putA x.t o.dst v, x.h, x.m⟩
        | _ => none
      else none
    else some ⟨putA x.t o.dst undef, x.h, x.m⟩
def firstPure (P : Program) (ops : Array Oper) (listed : Array Bool) (x : St) : List Nat → Option (Nat × St)
  | [] => none
  | i :: is =>
    if Region.free .any ops listed i then
      match pureStep P ops i x with
      | some x' => some (i, x')
      | none => firstPure P ops listed x is
    else firstPure P ops listed x is
def explore (P : Program) (rec : Rec) (ops : Array Oper) : Nat → Array Bool → St → Option St
  | 0, listed, x => if (Region.ready .any ops listed).isEmpty then some x else none
  | f + 1, listed, x =>
    match Region.ready .any ops listed with
    | [] => some x
    | i :: is =>
      match firstPure P ops listed x (i :: is) with
      | some (j, x') => explore P rec ops f (listed.setIfInBounds j true) x'
      | none =>
        let go := fun j =>
          match stepE P rec ops j x with
          | some x' => explore P rec ops f (listed.setIfInBounds j true) x'
          | none => none
        match go i with
        | some y =>
          match allE go y is with
          | some cs => some ⟨y.t, y.h, (y.m.1, y.m.2 ++ cs)⟩
          | none => none
        | none => none
theorem allE_ok {f : Nat → Option St} {y : St} : ∀ {l : List Nat} {cs : Cs}, allE f y l = some cs → Hold cs → ∀ j ∈ l, ∃ z, f j = some z ∧ z.m.1 = y.m.1 ∧ Hold z.m.2 ∧ z.t = y.t ∧ z.h = y.h
  | [], _, _, _, j, hj => by cases hj
  | i :: l, cs, h, hc, j, hj => by
    simp only [allE] at h
    split at h
    · rename_i z hz
      split at h
      · rename_i hm
        split at h
        · rename_i a b cs' ha hb hcs
          cases h
          simp only [beq_iff_eq] at hm
          obtain ⟨h1, h2⟩ := hc.app
          obtain ⟨h2, h3⟩ := h2.app
          obtain ⟨h3, h4⟩ := h3.app
          rcases List.mem_cons.1 hj with e | e
          · exact ⟨z, by rw [e]; exact hz, hm, h1, cmpL_ok cmpV_ok ha h2, cmpH_ok hb h3⟩
          · exact allE_ok hcs h4 j e
        · cases h
      · cases h
    · cases h
section
variable {P : Program} {rec : Rec} {ops : Array Oper}
theorem stepE_low {i : Nat} {x x' : St} (hr : stepE P rec ops i x = some x') {k : Nat} (hm : Bnd k x'.m) : Bnd k x.m := by
  unfold stepE at hr
  split at hr
  · cases hr
  · split at hr
    · exact operA_low hr hm
    · cases hr; exact hm
theorem stepE_ok (hrec : RecOk P rec) {i : Nat} {x x' : St} (hr : stepE P rec ops i x = some x') {wb : Wb} {k : Nat} {s : Ren} {a : Act} {w : World} (hm : Bnd k x'.m) (H : SR wb k s x a w)
    {K : Act → World → Prop} {Q : Exit → Act → World → Prop} (hn : ∀ s' a' w', Le s s' → SR wb k s' x' a' w' → K a' w') : wpOp P ops Q i K a w := by
  unfold stepE at hr
  unfold wpOp
  split at hr
  · cases hr
  · rename_i o ho
    rw [ho]
    simp only [wanted_ok H.t]
    split at hr
    · rename_i hw
      rw [if_pos hw]
      exact .inl (operA_ok (aOp_ok P hrec.2.2.1) hrec hr hm H hn)
    · rename_i hw
      rw [if_neg hw]
      cases hr
      exact hn s _ w (Le.refl s) ⟨put_ok H.t o.dst (.same rfl), by cases hd : o.dst <;> simp [Act.put, H.d], H.h⟩
theorem firstPure_spec {listed : Array Bool} {x : St} : ∀ {l : List Nat} {j : Nat} {x' : St}, firstPure P ops listed x l = some (j, x') → j ∈ l ∧ Region.free .any ops listed j = true ∧ pureStep P ops j x = some x'
  | [], j, x', h => by simp [firstPure] at h
  | i :: is, j, x', h => by
    simp only [firstPure] at h
    split at h
    · rename_i hf
      split at h
      · rename_i y hy
        cases h
        exact ⟨by simp, hf, hy⟩
      · obtain ⟨h1, h2, h3⟩ := firstPure_spec h
        exact ⟨by simp [h1], h2, h3⟩
    · obtain ⟨h1, h2, h3⟩ := firstPure_spec h
      exact ⟨by simp [h1], h2, h3⟩
theorem pureStep_m {i : Nat} {x x' : St} (hr : pureStep P ops i x = some x') : x'.m = x.m := by
  unfold pureStep at hr
  split at hr
  · cases hr
  · split at hr
    · split at hr
      · split at hr
        · cases hr; rfl
        · cases hr
      · cases hr
    · cases hr; rfl
theorem pureStep_ok (hng : NoNG P) {i : Nat} {x x' : St} (hr : pureStep P ops i x = some x') {wb : Wb} {k : Nat} {s : Ren} {a : Act} {w : World} (H : SR wb k s x a w) :
    ∃ o v, ops[i]? = some o ∧ Yields P ops o v a ∧ SR wb k s x' (a.put o.dst v) w := by
  unfold pureStep at hr
  split at hr
  · cases hr
  · rename_i o ho
    split at hr
    · rename_i hw
      split at hr
      · rename_i hok
        have hρ : ∀ y ∈ o.op.operands, VR s (lookA x.t y) (a.eval y) := fun y hy => eval_ok H.t H.h.glob (List.all_eq_true.1 hok y (by simpa using hy))
        split at hr
        · rename_i v x1 x2 hs
          cases hr
          have hall : ∀ w, Okay0 P s [] w (execOp a.eval o) (.value v, x1, x2) := fun w => sOp_ok P hng s [] w _ _ o _ (fun j p hj => by simp at hj) hρ hs
          obtain ⟨n', e1, e2, _⟩ := hall w
          cases n' <;> simp only [NR] at e2
          rename_i v'
          -- the value is the same in each world
          refine ⟨o, v', ho, .inl ⟨by rw [wanted_ok H.t]; exact hw, fun w2 => ?_⟩, ⟨put_ok H.t o.dst e2, by cases hd : o.dst <;> simp [Act.put, H.d], H.h⟩⟩
          obtain ⟨n2, g1, g2, _⟩ := hall w2
          cases n2 <;> simp only [NR] at g2
          rw [g1, VR.det g2 e2]
        · cases hr
      · cases hr
    · rename_i hw
      cases hr
      exact ⟨o, undef, ho, .inr ⟨by rw [wanted_ok H.t]; simpa using hw, rfl⟩, ⟨put_ok H.t o.dst (.same rfl), by cases hd : o.dst <;> simp [Act.put, H.d], H.h⟩⟩
theorem explore_low {k : Nat} : ∀ (f : Nat) (listed : Array Bool) (x y : St), explore P rec ops f listed x = some y → Bnd k y.m → Bnd k x.m
  | 0, listed, x, y, hr, hm => by
    simp only [explore] at hr
    split at hr
    · cases hr; exact hm
    · cases hr
  | f + 1, listed, x, y, hr, hm => by
    simp only [explore] at hr
    split at hr
    · cases hr; exact hm
    · rename_i i is _
      split at hr
      · rename_i j x' hp
        rw [← pureStep_m (firstPure_spec hp).2.2]
        exact explore_low f _ x' y hr hm
      · split at hr
        · rename_i z hz
          split at hr
          · rename_i cs hcs
            cases hr
            have hm' : Bnd k z.m := ⟨hm.1, fun c hc => hm.2 c (List.mem_append_left _ hc)⟩
            split at hz
            · rename_i x' hx'
              exact stepE_low hx' (explore_low f _ x' _ hz hm')
            · cases hz
          · cases hr
        · cases hr
theorem explore_ok (hrec : RecOk P rec) (hsel : Region.noSelect ops = true) {wb : Wb} {k : Nat} {Q : Exit → Act → World → Prop} (hQp : ∀ c a w, ¬ Q (.panic c) a w) : ∀ (f : Nat) (listed : Array Bool) (x y : St), explore P rec ops f listed x = some y → Bnd k y.m → ∀ (s : Ren) (a : Act) (w : World), SR wb k s x a w →
    (∀ s' a' w', Le s s' → SR wb k s' y a' w' → Q .normal a' w') → wpAny P .any ops Q f listed a w
  | 0, listed, x, y, hr, hm, s, a, w, H, hQ => by
    simp only [explore] at hr
    split at hr
    · rename_i he
      cases hr
      exact ⟨by simpa using he, hQ s a w (Le.refl s) H⟩
    · cases hr
  | f + 1, listed, x, y, hr, hm, s, a, w, H, hQ => by
    simp only [explore] at hr
    split at hr
    · rename_i he
      cases hr
      refine ⟨fun _ => hQ s a w (Le.refl s) H, fun i hi => ?_⟩
      rw [he] at hi
      cases hi
    · rename_i i is he
      split at hr
      · rename_i j x' hp
        obtain ⟨h1, h2, h3⟩ := firstPure_spec hp
        obtain ⟨o, v, ho, hy, H'⟩ := pureStep_ok hrec.2.2.1 h3 H
        refine wpAny_take ho hsel h2 (by rw [he]; simpa using h1) (fun c a w h => absurd h (hQp c _ w)) hy ?_
        exact explore_ok hrec hsel hQp f _ x' y hr hm s _ w H' hQ
      split at hr
      · rename_i z hz
        split at hr
        · rename_i cs hall
          cases hr
          refine ⟨fun h0 => (by rw [he] at h0; cases h0), fun j hj => ?_⟩
          have hgo : ∃ y', (match stepE P rec ops j x with
              | some x' => explore P rec ops f (listed.setIfInBounds j true) x'
              | none => none) = some y' ∧ Bnd k y'.m ∧ y'.t = z.t ∧ y'.h = z.h := by
            rw [he] at hj
            rcases List.mem_cons.1 hj with e | e
            · exact ⟨z, by rw [e]; exact hz, ⟨hm.1, fun c hc => hm.2 c (List.mem_append_left _ hc)⟩, rfl, rfl⟩
            · obtain ⟨z', g1, g2, g3, g4, g5⟩ := allE_ok hall (fun c hc => hm.2 c (List.mem_append_right _ hc)) j e
              exact ⟨z', g1, ⟨by rw [g2]; exact hm.1, g3⟩, g4, g5⟩
          obtain ⟨y', hgo, hm', ht', hh'⟩ := hgo
          split at hgo
          · rename_i x' hx'
            refine stepE_ok hrec hx' (explore_low f _ x' y' hgo hm') H fun s' a' w' hle H' => ?_
            refine explore_ok hrec hsel hQp f (listed.setIfInBounds j true) x' y' hgo hm' s' a' w' H' fun s'' a'' w'' hle' H'' => hQ s'' a'' w'' (hle.trans hle') ⟨by rw [← ht']; exact H''.t, H''.d, by rw [← hh']; exact H''.h⟩
          · cases hgo
        · cases hr
      · cases hr
end

/-- What stands behind the head's end waits for it. -/
def backB (ops : Array Oper) (n : Nat) : Bool := (List.range ops.size).all fun t => decide (t ≤ n) || (List.range t).any fun j => decide (n ≤ j) && Region.waitsFor .any ops t j
def tailX (ops : Array Oper) (n : Nat) (base : Array Bool) : Bool := decide (n < ops.size) && sinkL ops n base && backB ops n
/-- A drawn region by its head, and by all orders of what stands behind it. -/
def drawX (P : Program) : DrawFn := fun rec ops x =>
  match headRun P rec ops x.h ops.toList 0 x.t [] with
  | (n, t, l, es) =>
    if P.follows .mixedOrders && Region.noSelect ops && decide (n ≤ ops.size) && depsB ops n && memB ops n es && tailX ops n (baseOf ops n es) then
      match lexHeap x.h.length es x.h.length (x.h ++ List.replicate l.length dead) with
      | some h => explore P rec ops (ops.size - n) (lexMask ops n) ⟨t, h, low x.m (headM es)⟩
      | none => none
    else none
theorem drawX_low (P : Program) : DrawLow (drawX P) := by
  intro rec ops x x' hr k hm
  unfold drawX at hr
  split at hr
  split at hr
  · split at hr
    · exact (bnd_low (explore_low _ _ _ _ hr hm)).1
    · cases hr
  · cases hr
section
variable {P : Program} {rec : Rec} {ops : Array Oper} {n : Nat} {t0 t' : List Value} {h0 l' : List AO} {es : List HE} {T : Nat → List Value} {E : Nat → HE} {N : Nat → List AO}
theorem drawX_ok (P : Program) : DrawOk P (drawX P) := by
  intro rec hrec ops x x' hr wb k s id a w hm HS
  unfold drawX at hr
  cases hh : headRun P rec ops x.h ops.toList 0 x.t [] with
  | mk n tl =>
    obtain ⟨t, l, es⟩ := tl
    rw [hh] at hr
    simp only at hr
    split at hr
    · rename_i hc
      split at hr
      rotate_left
      · cases hr
      rename_i hN hlex
      simp only [Bool.and_eq_true, decide_eq_true_eq] at hc
      obtain ⟨⟨⟨⟨⟨hmix, hsel⟩, hnl⟩, hdp⟩, hmem⟩, htl⟩ := hc
      obtain ⟨T, E, N, S⟩ := headRun_spec hrec.2.2.2 _ _ _ _ _ _ _ _ hh
      have hcs : Bnd k (headM es) := (bnd_low (explore_low _ _ _ _ hr hm)).2
      refine wp_region_any hmix ?_
      have H0 : HR wb k s x.h w.drew := HS.h.drew
      have hlf : MH n x.h E N (fun _ => true) hN (fun j => if j < x.h.length then s j else none) := by
        refine lexHeap_ok S hmem n 0 _ (by omega) ?_ (by simpa [S.l0] using hlex)
        rw [show (fun j => decide (j < 0)) = fun _ => false by funext j; simp, ← S.ln]
        exact mh_start S fun i hi => if_neg (by omega)
      have J : Mid ops n x.t x.h E N wb k s (Array.replicate ops.size false) a w.drew := by
        have e : (fun i => (Array.replicate ops.size false).getD i false) = fun _ => false := by funext i; exact getD_replicate_false _ _
        refine ⟨s, x.t, _, Le.refl s, fun _ _ => rfl, HS.t, HS.d, H0.pad (N n).length, fun _ => H0, ?_, ?_⟩
        · rw [e]; exact mt_start
        · rw [e]; exact mh_start S H0.dom
      have inv : HeadInv .any ops n (Array.replicate ops.size false) :=
        ⟨by simp, fun j _ _ hl => (by rw [getD_replicate_false] at hl; cases hl), fun t _ h2 => getD_in (by simpa using h2) (getD_replicate_false _ _)⟩
      have hleft : left n (Array.replicate ops.size false) = n := by
        unfold left
        rw [List.filter_eq_self.2 fun i _ => by rw [getD_replicate_false]; rfl]
        simp
      have hsc : n < ops.size → sinkL ops n (baseOf ops n es) = true ∧ ∀ t, n < t → t < ops.size → ∃ j, n ≤ j ∧ j < ops.size ∧ Region.waitsFor .any ops t j = true := by
        intro hlt
        unfold tailX at htl
        simp only [Bool.and_eq_true, decide_eq_true_eq] at htl
        refine ⟨htl.1.2, fun t ht htl2 => ?_⟩
        have h1 := List.all_eq_true.1 htl.2 t (List.mem_range.2 htl2)
        simp only [Bool.or_eq_true, decide_eq_true_eq] at h1
        rcases h1 with h1 | h1
        · omega
        · obtain ⟨j, hj, hj2⟩ := List.any_eq_true.1 h1
          simp only [Bool.and_eq_true, decide_eq_true_eq] at hj2
          exact ⟨j, hj2.1, by have := List.mem_range.1 hj; omega, hj2.2⟩
      have A := head_any S hdp hrec hmem hcs hnl hsc (wb := wb) (s0 := s) HS.h.kle (Q := Post wb k s x' .normal) (g := ops.size - n) (fun listed a' w' inv' hall J' => ?_)
      · have e2 : left n (Array.replicate ops.size false) + (ops.size - n) = ops.size := by omega
        have fin : wpAny P .any ops (Post wb k s x' .normal) (left n (Array.replicate ops.size false) + (ops.size - n)) (Array.replicate ops.size false) a w.drew := by
          by_cases hb0 : (n == ops.size || Region.sinkB .any ops n) = true
          · have e : baseOf ops n es = Array.replicate ops.size false := by unfold baseOf; rw [if_pos hb0]
            rw [e] at A
            exact A _ _ a w.drew inv (fun i hi => hi) rfl J
          · have e : baseOf ops n es = prepL ops es (List.range n) (Array.replicate ops.size false) := by unfold baseOf; rw [if_neg hb0]
            rw [e] at A
            exact prep_ok hrec.2.2.1 hrec.2.2.2 S hdp hsel hcs (Q := Post wb k s x' .normal) (fun c a w h => by cases h.1) (List.range n) _ a (fun i hi => List.mem_range.1 hi) inv J fun a' inv' J' => A _ _ a' w.drew inv' (fun i hi => hi) rfl J'
        rwa [e2] at fin
      · obtain ⟨s', t2, h2, hle, _, ht, hdf, H, _, M, MM⟩ := J'
        obtain rfl := mt_full S hdp M hall
        obtain rfl := mh_same S MM hlf hall fun _ _ => rfl
        have hQ : ∀ s'' a'' w'', Le s' s'' → SR wb k s'' x' a'' w'' → Post wb k s x' .normal .normal a'' w'' := fun s'' a'' w'' hle' hsr => ⟨rfl, s'', hle.trans hle', hsr⟩
        have hmask : listed = lexMask ops n := by
          apply Array.ext_getElem?
          intro i
          have e0 : (lexMask ops n)[i]? = (List.replicate n true ++ List.replicate (ops.size - n) false)[i]? := by
            unfold lexMask
            simp
          rw [e0]
          rcases Nat.lt_or_ge i n with hi | hi
          · have := hall i hi
            have hisz : i < listed.size := by rw [inv'.size]; omega
            rw [List.getElem?_append_left (by simpa using hi), List.getElem?_replicate, if_pos hi]
            rw [Array.getElem?_eq_getElem hisz]
            simpa [hisz] using this
          · rw [List.getElem?_append_right (by simpa using hi), List.getElem?_replicate]
            simp only [List.length_replicate]
            by_cases hlt : i < ops.size
            · have := inv'.tail i hi hlt
              have hisz : i < listed.size := by rw [inv'.size]; omega
              rw [if_pos (by omega), Array.getElem?_eq_getElem hisz]
              simpa [hisz] using this
            · rw [if_neg (by omega), Array.getElem?_eq_none (by rw [inv'.size]; omega)]
        rw [hmask]
        exact explore_ok hrec hsel (fun c a w h => by cases h.1) (ops.size - n) (lexMask ops n) _ x' hr hm s' a' w' ⟨ht, hdf, H⟩ hQ
    · cases hr

end
/-- What only reckons, and is waited for by nothing up to the first one behind the head: it may come whenever it is ready. -/
def floatAt (ops : Array Oper) (n : Nat) (es : List HE) (i : Nat) : Bool :=
  pureAt es i && Region.free .any ops (lexMask ops i) i && !((List.range (n + 1)).any fun j => decide (i < j) && Region.waitsFor .any ops j i)
def sinkF (ops : Array Oper) (n : Nat) (es : List HE) : Bool :=
  (List.range n).all fun i => floatAt ops n es i || (List.range (n + 1)).any fun j => decide (i < j) && Region.waitsFor .any ops j i && (Nat.beq j n || !floatAt ops n es j)
def tailY (ops : Array Oper) (n : Nat) (es : List HE) : Bool := decide (n < ops.size) && sinkF ops n es && backB ops n
/-- The same as drawX, where some that only reckon stand in the head and nothing waits for them. -/
def drawY (P : Program) : DrawFn := fun rec ops x =>
  match headRun P rec ops x.h ops.toList 0 x.t [] with
  | (n, t, l, es) =>
    if P.follows .mixedOrders && Region.noSelect ops && decide (n ≤ ops.size) && depsB ops n && memB ops n es && tailY ops n es then
      match lexHeap x.h.length es x.h.length (x.h ++ List.replicate l.length dead) with
      | some h => explore P rec ops (ops.size - n) (lexMask ops n) ⟨t, h, low x.m (headM es)⟩
      | none => none
    else none
theorem drawY_low (P : Program) : DrawLow (drawY P) := by
  intro rec ops x x' hr k hm
  unfold drawY at hr
  split at hr
  split at hr
  · split at hr
    · exact (bnd_low (explore_low _ _ _ _ hr hm)).1
    · cases hr
  · cases hr
section
variable {P : Program} {rec : Rec} {ops : Array Oper} {n : Nat} {t0 t' : List Value} {h0 l' : List AO} {es : List HE} {T : Nat → List Value} {E : Nat → HE} {N : Nat → List AO}
theorem free_lex {listed : Array Bool} {i : Nat} (hi : i ≤ ops.size) (hb : ∀ j, j < i → listed.getD j false = true) (h : Region.free .any ops (lexMask ops i) i = true) : Region.free .any ops listed i = true := by
  unfold Region.free at h ⊢
  split at h
  · cases h
  · rename_i oi ho
    refine List.all_eq_true.2 fun j hj => ?_
    have h1 := List.all_eq_true.1 h j hj
    have hlt := List.mem_range.1 hj
    by_cases hji : j < i
    · have h2 := hb j hji
      have h3 : listed.getD j true = true := by
        rw [Array.getD_eq_getD_getElem?] at h2 ⊢
        cases hq : listed[j]? with
        | none => rw [hq] at h2; cases h2
        | some b => rw [hq] at h2; exact h2
      rw [h3]; simp
    · have e : (lexMask ops i).getD j true = false := by
        rw [Array.getD_eq_getD_getElem?]
        have e0 : (lexMask ops i)[j]? = (List.replicate i true ++ List.replicate (ops.size - i) false)[j]? := by
          unfold lexMask
          simp
        rw [e0, List.getElem?_append_right (by simp; omega), List.getElem?_replicate, if_pos (by simp; omega)]
        rfl
      rw [e, Bool.or_false] at h1
      rw [Bool.or_assoc]
      simp only [Bool.or_eq_true] at h1 ⊢
      rcases h1 with h1 | h1
      · exact .inl h1
      · exact .inr (.inr h1)
theorem tail_waitsF (F : Nat → Bool) (hs : ∀ i, i < n → F i = true ∨ ∃ j, i < j ∧ j ≤ n ∧ Region.waitsFor .any ops j i = true ∧ (j = n ∨ F j = false)) (hc : ∀ t, n < t → t < ops.size → ∃ j, n ≤ j ∧ j < ops.size ∧ Region.waitsFor .any ops t j = true) (hn : n < ops.size)
    {listed : Array Bool} (inv : HeadInv .any ops n listed) : ∀ (d i : Nat), n - i = d → i < n → F i = false → listed.getD i true = false → ∀ t, n ≤ t → t ∉ Region.ready .any ops listed := by
  intro d
  induction d using Nat.strongRecOn with
  | _ d ih =>
    intro i hd hi hFi hun t ht hr
    obtain ⟨_, ot, hot, hall⟩ := mem_ready.1 hr
    have htlt : t < ops.size := (Array.getElem?_eq_some_iff.1 hot).1
    by_cases htn : t = n
    · subst htn
      rcases hs i hi with h1 | ⟨j, hj1, hj2, hj3, hj4⟩
      · rw [hFi] at h1; cases h1
      obtain ⟨oj, hoj, e, he, hb', hon⟩ := Region.waitsFor_spec hj3
      by_cases hjt : j = t
      · subst hjt
        have : oj = ot := Option.some.inj (hoj.symm.trans hot)
        subst this
        have h2 := hall e he hb'
        rw [hon, getD_both hun] at h2
        cases h2
      · cases hl : listed.getD j false with
        | true =>
          have h2 := inv.closed j oj hoj hl e he hb'
          rw [hon, getD_both hun] at h2
          cases h2
        | false =>
          have hjs : j < listed.size := by rw [inv.size]; omega
          rcases hj4 with h4 | h4
          · exact hjt h4
          · exact ih (t - j) (by omega) j rfl (by omega) h4 (getD_in hjs hl) t (Nat.le_refl _) hr
    · obtain ⟨j, hj1, hj2, h1⟩ := hc t (by omega) htlt
      obtain ⟨o', ho', e, he, hb', hon⟩ := Region.waitsFor_spec h1
      have : o' = ot := Option.some.inj (ho'.symm.trans hot)
      subst this
      have h2 := hall e he hb'
      rw [hon, getD_both (inv.tail j hj1 hj2)] at h2
      cases h2
theorem head_float (hng : NoNG P) (hacc : rec.acc = accP) (hsel : Region.noSelect ops = true) (F : Nat → Bool) (hF : ∀ i, i < n → F i = true → pureE (E i) = true ∧ Region.free .any ops (lexMask ops i) i = true) (S : HeadSpec P rec ops h0 ops.toList 0 n t0 [] t' l' es T E N) (hd : depsB ops n = true) (hrec : RecOk P rec) (hmem : memB ops n es = true) {k : Nat} (hcs : Bnd k (headM es)) (hnl : n ≤ ops.size) (hs : n < ops.size → (∀ i, i < n → F i = true ∨ ∃ j, i < j ∧ j ≤ n ∧ Region.waitsFor .any ops j i = true ∧ (j = n ∨ F j = false)) ∧ ∀ t, n < t → t < ops.size → ∃ j, n ≤ j ∧ j < ops.size ∧ Region.waitsFor .any ops t j = true)
    {wb : Wb} {s0 : Ren} (hk : k ≤ h0.length) {Q : Exit → Act → World → Prop} (hQp : ∀ c a w, ¬ Q (.panic c) a w) {g : Nat}
    (hend : ∀ listed a w, HeadInv .any ops n listed → (∀ i, i < n → listed.getD i false = true) → Mid ops n t0 h0 E N wb k s0 listed a w → wpAny P .any ops Q g listed a w) :
    ∀ (f : Nat) (listed : Array Bool) (a : Act) (w : World), HeadInv .any ops n listed → left n listed = f → Mid ops n t0 h0 E N wb k s0 listed a w → wpAny P .any ops Q (f + g) listed a w
  | 0, listed, a, w, inv, hl, J => by rw [Nat.zero_add]; exact hend listed a w inv (fun i hi => left_zero hl hi) J
  | f + 1, listed, a, w, inv, hl, J => by
    -- one that is not done, the first of them
    have hex : ∃ i, i < n ∧ listed.getD i false = false := by
      rcases Classical.em (∃ i, i < n ∧ listed.getD i false = false) with h | h
      · exact h
      · have : (List.range n).filter (fun i => !listed.getD i false) = [] := List.filter_eq_nil_iff.2 fun i hi => by
          have hi' := List.mem_range.1 hi
          cases hq : listed.getD i false with
          | true => simp
          | false => exact absurd ⟨i, hi', hq⟩ h
        unfold left at hl
        rw [this] at hl
        cases hl
    have hfirst : ∃ i, i < n ∧ listed.getD i false = false ∧ ∀ j, j < i → listed.getD j false = true := by
      obtain ⟨i, hi, hu⟩ := hex
      induction i using Nat.strongRecOn with
      | _ i ih =>
        rcases Classical.em (∃ j, j < i ∧ listed.getD j false = false) with ⟨j, hj, hju⟩ | h
        · exact ih j hj (by omega) hju
        · refine ⟨i, hi, hu, fun j hj => ?_⟩
          cases hq : listed.getD j false with
          | true => rfl
          | false => exact absurd ⟨j, hj, hq⟩ h
    obtain ⟨i, hi, hu, hbel⟩ := hfirst
    have hisz : i < listed.size := by rw [inv.size]; omega
    obtain ⟨o, ho, _, _⟩ := op_at S hi
    have hri : i ∈ Region.ready .any ops listed := mem_ready.2 ⟨getD_in hisz hu, o, ho, fun e he hb => hbel _ ((depsB_spec hd hi ho).1 e he hb)⟩
    rw [show f + 1 + g = (f + g) + 1 by omega]
    cases hFi : F i with
    | true =>
      obtain ⟨hp, hfr⟩ := hF i hi hFi
      obtain ⟨o2, v, ho2, hy, J'⟩ := mid_pure hng hacc S hd inv J hri hi hp (headM_bnd hcs i _ (eff_at S hi)).2
      refine wpAny_take ho2 hsel (free_lex (by omega) hbel hfr) (by simpa using hri) (fun c a w h => absurd h (hQp c _ w)) hy ?_
      refine head_float hng hacc hsel F hF S hd hrec hmem hcs hnl hs hk hQp hend f _ _ w (inv.set hri hi) ?_ J'
      have := left_next hi hisz hu
      omega
    | false =>
    refine ⟨fun h0 => (by rw [h0] at hri; cases hri), fun j hj => ?_⟩
    have hjn : j < n := by
      rcases Nat.lt_or_ge j n with h | h
      · exact h
      · obtain ⟨_, oj, hoj, _⟩ := mem_ready.1 hj
        have hjs := (Array.getElem?_eq_some_iff.1 hoj).1
        obtain ⟨h1, h2⟩ := hs (by omega)
        exact absurd hj (tail_waitsF F h1 h2 (by omega) inv _ i rfl hi hFi (getD_in hisz hu) j h)
    have hju := getD_both (mem_ready.1 hj).1
    have hjs : j < listed.size := by rw [inv.size]; omega
    refine mid_op S hd hrec hmem hcs hk inv J hj hjn fun a' w' J' => ?_
    refine head_float hng hacc hsel F hF S hd hrec hmem hcs hnl hs hk hQp hend f _ a' w' (inv.set hj hjn) ?_ J'
    have := left_next hjn hjs hju
    omega
theorem drawY_ok (P : Program) : DrawOk P (drawY P) := by
  intro rec hrec ops x x' hr wb k s id a w hm HS
  unfold drawY at hr
  cases hh : headRun P rec ops x.h ops.toList 0 x.t [] with
  | mk n tl =>
    obtain ⟨t, l, es⟩ := tl
    rw [hh] at hr
    simp only at hr
    split at hr
    · rename_i hc
      split at hr
      rotate_left
      · cases hr
      rename_i hN hlex
      simp only [Bool.and_eq_true, decide_eq_true_eq] at hc
      obtain ⟨⟨⟨⟨⟨hmix, hsel⟩, hnl⟩, hdp⟩, hmem⟩, htl⟩ := hc
      obtain ⟨T, E, N, S⟩ := headRun_spec hrec.2.2.2 _ _ _ _ _ _ _ _ hh
      have hcs : Bnd k (headM es) := (bnd_low (explore_low _ _ _ _ hr hm)).2
      refine wp_region_any hmix ?_
      have H0 : HR wb k s x.h w.drew := HS.h.drew
      have hlf : MH n x.h E N (fun _ => true) hN (fun j => if j < x.h.length then s j else none) := by
        refine lexHeap_ok S hmem n 0 _ (by omega) ?_ (by simpa [S.l0] using hlex)
        rw [show (fun j => decide (j < 0)) = fun _ => false by funext j; simp, ← S.ln]
        exact mh_start S fun i hi => if_neg (by omega)
      have J : Mid ops n x.t x.h E N wb k s (Array.replicate ops.size false) a w.drew := by
        have e : (fun i => (Array.replicate ops.size false).getD i false) = fun _ => false := by funext i; exact getD_replicate_false _ _
        refine ⟨s, x.t, _, Le.refl s, fun _ _ => rfl, HS.t, HS.d, H0.pad (N n).length, fun _ => H0, ?_, ?_⟩
        · rw [e]; exact mt_start
        · rw [e]; exact mh_start S H0.dom
      have inv : HeadInv .any ops n (Array.replicate ops.size false) :=
        ⟨by simp, fun j _ _ hl => (by rw [getD_replicate_false] at hl; cases hl), fun t _ h2 => getD_in (by simpa using h2) (getD_replicate_false _ _)⟩
      have hleft : left n (Array.replicate ops.size false) = n := by
        unfold left
        rw [List.filter_eq_self.2 fun i _ => by rw [getD_replicate_false]; rfl]
        simp
      have htl' := htl
      unfold tailY at htl'
      simp only [Bool.and_eq_true, decide_eq_true_eq] at htl'
      have hsc : n < ops.size → (∀ i, i < n → floatAt ops n es i = true ∨ ∃ j, i < j ∧ j ≤ n ∧ Region.waitsFor .any ops j i = true ∧ (j = n ∨ floatAt ops n es j = false)) ∧ ∀ t, n < t → t < ops.size → ∃ j, n ≤ j ∧ j < ops.size ∧ Region.waitsFor .any ops t j = true := by
        intro hlt
        refine ⟨fun i hi => ?_, fun t ht htl2 => ?_⟩
        · have h1 := List.all_eq_true.1 htl'.1.2 i (List.mem_range.2 hi)
          simp only [Bool.or_eq_true] at h1
          rcases h1 with h1 | h1
          · exact .inl h1
          · obtain ⟨j, hj, hj2⟩ := List.any_eq_true.1 h1
            simp only [Bool.and_eq_true, decide_eq_true_eq, Bool.or_eq_true, Bool.not_eq_true'] at hj2
            refine .inr ⟨j, hj2.1.1, by have := List.mem_range.1 hj; omega, hj2.1.2, ?_⟩
            rcases hj2.2 with h3 | h3
            · exact .inl (Nat.eq_of_beq_eq_true h3)
            · exact .inr h3
        · have h1 := List.all_eq_true.1 htl'.2 t (List.mem_range.2 htl2)
          simp only [Bool.or_eq_true, decide_eq_true_eq] at h1
          rcases h1 with h1 | h1
          · omega
          · obtain ⟨j, hj, hj2⟩ := List.any_eq_true.1 h1
            simp only [Bool.and_eq_true, decide_eq_true_eq] at hj2
            exact ⟨j, hj2.1, by have := List.mem_range.1 hj; omega, hj2.2⟩
      have hFl : ∀ i, i < n → floatAt ops n es i = true → pureE (E i) = true ∧ Region.free .any ops (lexMask ops i) i = true := by
        intro i hi hf
        unfold floatAt at hf
        simp only [Bool.and_eq_true] at hf
        refine ⟨?_, hf.1.2⟩
        have hp := hf.1.1
        unfold pureAt at hp
        rw [eff_at S hi] at hp
        exact hp
      have A := head_float hrec.2.2.1 hrec.2.2.2 hsel (floatAt ops n es) hFl S hdp hrec hmem hcs hnl hsc (wb := wb) (s0 := s) HS.h.kle (Q := Post wb k s x' .normal) (fun c a w h => by cases h.1) (g := ops.size - n) (fun listed a' w' inv' hall J' => ?_)
      · have e2 : left n (Array.replicate ops.size false) + (ops.size - n) = ops.size := by omega
        have fin := A _ _ a w.drew inv rfl J
        rwa [e2] at fin
      · obtain ⟨s', t2, h2, hle, _, ht, hdf, H, _, M, MM⟩ := J'
        obtain rfl := mt_full S hdp M hall
        obtain rfl := mh_same S MM hlf hall fun _ _ => rfl
        have hQ : ∀ s'' a'' w'', Le s' s'' → SR wb k s'' x' a'' w'' → Post wb k s x' .normal .normal a'' w'' := fun s'' a'' w'' hle' hsr => ⟨rfl, s'', hle.trans hle', hsr⟩
        have hmask : listed = lexMask ops n := by
          apply Array.ext_getElem?
          intro i
          have e0 : (lexMask ops n)[i]? = (List.replicate n true ++ List.replicate (ops.size - n) false)[i]? := by
            unfold lexMask
            simp
          rw [e0]
          rcases Nat.lt_or_ge i n with hi | hi
          · have := hall i hi
            have hisz : i < listed.size := by rw [inv'.size]; omega
            rw [List.getElem?_append_left (by simpa using hi), List.getElem?_replicate, if_pos hi]
            rw [Array.getElem?_eq_getElem hisz]
            simpa [hisz] using this
          · rw [List.getElem?_append_right (by simpa using hi), List.getElem?_replicate]
            simp only [List.length_replicate]
            by_cases hlt : i < ops.size
            · have := inv'.tail i hi hlt
              have hisz : i < listed.size := by rw [inv'.size]; omega
              rw [if_pos (by omega), Array.getElem?_eq_getElem hisz]
              simpa [hisz] using this
            · rw [if_neg (by omega), Array.getElem?_eq_none (by rw [inv'.size]; omega)]
        rw [hmask]
        exact explore_ok hrec hsel (fun c a w h => by cases h.1) (ops.size - n) (lexMask ops n) _ x' hr hm s' a' w' ⟨ht, hdf, H⟩ hQ
    · cases hr

end
/-! The last two operations, the other way about. -/
def swI (n i : Nat) : Nat := if i = n then n + 1 else if i = n + 1 then n else i
def swM (n : Nat) (m : Array Bool) : Array Bool := (m.setIfInBounds n (m.getD (n + 1) true)).setIfInBounds (n + 1) (m.getD n true)
theorem swI_swI (n i : Nat) : swI n (swI n i) = i := by unfold swI; split <;> split <;> (try split) <;> omega
theorem swM_size (n : Nat) (m : Array Bool) : (swM n m).size = m.size := by unfold swM; simp
theorem swM_get {n : Nat} {m : Array Bool} (hm : m.size = n + 2) (i : Nat) : (swM n m)[i]? = m[swI n i]? := by
  have g : ∀ (j : Nat) (hj : j < n + 2), m.getD j true = m[j]'(by omega) := fun j hj => by simp [Array.getD, hm, hj]
  unfold swM swI
  rw [Array.getElem?_setIfInBounds, Array.getElem?_setIfInBounds, g n (by omega), g (n + 1) (by omega)]
  by_cases h1 : i = n
  · subst h1
    rw [if_neg (by omega), if_pos rfl, if_pos (by omega), if_pos rfl, Array.getElem?_eq_getElem]
  · by_cases h2 : i = n + 1
    · subst h2
      rw [if_pos rfl, if_pos (by simp; omega), if_neg (by omega), if_pos rfl, Array.getElem?_eq_getElem]
    · rw [if_neg (by omega), if_neg (by omega), if_neg h1, if_neg h2]
theorem swM_getD {n : Nat} {m : Array Bool} (hm : m.size = n + 2) (i : Nat) (b : Bool) : (swM n m).getD i b = m.getD (swI n i) b := by
  rw [Array.getD_eq_getD_getElem?, Array.getD_eq_getD_getElem?, swM_get hm]
theorem swM_set {n : Nat} {m : Array Bool} (hm : m.size = n + 2) (i : Nat) : swM n (m.setIfInBounds i true) = (swM n m).setIfInBounds (swI n i) true := by
  apply Array.ext_getElem?
  intro j
  rw [swM_get (by simpa using hm), Array.getElem?_setIfInBounds, Array.getElem?_setIfInBounds, swM_get hm]
  have e : (i = swI n j) ↔ (swI n i = j) := ⟨fun h => by rw [h, swI_swI], fun h => by rw [← h, swI_swI]⟩
  by_cases h : i = swI n j
  · rw [if_pos h, if_pos (e.1 h)]
    have : (swI n i < (swM n m).size) ↔ (i < m.size) := by rw [swM_size, hm]; unfold swI; split <;> (try split) <;> omega
    by_cases hi : i < m.size
    · rw [if_pos hi, if_pos (this.2 hi)]
    · rw [if_neg hi, if_neg fun q => hi (this.1 q)]
  · rw [if_neg h, if_neg fun q => h (e.2 q)]
/-- No operation waits for the last two, or is guarded by them. -/
def loneB (n : Nat) (l : List Oper) : Bool := l.all fun o => (o.after.toList.all fun e => !Region.binds .any e || decide (e.on < n)) && (match o.guard with | none => true | some (j, _) => decide (j < n))
section
variable {P : Program} {l : List Oper} {o1 o2 : Oper} {Q : Exit → Act → World → Prop}
theorem sw_op (i : Nat) : (⟨l ++ [o2, o1]⟩ : Array Oper)[swI l.length i]? = (⟨l ++ [o1, o2]⟩ : Array Oper)[i]? := by
  simp only [List.getElem?_toArray]
  unfold swI
  by_cases h1 : i = l.length
  · subst h1
    rw [if_pos rfl, List.getElem?_append_right (by omega), List.getElem?_append_right (by omega)]
    simp
  · by_cases h2 : i = l.length + 1
    · subst h2
      rw [if_neg (by omega), if_pos rfl, List.getElem?_append_right (by omega), List.getElem?_append_right (by omega)]
      simp
    · rw [if_neg h1, if_neg h2]
      by_cases h3 : i < l.length
      · rw [List.getElem?_append_left h3, List.getElem?_append_left h3]
      · rw [List.getElem?_eq_none (by simp; omega), List.getElem?_eq_none (by simp; omega)]
theorem sw_low {j : Nat} (h : j < l.length) : swI l.length j = j := by unfold swI; rw [if_neg (by omega), if_neg (by omega)]
theorem sw_ready (hl : loneB l.length (l ++ [o1, o2]) = true) {m : Array Bool} (hm : m.size = l.length + 2) {i : Nat} (h : i ∈ Region.ready .any ⟨l ++ [o1, o2]⟩ m) : swI l.length i ∈ Region.ready .any ⟨l ++ [o2, o1]⟩ (swM l.length m) := by
  obtain ⟨h1, o, ho, ha⟩ := mem_ready.1 h
  refine mem_ready.2 ⟨by rw [swM_getD hm, swI_swI]; exact h1, o, by rw [sw_op]; exact ho, fun e he hb => ?_⟩
  have hmem : o ∈ l ++ [o1, o2] := List.mem_of_getElem? (by simpa using ho)
  have h2 := List.all_eq_true.1 hl o hmem
  simp only [Bool.and_eq_true] at h2
  have h3 := List.all_eq_true.1 h2.1 e (by simpa using he)
  simp only [hb, Bool.not_true, Bool.false_or, decide_eq_true_eq] at h3
  rw [swM_getD hm, sw_low h3]
  exact ha e he hb
theorem sw_any (hl : loneB l.length (l ++ [o1, o2]) = true) (hl' : loneB l.length (l ++ [o2, o1]) = true) : ∀ (f : Nat) (m : Array Bool) (a : Act) (w : World), m.size = l.length + 2 →
    wpAny P .any ⟨l ++ [o2, o1]⟩ Q f (swM l.length m) a w → wpAny P .any ⟨l ++ [o1, o2]⟩ Q f m a w := by
  have back : ∀ {m : Array Bool}, m.size = l.length + 2 → Region.ready .any ⟨l ++ [o1, o2]⟩ m = [] → Region.ready .any ⟨l ++ [o2, o1]⟩ (swM l.length m) = [] := by
    intro m hm h
    apply List.eq_nil_iff_forall_not_mem.2
    intro i hi
    have h2 := sw_ready (o1 := o2) (o2 := o1) hl' (m := swM l.length m) (by rw [swM_size]; exact hm) hi
    have e : swM l.length (swM l.length m) = m := by
      apply Array.ext_getElem?
      intro j
      rw [swM_get (by rw [swM_size]; exact hm), swM_get hm, swI_swI]
    rw [e, h] at h2
    cases h2
  intro f
  induction f with
  | zero =>
    intro m a w hm h
    refine ⟨?_, h.2⟩
    apply List.eq_nil_iff_forall_not_mem.2
    intro i hi
    have := sw_ready hl hm hi
    rw [h.1] at this
    cases this
  | succ f ih =>
    intro m a w hm h
    refine ⟨fun h0 => h.1 (back hm h0), fun i hi => ?_⟩
    have h2 := h.2 _ (sw_ready hl hm hi)
    rw [← swM_set hm] at h2
    unfold wpOp at h2 ⊢
    rw [sw_op] at h2
    split at h2
    · exact ih _ a w (by simpa using hm) h2
    · rename_i o ho
      have hmem : o ∈ l ++ [o1, o2] := List.mem_of_getElem? (by simpa using ho)
      have h3 := List.all_eq_true.1 hl o hmem
      simp only [Bool.and_eq_true] at h3
      have hw : Region.wanted o (yielded ⟨l ++ [o2, o1]⟩ a.tmps) = Region.wanted o (yielded ⟨l ++ [o1, o2]⟩ a.tmps) := by
        unfold Region.wanted
        have h4 := h3.2
        cases hg : o.guard with
        | none => rfl
        | some jb =>
          obtain ⟨j, b⟩ := jb
          rw [hg] at h4
          simp only [decide_eq_true_eq] at h4
          simp only
          have : yielded ⟨l ++ [o2, o1]⟩ a.tmps j = yielded ⟨l ++ [o1, o2]⟩ a.tmps j := by
            unfold yielded
            have := sw_op (l := l) (o1 := o1) (o2 := o2) j
            rw [sw_low h4] at this
            rw [this]
          rw [this]
      rw [hw] at h2
      split
      · rename_i hc
        rw [if_pos hc] at h2
        exact h2.imp (Oper.wp_mono fun a' w' h' => ih _ a' w' (by simpa using hm) h') id
      · rename_i hc
        rw [if_neg hc] at h2
        exact ih _ _ w (by simpa using hm) h2
end
def swapL : List Oper → Option (List Oper × Oper × Oper)
  | [] => none
  | [_] => none
  | [a, b] => some ([], a, b)
  | o :: r =>
    match swapL r with
    | some (l, a, b) => some (o :: l, a, b)
    | none => none
theorem swapL_spec : ∀ {r l : List Oper} {a b : Oper}, swapL r = some (l, a, b) → r = l ++ [a, b]
  | [], _, _, _, h => by cases h
  | [_], _, _, _, h => by cases h
  | [x, y], l, a, b, h => by
    simp only [swapL, Option.some.injEq, Prod.mk.injEq] at h
    obtain ⟨rfl, rfl, rfl⟩ := h
    rfl
  | o :: x :: y :: r, l, a, b, h => by
    simp only [swapL] at h
    split at h
    · rename_i l' a' b' hh
      simp only [Option.some.injEq, Prod.mk.injEq] at h
      obtain ⟨rfl, rfl, rfl⟩ := h
      rw [swapL_spec hh]; rfl
    · cases h
/-- .. a drawn region whose last two wait for each other in no way: told with these the other way about. -/
def drawZ (P : Program) : DrawFn := fun rec ops x =>
  match swapL ops.toList with
  | some (l, a, b) => if loneB l.length (l ++ [a, b]) && loneB l.length (l ++ [b, a]) then drawA P rec ⟨l ++ [b, a]⟩ x else none
  | none => none
theorem drawZ_low (P : Program) : DrawLow (drawZ P) := by
  intro rec ops x x' hr k hm
  unfold drawZ at hr
  split at hr
  · split at hr
    · exact drawA_low P rec _ x _ hr k hm
    · cases hr
  · cases hr
theorem drawZ_ok (P : Program) : DrawOk P (drawZ P) := by
  intro rec hrec ops x x' hr wb k s id a w hm HS
  unfold drawZ at hr
  split at hr
  · rename_i l o1 o2 hs
    split at hr
    · rename_i hc
      simp only [Bool.and_eq_true] at hc
      obtain ⟨h1, h2⟩ := drawA_any P hrec hr hm HS
      refine wp_region_any h1 ?_
      obtain ⟨r⟩ := ops
      have e : r = l ++ [o1, o2] := swapL_spec hs
      subst e
      have hsz : (⟨l ++ [o1, o2]⟩ : Array Oper).size = l.length + 2 := by simp
      have hsz' : (⟨l ++ [o2, o1]⟩ : Array Oper).size = l.length + 2 := by simp
      rw [hsz'] at h2
      rw [hsz]
      refine sw_any hc.1 hc.2 _ _ _ _ (by simp) ?_
      have em : swM l.length (Array.replicate (l.length + 2) false) = Array.replicate (l.length + 2) false := by
        apply Array.ext_getElem?
        intro j
        rw [swM_get (by simp)]
        simp only [Array.getElem?_replicate]
        have : (swI l.length j < l.length + 2) ↔ (j < l.length + 2) := by unfold swI; split <;> (try split) <;> omega
        by_cases hj : j < l.length + 2
        · rw [if_pos hj, if_pos (this.2 hj)]
        · rw [if_neg hj, if_neg fun q => hj (this.1 q)]
      rw [em]
      exact h2
    · cases hr
  · cases hr
/-- A drawn region: by its head and its tail; if it has no such form, by each of its orders. -/
def drawE (P : Program) : DrawFn := fun rec ops x =>
  match drawA P rec ops x with
  | some y => some y
  | none =>
    match (match drawX P rec ops x with | some y => some y | none => (match drawY P rec ops x with | some y => some y | none => drawZ P rec ops x)) with
    | some y => some y
    | none => if P.follows .mixedOrders && Region.noSelect ops then explore P rec ops ops.size (Array.replicate ops.size false) x else none
theorem drawE_low (P : Program) : DrawLow (drawE P) := by
  intro rec ops x x' hr k hm
  unfold drawE at hr
  split at hr
  · rename_i y hy
    cases hr
    exact drawA_low P rec ops x _ hy k hm
  · split at hr
    · rename_i y hy
      cases hr
      split at hy
      · rename_i z hz
        cases hy
        exact drawX_low P rec ops x _ hz k hm
      · split at hy
        · rename_i z hz
          cases hy
          exact drawY_low P rec ops x _ hz k hm
        · exact drawZ_low P rec ops x _ hy k hm
    · split at hr
      · exact explore_low _ _ _ _ hr hm
      · cases hr
theorem drawE_ok (P : Program) : DrawOk P (drawE P) := by
  intro rec hrec ops x x' hr wb k s id a w hm HS
  unfold drawE at hr
  split at hr
  · rename_i y hy
    cases hr
    exact drawA_ok P rec hrec ops x _ hy wb k s id a w hm HS
  split at hr
  · rename_i y hy
    cases hr
    split at hy
    · rename_i z hz
      cases hy
      exact drawX_ok P rec hrec ops x _ hz wb k s id a w hm HS
    · split at hy
      · rename_i z hz
        cases hy
        exact drawY_ok P rec hrec ops x _ hz wb k s id a w hm HS
      · exact drawZ_ok P rec hrec ops x _ hy wb k s id a w hm HS
  · split at hr
    · rename_i hc
      simp only [Bool.and_eq_true] at hc
      refine wp_region_any hc.1 ?_
      exact explore_ok hrec hc.2 (fun c a w h => by cases h.1) ops.size _ x x' hr hm s a w.drew ⟨HS.t, HS.d, HS.h.drew⟩ fun s' a' w' hle H' => ⟨rfl, s', hle, H'⟩
    · cases hr

abbrev Hook := FuncId → List Value → List AO → Option (Value × Cs)
def noHook : Hook := fun _ _ _ => none
theorem noHook_ok (P : Program) : HookOk P noHook := by intro f args h0 v cs h; cases h
theorem map_same {α : Type} : ∀ {l : List (α × α)}, l.map (·.1) = l.map (·.2) → ∀ c ∈ l, c.1 = c.2
  | [], _, c, hc => by cases hc
  | x :: l, h, c, hc => by
    simp only [List.map_cons, List.cons.injEq] at h
    rcases List.mem_cons.1 hc with e | e
    · rw [e]; exact h.1
    · exact map_same h.2 c e
end Go.Proofs.YtokeopmmnpmfeaaDoor.Ex
end
section
namespace Go.Proofs.YtokeopmmnpmfeaaDoor.Ex
set_option maxRecDepth 20000

open Go Go.RowKit

/-- The first blocks: a package's variables; those that are not spoken of are given up. -/
def placeG (h0 : List AO) (w : World) : Ren := fun g =>
  match h0[g]?, w.shape? g with
  | some o, some (_, tot) => if o.live then some ⟨g, 0, tot, some GM⟩ else none
  | _, _ => none
def Laid (h0 : List AO) (w : World) : Prop :=
  ∀ (g : Nat) (o : AO), h0[g]? = some o → o.live = true → o.es = some GM ∧ o.cs.all flat = true ∧ ∃ T tot, w.shape? g = some (T, tot) ∧ o.cs.length ≤ tot ∧ ∀ (j : Nat) (v : Value), o.cs[j]? = some v → w.cell? ⟨g, j, none⟩ = some v
theorem shape_cells {w : World} {g : Nat} {T : TypeId} {n : Nat} (h : w.shape? g = some (T, n)) : g < w.heap.size ∧ ∀ j, j < n → (w.cell? ⟨g, j, none⟩).isSome = true := by
  unfold World.shape? at h
  split at h
  · rename_i c e f hh
    cases h
    refine ⟨(Array.getElem?_eq_some_iff.1 hh).1, fun j hj => ?_⟩
    unfold World.cell?
    simp only [hh]
    simpa using hj
  · cases h
theorem HR.start {h0 : List AO} {w : World} (hL : Laid h0 w) : HR w h0.length (placeG h0 w) h0 w := by
  have pl : ∀ g p, placeG h0 w g = some p → ∃ o T tot, h0[g]? = some o ∧ o.live = true ∧ w.shape? g = some (T, tot) ∧ p = ⟨g, 0, tot, some GM⟩ := by
    intro g p hp
    unfold placeG at hp
    split at hp
    · rename_i o T tot ho hs
      split at hp
      · rename_i hl; cases hp; exact ⟨o, T, tot, ho, hl, hs, rfl⟩
      · cases hp
    · cases hp
  refine ⟨GrB.refl w _, Nat.le_refl _, fun i hi => ?_, fun i p hp => ?_, fun i o ho hl => ?_, fun i j a b p q hi hj _ _ hp hq e => ?_, fun g p hp _ => ?_⟩
  · unfold placeG
    rw [List.getElem?_eq_none hi]
  · obtain ⟨o, T, tot, ho, hl, hs, rfl⟩ := pl i p hp
    have := (shape_cells hs).1
    have hlt := (List.getElem?_eq_some_iff.1 ho).1
    exact ⟨fun _ => ⟨this, fun f => f⟩, fun h => absurd h (by omega), this⟩
  · obtain ⟨he, hf, T, tot, hs, hle, hc⟩ := hL i o ho hl
    refine ⟨⟨i, 0, tot, some GM⟩, by unfold placeG; simp [ho, hl, hs], he.symm, ObjAt.block (by unfold isM; rw [he]; rfl) ⟨by simpa using hle, (shape_cells hs).2, ⟨T, hs⟩, fun hg => absurd rfl hg, fun j v hv => ⟨v, ?_, .same (all_get hf hv)⟩⟩⟩
    rw [Nat.zero_add]
    exact hc j v hv
  · obtain ⟨_, _, _, _, _, _, rfl⟩ := pl i p hp
    obtain ⟨_, _, _, _, _, _, rfl⟩ := pl j q hq
    exact e
  · obtain ⟨_, _, _, _, _, _, rfl⟩ := pl g p hp
    exact ⟨rfl, rfl⟩
/-- A memory that is told by a heap whose first blocks are such variables has these. -/
def eqI : Value → Value → Bool
  | .int k a, .int j b => if k = j then a == b else false
  | x, y => veq0 x y
theorem eqI_ok {x y : Value} (h : eqI x y = true) : x = y := by
  unfold eqI at h
  split at h
  · split at h
    · rename_i hk; rw [hk, eq_of_beq h]
    · cases h
  · exact veq0_ok h
def eqL : List Value → List Value → Bool
  | [], [] => true
  | x :: xs, y :: ys => eqI x y && eqL xs ys
  | _, _ => false
theorem eqL_ok : ∀ {xs ys : List Value}, eqL xs ys = true → xs = ys
  | [], [], _ => rfl
  | x :: xs, y :: ys, h => by
    simp only [eqL, Bool.and_eq_true] at h
    rw [eqI_ok h.1, eqL_ok h.2]
  | [], _ :: _, h => by cases h
  | _ :: _, [], h => by cases h
def hasG : List AO → List AO → Bool
  | [], _ => true
  | _ :: _, [] => false
  | o :: l, p :: h => (!o.live || (p.live && (match p.es with | some e => Nat.beq e GM | none => false) && eqL p.cs o.cs)) && hasG l h
theorem hasG_at : ∀ {h0 h : List AO}, hasG h0 h = true → ∀ (g : Nat) (o : AO), h0[g]? = some o → o.live = true → ∃ p, h[g]? = some p ∧ p.live = true ∧ p.es = some GM ∧ p.cs = o.cs
  | [], _, _, g, o, ho, _ => by simp at ho
  | _ :: _, [], h, _, _, _, _ => by cases h
  | o :: l, p :: h, hh, g, q, hq, hl => by
    simp only [hasG, Bool.and_eq_true] at hh
    cases g with
    | succ g => simpa using hasG_at hh.2 g q (by simpa using hq) hl
    | zero =>
      simp at hq
      subst hq
      have h1 := hh.1
      simp only [hl, Bool.not_true, Bool.false_or, Bool.and_eq_true] at h1
      refine ⟨p, rfl, h1.1.1, ?_, eqL_ok h1.2⟩
      cases he : p.es with
      | none => rw [he] at h1; cases h1.1.2
      | some e => rw [he] at h1; rw [Nat.eq_of_beq_eq_true h1.1.2]
theorem HR.laid {wb : Wb} {k : Nat} {s : Ren} {h h0 : List AO} {w : World} (H : HR wb k s h w) (hh : hasG h0 h = true) (hf : h0.all (fun o => !o.live || (match o.es with | some e => Nat.beq e GM | none => false) && o.cs.all flat) = true) : Laid h0 w := by
  intro g o ho hl
  obtain ⟨p, hp, hpl, hpe, hpc⟩ := hasG_at hh g o ho hl
  have hfo := List.all_eq_true.1 hf o (List.mem_of_getElem? ho)
  simp only [hl, Bool.not_true, Bool.false_or, Bool.and_eq_true] at hfo
  have hoe : o.es = some GM := by
    cases he : o.es with
    | none => rw [he] at hfo; cases hfo.1
    | some e => rw [he] at hfo; rw [Nat.eq_of_beq_eq_true hfo.1]
  obtain ⟨q, hq, hqe, hb⟩ := H.obj g p hp hpl
  obtain ⟨e1, e2⟩ := H.gl g q hq (by rw [hqe, hpe])
  have B := hb.2 (by unfold isM; rw [hpe]; rfl)
  obtain ⟨T, hT⟩ := B.shp
  rw [e1] at hT
  refine ⟨hoe, hfo.2, T, q.tot, hT, ?_, fun j v hv => ?_⟩
  · have := B.fit
    rw [hpc] at this
    omega
  · obtain ⟨v', h1, h2⟩ := B.rel j v (by rw [hpc]; exact hv)
    rw [e1, e2, Nat.zero_add, h2.eq_of_flat (all_get hfo.2 hv)] at h1
    exact h1
noncomputable def ranG (P : Program) (hk : Hook) (orc : Orc) (L f : Nat) (h0 : List AO) (g : FuncId) (args : List Value) : Option (Value × List AO × Mk) :=
  match callA P ⟨ex P (aOp P) (drawE P) (liftH hk) orc accQ L f, liftH hk, fun _ _ => none, accQ⟩ g args h0 with
  | some (v, h, m) => if quietB h0.length m.1 then some (v, h, m) else none
  | none => none
noncomputable def reckonGL (P : Program) (hk : Hook) (orc : Orc) (L f : Nat) (h0 : List AO) (g : FuncId) (args : List Value) : Option (Value × List Int) :=
  match ranG P hk orc L f h0 g args with
  | some (v, _, m) => some (v, m.2.map (·.1))
  | none => none
noncomputable def reckonGR (P : Program) (hk : Hook) (orc : Orc) (L f : Nat) (h0 : List AO) (g : FuncId) (args : List Value) (v : Value) : Option (Value × List Int) :=
  match ranG P hk orc L f h0 g args with
  | some (_, _, m) => some (v, m.2.map (·.2))
  | none => some (v, [])
/-- A run with tests that are not reckoned: 'orc' says which way each goes; what it must hold for is 'ls = rs'. -/
theorem reckonX_any {P : Program} (hng : NoNG P) {hk : Hook} (hhk : HookOk2 P hk) (orc : Orc) (L f : Nat) (h0 : List AO) {g : FuncId} {args : List Value} {v : Value} (ha : args.all flat = true) (hv : flat v = true) (h : reckonGL P hk orc L f h0 g args = reckonGR P hk orc L f h0 g args v) (w : World) (hL : Laid h0 w) :
    Calls P g ⟨args⟩ w fun e w' => e = .returned v ∧ Gr w w' := by
  unfold reckonGL reckonGR ranG at h
  cases hc : callA P ⟨ex P (aOp P) (drawE P) (liftH hk) orc accQ L f, liftH hk, fun _ _ => none, accQ⟩ g args h0 with
  | none => rw [hc] at h; cases h
  | some r =>
    obtain ⟨v', h', m⟩ := r
    rw [hc] at h
    simp only at h
    split at h
    · rename_i r2 v2 h2 m2 hm2
      split at hm2
      · rename_i hq
        cases hm2
        simp only [Option.some.injEq, Prod.mk.injEq] at h
        obtain ⟨rfl, h3⟩ := h
        refine (callA_ok (ex_ok accQ_eq hng (aOp_ok P hng) (drawE_ok P) (drawE_low P) (lift_ok hhk) L f _) hc (wb := w) (k := h0.length) (s := placeG h0 w) ⟨quietB_ok hq, map_same h3⟩ (LR.ofFlat ha) (HR.start hL)).mono ?_
        rintro e w' ⟨s', u, rfl, _, H, hvr⟩
        rw [hvr.eq_of_flat hv]
        exact ⟨rfl, H.grown.gr⟩
      · cases hm2
    · cases h
theorem reckonG_any {P : Program} (hng : NoNG P) {hk : Hook} (hhk : HookOk P hk) (orc : Orc) (L f : Nat) (h0 : List AO) {g : FuncId} {args : List Value} {v : Value} (ha : args.all flat = true) (hv : flat v = true) (h : reckonGL P (guardH hk) orc L f h0 g args = reckonGR P (guardH hk) orc L f h0 g args v) (w : World) (hL : Laid h0 w) :
    Calls P g ⟨args⟩ w fun e w' => e = .returned v ∧ Gr w w' := reckonX_any hng (guard_ok hhk) orc L f h0 ha hv h w hL
theorem reckonS_ok {P : Program} (hng : NoNG P) {hk : Hook} (hhk : HookOk P hk) (orc : Orc) (L f : Nat) (h0 : List AO) {g : FuncId} {args : List Value} {v : Value} {ls rs : List Int} (ha : args.all flat = true) (hv : flat v = true) (h1 : reckonGL P (guardH hk) orc L f h0 g args = some (v, ls))
    (h2 : reckonGR P (guardH hk) orc L f h0 g args v = some (v, rs)) (he : ls = rs) (w : World) (hL : Laid h0 w) : Calls P g ⟨args⟩ w fun e w' => e = .returned v ∧ Gr w w' :=
  reckonG_any hng hhk orc L f h0 ha hv (h1.trans (he ▸ h2.symm)) w hL
theorem reckonX_ok {P : Program} (hng : NoNG P) {hk : Hook} (hhk : HookOk2 P hk) (L f : Nat) (h0 : List AO) {g : FuncId} {args : List Value} {v : Value} (ha : args.all flat = true) (hv : flat v = true) (h : reckonGL P hk noOrc L f h0 g args = reckonGR P hk noOrc L f h0 g args v) (w : World) (hL : Laid h0 w) :
    Calls P g ⟨args⟩ w fun e w' => e = .returned v ∧ Gr w w' := reckonX_any hng hhk noOrc L f h0 ha hv h w hL
theorem laid_at {g : Nat} {cs : List Value} {w : World} (h : ∃ t fr, w.heap[g]? = some (.cells ⟨cs⟩ t fr)) : ∃ T tot, w.shape? g = some (T, tot) ∧ cs.length ≤ tot ∧ ∀ (j : Nat) (v : Value), cs[j]? = some v → w.cell? ⟨g, j, none⟩ = some v := by
  obtain ⟨t, fr, hh⟩ := h
  refine ⟨t, cs.length, by simp [World.shape?, hh], Nat.le_refl _, fun j v hv => ?_⟩
  unfold World.cell?
  simp only [hh]
  simpa using hv
/-- One variable, at its place. -/
theorem Laid.one {g0 : Nat} {cs : List Value} {w : World} (hf : cs.all flat = true) (h : ∃ t fr, w.heap[g0]? = some (.cells ⟨cs⟩ t fr)) : Laid (List.replicate g0 dead ++ [⟨true, some GM, cs⟩]) w := by
  intro g o ho hl
  by_cases e : g < g0
  · rw [List.getElem?_append_left (by simpa using e), List.getElem?_replicate, if_pos e] at ho
    cases ho
    cases hl
  · have h2 := (List.getElem?_eq_some_iff.1 ho).1
    simp only [List.length_append, List.length_replicate, List.length_singleton] at h2
    obtain rfl : g = g0 := by omega
    rw [List.getElem?_append_right (by simp)] at ho
    simp only [List.length_replicate, Nat.sub_self, List.getElem?_cons_zero, Option.some.injEq] at ho
    subst ho
    exact ⟨rfl, hf, laid_at h⟩
theorem Laid.nil (w : World) : Laid [] w := fun g o h => by simp at h
theorem Laid.gr {h0 : List AO} {w w' : World} (h : Laid h0 w) (g : Gr w w') : Laid h0 w' := fun i o ho hl =>
  let ⟨a, b, T, tot, hs, hle, hc⟩ := h i o ho hl
  ⟨a, b, T, tot, gr_shape g (shape_cells hs).1 hs, hle, fun j v hv => (gr_cell g (a := ⟨i, j, none⟩) (shape_cells hs).1).trans (hc j v hv)⟩
end Go.Proofs.YtokeopmmnpmfeaaDoor.Ex
end
section
namespace Go.Proofs.YtokeopmmnpmfeaaDoor
set_option maxRecDepth 20000

open Go.ChangeShapes Go.WideShapes Go.RowKit

inductive Kd where
  | i (k : IntKind)
  | b
  | s
def Kd.ok : Kd → Value → Prop
  | .i k, v => ∃ n, v = .int k n ∧ (Lit.int k n).wf = true
  | .b, v => ∃ x, v = .bool x
  | .s, v => ∃ x : ByteArray, v = .string x ∧ x.size ≤ maxLen
def okL : List Kd → List Value → Prop
  | [], [] => True
  | k :: ks, v :: vs => k.ok v ∧ okL ks vs
  | _, _ => False
theorem okL.nil {cs : List Value} (h : okL [] cs) : cs = [] := by cases cs with | nil => rfl | cons _ _ => exact h.elim
theorem okL.cons {k : Kd} {ks : List Kd} {cs : List Value} (h : okL (k :: ks) cs) : ∃ v vs, cs = v :: vs ∧ k.ok v ∧ okL ks vs := by
  cases cs with
  | nil => exact h.elim
  | cons v vs => exact ⟨v, vs, rfl, h.1, h.2⟩
theorem okL.length : ∀ {ks : List Kd} {cs : List Value}, okL ks cs → cs.length = ks.length
  | [], cs, h => by rw [h.nil]; rfl
  | k :: ks, cs, h => by
    obtain ⟨v, vs, rfl, _, h2⟩ := h.cons
    simp [okL.length h2]
theorem okL.append : ∀ {ks ls : List Kd} {cs ds : List Value}, okL ks cs → okL ls ds → okL (ks ++ ls) (cs ++ ds)
  | [], ls, cs, ds, h, g => by rw [h.nil]; exact g
  | k :: ks, ls, cs, ds, h, g => by
    obtain ⟨v, vs, rfl, h1, h2⟩ := h.cons
    exact ⟨h1, okL.append h2 g⟩
/-- The kinds of a struct's fields, one behind the other. -/
def kindsF (g : TypeId → Option (List Kd)) (cells : TypeId → Nat) : List Field → Nat → Option (List Kd)
  | [], _ => some []
  | f :: fs, off =>
    match g f.type with
    | some ks =>
      if f.offset = off ∧ cells f.type = ks.length then
        match kindsF g cells fs (off + ks.length) with
        | some ls => some (ks ++ ls)
        | none => none
      else none
    | none => none
def kindsT (P : Program) : Nat → TypeId → Option (List Kd)
  | 0, _ => none
  | f + 1, t =>
    match P.underlying t with
    | some .bool => some [.b]
    | some (.int k) => some [.i k]
    | some .string => some [.s]
    | some (.array n e) =>
      match kindsT P f e with
      | some ks => if P.cellsOf e = ks.length ∧ P.cellsOf t = n * ks.length then some (List.replicate n ks).flatten else none
      | none => none
    | some (.struct fs) =>
      match kindsF (kindsT P f) P.cellsOf fs.toList 0 with
      | some ks => if P.cellsOf t = ks.length then some ks else none
      | none => none
    | _ => none
theorem mapM_each {α β : Type} {g : α → Option β} : ∀ {l : List α} {xs : List β}, l.mapM g = some xs → ∀ a ∈ l, ∃ y, g a = some y
  | [], _, _, a, ha => by cases ha
  | a :: l, xs, h, b, hb => by
    simp only [List.mapM_cons] at h
    cases ha : g a with
    | none => rw [ha] at h; cases h
    | some y =>
      rw [ha] at h
      cases hl : l.mapM g with
      | none => rw [hl] at h; cases h
      | some ys =>
        rcases List.mem_cons.1 hb with e | e
        · rw [e]; exact ⟨y, ha⟩
        · exact mapM_each hl b e
theorem arr_ok {cs : List Value} {ks : List Kd} : ∀ (m j : Nat), (∀ i, j ≤ i → i < j + m → okL ks ((cs.drop (i * ks.length)).take ks.length)) → okL (List.replicate m ks).flatten ((cs.drop (j * ks.length)).take (m * ks.length))
  | 0, j, _ => by simp [okL]
  | m + 1, j, h => by
    have h1 := h j (Nat.le_refl _) (by omega)
    have h2 := arr_ok m (j + 1) fun i h3 h4 => h i (by omega) (by omega)
    have e : (cs.drop (j * ks.length)).take ((m + 1) * ks.length) = (cs.drop (j * ks.length)).take ks.length ++ (cs.drop ((j + 1) * ks.length)).take (m * ks.length) := by
      rw [show (m + 1) * ks.length = ks.length + m * ks.length by rw [Nat.add_mul]; omega, List.take_add, List.drop_drop, show j * ks.length + ks.length = (j + 1) * ks.length by rw [Nat.add_mul]; omega]
    rw [e, List.replicate_succ, List.flatten_cons]
    exact h1.append h2
theorem str_ok {g : TypeId → Option (List Kd)} {cells : TypeId → Nat} {cs : List Value} : ∀ (fs : List Field) (off : Nat) (ks : List Kd), kindsF g cells fs off = some ks →
    (∀ f ∈ fs, ∀ ls, g f.type = some ls → okL ls ((cs.drop f.offset).take (cells f.type))) → okL ks ((cs.drop off).take ks.length)
  | [], off, ks, h, _ => by simp [kindsF] at h; subst h; simp [okL]
  | f :: fs, off, ks, h, hf => by
    simp only [kindsF] at h
    split at h
    · rename_i k1 hk
      split at h
      · rename_i hc
        split at h
        · rename_i k2 h2
          cases h
          have a1 := hf f (by simp) k1 hk
          rw [hc.1, hc.2] at a1
          have a2 := str_ok fs _ _ h2 fun q hq => hf q (by simp [hq])
          rw [List.length_append, List.take_add, List.drop_drop]
          exact a1.append a2
        · cases h
      · cases h
    · cases h
section
variable {H : Type} {enc : TypeId × Value → H} {P : Program}
theorem plain_kinds : ∀ (f : Nat) {t : TypeId} {ks : List Kd}, kindsT P f t = some ks → ∀ {w : World} {base : Nat} {sp : Nat → Bool} {held : Bool} {n : Nat} {cs : List Value} {x : DataW H × List MemPlace}, DataW.trod enc P w base sp held n t cs = some x → okL ks cs
  | 0, t, ks, h => by simp [kindsT] at h
  | f + 1, t, ks, h => by
    rename_i w base sp held n cs x
    intro hx
    simp only [kindsT] at h
    split at h
    · cases h
      rename_i hu
      cases n with
      | zero => simp [DataW.trod] at hx
      | succ n =>
        simp only [DataW.trod, hu] at hx
        split at hx <;> simp_all [okL, Kd.ok]
    · cases h
      rename_i k hu
      obtain ⟨m, rfl, _, hw⟩ := DataW.trod_int hu hx
      exact ⟨⟨m, rfl, hw⟩, trivial⟩
    · cases h
      rename_i hu
      obtain ⟨m, rfl, _, hw⟩ := DataW.trod_string hu hx
      exact ⟨⟨m, rfl, hw⟩, trivial⟩
    · rename_i m e hu
      split at h
      · rename_i k1 hk
        split at h
        · rename_i hc
          cases h
          obtain ⟨xs, q, rfl, _, hlen, hn, hall⟩ := DataW.trod_array hu hx
          have := arr_ok (cs := cs) (ks := k1) m 0 fun i _ hi => by
            have h1 := hall i (by omega)
            rw [hc.1] at h1
            exact plain_kinds f hk (h1.trans (List.getElem?_eq_getElem (by omega)))
          rw [Nat.zero_mul, List.drop_zero, ← hc.2, ← hlen, List.take_length] at this
          exact this
        · cases h
      · cases h
    · rename_i fs hu
      split at h
      · rename_i k1 hk
        split at h
        · rename_i hc
          cases h
          cases n with
          | zero => simp [DataW.trod] at hx
          | succ n =>
            have hx2 : (if cs.length = P.cellsOf t then (fs.toList.mapM fun f => DataW.trod enc P w base sp held n f.type ((cs.drop f.offset).take (P.cellsOf f.type))).map fun xs => ((DataW.agg (xs.map (·.1)) : DataW H), xs.flatMap (·.2)) else none) = some x := by
              rw [← hx]; simp only [DataW.trod, hu]
            split at hx2
            · rename_i hlen
              cases hm : fs.toList.mapM fun f => DataW.trod enc P w base sp held n f.type ((cs.drop f.offset).take (P.cellsOf f.type)) with
              | none => rw [hm] at hx2; cases hx2
              | some xs =>
                have := str_ok (cs := cs) fs.toList 0 ks hk fun g hg ls hl => by
                  obtain ⟨y, hy⟩ := mapM_each hm g hg
                  exact plain_kinds f hl hy
                rw [List.drop_zero, ← hc, ← hlen, List.take_length] at this
                exact this
            · cases hx2
        · cases h
      · cases h
    · cases h
theorem kindsF_each {g : TypeId → Option (List Kd)} {cells : TypeId → Nat} : ∀ {fs : List Field} {off : Nat} {ks : List Kd}, kindsF g cells fs off = some ks → ∀ f ∈ fs, ∃ ls, g f.type = some ls
  | [], _, _, _, f, hf => by cases hf
  | f :: fs, off, ks, h, q, hq => by
    simp only [kindsF] at h
    split at h
    · rename_i k1 hk
      split at h
      · split at h
        · rename_i k2 h2
          rcases List.mem_cons.1 hq with e | e
          · rw [e]; exact ⟨k1, hk⟩
          · exact kindsF_each h2 q e
        · cases h
      · cases h
    · cases h
end
end Go.Proofs.YtokeopmmnpmfeaaDoor
end
section
namespace Go.Proofs.YtokeopmmnpmfeaaDoor
set_option maxRecDepth 20000

open Go.ChangeShapes Go.WideShapes Go.RowKit

def flatD {H : Type} : Nat → DataW H → List Value
  | 0, _ => []
  | _ + 1, .lit (.int k n) => [.int k n]
  | _ + 1, .lit (.bool b) => [.bool b]
  | _ + 1, .lit (.string s) => [.string ⟨s.toArray⟩]
  | f + 1, .agg l => l.flatMap (flatD f)
  | _ + 1, _ => []
theorem arr_flat {α : Type} {cs : List Value} {k : Nat} {F : α → List Value} : ∀ (xs : List α) (j : Nat), (∀ i y, xs[i]? = some y → (cs.drop ((j + i) * k)).take k = F y) → (cs.drop (j * k)).take (xs.length * k) = xs.flatMap F
  | [], j, h => by simp
  | a :: l, j, h => by
    have h1 := h 0 a rfl
    have h2 := arr_flat l (j + 1) fun i y hy => by
      have := h (i + 1) y (by simpa using hy)
      rw [show j + (i + 1) = j + 1 + i by omega] at this
      exact this
    rw [List.length_cons, show (l.length + 1) * k = k + l.length * k by rw [Nat.add_mul]; omega, List.take_add, List.drop_drop, show j * k + k = (j + 1) * k by rw [Nat.add_mul]; omega, h2]
    rw [Nat.add_zero] at h1
    rw [h1]
    rfl
theorem str_flat {α : Type} {g : TypeId → Option (List Kd)} {cells : TypeId → Nat} {cs : List Value} {tr : Field → Option α} {F : α → List Value} : ∀ (fs : List Field) (off : Nat) (ks : List Kd) (xs : List α), kindsF g cells fs off = some ks → fs.mapM tr = some xs →
    (∀ f ∈ fs, ∀ y, tr f = some y → (cs.drop f.offset).take (cells f.type) = F y) → (cs.drop off).take ks.length = xs.flatMap F
  | [], off, ks, xs, h, hx, _ => by
    simp [kindsF] at h
    simp at hx
    subst h hx
    simp
  | f :: fs, off, ks, xs, h, hx, hf => by
    simp only [List.mapM_cons] at hx
    cases ha : tr f with
    | none => rw [ha] at hx; cases hx
    | some y =>
      rw [ha] at hx
      cases hl : fs.mapM tr with
      | none => rw [hl] at hx; cases hx
      | some ys =>
        rw [hl] at hx
        cases hx
        simp only [kindsF] at h
        split at h
        · rename_i k1 hk
          split at h
          · rename_i hc
            split at h
            · rename_i k2 h2
              cases h
              have a1 := hf f (by simp) y ha
              rw [hc.1, hc.2] at a1
              have a2 := str_flat fs _ _ _ h2 hl fun q hq => hf q (by simp [hq])
              rw [List.length_append, List.take_add, List.drop_drop, a1, a2]
              rfl
            · cases h
          · cases h
        · cases h
theorem flatMap_map {α β γ : Type} (l : List α) (g : α → β) (F : β → List γ) : (l.map g).flatMap F = l.flatMap fun a => F (g a) := by
  induction l with
  | nil => rfl
  | cons a l ih => simp [ih]
variable {H : Type} {enc : TypeId × Value → H} {P : Program}
theorem plain_flat : ∀ (f : Nat) {t : TypeId} {ks : List Kd}, kindsT P f t = some ks → ∀ {w : World} {base : Nat} {sp : Nat → Bool} {held : Bool} {n : Nat} {cs : List Value} {x : DataW H × List MemPlace}, DataW.trod enc P w base sp held n t cs = some x → cs = flatD f x.1
  | 0, t, ks, h => by simp [kindsT] at h
  | f + 1, t, ks, h => by
    rename_i w base sp held n cs x
    intro hx
    have hk1 := plain_kinds (f + 1) h hx
    simp only [kindsT] at h
    cases n with
    | zero => simp [DataW.trod] at hx
    | succ n =>
      split at h
      · cases h
        rename_i hu
        obtain ⟨v, vs, rfl, ⟨y, rfl⟩, hn⟩ := hk1.cons
        obtain rfl := hn.nil
        simp only [DataW.trod, hu] at hx
        cases hx
        rfl
      · cases h
        rename_i k hu
        obtain ⟨v, vs, rfl, ⟨y, rfl, hw⟩, hn⟩ := hk1.cons
        obtain rfl := hn.nil
        simp only [DataW.trod, hu, hw, and_self, if_true] at hx
        cases hx
        rfl
      · cases h
        rename_i hu
        obtain ⟨v, vs, rfl, ⟨y, rfl, hw⟩, hn⟩ := hk1.cons
        obtain rfl := hn.nil
        simp only [DataW.trod, hu, hw, if_true] at hx
        cases hx
        rfl
      · rename_i m e hu
        split at h
        · rename_i k1 hk
          split at h
          · rename_i hc
            cases h
            obtain ⟨xs, q, _, hxx, hlen, hn, hall⟩ := DataW.trod_array hu hx
            have := arr_flat (cs := cs) (k := k1.length) (F := fun y : DataW H × List MemPlace => flatD f y.1) xs 0 fun i y hy => by
              have hi : i < m := by
                have := (List.getElem?_eq_some_iff.1 hy).1
                omega
              have h1 := (hall i hi).trans hy
              rw [hc.1] at h1
              rw [Nat.zero_add]
              exact plain_flat f hk h1
            rw [Nat.zero_mul, List.drop_zero, hn, ← hc.2, ← hlen, List.take_length] at this
            rw [hxx]
            simp only [flatD]
            rw [flatMap_map]
            exact this
          · cases h
        · cases h
      · rename_i fs hu
        split at h
        · rename_i k1 hk
          split at h
          · rename_i hc
            cases h
            have hx2 : (if cs.length = P.cellsOf t then (fs.toList.mapM fun f => DataW.trod enc P w base sp held n f.type ((cs.drop f.offset).take (P.cellsOf f.type))).map fun xs => ((DataW.agg (xs.map (·.1)) : DataW H), xs.flatMap (·.2)) else none) = some x := by
              rw [← hx]; simp only [DataW.trod, hu]
            split at hx2
            · rename_i hlen
              cases hm : fs.toList.mapM fun f => DataW.trod enc P w base sp held n f.type ((cs.drop f.offset).take (P.cellsOf f.type)) with
              | none => rw [hm] at hx2; cases hx2
              | some xs =>
                rw [hm] at hx2
                cases hx2
                have hfs := kindsF_each hk
                have := str_flat (cs := cs) (F := fun y : DataW H × List MemPlace => flatD f y.1) fs.toList 0 ks xs hk hm fun g hg y hy => by
                  obtain ⟨ls, hl⟩ := hfs g hg
                  exact plain_flat f hl hy
                rw [List.drop_zero, ← hc, ← hlen, List.take_length] at this
                simp only [flatD]
                rw [flatMap_map]
                exact this
            · cases hx2
          · cases h
        · cases h
      · cases h
end Go.Proofs.YtokeopmmnpmfeaaDoor
end
section
namespace Go.Proofs.YtokeopmmnpmfeaaDoor.Ex
set_option maxRecDepth 20000

open Go Go.RowKit
set_option maxRecDepth 1000000 in
theorem noNG : NoNG Tryd.prog := noNG_ok (by kernel_rfl)
end Go.Proofs.YtokeopmmnpmfeaaDoor.Ex
end
section
namespace Go.Proofs.YtokeopmmnpmfeaaDoor.Ex
set_option maxRecDepth 20000

open Go Go.RowKit Go.ChangeShapes Go.WideShapes Go.WideMaps Go.WideElems
def fmCs : List Value := flatD (H := Unit) 4 Rows.laid_firewall_codec_forms
def h12 : List AO := List.replicate 0 dead ++ [⟨true, some GM, fmCs⟩]
def TabAt (w : World) : Prop := ∃ t fr, w.heap[0]? = some (.cells ⟨fmCs⟩ t fr)
theorem laid_of_tab {w : World} (h : TabAt w) : Laid h12 w := Laid.one rfl h
theorem gFm : Tryd.prog.globalNamed "firewall/codec.forms" = some 0 := by kernel_rfl
theorem tFm : (Tryd.prog.globals[0]?).map (·.type) = some 48 := by kernel_rfl
theorem fm_flat {H : Type} : flatD (H := H) 4 Rows.laid_firewall_codec_forms = fmCs := rfl
theorem tab_of_laid {W : World} (h : laidMetH Tryd.prog [("firewall/codec.forms", Rows.laid_firewall_codec_forms)] W) : TabAt W := by
  rw [MakeChecks.laidMetH_plain _ _ _ (by kernel_rfl)] at h
  obtain ⟨ps, ⟨g0, t0, cs0, f0, p0, q0, hg0, ht0, hv0, hd0, _⟩, _⟩ := h
  obtain rfl := Option.some.inj (gFm.symm.trans hg0)
  obtain rfl := Option.some.inj (tFm.symm.trans ht0)
  have key := plain_flat 4 (ks := (List.replicate 22 [Kd.i .u16, .b, .i .u8, .i .u8, .i .u8, .i .u8]).flatten) (by kernel_rfl) hd0
  have hkey : cs0 = ⟨fmCs⟩ := Array.toList_inj.1 (key.trans fm_flat)
  subst hkey
  simp only [World.var?, gFm, Option.bind_some] at hv0
  split at hv0
  · rename_i cs t fr hh
    obtain rfl := Option.some.inj hv0
    exact ⟨t, fr, hh⟩
  · cases hv0
end Go.Proofs.YtokeopmmnpmfeaaDoor.Ex
end
section
namespace Go.Proofs.YtokeopmmnpmfeaaDoor.Ex
set_option maxRecDepth 20000

open Go Go.RowKit
def eqM : Value → Value → Bool
  | .agg ⟨a⟩, .agg ⟨b⟩ => eqL a b
  | x, y => eqI x y
theorem eqM_ok {x y : Value} (h : eqM x y = true) : x = y := by
  unfold eqM at h
  split at h
  · rw [eqL_ok h]
  · exact eqI_ok h
def eqML : List Value → List Value → Bool
  | [], [] => true
  | x :: xs, y :: ys => eqM x y && eqML xs ys
  | _, _ => false
theorem eqML_ok : ∀ {xs ys : List Value}, eqML xs ys = true → xs = ys
  | [], [], _ => rfl
  | x :: xs, y :: ys, h => by
    simp only [eqML, Bool.and_eq_true] at h
    rw [eqM_ok h.1, eqML_ok h.2]
  | [], _ :: _, h => by cases h
  | _ :: _, [], h => by cases h
/-- Of one function: arguments, and what it comes to. -/
abbrev Tab := List (List Value × Value)
def tabFind : Tab → List Value → Option Value
  | [], _ => none
  | e :: r, args => if eqML args e.1 then some e.2 else tabFind r args
theorem tabFind_mem : ∀ {t : Tab} {args : List Value} {v : Value}, tabFind t args = some v → (args, v) ∈ t
  | [], _, _, h => by cases h
  | e :: r, args, v, h => by
    simp only [tabFind] at h
    split at h
    · rename_i he
      cases h
      rw [eqML_ok he]
      simp
    · exact List.mem_cons_of_mem _ (tabFind_mem h)
def TabOk (P : Program) (h0 : List AO) (g : FuncId) : Tab → Prop
  | [] => True
  | e :: r => (∀ w, Laid h0 w → Calls P g ⟨e.1⟩ w fun x w' => x = .returned e.2 ∧ Gr w w') ∧ TabOk P h0 g r
theorem TabOk.at {P : Program} {h0 : List AO} {g : FuncId} : ∀ {t : Tab}, TabOk P h0 g t → ∀ e ∈ t, ∀ w, Laid h0 w → Calls P g ⟨e.1⟩ w fun x w' => x = .returned e.2 ∧ Gr w w'
  | [], _, e, he => by cases he
  | a :: r, h, e, he => by
    rcases List.mem_cons.1 he with q | q
    · rw [q]; exact h.1
    · exact h.2.at e q
theorem TabOk.app {P : Program} {h0 : List AO} {g : FuncId} : ∀ {s t : Tab}, TabOk P h0 g s → TabOk P h0 g t → TabOk P h0 g (s ++ t)
  | [], _, _, h => h
  | _ :: _, _, a, h => ⟨a.1, a.2.app h⟩
def memoHook (h0 : List AO) (g : FuncId) (t : Tab) : Hook := fun f args h =>
  if Nat.beq f g then
    match tabFind t args with
    | some v => if hasG h0 h then some (v, []) else none
    | none => none
  else none
theorem memoHook_ok {P : Program} {h0 : List AO} (hf : h0.all (fun o => !o.live || (match o.es with | some e => Nat.beq e GM | none => false) && o.cs.all flat) = true) {g : FuncId} {t : Tab} (ht : TabOk P h0 g t) : HookOk P (memoHook h0 g t) := by
  intro f args h v cs hv _ wb k s w H
  unfold memoHook at hv
  split at hv
  · rename_i hc
    obtain rfl := Nat.eq_of_beq_eq_true hc
    split at hv
    · rename_i v' hm
      split at hv
      · rename_i hg
        cases hv
        exact ht.at _ (tabFind_mem hm) w (H.laid hg hf)
      · cases hv
    · cases hv
  · cases hv
def orHook (a b : Hook) : Hook := fun f args h =>
  match a f args h with
  | some r => some r
  | none => b f args h
theorem orHook_ok {P : Program} {a b : Hook} (ha : HookOk P a) (hb : HookOk P b) : HookOk P (orHook a b) := by
  intro f args h v cs hv
  unfold orHook at hv
  split at hv
  · rename_i r hr
    cases hv
    exact ha f args h v cs hr
  · exact hb f args h v cs hv
end Go.Proofs.YtokeopmmnpmfeaaDoor.Ex
end
section
namespace Go.Proofs.YtokeopmmnpmfeaaDoor
set_option maxRecDepth 20000

def lowS (v : BitVec 64) (b : Int) : BitVec 64 := if b ≤ 0 then 0 else if 64 ≤ b then v else v &&& (1#64 <<< b.toNat - 1#64)
def signS (v : BitVec 64) (b : Int) : BitVec 64 := if b ≤ 0 then 0 else if 64 ≤ b then v else (v <<< (64 - b).toNat).sshiftRight (64 - b).toNat

/-- The number of the first k of some bytes. -/
def numF (f : Nat → BitVec 8) : Nat → BitVec 64
  | 0 => 0#64
  | k + 1 => numF f k ||| ((f k).setWidth 64 <<< (8 * k))
def byteAt (s : ByteArray) (i : Nat) : BitVec 8 := (s.data.toList.getD i 0).toBitVec
def numS (s : ByteArray) : BitVec 64 := numF (byteAt s) (min s.size 8)
theorem numF_succ (f : Nat → BitVec 8) (k : Nat) : numF f (k + 1) = numF f k ||| ((f k).setWidth 64 <<< (8 * k)) := rfl
theorem byteAt_get (s : ByteArray) (k : Nat) (h : k < s.size) : BitVec.ofNat 64 s[k].toNat = (byteAt s k).setWidth 64 := by
  unfold byteAt
  have h' : k < s.data.toList.length := by simpa using h
  rw [List.getD_eq_getElem?_getD, List.getElem?_eq_getElem h']
  rw [← BitVec.ofNat_toNat]; rfl
theorem numS_eq (s : ByteArray) (k : Nat) (h : k = min s.size 8) : numF (byteAt s) k = numS s := by rw [h]; rfl

theorem numF_bit (f : Nat → BitVec 8) (k j : Nat) : (numF f k).getLsbD j = (decide (j < 64) && decide (j < 8 * k) && (f (j / 8)).getLsbD (j % 8)) := by
  induction k with
  | zero => simp [numF]
  | succ k ih =>
    rw [numF_succ, BitVec.getLsbD_or, ih, BitVec.getLsbD_shiftLeft, BitVec.getLsbD_setWidth]
    by_cases h64 : j < 64
    · by_cases h1 : j < 8 * k
      · have h2 : j < 8 * (k + 1) := by omega
        simp [h64, h1, h2]
      · by_cases h2 : j < 8 * (k + 1)
        · have e1 : j / 8 = k := by omega
          have e2 : j - 8 * k = j % 8 := by omega
          have e3 : j % 8 < 64 := by omega
          simp [h64, h1, h2, e1, e2, e3]
        · have e2 : 8 ≤ j - 8 * k := by omega
          simp [h64, h1, h2, BitVec.getLsbD_of_ge _ _ e2]
    · simp [h64]

def byteOf (v : BitVec 64) (i : Nat) : BitVec 8 := (v >>> (8 * i)).setWidth 8
def bytesN (v : BitVec 64) (n : Nat) : ByteArray := ⟨((List.range n).map fun i => UInt8.ofBitVec (byteOf v i)).toArray⟩
theorem bytesN_size (v : BitVec 64) (n : Nat) : (bytesN v n).size = n := by
  show (bytesN v n).data.size = n
  simp [bytesN]
theorem bytesN_list (v : BitVec 64) (n : Nat) : (bytesN v n).data.toList = (List.range n).map fun i => UInt8.ofBitVec (byteOf v i) := by simp [bytesN]
theorem byteAt_bytesN (v : BitVec 64) (n i : Nat) (h : i < n) : byteAt (bytesN v n) i = byteOf v i := by
  unfold byteAt
  rw [bytesN_list, List.getD_eq_getElem?_getD]
  simp [h]

theorem low_mod (v : BitVec 64) (b : Nat) : v % (1#64 <<< b) = v &&& (1#64 <<< b - 1#64) ∨ 64 ≤ b := by
  by_cases h : b < 64
  · left
    apply BitVec.eq_of_toNat_eq
    have hp : 2 ^ b < 2 ^ 64 := Nat.pow_lt_pow_right (by decide) h
    have e1 : (1#64 <<< b).toNat = 2 ^ b := by
      rw [BitVec.toNat_shiftLeft]; simp [Nat.shiftLeft_eq]; exact hp
    have hp0 : 0 < 2 ^ b := Nat.two_pow_pos b
    have e2 : (1#64 <<< b - 1#64).toNat = 2 ^ b - 1 := by
      rw [BitVec.toNat_sub, e1]; simp; omega
    rw [BitVec.toNat_umod, BitVec.toNat_and, e1, e2, Nat.and_two_pow_sub_one_eq_mod]
  · right; omega
theorem low_of_mod (v : BitVec 64) (b : Int) (h0 : 0 < b) (h1 : b < 64) : v % (1#64 <<< b.toNat) = lowS v b := by
  unfold lowS
  rw [if_neg (by omega), if_neg (by omega)]
  exact (low_mod v b.toNat).resolve_right (by omega)
theorem low_toNat (v : BitVec 64) (b : Int) (h0 : 0 < b) (h1 : b < 64) : (lowS v b).toNat = v.toNat % 2 ^ b.toNat := by
  rw [← low_of_mod v b h0 h1, BitVec.toNat_umod, BitVec.toNat_shiftLeft]
  have hp : 2 ^ b.toNat < 2 ^ 64 := Nat.pow_lt_pow_right (by decide) (by omega)
  simp only [BitVec.toNat_ofNat, Nat.shiftLeft_eq]
  rw [Nat.mod_eq_of_lt (a := 1) (by decide), Nat.one_mul, Nat.mod_eq_of_lt hp]
theorem low_bit (v : BitVec 64) (b : Int) (i : Nat) : (lowS v b).getLsbD i = (decide ((i : Int) < b) && v.getLsbD i) := by
  by_cases h0 : b ≤ 0
  · unfold lowS; rw [if_pos h0]
    have : ¬ (i : Int) < b := by omega
    simp [this]
  · by_cases h1 : 64 ≤ b
    · unfold lowS; rw [if_neg h0, if_pos h1]
      by_cases hi : i < 64
      · have : (i : Int) < b := by omega
        simp [this]
      · simp [BitVec.getLsbD_of_ge v i (by omega)]
    · have e := low_toNat v b (by omega) (by omega)
      rw [BitVec.getLsbD, e, Nat.testBit_mod_two_pow]
      congr 1
      simp only [decide_eq_decide]; omega
end Go.Proofs.YtokeopmmnpmfeaaDoor
end
section
namespace Go.Proofs.YtokeopmmnpmfeaaDoor.Ex
set_option maxRecDepth 20000

open Go Go.RowKit
set_option linter.unusedVariables false
set_option linter.unusedSimpArgs false
set_option maxHeartbeats 0
set_option maxRecDepth 1000000
variable (al co si : Int) (wi sh : Bool) (ds sr dp re im : Int)
theorem rkZ {hk : Hook} (hhk : HookOk Tryd.prog hk) (orc : Orc) (h0 : List AO) {g : FuncId} {args : List Value} {v : Value} {cs : Cs} (hf : (args.all flat && flat v) = true)
    (h : reckonGL Tryd.prog (guardH hk) orc 100000 300 h0 g args = some (v, cs.map (·.1))) (h2 : reckonGR Tryd.prog (guardH hk) orc 100000 300 h0 g args v = some (v, cs.map (·.2))) (he : cs.map (·.1) = cs.map (·.2)) (w : World) (hL : Laid h0 w) : Calls Tryd.prog g ⟨args⟩ w fun e w' => e = .returned v ∧ Gr w w' := by
  simp only [Bool.and_eq_true] at hf
  exact reckonS_ok noNG hhk orc 100000 300 h0 hf.1 hf.2 h h2 he w hL
theorem csT' {e : Bool} {l : Cs} (h : e = true) (r : l.map (·.1) = l.map (·.2)) : (((b2i e, 1) :: l : Cs)).map (·.1) = (((b2i e, 1) :: l : Cs)).map (·.2) := by
  subst h; exact congrArg (List.cons _) r
theorem csF' {e : Bool} {l : Cs} (h : e = false) (r : l.map (·.1) = l.map (·.2)) : (((b2i e, 0) :: l : Cs)).map (·.1) = (((b2i e, 0) :: l : Cs)).map (·.2) := by
  subst h; exact congrArg (List.cons _) r
theorem csI' {e n : Int} {l : Cs} (h : e = n) (r : l.map (·.1) = l.map (·.2)) : (((e, n) :: l : Cs)).map (·.1) = (((e, n) :: l : Cs)).map (·.2) := by
  subst h; exact congrArg (List.cons _) r
theorem csN' : (([] : Cs)).map (·.1) = (([] : Cs)).map (·.2) := rfl
theorem retZ {P : Program} {g : FuncId} {args : Array Value} {u v : Value} {w : World} (e : u = v) (h : Calls P g args w fun x w' => x = .returned v ∧ Gr w w') : Calls P g args w fun x w' => x = .returned u ∧ Gr w w' := e ▸ h
def Lf (h0 : List AO) (g : FuncId) (args : List Value) (v : Value) (cs : Cs) : Prop := cs.map (·.1) = cs.map (·.2) → ∀ (w : World), Laid h0 w → Calls Tryd.prog g ⟨args⟩ w fun e w' => e = .returned v ∧ Gr w w'
theorem lf {hk : Hook} (hhk : HookOk Tryd.prog hk) (orc : Orc) {h0 : List AO} {g : FuncId} {args : List Value} {v : Value} {cs : Cs} (hf : (args.all flat && flat v) = true)
    (h : reckonGL Tryd.prog (guardH hk) orc 100000 300 h0 g args = some (v, cs.map (·.1))) (h2 : reckonGR Tryd.prog (guardH hk) orc 100000 300 h0 g args v = some (v, cs.map (·.2))) : Lf h0 g args v cs := fun he w hL => rkZ hhk orc h0 hf h h2 he w hL
theorem lfk {hk : Hook} (hhk : HookOk Tryd.prog hk) (orc : Orc) {h0 : List AO} {g : FuncId} {args : List Value} {v : Value} {cs : Cs} (hf : (args.all flat && flat v) = true := by kernel_rfl)
    (h : reckonGL Tryd.prog (guardH hk) orc 100000 300 h0 g args = some (v, cs.map (·.1)) := by kernel_rfl) (h2 : reckonGR Tryd.prog (guardH hk) orc 100000 300 h0 g args v = some (v, cs.map (·.2)) := by kernel_rfl) : Lf h0 g args v cs := lf hhk orc hf h h2
def xA (k al co si : Int) (wi sh : Bool) (ds sr dp re im : Int) : List Value := [.int .i64 k, .int .i64 al, .int .i64 co, .int .i64 si, .bool wi, .bool sh, .int .i64 ds, .int .i64 sr, .int .i32 dp, .int .i32 re, .int .i64 im]
def ocs (l : List (Nat × Nat × Value)) (rounds : List Bool) : Orc := fun f t (x : List Value) =>
  match l.find? (fun p => Nat.beq p.1 f && Nat.beq p.2.1 t) with
  | some p => some p.2.2
  | none => if Nat.beq f 52 && Nat.beq t 17 then (match (x[5]? : Option Value) with | some (Value.int _ i) => (rounds[i.toNat]?).map Value.bool | _ => none) else none
/-- A tree of tests: told at a slot of a function, or told in a round; its leaves are answers. -/
inductive DT where
  | r (v : Bool)
  | k (f t : Nat) (e : Bool) (a b : DT)
  | o (e : Bool) (a b : DT)
def DT.ev : DT → Bool
  | .r v => v
  | .k _ _ e a b => bif e then a.ev else b.ev
  | .o e a b => bif e then a.ev else b.ev
structure Pth where
  os : List (Nat × Nat × Value)
  rs : List Bool
  cs : Cs
  v : Bool
/-- All ways through a tree. -/
def DT.ps : DT → List (Nat × Nat × Value) → List Bool → Cs → List Pth
  | .r v, os, rs, cs => [⟨os, rs, cs, v⟩]
  | .k f t e a b, os, rs, cs => a.ps ((f, t, .bool true) :: os) rs (cs ++ [(b2i e, 1)]) ++ b.ps ((f, t, .bool false) :: os) rs (cs ++ [(b2i e, 0)])
  | .o e a b, os, rs, cs => a.ps os (rs ++ [true]) (cs ++ [(b2i e, 1)]) ++ b.ps os (rs ++ [false]) (cs ++ [(b2i e, 0)])
def pthL : List Pth → List (Option (Value × List Int))
  | [] => []
  | p :: l => some (.bool p.v, p.cs.map (·.1)) :: pthL l
def pthR : List Pth → List (Option (Value × List Int))
  | [] => []
  | p :: l => some (.bool p.v, p.cs.map (·.2)) :: pthR l
theorem pthL_ok {F : Pth → Option (Value × List Int)} : ∀ {l : List Pth}, l.map F = pthL l → ∀ p ∈ l, F p = some (.bool p.v, p.cs.map (·.1))
  | [], _, p, hp => by cases hp
  | q :: l, h, p, hp => by
    obtain ⟨h1, h2⟩ := List.cons.inj h
    rcases List.mem_cons.1 hp with rfl | hp
    · exact h1
    · exact pthL_ok h2 p hp
theorem pthR_ok {F : Pth → Option (Value × List Int)} : ∀ {l : List Pth}, l.map F = pthR l → ∀ p ∈ l, F p = some (.bool p.v, p.cs.map (·.2))
  | [], _, p, hp => by cases hp
  | q :: l, h, p, hp => by
    obtain ⟨h1, h2⟩ := List.cons.inj h
    rcases List.mem_cons.1 hp with rfl | hp
    · exact h1
    · exact pthR_ok h2 p hp
theorem csA' {l : Cs} {x : Int} (h : l.map (·.1) = l.map (·.2)) : (l ++ [(x, x)]).map (·.1) = (l ++ [(x, x)]).map (·.2) := by
  rw [List.map_append, List.map_append, h]
  rfl
theorem DT.pick {h0 : List AO} {g : FuncId} {args : List Value} {w : World} (hL : Laid h0 w) : ∀ (T : DT) (os : List (Nat × Nat × Value)) (rs : List Bool) (cs : Cs), (∀ p ∈ T.ps os rs cs, Lf h0 g args (.bool p.v) p.cs) → cs.map (·.1) = cs.map (·.2) → Calls Tryd.prog g ⟨args⟩ w fun e w' => e = .returned (.bool T.ev) ∧ Gr w w'
  | .r v, os, rs, cs, H, hc => H _ (List.mem_singleton.2 rfl) hc w hL
  | .k f t e a b, os, rs, cs, H, hc => by
    cases e with
    | true => exact DT.pick hL a _ _ _ (fun p hp => H p (List.mem_append_left _ hp)) (csA' hc)
    | false => exact DT.pick hL b _ _ _ (fun p hp => H p (List.mem_append_right _ hp)) (csA' hc)
  | .o e a b, os, rs, cs, H, hc => by
    cases e with
    | true => exact DT.pick hL a _ _ _ (fun p hp => H p (List.mem_append_left _ hp)) (csA' hc)
    | false => exact DT.pick hL b _ _ _ (fun p hp => H p (List.mem_append_right _ hp)) (csA' hc)
/-- A call told by a tree of tests, whose every way is reckoned. -/
theorem treeOk {hk : Hook} (hhk : HookOk Tryd.prog hk) {h0 : List AO} {g : FuncId} {args : List Value} (T : DT) {b : Bool} (e : b = T.ev) {w : World} (hL : Laid h0 w) (hf : args.all flat = true := by kernel_rfl)
    (h : (T.ps [] [] []).map (fun p => reckonGL Tryd.prog (guardH hk) (ocs p.os p.rs) 100000 300 h0 g args) = pthL (T.ps [] [] []) := by kernel_rfl)
    (h2 : (T.ps [] [] []).map (fun p => reckonGR Tryd.prog (guardH hk) (ocs p.os p.rs) 100000 300 h0 g args (.bool p.v)) = pthR (T.ps [] [] []) := by kernel_rfl) : Calls Tryd.prog g ⟨args⟩ w fun e w' => e = .returned (.bool b) ∧ Gr w w' := by
  subst e
  exact DT.pick hL T [] [] [] (fun p hp => lf hhk _ (by rw [hf]; rfl) (pthL_ok h p hp) (pthR_ok h2 p hp)) rfl
def hkZ : Hook := fun _ _ _ => none
theorem hkZ_ok : HookOk Tryd.prog hkZ := by
  intro f args h v cs hv
  cases hv
def regS (n : Int) : Bool := decide (n ≥ 0) && decide (n < 16)
def aluOk (a : Int) : Bool := a == 0 || (a == 1 || (a == 4 || (a == 5 || (a == 6 || (a == 7)))))
def shOk (a : Int) : Bool := a == 4 || (a == 5 || (a == 7))
def ccR (a : Int) : Bool := a == 2 || (a == 3 || (a == 4 || (a == 5 || (a == 6 || (a == 7 || (a == 12 || (a == 13 || (a == 14 || (a == 15)))))))))
def szOk (a : Int) : Bool := a == 1 || (a == 2 || (a == 4 || (a == 8)))
def szR (a : Int) : Bool := 1 == a || (2 == a || (4 == a || 8 == a))
theorem szR_eq (a : Int) : szR a = szOk a := by
  unfold szR szOk
  simp only [BEq.comm (b := a)]
def ccOk (c : Int) : Bool := (decide (c ≥ 2) && decide (c ≤ 7)) || (decide (c ≥ 12) && decide (c ≤ 15))
def wordS (n : Int) : Bool := decide (n ≥ -2147483648) && decide (n ≤ 2147483647)
def shiftS (wi : Bool) (im : Int) : Bool := decide (im ≥ 0) && (decide (im < 32) || (wi && decide (im < 64)))
def relS (sh : Bool) (re : Int) : Bool := !sh || (decide (re ≥ -128) && decide (re ≤ 127))
theorem eqz (a c : Int) : (c == a) = (a == c) := BEq.comm
theorem c_ralu (a : Int) (w : World) : Calls Tryd.prog 49 #[.int .i64 a] w fun e w' => e = .returned (.bool (aluOk a)) ∧ Gr w w' :=
  treeOk hkZ_ok (.o (0 == a) (.r true) (.o (1 == a) (.r true) (.o (4 == a) (.r true) (.o (5 == a) (.r true) (.o (6 == a) (.r true) (.o (7 == a) (.r true) (.r false))))))) (by simp [DT.ev, aluOk, ← eqz a]) (Laid.nil w)
def hk_ralu : Hook := fun f args h =>
  if Nat.beq f 49 then
    match args with
    | [.int .i64 p] => some (.bool (aluOk p), [])
    | _ => none
  else none
theorem hk_ralu_ok : HookOk Tryd.prog hk_ralu := by
  intro f args h v cs hv hc wb k s w H
  unfold hk_ralu at hv
  split at hv
  · rename_i hf
    obtain rfl := Nat.eq_of_beq_eq_true hf
    split at hv
    · cases hv
      exact c_ralu _ w
    · cases hv
  · cases hv
theorem c_rshift (a : Int) (w : World) : Calls Tryd.prog 51 #[.int .i64 a] w fun e w' => e = .returned (.bool (shOk a)) ∧ Gr w w' :=
  treeOk hkZ_ok (.o (4 == a) (.r true) (.o (5 == a) (.r true) (.o (7 == a) (.r true) (.r false)))) (by simp [DT.ev, shOk, ← eqz a]) (Laid.nil w)
def hk_rshift : Hook := fun f args h =>
  if Nat.beq f 51 then
    match args with
    | [.int .i64 p] => some (.bool (shOk p), [])
    | _ => none
  else none
theorem hk_rshift_ok : HookOk Tryd.prog hk_rshift := by
  intro f args h v cs hv hc wb k s w H
  unfold hk_rshift at hv
  split at hv
  · rename_i hf
    obtain rfl := Nat.eq_of_beq_eq_true hf
    split at hv
    · cases hv
      exact c_rshift _ w
    · cases hv
  · cases hv
theorem c_rcond (a : Int) (w : World) : Calls Tryd.prog 53 #[.int .i64 a] w fun e w' => e = .returned (.bool (ccR a)) ∧ Gr w w' :=
  treeOk hkZ_ok (.o (2 == a) (.r true) (.o (3 == a) (.r true) (.o (4 == a) (.r true) (.o (5 == a) (.r true) (.o (6 == a) (.r true) (.o (7 == a) (.r true) (.o (12 == a) (.r true) (.o (13 == a) (.r true) (.o (14 == a) (.r true) (.o (15 == a) (.r true) (.r false))))))))))) (by simp [DT.ev, ccR, ← eqz a]) (Laid.nil w)
def hk_rcond : Hook := fun f args h =>
  if Nat.beq f 53 then
    match args with
    | [.int .i64 p] => some (.bool (ccR p), [])
    | _ => none
  else none
theorem hk_rcond_ok : HookOk Tryd.prog hk_rcond := by
  intro f args h v cs hv hc wb k s w H
  unfold hk_rcond at hv
  split at hv
  · rename_i hf
    obtain rfl := Nat.eq_of_beq_eq_true hf
    split at hv
    · cases hv
      exact c_rcond _ w
    · cases hv
  · cases hv
theorem c_rword (a : Int) (w : World) : Calls Tryd.prog 50 #[.int .i64 a] w fun e w' => e = .returned (.bool (wordS a)) ∧ Gr w w' :=
  treeOk hkZ_ok (.k 50 5 (decide (a ≥ -2147483648)) (.r (decide (a ≤ 2147483647))) (.r false)) (by simp only [DT.ev, wordS] <;> cases (decide (a ≥ -2147483648)) <;> cases ((decide (a ≤ 2147483647))) <;> rfl) (Laid.nil w)
def hk_rword : Hook := fun f args h =>
  if Nat.beq f 50 then
    match args with
    | [.int .i64 p] => some (.bool (wordS p), [])
    | _ => none
  else none
theorem hk_rword_ok : HookOk Tryd.prog hk_rword := by
  intro f args h v cs hv hc wb k s w H
  unfold hk_rword at hv
  split at hv
  · rename_i hf
    obtain rfl := Nat.eq_of_beq_eq_true hf
    split at hv
    · cases hv
      exact c_rword _ w
    · cases hv
  · cases hv
theorem c_rreg (a : Int) (w : World) : Calls Tryd.prog 54 #[.int .i64 a] w fun e w' => e = .returned (.bool (regS a)) ∧ Gr w w' :=
  treeOk hkZ_ok (.k 54 5 (decide (a ≥ 0)) (.r (decide (a < 16))) (.r false)) (by simp only [DT.ev, regS] <;> cases (decide (a ≥ 0)) <;> cases ((decide (a < 16))) <;> rfl) (Laid.nil w)
def hk_rreg : Hook := fun f args h =>
  if Nat.beq f 54 then
    match args with
    | [.int .i64 p] => some (.bool (regS p), [])
    | _ => none
  else none
theorem hk_rreg_ok : HookOk Tryd.prog hk_rreg := by
  intro f args h v cs hv hc wb k s w H
  unfold hk_rreg at hv
  split at hv
  · rename_i hf
    obtain rfl := Nat.eq_of_beq_eq_true hf
    split at hv
    · cases hv
      exact c_rreg _ w
    · cases hv
  · cases hv
theorem c_regs (k : Int) (w : World) : Calls Tryd.prog 43 #[.agg ⟨(xA k al co si wi sh ds sr dp re im)⟩] w fun e w' => e = .returned (.bool (regS ds && regS sr)) ∧ Gr w w' :=
  treeOk hkZ_ok (.k 43 6 (decide (ds ≥ 0)) (.k 43 11 (decide (ds < 16)) (.k 43 16 (decide (sr ≥ 0)) (.r (decide (sr < 16))) (.r false)) (.r false)) (.r false)) (by simp only [DT.ev, regS] <;> cases (decide (ds ≥ 0)) <;> cases (decide (ds < 16)) <;> cases (decide (sr ≥ 0)) <;> cases ((decide (sr < 16))) <;> rfl) (Laid.nil w)
def hk_regs : Hook := fun f args h =>
  if Nat.beq f 43 then
    match args with
    | [.agg ⟨[.int .i64 p0, .int .i64 p1, .int .i64 p2, .int .i64 p3, .bool p4, .bool p5, .int .i64 p6, .int .i64 p7, .int .i32 p8, .int .i32 p9, .int .i64 p10]⟩] => some (.bool (regS p6 && regS p7), [])
    | _ => none
  else none
theorem hk_regs_ok : HookOk Tryd.prog hk_regs := by
  intro f args h v cs hv hc wb k s w H
  unfold hk_regs at hv
  split at hv
  · rename_i hf
    obtain rfl := Nat.eq_of_beq_eq_true hf
    split at hv
    · cases hv
      exact c_regs _ _ _ _ _ _ _ _ _ _ _ w
    · cases hv
  · cases hv
theorem c_cho4 (w : World) : Calls Tryd.prog 44 #[.agg ⟨[.int .u16 15, .bool false, .int .u8 1, .int .u8 1, .int .u8 0, .int .u8 0]⟩, .agg ⟨(xA 4 al co si wi sh ds sr dp re im)⟩] w fun e w' => e = .returned (.bool (aluOk al)) ∧ Gr w w' :=
  treeOk hkZ_ok (.k 44 12 (al == 0) (.r true) (.k 44 13 (al == 1) (.r true) (.k 44 14 (al == 4) (.r true) (.k 44 15 (al == 5) (.r true) (.k 44 16 (al == 6) (.r true) (.k 44 17 (al == 7) (.r true) (.r false))))))) (by simp [DT.ev, aluOk]) (Laid.nil w)
theorem c_cho5 (w : World) : Calls Tryd.prog 44 #[.agg ⟨[.int .u16 43, .bool false, .int .u8 129, .int .u8 4, .int .u8 0, .int .u8 4]⟩, .agg ⟨(xA 5 al co si wi sh ds sr dp re im)⟩] w fun e w' => e = .returned (.bool (aluOk al)) ∧ Gr w w' :=
  treeOk hkZ_ok (.k 44 12 (al == 0) (.r true) (.k 44 13 (al == 1) (.r true) (.k 44 14 (al == 4) (.r true) (.k 44 15 (al == 5) (.r true) (.k 44 16 (al == 6) (.r true) (.k 44 17 (al == 7) (.r true) (.r false))))))) (by simp [DT.ev, aluOk]) (Laid.nil w)
theorem c_cho11 (w : World) : Calls Tryd.prog 44 #[.agg ⟨[.int .u16 51, .bool false, .int .u8 193, .int .u8 4, .int .u8 0, .int .u8 1]⟩, .agg ⟨(xA 11 al co si wi sh ds sr dp re im)⟩] w fun e w' => e = .returned (.bool (shOk al)) ∧ Gr w w' :=
  treeOk hkZ_ok (.k 44 24 (al == 4) (.r true) (.k 44 29 (al == 5) (.r true) (.r (al == 7)))) (by simp [DT.ev, shOk]) (Laid.nil w)
theorem c_cho12 (w : World) : Calls Tryd.prog 44 #[.agg ⟨[.int .u16 19, .bool false, .int .u8 211, .int .u8 4, .int .u8 0, .int .u8 0]⟩, .agg ⟨(xA 12 al co si wi sh ds sr dp re im)⟩] w fun e w' => e = .returned (.bool (shOk al)) ∧ Gr w w' :=
  treeOk hkZ_ok (.k 44 24 (al == 4) (.r true) (.k 44 29 (al == 5) (.r true) (.r (al == 7)))) (by simp [DT.ev, shOk]) (Laid.nil w)
theorem c_cho16 (w : World) : Calls Tryd.prog 44 #[.agg ⟨[.int .u16 1792, .bool false, .int .u8 0, .int .u8 8, .int .u8 0, .int .u8 0]⟩, .agg ⟨(xA 16 al co si wi sh ds sr dp re im)⟩] w fun e w' => e = .returned (.bool (ccOk co)) ∧ Gr w w' :=
  treeOk hkZ_ok (.k 44 40 (decide (co ≥ 2)) (.k 44 45 (decide (co ≤ 7)) (.r true) (.k 44 49 (decide (co ≥ 12)) (.r (decide (co ≤ 15))) (.r false))) (.k 44 49 (decide (co ≥ 12)) (.r (decide (co ≤ 15))) (.r false))) (by simp only [DT.ev, ccOk] <;> cases (decide (co ≥ 2)) <;> cases (decide (co ≤ 7)) <;> cases (decide (co ≥ 12)) <;> cases ((decide (co ≤ 15))) <;> rfl) (Laid.nil w)
theorem c_cho13 (w : World) : Calls Tryd.prog 44 #[.agg ⟨[.int .u16 199, .bool false, .int .u8 0, .int .u8 5, .int .u8 0, .int .u8 0]⟩, .agg ⟨(xA 13 al co si wi sh ds sr dp re im)⟩] w fun e w' => e = .returned (.bool (szOk si && (wi == (si == 8)))) ∧ Gr w w' :=
  treeOk hkZ_ok (.k 44 61 (si == 1) (.r (wi == (si == 8))) (.k 44 66 (si == 2) (.r (wi == (si == 8))) (.k 44 71 (si == 4) (.r (wi == (si == 8))) (.k 44 76 (si == 8) (.r (wi == (si == 8))) (.r false))))) (by simp only [DT.ev, szOk] <;> cases (si == 1) <;> cases ((wi == (si == 8))) <;> cases (si == 2) <;> cases (si == 4) <;> cases (si == 8) <;> rfl) (Laid.nil w)
theorem c_cho14 (w : World) : Calls Tryd.prog 44 #[.agg ⟨[.int .u16 199, .bool false, .int .u8 0, .int .u8 6, .int .u8 0, .int .u8 0]⟩, .agg ⟨(xA 14 al co si wi sh ds sr dp re im)⟩] w fun e w' => e = .returned (.bool (szOk si && (wi == (si == 8)))) ∧ Gr w w' :=
  treeOk hkZ_ok (.k 44 61 (si == 1) (.r (wi == (si == 8))) (.k 44 66 (si == 2) (.r (wi == (si == 8))) (.k 44 71 (si == 4) (.r (wi == (si == 8))) (.k 44 76 (si == 8) (.r (wi == (si == 8))) (.r false))))) (by simp only [DT.ev, szOk] <;> cases (si == 1) <;> cases ((wi == (si == 8))) <;> cases (si == 2) <;> cases (si == 4) <;> cases (si == 8) <;> rfl) (Laid.nil w)
def choV (k al co si : Int) (wi : Bool) : Option Bool :=
  if k = 4 then some (aluOk al) else if k = 5 then some (aluOk al) else if k = 11 then some (shOk al) else if k = 12 then some (shOk al) else if k = 16 then some (ccOk co) else if k = 13 then some (szOk si && (wi == (si == 8))) else if k = 14 then some (szOk si && (wi == (si == 8))) else none
def formOf (k : Int) : List Value :=
  if k = 4 then [.int .u16 15, .bool false, .int .u8 1, .int .u8 1, .int .u8 0, .int .u8 0] else if k = 5 then [.int .u16 43, .bool false, .int .u8 129, .int .u8 4, .int .u8 0, .int .u8 4] else if k = 11 then [.int .u16 51, .bool false, .int .u8 193, .int .u8 4, .int .u8 0, .int .u8 1] else if k = 12 then [.int .u16 19, .bool false, .int .u8 211, .int .u8 4, .int .u8 0, .int .u8 0] else if k = 13 then [.int .u16 199, .bool false, .int .u8 0, .int .u8 5, .int .u8 0, .int .u8 0] else if k = 14 then [.int .u16 199, .bool false, .int .u8 0, .int .u8 6, .int .u8 0, .int .u8 0] else if k = 16 then [.int .u16 1792, .bool false, .int .u8 0, .int .u8 8, .int .u8 0, .int .u8 0] else []
def hk_cho : Hook := fun f args h =>
  if Nat.beq f 44 then
    match args with
    | [.agg ⟨fm⟩, .agg ⟨[.int .i64 k, .int .i64 al, .int .i64 co, .int .i64 si, .bool wi, .bool sh, .int .i64 ds, .int .i64 sr, .int .i32 dp, .int .i32 re, .int .i64 im]⟩] =>
      match choV k al co si wi with
      | some b => if eqL fm (formOf k) then some (.bool b, []) else none
      | none => none
    | _ => none
  else none
theorem hk_cho_ok : HookOk Tryd.prog hk_cho := by
  intro f args h v cs hv hc wb k s w H
  unfold hk_cho at hv
  split at hv
  · rename_i hf
    obtain rfl := Nat.eq_of_beq_eq_true hf
    split at hv
    · rename_i fm k al co si wi sh ds sr dp re im
      split at hv
      · rename_i b hb
        split at hv
        · rename_i he
          cases hv
          obtain rfl := eqL_ok he
          unfold choV at hb
          split at hb
          · rename_i hk; subst hk; cases hb; exact c_cho4 al co si wi sh ds sr dp re im w
          split at hb
          · rename_i hk; subst hk; cases hb; exact c_cho5 al co si wi sh ds sr dp re im w
          split at hb
          · rename_i hk; subst hk; cases hb; exact c_cho11 al co si wi sh ds sr dp re im w
          split at hb
          · rename_i hk; subst hk; cases hb; exact c_cho12 al co si wi sh ds sr dp re im w
          split at hb
          · rename_i hk; subst hk; cases hb; exact c_cho16 al co si wi sh ds sr dp re im w
          split at hb
          · rename_i hk; subst hk; cases hb; exact c_cho13 al co si wi sh ds sr dp re im w
          split at hb
          · rename_i hk; subst hk; cases hb; exact c_cho14 al co si wi sh ds sr dp re im w
          · cases hb
        · cases hv
      · cases hv
    · cases hv
  · cases hv
def hkR1 : Hook := orHook hk_ralu (orHook hk_rshift (orHook hk_rcond (orHook hk_rword (orHook hk_rreg (hkZ)))))
theorem hkR1_ok : HookOk Tryd.prog hkR1 := orHook_ok hk_ralu_ok (orHook_ok hk_rshift_ok (orHook_ok hk_rcond_ok (orHook_ok hk_rword_ok (orHook_ok hk_rreg_ok (hkZ_ok)))))
end Go.Proofs.YtokeopmmnpmfeaaDoor.Ex
end
section
namespace Go.Proofs.YtokeopmmnpmfeaaDoor.Ex
set_option maxRecDepth 20000

open Go Go.RowKit
theorem orHook2_ok {P : Program} {a b : Hook} (ha : HookOk2 P a) (hb : HookOk2 P b) : HookOk2 P (orHook a b) := by
  intro f args h v cs hv
  unfold orHook at hv
  split at hv
  · rename_i r hr
    cases hv
    exact ha f args h v cs hr
  · exact hb f args h v cs hv
/-- Some blocks of a memory, as a memory of their own. -/
theorem HR.pick {wb : Wb} {k : Nat} {s : Ren} {h : List AO} {w : World} (H : HR wb k s h w) (h1 : List AO) (f : Nat → Nat)
    (hf : ∀ (i : Nat) (o : AO), h1[i]? = some o → o.live = true → ∃ o', h[f i]? = some o' ∧ o'.live = true ∧ o'.es = o.es ∧ o'.cs = o.cs ∧ o.cs.all flat = true ∧ isM o = false)
    (hinj : ∀ (i j : Nat) (a b : AO), h1[i]? = some a → h1[j]? = some b → a.live = true → b.live = true → f i = f j → i = j)
    (hg : ∀ (i : Nat) (o : AO), h1[i]? = some o → o.live = true → o.es = some GM → f i = i) :
    HR w h1.length (fun i => match h1[i]? with | some o => if o.live then s (f i) else none | none => none) h1 w := by
  have inv : ∀ i p, (match h1[i]? with | some o => if o.live then s (f i) else none | none => none) = some p → ∃ o, h1[i]? = some o ∧ o.live = true ∧ s (f i) = some p := by
    intro i p hp
    cases ho : h1[i]? with
    | none => rw [ho] at hp; cases hp
    | some o =>
      rw [ho] at hp
      simp only at hp
      split at hp
      · rename_i hl; exact ⟨o, rfl, hl, hp⟩
      · cases hp
  refine ⟨GrB.refl w _, Nat.le_refl _, fun i hi => by rw [List.getElem?_eq_none hi], fun i p hp => ?_, fun i o ho hl => ?_, fun i j a b p q hi hj ha hb hp hq e => ?_, fun g p hp hes => ?_⟩
  · obtain ⟨o, ho, hl, hs⟩ := inv i p hp
    have := (H.plc _ p hs).2.2
    have hi := (List.getElem?_eq_some_iff.1 ho).1
    exact ⟨fun _ => ⟨this, fun f => f⟩, fun h => absurd h (by omega), this⟩
  · obtain ⟨o', h1', h2, h3, h4, h5, h6⟩ := hf i o ho hl
    obtain ⟨p, hp, he, hb⟩ := H.obj _ o' h1' h2
    have hm : isM o' = false := by unfold isM at h6 ⊢; rw [h3]; exact h6
    have B := hb.2 hm
    refine ⟨p, by rw [ho]; simp only [hl, if_true]; exact hp, by rw [he, h3], ObjAt.block h6 ?_⟩
    rw [h4] at B
    exact ⟨B.fit, B.all, B.shp, B.free, fun x v hv => by
      obtain ⟨v', g1, g2⟩ := B.rel x v hv
      have hfl := all_get h5 hv
      exact ⟨v', g1, by rw [g2.eq_of_flat hfl]; exact .same hfl⟩⟩
  · obtain ⟨a', i1, i2, _, _, _, _⟩ := hf i a hi ha
    obtain ⟨b', j1, j2, _, _, _, _⟩ := hf j b hj hb
    obtain ⟨_, _, _, hs1⟩ := inv i p hp
    obtain ⟨_, _, _, hs2⟩ := inv j q hq
    exact hinj i j a b hi hj ha hb (H.sep _ _ a' b' p q i1 j1 i2 j2 hs1 hs2 e)
  · obtain ⟨o, ho, hl, hs⟩ := inv g p hp
    obtain ⟨o', h1', h2, h3, _, _, _⟩ := hf g o ho hl
    obtain ⟨p', hp', he, _⟩ := H.obj _ o' h1' h2
    rw [hs] at hp'
    cases hp'
    have e := hg g o ho hl (by rw [← h3, ← he, hes])
    rw [e] at hs
    exact H.gl g p hs hes
end Go.Proofs.YtokeopmmnpmfeaaDoor.Ex
end
section
namespace Go.Proofs.YtokeopmmnpmfeaaDoor
set_option maxRecDepth 20000

open Go.RowKit

/-- A world that meets S. -/
structure Held (S : World → Prop) where
  w : World
  h : S w
/-- 'Grown', not taken apart. -/
def Gw (a b : World) : Prop := Grown a b
theorem Gw.trans {a b c : World} (h1 : Gw a b) (h2 : Gw b c) : Gw a c :=
  ⟨World.keptBut_trans h1.1 h2.1, fun x => (h2.2.1 x).trans (h1.2.1 x), Nat.le_trans h1.2.2 h2.2.2⟩
theorem Gw.drew {a b : World} (h : Gw a b) : Gw a b.drew := Grown.drew h
theorem wp_region_lex {P : Program} {id : Nat} {Q : Exit → Act → World → Prop} {a : Act} {w : World} {l : List Oper} (S : World → Prop) (hm : P.follows .mixedOrders = true) (hB : Region.lexB .any l.toArray = true)
    (h0 : S w.drew) (h : Nonempty (Held S) → wpQuiet P l.toArray (fun w' => ∃ x : Held S, w' = x.w) (fun a' => ∀ w', S w' → Q .normal a' w') l a) : (Code.region id l.toArray true).wp P Q a w :=
  wp_region_quiet (C := fun w' => ∃ x : Held S, w' = x.w) hm hB ⟨⟨w.drew, h0⟩, rfl⟩ (by
    have h1 := h ⟨⟨w.drew, h0⟩⟩
    have e : (fun a' => ∀ w', S w' → Q .normal a' w') = (fun a' => ∀ w', (∃ x : Held S, w' = x.w) → Q .normal a' w') := by
      funext a'
      exact propext ⟨fun hh w' ⟨x, hx⟩ => hh w' (hx ▸ x.h), fun hh w' hw => hh w' ⟨⟨w', hw⟩, rfl⟩⟩
    rw [e] at h1
    simpa using h1)
end Go.Proofs.YtokeopmmnpmfeaaDoor
end
section
namespace Go.Proofs.YtokeopmmnpmfeaaDoor
set_option maxRecDepth 20000

open Go.RowKit

/-- Block, place, value. -/
def CellsAt (w : World) : List (Nat × Nat × Value) → Prop
  | [] => True
  | x :: l => (w.cell? ⟨x.1, x.2.1, none⟩ = some x.2.2 ∧ x.1 < w.heap.size) ∧ CellsAt w l
theorem CellsAt.grown {w w' : World} (g : Grown w w') : ∀ {l : List (Nat × Nat × Value)}, CellsAt w l → CellsAt w' l
  | [], _ => trivial
  | _ :: _, h => ⟨⟨grown_cellAt g h.1.2 h.1.1, Nat.lt_of_lt_of_le h.1.2 g.2.2⟩, CellsAt.grown g h.2⟩
theorem CellsAt.drew {w : World} {l : List (Nat × Nat × Value)} (h : CellsAt w l) : CellsAt w.drew l := h.grown (Grown.drew (Grown.refl w))
theorem CellsAt.alloc {w : World} {l : List (Nat × Nat × Value)} (h : CellsAt w l) (cs : Array Value) (T : TypeId) : CellsAt (w.alloc (.cells cs T)) l := h.grown (Grown.alloc (Grown.refl w) cs T)
theorem CellsAt.get {w : World} : ∀ {l : List (Nat × Nat × Value)}, CellsAt w l → ∀ (i : Nat) (x : Nat × Nat × Value), l[i]? = some x → w.cell? ⟨x.1, x.2.1, none⟩ = some x.2.2
  | [], _, i, x, hi => by simp at hi
  | y :: l, h, 0, x, hi => by
    simp at hi; subst hi; exact h.1.1
  | y :: l, h, i + 1, x, hi => CellsAt.get h.2 i x (by simpa using hi)
/-- A world that has the cells, and has grown from another one. -/
def Keeps (w0 : World) (l : List (Nat × Nat × Value)) (w : World) : Prop := CellsAt w l ∧ Grown w0 w
theorem Keeps.grown {w0 w w' : World} {l : List (Nat × Nat × Value)} (h : Keeps w0 l w) (g : Grown w w') : Keeps w0 l w' := ⟨h.1.grown g, Grown.trans' h.2 g⟩
theorem Keeps.drew {w0 w : World} {l : List (Nat × Nat × Value)} (h : Keeps w0 l w) : Keeps w0 l w.drew := h.grown (Grown.drew (Grown.refl w))
/-- A block of two cells more. -/
theorem Keeps.new2 {w0 w : World} {l : List (Nat × Nat × Value)} (h : Keeps w0 l w) (x y : Value) (T : TypeId) : Keeps w0 ((w.heap.size, 0, x) :: (w.heap.size, 1, y) :: l) (w.alloc (.cells #[x, y] T)) :=
  ⟨⟨⟨by simp [go_sem], by simp⟩, ⟨by simp [go_sem], by simp⟩, h.1.alloc _ _⟩, Grown.trans' h.2 (Grown.alloc (Grown.refl w) _ _)⟩
end Go.Proofs.YtokeopmmnpmfeaaDoor
end
section
namespace Go.Proofs.YtokeopmmnpmfeaaDoor.Ex
set_option maxRecDepth 20000

open Go Go.RowKit Go.WideShapes Go.ChangeShapes

theorem gr_frame {W W' : World} (h : Gr W W') (may : MemPlace → Prop) : W.keptBut W' may := by
  refine ⟨h.1.1, h.1.2, fun i hi => ?_⟩
  rw [h.2.1 i hi]
  split <;> simp_all
section
variable {H : Type} {enc : TypeId × Value → H} {P : Program}
theorem post_of_gr {f : Func} {s : ChangeSpec} {apart fresh handsOn again : Bool} {W W' : World} {args : Array Value} {v : Value} {ds gs : List (DataW H)} {before pa pv : List MemPlace}
    (hW : DataW.Whole enc P f.params.toList s.vars apart W args.toList ds gs before)
    (hres : ∀ (b : Nat) (sp : Nat → Bool) (hd : Bool), DataW.TrodAll enc P W' b sp hd f.resultTypes.toList (v.resultList f.resultTypes.size) (s.fn H (ds ++ gs)).results [])
    (hargs : ∀ sp : Nat → Bool, (∀ p ∈ before, sp p.block = true) → DataW.TrodAll enc P W' 0 sp true f.params.toList args.toList (s.fn H (ds ++ gs)).args pa)
    (hvars : ∀ sp : Nat → Bool, (∀ p ∈ before, sp p.block = true) → DataW.TrodVars enc P W' sp s.vars (s.fn H (ds ++ gs)).vars pv)
    (hps : before = pa ++ pv) (hg : Gr W W')
    (hok : ∀ (j : Nat) (t : TypeId) (r : Value), f.resultTypes[j]? = some t → (v.resultList f.resultTypes.size)[j]? = some r → Value.okWide P W' .any 0 t r) :
    s.post enc P f apart fresh handsOn again W args v W' := by
  have hlt : ∀ p ∈ before, p.block < W.heap.size := fun p hp => hW.lt p hp
  have hold : ∀ p ∈ before, (fun b => decide (b < W.heap.size)) p.block = true := fun p hp => by simpa using hlt p hp
  refine ⟨ds, gs, before, [], pa, pv, hW, hres _ _ _, hargs _ hold, hvars _ hold, World.keptBut_mono (fun p hp => ⟨hp, ?_⟩) (gr_frame hg (· ∈ before)), fun _ => ?_⟩
  · rw [hps, List.mem_append] at hp
    exact Or.inr hp
  · obtain ⟨_, _, _, _, _, hz, hn⟩ := hW
    refine ⟨hok, _, _, ([] ++ pa) ++ pv, ⟨[] ++ pa, pv, trodAll_append (hargs _ (fun _ _ => rfl)) (hres _ _ _), hvars _ (fun _ _ => rfl), rfl, ?_, ?_⟩, ?_⟩
    · intro b off hp
      have hin : MemPlace.cell b off ∈ before := by rw [hps]; simpa using hp
      rw [gr_frozen hg (hlt _ hin)]
      exact hz b off hin
    · intro ha
      have := hn ha
      rw [hps] at this
      simpa using this
    · intro p hp _
      rw [hps]
      simpa using hp
end
end Go.Proofs.YtokeopmmnpmfeaaDoor.Ex
end
section
namespace Go.Proofs.YtokeopmmnpmfeaaDoor
set_option maxRecDepth 20000

open Go.RowKit
set_option linter.unusedVariables false
/-- The byte of a text at a place; 0 behind its end. -/
def byteT (s : ByteArray) (i : Int) : Int := ((s.data.toList.getD i.toNat 0).toNat : Int)
theorem byteT_in (s : ByteArray) (i : Int) (h0 : 0 ≤ i) (h1 : i < (s.size : Int)) (h : i.toNat < s.size) : ((s[i.toNat]'h).toNat : Int) = byteT s i := by
  unfold byteT
  have hl : i.toNat < s.data.toList.length := by simpa using h
  rw [List.getD_eq_getElem?_getD, List.getElem?_eq_getElem hl]
  rfl
theorem byteT_out (s : ByteArray) (i : Int) (h1 : (s.size : Int) ≤ i) : byteT s i = 0 := by
  unfold byteT
  have hl : s.data.toList.length ≤ i.toNat := by
    have : s.data.toList.length = s.size := by simp
    omega
  rw [List.getD_eq_getElem?_getD, List.getElem?_eq_none hl]
  rfl
def Stands (W : World) (b o : Nat) (s : ByteArray) (a : Int) (y : World) : Prop := y.cell? ⟨b, o, none⟩ = some (.string s) ∧ y.cell? ⟨b, o + 1, none⟩ = some (.int .i64 a) ∧ b < y.heap.size ∧ Grown W y
theorem Stands.drew {W y : World} {b o : Nat} {s : ByteArray} {a : Int} (h : Stands W b o s a y) : Stands W b o s a y.drew :=
  have g : Grown y y.drew := Grown.drew (Grown.refl y)
  ⟨grown_cellAt g h.2.2.1 h.1, grown_cellAt g h.2.2.1 h.2.1, Nat.lt_of_lt_of_le h.2.2.1 g.2.2, Grown.trans' h.2.2.2 g⟩
set_option maxHeartbeats 1000000 in
theorem peek_any (s : ByteArray) (a : Int) (b o : Nat) (w : World) (hs : w.cell? ⟨b, o, none⟩ = some (.string s)) (ha : w.cell? ⟨b, o + 1, none⟩ = some (.int .i64 a)) (hb : b < w.heap.size) (h0 : 0 ≤ a) (hm : a ≤ 9223372036854775807) (hl : (s.size : Int) ≤ 9223372036854775807) :
    Calls Tryd.prog 17 #[.pointer (some ⟨b, o, none⟩)] w fun e w' => e = .returned (.int .u8 (byteT s a)) ∧ Grown w w' := by
  go_enter Tryd.func17, Tryd.ntmps17
  have K : Stands w b o s a w := ⟨hs, ha, hb, Grown.refl w⟩
  have q0 : ∀ z : Held (Stands w b o s a), z.w.cell? ⟨b, o, none⟩ = some (.string s) := fun z => z.h.1
  have q1 : ∀ z : Held (Stands w b o s a), z.w.cell? ⟨b, o + 1, none⟩ = some (.int .i64 a) := fun z => z.h.2.1
  by_cases hlt : a < (s.size : Int)
  · have e1 : decide (a < (s.size : Int)) = true := decide_eq_true hlt
    have hn : a.toNat < s.size := by omega
    have e2 := byteT_in s a h0 hlt hn
    go_wp2
    refine wp_region_lex (Stands w b o s a) (by kernel_rfl) (by kernel_rfl) K.drew (fun hNon => ?_)
    repeat (go_big_quiet_step (skip))
    refine wpQuiet_nil ?_
    intro w5 K5
    go_wp2
    refine wp_region_lex (Stands w b o s a) (by kernel_rfl) (by kernel_rfl) K5.drew (fun hNon => ?_)
    repeat (go_big_quiet_step (skip))
    refine wpQuiet_nil ?_
    intro w6 K6
    go_wp2
    go_ret
    exact ⟨rfl, K6.2.2.2⟩
  · have e1 : decide (a < (s.size : Int)) = false := decide_eq_false hlt
    go_wp2
    refine wp_region_lex (Stands w b o s a) (by kernel_rfl) (by kernel_rfl) K.drew (fun hNon => ?_)
    repeat (go_big_quiet_step (skip))
    refine wpQuiet_nil ?_
    intro w5 K5
    go_wp2
    go_ret
    exact ⟨by rw [byteT_out s a (by omega)]; rfl, K5.2.2.2⟩
end Go.Proofs.YtokeopmmnpmfeaaDoor
end
section
namespace Go.Proofs.YtokeopmmnpmfeaaDoor
set_option maxRecDepth 20000

open Go.RowKit

attribute [local go_sem] u64_wrap u8_wrap BitVec.ofInt_add BitVec.ofInt_mul ofInt_sub' ofInt_N ofInt_Nw ofInt_Z ofInt_pow ofInt_shl wrap64_N mul_shl1 N_shr Z_shr u64_and u64_or N_div8 N_div16 N_div24 N_div32 N_div40 N_div48 N_div56
theorem ret64 {a b : BitVec 64} (h : a = b) : Ending.returned (.int .u64 (N a)) = .returned (.int .u64 (N b)) := by rw [h]
theorem ret0 {b : BitVec 64} (h : 0 = b) : Ending.returned (.int .u64 0) = .returned (.int .u64 (N b)) := by rw [← h]; rfl

set_option maxHeartbeats 400000 in
theorem sign_N (v : BitVec 64) (b : Int) (w : World) (h1 : -9223372036854775808 ≤ b) (h2 : b ≤ 9223372036854775807) :
    Calls Tryd.prog 40 #[.int .u64 (N v), .int .i64 b] w fun e w' => e = .returned (.int .u64 (N (signS v b))) ∧ w = w' := by
  go_enter Tryd.func40, Tryd.ntmps40
  go_wp2
  · go_ret
    exact ⟨ret0 (by unfold signS; rw [if_pos ‹_›]), rfl⟩
  · go_ret
    exact ⟨ret64 (by unfold signS; rw [if_neg (by omega), if_pos ‹_›]), rfl⟩
  · go_ret
    exact ⟨ret64 (by unfold signS; rw [if_neg (by omega), if_neg (by omega)]), rfl⟩

set_option maxHeartbeats 400000 in
theorem num_any (s : ByteArray) (w : World) (hs : s.size ≤ maxLen) :
    Calls Tryd.prog 41 #[.string s] w fun e w' => e = .returned (.int .u64 (N (numS s))) ∧ w = w' := by
  unfold maxLen at hs
  go_enter Tryd.func41, Tryd.ntmps41
  go_wp2
  all_goals
    go_loop [3, 8] (fun v i => ∃ k : Nat, k ≤ s.size ∧ k ≤ 8 ∧ i = .int .i64 k ∧ v = .int .u64 (N (numF (byteAt s) k))) (fun _ i => 8 - (intOf i).toNat)
    case atStart => exact ⟨0, by omega, by omega, rfl, rfl⟩
    case round =>
      obtain ⟨k, hk, hk8, rfl, rfl⟩ := hrel
      by_cases hlt : k < s.size ∧ k < 8
      · obtain ⟨ha, hb⟩ := hlt
        go_wp2
        go_round
        case rel => exact ⟨k + 1, by omega, by omega, by go_num, by rw [numF_succ, ← byteAt_get s k ha]⟩
        case measure => simp [intOf]; omega
      · go_wp2
        all_goals
          go_ret
          exact ⟨ret64 (numS_eq s k (by omega)), rfl⟩

end Go.Proofs.YtokeopmmnpmfeaaDoor
end
section
namespace Go.Proofs.YtokeopmmnpmfeaaDoor.Ex
set_option maxRecDepth 20000

open Go Go.RowKit
set_option linter.unusedVariables false
set_option maxHeartbeats 0
set_option maxRecDepth 1000000
def hkPeek : Hook := fun f args h =>
  if Nat.beq f 17 then
    match args with
    | [.pointer (some ⟨b, 0, none⟩)] =>
      match h[b]? with
      | some ⟨true, none, [.string s, .int .i64 a]⟩ => some (.int .u8 (byteT s a), [(b2i (decide (0 ≤ a) && decide (a ≤ 9223372036854775807)), 1), (b2i (decide ((s.size : Int) ≤ 9223372036854775807)), 1)])
      | _ => none
    | _ => none
  else none
theorem hkPeek_ok : HookOk2 Tryd.prog hkPeek := by
  intro f args h v cs hv hc wb k s w args' H ha
  unfold hkPeek at hv
  split at hv
  · rename_i hf
    obtain rfl := Nat.eq_of_beq_eq_true hf
    split at hv
    · rename_i b
      split at hv
      · rename_i t a hb
        cases hv
        have c1 := hc _ (List.mem_cons_self ..)
        have c2 := hc _ (List.mem_cons_of_mem _ (List.mem_singleton.2 rfl))
        have d1 : (decide (0 ≤ a) && decide (a ≤ 9223372036854775807)) = true := b2i_inj (b := true) c1
        have d2 : decide ((t.size : Int) ≤ 9223372036854775807) = true := b2i_inj (b := true) c2
        simp only [Bool.and_eq_true, decide_eq_true_eq] at d1 d2
        obtain ⟨p, hp, he, hob⟩ := H.obj b _ hb rfl
        have B := hob.2 (by simp [isM])
        obtain ⟨v0, g0, r0⟩ := B.rel 0 (.string t) rfl
        obtain ⟨v1, g1, r1⟩ := B.rel 1 (.int .i64 a) rfl
        rw [r0.eq_of_flat rfl] at g0
        rw [r1.eq_of_flat rfl] at g1
        have hlt := (H.plc b p hp).2.2
        have hl1 : args'.length = 1 := ha.1.symm
        match args', hl1, ha with
        | [u], _, ha =>
        obtain ⟨q, _, hq, rfl⟩ := (ha.uncons.1).ptr_inv
        rw [hp] at hq
        cases hq
        exact (peek_any t a p.blk p.off w (by simpa using g0) g1 hlt d1.1 d1.2 d2).mono fun e w' ⟨h1, h2⟩ => ⟨h1, Gr.of_grown h2⟩
      · cases hv
    · cases hv
  · cases hv
/-- A number's sign told on, by its contract. -/
def hkSgn : Hook := fun f args _ =>
  if Nat.beq f 40 then
    match args with
    | [.int .u64 v, .int .i64 b] => some (.int .u64 (N (signS (BitVec.ofInt 64 v) b)), [(b2i (decide (0 ≤ v) && decide (v < 18446744073709551616)), 1), (b2i (decide (-9223372036854775808 ≤ b) && decide (b ≤ 9223372036854775807)), 1)])
    | _ => none
  else none
theorem hkSgn_ok : HookOk Tryd.prog hkSgn := by
  intro f args h v cs hv hc wb k s w H
  unfold hkSgn at hv
  split at hv
  · rename_i hf
    obtain rfl := Nat.eq_of_beq_eq_true hf
    split at hv
    · rename_i x b
      cases hv
      have c1 := hc _ (List.mem_cons_self ..)
      have c2 := hc _ (List.mem_cons_of_mem _ (List.mem_singleton.2 rfl))
      have d1 : (decide (0 ≤ x) && decide (x < 18446744073709551616)) = true := b2i_inj (b := true) c1
      have d2 : (decide (-9223372036854775808 ≤ b) && decide (b ≤ 9223372036854775807)) = true := b2i_inj (b := true) c2
      simp only [Bool.and_eq_true, decide_eq_true_eq] at d1 d2
      have e : N (BitVec.ofInt 64 x) = x := by
        rw [← u64_wrap, IntKind.wrap_u64]
        omega
      have h1 := sign_N (BitVec.ofInt 64 x) b w d2.1 d2.2
      rw [e] at h1
      exact h1.mono fun e w' ⟨he, hw⟩ => ⟨he, hw ▸ Gr.refl w⟩
    · cases hv
  · cases hv
/-- The number of at most eight bytes, by its contract. -/
def hkNumD : Hook := fun f args _ =>
  if Nat.beq f 41 then
    match args with
    | [.string s] => if Nat.ble s.data.toList.length 8 then some (.int .u64 (N (numS s)), []) else none
    | _ => none
  else none
theorem hkNumD_ok : HookOk Tryd.prog hkNumD := by
  intro f args h v cs hv hc wb k s w H
  unfold hkNumD at hv
  split at hv
  · rename_i hf
    obtain rfl := Nat.eq_of_beq_eq_true hf
    split at hv
    · rename_i b
      split at hv
      · rename_i hl
        cases hv
        have h8 : b.size ≤ 8 := by
          have e : b.size = b.data.toList.length := Array.length_toList.symm
          rw [e]
          exact Nat.le_of_ble_eq_true hl
        exact (num_any b w (Nat.le_trans h8 (by unfold maxLen; decide))).mono fun e w' ⟨he, hw⟩ => ⟨he, hw ▸ Gr.refl w⟩
      · cases hv
    · cases hv
  · cases hv
end Go.Proofs.YtokeopmmnpmfeaaDoor.Ex
end
section
namespace Go.Proofs.YtokeopmmnpmfeaaDoor.Ex
set_option maxRecDepth 20000

open Go Go.RowKit

def inter : Cs → List Int
  | [] => []
  | c :: l => c.1 :: c.2 :: inter l
theorem inter_inj : ∀ {a b : Cs}, inter a = inter b → a = b
  | [], [], _ => rfl
  | c :: a, d :: b, h => by
    simp only [inter, List.cons.injEq] at h
    obtain ⟨h1, h2, h3⟩ := h
    rw [inter_inj h3, Prod.ext h1 h2]
  | [], _ :: _, h => by simp [inter] at h
  | _ :: _, [], h => by simp [inter] at h
noncomputable def reckonGI (P : Program) (hk : Hook) (orc : Orc) (L f : Nat) (h0 : List AO) (g : FuncId) (args : List Value) : Option (Value × List Int) :=
  match ranG P hk orc L f h0 g args with
  | some (v, _, m) => some (v, inter m.2)
  | none => none
theorem reckonI_ok {P : Program} (hng : NoNG P) {hk : Hook} (hhk : HookOk2 P hk) (orc : Orc) (L f : Nat) (h0 : List AO) {g : FuncId} {args : List Value} {v : Value} {cs : Cs} (ha : args.all flat = true) (hv : flat v = true) (h : reckonGI P hk orc L f h0 g args = some (v, inter cs))
    (he : ∀ c ∈ cs, c.1 = c.2) (w : World) (hL : Laid h0 w) : Calls P g ⟨args⟩ w fun e w' => e = .returned v ∧ Gr w w' := by
  refine reckonX_any hng hhk orc L f h0 ha hv ?_ w hL
  unfold reckonGI at h
  unfold reckonGL reckonGR
  split at h
  · rename_i v' h' m hr
    simp only [Option.some.injEq, Prod.mk.injEq] at h
    obtain ⟨rfl, h2⟩ := h
    have h3 := inter_inj h2
    try rw [hr]
    simp only [h3]
    rw [List.map_congr_left he]
  · cases h
end Go.Proofs.YtokeopmmnpmfeaaDoor.Ex
end
section
namespace Go.Proofs.YtokeopmmnpmfeaaDoor.Ex
set_option maxRecDepth 20000

open Go Go.RowKit
abbrev hDk : List AO := h12
end Go.Proofs.YtokeopmmnpmfeaaDoor.Ex
end
section
namespace Go.Proofs.YtokeopmmnpmfeaaDoor.Ex
set_option maxRecDepth 20000

open Go Go.RowKit
set_option linter.unusedVariables false
set_option maxHeartbeats 0
set_option maxRecDepth 1000000
def atN (a : Int) : Nat → Int
  | 0 => a
  | j + 1 => atN a j + 1
/-- The byte so many places behind one of a text; 0 behind its end. -/
def bt (s : ByteArray) (a : Int) (j : Nat) : Int := byteT s (atN a j)
def pkC (s : ByteArray) (a : Int) (j : Nat) : Cs := [(b2i (decide (0 ≤ atN a j) && decide (atN a j ≤ 9223372036854775807)), 1), (b2i (decide ((s.size : Int) ≤ 9223372036854775807)), 1)]
def tkC (s : ByteArray) (a : Int) (j : Nat) : Cs := pkC s a j ++ [(IntKind.i64.wrap (atN a j + 1), atN a j + 1)]
def andB (x c : Int) : Int := IntKind.u8.wrap (BitVec.ofInt 8 x &&& BitVec.ofInt 8 c).toNat
def highE (r : Int) : Int := IntKind.i64.wrap (IntKind.u8.wrap (andB r 1 * 8))
def midE (r b : Int) : Int := IntKind.i64.wrap (IntKind.u8.wrap (Int.tmod (IntKind.u8.wrap (Int.tdiv b 8)) 8 + IntKind.u8.wrap (andB r 4 * 2)))
def endE (r b : Int) : Int := IntKind.i64.wrap (IntKind.i64.wrap (Int.tmod b 8) + highE r)
def codE (r op : Int) : Int := IntKind.i64.wrap (IntKind.i64.wrap (Int.tmod op 8) + highE r)
def digE (b : Int) : Int := IntKind.i64.wrap (Int.tmod (IntKind.u8.wrap (Int.tdiv b 8)) 8)
def ubD (x : Int) : UInt8 := UInt8.ofNat x.toNat
def nmV (l : List Int) : Int := N (numS ⟨⟨l.map ubD⟩⟩)
def sgV (b : Int) (l : List Int) : Int := IntKind.i64.wrap (N (signS (BitVec.ofInt 64 (nmV l)) b))
def sgC (l : List Int) : Cs := [(b2i (decide (0 ≤ nmV l) && decide (nmV l < 18446744073709551616)), 1), (1, 1)]
def xD (k al co si : Int) (wi sh : Bool) (ds sr dp re im : Int) : List Value := [.int .i64 k, .int .i64 al, .int .i64 co, .int .i64 si, .bool wi, .bool sh, .int .i64 ds, .int .i64 sr, .int .i32 dp, .int .i32 re, .int .i64 im]
abbrev EncB := Int → Int → Int → Int → Bool → Bool → Int → Int → Int → Int → Int → List UInt8
abbrev EncE := Int → Int → Int → Int → Bool → Bool → Int → Int → Int → Int → Int → Int
/-- Encoding, by what it is known to answer. -/
def hkEn (eB : EncB) (eE : EncE) : Hook := fun f args h =>
  if Nat.beq f 10 && hasG hDk h then
    match args with
    | [.agg ⟨[.int .i64 k, .int .i64 al, .int .i64 co, .int .i64 si, .bool wi, .bool sh, .int .i64 ds, .int .i64 sr, .int .i32 dp, .int .i32 re, .int .i64 im]⟩] => some (.tuple ⟨[.string ⟨⟨eB k al co si wi sh ds sr dp re im⟩⟩, .int .i64 (eE k al co si wi sh ds sr dp re im)]⟩, [])
    | _ => none
  else none
def pfxB (x y : ByteArray) : Bool := decide ((x.size : Int) ≥ (y.size : Int)) && ((x.extract 0 y.size).data.toList == y.data.toList)
def hkPfx : Hook := fun f args _ =>
  if Nat.beq f 11 then
    match args with
    | [.string x, .string y] => some (.bool (pfxB x y), [])
    | _ => none
  else none
def hkD (eB : EncB) (eE : EncE) : Hook := orHook hkPeek (orHook (guardH hkSgn) (orHook (guardH hkNumD) (orHook (guardH (hkEn eB eE)) (guardH hkPfx))))
def dOrc (l : List (Nat × Nat × Value)) : Orc := fun f t x =>
  if Nat.beq f 18 && Nat.beq t 10 then
    (match (x[9]? : Option Value) with
    | some (.int _ n) => some (.int .i64 (n + 1))
    | _ => none)
  else if Nat.beq f 5 && Nat.beq t 34 then some .nilIface
  else (l.find? (fun p => Nat.beq p.1 f && Nat.beq p.2.1 t)).map (·.2.2)
end Go.Proofs.YtokeopmmnpmfeaaDoor.Ex
end
section
namespace Go.Proofs.YtokeopmmnpmfeaaDoor.Ex
set_option maxRecDepth 20000

open Go Go.RowKit
set_option linter.unusedVariables false
set_option maxHeartbeats 0
set_option maxRecDepth 1000000
def AllD (cs : Cs) : Prop := ∀ c ∈ cs, c.1 = c.2
def LfD (args : List Value) (v : Value) (cs : Cs) : Prop := AllD cs → ∀ (w : World), Laid hDk w → Calls Tryd.prog 5 ⟨args⟩ w fun e w' => e = .returned v ∧ Gr w w'
theorem lfD {hk : Hook} (hE : HookOk2 Tryd.prog hk) (orc : Orc) {args : List Value} {v : Value} {cs : Cs} (hf : (args.all flat && flat v) = true) (h : reckonGI Tryd.prog hk orc 100000 300 hDk 5 args = some (v, inter cs)) : LfD args v cs := by
  intro he w hL
  simp only [Bool.and_eq_true] at hf
  exact reckonI_ok noNG hE orc 100000 300 hDk hf.1 hf.2 h he w hL
theorem lfE {hk : Hook} (hE : HookOk2 Tryd.prog hk) (orc : Orc) {args : List Value} {v : Value} {cs : Cs} (hf : (args.all flat && flat v) = true := by kernel_rfl) (h : reckonGI Tryd.prog hk orc 100000 300 hDk 5 args = some (v, inter cs) := by kernel_rfl) : LfD args v cs := lfD hE orc hf h
def pOrc (b : Bool) : Orc := fun f t _ =>
  if Nat.beq f 29 && Nat.beq t 9 then some (.bool b)
  else if Nat.beq f 29 && Nat.beq t 14 then some .nilIface else none
def hkNo : Hook := fun _ _ _ => none
theorem hkNo_ok : HookOk2 Tryd.prog hkNo := by
  intro f args h v cs hv
  cases hv
theorem pfx_T (x y : ByteArray) (w : World) (h : decide ((x.size : Int) ≥ (y.size : Int)) = true) : Calls Tryd.prog 11 ⟨[.string x, .string y]⟩ w fun e w' => e = .returned (.bool ((x.extract 0 ((y.size : Int)).toNat).data.toList == y.data.toList)) ∧ Gr w w' := by
  refine reckonI_ok noNG hkNo_ok (pOrc true) 100000 300 [] (cs := [(b2i (decide ((x.size : Int) ≥ (y.size : Int))), 1), (b2i (decide (0 ≤ (y.size : Int)) && decide ((y.size : Int) ≤ (x.size : Int))), 1)]) rfl rfl (by kernel_rfl) ?_ w (Laid.nil w)
  intro c hc
  simp only [List.mem_cons, List.not_mem_nil, or_false] at hc
  have h2 := of_decide_eq_true h
  rcases hc with rfl | rfl
  · rw [h]; rfl
  · simp only [decide_eq_true (show 0 ≤ (y.size : Int) by omega), decide_eq_true (show (y.size : Int) ≤ (x.size : Int) from h2)]
    rfl
theorem pfx_F (x y : ByteArray) (w : World) (h : decide ((x.size : Int) ≥ (y.size : Int)) = false) : Calls Tryd.prog 11 ⟨[.string x, .string y]⟩ w fun e w' => e = .returned (.bool false) ∧ Gr w w' := by
  refine reckonI_ok noNG hkNo_ok (pOrc false) 100000 300 [] (cs := [(b2i (decide ((x.size : Int) ≥ (y.size : Int))), 0)]) rfl rfl (by kernel_rfl) ?_ w (Laid.nil w)
  intro c hc
  simp only [List.mem_cons, List.not_mem_nil, or_false] at hc
  rcases hc with rfl
  rw [h]; rfl
theorem pfx_any (x y : ByteArray) (w : World) : Calls Tryd.prog 11 ⟨[.string x, .string y]⟩ w fun e w' => e = .returned (.bool (pfxB x y)) ∧ Gr w w' := by
  unfold pfxB
  cases h : decide ((x.size : Int) ≥ (y.size : Int)) with
  | true => rw [Bool.true_and]; exact pfx_T x y w h
  | false => rw [Bool.false_and]; exact pfx_F x y w h
theorem hkPfx_ok : HookOk Tryd.prog hkPfx := by
  intro f args h v cs hv hc wb k s w H
  unfold hkPfx at hv
  split at hv
  · rename_i hf
    obtain rfl := Nat.eq_of_beq_eq_true hf
    split at hv
    · cases hv
      exact pfx_any _ _ w
    · cases hv
  · cases hv
theorem hkD_ok {eB : EncB} {eE : EncE} (hE : HookOk Tryd.prog (hkEn eB eE)) : HookOk2 Tryd.prog (hkD eB eE) := orHook2_ok hkPeek_ok (orHook2_ok (guard_ok hkSgn_ok) (orHook2_ok (guard_ok hkNumD_ok) (orHook2_ok (guard_ok hE) (guard_ok hkPfx_ok))))
end Go.Proofs.YtokeopmmnpmfeaaDoor.Ex
end
section
namespace Go.Proofs.YtokeopmmnpmfeaaDoor.Ex
set_option maxRecDepth 20000

open Go Go.RowKit
set_option linter.unusedVariables false
structure XX where
  k : Int
  al : Int
  co : Int
  si : Int
  wi : Bool
  sh : Bool
  ds : Int
  sr : Int
  dp : Int
  re : Int
  im : Int
def XX.z : XX := ⟨0, 0, 0, 0, false, false, 0, 0, 0, 0, 0⟩
def XX.cells (x : XX) : List Value := xD x.k x.al x.co x.si x.wi x.sh x.ds x.sr x.dp x.re x.im
def EncB.of (eB : EncB) (x : XX) : List UInt8 := eB x.k x.al x.co x.si x.wi x.sh x.ds x.sr x.dp x.re x.im
def EncE.of (eE : EncE) (x : XX) : Int := eE x.k x.al x.co x.si x.wi x.sh x.ds x.sr x.dp x.re x.im
def s4 (b : Nat → Int) (j : Nat) : Int := sgV 32 [b j, b (j + 1), b (j + 2), b (j + 3)]
def s1 (b : Nat → Int) (j : Nat) : Int := sgV 8 [b j]
def s8 (b : Nat → Int) (j : Nat) : Int := sgV 64 [b j, b (j + 1), b (j + 2), b (j + 3), b (j + 4), b (j + 5), b (j + 6), b (j + 7)]
def hz (h : Bool) (n : Int) : Int := bif h then 2 else n
/-- Behind a two-register byte at n: memory. -/
def dpB (b : Nat → Int) (R : Int) (n : Nat) : Int := bif (Int.tmod (endE R (b n)) 8 == 4) then IntKind.i32.wrap (s4 b (n + 2)) else IntKind.i32.wrap (s4 b (n + 1))
def xRM (b : Nat → Int) (h w : Bool) (R : Int) (n : Nat) (k al : Int) : XX := ⟨k, al, 0, hz h 0, w, false, endE R (b n), midE R (b n), 0, 0, 0⟩
def xMR (b : Nat → Int) (h w : Bool) (R : Int) (n : Nat) (k : Int) : XX := ⟨k, 0, 0, hz h 0, w, false, midE R (b n), endE R (b n), 0, 0, 0⟩
def xSd (b : Nat → Int) (h w : Bool) (R : Int) (n : Nat) (si dp : Int) : XX := ⟨14, 0, 0, hz h si, w, false, endE R (b n), midE R (b n), dp, 0, 0⟩
def xLd (b : Nat → Int) (h w : Bool) (R : Int) (n : Nat) (si dp : Int) : XX := ⟨13, 0, 0, hz h si, w, false, midE R (b n), endE R (b n), dp, 0, 0⟩
def xS (b : Nat → Int) (h w : Bool) (R : Int) (n : Nat) (si : Int) : XX := xSd b h w R n si (dpB b R n)
def xL (b : Nat → Int) (h w : Bool) (R : Int) (n : Nat) (si : Int) : XX := xLd b h w R n si (dpB b R n)
def xDg (b : Nat → Int) (h w : Bool) (R : Int) (n : Nat) (k al im : Int) : XX := ⟨k, al, 0, hz h 0, w, false, endE R (b n), 0, 0, 0, im⟩
def xC (h w : Bool) (R op : Int) (k im : Int) : XX := ⟨k, 0, 0, hz h 0, w, false, codE R op, 0, 0, 0, im⟩
def xR (h w sh : Bool) (k co re : Int) : XX := ⟨k, 0, co, hz h 0, w, sh, 0, 0, 0, re, 0⟩
def xN (h w : Bool) (k : Int) : XX := ⟨k, 0, 0, hz h 0, w, false, 0, 0, 0, 0, 0⟩
def rowB (b : Nat → Int) (h w : Bool) (R : Int) (j : Nat) : XX :=
  bif (andB (b j) 248 == 80) then xC h w R (b j) 17 0
  else bif (andB (b j) 248 == 88) then xC h w R (b j) 18 0
  else bif (andB (b j) 240 == 112) then xR h w true 16 (IntKind.i64.wrap (andB (b j) 15)) (IntKind.i32.wrap (s1 b (j + 1)))
  else bif (andB (b j) 248 == 184) then xC h w R (b j) 3 (s8 b (j + 1))
  else .z
/-- Behind no 0F: the opcode stands at j. -/
def opB (b : Nat → Int) (h w : Bool) (R : Int) (j : Nat) : XX :=
  bif (b j == 137) then (bif decide (b (j + 1) < 192) then xS b h w R (j + 1) (bif w then 8 else 4) else xRM b h w R (j + 1) 1 0)
  else bif (b j == 136) then xS b h w R (j + 1) 1
  else bif (b j == 139) then xL b h w R (j + 1) (bif w then 8 else 4)
  else bif (b j == 133) then xRM b h w R (j + 1) 6 0
  else bif (b j == 129) then xDg b h w R (j + 1) 5 (digE (b (j + 1))) (s4 b (j + 2))
  else bif (b j == 199) then xDg b h w R (j + 1) 2 0 (s4 b (j + 2))
  else bif (b j == 247) then (bif (digE (b (j + 1)) == 3) then xDg b h w R (j + 1) 7 0 0 else bif (digE (b (j + 1)) == 4) then xDg b h w R (j + 1) 8 0 0 else bif (digE (b (j + 1)) == 6) then xDg b h w R (j + 1) 9 0 0 else .z)
  else bif (b j == 193) then xDg b h w R (j + 1) 11 (digE (b (j + 1))) (s1 b (j + 2))
  else bif (b j == 211) then xDg b h w R (j + 1) 12 (digE (b (j + 1))) 0
  else bif (b j == 235) then xR h w true 15 0 (IntKind.i32.wrap (s1 b (j + 1)))
  else bif (b j == 233) then xR h w false 15 0 (IntKind.i32.wrap (s4 b (j + 1)))
  else bif (b j == 232) then xR h w false 20 0 (IntKind.i32.wrap (s4 b (j + 1)))
  else bif (b j == 195) then xN h w 19
  else bif decide (b j < 64) then (bif (Int.tmod (b j) 8 == 1) then xRM b h w R (j + 1) 4 (IntKind.i64.wrap (IntKind.u8.wrap (Int.tdiv (b j) 8))) else rowB b h w R j)
  else rowB b h w R j
/-- Behind 0F: the opcode stands at j. -/
def escB (b : Nat → Int) (h w : Bool) (R : Int) (j : Nat) : XX :=
  bif (b j == 175) then xMR b h w R (j + 1) 10
  else bif (b j == 182) then xL b h w R (j + 1) 1
  else bif (b j == 183) then xL b h w R (j + 1) 2
  else bif (b j == 174) then xN h w 21
  else bif (andB (b j) 240 == 128) then xR h w false 16 (IntKind.i64.wrap (andB (b j) 15)) (IntKind.i32.wrap (s4 b (j + 1)))
  else .z
def preB (b : Nat → Int) (h w : Bool) (R : Int) (j : Nat) : XX := bif (b j == 15) then escB b h w R (j + 1) else opB b h w R j
def rexB (b : Nat → Int) (h : Bool) (i : Nat) : XX :=
  bif (andB (b i) 240 == 64) then (bif (andB (b i) 8 != 0) then preB b h true (b i) (i + 1) else preB b h false (b i) (i + 1)) else preB b h false 0 i
/-- The instruction that bytes are read as. -/
def readB (b : Nat → Int) : XX := bif (b 0 == 102) then rexB b true 1 else rexB b false 0
/-- What decoding answers, by what is read, and by what its bytes are. -/
def decV (eB : EncB) (eE : EncE) (s : ByteArray) (a : Int) (x : XX) : Value :=
  bif (eE.of x != 0) then .tuple ⟨[.agg ⟨xD 0 0 0 0 false false 0 0 0 0 0⟩, .int .i64 0, .int .i64 110]⟩
  else bif !(pfxB (s.extract a.toNat s.size) ⟨⟨eB.of x⟩⟩) then .tuple ⟨[.agg ⟨xD 0 0 0 0 false false 0 0 0 0 0⟩, .int .i64 0, .int .i64 110]⟩
  else .tuple ⟨[.agg ⟨x.cells⟩, .int .i64 ((⟨⟨eB.of x⟩⟩ : ByteArray).size : Int), .int .i64 0]⟩
end Go.Proofs.YtokeopmmnpmfeaaDoor.Ex
end
section
namespace Go.Proofs.YtokeopmmnpmfeaaDoor.Ex
set_option maxRecDepth 20000

open Go Go.RowKit
set_option linter.unusedVariables false
set_option linter.unusedSimpArgs false
set_option maxHeartbeats 0
set_option maxRecDepth 1000000
def q1 (e : Bool) : Cs := [(b2i e, 1)]
def q0 (e : Bool) : Cs := [(b2i e, 0)]
def ne (x : Int) : List Int → Cs
  | [] => []
  | n :: l => (b2i (x == n), 0) :: ne x l
def stC (s : ByteArray) (a : Int) : Cs := [(b2i (decide (a < 0)), 0), (b2i (decide (a ≥ (s.size : Int))), 0)]
def yo (f t : Nat) : List (Nat × Nat × Value) := [(f, t, .bool true)]
def no (f t : Nat) : List (Nat × Nat × Value) := [(f, t, .bool false)]
def nos (f : Nat) : List Nat → List (Nat × Nat × Value)
  | [] => []
  | t :: l => (f, t, .bool false) :: nos f l
/-- A way through decoding: what must hold, which way its tests go, what is read. -/
structure Way where
  c : ByteArray → Int → (Nat → Int) → Cs
  o : List (Nat × Nat × Value)
  x : (Nat → Int) → XX
def zV : Value := .tuple ⟨[.agg ⟨xD 0 0 0 0 false false 0 0 0 0 0⟩, .int .i64 0, .int .i64 110]⟩
def tV (eB : EncB) (x : XX) : Value := .tuple ⟨[.agg ⟨x.cells⟩, .int .i64 ((⟨⟨eB.of x⟩⟩ : ByteArray).size : Int), .int .i64 0]⟩
def cE (eE : EncE) (x : XX) : Cs := [(b2i (eE.of x != 0), 1)]
def cN (eB : EncB) (eE : EncE) (s : ByteArray) (a : Int) (x : XX) (n : Int) : Cs := [(b2i (eE.of x != 0), 0), (b2i (decide (0 ≤ a) && decide (a ≤ (s.size : Int))), 1), (b2i (!(pfxB (s.extract a.toNat s.size) ⟨⟨eB.of x⟩⟩)), n)]
def oE (p k : Way) : Orc := dOrc (p.o ++ (k.o ++ yo 5 30))
def oF (p k : Way) : Orc := dOrc (p.o ++ (k.o ++ (no 5 30 ++ yo 5 37)))
def oT (p k : Way) : Orc := dOrc (p.o ++ (k.o ++ (no 5 30 ++ no 5 37)))
/-- The way ends where what is read has no bytes; where other bytes stand there; where its bytes do. -/
def WE (p k : Way) : Prop := ∀ (eB : EncB) (eE : EncE), HookOk2 Tryd.prog (hkD eB eE) → ∀ (s : ByteArray) (a : Int), LfD [.string s, .int .i64 a] zV (p.c s a (bt s a) ++ (k.c s a (bt s a) ++ cE eE (k.x (bt s a))))
def WF (p k : Way) : Prop := ∀ (eB : EncB) (eE : EncE), HookOk2 Tryd.prog (hkD eB eE) → ∀ (s : ByteArray) (a : Int), LfD [.string s, .int .i64 a] zV (p.c s a (bt s a) ++ (k.c s a (bt s a) ++ cN eB eE s a (k.x (bt s a)) 1))
def WT (p k : Way) : Prop := ∀ (eB : EncB) (eE : EncE), HookOk2 Tryd.prog (hkD eB eE) → ∀ (s : ByteArray) (a : Int), LfD [.string s, .int .i64 a] (tV eB (k.x (bt s a))) (p.c s a (bt s a) ++ (k.c s a (bt s a) ++ cN eB eE s a (k.x (bt s a)) 0))
def n0 : Way := ⟨fun s a b => stC s a ++ (pkC s a 0 ++ (q0 (b 0 == 102) ++ (pkC s a 0 ++ (q0 (andB (b 0) 240 == 64) ++ (tkC s a 0 ++ (q0 (andB 0 8 != 0))))))), no 5 11 ++ (no 5 16 ++ (no 9 10 ++ (no 9 17 ++ (no 9 24)))), fun b => XX.z⟩
def nr : Way := ⟨fun s a b => stC s a ++ (pkC s a 0 ++ (q0 (b 0 == 102) ++ (pkC s a 0 ++ (q1 (andB (b 0) 240 == 64) ++ (tkC s a 0 ++ (tkC s a 1 ++ (q0 (andB (b 0) 8 != 0)))))))), no 5 11 ++ (no 5 16 ++ (no 9 10 ++ (yo 9 17 ++ (no 9 24)))), fun b => XX.z⟩
def nw : Way := ⟨fun s a b => stC s a ++ (pkC s a 0 ++ (q0 (b 0 == 102) ++ (pkC s a 0 ++ (q1 (andB (b 0) 240 == 64) ++ (tkC s a 0 ++ (tkC s a 1 ++ (q1 (andB (b 0) 8 != 0)))))))), no 5 11 ++ (no 5 16 ++ (no 9 10 ++ (yo 9 17 ++ (yo 9 24)))), fun b => XX.z⟩
def h0 : Way := ⟨fun s a b => stC s a ++ (pkC s a 0 ++ (q1 (b 0 == 102) ++ (tkC s a 0 ++ (pkC s a 1 ++ (q0 (andB (b 1) 240 == 64) ++ (tkC s a 1 ++ (q0 (andB 0 8 != 0)))))))), no 5 11 ++ (no 5 16 ++ (yo 9 10 ++ (no 9 17 ++ (no 9 24)))), fun b => XX.z⟩
def hr : Way := ⟨fun s a b => stC s a ++ (pkC s a 0 ++ (q1 (b 0 == 102) ++ (tkC s a 0 ++ (pkC s a 1 ++ (q1 (andB (b 1) 240 == 64) ++ (tkC s a 1 ++ (tkC s a 2 ++ (q0 (andB (b 1) 8 != 0))))))))), no 5 11 ++ (no 5 16 ++ (yo 9 10 ++ (yo 9 17 ++ (no 9 24)))), fun b => XX.z⟩
def hw : Way := ⟨fun s a b => stC s a ++ (pkC s a 0 ++ (q1 (b 0 == 102) ++ (tkC s a 0 ++ (pkC s a 1 ++ (q1 (andB (b 1) 240 == 64) ++ (tkC s a 1 ++ (tkC s a 2 ++ (q1 (andB (b 1) 8 != 0))))))))), no 5 11 ++ (no 5 16 ++ (yo 9 10 ++ (yo 9 17 ++ (yo 9 24)))), fun b => XX.z⟩
end Go.Proofs.YtokeopmmnpmfeaaDoor.Ex
end
section
namespace Go.Proofs.YtokeopmmnpmfeaaDoor
set_option maxRecDepth 20000

/-! What the laws ask. -/
theorem num_bytes (v : BitVec 64) (n : Nat) (h : n ≤ 8) : numS (bytesN v n) = lowS v (8 * n : Nat) := by
  unfold numS
  rw [bytesN_size, show min n 8 = n by omega]
  apply BitVec.eq_of_getLsbD_eq
  intro i hi
  rw [numF_bit, low_bit]
  by_cases hn : i < 8 * n
  · have hn' : (i : Int) < (8 * n : Nat) := by omega
    rw [byteAt_bytesN v n _ (by omega)]
    unfold byteOf
    rw [BitVec.getLsbD_setWidth, BitVec.getLsbD_ushiftRight]
    simp only [hi, hn, hn', decide_true, Bool.true_and, show i % 8 < 8 by omega, show 8 * (i / 8) + i % 8 = i by omega]
  · have hn' : ¬ (i : Int) < (8 * n : Nat) := by omega
    simp only [hn, hn', decide_false, Bool.false_and, Bool.and_false]
end Go.Proofs.YtokeopmmnpmfeaaDoor
end
section
namespace Go.Proofs.YtokeopmmnpmfeaaDoor.Ex
set_option maxRecDepth 20000

open Go Go.RowKit

/-- The blocks that a call of flat arguments lays, where so many blocks are told already: its value, they, and what must be the same. -/
noncomputable def lays (P : Program) (hk : Hook3) (orc : Orc) (L f : Nat) (q : Nat) (g : FuncId) (args : List Value) : Option (Value × List AO × Cs) :=
  match callA P ⟨ex P (aOp P) (drawE P) hk orc accQ L f, hk, fun _ _ => none, accQ⟩ g args (List.replicate q dead) with
  | some (v, h, m) =>
    if quietB q m.1 && (refF (fun x => decide (q ≤ x) && decide (x < q + (h.drop q).length)) 6 v && (h.drop q).all (refO fun x => decide (q ≤ x) && decide (x < q + (h.drop q).length))) then some (v, h.drop q, m.2) else none
  | none => none
end Go.Proofs.YtokeopmmnpmfeaaDoor.Ex
end
section
namespace Go.Proofs.YtokeopmmnpmfeaaDoor.Ex
set_option maxRecDepth 20000

open Go Go.RowKit

/-- A memory has, at the same places, what a smaller one tells of. -/
def eqEs : Option Nat → Option Nat → Bool
  | none, none => true
  | some a, some b => Nat.beq a b
  | _, _ => false
theorem eqEs_ok {a b : Option Nat} (h : eqEs a b = true) : a = b := by
  cases a <;> cases b <;> first | rfl | (cases h; done) | (rw [Nat.eq_of_beq_eq_true h])
def subH : List AO → List AO → Bool
  | [], _ => true
  | _ :: _, [] => false
  | o :: l, p :: h => (!o.live || (p.live && eqEs p.es o.es && eqL p.cs o.cs)) && subH l h
theorem subH_at : ∀ {h0 h : List AO}, subH h0 h = true → ∀ (g : Nat) (o : AO), h0[g]? = some o → o.live = true → h[g]? = some o
  | [], _, _, g, o, ho, _ => by simp at ho
  | _ :: _, [], h, _, _, _, _ => by cases h
  | o :: l, p :: h, hh, g, q, hq, hl => by
    simp only [subH, Bool.and_eq_true] at hh
    cases g with
    | succ g => simpa using subH_at hh.2 g q (by simpa using hq) hl
    | zero =>
      simp at hq
      subst hq
      have h1 := hh.1
      simp only [hl, Bool.not_true, Bool.false_or, Bool.and_eq_true] at h1
      have e1 := eqEs_ok h1.1.2
      have e2 := eqL_ok h1.2
      obtain ⟨pl, pe, pc⟩ := p
      obtain ⟨ol, oe, oc⟩ := o
      simp only at h1 hl e1 e2
      rw [List.getElem?_cons_zero, hl, h1.1.1, e1, e2]
theorem HR.sub {wb : Wb} {k : Nat} {s : Ren} {h h0 : List AO} {w : World} (H : HR wb k s h w) (hs : subH h0 h = true) (hl : h.length = h0.length) : HR wb k s h0 w :=
  ⟨H.grown, by rw [← hl]; exact H.kle, fun i hi => H.dom i (by rw [hl]; exact hi), H.plc, fun i o ho hv => H.obj i o (subH_at hs i o ho hv) hv,
    fun i j a c p q hi hj ha hc => H.sep i j a c p q (subH_at hs i a hi ha) (subH_at hs j c hj hc) ha hc, H.gl⟩
end Go.Proofs.YtokeopmmnpmfeaaDoor.Ex
end
section
namespace Go.Proofs.YtokeopmmnpmfeaaDoor.Ex
set_option maxRecDepth 20000

open Go Go.RowKit

def iterB (body : St → Option (Exit × St)) : Nat → St → Option St
  | 0, x => some x
  | n + 1, x =>
    match body x with
    | some (.normal, x') => iterB body n x'
    | _ => none
section
variable {P : Program}
theorem iterB_low {body : St → Option (Exit × St)} {k : Nat} (hl : ∀ (x x' : St) (e : Exit), body x = some (e, x') → Bnd k x'.m → Bnd k x.m) :
    ∀ (n : Nat) (x x' : St), iterB body n x = some x' → Bnd k x'.m → Bnd k x.m
  | 0, x, x', hr, hm => by simp [iterB] at hr; subst hr; exact hm
  | n + 1, x, x', hr, hm => by
    simp only [iterB] at hr
    split at hr
    · rename_i x1 h1
      exact hl x x1 .normal h1 (iterB_low hl n x1 x' hr hm)
    · cases hr
theorem iterB_ok {body : St → Option (Exit × St)} {c : Code}
    (hb : ∀ (wb : Wb) (k : Nat) (s : Ren) (x x' : St) (e : Exit) (a : Act) (w : World), body x = some (e, x') → Bnd k x'.m → SR wb k s x a w → c.wp P (Post wb k s x' e) a w)
    (wb : Wb) (k : Nat) (hl : ∀ (x x' : St) (e : Exit), body x = some (e, x') → Bnd k x'.m → Bnd k x.m) :
    ∀ (n : Nat) (x x' : St), iterB body n x = some x' → Bnd k x'.m → ∀ (s : Ren) (a : Act) (w : World), SR wb k s x a w → ∀ (N : Nat) (Q : Exit → Act → World → Prop),
      (∀ s' a' w', Le s s' → SR wb k s' x' a' w' → Code.rounds P c Q N a' w') → Code.rounds P c Q (n + N) a w
  | 0, x, x', hr, hm => by
    simp [iterB] at hr
    subst hr
    intro s a w H N Q hQ
    rw [Nat.zero_add]
    exact hQ s a w (Le.refl s) H
  | n + 1, x, x', hr, hm => by
    simp only [iterB] at hr
    split at hr
    · rename_i x1 h1
      have g1 := iterB_low hl n x1 x' hr hm
      intro s a w H N Q hQ
      rw [show n + 1 + N = (n + N) + 1 by omega, rounds_succ]
      refine Code.wp_mono ?_ (hb wb k s x x1 .normal a w h1 g1 H)
      rintro e' a' w' ⟨rfl, s', hle, H'⟩
      exact iterB_ok hb wb k hl n x1 x' hr hm s' a' w' H' N Q fun s'' a'' w'' hle' H'' => hQ s'' a'' w'' (hle.trans hle') H''
    · cases hr
theorem rounds_le {c : Code} {wb : Wb} {k : Nat} {s t : Ren} (h : Le s t) {x : St} {e : Exit} : ∀ (n : Nat) (a : Act) (w : World), Code.rounds P c (Post wb k t x e) n a w → Code.rounds P c (Post wb k s x e) n a w := by
  intro n
  induction n with
  | zero => intro a w h; exact h
  | succ n ih =>
    intro a w h0
    rw [rounds_succ] at h0 ⊢
    refine Code.wp_mono (fun e' a' w' hp => ?_) h0
    cases e' <;> first | exact ih _ _ hp | exact post_le h hp
/-- So many rounds lead from a state to another one. -/
def Hop (P : Program) (c : Code) (n : Nat) (t : List Value) (h : List AO) (t' : List Value) (h' : List AO) (mE : Mk) : Prop :=
  ∀ (wb : Wb) (k : Nat), Bnd k mE → ∀ (s : Ren) (m : Mk) (a : Act) (w : World), SR wb k s ⟨t, h, m⟩ a w → ∀ (N : Nat) (Q : Exit → Act → World → Prop),
    (∀ s' a' w', Le s s' → SR wb k s' ⟨t', h', m⟩ a' w' → Code.rounds P c Q N a' w') → Code.rounds P c Q (n + N) a w
/-- Within so many rounds the loop ends. -/
def Stop (P : Program) (c : Code) (n : Nat) (t : List Value) (h : List AO) (e : Exit) (t' : List Value) (h' : List AO) (mE : Mk) : Prop :=
  ∀ (wb : Wb) (k : Nat), Bnd k mE → ∀ (s : Ren) (m : Mk) (a : Act) (w : World), SR wb k s ⟨t, h, m⟩ a w → ∀ (m' : Mk), Code.rounds P c (Post wb k s ⟨t', h', m'⟩ e) n a w
theorem Hop.stop {c : Code} {n N : Nat} {t t1 t2 : List Value} {h h1 h2 : List AO} {e : Exit} {m1 m2 : Mk} (a : Hop P c n t h t1 h1 m1) (b : Stop P c N t1 h1 e t2 h2 m2) : Stop P c (n + N) t h e t2 h2 (low m1 m2) := by
  intro wb k hm s m act w H m'
  refine a wb k (bnd_low hm).1 s m act w H N _ fun s' a' w' hle H' => ?_
  exact rounds_le hle N a' w' (b wb k (bnd_low hm).2 s' m a' w' H' m')
/-- A loop, from a state on to its end. -/
structure LoopT where
  f : FuncId
  t : List Value
  h : List AO
  e : Exit
  t' : List Value
  h' : List AO
  m : Mk
def eqAll (p : Value → Value → Bool) : List Value → List Value → Bool
  | [], [] => true
  | x :: xs, y :: ys => p x y && eqAll p xs ys
  | _, _ => false
def eqD2 : Nat → Value → Value → Bool
  | 0, _, _ => false
  | n + 1, .agg ⟨a⟩, .agg ⟨b⟩ => eqAll (eqD2 n) a b
  | n + 1, .tuple ⟨a⟩, .tuple ⟨b⟩ => eqAll (eqD2 n) a b
  | _ + 1, x, y => eqI x y
def eqHp : List AO → List AO → Bool
  | [], [] => true
  | o :: l, p :: h => (o.live == p.live && (eqEs o.es p.es && eqAll (eqD2 4) o.cs p.cs)) && eqHp l h
  | _, _ => false
def LoopE.is (e : LoopT) (fid : FuncId) (x : St) : Bool := Nat.beq fid e.f && (Nat.beq x.h.length e.h.length && (eqAll (eqD2 4) x.t e.t && eqHp x.h e.h))
end
end Go.Proofs.YtokeopmmnpmfeaaDoor.Ex
end
