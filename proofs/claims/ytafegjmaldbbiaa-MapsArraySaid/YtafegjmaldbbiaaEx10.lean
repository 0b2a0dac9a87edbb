/-
  Runs that the kernel reckons, part 10: statements whose order is open: what only reads, calls and lays new blocks may come in any order; what stands behind it is forced.
-/
import Derived.Test.YtafegjmaldbbiaaEx9
namespace Go.Proofs.Ytafegjmaldbbiaa.Ex
open Go Go.RowKit

/-! Values whose addresses are below a bound. -/
def blw0 (n : Nat) : Value → Bool
  | .pointer (some a) => decide (a.block < n)
  | .slice (some a) _ _ => decide (a.block < n)
  | .map (some r) => decide (r < n)
  | v => scal v
def blw1 (n : Nat) : Value → Bool
  | .agg cs => cs.toList.all (blw0 n)
  | .func (.func _) a b => a.toList.all (blw0 n) && b.toList.all (blw0 n)
  | .iface _ v => blw0 n v
  | v => blw0 n v
theorem blw1_of_blw0 {n : Nat} {v : Value} (h : blw0 n v = true) : blw1 n v = true := by
  cases v with
  | agg cs => simp [blw0, scal] at h
  | func f a b =>
    cases f with
    | func g => 
      obtain ⟨a⟩ := a
      obtain ⟨b⟩ := b
      simp [blw0, scal] at h
      obtain ⟨rfl, rfl⟩ := h
      rfl
    | _ => simp [blw0, scal] at h
  | iface t v => simp [blw0, scal] at h
  | _ => exact h
theorem VR.blw {s t : Ren} {n : Nat} (hst : ∀ i, i < n → s i = t i) {v v' : Value} (h : VR s v v') : blw1 n v = true → VR t v v' := by
  induction h with
  | same h => exact fun _ => .same h
  | ptr hs hp => exact fun h => .ptr hs (by rw [← hst _ (by simpa [blw1, blw0] using h)]; exact hp)
  | slice hs hp hc => exact fun h => .slice hs (by rw [← hst _ (by simpa [blw1, blw0] using h)]; exact hp) hc
  | agg hl _ ih => exact fun h => .agg hl fun i x y hx hy => ih i x y hx hy (blw1_of_blw0 (all_get (by simpa [blw1] using h) hx))
  | tuple hl _ ih => intro h; simp [blw1, blw0, scal] at h
  | func hl _ hl' _ ih ih' =>
    intro h
    simp only [blw1, Bool.and_eq_true] at h
    exact .func hl (fun i x y hx hy => ih i x y hx hy (blw1_of_blw0 (all_get h.1 hx))) hl' fun i x y hx hy => ih' i x y hx hy (blw1_of_blw0 (all_get h.2 hx))
  | iface _ ih => exact fun h => .iface (ih (blw1_of_blw0 (by simpa [blw1] using h)))
  | map hp => exact fun h => .map (by rw [← hst _ (by simpa [blw1, blw0] using h)]; exact hp)
theorem LR.blw {s t : Ren} {n : Nat} (hst : ∀ i, i < n → s i = t i) {xs ys : List Value} (h : LR s xs ys) (hb : xs.all (blw1 n) = true) : LR t xs ys :=
  ⟨h.1, fun i x y hx hy => (h.2 i x y hx hy).blw hst (all_get hb hx)⟩

/-! Values that hold no other addresses than such. -/
def refF (ok : Nat → Bool) : Nat → Value → Bool
  | 0, v => scal v
  | n + 1, v =>
    match v with
    | .pointer (some a) => ok a.block
    | .slice (some a) _ _ => ok a.block
    | .map (some r) => ok r
    | .agg cs => cs.toList.all (refF ok n)
    | .tuple cs => cs.toList.all (refF ok n)
    | .iface _ v => refF ok n v
    | .func (.func _) a b => a.toList.all (refF ok n) && b.toList.all (refF ok n)
    | v => scal v
theorem VR.refs {s t : Ren} {ok : Nat → Bool} (hst : ∀ i, ok i = true → s i = t i) : ∀ (n : Nat) {v v' : Value}, VR s v v' → refF ok n v = true → VR t v v'
  | 0, v, v', h, hr => by
    have hf : flat v = true := flat_of_scal hr
    rw [h.eq_of_flat hf]
    exact .same hf
  | n + 1, v, v', h, hr => by
    have ih := fun {v v' : Value} => VR.refs hst n (v := v) (v' := v')
    cases h with
    | same h => exact .same h
    | ptr hs hp => exact .ptr hs (by rw [← hst _ hr]; exact hp)
    | slice hs hp hc => exact .slice hs (by rw [← hst _ hr]; exact hp) hc
    | agg hl hh => exact .agg hl fun i x y hx hy => ih (hh i x y hx hy) (all_get hr hx)
    | tuple hl hh => exact .tuple hl fun i x y hx hy => ih (hh i x y hx hy) (all_get hr hx)
    | func hl hh hl' hh' =>
      simp only [refF, Bool.and_eq_true] at hr
      exact .func hl (fun i x y hx hy => ih (hh i x y hx hy) (all_get hr.1 hx)) hl' fun i x y hx hy => ih (hh' i x y hx hy) (all_get hr.2 hx)
    | iface h => exact .iface (ih h hr)
    | map hp => exact .map (by rw [← hst _ hr]; exact hp)
theorem LR.refs {s t : Ren} {ok : Nat → Bool} (hst : ∀ i, ok i = true → s i = t i) (n : Nat) {xs ys : List Value} (h : LR s xs ys) (hb : xs.all (refF ok n) = true) : LR t xs ys :=
  ⟨h.1, fun i x y hx hy => (h.2 i x y hx hy).refs hst n (all_get hb hx)⟩
def refO (ok : Nat → Bool) (o : AO) : Bool := !o.live || o.cs.all (refF ok 6)
theorem ObjAt.refs {s t : Ren} {ok : Nat → Bool} (hst : ∀ i, ok i = true → s i = t i) {p : Pl} {o : AO} {w : World} (h : ObjAt s p o w) (hb : o.cs.all (refF ok 6) = true) : ObjAt t p o w :=
  ⟨fun hm => let ⟨cs', h1, h2⟩ := h.1 hm; ⟨cs', h1.refs hst 6 hb, h2⟩, fun hm => let B := h.2 hm
    ⟨B.fit, B.all, B.shp, B.free, fun o v hv => let ⟨v', h1, h2⟩ := B.rel o v hv; ⟨v', h1, h2.refs hst 6 (all_get hb hv)⟩⟩⟩

/-! Blocks laid one behind the other. -/
def layL (h : List AO) (q : Nat) (bs : List AO) : List AO := h.take q ++ bs ++ h.drop (q + bs.length)
theorem layL_length {h bs : List AO} {q : Nat} (hf : q + bs.length ≤ h.length) : (layL h q bs).length = h.length := by simp [layL]; omega
theorem layL_get {h bs : List AO} {q : Nat} (hf : q + bs.length ≤ h.length) (x : Nat) : (layL h q bs)[x]? = if q ≤ x ∧ x < q + bs.length then bs[x - q]? else h[x]? := by
  unfold layL
  by_cases h1 : x < q
  · rw [if_neg (by omega), List.append_assoc, List.getElem?_append_left (by simp; omega), List.getElem?_take, if_pos h1]
  · by_cases h2 : x < q + bs.length
    · rw [if_pos ⟨by omega, h2⟩, List.append_assoc, List.getElem?_append_right (by simp; omega), List.getElem?_append_left (by simp; omega)]
      congr 1
      simp; omega
    · rw [if_neg (by omega), List.getElem?_append_right (by simp; omega), List.getElem?_drop]
      congr 1
      simp; omega
theorem layL_nil (h : List AO) (q : Nat) : layL h q [] = h := by simp [layL]
theorem layL_one {h : List AO} {q : Nat} (hq : q < h.length) (o : AO) : layL h q [o] = h.set q o := by
  apply List.ext_getElem?
  intro x
  rw [layL_get (by simp; omega), List.getElem?_set]
  by_cases e : q = x
  · subst e; simp [hq]
  · rw [if_neg (by simp; omega), if_neg e]

/-! Places that are laid later. -/
theorem HR.fillO {wb : Wb} {k : Nat} {s : Ren} {h : List AO} {w : World} (H : HR wb k s h w) {q : Nat} (hq : s q = none) (hql : q < h.length) (hk : k ≤ q) (ao : AO) (ob : Obj) (tot : Nat) (hes : ao.es ≠ some GM)
    (hob : ObjAt (upd s q ⟨w.heap.size, 0, tot, ao.es⟩) ⟨w.heap.size, 0, tot, ao.es⟩ ao (w.alloc ob)) :
    HR wb k (upd s q ⟨w.heap.size, 0, tot, ao.es⟩) (h.set q ao) (w.alloc ob) ∧ Le s (upd s q ⟨w.heap.size, 0, tot, ao.es⟩) := by
  have hle := Le.upd (s := s) (i := q) ⟨w.heap.size, 0, tot, ao.es⟩ hq
  have g : Gr w (w.alloc ob) := (Gr.refl w).allocO _
  have hwb : wb.w.heap.size ≤ w.heap.size := H.grown.2.2
  have old : ∀ (i : Nat) (a : AO), i ≠ q → (h.set q ao)[i]? = some a → h[i]? = some a := by
    intro i a e ho
    rwa [List.getElem?_set, if_neg (Ne.symm e)] at ho
  refine ⟨⟨GrB.trans H.grown g, by simpa using H.kle, fun i hi => ?_, fun i p hp => ?_, fun i o ho hl => ?_, fun i j a b p r hi hj ha hb hp hr' e => ?_, fun i p hp hg => ?_⟩, hle⟩
  · simp at hi
    rw [upd_other _ _ (by omega)]
    exact H.dom i hi
  · by_cases e : i = q
    · subst e
      rw [upd_same] at hp
      cases hp
      exact ⟨fun hlt => absurd hk (by omega), fun _ => .inl hwb, by simp⟩
    · rw [upd_other _ _ e] at hp
      obtain ⟨a, b, c⟩ := H.plc i p hp
      exact ⟨a, b, by simp; omega⟩
  · by_cases e : i = q
    · subst e
      rw [List.getElem?_set, if_pos rfl, if_pos hql] at ho
      cases ho
      exact ⟨_, upd_same _ _ _, rfl, hob⟩
    · have ho := old i o e ho
      obtain ⟨p, hp, he, hb⟩ := H.obj i o ho hl
      exact ⟨p, by rw [upd_other _ _ e]; exact hp, he, (hb.grown (H.plc i p hp).2.2 g).mono hle⟩
  · by_cases ei : i = q
    · by_cases ej : j = q
      · omega
      · subst ei
        rw [upd_same] at hp
        cases hp
        rw [upd_other _ _ ej] at hr'
        have := (H.plc j r hr').2.2
        simp at e
        omega
    · rw [upd_other _ _ ei] at hp
      by_cases ej : j = q
      · subst ej
        rw [upd_same] at hr'
        cases hr'
        have := (H.plc i p hp).2.2
        simp at e
        omega
      · rw [upd_other _ _ ej] at hr'
        exact H.sep i j a b p r (old i a ei hi) (old j b ej hj) ha hb hp hr' e
  · by_cases e : i = q
    · subst e
      rw [upd_same] at hp
      cases hp
      exact absurd hg hes
    · rw [upd_other _ _ e] at hp
      exact H.gl i p hp hg
/-- A block whose capacity may not be known. -/
theorem HR.fillF {wb : Wb} {k : Nat} {s : Ren} {h : List AO} {w : World} (H : HR wb k s h w) {q : Nat} (hq : s q = none) (hql : q < h.length) (hk : k ≤ q) {cs : List Value} {arr : Array Value} (T : TypeId) (es : Option Nat) (hes : isW ⟨true, es, cs⟩ = true) (fz : Nat × Nat)
    (hfz : ∀ o, o < arr.size → ¬ (fz.1 ≤ o ∧ o < fz.2)) (hn : cs.length ≤ arr.size) (hr : ∀ (o : Nat) (v : Value), cs[o]? = some v → ∃ v', arr[o]? = some v' ∧ VR s v v') :
    HR wb k (upd s q ⟨w.heap.size, 0, arr.size, es⟩) (h.set q ⟨true, es, cs⟩) (w.alloc (.cells arr T fz)) ∧ Le s (upd s q ⟨w.heap.size, 0, arr.size, es⟩) := by
  have hle := Le.upd (s := s) (i := q) ⟨w.heap.size, 0, arr.size, es⟩ hq
  refine H.fillO hq hql hk ⟨true, es, cs⟩ (.cells arr T fz) arr.size (isW_spec hes).2 (ObjAt.block (isW_spec hes).1 ⟨by simpa using hn, fun o ho => ?_, ⟨T, ?_⟩, fun _ o h1 h2 _ => ?_, fun o v hv => ?_⟩)
  · have ho' : o < arr.size := ho
    rw [World.cell?_alloc_mark]
    simpa using ho'
  · simp only [World.alloc, World.shape?, Array.getElem?_push_size]
  · rw [show (w.alloc (.cells arr T fz)) = w.alloc (.cells arr T (fz.1, fz.2)) from rfl, World.frozen?_alloc_mark]
    have := hfz o h2
    simp only [Bool.and_eq_false_imp, decide_eq_true_eq, decide_eq_false_iff_not]
    exact fun g1 g2 => this ⟨g1, g2⟩
  · obtain ⟨v', h1, h2⟩ := hr o v hv
    exact ⟨v', by rw [World.cell?_alloc_mark]; simpa using h1, h2.mono hle⟩
theorem HR.fill {wb : Wb} {k : Nat} {s : Ren} {h : List AO} {w : World} (H : HR wb k s h w) {q : Nat} (hq : s q = none) (hql : q < h.length) (hk : k ≤ q) {cs : List Value} {arr : Array Value} (T : TypeId) (hr : LR s cs arr.toList) :
    HR wb k (upd s q ⟨w.heap.size, 0, arr.size, none⟩) (h.set q ⟨true, none, cs⟩) (w.alloc (.cells arr T)) ∧ Le s (upd s q ⟨w.heap.size, 0, arr.size, none⟩) :=
  H.fillF hq hql hk T none rfl (0, 0) (fun o _ h => by have := h.2; simp at this) (by have := hr.1; simp at this; omega) fun o v hv => by
    obtain ⟨y, hy, hvy⟩ := hr.get hv
    exact ⟨y, by rw [← Array.getElem?_toList]; exact hy, hvy⟩

/-- Blocks that a call has laid, at places that are free. -/
theorem HR.layNew {wb : Wb} {k : Nat} {s : Ren} {h : List AO} {w : World} (H : HR wb k s h w) {q : Nat} {bs : List AO} (hfit : q + bs.length ≤ h.length) (hk : k ≤ q) (hfree : ∀ x, q ≤ x → x < q + bs.length → s x = none)
    {s1 : Ren} {h1 : List AO} {w' : World} (H1 : HR w q s1 h1 w') (hh1 : ∀ x o, bs[x]? = some o → h1[q + x]? = some o) {old : Nat → Bool} (hlo : ∀ x, old x = true → x < q) (hold : ∀ x, old x = true → s1 x = s x)
    (hrb : bs.all (refO fun x => old x || (decide (q ≤ x) && decide (x < q + bs.length))) = true) :
    HR wb k (fun x => if q ≤ x ∧ x < q + bs.length then s1 x else s x) (layL h q bs) w' ∧ Le s (fun x => if q ≤ x ∧ x < q + bs.length then s1 x else s x) ∧
      ∀ x, (old x || (decide (q ≤ x) && decide (x < q + bs.length))) = true → s1 x = (fun x => if q ≤ x ∧ x < q + bs.length then s1 x else s x) x := by
  have hle : Le s (fun x => if q ≤ x ∧ x < q + bs.length then s1 x else s x) := fun x p hp => by
    by_cases e : q ≤ x ∧ x < q + bs.length
    · rw [hfree x e.1 e.2] at hp; cases hp
    · simp only [if_neg e]; exact hp
  have hok : ∀ x, (old x || (decide (q ≤ x) && decide (x < q + bs.length))) = true → s1 x = (fun x => if q ≤ x ∧ x < q + bs.length then s1 x else s x) x := fun x hx => by
    simp only [Bool.or_eq_true, Bool.and_eq_true, decide_eq_true_eq] at hx
    rcases hx with hx | hx
    · have := hlo x hx
      simp only [if_neg (show ¬ (q ≤ x ∧ x < q + bs.length) by omega)]; exact hold x hx
    · simp only [if_pos hx]
  have g : Gr w w' := H1.grown.gr
  have hwb : wb.w.heap.size ≤ w.heap.size := H.grown.2.2
  have newAt : ∀ x o, q ≤ x ∧ x < q + bs.length → (layL h q bs)[x]? = some o → h1[x]? = some o ∧ bs[x - q]? = some o := by
    intro x o hx ho
    rw [layL_get hfit, if_pos hx] at ho
    have := hh1 _ _ ho
    rw [show q + (x - q) = x by omega] at this
    exact ⟨this, ho⟩
  have oldAt : ∀ x o, ¬ (q ≤ x ∧ x < q + bs.length) → (layL h q bs)[x]? = some o → h[x]? = some o := by
    intro x o hx ho
    rwa [layL_get hfit, if_neg hx] at ho
  refine ⟨⟨GrB.trans H.grown g, by rw [layL_length hfit]; exact H.kle, fun x hx => ?_, fun x p hp => ?_, fun x o ho hl => ?_, fun x y a b p r hx hy ha hb hp hr e => ?_, fun x p hp hg => ?_⟩, hle, hok⟩
  · rw [layL_length hfit] at hx
    simp only [if_neg (show ¬ (q ≤ x ∧ x < q + bs.length) by omega)]
    exact H.dom x hx
  · by_cases e : q ≤ x ∧ x < q + bs.length
    · simp only [if_pos e] at hp
      obtain ⟨_, b, c⟩ := H1.plc x p hp
      exact ⟨fun hlt => absurd hk (by omega), fun _ => .inl (Nat.le_trans hwb (H1.above hp e.1)), c⟩
    · simp only [if_neg e] at hp
      obtain ⟨a, b, c⟩ := H.plc x p hp
      exact ⟨a, b, Nat.lt_of_lt_of_le c g.2.2⟩
  · by_cases e : q ≤ x ∧ x < q + bs.length
    · obtain ⟨n1, n2⟩ := newAt x o e ho
      obtain ⟨p, hp, he, hb⟩ := H1.obj x o n1 hl
      refine ⟨p, by simp only [if_pos e]; exact hp, he, hb.refs hok ?_⟩
      have := List.all_eq_true.1 hrb o (List.mem_of_getElem? n2)
      simpa [refO, hl] using this
    · obtain ⟨p, hp, he, hb⟩ := H.obj x o (oldAt x o e ho) hl
      exact ⟨p, by simp only [if_neg e]; exact hp, he, (hb.grown (H.plc x p hp).2.2 g).mono hle⟩
  · by_cases ex : q ≤ x ∧ x < q + bs.length
    · simp only [if_pos ex] at hp
      by_cases ey : q ≤ y ∧ y < q + bs.length
      · simp only [if_pos ey] at hr
        exact H1.sep x y a b p r (newAt x a ex hx).1 (newAt y b ey hy).1 ha hb hp hr e
      · simp only [if_neg ey] at hr
        have h2 := H1.above hp ex.1
        have h3 := (H.plc y r hr).2.2
        omega
    · simp only [if_neg ex] at hp
      by_cases ey : q ≤ y ∧ y < q + bs.length
      · simp only [if_pos ey] at hr
        have h2 := H1.above hr ey.1
        have h3 := (H.plc x p hp).2.2
        omega
      · simp only [if_neg ey] at hr
        exact H.sep x y a b p r (oldAt x a ex hx) (oldAt y b ey hy) ha hb hp hr e
  · by_cases e : q ≤ x ∧ x < q + bs.length
    · simp only [if_pos e] at hp
      exact H1.gl x p hp hg
    · simp only [if_neg e] at hp
      exact H.gl x p hp hg

/-! Bytes of a string. -/
def fOp (P : Program) (ρ : Operand → Value) (o : Oper) : Option (AO × Nat) :=
  match o.op with
  | .convert a b x =>
    match oFromStr P a b (ρ x) [] with
    | some (.value (.slice _ l _), [ao], _) => some (ao, l)
    | _ => none
  | _ => none
theorem fOp_ok {P : Program} {s : Ren} {ρ ρ' : Operand → Value} {o : Oper} (hρ : ∀ x ∈ o.op.operands, VR s (ρ x) (ρ' x)) {ao : AO} {l : Nat} (hr : fOp P ρ o = some (ao, l)) (w : World) :
    ∃ (arr : Array Value) (e : TypeId), ao.live = true ∧ ao.es = some 1 ∧ ao.cs.length ≤ arr.size ∧ l ≤ arr.size ∧ (∀ (o : Nat) (v : Value), ao.cs[o]? = some v → arr[o]? = some v ∧ flat v = true) ∧
      (execOp ρ' o).run P w = .ok (.value (.slice (some ⟨w.heap.size, 0, none⟩) l arr.size)) (w.drew.alloc (.cells arr e (arr.size, arr.size + 1))) := by
  obtain ⟨dst, op, type, pos, after, guard⟩ := o
  unfold fOp at hr
  simp only at hr hρ
  cases op
  case convert src dst x =>
    simp only at hr
    split at hr
    · rename_i p l' c' ao' m ho
      cases hr
      have hx := hρ x (by simp [Op.operands])
      unfold oFromStr at ho
      split at ho
      · rename_i e b hsu hdu hbx
        rw [hbx] at hx
        split at ho
        · rename_i heu
          simp only [List.length_nil, List.nil_append, Option.some.injEq, Prod.mk.injEq, Next.value.injEq, Value.slice.injEq, List.cons.injEq, and_true] at ho
          obtain ⟨⟨_, hl, _⟩, hao, _⟩ := ho
          subst hl
          subst hao
          let q := Question.appendCap b.size 0 e
          let c := q.cut (w.tape w.drawn q)
          have hc : b.size ≤ c := by
            show b.size ≤ b.size + (w.tape w.drawn q) % (2 ^ 63 - b.size)
            omega
          have hch : (choose (.appendCap b.size 0 e)).run P w = .ok c w.drew := by
            show (Sem.choose q .pure).run P w = _
            simp only [Sem.run]
            rw [if_neg (by simp [q, Question.forced])]
            rfl
          let cells : Array Value := b.data.map fun c => Value.int .u8 c.toNat
          let arr : Array Value := cells ++ Array.replicate (c - b.size) (.int .u8 0)
          have hbs : cells.size = b.size := by simp [cells]
          have hsz : arr.size = c := by simp only [arr, Array.size_append, hbs, Array.size_replicate]; omega
          have hcl : (b.data.toList.map fun c => Value.int .u8 c.toNat) = cells.toList := (Array.toList_map ..).symm
          have hflat : cells.toList.all flat = true := by
            simp only [cells, Array.toList_map]
            exact List.all_eq_true.2 fun v hv => by obtain ⟨n, _, rfl⟩ := List.mem_map.1 hv; rfl
          refine ⟨arr, e, rfl, rfl, ?_, by omega, fun o v hv => ?_, ?_⟩
          · show (b.data.toList.map fun c => Value.int .u8 c.toNat).length ≤ _
            rw [hcl, Array.length_toList]
            omega
          · have hv' : cells.toList[o]? = some v := by rw [← hcl]; exact hv
            refine ⟨?_, all_get hflat hv'⟩
            rw [← Array.getElem?_toList]
            simp only [arr, Array.toList_append]
            rw [List.getElem?_append_left (List.getElem?_eq_some_iff.1 hv').1]
            exact hv'
          · have hfr : (w.drew.alloc (.cells arr e)).freeze ⟨w.heap.size, arr.size, none⟩ 1 = w.drew.alloc (.cells arr e (arr.size, arr.size + 1)) := by
              have e1 : (w.drew.alloc (.cells arr e)).heap = w.heap.push (.cells arr e) := rfl
              unfold World.freeze
              rw [if_neg (by omega)]
              show ({ (w.drew.alloc (.cells arr e)) with heap := _ } : World) = _
              rw [e1]
              have e2 : ∀ (f : Obj → Obj) (o : Obj), (w.heap.push o).modify w.heap.size f = w.heap.push (f o) := by
                intro f o
                apply Array.ext_getElem?
                intro j
                rw [Array.getElem?_modify]
                by_cases ej : w.heap.size = j
                · subst ej; simp
                · rw [if_neg ej, Array.getElem?_push, Array.getElem?_push, if_neg (Ne.symm ej), if_neg (Ne.symm ej)]
              rw [e2]
              rfl
            have hsh : (w.drew.alloc (.cells arr e)).shape? w.heap.size = some (e, arr.size) := by
              show World.shape? (w.alloc (.cells arr e)) w.heap.size = _
              simp only [World.alloc, World.shape?, Array.getElem?_push_size]
            have hmk : (markStringish ⟨w.heap.size, 0, none⟩).run P (w.drew.alloc (.cells arr e)) = .ok () (w.drew.alloc (.cells arr e (arr.size, arr.size + 1))) := by
              rw [← hfr]
              simp only [markStringish, shape, freeze, Sem.run_bind, Sem.run, hsh, Result.andThen_ok]
            have hnr : (newRow e arr).run P w.drew = .ok ⟨w.heap.size, 0, none⟩ (w.drew.alloc (.cells arr e)) := rfl
            have hx' := hx.string_inv
            show (aval (convert src dst (ρ' x))).run P w = _
            rw [hx', hsz]
            simp only [aval, convert, Conv.stringToBytes, Sem.run_bind, run_under hsu, run_under hdu, run_under heu, Result.andThen_ok, hch]
            simp only [arr, cells] at hnr hmk ⊢
            simp only [hnr, Result.andThen_ok, hmk, Sem.run_pure]
            have hsz' := hsz
            simp only [arr, cells] at hsz'
            rw [hsz']
        · cases ho
      · cases ho
    · cases hr
  all_goals cases hr

/-! The head: one operation, and all of them in the text's order. -/
/-- What an operation reads of memory: nothing, some cells, or what it will. -/
inductive Rd where
  | none
  | cells (a : Addr) (n : Nat)
  | any
/-- An argument that holds an address of a block that is there, or that the head lays. -/
def newArg (n nid : Nat) (v : Value) : Bool :=
  match v with
  | .slice (some a) _ _ => decide (a.block < nid)
  | .pointer (some a) => decide (a.block < nid)
  | v => blw1 n v
def ment (x : Nat) (v : Value) : Bool :=
  match v with
  | .slice (some a) _ _ => Nat.beq a.block x
  | .pointer (some a) => Nat.beq a.block x
  | _ => false
/-- The head's new blocks that arguments hold the address of; others are given up. -/
def padL (args : List Value) : Nat → List AO → List AO
  | _, [] => []
  | x, o :: l => (if args.any (ment x) && o.cs.all flat && !isM o then o else dead) :: padL args (x + 1) l
theorem padL_length (args : List Value) : ∀ (x : Nat) (l : List AO), (padL args x l).length = l.length
  | _, [] => rfl
  | x, o :: l => by simp [padL, padL_length args (x + 1) l]
theorem padL_get {args : List Value} : ∀ {x : Nat} {l : List AO} {y : Nat} {o : AO}, (padL args x l)[y]? = some o → o.live = true → l[y]? = some o ∧ args.any (ment (x + y)) = true ∧ o.cs.all flat = true ∧ isM o = false
  | _, [], y, o, h, _ => by simp [padL] at h
  | x, q :: l, 0, o, h, hl => by
    simp only [padL, List.getElem?_cons_zero, Option.some.injEq] at h
    split at h
    · rename_i hc
      subst h
      simp only [Bool.and_eq_true, Bool.not_eq_true'] at hc
      exact ⟨rfl, hc.1.1, hc.1.2, hc.2⟩
    · subst h; cases hl
  | x, q :: l, y + 1, o, h, hl => by
    simp only [padL, List.getElem?_cons_succ] at h
    have := padL_get h hl
    rw [show x + 1 + y = x + (y + 1) by omega] at this
    simpa using this
theorem ment_some {s : Ren} {x : Nat} {v v' : Value} (h : VR s v v') (hm : ment x v = true) : ∃ p, s x = some p := by
  unfold ment at hm
  split at hm
  · obtain ⟨p, _, _, hp, _⟩ := h.slice_inv
    obtain rfl := Nat.eq_of_beq_eq_true hm
    exact ⟨p, hp⟩
  · obtain ⟨p, _, hp, _⟩ := h.ptr_inv
    obtain rfl := Nat.eq_of_beq_eq_true hm
    exact ⟨p, hp⟩
  · cases hm
theorem ments_some {s : Ren} {x : Nat} {vs vs' : List Value} (h : LR s vs vs') (hm : vs.any (ment x) = true) : ∃ p, s x = some p := by
  obtain ⟨v, hv, hx⟩ := List.any_eq_true.1 hm
  obtain ⟨i, hi, e⟩ := List.getElem_of_mem hv
  obtain ⟨v', _, hr⟩ := h.get (List.getElem?_eq_getElem hi)
  rw [e] at hr
  exact ment_some hr hx
theorem newArg_ok {s t : Ren} {n nid : Nat} (hn : n ≤ nid) (hst : ∀ i, i < nid → s i = t i) {v v' : Value} (h : VR s v v') (hb : newArg n nid v = true) : VR t v v' := by
  unfold newArg at hb
  split at hb
  · obtain ⟨p, c', hs, hp, hc, rfl⟩ := h.slice_inv
    exact .slice hs (by rw [← hst _ (by simpa using hb)]; exact hp) hc
  · obtain ⟨p, hs, hp, rfl⟩ := h.ptr_inv
    exact .ptr hs (by rw [← hst _ (by simpa using hb)]; exact hp)
  · exact h.blw (fun i hi => hst i (by omega)) hb
theorem newArgs_ok {s t : Ren} {n nid : Nat} (hn : n ≤ nid) (hst : ∀ i, i < nid → s i = t i) {vs vs' : List Value} (h : LR s vs vs') (hb : vs.all (newArg n nid) = true) : LR t vs vs' :=
  ⟨h.1, fun i x y hx hy => newArg_ok hn hst (h.2 i x y hx hy) (all_get hb hx)⟩
/-- What is told of old blocks and of some new ones together. -/
theorem HR.both {wb : Wb} {k : Nat} {s s0 : Ren} {h h0 pad : List AO} {w : World} (H : HR wb k s h w) (H1 : HR wb k s0 h0 w) (hbel : ∀ i, i < h0.length → s i = s0 i)
    (hlv : ∀ (x : Nat) (o : AO), h0[x]? = some o → o.live = true → ∃ o', h[x]? = some o' ∧ o'.live = true)
    (hpad : ∀ (y : Nat) (o : AO), pad[y]? = some o → o.live = true → h[h0.length + y]? = some o ∧ o.cs.all flat = true ∧ isM o = false) :
    HR wb k (fun i => if i < h0.length + pad.length then s i else none) (h0 ++ pad) w := by
  have some_s : ∀ i p, (if i < h0.length + pad.length then s i else none) = some p → s i = some p := fun i p hp => by
    split at hp
    · exact hp
    · cases hp
  have le0 : Le s0 (fun i => if i < h0.length + pad.length then s i else none) := fun i p hp => by
    have hi : i < h0.length := by
      by_cases e : i < h0.length
      · exact e
      · rw [H1.dom i (by omega)] at hp; cases hp
    show (if i < h0.length + pad.length then s i else none) = some p
    rw [if_pos (by omega), hbel i hi]
    exact hp
  have at' : ∀ (i : Nat) (o : AO), (h0 ++ pad)[i]? = some o → o.live = true → i < h0.length + pad.length ∧ ∃ o', h[i]? = some o' ∧ o'.live = true := by
    intro i o ho hl
    have hi := (List.getElem?_eq_some_iff.1 ho).1
    rw [List.length_append] at hi
    refine ⟨hi, ?_⟩
    by_cases e : i < h0.length
    · rw [List.getElem?_append_left e] at ho
      exact hlv i o ho hl
    · rw [List.getElem?_append_right (by omega)] at ho
      have := (hpad _ o ho hl).1
      rw [show h0.length + (i - h0.length) = i by omega] at this
      exact ⟨o, this, hl⟩
  refine ⟨H.grown, by rw [List.length_append]; have := H1.kle; omega, fun i hi => by rw [List.length_append] at hi; exact if_neg (by omega), fun i p hp => H.plc i p (some_s i p hp), fun i o ho hl => ?_, fun i j a b p q hi hj ha hb hp hq e => ?_, fun g p hp => H.gl g p (some_s g p hp)⟩
  · by_cases e : i < h0.length
    · rw [List.getElem?_append_left e] at ho
      obtain ⟨p, hp, he, hb⟩ := H1.obj i o ho hl
      exact ⟨p, le0 i p hp, he, hb.mono le0⟩
    · have hi := (at' i o ho hl).1
      rw [List.getElem?_append_right (by omega)] at ho
      obtain ⟨h1, h2, h3⟩ := hpad _ o ho hl
      rw [show h0.length + (i - h0.length) = i by omega] at h1
      obtain ⟨p, hp, he, hb⟩ := H.obj i o h1 hl
      refine ⟨p, by show (if i < h0.length + pad.length then s i else none) = some p; rw [if_pos hi]; exact hp, he, ObjAt.block h3 ?_⟩
      have B := hb.2 h3
      exact ⟨B.fit, B.all, B.shp, B.free, fun x v hv => by
        obtain ⟨v', h4, h5⟩ := B.rel x v hv
        have hf := all_get h2 hv
        exact ⟨v', h4, by rw [h5.eq_of_flat hf]; exact .same hf⟩⟩
  · obtain ⟨_, a', ha1, ha2⟩ := at' i a hi ha
    obtain ⟨_, b', hb1, hb2⟩ := at' j b hj hb
    exact H.sep i j a' b' p q ha1 hb1 ha2 hb2 (some_s i p hp) (some_s j q hq) e
/-- What an operation of the head does: its value, a block that it lays, numbers that must be the same, cells that it stores, what it reads. -/
structure HE where
  v : Value
  b : List AO
  d : Cs
  st : Option (Addr × List Value)
  rd : Rd
def liveB (h : List AO) (x : Nat) : Bool :=
  match h[x]? with
  | some o => o.live
  | none => false
def storeH (P : Program) (t : TypeId) (x y : Value) (h0 : List AO) : Option (Addr × List Value) :=
  match x, P.info? t with
  | .pointer (some a), some i =>
    if y.cells.toList.length == i.size && y.cells.toList.all (·.oneCell') then
      match h0[a.block]? with
      | some o => if o.live && isW o && decide (a.off + y.cells.toList.length ≤ o.cs.length) then some (a, y.cells.toList) else none
      | none => none
    else none
  | _, _ => none
def loadH (P : Program) (t : TypeId) (x : Value) : Option (Addr × Nat) :=
  match x, P.underlying t, P.info? t with
  | .pointer (some a), some d, some i => some (a, if aggD d then i.size else 1)
  | _, _, _ => none
/-- A slice put behind another one: it may lay a block. -/
def isApp : Op → Bool
  | .call c => (match c.callee with | .builtin .append => true | _ => false)
  | _ => false
/-- Bytes of which it is not known how many there are, made in a head. -/
def bMk (P : Program) (ρ : Operand → Value) (o : Oper) : Option (List Value × (Nat × Nat) × Cs) :=
  match o.op with
  | .makeSlice t len cap =>
    match P.underlying t, ρ len, ρ cap with
    | some (.slice e), .int _ l, .int _ c =>
      match P.info? e with
      | some i =>
        match i.zero with
        | some (.int .u8 n0) =>
          if Nat.beq i.bytes 1 && (Nat.beq i.size 1 && n0 == 0) then
            some (List.replicate c.toNat (.int .u8 0), (l.toNat, c.toNat), [(b2i (decide (0 ≤ l) && (decide (l ≤ c) && decide (c ≤ 1000000))), 1)])
          else none
        | _ => none
      | none => none
    | _, _, _ => none
  | _ => none
theorem bMk_ok {P : Program} {s : Ren} {ρ ρ' : Operand → Value} {o : Oper} (hρ : ∀ x ∈ o.op.operands, VR s (ρ x) (ρ' x)) {cs0 : List Value} {x : Nat × Nat} {cs : Cs} (hr : bMk P ρ o = some (cs0, x, cs)) (hc : ∀ c ∈ cs, c.1 = c.2) (w : World) :
    ∃ (arr : Array Value) (T : TypeId), (execOp ρ' o).run P w = .ok (.value (mkNew w.heap.size (some x))) (w.alloc (.cells arr T)) ∧ LR s cs0 arr.toList := by
  obtain ⟨dst, op, type, pos, after, guard⟩ := o
  unfold bMk at hr
  cases op <;> simp only at hr <;> try (cases hr; done)
  case makeSlice t len cap =>
    have hl := hρ len (by simp [Op.operands])
    have hcp := hρ cap (by simp [Op.operands])
    split at hr
    · rename_i e k1 l k2 c hu hle hca
      split at hr
      · rename_i i hi
        split at hr
        · rename_i n0 hz
          split at hr
          · rename_i hcond
            cases hr
            simp only [Bool.and_eq_true] at hcond
            obtain ⟨g1, g2, g3⟩ := hcond
            have g1 := Nat.eq_of_beq_eq_true g1
            have g2 := Nat.eq_of_beq_eq_true g2
            obtain rfl := eq_of_beq g3
            have h0 : (decide (0 ≤ l) && (decide (l ≤ c) && decide (c ≤ 1000000))) = true := b2i_inj (b := true) (hc _ (List.mem_singleton.2 rfl))
            simp only [Bool.and_eq_true, decide_eq_true_eq] at h0
            obtain ⟨a1, a2, a3⟩ := h0
            have wr : ∀ x : Int, 0 ≤ x → x ≤ 1000000 → IntKind.i64.wrap x = x := by
              intro x h1 h2
              have e : x % 2 ^ 64 = x := by omega
              simp only [IntKind.wrap, IntKind.signed, IntKind.bits, e]
              rw [if_neg]
              simp only [Bool.true_and, decide_eq_true_eq]
              omega
            have ho : oMake P t (ρ len) (ρ cap) = some (List.replicate c.toNat (.int .u8 0), l.toNat, c.toNat) := by
              unfold oMake
              rw [hu, hle, hca]
              simp only
              rw [hi]
              simp only
              rw [if_pos (by
                simp [wr l a1 (by omega), wr c (by omega) a3, a1, a2, g1]
                omega), g2, Nat.mul_one]
              split
              · rename_i hz0
                rw [hz0]; rfl
              · rw [hz]
                simp only
                have e1 : (repeatZ (Value.int .u8 0).cells c.toNat).toList = List.replicate c.toNat (.int .u8 0) := repeatZ_one _ _
                rw [e1, if_pos (List.all_eq_true.2 fun x hx => by rw [List.eq_of_mem_replicate hx]; rfl)]
            obtain ⟨arr, T, e1, e2⟩ := make_ok hl hcp ho w
            exact ⟨arr, T, by simp only [execOp, Sem.run_bind, e1, Result.andThen_ok, Sem.run_pure]; rfl, e2⟩
          · cases hr
        · cases hr
      · cases hr
    · cases hr
/-- A text of bytes that the head itself has laid. -/
def bTx (P : Program) (ρ : Operand → Value) (h0 nl : List AO) (o : Oper) : Option (Value × Cs) :=
  match o.op with
  | .convert _ _ x =>
    match ρ x with
    | .slice (some a) _ _ =>
      if Nat.ble h0.length a.block then
        match nl[a.block - h0.length]? with
        | some b =>
          if b.live && !isM b then
            match bOp P ρ (h0 ++ (List.replicate (a.block - h0.length) dead ++ [b])) o with
            | some (v, [], cs) => if flat v then some (v, (b2i (b.cs.all flat), 1) :: cs) else none
            | _ => none
          else none
        | none => none
      else none
    | _ => none
  | _ => none
theorem bTx_inv {P : Program} {ρ : Operand → Value} {h0 nl : List AO} {o : Oper} {v : Value} {cs : Cs} (h : bTx P ρ h0 nl o = some (v, cs)) :
    ∃ src dst x a l c b cs', o.op = .convert src dst x ∧ ρ x = .slice (some a) l c ∧ h0.length ≤ a.block ∧ nl[a.block - h0.length]? = some b ∧ b.live = true ∧ isM b = false ∧
      bOp P ρ (h0 ++ (List.replicate (a.block - h0.length) dead ++ [b])) o = some (v, [], cs') ∧ flat v = true ∧ cs = (b2i (b.cs.all flat), 1) :: cs' := by
  unfold bTx at h
  split at h
  · rename_i src dst x hop
    split at h
    · rename_i a l c hx
      split at h
      · rename_i hn
        split at h
        · rename_i b hb
          split at h
          · rename_i hlv
            split at h
            · rename_i v' cs' hq
              split at h
              · rename_i hf
                cases h
                simp only [Bool.and_eq_true, Bool.not_eq_true'] at hlv
                exact ⟨src, dst, x, a, l, c, b, cs', hop, hx, Nat.le_of_ble_eq_true hn, hb, hlv.1, hlv.2, hq, hf, rfl⟩
              · cases h
            · cases h
          · cases h
        · cases h
      · cases h
    · cases h
  · cases h
theorem refF_scal {ok : Nat → Bool} : ∀ (n : Nat) {v : Value}, scal v = true → refF ok n v = true
  | 0, _, h => h
  | n + 1, v, h => by
    unfold refF
    split <;> first | exact h | (simp [scal] at h; done) | (simp [scal] at h; obtain ⟨rfl, rfl⟩ := h; rfl)
theorem refO_scal {ok : Nat → Bool} {o : AO} (h : o.cs.all scal = true) : refO ok o = true := by
  unfold refO
  rw [Bool.or_eq_true]
  exact .inr (List.all_eq_true.2 fun v hv => refF_scal 6 (List.all_eq_true.1 h v hv))
/-- What an oracle tells of an operation that only reads. -/
def tellP (u : Option Value) : Option Value :=
  match u with
  | some (.tuple vs) =>
    match vs.toList with
    | [.nilFunc, v] => some v
    | _ => none
  | _ => none
/-- The mark of a call in a head whose arguments and whose answer are flat, but stand still: an oracle says `.tuple [.nilIface, .nilIface, .nilIface]`. -/
def flatM (u : Option Value) : Bool :=
  match u with
  | some (.tuple vs) =>
    match vs.toList with
    | [.nilIface, .nilIface, .nilIface] => true
    | _ => false
  | _ => false
def headStep0 (P : Program) (rec : Rec) (ops : Array Oper) (o : Oper) (t : List Value) (h0 : List AO) (nid : Nat) (nl : List AO) : Option HE :=
  if wantedA ops t o then
    if o.op.operands.toList.all (okX h0) then
      match tellP (o.dst.bind fun d => rec.orc d t) with
      | some v => some ⟨v, [], [(b2i (rec.acc.same (sOp P (rec.acc.look t) o h0) (some (.value v, h0, none))), 1)], none, .any⟩
      | none =>
      if flatM (o.dst.bind fun d => rec.orc d t) then
        match sOp P (rec.acc.look t) o [] with
        | some (.enter f args, _, _) =>
          match rec.hook f args.toList h0 with
          | some (v, [], cs) => some ⟨v, [], (b2i (args.toList.all flat && flat v), 1) :: cs, none, .any⟩
          | _ => none
        | _ => none
      else
      match toldV (o.dst.bind fun d => rec.orc d t) with
      | some u =>
        match tOp P rec.acc.same (rec.acc.look t) h0 o u with
        | some (v, cs) => some ⟨v, [], cs, none, .any⟩
        | none => none
      | none =>
      if quoB (o.dst.bind fun d => rec.orc d t) then
        match qsOp P (rec.acc.look t) o with
        | some (v, cs) => some ⟨v, [], cs, none, .none⟩
        | none =>
          match xsOp P (rec.acc.look t) h0 o with
          | some (v, cs) => some ⟨v, [], cs, none, .any⟩
          | none =>
            match bMk P (rec.acc.look t) o with
            | some (cs0, x, cs) => some ⟨mkNew nid (some x), [⟨true, none, cs0⟩], cs, none, .none⟩
            | none =>
              match bTx P (rec.acc.look t) h0 nl o with
              | some (v, cs) => some ⟨v, [], cs, none, .any⟩
              | none =>
                match sOp P (rec.acc.look t) o [] with
                | some (.enter f args, _, _) =>
                  if args.toList.all (blw1 h0.length) then
                    match callA P rec f args.toList (h0 ++ List.replicate (nid - h0.length) dead) with
                    | some (v, h', (m, cs)) =>
                      if quietB nid m && refF (fun x => liveB h0 x || (decide (nid ≤ x) && decide (x < nid + (h'.drop nid).length))) 6 v then
                        some ⟨v, h'.drop nid, cs ++ (h'.drop nid).map (fun o => (b2i (o.cs.all scal), 1)), none, .any⟩
                      else none
                    | _ => none
                  else none
                | _ => none
      else
      match nOp P (rec.acc.look t) o with
      | some (cs, x) => some ⟨mkNew nid x, [⟨true, none, cs⟩], [], none, .none⟩
      | none =>
        match fOp P (rec.acc.look t) o with
        | some (ao, l) => some ⟨.slice (some ⟨nid, 0, none⟩) l l, [ao], [], none, .none⟩
        | none =>
        match sOp P (rec.acc.look t) o [] with
        | some (.value v, _, _) => some ⟨v, [], [], none, .none⟩
        | some (.enter f args, _, _) =>
          if args.toList.all (blw1 h0.length) then
            match callA P rec f args.toList (h0 ++ List.replicate (nid - h0.length) dead) with
            | some (v, h', (m, cs)) =>
              if quietB nid m && refF (fun x => liveB h0 x || (decide (nid ≤ x) && decide (x < nid + (h'.drop nid).length))) 6 v &&
                  (h'.drop nid).all (refO fun x => liveB h0 x || (decide (nid ≤ x) && decide (x < nid + (h'.drop nid).length))) then
                some ⟨v, h'.drop nid, cs, none, .any⟩
              else none
            | _ => none
          else if args.toList.all (newArg h0.length nid) then
            match callA P rec f args.toList (h0 ++ padL args.toList h0.length nl) with
            | some (v, _, (m, cs)) => if flat v && quietB nid m then some ⟨v, [], cs, none, .any⟩ else none
            | _ => none
          else none
        | _ =>
          match o.op with
          | .store ty x y =>
            match storeH P ty (rec.acc.look t x) (rec.acc.look t y) h0 with
            | some st => some ⟨undef, [], [], some st, .none⟩
            | none => none
          | .load ty x =>
            match oLoad P ty (rec.acc.look t x) h0, loadH P ty (rec.acc.look t x) with
            | some (.value v, _, _), some (a, n) => some ⟨v, [], [], none, .cells a n⟩
            | _, _ => none
          | _ =>
            match sOp P (rec.acc.look t) o h0 with
            | some (.value v, _, _) => some ⟨v, [], [], none, .any⟩
            | _ =>
              match isApp o.op && o.op.operands.toList.all (fun x => blw1 h0.length (rec.acc.look t x)) with
              | true =>
                match aOp P (rec.acc.look t) o (h0 ++ List.replicate (nid - h0.length) dead) with
                | some (.value v, h', m) =>
                  if quietB nid m && refF (fun x => liveB h0 x || (decide (nid ≤ x) && decide (x < nid + (h'.drop nid).length))) 6 v &&
                      (h'.drop nid).all (refO fun x => liveB h0 x || (decide (nid ≤ x) && decide (x < nid + (h'.drop nid).length))) then
                    some ⟨v, h'.drop nid, [], none, .any⟩
                  else none
                | _ => none
              | false => none
    else none
  else some ⟨undef, [], [], none, .none⟩
/-- The mark of a call that is not tried in a head. -/
def markB (u : Option Value) : Bool :=
  match u with
  | some .nilFunc => true
  | _ => false
/-- The same, where a number or a test may be told. -/
def headStep (P : Program) (rec : Rec) (ops : Array Oper) (o : Oper) (t : List Value) (h0 : List AO) (nid : Nat) (nl : List AO) : Option HE :=
  if markB (o.dst.bind fun d => rec.orc d t) || (wAsk o fun d => rec.orc d t).isSome then none else
  match headStep0 P rec ops o t h0 nid nl with
  | some e =>
    match fixV (if wantedA ops t o then o.dst.bind fun d => rec.orc d t else none) e.v with
    | some (v', cs) => some ⟨v', e.b, e.d ++ cs, e.st, e.rd⟩
    | none => none
  | none => none
theorem headStep_inv {P : Program} {rec : Rec} {ops : Array Oper} {o : Oper} {t : List Value} {h0 : List AO} {nid : Nat} {nl : List AO} {e : HE} (h : headStep P rec ops o t h0 nid nl = some e) (hd : ∀ c ∈ e.d, c.1 = c.2) :
    ∃ e0 cs, headStep0 P rec ops o t h0 nid nl = some e0 ∧ ∀ e1, some e1 = some e0 → (⟨e1.v, e1.b, e1.d ++ cs, e1.st, e1.rd⟩ : HE) = e := by
  unfold headStep at h
  split at h
  · cases h
  split at h
  · rename_i e0 h0
    split at h
    · rename_i v' cs hf
      cases h
      refine ⟨e0, cs, h0, fun e1 h1 => ?_⟩
      cases h1
      rw [fixV_ok hf fun c hc => hd c (List.mem_append_right _ hc)]
    · cases h
  · cases h
def addNew (l bs : List AO) : List AO := l ++ bs
def headRun (P : Program) (rec : Rec) (ops : Array Oper) (h0 : List AO) : List Oper → Nat → List Value → List AO → Nat × List Value × List AO × List HE
  | [], n, t, l => (n, t, l, [])
  | o :: rest, n, t, l =>
    match headStep P rec ops o t h0 (h0.length + l.length) l with
    | some e =>
      match headRun P rec ops h0 rest (n + 1) (rec.acc.put t o.dst e.v) (addNew l e.b) with
      | (n', t', l', es) => (n', t', l', e :: es)
    | none => (n, t, l, [])
/-- What the head's run tells of its operations: the temporaries ahead of each, what it does, the blocks laid ahead of it. -/
structure HeadSpec (P : Program) (rec : Rec) (ops : Array Oper) (h0 : List AO) (l : List Oper) (n0 n : Nat) (t : List Value) (l0 : List AO) (t' : List Value) (l' : List AO) (es : List HE)
    (T : Nat → List Value) (E : Nat → HE) (N : Nat → List AO) : Prop where
  le : n0 ≤ n
  t0 : T n0 = t
  tn : T n = t'
  l0 : N n0 = l0
  ln : N n = l'
  len : es.length = n - n0
  eff : ∀ i, n0 ≤ i → i < n → es[i - n0]? = some (E i)
  step : ∀ i, n0 ≤ i → i < n → ∃ o, l[i - n0]? = some o ∧ headStep P rec ops o (T i) h0 (h0.length + (N i).length) (N i) = some (E i) ∧ T (i + 1) = putA (T i) o.dst (E i).v ∧ N (i + 1) = addNew (N i) (E i).b
theorem headRun_spec {P : Program} {rec : Rec} (hacc : rec.acc = accP) {ops : Array Oper} {h0 : List AO} : ∀ (l : List Oper) (n0 : Nat) (t : List Value) (l0 : List AO) (n : Nat) (t' : List Value) (l' : List AO) (es : List HE), headRun P rec ops h0 l n0 t l0 = (n, t', l', es) →
    ∃ T E N, HeadSpec P rec ops h0 l n0 n t l0 t' l' es T E N
  | [], n0, t, l0, n, t', l', es, hr => by
    simp only [headRun, Prod.mk.injEq] at hr
    obtain ⟨rfl, rfl, rfl, rfl⟩ := hr
    exact ⟨fun _ => t, fun _ => ⟨undef, [], [], none, .none⟩, fun _ => l0, ⟨Nat.le_refl _, rfl, rfl, rfl, rfl, by simp, fun i h1 h2 => absurd h1 (by omega), fun i h1 h2 => absurd h1 (by omega)⟩⟩
  | o :: rest, n0, t, l0, n, t', l', es, hr => by
    simp only [headRun] at hr
    split at hr
    · rename_i e hs
      rw [hacc] at hr
      simp only [accP] at hr
      cases hrec : headRun P rec ops h0 rest (n0 + 1) (putA t o.dst e.v) (addNew l0 e.b) with
      | mk n1 r1 =>
        obtain ⟨t1, l1, es1⟩ := r1
        rw [hrec] at hr
        simp only [Prod.mk.injEq] at hr
        obtain ⟨rfl, rfl, rfl, rfl⟩ := hr
        obtain ⟨T, E, N, S⟩ := headRun_spec hacc rest (n0 + 1) _ _ n1 t1 l1 es1 hrec
        have hne : ∀ i, n0 + 1 ≤ i → i ≠ n0 := fun i h => by omega
        have hle := S.le
        refine ⟨fun i => if i = n0 then t else T i, fun i => if i = n0 then e else E i, fun i => if i = n0 then l0 else N i, ⟨by omega, by simp, ?_, by simp, ?_, by have := S.len; simp; omega, fun i h1 h2 => ?_, fun i h1 h2 => ?_⟩⟩
        · simp only [if_neg (hne n1 S.le)]; exact S.tn
        · simp only [if_neg (hne n1 S.le)]; exact S.ln
        · by_cases q : i = n0
          · subst q; simp
          · rw [show i - n0 = (i - (n0 + 1)) + 1 by omega]
            simp only [List.getElem?_cons_succ, if_neg q]
            exact S.eff i (by omega) h2
        · by_cases q : i = n0
          · subst q
            refine ⟨o, by simp, by simp only [if_true]; exact hs, ?_, ?_⟩
            · simp only [if_true, if_neg (hne (i + 1) (by omega))]; exact S.t0
            · simp only [if_true, if_neg (hne (i + 1) (by omega))]; exact S.l0
          · obtain ⟨o', g1, g2, g3, g4⟩ := S.step i (by omega) h2
            refine ⟨o', ?_, ?_, ?_, ?_⟩
            · rw [show i - n0 = (i - (n0 + 1)) + 1 by omega]; simpa using g1
            · simp only [if_neg q]; exact g2
            · simp only [if_neg q, if_neg (hne (i + 1) (by omega))]; exact g3
            · simp only [if_neg q, if_neg (hne (i + 1) (by omega))]; exact g4
    · simp only [Prod.mk.injEq] at hr
      obtain ⟨rfl, rfl, rfl, rfl⟩ := hr
      exact ⟨fun _ => t, fun _ => ⟨undef, [], [], none, .none⟩, fun _ => l0, ⟨Nat.le_refl _, rfl, rfl, rfl, rfl, by simp, fun i h1 h2 => absurd h1 (by omega), fun i h1 h2 => absurd h1 (by omega)⟩⟩
end Go.Proofs.Ytafegjmaldbbiaa.Ex
