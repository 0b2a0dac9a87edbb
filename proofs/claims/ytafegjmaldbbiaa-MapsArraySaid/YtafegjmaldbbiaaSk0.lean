/-
  Loops whose rounds leave flat values that stand still (lists that are not known): what is told of them; contracts whose arguments are such.
-/
import Derived.Test.YtafegjmaldbbiaaEx27
import Derived.Test.YtafegjmaldbbiaaSlHook
import Derived.Test.YtafegjmaldbbiaaNoNG
import Derived.Test.YtafegjmaldbbiaaExI
namespace Go.Proofs.Ytafegjmaldbbiaa.Ex
open Go Go.RowKit
set_option linter.unusedVariables false
set_option linter.unusedSectionVars false
noncomputable def wu (x : Int) : Int := IntKind.u64.wrap x
noncomputable def wi (x : Int) : Int := IntKind.i64.wrap x
theorem wr64' (x : Int) : wu x = x % 18446744073709551616 := by simp [wu, IntKind.wrap, IntKind.signed, IntKind.bits]
theorem wu_id {x : Int} (h1 : 0 ≤ x) (h2 : x < 18446744073709551616) : wu x = x := by rw [wr64']; omega
theorem wi_id {x : Int} (h1 : -9223372036854775808 ≤ x) (h2 : x < 9223372036854775808) : wi x = x := by
  unfold wi IntKind.wrap
  have e : (2 : Int) ^ IntKind.i64.bits = 18446744073709551616 := rfl
  have e2 : (2 : Int) ^ (IntKind.i64.bits - 1) = 9223372036854775808 := rfl
  simp only [e, e2]
  split
  · rename_i h
    simp at h
    omega
  · rename_i h
    simp [IntKind.signed] at h
    omega
theorem b1 {p : Prop} [Decidable p] (h : p) : b2i (decide p) = 1 := by rw [decide_eq_true h]; rfl
theorem b0 {p : Prop} [Decidable p] (h : ¬p) : b2i (decide p) = 0 := by rw [decide_eq_false h]; rfl
theorem bt {x : Bool} (h : x = true) : b2i x = 1 := by rw [h]; rfl
theorem bf {x : Bool} (h : x = false) : b2i x = 0 := by rw [h]; rfl
def AE (cs : Cs) : Prop := ∀ c ∈ cs, c.1 = c.2
theorem AE.nil : AE [] := fun _ h => by cases h
theorem AE.cons {a b : Int} {l : Cs} (h : a = b) (hl : AE l) : AE ((a, b) :: l) := fun c hc => by
  rcases List.mem_cons.1 hc with rfl | hc
  · exact h
  · exact hl c hc
theorem AE.consP {c : Int × Int} {l : Cs} (h : c.1 = c.2) (hl : AE l) : AE (c :: l) := fun d hd => by
  rcases List.mem_cons.1 hd with rfl | hd
  · exact h
  · exact hl d hd
theorem AE.app {l m : Cs} (h : AE l) (hm : AE m) : AE (l ++ m) := fun c hc => by
  rcases List.mem_append.1 hc with hc | hc
  · exact h c hc
  · exact hm c hc
def eqs : List Int → Bool
  | a :: b :: l => a == b && eqs l
  | _ => true
theorem eqs_ok : ∀ {cs : Cs}, eqs (inter cs) = true → AE cs
  | [], _ => AE.nil
  | (a, b) :: l, h => by
    simp only [inter, eqs, Bool.and_eq_true, beq_iff_eq] at h
    exact AE.cons h.1 (eqs_ok h.2)
/-- A run without its pairs written down. -/
theorem closedP {P : Program} {hk : Hook3} {orc : Orc} {lh : LoopHook} {L f : Nat} {h0 : List AO} {g : FuncId} {args : List Value} {v : Value} (h : (reckonPI P hk orc lh L f h0 g args).map (fun r => (r.1, eqs r.2)) = some (v, true)) : ∃ cs, AE cs ∧ reckonPI P hk orc lh L f h0 g args = some (v, inter cs) := by
  unfold reckonPI at h ⊢
  split at h
  · rename_i v' h' m hr
    split at h
    · rename_i hq
      simp only [Option.map_some, Option.some.injEq, Prod.mk.injEq] at h
      refine ⟨m.2, eqs_ok h.2, ?_⟩
      rw [if_pos hq, h.1]
    · cases h
  · cases h
/-- That a told value is what is there. -/
theorem same_ok {a b : Option Out} (h : a = b) : (b2i (sameC a b), (1 : Int)).1 = (b2i (sameC a b), (1 : Int)).2 := bt (sameC_of h)

/-- A contract whose arguments and whose answer stand still: that they are flat goes into the pairs. -/
def liftP (hk : FuncId → List Value → List AO → Option (Value × Cs)) : Hook3 := fun f args h =>
  match hk f args h with
  | some (v, cs) => some (v, [], (b2i (args.all flat && flat v), 1) :: cs)
  | none => none
theorem liftP_ok {P : Program} {hk : FuncId → List Value → List AO → Option (Value × Cs)} (hh : HookOk P hk) : HookOk3 P (liftP hk) := by
  intro f args h v new cs hv hc wb k s w args' hb H ha
  unfold liftP at hv
  split at hv
  · rename_i u cs0 hu
    cases hv
    have hf := b2i_inj (b := true) (hc _ (List.mem_cons_self ..))
    simp only [Bool.and_eq_true] at hf
    obtain rfl := ha.eq_of_flat hf.1
    refine (hh f args' h _ _ hu (fun c hc' => hc c (List.mem_cons_of_mem _ hc')) wb k s w H).mono ?_
    rintro e w' ⟨rfl, hg⟩
    exact ⟨s, _, rfl, Le.refl s, H.grow hg, .same hf.2⟩
  · cases hv
/-- The same, of any arguments. -/
def liftQ (hk : FuncId → List Value → List AO → Option (Value × Cs)) : Hook3 := fun f args h =>
  match hk f args h with
  | some (v, cs) => some (v, [], (b2i (flat v), 1) :: cs)
  | none => none
theorem liftQ_ok {P : Program} {hk : FuncId → List Value → List AO → Option (Value × Cs)} (hh : HookOk2 P hk) : HookOk3 P (liftQ hk) := by
  intro f args h v new cs hv hc wb k s w args' hb H ha
  unfold liftQ at hv
  split at hv
  · rename_i u cs0 hu
    cases hv
    have hf := b2i_inj (b := true) (hc _ (List.mem_cons_self ..))
    refine (hh f args h _ _ hu (fun c hc' => hc c (List.mem_cons_of_mem _ hc')) wb k s w args' H ha).mono ?_
    rintro e w' ⟨rfl, hg⟩
    exact ⟨s, _, rfl, Le.refl s, H.grow hg, .same hf⟩
  · cases hv
def or3 (a b : Hook3) : Hook3 := fun f args h =>
  match a f args h with
  | some r => some r
  | none => b f args h
theorem or3_ok {P : Program} {a b : Hook3} (ha : HookOk3 P a) (hb : HookOk3 P b) : HookOk3 P (or3 a b) := by
  intro f args h v new cs hv
  unfold or3 at hv
  split at hv
  · rename_i r hr
    cases hv
    exact ha f args h v new cs hr
  · exact hb f args h v new cs hv

/-- A contract, guarded, of one function: its number is asked first. -/
def liftG (g : FuncId) (hk : Hook) : Hook3 := fun f args h => if Nat.beq f g then liftH (guardH hk) f args h else none
theorem liftG_ok {P : Program} {g : FuncId} {hk : Hook} (hh : HookOk P hk) : HookOk3 P (liftG g hk) := by
  intro f args h v new cs hv
  unfold liftG at hv
  split at hv
  · exact lift_ok (guard_ok hh) f args h v new cs hv
  · cases hv
/-! Heaps whose blocks hold flat values alone. -/
def flatH (h : List AO) : Bool := h.all fun o => o.cs.all flat
theorem reO_flat {f : Nat → Nat} {o : AO} (h : o.cs.all flat = true) : reO f o = o := by
  obtain ⟨l, e, c⟩ := o
  show AO.mk l e (c.map (reV f 6)) = _
  rw [map_id_mem fun v hv => reV_flat 6 (List.all_eq_true.1 h v hv)]
theorem reH_flat {f : Nat → Nat} : ∀ {h : List AO}, flatH h = true → h.map (reO f) = h
  | [], _ => rfl
  | o :: l, h => by
    simp only [flatH, List.all_cons, Bool.and_eq_true] at h
    rw [List.map_cons, reO_flat h.1, reH_flat (by unfold flatH; exact h.2)]
theorem refH_flat {ok : Nat → Bool} {h : List AO} (hf : flatH h = true) : h.all (refO ok) = true := by
  refine List.all_eq_true.2 fun o ho => ?_
  have h1 := List.all_eq_true.1 hf o ho
  unfold refO
  rw [Bool.or_eq_true]
  exact .inr (List.all_eq_true.2 fun v hv => refF_flat 4 (List.all_eq_true.1 h1 v hv))
/-- Of each temporary: 0: it is told; 1: it is not, and leads to the first blocks alone; 2: it is not, and is flat (told beside). -/
def deadZ (z : Nat) : Bool := !(Nat.beq z 0)
def maskZ (q : Nat) : List Nat → List Value → List Value
  | d :: ds, v :: vs => (bif Nat.beq d 0 then v else bif Nat.beq d 1 then .bool (okR q v) else .bool true) :: maskZ q ds vs
  | _, vs => vs
def pickZ : List Nat → List Value → List Value
  | d :: ds, v :: vs => bif Nat.ble 2 d then v :: pickZ ds vs else pickZ ds vs
  | _, _ => []
theorem maskZ_R {q : Nat} : ∀ {zs : List Nat} {xs : List Value}, (pickZ zs xs).all flat = true → maskR q (zs.map deadZ) xs = maskZ q zs xs
  | [], xs, _ => by cases xs <;> rfl
  | d :: ds, [], _ => rfl
  | d :: ds, v :: vs, h => by
    match d with
    | 0 =>
      have := maskZ_R (q := q) (zs := ds) (xs := vs) h
      simp only [List.map_cons, maskR, maskZ, this]
      rfl
    | 1 =>
      have := maskZ_R (q := q) (zs := ds) (xs := vs) h
      simp only [List.map_cons, maskR, maskZ, this]
      rfl
    | n + 2 =>
      have h' : (v :: pickZ ds vs).all flat = true := h
      simp only [List.all_cons, Bool.and_eq_true] at h'
      have := maskZ_R (q := q) (zs := ds) (xs := vs) h'.2
      simp only [List.map_cons, maskR, maskZ, this]
      have e : okR q v = true := refF_flat 4 h'.1
      show (Value.bool (okR q v)) :: _ = (Value.bool true) :: _
      rw [e]
section
variable {P : Program}
theorem hopC_flat {t : List Value} {h2 : List AO} (ht : t.all (refF (fun x => decide (x < h2.length)) 6) = true) (hfl : flatH h2 = true) : hopC t h2 = true := by
  unfold hopC
  rw [ht, refH_flat hfl]
  rfl
theorem hopF_ok (hng : NoNG P) {hk : Hook3} (hhk : HookOk3 P hk) {lh : LoopHook} (hll : LoopLow lh) (hlo : LoopsOk P lh) {orc : Orc} {fid : FuncId} {nn : Nat} (h1 : oneLoopN P fid nn = true) {n q q0 : Nat} (keep : List Nat) {t vs : List Value} {h h2 : List AO} {lo : Option Nat} {cs : Cs}
    {zs : List Nat} {T : (Nat → Value) → List Value} (hun : ∀ β, unmask β 0 (zs.map deadZ) (T fun _ => .bool true) = T β) (chg : Nat → Bool) {β : Nat → Value} (hβ : FlR q0 β)
    (hr : (hopRunL P hk orc lh fid (theLoopN P fid nn) n q keep t h).map (fun r => (maskZ q0 zs r.1, pickZ zs r.1, r.2)) = some ((T fun k => bif chg k then .bool true else .bool (okR q0 (β k))).map (reV (keepF q keep) 6), vs, h2, lo, inter cs))
    (hvs : vs.all flat = true) (hfl : flatH h2 = true) (hq : q0 ≤ q) (hl : q0 ≤ h2.length) (hd : deadAt (zs.map deadZ) (T fun _ => .bool true) = true)
    (ht : (T fun _ => .bool true).all (refF (fun x => decide (x < h2.length)) 6) = true) (hc : ∀ c ∈ cs, c.1 = c.2) : ∃ β', FlR q0 β' ∧ HopQ P (theLoopN P fid nn) n q t h (T β') h2 (lo, []) := by
  refine hopR2_ok hng hhk hll hlo (orc := orc) h1 keep hun chg hβ (hh := h2) ?_ (reH_flat hfl) hq hl hd (hopC_flat ht hfl) hc
  cases hx : hopRunL P hk orc lh fid (theLoopN P fid nn) n q keep t h with
  | none => rw [hx] at hr; cases hr
  | some r =>
    rw [hx] at hr
    simp only [Option.map_some, Option.some.injEq, Prod.mk.injEq] at hr
    obtain ⟨g1, g2, g3⟩ := hr
    simp only [Option.map_some]
    rw [maskZ_R (by rw [g2]; exact hvs), g1, g3]
theorem stopF_ok (hng : NoNG P) {hk : Hook3} (hhk : HookOk3 P hk) {lh : LoopHook} (hll : LoopLow lh) (hlo : LoopsOk P lh) {orc : Orc} {fid : FuncId} {nn : Nat} (h1 : oneLoopN P fid nn = true) {n q q0 : Nat} (keep : List Nat) {t vs : List Value} {h h2 : List AO} {e : Exit} {lo : Option Nat} {cs : Cs}
    {zs : List Nat} {T : (Nat → Value) → List Value} (hun : ∀ β, unmask β 0 (zs.map deadZ) (T fun _ => .bool true) = T β) (chg : Nat → Bool) {β : Nat → Value} (hβ : FlR q0 β)
    (hr : (stopRunL P hk orc lh fid (theLoopN P fid nn) n q keep t h).map (fun r => (r.1, r.2.map fun r => (maskZ q0 zs r.1, pickZ zs r.1, r.2))) = some (e, some ((T fun k => bif chg k then .bool true else .bool (okR q0 (β k))).map (reV (keepF q keep) 6), vs, h2, lo, inter cs)))
    (hvs : vs.all flat = true) (hfl : flatH h2 = true) (hq : q0 ≤ q) (hl : q0 ≤ h2.length) (hd : deadAt (zs.map deadZ) (T fun _ => .bool true) = true)
    (ht : (T fun _ => .bool true).all (refF (fun x => decide (x < h2.length)) 6) = true) (hc : ∀ c ∈ cs, c.1 = c.2) : ∃ β', FlR q0 β' ∧ StopQ P (theLoopN P fid nn) n q t h e (T β') h2 (lo, []) := by
  refine stopR2_ok hng hhk hll hlo (orc := orc) h1 keep hun chg hβ (hh := h2) ?_ (reH_flat hfl) hq hl hd (hopC_flat ht hfl) hc
  cases hx : stopRunL P hk orc lh fid (theLoopN P fid nn) n q keep t h with
  | none => rw [hx] at hr; cases hr
  | some r =>
    obtain ⟨e1, o⟩ := r
    rw [hx] at hr
    cases o with
    | none => simp at hr
    | some r =>
      simp only [Option.map_some, Option.some.injEq, Prod.mk.injEq] at hr
      obtain ⟨g0, g1, g2, g3⟩ := hr
      simp only [Option.map_some]
      rw [maskZ_R (by rw [g2]; exact hvs), g0, g1, g3]
/-- A block that nothing is told of at the end of what is told ahead of the rounds. -/
theorem HopQ.pad {c : Code} {n q : Nat} {t t1 : List Value} {h h1 : List AO} {m : Mk} (r : Nat) (a : HopQ P c n q t (h ++ List.replicate r dead) t1 h1 m) : HopQ P c n q t h t1 h1 m :=
  fun wb k hm hkq s m0 act w H N Q hQ => a wb k hm hkq s m0 act w ⟨H.t, H.d, H.h.pad r⟩ N Q hQ
theorem StopQ.pad {c : Code} {n q : Nat} {t t1 : List Value} {h h1 : List AO} {e : Exit} {m : Mk} (r : Nat) (a : StopQ P c n q t (h ++ List.replicate r dead) e t1 h1 m) : StopQ P c n q t h e t1 h1 m :=
  fun wb k hm hkq s m0 act w H m' => a wb k hm hkq s m0 act w ⟨H.t, H.d, H.h.pad r⟩ m'
end
theorem HR.withPl {h0 : List AO} {w : World} (hL : Laid h0 w) {pl : Pl} (hb : pl.blk < w.heap.size) (hgl : pl.es = some GM → False) : HR w (h0.length + 1) (upd (placeG h0 w) h0.length pl) (h0 ++ [dead]) w := by
  have H := HR.start hL
  have hne : ∀ i, i < h0.length → upd (placeG h0 w) h0.length pl i = placeG h0 w i := fun i hi => upd_other _ _ (by omega)
  have hle := Le.upd (s := placeG h0 w) (i := h0.length) pl (H.dom _ (Nat.le_refl _))
  have old : ∀ (i : Nat) (x : AO), (h0 ++ [dead])[i]? = some x → x.live = true → i < h0.length ∧ h0[i]? = some x := by
    intro i x hi hx
    by_cases ei : i < h0.length
    · rw [List.getElem?_append_left ei] at hi
      exact ⟨ei, hi⟩
    · have := (List.getElem?_eq_some_iff.1 hi).1
      simp at this
      obtain rfl : i = h0.length := by omega
      rw [List.getElem?_append_right (by omega)] at hi
      simp at hi
      subst hi
      cases hx
  refine ⟨GrB.refl w _, by simp, fun i hi => ?_, fun i p hp => ?_, fun i o ho hl => ?_, fun i j x y p q hi hj hx hy hp hq e => ?_, fun g p hp hg => ?_⟩
  · rw [upd_other _ _ (by simp at hi; omega)]
    exact H.dom i (by simp at hi; omega)
  · by_cases ei : i = h0.length
    · subst ei
      rw [upd_same] at hp
      cases hp
      exact ⟨fun _ => ⟨hb, fun f => f⟩, fun h => absurd h (by omega), hb⟩
    · rw [upd_other _ _ ei] at hp
      obtain ⟨c1, c2, c3⟩ := H.plc i p hp
      exact ⟨fun _ => ⟨c3, fun f => f⟩, fun h => absurd (H.dom i (by omega)) (by rw [hp]; exact fun h => by cases h), c3⟩
  · obtain ⟨hil, ho⟩ := old i o ho hl
    obtain ⟨p, hp, he, hob⟩ := H.obj i o ho hl
    exact ⟨p, by rw [hne i hil]; exact hp, he, hob.mono hle⟩
  · obtain ⟨a1, a2⟩ := old i x hi hx
    obtain ⟨b1, b2⟩ := old j y hj hy
    rw [hne i a1] at hp
    rw [hne j b1] at hq
    exact H.sep i j x y p q a2 b2 hx hy hp hq e
  · by_cases ei : g = h0.length
    · subst ei
      rw [upd_same] at hp
      cases hp
      exact (hgl hg).elim
    · rw [upd_other _ _ ei] at hp
      exact H.gl g p hp hg

end Go.Proofs.Ytafegjmaldbbiaa.Ex
