/-
  Package slots: Plain, by a contract.
-/
import Derived.Test.YtebolmfdglmpoaaSk5
namespace Go.Proofs.Ytebolmfdglmpoaa.Ex
open Go Go.RowKit
set_option maxHeartbeats 0
set_option maxRecDepth 1000000
set_option linter.unusedVariables false
set_option linter.unusedSectionVars false
abbrev plF : FuncId := 20
noncomputable abbrev plLp : Code := theLoopN Try.prog plF 0
theorem pl_one : oneLoopN Try.prog plF 0 = true := by kernel_rfl
noncomputable def plT (n : Int) (a k : Nat) (p r u : Value) (β : Nat → Value) : List Value := [β 0, β 1, .int .i64 n, .pointer (some ⟨0, 0, none⟩), β 4, β 5, β 6, .int .i64 (a : Int), β 8, .int .i64 (k : Int), p, β 11, β 12, β 13, β 14, β 15, β 16, β 17, β 18, β 19, β 20, β 21, β 22, β 23, β 24, β 25, β 26, β 27, β 28, β 29, β 30, β 31, r, β 33, β 34, β 35, β 36, β 37, β 38, β 39, u, β 41, β 42]
def plZ : List Nat := [1, 1, 0, 0, 1, 1, 1, 0, 1, 0, 0, 1, 1, 1, 1, 1, 1, 1, 1, 1, 1, 1, 1, 1, 1, 1, 1, 1, 1, 1, 1, 1, 0, 1, 1, 1, 1, 1, 1, 1, 0, 1, 1]
noncomputable def plR (e : Int) (β : Nat → Value) : List Value := [β 0, β 1, β 2, β 3, β 4, β 5, .int .i64 e, β 7, β 8, β 9, β 10, β 11, β 12, β 13, β 14, β 15, β 16, β 17, β 18, β 19, β 20, β 21, β 22, β 23, β 24, β 25, β 26, β 27, β 28, β 29, β 30, β 31, β 32, β 33, β 34, β 35, β 36, β 37, β 38, β 39, β 40, β 41, β 42]
def plRz : List Nat := [1, 1, 1, 1, 1, 1, 0, 1, 1, 1, 1, 1, 1, 1, 1, 1, 1, 1, 1, 1, 1, 1, 1, 1, 1, 1, 1, 1, 1, 1, 1, 1, 1, 1, 1, 1, 1, 1, 1, 1, 1, 1, 1]
noncomputable def plE0 (L : List Value) (off n : Int) (a : Nat) : List Value := [.agg ⟨L⟩, .int .i64 off, .int .i64 n, .pointer (some ⟨0, 0, none⟩), .tuple ⟨[]⟩, .tuple ⟨[]⟩, .int .i64 0, .int .i64 (a : Int), .bool true, .int .i64 (a : Int), .tuple ⟨[]⟩, .tuple ⟨[.int .i64 (fsA off n), .bool (fsK off n)]⟩, .int .i64 off, .int .i64 n, .tuple ⟨[.int .i64 (fsA off n), .bool (fsK off n)]⟩, .int .i64 (a : Int), .bool true, .bool true, .bool false, .int .i64 (a : Int), .tuple ⟨[]⟩, .tuple ⟨[]⟩, .tuple ⟨[]⟩, .tuple ⟨[]⟩, .tuple ⟨[]⟩, .tuple ⟨[]⟩, .tuple ⟨[]⟩, .tuple ⟨[]⟩, .tuple ⟨[]⟩, .tuple ⟨[]⟩, .tuple ⟨[]⟩, .tuple ⟨[]⟩, .tuple ⟨[]⟩, .tuple ⟨[]⟩, .tuple ⟨[]⟩, .tuple ⟨[]⟩, .tuple ⟨[]⟩, .tuple ⟨[]⟩, .tuple ⟨[]⟩, .tuple ⟨[]⟩, .tuple ⟨[]⟩, .tuple ⟨[]⟩, .tuple ⟨[]⟩]
/-- Is a byte's bit off? -/
noncomputable def bitZ (b k : Int) : Bool := IntKind.u8.wrap ((BitVec.ofInt IntKind.u8.bits (b.fdiv (2 ^ min (k.tmod 8).toNat IntKind.u8.bits)) &&& BitVec.ofInt IntKind.u8.bits 1).toNat : Int) == 0
noncomputable def plO (L : List Value) (k j : Nat) (g z q : Bool) : Orc := fun f t _ =>
  if Nat.beq f plF then
    match t with
    | 24 => some (.bool g)
    | 26 => some (.int .i64 ((k + 1 : Nat) : Int))
    | 28 => some (.int .i64 (j : Int))
    | 29 => some .nilIface
    | 30 => some (tld (.agg ⟨pL L (0 + j * 12)⟩))
    | 38 => some (.bool z)
    | 39 => some (.bool q)
    | _ => none
  else none
def pl3 : Hook3 := or3 (liftG 40 hk_first) (liftG 34 hk_pts)
theorem pl3_ok : HookOk3 Try.prog pl3 := or3_ok (liftG_ok hk_first_ok) (liftG_ok hk_pts_ok)
noncomputable def plH (L : List Value) (G : AO) : List AO := [⟨true, none, L⟩, G]
noncomputable abbrev p1 : Value := .pointer (some ⟨1, 0, none⟩)
noncomputable def plA (L : List Value) (n : Int) (a k j : Nat) (z : Bool) : Cs := [(b2i (decide ((k : Int) < wi (a + n))), 1), (wi ((k : Int).tdiv 8), (j : Int)), (b2i (decide (0 ≤ (j : Int)) && decide ((j : Int) < (64 : Nat))), 1)] ++ (ldP L (0 + j * 12) 12 (pL L (0 + j * 12)) ++ [(b2i (bitZ (pc L (0 + j * 12)) k), b2i z)])
noncomputable def plB (L : List Value) (j : Nat) (q : Bool) : Cs := [(b2i (ptK (vAt L (0 + j * 12 + 1)).k), b2i q)]
noncomputable def plI (k : Nat) : Cs := [(wi (k + 1), ((k + 1 : Nat) : Int))]
def plC (k : Nat) : Bool := Nat.ble 20 k
def plCe (k : Nat) : Bool := Nat.ble 20 k && Nat.ble k 24
def plCz (k : Nat) : Bool := plC k && !(Nat.beq k 25 || Nat.beq k 26)
noncomputable abbrev p11 : Value := .pointer (some ⟨1, 1, none⟩)
theorem pl_hop (L : List Value) (G : AO) (n : Int) (a k j : Nat) (p r u : Value) (β : Nat → Value) : (hopRunL Try.prog pl3 (plO L k j true false false) noLoop plF plLp 1 1 [2] (plT n a k p r u β) (plH L G)).map (fun r => (maskZ 1 plZ r.1, pickZ plZ r.1, r.2)) = some ((plT n a (k + 1) p1 p1 p11 fun k => bif plC k then .bool true else .bool (okR 1 (β k))).map (reV (keepF 1 [2]) 6), [], plH L ⟨true, none, pL L (0 + j * 12)⟩, some 2, inter (plA L n a k j false ++ (plB L j false ++ plI k))) := by kernel_rfl
def plTs : List Bool := plZ.map deadZ
def plNs : List Bool := List.replicate 43 true
noncomputable def plN (β : Nat → Value) : List Value := [β 0, β 1, β 2, β 3, β 4, β 5, β 6, β 7, β 8, β 9, β 10, β 11, β 12, β 13, β 14, β 15, β 16, β 17, β 18, β 19, β 20, β 21, β 22, β 23, β 24, β 25, β 26, β 27, β 28, β 29, β 30, β 31, β 32, β 33, β 34, β 35, β 36, β 37, β 38, β 39, β 40, β 41, β 42]
def plRs : List Bool := (List.replicate 43 true).set 6 false
theorem pl_end (L : List Value) (G : AO) (n : Int) (a k : Nat) (p r u : Value) (β : Nat → Value) : (loopN (bodyL Try.prog pl3 (plO L k 0 false false false) noLoop plF plLp) 1 ⟨plT n a k p r u β, plH L G, (none, [])⟩).map (fun r => (r.1, maskQ plNs r.2.t, r.2.h, r.2.m.1, inter r.2.m.2)) = some (.exit 0, plN fun _ => .bool true, plH L G, none, inter [(b2i (decide ((k : Int) < wi (a + n))), 0)]) := by kernel_rfl
theorem pl_Z (L : List Value) (G : AO) (n : Int) (a k j : Nat) (p r u : Value) (β : Nat → Value) : (loopN (bodyL Try.prog pl3 (plO L k j true true false) noLoop plF plLp) 1 ⟨plT n a k p r u β, plH L G, (none, [])⟩).map (fun r => (r.1, maskQ plRs r.2.t, r.2.h, r.2.m.1, inter r.2.m.2)) = some (.ret, plR 101 fun _ => .bool true, plH L G ++ [⟨true, none, pL L (0 + j * 12)⟩], some 2, inter (plA L n a k j true)) := by kernel_rfl
theorem pl_Q (L : List Value) (G : AO) (n : Int) (a k j : Nat) (p r u : Value) (β : Nat → Value) : (loopN (bodyL Try.prog pl3 (plO L k j true false true) noLoop plF plLp) 1 ⟨plT n a k p r u β, plH L G, (none, [])⟩).map (fun r => (r.1, maskQ plRs r.2.t, r.2.h, r.2.m.1, inter r.2.m.2)) = some (.ret, plR 102 fun _ => .bool true, plH L G ++ [⟨true, none, pL L (0 + j * 12)⟩], some 2, inter (plA L n a k j false ++ plB L j true)) := by kernel_rfl
theorem pl_unN : ∀ β, unmask β 0 plNs (plN fun _ => .bool true) = plN β := fun β => rfl
theorem pl_unR (e : Int) : ∀ β, unmask β 0 plRs (plR e fun _ => .bool true) = plR e β := fun β => rfl
theorem Stop.toQ {c : Code} {n q : Nat} {t t' : List Value} {h h' : List AO} {e : Exit} {m : Mk} (a : Stop Try.prog c n t h e t' h' m) : StopQ Try.prog c n q t h e t' h' m :=
  fun wb k hm hkq s m0 act w H m' => rounds_mono (fun e' a'' w'' hp => ⟨hp.1, let ⟨s'', h3, h4⟩ := hp.2; ⟨s'', fun i p _ hp => h3 i p hp, h4⟩⟩) n act w (a wb k hm s m0 act w H m')
noncomputable def plG : Nat → Nat → List Value → Int
  | 0, _, _ => 0
  | m + 1, k, L => bif bitZ (pc L (k / 8 * 12)) k then 101 else bif ptK (pc L (k / 8 * 12 + 1)) then 102 else plG m (k + 1) L
noncomputable def plX (g : Int) (β : Nat → Value) : Exit × List Value := bif g == 0 then (.exit 0, plN β) else (.ret, plR g β)
theorem plA_ok {L : List Value} (h : OkS L) {n : Int} {a k : Nat} {z : Bool} (hn : 0 ≤ n) (hs : (a : Int) + n ≤ 512) (hk : (k : Int) < a + n) (hz : bitZ (pc L (k / 8 * 12)) k = z) : AE (plA L n a k (k / 8) z) := by
  have hj : k / 8 < 64 := by omega
  refine AE.app (AE.cons (b1 (by rw [wi_id (by omega) (by omega)]; exact hk)) (AE.cons ?_ (AE.cons (bt (jP_ok hj)) AE.nil))) (AE.app (ldP_ok (by rw [h.1]; omega) (h.plc hj)) (AE.cons (by rw [Nat.zero_add, hz]) AE.nil))
  have e : ((k : Int).tdiv 8) = ((k / 8 : Nat) : Int) := by
    rw [Int.tdiv_eq_ediv_of_nonneg (by omega)]
    rfl
  rw [e]
  exact wi_id (by omega) (by omega)
theorem plB_ok {L : List Value} {k : Nat} {q : Bool} (hq : ptK (pc L (k / 8 * 12 + 1)) = q) : AE (plB L (k / 8) q) := AE.cons (by rw [vAt_k, hq]) AE.nil
theorem plI_ok {k : Nat} (hk : k < 512) : AE (plI k) := by
  refine AE.cons ?_ AE.nil
  show wi ((k : Int) + 1) = ((k + 1 : Nat) : Int)
  rw [wi_id (by omega) (by omega)]
  omega
theorem plH_flat {L : List Value} (h : OkS L) (o : Nat) : flatH (plH L ⟨true, none, pL L o⟩) = true := by
  unfold flatH plH
  simp only [List.all_cons, List.all_nil, h.flats, Bool.and_true, Bool.true_and]
  rfl
theorem pl_rounds {L : List Value} (h : OkS L) {n : Int} {a : Nat} (hn : 0 ≤ n) (hs : (a : Int) + n ≤ 512) : ∀ (m k : Nat) (G : AO) (p r u : Value) (β : Nat → Value), ((k + m : Nat) : Int) = a + n → FlR 1 β →
    ∃ N β' H, StopQ Try.prog plLp N 1 (plT n a k p r u β) (plH L G) (plX (plG m k L) β').1 (plX (plG m k L) β').2 H (some 2, [])
  | 0, k, G, p, r, u, β, e, hβ => by
    obtain ⟨β', q⟩ := stopM_ok noNG pl3_ok noLoop_low (noLoop_ok _) pl_one pl_unN (pl_end L G n a k p r u β) (AE.cons (b0 (by rw [wi_id (by omega) (by omega)]; omega)) AE.nil)
    exact ⟨1, β', _, (Stop.toQ q).weak (bndW rfl)⟩
  | m + 1, k, G, p, r, u, β, e, hβ => by
    cases hz : bitZ (pc L (k / 8 * 12)) k with
    | true =>
      have eg : plG (m + 1) k L = 101 := by
        show (bif bitZ (pc L (k / 8 * 12)) k then _ else _) = _
        rw [hz]; rfl
      rw [eg]
      obtain ⟨β', q⟩ := stopM_ok noNG pl3_ok noLoop_low (noLoop_ok _) pl_one (pl_unR 101) (pl_Z L G n a k (k / 8) p r u β) (plA_ok h hn hs (by omega) hz)
      exact ⟨1, β', _, (Stop.toQ q).weak (bndW rfl)⟩
    | false =>
      cases hq : ptK (pc L (k / 8 * 12 + 1)) with
      | true =>
        have eg : plG (m + 1) k L = 102 := by
          show (bif bitZ (pc L (k / 8 * 12)) k then _ else bif ptK (pc L (k / 8 * 12 + 1)) then _ else _) = _
          rw [hz, hq]; rfl
        rw [eg]
        obtain ⟨β', q⟩ := stopM_ok noNG pl3_ok noLoop_low (noLoop_ok _) pl_one (pl_unR 102) (pl_Q L G n a k (k / 8) p r u β) (AE.app (plA_ok h hn hs (by omega) hz) (plB_ok hq))
        exact ⟨1, β', _, (Stop.toQ q).weak (bndW rfl)⟩
      | false =>
        have eg : plG (m + 1) k L = plG m (k + 1) L := by
          show (bif bitZ (pc L (k / 8 * 12)) k then _ else bif ptK (pc L (k / 8 * 12 + 1)) then _ else _) = _
          rw [hz, hq]; rfl
        rw [eg]
        obtain ⟨β1, f1, q1⟩ := hopF_ok noNG pl3_ok noLoop_low (noLoop_ok _) pl_one [2] (T := plT n a (k + 1) p1 p1 p11) (zs := plZ) (fun β => rfl) plC hβ (pl_hop L G n a k (k / 8) p r u β) rfl (plH_flat h _) (by decide) (by show 1 ≤ 2; decide) (by kernel_rfl) (by kernel_rfl)
          (AE.app (plA_ok h hn hs (by omega) hz) (AE.app (plB_ok hq) (plI_ok (by omega))))
        obtain ⟨N, β2, H, q2⟩ := pl_rounds h hn hs m (k + 1) ⟨true, none, pL L (0 + k / 8 * 12)⟩ p1 p1 p11 β1 (by omega) f1
        exact ⟨1 + N, β2, H, q1.stop q2 (fun _ _ h => h) (fun _ _ h => h)⟩
noncomputable def plB0 (L : List Value) (off n : Int) (a : Nat) (k : Nat) : Value := (plE0 L off n a).getD k (.bool true)
theorem plE_eq (L : List Value) (off n : Int) (a : Nat) : plT n a a (.tuple ⟨[]⟩) (.tuple ⟨[]⟩) (.tuple ⟨[]⟩) (plB0 L off n a) = plE0 L off n a := by kernel_rfl
theorem plB_fl {L : List Value} (h : OkS L) (off n : Int) (a : Nat) : FlR 1 (plB0 L off n a) := by
  intro k
  cases k with
  | zero => exact refF_flat 4 h.flat
  | succ k =>
    have e : (plE0 L off n a).tail.all (okR 1) = true := by kernel_rfl
    show okR 1 ((plE0 L off n a).tail.getD k (.bool true)) = true
    rw [List.getD_eq_getElem?_getD]
    cases g : (plE0 L off n a).tail[k]? with
    | none => rfl
    | some v => exact List.all_eq_true.1 e v (List.mem_of_getElem? g)
noncomputable def plQ (L : List Value) (off n : Int) (a : Nat) (g : Int) (β : Nat → Value) (H : List AO) : LoopQ := ⟨plF, 0, fun _ => true, plE0 L off n a, [⟨true, none, L⟩], (plX g β).1, (plX g β).2, H, (some 2, [])⟩
noncomputable def plEO (k : Bool) (a : Nat) : Orc := fun f t _ => if Nat.beq f plF then (if Nat.beq t 16 then some (.bool k) else if Nat.beq t 15 then (bif k then some (.int .i64 (a : Int)) else none) else none) else none
theorem pl_rA (L : List Value) (off n : Int) : reckonPI Try.prog pl3 (plEO false 0) noLoop 100000 300 [] plF [.agg ⟨L⟩, .int .i64 off, .int .i64 n] = some (.int .i64 181, inter [(b2i (fsK off n), 0)]) := by kernel_rfl
noncomputable def plP (L : List Value) (off n : Int) (a : Nat) : Cs := [(fsA off n, (a : Int)), (b2i (fsK off n), 1), prP (plE0 L off n a = plE0 L off n a), prP ([(⟨true, none, L⟩ : AO)] = [⟨true, none, L⟩])]
theorem pl_r0 (L : List Value) (off n : Int) (a : Nat) (β : Nat → Value) (H : List AO) : reckonPI Try.prog pl3 (plEO true a) (loopQHook [plQ L off n a 0 β H]) 100000 300 [] plF [.agg ⟨L⟩, .int .i64 off, .int .i64 n] = some (.int .i64 0, inter (plP L off n a)) := by kernel_rfl
theorem pl_r1 (L : List Value) (off n : Int) (a : Nat) (β : Nat → Value) (H : List AO) : reckonPI Try.prog pl3 (plEO true a) (loopQHook [plQ L off n a 101 β H]) 100000 300 [] plF [.agg ⟨L⟩, .int .i64 off, .int .i64 n] = some (.int .i64 101, inter (plP L off n a)) := by kernel_rfl
theorem pl_r2 (L : List Value) (off n : Int) (a : Nat) (β : Nat → Value) (H : List AO) : reckonPI Try.prog pl3 (plEO true a) (loopQHook [plQ L off n a 102 β H]) 100000 300 [] plF [.agg ⟨L⟩, .int .i64 off, .int .i64 n] = some (.int .i64 102, inter (plP L off n a)) := by kernel_rfl
/-- What Plain answers. -/
noncomputable def plS (L : List Value) (off n : Int) : Int := bif fsK off n then plG n.toNat (fsA off n).toNat L else 181
theorem plG_vals : ∀ (m k : Nat) (L : List Value), plG m k L = 0 ∨ plG m k L = 101 ∨ plG m k L = 102
  | 0, _, _ => .inl rfl
  | m + 1, k, L => by
    unfold plG
    cases bitZ (pc L (k / 8 * 12)) k with
    | true => exact .inr (.inl rfl)
    | false =>
      cases ptK (pc L (k / 8 * 12 + 1)) with
      | true => exact .inr (.inr rfl)
      | false => exact plG_vals m (k + 1) L
theorem fs_ok {off n : Int} (h : fsK off n = true) : 1 ≤ n ∧ n ≤ 512 ∧ -512 ≤ off ∧ off ≤ -n ∧ fsA off n = off + 512 := by
  have h3 := h
  unfold fsK at h
  simp only [Bool.and_eq_true, Bool.not_eq_true', decide_eq_false_iff_not] at h
  obtain ⟨h1, h2, h4, h5⟩ := h
  have en : IntKind.i64.wrap (0 - n) = -n := by
    have := wi_id (x := 0 - n) (by omega) (by omega)
    unfold wi at this
    rw [this]; omega
  rw [en] at h5
  refine ⟨by omega, by omega, by omega, by omega, ?_⟩
  unfold fsA
  rw [h3]
  show wi (off + 512) = _
  exact wi_id (by omega) (by omega)
theorem c_plain {L : List Value} (h : OkS L) (off n : Int) (w : World) : Calls Try.prog plF #[.agg ⟨L⟩, .int .i64 off, .int .i64 n] w fun e w' => e = .returned (.int .i64 (plS L off n)) ∧ Gr w w' := by
  have hf : ([.agg ⟨L⟩, .int .i64 off, .int .i64 n] : List Value).all flat = true := by
    show (flat (.agg ⟨L⟩) && true) = true
    rw [h.flat]
    rfl
  cases k0 : fsK off n with
  | false => exact rqv (by unfold plS; rw [k0]; rfl) (rq pl3_ok _ hf rfl (pl_rA L off n) (AE.cons (bf k0) AE.nil) w)
  | true =>
    obtain ⟨n1, n2, o1, o2, eA⟩ := fs_ok k0
    have ha : fsA off n = ((fsA off n).toNat : Int) := (Int.toNat_of_nonneg (by omega)).symm
    obtain ⟨N, β, H, s⟩ := pl_rounds h (n := n) (a := (fsA off n).toNat) (by omega) (by omega) n.toNat (fsA off n).toNat dead (.tuple ⟨[]⟩) (.tuple ⟨[]⟩) (.tuple ⟨[]⟩) (plB0 L off n (fsA off n).toNat) (by omega) (plB_fl h off n _)
    rw [plE_eq] at s
    have s2 : Stop Try.prog plLp N (plE0 L off n (fsA off n).toNat) [⟨true, none, L⟩] _ _ H (some 2, []) := (StopQ.pad 1 s).stop rfl
    have hp : AE (plP L off n (fsA off n).toNat) := AE.cons ha (AE.cons (bt k0) (AE.consP (prP_ok rfl) (AE.consP (prP_ok rfl) AE.nil)))
    have es : plS L off n = plG n.toNat (fsA off n).toNat L := by unfold plS; rw [k0]; rfl
    have hq : ∀ g, g = plG n.toNat (fsA off n).toNat L → ∀ e ∈ [plQ L off n (fsA off n).toNat g β H], LoopQOk Try.prog e := fun g hg e he => by
      rw [List.mem_singleton.1 he, hg]
      exact loopQ_ok (N := N) pl_one s2
    rcases plG_vals n.toNat (fsA off n).toNat L with g | g | g
    · exact rqv (by rw [es, g]) (rqL pl3_ok (hq 0 g.symm) _ hf rfl (pl_r0 L off n _ β H) hp w)
    · exact rqv (by rw [es, g]) (rqL pl3_ok (hq 101 g.symm) _ hf rfl (pl_r1 L off n _ β H) hp w)
    · exact rqv (by rw [es, g]) (rqL pl3_ok (hq 102 g.symm) _ hf rfl (pl_r2 L off n _ β H) hp w)
noncomputable def hkPlain : Hook := fun f args _ =>
  if Nat.beq f plF then
    match args with
    | [.agg ⟨L⟩, .int .i64 off, .int .i64 n] => some (.int .i64 (plS L off n), [prP (OkS L)])
    | _ => none
  else none
theorem hkPlain_ok : HookOk Try.prog hkPlain := by
  intro f args h v cs hv hc wb k s w H
  unfold hkPlain at hv
  split at hv
  · rename_i hf
    obtain rfl := Nat.eq_of_beq_eq_true hf
    split at hv
    · rename_i L off n
      cases hv
      exact c_plain (prP_of (hc _ (List.mem_singleton.2 rfl))) off n w
    · cases hv
  · cases hv
end Go.Proofs.Ytebolmfdglmpoaa.Ex
