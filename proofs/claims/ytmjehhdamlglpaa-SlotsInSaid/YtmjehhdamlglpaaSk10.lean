/-
  Layer 19: a store changes nothing of other places; the law SlotsApart.
-/
import Derived.Test.YtmjehhdamlglpaaSk9
import Derived.Test.YtmjehhdamlglpaaSliceS
namespace Go.Proofs.Ytmjehhdamlglpaa.Ex
open Go Go.RowKit
set_option maxHeartbeats 400000
set_option maxRecDepth 1000000
set_option linter.unusedVariables false
set_option linter.unusedSectionVars false
theorem pc_splice {L vs : List Value} {o i : Nat} (h : o + vs.length ≤ L.length) (hi : i < o ∨ o + vs.length ≤ i) : pc (splice L o vs) i = pc L i := by
  unfold pc
  rw [List.getD_eq_getElem?_getD, List.getD_eq_getElem?_getD, splice_get h, if_neg (by omega)]
theorem pL_same {X S : List Value} {o : Nat} (h : ∀ r, r < 12 → pc X (o + r) = pc S (o + r)) : pL X o = pL S o := by
  have e0 : pc X o = pc S o := h 0 (by decide)
  have e1 : pc X (o + 1) = pc S (o + 1) := h 1 (by decide)
  have e2 : pc X (o + 1 + 1) = pc S (o + 1 + 1) := h 2 (by decide)
  have e3 : pc X (o + 1 + 2) = pc S (o + 1 + 2) := h 3 (by decide)
  have e4 : pc X (o + 1 + 3) = pc S (o + 1 + 3) := h 4 (by decide)
  have e5 : pc X (o + 1 + 4) = pc S (o + 1 + 4) := h 5 (by decide)
  have e6 : pc X (o + 1 + 5) = pc S (o + 1 + 5) := h 6 (by decide)
  have e7 : pc X (o + 1 + 6) = pc S (o + 1 + 6) := h 7 (by decide)
  have e8 : pc X (o + 1 + 7) = pc S (o + 1 + 7) := h 8 (by decide)
  have e9 : pc X (o + 1 + 8) = pc S (o + 1 + 8) := h 9 (by decide)
  have e10 : pc X (o + 1 + 9) = pc S (o + 1 + 9) := h 10 (by decide)
  have e11 : pc X (o + 1 + 10) = pc S (o + 1 + 10) := h 11 (by decide)
  unfold pL vAt
  rw [e0, e1, e2, e3, e4, e5, e6, e7, e8, e9, e10, e11]
theorem setB_out {L : List Value} (h : OkS L) {j : Nat} (hj : j < 64) (k : Int) {i : Nat} (hi : i / 12 ≠ j) : pc (setB L j k) i = pc L i := by
  have l1 : 0 + j * 12 + 0 + [Value.int .u8 (orB (pc L (0 + j * 12 + 0)) k)].length ≤ L.length := by rw [h.1]; show 0 + j * 12 + 0 + 1 ≤ 768; omega
  unfold setB
  rw [pc_splice (by rw [splice_length l1, h.1]; show 0 + j * 12 + 1 + 11 ≤ 768; omega) (by show i < 0 + j * 12 + 1 ∨ 0 + j * 12 + 1 + 11 ≤ i; omega), pc_splice l1 (by show i < 0 + j * 12 + 0 ∨ 0 + j * 12 + 0 + 1 ≤ i; omega)]
theorem setP_out {L : List Value} (h : OkS L) {j : Nat} (hj : j < 64) (v : VI) {i : Nat} (hi : i / 12 ≠ j) : pc (setP L j v) i = pc L i := by
  unfold setP
  exact pc_splice (by rw [h.1]; show 0 + j * 12 + 12 ≤ 768; omega) (by show i < 0 + j * 12 ∨ 0 + j * 12 + 12 ≤ i; omega)
theorem goS_out : ∀ {m k : Nat} {L X : List Value} {i : Nat}, OkS L → k + m ≤ 512 → goS m k L = some X → (∀ t, k ≤ t → t < k + m → i / 12 ≠ t / 8) → pc X i = pc L i
  | 0, k, L, X, i, h, _, e, _ => by cases e; rfl
  | m + 1, k, L, X, i, h, hk, e, hi => by
    unfold goS at e
    cases hp : ptK (pc L (k / 8 * 12 + 1)) with
    | true => rw [hp] at e; cases e
    | false =>
      rw [hp] at e
      rw [goS_out (i := i) (OkS.setB h (by omega) k) (by omega) e (fun t h1 h2 => hi t (by omega) (by omega)), setB_out h (by omega) k (hi k (Nat.le_refl _) (by omega))]
/-- A store that may be, seen from a place that is not its own. -/
theorem st_apart {S : List Value} (h : OkS S) {off n : Int} {v : VI} (he : (stS S off n v).2 = 0) {k : Nat} (hk : k < 64) (ho : (k : Int) < (off + 512) / 8 ∨ (off + 511 + n) / 8 < k) : pL (stS S off n v).1 (0 + k * 12) = pL S (0 + k * 12) := by
  refine pL_same fun r hr => ?_
  unfold stS at he ⊢
  cases k0 : wdK off n with
  | false => rw [k0] at he; exact absurd (show (181 : Int) = 0 from he) (by decide)
  | true =>
    obtain ⟨hn, h1, h2, hA⟩ := wd_ok k0
    rw [k0] at he
    cases k1 : v.k == 0 with
    | true => rw [k1] at he; exact absurd (show (101 : Int) = 0 from he) (by decide)
    | false =>
      rw [k1] at he
      cases k2 : isP (wdA off n) n with
      | true => 
        have h8 : n = 8 ∧ (wdA off n).tmod 8 = 0 := by
          unfold isP at k2
          simpa using k2
        show pc (setP S ((wdA off n).toNat / 8) v) _ = _
        refine setP_out h (by omega) v ?_
        have e8 : (wdA off n) % 8 = 0 := by
          have := h8.2
          rwa [Int.tmod_eq_emod_of_nonneg (by omega)] at this
        omega
      | false =>
        rw [k2] at he
        cases k3 : ptK v.k with
        | true => rw [k3] at he; exact absurd (show (102 : Int) = 0 from he) (by decide)
        | false =>
          rw [k3] at he
          simp only [Bool.not_true, cond_false] at he ⊢
          cases g : goS n.toNat (wdA off n).toNat S with
          | none => rw [g] at he; exact absurd he (by decide)
          | some X =>
            show pc X _ = _
            exact goS_out h (by omega) g fun t t1 t2 => by omega
theorem st_rng {S : List Value} {off n : Int} {v : VI} (he : (stS S off n v).2 = 0) : (n = 1 ∨ n = 2 ∨ n = 4 ∨ n = 8) ∧ -512 ≤ off ∧ off ≤ -n := by
  cases k0 : wdK off n with
  | false =>
    unfold stS at he
    rw [k0] at he
    exact absurd (show (181 : Int) = 0 from he) (by decide)
  | true =>
    obtain ⟨hn, h1, h2, hA⟩ := wd_ok k0
    exact ⟨hn, h1, h2⟩
theorem eqD_pL (S : List Value) (o : Nat) : eqD (pL S o) (pL S o) = true := by simp [eqD, eqW, pL, vL]
theorem okA_of {l : List Value} {n : Nat} (hl : l.length = n * 4) (h : ∀ i, i < n → okL [.i .i64, .i .i64, .i .u8, .b] ((l.drop (i * 4)).take 4)) : OkA l n := by
  refine ⟨hl, fun i v hv => ?_⟩
  have hi := (List.getElem?_eq_some_iff.1 hv).1
  have k := h (i / 4) (by omega)
  obtain ⟨a, as', e1, h1, k⟩ := k.cons
  obtain ⟨b, bs, rfl, h2, k⟩ := k.cons
  obtain ⟨c, cs, rfl, h3, k⟩ := k.cons
  obtain ⟨d, ds, rfl, h4, k⟩ := k.cons
  obtain rfl := k.nil
  have g : ((l.drop (i / 4 * 4)).take 4)[i % 4]? = some v := by
    rw [List.getElem?_take, if_pos (by omega), List.getElem?_drop, show i / 4 * 4 + i % 4 = i by omega, hv]
  rw [e1] at g
  have hr : i % 4 < 4 := by omega
  generalize i % 4 = r at g hr
  match r, hr with
  | 0, _ => cases g; obtain ⟨x, rfl, _⟩ := h1; rfl
  | 1, _ => cases g; obtain ⟨x, rfl, _⟩ := h2; rfl
  | 2, _ => cases g; obtain ⟨x, rfl, _⟩ := h3; rfl
  | 3, _ => cases g; obtain ⟨x, rfl⟩ := h4; rfl
  | n + 4, h => omega
theorem apP_ok {n : Nat} {S : List Value} {o m kn : Int} {ne : Bool} {pre : Cs} (hp : AE pre) (h : OkS S) (hne : ((stS S o m (valV kn 99)).2 != 0) = ne) : AE (apP n S o m kn ne pre) := by
  have x : OkS (stS S o m (valV kn 99)).1 := stS_ok h _ _ _
  exact AE.app hp (AE.app (stX_ok h.one (by rw [h.1, zS_ok.1]; omega) (splice_whole (by rw [h.1, zS_ok.1]))) (AE.app (ldP_ok (by rw [h.1]; omega) h.whole) (AE.app (stFl_ok h _ _ _) (AE.app (stFl_ok h _ _ _) (AE.app (AE.consP (prP_ok h) AE.nil)
    (AE.app (stX_ok x.one (by rw [x.1, zS_ok.1]; omega) (splice_whole (by rw [x.1, zS_ok.1]))) (AE.cons (by rw [hne]) AE.nil)))))))
theorem apE_ok {S X : List Value} {k : Nat} (h : OkS S) (hx : OkS X) (hk : k < 64) (e : pL X (0 + k * 12) = pL S (0 + k * 12)) : AE (apE S X k) := by
  have hj : AE [(b2i (decide (0 ≤ (k : Int)) && decide ((k : Int) < (64 : Nat))), 1)] := AE.cons (bt (jP_ok hk)) AE.nil
  exact AE.app hj (AE.app (ldP_ok (by rw [h.1]; omega) (h.plc hk)) (AE.app hj (AE.app (ldP_ok (by rw [hx.1]; omega) (hx.plc hk)) (AE.cons (bt (by rw [e, eqD_pL])) AE.nil))))
/-- The law, of a stack: each way. -/
theorem ap_any {S : List Value} {o m kn pl : Int} {n : Nat} {pre : Cs} {G : Prop} (hp : AE pre) (h : OkS S) (hpl : 0 ≤ pl ∧ pl < 256)
    (r0 : ∀ k : Nat, AE (apP n S o m kn true pre) → G) (r1 : ∀ k : Nat, AE (apP n S o m kn false pre ++ apK pl o m k true true) → G)
    (r2 : ∀ k : Nat, AE (apP n S o m kn false pre ++ (apK pl o m k true false ++ apE S (stS S o m (valV kn 99)).1 k)) → G) (r3 : ∀ k : Nat, AE (apP n S o m kn false pre ++ (apK pl o m k false false ++ apE S (stS S o m (valV kn 99)).1 k)) → G) : G := by
  cases hne : ((stS S o m (valV kn 99)).2 != 0) with
  | true => exact r0 0 (apP_ok hp h hne)
  | false =>
    have he : (stS S o m (valV kn 99)).2 = 0 := by simpa using hne
    obtain ⟨hm, h1, h2⟩ := st_rng he
    have x : OkS (stS S o m (valV kn 99)).1 := stS_ok h _ _ _
    have ew : wi pl = pl := wi_id (by omega) (by omega)
    have ek : (wi pl).tmod 64 = ((pl % 64).toNat : Int) := by rw [ew, Int.tmod_eq_emod_of_nonneg hpl.1]; omega
    have hk : (pl % 64).toNat < 64 := by omega
    have ef : wi ((wi (o + 512)).tdiv 8) = (o + 512) / 8 := by
      rw [wi_id (x := o + 512) (by omega) (by omega), Int.tdiv_eq_ediv_of_nonneg (by omega)]
      exact wi_id (by omega) (by omega)
    have el : wi ((wi (wi (o + 511) + m)).tdiv 8) = (o + 511 + m) / 8 := by
      rw [wi_id (x := o + 511) (by omega) (by omega), wi_id (x := o + 511 + m) (by omega) (by omega), Int.tdiv_eq_ediv_of_nonneg (by omega)]
      exact wi_id (by omega) (by omega)
    by_cases c1 : (o + 512) / 8 ≤ (((pl % 64).toNat : Nat) : Int)
    · by_cases c2 : (((pl % 64).toNat : Nat) : Int) ≤ (o + 511 + m) / 8
      · exact r1 (pl % 64).toNat (AE.app (apP_ok hp h hne) (AE.app (AE.cons ek (AE.cons (b1 (by rw [ef]; exact c1)) AE.nil)) (AE.cons (b1 (by rw [el]; exact c2)) AE.nil)))
      · exact r2 (pl % 64).toNat (AE.app (apP_ok hp h hne) (AE.app (AE.app (AE.cons ek (AE.cons (b1 (by rw [ef]; exact c1)) AE.nil)) (AE.cons (b0 (by rw [el]; exact c2)) AE.nil)) (apE_ok h x hk (st_apart h he hk (.inr (by omega))))))
    · exact r3 (pl % 64).toNat (AE.app (apP_ok hp h hne) (AE.app (AE.app (AE.cons ek (AE.cons (b0 (by rw [ef]; omega)) AE.nil)) AE.nil) (apE_ok h x hk (st_apart h he hk (.inl (by omega))))))
theorem u8_rng {a : Int} (h : (Lit.int .u8 a).wf = true) : 0 ≤ a ∧ a < 256 := by
  simp [Lit.wf, IntKind.min, IntKind.max, IntKind.signed, IntKind.bits] at h
  omega
theorem law_apart {v : Value} {o m kn pl : Int} {b : Bool} {w : World} (hS : SlS [.i .i64, .i .i64, .i .u8, .b] w v) (wp : (Lit.int .u8 pl).wf = true) :
    Calls Try.prog 4 #[v, .agg ⟨[.int .i64 o, .int .i64 m, .int .u8 kn, .bool b]⟩, .int .u8 pl] w fun e w' => e = .returned (.bool true) ∧ Gr w w' := by
  have hpl := u8_rng wp
  have hL : Laid ([] : List AO) w := Laid.nil w
  have tl : ∀ {s : Ren}, LR s [.agg ⟨[.int .i64 o, .int .i64 m, .int .u8 kn, .bool b]⟩, .int .u8 pl] [.agg ⟨[.int .i64 o, .int .i64 m, .int .u8 kn, .bool b]⟩, .int .u8 pl] := fun {s} => LR.ofFlat rfl
  rcases hS with rfl | ⟨bl, off, n, c, tot, T, l, rfl, hlc, hsh, hll, hfit, hfr, hcl, hok⟩
  · have lr : LR (placeG [] w) (apArgs (.slice none 0 0) o m kn b pl) (apArgs (.slice none 0 0) o m kn b pl) := LR.ofFlat rfl
    have fin : ∀ {orc : Orc} {cs : Cs}, reckonQI Try.prog az3 orc noLoop 100000 300 [] 4 (apArgs (.slice none 0 0) o m kn b pl) = some (.bool true, inter cs) → AE cs → _ := fun h he =>
      reckonQ_ok noNG az3_ok noLoop_low (noLoop_ok _) _ _ _ _ rfl h he (HR.start hL) lr
    exact ap_any (n := 0) (pre := pre0) (AE.cons rfl AE.nil) zS_ok hpl (fun k => fin (ap_N0 o m kn b pl k)) (fun k => fin (ap_N1 o m kn b pl k)) (fun k => fin (ap_N2 o m kn b pl k)) (fun k => fin (ap_N3 o m kn b pl k))
  have hb : bl < w.heap.size := by
    unfold World.shape? at hsh
    split at hsh
    · rename_i h; exact (Array.getElem?_eq_some_iff.1 h).1
    · cases hsh
  by_cases c0 : n = 0
  · subst c0
    have H := HR.withPl (pl := ⟨bl, off, off + c, some 1⟩) hL hb (by intro h; simp [GM] at h)
    have lr : LR (upd (placeG [] w) 0 ⟨bl, off, off + c, some 1⟩) (apArgs (.slice (some ⟨0, 0, none⟩) 0 0) o m kn b pl) (apArgs (.slice (some ⟨bl, off, none⟩) 0 c) o m kn b pl) :=
      LR.cons (VR.slice (a := ⟨0, 0, none⟩) (p := ⟨bl, off, off + c, some 1⟩) rfl (upd_same _ _ _) (by show 0 < 1 ∧ off + 0 + c * 1 = off + c ∧ 0 ≤ c; omega)) tl
    have fin : ∀ {orc : Orc} {cs : Cs}, reckonQI Try.prog az3 orc noLoop 100000 300 [dead] 4 (apArgs (.slice (some ⟨0, 0, none⟩) 0 0) o m kn b pl) = some (.bool true, inter cs) → AE cs → _ := fun h he =>
      reckonQ_ok noNG az3_ok noLoop_low (noLoop_ok _) _ _ _ _ rfl h he H lr
    exact ap_any (n := 0) (pre := pre0) (AE.cons rfl AE.nil) zS_ok hpl (fun k => fin (ap_Z0 o m kn b pl k)) (fun k => fin (ap_Z1 o m kn b pl k)) (fun k => fin (ap_Z2 o m kn b pl k)) (fun k => fin (ap_Z3 o m kn b pl k))
  by_cases c1 : n ≤ 60
  · have hA : OkA l n := okA_of hll hok
    have H := HR.withSlice (cs := l) hL hsh (by rw [hll]; exact hfit (by omega)) (by rw [hll]; exact hfr) (fun o v hv => ⟨hcl o v hv, List.all_eq_true.1 hA.flat v (List.mem_of_getElem? hv)⟩) (fun i o hi => by simp at hi)
    have lr : LR (upd (placeG [] w) 0 ⟨bl, off, tot, none⟩) (apArgs (.slice (some ⟨0, 0, none⟩) n c) o m kn b pl) (apArgs (.slice (some ⟨bl, off, none⟩) n c) o m kn b pl) :=
      LR.cons (VR.slice (a := ⟨0, 0, none⟩) (p := ⟨bl, off, tot, none⟩) rfl (upd_same _ _ _) rfl) tl
    have fin : ∀ {orc : Orc} {cs : Cs}, reckonQI Try.prog ap3 orc noLoop 100000 300 [⟨true, none, l⟩] 4 (apArgs (.slice (some ⟨0, 0, none⟩) n c) o m kn b pl) = some (.bool true, inter cs) → AE cs → _ := fun h he =>
      reckonQ_ok noNG ap3_ok noLoop_low (noLoop_ok _) _ _ _ _ rfl h he H lr
    have hp : AE (preL l n) := AE.cons (b0 (by omega)) (AE.cons (bt (sdS_ok l n).flat) (AE.consP (prP_ok hA) (AE.cons (bt (by rw [decide_eq_true (by omega : n ≤ 1000), decide_eq_true (by omega : 1 ≤ n)]; rfl)) AE.nil)))
    exact ap_any (n := n) hp (sdS_ok l n) hpl (fun k => fin (ap_L0 l n c o m kn b pl k)) (fun k => fin (ap_L1 l n c o m kn b pl k)) (fun k => fin (ap_L2 l n c o m kn b pl k)) (fun k => fin (ap_L3 l n c o m kn b pl k))
  · have H := HR.withPl (pl := ⟨bl, off, tot, none⟩) hL hb (by intro h; cases h)
    have lr : LR (upd (placeG [] w) 0 ⟨bl, off, tot, none⟩) (apArgs (.slice (some ⟨0, 0, none⟩) n c) o m kn b pl) (apArgs (.slice (some ⟨bl, off, none⟩) n c) o m kn b pl) :=
      LR.cons (VR.slice (a := ⟨0, 0, none⟩) (p := ⟨bl, off, tot, none⟩) rfl (upd_same _ _ _) rfl) tl
    exact reckonQ_ok noNG az3_ok noLoop_low (noLoop_ok _) _ _ _ _ rfl (ap_G n c o m kn b pl) (AE.cons (b1 (by omega)) AE.nil) H lr
end Go.Proofs.Ytmjehhdamlglpaa.Ex
