/-
  Layer 8: the law MapsArray, of every slice.
-/
import Derived.Test.YtafegjmaldbbiaaAr4
namespace Go.Proofs.Ytafegjmaldbbiaa.Ex
open Go Go.RowKit
set_option maxHeartbeats 0
set_option maxRecDepth 1000000
set_option linter.unusedVariables false
set_option linter.unusedSectionVars false
theorem Stop.toQ {c : Code} {n q : Nat} {t t' : List Value} {h h' : List AO} {e : Exit} {m : Mk} (a : Stop Try.prog c n t h e t' h' m) : StopQ Try.prog c n q t h e t' h' m :=
  fun wb k hm hkq s m0 act w H m' => rounds_mono (fun e' a'' w'' hp => ⟨hp.1, let ⟨s'', h3, h4⟩ := hp.2; ⟨s'', fun i p _ hp => h3 i p hp, h4⟩⟩) n act w (a wb k hm s m0 act w H m')
theorem arB_id {v : Int} (h0 : 0 ≤ v) (h1 : v < 256) : arB v = v := by
  obtain ⟨n, rfl⟩ := Int.eq_ofNat_of_zero_le h0
  have e1 : (((UInt8.ofNat (n : Int).toNat).toNat : Nat) : Int) = n := by
    rw [Int.toNat_natCast, UInt8.toNat_ofNat_of_lt' (by show n < 256; omega)]
  have e2 : IntKind.u64.wrap (n : Int) = n := by
    simp [IntKind.wrap, IntKind.signed, IntKind.bits]
    omega
  have e3 : IntKind.u8.wrap (n : Int) = n := by
    simp [IntKind.wrap, IntKind.signed, IntKind.bits]
    omega
  unfold arB
  rw [e1, e2, Int.fdiv_one, e3, e1]
/-- Ahead of a round: what the array has is what is wanted. -/
def arI (L : List Value) (n cp i : Nat) (t : List Value) (h : List AO) : Prop :=
  ∃ a b c p r β G1 G2 m, FlR 38 β ∧ t = arT n cp i p r β ∧ h ++ List.replicate m dead = arH L a b c a b c G1 G2
theorem arS_eq (a b c : Int) : (!(arS a b c == arS a b c)) = false := by simp
section
variable {L : List Value} {n cp : Nat} (hL : L.all Ex.flat = true) (hl : L.length = n * 2) (hn : n ≤ 100)
  (hb : ∀ j, j < n * 2 → ∃ v : Int, L.getD j .nilFunc = .int .u8 v ∧ 0 ≤ v ∧ v < 256)
include hL in
theorem arH_re (keep : List Nat) (a b c v p q r : Int) (x y z : Int) (hk : (arG a b c x y z ++ [arK1 v, arK2 p q r]).map (reO (keepF 38 keep)) = arG a b c x y z ++ [arK1 v, arK2 p q r]) : (arH L a b c x y z (arK1 v) (arK2 p q r)).map (reO (keepF 38 keep)) = arH L a b c x y z (arK1 v) (arK2 p q r) := by
  unfold arH
  rw [List.map_cons, reO_flat hL, hk]
include hL in
theorem arH_ref {a b c v p q r x y z : Int} {T : List Value} (ht : (T.all (refF (fun x => decide (x < 40)) 6) && (arG a b c x y z ++ [arK1 v, arK2 p q r]).all (refO fun x => decide (x < 40))) = true) : hopC T (arH L a b c x y z (arK1 v) (arK2 p q r)) = true := by
  have h1 : refO (fun x => decide (x < 40)) ⟨true, none, L⟩ = true := by
    unfold refO
    rw [Bool.or_eq_true]
    exact .inr (List.all_eq_true.2 fun v hv => refF_flat 4 (List.all_eq_true.1 hL v hv))
  rw [Bool.and_eq_true] at ht
  show (T.all (refF (fun x => decide (x < 40)) 6) && (arH L a b c x y z (arK1 v) (arK2 p q r)).all (refO fun x => decide (x < 40))) = true
  unfold arH
  rw [List.all_cons, h1, ht.1, ht.2]
  rfl
include hl hn hb in
theorem arHd_ok {i : Nat} (hi : i < n) {k kk v : Int} (ek : L.getD (0 + i * 2 + 0) .nilFunc = .int .u8 kk) (h0 : 0 ≤ kk) (h1 : kk < 256) (ev : L.getD (0 + i * 2 + 1) .nilFunc = .int .u8 v) (hk : kk % 5 = k) : AE (arHd L n i k kk v) := by
  have j : AE (sdJ i n) := AE.cons (bt (by rw [decide_eq_true (by omega : (0 : Int) ≤ i), decide_eq_true (by omega : (i : Int) < n)]; rfl)) AE.nil
  refine AE.app (AE.cons (b1 (by omega)) AE.nil) (AE.app j (AE.app (AE.cons (b1 (by omega)) (AE.consP (same_ok (by rw [ek])) AE.nil)) (AE.app (AE.cons ?_ AE.nil) (AE.app j (AE.cons (b1 (by omega)) (AE.consP (same_ok (by rw [ev])) AE.nil))))))
  rw [wi_id (by omega) (by omega), Int.tmod_eq_emod_of_nonneg h0]
  exact hk
include hn in
theorem arTl_ok {i : Nat} (hi : i < n) {a b c x y z : Int} (e : arS a b c = arS x y z) : AE (arTl a b c x y z i) :=
  AE.cons (bf (by rw [e]; exact arS_eq x y z)) (AE.cons (by rw [wi_id (by omega) (by omega)]; omega) AE.nil)
include hl in
theorem arV_ok {i : Nat} (hi : i < n) {v : Int} (ev : L.getD (0 + i * 2 + 1) .nilFunc = .int .u8 v) {P : Cs} (hP : AE P) : AE (sdJ i n ++ (ld1P L (0 + i * 2 + 1) (.int .u8 v) ++ P)) :=
  AE.app (AE.cons (bt (by rw [decide_eq_true (by omega : (0 : Int) ≤ i), decide_eq_true (by omega : (i : Int) < n)]; rfl)) AE.nil) (AE.app (AE.cons (b1 (by omega)) (AE.consP (same_ok (by rw [ev])) AE.nil)) hP)
include hL hl hn hb in
theorem ar_step {i : Nat} (hi : i < n) {t : List Value} {h : List AO} (hI : arI L n cp i t h) : ∃ t' h', arI L n cp (i + 1) t' h' ∧ HopQ Try.prog arLp 1 38 t h t' h' (some 11, []) := by
  obtain ⟨a, b, c, p, r, β, G1, G2, m, hβ, rfl, hp⟩ := hI
  obtain ⟨kk, ek, k0, k1⟩ := hb (0 + i * 2 + 0) (by omega)
  obtain ⟨v, ev, v0, v1⟩ := hb (0 + i * 2 + 1) (by omega)
  have ha := arB_id v0 v1
  have hd := fun k (hk : kk % 5 = k) => arHd_ok hl hn hb hi ek k0 k1 ev hk
  have fin : ∀ {a' b' c' : Int} {β' : Nat → Value}, FlR 38 β' → HopQ Try.prog arLp 1 38 (arT n cp i p r β) (arH L a b c a b c G1 G2) (arT n cp (i + 1) (.slice (some ⟨38, 0, none⟩) 1 1) (.slice (some ⟨39, 0, none⟩) 3 3) β') (arH L a' b' c' a' b' c' (arK1 v) (arK2 a' b' c')) (some 11, []) →
      ∃ t' h', arI L n cp (i + 1) t' h' ∧ HopQ Try.prog arLp 1 38 (arT n cp i p r β) h t' h' (some 11, []) :=
    fun {a' b' c' β'} f Q => ⟨_, _, ⟨a', b', c', _, _, β', _, _, 0, f, rfl, by rw [List.replicate_zero, List.append_nil]⟩, HopQ.pad m (by rw [hp]; exact Q)⟩
  have k0c : kk % 5 = 0 → ∃ t' h', arI L n cp (i + 1) t' h' ∧ HopQ Try.prog arLp 1 38 (arT n cp i p r β) h t' h' (some 11, []) := fun q => by
    obtain ⟨β', f, Q⟩ := hopR2_ok noNG ar3_ok noLoop_low (noLoop_ok _) ar_one [40, 50] (T := arT n cp (i + 1) (.slice (some ⟨38, 0, none⟩) 1 1) (.slice (some ⟨39, 0, none⟩) 3 3)) (ds := arZ) (fun β => rfl) arC1 hβ (ar_0 L n cp i kk v a b c a b c p r G1 G2 β) (arH_re hL _ _ _ _ _ _ _ _ _ _ _ (by kernel_rfl)) (by decide) (by show 38 ≤ 40; decide) (by kernel_rfl) (arH_ref hL (by kernel_rfl)) (AE.app (hd 0 q) (arV_ok hl hi ev (arTl_ok hn hi (by rw [ha]))))
    rw [ha] at Q
    exact fin f (Q.weak (bndW rfl))
  have k1c : kk % 5 = 1 → ∃ t' h', arI L n cp (i + 1) t' h' ∧ HopQ Try.prog arLp 1 38 (arT n cp i p r β) h t' h' (some 11, []) := fun q => by
    obtain ⟨β', f, Q⟩ := hopR2_ok noNG ar3_ok noLoop_low (noLoop_ok _) ar_one [40, 50] (T := arT n cp (i + 1) (.slice (some ⟨38, 0, none⟩) 1 1) (.slice (some ⟨39, 0, none⟩) 3 3)) (ds := arZ) (fun β => rfl) arC1 hβ (ar_1 L n cp i kk v a b c a b c p r G1 G2 β) (arH_re hL _ _ _ _ _ _ _ _ _ _ _ (by kernel_rfl)) (by decide) (by show 38 ≤ 40; decide) (by kernel_rfl) (arH_ref hL (by kernel_rfl)) (AE.app (hd 1 q) (arV_ok hl hi ev (arTl_ok hn hi (by rw [ha]))))
    rw [ha] at Q
    exact fin f (Q.weak (bndW rfl))
  have k2c : kk % 5 = 2 → ∃ t' h', arI L n cp (i + 1) t' h' ∧ HopQ Try.prog arLp 1 38 (arT n cp i p r β) h t' h' (some 11, []) := fun q => by
    obtain ⟨β', f, Q⟩ := hopR2_ok noNG ar3_ok noLoop_low (noLoop_ok _) ar_one [40, 50] (T := arT n cp (i + 1) (.slice (some ⟨38, 0, none⟩) 1 1) (.slice (some ⟨39, 0, none⟩) 3 3)) (ds := arZ) (fun β => rfl) arC1 hβ (ar_2 L n cp i kk v a b c a b c p r G1 G2 β) (arH_re hL _ _ _ _ _ _ _ _ _ _ _ (by kernel_rfl)) (by decide) (by show 38 ≤ 40; decide) (by kernel_rfl) (arH_ref hL (by kernel_rfl)) (AE.app (hd 2 q) (arV_ok hl hi ev (arTl_ok hn hi (by rw [ha]))))
    rw [ha] at Q
    exact fin f (Q.weak (bndW rfl))
  have k3c : kk % 5 = 3 → ∃ t' h', arI L n cp (i + 1) t' h' ∧ HopQ Try.prog arLp 1 38 (arT n cp i p r β) h t' h' (some 11, []) := fun q => by
    obtain ⟨β', f, Q⟩ := hopR2_ok noNG ar3_ok noLoop_low (noLoop_ok _) ar_one [40, 46] (T := arT n cp (i + 1) (.slice (some ⟨38, 0, none⟩) 1 1) (.slice (some ⟨39, 0, none⟩) 3 3)) (ds := arZ) (fun β => rfl) arC0 hβ (ar_3 L n cp i kk v a b c a b c p r G1 G2 β) (arH_re hL _ _ _ _ _ _ _ _ _ _ _ (by kernel_rfl)) (by decide) (by show 38 ≤ 40; decide) (by kernel_rfl) (arH_ref hL (by kernel_rfl)) (AE.app (hd 3 q) (arTl_ok hn hi rfl))
    exact fin f (Q.weak (bndW rfl))
  have k4c : kk % 5 = 4 → ∃ t' h', arI L n cp (i + 1) t' h' ∧ HopQ Try.prog arLp 1 38 (arT n cp i p r β) h t' h' (some 11, []) := fun q => by
    obtain ⟨β', f, Q⟩ := hopR2_ok noNG ar3_ok noLoop_low (noLoop_ok _) ar_one [40, 46] (T := arT n cp (i + 1) (.slice (some ⟨38, 0, none⟩) 1 1) (.slice (some ⟨39, 0, none⟩) 3 3)) (ds := arZ) (fun β => rfl) arC0 hβ (ar_4 L n cp i kk v a b c a b c p r G1 G2 β) (arH_re hL _ _ _ _ _ _ _ _ _ _ _ (by kernel_rfl)) (by decide) (by show 38 ≤ 40; decide) (by kernel_rfl) (arH_ref hL (by kernel_rfl)) (AE.app (hd 4 q) (arTl_ok hn hi rfl))
    exact fin f (Q.weak (bndW rfl))
  rcases (by omega : kk % 5 = 0 ∨ kk % 5 = 1 ∨ kk % 5 = 2 ∨ kk % 5 = 3 ∨ kk % 5 = 4) with q | q | q | q | q
  · exact k0c q
  · exact k1c q
  · exact k2c q
  · exact k3c q
  · exact k4c q
include hL hl hn hb in
theorem ar_rounds : ∀ (d i : Nat) (t : List Value) (h : List AO), i + d = n → arI L n cp i t h → ∃ t' h', arI L n cp n t' h' ∧ HopQ Try.prog arLp d 38 t h t' h' (some 11, [])
  | 0, i, t, h, e, hI => by
    obtain rfl : i = n := by omega
    exact ⟨t, h, hI, HopQ.zero _ _ _ _⟩
  | d + 1, i, t, h, e, hI => by
    obtain ⟨t1, h1, I1, q1⟩ := ar_step hL hl hn hb (show i < n by omega) hI
    obtain ⟨t2, h2, I2, q2⟩ := ar_rounds d (i + 1) t1 h1 (by omega) I1
    refine ⟨t2, h2, I2, ?_⟩
    rw [show d + 1 = 1 + d by omega]
    exact q1.trans q2 (fun _ _ h => h) (fun _ _ h => h)
theorem ar_end {t : List Value} {h : List AO} (hI : arI L n cp n t h) : ∃ a b c β G1 G2, StopQ Try.prog arLp 1 38 t h (.exit 0) (arN β) (arH L a b c a b c G1 G2) (some 11, []) := by
  obtain ⟨a, b, c, p, r, β, G1, G2, m, hβ, rfl, hp⟩ := hI
  obtain ⟨β', Q⟩ := stopM_ok noNG ar3_ok noLoop_low (noLoop_ok _) ar_one (fun β => rfl) (ar_stop L n cp a b c a b c p r G1 G2 β) (AE.cons (b0 (by omega)) AE.nil)
  exact ⟨a, b, c, β', G1, G2, StopQ.pad m (by rw [hp]; exact (Stop.toQ Q).weak (bndW rfl))⟩
include hL hl hn hb in
theorem ar_loop : ∃ a b c β G1 G2, LoopQOk Try.prog (arQ L n cp a b c a b c β G1 G2) := by
  obtain ⟨t, h, I, q⟩ := ar_rounds hL hl hn hb n 0 (arT n cp 0 UUU UUU (fun k => (arE n cp).getD k (.bool true))) (⟨true, none, L⟩ :: arG 0 0 0 0 0 0) (by omega) ⟨0, 0, 0, UUU, UUU, _, dead, dead, 2, arE_ok n cp, rfl, rfl⟩
  obtain ⟨a, b, c, β, G1, G2, q2⟩ := ar_end I
  have S := q.stop q2 (fun _ _ h => h) (fun _ _ h => h)
  rw [arE_eq] at S
  exact ⟨a, b, c, β, G1, G2, loopQ_ok (N := n + 1) ar_one (S.stop (by kernel_rfl))⟩
end
theorem closedA {orc : Orc} {lh : LoopHook} {L f : Nat} {h0 : List AO} {g : FuncId} {args : List Value} {v : Value} (h : (reckonQI Try.prog ar3 orc lh L f h0 g args).map (fun r => (r.1, eqs r.2)) = some (v, true)) : ∃ cs, AE cs ∧ reckonQI Try.prog ar3 orc lh L f h0 g args = some (v, inter cs) := closedP h
theorem u8_rng {a : Int} (h : (Lit.int .u8 a).wf = true) : 0 ≤ a ∧ a < 256 := by
  simp [Lit.wf, IntKind.min, IntKind.max, IntKind.signed, IntKind.bits] at h
  omega
theorem arL_of {l : List Value} {n : Nat} (hl : l.length = n * 2) (h : ∀ i, i < n → okL [.i .u8, .i .u8] ((l.drop (i * 2)).take 2)) (j : Nat) (hj : j < n * 2) : ∃ v : Int, l.getD j .nilFunc = .int .u8 v ∧ 0 ≤ v ∧ v < 256 := by
  have k := h (j / 2) (by omega)
  obtain ⟨a, as', e1, ⟨x0, h0, w0⟩, k⟩ := k.cons
  obtain ⟨b, bs, rfl, ⟨x1, h1, w1⟩, k⟩ := k.cons
  obtain rfl := k.nil
  have g : ((l.drop (j / 2 * 2)).take 2)[j % 2]? = l[j]? := by
    rw [List.getElem?_take, if_pos (by omega), List.getElem?_drop, show j / 2 * 2 + j % 2 = j by omega]
  rw [e1] at g
  rw [List.getD_eq_getElem?_getD, ← g]
  have hr : j % 2 < 2 := by omega
  generalize j % 2 = r at hr
  match r, hr with
  | 0, _ => exact ⟨x0, h0, u8_rng w0⟩
  | 1, _ => exact ⟨x1, h1, u8_rng w1⟩
  | n + 2, h => omega
theorem arL_flat {l : List Value} {n : Nat} (hl : l.length = n * 2) (h : ∀ j, j < n * 2 → ∃ v : Int, l.getD j .nilFunc = .int .u8 v ∧ 0 ≤ v ∧ v < 256) : l.all Ex.flat = true := by
  refine List.all_eq_true.2 fun v hv => ?_
  obtain ⟨j, hj⟩ := List.mem_iff_getElem?.1 hv
  obtain ⟨x, hx, _⟩ := h j (by have := (List.getElem?_eq_some_iff.1 hj).1; omega)
  rw [List.getD_eq_getElem?_getD, hj] at hx
  obtain rfl : v = .int .u8 x := hx
  rfl
theorem law_array {v : Value} {w : World} (hS : SlS [.i .u8, .i .u8] w v) : Calls Try.prog arF #[v] w fun e w' => e = .returned (.bool true) ∧ Gr w w' := by
  have hL : Laid ([] : List AO) w := Laid.nil w
  rcases hS with rfl | ⟨bl, off, n, c, tot, T, l, rfl, hlc, hsh, hll, hfit, hfr, hcl, hok⟩
  · obtain ⟨cs, h1, h2⟩ := closedA ar_Nl
    exact reckonQ_ok noNG ar3_ok noLoop_low (noLoop_ok _) _ _ _ _ rfl h2 h1 (HR.start hL) (LR.ofFlat rfl)
  have hb : bl < w.heap.size := by
    unfold World.shape? at hsh
    split at hsh
    · rename_i h; exact (Array.getElem?_eq_some_iff.1 h).1
    · cases hsh
  by_cases c0 : n = 0
  · subst c0
    have H := HR.withPl (pl := ⟨bl, off, off + c, some 1⟩) hL hb (by intro h; simp [GM] at h)
    have lr : LR (upd (placeG [] w) 0 ⟨bl, off, off + c, some 1⟩) [.slice (some ⟨0, 0, none⟩) 0 0] [.slice (some ⟨bl, off, none⟩) 0 c] :=
      LR.cons (VR.slice (a := ⟨0, 0, none⟩) (p := ⟨bl, off, off + c, some 1⟩) rfl (upd_same _ _ _) (by show 0 < 1 ∧ off + 0 + c * 1 = off + c ∧ 0 ≤ c; omega)) (LR.nil _)
    obtain ⟨cs, h1, h2⟩ := closedA ar_Z
    exact reckonQ_ok noNG ar3_ok noLoop_low (noLoop_ok _) _ _ _ _ rfl h2 h1 H lr
  have lr : LR (upd (placeG [] w) 0 ⟨bl, off, tot, none⟩) [.slice (some ⟨0, 0, none⟩) n c] [.slice (some ⟨bl, off, none⟩) n c] :=
    LR.cons (VR.slice (a := ⟨0, 0, none⟩) (p := ⟨bl, off, tot, none⟩) rfl (upd_same _ _ _) rfl) (LR.nil _)
  by_cases c1 : n ≤ 100
  · have hA := arL_of hll hok
    have hF := arL_flat hll hA
    obtain ⟨a, b, d, β, G1, G2, q⟩ := ar_loop (cp := c) hF hll c1 hA
    have H := HR.withSlice (cs := l) hL hsh (by rw [hll]; exact hfit (by omega)) (by rw [hll]; exact hfr) (fun o v hv => ⟨hcl o v hv, List.all_eq_true.1 hF v (List.mem_of_getElem? hv)⟩) (fun i o hi => by simp at hi)
    exact reckonQ_ok noNG ar3_ok (loopQHook_low _) (loopQHook_ok (fun e he => by rw [List.mem_singleton.1 he]; exact q)) _ _ _ _ rfl (ar_L l n c a b d a b d β G1 G2) (AE.cons (b0 (by omega)) (AE.cons rfl (AE.cons rfl (AE.cons rfl (AE.cons rfl (AE.consP (prP_ok rfl) (AE.consP (prP_ok rfl) AE.nil))))))) H lr
  · have H := HR.withPl (pl := ⟨bl, off, tot, none⟩) hL hb (by intro h; cases h)
    exact reckonQ_ok noNG ar3_ok noLoop_low (noLoop_ok _) _ _ _ _ rfl (ar_G n c) (AE.cons (b1 (by omega)) AE.nil) H lr
end Go.Proofs.Ytafegjmaldbbiaa.Ex
