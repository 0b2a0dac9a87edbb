/-
  The law HelpersDraws: its loop.
-/
import Derived.Test.YtbjiicjmlbocdaaDoorHdc
namespace Go.Proofs.YtbjiicjmlbocdaaDoor.Ex
open Go Go.RowKit
set_option maxHeartbeats 0
set_option maxRecDepth 1000000
set_option linter.unusedVariables false
set_option linter.unusedSectionVars false
theorem okR_cond {q : Nat} {b : Bool} {x y : Value} (hx : okR q x = true) (hy : okR q y = true) : okR q (bif b then x else y) = true := by cases b; exact hy; exact hx
theorem hdU_fl {q n c cp : Nat} {a i : Int} {β : Nat → Value} (hq : 35 ≤ q) (hcp : cp < q) (h : FlR q β) : FlR q (hdU n c cp a i β) := by
  intro k
  have p1 : ∀ m, m < q → okR q (.pointer (some ⟨m, 0, none⟩)) = true := fun m hm => by unfold okR refF; exact decide_eq_true hm
  have p2 : okR q (.slice (some ⟨1, 0, none⟩) n c) = true := by unfold okR refF; exact decide_eq_true (show 1 < q by omega)
  unfold hdU
  exact okR_cond rfl (okR_cond p2 (okR_cond rfl (okR_cond rfl (okR_cond rfl (okR_cond rfl (okR_cond rfl (okR_cond rfl (okR_cond rfl (okR_cond (p1 34 (by omega)) (okR_cond (p1 cp hcp) (okR_cond rfl (h k))))))))))))
theorem roomB_mono {i : TypeInfo} {m k : Nat} (h : roomB i m = true) (hk : k ≤ m) : roomB i k = true := by
  simp only [roomB, Bool.and_eq_true, decide_eq_true_eq] at h ⊢
  obtain ⟨⟨⟨h1, h2⟩, h3⟩, h4⟩ := h
  refine ⟨⟨⟨h1, Nat.le_trans (Nat.mul_le_mul_right _ (by omega)) h2⟩, by omega⟩, h4⟩
theorem hdT_dead (n c : Nat) (a i : Int) : deadAt hdDs (hdT n c a i fun _ => .bool true) = true := by kernel_rfl
theorem kv_one {v : Value} (h : isKV .u64 v = true) : v.oneCell' = true := by rw [isKV_eq h]; rfl
theorem hdTk_all {cs : List Value} (h : cs.all (isKV .u64) = true) (o r : Nat) : (hdTk cs o r).all (isKV .u64) = true :=
  List.all_eq_true.2 fun v hv => List.all_eq_true.1 h v (List.mem_of_mem_drop (List.mem_of_mem_take hv))
theorem DrOk.len {n : Nat} {ps xs : List Value} (h : DrOk n ps xs 0) : n ≤ xs.length := by
  rcases Nat.eq_zero_or_pos n with rfl | hn
  · omega
  · have := (h.at' (n - 1) (by omega)).1
    omega
theorem DrOk.tk {n : Nat} {ps cs : List Value} (h : DrOk n ps cs 0) (i : Nat) : DrOk n ps (hdTk cs i (n - i)) i := by
  refine ⟨hdTk_all h.all _ _, fun j hj => ?_⟩
  have hl := h.len
  obtain ⟨_, h2⟩ := h.at' (i + j) (by omega)
  refine ⟨by unfold hdTk; rw [List.length_take, List.length_drop]; omega, ?_⟩
  rw [Nat.zero_add] at h2
  rw [← h2]
  unfold hdTk
  simp only [List.getD_eq_getElem?_getD]
  rw [List.getElem?_take_of_lt (by omega), List.getElem?_drop]
theorem clP_ok {n : Nat} {ps cs : List Value} (h : DrOk n ps cs 0) (hn : n ≤ 100) {o r : Nat} (h1 : 0 < r) (h2 : o + r ≤ n) : AE (clP cs o r) := by
  have hl := h.len
  have ha := hdTk_all h.all o r
  refine AE.cons (bt ?_) (AE.cons rfl (AE.cons (bt ?_) AE.nil))
  · rw [decide_eq_true h1, decide_eq_true (show o + r ≤ cs.length by omega), roomB_mono (m := 100) (by kernel_rfl) (by omega)]
    simp only [Bool.true_and, Bool.and_true]
    exact List.all_eq_true.2 fun v hv => kv_one (List.all_eq_true.1 ha v hv)
  · exact List.all_eq_true.2 fun v hv => isKV_scal (List.all_eq_true.1 ha v hv)
theorem eqP_ok (e : LoopQ) : AE (eqP e) := AE.prp rfl (AE.prp rfl AE.nil)
section
variable {n c : Nat} {a : Int} {ps cs : List Value} (hn : n ≤ 100) (h0 : DrOk n ps ps 0) (hC : DrOk n ps cs 0) (ha : 0 ≤ a ∧ a < 256)
include hn h0 hC ha
/-- What is asked of what stands behind the core. -/
structure TailOk (n c : Nat) (a : Int) (ps cs : List Value) (dv : Value) (Y : List AO) (q : Nat) : Prop where
  len : (hdC n c ps cs dv ++ Y).length = q
  dead : deadB (hdC n c ps cs dv ++ Y) = true
  refs : ∀ i, hopC (hdT n c a i fun _ => .bool true) (hdC n c ps cs dv ++ Y) = true
omit h0 hC in
/-- No draws are left, and nothing more is copied. -/
theorem hd_endB {dv : Value} {Y : List AO} {q : Nat} (hq : 35 ≤ q) (T : TailOk n c a ps cs dv Y q)
    (hB : ∀ (i : Int) (β : Nat → Value), (hopRunL Tryd.prog hd3 (hdO i 0 false false true false) noLoop hdF hdLO 1 q [] (hdT n c a i β) (hdC n c ps cs dv ++ Y)).map (fun r => (maskR q hdDs r.1, r.2)) = some (hdT n c a (i + 1) fun k => bif hdCh k then .bool true else .bool (okR q (β k)), hdC n c ps cs dv ++ Y, none, inter (rdB n a i)))
    (hS : ∀ (i : Int) (β : Nat → Value), (stopRunL Tryd.prog hd3 (hdO i 0 false false false false) noLoop hdF hdLO 1 q [] (hdT n c a i β) (hdC n c ps cs dv ++ Y)).map (fun r => (r.1, r.2.map fun r => (maskR q hdDs r.1, r.2))) = some (.exit 0, some (hdT n c a i fun k => bif Nat.ble 44 k && Nat.ble k 48 then .bool true else .bool (okR q (β k)), hdC n c ps cs dv ++ Y, none, inter [(b2i (decide (i < wi (n + 3))), 0)]))) :
    ∀ (d i : Nat) (β : Nat → Value), FlR q β → n ≤ i → i + d = n + 3 → (∀ k : Nat, i ≤ k → k < n + 3 → ((k : Int) == a) = false) →
    ∃ β', FlR q β' ∧ StopQ Tryd.prog hdLO (d + 1) q (hdT n c a (i : Int) β) (hdC n c ps cs dv ++ Y) (.exit 0) (hdT n c a ((n + 3 : Nat) : Int) β') (hdC n c ps cs dv ++ Y) (none, [])
  | 0, i, β, hβ, h1, h2, hx => by
    obtain rfl : i = n + 3 := by omega
    have hp : AE [(b2i (decide (((n + 3 : Nat) : Int) < wi ((n : Int) + 3))), 0)] := AE.cons (b0 (by rw [wi_id (by omega) (by omega)]; omega)) AE.nil
    exact stopR0_ok noNG hd3_ok noLoop_low (noLoop_ok _) hd_oneO (hdT_un n c a _) _ hβ (hS _ β) T.len (by omega) (hdT_dead ..) T.dead (T.refs _) hp
  | d + 1, i, β, hβ, h1, h2, hx => by
    obtain ⟨β1, f1, q1⟩ := hopR0_ok noNG hd3_ok noLoop_low (noLoop_ok _) hd_oneO (hdT_un n c a _) hdCh hβ (hB (i : Int) β) T.len (by omega) (hdT_dead ..) T.dead (T.refs _) (rdB_ok hn ha h1 (by omega) (hx i (by omega) (by omega)))
    rw [show (i : Int) + 1 = ((i + 1 : Nat) : Int) by omega] at q1
    obtain ⟨β2, f2, q2⟩ := hd_endB hq T hB hS d (i + 1) β1 f1 (by omega) (by omega) (fun k hk => hx k (by omega))
    refine ⟨β2, f2, ?_⟩
    have h := q1.stop q2 (fun _ _ h => h) (fun _ _ h => h)
    rw [show 1 + (d + 1) = d + 1 + 1 by omega] at h
    exact h
/-- Rounds with draws left, where nothing is copied. -/
theorem hd_runA {Y : List AO} {q : Nat} (hq : 35 ≤ q) (T : ∀ o r, TailOk n c a ps cs (sl 33 o r) Y q)
    (hA : ∀ (o r : Nat) (i : Int) (β : Nat → Value), (hopRunL Tryd.prog hd3 (hdO i 0 false true true false) noLoop hdF hdLO 1 q [] (hdT n c a i β) (hdC n c ps cs (sl 33 o r) ++ Y)).map (fun r => (maskR q hdDs r.1, r.2)) = some (hdT n c a (i + 1) fun k => bif hdCh k then .bool true else .bool (okR q (β k)), hdC n c ps cs (sl 33 (o + 1) (r - 1)) ++ Y, some 34, inter (rdA n a ps cs o r i))) :
    ∀ (d i : Nat) (β : Nat → Value), FlR q β → i + d < n → (∀ k : Nat, i ≤ k → k < i + d → ((k : Int) == a) = false) →
    ∃ β', FlR q β' ∧ HopQ Tryd.prog hdLO d q (hdT n c a (i : Int) β) (hdC n c ps cs (sl 33 i (n - i)) ++ Y) (hdT n c a ((i + d : Nat) : Int) β') (hdC n c ps cs (sl 33 (i + d) (n - (i + d))) ++ Y) (some 33, [])
  | 0, i, β, hβ, h1, hx => ⟨β, hβ, HopQ.zero _ _ _ _⟩
  | d + 1, i, β, hβ, h1, hx => by
    obtain ⟨β1, f1, q1⟩ := hopR0_ok noNG hd3_ok noLoop_low (noLoop_ok _) hd_oneO (hdT_un n c a _) hdCh hβ (hA i (n - i) (i : Int) β) (T _ _).len (by omega) (hdT_dead ..) (T _ _).dead ((T _ _).refs _) (rdA_ok hn h0 hC ha (by omega) (hx i (by omega) (by omega)))
    rw [show (i : Int) + 1 = ((i + 1 : Nat) : Int) by omega, show n - i - 1 = n - (i + 1) by omega] at q1
    obtain ⟨β2, f2, q2⟩ := hd_runA hq T hA d (i + 1) β1 f1 (by omega) (fun k hk hk2 => hx k (by omega) (by omega))
    refine ⟨β2, f2, ?_⟩
    have hle : loB q (some 34) (some 33) = true := by show (Nat.ble q 34 || Nat.ble 33 34) = true; rw [show Nat.ble 33 34 = true from rfl, Bool.or_true]
    have h := (q1.weak (bndW hle)).trans q2 (fun _ _ h => h) (fun _ _ h => h)
    rw [show i + 1 + d = i + (d + 1) by omega, show 1 + d = d + 1 by omega] at h
    exact h
/-- The last draw. -/
theorem hd_runL {Y : List AO} {q m : Nat} (hq : 35 ≤ q) (T : TailOk n c a ps cs (sl m 0 0) (Y ++ hdG) (q + 2))
    (hL : ∀ (o : Nat) (i : Int) (β : Nat → Value), (hopRunL Tryd.prog hd3 (hdO1 i 0 false true true false) noLoop hdF hdLO 1 (q + 2) [] (hdT n c a i β) (hdC n c ps cs (sl 33 o 1) ++ Y)).map (fun r => (maskR q hdDs r.1, r.2)) = some (hdT n c a (i + 1) fun k => bif hdCh k then .bool true else .bool (okR q (β k)), hdC n c ps cs (sl m 0 0) ++ (Y ++ hdG), some 33, inter (rdL n a ps cs o i)))
    (i : Nat) (β : Nat → Value) (hβ : FlR q β) (hi : i + 1 = n) (hx : ((i : Int) == a) = false) :
    ∃ β', FlR q β' ∧ HopQ Tryd.prog hdLO 1 q (hdT n c a (i : Int) β) (hdC n c ps cs (sl 33 i (n - i)) ++ Y) (hdT n c a (n : Int) β') (hdC n c ps cs (sl m 0 0) ++ (Y ++ hdG)) (some 33, []) := by
  obtain ⟨β1, f1, q1⟩ := hopR0_ok noNG hd3_ok noLoop_low (noLoop_ok _) hd_oneO (hdT_un n c a _) hdCh hβ (hL i (i : Int) β) T.len (by omega) (hdT_dead ..) T.dead (T.refs _) (rdL_ok hn h0 hC ha (by omega) hx)
  rw [show (i : Int) + 1 = (n : Int) by omega] at q1
  rw [show n - i = 1 by omega]
  exact ⟨β1, f1, q1.shrink (by omega)⟩
end
theorem yA_eq (ds : List Value) : hdX (fun k => (hdYA ds).getD k dead) 17 0 = hdYA ds := by kernel_rfl
theorem yAL_eq (ds : List Value) : hdX (fun k => (hdYA ds ++ hdG).getD k dead) 19 0 = hdYA ds ++ hdG := by kernel_rfl
theorem yB_eq : hdX (fun k => hdYB.getD k dead) 16 0 = hdYB := by kernel_rfl
theorem yG_eq : hdX (fun k => hdG.getD k dead) 2 0 = hdG := by kernel_rfl
section
variable {n c : Nat} {a : Int} {ps cs : List Value} (hn : n ≤ 100) (h0 : DrOk n ps ps 0) (hC : DrOk n ps cs 0) (ha : 0 ≤ a ∧ a < 256)
include h0 hC
theorem t_0 (o r : Nat) : TailOk n c a ps cs (sl 33 o r) [] 35 :=
  ⟨by kernel_rfl, by kernel_rfl, fun i => hopC_hd 35 (by kernel_rfl) h0.all hC.all (by kernel_rfl) (by kernel_rfl) (by kernel_rfl)⟩
theorem t_G : TailOk n c a ps cs (sl 36 0 0) hdG 37 :=
  ⟨by kernel_rfl, by kernel_rfl, fun i => hopC_hd 37 (by kernel_rfl) h0.all hC.all (by kernel_rfl) (by kernel_rfl) (by kernel_rfl)⟩
theorem t_B : TailOk n c a ps cs (sl 36 0 0) hdYB 51 :=
  ⟨by kernel_rfl, by kernel_rfl, fun i => hopC_hd 51 (by kernel_rfl) h0.all hC.all (by kernel_rfl) (by kernel_rfl) (by kernel_rfl)⟩
theorem t_A {ds : List Value} (hd : ds.all (isKV .u64) = true) (o r : Nat) : TailOk n c a ps cs (sl 33 o r) (hdYA ds) 52 :=
  ⟨by kernel_rfl, by kernel_rfl, fun i => hopC_hd 52 (by kernel_rfl) h0.all hC.all (by kernel_rfl) (by kernel_rfl) (kv_all hd (by kernel_rfl) (by kernel_rfl))⟩
theorem t_AL {ds : List Value} (hd : ds.all (isKV .u64) = true) : TailOk n c a ps cs (sl 53 0 0) (hdYA ds ++ hdG) 54 :=
  ⟨by kernel_rfl, by kernel_rfl, fun i => hopC_hd 54 (by kernel_rfl) h0.all hC.all (by kernel_rfl) (by kernel_rfl) (by
    rw [List.all_append, show (hdYA ds).all (refO fun x => decide (x < 54)) = true from kv_all hd (by kernel_rfl) (by kernel_rfl), Bool.true_and]
    kernel_rfl)⟩
include hn ha
/-- Rounds with no draws left, ahead of the copy. -/
theorem hd_runB : ∀ (d i : Nat) (β : Nat → Value), FlR 37 β → n ≤ i → i + d ≤ n + 3 → (∀ k : Nat, i ≤ k → k < i + d → ((k : Int) == a) = false) →
    ∃ β', FlR 37 β' ∧ HopQ Tryd.prog hdLO d 37 (hdT n c a (i : Int) β) (hdC n c ps cs (sl 36 0 0) ++ hdG) (hdT n c a ((i + d : Nat) : Int) β') (hdC n c ps cs (sl 36 0 0) ++ hdG) (some 33, [])
  | 0, i, β, hβ, h1, h2, hx => ⟨β, hβ, HopQ.zero _ _ _ _⟩
  | d + 1, i, β, hβ, h1, h2, hx => by
    have T := t_G (c := c) (a := a) h0 hC
    have hr := hd_B2 n c a ps cs 0 0 36 (i : Int) β (fun k => hdG.getD k dead)
    rw [yG_eq] at hr
    obtain ⟨β1, f1, q1⟩ := hopR0_ok noNG hd3_ok noLoop_low (noLoop_ok _) hd_oneO (hdT_un n c a _) hdCh hβ hr T.len (by omega) (hdT_dead ..) T.dead (T.refs _) (rdB_ok hn ha h1 (by omega) (hx i (by omega) (by omega)))
    rw [show (i : Int) + 1 = ((i + 1 : Nat) : Int) by omega] at q1
    obtain ⟨β2, f2, q2⟩ := hd_runB d (i + 1) β1 f1 (by omega) (by omega) (fun k hk hk2 => hx k (by omega) (by omega))
    refine ⟨β2, f2, ?_⟩
    have h := (q1.weak (bndW (lo3 := some 33) rfl)).trans q2 (fun _ _ h => h) (fun _ _ h => h)
    rw [show i + 1 + d = i + (d + 1) by omega, show 1 + d = d + 1 by omega] at h
    exact h
/-- The round that copies, where draws are left behind it. -/
theorem hd_cpA (i : Nat) (hi : i + 1 < n) (hx : ((i : Int) == a) = true) (β : Nat → Value) (hβ : FlR 35 β) :
    ∃ β', FlR 52 β' ∧ HopQ Tryd.prog hdLO 1 35 (hdT n c a (i : Int) β) (hdC n c ps cs (sl 33 i (n - i))) (hdT n c a ((i + 1 : Nat) : Int) β') (hdC n c ps cs (sl 33 (i + 1) (n - (i + 1))) ++ hdYA (hdTk cs i (n - i))) (some 33, []) := by
  obtain ⟨γ, fγ, L⟩ := hi_loop (c := c) (a := a) hn h0 hC.all (hC.tk i) (i : Int) i (n - i) (by omega) (hdU n c 49 a i β) (hdU_fl (by omega) (by omega) (hβ.mono (by omega)))
  have L' : LoopQOk Tryd.prog (hdQA n c a (i : Int) ((n + 2 : Nat) : Int) ps cs i (n - i) β γ) := L
  have T := t_A (n := n) (c := c) (a := a) h0 hC (hdTk_all hC.all i (n - i)) (i + 1) (n - i - 1)
  obtain ⟨β1, f1, q1⟩ := hopR0_ok noNG hd3_ok (loopQHook_low _) (loopQHook_ok (fun e he => by rw [List.mem_singleton.1 he]; exact L')) hd_oneO (hdT_un n c a _) hdCc fγ (hc_A n c a ps cs i (n - i) (i : Int) ((n + 2 : Nat) : Int) β γ) T.len (by omega) (hdT_dead ..) T.dead (T.refs _)
    ((hdHd_ok hn (by omega) ha hx).app ((clP_ok hC hn (by omega) (by omega)).app ((eqP_ok _).app ((drA_ok hC (j := i) (by omega) (by omega)).app ((laL_ok h0 hC (j := i) (by omega) (by omega)).app (nx_ok (by omega)))))))
  rw [show (i : Int) + 1 = ((i + 1 : Nat) : Int) by omega, show n - i - 1 = n - (i + 1) by omega] at q1
  exact ⟨β1, f1, (q1.shrink (by omega)).weak (bndW (lo3 := some 33) rfl)⟩
/-- The round that copies, with one draw left. -/
theorem hd_cpL (i : Nat) (hi : i + 1 = n) (hx : ((i : Int) == a) = true) (β : Nat → Value) (hβ : FlR 35 β) :
    ∃ β', FlR 52 β' ∧ HopQ Tryd.prog hdLO 1 35 (hdT n c a (i : Int) β) (hdC n c ps cs (sl 33 i (n - i))) (hdT n c a (n : Int) β') (hdC n c ps cs (sl 53 0 0) ++ (hdYA (hdTk cs i 1) ++ hdG)) (some 33, []) := by
  have e1 : n - i = 1 := by omega
  obtain ⟨γ, fγ, L⟩ := hi_loop (c := c) (a := a) hn h0 hC.all (hC.tk i) (i : Int) i (n - i) (by omega) (hdU n c 49 a i β) (hdU_fl (by omega) (by omega) (hβ.mono (by omega)))
  rw [e1] at L ⊢
  have L' : LoopQOk Tryd.prog (hdQA n c a (i : Int) ((n + 2 : Nat) : Int) ps cs i 1 β γ) := L
  have T := t_AL (n := n) (c := c) (a := a) h0 hC (hdTk_all hC.all i 1)
  obtain ⟨β1, f1, q1⟩ := hopR0_ok noNG hd3_ok (loopQHook_low _) (loopQHook_ok (fun e he => by rw [List.mem_singleton.1 he]; exact L')) hd_oneO (hdT_un n c a _) hdCc fγ (hc_L n c a ps cs i 0 (i : Int) ((n + 2 : Nat) : Int) β γ) T.len (by omega) (hdT_dead ..) T.dead (T.refs _)
    ((hdHd_ok hn (by omega) ha hx).app ((clP_ok hC hn (by omega) (by omega)).app ((eqP_ok _).app ((drL_ok hC (j := i) (by omega)).app ((laL_ok h0 hC (j := i) (by omega) (by omega)).app (nx_ok (by omega)))))))
  rw [show (i : Int) + 1 = (n : Int) by omega] at q1
  exact ⟨β1, f1, (q1.shrink (by omega)).weak (bndW (lo3 := some 33) rfl)⟩
/-- The round that copies, with none left. -/
theorem hd_cpB (i : Nat) (hi : n ≤ i) (hi2 : i < n + 3) (hx : ((i : Int) == a) = true) (β : Nat → Value) (hβ : FlR 37 β) :
    ∃ β', FlR 51 β' ∧ HopQ Tryd.prog hdLO 1 37 (hdT n c a (i : Int) β) (hdC n c ps cs (sl 36 0 0) ++ hdG) (hdT n c a ((i + 1 : Nat) : Int) β') (hdC n c ps cs (sl 36 0 0) ++ hdYB) (some 33, []) := by
  obtain ⟨γ, fγ, S⟩ := hi_loopB (c := c) (a := a) hn h0.all hC.all (i : Int) (n + 2 - i) i (hdU n c 50 a i β) (hdU_fl (by omega) (by omega) (hβ.mono (by omega))) hi (by omega)
  have L' : LoopQOk Tryd.prog (hdQB n c a (i : Int) ((n + 2 : Nat) : Int) ps cs β γ) := loopQ_ok (N := n + 2 - i + 1) hd_oneI (S.stop (by kernel_rfl))
  have T := t_B (n := n) (c := c) (a := a) h0 hC
  obtain ⟨β1, f1, q1⟩ := hopR0_ok noNG hd3_ok (loopQHook_low _) (loopQHook_ok (fun e he => by rw [List.mem_singleton.1 he]; exact L')) hd_oneO (hdT_un n c a _) hdCc fγ (hc_B n c a ps cs 0 0 (i : Int) ((n + 2 : Nat) : Int) β γ) T.len (by omega) (hdT_dead ..) T.dead (T.refs _)
    ((hdHd_ok hn (by omega) ha hx).app ((eqP_ok _).app ((laG_ok hi).app (nx_ok (by omega)))))
  rw [show (i : Int) + 1 = ((i + 1 : Nat) : Int) by omega] at q1
  exact ⟨β1, f1, (q1.shrink (by omega)).weak (bndW (lo3 := some 33) rfl)⟩
/-- Behind the copy. -/
theorem hd_endAL {ds : List Value} (hd : ds.all (isKV .u64) = true) (β : Nat → Value) (hβ : FlR 54 β) (hx : ∀ k : Nat, n ≤ k → k < n + 3 → ((k : Int) == a) = false) :
    ∃ β', FlR 54 β' ∧ StopQ Tryd.prog hdLO 4 54 (hdT n c a (n : Int) β) (hdC n c ps cs (sl 53 0 0) ++ (hdYA ds ++ hdG)) (.exit 0) (hdT n c a ((n + 3 : Nat) : Int) β') (hdC n c ps cs (sl 53 0 0) ++ (hdYA ds ++ hdG)) (none, []) :=
  hd_endB hn ha (by omega) (t_AL h0 hC hd)
    (fun i β => by have h := hd_B19 n c a ps cs 0 0 53 i β (fun k => (hdYA ds ++ hdG).getD k dead); rw [yAL_eq] at h; exact h)
    (fun i β => by have h := hd_S19 n c a ps cs 53 i β (fun k => (hdYA ds ++ hdG).getD k dead); rw [yAL_eq] at h; exact h) 3 n β hβ (by omega) (by omega) hx
/-- The loop. -/
theorem hd_loop (hn1 : 1 ≤ n) (β : Nat → Value) (hβ : FlR 35 β) :
    ∃ N β' dv Y, StopQ Tryd.prog hdLO N 35 (hdT n c a 0 β) (hdC n c ps cs (sl 33 0 n)) (.exit 0) (hdT n c a ((n + 3 : Nat) : Int) β') (hdC n c ps cs dv ++ Y) (some 33, []) := by
  obtain ⟨A, rfl⟩ : ∃ A : Nat, a = (A : Int) := ⟨a.toNat, by omega⟩
  have ne : ∀ k : Nat, k ≠ A → (((k : Int) == (A : Int)) = false) := fun k h => beq_eq_false_iff_ne.2 (by omega)
  have eq : (((A : Int) == (A : Int)) = true) := by simp
  have ahead : ∀ m, m < n → m ≤ A → ∃ β', FlR 35 β' ∧ HopQ Tryd.prog hdLO m 35 (hdT n c A 0 β) (hdC n c ps cs (sl 33 0 n)) (hdT n c A (m : Int) β') (hdC n c ps cs (sl 33 m (n - m))) (some 33, []) := by
    intro m h1 h2
    obtain ⟨β1, f1, q1⟩ := hd_runA (c := c) hn h0 hC ha (Y := []) (by omega) (t_0 h0 hC) (fun o r i β => by simp only [List.append_nil]; exact hd_A0 n c A ps cs o r 0 i β fun _ => dead) m 0 β hβ (by omega) (fun k hk hk2 => ne k (by omega))
    simp only [List.append_nil, Nat.zero_add, Nat.sub_zero] at q1
    exact ⟨β1, f1, q1⟩
  have fin : ∀ {q N : Nat} {t : List Value} {h : List AO} {t' : List Value} {h' : List AO}, 35 ≤ q → StopQ Tryd.prog hdLO N q t h (.exit 0) t' h' (none, []) → StopQ Tryd.prog hdLO N 35 t h (.exit 0) t' h' (some 33, []) := fun hq s => (s.shrink hq).weak (bndW rfl)
  by_cases c1 : A + 1 < n
  · obtain ⟨β1, f1, q1⟩ := ahead A (by omega) (by omega)
    obtain ⟨β2, f2, q2⟩ := hd_cpA (c := c) hn h0 hC ha A c1 eq β1 f1
    have hd := hdTk_all hC.all A (n - A)
    obtain ⟨β3, f3, q3⟩ := hd_runA (c := c) hn h0 hC ha (Y := hdYA (hdTk cs A (n - A))) (by omega) (t_A h0 hC hd) (fun o r i β => by have h := hd_A17 n c A ps cs o r 0 i β (fun k => (hdYA (hdTk cs A (n - A))).getD k dead); rw [yA_eq] at h; exact h) (n - 1 - (A + 1)) (A + 1) β2 f2 (by omega) (fun k hk hk2 => ne k (by omega))
    rw [show A + 1 + (n - 1 - (A + 1)) = n - 1 by omega] at q3
    obtain ⟨β4, f4, q4⟩ := hd_runL (c := c) hn h0 hC ha (q := 52) (m := 53) (by omega) (t_AL h0 hC hd) (fun o i β => by have h := hd_L17 n c A ps cs o 0 0 i β (fun k => (hdYA (hdTk cs A (n - A))).getD k dead); rw [yA_eq, List.append_assoc] at h; exact h) (n - 1) β3 f3 (by omega) (ne _ (by omega))
    obtain ⟨β5, f5, q5⟩ := hd_endAL (c := c) hn h0 hC ha hd β4 (f4.mono (by omega)) (fun k hk hk2 => ne k (by omega))
    exact ⟨_, β5, _, _, (((q1.trans q2 (fun _ _ h => h) (fun _ _ h => h)).trans (q3.shrink (by omega)) (fun _ _ h => h) (fun _ _ h => h)).trans (q4.shrink (by omega)) (fun _ _ h => h) (fun _ _ h => h)).stop (fin (by omega) q5) (fun _ _ h => h) (fun _ _ h => h)⟩
  obtain ⟨β1, f1, q1⟩ := ahead (n - 1) (by omega) (by omega)
  by_cases c2 : A + 1 = n
  · obtain rfl : A = n - 1 := by omega
    obtain ⟨β2, f2, q2⟩ := hd_cpL (c := c) hn h0 hC ha (n - 1) c2 eq β1 f1
    obtain ⟨β5, f5, q5⟩ := hd_endAL (c := c) hn h0 hC ha (hdTk_all hC.all (n - 1) 1) β2 (f2.mono (by omega)) (fun k hk hk2 => ne k (by omega))
    exact ⟨_, β5, _, _, (q1.trans q2 (fun _ _ h => h) (fun _ _ h => h)).stop (fin (by omega) q5) (fun _ _ h => h) (fun _ _ h => h)⟩
  obtain ⟨β2, f2, q2⟩ := hd_runL (c := c) hn h0 hC ha (q := 35) (m := 36) (Y := []) (by omega) (by rw [List.nil_append]; exact t_G h0 hC) (fun o i β => by simp only [List.append_nil, List.nil_append]; exact hd_L0 n c A ps cs o 0 0 i β fun _ => dead) (n - 1) β1 f1 (by omega) (ne _ (by omega))
  simp only [List.append_nil, List.nil_append] at q2
  have q12 := q1.trans q2 (fun _ _ h => h) (fun _ _ h => h)
  by_cases c3 : A < n + 3
  · obtain ⟨β3, f3, q3⟩ := hd_runB (c := c) hn h0 hC ha (A - n) n β2 (f2.mono (by omega)) (by omega) (by omega) (fun k hk hk2 => ne k (by omega))
    rw [show n + (A - n) = A by omega] at q3
    obtain ⟨β4, f4, q4⟩ := hd_cpB (c := c) hn h0 hC ha A (by omega) c3 eq β3 f3
    obtain ⟨β5, f5, q5⟩ := hd_endB (c := c) hn ha (by omega) (t_B h0 hC)
      (fun i β => by have h := hd_B16 n c A ps cs 0 0 36 i β (fun k => hdYB.getD k dead); rw [yB_eq] at h; exact h)
      (fun i β => by have h := hd_S16 n c A ps cs 36 i β (fun k => hdYB.getD k dead); rw [yB_eq] at h; exact h) (n + 3 - (A + 1)) (A + 1) β4 f4 (by omega) (by omega) (fun k hk hk2 => ne k (by omega))
    exact ⟨_, β5, _, _, ((q12.trans (q3.shrink (by omega)) (fun _ _ h => h) (fun _ _ h => h)).trans (q4.shrink (by omega)) (fun _ _ h => h) (fun _ _ h => h)).stop (fin (by omega) q5) (fun _ _ h => h) (fun _ _ h => h)⟩
  · obtain ⟨β5, f5, q5⟩ := hd_endB (c := c) hn ha (by omega) (t_G h0 hC)
      (fun i β => by have h := hd_B2 n c A ps cs 0 0 36 i β (fun k => hdG.getD k dead); rw [yG_eq] at h; exact h)
      (fun i β => by have h := hd_S2 n c A ps cs 36 i β (fun k => hdG.getD k dead); rw [yG_eq] at h; exact h) 3 n β2 (f2.mono (by omega)) (by omega) (by omega) (fun k hk hk2 => ne k (by omega))
    exact ⟨_, β5, _, _, q12.stop (fin (by omega) q5) (fun _ _ h => h) (fun _ _ h => h)⟩
end
end Go.Proofs.YtbjiicjmlbocdaaDoor.Ex
