/-
  The law HelpersDraws, for every slice that is handed in.
-/
import Derived.Test.YtbjiicjmlbocdaaDoorHdRz
import Derived.Test.YtbjiicjmlbocdaaDoorHdRy
import Derived.Test.YtbjiicjmlbocdaaDoorHdRn
import Derived.Test.YtbjiicjmlbocdaaDoorSlice
namespace Go.Proofs.YtbjiicjmlbocdaaDoor.Ex
open Go Go.RowKit
set_option maxHeartbeats 400000
set_option maxRecDepth 1000000
set_option linter.unusedVariables false
set_option linter.unusedSectionVars false
theorem hdE0_eq (n c : Nat) (a : Int) : hdT n c a 0 (fun k => (hdE0 n c a).getD k (.bool true)) = hdE0 n c a := by kernel_rfl
theorem hdE0_fl (n c : Nat) (a : Int) : FlR 35 (fun k => (hdE0 n c a).getD k (.bool true)) := by
  have h : (hdE0 n c a).all (okR 35) = true := by kernel_rfl
  intro k
  show okR 35 ((hdE0 n c a).getD k (.bool true)) = true
  rw [List.getD_eq_getElem?_getD]
  cases e : (hdE0 n c a)[k]? with
  | none => rfl
  | some v => exact List.all_eq_true.1 h v (List.mem_of_getElem? e)
theorem dr_self {n : Nat} {ps : List Value} (h : ps.all (isKV .u64) = true) (hl : ps.length = n) : DrOk n ps ps 0 :=
  ⟨h, fun j hj => ⟨by omega, by rw [Nat.zero_add]⟩⟩
theorem dr_take {n : Nat} {ps : List Value} (h : DrOk n ps ps 0) : DrOk n ps (hdTk ps 0 n) 0 := by
  have := h.tk 0
  rwa [Nat.sub_zero] at this
theorem ints_kv (l : List Int) : (l.map (Value.int .u64)).all (isKV .u64) = true := List.all_eq_true.2 fun v hv => by
  obtain ⟨x, _, rfl⟩ := List.mem_map.1 hv
  rfl
theorem u8_rng {a : Int} (h : (Lit.int .u8 a).wf = true) : 0 ≤ a ∧ a < 256 := by
  simp [Lit.wf, IntKind.min, IntKind.max, IntKind.signed, IntKind.bits] at h
  omega
theorem hd_gen {n c : Nat} {a : Int} {ps : List Value} (h1 : 1 ≤ n) (hn : n ≤ 100) (ha : 0 ≤ a ∧ a < 256) (h : ps.all (isKV .u64) = true) (hl : ps.length = n) {w : World} {s : Ren} (H : HR w (h09.length + 1) s (h09 ++ [(⟨true, none, ps⟩ : AO)]) w) {args' : List Value} (hA : LR s [.slice (some ⟨1, 0, none⟩) n c, .int .u8 a] args') :
    Calls Tryd.prog 3 ⟨args'⟩ w fun e w' => e = .returned (.bool true) ∧ Gr w w' := by
  have h0 := dr_self h hl
  have hC := dr_take h0
  obtain ⟨N, β', dv, Y, S⟩ := hd_loop (c := c) hn h0 hC ha h1 _ (hdE0_fl n c a)
  rw [hdE0_eq] at S
  have L : LoopQOk Tryd.prog (hdLq n c a ps ((n + 3 : Nat) : Int) β' dv Y) := loopQ_ok (N := N) hd_oneO (S.stop (by kernel_rfl))
  exact reckonQ_ok noNG hd3_ok (loopQHook_low _) (loopQHook_ok (fun e he => by rw [List.mem_singleton.1 he]; exact L)) _ _ _ _ rfl (hd_run n c a ps _ β' dv Y)
    (AE.app (AE.cons (b0 (by omega)) (AE.cons (b0 (by omega)) (AE.cons rfl (AE.cons rfl AE.nil)))) ((clP_ok h0 hn (by omega) (by omega)).app (eqP_ok _))) H hA
theorem sl_lr {s : Ren} {p : Pl} {n c c' : Nat} {a : Int} (hs : s 1 = some p) (hc : CapOk p 0 n c c') : LR s [.slice (some ⟨1, 0, none⟩) n c, .int .u8 a] [.slice (some ⟨p.blk, p.off + 0, none⟩) n c', .int .u8 a] :=
  LR.cons (VR.slice (a := ⟨1, 0, none⟩) rfl hs hc) (LR.cons (VR.same rfl) (LR.nil s))
theorem law_draws {v : Value} {a : Int} {w : World} (hT : TabAt w) (hS : SlOf .u64 w v) (wa : (Lit.int .u8 a).wf = true) :
    Calls Tryd.prog 3 #[v, .int .u8 a] w fun e w' => e = .returned (.bool true) ∧ Gr w w' := by
  have ha := u8_rng wa
  have hL := laid_of_tab hT
  rcases hS with rfl | ⟨b, off, n, c, tot, T, l, rfl, hlc, hsh, hll, hfit, hfr, hcl⟩
  · have lr : LR (placeG h09 w) [.slice none 0 0, .int .u8 a] [.slice none 0 0, .int .u8 a] := LR.ofFlat rfl
    have go : ∀ {k : Int} {orc : Orc}, (reckonQI Tryd.prog hd3 orc noLoop 100000 300 h09 3 [.slice none 0 0, .int .u8 k]).map (fun r => (r.1, eqs r.2)) = some (.bool true, true) → a = k → Calls Tryd.prog 3 #[.slice none 0 0, .int .u8 a] w fun e w' => e = .returned (.bool true) ∧ Gr w w' := by
      rintro k orc h rfl
      obtain ⟨cs, h1, h2⟩ := closedQ h
      exact reckonQ_ok noNG hd3_ok noLoop_low (noLoop_ok _) _ _ _ _ rfl h2 h1 (HR.start hL) lr
    by_cases e0 : a = 0
    · exact go hd_n0 e0
    by_cases e1 : a = 1
    · exact go hd_n1 e1
    by_cases e2 : a = 2
    · exact go hd_n2 e2
    exact reckonQ_ok noNG hd3_ok noLoop_low (noLoop_ok _) _ _ _ _ rfl (hd_nx a) (nxP_ok (by omega) ha.2) (HR.start hL) lr
  have hb : b < w.heap.size := by
    unfold World.shape? at hsh
    split at hsh
    · rename_i h; exact (Array.getElem?_eq_some_iff.1 h).1
    · cases hsh
  by_cases c0 : n = 0
  · subst c0
    have H := HR.withPl (pl := ⟨b, off, off + c, some 1⟩) hL hb (by intro h; simp [GM] at h)
    have lr : LR (upd (placeG h09 w) h09.length ⟨b, off, off + c, some 1⟩) [.slice (some ⟨1, 0, none⟩) 0 0, .int .u8 a] [.slice (some ⟨b, off, none⟩) 0 c, .int .u8 a] :=
      sl_lr (p := ⟨b, off, off + c, some 1⟩) (upd_same _ _ _) (by show 0 < 1 ∧ off + 0 + c * 1 = off + c ∧ 0 ≤ c; omega)
    have go : ∀ {k : Int} {orc : Orc}, (reckonQI Tryd.prog hd3 orc noLoop 100000 300 (h09 ++ [dead]) 3 [.slice (some ⟨1, 0, none⟩) 0 0, .int .u8 k]).map (fun r => (r.1, eqs r.2)) = some (.bool true, true) → a = k → Calls Tryd.prog 3 #[.slice (some ⟨b, off, none⟩) 0 c, .int .u8 a] w fun e w' => e = .returned (.bool true) ∧ Gr w w' := by
      rintro k orc h rfl
      obtain ⟨cs, h1, h2⟩ := closedQ h
      exact reckonQ_ok noNG hd3_ok noLoop_low (noLoop_ok _) _ _ _ _ rfl h2 h1 H lr
    by_cases e0 : a = 0
    · exact go hd_z0 e0
    by_cases e1 : a = 1
    · exact go hd_z1 e1
    by_cases e2 : a = 2
    · exact go hd_z2 e2
    exact reckonQ_ok noNG hd3_ok noLoop_low (noLoop_ok _) _ _ _ _ rfl (hd_zx a) (zxP_ok (by omega) ha.2) H lr
  by_cases c1 : n ≤ 100
  · have hsep : ∀ (i : Nat) (o : AO), h09[i]? = some o → o.live = true → b ≠ i := by
      rintro i o hi ho rfl
      obtain ⟨p, hp, _, hob⟩ := (HR.start hL).obj _ o hi ho
      obtain ⟨t, fr, hh⟩ := hT
      have hx : l[0]? = some (l[0]'(by omega)) := List.getElem?_eq_getElem _
      obtain ⟨h1, _⟩ := hcl 0 _ hx
      have eb : b = 0 := by
        match b, hi with
        | 0, _ => rfl
        | k + 1, hi => simp [h09] at hi
      subst eb
      unfold World.cell? at h1
      rw [hh] at h1
      have h1' := Array.mem_of_getElem? h1
      simp [argNs] at h1'
    have H := HR.withSlice (cs := l.map (Value.int .u64)) hL hsh (by rw [List.length_map, hll]; exact hfit (by omega)) (by rw [List.length_map, hll]; exact hfr) (fun o v hv => by
      rw [List.getElem?_map] at hv
      obtain ⟨x, hx, rfl⟩ := Option.map_eq_some_iff.1 hv
      exact ⟨(hcl o x hx).1, rfl⟩) hsep
    have lr : LR (upd (placeG h09 w) h09.length ⟨b, off, tot, none⟩) [.slice (some ⟨1, 0, none⟩) n c, .int .u8 a] [.slice (some ⟨b, off, none⟩) n c, .int .u8 a] :=
      sl_lr (p := ⟨b, off, tot, none⟩) (upd_same _ _ _) rfl
    exact hd_gen (by omega) c1 ha (ints_kv l) (by rw [List.length_map, hll]) H lr
  · have H := HR.withPl (pl := ⟨b, off, tot, none⟩) hL hb (by intro h; cases h)
    have lr : LR (upd (placeG h09 w) h09.length ⟨b, off, tot, none⟩) [.slice (some ⟨1, 0, none⟩) n c, .int .u8 a] [.slice (some ⟨b, off, none⟩) n c, .int .u8 a] :=
      sl_lr (p := ⟨b, off, tot, none⟩) (upd_same _ _ _) rfl
    exact reckonQ_ok noNG hd3_ok noLoop_low (noLoop_ok _) _ _ _ _ rfl (hd_long n c a) (AE.cons (b1 (by omega)) (AE.cons (b1 (by omega)) AE.nil)) H lr
end Go.Proofs.YtbjiicjmlbocdaaDoor.Ex
