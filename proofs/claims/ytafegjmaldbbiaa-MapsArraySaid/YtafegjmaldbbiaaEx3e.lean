/-
  Runs that the kernel reckons: append, its cases.
-/
import Derived.Test.YtafegjmaldbbiaaEx3d
namespace Go.Proofs.Ytafegjmaldbbiaa.Ex
open Go Go.RowKit

section
variable {P : Program} {wb : Wb} {k : Nat} {s : Ren} {h : List AO} {w : World}

/-- The run of an append that has room. -/
theorem run_append_in {ts : Array TypeId} {ty sT xT e : TypeId} {d : TypeDesc} {i : TypeInfo} (h0 : ts[0]? = some sT) (h1 : ts[1]? = some xT) (hu : P.underlying sT = some (.slice e)) (hd : P.underlying xT = some d) (hid : intD d = false)
    (hi : P.info? e = some i) {base : Option Addr} {l c n : Nat} {x' : Value} (hn : (Builtin.lenOf x').run P w = .ok n w) (hle : l + n ≤ c) {new : List Value}
    (hnew : (Builtin.firstCells i.size n x').run P w = .ok ⟨new⟩ w) {w' : World} (hst : (match base with | some a => storeCells (a.add (l * i.size)) new | none => pure ()).run P w = .ok () w') :
    (Builtin.append_ ts ty #[.slice base l c, x']).run P w = .ok (.slice base (l + n) c) w' := by
  cases d <;> first
    | (simp only [intD] at hid; cases hid; done)
    | (simp only [Builtin.append_, h0, h1, List.getElem?_toArray, List.getElem?_cons_zero, List.getElem?_cons_succ, Sem.run_bind, run_under hu, Result.andThen_ok, run_size hi, run_under hd, Sem.run_pure, Bool.false_eq_true, if_false, hn]
       rw [if_pos hle]
       cases base with
       | none =>
         simp only [Sem.run_pure, Result.ok.injEq, true_and] at hst
         subst hst
         simp only [Sem.run_bind, Bool.not_false, if_true, hnew, Result.andThen_ok, Sem.run_pure]
       | some a =>
         simp only [Sem.run_bind, Bool.not_false, if_true, hnew, Result.andThen_ok, hst, Sem.run_pure])
theorem append_new (H : HR wb k s h w) {es : Nat} (he : 0 < es) {cs : List Value} (hw : isW ⟨true, some es, cs⟩ = true) {arr : Array Value} {T : TypeId} {c' need : Nat} {cs' : List Value} (hr : LR s cs cs') (hsz : arr.size = c' * es) (hc : need ≤ c') (hl : cs.length = need * es)
    (hget : ∀ (o : Nat) (v : Value), cs'[o]? = some v → arr[o]? = some v) :
    ∃ s', Le s s' ∧ HR wb k s' (h ++ [⟨true, some es, cs⟩]) (w.drew.alloc (.cells arr T)) ∧ VR s' (.slice (some ⟨h.length, 0, none⟩) need need) (.slice (some ⟨w.heap.size, 0, none⟩) need c') := by
  obtain ⟨H', hle⟩ := H.drew.new cs arr T (some es) hw (by rw [hl, hsz]; exact Nat.mul_le_mul_right _ hc) (fun o v hv => by
    obtain ⟨y, hy, hvy⟩ := hr.get hv
    exact ⟨y, hget o y hy, hvy⟩)
  refine ⟨_, hle, H', ?_⟩
  exact VR.slice (a := ⟨h.length, 0, none⟩) rfl (upd_same _ _ _) (by unfold CapOk; exact ⟨he, by simp only [Nat.zero_add]; rw [hsz], hc⟩)
theorem okay_val {s' : Ren} {x : Sem Value} {v v' : Value} {w' : World} {h' : List AO} {m : Option Nat} (hx : x.run P w = .ok v' w') (g1 : Le s s') (g2 : HR wb k s' h' w') (g3 : VR s' v v') : Okay P wb k s w (aval x) (.value v, h', m) :=
  ⟨s', .value v', w', by simp only [aval, Sem.run_bind, hx, Result.andThen_ok, Sem.run_pure], g1, g2, g3⟩
theorem append_ok (H : HR wb k s h w) {ts : Array TypeId} {ty : TypeId} {sv sv' xv xv' : Value} (hs : VR s sv sv') (hx : VR s xv xv') {r : Out} (hr : oAppend P ts sv xv h = some r) (hk : ∀ i, r.2.2 = some i → k ≤ i) :
    Okay P wb k s w (aval (Builtin.append_ ts ty #[sv', xv'])) r := by
  unfold oAppend at hr
  split at hr
  · rename_i sT xT h0 h1
    split at hr
    · rename_i e d n hu hd hlen
      split at hr
      · rename_i i hi
        split at hr
        · rename_i new hsrc
          split at hr
          · rename_i hc
            obtain ⟨hid, hnl, hone⟩ := hc
            obtain ⟨new', hnew, hnr⟩ := src_ok (P := P) H.mr hx hsrc
            obtain ⟨new2, hnew2, hnr2⟩ := src_ok (P := P) H.drew.mr hx hsrc
            have hnn := len_of (P := P) (w := w) hx hlen
            have hnl' : new'.length = n * i.size := by rw [← hnr.1]; exact hnl
            have hnl2 : new2.length = n * i.size := by rw [← hnr2.1]; exact hnl
            split at hr
            · -- nil
              rename_i l c
              rw [hs.eq_of_flat rfl]
              split at hr
              · rename_i hlc
                obtain ⟨rfl, rfl⟩ := hlc
                split at hr
                · rename_i hn0
                  cases hr
                  subst hn0
                  have := run_append_in (P := P) (ty := ty) h0 h1 hu hd hid hi (base := none) (l := 0) (c := 0) hnn (Nat.le_refl _) hnew (w' := w) rfl
                  exact (okay0 this (VR.same rfl)).okay H
                · rename_i hn0
                  split at hr
                  · rename_i hroom
                    cases hr
                    obtain ⟨arr, c', e1, e2, e3, e4⟩ := run_append_new (P := P) (ty := ty) (w := w) h0 h1 hu hd hid hi (base := none) (l := 0) (c := 0) hnn (by omega) (by rw [Nat.zero_add]; exact hroom) (old := []) rfl hnew2 (by simp) hnl2
                    have hr0 := hroom
                    simp only [roomB, Bool.and_eq_true, decide_eq_true_eq] at hr0
                    rw [Nat.zero_add] at e1 e3
                    obtain ⟨s', g1, g2, g3⟩ := append_new H hr0.1.1.1.1 (roomB_w hroom _) (T := e) hnr2 e2 e3 hnl (fun o v hv => e4 o v (by simpa using hv))
                    exact okay_val e1 g1 g2 g3
                  · cases hr
              · cases hr
            · -- a row
              rename_i a l c
              obtain ⟨p, c0, hsp, hp, hcap, rfl⟩ := hs.slice_inv
              split at hr
              · -- of known room
                rename_i hes
                have hpe := esOf_ok H.mr hes hp
                have hcc : c0 = c := by unfold CapOk at hcap; rw [hpe] at hcap; exact hcap
                subst hcc
                obtain ⟨a1, a2⟩ := add_vr (p := p) hsp (l * i.size)
                split at hr
                · rename_i hle
                  split at hr
                  · rename_i hn0
                    cases hr
                    subst hn0
                    have hz : new' = [] := List.length_eq_zero_iff.1 (by rw [hnl']; simp)
                    subst hz
                    have := run_append_in (P := P) (ty := ty) h0 h1 hu hd hid hi (base := some ⟨p.blk, p.off + a.off, none⟩) (l := l) (c := c0) hnn hle hnew (w' := w) rfl
                    exact (okay0 this hs).okay H
                  · split at hr
                    · rename_i h' hst
                      cases hr
                      obtain ⟨g1, g2, H'⟩ := astore_spec H hst (by rw [a1]; exact hk _ rfl) (by rw [a1]; exact hp) hnr
                      rw [a1] at g1 g2 H'
                      simp only at g1 g2 H'
                      have hone' : ∀ v ∈ new', v.oneCell' = true := by
                        intro v hv
                        obtain ⟨j, hj⟩ := List.getElem?_of_mem hv
                        obtain ⟨u, hu, huv⟩ := hnr.get' hj
                        exact huv.one (all_get hone hu)
                      have h3 := run_storeCells_cells (P := P) p.blk (p.off + (a.off + l * i.size)) new' 0 w (by simpa using g1) (by simpa using g2) hone'
                      rw [← a2] at h3
                      have := run_append_in (P := P) (ty := ty) h0 h1 hu hd hid hi (base := some ⟨p.blk, p.off + a.off, none⟩) (l := l) (c := c0) hnn hle hnew h3
                      refine okay_val this (Le.refl s) (by simpa using H') ?_
                      exact VR.slice hsp hp (by unfold CapOk; rw [hpe])
                    · cases hr
                · rename_i hgt
                  split at hr
                  · rename_i old hold
                    split at hr
                    · rename_i hroom
                      cases hr
                      obtain ⟨hol, old', hor, hoc⟩ := aload_spec H.drew.mr hold hp
                      have ho2 := run_loadCells_list (P := P) w.drew ⟨p.blk, p.off + a.off, none⟩ old' hoc
                      rw [← hor.1, hol] at ho2
                      obtain ⟨arr, c', e1, e2, e3, e4⟩ := run_append_new (P := P) (ty := ty) (w := w) h0 h1 hu hd hid hi (base := some ⟨p.blk, p.off + a.off, none⟩) (l := l) (c := c0) hnn hgt hroom (old := old') ho2 hnew2 (by rw [← hor.1]; exact hol) hnl2
                      have hr0 := hroom
                      simp only [roomB, Bool.and_eq_true, decide_eq_true_eq] at hr0
                      obtain ⟨s', g1, g2, g3⟩ := append_new H hr0.1.1.1.1 (roomB_w hroom _) (T := e) (hor.append hnr2) e2 e3 (by rw [List.length_append, hol, hnl, ← Nat.add_mul]) e4
                      exact okay_val e1 g1 g2 g3
                    · cases hr
                  · cases hr
              · -- of room that is not known
                rename_i q hes
                have hpe := esOf_ok H.mr hes hp
                have hcap2 := hcap
                unfold CapOk at hcap2
                rw [hpe] at hcap2
                simp only at hcap2
                obtain ⟨hq0, hq1, hq2⟩ := hcap2
                split at hr
                · rename_i hq
                  subst hq
                  split at hr
                  · rename_i hn0
                    cases hr
                    subst hn0
                    have hz : new' = [] := List.length_eq_zero_iff.1 (by rw [hnl']; simp)
                    subst hz
                    have := run_append_in (P := P) (ty := ty) h0 h1 hu hd hid hi (base := some ⟨p.blk, p.off + a.off, none⟩) (l := l) (c := c0) hnn hq2 hnew (w' := w) rfl
                    exact (okay0 this hs).okay H
                  · split at hr
                    · rename_i old hold
                      split at hr
                      · rename_i hroom
                        cases hr
                        have hkb : k ≤ a.block := hk _ rfl
                        have hob : ∃ o, h[a.block]? = some o ∧ o.live = true ∧ isM o = false ∧ ∀ (j : Nat) (v : Value), old[j]? = some v → o.cs[a.off + j]? = some v := by
                          unfold aload at hold
                          split at hold
                          · rename_i o ho
                            split at hold
                            · rename_i hcc
                              cases hold
                              simp at hcc
                              refine ⟨o, ho, hcc.1.1, hcc.1.2, fun j v hv => ?_⟩
                              rw [List.getElem?_take] at hv
                              split at hv
                              · rwa [List.getElem?_drop] at hv
                              · cases hv
                            · cases hold
                          · cases hold
                        obtain ⟨o, ho, hlive, hnm, hsub⟩ := hob
                        have hoe : o.es = some i.size := by
                          have h1 := hes
                          unfold esOf at h1
                          rw [ho] at h1
                          simp only [hlive, if_true] at h1
                          exact Option.some.inj h1
                        have how : isW o = true := by
                          have h1 := roomB_w hroom []
                          unfold isW at h1 ⊢
                          rw [hoe]
                          exact h1
                        obtain ⟨hol, old', hor, hoc⟩ := aload_spec H.drew.mr hold hp
                        by_cases hin : l + n ≤ c0
                        · obtain ⟨g1, g2, H', hle⟩ := H.regrow ho hlive how hkb hp (by rw [hoe]; exact fun h => by cases h) (e := i.size) (old := old) (new := new) (c' := c0) (roomB_w hroom _) hsub hnr hq1 (by rw [hol, hnl, ← Nat.add_mul]; exact Nat.mul_le_mul_right _ hin)
                          have hone' : ∀ v ∈ new', v.oneCell' = true := by
                            intro v hv
                            obtain ⟨j, hj⟩ := List.getElem?_of_mem hv
                            obtain ⟨u, hu, huv⟩ := hnr.get' hj
                            exact huv.one (all_get hone hu)
                          rw [hol] at g1 g2 H'
                          have h3 := run_storeCells_cells (P := P) p.blk (p.off + a.off + l * i.size) new' 0 w (by simpa using g1) (by simpa using g2) hone'
                          have h4 : (storeCells ((⟨p.blk, p.off + a.off, none⟩ : Addr).add (l * i.size)) new').run P w = .ok () (w.setCells p.blk (p.off + a.off + l * i.size) new') := by
                            rw [add_none]; simpa using h3
                          have := run_append_in (P := P) (ty := ty) h0 h1 hu hd hid hi (base := some ⟨p.blk, p.off + a.off, none⟩) (l := l) (c := c0) hnn hin hnew h4
                          refine okay_val this hle H' ?_
                          exact VR.slice (a := ⟨h.length, 0, none⟩) (p := ⟨p.blk, p.off + a.off, p.tot, some i.size⟩) rfl (upd_same _ _ _) (by unfold CapOk; exact ⟨hq0, by simp only [Nat.add_zero]; exact hq1, hin⟩)
                        · have ho2 := run_loadCells_list (P := P) w.drew ⟨p.blk, p.off + a.off, none⟩ old' hoc
                          rw [← hor.1, hol] at ho2
                          obtain ⟨arr, c', e1, e2, e3, e4⟩ := run_append_new (P := P) (ty := ty) (w := w) h0 h1 hu hd hid hi (base := some ⟨p.blk, p.off + a.off, none⟩) (l := l) (c := c0) hnn hin hroom (old := old') ho2 hnew2 (by rw [← hor.1]; exact hol) hnl2
                          obtain ⟨s', g1, g2, g3⟩ := append_new (H.kill a.block) hq0 (roomB_w hroom _) (T := e) (hor.append hnr2) e2 e3 (by rw [List.length_append, hol, hnl, ← Nat.add_mul]) e4
                          simp only [List.length_set] at g3
                          exact okay_val e1 g1 g2 g3
                      · cases hr
                    · cases hr
                · cases hr
              · cases hr
            · cases hr
          · cases hr
        · cases hr
      · cases hr
    · cases hr
  · cases hr
end
end Go.Proofs.Ytafegjmaldbbiaa.Ex
