/-
  Lemmas for the laws of this seat, part B: Ex3c, Ex3d, Ex3e, Ex3f, Ex3g, Ex9, Ex10.
-/
import Derived.Test.YtchjneodjaakdaaGreatPackA
import Derived.Laws.BytesString
import Derived.MapKept
section
namespace Go.Proofs.YtchjneodjaakdaaGreat.Ex
open Go Go.RowKit

section
variable {P : Program} {wb : World} {k : Nat} {s : Ren} {h : List AO} {w : World}

def oMake (P : Program) (t : TypeId) (len cap : Value) : Option (List Value × Nat × Nat) :=
  match P.underlying t, len, cap with
  | some (.slice e), .int _ l, .int _ c =>
    match P.info? e with
    | some i =>
      if decide (IntKind.i64.wrap l = l) && decide (IntKind.i64.wrap c = c) && decide (0 ≤ l) && decide (l ≤ c) && decide ((i.bytes : Int) * c ≤ 2 ^ 48) then
        if c.toNat * i.size = 0 then some ([], l.toNat, c.toNat)
        else
          match i.zero with
          | some z => if (repeatZ z.cells (c.toNat * i.size)).toList.all flat then some ((repeatZ z.cells (c.toNat * i.size)).toList, l.toNat, c.toNat) else none
          | none => none
      else none
    | none => none
  | _, _, _ => none
theorem run_askRoom (n : Nat) (w : World) : (askRoom n).run P w = .ok () w := by
  unfold askRoom
  split <;> rfl
theorem make_ok {t : TypeId} {len cap len' cap' : Value} (hl : VR s len len') (hc : VR s cap cap') {cs : List Value} {l c : Nat} (hr : oMake P t len cap = some (cs, l, c)) (w : World) :
    ∃ (arr : Array Value) (T : TypeId), (Instr.makeSlice t len' cap').run P w = .ok (.slice (some ⟨w.heap.size, 0, none⟩) l c) (w.alloc (.cells arr T)) ∧ LR s cs arr.toList := by
  unfold oMake at hr
  split at hr
  · rename_i e k1 l1 k2 c1 hu
    rw [hl.int_inv, hc.int_inv]
    split at hr
    · rename_i i hi
      split at hr
      · rename_i hcond
        simp only [Bool.and_eq_true, decide_eq_true_eq] at hcond
        obtain ⟨⟨⟨⟨hwl, hwc⟩, h0⟩, hlc⟩, hb⟩ := hcond
        have hc0 : 0 ≤ c1 := by omega
        have t1 : (decide (c1 < 0) || decide ((i.bytes : Int) * c1 > 2 ^ 48)) = false := by
          simp only [Bool.or_eq_false_iff, decide_eq_false_iff_not]
          exact ⟨by omega, by omega⟩
        have t2 : (decide (l1 < 0)) = false := by simpa using h0
        have t3 : (decide (l1 > c1)) = false := by simpa using hlc
        split at hr
        · rename_i hz0
          cases hr
          refine ⟨#[], e, ?_, LR.nil s⟩
          have e0 : (Array.range 0).map (fun x => (#[] : Array Value)[x % (#[] : Array Value).size]!) = #[] := by simp
          simp only [Instr.makeSlice, asInt, asIntOf, Sem.run_bind, run_under hu, Sem.run_pure, Result.andThen_ok, run_info hi, hwl, hwc, t1, t2, t3, Bool.or_false, Bool.false_eq_true, if_false, run_askRoom, run_size hi, hz0, if_true, e0]
          rfl
        · rename_i hz0
          split at hr
          · rename_i z hz
            split at hr
            · rename_i hfl
              cases hr
              refine ⟨repeatZ z.cells (c1.toNat * i.size), e, ?_, LR.ofFlat hfl⟩
              rw [← repeatZ_eq]
              simp only [Instr.makeSlice, asInt, asIntOf, Sem.run_bind, run_under hu, Sem.run_pure, Result.andThen_ok, run_info hi, hwl, hwc, t1, t2, t3, Bool.or_false, Bool.false_eq_true, if_false, run_askRoom, run_size hi, hz0, run_zero hi hz]
              rfl
            · cases hr
          · cases hr
      · cases hr
    · cases hr
  · cases hr

/-! Parts. -/
def hiA (hi : Option Value) (len cap : Nat) : Option Nat :=
  match hi with
  | none => some len
  | some (.int _ i) => if 0 ≤ i ∧ i ≤ cap then some i.toNat else none
  | _ => none
def loA (lo : Option Value) (h : Nat) : Option Nat :=
  match lo with
  | none => some 0
  | some (.int _ i) => if 0 ≤ i ∧ i ≤ h then some i.toNat else none
  | _ => none
def OR (s : Ren) (a b : Option Value) : Prop :=
  match a, b with
  | none, none => True
  | some x, some y => VR s x y
  | _, _ => False
theorem bounds_ok {b : Bool} {len cap cap' : Nat} {lo lo' hi hi' : Option Value} (hl : OR s lo lo') (hh : OR s hi hi') {l h1 : Nat} (h2 : hiA hi len cap = some h1) (h3 : loA lo h1 = some l) (hcap : hi = none ∨ cap ≤ cap') (w : World) :
    (Instr.sliceBounds b len cap' lo' hi' none).run P w = .ok (l, h1, cap') w := by
  unfold hiA at h2
  unfold loA at h3
  cases hi with
  | none =>
    cases hi' with
    | some _ => exact hh.elim
    | none =>
      cases h2
      cases lo with
      | none =>
        cases lo' with
        | some _ => exact hl.elim
        | none => cases h3; simp [Instr.sliceBounds]
      | some x =>
        cases lo' with
        | none => exact hl.elim
        | some y =>
          cases x <;> simp only at h3 <;> try cases h3
          rename_i kk i
          rw [VR.int_inv hl]
          split at h3
          · rename_i hc; cases h3; simp [Instr.sliceBounds, Instr.sliceBound, asIntOf, hc]
          · cases h3
  | some x =>
    cases hi' with
    | none => exact hh.elim
    | some y =>
      cases x <;> simp only at h2 <;> try cases h2
      rename_i kk i
      rw [VR.int_inv hh]
      split at h2
      · rename_i hc
        cases h2
        have hc' : 0 ≤ i ∧ i ≤ cap' := ⟨hc.1, by rcases hcap with h | h; cases h; omega⟩
        cases lo with
        | none =>
          cases lo' with
          | some _ => exact hl.elim
          | none => cases h3; simp [Instr.sliceBounds, Instr.sliceBound, asIntOf, hc']
        | some x =>
          cases lo' with
          | none => exact hl.elim
          | some y =>
            cases x <;> simp only at h3 <;> try cases h3
            rename_i kk2 j
            rw [VR.int_inv hl]
            split at h3
            · rename_i hc2
              cases h3
              have e1 : ((i.toNat : Nat) : Int) = i := Int.toNat_of_nonneg hc.1
              have e2 : max i 0 = i := by omega
              rw [e1] at hc2
              simp [Instr.sliceBounds, Instr.sliceBound, asIntOf, hc', e2, hc2]
            · cases h3
      · cases h2
def esOf (h : List AO) (b : Nat) : Option (Option Nat) :=
  match h[b]? with
  | some o => if o.live then some o.es else none
  | none => none
theorem esOf_ok (H : MR s h w) {b : Nat} {es : Option Nat} (he : esOf h b = some es) {p : Pl} (hp : s b = some p) : p.es = es := by
  unfold esOf at he
  split at he
  · rename_i o ho
    split at he
    · rename_i hl
      cases he
      obtain ⟨q, hq, h1, _⟩ := H b o ho hl
      rw [hp] at hq
      cases hq
      exact h1
    · cases he
  · cases he
def oSlice (P : Program) (t : TypeId) (x : Value) (lo hi : Option Value) (h : List AO) : Option Out :=
  match P.underlying t, x with
  | some (.array n e), .pointer (some a) =>
    match P.info? e, esOf h a.block, hiA hi n n with
    | some i, some none, some h1 =>
      match loA lo h1 with
      | some l => some (.value (.slice (some (if n = l then a else a.add (l * i.size))) (h1 - l) (n - l)), h, none)
      | none => none
    | _, _, _ => none
  | some (.slice e), .slice (some a) len cap =>
    match P.info? e, esOf h a.block with
    | some i, some none =>
      match hiA hi len cap with
      | some h1 =>
        match loA lo h1 with
        | some l => some (.value (.slice (some (if cap = l then a else a.add (l * i.size))) (h1 - l) (cap - l)), h, none)
        | none => none
      | none => none
    | some i, some (some q) =>
      match hiA hi len len with
      | some h1 =>
        match loA lo h1 with
        | some l => if q = i.size ∧ (l = 0 ∨ l < len) then some (.value (.slice (some (a.add (l * i.size))) (h1 - l) (h1 - l)), h, none) else none
        | none => none
      | none => none
    | _, _ => none
  | _, _ => none
theorem hiA_le {hi : Option Value} {len cap h1 : Nat} (h : hiA hi len cap = some h1) (hlc : len ≤ cap) : h1 ≤ cap := by
  unfold hiA at h
  split at h
  · cases h; exact hlc
  · split at h
    · cases h; omega
    · cases h
  · cases h
theorem loA_le {lo : Option Value} {h1 l : Nat} (h : loA lo h1 = some l) : l ≤ h1 := by
  unfold loA at h
  split at h
  · cases h; omega
  · split at h
    · cases h; omega
    · cases h
  · cases h
theorem add_vr {a : Addr} {p : Pl} (hs : a.spot = none) (n : Nat) : a.add n = ⟨a.block, a.off + n, none⟩ ∧ (⟨p.blk, p.off + a.off, none⟩ : Addr).add n = ⟨p.blk, p.off + (a.off + n), none⟩ := by
  refine ⟨?_, by rw [add_none, Nat.add_assoc]⟩
  obtain ⟨b, o, sp⟩ := a
  simp at hs
  subst hs
  exact add_none n
theorem slice_ok (H : MR s h w) {t : TypeId} {x x' : Value} (hx : VR s x x') {lo lo' hi hi' : Option Value} (hl : OR s lo lo') (hh : OR s hi hi') {r : Out} (hr : oSlice P t x lo hi h = some r) :
    Okay0 P s h w (aval (Instr.sliceAt t x' lo' hi' none)) r := by
  unfold oSlice at hr
  split at hr
  · rename_i n e a hu
    obtain ⟨p, hs, hp, rfl⟩ := hx.ptr_inv
    split at hr
    · rename_i i h1 hi0 hes hhi
      split at hr
      · rename_i l hlo
        cases hr
        have hpe := esOf_ok H hes hp
        have hb := bounds_ok (P := P) (b := false) (cap' := n) hl hh hhi hlo (.inr (Nat.le_refl _)) w
        obtain ⟨e1, e2⟩ := add_vr (p := p) hs (l * i.size)
        by_cases hnl : n = l
        · refine okay0 (v' := .slice (some ⟨p.blk, p.off + a.off, none⟩) (h1 - l) (n - l)) ?_ ?_
          · subst hnl
            simp [Instr.sliceAt, run_under hu, Instr.sureAddr, hb, run_size hi0]
          · rw [if_pos hnl]
            exact VR.slice hs hp (by unfold CapOk; rw [hpe])
        · refine okay0 (v' := .slice (some ⟨p.blk, p.off + (a.off + l * i.size), none⟩) (h1 - l) (n - l)) ?_ ?_
          · simp [Instr.sliceAt, run_under hu, Instr.sureAddr, hb, run_size hi0, hnl, e2]
          · rw [if_neg hnl, e1]
            exact VR.slice (a := ⟨a.block, a.off + l * i.size, none⟩) rfl hp (by unfold CapOk; rw [hpe])
      · cases hr
    · cases hr
  · rename_i e a len cap hu
    obtain ⟨p, c', hs, hp, hcap, rfl⟩ := hx.slice_inv
    split at hr
    · rename_i i hi0 hes
      split at hr
      · rename_i h1 hhi
        split at hr
        · rename_i l hlo
          cases hr
          have hpe := esOf_ok H hes hp
          have hcc : c' = cap := by unfold CapOk at hcap; rw [hpe] at hcap; exact hcap
          subst hcc
          have hb := bounds_ok (P := P) (b := true) (cap' := c') hl hh hhi hlo (.inr (Nat.le_refl _)) w
          obtain ⟨e1, e2⟩ := add_vr (p := p) hs (l * i.size)
          by_cases hnl : c' = l
          · refine okay0 (v' := .slice (some ⟨p.blk, p.off + a.off, none⟩) (h1 - l) (c' - l)) ?_ ?_
            · subst hnl
              simp [Instr.sliceAt, Instr.slice, run_under hu, hb, run_size hi0]
            · rw [if_pos hnl]
              exact VR.slice hs hp (by unfold CapOk; rw [hpe])
          · refine okay0 (v' := .slice (some ⟨p.blk, p.off + (a.off + l * i.size), none⟩) (h1 - l) (c' - l)) ?_ ?_
            · simp [Instr.sliceAt, Instr.slice, run_under hu, hb, run_size hi0, hnl, e2]
            · rw [if_neg hnl, e1]
              exact VR.slice (a := ⟨a.block, a.off + l * i.size, none⟩) rfl hp (by unfold CapOk; rw [hpe])
        · cases hr
      · cases hr
    · rename_i i q hi0 hes
      split at hr
      · rename_i h1 hhi
        split at hr
        · rename_i l hlo
          split at hr
          · rename_i hq
            cases hr
            obtain ⟨rfl, hq⟩ := hq
            have hpe := esOf_ok H hes hp
            unfold CapOk at hcap
            rw [hpe] at hcap
            simp only at hcap
            obtain ⟨hq0, hq1, hq2⟩ := hcap
            have hb := bounds_ok (P := P) (b := true) (cap' := c') hl hh hhi hlo (.inr hq2) w
            have g1 := hiA_le hhi (Nat.le_refl _)
            have g2 := loA_le hlo
            obtain ⟨e1, e2⟩ := add_vr (p := p) hs (l * i.size)
            refine okay0 (v' := .slice (some ⟨p.blk, p.off + (a.off + l * i.size), none⟩) (h1 - l) (c' - l)) ?_ ?_
            · by_cases hnl : c' = l
              · have hl0 : l = 0 := by omega
                subst hl0
                subst hnl
                simp [Instr.sliceAt, Instr.slice, run_under hu, hb, run_size hi0]
              · simp [Instr.sliceAt, Instr.slice, run_under hu, hb, run_size hi0, hnl, e2]
            · rw [e1]
              refine VR.slice (a := ⟨a.block, a.off + l * i.size, none⟩) rfl hp ?_
              unfold CapOk
              rw [hpe]
              refine ⟨hq0, ?_, by omega⟩
              have : l * i.size + (c' - l) * i.size = c' * i.size := by rw [← Nat.add_mul]; congr 1; omega
              simp only
              omega
          · cases hr
        · cases hr
      · cases hr
    · cases hr
  · cases hr
end
end Go.Proofs.YtchjneodjaakdaaGreat.Ex
end
section
namespace Go.Proofs.YtchjneodjaakdaaGreat.Ex
open Go Go.RowKit

theorem growBy_le (n : Nat) : ∀ (r c : Nat), c ≤ 2 * n + 200 → Builtin.growBy n r c ≤ 2 * n + 200
  | 0, c, h => h
  | r + 1, c, h => by
    simp only [Builtin.growBy]
    split
    · exact h
    · exact growBy_le n r _ (by omega)
theorem nextcap_le {n c : Nat} (h : c < n) : Builtin.nextslicecap n c ≤ 2 * n + 200 := by
  unfold Builtin.nextslicecap
  split
  · omega
  · split
    · omega
    · exact growBy_le n 4 c (by omega)

section
variable {P : Program} {wb : World} {k : Nat} {s : Ren} {h : List AO} {w : World}

theorem HR.kill (H : HR wb k s h w) (b : Nat) : HR wb k s (h.set b dead) w := by
  have old : ∀ (i : Nat) (o : AO), (h.set b dead)[i]? = some o → o.live = true → h[i]? = some o := by
    intro i o ho hl
    rw [List.getElem?_set] at ho
    split at ho
    · split at ho
      · cases ho; cases hl
      · cases ho
    · exact ho
  exact ⟨H.grown, by simpa using H.kle, fun i hi => H.dom i (by simpa using hi), H.plc, fun i o ho hl => H.obj i o (old i o ho hl) hl,
    fun i j a c p q hi hj ha hc => H.sep i j a c p q (old i a hi ha) (old j c hj hc) ha hc, H.gl⟩
/-- The row goes on in its own spare room: its old block is given up, the new one lies where its slice began. -/
theorem HR.regrow (H : HR wb k s h w) {b off : Nat} {o : AO} (ho : h[b]? = some o) (hlive : o.live = true) (hwr : isW o = true) (hk : k ≤ b) {p : Pl} (hp : s b = some p) {e : Nat} {old new new' : List Value} {c' : Nat} (hew : isW ⟨true, some e, old ++ new⟩ = true)
    (hold : ∀ (i : Nat) (v : Value), old[i]? = some v → o.cs[off + i]? = some v) (hn : LR s new new') (hfit : p.off + off + c' * e = p.tot) (hlen : old.length + new.length ≤ c' * e) :
    (∀ j, j < new'.length → (w.cell? ⟨p.blk, p.off + off + old.length + j, none⟩).isSome = true) ∧ (∀ j, j < new'.length → w.frozen? ⟨p.blk, p.off + off + old.length + j, none⟩ = false) ∧
    HR wb k (upd s h.length ⟨p.blk, p.off + off, p.tot, some e⟩) (h.set b dead ++ [⟨true, some e, old ++ new⟩]) (w.setCells p.blk (p.off + off + old.length) new') ∧ Le s (upd s h.length ⟨p.blk, p.off + off, p.tot, some e⟩) := by
  obtain ⟨q, hq, hes, hb⟩ := H.obj b o ho hlive
  rw [hp] at hq
  cases hq
  replace hb := hb.2 (isW_spec hwr).1
  have hfree := hb.free (by rw [hes]; exact (isW_spec hwr).2)
  have hlen' := hn.1
  have hal : ∀ j, j < new'.length → (w.cell? ⟨p.blk, p.off + off + old.length + j, none⟩).isSome = true := fun j hj => hb.all _ (by omega)
  have hle := Le.upd (s := s) (i := h.length) ⟨p.blk, p.off + off, p.tot, some e⟩ (H.dom _ (Nat.le_refl _))
  have hblk : wb.heap.size ≤ p.blk := (H.plc _ _ hp).2.1 hk
  have hbl : b < h.length := (List.getElem?_eq_some_iff.1 ho).1
  have back : ∀ (i : Nat) (x : AO), i ≠ h.length → (h.set b dead ++ [(⟨true, some e, old ++ new⟩ : AO)])[i]? = some x → x.live = true → h[i]? = some x ∧ i ≠ b := by
    intro i x hi hx hl
    have hil : i < (h.set b dead).length := by
      have := (List.getElem?_eq_some_iff.1 hx).1
      simp at this ⊢; omega
    rw [List.getElem?_append_left hil, List.getElem?_set] at hx
    by_cases hbi : b = i
    · rw [if_pos hbi, if_pos hbl] at hx
      cases hx; cases hl
    · rw [if_neg hbi] at hx
      exact ⟨hx, fun e => hbi e.symm⟩
  refine ⟨hal, fun j hj => hfree _ (by omega) (by omega), ⟨grown_setCells _ hblk _ _ _ H.grown, by simp; have := H.kle; omega, fun i hi => ?_, fun i r hr => ?_, fun i x hx hl => ?_, fun i j x y r t hi hj hx hy hr ht heq => ?_, fun i r hr hg => ?_⟩, hle⟩
  · simp at hi
    rw [upd_other _ _ (by omega)]
    exact H.dom i (by omega)
  · rw [size_setCells]
    by_cases ei : i = h.length
    · subst ei
      rw [upd_same] at hr
      cases hr
      exact ⟨fun hlt => absurd H.kle (by omega), fun _ => hblk, (H.plc _ _ hp).2.2⟩
    · rw [upd_other _ _ ei] at hr
      exact H.plc i r hr
  · by_cases ei : i = h.length
    · subst ei
      rw [List.getElem?_append_right (by simp)] at hx
      simp at hx
      subst hx
      refine ⟨_, upd_same _ _ _, rfl, ObjAt.block (isW_spec hew).1 ⟨by simp only [List.length_append]; omega, fun o' ho' => ?_, ?_, fun _ o' h1 h2 => ?_, fun o' v hv => ?_⟩⟩
      · by_cases hin : p.off + off + old.length ≤ o' ∧ o' < p.off + off + old.length + new'.length
        · have := World.cell?_setCells_in p.blk new' (p.off + off + old.length) w hal (o' - (p.off + off + old.length)) (by omega)
          rw [show p.off + off + old.length + (o' - (p.off + off + old.length)) = o' by omega] at this
          rw [this]; rfl
        · rw [World.cell?_setCells_out _ _ _ _ _ fun _ _ => by simp; omega]
          exact hb.all o' ho'
      · obtain ⟨T, hT⟩ := hb.shp
        exact ⟨T, by rw [shape_setCells]; exact hT⟩
      · rw [World.frozen?_setCells]; exact hfree o' (by simp only at h1; omega) h2
      · simp only at hv
        by_cases hlt : o' < old.length
        · rw [List.getElem?_append_left hlt] at hv
          obtain ⟨v', g1, g2⟩ := hb.rel _ v (hold o' v hv)
          refine ⟨v', ?_, g2.mono hle⟩
          rw [World.cell?_setCells_out _ _ _ _ _ fun _ _ => by simp; omega]
          rw [show p.off + off + o' = p.off + (off + o') by omega]
          exact g1
        · rw [List.getElem?_append_right (by omega)] at hv
          obtain ⟨y, hy, hvy⟩ := hn.get hv
          have hyl : o' - old.length < new'.length := (List.getElem?_eq_some_iff.1 hy).1
          have := World.cell?_setCells_in p.blk new' (p.off + off + old.length) w hal (o' - old.length) hyl
          rw [show p.off + off + old.length + (o' - old.length) = p.off + off + o' by omega] at this
          refine ⟨y, ?_, hvy.mono hle⟩
          rw [this, ← hy, List.getElem?_eq_getElem hyl]
    · obtain ⟨hx, hib⟩ := back i x ei hx hl
      obtain ⟨r, hr, he, hbr⟩ := H.obj i x hx hl
      have hne : r.blk ≠ p.blk := fun e => hib (H.sep i b x o r p hx ho hl hlive hr hp e)
      exact ⟨r, by rw [upd_other _ _ ei]; exact hr, he, (hbr.heap (heap_setCells p.blk r.blk hne new' _ w)).mono hle⟩
  · by_cases ei : i = h.length
    · by_cases ej : j = h.length
      · omega
      · subst ei
        rw [upd_same] at hr
        cases hr
        obtain ⟨hj', hjb⟩ := back j y ej hj hy
        rw [upd_other _ _ ej] at ht
        exact absurd (H.sep b j o y p t ho hj' hlive hy hp ht heq) (Ne.symm hjb)
    · obtain ⟨hi', hib⟩ := back i x ei hi hx
      rw [upd_other _ _ ei] at hr
      by_cases ej : j = h.length
      · subst ej
        rw [upd_same] at ht
        cases ht
        exact absurd (H.sep i b x o r p hi' ho hx hlive hr hp heq) hib
      · obtain ⟨hj', _⟩ := back j y ej hj hy
        rw [upd_other _ _ ej] at ht
        exact H.sep i j x y r t hi' hj' hx hy hr ht heq
  · by_cases ei : i = h.length
    · subst ei
      rw [upd_same] at hr
      cases hr
      exact absurd hg (isW_spec hew).2
    · rw [upd_other _ _ ei] at hr
      exact H.gl i r hr hg

/-! What is appended. -/
def srcCells (x : Value) (size n : Nat) (h : List AO) : Option (List Value) :=
  match x with
  | .slice (some a) _ _ => aload h a (n * size)
  | .slice none _ _ => some []
  | .string b => some ((b.data.toList.take n).map fun c => Value.int .u8 c.toNat)
  | _ => none
theorem src_ok (H : MR s h w) {x x' : Value} (hx : VR s x x') {size n : Nat} {cs : List Value} (hr : srcCells x size n h = some cs) :
    ∃ cs', (Builtin.firstCells size n x').run P w = .ok ⟨cs'⟩ w ∧ LR s cs cs' := by
  unfold srcCells at hr
  split at hr
  · obtain ⟨p, c', hs, hp, _, rfl⟩ := hx.slice_inv
    obtain ⟨hlen, vs', hv, hc⟩ := aload_spec H hr hp
    have h2 := run_loadCells_list (P := P) w _ vs' hc
    rw [← hv.1, hlen] at h2
    exact ⟨vs', h2, hv⟩
  · cases hr
    rw [hx.eq_of_flat rfl]
    exact ⟨[], rfl, LR.nil s⟩
  · cases hr
    rename_i b
    rw [hx.string_inv]
    have e1 : ((b.extract 0 n).data.map fun c => Value.int .u8 c.toNat).toList = (b.data.toList.take n).map fun c => Value.int .u8 c.toNat := by
      rw [Array.toList_map, ByteArray.data_extract, Array.toList_extract]
      simp
    refine ⟨((b.extract 0 n).data.map fun c => Value.int .u8 c.toNat).toList, rfl, ?_⟩
    rw [e1]
    refine LR.ofFlat ?_
    exact List.all_eq_true.2 fun v hv => by
      obtain ⟨c, _, rfl⟩ := List.mem_map.1 hv
      rfl
  · cases hr
def lenA : Value → Option Nat
  | .slice _ n _ => some n
  | .string b => some b.size
  | _ => none
theorem len_of {x x' : Value} (hx : VR s x x') {n : Nat} (hr : lenA x = some n) : (Builtin.lenOf x').run P w = .ok n w := by
  cases x <;> simp only [lenA] at hr <;> try cases hr
  case slice.refl q c =>
    obtain ⟨q', c', rfl⟩ : ∃ q c', x' = .slice q n c' := by
      cases q with
      | none => exact ⟨none, _, hx.eq_of_flat rfl⟩
      | some a => obtain ⟨p, _, _, _, _, rfl⟩ := hx.slice_inv; exact ⟨_, _, rfl⟩
    rfl
  case string.refl b => rw [hx.string_inv]; rfl
def intD : TypeDesc → Bool
  | .int _ => true
  | _ => false
/-- The conditions on the element's type and on how many there are, for a row that is laid anew. -/
def roomB (i : TypeInfo) (need : Nat) : Bool :=
  decide (0 < i.size) && !(Nat.beq i.size GM) && decide ((2 * need + 200) * i.bytes ≤ 2 ^ 48) && decide ((need : Int) ≤ IntKind.i64.max) && (match i.zero with | some z => z.cells.size == i.size && z.cells.toList.length == i.size | none => false)
theorem roomB_w {i : TypeInfo} {need : Nat} (h : roomB i need = true) (cs : List Value) : isW ⟨true, some i.size, cs⟩ = true := by
  simp only [roomB, Bool.and_eq_true, decide_eq_true_eq] at h
  have h0 := h.1.1.1.1
  have h1 := h.1.1.1.2
  unfold isW
  simp only [Bool.and_eq_true]
  refine ⟨?_, h1⟩
  cases hi : i.size with
  | zero => rw [hi] at h0; cases h0
  | succ n => rfl
def oAppend (P : Program) (ts : Array TypeId) (sv xv : Value) (h : List AO) : Option Out :=
  match ts[0]?, ts[1]? with
  | some sT, some xT =>
    match P.underlying sT, P.underlying xT, lenA xv with
    | some (.slice e), some d, some n =>
      match P.info? e with
      | some i =>
        match srcCells xv i.size n h with
        | some new =>
          if intD d = false ∧ new.length = n * i.size ∧ new.all (·.oneCell') = true then
            match sv with
            | .slice none l c =>
              if l = 0 ∧ c = 0 then
                if n = 0 then some (.value (.slice none 0 0), h, none)
                else if roomB i n then some (.value (.slice (some ⟨h.length, 0, none⟩) n n), h ++ [⟨true, some i.size, new⟩], none)
                else none
              else none
            | .slice (some a) l c =>
              match esOf h a.block with
              | some none =>
                if l + n ≤ c then
                  if n = 0 then some (.value (.slice (some a) l c), h, none)
                  else
                    match astore h (a.add (l * i.size)) new with
                    | some h' => some (.value (.slice (some a) (l + n) c), h', some a.block)
                    | none => none
                else
                  match aload h a (l * i.size) with
                  | some old => if roomB i (l + n) then some (.value (.slice (some ⟨h.length, 0, none⟩) (l + n) (l + n)), h ++ [⟨true, some i.size, old ++ new⟩], none) else none
                  | none => none
              | some (some q) =>
                if q = i.size then
                  if n = 0 then some (.value (.slice (some a) l c), h, none)
                  else
                    match aload h a (l * i.size) with
                    | some old => if roomB i (l + n) then some (.value (.slice (some ⟨h.length, 0, none⟩) (l + n) (l + n)), h.set a.block dead ++ [⟨true, some i.size, old ++ new⟩], some a.block) else none
                    | none => none
                else none
              | none => none
            | _ => none
          else none
        | none => none
      | none => none
    | _, _, _ => none
  | _, _ => none
/-- The run of an append that lays a new row. -/
theorem run_append_new {ts : Array TypeId} {ty sT xT e : TypeId} {d : TypeDesc} {i : TypeInfo} (h0 : ts[0]? = some sT) (h1 : ts[1]? = some xT) (hu : P.underlying sT = some (.slice e)) (hd : P.underlying xT = some d) (hid : intD d = false)
    (hi : P.info? e = some i) {base : Option Addr} {l c n : Nat} {x' : Value} (hn : (Builtin.lenOf x').run P w = .ok n w) (hgt : ¬ l + n ≤ c) (hroom : roomB i (l + n) = true) {old new : List Value}
    (hold : (Builtin.firstCells i.size l (.slice base l c)).run P w.drew = .ok ⟨old⟩ w.drew) (hnew : (Builtin.firstCells i.size n x').run P w.drew = .ok ⟨new⟩ w.drew) (hol : old.length = l * i.size) (hnl : new.length = n * i.size) :
    ∃ (arr : Array Value) (c' : Nat), (Builtin.append_ ts ty #[.slice base l c, x']).run P w = .ok (.slice (some ⟨w.heap.size, 0, none⟩) (l + n) c') (w.drew.alloc (.cells arr e)) ∧
      arr.size = c' * i.size ∧ l + n ≤ c' ∧ ∀ (o : Nat) (v : Value), (old ++ new)[o]? = some v → arr[o]? = some v := by
  simp only [roomB, Bool.and_eq_true, decide_eq_true_eq] at hroom
  obtain ⟨⟨⟨⟨hs0, _⟩, hbytes⟩, hmax⟩, hz⟩ := hroom
  cases hzz : i.zero with
  | none => rw [hzz] at hz; cases hz
  | some z =>
    rw [hzz] at hz
    simp only [Bool.and_eq_true, beq_iff_eq] at hz
    have hcap : ¬ (Builtin.nextslicecap (l + n) c * i.bytes > 2 ^ 48) := by
      have h2 := nextcap_le (n := l + n) (c := c) (by omega)
      have h3 := Nat.mul_le_mul_right i.bytes h2
      omega
    let q := Question.appendCap (l + n) c e
    let c' := q.cut (w.tape w.drawn q)
    have hc' : l + n ≤ c' := by
      show l + n ≤ (l + n) + (w.tape w.drawn q) % (2 ^ 63 - (l + n))
      omega
    have hch : (choose q).run P w = .ok c' w.drew := by
      show (Sem.choose q .pure).run P w = _
      simp only [Sem.run]
      rw [if_neg (by simp [q, Question.forced])]
      rfl
    refine ⟨(⟨old⟩ : Array Value) ++ (⟨new⟩ : Array Value) ++ Builtin.zeroCells z.cells (c' - (l + n)), c', ?_, ?_, hc', fun o v hv => ?_⟩
    · have hch' : (choose (.appendCap (l + n) c e)).run P w = .ok c' w.drew := hch
      cases d <;> first
        | (simp only [intD] at hid; cases hid; done)
        | (simp only [Builtin.append_, h0, h1, List.getElem?_toArray, List.getElem?_cons_zero, List.getElem?_cons_succ, Sem.run_bind, run_under hu, Result.andThen_ok, run_size hi, run_under hd, Sem.run_pure, Bool.false_eq_true, if_false, hn]
           rw [if_neg hgt]
           simp only [Sem.run_bind, run_info hi, Result.andThen_ok]
           rw [if_neg (fun hh => by have := hh.1; omega)]
           simp only [Sem.run_bind, run_info hi, Result.andThen_ok]
           rw [if_neg hcap]
           simp only [Sem.run_bind, Sem.run_pure, Result.andThen_ok, hch', run_info hi, run_askRoom, hold, Bool.not_false, if_true, hnew, run_zero hi hzz]
           rfl)
    · have : (Builtin.zeroCells z.cells (c' - (l + n))).size = (c' - (l + n)) * z.cells.size := by simp [Builtin.zeroCells]
      simp only [Array.size_append, this, hz.1]
      show old.length + new.length + _ = _
      rw [hol, hnl, ← Nat.add_mul, ← Nat.add_mul]
      congr 1
      omega
    · have hlt : o < (old ++ new).length := (List.getElem?_eq_some_iff.1 hv).1
      rw [← Array.getElem?_toList, Array.toList_append, Array.toList_append]
      show ((old ++ new) ++ _)[o]? = _
      rw [List.getElem?_append_left hlt]
      exact hv
end
end Go.Proofs.YtchjneodjaakdaaGreat.Ex
end
section
namespace Go.Proofs.YtchjneodjaakdaaGreat.Ex
open Go Go.RowKit

section
variable {P : Program} {wb : World} {k : Nat} {s : Ren} {h : List AO} {w : World}

/-- The run of an append that has room. -/
theorem run_append_in {ts : Array TypeId} {ty sT xT e : TypeId} {d : TypeDesc} {i : TypeInfo} (h0 : ts[0]? = some sT) (h1 : ts[1]? = some xT) (hu : P.underlying sT = some (.slice e)) (hd : P.underlying xT = some d) (hid : intD d = false)
    (hi : P.info? e = some i) {base : Option Addr} {l c n : Nat} {x' : Value} (hn : (Builtin.lenOf x').run P w = .ok n w) (hle : l + n ≤ c) {new : List Value}
    (hnew : (Builtin.firstCells i.size n x').run P w = .ok ⟨new⟩ w) {w' : World} (hst : (match base with | some a => storeCells (a.add (l * i.size)) new | none => pure ()).run P w = .ok () w') :
    (Builtin.append_ ts ty #[.slice base l c, x']).run P w = .ok (.slice base (l + n) c) w' := by
  cases d <;> first
    | (simp only [intD] at hid; cases hid; done)
    | (simp only [Builtin.append_, h0, h1, List.getElem?_toArray, List.getElem?_cons_zero, List.getElem?_cons_succ, Sem.run_bind, run_under hu, Result.andThen_ok, run_size hi, run_under hd, Sem.run_pure, Bool.false_eq_true, if_false, hn]
       rw [if_pos hle]
       cases base with
       | none =>
         simp only [Sem.run_pure, Result.ok.injEq, true_and] at hst
         subst hst
         simp only [Sem.run_bind, Bool.not_false, if_true, hnew, Result.andThen_ok, Sem.run_pure]
       | some a =>
         simp only [Sem.run_bind, Bool.not_false, if_true, hnew, Result.andThen_ok, hst, Sem.run_pure])
theorem append_new (H : HR wb k s h w) {es : Nat} (he : 0 < es) {cs : List Value} (hw : isW ⟨true, some es, cs⟩ = true) {arr : Array Value} {T : TypeId} {c' need : Nat} {cs' : List Value} (hr : LR s cs cs') (hsz : arr.size = c' * es) (hc : need ≤ c') (hl : cs.length = need * es)
    (hget : ∀ (o : Nat) (v : Value), cs'[o]? = some v → arr[o]? = some v) :
    ∃ s', Le s s' ∧ HR wb k s' (h ++ [⟨true, some es, cs⟩]) (w.drew.alloc (.cells arr T)) ∧ VR s' (.slice (some ⟨h.length, 0, none⟩) need need) (.slice (some ⟨w.heap.size, 0, none⟩) need c') := by
  obtain ⟨H', hle⟩ := H.drew.new cs arr T (some es) hw (by rw [hl, hsz]; exact Nat.mul_le_mul_right _ hc) (fun o v hv => by
    obtain ⟨y, hy, hvy⟩ := hr.get hv
    exact ⟨y, hget o y hy, hvy⟩)
  refine ⟨_, hle, H', ?_⟩
  exact VR.slice (a := ⟨h.length, 0, none⟩) rfl (upd_same _ _ _) (by unfold CapOk; exact ⟨he, by simp only [Nat.zero_add]; rw [hsz], hc⟩)
theorem okay_val {s' : Ren} {x : Sem Value} {v v' : Value} {w' : World} {h' : List AO} {m : Option Nat} (hx : x.run P w = .ok v' w') (g1 : Le s s') (g2 : HR wb k s' h' w') (g3 : VR s' v v') : Okay P wb k s w (aval x) (.value v, h', m) :=
  ⟨s', .value v', w', by simp only [aval, Sem.run_bind, hx, Result.andThen_ok, Sem.run_pure], g1, g2, g3⟩
theorem append_ok (H : HR wb k s h w) {ts : Array TypeId} {ty : TypeId} {sv sv' xv xv' : Value} (hs : VR s sv sv') (hx : VR s xv xv') {r : Out} (hr : oAppend P ts sv xv h = some r) (hk : ∀ i, r.2.2 = some i → k ≤ i) :
    Okay P wb k s w (aval (Builtin.append_ ts ty #[sv', xv'])) r := by
  unfold oAppend at hr
  split at hr
  · rename_i sT xT h0 h1
    split at hr
    · rename_i e d n hu hd hlen
      split at hr
      · rename_i i hi
        split at hr
        · rename_i new hsrc
          split at hr
          · rename_i hc
            obtain ⟨hid, hnl, hone⟩ := hc
            obtain ⟨new', hnew, hnr⟩ := src_ok (P := P) H.mr hx hsrc
            obtain ⟨new2, hnew2, hnr2⟩ := src_ok (P := P) H.drew.mr hx hsrc
            have hnn := len_of (P := P) (w := w) hx hlen
            have hnl' : new'.length = n * i.size := by rw [← hnr.1]; exact hnl
            have hnl2 : new2.length = n * i.size := by rw [← hnr2.1]; exact hnl
            split at hr
            · -- nil
              rename_i l c
              rw [hs.eq_of_flat rfl]
              split at hr
              · rename_i hlc
                obtain ⟨rfl, rfl⟩ := hlc
                split at hr
                · rename_i hn0
                  cases hr
                  subst hn0
                  have := run_append_in (P := P) (ty := ty) h0 h1 hu hd hid hi (base := none) (l := 0) (c := 0) hnn (Nat.le_refl _) hnew (w' := w) rfl
                  exact (okay0 this (VR.same rfl)).okay H
                · rename_i hn0
                  split at hr
                  · rename_i hroom
                    cases hr
                    obtain ⟨arr, c', e1, e2, e3, e4⟩ := run_append_new (P := P) (ty := ty) (w := w) h0 h1 hu hd hid hi (base := none) (l := 0) (c := 0) hnn (by omega) (by rw [Nat.zero_add]; exact hroom) (old := []) rfl hnew2 (by simp) hnl2
                    have hr0 := hroom
                    simp only [roomB, Bool.and_eq_true, decide_eq_true_eq] at hr0
                    rw [Nat.zero_add] at e1 e3
                    obtain ⟨s', g1, g2, g3⟩ := append_new H hr0.1.1.1.1 (roomB_w hroom _) (T := e) hnr2 e2 e3 hnl (fun o v hv => e4 o v (by simpa using hv))
                    exact okay_val e1 g1 g2 g3
                  · cases hr
              · cases hr
            · -- a row
              rename_i a l c
              obtain ⟨p, c0, hsp, hp, hcap, rfl⟩ := hs.slice_inv
              split at hr
              · -- of known room
                rename_i hes
                have hpe := esOf_ok H.mr hes hp
                have hcc : c0 = c := by unfold CapOk at hcap; rw [hpe] at hcap; exact hcap
                subst hcc
                obtain ⟨a1, a2⟩ := add_vr (p := p) hsp (l * i.size)
                split at hr
                · rename_i hle
                  split at hr
                  · rename_i hn0
                    cases hr
                    subst hn0
                    have hz : new' = [] := List.length_eq_zero_iff.1 (by rw [hnl']; simp)
                    subst hz
                    have := run_append_in (P := P) (ty := ty) h0 h1 hu hd hid hi (base := some ⟨p.blk, p.off + a.off, none⟩) (l := l) (c := c0) hnn hle hnew (w' := w) rfl
                    exact (okay0 this hs).okay H
                  · split at hr
                    · rename_i h' hst
                      cases hr
                      obtain ⟨g1, g2, H'⟩ := astore_spec H hst (by rw [a1]; exact hk _ rfl) (by rw [a1]; exact hp) hnr
                      rw [a1] at g1 g2 H'
                      simp only at g1 g2 H'
                      have hone' : ∀ v ∈ new', v.oneCell' = true := by
                        intro v hv
                        obtain ⟨j, hj⟩ := List.getElem?_of_mem hv
                        obtain ⟨u, hu, huv⟩ := hnr.get' hj
                        exact huv.one (all_get hone hu)
                      have h3 := run_storeCells_cells (P := P) p.blk (p.off + (a.off + l * i.size)) new' 0 w (by simpa using g1) (by simpa using g2) hone'
                      rw [← a2] at h3
                      have := run_append_in (P := P) (ty := ty) h0 h1 hu hd hid hi (base := some ⟨p.blk, p.off + a.off, none⟩) (l := l) (c := c0) hnn hle hnew h3
                      refine okay_val this (Le.refl s) (by simpa using H') ?_
                      exact VR.slice hsp hp (by unfold CapOk; rw [hpe])
                    · cases hr
                · rename_i hgt
                  split at hr
                  · rename_i old hold
                    split at hr
                    · rename_i hroom
                      cases hr
                      obtain ⟨hol, old', hor, hoc⟩ := aload_spec H.drew.mr hold hp
                      have ho2 := run_loadCells_list (P := P) w.drew ⟨p.blk, p.off + a.off, none⟩ old' hoc
                      rw [← hor.1, hol] at ho2
                      obtain ⟨arr, c', e1, e2, e3, e4⟩ := run_append_new (P := P) (ty := ty) (w := w) h0 h1 hu hd hid hi (base := some ⟨p.blk, p.off + a.off, none⟩) (l := l) (c := c0) hnn hgt hroom (old := old') ho2 hnew2 (by rw [← hor.1]; exact hol) hnl2
                      have hr0 := hroom
                      simp only [roomB, Bool.and_eq_true, decide_eq_true_eq] at hr0
                      obtain ⟨s', g1, g2, g3⟩ := append_new H hr0.1.1.1.1 (roomB_w hroom _) (T := e) (hor.append hnr2) e2 e3 (by rw [List.length_append, hol, hnl, ← Nat.add_mul]) e4
                      exact okay_val e1 g1 g2 g3
                    · cases hr
                  · cases hr
              · -- of room that is not known
                rename_i q hes
                have hpe := esOf_ok H.mr hes hp
                have hcap2 := hcap
                unfold CapOk at hcap2
                rw [hpe] at hcap2
                simp only at hcap2
                obtain ⟨hq0, hq1, hq2⟩ := hcap2
                split at hr
                · rename_i hq
                  subst hq
                  split at hr
                  · rename_i hn0
                    cases hr
                    subst hn0
                    have hz : new' = [] := List.length_eq_zero_iff.1 (by rw [hnl']; simp)
                    subst hz
                    have := run_append_in (P := P) (ty := ty) h0 h1 hu hd hid hi (base := some ⟨p.blk, p.off + a.off, none⟩) (l := l) (c := c0) hnn hq2 hnew (w' := w) rfl
                    exact (okay0 this hs).okay H
                  · split at hr
                    · rename_i old hold
                      split at hr
                      · rename_i hroom
                        cases hr
                        have hkb : k ≤ a.block := hk _ rfl
                        have hob : ∃ o, h[a.block]? = some o ∧ o.live = true ∧ isM o = false ∧ ∀ (j : Nat) (v : Value), old[j]? = some v → o.cs[a.off + j]? = some v := by
                          unfold aload at hold
                          split at hold
                          · rename_i o ho
                            split at hold
                            · rename_i hcc
                              cases hold
                              simp at hcc
                              refine ⟨o, ho, hcc.1.1, hcc.1.2, fun j v hv => ?_⟩
                              rw [List.getElem?_take] at hv
                              split at hv
                              · rwa [List.getElem?_drop] at hv
                              · cases hv
                            · cases hold
                          · cases hold
                        obtain ⟨o, ho, hlive, hnm, hsub⟩ := hob
                        have hoe : o.es = some i.size := by
                          have h1 := hes
                          unfold esOf at h1
                          rw [ho] at h1
                          simp only [hlive, if_true] at h1
                          exact Option.some.inj h1
                        have how : isW o = true := by
                          have h1 := roomB_w hroom []
                          unfold isW at h1 ⊢
                          rw [hoe]
                          exact h1
                        obtain ⟨hol, old', hor, hoc⟩ := aload_spec H.drew.mr hold hp
                        by_cases hin : l + n ≤ c0
                        · obtain ⟨g1, g2, H', hle⟩ := H.regrow ho hlive how hkb hp (e := i.size) (old := old) (new := new) (c' := c0) (roomB_w hroom _) hsub hnr hq1 (by rw [hol, hnl, ← Nat.add_mul]; exact Nat.mul_le_mul_right _ hin)
                          have hone' : ∀ v ∈ new', v.oneCell' = true := by
                            intro v hv
                            obtain ⟨j, hj⟩ := List.getElem?_of_mem hv
                            obtain ⟨u, hu, huv⟩ := hnr.get' hj
                            exact huv.one (all_get hone hu)
                          rw [hol] at g1 g2 H'
                          have h3 := run_storeCells_cells (P := P) p.blk (p.off + a.off + l * i.size) new' 0 w (by simpa using g1) (by simpa using g2) hone'
                          have h4 : (storeCells ((⟨p.blk, p.off + a.off, none⟩ : Addr).add (l * i.size)) new').run P w = .ok () (w.setCells p.blk (p.off + a.off + l * i.size) new') := by
                            rw [add_none]; simpa using h3
                          have := run_append_in (P := P) (ty := ty) h0 h1 hu hd hid hi (base := some ⟨p.blk, p.off + a.off, none⟩) (l := l) (c := c0) hnn hin hnew h4
                          refine okay_val this hle H' ?_
                          exact VR.slice (a := ⟨h.length, 0, none⟩) (p := ⟨p.blk, p.off + a.off, p.tot, some i.size⟩) rfl (upd_same _ _ _) (by unfold CapOk; exact ⟨hq0, by simp only [Nat.add_zero]; exact hq1, hin⟩)
                        · have ho2 := run_loadCells_list (P := P) w.drew ⟨p.blk, p.off + a.off, none⟩ old' hoc
                          rw [← hor.1, hol] at ho2
                          obtain ⟨arr, c', e1, e2, e3, e4⟩ := run_append_new (P := P) (ty := ty) (w := w) h0 h1 hu hd hid hi (base := some ⟨p.blk, p.off + a.off, none⟩) (l := l) (c := c0) hnn hin hroom (old := old') ho2 hnew2 (by rw [← hor.1]; exact hol) hnl2
                          obtain ⟨s', g1, g2, g3⟩ := append_new (H.kill a.block) hq0 (roomB_w hroom _) (T := e) (hor.append hnr2) e2 e3 (by rw [List.length_append, hol, hnl, ← Nat.add_mul]) e4
                          simp only [List.length_set] at g3
                          exact okay_val e1 g1 g2 g3
                      · cases hr
                    · cases hr
                · cases hr
              · cases hr
            · cases hr
          · cases hr
        · cases hr
      · cases hr
    · cases hr
  · cases hr
end
end Go.Proofs.YtchjneodjaakdaaGreat.Ex
end
section
namespace Go.Proofs.YtchjneodjaakdaaGreat.Ex
open Go Go.RowKit

section
variable {P : Program} {wb : World} {k : Nat} {s : Ren} {h : List AO} {w : World}
def oCopy (P : Program) (ts : Array TypeId) (dv xv : Value) (h : List AO) : Option Out :=
  match ts[0]?, dv, lenA xv with
  | some dT, .slice (some a) dl _, some n =>
    match P.underlying dT with
    | some (.slice e) =>
      match P.info? e with
      | some i =>
        match srcCells xv i.size (Nat.min n dl) h with
        | some new =>
          if new.length = Nat.min n dl * i.size ∧ new.all (·.oneCell') = true then
            match astore h a new with
            | some h' => some (.value (.int .i64 (Nat.min n dl)), h', some a.block)
            | none => none
          else none
        | none => none
      | none => none
    | _ => none
  | _, _, _ => none
theorem copy_ok (H : HR wb k s h w) {ts : Array TypeId} {ty : TypeId} {dv dv' xv xv' : Value} (hs : VR s dv dv') (hx : VR s xv xv') {r : Out} (hr : oCopy P ts dv xv h = some r) (hk : ∀ i, r.2.2 = some i → k ≤ i) :
    Okay P wb k s w (aval (Builtin.copy_ ts ty #[dv', xv'])) r := by
  unfold oCopy at hr
  split at hr
  · rename_i dT a dl c n h0 hlen
    obtain ⟨p, c0, hsp, hp, _, rfl⟩ := hs.slice_inv
    split at hr
    · rename_i e hu
      split at hr
      · rename_i i hi
        split at hr
        · rename_i new hsrc
          split at hr
          · rename_i hc
            split at hr
            · rename_i h' hst
              cases hr
              obtain ⟨new', hnew, hnr⟩ := src_ok (P := P) H.mr hx hsrc
              have hnn := len_of (P := P) (w := w) hx hlen
              obtain ⟨g1, g2, H'⟩ := astore_spec H hst (hk _ rfl) hp hnr
              have hone' : ∀ v ∈ new', v.oneCell' = true := by
                intro v hv
                obtain ⟨j, hj⟩ := List.getElem?_of_mem hv
                obtain ⟨u, hu, huv⟩ := hnr.get' hj
                exact huv.one (all_get hc.2 hu)
              have h3 := run_storeCells_cells (P := P) p.blk (p.off + a.off) new' 0 w (by simpa using g1) (by simpa using g2) hone'
              refine okay_val (v' := .int .i64 (Nat.min n dl)) (w' := w.setCells p.blk (p.off + a.off) new') ?_ (Le.refl s) H' (VR.same rfl)
              simp only [Builtin.copy_, h0, List.getElem?_toArray, List.getElem?_cons_zero, List.getElem?_cons_succ, Sem.run_bind, run_under hu, Result.andThen_ok, hnn, run_size hi, hnew]
              have h4 : (storeCells ⟨p.blk, p.off + a.off, none⟩ new').run P w = .ok () (w.setCells p.blk (p.off + a.off) new') := by simpa using h3
              simp only [h4, Result.andThen_ok, Sem.run_pure, goInt]
            · cases hr
          · cases hr
        · cases hr
      · cases hr
    · cases hr
  · cases hr

def nsOf : List Value → Option (List Int)
  | [] => some []
  | .int .u8 n :: r =>
    match nsOf r with
    | some ns => some (n :: ns)
    | none => none
  | _ => none
theorem nsOf_ok : ∀ {l : List Value} {ns : List Int}, nsOf l = some ns → l = ns.map (Value.int .u8)
  | [], ns, h => by simp [nsOf] at h; subst h; rfl
  | v :: l, ns, h => by
    unfold nsOf at h
    split at h
    · rename_i heq; cases heq
    · rename_i n r heq
      cases heq
      split at h
      · rename_i ns' hns
        cases h
        rw [nsOf_ok hns]; rfl
      · cases h
    · cases h
theorem fold_push : ∀ (ns : List Int) (r : ByteArray), (ns.foldl (fun r n => r.push (UInt8.ofNat n.toNat)) r).data.toList = r.data.toList ++ ns.map fun n => UInt8.ofNat n.toNat
  | [], r => by simp
  | n :: ns, r => by
    simp only [List.foldl_cons, fold_push ns, List.map_cons]
    simp [ByteArray.push]
theorem fold_bytes (ns : List Int) : ns.foldl (fun r n => r.push (UInt8.ofNat n.toNat)) ByteArray.empty = ⟨⟨ns.map fun n => UInt8.ofNat n.toNat⟩⟩ := by
  apply ByteArray.ext
  apply Array.toList_inj.1
  rw [fold_push]
  rfl
def oToStr (P : Program) (src dst : TypeId) (x : Value) (h : List AO) : Option Out :=
  match P.underlying src, P.underlying dst, x with
  | some (.slice e), some .string, .slice (some a) l _ =>
    match P.underlying e with
    | some (.int .u8) =>
      match aload h a l with
      | some vs =>
        match nsOf vs with
        | some ns => some (.value (.string ⟨⟨ns.map fun n => UInt8.ofNat n.toNat⟩⟩), h, none)
        | none => none
      | none => none
    | _ => none
  | _, _, _ => none
theorem toStr_ok (H : MR s h w) {src dst : TypeId} {x x' : Value} (hx : VR s x x') {r : Out} (hr : oToStr P src dst x h = some r) : Okay0 P s h w (aval (convert src dst x')) r := by
  unfold oToStr at hr
  split at hr
  · rename_i e a l c hsu hdu
    obtain ⟨p, c', hsp, hp, _, rfl⟩ := hx.slice_inv
    split at hr
    · rename_i heu
      split at hr
      · rename_i vs hvs
        split at hr
        · rename_i ns hns
          cases hr
          obtain ⟨hlen, vs', hv, hc⟩ := aload_spec H hvs hp
          have hvv : vs' = vs := hv.eq_of_flat (by rw [nsOf_ok hns]; exact List.all_eq_true.2 fun v hv => by obtain ⟨n, _, rfl⟩ := List.mem_map.1 hv; rfl)
          subst hvv
          have h2 := run_loadCells_list (P := P) w ⟨p.blk, p.off + a.off, none⟩ vs' hc
          rw [hlen] at h2
          rw [← fold_bytes]
          have h3 := run_bytesToString (P := P) w ⟨p.blk, p.off + a.off, none⟩ l c' ns (by rw [h2, nsOf_ok hns])
          refine okay0 ?_ (VR.same rfl)
          simp only [convert, Sem.run_bind, run_under hsu, run_under hdu, Result.andThen_ok, run_under heu, h3]
        · cases hr
      · cases hr
    · cases hr
  · cases hr

/-! A string made bytes: their capacity is not known. -/
def oFromStr (P : Program) (src dst : TypeId) (x : Value) (h : List AO) : Option Out :=
  match P.underlying src, P.underlying dst, x with
  | some .string, some (.slice e), .string b =>
    match P.underlying e with
    | some (.int .u8) =>
      some (.value (.slice (some ⟨h.length, 0, none⟩) b.size b.size), h ++ [⟨true, some 1, b.data.toList.map fun c => Value.int .u8 c.toNat⟩], none)
    | _ => none
  | _, _, _ => none
theorem fromStr_ok (H : HR wb k s h w) {src dst : TypeId} {x x' : Value} (hx : VR s x x') {r : Out} (hr : oFromStr P src dst x h = some r) : Okay P wb k s w (aval (convert src dst x')) r := by
  unfold oFromStr at hr
  split at hr
  · rename_i e b hsu hdu
    rw [hx.string_inv]
    split at hr
    · rename_i heu
      cases hr
      let q := Question.appendCap b.size 0 e
      let c := q.cut (w.tape w.drawn q)
      have hc : b.size ≤ c := by
        show b.size ≤ b.size + (w.tape w.drawn q) % (2 ^ 63 - b.size)
        omega
      have hch : (choose (.appendCap b.size 0 e)).run P w = .ok c w.drew := by
        show (Sem.choose q .pure).run P w = _
        simp only [Sem.run]
        rw [if_neg (by simp [q, Question.forced])]
        rfl
      let cells : Array Value := b.data.map fun c => Value.int .u8 c.toNat
      let arr : Array Value := cells ++ Array.replicate (c - b.size) (.int .u8 0)
      have hbs : cells.size = b.size := by simp [cells]
      have hsz : arr.size = c := by simp only [arr, Array.size_append, hbs, Array.size_replicate]; omega
      have hcl : (b.data.toList.map fun c => Value.int .u8 c.toNat) = cells.toList := (Array.toList_map ..).symm
      have hflat : cells.toList.all flat = true := by
        simp only [cells, Array.toList_map]
        exact List.all_eq_true.2 fun v hv => by obtain ⟨n, _, rfl⟩ := List.mem_map.1 hv; rfl
      obtain ⟨H', hle⟩ := H.drew.newF cells.toList arr e (some 1) rfl (arr.size, arr.size + 1) (fun o ho hh => by have := hh.1; omega) (by simp only [arr, Array.size_append, Array.length_toList]; omega) (fun o v hv => by
        refine ⟨v, ?_, .same (all_get hflat hv)⟩
        rw [← Array.getElem?_toList]
        simp only [arr, Array.toList_append]
        rw [List.getElem?_append_left (List.getElem?_eq_some_iff.1 hv).1]
        exact hv)
      refine okay_val (v' := .slice (some ⟨w.heap.size, 0, none⟩) b.size c) (w' := w.drew.alloc (.cells arr e (arr.size, arr.size + 1))) ?_ hle (by rw [hcl]; exact H') ?_
      · have hfr : (w.drew.alloc (.cells arr e)).freeze ⟨w.heap.size, arr.size, none⟩ 1 = w.drew.alloc (.cells arr e (arr.size, arr.size + 1)) := by
          have e1 : (w.drew.alloc (.cells arr e)).heap = w.heap.push (.cells arr e) := rfl
          unfold World.freeze
          rw [if_neg (by omega)]
          show ({ (w.drew.alloc (.cells arr e)) with heap := _ } : World) = _
          rw [e1]
          have e2 : ∀ (f : Obj → Obj) (o : Obj), (w.heap.push o).modify w.heap.size f = w.heap.push (f o) := by
            intro f o
            apply Array.ext_getElem?
            intro j
            rw [Array.getElem?_modify]
            by_cases ej : w.heap.size = j
            · subst ej; simp
            · rw [if_neg ej, Array.getElem?_push, Array.getElem?_push, if_neg (Ne.symm ej), if_neg (Ne.symm ej)]
          rw [e2]
          rfl
        have hsh : (w.drew.alloc (.cells arr e)).shape? w.heap.size = some (e, arr.size) := by
          show World.shape? (w.alloc (.cells arr e)) w.heap.size = _
          simp only [World.alloc, World.shape?, Array.getElem?_push_size]
        have hmk : (markStringish ⟨w.heap.size, 0, none⟩).run P (w.drew.alloc (.cells arr e)) = .ok () (w.drew.alloc (.cells arr e (arr.size, arr.size + 1))) := by
          rw [← hfr]
          simp only [markStringish, shape, freeze, Sem.run_bind, Sem.run, hsh, Result.andThen_ok]
        simp only [convert, Conv.stringToBytes, Sem.run_bind, run_under hsu, run_under hdu, run_under heu, Result.andThen_ok, hch]
        have hnr : (newRow e arr).run P w.drew = .ok ⟨w.heap.size, 0, none⟩ (w.drew.alloc (.cells arr e)) := rfl
        have := hnr
        simp only [arr, cells] at hnr hmk ⊢
        simp only [hnr, Result.andThen_ok, hmk, Sem.run_pure]
      · exact VR.slice (a := ⟨h.length, 0, none⟩) rfl (upd_same _ _ _) (by unfold CapOk; exact ⟨by omega, by simp only [Nat.zero_add, Nat.mul_one, Nat.add_zero]; exact hsz.symm, hc⟩)
    · cases hr
  · cases hr

/-! Closures. -/
def oFunc (fn : Fn) (a b : List Value) (h : List AO) : Option Out :=
  match fn with
  | .func f => some (.value (.func (.func f) ⟨a⟩ ⟨b⟩), h, none)
  | _ => none
theorem func_ok {ρ ρ' : Operand → Value} {fn : Fn} {a b : Array Operand} (ha : LR s (a.toList.map ρ) (a.toList.map ρ')) (hb : LR s (b.toList.map ρ) (b.toList.map ρ')) {r : Out} (hr : oFunc fn (a.toList.map ρ) (b.toList.map ρ) h = some r) :
    Okay0 P s h w (aval (Instr.makeFunc fn (a.map ρ') (b.map ρ'))) r := by
  unfold oFunc at hr
  split at hr
  · rename_i f
    cases hr
    refine okay0 (v' := .func (.func f) (a.map ρ') (b.map ρ')) rfl ?_
    have e1 : a.map ρ' = ⟨a.toList.map ρ'⟩ := Array.ext' (by rw [Array.toList_map])
    have e2 : b.map ρ' = ⟨b.toList.map ρ'⟩ := Array.ext' (by rw [Array.toList_map])
    rw [e1, e2]
    exact VR.func ha.1 ha.2 hb.1 hb.2
  · cases hr
end
end Go.Proofs.YtchjneodjaakdaaGreat.Ex
end
section
namespace Go.Proofs.YtchjneodjaakdaaGreat.Ex
open Go Go.RowKit

/-! Entries. -/
theorem VR.keyOf {s : Ren} {x y : Value} (h : VR s x y) : VR s (keyOf x) (keyOf y) := by
  cases x with
  | tuple vs =>
    obtain ⟨xs⟩ := vs
    obtain ⟨ys, rfl, hl⟩ := h.tuple_inv
    exact hl.getD 0 rfl
  | _ =>
    cases h with
    | same _ => exact .same rfl
    | _ => exact .same rfl
theorem VR.valOf {s : Ren} {x y : Value} (h : VR s x y) : VR s (valOf x) (valOf y) := by
  cases x with
  | tuple vs =>
    obtain ⟨xs⟩ := vs
    obtain ⟨ys, rfl, hl⟩ := h.tuple_inv
    exact hl.getD 1 rfl
  | _ =>
    cases h with
    | same _ => exact .same rfl
    | _ => exact .same rfl
theorem ents_length : ∀ (n : Nat) (l : List Value), (ents n l).length = l.length
  | _, [] => rfl
  | n, x :: r => by simp [ents, ents_length (n + 1) r]
theorem ents_append : ∀ (n : Nat) (l r : List Value), ents n (l ++ r) = ents n l ++ ents (n + l.length) r
  | n, [], r => by simp [ents]
  | n, x :: l, r => by
    simp only [List.cons_append, ents, ents_append (n + 1) l r, List.length_cons]
    rw [show n + 1 + l.length = n + (l.length + 1) by omega]
theorem ents_get : ∀ (n : Nat) (l : List Value) (i : Nat), (ents n l)[i]? = (l[i]?).map fun x => ⟨keyOf x, valOf x, n + i⟩
  | _, [], i => by simp [ents]
  | n, x :: l, 0 => by simp [ents]
  | n, x :: l, i + 1 => by
    simp only [ents, List.getElem?_cons_succ, ents_get (n + 1) l i]
    rw [show n + 1 + i = n + (i + 1) by omega]
/-- A key of a kind whose values are held against each other at once. -/
def keyB : TypeDesc → Value → Bool
  | .bool, .bool _ => true
  | .int k, .int k' _ => if k' = k then true else false
  | .string, .string _ => true
  | _, _ => false
theorem keyB_spec {d : TypeDesc} {v : Value} (h : keyB d v = true) : MapKept.IsKey d v ∧ flat v = true := by
  unfold keyB at h
  split at h
  · exact ⟨trivial, rfl⟩
  · split at h
    · rename_i e; exact ⟨e, rfl⟩
    · cases h
  · exact ⟨trivial, rfl⟩
  · cases h
theorem sameNow_rel {s : Ren} {d : TypeDesc} {k x y : Value} (h : VR s x y) {b : Bool} (hs : Instr.sameNow d k x = some b) : Instr.sameNow d k y = some b ∧ (flat k = true → b = true → MapKept.IsKey d k → y = k) := by
  have hf : flat x = true := by
    cases d <;> cases k <;> cases x <;> first | rfl | (simp [Instr.sameNow] at hs)
  have hxy := h.eq_of_flat hf
  subst hxy
  refine ⟨hs, fun _ hb hk => ?_⟩
  subst hb
  cases d <;> cases k <;> cases y <;> simp_all [Instr.sameNow, MapKept.IsKey, MapKept.bytes_beq]
theorem find_rel {s : Ren} {d : TypeDesc} {k : Value} : ∀ {xs ys : List Value}, LR s xs ys → ∀ (n m i : Nat) {r : Option (Nat × Value)}, Instr.findNow d k (ents n xs) i = some r →
    ∃ r', Instr.findNow d k (ents m ys) i = some r' ∧ (match r, r' with
      | none, none => True
      | some (j, v), some (j', v') => j = j' ∧ VR s v v' ∧ i ≤ j ∧ j - i < xs.length ∧ (MapKept.IsKey d k → flat k = true → ((ys[j - i]?).map keyOf) = some k)
      | _, _ => False)
  | [], [], _, n, m, i, r, h => by
    simp only [ents, Instr.findNow, Option.some.injEq] at h
    subst h
    exact ⟨none, rfl, trivial⟩
  | [], _ :: _, h, _, _, _, _, _ => by have := h.1; simp at this
  | _ :: _, [], h, _, _, _, _, _ => by have := h.1; simp at this
  | x :: xs, y :: ys, hl, n, m, i, r, h => by
    simp only [ents, Instr.findNow] at h ⊢
    have hk := hl.uncons.1.keyOf
    cases hs : Instr.sameNow d k (keyOf x) with
    | none => rw [hs] at h; cases h
    | some b =>
      rw [hs] at h
      obtain ⟨h1, h2⟩ := sameNow_rel hk hs
      rw [h1]
      cases b with
      | true =>
        simp only [Option.some.injEq] at h
        subst h
        refine ⟨_, rfl, rfl, hl.uncons.1.valOf, Nat.le_refl _, by simp, fun g1 g2 => ?_⟩
        simp [h2 g2 rfl g1]
      | false =>
        obtain ⟨r', e1, e2⟩ := find_rel hl.uncons.2 (n + 1) (m + 1) (i + 1) h
        refine ⟨r', e1, ?_⟩
        cases r with
        | none => cases r' with
          | none => trivial
          | some _ => exact e2.elim
        | some jv =>
          cases r' with
          | none => exact e2.elim
          | some jv' =>
            obtain ⟨j, v⟩ := jv
            obtain ⟨j', v'⟩ := jv'
            obtain ⟨g1, g2, g3, g4, g5⟩ := e2
            refine ⟨g1, g2, by omega, by simp; omega, fun q1 q2 => ?_⟩
            have := g5 q1 q2
            rw [show j - i = (j - (i + 1)) + 1 by omega]
            simpa using this

section
variable {P : Program} {wb : World} {k : Nat} {s : Ren} {h : List AO} {w : World}

/-- What a map has. -/
def mapCells (x : Value) (h : List AO) : Option (List Value) :=
  match x with
  | .map none => some []
  | .map (some r) =>
    match h[r]? with
    | some o => if o.live && isM o then some o.cs else none
    | none => none
  | _ => none
theorem mapCells_ok (H : MR s h w) {x x' : Value} (hx : VR s x x') {cs : List Value} (hr : mapCells x h = some cs) :
    (x' = .map none ∧ cs = []) ∨ ∃ b cs', x' = .map (some b) ∧ LR s cs cs' ∧ w.heap[b]? = some (.map ⟨ents 0 cs'⟩ cs'.length) := by
  unfold mapCells at hr
  split at hr
  · cases hr; exact .inl ⟨hx.eq_of_flat rfl, rfl⟩
  · rename_i r
    obtain ⟨p, hp, rfl⟩ := hx.map_inv
    split at hr
    · rename_i o ho
      split at hr
      · rename_i hc
        cases hr
        simp only [Bool.and_eq_true] at hc
        obtain ⟨q, hq, _, hb⟩ := H r o ho hc.1
        rw [hp] at hq
        cases hq
        obtain ⟨cs', h1, h2⟩ := hb.1 hc.2
        exact .inr ⟨_, cs', rfl, h1, h2⟩
      · cases hr
    · cases hr
  · cases hr

def okPair (ok b : Bool) (v : Value) : Value := if ok then .tuple ⟨[v, .bool b]⟩ else v
theorem okPair_ok {v v' : Value} (h : VR s v v') (ok b : Bool) : VR s (okPair ok b v) (okPair ok b v') := by
  unfold okPair
  cases ok with
  | false => exact h
  | true =>
    have := LR.cons h (LR.cons (.same (s := s) (v := .bool b) rfl) (LR.nil s))
    exact VR.tuple this.1 this.2
def Has (w : World) (x : Value) (es : Array MapEntry) : Prop := (x = .map none ∧ es = #[]) ∨ ∃ b c, x = .map (some b) ∧ w.heap[b]? = some (.map es c)
theorem run_lookup_in {t kt et : TypeId} (hu : P.underlying t = some (.map kt et)) {d : TypeDesc} (hd : P.underlying kt = some d) {x ix : Value} (hk : MapKept.IsKey d ix) {es : Array MapEntry} (hx : Has w x es) {j : Nat} {v : Value}
    (hf : (Instr.findKey kt ix es.toList).run P w = .ok (some (j, v)) w) (ok : Bool) : (Instr.lookup t x ix ok).run P w = .ok (okPair ok true v) w := by
  have hck := MapKept.run_checkKey (w := w) hd hk es.isEmpty 9999
  rcases hx with ⟨rfl, rfl⟩ | ⟨b, c, rfl, hb⟩
  · simp only [Instr.lookup, Sem.run_bind, run_under hu, Result.andThen_ok, hck, hf, Sem.run_pure, okPair]
  · simp only [Instr.lookup, Sem.run_bind, run_under hu, Result.andThen_ok, MapKept.run_getObj_map hb, hck, hf, Sem.run_pure, okPair]
theorem run_lookup_out {t kt et : TypeId} (hu : P.underlying t = some (.map kt et)) {d : TypeDesc} (hd : P.underlying kt = some d) {x ix : Value} (hk : MapKept.IsKey d ix) {es : Array MapEntry} (hx : Has w x es) {z : Value}
    (hf : (Instr.findKey kt ix es.toList).run P w = .ok none w) (hz : (zeroValue et).run P w = .ok z w) (ok : Bool) : (Instr.lookup t x ix ok).run P w = .ok (okPair ok false z) w := by
  have hck := MapKept.run_checkKey (w := w) hd hk es.isEmpty 9999
  rcases hx with ⟨rfl, rfl⟩ | ⟨b, c, rfl, hb⟩
  · simp only [Instr.lookup, Sem.run_bind, run_under hu, Result.andThen_ok, hck, hf, hz, Sem.run_pure, okPair]
  · simp only [Instr.lookup, Sem.run_bind, run_under hu, Result.andThen_ok, MapKept.run_getObj_map hb, hck, hf, hz, Sem.run_pure, okPair]
def oLookup (P : Program) (t : TypeId) (x ix : Value) (ok : Bool) (h : List AO) : Option Out :=
  match P.underlying t with
  | some (.map kt et) =>
    match P.underlying kt, mapCells x h with
    | some d, some cs =>
      if keyB d ix then
        match Instr.findNow d ix (ents 0 cs) 0 with
        | some (some (_, v)) => some (.value (okPair ok true v), h, none)
        | some none =>
          match P.info? et with
          | some i =>
            match i.zero with
            | some z => if flat z then some (.value (okPair ok false z), h, none) else none
            | none => none
          | none => none
        | none => none
      else none
    | _, _ => none
  | _ => none
theorem lookup_ok (H : MR s h w) {t : TypeId} {x x' ix ix' : Value} (hx : VR s x x') (hi : VR s ix ix') {ok : Bool} {r : Out} (hr : oLookup P t x ix ok h = some r) : Okay0 P s h w (aval (Instr.lookup t x' ix' ok)) r := by
  unfold oLookup at hr
  split at hr
  · rename_i kt et hu
    split at hr
    · rename_i d cs hd hcs
      split at hr
      · rename_i hkb
        obtain ⟨hk, hkf⟩ := keyB_spec hkb
        rw [hi.eq_of_flat hkf]
        have base : ∃ es : Array MapEntry, ∃ ys, LR s cs ys ∧ es.toList = ents 0 ys ∧ Has w x' es := by
          rcases mapCells_ok H hx hcs with ⟨rfl, rfl⟩ | ⟨b, cs', rfl, h1, h2⟩
          · exact ⟨#[], [], LR.nil s, rfl, .inl ⟨rfl, rfl⟩⟩
          · exact ⟨⟨ents 0 cs'⟩, cs', h1, rfl, .inr ⟨b, _, rfl, h2⟩⟩
        obtain ⟨es, ys, hl, he, hrun⟩ := base
        cases hf : Instr.findNow d ix (ents 0 cs) 0 with
        | none => rw [hf] at hr; cases hr
        | some q =>
          rw [hf] at hr
          obtain ⟨q', hq', hrel⟩ := find_rel hl 0 0 0 hf
          have hfk : (Instr.findKey kt ix es.toList).run P w = .ok q' w := MapKept.run_findKey hd (by rw [he]; exact hq')
          cases q with
          | none =>
            cases q' with
            | some _ => exact hrel.elim
            | none =>
              simp only at hr
              split at hr
              · rename_i i hinf
                split at hr
                · rename_i z hz
                  split at hr
                  · rename_i hzf
                    cases hr
                    refine okay0 (v' := okPair ok false z) ?_ (okPair_ok (.same hzf) ok false)
                    exact run_lookup_out hu hd hk hrun hfk (run_zero hinf hz w) ok
                  · cases hr
                · cases hr
              · cases hr
          | some jv =>
            cases q' with
            | none => exact hrel.elim
            | some jv' =>
              obtain ⟨j, v⟩ := jv
              obtain ⟨j', v'⟩ := jv'
              cases hr
              refine okay0 (v' := okPair ok true v') ?_ (okPair_ok hrel.2.1 ok true)
              exact run_lookup_in hu hd hk hrun hfk ok
      · cases hr
    · cases hr
  · cases hr

/-! New maps, and what is laid in them. -/
def oMakeMap (t : Option Value) (h : List AO) : Option Out :=
  match t with
  | none => some (.value (.map (some h.length)), h ++ [⟨true, some 0, []⟩], none)
  | some _ => none
theorem makeMap_ok (H : HR wb k s h w) {t : TypeId} {x x' : Option Value} (hx : OR s x x') {r : Out} (hr : oMakeMap x h = some r) : Okay P wb k s w (aval (Instr.makeMap t x')) r := by
  unfold oMakeMap at hr
  split at hr
  · cases hr
    cases x' with
    | some _ => exact hx.elim
    | none =>
      obtain ⟨H', hle⟩ := H.newO ⟨true, some 0, []⟩ (.map #[] 0) 0 (by simp [GM]) ⟨fun _ => ⟨[], LR.nil _, (MapKept.heap_alloc w _).1⟩, fun hm => by simp [isM] at hm⟩
      refine ⟨_, .value (.map (some w.heap.size)), w.alloc (.map #[] 0), ?_, hle, H', ?_⟩
      · simp [aval, Instr.makeMap, newObj, Sem.run]
      · exact VR.map (upd_same _ _ _)
  · cases hr
/-- A map's block anew. -/
theorem HR.setMap (H : HR wb k s h w) {b : Nat} {o : AO} (ho : h[b]? = some o) (hlive : o.live = true) (hm : isM o = true) (hk : k ≤ b) {p : Pl} (hp : s b = some p) {cs cs' : List Value} (hl : LR s cs cs') :
    HR wb k s (h.set b ⟨true, some 0, cs⟩) { w with heap := w.heap.setIfInBounds p.blk (.map ⟨ents 0 cs'⟩ cs'.length) } := by
  obtain ⟨q, hq, he, hb⟩ := H.obj b o ho hlive
  rw [hp] at hq
  cases hq
  have hes : o.es = some 0 := by
    unfold isM at hm
    split at hm
    · rename_i e h1; rw [h1, Nat.eq_of_beq_eq_true hm]
    · cases hm
  have hbl : b < h.length := (List.getElem?_eq_some_iff.1 ho).1
  have hblk : wb.heap.size ≤ p.blk := (H.plc _ _ hp).2.1 hk
  obtain ⟨cs0, _, hold⟩ := hb.1 hm
  have hset := MapKept.heap_set (o' := Obj.map ⟨ents 0 cs'⟩ cs'.length) hold
  have live : ∀ (i : Nat) (x : AO), (h.set b ⟨true, some 0, cs⟩)[i]? = some x → x.live = true → ∃ x', h[i]? = some x' ∧ x'.live = true := by
    intro i x hx hl
    rw [List.getElem?_set] at hx
    by_cases ei : b = i
    · subst ei; exact ⟨o, ho, hlive⟩
    · rw [if_neg ei] at hx; exact ⟨x, hx, hl⟩
  refine ⟨⟨H.grown.1, fun i hi => (hset.2 i (by omega)).trans (H.grown.2.1 i hi), by simpa using H.grown.2.2⟩, by simpa using H.kle, fun i hi => H.dom i (by simpa using hi), fun i q hq => ?_, fun i x hx hlx => ?_, fun i j x y q r hi hj hx hy hq hr e => ?_, H.gl⟩
  · obtain ⟨a, b, c⟩ := H.plc i q hq
    exact ⟨a, b, by simpa using c⟩
  · rw [List.getElem?_set] at hx
    by_cases ei : b = i
    · subst ei
      rw [if_pos rfl, if_pos hbl] at hx
      cases hx
      exact ⟨p, hp, by rw [he, hes], ⟨fun _ => ⟨cs', hl, hset.1⟩, fun hm => by simp [isM] at hm⟩⟩
    · rw [if_neg ei] at hx
      obtain ⟨q, hq, heq, hbq⟩ := H.obj i x hx hlx
      have hne : q.blk ≠ p.blk := fun e => ei (H.sep i b x o q p hx ho hlx hlive hq hp e).symm
      exact ⟨q, hq, heq, hbq.heap (hset.2 _ hne)⟩
  · obtain ⟨x', hx1, hx2⟩ := live i x hi hx
    obtain ⟨y', hy1, hy2⟩ := live j y hj hy
    exact H.sep i j x' y' q r hx1 hy1 hx2 hy2 hq hr e
def oMapUpdate (P : Program) (t : TypeId) (m key v : Value) (h : List AO) : Option Out :=
  match P.underlying t, m with
  | some (.map kt _), .map (some r) =>
    match P.underlying kt, h[r]? with
    | some d, some o =>
      if o.live && isM o && keyB d key then
        match Instr.findNow d key (ents 0 o.cs) 0 with
        | some (some (i, _)) => some (.skip, h.set r ⟨true, some 0, o.cs.set i (.tuple ⟨[key, v]⟩)⟩, some r)
        | some none => some (.skip, h.set r ⟨true, some 0, o.cs ++ [.tuple ⟨[key, v]⟩]⟩, some r)
        | none => none
      else none
    | _, _ => none
  | _, _ => none
theorem vr_pair {s : Ren} {a a' b b' : Value} (h : VR s a a') (g : VR s b b') : VR s (.tuple ⟨[a, b]⟩) (.tuple ⟨[a', b']⟩) := by
  have := LR.cons h (LR.cons g (LR.nil s))
  exact VR.tuple this.1 this.2
theorem ents_set (n : Nat) (l : List Value) (i : Nat) (key v : Value) (hk : (l[i]?).map keyOf = some key) :
    (⟨ents n l⟩ : Array MapEntry).modify i (fun e => { e with key := key, val := v }) = ⟨ents n (l.set i (.tuple ⟨[key, v]⟩))⟩ := by
  apply Array.ext_getElem?
  intro j
  have e1 : ∀ (l : List Value) (q : Nat), (⟨ents n l⟩ : Array MapEntry)[q]? = (ents n l)[q]? := fun l q => by simp
  rw [Array.getElem?_modify, e1, e1, ents_get, ents_get, List.getElem?_set]
  by_cases hij : i = j
  · subst hij
    cases hl : l[i]? with
    | none => rw [hl] at hk; cases hk
    | some x =>
      rw [if_pos rfl, if_pos rfl, if_pos (List.getElem?_eq_some_iff.1 hl).1]
      rfl
  · rw [if_neg hij, if_neg hij]
theorem mapUpdate_ok (H : HR wb k s h w) {t : TypeId} {m m' key key' v v' : Value} (hm : VR s m m') (hkey : VR s key key') (hv : VR s v v') {r : Out} (hr : oMapUpdate P t m key v h = some r) (hk : ∀ i, r.2.2 = some i → k ≤ i) :
    Okay P wb k s w (aunit (Instr.mapUpdate t m' key' v')) r := by
  unfold oMapUpdate at hr
  split at hr
  · rename_i kt et b hu
    obtain ⟨p, hp, rfl⟩ := hm.map_inv
    split at hr
    · rename_i d o hd ho
      split at hr
      · rename_i hc
        simp only [Bool.and_eq_true] at hc
        obtain ⟨⟨hlive, hmm⟩, hkb⟩ := hc
        obtain ⟨hik, hkf⟩ := keyB_spec hkb
        rw [hkey.eq_of_flat hkf]
        obtain ⟨q, hq, _, hb⟩ := H.obj b o ho hlive
        rw [hp] at hq
        cases hq
        obtain ⟨ys, hl, hw⟩ := hb.1 hmm
        cases hf : Instr.findNow d key (ents 0 o.cs) 0 with
        | none => rw [hf] at hr; cases hr
        | some q =>
          rw [hf] at hr
          obtain ⟨q', hq', hrel⟩ := find_rel hl 0 0 0 hf
          have hfk : (Instr.findKey kt key (ents 0 ys)).run P w = .ok q' w := MapKept.run_findKey hd hq'
          have hck := fun e => MapKept.run_checkKey (P := P) (w := w) hd hik e 9999
          cases q with
          | none =>
            cases q' with
            | some _ => exact hrel.elim
            | none =>
              cases hr
              have H' := H.setMap ho hlive hmm (hk _ rfl) hp (hl.append (LR.cons (vr_pair (.same hkf) hv) (LR.nil s)))
              refine ⟨s, .skip, _, ?_, Le.refl s, H', trivial⟩
              have e1 : (⟨ents 0 ys⟩ : Array MapEntry).push { key, val := v', born := ys.length } = ⟨ents 0 (ys ++ [.tuple ⟨[key, v']⟩])⟩ := by
                apply Array.toList_inj.1
                rw [Array.toList_push, ents_append, Nat.zero_add]
                rfl
              simp only [aunit, Instr.mapUpdate, Sem.run_bind, run_under hu, Result.andThen_ok, MapKept.run_getObj_map hw, hck, hfk, MapKept.run_setObj_map _ hw, e1, List.length_append, List.length_singleton, Sem.run_pure]
          | some jv =>
            cases q' with
            | none => exact hrel.elim
            | some jv' =>
              obtain ⟨j, u⟩ := jv
              obtain ⟨j', u'⟩ := jv'
              obtain ⟨rfl, _, _, hlt, hkk⟩ := hrel
              have hky := hkk hik hkf
              simp only [Nat.sub_zero] at hlt hky
              cases hr
              have H' := H.setMap ho hlive hmm (hk _ rfl) hp (hl.set (vr_pair (.same hkf) hv) j)
              refine ⟨s, .skip, _, ?_, Le.refl s, H', trivial⟩
              have e1 := ents_set 0 ys j key v' hky
              have e2 : (((⟨ents 0 ys⟩ : Array MapEntry)[j]?).map (·.key)).getD key = key := by
                have : (⟨ents 0 ys⟩ : Array MapEntry)[j]? = (ents 0 ys)[j]? := by simp
                rw [this, ents_get]
                cases hy : ys[j]? with
                | none => rw [hy] at hky; cases hky
                | some y => rw [hy] at hky; simpa using hky
              simp only [aunit, Instr.mapUpdate, Sem.run_bind, run_under hu, Result.andThen_ok, MapKept.run_getObj_map hw, hck, hfk, e2, MapKept.run_keyThatStays hik, MapKept.run_setObj_map _ hw, e1, List.length_set, Sem.run_pure]
      · cases hr
    · cases hr
  · cases hr

/-! How many entries there are. -/
def oLenMap (P : Program) (c : Call) (args : List Value) (h : List AO) : Option Out :=
  match c.argTypes[0]?, args with
  | some t, x :: _ =>
    match P.underlying t, mapCells x h with
    | some (.map _ _), some cs => some (.value (.int .i64 cs.length), h, none)
    | _, _ => none
  | _, _ => none
theorem lenMap_ok (H : MR s h w) {ρ ρ' : Operand → Value} {c : Call} (hc : c.callee = .builtin .len) (type : TypeId) (ha : LR s (c.args.toList.map ρ) (c.args.toList.map ρ')) {r : Out}
    (hr : oLenMap P c (c.args.toList.map ρ) h = some r) : Okay0 P s h w (do let d ← resolve ρ' c type; invoke d.target d.args) r := by
  unfold oLenMap at hr
  split at hr
  · rename_i t x rest ht hxs
    obtain ⟨y, hy, hxy⟩ := ha.get (i := 0) (x := x) (by rw [hxs]; rfl)
    have hy0 : (c.args.map ρ')[0]? = some y := by
      rw [← hy, ← Array.toList_map]; exact Array.getElem?_toList.symm
    split at hr
    · rename_i kt et cs hu hcs
      cases hr
      refine ⟨.value (.int .i64 cs.length), ?_, VR.same rfl, rfl⟩
      rcases mapCells_ok H hxy hcs with ⟨rfl, rfl⟩ | ⟨b, cs', rfl, h1, h2⟩
      · simp [resolve, hc, invoke, builtin, Builtin.len_, ht, hy0, run_under hu, goInt]
      · simp [resolve, hc, invoke, builtin, Builtin.len_, ht, hy0, run_under hu, goInt, MapKept.run_getObj_map h2, ents_length, h1.1]
    · cases hr
  · cases hr

/-! Interface values. -/
def ifaceD : TypeDesc → Bool
  | .interface _ => true
  | _ => false
def oIface (P : Program) (t : TypeId) (x : Value) (h : List AO) : Option Out :=
  match P.underlying t with
  | some d => if ifaceD d then none else some (.value (.iface t x), h, none)
  | none => none
theorem iface_ok {t : TypeId} {x x' : Value} (hx : VR s x x') {r : Out} (hr : oIface P t x h = some r) : Okay0 P s h w (aval (Instr.makeInterface t x')) r := by
  unfold oIface at hr
  split at hr
  · rename_i d hu
    split at hr
    · cases hr
    · rename_i hd
      cases hr
      refine okay0 (v' := .iface t x') ?_ (VR.iface hx)
      cases d <;> first | exact absurd rfl hd | (simp only [Instr.makeInterface, Sem.run_bind, run_under hu, Result.andThen_ok, Sem.run_pure])
  · cases hr
def oAssert (P : Program) (x : Value) (t : TypeId) (ok : Bool) (h : List AO) : Option Out :=
  match P.underlying t, x with
  | some d, .iface u v =>
    if ifaceD d then none
    else if u = t then some (.value (okPair ok true v), h, none)
    else if ok then
      match P.info? t with
      | some i =>
        match i.zero with
        | some z => if flat z then some (.value (okPair true false z), h, none) else none
        | none => none
      | none => none
    else none
  | _, _ => none
theorem assert_ok {x x' : Value} (hx : VR s x x') {xt t : TypeId} {ok : Bool} {r : Out} (hr : oAssert P x t ok h = some r) : Okay0 P s h w (aval (Instr.typeAssert x' xt t ok)) r := by
  unfold oAssert at hr
  split at hr
  · rename_i d u v hu
    obtain ⟨v', rfl, hv⟩ := hx.iface_inv
    split at hr
    · cases hr
    · rename_i hd
      split at hr
      · rename_i hut
        cases hr
        refine okay0 (v' := okPair ok true v') ?_ (okPair_ok hv ok true)
        cases d <;> first | exact absurd rfl hd | (simp only [Instr.typeAssert, Sem.run_bind, run_under hu, Result.andThen_ok, hut, if_true, Sem.run_pure, okPair])
      · rename_i hut
        split at hr
        · rename_i hok
          split at hr
          · rename_i i hi
            split at hr
            · rename_i z hz
              split at hr
              · rename_i hzf
                cases hr
                refine okay0 (v' := okPair true false z) ?_ (okPair_ok (.same hzf) true false)
                cases d <;> first | exact absurd rfl hd | (simp only [Instr.typeAssert, Sem.run_bind, run_under hu, Result.andThen_ok, hut, if_false, hok, if_true, run_zero hi hz, Sem.run_pure, okPair])
              · cases hr
            · cases hr
          · cases hr
        · cases hr
  · cases hr

/-! Calls of a method behind an interface value. -/
def ptrD : TypeDesc → Bool
  | .pointer _ => true
  | _ => false
def oInvoke (P : Program) (recv : Value) (name : String) (args : List Value) (h : List AO) : Option Out :=
  match recv with
  | .iface t v =>
    match P.info? t, P.underlying t with
    | some i, some d =>
      match i.methods.find? (·.name == name) with
      | some m =>
        if m.path.toList.isEmpty then
          match m.func with
          | some (f, pr) =>
            if pr == ptrD d then
              match P.funcs[f]? with
              | some fn => if fn.body.isSome then some (.enter f ⟨v :: args⟩, h, none) else none
              | none => none
            else none
          | none => none
        else none
      | none => none
    | _, _ => none
  | _ => none
theorem invoke_ok (hng : NoNG P) {ρ ρ' : Operand → Value} {c : Call} {x : Operand} {name : String} (hc : c.callee = .invoke x name) (type : TypeId) (hx : VR s (ρ x) (ρ' x)) (ha : LR s (c.args.toList.map ρ) (c.args.toList.map ρ')) {r : Out}
    (hr : oInvoke P (ρ x) name (c.args.toList.map ρ) h = some r) : Okay0 P s h w (do let d ← resolve ρ' c type; invoke d.target d.args) r := by
  unfold oInvoke at hr
  split at hr
  · rename_i t v hxv
    rw [hxv] at hx
    obtain ⟨v', hx', hv⟩ := hx.iface_inv
    split at hr
    · rename_i i d hi hu
      split at hr
      · rename_i m hm
        split at hr
        · rename_i hpe
          split at hr
          · rename_i f pr hfn
            split at hr
            · rename_i hpr
              split at hr
              · rename_i fn hfun
                split at hr
                · rename_i hcond
                  cases hr
                  have hb : ¬ fn.body = none := by
                    intro e
                    rw [e] at hcond
                    simp at hcond
                  have hn := hng f fn hfun
                  have hpath : m.path.toList = [] := by simpa using hpe
                  have hprd : pr = ptrD d := by simpa using hpr
                  have hmeth : ∀ fuel, (method (fuel + 1) t v' name).run P w = .ok (f, v') w := by
                    intro fuel
                    unfold method
                    simp only [Sem.run_bind, run_info hi, Result.andThen_ok, hm, hpath, follow, Sem.run_pure, hfn]
                    subst hprd
                    cases d <;> simp only [ptrD, receiverAt, Sem.run_bind, run_under hu, Result.andThen_ok, Place.get, Sem.run_pure]
                  refine ⟨.enter f ⟨v' :: c.args.toList.map ρ'⟩, ?_, ⟨rfl, LR.cons hv ha⟩, rfl⟩
                  have hdep : ∃ n, P.types.size + Made.depth = n + 1 := ⟨P.types.size + 99, by simp [Made.depth]⟩
                  obtain ⟨n, hn1⟩ := hdep
                  have e0 : (#[ρ' x] ++ c.args.map ρ')[0]? = some (.iface t v') := by
                    rw [hx', Array.getElem?_append]; rfl
                  have e1 : (#[ρ' x] ++ c.args.map ρ').extract 1 (#[ρ' x] ++ c.args.map ρ').size = c.args.map ρ' := by
                    apply Array.toList_inj.1
                    simp
                    exact List.take_of_length_le (by simp)
                  have e2 : #[v'] ++ c.args.map ρ' = ⟨v' :: c.args.toList.map ρ'⟩ := by
                    apply Array.toList_inj.1
                    simp
                  simp only [resolve, hc, Sem.run_bind, Sem.run_pure, Result.andThen_ok, invoke, e0, e1, callMethod, program, Sem.run, hn1, hmeth, callFunc, hfun, e2]
                  simp [hn, hb]
                · cases hr
              · cases hr
            · cases hr
          · cases hr
        · cases hr
      · cases hr
    · cases hr
  · cases hr

/-! The empty end of a row whose capacity is not known: where it lies is not known, and nothing is read of it. -/
theorem HR.newDead (H : HR wb k s h w) {b : Nat} (hk : k ≤ b) {p p' : Pl} (hp : s b = some p) (hblk : p'.blk = p.blk) (hes : p'.es ≠ some GM) :
    HR wb k (upd s h.length p') (h ++ [dead]) w ∧ Le s (upd s h.length p') := by
  have hle := Le.upd (s := s) (i := h.length) p' (H.dom _ (Nat.le_refl _))
  have old : ∀ (i : Nat) (o : AO), (h ++ [dead])[i]? = some o → o.live = true → h[i]? = some o ∧ i ≠ h.length := by
    intro i o ho hl
    by_cases hi : i < h.length
    · rw [List.getElem?_append_left hi] at ho
      exact ⟨ho, by omega⟩
    · rw [List.getElem?_append_right (by omega)] at ho
      have h1 := List.mem_of_getElem? ho
      simp at h1
      subst h1
      cases hl
  refine ⟨⟨H.grown, by simp; have := H.kle; omega, fun i hi => ?_, fun i q hq => ?_, fun i o ho hl => ?_, fun i j x y q r hi hj hx hy hq hr e => ?_, fun i q hq hg => ?_⟩, hle⟩
  · simp at hi
    rw [upd_other _ _ (by omega)]
    exact H.dom i (by omega)
  · by_cases e : i = h.length
    · subst e
      rw [upd_same] at hq
      cases hq
      rw [hblk]
      exact ⟨fun hlt => absurd H.kle (by omega), fun _ => (H.plc _ _ hp).2.1 hk, (H.plc _ _ hp).2.2⟩
    · rw [upd_other _ _ e] at hq
      exact H.plc i q hq
  · obtain ⟨h1, h2⟩ := old i o ho hl
    obtain ⟨q, hq, he, hb⟩ := H.obj i o h1 hl
    exact ⟨q, by rw [upd_other _ _ h2]; exact hq, he, hb.mono hle⟩
  · obtain ⟨h1, h2⟩ := old i x hi hx
    obtain ⟨h3, h4⟩ := old j y hj hy
    rw [upd_other _ _ h2] at hq
    rw [upd_other _ _ h4] at hr
    exact H.sep i j x y q r h1 h3 hx hy hq hr e
  · by_cases e : i = h.length
    · subst e
      rw [upd_same] at hq
      cases hq
      exact absurd hg hes
    · rw [upd_other _ _ e] at hq
      exact H.gl i q hq hg
def oSliceEnd (P : Program) (t : TypeId) (x : Value) (lo hi : Option Value) (h : List AO) : Option Out :=
  match P.underlying t, x with
  | some (.slice e), .slice (some a) len _ =>
    match P.info? e, esOf h a.block with
    | some i, some (some q) =>
      match hiA hi len len with
      | some h1 =>
        match loA lo h1 with
        | some l => if q = i.size ∧ l = len ∧ Nat.beq q GM = false then some (.value (.slice (some ⟨h.length, 0, none⟩) 0 0), h ++ [dead], some a.block) else none
        | none => none
      | none => none
    | _, _ => none
  | _, _ => none
theorem sliceEnd_ok (H : HR wb k s h w) {t : TypeId} {x x' : Value} (hx : VR s x x') {lo lo' hi hi' : Option Value} (hl : OR s lo lo') (hh : OR s hi hi') {r : Out} (hr : oSliceEnd P t x lo hi h = some r) (hk : ∀ i, r.2.2 = some i → k ≤ i) :
    Okay P wb k s w (aval (Instr.sliceAt t x' lo' hi' none)) r := by
  unfold oSliceEnd at hr
  split at hr
  · rename_i e a len cap hu
    obtain ⟨p, c', hs, hp, hcap, rfl⟩ := hx.slice_inv
    split at hr
    · rename_i i q hi0 hes
      split at hr
      · rename_i h1 hhi
        split at hr
        · rename_i l hlo
          split at hr
          · rename_i hq
            cases hr
            obtain ⟨rfl, rfl, hgm⟩ := hq
            have hpe := esOf_ok H.mr hes hp
            unfold CapOk at hcap
            rw [hpe] at hcap
            simp only at hcap
            obtain ⟨hq0, hq1, hq2⟩ := hcap
            have hb := bounds_ok (P := P) (b := true) (cap' := c') hl hh hhi hlo (.inr hq2) w
            have g1 := hiA_le hhi (Nat.le_refl _)
            have g2 := loA_le hlo
            obtain rfl : h1 = l := by omega
            obtain ⟨e1, e2⟩ := add_vr (p := p) hs (h1 * i.size)
            have hgn : i.size ≠ GM := fun h => by rw [h] at hgm; simp at hgm
            obtain ⟨H', hle⟩ := H.newDead (hk _ rfl) hp (p' := ⟨p.blk, if c' = h1 then p.off + a.off else p.off + (a.off + h1 * i.size), (if c' = h1 then p.off + a.off else p.off + (a.off + h1 * i.size)) + (c' - h1) * i.size, some i.size⟩) rfl (by simpa using hgn)
            refine okay_val (v' := .slice (some ⟨p.blk, if c' = h1 then p.off + a.off else p.off + (a.off + h1 * i.size), none⟩) 0 (c' - h1)) ?_ hle H' ?_
            · by_cases hnl : c' = h1
              · subst hnl
                simp [Instr.sliceAt, Instr.slice, run_under hu, hb, run_size hi0]
              · simp [Instr.sliceAt, Instr.slice, run_under hu, hb, run_size hi0, hnl, e2]
            · have := VR.slice (s := upd s h.length ⟨p.blk, if c' = h1 then p.off + a.off else p.off + (a.off + h1 * i.size), (if c' = h1 then p.off + a.off else p.off + (a.off + h1 * i.size)) + (c' - h1) * i.size, some i.size⟩) (a := ⟨h.length, 0, none⟩) (l := 0) (c := 0) (c' := c' - h1) rfl (upd_same _ _ _) (by unfold CapOk; exact ⟨hq0, by simp, by omega⟩)
              simpa using this
          · cases hr
        · cases hr
      · cases hr
    · cases hr
  · cases hr
end
end Go.Proofs.YtchjneodjaakdaaGreat.Ex
end
section
namespace Go.Proofs.YtchjneodjaakdaaGreat.Ex
open Go Go.RowKit

/-- Operations that leave memory as it is. -/
def sOp (P : Program) : OpFn := fun ρ o h =>
  match o.op with
  | .move x => some (.value (ρ x), h, none)
  | .assign x => some (.value (ρ x), h, none)
  | .pick c a b => oPick (ρ c) (ρ a) (ρ b) h
  | .extract x i => oExtract (ρ x) i h
  | .load t x => oLoad P t (ρ x) h
  | .nilCheck x => oNil (ρ x) h
  | .fieldAddr t x f => oFieldAt P t (ρ x) f h
  | .indexAddr t x i => oIndexAt P t (ρ x) (ρ i) h
  | .field t x f => oField P t (ρ x) f h
  | .index t x i => oIndex P t (ρ x) (ρ i) h
  | .binOp b t x y _ =>
    match oFastBin P b t (ρ x) (ρ y) h with
    | some r => some r
    | none =>
      match oCmp P b t (ρ x) (ρ y) h with
      | some r => some r
      | none => oPure P ρ o h
  | .makeFunc fn a b => oFunc fn (a.toList.map ρ) (b.toList.map ρ) h
  | .build t ps =>
    match oPure P ρ o h with
    | some r => some r
    | none => oBuild P t (ps.map fun (i, x) => (i, ρ x)) h
  | .slice t x lo hi none =>
    match oSlice P t (ρ x) (lo.map ρ) (hi.map ρ) h with
    | some r => some r
    | none => oPure P ρ o h
  | .convert a b x =>
    match oFastConv P a b (ρ x) h with
    | some r => some r
    | none =>
      match oToStr P a b (ρ x) h with
      | some r => some r
      | none => oPure P ρ o h
  | .call c =>
    match c.callee with
    | .value f =>
      match oCall P (ρ f) (c.args.toList.map ρ) h with
      | some r => some r
      | none => oPure P ρ o h
    | .builtin .len =>
      match oLen P c (c.args.toList.map ρ) h with
      | some r => some r
      | none =>
        match oLenMap P c (c.args.toList.map ρ) h with
        | some r => some r
        | none => oPure P ρ o h
    | .invoke x name => oInvoke P (ρ x) name (c.args.toList.map ρ) h
    | _ => oPure P ρ o h
  | .lookup t x ix ok => oLookup P t (ρ x) (ρ ix) ok h
  | .makeInterface t x => oIface P t (ρ x) h
  | .typeAssert x _ t ok =>
    match oAssert P (ρ x) t ok h with
    | some r => some r
    | none => oPure P ρ o h
  | _ => oPure P ρ o h

theorem args_ok {s : Ren} {ρ ρ' : Operand → Value} {l : List Operand} (h : ∀ x ∈ l, VR s (ρ x) (ρ' x)) : LR s (l.map ρ) (l.map ρ') := by
  induction l with
  | nil => exact LR.nil s
  | cons x l ih => exact LR.cons (h x (by simp)) (ih fun y hy => h y (by simp [hy]))
def StillOk (P : Program) (op : OpFn) : Prop :=
  ∀ (s : Ren) (h : List AO) (w : World) (ρ ρ' : Operand → Value) (o : Oper) (r : Out), MR s h w → (∀ x ∈ o.op.operands, VR s (ρ x) (ρ' x)) → op ρ o h = some r → Okay0 P s h w (execOp ρ' o) r
theorem sOp_ok (P : Program) (hng : NoNG P) : StillOk P (sOp P) := by
  intro s h w ρ ρ' o r H hρ hr
  have hp := fun h2 => pure_ok (P := P) (s := s) (w := w) (h := h) (ρ := ρ) (ρ' := ρ') (o := o) hρ (r := r) h2
  obtain ⟨dst, op, type, pos, after, guard⟩ := o
  unfold sOp at hr
  simp only at hr hρ
  cases op
  case move x => cases hr; exact ⟨_, rfl, hρ x (by simp [Op.operands]), rfl⟩
  case assign x => cases hr; exact ⟨_, rfl, hρ x (by simp [Op.operands]), rfl⟩
  case pick c a b => exact pick_ok (hρ c (by simp [Op.operands])) (hρ a (by simp [Op.operands])) (hρ b (by simp [Op.operands])) hr
  case extract x i => exact extract_ok (hρ x (by simp [Op.operands])) hr
  case load t x => exact load_ok H (hρ x (by simp [Op.operands])) hr
  case nilCheck x => exact nil_ok (hρ x (by simp [Op.operands])) hr
  case fieldAddr t x f => exact fieldAt_ok (hρ x (by simp [Op.operands])) hr
  case indexAddr t x i => exact indexAt_ok (hρ x (by simp [Op.operands])) (hρ i (by simp [Op.operands])) hr
  case field t x f => exact field_ok (hρ x (by simp [Op.operands])) hr
  case index t x i => exact index_ok (hρ x (by simp [Op.operands])) (hρ i (by simp [Op.operands])) hr
  case binOp b t x y t2 =>
    simp only at hr
    split at hr
    · rename_i r' hc
      cases hr
      exact fastBin_ok (hρ x (by simp [Op.operands])) (hρ y (by simp [Op.operands])) hc
    · split at hr
      · rename_i r' hc
        cases hr
        exact cmp_ok (hρ x (by simp [Op.operands])) (hρ y (by simp [Op.operands])) hc
      · exact hp hr
  case makeFunc fn a b => exact func_ok (args_ok fun x hx => hρ x (by simp only [Op.operands, Array.mem_append]; left; simpa using hx)) (args_ok fun x hx => hρ x (by simp only [Op.operands, Array.mem_append]; right; simpa using hx)) hr
  case build t ps =>
    simp only at hr
    split at hr
    · rename_i r' hl
      cases hr
      exact hp hl
    · exact build_ok (parts_ok fun x hx => hρ x (by simp only [Op.operands]; simpa using hx)) hr
  case slice t x lo hi mx =>
    cases mx with
    | some m => exact hp hr
    | none =>
      simp only at hr
      split at hr
      · rename_i r' hl
        cases hr
        refine slice_ok H (hρ x (by simp [Op.operands])) ?_ ?_ hl
        · cases lo with
          | none => trivial
          | some y => exact hρ y (by simp [Op.operands])
        · cases hi with
          | none => trivial
          | some y => exact hρ y (by simp [Op.operands])
      · exact hp hr
  case convert a b x =>
    simp only at hr
    split at hr
    · rename_i r' hl
      cases hr
      exact fastConv_ok (hρ x (by simp [Op.operands])) hl
    · split at hr
      · rename_i r' hl
        cases hr
        exact toStr_ok H (hρ x (by simp [Op.operands])) hl
      · exact hp hr
  case call c =>
    have hargs : LR s (c.args.toList.map ρ) (c.args.toList.map ρ') := args_ok fun x hx => hρ x (by simp [Op.operands, Call.operands]; right; simpa using hx)
    simp only at hr
    split at hr
    · rename_i f hc
      split at hr
      · rename_i r' hl
        cases hr
        exact call_ok hng hc type (hρ f (by simp [Op.operands, Call.operands, hc])) hargs hl
      · exact hp hr
    · rename_i hc
      split at hr
      · rename_i r' hl
        cases hr
        exact len_ok hc type hargs hl
      · split at hr
        · rename_i r' hl
          cases hr
          exact lenMap_ok H hc type hargs hl
        · exact hp hr
    · rename_i x name hc
      exact invoke_ok hng hc type (hρ x (by simp [Op.operands, Call.operands, hc])) hargs hr
    · exact hp hr
  case lookup t x ix ok => exact lookup_ok H (hρ x (by simp [Op.operands])) (hρ ix (by simp [Op.operands])) hr
  case makeInterface t x => exact iface_ok (hρ x (by simp [Op.operands])) hr
  case typeAssert x xt t ok =>
    simp only at hr
    split at hr
    · rename_i r' hl
      cases hr
      exact assert_ok (hρ x (by simp [Op.operands])) hl
    · exact hp hr
  all_goals exact hp hr

/-- The address of a new block: as a pointer, or as a slice of so many. -/
def mkNew (id : Nat) : Option (Nat × Nat) → Value
  | none => .pointer (some ⟨id, 0, none⟩)
  | some (l, c) => .slice (some ⟨id, 0, none⟩) l c
theorem mkNew_ok {s : Ren} {id b tot : Nat} (h : s id = some ⟨b, 0, tot, none⟩) (x : Option (Nat × Nat)) : VR s (mkNew id x) (mkNew b x) := by
  cases x with
  | none => exact VR.ptr (a := ⟨id, 0, none⟩) rfl h
  | some lc => exact VR.slice (a := ⟨id, 0, none⟩) rfl h (by unfold CapOk; rfl)
/-- Operations that lay one new block, and tell its address: the cells that it has. -/
def nOp (P : Program) (ρ : Operand → Value) (o : Oper) : Option (List Value × Option (Nat × Nat)) :=
  match o.op with
  | .alloc t =>
    match P.info? t with
    | some i =>
      match i.zero with
      | some z => if flat z then some (z.cells.toList, none) else none
      | none => none
    | none => none
  | .box _ x => some ((ρ x).cells.toList, none)
  | .buildSlice t n ps =>
    match oRow P t n (ps.map fun (i, x) => (i, ρ x)) with
    | some (cs, l, c) => some (cs, some (l, c))
    | none => none
  | .makeSlice t l c =>
    match oMake P t (ρ l) (ρ c) with
    | some (cs, l, c) => some (cs, some (l, c))
    | none => none
  | _ => none
theorem nOp_ok {P : Program} {s : Ren} {ρ ρ' : Operand → Value} {o : Oper} (hρ : ∀ x ∈ o.op.operands, VR s (ρ x) (ρ' x)) {cs : List Value} {x : Option (Nat × Nat)} (hr : nOp P ρ o = some (cs, x)) (w : World) :
    ∃ (arr : Array Value) (T : TypeId), (execOp ρ' o).run P w = .ok (.value (mkNew w.heap.size x)) (w.alloc (.cells arr T)) ∧ LR s cs arr.toList := by
  obtain ⟨dst, op, type, pos, after, guard⟩ := o
  unfold nOp at hr
  simp only at hr hρ
  cases op
  case alloc t =>
    simp only at hr
    split at hr
    · rename_i i hi
      split at hr
      · rename_i z hz
        split at hr
        · rename_i hf
          cases hr
          exact ⟨z.cells, t, by simp [execOp, Instr.alloc, run_zero hi hz, run_newVar, mkNew], (VR.same (s := s) hf).cells⟩
        · cases hr
      · cases hr
    · cases hr
  case box t x =>
    cases hr
    exact ⟨(ρ' x).cells, t, by simp [execOp, Instr.box, run_newVar, mkNew], (hρ x (by simp [Op.operands])).cells⟩
  case buildSlice t n ps =>
    simp only at hr
    split at hr
    · rename_i cs' l c hrow
      cases hr
      obtain ⟨arr, T, h1, h2⟩ := row_ok (parts_ok (ρ' := ρ') fun x hx => hρ x (by simp only [Op.operands]; simpa using hx)) hrow w
      exact ⟨arr, T, by simp only [execOp, Sem.run_bind, h1, Result.andThen_ok, Sem.run_pure, mkNew], h2⟩
    · cases hr
  case makeSlice t l c =>
    simp only at hr
    split at hr
    · rename_i cs' l' c' hrow
      cases hr
      obtain ⟨arr, T, h1, h2⟩ := make_ok (hρ l (by simp [Op.operands])) (hρ c (by simp [Op.operands])) hrow w
      exact ⟨arr, T, by simp only [execOp, Sem.run_bind, h1, Result.andThen_ok, Sem.run_pure, mkNew], h2⟩
    · cases hr
  all_goals cases hr

def aOp (P : Program) : OpFn := fun ρ o h =>
  match nOp P ρ o with
  | some (cs, x) => some (.value (mkNew h.length x), h ++ [⟨true, none, cs⟩], none)
  | none =>
    match o.op with
    | .store t x y => oStore P t (ρ x) (ρ y) h
    | .slice t x lo hi none =>
      match sOp P ρ o h with
      | some r => some r
      | none => oSliceEnd P t (ρ x) (lo.map ρ) (hi.map ρ) h
    | .makeMap _ x => oMakeMap (x.map ρ) h
    | .mapUpdate t m x y => oMapUpdate P t (ρ m) (ρ x) (ρ y) h
    | .insert t m x y => oMapUpdate P t (ρ m) (ρ x) (ρ y) h
    | .convert a b x =>
      match oFromStr P a b (ρ x) h with
      | some r => some r
      | none => sOp P ρ o h
    | .call c =>
      match c.callee, c.args.toList with
      | .builtin .append, [a, b] =>
        match oAppend P c.argTypes (ρ a) (ρ b) h with
        | some r => some r
        | none => sOp P ρ o h
      | .builtin .copy, [a, b] =>
        match oCopy P c.argTypes (ρ a) (ρ b) h with
        | some r => some r
        | none => sOp P ρ o h
      | _, _ => sOp P ρ o h
    | _ => sOp P ρ o h
theorem args_two {c : Call} {a b : Operand} (h : c.args.toList = [a, b]) (ρ : Operand → Value) : c.args.map ρ = #[ρ a, ρ b] := by
  apply Array.ext'
  rw [Array.toList_map, h]
  rfl
theorem aOp_ok (P : Program) (hng : NoNG P) : OpOk P (aOp P) := by
  intro wb k s h w ρ ρ' o r H hρ hr hm
  have hS := fun h2 => (sOp_ok P hng s h w ρ ρ' o r H.mr hρ h2).okay H
  unfold aOp at hr
  split at hr
  · rename_i cs x hn
    cases hr
    obtain ⟨arr, T, h1, h2⟩ := nOp_ok hρ hn w
    obtain ⟨H', hle⟩ := H.new cs arr T none rfl (by have := h2.1; simp at this; omega) (fun o v hv => by
      obtain ⟨y, hy, hvy⟩ := h2.get hv
      exact ⟨y, by rw [← Array.getElem?_toList]; exact hy, hvy⟩)
    exact ⟨_, _, _, h1, hle, H', mkNew_ok (upd_same _ _ _) x⟩
  · obtain ⟨dst, op, type, pos, after, guard⟩ := o
    split at hr
    · rename_i t x y ho
      simp only at ho hρ
      subst ho
      exact store_ok H (hρ x (by simp [Op.operands])) (hρ y (by simp [Op.operands])) hr hm
    · rename_i t x lo hi ho
      simp only at ho hρ
      subst ho
      split at hr
      · rename_i r' hl
        cases hr
        exact hS hl
      · refine sliceEnd_ok H (hρ x (by simp [Op.operands])) ?_ ?_ hr hm
        · cases lo with
          | none => trivial
          | some y => exact hρ y (by simp [Op.operands])
        · cases hi with
          | none => trivial
          | some y => exact hρ y (by simp [Op.operands])
    · rename_i t x ho
      simp only at ho hρ
      subst ho
      refine makeMap_ok H ?_ hr
      cases x with
      | none => trivial
      | some y => exact hρ y (by simp [Op.operands])
    · rename_i t x y z ho
      simp only at ho hρ
      subst ho
      exact mapUpdate_ok H (hρ x (by simp [Op.operands])) (hρ y (by simp [Op.operands])) (hρ z (by simp [Op.operands])) hr hm
    · rename_i t x y z ho
      simp only at ho hρ
      subst ho
      exact mapUpdate_ok H (hρ x (by simp [Op.operands])) (hρ y (by simp [Op.operands])) (hρ z (by simp [Op.operands])) hr hm
    · rename_i a b x ho
      simp only at ho hρ
      subst ho
      split at hr
      · rename_i r' hl
        cases hr
        exact fromStr_ok H (hρ x (by simp [Op.operands])) hl
      · exact hS hr
    · rename_i c ho
      simp only at ho hρ
      subst ho
      split at hr
      · rename_i a b hcal hargs
        have hva : VR s (ρ a) (ρ' a) := hρ a (by
          have : a ∈ c.args := by rw [← Array.mem_toList_iff, hargs]; simp
          simp [Op.operands, Call.operands, this])
        have hvb : VR s (ρ b) (ρ' b) := hρ b (by
          have : b ∈ c.args := by rw [← Array.mem_toList_iff, hargs]; simp
          simp [Op.operands, Call.operands, this])
        split at hr
        · rename_i r' hl
          cases hr
          have := append_ok (ty := type) H hva hvb hl hm
          simp only [execOp, resolve, hcal, args_two hargs, invoke, builtin, pure_bind]
          exact this
        · exact hS hr
      · rename_i a b hcal hargs
        have hva : VR s (ρ a) (ρ' a) := hρ a (by
          have : a ∈ c.args := by rw [← Array.mem_toList_iff, hargs]; simp
          simp [Op.operands, Call.operands, this])
        have hvb : VR s (ρ b) (ρ' b) := hρ b (by
          have : b ∈ c.args := by rw [← Array.mem_toList_iff, hargs]; simp
          simp [Op.operands, Call.operands, this])
        split at hr
        · rename_i r' hl
          cases hr
          have := copy_ok (ty := type) H hva hvb hl hm
          simp only [execOp, resolve, hcal, args_two hargs, invoke, builtin, pure_bind]
          exact this
        · exact hS hr
      · exact hS hr
    · exact hS hr

def noDraw : DrawFn := fun _ _ _ => none
theorem noDraw_ok (P : Program) : DrawOk P noDraw := by intro rec _ ops x x' h; simp [noDraw] at h
theorem noDraw_low : DrawLow noDraw := by intro rec ops x x' h; simp [noDraw] at h
end Go.Proofs.YtchjneodjaakdaaGreat.Ex
end
section
namespace Go.Proofs.YtchjneodjaakdaaGreat.Ex
open Go Go.RowKit

/-! Values whose addresses are below a bound. -/
def blw0 (n : Nat) : Value → Bool
  | .pointer (some a) => decide (a.block < n)
  | .slice (some a) _ _ => decide (a.block < n)
  | .map (some r) => decide (r < n)
  | v => scal v
def blw1 (n : Nat) : Value → Bool
  | .agg cs => cs.toList.all (blw0 n)
  | .func (.func _) a b => a.toList.all (blw0 n) && b.toList.all (blw0 n)
  | .iface _ v => blw0 n v
  | v => blw0 n v
theorem blw1_of_blw0 {n : Nat} {v : Value} (h : blw0 n v = true) : blw1 n v = true := by
  cases v with
  | agg cs => simp [blw0, scal] at h
  | func f a b =>
    cases f with
    | func g => 
      obtain ⟨a⟩ := a
      obtain ⟨b⟩ := b
      simp [blw0, scal] at h
      obtain ⟨rfl, rfl⟩ := h
      rfl
    | _ => simp [blw0, scal] at h
  | iface t v => simp [blw0, scal] at h
  | _ => exact h
theorem VR.blw {s t : Ren} {n : Nat} (hst : ∀ i, i < n → s i = t i) {v v' : Value} (h : VR s v v') : blw1 n v = true → VR t v v' := by
  induction h with
  | same h => exact fun _ => .same h
  | ptr hs hp => exact fun h => .ptr hs (by rw [← hst _ (by simpa [blw1, blw0] using h)]; exact hp)
  | slice hs hp hc => exact fun h => .slice hs (by rw [← hst _ (by simpa [blw1, blw0] using h)]; exact hp) hc
  | agg hl _ ih => exact fun h => .agg hl fun i x y hx hy => ih i x y hx hy (blw1_of_blw0 (all_get (by simpa [blw1] using h) hx))
  | tuple hl _ ih => intro h; simp [blw1, blw0, scal] at h
  | func hl _ hl' _ ih ih' =>
    intro h
    simp only [blw1, Bool.and_eq_true] at h
    exact .func hl (fun i x y hx hy => ih i x y hx hy (blw1_of_blw0 (all_get h.1 hx))) hl' fun i x y hx hy => ih' i x y hx hy (blw1_of_blw0 (all_get h.2 hx))
  | iface _ ih => exact fun h => .iface (ih (blw1_of_blw0 (by simpa [blw1] using h)))
  | map hp => exact fun h => .map (by rw [← hst _ (by simpa [blw1, blw0] using h)]; exact hp)
theorem LR.blw {s t : Ren} {n : Nat} (hst : ∀ i, i < n → s i = t i) {xs ys : List Value} (h : LR s xs ys) (hb : xs.all (blw1 n) = true) : LR t xs ys :=
  ⟨h.1, fun i x y hx hy => (h.2 i x y hx hy).blw hst (all_get hb hx)⟩

/-! Values that hold no other addresses than such. -/
def refF (ok : Nat → Bool) : Nat → Value → Bool
  | 0, v => scal v
  | n + 1, v =>
    match v with
    | .pointer (some a) => ok a.block
    | .slice (some a) _ _ => ok a.block
    | .map (some r) => ok r
    | .agg cs => cs.toList.all (refF ok n)
    | .tuple cs => cs.toList.all (refF ok n)
    | .iface _ v => refF ok n v
    | .func (.func _) a b => a.toList.all (refF ok n) && b.toList.all (refF ok n)
    | v => scal v
theorem VR.refs {s t : Ren} {ok : Nat → Bool} (hst : ∀ i, ok i = true → s i = t i) : ∀ (n : Nat) {v v' : Value}, VR s v v' → refF ok n v = true → VR t v v'
  | 0, v, v', h, hr => by
    have hf : flat v = true := flat_of_scal hr
    rw [h.eq_of_flat hf]
    exact .same hf
  | n + 1, v, v', h, hr => by
    have ih := fun {v v' : Value} => VR.refs hst n (v := v) (v' := v')
    cases h with
    | same h => exact .same h
    | ptr hs hp => exact .ptr hs (by rw [← hst _ hr]; exact hp)
    | slice hs hp hc => exact .slice hs (by rw [← hst _ hr]; exact hp) hc
    | agg hl hh => exact .agg hl fun i x y hx hy => ih (hh i x y hx hy) (all_get hr hx)
    | tuple hl hh => exact .tuple hl fun i x y hx hy => ih (hh i x y hx hy) (all_get hr hx)
    | func hl hh hl' hh' =>
      simp only [refF, Bool.and_eq_true] at hr
      exact .func hl (fun i x y hx hy => ih (hh i x y hx hy) (all_get hr.1 hx)) hl' fun i x y hx hy => ih (hh' i x y hx hy) (all_get hr.2 hx)
    | iface h => exact .iface (ih h hr)
    | map hp => exact .map (by rw [← hst _ hr]; exact hp)
theorem LR.refs {s t : Ren} {ok : Nat → Bool} (hst : ∀ i, ok i = true → s i = t i) (n : Nat) {xs ys : List Value} (h : LR s xs ys) (hb : xs.all (refF ok n) = true) : LR t xs ys :=
  ⟨h.1, fun i x y hx hy => (h.2 i x y hx hy).refs hst n (all_get hb hx)⟩
def refO (ok : Nat → Bool) (o : AO) : Bool := !o.live || o.cs.all (refF ok 6)
theorem ObjAt.refs {s t : Ren} {ok : Nat → Bool} (hst : ∀ i, ok i = true → s i = t i) {p : Pl} {o : AO} {w : World} (h : ObjAt s p o w) (hb : o.cs.all (refF ok 6) = true) : ObjAt t p o w :=
  ⟨fun hm => let ⟨cs', h1, h2⟩ := h.1 hm; ⟨cs', h1.refs hst 6 hb, h2⟩, fun hm => let B := h.2 hm
    ⟨B.fit, B.all, B.shp, B.free, fun o v hv => let ⟨v', h1, h2⟩ := B.rel o v hv; ⟨v', h1, h2.refs hst 6 (all_get hb hv)⟩⟩⟩

/-! Blocks laid one behind the other. -/
def layL (h : List AO) (q : Nat) (bs : List AO) : List AO := h.take q ++ bs ++ h.drop (q + bs.length)
theorem layL_length {h bs : List AO} {q : Nat} (hf : q + bs.length ≤ h.length) : (layL h q bs).length = h.length := by simp [layL]; omega
theorem layL_get {h bs : List AO} {q : Nat} (hf : q + bs.length ≤ h.length) (x : Nat) : (layL h q bs)[x]? = if q ≤ x ∧ x < q + bs.length then bs[x - q]? else h[x]? := by
  unfold layL
  by_cases h1 : x < q
  · rw [if_neg (by omega), List.append_assoc, List.getElem?_append_left (by simp; omega), List.getElem?_take, if_pos h1]
  · by_cases h2 : x < q + bs.length
    · rw [if_pos ⟨by omega, h2⟩, List.append_assoc, List.getElem?_append_right (by simp; omega), List.getElem?_append_left (by simp; omega)]
      congr 1
      simp; omega
    · rw [if_neg (by omega), List.getElem?_append_right (by simp; omega), List.getElem?_drop]
      congr 1
      simp; omega
theorem layL_nil (h : List AO) (q : Nat) : layL h q [] = h := by simp [layL]
theorem layL_one {h : List AO} {q : Nat} (hq : q < h.length) (o : AO) : layL h q [o] = h.set q o := by
  apply List.ext_getElem?
  intro x
  rw [layL_get (by simp; omega), List.getElem?_set]
  by_cases e : q = x
  · subst e; simp [hq]
  · rw [if_neg (by simp; omega), if_neg e]

/-! Places that are laid later. -/
theorem HR.pad {wb : World} {k : Nat} {s : Ren} {h : List AO} {w : World} (H : HR wb k s h w) (r : Nat) : HR wb k s (h ++ List.replicate r dead) w := by
  have old : ∀ (i : Nat) (o : AO), (h ++ List.replicate r dead)[i]? = some o → o.live = true → h[i]? = some o := by
    intro i o ho hl
    by_cases hi : i < h.length
    · rwa [List.getElem?_append_left hi] at ho
    · rw [List.getElem?_append_right (by omega), List.getElem?_replicate] at ho
      split at ho
      · cases ho; cases hl
      · cases ho
  exact ⟨H.grown, by simp; have := H.kle; omega, fun i hi => H.dom i (by simp at hi; omega), H.plc, fun i o ho hl => H.obj i o (old i o ho hl) hl,
    fun i j a b p q hi hj ha hb => H.sep i j a b p q (old i a hi ha) (old j b hj hb) ha hb, H.gl⟩
theorem HR.fillO {wb : World} {k : Nat} {s : Ren} {h : List AO} {w : World} (H : HR wb k s h w) {q : Nat} (hq : s q = none) (hql : q < h.length) (hk : k ≤ q) (ao : AO) (ob : Obj) (tot : Nat) (hes : ao.es ≠ some GM)
    (hob : ObjAt (upd s q ⟨w.heap.size, 0, tot, ao.es⟩) ⟨w.heap.size, 0, tot, ao.es⟩ ao (w.alloc ob)) :
    HR wb k (upd s q ⟨w.heap.size, 0, tot, ao.es⟩) (h.set q ao) (w.alloc ob) ∧ Le s (upd s q ⟨w.heap.size, 0, tot, ao.es⟩) := by
  have hle := Le.upd (s := s) (i := q) ⟨w.heap.size, 0, tot, ao.es⟩ hq
  have g : Gr w (w.alloc ob) := (Gr.refl w).allocO _
  have hwb : wb.heap.size ≤ w.heap.size := H.grown.2.2
  have old : ∀ (i : Nat) (a : AO), i ≠ q → (h.set q ao)[i]? = some a → h[i]? = some a := by
    intro i a e ho
    rwa [List.getElem?_set, if_neg (Ne.symm e)] at ho
  refine ⟨⟨Gr.trans' H.grown g, by simpa using H.kle, fun i hi => ?_, fun i p hp => ?_, fun i o ho hl => ?_, fun i j a b p r hi hj ha hb hp hr' e => ?_, fun i p hp hg => ?_⟩, hle⟩
  · simp at hi
    rw [upd_other _ _ (by omega)]
    exact H.dom i hi
  · by_cases e : i = q
    · subst e
      rw [upd_same] at hp
      cases hp
      exact ⟨fun hlt => absurd hk (by omega), fun _ => hwb, by simp⟩
    · rw [upd_other _ _ e] at hp
      obtain ⟨a, b, c⟩ := H.plc i p hp
      exact ⟨a, b, by simp; omega⟩
  · by_cases e : i = q
    · subst e
      rw [List.getElem?_set, if_pos rfl, if_pos hql] at ho
      cases ho
      exact ⟨_, upd_same _ _ _, rfl, hob⟩
    · have ho := old i o e ho
      obtain ⟨p, hp, he, hb⟩ := H.obj i o ho hl
      exact ⟨p, by rw [upd_other _ _ e]; exact hp, he, (hb.grown (H.plc i p hp).2.2 g).mono hle⟩
  · by_cases ei : i = q
    · by_cases ej : j = q
      · omega
      · subst ei
        rw [upd_same] at hp
        cases hp
        rw [upd_other _ _ ej] at hr'
        have := (H.plc j r hr').2.2
        simp at e
        omega
    · rw [upd_other _ _ ei] at hp
      by_cases ej : j = q
      · subst ej
        rw [upd_same] at hr'
        cases hr'
        have := (H.plc i p hp).2.2
        simp at e
        omega
      · rw [upd_other _ _ ej] at hr'
        exact H.sep i j a b p r (old i a ei hi) (old j b ej hj) ha hb hp hr' e
  · by_cases e : i = q
    · subst e
      rw [upd_same] at hp
      cases hp
      exact absurd hg hes
    · rw [upd_other _ _ e] at hp
      exact H.gl i p hp hg
/-- A block whose capacity may not be known. -/
theorem HR.fillF {wb : World} {k : Nat} {s : Ren} {h : List AO} {w : World} (H : HR wb k s h w) {q : Nat} (hq : s q = none) (hql : q < h.length) (hk : k ≤ q) {cs : List Value} {arr : Array Value} (T : TypeId) (es : Option Nat) (hes : isW ⟨true, es, cs⟩ = true) (fz : Nat × Nat)
    (hfz : ∀ o, o < arr.size → ¬ (fz.1 ≤ o ∧ o < fz.2)) (hn : cs.length ≤ arr.size) (hr : ∀ (o : Nat) (v : Value), cs[o]? = some v → ∃ v', arr[o]? = some v' ∧ VR s v v') :
    HR wb k (upd s q ⟨w.heap.size, 0, arr.size, es⟩) (h.set q ⟨true, es, cs⟩) (w.alloc (.cells arr T fz)) ∧ Le s (upd s q ⟨w.heap.size, 0, arr.size, es⟩) := by
  have hle := Le.upd (s := s) (i := q) ⟨w.heap.size, 0, arr.size, es⟩ hq
  refine H.fillO hq hql hk ⟨true, es, cs⟩ (.cells arr T fz) arr.size (isW_spec hes).2 (ObjAt.block (isW_spec hes).1 ⟨by simpa using hn, fun o ho => ?_, ⟨T, ?_⟩, fun _ o h1 h2 => ?_, fun o v hv => ?_⟩)
  · have ho' : o < arr.size := ho
    rw [World.cell?_alloc_mark]
    simpa using ho'
  · simp only [World.alloc, World.shape?, Array.getElem?_push_size]
  · rw [show (w.alloc (.cells arr T fz)) = w.alloc (.cells arr T (fz.1, fz.2)) from rfl, World.frozen?_alloc_mark]
    have := hfz o h2
    simp only [Bool.and_eq_false_imp, decide_eq_true_eq, decide_eq_false_iff_not]
    exact fun g1 g2 => this ⟨g1, g2⟩
  · obtain ⟨v', h1, h2⟩ := hr o v hv
    exact ⟨v', by rw [World.cell?_alloc_mark]; simpa using h1, h2.mono hle⟩
theorem HR.fill {wb : World} {k : Nat} {s : Ren} {h : List AO} {w : World} (H : HR wb k s h w) {q : Nat} (hq : s q = none) (hql : q < h.length) (hk : k ≤ q) {cs : List Value} {arr : Array Value} (T : TypeId) (hr : LR s cs arr.toList) :
    HR wb k (upd s q ⟨w.heap.size, 0, arr.size, none⟩) (h.set q ⟨true, none, cs⟩) (w.alloc (.cells arr T)) ∧ Le s (upd s q ⟨w.heap.size, 0, arr.size, none⟩) :=
  H.fillF hq hql hk T none rfl (0, 0) (fun o _ h => by have := h.2; simp at this) (by have := hr.1; simp at this; omega) fun o v hv => by
    obtain ⟨y, hy, hvy⟩ := hr.get hv
    exact ⟨y, by rw [← Array.getElem?_toList]; exact hy, hvy⟩

/-- Blocks that a call has laid, at places that are free. -/
theorem HR.layNew {wb : World} {k : Nat} {s : Ren} {h : List AO} {w : World} (H : HR wb k s h w) {q : Nat} {bs : List AO} (hfit : q + bs.length ≤ h.length) (hk : k ≤ q) (hfree : ∀ x, q ≤ x → x < q + bs.length → s x = none)
    {s1 : Ren} {h1 : List AO} {w' : World} (H1 : HR w q s1 h1 w') (hh1 : ∀ x o, bs[x]? = some o → h1[q + x]? = some o) {old : Nat → Bool} (hlo : ∀ x, old x = true → x < q) (hold : ∀ x, old x = true → s1 x = s x)
    (hrb : bs.all (refO fun x => old x || (decide (q ≤ x) && decide (x < q + bs.length))) = true) :
    HR wb k (fun x => if q ≤ x ∧ x < q + bs.length then s1 x else s x) (layL h q bs) w' ∧ Le s (fun x => if q ≤ x ∧ x < q + bs.length then s1 x else s x) ∧
      ∀ x, (old x || (decide (q ≤ x) && decide (x < q + bs.length))) = true → s1 x = (fun x => if q ≤ x ∧ x < q + bs.length then s1 x else s x) x := by
  have hle : Le s (fun x => if q ≤ x ∧ x < q + bs.length then s1 x else s x) := fun x p hp => by
    by_cases e : q ≤ x ∧ x < q + bs.length
    · rw [hfree x e.1 e.2] at hp; cases hp
    · simp only [if_neg e]; exact hp
  have hok : ∀ x, (old x || (decide (q ≤ x) && decide (x < q + bs.length))) = true → s1 x = (fun x => if q ≤ x ∧ x < q + bs.length then s1 x else s x) x := fun x hx => by
    simp only [Bool.or_eq_true, Bool.and_eq_true, decide_eq_true_eq] at hx
    rcases hx with hx | hx
    · have := hlo x hx
      simp only [if_neg (show ¬ (q ≤ x ∧ x < q + bs.length) by omega)]; exact hold x hx
    · simp only [if_pos hx]
  have g : Gr w w' := H1.grown
  have hwb : wb.heap.size ≤ w.heap.size := H.grown.2.2
  have newAt : ∀ x o, q ≤ x ∧ x < q + bs.length → (layL h q bs)[x]? = some o → h1[x]? = some o ∧ bs[x - q]? = some o := by
    intro x o hx ho
    rw [layL_get hfit, if_pos hx] at ho
    have := hh1 _ _ ho
    rw [show q + (x - q) = x by omega] at this
    exact ⟨this, ho⟩
  have oldAt : ∀ x o, ¬ (q ≤ x ∧ x < q + bs.length) → (layL h q bs)[x]? = some o → h[x]? = some o := by
    intro x o hx ho
    rwa [layL_get hfit, if_neg hx] at ho
  refine ⟨⟨Gr.trans' H.grown g, by rw [layL_length hfit]; exact H.kle, fun x hx => ?_, fun x p hp => ?_, fun x o ho hl => ?_, fun x y a b p r hx hy ha hb hp hr e => ?_, fun x p hp hg => ?_⟩, hle, hok⟩
  · rw [layL_length hfit] at hx
    simp only [if_neg (show ¬ (q ≤ x ∧ x < q + bs.length) by omega)]
    exact H.dom x hx
  · by_cases e : q ≤ x ∧ x < q + bs.length
    · simp only [if_pos e] at hp
      obtain ⟨_, b, c⟩ := H1.plc x p hp
      exact ⟨fun hlt => absurd hk (by omega), fun _ => Nat.le_trans hwb (b e.1), c⟩
    · simp only [if_neg e] at hp
      obtain ⟨a, b, c⟩ := H.plc x p hp
      exact ⟨a, b, Nat.lt_of_lt_of_le c g.2.2⟩
  · by_cases e : q ≤ x ∧ x < q + bs.length
    · obtain ⟨n1, n2⟩ := newAt x o e ho
      obtain ⟨p, hp, he, hb⟩ := H1.obj x o n1 hl
      refine ⟨p, by simp only [if_pos e]; exact hp, he, hb.refs hok ?_⟩
      have := List.all_eq_true.1 hrb o (List.mem_of_getElem? n2)
      simpa [refO, hl] using this
    · obtain ⟨p, hp, he, hb⟩ := H.obj x o (oldAt x o e ho) hl
      exact ⟨p, by simp only [if_neg e]; exact hp, he, (hb.grown (H.plc x p hp).2.2 g).mono hle⟩
  · by_cases ex : q ≤ x ∧ x < q + bs.length
    · simp only [if_pos ex] at hp
      by_cases ey : q ≤ y ∧ y < q + bs.length
      · simp only [if_pos ey] at hr
        exact H1.sep x y a b p r (newAt x a ex hx).1 (newAt y b ey hy).1 ha hb hp hr e
      · simp only [if_neg ey] at hr
        have h2 := (H1.plc x p hp).2.1 ex.1
        have h3 := (H.plc y r hr).2.2
        omega
    · simp only [if_neg ex] at hp
      by_cases ey : q ≤ y ∧ y < q + bs.length
      · simp only [if_pos ey] at hr
        have h2 := (H1.plc y r hr).2.1 ey.1
        have h3 := (H.plc x p hp).2.2
        omega
      · simp only [if_neg ey] at hr
        exact H.sep x y a b p r (oldAt x a ex hx) (oldAt y b ey hy) ha hb hp hr e
  · by_cases e : q ≤ x ∧ x < q + bs.length
    · simp only [if_pos e] at hp
      exact H1.gl x p hp hg
    · simp only [if_neg e] at hp
      exact H.gl x p hp hg

/-! Bytes of a string. -/
def fOp (P : Program) (ρ : Operand → Value) (o : Oper) : Option (AO × Nat) :=
  match o.op with
  | .convert a b x =>
    match oFromStr P a b (ρ x) [] with
    | some (.value (.slice _ l _), [ao], _) => some (ao, l)
    | _ => none
  | _ => none
theorem fOp_ok {P : Program} {s : Ren} {ρ ρ' : Operand → Value} {o : Oper} (hρ : ∀ x ∈ o.op.operands, VR s (ρ x) (ρ' x)) {ao : AO} {l : Nat} (hr : fOp P ρ o = some (ao, l)) (w : World) :
    ∃ (arr : Array Value) (e : TypeId), ao.live = true ∧ ao.es = some 1 ∧ ao.cs.length ≤ arr.size ∧ l ≤ arr.size ∧ (∀ (o : Nat) (v : Value), ao.cs[o]? = some v → arr[o]? = some v ∧ flat v = true) ∧
      (execOp ρ' o).run P w = .ok (.value (.slice (some ⟨w.heap.size, 0, none⟩) l arr.size)) (w.drew.alloc (.cells arr e (arr.size, arr.size + 1))) := by
  obtain ⟨dst, op, type, pos, after, guard⟩ := o
  unfold fOp at hr
  simp only at hr hρ
  cases op
  case convert src dst x =>
    simp only at hr
    split at hr
    · rename_i p l' c' ao' m ho
      cases hr
      have hx := hρ x (by simp [Op.operands])
      unfold oFromStr at ho
      split at ho
      · rename_i e b hsu hdu hbx
        rw [hbx] at hx
        split at ho
        · rename_i heu
          simp only [List.length_nil, List.nil_append, Option.some.injEq, Prod.mk.injEq, Next.value.injEq, Value.slice.injEq, List.cons.injEq, and_true] at ho
          obtain ⟨⟨_, hl, _⟩, hao, _⟩ := ho
          subst hl
          subst hao
          let q := Question.appendCap b.size 0 e
          let c := q.cut (w.tape w.drawn q)
          have hc : b.size ≤ c := by
            show b.size ≤ b.size + (w.tape w.drawn q) % (2 ^ 63 - b.size)
            omega
          have hch : (choose (.appendCap b.size 0 e)).run P w = .ok c w.drew := by
            show (Sem.choose q .pure).run P w = _
            simp only [Sem.run]
            rw [if_neg (by simp [q, Question.forced])]
            rfl
          let cells : Array Value := b.data.map fun c => Value.int .u8 c.toNat
          let arr : Array Value := cells ++ Array.replicate (c - b.size) (.int .u8 0)
          have hbs : cells.size = b.size := by simp [cells]
          have hsz : arr.size = c := by simp only [arr, Array.size_append, hbs, Array.size_replicate]; omega
          have hcl : (b.data.toList.map fun c => Value.int .u8 c.toNat) = cells.toList := (Array.toList_map ..).symm
          have hflat : cells.toList.all flat = true := by
            simp only [cells, Array.toList_map]
            exact List.all_eq_true.2 fun v hv => by obtain ⟨n, _, rfl⟩ := List.mem_map.1 hv; rfl
          refine ⟨arr, e, rfl, rfl, ?_, by omega, fun o v hv => ?_, ?_⟩
          · show (b.data.toList.map fun c => Value.int .u8 c.toNat).length ≤ _
            rw [hcl, Array.length_toList]
            omega
          · have hv' : cells.toList[o]? = some v := by rw [← hcl]; exact hv
            refine ⟨?_, all_get hflat hv'⟩
            rw [← Array.getElem?_toList]
            simp only [arr, Array.toList_append]
            rw [List.getElem?_append_left (List.getElem?_eq_some_iff.1 hv').1]
            exact hv'
          · have hfr : (w.drew.alloc (.cells arr e)).freeze ⟨w.heap.size, arr.size, none⟩ 1 = w.drew.alloc (.cells arr e (arr.size, arr.size + 1)) := by
              have e1 : (w.drew.alloc (.cells arr e)).heap = w.heap.push (.cells arr e) := rfl
              unfold World.freeze
              rw [if_neg (by omega)]
              show ({ (w.drew.alloc (.cells arr e)) with heap := _ } : World) = _
              rw [e1]
              have e2 : ∀ (f : Obj → Obj) (o : Obj), (w.heap.push o).modify w.heap.size f = w.heap.push (f o) := by
                intro f o
                apply Array.ext_getElem?
                intro j
                rw [Array.getElem?_modify]
                by_cases ej : w.heap.size = j
                · subst ej; simp
                · rw [if_neg ej, Array.getElem?_push, Array.getElem?_push, if_neg (Ne.symm ej), if_neg (Ne.symm ej)]
              rw [e2]
              rfl
            have hsh : (w.drew.alloc (.cells arr e)).shape? w.heap.size = some (e, arr.size) := by
              show World.shape? (w.alloc (.cells arr e)) w.heap.size = _
              simp only [World.alloc, World.shape?, Array.getElem?_push_size]
            have hmk : (markStringish ⟨w.heap.size, 0, none⟩).run P (w.drew.alloc (.cells arr e)) = .ok () (w.drew.alloc (.cells arr e (arr.size, arr.size + 1))) := by
              rw [← hfr]
              simp only [markStringish, shape, freeze, Sem.run_bind, Sem.run, hsh, Result.andThen_ok]
            have hnr : (newRow e arr).run P w.drew = .ok ⟨w.heap.size, 0, none⟩ (w.drew.alloc (.cells arr e)) := rfl
            have hx' := hx.string_inv
            show (aval (convert src dst (ρ' x))).run P w = _
            rw [hx', hsz]
            simp only [aval, convert, Conv.stringToBytes, Sem.run_bind, run_under hsu, run_under hdu, run_under heu, Result.andThen_ok, hch]
            simp only [arr, cells] at hnr hmk ⊢
            simp only [hnr, Result.andThen_ok, hmk, Sem.run_pure]
            have hsz' := hsz
            simp only [arr, cells] at hsz'
            rw [hsz']
        · cases ho
      · cases ho
    · cases hr
  all_goals cases hr

/-! The head: one operation, and all of them in the text's order. -/
/-- What an operation reads of memory: nothing, some cells, or what it will. -/
inductive Rd where
  | none
  | cells (a : Addr) (n : Nat)
  | any
/-- An argument that holds an address of a block that is there, or that the head lays. -/
def newArg (n nid : Nat) (v : Value) : Bool :=
  match v with
  | .slice (some a) _ _ => decide (a.block < nid)
  | .pointer (some a) => decide (a.block < nid)
  | v => blw1 n v
def ment (x : Nat) (v : Value) : Bool :=
  match v with
  | .slice (some a) _ _ => Nat.beq a.block x
  | .pointer (some a) => Nat.beq a.block x
  | _ => false
/-- The head's new blocks that arguments hold the address of; others are given up. -/
def padL (args : List Value) : Nat → List AO → List AO
  | _, [] => []
  | x, o :: l => (if args.any (ment x) && o.cs.all flat && !isM o then o else dead) :: padL args (x + 1) l
theorem padL_length (args : List Value) : ∀ (x : Nat) (l : List AO), (padL args x l).length = l.length
  | _, [] => rfl
  | x, o :: l => by simp [padL, padL_length args (x + 1) l]
theorem padL_get {args : List Value} : ∀ {x : Nat} {l : List AO} {y : Nat} {o : AO}, (padL args x l)[y]? = some o → o.live = true → l[y]? = some o ∧ args.any (ment (x + y)) = true ∧ o.cs.all flat = true ∧ isM o = false
  | _, [], y, o, h, _ => by simp [padL] at h
  | x, q :: l, 0, o, h, hl => by
    simp only [padL, List.getElem?_cons_zero, Option.some.injEq] at h
    split at h
    · rename_i hc
      subst h
      simp only [Bool.and_eq_true, Bool.not_eq_true'] at hc
      exact ⟨rfl, hc.1.1, hc.1.2, hc.2⟩
    · subst h; cases hl
  | x, q :: l, y + 1, o, h, hl => by
    simp only [padL, List.getElem?_cons_succ] at h
    have := padL_get h hl
    rw [show x + 1 + y = x + (y + 1) by omega] at this
    simpa using this
theorem ment_some {s : Ren} {x : Nat} {v v' : Value} (h : VR s v v') (hm : ment x v = true) : ∃ p, s x = some p := by
  unfold ment at hm
  split at hm
  · obtain ⟨p, _, _, hp, _⟩ := h.slice_inv
    obtain rfl := Nat.eq_of_beq_eq_true hm
    exact ⟨p, hp⟩
  · obtain ⟨p, _, hp, _⟩ := h.ptr_inv
    obtain rfl := Nat.eq_of_beq_eq_true hm
    exact ⟨p, hp⟩
  · cases hm
theorem ments_some {s : Ren} {x : Nat} {vs vs' : List Value} (h : LR s vs vs') (hm : vs.any (ment x) = true) : ∃ p, s x = some p := by
  obtain ⟨v, hv, hx⟩ := List.any_eq_true.1 hm
  obtain ⟨i, hi, e⟩ := List.getElem_of_mem hv
  obtain ⟨v', _, hr⟩ := h.get (List.getElem?_eq_getElem hi)
  rw [e] at hr
  exact ment_some hr hx
theorem newArg_ok {s t : Ren} {n nid : Nat} (hn : n ≤ nid) (hst : ∀ i, i < nid → s i = t i) {v v' : Value} (h : VR s v v') (hb : newArg n nid v = true) : VR t v v' := by
  unfold newArg at hb
  split at hb
  · obtain ⟨p, c', hs, hp, hc, rfl⟩ := h.slice_inv
    exact .slice hs (by rw [← hst _ (by simpa using hb)]; exact hp) hc
  · obtain ⟨p, hs, hp, rfl⟩ := h.ptr_inv
    exact .ptr hs (by rw [← hst _ (by simpa using hb)]; exact hp)
  · exact h.blw (fun i hi => hst i (by omega)) hb
theorem newArgs_ok {s t : Ren} {n nid : Nat} (hn : n ≤ nid) (hst : ∀ i, i < nid → s i = t i) {vs vs' : List Value} (h : LR s vs vs') (hb : vs.all (newArg n nid) = true) : LR t vs vs' :=
  ⟨h.1, fun i x y hx hy => newArg_ok hn hst (h.2 i x y hx hy) (all_get hb hx)⟩
/-- What is told of old blocks and of some new ones together. -/
theorem HR.both {wb : World} {k : Nat} {s s0 : Ren} {h h0 pad : List AO} {w : World} (H : HR wb k s h w) (H1 : HR wb k s0 h0 w) (hbel : ∀ i, i < h0.length → s i = s0 i)
    (hlv : ∀ (x : Nat) (o : AO), h0[x]? = some o → o.live = true → ∃ o', h[x]? = some o' ∧ o'.live = true)
    (hpad : ∀ (y : Nat) (o : AO), pad[y]? = some o → o.live = true → h[h0.length + y]? = some o ∧ o.cs.all flat = true ∧ isM o = false) :
    HR wb k (fun i => if i < h0.length + pad.length then s i else none) (h0 ++ pad) w := by
  have some_s : ∀ i p, (if i < h0.length + pad.length then s i else none) = some p → s i = some p := fun i p hp => by
    split at hp
    · exact hp
    · cases hp
  have le0 : Le s0 (fun i => if i < h0.length + pad.length then s i else none) := fun i p hp => by
    have hi : i < h0.length := by
      by_cases e : i < h0.length
      · exact e
      · rw [H1.dom i (by omega)] at hp; cases hp
    show (if i < h0.length + pad.length then s i else none) = some p
    rw [if_pos (by omega), hbel i hi]
    exact hp
  have at' : ∀ (i : Nat) (o : AO), (h0 ++ pad)[i]? = some o → o.live = true → i < h0.length + pad.length ∧ ∃ o', h[i]? = some o' ∧ o'.live = true := by
    intro i o ho hl
    have hi := (List.getElem?_eq_some_iff.1 ho).1
    rw [List.length_append] at hi
    refine ⟨hi, ?_⟩
    by_cases e : i < h0.length
    · rw [List.getElem?_append_left e] at ho
      exact hlv i o ho hl
    · rw [List.getElem?_append_right (by omega)] at ho
      have := (hpad _ o ho hl).1
      rw [show h0.length + (i - h0.length) = i by omega] at this
      exact ⟨o, this, hl⟩
  refine ⟨H.grown, by rw [List.length_append]; have := H1.kle; omega, fun i hi => by rw [List.length_append] at hi; exact if_neg (by omega), fun i p hp => H.plc i p (some_s i p hp), fun i o ho hl => ?_, fun i j a b p q hi hj ha hb hp hq e => ?_, fun g p hp => H.gl g p (some_s g p hp)⟩
  · by_cases e : i < h0.length
    · rw [List.getElem?_append_left e] at ho
      obtain ⟨p, hp, he, hb⟩ := H1.obj i o ho hl
      exact ⟨p, le0 i p hp, he, hb.mono le0⟩
    · have hi := (at' i o ho hl).1
      rw [List.getElem?_append_right (by omega)] at ho
      obtain ⟨h1, h2, h3⟩ := hpad _ o ho hl
      rw [show h0.length + (i - h0.length) = i by omega] at h1
      obtain ⟨p, hp, he, hb⟩ := H.obj i o h1 hl
      refine ⟨p, by show (if i < h0.length + pad.length then s i else none) = some p; rw [if_pos hi]; exact hp, he, ObjAt.block h3 ?_⟩
      have B := hb.2 h3
      exact ⟨B.fit, B.all, B.shp, B.free, fun x v hv => by
        obtain ⟨v', h4, h5⟩ := B.rel x v hv
        have hf := all_get h2 hv
        exact ⟨v', h4, by rw [h5.eq_of_flat hf]; exact .same hf⟩⟩
  · obtain ⟨_, a', ha1, ha2⟩ := at' i a hi ha
    obtain ⟨_, b', hb1, hb2⟩ := at' j b hj hb
    exact H.sep i j a' b' p q ha1 hb1 ha2 hb2 (some_s i p hp) (some_s j q hq) e
/-- What an operation of the head does: its value, a block that it lays, numbers that must be the same, cells that it stores, what it reads. -/
structure HE where
  v : Value
  b : List AO
  d : Cs
  st : Option (Addr × List Value)
  rd : Rd
def liveB (h : List AO) (x : Nat) : Bool :=
  match h[x]? with
  | some o => o.live
  | none => false
def storeH (P : Program) (t : TypeId) (x y : Value) (h0 : List AO) : Option (Addr × List Value) :=
  match x, P.info? t with
  | .pointer (some a), some i =>
    if y.cells.toList.length == i.size && y.cells.toList.all (·.oneCell') then
      match h0[a.block]? with
      | some o => if o.live && isW o && decide (a.off + y.cells.toList.length ≤ o.cs.length) then some (a, y.cells.toList) else none
      | none => none
    else none
  | _, _ => none
def loadH (P : Program) (t : TypeId) (x : Value) : Option (Addr × Nat) :=
  match x, P.underlying t, P.info? t with
  | .pointer (some a), some d, some i => some (a, if aggD d then i.size else 1)
  | _, _, _ => none
def headStep0 (P : Program) (rec : Rec) (ops : Array Oper) (o : Oper) (t : List Value) (h0 : List AO) (nid : Nat) (nl : List AO) : Option HE :=
  if wantedA ops t o then
    if o.op.operands.toList.all (okX h0) then
      if quoB (o.dst.bind fun d => rec.orc d t) then
        match qOp (rec.acc.look t) o with
        | some (v, cs) => some ⟨v, [], cs, none, .none⟩
        | none => none
      else
      match nOp P (rec.acc.look t) o with
      | some (cs, x) => some ⟨mkNew nid x, [⟨true, none, cs⟩], [], none, .none⟩
      | none =>
        match fOp P (rec.acc.look t) o with
        | some (ao, l) => some ⟨.slice (some ⟨nid, 0, none⟩) l l, [ao], [], none, .none⟩
        | none =>
        match sOp P (rec.acc.look t) o [] with
        | some (.value v, _, _) => some ⟨v, [], [], none, .none⟩
        | some (.enter f args, _, _) =>
          if args.toList.all (blw1 h0.length) then
            match callA P rec f args.toList (h0 ++ List.replicate (nid - h0.length) dead) with
            | some (v, h', (m, cs)) =>
              if quietB nid m && refF (fun x => liveB h0 x || (decide (nid ≤ x) && decide (x < nid + (h'.drop nid).length))) 6 v &&
                  (h'.drop nid).all (refO fun x => liveB h0 x || (decide (nid ≤ x) && decide (x < nid + (h'.drop nid).length))) then
                some ⟨v, h'.drop nid, cs, none, .any⟩
              else none
            | _ => none
          else if args.toList.all (newArg h0.length nid) then
            match callA P rec f args.toList (h0 ++ padL args.toList h0.length nl) with
            | some (v, _, (m, cs)) => if flat v && quietB nid m then some ⟨v, [], cs, none, .any⟩ else none
            | _ => none
          else none
        | _ =>
          match o.op with
          | .store ty x y =>
            match storeH P ty (rec.acc.look t x) (rec.acc.look t y) h0 with
            | some st => some ⟨undef, [], [], some st, .none⟩
            | none => none
          | .load ty x =>
            match oLoad P ty (rec.acc.look t x) h0, loadH P ty (rec.acc.look t x) with
            | some (.value v, _, _), some (a, n) => some ⟨v, [], [], none, .cells a n⟩
            | _, _ => none
          | _ =>
            match sOp P (rec.acc.look t) o h0 with
            | some (.value v, _, _) => some ⟨v, [], [], none, .any⟩
            | _ => none
    else none
  else some ⟨undef, [], [], none, .none⟩
/-- The mark of a call that is not tried in a head. -/
def markB (u : Option Value) : Bool :=
  match u with
  | some .nilFunc => true
  | _ => false
/-- The same, where a number or a test may be told. -/
def headStep (P : Program) (rec : Rec) (ops : Array Oper) (o : Oper) (t : List Value) (h0 : List AO) (nid : Nat) (nl : List AO) : Option HE :=
  if markB (o.dst.bind fun d => rec.orc d t) then none else
  match headStep0 P rec ops o t h0 nid nl with
  | some e =>
    match fixV (if wantedA ops t o then o.dst.bind fun d => rec.orc d t else none) e.v with
    | some (v', cs) => some ⟨v', e.b, e.d ++ cs, e.st, e.rd⟩
    | none => none
  | none => none
theorem headStep_inv {P : Program} {rec : Rec} {ops : Array Oper} {o : Oper} {t : List Value} {h0 : List AO} {nid : Nat} {nl : List AO} {e : HE} (h : headStep P rec ops o t h0 nid nl = some e) (hd : ∀ c ∈ e.d, c.1 = c.2) :
    ∃ e0 cs, headStep0 P rec ops o t h0 nid nl = some e0 ∧ ∀ e1, some e1 = some e0 → (⟨e1.v, e1.b, e1.d ++ cs, e1.st, e1.rd⟩ : HE) = e := by
  unfold headStep at h
  split at h
  · cases h
  split at h
  · rename_i e0 h0
    split at h
    · rename_i v' cs hf
      cases h
      refine ⟨e0, cs, h0, fun e1 h1 => ?_⟩
      cases h1
      rw [fixV_ok hf fun c hc => hd c (List.mem_append_right _ hc)]
    · cases h
  · cases h
def addNew (l bs : List AO) : List AO := l ++ bs
def headRun (P : Program) (rec : Rec) (ops : Array Oper) (h0 : List AO) : List Oper → Nat → List Value → List AO → Nat × List Value × List AO × List HE
  | [], n, t, l => (n, t, l, [])
  | o :: rest, n, t, l =>
    match headStep P rec ops o t h0 (h0.length + l.length) l with
    | some e =>
      match headRun P rec ops h0 rest (n + 1) (rec.acc.put t o.dst e.v) (addNew l e.b) with
      | (n', t', l', es) => (n', t', l', e :: es)
    | none => (n, t, l, [])
/-- What the head's run tells of its operations: the temporaries ahead of each, what it does, the blocks laid ahead of it. -/
structure HeadSpec (P : Program) (rec : Rec) (ops : Array Oper) (h0 : List AO) (l : List Oper) (n0 n : Nat) (t : List Value) (l0 : List AO) (t' : List Value) (l' : List AO) (es : List HE)
    (T : Nat → List Value) (E : Nat → HE) (N : Nat → List AO) : Prop where
  le : n0 ≤ n
  t0 : T n0 = t
  tn : T n = t'
  l0 : N n0 = l0
  ln : N n = l'
  len : es.length = n - n0
  eff : ∀ i, n0 ≤ i → i < n → es[i - n0]? = some (E i)
  step : ∀ i, n0 ≤ i → i < n → ∃ o, l[i - n0]? = some o ∧ headStep P rec ops o (T i) h0 (h0.length + (N i).length) (N i) = some (E i) ∧ T (i + 1) = putA (T i) o.dst (E i).v ∧ N (i + 1) = addNew (N i) (E i).b
theorem headRun_spec {P : Program} {rec : Rec} (hacc : rec.acc = accP) {ops : Array Oper} {h0 : List AO} : ∀ (l : List Oper) (n0 : Nat) (t : List Value) (l0 : List AO) (n : Nat) (t' : List Value) (l' : List AO) (es : List HE), headRun P rec ops h0 l n0 t l0 = (n, t', l', es) →
    ∃ T E N, HeadSpec P rec ops h0 l n0 n t l0 t' l' es T E N
  | [], n0, t, l0, n, t', l', es, hr => by
    simp only [headRun, Prod.mk.injEq] at hr
    obtain ⟨rfl, rfl, rfl, rfl⟩ := hr
    exact ⟨fun _ => t, fun _ => ⟨undef, [], [], none, .none⟩, fun _ => l0, ⟨Nat.le_refl _, rfl, rfl, rfl, rfl, by simp, fun i h1 h2 => absurd h1 (by omega), fun i h1 h2 => absurd h1 (by omega)⟩⟩
  | o :: rest, n0, t, l0, n, t', l', es, hr => by
    simp only [headRun] at hr
    split at hr
    · rename_i e hs
      rw [hacc] at hr
      simp only [accP] at hr
      cases hrec : headRun P rec ops h0 rest (n0 + 1) (putA t o.dst e.v) (addNew l0 e.b) with
      | mk n1 r1 =>
        obtain ⟨t1, l1, es1⟩ := r1
        rw [hrec] at hr
        simp only [Prod.mk.injEq] at hr
        obtain ⟨rfl, rfl, rfl, rfl⟩ := hr
        obtain ⟨T, E, N, S⟩ := headRun_spec hacc rest (n0 + 1) _ _ n1 t1 l1 es1 hrec
        have hne : ∀ i, n0 + 1 ≤ i → i ≠ n0 := fun i h => by omega
        have hle := S.le
        refine ⟨fun i => if i = n0 then t else T i, fun i => if i = n0 then e else E i, fun i => if i = n0 then l0 else N i, ⟨by omega, by simp, ?_, by simp, ?_, by have := S.len; simp; omega, fun i h1 h2 => ?_, fun i h1 h2 => ?_⟩⟩
        · simp only [if_neg (hne n1 S.le)]; exact S.tn
        · simp only [if_neg (hne n1 S.le)]; exact S.ln
        · by_cases q : i = n0
          · subst q; simp
          · rw [show i - n0 = (i - (n0 + 1)) + 1 by omega]
            simp only [List.getElem?_cons_succ, if_neg q]
            exact S.eff i (by omega) h2
        · by_cases q : i = n0
          · subst q
            refine ⟨o, by simp, by simp only [if_true]; exact hs, ?_, ?_⟩
            · simp only [if_true, if_neg (hne (i + 1) (by omega))]; exact S.t0
            · simp only [if_true, if_neg (hne (i + 1) (by omega))]; exact S.l0
          · obtain ⟨o', g1, g2, g3, g4⟩ := S.step i (by omega) h2
            refine ⟨o', ?_, ?_, ?_, ?_⟩
            · rw [show i - n0 = (i - (n0 + 1)) + 1 by omega]; simpa using g1
            · simp only [if_neg q]; exact g2
            · simp only [if_neg q, if_neg (hne (i + 1) (by omega))]; exact g3
            · simp only [if_neg q, if_neg (hne (i + 1) (by omega))]; exact g4
    · simp only [Prod.mk.injEq] at hr
      obtain ⟨rfl, rfl, rfl, rfl⟩ := hr
      exact ⟨fun _ => t, fun _ => ⟨undef, [], [], none, .none⟩, fun _ => l0, ⟨Nat.le_refl _, rfl, rfl, rfl, rfl, by simp, fun i h1 h2 => absurd h1 (by omega), fun i h1 h2 => absurd h1 (by omega)⟩⟩
end Go.Proofs.YtchjneodjaakdaaGreat.Ex
end
