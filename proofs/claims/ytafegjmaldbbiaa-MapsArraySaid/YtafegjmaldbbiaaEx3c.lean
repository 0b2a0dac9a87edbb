/-
  Runs that the kernel reckons: made slices, parts of slices, append.
-/
import Derived.Test.YtafegjmaldbbiaaEx3b
namespace Go.Proofs.Ytafegjmaldbbiaa.Ex
open Go Go.RowKit

section
variable {P : Program} {wb : Wb} {k : Nat} {s : Ren} {h : List AO} {w : World}

def oMake (P : Program) (t : TypeId) (len cap : Value) : Option (List Value × Nat × Nat) :=
  match P.underlying t, len, cap with
  | some (.slice e), .int _ l, .int _ c =>
    match P.info? e with
    | some i =>
      if decide (IntKind.i64.wrap l = l) && decide (IntKind.i64.wrap c = c) && decide (0 ≤ l) && decide (l ≤ c) && decide ((i.bytes : Int) * c ≤ 2 ^ 48) then
        if c.toNat * i.size = 0 then some ([], l.toNat, c.toNat)
        else
          match i.zero with
          | some z => if (repeatZ z.cells (c.toNat * i.size)).toList.all flat then some ((repeatZ z.cells (c.toNat * i.size)).toList, l.toNat, c.toNat) else none
          | none => none
      else none
    | none => none
  | _, _, _ => none
theorem run_askRoom (n : Nat) (w : World) : (askRoom n).run P w = .ok () w := by
  unfold askRoom
  split <;> rfl
theorem make_ok {t : TypeId} {len cap len' cap' : Value} (hl : VR s len len') (hc : VR s cap cap') {cs : List Value} {l c : Nat} (hr : oMake P t len cap = some (cs, l, c)) (w : World) :
    ∃ (arr : Array Value) (T : TypeId), (Instr.makeSlice t len' cap').run P w = .ok (.slice (some ⟨w.heap.size, 0, none⟩) l c) (w.alloc (.cells arr T)) ∧ LR s cs arr.toList := by
  unfold oMake at hr
  split at hr
  · rename_i e k1 l1 k2 c1 hu
    rw [hl.int_inv, hc.int_inv]
    split at hr
    · rename_i i hi
      split at hr
      · rename_i hcond
        simp only [Bool.and_eq_true, decide_eq_true_eq] at hcond
        obtain ⟨⟨⟨⟨hwl, hwc⟩, h0⟩, hlc⟩, hb⟩ := hcond
        have hc0 : 0 ≤ c1 := by omega
        have t1 : (decide (c1 < 0) || decide ((i.bytes : Int) * c1 > 2 ^ 48)) = false := by
          simp only [Bool.or_eq_false_iff, decide_eq_false_iff_not]
          exact ⟨by omega, by omega⟩
        have t2 : (decide (l1 < 0)) = false := by simpa using h0
        have t3 : (decide (l1 > c1)) = false := by simpa using hlc
        split at hr
        · rename_i hz0
          cases hr
          refine ⟨#[], e, ?_, LR.nil s⟩
          have e0 : (Array.range 0).map (fun x => (#[] : Array Value)[x % (#[] : Array Value).size]!) = #[] := by simp
          simp only [Instr.makeSlice, asInt, asIntOf, Sem.run_bind, run_under hu, Sem.run_pure, Result.andThen_ok, run_info hi, hwl, hwc, t1, t2, t3, Bool.or_false, Bool.false_eq_true, if_false, run_askRoom, run_size hi, hz0, if_true, e0]
          rfl
        · rename_i hz0
          split at hr
          · rename_i z hz
            split at hr
            · rename_i hfl
              cases hr
              refine ⟨repeatZ z.cells (c1.toNat * i.size), e, ?_, LR.ofFlat hfl⟩
              rw [← repeatZ_eq]
              simp only [Instr.makeSlice, asInt, asIntOf, Sem.run_bind, run_under hu, Sem.run_pure, Result.andThen_ok, run_info hi, hwl, hwc, t1, t2, t3, Bool.or_false, Bool.false_eq_true, if_false, run_askRoom, run_size hi, hz0, run_zero hi hz]
              rfl
            · cases hr
          · cases hr
      · cases hr
    · cases hr
  · cases hr

/-! Parts. -/
def hiA (hi : Option Value) (len cap : Nat) : Option Nat :=
  match hi with
  | none => some len
  | some (.int _ i) => if 0 ≤ i ∧ i ≤ cap then some i.toNat else none
  | _ => none
def loA (lo : Option Value) (h : Nat) : Option Nat :=
  match lo with
  | none => some 0
  | some (.int _ i) => if 0 ≤ i ∧ i ≤ h then some i.toNat else none
  | _ => none
def OR (s : Ren) (a b : Option Value) : Prop :=
  match a, b with
  | none, none => True
  | some x, some y => VR s x y
  | _, _ => False
theorem bounds_ok {b : Bool} {len cap cap' : Nat} {lo lo' hi hi' : Option Value} (hl : OR s lo lo') (hh : OR s hi hi') {l h1 : Nat} (h2 : hiA hi len cap = some h1) (h3 : loA lo h1 = some l) (hcap : hi = none ∨ cap ≤ cap') (w : World) :
    (Instr.sliceBounds b len cap' lo' hi' none).run P w = .ok (l, h1, cap') w := by
  unfold hiA at h2
  unfold loA at h3
  cases hi with
  | none =>
    cases hi' with
    | some _ => exact hh.elim
    | none =>
      cases h2
      cases lo with
      | none =>
        cases lo' with
        | some _ => exact hl.elim
        | none => cases h3; simp [Instr.sliceBounds]
      | some x =>
        cases lo' with
        | none => exact hl.elim
        | some y =>
          cases x <;> simp only at h3 <;> try cases h3
          rename_i kk i
          rw [VR.int_inv hl]
          split at h3
          · rename_i hc; cases h3; simp [Instr.sliceBounds, Instr.sliceBound, asIntOf, hc]
          · cases h3
  | some x =>
    cases hi' with
    | none => exact hh.elim
    | some y =>
      cases x <;> simp only at h2 <;> try cases h2
      rename_i kk i
      rw [VR.int_inv hh]
      split at h2
      · rename_i hc
        cases h2
        have hc' : 0 ≤ i ∧ i ≤ cap' := ⟨hc.1, by rcases hcap with h | h; cases h; omega⟩
        cases lo with
        | none =>
          cases lo' with
          | some _ => exact hl.elim
          | none => cases h3; simp [Instr.sliceBounds, Instr.sliceBound, asIntOf, hc']
        | some x =>
          cases lo' with
          | none => exact hl.elim
          | some y =>
            cases x <;> simp only at h3 <;> try cases h3
            rename_i kk2 j
            rw [VR.int_inv hl]
            split at h3
            · rename_i hc2
              cases h3
              have e1 : ((i.toNat : Nat) : Int) = i := Int.toNat_of_nonneg hc.1
              have e2 : max i 0 = i := by omega
              rw [e1] at hc2
              simp [Instr.sliceBounds, Instr.sliceBound, asIntOf, hc', e2, hc2]
            · cases h3
      · cases h2
def esOf (h : List AO) (b : Nat) : Option (Option Nat) :=
  match h[b]? with
  | some o => if o.live then some o.es else none
  | none => none
theorem esOf_ok (H : MR s h w) {b : Nat} {es : Option Nat} (he : esOf h b = some es) {p : Pl} (hp : s b = some p) : p.es = es := by
  unfold esOf at he
  split at he
  · rename_i o ho
    split at he
    · rename_i hl
      cases he
      obtain ⟨q, hq, h1, _⟩ := H b o ho hl
      rw [hp] at hq
      cases hq
      exact h1
    · cases he
  · cases he
def oSlice (P : Program) (t : TypeId) (x : Value) (lo hi : Option Value) (h : List AO) : Option Out :=
  match P.underlying t, x with
  | some (.array n e), .pointer (some a) =>
    match P.info? e, esOf h a.block, hiA hi n n with
    | some i, some none, some h1 =>
      match loA lo h1 with
      | some l => some (.value (.slice (some (if n = l then a else a.add (l * i.size))) (h1 - l) (n - l)), h, none)
      | none => none
    | _, _, _ => none
  | some (.slice e), .slice (some a) len cap =>
    match P.info? e, esOf h a.block with
    | some i, some none =>
      match hiA hi len cap with
      | some h1 =>
        match loA lo h1 with
        | some l => some (.value (.slice (some (if cap = l then a else a.add (l * i.size))) (h1 - l) (cap - l)), h, none)
        | none => none
      | none => none
    | some i, some (some q) =>
      match hiA hi len len with
      | some h1 =>
        match loA lo h1 with
        | some l => if q = i.size ∧ (l = 0 ∨ l < len) then some (.value (.slice (some (a.add (l * i.size))) (h1 - l) (h1 - l)), h, none) else none
        | none => none
      | none => none
    | _, _ => none
  | _, _ => none
theorem hiA_le {hi : Option Value} {len cap h1 : Nat} (h : hiA hi len cap = some h1) (hlc : len ≤ cap) : h1 ≤ cap := by
  unfold hiA at h
  split at h
  · cases h; exact hlc
  · split at h
    · cases h; omega
    · cases h
  · cases h
theorem loA_le {lo : Option Value} {h1 l : Nat} (h : loA lo h1 = some l) : l ≤ h1 := by
  unfold loA at h
  split at h
  · cases h; omega
  · split at h
    · cases h; omega
    · cases h
  · cases h
theorem add_vr {a : Addr} {p : Pl} (hs : a.spot = none) (n : Nat) : a.add n = ⟨a.block, a.off + n, none⟩ ∧ (⟨p.blk, p.off + a.off, none⟩ : Addr).add n = ⟨p.blk, p.off + (a.off + n), none⟩ := by
  refine ⟨?_, by rw [add_none, Nat.add_assoc]⟩
  obtain ⟨b, o, sp⟩ := a
  simp at hs
  subst hs
  exact add_none n
theorem slice_ok (H : MR s h w) {t : TypeId} {x x' : Value} (hx : VR s x x') {lo lo' hi hi' : Option Value} (hl : OR s lo lo') (hh : OR s hi hi') {r : Out} (hr : oSlice P t x lo hi h = some r) :
    Okay0 P s h w (aval (Instr.sliceAt t x' lo' hi' none)) r := by
  unfold oSlice at hr
  split at hr
  · rename_i n e a hu
    obtain ⟨p, hs, hp, rfl⟩ := hx.ptr_inv
    split at hr
    · rename_i i h1 hi0 hes hhi
      split at hr
      · rename_i l hlo
        cases hr
        have hpe := esOf_ok H hes hp
        have hb := bounds_ok (P := P) (b := false) (cap' := n) hl hh hhi hlo (.inr (Nat.le_refl _)) w
        obtain ⟨e1, e2⟩ := add_vr (p := p) hs (l * i.size)
        by_cases hnl : n = l
        · refine okay0 (v' := .slice (some ⟨p.blk, p.off + a.off, none⟩) (h1 - l) (n - l)) ?_ ?_
          · subst hnl
            simp [Instr.sliceAt, run_under hu, Instr.sureAddr, hb, run_size hi0]
          · rw [if_pos hnl]
            exact VR.slice hs hp (by unfold CapOk; rw [hpe])
        · refine okay0 (v' := .slice (some ⟨p.blk, p.off + (a.off + l * i.size), none⟩) (h1 - l) (n - l)) ?_ ?_
          · simp [Instr.sliceAt, run_under hu, Instr.sureAddr, hb, run_size hi0, hnl, e2]
          · rw [if_neg hnl, e1]
            exact VR.slice (a := ⟨a.block, a.off + l * i.size, none⟩) rfl hp (by unfold CapOk; rw [hpe])
      · cases hr
    · cases hr
  · rename_i e a len cap hu
    obtain ⟨p, c', hs, hp, hcap, rfl⟩ := hx.slice_inv
    split at hr
    · rename_i i hi0 hes
      split at hr
      · rename_i h1 hhi
        split at hr
        · rename_i l hlo
          cases hr
          have hpe := esOf_ok H hes hp
          have hcc : c' = cap := by unfold CapOk at hcap; rw [hpe] at hcap; exact hcap
          subst hcc
          have hb := bounds_ok (P := P) (b := true) (cap' := c') hl hh hhi hlo (.inr (Nat.le_refl _)) w
          obtain ⟨e1, e2⟩ := add_vr (p := p) hs (l * i.size)
          by_cases hnl : c' = l
          · refine okay0 (v' := .slice (some ⟨p.blk, p.off + a.off, none⟩) (h1 - l) (c' - l)) ?_ ?_
            · subst hnl
              simp [Instr.sliceAt, Instr.slice, run_under hu, hb, run_size hi0]
            · rw [if_pos hnl]
              exact VR.slice hs hp (by unfold CapOk; rw [hpe])
          · refine okay0 (v' := .slice (some ⟨p.blk, p.off + (a.off + l * i.size), none⟩) (h1 - l) (c' - l)) ?_ ?_
            · simp [Instr.sliceAt, Instr.slice, run_under hu, hb, run_size hi0, hnl, e2]
            · rw [if_neg hnl, e1]
              exact VR.slice (a := ⟨a.block, a.off + l * i.size, none⟩) rfl hp (by unfold CapOk; rw [hpe])
        · cases hr
      · cases hr
    · rename_i i q hi0 hes
      split at hr
      · rename_i h1 hhi
        split at hr
        · rename_i l hlo
          split at hr
          · rename_i hq
            cases hr
            obtain ⟨rfl, hq⟩ := hq
            have hpe := esOf_ok H hes hp
            unfold CapOk at hcap
            rw [hpe] at hcap
            simp only at hcap
            obtain ⟨hq0, hq1, hq2⟩ := hcap
            have hb := bounds_ok (P := P) (b := true) (cap' := c') hl hh hhi hlo (.inr hq2) w
            have g1 := hiA_le hhi (Nat.le_refl _)
            have g2 := loA_le hlo
            obtain ⟨e1, e2⟩ := add_vr (p := p) hs (l * i.size)
            refine okay0 (v' := .slice (some ⟨p.blk, p.off + (a.off + l * i.size), none⟩) (h1 - l) (c' - l)) ?_ ?_
            · by_cases hnl : c' = l
              · have hl0 : l = 0 := by omega
                subst hl0
                subst hnl
                simp [Instr.sliceAt, Instr.slice, run_under hu, hb, run_size hi0]
              · simp [Instr.sliceAt, Instr.slice, run_under hu, hb, run_size hi0, hnl, e2]
            · rw [e1]
              refine VR.slice (a := ⟨a.block, a.off + l * i.size, none⟩) rfl hp ?_
              unfold CapOk
              rw [hpe]
              refine ⟨hq0, ?_, by omega⟩
              have : l * i.size + (c' - l) * i.size = c' * i.size := by rw [← Nat.add_mul]; congr 1; omega
              simp only
              omega
          · cases hr
        · cases hr
      · cases hr
    · cases hr
  · cases hr
end
end Go.Proofs.Ytafegjmaldbbiaa.Ex
