/-
  Runs that the kernel reckons: literals of structs, arrays and slices; new slices; parts of slices.
-/
import Derived.Test.YtafegjmaldbbiaaEx5
namespace Go.Proofs.Ytafegjmaldbbiaa.Ex
open Go Go.RowKit

def PR (s : Ren) (xs ys : List (Nat × Value)) : Prop := LR s (xs.map (·.2)) (ys.map (·.2)) ∧ xs.map (·.1) = ys.map (·.1)
theorem fold_ok {s : Ren} (off : Nat) : ∀ (l l' : List Value) (k : Nat) (cs cs' : Array Value), LR s l l' → LR s cs.toList cs'.toList →
    LR s ((l.zipIdx k).foldl (fun cs (c, j) => cs.setIfInBounds (off + j) c) cs).toList ((l'.zipIdx k).foldl (fun cs (c, j) => cs.setIfInBounds (off + j) c) cs').toList
  | [], [], _, _, _, _, h => h
  | x :: l, y :: l', k, cs, cs', hl, h => by
    simp only [List.zipIdx_cons, List.foldl_cons]
    refine fold_ok off l l' (k + 1) _ _ hl.uncons.2 ?_
    simpa using h.set hl.uncons.1 (off + k)
  | [], _ :: _, _, _, _, hl, _ => by have := hl.1; simp at this
  | _ :: _, [], _, _, _, hl, _ => by have := hl.1; simp at this
theorem fill_ok {s : Ren} (place : Nat → Option (Nat × Nat)) : ∀ (ps ps' : List (Nat × Value)) (cs cs' r : Array Value), PR s ps ps' → LR s cs.toList cs'.toList → Instr.fill place cs ps = some r →
    ∃ r', Instr.fill place cs' ps' = some r' ∧ LR s r.toList r'.toList
  | [], [], cs, cs', r, _, h, hr => by
    simp [Instr.fill] at hr
    subst hr
    exact ⟨cs', by simp [Instr.fill], h⟩
  | (i, v) :: ps, (i', v') :: ps', cs, cs', r, hp, h, hr => by
    obtain ⟨h1, h2⟩ := hp
    simp only [List.map_cons, List.cons.injEq] at h1 h2
    obtain ⟨rfl, h2⟩ := h2
    have hv := h1.uncons.1
    have hsz : v'.cells.size = v.cells.size := by have := hv.cells.1; simp at this; omega
    have hcs : cs'.size = cs.size := by have := h.1; simp at this; omega
    simp only [Instr.fill] at hr ⊢
    cases hpl : place i with
    | none => rw [hpl] at hr; cases hr
    | some os =>
      obtain ⟨off, size⟩ := os
      rw [hpl] at hr
      simp only [hsz, hcs] at hr ⊢
      split at hr
      · cases hr
      · rename_i hc
        rw [if_neg hc]
        refine fill_ok place ps ps' _ _ r ⟨h1.uncons.2, h2⟩ ?_ hr
        rw [← Array.foldl_toList, ← Array.foldl_toList, Array.toList_zipIdx, Array.toList_zipIdx]
        exact fold_ok off _ _ 0 cs cs' hv.cells h
  | [], _ :: _, _, _, _, hp, _, _ => by have := hp.2; simp at this
  | _ :: _, [], _, _, _, hp, _, _ => by have := hp.2; simp at this
theorem parts_ok {s : Ren} {ρ ρ' : Operand → Value} {ps : Array (Nat × Operand)} (h : ∀ x ∈ ps.toList.map (·.2), VR s (ρ x) (ρ' x)) :
    PR s (ps.map fun (i, x) => (i, ρ x)).toList (ps.map fun (i, x) => (i, ρ' x)).toList := by
  rw [Array.toList_map, Array.toList_map]
  generalize ps.toList = l at h
  induction l with
  | nil => exact ⟨LR.nil s, rfl⟩
  | cons x l ih =>
    obtain ⟨i, x⟩ := x
    obtain ⟨g1, g2⟩ := ih fun y hy => h y (by simp only [List.map_cons, List.mem_cons]; exact .inr hy)
    exact ⟨LR.cons (h x (by simp)) g1, by simp only [List.map_cons]; rw [g2]⟩

theorem splice_step {cs l : List Value} {x : Value} {o : Nat} (h : o + (l.length + 1) ≤ cs.length) : splice (cs.set o x) (o + 1) l = splice cs o (x :: l) := by
  apply List.ext_getElem?
  intro i
  rw [splice_get (by rw [List.length_set]; omega), splice_get (by simp only [List.length_cons]; omega), List.getElem?_set, List.length_cons]
  by_cases h1 : o = i
  · subst h1
    rw [if_neg (by omega), if_pos rfl, if_pos (by omega), if_pos (by omega), Nat.sub_self]
    rfl
  · by_cases h2 : o + 1 ≤ i ∧ i < o + 1 + l.length
    · rw [if_pos h2, if_pos (by omega), show i - o = (i - (o + 1)) + 1 by omega]
      rfl
    · rw [if_neg h2, if_neg h1, if_neg (by omega)]
theorem foldl_splice (off : Nat) : ∀ (l : List Value) (k : Nat) (cs : Array Value), off + k + l.length ≤ cs.toList.length →
    ((l.zipIdx k).foldl (fun cs (c, j) => cs.setIfInBounds (off + j) c) cs).toList = splice cs.toList (off + k) l
  | [], k, cs, _ => by simp [splice]
  | x :: l, k, cs, h => by
    simp only [List.zipIdx_cons, List.foldl_cons]
    simp only [List.length_cons] at h
    rw [foldl_splice off l (k + 1) _ (by simp only [Array.toList_setIfInBounds, List.length_set]; omega), Array.toList_setIfInBounds]
    exact splice_step (by omega)
/-- The same as fill, over lists. -/
def fillL (place : Nat → Option (Nat × Nat)) (cs : List Value) : List (Nat × Value) → Option (List Value)
  | [] => some cs
  | (i, v) :: rest =>
    match place i with
    | none => none
    | some (off, size) => if Nat.beq v.cells.toList.length size && Nat.ble (off + v.cells.toList.length) cs.length then fillL place (splice cs off v.cells.toList) rest else none
theorem fillL_ok {place : Nat → Option (Nat × Nat)} : ∀ {ps : List (Nat × Value)} {cs : Array Value} {r : List Value}, fillL place cs.toList ps = some r → Instr.fill place cs ps = some ⟨r⟩
  | [], cs, r, h => by simp only [fillL, Option.some.injEq] at h; subst h; rfl
  | (i, v) :: rest, cs, r, h => by
    simp only [fillL] at h
    unfold Instr.fill
    cases hp : place i with
    | none => rw [hp] at h; cases h
    | some os =>
      obtain ⟨off, size⟩ := os
      rw [hp] at h
      simp only at h ⊢
      split at h
      · rename_i hc
        simp only [Bool.and_eq_true] at hc
        have h1 := Nat.eq_of_beq_eq_true hc.1
        have h2 := Nat.le_of_ble_eq_true hc.2
        simp only [Array.length_toList] at h1 h2
        rw [if_neg (by simp only [ne_eq, Bool.or_eq_true, decide_eq_true_eq, not_or]; omega)]
        have e := foldl_splice off v.cells.toList 0 cs (by simp only [Array.length_toList]; omega)
        have e2 : (v.cells.zipIdx.foldl (fun cs (c, j) => cs.setIfInBounds (off + j) c) cs) = ⟨splice cs.toList off v.cells.toList⟩ := by
          apply Array.toList_inj.1
          rw [← Array.foldl_toList, Array.toList_zipIdx]
          exact e
        rw [e2]
        exact fillL_ok h
      · cases h

section
variable {P : Program} {s : Ren} {h : List AO} {w : World}
def placesOf (P : Program) (fs : Array Field) : Option (Array (Nat × Nat)) := pureRun P (fs.mapM fun f => do pure (f.offset, ← sizeOf f.type))
def oBuild (P : Program) (t : TypeId) (ps : Array (Nat × Value)) (h : List AO) : Option Out :=
  match P.info? t, P.underlying t with
  | some i, some (.struct fs) =>
    match i.zero, placesOf P fs with
    | some z, some pl =>
      if flat z then
        match fillL (pl[·]?) z.cells.toList ps.toList with
        | some cs => some (.value (.agg ⟨cs⟩), h, none)
        | none => none
      else none
    | _, _ => none
  | some i, some (.array _ e) =>
    match i.zero, P.info? e with
    | some z, some n =>
      if flat z then
        match fillL (fun i => some (i * n.size, n.size)) z.cells.toList ps.toList with
        | some cs => some (.value (.agg ⟨cs⟩), h, none)
        | none => none
      else none
    | _, _ => none
  | _, _ => none
theorem build_ok {t : TypeId} {ps ps' : Array (Nat × Value)} (hp : PR s ps.toList ps'.toList) {r : Out} (hr : oBuild P t ps h = some r) : Okay0 P s h w (aval (Instr.build t ps')) r := by
  unfold oBuild at hr
  split at hr
  · rename_i i fs hi hu
    split at hr
    · rename_i z pl hz hpl
      split at hr
      · rename_i hf
        split at hr
        · rename_i cs hcs
          cases hr
          obtain ⟨cs', h1, h2⟩ := fill_ok (s := s) _ _ _ _ z.cells _ hp (VR.same hf).cells (fillL_ok hcs)
          refine okay0 (v' := .agg cs') ?_ (VR.agg (xs := cs) (ys := cs'.toList) h2.1 h2.2)
          have h3 := pureRun_ok _ hpl w
          simp only [Instr.build, Sem.run_bind, run_zero hi hz, run_under hu, Result.andThen_ok, h3, h1, Sem.run_pure]
        · cases hr
      · cases hr
    · cases hr
  · rename_i i m e hi hu
    split at hr
    · rename_i z n hz hn
      split at hr
      · rename_i hf
        split at hr
        · rename_i cs hcs
          cases hr
          obtain ⟨cs', h1, h2⟩ := fill_ok (s := s) _ _ _ _ z.cells _ hp (VR.same hf).cells (fillL_ok hcs)
          refine okay0 (v' := .agg cs') ?_ (VR.agg (xs := cs) (ys := cs'.toList) h2.1 h2.2)
          simp only [Instr.build, Sem.run_bind, run_zero hi hz, run_under hu, Result.andThen_ok, run_size hn, h1, Sem.run_pure]
        · cases hr
      · cases hr
    · cases hr
  · cases hr

/-- A literal's new row, or a made one's: its cells, its length, its capacity. -/
def repeatZ (z : Array Value) (n : Nat) : Array Value := ⟨(List.range n).map fun i => z.toList.getD (i % z.toList.length) default⟩
theorem repeatZ_eq (z : Array Value) (n : Nat) : (Array.range n).map (z[· % z.size]!) = repeatZ z n := by
  apply Array.toList_inj.1
  rw [Array.toList_map, Array.toList_range]
  unfold repeatZ
  refine List.map_congr_left fun i _ => ?_
  simp [Array.getElem!_eq_getD, Array.getD_eq_getD_getElem?]
def oRow (P : Program) (t : TypeId) (len : Nat) (ps : Array (Nat × Value)) : Option (List Value × Nat × Nat) :=
  match P.underlying t with
  | some (.slice e) =>
    match P.info? e with
    | some i =>
      if len * i.size ≤ 2 ^ 24 then
        if len * i.size = 0 then
          match Instr.fill (fun j => some (j * i.size, i.size)) #[] ps.toList with
          | some cs => some (cs.toList, len, len)
          | none => none
        else
          match i.zero with
          | some z =>
            if (repeatZ z.cells (len * i.size)).toList.all flat then
              match Instr.fill (fun j => some (j * i.size, i.size)) (repeatZ z.cells (len * i.size)) ps.toList with
              | some cs => some (cs.toList, len, len)
              | none => none
            else none
          | none => none
      else none
    | none => none
  | _ => none
theorem row_ok {t : TypeId} {len : Nat} {ps ps' : Array (Nat × Value)} (hp : PR s ps.toList ps'.toList) {cs : List Value} {l c : Nat} (hr : oRow P t len ps = some (cs, l, c)) (w : World) :
    ∃ (arr : Array Value) (T : TypeId), (Instr.buildSlice t len ps').run P w = .ok (.slice (some ⟨w.heap.size, 0, none⟩) l c) (w.alloc (.cells arr T)) ∧ LR s cs arr.toList := by
  unfold oRow at hr
  split at hr
  · rename_i e hu
    split at hr
    · rename_i i hi
      split at hr
      · rename_i hlim
        split at hr
        · rename_i hz0
          split at hr
          · rename_i r hf
            cases hr
            obtain ⟨r', h1, h2⟩ := fill_ok (s := s) _ _ _ _ #[] _ hp (LR.nil s) hf
            refine ⟨r', e, ?_, h2⟩
            simp only [Instr.buildSlice, Sem.run_bind, run_under hu, Result.andThen_ok, run_size hi]
            rw [if_neg (by omega)]
            have e0 : (Array.range 0).map (fun x => (#[] : Array Value)[x % (#[] : Array Value).size]!) = #[] := by simp
            simp only [hz0, if_true, Sem.run_bind, Sem.run_pure, Result.andThen_ok, e0, h1]
            rfl
          · cases hr
        · rename_i hz0
          split at hr
          · rename_i z hz
            split at hr
            · rename_i hfl
              split at hr
              · rename_i r hf
                cases hr
                obtain ⟨r', h1, h2⟩ := fill_ok (s := s) _ _ _ _ _ _ hp (LR.ofFlat hfl) hf
                refine ⟨r', e, ?_, h2⟩
                rw [← repeatZ_eq] at h1
                simp only [Instr.buildSlice, Sem.run_bind, run_under hu, Result.andThen_ok, run_size hi]
                rw [if_neg (by omega)]
                simp only [hz0, if_false, Sem.run_bind, run_zero hi hz, Sem.run_pure, Result.andThen_ok, h1]
                rfl
              · cases hr
            · cases hr
          · cases hr
      · cases hr
    · cases hr
  · cases hr
end
end Go.Proofs.Ytafegjmaldbbiaa.Ex
