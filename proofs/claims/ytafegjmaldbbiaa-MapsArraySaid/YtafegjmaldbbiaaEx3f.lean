/-
  Runs that the kernel reckons: copy; bytes made a string.
-/
import Derived.Test.YtafegjmaldbbiaaEx3e
import Derived.Laws.BytesString
namespace Go.Proofs.Ytafegjmaldbbiaa.Ex
open Go Go.RowKit

section
variable {P : Program} {wb : Wb} {k : Nat} {s : Ren} {h : List AO} {w : World}
def oCopy (P : Program) (ts : Array TypeId) (dv xv : Value) (h : List AO) : Option Out :=
  match ts[0]?, dv, lenA xv with
  | some dT, .slice (some a) dl _, some n =>
    match P.underlying dT with
    | some (.slice e) =>
      match P.info? e with
      | some i =>
        match srcCells xv i.size (Nat.min n dl) h with
        | some new =>
          if new.length = Nat.min n dl * i.size ∧ new.all (·.oneCell') = true then
            match astore h a new with
            | some h' => some (.value (.int .i64 (Nat.min n dl)), h', some a.block)
            | none => none
          else none
        | none => none
      | none => none
    | _ => none
  | _, _, _ => none
theorem copy_ok (H : HR wb k s h w) {ts : Array TypeId} {ty : TypeId} {dv dv' xv xv' : Value} (hs : VR s dv dv') (hx : VR s xv xv') {r : Out} (hr : oCopy P ts dv xv h = some r) (hk : ∀ i, r.2.2 = some i → k ≤ i) :
    Okay P wb k s w (aval (Builtin.copy_ ts ty #[dv', xv'])) r := by
  unfold oCopy at hr
  split at hr
  · rename_i dT a dl c n h0 hlen
    obtain ⟨p, c0, hsp, hp, _, rfl⟩ := hs.slice_inv
    split at hr
    · rename_i e hu
      split at hr
      · rename_i i hi
        split at hr
        · rename_i new hsrc
          split at hr
          · rename_i hc
            split at hr
            · rename_i h' hst
              cases hr
              obtain ⟨new', hnew, hnr⟩ := src_ok (P := P) H.mr hx hsrc
              have hnn := len_of (P := P) (w := w) hx hlen
              obtain ⟨g1, g2, H'⟩ := astore_spec H hst (hk _ rfl) hp hnr
              have hone' : ∀ v ∈ new', v.oneCell' = true := by
                intro v hv
                obtain ⟨j, hj⟩ := List.getElem?_of_mem hv
                obtain ⟨u, hu, huv⟩ := hnr.get' hj
                exact huv.one (all_get hc.2 hu)
              have h3 := run_storeCells_cells (P := P) p.blk (p.off + a.off) new' 0 w (by simpa using g1) (by simpa using g2) hone'
              refine okay_val (v' := .int .i64 (Nat.min n dl)) (w' := w.setCells p.blk (p.off + a.off) new') ?_ (Le.refl s) H' (VR.same rfl)
              simp only [Builtin.copy_, h0, List.getElem?_toArray, List.getElem?_cons_zero, List.getElem?_cons_succ, Sem.run_bind, run_under hu, Result.andThen_ok, hnn, run_size hi, hnew]
              have h4 : (storeCells ⟨p.blk, p.off + a.off, none⟩ new').run P w = .ok () (w.setCells p.blk (p.off + a.off) new') := by simpa using h3
              simp only [h4, Result.andThen_ok, Sem.run_pure, goInt]
            · cases hr
          · cases hr
        · cases hr
      · cases hr
    · cases hr
  · cases hr

def nsOf : List Value → Option (List Int)
  | [] => some []
  | .int .u8 n :: r =>
    match nsOf r with
    | some ns => some (n :: ns)
    | none => none
  | _ => none
theorem nsOf_ok : ∀ {l : List Value} {ns : List Int}, nsOf l = some ns → l = ns.map (Value.int .u8)
  | [], ns, h => by simp [nsOf] at h; subst h; rfl
  | v :: l, ns, h => by
    unfold nsOf at h
    split at h
    · rename_i heq; cases heq
    · rename_i n r heq
      cases heq
      split at h
      · rename_i ns' hns
        cases h
        rw [nsOf_ok hns]; rfl
      · cases h
    · cases h
theorem fold_push : ∀ (ns : List Int) (r : ByteArray), (ns.foldl (fun r n => r.push (UInt8.ofNat n.toNat)) r).data.toList = r.data.toList ++ ns.map fun n => UInt8.ofNat n.toNat
  | [], r => by simp
  | n :: ns, r => by
    simp only [List.foldl_cons, fold_push ns, List.map_cons]
    simp [ByteArray.push]
theorem fold_bytes (ns : List Int) : ns.foldl (fun r n => r.push (UInt8.ofNat n.toNat)) ByteArray.empty = ⟨⟨ns.map fun n => UInt8.ofNat n.toNat⟩⟩ := by
  apply ByteArray.ext
  apply Array.toList_inj.1
  rw [fold_push]
  rfl
def oToStr (P : Program) (src dst : TypeId) (x : Value) (h : List AO) : Option Out :=
  match P.underlying src, P.underlying dst, x with
  | some (.slice e), some .string, .slice (some a) l _ =>
    match P.underlying e with
    | some (.int .u8) =>
      match aload h a l with
      | some vs =>
        match nsOf vs with
        | some ns => some (.value (.string ⟨⟨ns.map fun n => UInt8.ofNat n.toNat⟩⟩), h, none)
        | none => none
      | none => none
    | _ => none
  | _, _, _ => none
theorem toStr_ok (H : MR s h w) {src dst : TypeId} {x x' : Value} (hx : VR s x x') {r : Out} (hr : oToStr P src dst x h = some r) : Okay0 P s h w (aval (convert src dst x')) r := by
  unfold oToStr at hr
  split at hr
  · rename_i e a l c hsu hdu
    obtain ⟨p, c', hsp, hp, _, rfl⟩ := hx.slice_inv
    split at hr
    · rename_i heu
      split at hr
      · rename_i vs hvs
        split at hr
        · rename_i ns hns
          cases hr
          obtain ⟨hlen, vs', hv, hc⟩ := aload_spec H hvs hp
          have hvv : vs' = vs := hv.eq_of_flat (by rw [nsOf_ok hns]; exact List.all_eq_true.2 fun v hv => by obtain ⟨n, _, rfl⟩ := List.mem_map.1 hv; rfl)
          subst hvv
          have h2 := run_loadCells_list (P := P) w ⟨p.blk, p.off + a.off, none⟩ vs' hc
          rw [hlen] at h2
          rw [← fold_bytes]
          have h3 := run_bytesToString (P := P) w ⟨p.blk, p.off + a.off, none⟩ l c' ns (by rw [h2, nsOf_ok hns])
          refine okay0 ?_ (VR.same rfl)
          simp only [convert, Sem.run_bind, run_under hsu, run_under hdu, Result.andThen_ok, run_under heu, h3]
        · cases hr
      · cases hr
    · cases hr
  · cases hr

/-! A string made bytes: their capacity is not known. -/
def oFromStr (P : Program) (src dst : TypeId) (x : Value) (h : List AO) : Option Out :=
  match P.underlying src, P.underlying dst, x with
  | some .string, some (.slice e), .string b =>
    match P.underlying e with
    | some (.int .u8) =>
      some (.value (.slice (some ⟨h.length, 0, none⟩) b.size b.size), h ++ [⟨true, some 1, b.data.toList.map fun c => Value.int .u8 c.toNat⟩], none)
    | _ => none
  | _, _, _ => none
theorem fromStr_ok (H : HR wb k s h w) {src dst : TypeId} {x x' : Value} (hx : VR s x x') {r : Out} (hr : oFromStr P src dst x h = some r) : Okay P wb k s w (aval (convert src dst x')) r := by
  unfold oFromStr at hr
  split at hr
  · rename_i e b hsu hdu
    rw [hx.string_inv]
    split at hr
    · rename_i heu
      cases hr
      let q := Question.appendCap b.size 0 e
      let c := q.cut (w.tape w.drawn q)
      have hc : b.size ≤ c := by
        show b.size ≤ b.size + (w.tape w.drawn q) % (2 ^ 63 - b.size)
        omega
      have hch : (choose (.appendCap b.size 0 e)).run P w = .ok c w.drew := by
        show (Sem.choose q .pure).run P w = _
        simp only [Sem.run]
        rw [if_neg (by simp [q, Question.forced])]
        rfl
      let cells : Array Value := b.data.map fun c => Value.int .u8 c.toNat
      let arr : Array Value := cells ++ Array.replicate (c - b.size) (.int .u8 0)
      have hbs : cells.size = b.size := by simp [cells]
      have hsz : arr.size = c := by simp only [arr, Array.size_append, hbs, Array.size_replicate]; omega
      have hcl : (b.data.toList.map fun c => Value.int .u8 c.toNat) = cells.toList := (Array.toList_map ..).symm
      have hflat : cells.toList.all flat = true := by
        simp only [cells, Array.toList_map]
        exact List.all_eq_true.2 fun v hv => by obtain ⟨n, _, rfl⟩ := List.mem_map.1 hv; rfl
      obtain ⟨H', hle⟩ := H.drew.newF cells.toList arr e (some 1) rfl (arr.size, arr.size + 1) (fun o ho hh => by have := hh.1; omega) (by simp only [arr, Array.size_append, Array.length_toList]; omega) (fun o v hv => by
        refine ⟨v, ?_, .same (all_get hflat hv)⟩
        rw [← Array.getElem?_toList]
        simp only [arr, Array.toList_append]
        rw [List.getElem?_append_left (List.getElem?_eq_some_iff.1 hv).1]
        exact hv)
      refine okay_val (v' := .slice (some ⟨w.heap.size, 0, none⟩) b.size c) (w' := w.drew.alloc (.cells arr e (arr.size, arr.size + 1))) ?_ hle (by rw [hcl]; exact H') ?_
      · have hfr : (w.drew.alloc (.cells arr e)).freeze ⟨w.heap.size, arr.size, none⟩ 1 = w.drew.alloc (.cells arr e (arr.size, arr.size + 1)) := by
          have e1 : (w.drew.alloc (.cells arr e)).heap = w.heap.push (.cells arr e) := rfl
          unfold World.freeze
          rw [if_neg (by omega)]
          show ({ (w.drew.alloc (.cells arr e)) with heap := _ } : World) = _
          rw [e1]
          have e2 : ∀ (f : Obj → Obj) (o : Obj), (w.heap.push o).modify w.heap.size f = w.heap.push (f o) := by
            intro f o
            apply Array.ext_getElem?
            intro j
            rw [Array.getElem?_modify]
            by_cases ej : w.heap.size = j
            · subst ej; simp
            · rw [if_neg ej, Array.getElem?_push, Array.getElem?_push, if_neg (Ne.symm ej), if_neg (Ne.symm ej)]
          rw [e2]
          rfl
        have hsh : (w.drew.alloc (.cells arr e)).shape? w.heap.size = some (e, arr.size) := by
          show World.shape? (w.alloc (.cells arr e)) w.heap.size = _
          simp only [World.alloc, World.shape?, Array.getElem?_push_size]
        have hmk : (markStringish ⟨w.heap.size, 0, none⟩).run P (w.drew.alloc (.cells arr e)) = .ok () (w.drew.alloc (.cells arr e (arr.size, arr.size + 1))) := by
          rw [← hfr]
          simp only [markStringish, shape, freeze, Sem.run_bind, Sem.run, hsh, Result.andThen_ok]
        simp only [convert, Conv.stringToBytes, Sem.run_bind, run_under hsu, run_under hdu, run_under heu, Result.andThen_ok, hch]
        have hnr : (newRow e arr).run P w.drew = .ok ⟨w.heap.size, 0, none⟩ (w.drew.alloc (.cells arr e)) := rfl
        have := hnr
        simp only [arr, cells] at hnr hmk ⊢
        simp only [hnr, Result.andThen_ok, hmk, Sem.run_pure]
      · exact VR.slice (a := ⟨h.length, 0, none⟩) rfl (upd_same _ _ _) (by unfold CapOk; exact ⟨by omega, by simp only [Nat.zero_add, Nat.mul_one, Nat.add_zero]; exact hsz.symm, hc⟩)
    · cases hr
  · cases hr

/-! Closures. -/
def oFunc (fn : Fn) (a b : List Value) (h : List AO) : Option Out :=
  match fn with
  | .func f => some (.value (.func (.func f) ⟨a⟩ ⟨b⟩), h, none)
  | _ => none
theorem func_ok {ρ ρ' : Operand → Value} {fn : Fn} {a b : Array Operand} (ha : LR s (a.toList.map ρ) (a.toList.map ρ')) (hb : LR s (b.toList.map ρ) (b.toList.map ρ')) {r : Out} (hr : oFunc fn (a.toList.map ρ) (b.toList.map ρ) h = some r) :
    Okay0 P s h w (aval (Instr.makeFunc fn (a.map ρ') (b.map ρ'))) r := by
  unfold oFunc at hr
  split at hr
  · rename_i f
    cases hr
    refine okay0 (v' := .func (.func f) (a.map ρ') (b.map ρ')) rfl ?_
    have e1 : a.map ρ' = ⟨a.toList.map ρ'⟩ := Array.ext' (by rw [Array.toList_map])
    have e2 : b.map ρ' = ⟨b.toList.map ρ'⟩ := Array.ext' (by rw [Array.toList_map])
    rw [e1, e2]
    exact VR.func ha.1 ha.2 hb.1 hb.2
  · cases hr
end
end Go.Proofs.Ytafegjmaldbbiaa.Ex
