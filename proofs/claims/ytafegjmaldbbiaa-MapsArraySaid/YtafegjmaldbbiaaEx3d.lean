/-
  Runs that the kernel reckons: append.
-/
import Derived.Test.YtafegjmaldbbiaaEx3c
namespace Go.Proofs.Ytafegjmaldbbiaa.Ex
open Go Go.RowKit

theorem growBy_le (n : Nat) : ∀ (r c : Nat), c ≤ 2 * n + 200 → Builtin.growBy n r c ≤ 2 * n + 200
  | 0, c, h => h
  | r + 1, c, h => by
    simp only [Builtin.growBy]
    split
    · exact h
    · exact growBy_le n r _ (by omega)
theorem nextcap_le {n c : Nat} (h : c < n) : Builtin.nextslicecap n c ≤ 2 * n + 200 := by
  unfold Builtin.nextslicecap
  split
  · omega
  · split
    · omega
    · exact growBy_le n 4 c (by omega)

section
variable {P : Program} {wb : Wb} {k : Nat} {s : Ren} {h : List AO} {w : World}

theorem HR.kill (H : HR wb k s h w) (b : Nat) : HR wb k s (h.set b dead) w := by
  have old : ∀ (i : Nat) (o : AO), (h.set b dead)[i]? = some o → o.live = true → h[i]? = some o := by
    intro i o ho hl
    rw [List.getElem?_set] at ho
    split at ho
    · split at ho
      · cases ho; cases hl
      · cases ho
    · exact ho
  exact ⟨H.grown, by simpa using H.kle, fun i hi => H.dom i (by simpa using hi), H.plc, fun i o ho hl => H.obj i o (old i o ho hl) hl,
    fun i j a c p q hi hj ha hc => H.sep i j a c p q (old i a hi ha) (old j c hj hc) ha hc, H.gl⟩
/-- The row goes on in its own spare room: its old block is given up, the new one lies where its slice began. -/
theorem HR.regrow (H : HR wb k s h w) {b off : Nat} {o : AO} (ho : h[b]? = some o) (hlive : o.live = true) (hwr : isW o = true) (hk : k ≤ b) {p : Pl} (hp : s b = some p) (hne : o.es ≠ none) {e : Nat} {old new new' : List Value} {c' : Nat} (hew : isW ⟨true, some e, old ++ new⟩ = true)
    (hold : ∀ (i : Nat) (v : Value), old[i]? = some v → o.cs[off + i]? = some v) (hn : LR s new new') (hfit : p.off + off + c' * e = p.tot) (hlen : old.length + new.length ≤ c' * e) :
    (∀ j, j < new'.length → (w.cell? ⟨p.blk, p.off + off + old.length + j, none⟩).isSome = true) ∧ (∀ j, j < new'.length → w.frozen? ⟨p.blk, p.off + off + old.length + j, none⟩ = false) ∧
    HR wb k (upd s h.length ⟨p.blk, p.off + off, p.tot, some e⟩) (h.set b dead ++ [⟨true, some e, old ++ new⟩]) (w.setCells p.blk (p.off + off + old.length) new') ∧ Le s (upd s h.length ⟨p.blk, p.off + off, p.tot, some e⟩) := by
  obtain ⟨q, hq, hes, hb⟩ := H.obj b o ho hlive
  rw [hp] at hq
  cases hq
  replace hb := hb.2 (isW_spec hwr).1
  have hfree := hb.free (by rw [hes]; exact (isW_spec hwr).2)
  have hlen' := hn.1
  have hal : ∀ j, j < new'.length → (w.cell? ⟨p.blk, p.off + off + old.length + j, none⟩).isSome = true := fun j hj => hb.all _ (by omega)
  have hle := Le.upd (s := s) (i := h.length) ⟨p.blk, p.off + off, p.tot, some e⟩ (H.dom _ (Nat.le_refl _))
  have hblk : wb.w.heap.size ≤ p.blk ∨ wb.x p.blk := (H.plc _ _ hp).2.1 hk
  have hbl : b < h.length := (List.getElem?_eq_some_iff.1 ho).1
  have back : ∀ (i : Nat) (x : AO), i ≠ h.length → (h.set b dead ++ [(⟨true, some e, old ++ new⟩ : AO)])[i]? = some x → x.live = true → h[i]? = some x ∧ i ≠ b := by
    intro i x hi hx hl
    have hil : i < (h.set b dead).length := by
      have := (List.getElem?_eq_some_iff.1 hx).1
      simp at this ⊢; omega
    rw [List.getElem?_append_left hil, List.getElem?_set] at hx
    by_cases hbi : b = i
    · rw [if_pos hbi, if_pos hbl] at hx
      cases hx; cases hl
    · rw [if_neg hbi] at hx
      exact ⟨hx, fun e => hbi e.symm⟩
  refine ⟨hal, fun j hj => hfree _ (by omega) (by omega) (fun h => absurd (hes ▸ h) hne), ⟨grown_setCells _ hblk _ _ _ H.grown, by simp; have := H.kle; omega, fun i hi => ?_, fun i r hr => ?_, fun i x hx hl => ?_, fun i j x y r t hi hj hx hy hr ht heq => ?_, fun i r hr hg => ?_⟩, hle⟩
  · simp at hi
    rw [upd_other _ _ (by omega)]
    exact H.dom i (by omega)
  · rw [size_setCells]
    by_cases ei : i = h.length
    · subst ei
      rw [upd_same] at hr
      cases hr
      exact ⟨fun hlt => absurd H.kle (by omega), fun _ => hblk, (H.plc _ _ hp).2.2⟩
    · rw [upd_other _ _ ei] at hr
      exact H.plc i r hr
  · by_cases ei : i = h.length
    · subst ei
      rw [List.getElem?_append_right (by simp)] at hx
      simp at hx
      subst hx
      refine ⟨_, upd_same _ _ _, rfl, ObjAt.block (isW_spec hew).1 ⟨by simp only [List.length_append]; omega, fun o' ho' => ?_, ?_, fun _ o' h1 h2 _ => ?_, fun o' v hv => ?_⟩⟩
      · by_cases hin : p.off + off + old.length ≤ o' ∧ o' < p.off + off + old.length + new'.length
        · have := World.cell?_setCells_in p.blk new' (p.off + off + old.length) w hal (o' - (p.off + off + old.length)) (by omega)
          rw [show p.off + off + old.length + (o' - (p.off + off + old.length)) = o' by omega] at this
          rw [this]; rfl
        · rw [World.cell?_setCells_out _ _ _ _ _ fun _ _ => by simp; omega]
          exact hb.all o' ho'
      · obtain ⟨T, hT⟩ := hb.shp
        exact ⟨T, by rw [shape_setCells]; exact hT⟩
      · rw [World.frozen?_setCells]; exact hfree o' (by simp only at h1; omega) h2 (fun h => absurd (hes ▸ h) hne)
      · simp only at hv
        by_cases hlt : o' < old.length
        · rw [List.getElem?_append_left hlt] at hv
          obtain ⟨v', g1, g2⟩ := hb.rel _ v (hold o' v hv)
          refine ⟨v', ?_, g2.mono hle⟩
          rw [World.cell?_setCells_out _ _ _ _ _ fun _ _ => by simp; omega]
          rw [show p.off + off + o' = p.off + (off + o') by omega]
          exact g1
        · rw [List.getElem?_append_right (by omega)] at hv
          obtain ⟨y, hy, hvy⟩ := hn.get hv
          have hyl : o' - old.length < new'.length := (List.getElem?_eq_some_iff.1 hy).1
          have := World.cell?_setCells_in p.blk new' (p.off + off + old.length) w hal (o' - old.length) hyl
          rw [show p.off + off + old.length + (o' - old.length) = p.off + off + o' by omega] at this
          refine ⟨y, ?_, hvy.mono hle⟩
          rw [this, ← hy, List.getElem?_eq_getElem hyl]
    · obtain ⟨hx, hib⟩ := back i x ei hx hl
      obtain ⟨r, hr, he, hbr⟩ := H.obj i x hx hl
      have hne : r.blk ≠ p.blk := fun e => hib (H.sep i b x o r p hx ho hl hlive hr hp e)
      exact ⟨r, by rw [upd_other _ _ ei]; exact hr, he, (hbr.heap (heap_setCells p.blk r.blk hne new' _ w)).mono hle⟩
  · by_cases ei : i = h.length
    · by_cases ej : j = h.length
      · omega
      · subst ei
        rw [upd_same] at hr
        cases hr
        obtain ⟨hj', hjb⟩ := back j y ej hj hy
        rw [upd_other _ _ ej] at ht
        exact absurd (H.sep b j o y p t ho hj' hlive hy hp ht heq) (Ne.symm hjb)
    · obtain ⟨hi', hib⟩ := back i x ei hi hx
      rw [upd_other _ _ ei] at hr
      by_cases ej : j = h.length
      · subst ej
        rw [upd_same] at ht
        cases ht
        exact absurd (H.sep i b x o r p hi' ho hx hlive hr hp heq) hib
      · obtain ⟨hj', _⟩ := back j y ej hj hy
        rw [upd_other _ _ ej] at ht
        exact H.sep i j x y r t hi' hj' hx hy hr ht heq
  · by_cases ei : i = h.length
    · subst ei
      rw [upd_same] at hr
      cases hr
      exact absurd hg (isW_spec hew).2
    · rw [upd_other _ _ ei] at hr
      exact H.gl i r hr hg

/-! What is appended. -/
def srcCells (x : Value) (size n : Nat) (h : List AO) : Option (List Value) :=
  match x with
  | .slice (some a) _ _ => match aload h a (n * size) with
    | some cs => some cs
    | none => bif Nat.beq (n * size) 0 then some [] else none
  | .slice none _ _ => some []
  | .string b => some ((b.data.toList.take n).map fun c => Value.int .u8 c.toNat)
  | _ => none
theorem src_ok (H : MR s h w) {x x' : Value} (hx : VR s x x') {size n : Nat} {cs : List Value} (hr : srcCells x size n h = some cs) :
    ∃ cs', (Builtin.firstCells size n x').run P w = .ok ⟨cs'⟩ w ∧ LR s cs cs' := by
  unfold srcCells at hr
  split at hr
  · obtain ⟨p, c', hs, hp, _, rfl⟩ := hx.slice_inv
    split at hr
    · rename_i hr0
      cases hr
      obtain ⟨hlen, vs', hv, hc⟩ := aload_spec H hr0 hp
      have h2 := run_loadCells_list (P := P) w _ vs' hc
      rw [← hv.1, hlen] at h2
      exact ⟨vs', h2, hv⟩
    · cases hz : Nat.beq (n * size) 0 with
      | false => rw [hz] at hr; cases hr
      | true =>
        rw [hz] at hr
        cases hr
        have h0 : n * size = 0 := Nat.eq_of_beq_eq_true hz
        refine ⟨[], ?_, LR.nil s⟩
        have h2 := fun a => run_loadCells_list (P := P) w a [] (fun i v hi => by cases hi)
        rw [show ([] : List Value).length = n * size from h0.symm] at h2
        exact h2 _
  · cases hr
    rw [hx.eq_of_flat rfl]
    exact ⟨[], rfl, LR.nil s⟩
  · cases hr
    rename_i b
    rw [hx.string_inv]
    have e1 : ((b.extract 0 n).data.map fun c => Value.int .u8 c.toNat).toList = (b.data.toList.take n).map fun c => Value.int .u8 c.toNat := by
      rw [Array.toList_map, ByteArray.data_extract, Array.toList_extract]
      simp
    refine ⟨((b.extract 0 n).data.map fun c => Value.int .u8 c.toNat).toList, rfl, ?_⟩
    rw [e1]
    refine LR.ofFlat ?_
    exact List.all_eq_true.2 fun v hv => by
      obtain ⟨c, _, rfl⟩ := List.mem_map.1 hv
      rfl
  · cases hr
def lenA : Value → Option Nat
  | .slice _ n _ => some n
  | .string b => some b.size
  | _ => none
theorem len_of {x x' : Value} (hx : VR s x x') {n : Nat} (hr : lenA x = some n) : (Builtin.lenOf x').run P w = .ok n w := by
  cases x <;> simp only [lenA] at hr <;> try cases hr
  case slice.refl q c =>
    obtain ⟨q', c', rfl⟩ : ∃ q c', x' = .slice q n c' := by
      cases q with
      | none => exact ⟨none, _, hx.eq_of_flat rfl⟩
      | some a => obtain ⟨p, _, _, _, _, rfl⟩ := hx.slice_inv; exact ⟨_, _, rfl⟩
    rfl
  case string.refl b => rw [hx.string_inv]; rfl
def intD : TypeDesc → Bool
  | .int _ => true
  | _ => false
/-- The conditions on the element's type and on how many there are, for a row that is laid anew. -/
def roomB (i : TypeInfo) (need : Nat) : Bool :=
  decide (0 < i.size) && !(Nat.beq i.size GM) && decide ((2 * need + 200) * i.bytes ≤ 2 ^ 48) && decide ((need : Int) ≤ IntKind.i64.max) && (match i.zero with | some z => z.cells.size == i.size && z.cells.toList.length == i.size | none => false)
theorem roomB_w {i : TypeInfo} {need : Nat} (h : roomB i need = true) (cs : List Value) : isW ⟨true, some i.size, cs⟩ = true := by
  simp only [roomB, Bool.and_eq_true, decide_eq_true_eq] at h
  have h0 := h.1.1.1.1
  have h1 := h.1.1.1.2
  unfold isW
  simp only [Bool.and_eq_true]
  refine ⟨?_, h1⟩
  cases hi : i.size with
  | zero => rw [hi] at h0; cases h0
  | succ n => rfl
def oAppend (P : Program) (ts : Array TypeId) (sv xv : Value) (h : List AO) : Option Out :=
  match ts[0]?, ts[1]? with
  | some sT, some xT =>
    match P.underlying sT, P.underlying xT, lenA xv with
    | some (.slice e), some d, some n =>
      match P.info? e with
      | some i =>
        match srcCells xv i.size n h with
        | some new =>
          if intD d = false ∧ new.length = n * i.size ∧ new.all (·.oneCell') = true then
            match sv with
            | .slice none l c =>
              if l = 0 ∧ c = 0 then
                if n = 0 then some (.value (.slice none 0 0), h, none)
                else if roomB i n then some (.value (.slice (some ⟨h.length, 0, none⟩) n n), h ++ [⟨true, some i.size, new⟩], none)
                else none
              else none
            | .slice (some a) l c =>
              match esOf h a.block with
              | some none =>
                if l + n ≤ c then
                  if n = 0 then some (.value (.slice (some a) l c), h, none)
                  else
                    match astore h (a.add (l * i.size)) new with
                    | some h' => some (.value (.slice (some a) (l + n) c), h', some a.block)
                    | none => none
                else
                  match aload h a (l * i.size) with
                  | some old => if roomB i (l + n) then some (.value (.slice (some ⟨h.length, 0, none⟩) (l + n) (l + n)), h ++ [⟨true, some i.size, old ++ new⟩], none) else none
                  | none => none
              | some (some q) =>
                if q = i.size then
                  if n = 0 then some (.value (.slice (some a) l c), h, none)
                  else
                    match aload h a (l * i.size) with
                    | some old => if roomB i (l + n) then some (.value (.slice (some ⟨h.length, 0, none⟩) (l + n) (l + n)), h.set a.block dead ++ [⟨true, some i.size, old ++ new⟩], some a.block) else none
                    | none => none
                else none
              | none => none
            | _ => none
          else none
        | none => none
      | none => none
    | _, _, _ => none
  | _, _ => none
/-- The run of an append that lays a new row. -/
theorem run_append_new {ts : Array TypeId} {ty sT xT e : TypeId} {d : TypeDesc} {i : TypeInfo} (h0 : ts[0]? = some sT) (h1 : ts[1]? = some xT) (hu : P.underlying sT = some (.slice e)) (hd : P.underlying xT = some d) (hid : intD d = false)
    (hi : P.info? e = some i) {base : Option Addr} {l c n : Nat} {x' : Value} (hn : (Builtin.lenOf x').run P w = .ok n w) (hgt : ¬ l + n ≤ c) (hroom : roomB i (l + n) = true) {old new : List Value}
    (hold : (Builtin.firstCells i.size l (.slice base l c)).run P w.drew = .ok ⟨old⟩ w.drew) (hnew : (Builtin.firstCells i.size n x').run P w.drew = .ok ⟨new⟩ w.drew) (hol : old.length = l * i.size) (hnl : new.length = n * i.size) :
    ∃ (arr : Array Value) (c' : Nat), (Builtin.append_ ts ty #[.slice base l c, x']).run P w = .ok (.slice (some ⟨w.heap.size, 0, none⟩) (l + n) c') (w.drew.alloc (.cells arr e)) ∧
      arr.size = c' * i.size ∧ l + n ≤ c' ∧ ∀ (o : Nat) (v : Value), (old ++ new)[o]? = some v → arr[o]? = some v := by
  simp only [roomB, Bool.and_eq_true, decide_eq_true_eq] at hroom
  obtain ⟨⟨⟨⟨hs0, _⟩, hbytes⟩, hmax⟩, hz⟩ := hroom
  cases hzz : i.zero with
  | none => rw [hzz] at hz; cases hz
  | some z =>
    rw [hzz] at hz
    simp only [Bool.and_eq_true, beq_iff_eq] at hz
    have hcap : ¬ (Builtin.nextslicecap (l + n) c * i.bytes > 2 ^ 48) := by
      have h2 := nextcap_le (n := l + n) (c := c) (by omega)
      have h3 := Nat.mul_le_mul_right i.bytes h2
      omega
    let q := Question.appendCap (l + n) c e
    let c' := q.cut (w.tape w.drawn q)
    have hc' : l + n ≤ c' := by
      show l + n ≤ (l + n) + (w.tape w.drawn q) % (2 ^ 63 - (l + n))
      omega
    have hch : (choose q).run P w = .ok c' w.drew := by
      show (Sem.choose q .pure).run P w = _
      simp only [Sem.run]
      rw [if_neg (by simp [q, Question.forced])]
      rfl
    refine ⟨(⟨old⟩ : Array Value) ++ (⟨new⟩ : Array Value) ++ Builtin.zeroCells z.cells (c' - (l + n)), c', ?_, ?_, hc', fun o v hv => ?_⟩
    · have hch' : (choose (.appendCap (l + n) c e)).run P w = .ok c' w.drew := hch
      cases d <;> first
        | (simp only [intD] at hid; cases hid; done)
        | (simp only [Builtin.append_, h0, h1, List.getElem?_toArray, List.getElem?_cons_zero, List.getElem?_cons_succ, Sem.run_bind, run_under hu, Result.andThen_ok, run_size hi, run_under hd, Sem.run_pure, Bool.false_eq_true, if_false, hn]
           rw [if_neg hgt]
           simp only [Sem.run_bind, run_info hi, Result.andThen_ok]
           rw [if_neg (fun hh => by have := hh.1; omega)]
           simp only [Sem.run_bind, run_info hi, Result.andThen_ok]
           rw [if_neg hcap]
           simp only [Sem.run_bind, Sem.run_pure, Result.andThen_ok, hch', run_info hi, run_askRoom, hold, Bool.not_false, if_true, hnew, run_zero hi hzz]
           rfl)
    · have : (Builtin.zeroCells z.cells (c' - (l + n))).size = (c' - (l + n)) * z.cells.size := by simp [Builtin.zeroCells]
      simp only [Array.size_append, this, hz.1]
      show old.length + new.length + _ = _
      rw [hol, hnl, ← Nat.add_mul, ← Nat.add_mul]
      congr 1
      omega
    · have hlt : o < (old ++ new).length := (List.getElem?_eq_some_iff.1 hv).1
      rw [← Array.getElem?_toList, Array.toList_append, Array.toList_append]
      show ((old ++ new) ++ _)[o]? = _
      rw [List.getElem?_append_left hlt]
      exact hv
end
end Go.Proofs.Ytafegjmaldbbiaa.Ex
