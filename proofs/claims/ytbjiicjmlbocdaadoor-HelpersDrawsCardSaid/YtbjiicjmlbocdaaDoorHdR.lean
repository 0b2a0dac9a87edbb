/-
  The law HelpersDraws, reckoned.
-/
import Derived.Test.YtbjiicjmlbocdaaDoorHdQ
namespace Go.Proofs.YtbjiicjmlbocdaaDoor.Ex
open Go Go.RowKit
set_option maxHeartbeats 0
set_option maxRecDepth 1000000
set_option linter.unusedVariables false
set_option linter.unusedSectionVars false
/-- No draw at all: the copy in no round. -/
def hdN : Orc := fun f t x => if Nat.beq f 3 then (if Nat.beq t 54 then some (.bool false) else none) else none
noncomputable def hdLq (n c : Nat) (a : Int) (ps : List Value) (e : Int) (β : Nat → Value) (dv : Value) (Y : List AO) : LoopQ := ⟨3, 1, fun _ => true, hdE0 n c a, hdC n c ps (hdTk ps 0 n) (sl 33 0 n), .exit 0, hdT n c a e β, hdC n c ps (hdTk ps 0 n) dv ++ Y, (some 33, [])⟩
theorem hd_run (n c : Nat) (a : Int) (ps : List Value) (e : Int) (β : Nat → Value) (dv : Value) (Y : List AO) : reckonQI Tryd.prog hd3 (hdE false) (loopQHook [hdLq n c a ps e β dv Y]) 100000 300 (h09 ++ [⟨true, none, ps⟩]) 3 [.slice (some ⟨1, 0, none⟩) n c, .int .u8 a] = some (.bool true, inter ([(b2i (decide ((n : Int) > 100)), 0), (b2i (decide ((n : Int) > 100)), 0), (1, 1), (1, 1)] ++ (clP ps 0 n ++ eqP (hdLq n c a ps e β dv Y)))) := by kernel_rfl
theorem hd_long (n c : Nat) (a : Int) : reckonQI Tryd.prog hd3 (hdE true) noLoop 100000 300 (h09 ++ [dead]) 3 [.slice (some ⟨1, 0, none⟩) n c, .int .u8 a] = some (.bool true, inter [(b2i (decide ((n : Int) > 100)), 1), (b2i (decide ((n : Int) > 100)), 1)]) := by kernel_rfl
def eqs : List Int → Bool
  | a :: b :: l => a == b && eqs l
  | _ => true
theorem eqs_ok : ∀ {cs : Cs}, eqs (inter cs) = true → AE cs
  | [], _ => AE.nil
  | (a, b) :: l, h => by
    simp only [inter, eqs, Bool.and_eq_true, beq_iff_eq] at h
    exact AE.cons h.1 (eqs_ok h.2)
theorem closedQ {orc : Orc} {lh : LoopHook} {L f : Nat} {h0 : List AO} {g : FuncId} {args : List Value} {v : Value} (h : (reckonQI Tryd.prog hd3 orc lh L f h0 g args).map (fun r => (r.1, eqs r.2)) = some (v, true)) : ∃ cs, AE cs ∧ reckonQI Tryd.prog hd3 orc lh L f h0 g args = some (v, inter cs) := by
  unfold reckonQI reckonPI at h ⊢
  split at h
  · rename_i v' h' m hr
    split at h
    · rename_i hq
      simp only [Option.map_some, Option.some.injEq, Prod.mk.injEq] at h
      refine ⟨m.2, eqs_ok h.2, ?_⟩
      rw [if_pos hq, h.1]
    · cases h
  · cases h
theorem HR.withPl {h0 : List AO} {w : World} (hL : Laid h0 w) {pl : Pl} (hb : pl.blk < w.heap.size) (hgl : pl.es = some GM → False) : HR w (h0.length + 1) (upd (placeG h0 w) h0.length pl) (h0 ++ [dead]) w := by
  have H := HR.start hL
  have hne : ∀ i, i < h0.length → upd (placeG h0 w) h0.length pl i = placeG h0 w i := fun i hi => upd_other _ _ (by omega)
  have hle := Le.upd (s := placeG h0 w) (i := h0.length) pl (H.dom _ (Nat.le_refl _))
  have old : ∀ (i : Nat) (x : AO), (h0 ++ [dead])[i]? = some x → x.live = true → i < h0.length ∧ h0[i]? = some x := by
    intro i x hi hx
    by_cases ei : i < h0.length
    · rw [List.getElem?_append_left ei] at hi
      exact ⟨ei, hi⟩
    · have := (List.getElem?_eq_some_iff.1 hi).1
      simp at this
      obtain rfl : i = h0.length := by omega
      rw [List.getElem?_append_right (by omega)] at hi
      simp at hi
      subst hi
      cases hx
  refine ⟨Gr.refl w, by simp, fun i hi => ?_, fun i p hp => ?_, fun i o ho hl => ?_, fun i j x y p q hi hj hx hy hp hq e => ?_, fun g p hp hg => ?_⟩
  · rw [upd_other _ _ (by simp at hi; omega)]
    exact H.dom i (by simp at hi; omega)
  · by_cases ei : i = h0.length
    · subst ei
      rw [upd_same] at hp
      cases hp
      exact ⟨fun _ => hb, fun h => absurd h (by omega), hb⟩
    · rw [upd_other _ _ ei] at hp
      obtain ⟨c1, c2, c3⟩ := H.plc i p hp
      exact ⟨fun _ => c3, fun h => absurd (H.dom i (by omega)) (by rw [hp]; exact fun h => by cases h), c3⟩
  · obtain ⟨hil, ho⟩ := old i o ho hl
    obtain ⟨p, hp, he, hob⟩ := H.obj i o ho hl
    exact ⟨p, by rw [hne i hil]; exact hp, he, hob.mono hle⟩
  · obtain ⟨a1, a2⟩ := old i x hi hx
    obtain ⟨b1, b2⟩ := old j y hj hy
    rw [hne i a1] at hp
    rw [hne j b1] at hq
    exact H.sep i j x y p q a2 b2 hx hy hp hq e
  · by_cases ei : g = h0.length
    · subst ei
      rw [upd_same] at hp
      cases hp
      exact (hgl hg).elim
    · rw [upd_other _ _ ei] at hp
      exact H.gl g p hp hg
end Go.Proofs.YtbjiicjmlbocdaaDoor.Ex
