/-
  What the law TnumsDo calls: each answer has what comes of two numbers.
-/
import Derived.Test.YtchjneodjaakdaaLaw15b
namespace Go.Proofs.Ytchjneodjaakdaa
open Go.RowKit
attribute [local go_sem] u64_wrap BitVec.ofInt_add BitVec.ofInt_mul ofInt_sub' ofInt_N ofInt_Nw u64_and u64_or u64_xor u64_andNot

theorem Gw2.trans {a b c : World} (h1 : Gw2 a b) (h2 : Gw2 b c) : Gw2 a c := Grown.trans' h1 h2
theorem Gw2.drew {a b : World} (h : Gw2 a b) : Gw2 a b.drew := Grown.drew h
theorem Gw2.alloc {a b : World} (h : Gw2 a b) (cs : Array Value) (T : TypeId) : Gw2 a (b.alloc (.cells cs T)) := Grown.alloc h cs T
theorem held_call2 {W : World} {P : Program} {f : FuncId} {args : Array Value} {v : Value} (x : Held (Gw2 W))
    (h : Calls P f args x.w fun e w' => e = .returned v ∧ Grown x.w w') : Calls P f args x.w fun e w'' => e = .returned v ∧ ∃ y : Held (Gw2 W), w'' = y.w :=
  held_call (fun _ _ h hg => Gw2.trans h hg) x h
theorem gw2_cell {W : World} {B o : Nat} {v : Value} (hb : B < W.heap.size) (h : W.cell? ⟨B, o, none⟩ = some v) : ∀ x : World, Gw2 W x → x.cell? ⟨B, o, none⟩ = some v := fun _ g => grown_cellAt g hb h
theorem held_cell2 {W : World} {B o : Nat} {v : Value} (hb : B < W.heap.size) (h : W.cell? ⟨B, o, none⟩ = some v) : ∀ x : Held (Gw2 W), x.w.cell? ⟨B, o, none⟩ = some v := fun x => grown_cellAt x.h hb h
theorem valid_of {v m : W64} (h : okT v m) : (N (v &&& m) == 0) = true := by
  rw [h]; rfl
theorem ok_add (av am bv bm : W64) : okT (tAdd av am bv bm).1 (tAdd av am bv bm).2 := ok_of _ _
theorem ok_subT (av am bv bm : W64) : okT (tSub av am bv bm).1 (tSub av am bv bm).2 := ok_of _ _
theorem ok_and (av am bv bm : W64) : okT (tAnd av am bv bm).1 (tAnd av am bv bm).2 := ok_of _ _
theorem ok_or (av am bv bm : W64) : okT (tOr av am bv bm).1 (tOr av am bv bm).2 := ok_of _ _
theorem ok_xor (av am bv bm : W64) : okT (tXor av am bv bm).1 (tXor av am bv bm).2 := ok_of _ _
theorem ok_mul (av am bv bm : W64) : okT (tMul av am bv bm).1 (tMul av am bv bm).2 := ok_of _ _

/-- The answers, and what should be in them. -/
def doesL (av am bv bm x y : W64) (L : Nat) : List (Nat × Nat × Value) := [(L, 0, .int .u64 (N (tAdd av am bv bm).1)), (L, 1, .int .u64 (N (tAdd av am bv bm).2)), (L, 2, .int .u64 (N (tSub av am bv bm).1)), (L, 3, .int .u64 (N (tSub av am bv bm).2)), (L, 4, .int .u64 (N (tAnd av am bv bm).1)), (L, 5, .int .u64 (N (tAnd av am bv bm).2)), (L, 6, .int .u64 (N (tOr av am bv bm).1)), (L, 7, .int .u64 (N (tOr av am bv bm).2)), (L, 8, .int .u64 (N (tXor av am bv bm).1)), (L, 9, .int .u64 (N (tXor av am bv bm).2)), (L, 10, .int .u64 (N (tMul av am bv bm).1)), (L, 11, .int .u64 (N (tMul av am bv bm).2)), (L + 1, 0, .int .u64 (N (x + y))), (L + 1, 1, .int .u64 (N (x - y))), (L + 1, 2, .int .u64 (N (x &&& y))), (L + 1, 3, .int .u64 (N (x ||| y))), (L + 1, 4, .int .u64 (N (x ^^^ y))), (L + 1, 5, .int .u64 (N (x * y)))]

set_option maxRecDepth 100000 in
set_option maxHeartbeats 4000000 in
theorem does_any (av am bv bm x y : W64) (ha : okT av am) (hb : okT bv bm) (hx : hasT av am x) (hy : hasT bv bm y) (w : World) :
    Calls Try.prog 12 #[.agg #[.int .u64 (N av), .int .u64 (N am)], .agg #[.int .u64 (N bv), .int .u64 (N bm)], .int .u64 (N x), .int .u64 (N y)] w fun e w' => e = .returned (.bool true) ∧ Grown w w' := by
  have v0 := valid_of (ok_add av am bv bm)
  have v1 := valid_of (ok_subT av am bv bm)
  have v2 := valid_of (ok_and av am bv bm)
  have v3 := valid_of (ok_or av am bv bm)
  have v4 := valid_of (ok_xor av am bv bm)
  have v5 := valid_of (ok_mul av am bv bm)
  have h0 := (hasB_iff _ _ _).2 (has_add ha hb hx hy)
  have h1 := (hasB_iff _ _ _).2 (has_sub ha hb hx hy)
  have h2 := (hasB_iff _ _ _).2 (has_and hx hy)
  have h3 := (hasB_iff _ _ _).2 (has_or hx hy)
  have h4 := (hasB_iff _ _ _).2 (has_xor hx hy)
  have h5 := (hasB_iff _ _ _).2 (has_mul ha hb hx hy)
  clear ha hb hx hy
  go_enter Try.func12, Try.ntmps12
  go_wp2_with fail
  have hgr : Gw2 w ((w.alloc (.cells #[.int .u64 (N av), .int .u64 (N am)] 25)).alloc (.cells #[.int .u64 (N bv), .int .u64 (N bm)] 25)) := by show Grown _ _; go_grown
  have p0 := gw2_cell (W := (w.alloc (.cells #[.int .u64 (N av), .int .u64 (N am)] 25)).alloc (.cells #[.int .u64 (N bv), .int .u64 (N bm)] 25)) (B := w.heap.size) (o := 0) (v := .int .u64 (N av)) (by simp; omega) (by simp [go_sem])
  have p1 := gw2_cell (W := (w.alloc (.cells #[.int .u64 (N av), .int .u64 (N am)] 25)).alloc (.cells #[.int .u64 (N bv), .int .u64 (N bm)] 25)) (B := w.heap.size) (o := 1) (v := .int .u64 (N am)) (by simp; omega) (by simp [go_sem])
  have p2 := gw2_cell (W := (w.alloc (.cells #[.int .u64 (N av), .int .u64 (N am)] 25)).alloc (.cells #[.int .u64 (N bv), .int .u64 (N bm)] 25)) (B := w.heap.size + 1) (o := 0) (v := .int .u64 (N bv)) (by simp) (by simp [go_sem])
  have p3 := gw2_cell (W := (w.alloc (.cells #[.int .u64 (N av), .int .u64 (N am)] 25)).alloc (.cells #[.int .u64 (N bv), .int .u64 (N bm)] 25)) (B := w.heap.size + 1) (o := 1) (v := .int .u64 (N bm)) (by simp) (by simp [go_sem])
  generalize (w.alloc (.cells #[.int .u64 (N av), .int .u64 (N am)] 25)).alloc (.cells #[.int .u64 (N bv), .int .u64 (N bm)] 25) = W1 at *
  generalize w.heap.size = B at *
  have hW : Gw2 W1 W1.drew := Gw2.drew (Grown.refl _)
  go_region_held3 (fun w' => Gw2 W1 w') (first | exact hW | assumption | exact Gw2.trans (by assumption) (by assumption) | exact Gw2.alloc (by assumption) _ _) (first
    | (go_at_call 14; refine (tn_add _ _ _ _ _).mono ?_; rintro e w' ⟨rfl, hg⟩; have hG : Gw2 _ _ := hg; clear hg)
    | (go_at_call 15; refine (tn_sub _ _ _ _ _).mono ?_; rintro e w' ⟨rfl, hg⟩; have hG : Gw2 _ _ := hg; clear hg)
    | (go_at_call 17; refine (tn_and _ _ _ _ _).mono ?_; rintro e w' ⟨rfl, hg⟩; have hG : Gw2 _ _ := hg; clear hg)
    | (go_at_call 18; refine (tn_or _ _ _ _ _).mono ?_; rintro e w' ⟨rfl, hg⟩; have hG : Gw2 _ _ := hg; clear hg)
    | (go_at_call 19; refine (tn_xor _ _ _ _ _).mono ?_; rintro e w' ⟨rfl, hg⟩; have hG : Gw2 _ _ := hg; clear hg)
    | (go_at_call 16; refine (tn_mul _ _ _ _ _).mono ?_; rintro e w' ⟨rfl, hg⟩; have hG : Gw2 _ _ := hg; clear hg))
  have hA : Gw2 w _ := Gw2.trans hgr (by assumption)
  clear p0 p1 p2 p3 hW hgr
  go_wp2_with fail
  go_loopw [11] (fun i wr => ∃ k : Nat, k ≤ 6 ∧ i = .int .i64 (k : Int) ∧ Keeps w (doesL av am bv bm x y w'.heap.size) wr) (fun i _ => (6 - intOf i).toNat)
  case atStart =>
    refine ⟨0, by omega, rfl, ⟨?_, Grown.alloc hA _ _⟩⟩
    unfold doesL
    refine ⟨⟨by simp [go_sem], by first | (simp; done) | (simp; omega)⟩, ⟨by simp [go_sem], by first | (simp; done) | (simp; omega)⟩, ⟨by simp [go_sem], by first | (simp; done) | (simp; omega)⟩, ⟨by simp [go_sem], by first | (simp; done) | (simp; omega)⟩, ⟨by simp [go_sem], by first | (simp; done) | (simp; omega)⟩, ⟨by simp [go_sem], by first | (simp; done) | (simp; omega)⟩, ⟨by simp [go_sem], by first | (simp; done) | (simp; omega)⟩, ⟨by simp [go_sem], by first | (simp; done) | (simp; omega)⟩, ⟨by simp [go_sem], by first | (simp; done) | (simp; omega)⟩, ⟨by simp [go_sem], by first | (simp; done) | (simp; omega)⟩, ⟨by simp [go_sem], by first | (simp; done) | (simp; omega)⟩, ⟨by simp [go_sem], by first | (simp; done) | (simp; omega)⟩, ⟨by simp [go_sem], by first | (simp; done) | (simp; omega)⟩, ⟨by simp [go_sem], by first | (simp; done) | (simp; omega)⟩, ⟨by simp [go_sem], by first | (simp; done) | (simp; omega)⟩, ⟨by simp [go_sem], by first | (simp; done) | (simp; omega)⟩, ⟨by simp [go_sem], by first | (simp; done) | (simp; omega)⟩, ⟨by simp [go_sem], by first | (simp; done) | (simp; omega)⟩, trivial⟩
  case round =>
    obtain ⟨k, hk, rfl, K⟩ := hrel
    clear hA
    rcases (by omega : k = 0 ∨ k = 1 ∨ k = 2 ∨ k = 3 ∨ k = 4 ∨ k = 5 ∨ k = 6) with rfl | rfl | rfl | rfl | rfl | rfl | rfl
    · have q0 : ∀ z : Held (Keeps w (doesL av am bv bm x y w'.heap.size)), z.w.cell? ⟨w'.heap.size, 0, none⟩ = some _ := fun z => z.h.1.get 0 _ rfl
      have q1 : ∀ z : Held (Keeps w (doesL av am bv bm x y w'.heap.size)), z.w.cell? ⟨w'.heap.size, 1, none⟩ = some _ := fun z => z.h.1.get 1 _ rfl
      have q2 : ∀ z : Held (Keeps w (doesL av am bv bm x y w'.heap.size)), z.w.cell? ⟨w'.heap.size + 1, 0, none⟩ = some _ := fun z => z.h.1.get 12 _ rfl
      go_wp2_with fail
      refine wp_region_lex (Keeps w (doesL av am bv bm x y w'.heap.size)) (by kernel_rfl) (by kernel_rfl) K.drew (fun hNon => ?_)
      repeat (go_big_quiet_step ((first | (go_at_call 25; exact held_callK _ (tn_valid _ _ _)) | (go_at_call 26; exact held_callK _ (lawHas_any _ _ _ _)))))
      refine wpQuiet_nil ?_
      intro w5 hG
      clear hNon q0 q1 q2 K
      go_wp2_with fail
      go_roundw
      case rel => exact ⟨1, by omega, rfl, hG⟩
      case measure => simp [intOf]
    · have q0 : ∀ z : Held (Keeps w (doesL av am bv bm x y w'.heap.size)), z.w.cell? ⟨w'.heap.size, 2, none⟩ = some _ := fun z => z.h.1.get 2 _ rfl
      have q1 : ∀ z : Held (Keeps w (doesL av am bv bm x y w'.heap.size)), z.w.cell? ⟨w'.heap.size, 3, none⟩ = some _ := fun z => z.h.1.get 3 _ rfl
      have q2 : ∀ z : Held (Keeps w (doesL av am bv bm x y w'.heap.size)), z.w.cell? ⟨w'.heap.size + 1, 1, none⟩ = some _ := fun z => z.h.1.get 13 _ rfl
      go_wp2_with fail
      refine wp_region_lex (Keeps w (doesL av am bv bm x y w'.heap.size)) (by kernel_rfl) (by kernel_rfl) K.drew (fun hNon => ?_)
      repeat (go_big_quiet_step ((first | (go_at_call 25; exact held_callK _ (tn_valid _ _ _)) | (go_at_call 26; exact held_callK _ (lawHas_any _ _ _ _)))))
      refine wpQuiet_nil ?_
      intro w5 hG
      clear hNon q0 q1 q2 K
      go_wp2_with fail
      go_roundw
      case rel => exact ⟨2, by omega, rfl, hG⟩
      case measure => simp [intOf]
    · have q0 : ∀ z : Held (Keeps w (doesL av am bv bm x y w'.heap.size)), z.w.cell? ⟨w'.heap.size, 4, none⟩ = some _ := fun z => z.h.1.get 4 _ rfl
      have q1 : ∀ z : Held (Keeps w (doesL av am bv bm x y w'.heap.size)), z.w.cell? ⟨w'.heap.size, 5, none⟩ = some _ := fun z => z.h.1.get 5 _ rfl
      have q2 : ∀ z : Held (Keeps w (doesL av am bv bm x y w'.heap.size)), z.w.cell? ⟨w'.heap.size + 1, 2, none⟩ = some _ := fun z => z.h.1.get 14 _ rfl
      go_wp2_with fail
      refine wp_region_lex (Keeps w (doesL av am bv bm x y w'.heap.size)) (by kernel_rfl) (by kernel_rfl) K.drew (fun hNon => ?_)
      repeat (go_big_quiet_step ((first | (go_at_call 25; exact held_callK _ (tn_valid _ _ _)) | (go_at_call 26; exact held_callK _ (lawHas_any _ _ _ _)))))
      refine wpQuiet_nil ?_
      intro w5 hG
      clear hNon q0 q1 q2 K
      go_wp2_with fail
      go_roundw
      case rel => exact ⟨3, by omega, rfl, hG⟩
      case measure => simp [intOf]
    · have q0 : ∀ z : Held (Keeps w (doesL av am bv bm x y w'.heap.size)), z.w.cell? ⟨w'.heap.size, 6, none⟩ = some _ := fun z => z.h.1.get 6 _ rfl
      have q1 : ∀ z : Held (Keeps w (doesL av am bv bm x y w'.heap.size)), z.w.cell? ⟨w'.heap.size, 7, none⟩ = some _ := fun z => z.h.1.get 7 _ rfl
      have q2 : ∀ z : Held (Keeps w (doesL av am bv bm x y w'.heap.size)), z.w.cell? ⟨w'.heap.size + 1, 3, none⟩ = some _ := fun z => z.h.1.get 15 _ rfl
      go_wp2_with fail
      refine wp_region_lex (Keeps w (doesL av am bv bm x y w'.heap.size)) (by kernel_rfl) (by kernel_rfl) K.drew (fun hNon => ?_)
      repeat (go_big_quiet_step ((first | (go_at_call 25; exact held_callK _ (tn_valid _ _ _)) | (go_at_call 26; exact held_callK _ (lawHas_any _ _ _ _)))))
      refine wpQuiet_nil ?_
      intro w5 hG
      clear hNon q0 q1 q2 K
      go_wp2_with fail
      go_roundw
      case rel => exact ⟨4, by omega, rfl, hG⟩
      case measure => simp [intOf]
    · have q0 : ∀ z : Held (Keeps w (doesL av am bv bm x y w'.heap.size)), z.w.cell? ⟨w'.heap.size, 8, none⟩ = some _ := fun z => z.h.1.get 8 _ rfl
      have q1 : ∀ z : Held (Keeps w (doesL av am bv bm x y w'.heap.size)), z.w.cell? ⟨w'.heap.size, 9, none⟩ = some _ := fun z => z.h.1.get 9 _ rfl
      have q2 : ∀ z : Held (Keeps w (doesL av am bv bm x y w'.heap.size)), z.w.cell? ⟨w'.heap.size + 1, 4, none⟩ = some _ := fun z => z.h.1.get 16 _ rfl
      go_wp2_with fail
      refine wp_region_lex (Keeps w (doesL av am bv bm x y w'.heap.size)) (by kernel_rfl) (by kernel_rfl) K.drew (fun hNon => ?_)
      repeat (go_big_quiet_step ((first | (go_at_call 25; exact held_callK _ (tn_valid _ _ _)) | (go_at_call 26; exact held_callK _ (lawHas_any _ _ _ _)))))
      refine wpQuiet_nil ?_
      intro w5 hG
      clear hNon q0 q1 q2 K
      go_wp2_with fail
      go_roundw
      case rel => exact ⟨5, by omega, rfl, hG⟩
      case measure => simp [intOf]
    · have q0 : ∀ z : Held (Keeps w (doesL av am bv bm x y w'.heap.size)), z.w.cell? ⟨w'.heap.size, 10, none⟩ = some _ := fun z => z.h.1.get 10 _ rfl
      have q1 : ∀ z : Held (Keeps w (doesL av am bv bm x y w'.heap.size)), z.w.cell? ⟨w'.heap.size, 11, none⟩ = some _ := fun z => z.h.1.get 11 _ rfl
      have q2 : ∀ z : Held (Keeps w (doesL av am bv bm x y w'.heap.size)), z.w.cell? ⟨w'.heap.size + 1, 5, none⟩ = some _ := fun z => z.h.1.get 17 _ rfl
      go_wp2_with fail
      refine wp_region_lex (Keeps w (doesL av am bv bm x y w'.heap.size)) (by kernel_rfl) (by kernel_rfl) K.drew (fun hNon => ?_)
      repeat (go_big_quiet_step ((first | (go_at_call 25; exact held_callK _ (tn_valid _ _ _)) | (go_at_call 26; exact held_callK _ (lawHas_any _ _ _ _)))))
      refine wpQuiet_nil ?_
      intro w5 hG
      clear hNon q0 q1 q2 K
      go_wp2_with fail
      go_roundw
      case rel => exact ⟨6, by omega, rfl, hG⟩
      case measure => simp [intOf]
    · go_wp2_with fail
      go_ret
      exact ⟨rfl, K.2⟩
end Go.Proofs.Ytchjneodjaakdaa
