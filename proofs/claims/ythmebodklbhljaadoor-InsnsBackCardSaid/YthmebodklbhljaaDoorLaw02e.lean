/-
  The walk of the law InsnsBytes.
-/
import Derived.Test.YthmebodklbhljaaDoorLaw02a
import Derived.Test.YthmebodklbhljaaDoorDecRef
import Derived.Test.YthmebodklbhljaaDoorEncRef
namespace Go.Proofs.YthmebodklbhljaaDoor
open Go.RowKit
attribute [local go_sem] u8_wrap u8_and ofInt_N ofInt_Nw BitVec.ofInt_natCast BitVec.ofInt_add

theorem keeps_n5 {w wr : World} {l : List (Nat × Nat × Value)} (v0 v1 v2 v3 v4 : Value) {T : TypeId} (K : Keeps w l wr) :
    Keeps w ((wr.heap.size, 0, v0) :: (wr.heap.size, 1, v1) :: (wr.heap.size, 2, v2) :: (wr.heap.size, 3, v3) :: (wr.heap.size, 4, v4) :: l) (wr.alloc (.cells #[v0, v1, v2, v3, v4] T)) :=
  ⟨⟨⟨by simp [go_sem], by simp⟩, ⟨by simp [go_sem], by simp⟩, ⟨by simp [go_sem], by simp⟩, ⟨by simp [go_sem], by simp⟩, ⟨by simp [go_sem], by simp⟩, K.1.alloc _ _⟩, Grown.trans' K.2 (Grown.alloc (Grown.refl wr) _ _)⟩

theorem both_decode (t : ByteArray) (hm : t.size ≤ maxLen) : ∃ v0 v1 v2 v3 v4 c : Int,
    (∀ w, Calls Tryd.prog 21 #[.string t] w fun e w' => e = .returned (.tuple #[.agg #[.int .u8 v0, .int .u8 v1, .int .u8 v2, .int .i16 v3, .int .i32 v4], .int .i64 c]) ∧ Grown w w') ∧
    (∀ w, Calls Tryd.prog 22 #[.string t] w fun e w' => e = .returned (.tuple #[.agg #[.int .u8 v0, .int .u8 v1, .int .u8 v2, .int .i16 v3, .int .i32 v4], .int .i64 c]) ∧ Grown w w') := by
  by_cases h : t.size = 8
  · exact ⟨_, _, _, _, _, 0, fun w => decode_8 t h w, fun w => refdecode_8 t h w⟩
  · exact ⟨0, 0, 0, 0, 0, 10, fun w => decode_no t h hm w, fun w => refdecode_no t h hm w⟩

set_option maxRecDepth 100000 in
set_option maxHeartbeats 4000000 in
theorem insnsBytes_walk (op d s : B8) (o : BitVec 16) (m : BitVec 32) (t : ByteArray) (hm : t.size ≤ maxLen) (w : World) (hT : TabAt w) :
    Calls Tryd.prog 4 #[.agg #[.int .u8 (N op), .int .u8 (N d), .int .u8 (N s), .int .i16 (Z o), .int .i32 (Z m)], .string t] w fun e w' => e = .returned (.bool true) ∧ Grown w w' := by
  have HT := Lib.hid hT
  clear hT
  obtain ⟨v0, v1, v2, v3, v4, c, hd, hr⟩ := both_decode t hm
  have HD := Lib.hid hd
  have HR := Lib.hid hr
  clear hd hr
  by_cases hb : t.size ≤ 100
  rotate_left
  · have hb1 : decide ((100 : Int) < (t.size : Int)) = true := decide_eq_true (by omega)
    have HM := Lib.hid hm
    have HT1 : Hid (TabAt (w.alloc (.cells #[.int .u8 (N op), .int .u8 (N d), .int .u8 (N s), .int .i16 (Z o), .int .i32 (Z m)] 24))) := Lib.hid (HT.out.grown (by go_grown))
    clear hm hb
    go_enter Tryd.func4, Tryd.ntmps4
    go_wp2_with (go_at_call 20; refine (checks_any _ HT1.out).mono ?_; rintro e w6 ⟨rfl, hg⟩)
    go_ret
    exact ⟨rfl, Grown.trans' (by go_grown) hg⟩
  have hb1 : decide ((100 : Int) < (t.size : Int)) = false := decide_eq_false (by omega)
  have HM := Lib.hid hm
  clear hm hb
  go_enter Tryd.func4, Tryd.ntmps4
  go_upto_region 4 with (go_at_call 21; refine (HD.out _).mono ?_; rintro e w1 ⟨rfl, g1⟩)
  have K : Keeps w [(w.heap.size, 0, .int .u8 (N op)), (w.heap.size, 1, .int .u8 (N d)), (w.heap.size, 2, .int .u8 (N s)), (w.heap.size, 3, .int .i16 (Z o)), (w.heap.size, 4, .int .i32 (Z m))] (w.alloc (.cells #[.int .u8 (N op), .int .u8 (N d), .int .u8 (N s), .int .i16 (Z o), .int .i32 (Z m)] 24)) := ⟨⟨⟨by simp [go_sem], by simp⟩, ⟨by simp [go_sem], by simp⟩, ⟨by simp [go_sem], by simp⟩, ⟨by simp [go_sem], by simp⟩, ⟨by simp [go_sem], by simp⟩, trivial⟩, by go_grown⟩
  replace K := keeps_n5 (T := 24) (.int .u8 v0) (.int .u8 v1) (.int .u8 v2) (.int .i16 v3) (.int .i32 v4) (K.grown g1)
  generalize w1.alloc (.cells #[.int .u8 v0, .int .u8 v1, .int .u8 v2, .int .i16 v3, .int .i32 v4] 24) = W2 at *
  generalize w1.heap.size = B1 at *
  clear g1
  go_upto_region 5 with (go_at_call 22; refine (HR.out _).mono ?_; rintro e w2 ⟨rfl, g2⟩)
  replace K := keeps_n5 (T := 24) (.int .u8 v0) (.int .u8 v1) (.int .u8 v2) (.int .i16 v3) (.int .i32 v4) (K.grown g2)
  generalize w2.alloc (.cells #[.int .u8 v0, .int .u8 v1, .int .u8 v2, .int .i16 v3, .int .i32 v4] 24) = W3 at *
  generalize w2.heap.size = B2 at *
  generalize w.heap.size = A at *
  clear g2
  have q00 : ∀ z : Held (Keeps w [(B2, 0, .int .u8 v0), (B2, 1, .int .u8 v1), (B2, 2, .int .u8 v2), (B2, 3, .int .i16 v3), (B2, 4, .int .i32 v4), (B1, 0, .int .u8 v0), (B1, 1, .int .u8 v1), (B1, 2, .int .u8 v2), (B1, 3, .int .i16 v3), (B1, 4, .int .i32 v4), (A, 0, .int .u8 (N op)), (A, 1, .int .u8 (N d)), (A, 2, .int .u8 (N s)), (A, 3, .int .i16 (Z o)), (A, 4, .int .i32 (Z m))]), z.w.cell? ⟨B2, 0, none⟩ = some _ := fun z => z.h.1.get 0 _ rfl
  have q01 : ∀ z : Held (Keeps w [(B2, 0, .int .u8 v0), (B2, 1, .int .u8 v1), (B2, 2, .int .u8 v2), (B2, 3, .int .i16 v3), (B2, 4, .int .i32 v4), (B1, 0, .int .u8 v0), (B1, 1, .int .u8 v1), (B1, 2, .int .u8 v2), (B1, 3, .int .i16 v3), (B1, 4, .int .i32 v4), (A, 0, .int .u8 (N op)), (A, 1, .int .u8 (N d)), (A, 2, .int .u8 (N s)), (A, 3, .int .i16 (Z o)), (A, 4, .int .i32 (Z m))]), z.w.cell? ⟨B2, 1, none⟩ = some _ := fun z => z.h.1.get 1 _ rfl
  have q02 : ∀ z : Held (Keeps w [(B2, 0, .int .u8 v0), (B2, 1, .int .u8 v1), (B2, 2, .int .u8 v2), (B2, 3, .int .i16 v3), (B2, 4, .int .i32 v4), (B1, 0, .int .u8 v0), (B1, 1, .int .u8 v1), (B1, 2, .int .u8 v2), (B1, 3, .int .i16 v3), (B1, 4, .int .i32 v4), (A, 0, .int .u8 (N op)), (A, 1, .int .u8 (N d)), (A, 2, .int .u8 (N s)), (A, 3, .int .i16 (Z o)), (A, 4, .int .i32 (Z m))]), z.w.cell? ⟨B2, 2, none⟩ = some _ := fun z => z.h.1.get 2 _ rfl
  have q03 : ∀ z : Held (Keeps w [(B2, 0, .int .u8 v0), (B2, 1, .int .u8 v1), (B2, 2, .int .u8 v2), (B2, 3, .int .i16 v3), (B2, 4, .int .i32 v4), (B1, 0, .int .u8 v0), (B1, 1, .int .u8 v1), (B1, 2, .int .u8 v2), (B1, 3, .int .i16 v3), (B1, 4, .int .i32 v4), (A, 0, .int .u8 (N op)), (A, 1, .int .u8 (N d)), (A, 2, .int .u8 (N s)), (A, 3, .int .i16 (Z o)), (A, 4, .int .i32 (Z m))]), z.w.cell? ⟨B2, 3, none⟩ = some _ := fun z => z.h.1.get 3 _ rfl
  have q04 : ∀ z : Held (Keeps w [(B2, 0, .int .u8 v0), (B2, 1, .int .u8 v1), (B2, 2, .int .u8 v2), (B2, 3, .int .i16 v3), (B2, 4, .int .i32 v4), (B1, 0, .int .u8 v0), (B1, 1, .int .u8 v1), (B1, 2, .int .u8 v2), (B1, 3, .int .i16 v3), (B1, 4, .int .i32 v4), (A, 0, .int .u8 (N op)), (A, 1, .int .u8 (N d)), (A, 2, .int .u8 (N s)), (A, 3, .int .i16 (Z o)), (A, 4, .int .i32 (Z m))]), z.w.cell? ⟨B2, 4, none⟩ = some _ := fun z => z.h.1.get 4 _ rfl
  have q10 : ∀ z : Held (Keeps w [(B2, 0, .int .u8 v0), (B2, 1, .int .u8 v1), (B2, 2, .int .u8 v2), (B2, 3, .int .i16 v3), (B2, 4, .int .i32 v4), (B1, 0, .int .u8 v0), (B1, 1, .int .u8 v1), (B1, 2, .int .u8 v2), (B1, 3, .int .i16 v3), (B1, 4, .int .i32 v4), (A, 0, .int .u8 (N op)), (A, 1, .int .u8 (N d)), (A, 2, .int .u8 (N s)), (A, 3, .int .i16 (Z o)), (A, 4, .int .i32 (Z m))]), z.w.cell? ⟨B1, 0, none⟩ = some _ := fun z => z.h.1.get 5 _ rfl
  have q11 : ∀ z : Held (Keeps w [(B2, 0, .int .u8 v0), (B2, 1, .int .u8 v1), (B2, 2, .int .u8 v2), (B2, 3, .int .i16 v3), (B2, 4, .int .i32 v4), (B1, 0, .int .u8 v0), (B1, 1, .int .u8 v1), (B1, 2, .int .u8 v2), (B1, 3, .int .i16 v3), (B1, 4, .int .i32 v4), (A, 0, .int .u8 (N op)), (A, 1, .int .u8 (N d)), (A, 2, .int .u8 (N s)), (A, 3, .int .i16 (Z o)), (A, 4, .int .i32 (Z m))]), z.w.cell? ⟨B1, 1, none⟩ = some _ := fun z => z.h.1.get 6 _ rfl
  have q12 : ∀ z : Held (Keeps w [(B2, 0, .int .u8 v0), (B2, 1, .int .u8 v1), (B2, 2, .int .u8 v2), (B2, 3, .int .i16 v3), (B2, 4, .int .i32 v4), (B1, 0, .int .u8 v0), (B1, 1, .int .u8 v1), (B1, 2, .int .u8 v2), (B1, 3, .int .i16 v3), (B1, 4, .int .i32 v4), (A, 0, .int .u8 (N op)), (A, 1, .int .u8 (N d)), (A, 2, .int .u8 (N s)), (A, 3, .int .i16 (Z o)), (A, 4, .int .i32 (Z m))]), z.w.cell? ⟨B1, 2, none⟩ = some _ := fun z => z.h.1.get 7 _ rfl
  have q13 : ∀ z : Held (Keeps w [(B2, 0, .int .u8 v0), (B2, 1, .int .u8 v1), (B2, 2, .int .u8 v2), (B2, 3, .int .i16 v3), (B2, 4, .int .i32 v4), (B1, 0, .int .u8 v0), (B1, 1, .int .u8 v1), (B1, 2, .int .u8 v2), (B1, 3, .int .i16 v3), (B1, 4, .int .i32 v4), (A, 0, .int .u8 (N op)), (A, 1, .int .u8 (N d)), (A, 2, .int .u8 (N s)), (A, 3, .int .i16 (Z o)), (A, 4, .int .i32 (Z m))]), z.w.cell? ⟨B1, 3, none⟩ = some _ := fun z => z.h.1.get 8 _ rfl
  have q14 : ∀ z : Held (Keeps w [(B2, 0, .int .u8 v0), (B2, 1, .int .u8 v1), (B2, 2, .int .u8 v2), (B2, 3, .int .i16 v3), (B2, 4, .int .i32 v4), (B1, 0, .int .u8 v0), (B1, 1, .int .u8 v1), (B1, 2, .int .u8 v2), (B1, 3, .int .i16 v3), (B1, 4, .int .i32 v4), (A, 0, .int .u8 (N op)), (A, 1, .int .u8 (N d)), (A, 2, .int .u8 (N s)), (A, 3, .int .i16 (Z o)), (A, 4, .int .i32 (Z m))]), z.w.cell? ⟨B1, 4, none⟩ = some _ := fun z => z.h.1.get 9 _ rfl
  have q20 : ∀ z : Held (Keeps w [(B2, 0, .int .u8 v0), (B2, 1, .int .u8 v1), (B2, 2, .int .u8 v2), (B2, 3, .int .i16 v3), (B2, 4, .int .i32 v4), (B1, 0, .int .u8 v0), (B1, 1, .int .u8 v1), (B1, 2, .int .u8 v2), (B1, 3, .int .i16 v3), (B1, 4, .int .i32 v4), (A, 0, .int .u8 (N op)), (A, 1, .int .u8 (N d)), (A, 2, .int .u8 (N s)), (A, 3, .int .i16 (Z o)), (A, 4, .int .i32 (Z m))]), z.w.cell? ⟨A, 0, none⟩ = some _ := fun z => z.h.1.get 10 _ rfl
  have q21 : ∀ z : Held (Keeps w [(B2, 0, .int .u8 v0), (B2, 1, .int .u8 v1), (B2, 2, .int .u8 v2), (B2, 3, .int .i16 v3), (B2, 4, .int .i32 v4), (B1, 0, .int .u8 v0), (B1, 1, .int .u8 v1), (B1, 2, .int .u8 v2), (B1, 3, .int .i16 v3), (B1, 4, .int .i32 v4), (A, 0, .int .u8 (N op)), (A, 1, .int .u8 (N d)), (A, 2, .int .u8 (N s)), (A, 3, .int .i16 (Z o)), (A, 4, .int .i32 (Z m))]), z.w.cell? ⟨A, 1, none⟩ = some _ := fun z => z.h.1.get 11 _ rfl
  have q22 : ∀ z : Held (Keeps w [(B2, 0, .int .u8 v0), (B2, 1, .int .u8 v1), (B2, 2, .int .u8 v2), (B2, 3, .int .i16 v3), (B2, 4, .int .i32 v4), (B1, 0, .int .u8 v0), (B1, 1, .int .u8 v1), (B1, 2, .int .u8 v2), (B1, 3, .int .i16 v3), (B1, 4, .int .i32 v4), (A, 0, .int .u8 (N op)), (A, 1, .int .u8 (N d)), (A, 2, .int .u8 (N s)), (A, 3, .int .i16 (Z o)), (A, 4, .int .i32 (Z m))]), z.w.cell? ⟨A, 2, none⟩ = some _ := fun z => z.h.1.get 12 _ rfl
  have q23 : ∀ z : Held (Keeps w [(B2, 0, .int .u8 v0), (B2, 1, .int .u8 v1), (B2, 2, .int .u8 v2), (B2, 3, .int .i16 v3), (B2, 4, .int .i32 v4), (B1, 0, .int .u8 v0), (B1, 1, .int .u8 v1), (B1, 2, .int .u8 v2), (B1, 3, .int .i16 v3), (B1, 4, .int .i32 v4), (A, 0, .int .u8 (N op)), (A, 1, .int .u8 (N d)), (A, 2, .int .u8 (N s)), (A, 3, .int .i16 (Z o)), (A, 4, .int .i32 (Z m))]), z.w.cell? ⟨A, 3, none⟩ = some _ := fun z => z.h.1.get 13 _ rfl
  have q24 : ∀ z : Held (Keeps w [(B2, 0, .int .u8 v0), (B2, 1, .int .u8 v1), (B2, 2, .int .u8 v2), (B2, 3, .int .i16 v3), (B2, 4, .int .i32 v4), (B1, 0, .int .u8 v0), (B1, 1, .int .u8 v1), (B1, 2, .int .u8 v2), (B1, 3, .int .i16 v3), (B1, 4, .int .i32 v4), (A, 0, .int .u8 (N op)), (A, 1, .int .u8 (N d)), (A, 2, .int .u8 (N s)), (A, 3, .int .i16 (Z o)), (A, 4, .int .i32 (Z m))]), z.w.cell? ⟨A, 4, none⟩ = some _ := fun z => z.h.1.get 14 _ rfl
  refine wp_region_lex (Keeps w [(B2, 0, .int .u8 v0), (B2, 1, .int .u8 v1), (B2, 2, .int .u8 v2), (B2, 3, .int .i16 v3), (B2, 4, .int .i32 v4), (B1, 0, .int .u8 v0), (B1, 1, .int .u8 v1), (B1, 2, .int .u8 v2), (B1, 3, .int .i16 v3), (B1, 4, .int .i32 v4), (A, 0, .int .u8 (N op)), (A, 1, .int .u8 (N d)), (A, 2, .int .u8 (N s)), (A, 3, .int .i16 (Z o)), (A, 4, .int .i32 (Z m))]) (by kernel_rfl) (by kernel_rfl) K.drew (fun hNon => ?_)
  repeat (go_big_quiet_step ((first | (go_at_call 23; exact held_callK _ (encode_any _ _ _ _ _ _)) | (go_at_call 24; exact held_callK _ (refencode_any _ _ _ _ _ _)) | (go_at_call 20; exact held_callT HT.out (fun z hz => checks_any z hz)))))
  refine wpQuiet_nil ?_
  intro w5 K5
  clear hNon q00 q01 q02 q03 q04 q10 q11 q12 q13 q14 q20 q21 q22 q23 q24 K
  go_wp2_with fail
  go_ret
  exact ⟨rfl, K5.2⟩
end Go.Proofs.YthmebodklbhljaaDoor
