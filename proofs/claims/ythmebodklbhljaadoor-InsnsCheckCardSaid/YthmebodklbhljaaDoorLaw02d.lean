/-
  The walk of the law InsnsCheck.
-/
import Derived.Test.YthmebodklbhljaaDoorRefChk4
import Derived.Test.YthmebodklbhljaaDoorLaw02b
namespace Go.Proofs.YthmebodklbhljaaDoor
open Go.RowKit
attribute [local go_sem] u8_wrap u8_and ofInt_N ofInt_Nw BitVec.ofInt_natCast BitVec.ofInt_add

theorem keeps_new5 {w wr : World} {l : List (Nat × Nat × Value)} (v0 v1 v2 v3 v4 : Value) {T : TypeId} (K : Keeps w l wr) :
    Keeps w ((wr.heap.size, 0, v0) :: (wr.heap.size, 1, v1) :: (wr.heap.size, 2, v2) :: (wr.heap.size, 3, v3) :: (wr.heap.size, 4, v4) :: l) (wr.alloc (.cells #[v0, v1, v2, v3, v4] T)) :=
  ⟨⟨⟨by simp [go_sem], by simp⟩, ⟨by simp [go_sem], by simp⟩, ⟨by simp [go_sem], by simp⟩, ⟨by simp [go_sem], by simp⟩, ⟨by simp [go_sem], by simp⟩, K.1.alloc _ _⟩, Grown.trans' K.2 (Grown.alloc (Grown.refl wr) _ _)⟩

set_option maxRecDepth 100000 in
set_option maxHeartbeats 4000000 in
theorem insnsCheck_walk (op : B8) (d s off imm : Int) (hd : 0 ≤ d) (hs : 0 ≤ s) (w : World) (hT : TabAt w) :
    Calls Tryd.prog 3 #[.agg #[.int .u8 (N op), .int .u8 d, .int .u8 s, .int .i16 off, .int .i32 imm]] w fun e w' => e = .returned (.bool true) ∧ Grown w w' := by
  have HT := Lib.hid hT
  have HD := Lib.hid hd
  have HS := Lib.hid hs
  clear hT hd hs
  go_enter Tryd.func3, Tryd.ntmps3
  go_wp2_with fail
  go_loopw [3] (fun i wr => ∃ k : Nat, k ≤ 256 ∧ i = .int .i64 (k : Int) ∧ Keeps w [(w.heap.size, 0, .int .u8 (N op)), (w.heap.size, 1, .int .u8 d), (w.heap.size, 2, .int .u8 s), (w.heap.size, 3, .int .i16 off), (w.heap.size, 4, .int .i32 imm)] wr) (fun i _ => (256 - intOf i).toNat)
  case atStart => exact ⟨0, by omega, rfl, ⟨⟨⟨by simp [go_sem], by simp⟩, ⟨by simp [go_sem], by simp⟩, ⟨by simp [go_sem], by simp⟩, ⟨by simp [go_sem], by simp⟩, ⟨by simp [go_sem], by simp⟩, trivial⟩, by go_grown⟩⟩
  case round =>
    obtain ⟨k, hk, rfl, K⟩ := hrel
    by_cases hlt : k < 256
    · have c0 : wr.cell? ⟨w.heap.size, 0, none⟩ = some _ := K.1.get 0 _ rfl
      have c1 : wr.cell? ⟨w.heap.size, 1, none⟩ = some _ := K.1.get 1 _ rfl
      have c2 : wr.cell? ⟨w.heap.size, 2, none⟩ = some _ := K.1.get 2 _ rfl
      have c3 : wr.cell? ⟨w.heap.size, 3, none⟩ = some _ := K.1.get 3 _ rfl
      have c4 : wr.cell? ⟨w.heap.size, 4, none⟩ = some _ := K.1.get 4 _ rfl
      have hz : w.heap.size < wr.heap.size := K.1.1.2
      go_upto_region 6 with fail
      have K2 := keeps_new5 (T := 24) (.int .u8 (N (op + BitVec.ofNat 8 k))) (.int .u8 d) (.int .u8 s) (.int .i16 off) (.int .i32 imm) K
      clear K hz c0 c1 c2 c3 c4
      generalize wr.alloc (.cells #[.int .u8 (N (op + BitVec.ofNat 8 k)), .int .u8 d, .int .u8 s, .int .i16 off, .int .i32 imm] 24) = W1 at *
      generalize op + BitVec.ofNat 8 k = o2 at *
      generalize wr.heap.size = B at *
      have q0 : ∀ z : Held (Keeps w [(B, 0, .int .u8 (N o2)), (B, 1, .int .u8 d), (B, 2, .int .u8 s), (B, 3, .int .i16 off), (B, 4, .int .i32 imm), (w.heap.size, 0, .int .u8 (N op)), (w.heap.size, 1, .int .u8 d), (w.heap.size, 2, .int .u8 s), (w.heap.size, 3, .int .i16 off), (w.heap.size, 4, .int .i32 imm)]), z.w.cell? ⟨B, 0, none⟩ = some _ := fun z => z.h.1.get 0 _ rfl
      have q1 : ∀ z : Held (Keeps w [(B, 0, .int .u8 (N o2)), (B, 1, .int .u8 d), (B, 2, .int .u8 s), (B, 3, .int .i16 off), (B, 4, .int .i32 imm), (w.heap.size, 0, .int .u8 (N op)), (w.heap.size, 1, .int .u8 d), (w.heap.size, 2, .int .u8 s), (w.heap.size, 3, .int .i16 off), (w.heap.size, 4, .int .i32 imm)]), z.w.cell? ⟨B, 1, none⟩ = some _ := fun z => z.h.1.get 1 _ rfl
      have q2 : ∀ z : Held (Keeps w [(B, 0, .int .u8 (N o2)), (B, 1, .int .u8 d), (B, 2, .int .u8 s), (B, 3, .int .i16 off), (B, 4, .int .i32 imm), (w.heap.size, 0, .int .u8 (N op)), (w.heap.size, 1, .int .u8 d), (w.heap.size, 2, .int .u8 s), (w.heap.size, 3, .int .i16 off), (w.heap.size, 4, .int .i32 imm)]), z.w.cell? ⟨B, 2, none⟩ = some _ := fun z => z.h.1.get 2 _ rfl
      have q3 : ∀ z : Held (Keeps w [(B, 0, .int .u8 (N o2)), (B, 1, .int .u8 d), (B, 2, .int .u8 s), (B, 3, .int .i16 off), (B, 4, .int .i32 imm), (w.heap.size, 0, .int .u8 (N op)), (w.heap.size, 1, .int .u8 d), (w.heap.size, 2, .int .u8 s), (w.heap.size, 3, .int .i16 off), (w.heap.size, 4, .int .i32 imm)]), z.w.cell? ⟨B, 3, none⟩ = some _ := fun z => z.h.1.get 3 _ rfl
      have q4 : ∀ z : Held (Keeps w [(B, 0, .int .u8 (N o2)), (B, 1, .int .u8 d), (B, 2, .int .u8 s), (B, 3, .int .i16 off), (B, 4, .int .i32 imm), (w.heap.size, 0, .int .u8 (N op)), (w.heap.size, 1, .int .u8 d), (w.heap.size, 2, .int .u8 s), (w.heap.size, 3, .int .i16 off), (w.heap.size, 4, .int .i32 imm)]), z.w.cell? ⟨B, 4, none⟩ = some _ := fun z => z.h.1.get 4 _ rfl
      refine wp_region_lex (Keeps w [(B, 0, .int .u8 (N o2)), (B, 1, .int .u8 d), (B, 2, .int .u8 s), (B, 3, .int .i16 off), (B, 4, .int .i32 imm), (w.heap.size, 0, .int .u8 (N op)), (w.heap.size, 1, .int .u8 d), (w.heap.size, 2, .int .u8 s), (w.heap.size, 3, .int .i16 off), (w.heap.size, 4, .int .i32 imm)]) (by kernel_rfl) (by kernel_rfl) K2.drew (fun hNon => ?_)
      repeat (go_big_quiet_step ((first | (go_at_call 16; exact held_callT HT.out (fun z hz => check_any _ _ _ _ _ _ z hz)) | (go_at_call 17; exact held_callK _ (rcheck_any _ _ _ _ _ _ _ HD.out HS.out)) | (go_at_call 18; exact held_callT HT.out (fun z hz => size_any _ z hz)) | (go_at_call 19; exact held_callK _ (rsize_any _ _)))))
      refine wpQuiet_nil ?_
      intro w5 K5
      clear hNon q0 q1 q2 q3 q4 K2
      go_wp2_with fail
      go_roundw
      case rel => exact ⟨k + 1, by omega, by go_num, ⟨K5.1.2.2.2.2.2, K5.2⟩⟩
      case measure => simp [intOf]; omega
    · obtain rfl : k = 256 := by omega
      go_wp2_with (go_at_call 20; refine (checks_any _ (HT.out.grown K.2)).mono ?_; rintro e w6 ⟨rfl, hg⟩)
      go_ret
      exact ⟨rfl, Grown.trans' K.2 hg⟩
end Go.Proofs.YthmebodklbhljaaDoor
