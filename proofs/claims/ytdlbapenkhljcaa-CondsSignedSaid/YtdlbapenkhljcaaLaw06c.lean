/-
  The walk of the law CondsSigned.
-/
import Derived.Test.YtdlbapenkhljcaaLaw06b
namespace Go.Proofs.Ytdlbapenkhljcaa
open Go.RowKit
attribute [local go_sem] u64_wrap u8_wrap BitVec.ofInt_add BitVec.ofInt_mul ofInt_sub' ofInt_N ofInt_Nw u64_and

set_option maxRecDepth 100000 in
set_option maxHeartbeats 2000000 in
theorem condsSigned_t (a b : BitVec 64) (w : World) :
    Calls Try.prog 14 #[.int .u64 (N a), .int .u64 (N b), .bool true] w fun e w' => e = .returned (.bool true) ∧ Grown w w' := by
  have hm := signed_alike_t a b
  go_enter Try.func14, Try.ntmps14
  go_wp2
  generalize (N (a &&& 9223372036854775808#64) == N (b &&& 9223372036854775808#64)) = al at *
  obtain ⟨m0, m1, m2, m3⟩ := hm
  have hg0 : Grown w ((w.alloc (.cells #[.int .u8 32, .int .u8 48, .int .u8 160, .int .u8 176] 44)).alloc (.cells #[.int .u8 96, .int .u8 112, .int .u8 192, .int .u8 208] 44)) := ((Grown.refl _).alloc _ _).alloc _ _
  have hsz : w.heap.size + 1 < ((w.alloc (.cells #[.int .u8 32, .int .u8 48, .int .u8 160, .int .u8 176] 44)).alloc (.cells #[.int .u8 96, .int .u8 112, .int .u8 192, .int .u8 208] 44)).heap.size := by simp
  have p0 : ((w.alloc (.cells #[.int .u8 32, .int .u8 48, .int .u8 160, .int .u8 176] 44)).alloc (.cells #[.int .u8 96, .int .u8 112, .int .u8 192, .int .u8 208] 44)).cell? ⟨w.heap.size, 0, none⟩ = some (.int .u8 32) := by simp [go_sem]
  have s0 : ((w.alloc (.cells #[.int .u8 32, .int .u8 48, .int .u8 160, .int .u8 176] 44)).alloc (.cells #[.int .u8 96, .int .u8 112, .int .u8 192, .int .u8 208] 44)).cell? ⟨w.heap.size + 1, 0, none⟩ = some (.int .u8 96) := by simp [go_sem]
  have p1 : ((w.alloc (.cells #[.int .u8 32, .int .u8 48, .int .u8 160, .int .u8 176] 44)).alloc (.cells #[.int .u8 96, .int .u8 112, .int .u8 192, .int .u8 208] 44)).cell? ⟨w.heap.size, 1, none⟩ = some (.int .u8 48) := by simp [go_sem]
  have s1 : ((w.alloc (.cells #[.int .u8 32, .int .u8 48, .int .u8 160, .int .u8 176] 44)).alloc (.cells #[.int .u8 96, .int .u8 112, .int .u8 192, .int .u8 208] 44)).cell? ⟨w.heap.size + 1, 1, none⟩ = some (.int .u8 112) := by simp [go_sem]
  have p2 : ((w.alloc (.cells #[.int .u8 32, .int .u8 48, .int .u8 160, .int .u8 176] 44)).alloc (.cells #[.int .u8 96, .int .u8 112, .int .u8 192, .int .u8 208] 44)).cell? ⟨w.heap.size, 2, none⟩ = some (.int .u8 160) := by simp [go_sem]
  have s2 : ((w.alloc (.cells #[.int .u8 32, .int .u8 48, .int .u8 160, .int .u8 176] 44)).alloc (.cells #[.int .u8 96, .int .u8 112, .int .u8 192, .int .u8 208] 44)).cell? ⟨w.heap.size + 1, 2, none⟩ = some (.int .u8 192) := by simp [go_sem]
  have p3 : ((w.alloc (.cells #[.int .u8 32, .int .u8 48, .int .u8 160, .int .u8 176] 44)).alloc (.cells #[.int .u8 96, .int .u8 112, .int .u8 192, .int .u8 208] 44)).cell? ⟨w.heap.size, 3, none⟩ = some (.int .u8 176) := by simp [go_sem]
  have s3 : ((w.alloc (.cells #[.int .u8 32, .int .u8 48, .int .u8 160, .int .u8 176] 44)).alloc (.cells #[.int .u8 96, .int .u8 112, .int .u8 192, .int .u8 208] 44)).cell? ⟨w.heap.size + 1, 3, none⟩ = some (.int .u8 208) := by simp [go_sem]
  generalize (w.alloc (.cells #[.int .u8 32, .int .u8 48, .int .u8 160, .int .u8 176] 44)).alloc (.cells #[.int .u8 96, .int .u8 112, .int .u8 192, .int .u8 208] 44) = W1 at *
  generalize w.heap.size = B at *
  go_loopw [11] (fun i wr => ∃ k : Nat, k ≤ 4 ∧ i = .int .i64 (k : Int) ∧ Grown W1 wr) (fun i _ => (4 - intOf i).toNat)
  case atStart => exact ⟨0, by omega, rfl, Grown.refl _⟩
  case round =>
    obtain ⟨k, hk, rfl, hgr⟩ := hrel
    have hb1 : B + 1 < wr.heap.size := Nat.lt_of_lt_of_le hsz hgr.2.2
    rcases (by omega : k = 0 ∨ k = 1 ∨ k = 2 ∨ k = 3 ∨ k = 4) with rfl | rfl | rfl | rfl | rfl
    · have q1 := grown_cellAt hgr (by show B < _; omega) p0
      have q2 := grown_cellAt hgr (by show B + 1 < _; omega) s0
      have m := m0
      clear m0 m1 m2 m3 p0 p1 p2 p3 s0 s1 s2 s3
      go_wp2
      go_region_held3 (fun w' => w'.cell? ⟨B, 0, none⟩ = some (.int .u8 32) ∧ w'.cell? ⟨B + 1, 0, none⟩ = some (.int .u8 96) ∧ B + 1 < w'.heap.size ∧ Gr W1 w') (first | exact ⟨q1, q2, hb1, hgr⟩ | exact keepS (by assumption) (by assumption)) (first | (go_at_call 28; refine (holds_any _ _ _ _ _).mono ?_; rintro e w' ⟨rfl, hg⟩; have hG : Gr _ _ := hg; clear hg))
      go_wp2
      go_roundw
      case rel => exact ⟨1, by omega, rfl, (keepEnd (by assumption))⟩
      case measure => simp [intOf]
    · have q1 := grown_cellAt hgr (by show B < _; omega) p1
      have q2 := grown_cellAt hgr (by show B + 1 < _; omega) s1
      have m := m1
      clear m0 m1 m2 m3 p0 p1 p2 p3 s0 s1 s2 s3
      go_wp2
      go_region_held3 (fun w' => w'.cell? ⟨B, 1, none⟩ = some (.int .u8 48) ∧ w'.cell? ⟨B + 1, 1, none⟩ = some (.int .u8 112) ∧ B + 1 < w'.heap.size ∧ Gr W1 w') (first | exact ⟨q1, q2, hb1, hgr⟩ | exact keepS (by assumption) (by assumption)) (first | (go_at_call 28; refine (holds_any _ _ _ _ _).mono ?_; rintro e w' ⟨rfl, hg⟩; have hG : Gr _ _ := hg; clear hg))
      go_wp2
      go_roundw
      case rel => exact ⟨2, by omega, rfl, (keepEnd (by assumption))⟩
      case measure => simp [intOf]
    · have q1 := grown_cellAt hgr (by show B < _; omega) p2
      have q2 := grown_cellAt hgr (by show B + 1 < _; omega) s2
      have m := m2
      clear m0 m1 m2 m3 p0 p1 p2 p3 s0 s1 s2 s3
      go_wp2
      go_region_held3 (fun w' => w'.cell? ⟨B, 2, none⟩ = some (.int .u8 160) ∧ w'.cell? ⟨B + 1, 2, none⟩ = some (.int .u8 192) ∧ B + 1 < w'.heap.size ∧ Gr W1 w') (first | exact ⟨q1, q2, hb1, hgr⟩ | exact keepS (by assumption) (by assumption)) (first | (go_at_call 28; refine (holds_any _ _ _ _ _).mono ?_; rintro e w' ⟨rfl, hg⟩; have hG : Gr _ _ := hg; clear hg))
      go_wp2
      go_roundw
      case rel => exact ⟨3, by omega, rfl, (keepEnd (by assumption))⟩
      case measure => simp [intOf]
    · have q1 := grown_cellAt hgr (by show B < _; omega) p3
      have q2 := grown_cellAt hgr (by show B + 1 < _; omega) s3
      have m := m3
      clear m0 m1 m2 m3 p0 p1 p2 p3 s0 s1 s2 s3
      go_wp2
      go_region_held3 (fun w' => w'.cell? ⟨B, 3, none⟩ = some (.int .u8 176) ∧ w'.cell? ⟨B + 1, 3, none⟩ = some (.int .u8 208) ∧ B + 1 < w'.heap.size ∧ Gr W1 w') (first | exact ⟨q1, q2, hb1, hgr⟩ | exact keepS (by assumption) (by assumption)) (first | (go_at_call 28; refine (holds_any _ _ _ _ _).mono ?_; rintro e w' ⟨rfl, hg⟩; have hG : Gr _ _ := hg; clear hg))
      go_wp2
      go_roundw
      case rel => exact ⟨4, by omega, rfl, (keepEnd (by assumption))⟩
      case measure => simp [intOf]
    · go_wp2_with (first | (go_at_call 30; refine (held_any _).mono ?_; rintro e w' ⟨rfl, hg⟩))
      go_ret
      exact ⟨rfl, by repeat (first | assumption | refine Grown.trans' ?_ (by assumption))⟩

set_option maxRecDepth 100000 in
set_option maxHeartbeats 2000000 in
theorem condsSigned_f (a b : BitVec 64) (w : World) :
    Calls Try.prog 14 #[.int .u64 (N a), .int .u64 (N b), .bool false] w fun e w' => e = .returned (.bool true) ∧ Grown w w' := by
  have hm := signed_alike_f a b
  go_enter Try.func14, Try.ntmps14
  go_wp2
  generalize (N (a &&& 2147483648#64) == N (b &&& 2147483648#64)) = al at *
  obtain ⟨m0, m1, m2, m3⟩ := hm
  have hg0 : Grown w ((w.alloc (.cells #[.int .u8 32, .int .u8 48, .int .u8 160, .int .u8 176] 44)).alloc (.cells #[.int .u8 96, .int .u8 112, .int .u8 192, .int .u8 208] 44)) := ((Grown.refl _).alloc _ _).alloc _ _
  have hsz : w.heap.size + 1 < ((w.alloc (.cells #[.int .u8 32, .int .u8 48, .int .u8 160, .int .u8 176] 44)).alloc (.cells #[.int .u8 96, .int .u8 112, .int .u8 192, .int .u8 208] 44)).heap.size := by simp
  have p0 : ((w.alloc (.cells #[.int .u8 32, .int .u8 48, .int .u8 160, .int .u8 176] 44)).alloc (.cells #[.int .u8 96, .int .u8 112, .int .u8 192, .int .u8 208] 44)).cell? ⟨w.heap.size, 0, none⟩ = some (.int .u8 32) := by simp [go_sem]
  have s0 : ((w.alloc (.cells #[.int .u8 32, .int .u8 48, .int .u8 160, .int .u8 176] 44)).alloc (.cells #[.int .u8 96, .int .u8 112, .int .u8 192, .int .u8 208] 44)).cell? ⟨w.heap.size + 1, 0, none⟩ = some (.int .u8 96) := by simp [go_sem]
  have p1 : ((w.alloc (.cells #[.int .u8 32, .int .u8 48, .int .u8 160, .int .u8 176] 44)).alloc (.cells #[.int .u8 96, .int .u8 112, .int .u8 192, .int .u8 208] 44)).cell? ⟨w.heap.size, 1, none⟩ = some (.int .u8 48) := by simp [go_sem]
  have s1 : ((w.alloc (.cells #[.int .u8 32, .int .u8 48, .int .u8 160, .int .u8 176] 44)).alloc (.cells #[.int .u8 96, .int .u8 112, .int .u8 192, .int .u8 208] 44)).cell? ⟨w.heap.size + 1, 1, none⟩ = some (.int .u8 112) := by simp [go_sem]
  have p2 : ((w.alloc (.cells #[.int .u8 32, .int .u8 48, .int .u8 160, .int .u8 176] 44)).alloc (.cells #[.int .u8 96, .int .u8 112, .int .u8 192, .int .u8 208] 44)).cell? ⟨w.heap.size, 2, none⟩ = some (.int .u8 160) := by simp [go_sem]
  have s2 : ((w.alloc (.cells #[.int .u8 32, .int .u8 48, .int .u8 160, .int .u8 176] 44)).alloc (.cells #[.int .u8 96, .int .u8 112, .int .u8 192, .int .u8 208] 44)).cell? ⟨w.heap.size + 1, 2, none⟩ = some (.int .u8 192) := by simp [go_sem]
  have p3 : ((w.alloc (.cells #[.int .u8 32, .int .u8 48, .int .u8 160, .int .u8 176] 44)).alloc (.cells #[.int .u8 96, .int .u8 112, .int .u8 192, .int .u8 208] 44)).cell? ⟨w.heap.size, 3, none⟩ = some (.int .u8 176) := by simp [go_sem]
  have s3 : ((w.alloc (.cells #[.int .u8 32, .int .u8 48, .int .u8 160, .int .u8 176] 44)).alloc (.cells #[.int .u8 96, .int .u8 112, .int .u8 192, .int .u8 208] 44)).cell? ⟨w.heap.size + 1, 3, none⟩ = some (.int .u8 208) := by simp [go_sem]
  generalize (w.alloc (.cells #[.int .u8 32, .int .u8 48, .int .u8 160, .int .u8 176] 44)).alloc (.cells #[.int .u8 96, .int .u8 112, .int .u8 192, .int .u8 208] 44) = W1 at *
  generalize w.heap.size = B at *
  go_loopw [11] (fun i wr => ∃ k : Nat, k ≤ 4 ∧ i = .int .i64 (k : Int) ∧ Grown W1 wr) (fun i _ => (4 - intOf i).toNat)
  case atStart => exact ⟨0, by omega, rfl, Grown.refl _⟩
  case round =>
    obtain ⟨k, hk, rfl, hgr⟩ := hrel
    have hb1 : B + 1 < wr.heap.size := Nat.lt_of_lt_of_le hsz hgr.2.2
    rcases (by omega : k = 0 ∨ k = 1 ∨ k = 2 ∨ k = 3 ∨ k = 4) with rfl | rfl | rfl | rfl | rfl
    · have q1 := grown_cellAt hgr (by show B < _; omega) p0
      have q2 := grown_cellAt hgr (by show B + 1 < _; omega) s0
      have m := m0
      clear m0 m1 m2 m3 p0 p1 p2 p3 s0 s1 s2 s3
      go_wp2
      go_region_held3 (fun w' => w'.cell? ⟨B, 0, none⟩ = some (.int .u8 32) ∧ w'.cell? ⟨B + 1, 0, none⟩ = some (.int .u8 96) ∧ B + 1 < w'.heap.size ∧ Gr W1 w') (first | exact ⟨q1, q2, hb1, hgr⟩ | exact keepS (by assumption) (by assumption)) (first | (go_at_call 28; refine (holds_any _ _ _ _ _).mono ?_; rintro e w' ⟨rfl, hg⟩; have hG : Gr _ _ := hg; clear hg))
      go_wp2
      go_roundw
      case rel => exact ⟨1, by omega, rfl, (keepEnd (by assumption))⟩
      case measure => simp [intOf]
    · have q1 := grown_cellAt hgr (by show B < _; omega) p1
      have q2 := grown_cellAt hgr (by show B + 1 < _; omega) s1
      have m := m1
      clear m0 m1 m2 m3 p0 p1 p2 p3 s0 s1 s2 s3
      go_wp2
      go_region_held3 (fun w' => w'.cell? ⟨B, 1, none⟩ = some (.int .u8 48) ∧ w'.cell? ⟨B + 1, 1, none⟩ = some (.int .u8 112) ∧ B + 1 < w'.heap.size ∧ Gr W1 w') (first | exact ⟨q1, q2, hb1, hgr⟩ | exact keepS (by assumption) (by assumption)) (first | (go_at_call 28; refine (holds_any _ _ _ _ _).mono ?_; rintro e w' ⟨rfl, hg⟩; have hG : Gr _ _ := hg; clear hg))
      go_wp2
      go_roundw
      case rel => exact ⟨2, by omega, rfl, (keepEnd (by assumption))⟩
      case measure => simp [intOf]
    · have q1 := grown_cellAt hgr (by show B < _; omega) p2
      have q2 := grown_cellAt hgr (by show B + 1 < _; omega) s2
      have m := m2
      clear m0 m1 m2 m3 p0 p1 p2 p3 s0 s1 s2 s3
      go_wp2
      go_region_held3 (fun w' => w'.cell? ⟨B, 2, none⟩ = some (.int .u8 160) ∧ w'.cell? ⟨B + 1, 2, none⟩ = some (.int .u8 192) ∧ B + 1 < w'.heap.size ∧ Gr W1 w') (first | exact ⟨q1, q2, hb1, hgr⟩ | exact keepS (by assumption) (by assumption)) (first | (go_at_call 28; refine (holds_any _ _ _ _ _).mono ?_; rintro e w' ⟨rfl, hg⟩; have hG : Gr _ _ := hg; clear hg))
      go_wp2
      go_roundw
      case rel => exact ⟨3, by omega, rfl, (keepEnd (by assumption))⟩
      case measure => simp [intOf]
    · have q1 := grown_cellAt hgr (by show B < _; omega) p3
      have q2 := grown_cellAt hgr (by show B + 1 < _; omega) s3
      have m := m3
      clear m0 m1 m2 m3 p0 p1 p2 p3 s0 s1 s2 s3
      go_wp2
      go_region_held3 (fun w' => w'.cell? ⟨B, 3, none⟩ = some (.int .u8 176) ∧ w'.cell? ⟨B + 1, 3, none⟩ = some (.int .u8 208) ∧ B + 1 < w'.heap.size ∧ Gr W1 w') (first | exact ⟨q1, q2, hb1, hgr⟩ | exact keepS (by assumption) (by assumption)) (first | (go_at_call 28; refine (holds_any _ _ _ _ _).mono ?_; rintro e w' ⟨rfl, hg⟩; have hG : Gr _ _ := hg; clear hg))
      go_wp2
      go_roundw
      case rel => exact ⟨4, by omega, rfl, (keepEnd (by assumption))⟩
      case measure => simp [intOf]
    · go_wp2_with (first | (go_at_call 30; refine (held_any _).mono ?_; rintro e w' ⟨rfl, hg⟩))
      go_ret
      exact ⟨rfl, by repeat (first | assumption | refine Grown.trans' ?_ (by assumption))⟩

theorem condsSigned_walk (a b : BitVec 64) (wide : Bool) (w : World) :
    Calls Try.prog 14 #[.int .u64 (N a), .int .u64 (N b), .bool wide] w fun e w' => e = .returned (.bool true) ∧ Grown w w' := by
  cases wide
  · exact condsSigned_f a b w
  · exact condsSigned_t a b w
end Go.Proofs.Ytdlbapenkhljcaa
