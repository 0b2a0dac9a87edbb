/-
  The walk of the law CondsOther.
-/
import Derived.Test.YtdlbapenkhljcaaLaw06b
namespace Go.Proofs.Ytdlbapenkhljcaa
open Go.RowKit
attribute [local go_sem] u64_wrap u8_wrap BitVec.ofInt_add BitVec.ofInt_mul ofInt_sub' ofInt_N ofInt_Nw u64_and

theorem cmpI_self (x : Int) : cmpI x x = 0 := by rw [cmpI_eq]
theorem uO_self (wide : Bool) (a : BitVec 64) : uO wide a a = 0 := cmpI_self _
theorem gO_self (wide : Bool) (a : BitVec 64) : gO wide a a = 0 := cmpI_self _
theorem other_of {p q : Bool} (h : q = !p) : (p == q) = false := by rw [h]; cases p <;> rfl
theorem o0 (wide : Bool) (a b : BitVec 64) : (condS 16 wide a b == condS 80 wide a b) = false := other_of (by show (!decide (uO wide a b = 0)) = !decide (uO wide a b = 0); rfl)
theorem o1 (wide : Bool) (a b : BitVec 64) : (condS 32 wide a b == condS 176 wide a b) = false := other_of (by show decide (uO wide a b ≤ 0) = !decide (0 < uO wide a b); rw [Bool.eq_iff_iff]; simp)
theorem o2 (wide : Bool) (a b : BitVec 64) : (condS 160 wide a b == condS 48 wide a b) = false := other_of (by show decide (0 ≤ uO wide a b) = !decide (uO wide a b < 0); rw [Bool.eq_iff_iff]; simp)
theorem o3 (wide : Bool) (a b : BitVec 64) : (condS 96 wide a b == condS 208 wide a b) = false := other_of (by show decide (gO wide a b ≤ 0) = !decide (0 < gO wide a b); rw [Bool.eq_iff_iff]; simp)
theorem o4 (wide : Bool) (a b : BitVec 64) : (condS 192 wide a b == condS 112 wide a b) = false := other_of (by show decide (0 ≤ gO wide a b) = !decide (gO wide a b < 0); rw [Bool.eq_iff_iff]; simp)
theorem self_16 (wide : Bool) (a : BitVec 64) : condS 16 wide a a = true := by show decide (uO wide a a = 0) = true; rw [uO_self]; rfl
theorem self_80 (wide : Bool) (a : BitVec 64) : condS 80 wide a a = false := by show (!decide (uO wide a a = 0)) = false; rw [uO_self]; rfl
theorem self_32 (wide : Bool) (a : BitVec 64) : condS 32 wide a a = false := by show decide (0 < uO wide a a) = false; rw [uO_self]; rfl
theorem self_176 (wide : Bool) (a : BitVec 64) : condS 176 wide a a = true := by show decide (uO wide a a ≤ 0) = true; rw [uO_self]; rfl
theorem self_160 (wide : Bool) (a : BitVec 64) : condS 160 wide a a = false := by show decide (uO wide a a < 0) = false; rw [uO_self]; rfl
theorem self_48 (wide : Bool) (a : BitVec 64) : condS 48 wide a a = true := by show decide (0 ≤ uO wide a a) = true; rw [uO_self]; rfl
theorem self_96 (wide : Bool) (a : BitVec 64) : condS 96 wide a a = false := by show decide (0 < gO wide a a) = false; rw [gO_self]; rfl
theorem self_208 (wide : Bool) (a : BitVec 64) : condS 208 wide a a = true := by show decide (gO wide a a ≤ 0) = true; rw [gO_self]; rfl
theorem self_192 (wide : Bool) (a : BitVec 64) : condS 192 wide a a = false := by show decide (gO wide a a < 0) = false; rw [gO_self]; rfl
theorem self_112 (wide : Bool) (a : BitVec 64) : condS 112 wide a a = true := by show decide (0 ≤ gO wide a a) = true; rw [gO_self]; rfl
theorem turn_u (wide : Bool) (a b : BitVec 64) : condS 32 wide a b = condS 160 wide b a := by
  show decide (0 < uO wide a b) = decide (uO wide b a < 0)
  unfold uO; rw [Bool.eq_iff_iff, decide_eq_true_iff, decide_eq_true_iff, cmpI_gt, cmpI_lt]
theorem turn_g (wide : Bool) (a b : BitVec 64) : condS 96 wide a b = condS 192 wide b a := by
  show decide (0 < gO wide a b) = decide (gO wide b a < 0)
  unfold gO; rw [Bool.eq_iff_iff, decide_eq_true_iff, decide_eq_true_iff, cmpI_gt, cmpI_lt]

set_option maxRecDepth 100000 in
set_option maxHeartbeats 4000000 in
theorem condsOther_walk (a b : BitVec 64) (wide : Bool) (w : World) :
    Calls Try.prog 13 #[.int .u64 (N a), .int .u64 (N b), .bool wide] w fun e w' => e = .returned (.bool true) ∧ Grown w w' := by
  go_enter Try.func13, Try.ntmps13
  go_wp2
  have hg0 : Grown w ((w.alloc (.cells #[.int .u8 16, .int .u8 32, .int .u8 160, .int .u8 96, .int .u8 192] 42)).alloc (.cells #[.int .u8 80, .int .u8 176, .int .u8 48, .int .u8 208, .int .u8 112] 42)) := ((Grown.refl _).alloc _ _).alloc _ _
  have hsz : w.heap.size + 1 < ((w.alloc (.cells #[.int .u8 16, .int .u8 32, .int .u8 160, .int .u8 96, .int .u8 192] 42)).alloc (.cells #[.int .u8 80, .int .u8 176, .int .u8 48, .int .u8 208, .int .u8 112] 42)).heap.size := by simp
  have p0 : ((w.alloc (.cells #[.int .u8 16, .int .u8 32, .int .u8 160, .int .u8 96, .int .u8 192] 42)).alloc (.cells #[.int .u8 80, .int .u8 176, .int .u8 48, .int .u8 208, .int .u8 112] 42)).cell? ⟨w.heap.size, 0, none⟩ = some (.int .u8 16) := by simp [go_sem]
  have s0 : ((w.alloc (.cells #[.int .u8 16, .int .u8 32, .int .u8 160, .int .u8 96, .int .u8 192] 42)).alloc (.cells #[.int .u8 80, .int .u8 176, .int .u8 48, .int .u8 208, .int .u8 112] 42)).cell? ⟨w.heap.size + 1, 0, none⟩ = some (.int .u8 80) := by simp [go_sem]
  have p1 : ((w.alloc (.cells #[.int .u8 16, .int .u8 32, .int .u8 160, .int .u8 96, .int .u8 192] 42)).alloc (.cells #[.int .u8 80, .int .u8 176, .int .u8 48, .int .u8 208, .int .u8 112] 42)).cell? ⟨w.heap.size, 1, none⟩ = some (.int .u8 32) := by simp [go_sem]
  have s1 : ((w.alloc (.cells #[.int .u8 16, .int .u8 32, .int .u8 160, .int .u8 96, .int .u8 192] 42)).alloc (.cells #[.int .u8 80, .int .u8 176, .int .u8 48, .int .u8 208, .int .u8 112] 42)).cell? ⟨w.heap.size + 1, 1, none⟩ = some (.int .u8 176) := by simp [go_sem]
  have p2 : ((w.alloc (.cells #[.int .u8 16, .int .u8 32, .int .u8 160, .int .u8 96, .int .u8 192] 42)).alloc (.cells #[.int .u8 80, .int .u8 176, .int .u8 48, .int .u8 208, .int .u8 112] 42)).cell? ⟨w.heap.size, 2, none⟩ = some (.int .u8 160) := by simp [go_sem]
  have s2 : ((w.alloc (.cells #[.int .u8 16, .int .u8 32, .int .u8 160, .int .u8 96, .int .u8 192] 42)).alloc (.cells #[.int .u8 80, .int .u8 176, .int .u8 48, .int .u8 208, .int .u8 112] 42)).cell? ⟨w.heap.size + 1, 2, none⟩ = some (.int .u8 48) := by simp [go_sem]
  have p3 : ((w.alloc (.cells #[.int .u8 16, .int .u8 32, .int .u8 160, .int .u8 96, .int .u8 192] 42)).alloc (.cells #[.int .u8 80, .int .u8 176, .int .u8 48, .int .u8 208, .int .u8 112] 42)).cell? ⟨w.heap.size, 3, none⟩ = some (.int .u8 96) := by simp [go_sem]
  have s3 : ((w.alloc (.cells #[.int .u8 16, .int .u8 32, .int .u8 160, .int .u8 96, .int .u8 192] 42)).alloc (.cells #[.int .u8 80, .int .u8 176, .int .u8 48, .int .u8 208, .int .u8 112] 42)).cell? ⟨w.heap.size + 1, 3, none⟩ = some (.int .u8 208) := by simp [go_sem]
  have p4 : ((w.alloc (.cells #[.int .u8 16, .int .u8 32, .int .u8 160, .int .u8 96, .int .u8 192] 42)).alloc (.cells #[.int .u8 80, .int .u8 176, .int .u8 48, .int .u8 208, .int .u8 112] 42)).cell? ⟨w.heap.size, 4, none⟩ = some (.int .u8 192) := by simp [go_sem]
  have s4 : ((w.alloc (.cells #[.int .u8 16, .int .u8 32, .int .u8 160, .int .u8 96, .int .u8 192] 42)).alloc (.cells #[.int .u8 80, .int .u8 176, .int .u8 48, .int .u8 208, .int .u8 112] 42)).cell? ⟨w.heap.size + 1, 4, none⟩ = some (.int .u8 112) := by simp [go_sem]
  generalize (w.alloc (.cells #[.int .u8 16, .int .u8 32, .int .u8 160, .int .u8 96, .int .u8 192] 42)).alloc (.cells #[.int .u8 80, .int .u8 176, .int .u8 48, .int .u8 208, .int .u8 112] 42) = W1 at *
  generalize w.heap.size = B at *
  go_loopw [9] (fun i wr => ∃ k : Nat, k ≤ 5 ∧ i = .int .i64 (k : Int) ∧ Grown W1 wr) (fun i _ => (5 - intOf i).toNat)
  case atStart => exact ⟨0, by omega, rfl, Grown.refl _⟩
  case round =>
    obtain ⟨k, hk, rfl, hgr⟩ := hrel
    have hb1 : B + 1 < wr.heap.size := Nat.lt_of_lt_of_le hsz hgr.2.2
    rcases (by omega : k = 0 ∨ k = 1 ∨ k = 2 ∨ k = 3 ∨ k = 4 ∨ k = 5) with rfl | rfl | rfl | rfl | rfl | rfl
    · have q1 := grown_cellAt hgr (by show B < _; omega) p0
      have q2 := grown_cellAt hgr (by show B + 1 < _; omega) s0
      have m1 := o0 wide a b
      have m2 := self_16 wide a
      have m3 := self_80 wide a
      clear p0 p1 p2 p3 p4 s0 s1 s2 s3 s4
      go_wp2
      go_region_held3 (fun w' => w'.cell? ⟨B, 0, none⟩ = some (.int .u8 16) ∧ w'.cell? ⟨B + 1, 0, none⟩ = some (.int .u8 80) ∧ B + 1 < w'.heap.size ∧ Gr W1 w') (first | exact ⟨q1, q2, hb1, hgr⟩ | exact keepS (by assumption) (by assumption)) (first | (go_at_call 28; refine (holds_any _ _ _ _ _).mono ?_; rintro e w' ⟨rfl, hg⟩; have hG : Gr _ _ := hg; clear hg))
      go_wp2
      go_roundw
      case rel => exact ⟨1, by omega, rfl, (keepEnd (by assumption))⟩
      case measure => simp [intOf]
    · have q1 := grown_cellAt hgr (by show B < _; omega) p1
      have q2 := grown_cellAt hgr (by show B + 1 < _; omega) s1
      have m1 := o1 wide a b
      have m2 := self_32 wide a
      have m3 := self_176 wide a
      clear p0 p1 p2 p3 p4 s0 s1 s2 s3 s4
      go_wp2
      go_region_held3 (fun w' => w'.cell? ⟨B, 1, none⟩ = some (.int .u8 32) ∧ w'.cell? ⟨B + 1, 1, none⟩ = some (.int .u8 176) ∧ B + 1 < w'.heap.size ∧ Gr W1 w') (first | exact ⟨q1, q2, hb1, hgr⟩ | exact keepS (by assumption) (by assumption)) (first | (go_at_call 28; refine (holds_any _ _ _ _ _).mono ?_; rintro e w' ⟨rfl, hg⟩; have hG : Gr _ _ := hg; clear hg))
      go_wp2
      go_roundw
      case rel => exact ⟨2, by omega, rfl, (keepEnd (by assumption))⟩
      case measure => simp [intOf]
    · have q1 := grown_cellAt hgr (by show B < _; omega) p2
      have q2 := grown_cellAt hgr (by show B + 1 < _; omega) s2
      have m1 := o2 wide a b
      have m2 := self_160 wide a
      have m3 := self_48 wide a
      clear p0 p1 p2 p3 p4 s0 s1 s2 s3 s4
      go_wp2
      go_region_held3 (fun w' => w'.cell? ⟨B, 2, none⟩ = some (.int .u8 160) ∧ w'.cell? ⟨B + 1, 2, none⟩ = some (.int .u8 48) ∧ B + 1 < w'.heap.size ∧ Gr W1 w') (first | exact ⟨q1, q2, hb1, hgr⟩ | exact keepS (by assumption) (by assumption)) (first | (go_at_call 28; refine (holds_any _ _ _ _ _).mono ?_; rintro e w' ⟨rfl, hg⟩; have hG : Gr _ _ := hg; clear hg))
      go_wp2
      go_roundw
      case rel => exact ⟨3, by omega, rfl, (keepEnd (by assumption))⟩
      case measure => simp [intOf]
    · have q1 := grown_cellAt hgr (by show B < _; omega) p3
      have q2 := grown_cellAt hgr (by show B + 1 < _; omega) s3
      have m1 := o3 wide a b
      have m2 := self_96 wide a
      have m3 := self_208 wide a
      clear p0 p1 p2 p3 p4 s0 s1 s2 s3 s4
      go_wp2
      go_region_held3 (fun w' => w'.cell? ⟨B, 3, none⟩ = some (.int .u8 96) ∧ w'.cell? ⟨B + 1, 3, none⟩ = some (.int .u8 208) ∧ B + 1 < w'.heap.size ∧ Gr W1 w') (first | exact ⟨q1, q2, hb1, hgr⟩ | exact keepS (by assumption) (by assumption)) (first | (go_at_call 28; refine (holds_any _ _ _ _ _).mono ?_; rintro e w' ⟨rfl, hg⟩; have hG : Gr _ _ := hg; clear hg))
      go_wp2
      go_roundw
      case rel => exact ⟨4, by omega, rfl, (keepEnd (by assumption))⟩
      case measure => simp [intOf]
    · have q1 := grown_cellAt hgr (by show B < _; omega) p4
      have q2 := grown_cellAt hgr (by show B + 1 < _; omega) s4
      have m1 := o4 wide a b
      have m2 := self_192 wide a
      have m3 := self_112 wide a
      clear p0 p1 p2 p3 p4 s0 s1 s2 s3 s4
      go_wp2
      go_region_held3 (fun w' => w'.cell? ⟨B, 4, none⟩ = some (.int .u8 192) ∧ w'.cell? ⟨B + 1, 4, none⟩ = some (.int .u8 112) ∧ B + 1 < w'.heap.size ∧ Gr W1 w') (first | exact ⟨q1, q2, hb1, hgr⟩ | exact keepS (by assumption) (by assumption)) (first | (go_at_call 28; refine (holds_any _ _ _ _ _).mono ?_; rintro e w' ⟨rfl, hg⟩; have hG : Gr _ _ := hg; clear hg))
      go_wp2
      go_roundw
      case rel => exact ⟨5, by omega, rfl, (keepEnd (by assumption))⟩
      case measure => simp [intOf]
    · have m1 := turn_u wide a b
      have m2 := turn_g wide a b
      go_wp2_with (first | (go_at_call 28; refine (holds_any _ _ _ _ _).mono ?_; rintro e w' ⟨rfl, hg⟩) | (go_at_call 30; refine (held_any _).mono ?_; rintro e w' ⟨rfl, hg⟩))
      go_ret
      exact ⟨rfl, by repeat (first | assumption | refine Grown.trans' ?_ (by assumption))⟩
end Go.Proofs.Ytdlbapenkhljcaa
