/-
  Contracts of package alu.
-/
import Derived.Test.YtbaiokfjoglmiaaDoorPackC
import Derived.BigQuiet
namespace Go.Proofs.YtbaiokfjoglmiaaDoor
open Go.RowKit

attribute [local go_sem] u64_wrap u32_wrap u8_wrap BitVec.ofInt_add BitVec.ofInt_mul ofInt_sub' BitVec.ofInt_neg ofInt_N ofInt_Nw ofInt_Z ofInt_pow ofInt_shl wrap64_N mul_shl1 N_shr Z_shr u64_and u64_or u64_xor u32_and u32_or u32_xor N_tdiv N_tmod tmod64 tmod32 sign64 sign32 sext32 low_setWidth

theorem ret32 {a b : BitVec 32} (h : a = b) : Ending.returned (.int .u32 (N a)) = .returned (.int .u32 (N b)) := by rw [h]

attribute [local go_sem] N_ofNat
set_option maxHeartbeats 400000 in
theorem quot64 (a b : BitVec 64) (w : World) : Calls Tryd.prog 99 #[.int .u64 (N a), .int .u64 (N b)] w fun e w' => e = .returned (.int .u64 (N (a / b))) ∧ w = w' := by
  by_cases h : N b = 0
  · have hb : b = 0#64 := N_inj (by rw [h]; rfl)
    subst hb
    clear h
    rw [show a / 0#64 = 0#64 by simp]
    go_enter Tryd.func99, Tryd.ntmps99
    go_wp2
    go_ret
    exact ⟨rfl, rfl⟩
  · have h' : (N b == 0) = false := by simpa using h
    go_enter Tryd.func99, Tryd.ntmps99
    go_wp2
    go_ret
    exact ⟨rfl, rfl⟩
set_option maxHeartbeats 400000 in
theorem rest64 (a b : BitVec 64) (w : World) : Calls Tryd.prog 100 #[.int .u64 (N a), .int .u64 (N b)] w fun e w' => e = .returned (.int .u64 (N (a % b))) ∧ w = w' := by
  by_cases h : N b = 0
  · have hb : b = 0#64 := N_inj (by rw [h]; rfl)
    subst hb
    clear h
    rw [show a % 0#64 = a by simp]
    go_enter Tryd.func100, Tryd.ntmps100
    go_wp2
    go_ret
    exact ⟨rfl, rfl⟩
  · have h' : (N b == 0) = false := by simpa using h
    go_enter Tryd.func100, Tryd.ntmps100
    go_wp2
    go_ret
    exact ⟨rfl, rfl⟩
set_option maxHeartbeats 400000 in
theorem quot32 (a b : BitVec 32) (w : World) : Calls Tryd.prog 101 #[.int .u32 (N a), .int .u32 (N b)] w fun e w' => e = .returned (.int .u32 (N (a / b))) ∧ w = w' := by
  by_cases h : N b = 0
  · have hb : b = 0#32 := N_inj (by rw [h]; rfl)
    subst hb
    clear h
    rw [show a / 0#32 = 0#32 by simp]
    go_enter Tryd.func101, Tryd.ntmps101
    go_wp2
    go_ret
    exact ⟨rfl, rfl⟩
  · have h' : (N b == 0) = false := by simpa using h
    go_enter Tryd.func101, Tryd.ntmps101
    go_wp2
    go_ret
    exact ⟨rfl, rfl⟩
set_option maxHeartbeats 400000 in
theorem rest32 (a b : BitVec 32) (w : World) : Calls Tryd.prog 102 #[.int .u32 (N a), .int .u32 (N b)] w fun e w' => e = .returned (.int .u32 (N (a % b))) ∧ w = w' := by
  by_cases h : N b = 0
  · have hb : b = 0#32 := N_inj (by rw [h]; rfl)
    subst hb
    clear h
    rw [show a % 0#32 = a by simp]
    go_enter Tryd.func102, Tryd.ntmps102
    go_wp2
    go_ret
    exact ⟨rfl, rfl⟩
  · have h' : (N b == 0) = false := by simpa using h
    go_enter Tryd.func102, Tryd.ntmps102
    go_wp2
    go_ret
    exact ⟨rfl, rfl⟩

set_option maxRecDepth 100000 in
set_option maxHeartbeats 4000000 in
theorem do64 (x : Int) (a b : BitVec 64) (w : World) : Calls Tryd.prog 76 #[.int .u8 x, .int .u64 (N a), .int .u64 (N b), .int .i64 64] w fun e w' => e = .returned (.int .u64 (N (aluW x a b))) ∧ Grown w w' := by
  have hm := tmod64 b
  obtain ⟨m, hmd⟩ : ∃ m, m = b.toNat % 64 := ⟨_, rfl⟩
  rw [← hmd] at hm
  have hml : m < 64 := by omega
  rcases alu_cases x with h | h | h | h | h | h | h | h | h | h | h | h | h | h
  case inr.inr.inr.inr.inr.inr.inr.inr.inr.inr.inl =>
    subst h
    have e : aluW 192 a b = a.sshiftRight m := by rw [hmd]; rfl
    rw [e]
    clear e hmd
    go_enter Tryd.func76, Tryd.ntmps76
    go_wp2
    go_quiet ((go_at_call 75; exact Calls.quiet_of_same ((sign_N _ _ _ (by decide) (by decide)).mono fun _ _ ⟨h1, h2⟩ => ⟨h1, h2.symm⟩)))
    go_wp2
    go_ret
    exact ⟨rfl, grown_drewN (Grown.refl _) _⟩
  case inr.inr.inr.inr.inr.inr.inr.inr.inr.inr.inr.inr.inr =>
    rw [aluW_none h]
    obtain ⟨h1, h2, h3, h4, h5, h6, h7, h8, h9, h10, h11, h12, h13⟩ := noOp_beq h
    clear h hm hmd hml
    go_enter Tryd.func76, Tryd.ntmps76
    go_wp2_with (first | (go_at_call 99; refine (quot64 _ _ _).mono ?_; rintro e w' ⟨rfl, rfl⟩) | (go_at_call 100; refine (rest64 _ _ _).mono ?_; rintro e w' ⟨rfl, rfl⟩))
    go_ret
    exact ⟨rfl, Grown.refl _⟩
  case inr.inr.inr.inr.inr.inr.inr.inr.inl =>
    subst h
    have e : aluW 96 a b = a <<< m := by rw [hmd]; rfl
    rw [e]
    clear e hmd
    go_enter Tryd.func76, Tryd.ntmps76
    go_wp2_with (first | (go_at_call 99; refine (quot64 _ _ _).mono ?_; rintro e w' ⟨rfl, rfl⟩) | (go_at_call 100; refine (rest64 _ _ _).mono ?_; rintro e w' ⟨rfl, rfl⟩))
    go_ret
    exact ⟨rfl, Grown.refl _⟩
  case inr.inr.inr.inr.inr.inr.inr.inr.inr.inl =>
    subst h
    have e : aluW 112 a b = a >>> m := by rw [hmd]; rfl
    rw [e]
    clear e hmd
    go_enter Tryd.func76, Tryd.ntmps76
    go_wp2_with (first | (go_at_call 99; refine (quot64 _ _ _).mono ?_; rintro e w' ⟨rfl, rfl⟩) | (go_at_call 100; refine (rest64 _ _ _).mono ?_; rintro e w' ⟨rfl, rfl⟩))
    go_ret
    exact ⟨rfl, Grown.refl _⟩
  all_goals
    subst h
    clear hm hmd hml
    go_enter Tryd.func76, Tryd.ntmps76
    go_wp2_with (first | (go_at_call 99; refine (quot64 _ _ _).mono ?_; rintro e w' ⟨rfl, rfl⟩) | (go_at_call 100; refine (rest64 _ _ _).mono ?_; rintro e w' ⟨rfl, rfl⟩))
    go_ret
    exact ⟨rfl, Grown.refl _⟩

set_option maxRecDepth 100000 in
set_option maxHeartbeats 4000000 in
theorem do32 (x : Int) (a b : BitVec 32) (w : World) : Calls Tryd.prog 77 #[.int .u8 x, .int .u32 (N a), .int .u32 (N b), .int .i64 32] w fun e w' => e = .returned (.int .u32 (N (aluW x a b))) ∧ Grown w w' := by
  have hm := tmod32 b
  obtain ⟨m, hmd⟩ : ∃ m, m = b.toNat % 32 := ⟨_, rfl⟩
  rw [← hmd] at hm
  have hml : m < 32 := by omega
  rcases alu_cases x with h | h | h | h | h | h | h | h | h | h | h | h | h | h
  case inr.inr.inr.inr.inr.inr.inr.inr.inr.inr.inl =>
    subst h
    have e : aluW 192 a b = a.sshiftRight m := by rw [hmd]; rfl
    rw [e]
    clear e hmd
    go_enter Tryd.func77, Tryd.ntmps77
    go_wp2
    go_quiet ((go_at_call 75; exact Calls.quiet_of_same ((sign_N _ _ _ (by decide) (by decide)).mono fun _ _ ⟨h1, h2⟩ => ⟨h1, h2.symm⟩)))
    go_wp2
    go_ret
    exact ⟨rfl, grown_drewN (Grown.refl _) _⟩
  case inr.inr.inr.inr.inr.inr.inr.inr.inr.inr.inr.inr.inr =>
    rw [aluW_none h]
    obtain ⟨h1, h2, h3, h4, h5, h6, h7, h8, h9, h10, h11, h12, h13⟩ := noOp_beq h
    clear h hm hmd hml
    go_enter Tryd.func77, Tryd.ntmps77
    go_wp2_with (first | (go_at_call 101; refine (quot32 _ _ _).mono ?_; rintro e w' ⟨rfl, rfl⟩) | (go_at_call 102; refine (rest32 _ _ _).mono ?_; rintro e w' ⟨rfl, rfl⟩))
    go_ret
    exact ⟨rfl, Grown.refl _⟩
  case inr.inr.inr.inr.inr.inr.inr.inr.inl =>
    subst h
    have e : aluW 96 a b = a <<< m := by rw [hmd]; rfl
    rw [e]
    clear e hmd
    go_enter Tryd.func77, Tryd.ntmps77
    go_wp2_with (first | (go_at_call 101; refine (quot32 _ _ _).mono ?_; rintro e w' ⟨rfl, rfl⟩) | (go_at_call 102; refine (rest32 _ _ _).mono ?_; rintro e w' ⟨rfl, rfl⟩))
    go_ret
    exact ⟨rfl, Grown.refl _⟩
  case inr.inr.inr.inr.inr.inr.inr.inr.inr.inl =>
    subst h
    have e : aluW 112 a b = a >>> m := by rw [hmd]; rfl
    rw [e]
    clear e hmd
    go_enter Tryd.func77, Tryd.ntmps77
    go_wp2_with (first | (go_at_call 101; refine (quot32 _ _ _).mono ?_; rintro e w' ⟨rfl, rfl⟩) | (go_at_call 102; refine (rest32 _ _ _).mono ?_; rintro e w' ⟨rfl, rfl⟩))
    go_ret
    exact ⟨rfl, Grown.refl _⟩
  all_goals
    subst h
    clear hm hmd hml
    go_enter Tryd.func77, Tryd.ntmps77
    go_wp2_with (first | (go_at_call 101; refine (quot32 _ _ _).mono ?_; rintro e w' ⟨rfl, rfl⟩) | (go_at_call 102; refine (rest32 _ _ _).mono ?_; rintro e w' ⟨rfl, rfl⟩))
    go_ret
    exact ⟨rfl, Grown.refl _⟩

set_option maxRecDepth 100000 in
set_option maxHeartbeats 1000000 in
theorem do_any (x : Int) (wide : Bool) (a b : BitVec 64) (w : World) :
    Calls Tryd.prog 28 #[.int .u8 x, .bool wide, .int .u64 (N a), .int .u64 (N b)] w fun e w' => e = .returned (.int .u64 (N (aluS x wide a b))) ∧ Grown w w' := by
  cases wide
  · go_enter Tryd.func28, Tryd.ntmps28
    go_wp2_with (first | (go_at_call 72; refine (low_N _ _ _ (by decide) (by decide)).mono ?_; rintro e w' ⟨rfl, rfl⟩) | (go_at_call 77; refine (do32 _ _ _ _).mono ?_; rintro e w' ⟨rfl, hg⟩))
    go_ret
    exact ⟨rfl, by assumption⟩
  · go_enter Tryd.func28, Tryd.ntmps28
    go_wp2_with (go_at_call 76; refine (do64 _ _ _ _).mono ?_; rintro e w' ⟨rfl, hg⟩)
    go_ret
    exact ⟨rfl, by assumption⟩
end Go.Proofs.YtbaiokfjoglmiaaDoor
