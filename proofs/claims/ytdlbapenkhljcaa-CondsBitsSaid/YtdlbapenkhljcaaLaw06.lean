/-
  The walks of the laws of layer 6.
-/
import Derived.Test.YtdlbapenkhljcaaHoldsA
import Derived.Test.YtdlbapenkhljcaaHoldsB
import Derived.Test.YtdlbapenkhljcaaHoldsRef
import Derived.Test.YtdlbapenkhljcaaGrown2
import Derived.Lib.Hide
namespace Go.Proofs.Ytdlbapenkhljcaa
open Go.RowKit
attribute [local go_sem] u64_wrap u8_wrap BitVec.ofInt_add BitVec.ofInt_mul ofInt_sub' ofInt_N ofInt_Nw u64_xor

theorem holds_any (x : Int) (wide : Bool) (a b : BitVec 64) (w : World) : Calls Try.prog 28 #[.int .u8 x, .bool wide, .int .u64 (N a), .int .u64 (N b)] w fun e w' => e = .returned (.bool (condS x wide a b)) ∧ Grown w w' := by
  cases wide
  · exact holds32 x a b w
  · exact holds64 x a b w
theorem refHolds_any (x : Int) (wide : Bool) (a b : BitVec 64) (w : World) : Calls Try.prog 29 #[.int .u8 x, .bool wide, .int .u64 (N a), .int .u64 (N b)] w fun e w' => e = .returned (.bool (condS x wide a b)) ∧ Grown w w' := by
  cases wide
  · exact refHolds32 x a b w
  · exact refHolds64 x a b w
theorem holds_I (x : Int) (wide : Bool) (a b : Int) (w : World) (a0 : 0 ≤ a) (a1 : a < 18446744073709551616) (b0 : 0 ≤ b) (b1 : b < 18446744073709551616) :
    Calls Try.prog 28 #[.int .u8 x, .bool wide, .int .u64 a, .int .u64 b] w fun e w' => e = .returned (.bool (condS x wide (BitVec.ofInt 64 a) (BitVec.ofInt 64 b))) ∧ Grown w w' := by
  have h := holds_any x wide (BitVec.ofInt 64 a) (BitVec.ofInt 64 b) w
  rwa [N_ofInt a a0 (by simpa using a1), N_ofInt b b0 (by simpa using b1)] at h

set_option maxRecDepth 100000 in
set_option maxHeartbeats 1000000 in
theorem held_any (w : World) : Calls Try.prog 30 #[] w fun e w' => e = .returned (.bool true) ∧ Grown w w' := by
  have a1 : condS 32 true 9223372036854775808#64 1#64 = true := by decide
  have a2 : condS 96 true 9223372036854775808#64 1#64 = false := by decide
  have a3 : condS 192 false 2147483648#64 0#64 = true := by decide
  have a4 : condS 192 true 2147483648#64 0#64 = false := by decide
  have a5 : condS 64 true 6#64 2#64 = true := by decide
  have a6 : condS 64 true 6#64 1#64 = false := by decide
  have a7 : condS 0 true 1#64 2#64 = true := by decide
  have a8 : condS 128 true 1#64 1#64 = false := by decide
  have a9 : condS 16 false 4294967297#64 1#64 = true := by decide
  have b1 : condS 16 true 4294967297#64 1#64 = false := by decide
  go_enter Try.func30, Try.ntmps30
  go_wp2_with (go_at_call 28; refine (holds_I _ _ _ _ _ (by decide) (by decide) (by decide) (by decide)).mono ?_; rintro e w' ⟨rfl, hg⟩)
  go_ret
  exact ⟨rfl, by repeat (first | exact Grown.refl _ | refine Grown.trans' ?_ (by assumption))⟩

set_option maxRecDepth 100000 in
set_option maxHeartbeats 2000000 in
theorem condsTell_walk (x : Int) (a b : BitVec 64) (w : World) :
    Calls Try.prog 12 #[.int .u8 x, .int .u64 (N a), .int .u64 (N b)] w fun e w' => e = .returned (.bool true) ∧ Grown w w' := by
  have hm := tmod64 b
  obtain ⟨m, hmd⟩ : ∃ m, m = b.toNat % 64 := ⟨_, rfl⟩
  rw [← hmd] at hm
  have hml : m < 64 := by omega
  clear hmd
  go_enter Try.func12, Try.ntmps12
  go_wp2
  generalize a + BitVec.ofInt 64 ((N b).tmod 3) = c2
  generalize a ^^^ BitVec.ofInt 64 (2 ^ m) = c3
  have hc : ∀ k, k < 4 → ∃ c : BitVec 64, (w.alloc (.cells #[.int .u64 (N b), .int .u64 (N a), .int .u64 (N c2), .int .u64 (N c3)] 40)).cell? ⟨w.heap.size, k, none⟩ = some (.int .u64 (N c)) := by
    intro k hk
    rcases (by omega : k = 0 ∨ k = 1 ∨ k = 2 ∨ k = 3) with rfl | rfl | rfl | rfl
    · exact ⟨b, by simp [go_sem]⟩
    · exact ⟨a, by simp [go_sem]⟩
    · exact ⟨c2, by simp [go_sem]⟩
    · exact ⟨c3, by simp [go_sem]⟩
  have hg0 : Grown w (w.alloc (.cells #[.int .u64 (N b), .int .u64 (N a), .int .u64 (N c2), .int .u64 (N c3)] 40)) := (Grown.refl _).alloc _ _
  have hsz : w.heap.size < (w.alloc (.cells #[.int .u64 (N b), .int .u64 (N a), .int .u64 (N c2), .int .u64 (N c3)] 40)).heap.size := by simp
  generalize w.alloc (.cells #[.int .u64 (N b), .int .u64 (N a), .int .u64 (N c2), .int .u64 (N c3)] 40) = W1 at *
  generalize w.heap.size = B at *
  clear hm hml
  have HC := Lib.hid hc
  clear hc
  go_loopw [8] (fun i wr => ∃ k : Nat, k ≤ 4 ∧ i = .int .i64 (k : Int) ∧ Grown W1 wr) (fun i _ => (4 - intOf i).toNat)
  case atStart => exact ⟨0, by omega, rfl, Grown.refl _⟩
  case round =>
    obtain ⟨k, hk, rfl, hgr⟩ := hrel
    obtain ⟨wo, rfl⟩ : ∃ wo : World, wo = wr := ⟨_, rfl⟩
    by_cases hlt : k < 4
    · obtain ⟨c, hcc⟩ := HC.out k hlt
      have hcell := grown_cellAt hgr hsz hcc
      clear hcc
      have hd : decide ((k : Int) < 4) = true := by simp; omega
      go_wp2
      go_loopw [10] (fun i wr => ∃ j : Nat, j ≤ 272 ∧ i = .int .i64 (j : Int) ∧ Grown W1 wr) (fun i _ => (256 - intOf i).toNat)
      case atStart => exact ⟨0, by omega, rfl, hgr⟩
      case round =>
        obtain ⟨j, hj, rfl, hgr2⟩ := hrel
        clear hcell
        by_cases hlt2 : j < 256
        · go_wp2_with (first | (go_at_call 28; refine (holds_any _ _ _ _ _).mono ?_; rintro e w' ⟨rfl, hg⟩) | (go_at_call 29; refine (refHolds_any _ _ _ _ _).mono ?_; rintro e w' ⟨rfl, hg⟩) | (go_at_call 30; refine (held_any _).mono ?_; rintro e w' ⟨rfl, hg⟩))
          go_roundw
          case rel => exact ⟨j + 16, by omega, by go_num, by repeat (first | assumption | refine Grown.trans' ?_ (by assumption))⟩
          case measure => simp [intOf]; omega
        · go_wp2_with (first | (go_at_call 28; refine (holds_any _ _ _ _ _).mono ?_; rintro e w' ⟨rfl, hg⟩) | (go_at_call 29; refine (refHolds_any _ _ _ _ _).mono ?_; rintro e w' ⟨rfl, hg⟩) | (go_at_call 30; refine (held_any _).mono ?_; rintro e w' ⟨rfl, hg⟩))
          go_roundw
          case rel => exact ⟨k + 1, by omega, by go_num, hgr2⟩
          case measure => simp [intOf]; omega
    · go_wp2_with (first | (go_at_call 28; refine (holds_any _ _ _ _ _).mono ?_; rintro e w' ⟨rfl, hg⟩) | (go_at_call 29; refine (refHolds_any _ _ _ _ _).mono ?_; rintro e w' ⟨rfl, hg⟩) | (go_at_call 30; refine (held_any _).mono ?_; rintro e w' ⟨rfl, hg⟩))
      go_ret
      exact ⟨rfl, by repeat (first | assumption | refine Grown.trans' ?_ (by assumption))⟩
end Go.Proofs.Ytdlbapenkhljcaa
