/-
  The document's answer of layer 15: whether a T has a number, bit by bit.
-/
import Derived.Test.YtchjneodjaakdaaTnMath
import Derived.Test.YtchjneodjaakdaaReg
namespace Go.Proofs.Ytchjneodjaakdaa
open Go.RowKit
attribute [local go_sem] u64_wrap BitVec.ofInt_add BitVec.ofInt_mul ofInt_sub' ofInt_N ofInt_Nw ofInt_pow ofInt_shl mul_shl1 N_shr u64_and u64_or u64_xor u64_andNot

theorem hasB_iff (v m x : W64) : hasB v m x = true ↔ hasT v m x := by unfold hasB hasT; rw [N_beq, beq_iff_eq]
theorem bit01 (z : W64) (k : Nat) : (z.getLsbD k = false ∧ N (z >>> k &&& 1#64) = 0) ∨ (z.getLsbD k = true ∧ N (z >>> k &&& 1#64) = 1) := by
  have e : N (z >>> k &&& 1#64) = ((z.toNat >>> k % 2 : Nat) : Int) := by
    unfold N
    rw [BitVec.toNat_and, BitVec.toNat_ushiftRight, show (1#64).toNat = 1 from rfl, Nat.and_one_is_mod]
  have hb : z.getLsbD k = decide (z.toNat >>> k % 2 = 1) := by
    rw [BitVec.getLsbD, Nat.testBit_eq_decide_div_mod_eq, Nat.shiftRight_eq_div_pow]
  rw [e, hb]
  rcases Nat.mod_two_eq_zero_or_one (z.toNat >>> k) with h | h <;> rw [h] <;> simp
def goodBit (v m x : W64) (k : Nat) : Prop := (x.getLsbD k && !m.getLsbD k) = v.getLsbD k
def goodTo (v m x : W64) (k : Nat) : Prop := ∀ j, j < k → goodBit v m x j
theorem goodTo_succ {v m x : W64} {k : Nat} (h : goodTo v m x k) (hb : goodBit v m x k) : goodTo v m x (k + 1) := fun j hj => by
  rcases Nat.lt_or_ge j k with h1 | h1
  · exact h j h1
  · obtain rfl : j = k := by omega
    exact hb
theorem good_all {v m x : W64} (h : goodTo v m x 64) : hasB v m x = true := (hasB_iff v m x).2 ((hasT_iff v m x).2 h)
theorem bad_one {v m x : W64} {k : Nat} (hk : k < 64) (h : ¬ goodBit v m x k) : hasB v m x = false := by
  cases hh : hasB v m x
  · rfl
  · exact absurd ((hasT_iff v m x).1 ((hasB_iff v m x).1 hh) k hk) h
theorem bool_eq {a b : Bool} (h : b = a) : Ending.returned (.bool a) = .returned (.bool b) := by rw [h]

set_option maxHeartbeats 1000000 in
theorem refHas_any (v m x : W64) (w : World) : Calls Try.prog 54 #[.int .u64 (N v), .int .u64 (N m), .int .u64 (N x)] w fun e w' => e = .returned (.bool (hasB v m x)) ∧ Grown w w' := by
  go_enter Try.func54, Try.ntmps54
  go_wp2
  go_loopw [7] (fun i wr => ∃ k : Nat, k ≤ 64 ∧ i = .int .i64 (k : Int) ∧ Gw w wr ∧ goodTo v m x k) (fun i _ => (64 - intOf i).toNat)
  case atStart => exact ⟨0, by omega, rfl, Grown.refl _, fun j hj => by omega⟩
  case round =>
    obtain ⟨k, hk, rfl, hg, hgood⟩ := hrel
    by_cases hlt : k < 64
    · rcases bit01 m k with ⟨hm, fm⟩ | ⟨hm, fm⟩ <;> rcases bit01 v k with ⟨hv, fv⟩ | ⟨hv, fv⟩ <;> rcases bit01 x k with ⟨hx, fx⟩ | ⟨hx, fx⟩
      all_goals
        have HM := Lib.hid hm
        have HV := Lib.hid hv
        have HX := Lib.hid hx
        clear hm hv hx
        go_wp2
        refine wp_region_lex (Gw w) (by kernel_rfl) (by kernel_rfl) (Gw.drew hg) (fun hNon => ?_)
        repeat (go_big_quiet_step (fail))
        refine wpQuiet_nil ?_
        intro w5 hG
        clear hNon
        go_wp2
        first
          | (go_roundw
             case rel => exact ⟨k + 1, by omega, by go_num, hG, goodTo_succ hgood (by unfold goodBit; rw [HM.out, HV.out, HX.out]; decide)⟩
             case measure => simp [intOf]; omega)
          | (go_ret
             exact ⟨bool_eq (bad_one hlt (by unfold goodBit; rw [HM.out, HV.out, HX.out]; decide)), hG⟩)
    · obtain rfl : k = 64 := by omega
      go_wp2
      go_ret
      exact ⟨bool_eq (good_all hgood), hg⟩

set_option maxHeartbeats 1000000 in
theorem lawHas_any (v m x : W64) (w : World) : Calls Try.prog 26 #[.agg #[.int .u64 (N v), .int .u64 (N m)], .int .u64 (N x)] w fun e w' => e = .returned (.bool (hasB v m x)) ∧ Grown w w' := by
  go_enter Try.func26, Try.ntmps26
  go_wp2_with (go_at_call 54; refine (refHas_any _ _ _ _).mono ?_; rintro e w' ⟨rfl, hg⟩)
  go_ret
  exact ⟨rfl, Grown.trans' (by go_grown) hg⟩

set_option maxHeartbeats 1000000 in
theorem made_any (a b : W64) (w : World) : Calls Try.prog 10 #[.agg #[.int .u64 (N a), .int .u64 (N b)]] w fun e w' => e = .returned (.agg #[.int .u64 (N (tOf a b).1), .int .u64 (N (tOf a b).2)]) ∧ Grown w w' := by
  go_enter Try.func10, Try.ntmps10
  go_wp2
  go_returns
  exact ⟨rfl, by go_grown⟩

set_option maxHeartbeats 1000000 in
theorem one_any (v m y : W64) (w : World) : Calls Try.prog 11 #[.int .u64 (N v), .int .u64 (N m), .int .u64 (N y)] w fun e w' => e = .returned (.int .u64 (N (v ||| (m &&& y)))) ∧ w' = w := by
  go_enter Try.func11, Try.ntmps11
  go_wp2
  go_ret
  exact ⟨rfl, rfl⟩
end Go.Proofs.Ytchjneodjaakdaa
