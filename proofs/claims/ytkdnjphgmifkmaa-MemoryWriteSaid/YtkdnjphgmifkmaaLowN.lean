/-
  The contract of nums.Low alone.
-/
import Derived.Test.YtkdnjphgmifkmaaNumsN
namespace Go.Proofs.Ytkdnjphgmifkmaa
open Go.RowKit

attribute [local go_sem] u64_wrap u8_wrap BitVec.ofInt_add BitVec.ofInt_mul ofInt_sub' ofInt_N ofInt_Nw ofInt_Z ofInt_pow ofInt_shl wrap64_N mul_shl1 N_shr Z_shr u64_and u64_or N_div8 N_div16 N_div24 N_div32 N_div40 N_div48 N_div56

set_option maxHeartbeats 400000 in
theorem low_N (v : BitVec 64) (b : Int) (w : World) (h1 : -9223372036854775808 ≤ b) (h2 : b ≤ 9223372036854775807) :
    Calls Try.prog 20 #[.int .u64 (N v), .int .i64 b] w fun e w' => e = .returned (.int .u64 (N (lowS v b))) ∧ w = w' := by
  go_enter Try.func20, Try.ntmps20
  go_wp2
  · go_ret
    exact ⟨ret0 (by unfold lowS; rw [if_pos ‹_›]), rfl⟩
  · go_ret
    exact ⟨ret64 (by unfold lowS; rw [if_neg (by omega), if_pos ‹_›]), rfl⟩
  · go_ret
    exact ⟨ret64 (by unfold lowS; rw [if_neg (by omega), if_neg (by omega)]), rfl⟩
end Go.Proofs.Ytkdnjphgmifkmaa
