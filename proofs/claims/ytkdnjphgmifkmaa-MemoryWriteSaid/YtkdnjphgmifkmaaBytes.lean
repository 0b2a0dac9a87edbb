/-
  The contract of nums.Bytes.
-/
import Derived.Test.YtkdnjphgmifkmaaNumsMath
import Derived.Test.YtkdnjphgmifkmaaProg
import Derived.Handy
import Derived.Lib.SlBytesRow
namespace Go.Proofs.Ytkdnjphgmifkmaa
open Go.RowKit

attribute [local go_sem] u64_wrap u8_wrap BitVec.ofInt_add BitVec.ofInt_mul ofInt_sub' ofInt_N ofInt_Nw ofInt_Z ofInt_pow ofInt_shl wrap64_N mul_shl1 N_shr Z_shr u64_and u64_or N_div8 N_div16 N_div24 N_div32 N_div40 N_div48 N_div56

theorem bytes_lit (w : World) (arr : Array Value) (T : TypeId) (v : BitVec 64) (n : Nat) (h : ∀ i, i < n → arr[i]? = some (.int .u8 (N (byteOf v i)))) :
    Lib.Bytes (w.alloc (.cells arr T)) w.heap.size 0 (bytesN v n) := by
  intro i hi
  rw [bytesN_get v n i hi]
  rw [bytesN_size] at hi
  have := h i hi
  simp [go_sem, this]

theorem conv_bytes (w : World) (b : Nat) (s : ByteArray) (n cap : Nat) (hn : s.size = n) (hc : Lib.Bytes w b 0 s) :
    (convert 29 9 (.slice (some ⟨b, 0, none⟩) n cap)).run Try.prog w = .ok (.string s) w := by
  subst hn
  exact Lib.run_convert_whole w _ _ _ Try.underlying29 Try.underlying5 Try.underlying9 b 0 s hc cap

set_option maxRecDepth 100000 in
set_option maxHeartbeats 1000000 in
theorem bytes_in (v : BitVec 64) (n : Nat) (hn : n ≤ 8) (w : World) :
    Calls Try.prog 8 #[.int .u64 (N v), .int .i64 n] w fun e w' => e = .returned (.string (bytesN v n)) ∧ Grown w w' := by
  rcases (by omega : n = 0 ∨ n = 1 ∨ n = 2 ∨ n = 3 ∨ n = 4 ∨ n = 5 ∨ n = 6 ∨ n = 7 ∨ n = 8) with rfl | rfl | rfl | rfl | rfl | rfl | rfl | rfl | rfl
  all_goals
    clear hn
    go_enter Try.func8, Try.ntmps8
    go_wp2
    go_rounds 9
    rw [conv_bytes _ _ (bytesN v _) _ _ (bytesN_size _ _) (bytes_lit _ _ _ _ _ ?_)]
    focus
      go_wp2
      go_ret
      exact ⟨rfl, by go_grown⟩
    intro i hi
    rcases (by omega : i = 0 ∨ i = 1 ∨ i = 2 ∨ i = 3 ∨ i = 4 ∨ i = 5 ∨ i = 6 ∨ i = 7) with rfl | rfl | rfl | rfl | rfl | rfl | rfl | rfl <;> first | omega | simp [byteOf]

set_option maxHeartbeats 400000 in
theorem bytes_out (v : BitVec 64) (n : Int) (hn : n < 0 ∨ 8 < n) (w : World) :
    Calls Try.prog 8 #[.int .u64 (N v), .int .i64 n] w fun e w' => e = .returned (.string ⟨#[]⟩) ∧ Grown w w' := by
  by_cases h0 : n < 0
  · clear hn
    go_enter Try.func8, Try.ntmps8
    go_wp2
    go_ret
    exact ⟨rfl, by go_grown⟩
  · have h8 : 8 < n := by omega
    clear hn
    go_enter Try.func8, Try.ntmps8
    go_wp2
    go_ret
    exact ⟨rfl, by go_grown⟩

theorem bytes_any (v : BitVec 64) (n : Int) (w : World) :
    Calls Try.prog 8 #[.int .u64 (N v), .int .i64 n] w fun e w' => e = .returned (.string (bytesS v n)) ∧ Grown w w' := by
  unfold bytesS
  by_cases h : n < 0 ∨ 8 < n
  · rw [if_pos h]; exact bytes_out v n h w
  · rw [if_neg h]
    obtain ⟨k, rfl⟩ := Int.eq_ofNat_of_zero_le (show 0 ≤ n by omega)
    rw [Int.toNat_natCast]
    exact bytes_in v k (by omega) w
end Go.Proofs.Ytkdnjphgmifkmaa
