/-
  The chapter's examples of package nums ('told').
-/
import Derived.Test.YtdlbapenkhljcaaNums
import Derived.Test.YtdlbapenkhljcaaBytes
namespace Go.Proofs.Ytdlbapenkhljcaa
open Go.RowKit

theorem low_I (x b : Int) (w : World) (h0 : 0 ≤ x) (h3 : x < 18446744073709551616) (h1 : -9223372036854775808 ≤ b) (h2 : b ≤ 9223372036854775807) :
    Calls Try.prog 21 #[.int .u64 x, .int .i64 b] w fun e w' => e = .returned (.int .u64 (N (lowS (BitVec.ofInt 64 x) b))) ∧ w = w' := by
  have h := low_N (BitVec.ofInt 64 x) b w h1 h2
  rwa [N_ofInt x h0 (by simpa using h3)] at h
theorem sign_I (x b : Int) (w : World) (h0 : 0 ≤ x) (h3 : x < 18446744073709551616) (h1 : -9223372036854775808 ≤ b) (h2 : b ≤ 9223372036854775807) :
    Calls Try.prog 23 #[.int .u64 x, .int .i64 b] w fun e w' => e = .returned (.int .u64 (N (signS (BitVec.ofInt 64 x) b))) ∧ w = w' := by
  have h := sign_N (BitVec.ofInt 64 x) b w h1 h2
  rwa [N_ofInt x h0 (by simpa using h3)] at h
theorem bytes_I (x b : Int) (w : World) (h0 : 0 ≤ x) (h3 : x < 18446744073709551616) :
    Calls Try.prog 17 #[.int .u64 x, .int .i64 b] w fun e w' => e = .returned (.string (bytesS (BitVec.ofInt 64 x) b)) ∧ Grown w w' := by
  have h := bytes_any (BitVec.ofInt 64 x) b w
  rwa [N_ofInt x h0 (by simpa using h3)] at h

theorem Grown.trans' {a b c : World} (h1 : Grown a b) (h2 : Grown b c) : Grown a c := by
  exact ⟨World.keptBut_trans h1.1 h2.1, fun x => (h2.2.1 x).trans (h1.2.1 x), Nat.le_trans h1.2.2 h2.2.2⟩

attribute [local go_sem] N_ofNat
set_option maxRecDepth 100000 in
set_option maxHeartbeats 1000000 in
theorem told_any (w : World) : Calls Try.prog 16 #[] w fun e w' => e = .returned (.bool true) ∧ Grown w w' := by
  have a1 : numS ⟨#[1, 2]⟩ = 513#64 := by decide
  have a2 : numS ⟨#[]⟩ = 0#64 := by decide
  have a3 : numS ⟨#[255, 255, 255, 255, 255, 255, 255, 255, 255]⟩ = 18446744073709551615#64 := by decide
  have b1 : bytesS 513#64 2 = ⟨#[1, 2]⟩ := by decide
  have b2 : bytesS 513#64 1 = ⟨#[1]⟩ := by decide
  have b3 : bytesS 513#64 9 = ⟨#[]⟩ := by decide
  have c1 : lowS 513#64 8 = 1#64 := by decide
  have c2 : lowS 513#64 64 = 513#64 := by decide
  have c3 : lowS 513#64 (-1) = 0#64 := by decide
  have d1 : signS 128#64 8 = 18446744073709551488#64 := by decide
  have d2 : signS 127#64 8 = 127#64 := by decide
  have d3 : signS 1#64 1 = 18446744073709551615#64 := by decide
  have d4 : signS 5#64 0 = 0#64 := by decide
  go_enter Try.func16, Try.ntmps16
  go_wp2_with (first | (go_at_call 19; refine (num_any _ _ (by decide)).mono ?_; rintro e w' ⟨rfl, rfl⟩) | (go_at_call 17; refine (bytes_I _ _ _ (by decide) (by decide)).mono ?_; rintro e w' ⟨rfl, hg⟩) | (go_at_call 21; refine (low_I _ _ _ (by decide) (by decide) (by decide) (by decide)).mono ?_; rintro e w' ⟨rfl, rfl⟩) | (go_at_call 23; refine (sign_I _ _ _ (by decide) (by decide) (by decide) (by decide)).mono ?_; rintro e w' ⟨rfl, rfl⟩))
  go_ret
  exact ⟨rfl, by repeat (first | exact Grown.refl _ | refine Grown.trans' ?_ (by assumption))⟩

theorem u64_of_wf {x : Int} (h : (Lit.int .u64 x).wf = true) : ∃ v : BitVec 64, x = N v := by
  simp [Lit.wf, IntKind.min, IntKind.max, IntKind.signed, IntKind.bits] at h
  exact ⟨BitVec.ofInt 64 x, (N_ofInt x (by omega) (by omega)).symm⟩
theorem u32_of_wf {x : Int} (h : (Lit.int .u32 x).wf = true) : ∃ v : BitVec 32, x = N v := by
  simp [Lit.wf, IntKind.min, IntKind.max, IntKind.signed, IntKind.bits] at h
  exact ⟨BitVec.ofInt 32 x, (N_ofInt x (by omega) (by omega)).symm⟩
theorem u8_of_wf {x : Int} (h : (Lit.int .u8 x).wf = true) : ∃ v : BitVec 8, x = N v := by
  simp [Lit.wf, IntKind.min, IntKind.max, IntKind.signed, IntKind.bits] at h
  exact ⟨BitVec.ofInt 8 x, (N_ofInt x (by omega) (by omega)).symm⟩
theorem i64_of_wf {x : Int} (h : (Lit.int .i64 x).wf = true) : -9223372036854775808 ≤ x ∧ x ≤ 9223372036854775807 := by
  simp [Lit.wf, IntKind.min, IntKind.max, IntKind.signed, IntKind.bits] at h
  exact ⟨by omega, by omega⟩
end Go.Proofs.Ytdlbapenkhljcaa
