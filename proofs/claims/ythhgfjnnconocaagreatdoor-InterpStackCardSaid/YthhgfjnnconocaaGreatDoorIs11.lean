/-
  Layer 10: the law InterpStack returns true.
-/
import Derived.Test.YthhgfjnnconocaaGreatDoorIs7a
import Derived.Test.YthhgfjnnconocaaGreatDoorIs7b
import Derived.Test.YthhgfjnnconocaaGreatDoorIs7c
import Derived.Test.YthhgfjnnconocaaGreatDoorIs7d
import Derived.Test.YthhgfjnnconocaaGreatDoorPackE
namespace Go.Proofs.YthhgfjnnconocaaGreatDoor.Ex
set_option maxRecDepth 20000

open Go Go.RowKit
set_option maxHeartbeats 0
set_option maxRecDepth 1000000
set_option linter.unusedVariables false
set_option linter.unusedSectionVars false
theorem fuHk_ok (hg : HookOk Tryz.prog goesHk) (s D d k : Nat) : HookOk3 Tryz.prog (fuHk s D d k) := orHook3_ok (hkNote_ok D d) (orHook3_ok (lift_ok (hkReadT_ok 50 s (D + k) s)) (lift_ok (guard_ok (orHook_ok numHk_ok hg))))
theorem paHk_ok (hg : HookOk Tryz.prog goesHk) (s D d k : Nat) : HookOk3 Tryz.prog (paHk s D d k) := orHook3_ok (hkNote_ok D d) (orHook3_ok (lift_ok (hkPart_ok s (D + k) (8 - k))) (lift_ok (guard_ok (orHook_ok numHk_ok hg))))
theorem is_walk0 (hg : HookOk Tryz.prog goesHk) {a b c : Int} {D d k : Nat} (hb0 : 0 ≤ b) (hb : b < 18446744073709551616) (hD : D = 8 * d) (hd : d < 64) (hk : k < 16) (hl : AE (lawP 0 a c D k)) (w : World) (hL : Laid h10 w) :
    Calls Tryz.prog 5 #[.int .u8 a, .int .u64 b, .int .u8 c] w fun e w' => e = .returned (.bool true) ∧ Gr w w' := by
  by_cases h1 : k + 1 ≤ 8
  · exact reckonP_ok noNG (fuHk_ok hg 1 D d k) noLoop_low (noLoop_ok _) _ 100000 300 h10 rfl rfl (is_full0 b a b c D d k) (fullP_ok (s := 1) hb0 hb hD hd (by omega) (by omega) hk hl h1) w hL
  · by_cases h2 : D + k + 1 ≤ 512
    · exact reckonP_ok noNG (paHk_ok hg 1 D d k) noLoop_low (noLoop_ok _) _ 100000 300 h10 rfl rfl (is_part0 b a b c D d k) (partP_ok (s := 1) hb0 hb hD hd (by omega) (by omega) hk hl (by omega) h2) w hL
    · by_cases h3 : dy D k < 0
      · exact reckonP_ok noNG (paHk_ok hg 1 D d k) noLoop_low (noLoop_ok _) _ 100000 300 h10 rfl rfl (is_farB0 b a b c D d k) (farP_ok (s := 1) hb0 hb hD hd (by omega) (by omega) hk hl true false (by omega) (by omega) (decide_eq_true h3).symm (fun _ => (decide_eq_false (by unfold dy; omega)).symm)) w hL
      · exact reckonP_ok noNG (paHk_ok hg 1 D d k) noLoop_low (noLoop_ok _) _ 100000 300 h10 rfl rfl (is_farA0 b a b c D d k) (farP_ok (s := 1) hb0 hb hD hd (by omega) (by omega) hk hl false true (by omega) (by omega) (decide_eq_false h3).symm (fun h => by cases h)) w hL
theorem is_walk1 (hg : HookOk Tryz.prog goesHk) {a b c : Int} {D d k : Nat} (hb0 : 0 ≤ b) (hb : b < 18446744073709551616) (hD : D = 8 * d) (hd : d < 64) (hk : k < 16) (hl : AE (lawP 1 a c D k)) (w : World) (hL : Laid h10 w) :
    Calls Tryz.prog 5 #[.int .u8 a, .int .u64 b, .int .u8 c] w fun e w' => e = .returned (.bool true) ∧ Gr w w' := by
  by_cases h1 : k + 2 ≤ 8
  · exact reckonP_ok noNG (fuHk_ok hg 2 D d k) noLoop_low (noLoop_ok _) _ 100000 300 h10 rfl rfl (is_full1 b a b c D d k) (fullP_ok (s := 2) hb0 hb hD hd (by omega) (by omega) hk hl h1) w hL
  · by_cases h2 : D + k + 2 ≤ 512
    · exact reckonP_ok noNG (paHk_ok hg 2 D d k) noLoop_low (noLoop_ok _) _ 100000 300 h10 rfl rfl (is_part1 b a b c D d k) (partP_ok (s := 2) hb0 hb hD hd (by omega) (by omega) hk hl (by omega) h2) w hL
    · by_cases h3 : dy D k < 0
      · exact reckonP_ok noNG (paHk_ok hg 2 D d k) noLoop_low (noLoop_ok _) _ 100000 300 h10 rfl rfl (is_farB1 b a b c D d k) (farP_ok (s := 2) hb0 hb hD hd (by omega) (by omega) hk hl true false (by omega) (by omega) (decide_eq_true h3).symm (fun _ => (decide_eq_false (by unfold dy; omega)).symm)) w hL
      · exact reckonP_ok noNG (paHk_ok hg 2 D d k) noLoop_low (noLoop_ok _) _ 100000 300 h10 rfl rfl (is_farA1 b a b c D d k) (farP_ok (s := 2) hb0 hb hD hd (by omega) (by omega) hk hl false true (by omega) (by omega) (decide_eq_false h3).symm (fun h => by cases h)) w hL
theorem is_walk2 (hg : HookOk Tryz.prog goesHk) {a b c : Int} {D d k : Nat} (hb0 : 0 ≤ b) (hb : b < 18446744073709551616) (hD : D = 8 * d) (hd : d < 64) (hk : k < 16) (hl : AE (lawP 2 a c D k)) (w : World) (hL : Laid h10 w) :
    Calls Tryz.prog 5 #[.int .u8 a, .int .u64 b, .int .u8 c] w fun e w' => e = .returned (.bool true) ∧ Gr w w' := by
  by_cases h1 : k + 4 ≤ 8
  · exact reckonP_ok noNG (fuHk_ok hg 4 D d k) noLoop_low (noLoop_ok _) _ 100000 300 h10 rfl rfl (is_full2 b a b c D d k) (fullP_ok (s := 4) hb0 hb hD hd (by omega) (by omega) hk hl h1) w hL
  · by_cases h2 : D + k + 4 ≤ 512
    · exact reckonP_ok noNG (paHk_ok hg 4 D d k) noLoop_low (noLoop_ok _) _ 100000 300 h10 rfl rfl (is_part2 b a b c D d k) (partP_ok (s := 4) hb0 hb hD hd (by omega) (by omega) hk hl (by omega) h2) w hL
    · by_cases h3 : dy D k < 0
      · exact reckonP_ok noNG (paHk_ok hg 4 D d k) noLoop_low (noLoop_ok _) _ 100000 300 h10 rfl rfl (is_farB2 b a b c D d k) (farP_ok (s := 4) hb0 hb hD hd (by omega) (by omega) hk hl true false (by omega) (by omega) (decide_eq_true h3).symm (fun _ => (decide_eq_false (by unfold dy; omega)).symm)) w hL
      · exact reckonP_ok noNG (paHk_ok hg 4 D d k) noLoop_low (noLoop_ok _) _ 100000 300 h10 rfl rfl (is_farA2 b a b c D d k) (farP_ok (s := 4) hb0 hb hD hd (by omega) (by omega) hk hl false true (by omega) (by omega) (decide_eq_false h3).symm (fun h => by cases h)) w hL
theorem is_walk3 (hg : HookOk Tryz.prog goesHk) {a b c : Int} {D d k : Nat} (hb0 : 0 ≤ b) (hb : b < 18446744073709551616) (hD : D = 8 * d) (hd : d < 64) (hk : k < 16) (hl : AE (lawP 3 a c D k)) (w : World) (hL : Laid h10 w) :
    Calls Tryz.prog 5 #[.int .u8 a, .int .u64 b, .int .u8 c] w fun e w' => e = .returned (.bool true) ∧ Gr w w' := by
  by_cases h1 : k + 8 ≤ 8
  · exact reckonP_ok noNG (fuHk_ok hg 8 D d k) noLoop_low (noLoop_ok _) _ 100000 300 h10 rfl rfl (is_full3 b a b c D d k) (fullP_ok (s := 8) hb0 hb hD hd (by omega) (by omega) hk hl h1) w hL
  · by_cases h2 : D + k + 8 ≤ 512
    · exact reckonP_ok noNG (paHk_ok hg 8 D d k) noLoop_low (noLoop_ok _) _ 100000 300 h10 rfl rfl (is_part3 b a b c D d k) (partP_ok (s := 8) hb0 hb hD hd (by omega) (by omega) hk hl (by omega) h2) w hL
    · by_cases h3 : dy D k < 0
      · exact reckonP_ok noNG (paHk_ok hg 8 D d k) noLoop_low (noLoop_ok _) _ 100000 300 h10 rfl rfl (is_farB3 b a b c D d k) (farP_ok (s := 8) hb0 hb hD hd (by omega) (by omega) hk hl true false (by omega) (by omega) (decide_eq_true h3).symm (fun _ => (decide_eq_false (by unfold dy; omega)).symm)) w hL
      · exact reckonP_ok noNG (paHk_ok hg 8 D d k) noLoop_low (noLoop_ok _) _ 100000 300 h10 rfl rfl (is_farA3 b a b c D d k) (farP_ok (s := 8) hb0 hb hD hd (by omega) (by omega) hk hl false true (by omega) (by omega) (decide_eq_false h3).symm (fun h => by cases h)) w hL
theorem is_any (hg : HookOk Tryz.prog goesHk) {a b c : Int} (ha0 : 0 ≤ a) (ha : a < 256) (hb0 : 0 ≤ b) (hb : b < 18446744073709551616) (hc0 : 0 ≤ c) (hc : c < 256) (w : World) (hL : Laid h10 w) :
    Calls Tryz.prog 5 #[.int .u8 a, .int .u64 b, .int .u8 c] w fun e w' => e = .returned (.bool true) ∧ Gr w w' := by
  obtain ⟨d, hd⟩ := Int.eq_ofNat_of_zero_le (show 0 ≤ 63 - a % 64 by omega)
  obtain ⟨k, hk⟩ := Int.eq_ofNat_of_zero_le (show 0 ≤ c % 16 by omega)
  have hl : ∀ q : Int, q = c / 16 % 4 → AE (lawP q a c (8 * d) k) := fun q hq => lawP_ok ha0 ha hc0 hc (by omega) hk.symm hq
  rcases (by omega : c / 16 % 4 = 0 ∨ c / 16 % 4 = 1 ∨ c / 16 % 4 = 2 ∨ c / 16 % 4 = 3) with h | h | h | h
  · exact is_walk0 hg hb0 hb rfl (by omega) (by omega) (hl 0 h.symm) w hL
  · exact is_walk1 hg hb0 hb rfl (by omega) (by omega) (hl 1 h.symm) w hL
  · exact is_walk2 hg hb0 hb rfl (by omega) (by omega) (hl 2 h.symm) w hL
  · exact is_walk3 hg hb0 hb rfl (by omega) (by omega) (hl 3 h.symm) w hL
end Go.Proofs.YthhgfjnnconocaaGreatDoor.Ex
