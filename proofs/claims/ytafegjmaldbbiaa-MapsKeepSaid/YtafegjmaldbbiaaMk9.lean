/-
  Layer 8: the law MapsKeep.
-/
import Derived.Test.YtafegjmaldbbiaaMk7a
import Derived.Test.YtafegjmaldbbiaaMk7b
import Derived.Test.YtafegjmaldbbiaaMk7c
import Derived.Test.YtafegjmaldbbiaaMk7d
import Derived.Test.YtafegjmaldbbiaaMk8a
import Derived.Test.YtafegjmaldbbiaaMk8b
import Derived.Test.YtafegjmaldbbiaaMk8c
import Derived.Test.YtafegjmaldbbiaaMk8d
import Derived.Test.YtafegjmaldbbiaaMk8e
import Derived.Test.YtafegjmaldbbiaaMk8f
import Derived.Test.YtafegjmaldbbiaaMk8g
import Derived.Test.YtafegjmaldbbiaaMk8h
import Derived.Test.YtafegjmaldbbiaaMk8i
import Derived.Test.YtafegjmaldbbiaaMk8j
import Derived.Test.YtafegjmaldbbiaaMk8k
import Derived.Test.YtafegjmaldbbiaaMk8l
namespace Go.Proofs.Ytafegjmaldbbiaa.Ex
open Go Go.RowKit
set_option maxHeartbeats 0
set_option maxRecDepth 1000000
set_option linter.unusedVariables false
set_option linter.unusedSectionVars false
theorem mk_hops1 : ∀ i, i < 1 → MkHop 1 i := fun i hi => by
  rcases (by omega : i = 0) with rfl
  · exact mh_1_0
theorem mk_hops2 : ∀ i, i < 2 → MkHop 2 i := fun i hi => by
  rcases (by omega : i = 0 ∨ i = 1) with rfl | rfl
  · exact mh_2_0
  · exact mh_2_1
theorem mk_hops3 : ∀ i, i < 3 → MkHop 3 i := fun i hi => by
  rcases (by omega : i = 0 ∨ i = 1 ∨ i = 2) with rfl | rfl | rfl
  · exact mh_3_0
  · exact mh_3_1
  · exact mh_3_2
theorem mk_hops4 : ∀ i, i < 4 → MkHop 4 i := fun i hi => by
  rcases (by omega : i = 0 ∨ i = 1 ∨ i = 2 ∨ i = 3) with rfl | rfl | rfl | rfl
  · exact mh_4_0
  · exact mh_4_1
  · exact mh_4_2
  · exact mh_4_3
theorem mk_hops5 : ∀ i, i < 5 → MkHop 5 i := fun i hi => by
  rcases (by omega : i = 0 ∨ i = 1 ∨ i = 2 ∨ i = 3 ∨ i = 4) with rfl | rfl | rfl | rfl | rfl
  · exact mh_5_0
  · exact mh_5_1
  · exact mh_5_2
  · exact mh_5_3
  · exact mh_5_4
theorem mk_hops6 : ∀ i, i < 6 → MkHop 6 i := fun i hi => by
  rcases (by omega : i = 0 ∨ i = 1 ∨ i = 2 ∨ i = 3 ∨ i = 4 ∨ i = 5) with rfl | rfl | rfl | rfl | rfl | rfl
  · exact mh_6_0
  · exact mh_6_1
  · exact mh_6_2
  · exact mh_6_3
  · exact mh_6_4
  · exact mh_6_5
theorem mk_hops7 : ∀ i, i < 7 → MkHop 7 i := fun i hi => by
  rcases (by omega : i = 0 ∨ i = 1 ∨ i = 2 ∨ i = 3 ∨ i = 4 ∨ i = 5 ∨ i = 6) with rfl | rfl | rfl | rfl | rfl | rfl | rfl
  · exact mh_7_0
  · exact mh_7_1
  · exact mh_7_2
  · exact mh_7_3
  · exact mh_7_4
  · exact mh_7_5
  · exact mh_7_6
theorem mk_hops8 : ∀ i, i < 8 → MkHop 8 i := fun i hi => by
  rcases (by omega : i = 0 ∨ i = 1 ∨ i = 2 ∨ i = 3 ∨ i = 4 ∨ i = 5 ∨ i = 6 ∨ i = 7) with rfl | rfl | rfl | rfl | rfl | rfl | rfl | rfl
  · exact mh_8_0
  · exact mh_8_1
  · exact mh_8_2
  · exact mh_8_3
  · exact mh_8_4
  · exact mh_8_5
  · exact mh_8_6
  · exact mh_8_7
theorem mk_hops9 : ∀ i, i < 9 → MkHop 9 i := fun i hi => by
  rcases (by omega : i = 0 ∨ i = 1 ∨ i = 2 ∨ i = 3 ∨ i = 4 ∨ i = 5 ∨ i = 6 ∨ i = 7 ∨ i = 8) with rfl | rfl | rfl | rfl | rfl | rfl | rfl | rfl | rfl
  · exact mh_9_0
  · exact mh_9_1
  · exact mh_9_2
  · exact mh_9_3
  · exact mh_9_4
  · exact mh_9_5
  · exact mh_9_6
  · exact mh_9_7
  · exact mh_9_8
theorem mk_hops10 : ∀ i, i < 10 → MkHop 10 i := fun i hi => by
  rcases (by omega : i = 0 ∨ i = 1 ∨ i = 2 ∨ i = 3 ∨ i = 4 ∨ i = 5 ∨ i = 6 ∨ i = 7 ∨ i = 8 ∨ i = 9) with rfl | rfl | rfl | rfl | rfl | rfl | rfl | rfl | rfl | rfl
  · exact mh_10_0
  · exact mh_10_1
  · exact mh_10_2
  · exact mh_10_3
  · exact mh_10_4
  · exact mh_10_5
  · exact mh_10_6
  · exact mh_10_7
  · exact mh_10_8
  · exact mh_10_9
theorem mk_hops11 : ∀ i, i < 11 → MkHop 11 i := fun i hi => by
  rcases (by omega : i = 0 ∨ i = 1 ∨ i = 2 ∨ i = 3 ∨ i = 4 ∨ i = 5 ∨ i = 6 ∨ i = 7 ∨ i = 8 ∨ i = 9 ∨ i = 10) with rfl | rfl | rfl | rfl | rfl | rfl | rfl | rfl | rfl | rfl | rfl
  · exact mh_11_0
  · exact mh_11_1
  · exact mh_11_2
  · exact mh_11_3
  · exact mh_11_4
  · exact mh_11_5
  · exact mh_11_6
  · exact mh_11_7
  · exact mh_11_8
  · exact mh_11_9
  · exact mh_11_10
theorem mk_hops12 : ∀ i, i < 12 → MkHop 12 i := fun i hi => by
  rcases (by omega : i = 0 ∨ i = 1 ∨ i = 2 ∨ i = 3 ∨ i = 4 ∨ i = 5 ∨ i = 6 ∨ i = 7 ∨ i = 8 ∨ i = 9 ∨ i = 10 ∨ i = 11) with rfl | rfl | rfl | rfl | rfl | rfl | rfl | rfl | rfl | rfl | rfl | rfl
  · exact mh_12_0
  · exact mh_12_1
  · exact mh_12_2
  · exact mh_12_3
  · exact mh_12_4
  · exact mh_12_5
  · exact mh_12_6
  · exact mh_12_7
  · exact mh_12_8
  · exact mh_12_9
  · exact mh_12_10
  · exact mh_12_11
theorem mk_hops13 : ∀ i, i < 13 → MkHop 13 i := fun i hi => by
  rcases (by omega : i = 0 ∨ i = 1 ∨ i = 2 ∨ i = 3 ∨ i = 4 ∨ i = 5 ∨ i = 6 ∨ i = 7 ∨ i = 8 ∨ i = 9 ∨ i = 10 ∨ i = 11 ∨ i = 12) with rfl | rfl | rfl | rfl | rfl | rfl | rfl | rfl | rfl | rfl | rfl | rfl | rfl
  · exact mh_13_0
  · exact mh_13_1
  · exact mh_13_2
  · exact mh_13_3
  · exact mh_13_4
  · exact mh_13_5
  · exact mh_13_6
  · exact mh_13_7
  · exact mh_13_8
  · exact mh_13_9
  · exact mh_13_10
  · exact mh_13_11
  · exact mh_13_12
theorem mk_hops14 : ∀ i, i < 14 → MkHop 14 i := fun i hi => by
  rcases (by omega : i = 0 ∨ i = 1 ∨ i = 2 ∨ i = 3 ∨ i = 4 ∨ i = 5 ∨ i = 6 ∨ i = 7 ∨ i = 8 ∨ i = 9 ∨ i = 10 ∨ i = 11 ∨ i = 12 ∨ i = 13) with rfl | rfl | rfl | rfl | rfl | rfl | rfl | rfl | rfl | rfl | rfl | rfl | rfl | rfl
  · exact mh_14_0
  · exact mh_14_1
  · exact mh_14_2
  · exact mh_14_3
  · exact mh_14_4
  · exact mh_14_5
  · exact mh_14_6
  · exact mh_14_7
  · exact mh_14_8
  · exact mh_14_9
  · exact mh_14_10
  · exact mh_14_11
  · exact mh_14_12
  · exact mh_14_13
theorem mk_hops15 : ∀ i, i < 15 → MkHop 15 i := fun i hi => by
  rcases (by omega : i = 0 ∨ i = 1 ∨ i = 2 ∨ i = 3 ∨ i = 4 ∨ i = 5 ∨ i = 6 ∨ i = 7 ∨ i = 8 ∨ i = 9 ∨ i = 10 ∨ i = 11 ∨ i = 12 ∨ i = 13 ∨ i = 14) with rfl | rfl | rfl | rfl | rfl | rfl | rfl | rfl | rfl | rfl | rfl | rfl | rfl | rfl | rfl
  · exact mh_15_0
  · exact mh_15_1
  · exact mh_15_2
  · exact mh_15_3
  · exact mh_15_4
  · exact mh_15_5
  · exact mh_15_6
  · exact mh_15_7
  · exact mh_15_8
  · exact mh_15_9
  · exact mh_15_10
  · exact mh_15_11
  · exact mh_15_12
  · exact mh_15_13
  · exact mh_15_14
theorem mk_hops16 : ∀ i, i < 16 → MkHop 16 i := fun i hi => by
  rcases (by omega : i = 0 ∨ i = 1 ∨ i = 2 ∨ i = 3 ∨ i = 4 ∨ i = 5 ∨ i = 6 ∨ i = 7 ∨ i = 8 ∨ i = 9 ∨ i = 10 ∨ i = 11 ∨ i = 12 ∨ i = 13 ∨ i = 14 ∨ i = 15) with rfl | rfl | rfl | rfl | rfl | rfl | rfl | rfl | rfl | rfl | rfl | rfl | rfl | rfl | rfl | rfl
  · exact mh_16_0
  · exact mh_16_1
  · exact mh_16_2
  · exact mh_16_3
  · exact mh_16_4
  · exact mh_16_5
  · exact mh_16_6
  · exact mh_16_7
  · exact mh_16_8
  · exact mh_16_9
  · exact mh_16_10
  · exact mh_16_11
  · exact mh_16_12
  · exact mh_16_13
  · exact mh_16_14
  · exact mh_16_15
theorem mkP_ok {n k : Nat} {A B : Int} (hA : 0 ≤ A ∧ A < 256) (hB : 0 ≤ B ∧ B < 256) (hn : A % 16 = (n : Int) - 1) (hk : B % (n : Int) = (k : Int)) : AE (mkP n k A B) := by
  have a : (wi A).tmod 16 = (n : Int) - 1 := by rw [wi_id (by omega) (by omega), Int.tmod_eq_emod_of_nonneg hA.1, hn]
  have b : (wi B).tmod (n : Int) = (k : Int) := by rw [wi_id (by omega) (by omega), Int.tmod_eq_emod_of_nonneg hB.1, hk]
  exact AE.cons a (AE.cons rfl (AE.cons rfl (AE.cons rfl (AE.cons rfl (AE.consP (prP_ok rfl) (AE.consP (prP_ok rfl) (AE.cons b (AE.cons rfl (AE.cons rfl AE.nil)))))))))
theorem mk_fin {n k : Nat} {A B : Int} (h1 : 1 ≤ n) (hA : 0 ≤ A ∧ A < 256) (hB : 0 ≤ B ∧ B < 256) (hn : A % 16 = (n : Int) - 1) (hk : B % (n : Int) = (k : Int)) (hop : ∀ i, i < n → MkHop n i) (hr : ∀ (A B : Int) (β : Nat → Value), reckonPI Try.prog mk3 (mkO n k) (loopQHook [mkQ n A B β]) 100000 300 [] mkF [.int .u8 A, .int .u8 B] = some (.bool true, inter (mkP n k A B))) (w : World) :
    Calls Try.prog mkF #[.int .u8 A, .int .u8 B] w fun e w' => e = .returned (.bool true) ∧ Gr w w' := by
  obtain ⟨β, q⟩ := mk_loop A B h1 hop
  exact reckonP_ok noNG mk3_ok (loopQHook_low _) (loopQHook_ok (fun e he => by rw [List.mem_singleton.1 he]; exact q)) _ 100000 300 [] rfl rfl (hr A B β) (mkP_ok hA hB hn hk) w (Laid.nil w)
theorem mk_n1 {A B : Int} (hA : 0 ≤ A ∧ A < 256) (hB : 0 ≤ B ∧ B < 256) (hn : A % 16 = 0) (w : World) : Calls Try.prog mkF #[.int .u8 A, .int .u8 B] w fun e w' => e = .returned (.bool true) ∧ Gr w w' := by
  rcases (by omega : B % 1 = 0) with h
  · exact mk_fin (n := 1) (k := 0) (by decide) hA hB (by rw [hn]; rfl) h mk_hops1 mt_1_0 w
theorem mk_n2 {A B : Int} (hA : 0 ≤ A ∧ A < 256) (hB : 0 ≤ B ∧ B < 256) (hn : A % 16 = 1) (w : World) : Calls Try.prog mkF #[.int .u8 A, .int .u8 B] w fun e w' => e = .returned (.bool true) ∧ Gr w w' := by
  rcases (by omega : B % 2 = 0 ∨ B % 2 = 1) with h | h
  · exact mk_fin (n := 2) (k := 0) (by decide) hA hB (by rw [hn]; rfl) h mk_hops2 mt_2_0 w
  · exact mk_fin (n := 2) (k := 1) (by decide) hA hB (by rw [hn]; rfl) h mk_hops2 mt_2_1 w
theorem mk_n3 {A B : Int} (hA : 0 ≤ A ∧ A < 256) (hB : 0 ≤ B ∧ B < 256) (hn : A % 16 = 2) (w : World) : Calls Try.prog mkF #[.int .u8 A, .int .u8 B] w fun e w' => e = .returned (.bool true) ∧ Gr w w' := by
  rcases (by omega : B % 3 = 0 ∨ B % 3 = 1 ∨ B % 3 = 2) with h | h | h
  · exact mk_fin (n := 3) (k := 0) (by decide) hA hB (by rw [hn]; rfl) h mk_hops3 mt_3_0 w
  · exact mk_fin (n := 3) (k := 1) (by decide) hA hB (by rw [hn]; rfl) h mk_hops3 mt_3_1 w
  · exact mk_fin (n := 3) (k := 2) (by decide) hA hB (by rw [hn]; rfl) h mk_hops3 mt_3_2 w
theorem mk_n4 {A B : Int} (hA : 0 ≤ A ∧ A < 256) (hB : 0 ≤ B ∧ B < 256) (hn : A % 16 = 3) (w : World) : Calls Try.prog mkF #[.int .u8 A, .int .u8 B] w fun e w' => e = .returned (.bool true) ∧ Gr w w' := by
  rcases (by omega : B % 4 = 0 ∨ B % 4 = 1 ∨ B % 4 = 2 ∨ B % 4 = 3) with h | h | h | h
  · exact mk_fin (n := 4) (k := 0) (by decide) hA hB (by rw [hn]; rfl) h mk_hops4 mt_4_0 w
  · exact mk_fin (n := 4) (k := 1) (by decide) hA hB (by rw [hn]; rfl) h mk_hops4 mt_4_1 w
  · exact mk_fin (n := 4) (k := 2) (by decide) hA hB (by rw [hn]; rfl) h mk_hops4 mt_4_2 w
  · exact mk_fin (n := 4) (k := 3) (by decide) hA hB (by rw [hn]; rfl) h mk_hops4 mt_4_3 w
theorem mk_n5 {A B : Int} (hA : 0 ≤ A ∧ A < 256) (hB : 0 ≤ B ∧ B < 256) (hn : A % 16 = 4) (w : World) : Calls Try.prog mkF #[.int .u8 A, .int .u8 B] w fun e w' => e = .returned (.bool true) ∧ Gr w w' := by
  rcases (by omega : B % 5 = 0 ∨ B % 5 = 1 ∨ B % 5 = 2 ∨ B % 5 = 3 ∨ B % 5 = 4) with h | h | h | h | h
  · exact mk_fin (n := 5) (k := 0) (by decide) hA hB (by rw [hn]; rfl) h mk_hops5 mt_5_0 w
  · exact mk_fin (n := 5) (k := 1) (by decide) hA hB (by rw [hn]; rfl) h mk_hops5 mt_5_1 w
  · exact mk_fin (n := 5) (k := 2) (by decide) hA hB (by rw [hn]; rfl) h mk_hops5 mt_5_2 w
  · exact mk_fin (n := 5) (k := 3) (by decide) hA hB (by rw [hn]; rfl) h mk_hops5 mt_5_3 w
  · exact mk_fin (n := 5) (k := 4) (by decide) hA hB (by rw [hn]; rfl) h mk_hops5 mt_5_4 w
theorem mk_n6 {A B : Int} (hA : 0 ≤ A ∧ A < 256) (hB : 0 ≤ B ∧ B < 256) (hn : A % 16 = 5) (w : World) : Calls Try.prog mkF #[.int .u8 A, .int .u8 B] w fun e w' => e = .returned (.bool true) ∧ Gr w w' := by
  rcases (by omega : B % 6 = 0 ∨ B % 6 = 1 ∨ B % 6 = 2 ∨ B % 6 = 3 ∨ B % 6 = 4 ∨ B % 6 = 5) with h | h | h | h | h | h
  · exact mk_fin (n := 6) (k := 0) (by decide) hA hB (by rw [hn]; rfl) h mk_hops6 mt_6_0 w
  · exact mk_fin (n := 6) (k := 1) (by decide) hA hB (by rw [hn]; rfl) h mk_hops6 mt_6_1 w
  · exact mk_fin (n := 6) (k := 2) (by decide) hA hB (by rw [hn]; rfl) h mk_hops6 mt_6_2 w
  · exact mk_fin (n := 6) (k := 3) (by decide) hA hB (by rw [hn]; rfl) h mk_hops6 mt_6_3 w
  · exact mk_fin (n := 6) (k := 4) (by decide) hA hB (by rw [hn]; rfl) h mk_hops6 mt_6_4 w
  · exact mk_fin (n := 6) (k := 5) (by decide) hA hB (by rw [hn]; rfl) h mk_hops6 mt_6_5 w
theorem mk_n7 {A B : Int} (hA : 0 ≤ A ∧ A < 256) (hB : 0 ≤ B ∧ B < 256) (hn : A % 16 = 6) (w : World) : Calls Try.prog mkF #[.int .u8 A, .int .u8 B] w fun e w' => e = .returned (.bool true) ∧ Gr w w' := by
  rcases (by omega : B % 7 = 0 ∨ B % 7 = 1 ∨ B % 7 = 2 ∨ B % 7 = 3 ∨ B % 7 = 4 ∨ B % 7 = 5 ∨ B % 7 = 6) with h | h | h | h | h | h | h
  · exact mk_fin (n := 7) (k := 0) (by decide) hA hB (by rw [hn]; rfl) h mk_hops7 mt_7_0 w
  · exact mk_fin (n := 7) (k := 1) (by decide) hA hB (by rw [hn]; rfl) h mk_hops7 mt_7_1 w
  · exact mk_fin (n := 7) (k := 2) (by decide) hA hB (by rw [hn]; rfl) h mk_hops7 mt_7_2 w
  · exact mk_fin (n := 7) (k := 3) (by decide) hA hB (by rw [hn]; rfl) h mk_hops7 mt_7_3 w
  · exact mk_fin (n := 7) (k := 4) (by decide) hA hB (by rw [hn]; rfl) h mk_hops7 mt_7_4 w
  · exact mk_fin (n := 7) (k := 5) (by decide) hA hB (by rw [hn]; rfl) h mk_hops7 mt_7_5 w
  · exact mk_fin (n := 7) (k := 6) (by decide) hA hB (by rw [hn]; rfl) h mk_hops7 mt_7_6 w
theorem mk_n8 {A B : Int} (hA : 0 ≤ A ∧ A < 256) (hB : 0 ≤ B ∧ B < 256) (hn : A % 16 = 7) (w : World) : Calls Try.prog mkF #[.int .u8 A, .int .u8 B] w fun e w' => e = .returned (.bool true) ∧ Gr w w' := by
  rcases (by omega : B % 8 = 0 ∨ B % 8 = 1 ∨ B % 8 = 2 ∨ B % 8 = 3 ∨ B % 8 = 4 ∨ B % 8 = 5 ∨ B % 8 = 6 ∨ B % 8 = 7) with h | h | h | h | h | h | h | h
  · exact mk_fin (n := 8) (k := 0) (by decide) hA hB (by rw [hn]; rfl) h mk_hops8 mt_8_0 w
  · exact mk_fin (n := 8) (k := 1) (by decide) hA hB (by rw [hn]; rfl) h mk_hops8 mt_8_1 w
  · exact mk_fin (n := 8) (k := 2) (by decide) hA hB (by rw [hn]; rfl) h mk_hops8 mt_8_2 w
  · exact mk_fin (n := 8) (k := 3) (by decide) hA hB (by rw [hn]; rfl) h mk_hops8 mt_8_3 w
  · exact mk_fin (n := 8) (k := 4) (by decide) hA hB (by rw [hn]; rfl) h mk_hops8 mt_8_4 w
  · exact mk_fin (n := 8) (k := 5) (by decide) hA hB (by rw [hn]; rfl) h mk_hops8 mt_8_5 w
  · exact mk_fin (n := 8) (k := 6) (by decide) hA hB (by rw [hn]; rfl) h mk_hops8 mt_8_6 w
  · exact mk_fin (n := 8) (k := 7) (by decide) hA hB (by rw [hn]; rfl) h mk_hops8 mt_8_7 w
theorem mk_n9 {A B : Int} (hA : 0 ≤ A ∧ A < 256) (hB : 0 ≤ B ∧ B < 256) (hn : A % 16 = 8) (w : World) : Calls Try.prog mkF #[.int .u8 A, .int .u8 B] w fun e w' => e = .returned (.bool true) ∧ Gr w w' := by
  rcases (by omega : B % 9 = 0 ∨ B % 9 = 1 ∨ B % 9 = 2 ∨ B % 9 = 3 ∨ B % 9 = 4 ∨ B % 9 = 5 ∨ B % 9 = 6 ∨ B % 9 = 7 ∨ B % 9 = 8) with h | h | h | h | h | h | h | h | h
  · exact mk_fin (n := 9) (k := 0) (by decide) hA hB (by rw [hn]; rfl) h mk_hops9 mt_9_0 w
  · exact mk_fin (n := 9) (k := 1) (by decide) hA hB (by rw [hn]; rfl) h mk_hops9 mt_9_1 w
  · exact mk_fin (n := 9) (k := 2) (by decide) hA hB (by rw [hn]; rfl) h mk_hops9 mt_9_2 w
  · exact mk_fin (n := 9) (k := 3) (by decide) hA hB (by rw [hn]; rfl) h mk_hops9 mt_9_3 w
  · exact mk_fin (n := 9) (k := 4) (by decide) hA hB (by rw [hn]; rfl) h mk_hops9 mt_9_4 w
  · exact mk_fin (n := 9) (k := 5) (by decide) hA hB (by rw [hn]; rfl) h mk_hops9 mt_9_5 w
  · exact mk_fin (n := 9) (k := 6) (by decide) hA hB (by rw [hn]; rfl) h mk_hops9 mt_9_6 w
  · exact mk_fin (n := 9) (k := 7) (by decide) hA hB (by rw [hn]; rfl) h mk_hops9 mt_9_7 w
  · exact mk_fin (n := 9) (k := 8) (by decide) hA hB (by rw [hn]; rfl) h mk_hops9 mt_9_8 w
theorem mk_n10 {A B : Int} (hA : 0 ≤ A ∧ A < 256) (hB : 0 ≤ B ∧ B < 256) (hn : A % 16 = 9) (w : World) : Calls Try.prog mkF #[.int .u8 A, .int .u8 B] w fun e w' => e = .returned (.bool true) ∧ Gr w w' := by
  rcases (by omega : B % 10 = 0 ∨ B % 10 = 1 ∨ B % 10 = 2 ∨ B % 10 = 3 ∨ B % 10 = 4 ∨ B % 10 = 5 ∨ B % 10 = 6 ∨ B % 10 = 7 ∨ B % 10 = 8 ∨ B % 10 = 9) with h | h | h | h | h | h | h | h | h | h
  · exact mk_fin (n := 10) (k := 0) (by decide) hA hB (by rw [hn]; rfl) h mk_hops10 mt_10_0 w
  · exact mk_fin (n := 10) (k := 1) (by decide) hA hB (by rw [hn]; rfl) h mk_hops10 mt_10_1 w
  · exact mk_fin (n := 10) (k := 2) (by decide) hA hB (by rw [hn]; rfl) h mk_hops10 mt_10_2 w
  · exact mk_fin (n := 10) (k := 3) (by decide) hA hB (by rw [hn]; rfl) h mk_hops10 mt_10_3 w
  · exact mk_fin (n := 10) (k := 4) (by decide) hA hB (by rw [hn]; rfl) h mk_hops10 mt_10_4 w
  · exact mk_fin (n := 10) (k := 5) (by decide) hA hB (by rw [hn]; rfl) h mk_hops10 mt_10_5 w
  · exact mk_fin (n := 10) (k := 6) (by decide) hA hB (by rw [hn]; rfl) h mk_hops10 mt_10_6 w
  · exact mk_fin (n := 10) (k := 7) (by decide) hA hB (by rw [hn]; rfl) h mk_hops10 mt_10_7 w
  · exact mk_fin (n := 10) (k := 8) (by decide) hA hB (by rw [hn]; rfl) h mk_hops10 mt_10_8 w
  · exact mk_fin (n := 10) (k := 9) (by decide) hA hB (by rw [hn]; rfl) h mk_hops10 mt_10_9 w
theorem mk_n11 {A B : Int} (hA : 0 ≤ A ∧ A < 256) (hB : 0 ≤ B ∧ B < 256) (hn : A % 16 = 10) (w : World) : Calls Try.prog mkF #[.int .u8 A, .int .u8 B] w fun e w' => e = .returned (.bool true) ∧ Gr w w' := by
  rcases (by omega : B % 11 = 0 ∨ B % 11 = 1 ∨ B % 11 = 2 ∨ B % 11 = 3 ∨ B % 11 = 4 ∨ B % 11 = 5 ∨ B % 11 = 6 ∨ B % 11 = 7 ∨ B % 11 = 8 ∨ B % 11 = 9 ∨ B % 11 = 10) with h | h | h | h | h | h | h | h | h | h | h
  · exact mk_fin (n := 11) (k := 0) (by decide) hA hB (by rw [hn]; rfl) h mk_hops11 mt_11_0 w
  · exact mk_fin (n := 11) (k := 1) (by decide) hA hB (by rw [hn]; rfl) h mk_hops11 mt_11_1 w
  · exact mk_fin (n := 11) (k := 2) (by decide) hA hB (by rw [hn]; rfl) h mk_hops11 mt_11_2 w
  · exact mk_fin (n := 11) (k := 3) (by decide) hA hB (by rw [hn]; rfl) h mk_hops11 mt_11_3 w
  · exact mk_fin (n := 11) (k := 4) (by decide) hA hB (by rw [hn]; rfl) h mk_hops11 mt_11_4 w
  · exact mk_fin (n := 11) (k := 5) (by decide) hA hB (by rw [hn]; rfl) h mk_hops11 mt_11_5 w
  · exact mk_fin (n := 11) (k := 6) (by decide) hA hB (by rw [hn]; rfl) h mk_hops11 mt_11_6 w
  · exact mk_fin (n := 11) (k := 7) (by decide) hA hB (by rw [hn]; rfl) h mk_hops11 mt_11_7 w
  · exact mk_fin (n := 11) (k := 8) (by decide) hA hB (by rw [hn]; rfl) h mk_hops11 mt_11_8 w
  · exact mk_fin (n := 11) (k := 9) (by decide) hA hB (by rw [hn]; rfl) h mk_hops11 mt_11_9 w
  · exact mk_fin (n := 11) (k := 10) (by decide) hA hB (by rw [hn]; rfl) h mk_hops11 mt_11_10 w
theorem mk_n12 {A B : Int} (hA : 0 ≤ A ∧ A < 256) (hB : 0 ≤ B ∧ B < 256) (hn : A % 16 = 11) (w : World) : Calls Try.prog mkF #[.int .u8 A, .int .u8 B] w fun e w' => e = .returned (.bool true) ∧ Gr w w' := by
  rcases (by omega : B % 12 = 0 ∨ B % 12 = 1 ∨ B % 12 = 2 ∨ B % 12 = 3 ∨ B % 12 = 4 ∨ B % 12 = 5 ∨ B % 12 = 6 ∨ B % 12 = 7 ∨ B % 12 = 8 ∨ B % 12 = 9 ∨ B % 12 = 10 ∨ B % 12 = 11) with h | h | h | h | h | h | h | h | h | h | h | h
  · exact mk_fin (n := 12) (k := 0) (by decide) hA hB (by rw [hn]; rfl) h mk_hops12 mt_12_0 w
  · exact mk_fin (n := 12) (k := 1) (by decide) hA hB (by rw [hn]; rfl) h mk_hops12 mt_12_1 w
  · exact mk_fin (n := 12) (k := 2) (by decide) hA hB (by rw [hn]; rfl) h mk_hops12 mt_12_2 w
  · exact mk_fin (n := 12) (k := 3) (by decide) hA hB (by rw [hn]; rfl) h mk_hops12 mt_12_3 w
  · exact mk_fin (n := 12) (k := 4) (by decide) hA hB (by rw [hn]; rfl) h mk_hops12 mt_12_4 w
  · exact mk_fin (n := 12) (k := 5) (by decide) hA hB (by rw [hn]; rfl) h mk_hops12 mt_12_5 w
  · exact mk_fin (n := 12) (k := 6) (by decide) hA hB (by rw [hn]; rfl) h mk_hops12 mt_12_6 w
  · exact mk_fin (n := 12) (k := 7) (by decide) hA hB (by rw [hn]; rfl) h mk_hops12 mt_12_7 w
  · exact mk_fin (n := 12) (k := 8) (by decide) hA hB (by rw [hn]; rfl) h mk_hops12 mt_12_8 w
  · exact mk_fin (n := 12) (k := 9) (by decide) hA hB (by rw [hn]; rfl) h mk_hops12 mt_12_9 w
  · exact mk_fin (n := 12) (k := 10) (by decide) hA hB (by rw [hn]; rfl) h mk_hops12 mt_12_10 w
  · exact mk_fin (n := 12) (k := 11) (by decide) hA hB (by rw [hn]; rfl) h mk_hops12 mt_12_11 w
theorem mk_n13 {A B : Int} (hA : 0 ≤ A ∧ A < 256) (hB : 0 ≤ B ∧ B < 256) (hn : A % 16 = 12) (w : World) : Calls Try.prog mkF #[.int .u8 A, .int .u8 B] w fun e w' => e = .returned (.bool true) ∧ Gr w w' := by
  rcases (by omega : B % 13 = 0 ∨ B % 13 = 1 ∨ B % 13 = 2 ∨ B % 13 = 3 ∨ B % 13 = 4 ∨ B % 13 = 5 ∨ B % 13 = 6 ∨ B % 13 = 7 ∨ B % 13 = 8 ∨ B % 13 = 9 ∨ B % 13 = 10 ∨ B % 13 = 11 ∨ B % 13 = 12) with h | h | h | h | h | h | h | h | h | h | h | h | h
  · exact mk_fin (n := 13) (k := 0) (by decide) hA hB (by rw [hn]; rfl) h mk_hops13 mt_13_0 w
  · exact mk_fin (n := 13) (k := 1) (by decide) hA hB (by rw [hn]; rfl) h mk_hops13 mt_13_1 w
  · exact mk_fin (n := 13) (k := 2) (by decide) hA hB (by rw [hn]; rfl) h mk_hops13 mt_13_2 w
  · exact mk_fin (n := 13) (k := 3) (by decide) hA hB (by rw [hn]; rfl) h mk_hops13 mt_13_3 w
  · exact mk_fin (n := 13) (k := 4) (by decide) hA hB (by rw [hn]; rfl) h mk_hops13 mt_13_4 w
  · exact mk_fin (n := 13) (k := 5) (by decide) hA hB (by rw [hn]; rfl) h mk_hops13 mt_13_5 w
  · exact mk_fin (n := 13) (k := 6) (by decide) hA hB (by rw [hn]; rfl) h mk_hops13 mt_13_6 w
  · exact mk_fin (n := 13) (k := 7) (by decide) hA hB (by rw [hn]; rfl) h mk_hops13 mt_13_7 w
  · exact mk_fin (n := 13) (k := 8) (by decide) hA hB (by rw [hn]; rfl) h mk_hops13 mt_13_8 w
  · exact mk_fin (n := 13) (k := 9) (by decide) hA hB (by rw [hn]; rfl) h mk_hops13 mt_13_9 w
  · exact mk_fin (n := 13) (k := 10) (by decide) hA hB (by rw [hn]; rfl) h mk_hops13 mt_13_10 w
  · exact mk_fin (n := 13) (k := 11) (by decide) hA hB (by rw [hn]; rfl) h mk_hops13 mt_13_11 w
  · exact mk_fin (n := 13) (k := 12) (by decide) hA hB (by rw [hn]; rfl) h mk_hops13 mt_13_12 w
theorem mk_n14 {A B : Int} (hA : 0 ≤ A ∧ A < 256) (hB : 0 ≤ B ∧ B < 256) (hn : A % 16 = 13) (w : World) : Calls Try.prog mkF #[.int .u8 A, .int .u8 B] w fun e w' => e = .returned (.bool true) ∧ Gr w w' := by
  rcases (by omega : B % 14 = 0 ∨ B % 14 = 1 ∨ B % 14 = 2 ∨ B % 14 = 3 ∨ B % 14 = 4 ∨ B % 14 = 5 ∨ B % 14 = 6 ∨ B % 14 = 7 ∨ B % 14 = 8 ∨ B % 14 = 9 ∨ B % 14 = 10 ∨ B % 14 = 11 ∨ B % 14 = 12 ∨ B % 14 = 13) with h | h | h | h | h | h | h | h | h | h | h | h | h | h
  · exact mk_fin (n := 14) (k := 0) (by decide) hA hB (by rw [hn]; rfl) h mk_hops14 mt_14_0 w
  · exact mk_fin (n := 14) (k := 1) (by decide) hA hB (by rw [hn]; rfl) h mk_hops14 mt_14_1 w
  · exact mk_fin (n := 14) (k := 2) (by decide) hA hB (by rw [hn]; rfl) h mk_hops14 mt_14_2 w
  · exact mk_fin (n := 14) (k := 3) (by decide) hA hB (by rw [hn]; rfl) h mk_hops14 mt_14_3 w
  · exact mk_fin (n := 14) (k := 4) (by decide) hA hB (by rw [hn]; rfl) h mk_hops14 mt_14_4 w
  · exact mk_fin (n := 14) (k := 5) (by decide) hA hB (by rw [hn]; rfl) h mk_hops14 mt_14_5 w
  · exact mk_fin (n := 14) (k := 6) (by decide) hA hB (by rw [hn]; rfl) h mk_hops14 mt_14_6 w
  · exact mk_fin (n := 14) (k := 7) (by decide) hA hB (by rw [hn]; rfl) h mk_hops14 mt_14_7 w
  · exact mk_fin (n := 14) (k := 8) (by decide) hA hB (by rw [hn]; rfl) h mk_hops14 mt_14_8 w
  · exact mk_fin (n := 14) (k := 9) (by decide) hA hB (by rw [hn]; rfl) h mk_hops14 mt_14_9 w
  · exact mk_fin (n := 14) (k := 10) (by decide) hA hB (by rw [hn]; rfl) h mk_hops14 mt_14_10 w
  · exact mk_fin (n := 14) (k := 11) (by decide) hA hB (by rw [hn]; rfl) h mk_hops14 mt_14_11 w
  · exact mk_fin (n := 14) (k := 12) (by decide) hA hB (by rw [hn]; rfl) h mk_hops14 mt_14_12 w
  · exact mk_fin (n := 14) (k := 13) (by decide) hA hB (by rw [hn]; rfl) h mk_hops14 mt_14_13 w
theorem mk_n15 {A B : Int} (hA : 0 ≤ A ∧ A < 256) (hB : 0 ≤ B ∧ B < 256) (hn : A % 16 = 14) (w : World) : Calls Try.prog mkF #[.int .u8 A, .int .u8 B] w fun e w' => e = .returned (.bool true) ∧ Gr w w' := by
  rcases (by omega : B % 15 = 0 ∨ B % 15 = 1 ∨ B % 15 = 2 ∨ B % 15 = 3 ∨ B % 15 = 4 ∨ B % 15 = 5 ∨ B % 15 = 6 ∨ B % 15 = 7 ∨ B % 15 = 8 ∨ B % 15 = 9 ∨ B % 15 = 10 ∨ B % 15 = 11 ∨ B % 15 = 12 ∨ B % 15 = 13 ∨ B % 15 = 14) with h | h | h | h | h | h | h | h | h | h | h | h | h | h | h
  · exact mk_fin (n := 15) (k := 0) (by decide) hA hB (by rw [hn]; rfl) h mk_hops15 mt_15_0 w
  · exact mk_fin (n := 15) (k := 1) (by decide) hA hB (by rw [hn]; rfl) h mk_hops15 mt_15_1 w
  · exact mk_fin (n := 15) (k := 2) (by decide) hA hB (by rw [hn]; rfl) h mk_hops15 mt_15_2 w
  · exact mk_fin (n := 15) (k := 3) (by decide) hA hB (by rw [hn]; rfl) h mk_hops15 mt_15_3 w
  · exact mk_fin (n := 15) (k := 4) (by decide) hA hB (by rw [hn]; rfl) h mk_hops15 mt_15_4 w
  · exact mk_fin (n := 15) (k := 5) (by decide) hA hB (by rw [hn]; rfl) h mk_hops15 mt_15_5 w
  · exact mk_fin (n := 15) (k := 6) (by decide) hA hB (by rw [hn]; rfl) h mk_hops15 mt_15_6 w
  · exact mk_fin (n := 15) (k := 7) (by decide) hA hB (by rw [hn]; rfl) h mk_hops15 mt_15_7 w
  · exact mk_fin (n := 15) (k := 8) (by decide) hA hB (by rw [hn]; rfl) h mk_hops15 mt_15_8 w
  · exact mk_fin (n := 15) (k := 9) (by decide) hA hB (by rw [hn]; rfl) h mk_hops15 mt_15_9 w
  · exact mk_fin (n := 15) (k := 10) (by decide) hA hB (by rw [hn]; rfl) h mk_hops15 mt_15_10 w
  · exact mk_fin (n := 15) (k := 11) (by decide) hA hB (by rw [hn]; rfl) h mk_hops15 mt_15_11 w
  · exact mk_fin (n := 15) (k := 12) (by decide) hA hB (by rw [hn]; rfl) h mk_hops15 mt_15_12 w
  · exact mk_fin (n := 15) (k := 13) (by decide) hA hB (by rw [hn]; rfl) h mk_hops15 mt_15_13 w
  · exact mk_fin (n := 15) (k := 14) (by decide) hA hB (by rw [hn]; rfl) h mk_hops15 mt_15_14 w
theorem mk_n16 {A B : Int} (hA : 0 ≤ A ∧ A < 256) (hB : 0 ≤ B ∧ B < 256) (hn : A % 16 = 15) (w : World) : Calls Try.prog mkF #[.int .u8 A, .int .u8 B] w fun e w' => e = .returned (.bool true) ∧ Gr w w' := by
  rcases (by omega : B % 16 = 0 ∨ B % 16 = 1 ∨ B % 16 = 2 ∨ B % 16 = 3 ∨ B % 16 = 4 ∨ B % 16 = 5 ∨ B % 16 = 6 ∨ B % 16 = 7 ∨ B % 16 = 8 ∨ B % 16 = 9 ∨ B % 16 = 10 ∨ B % 16 = 11 ∨ B % 16 = 12 ∨ B % 16 = 13 ∨ B % 16 = 14 ∨ B % 16 = 15) with h | h | h | h | h | h | h | h | h | h | h | h | h | h | h | h
  · exact mk_fin (n := 16) (k := 0) (by decide) hA hB (by rw [hn]; rfl) h mk_hops16 mt_16_0 w
  · exact mk_fin (n := 16) (k := 1) (by decide) hA hB (by rw [hn]; rfl) h mk_hops16 mt_16_1 w
  · exact mk_fin (n := 16) (k := 2) (by decide) hA hB (by rw [hn]; rfl) h mk_hops16 mt_16_2 w
  · exact mk_fin (n := 16) (k := 3) (by decide) hA hB (by rw [hn]; rfl) h mk_hops16 mt_16_3 w
  · exact mk_fin (n := 16) (k := 4) (by decide) hA hB (by rw [hn]; rfl) h mk_hops16 mt_16_4 w
  · exact mk_fin (n := 16) (k := 5) (by decide) hA hB (by rw [hn]; rfl) h mk_hops16 mt_16_5 w
  · exact mk_fin (n := 16) (k := 6) (by decide) hA hB (by rw [hn]; rfl) h mk_hops16 mt_16_6 w
  · exact mk_fin (n := 16) (k := 7) (by decide) hA hB (by rw [hn]; rfl) h mk_hops16 mt_16_7 w
  · exact mk_fin (n := 16) (k := 8) (by decide) hA hB (by rw [hn]; rfl) h mk_hops16 mt_16_8 w
  · exact mk_fin (n := 16) (k := 9) (by decide) hA hB (by rw [hn]; rfl) h mk_hops16 mt_16_9 w
  · exact mk_fin (n := 16) (k := 10) (by decide) hA hB (by rw [hn]; rfl) h mk_hops16 mt_16_10 w
  · exact mk_fin (n := 16) (k := 11) (by decide) hA hB (by rw [hn]; rfl) h mk_hops16 mt_16_11 w
  · exact mk_fin (n := 16) (k := 12) (by decide) hA hB (by rw [hn]; rfl) h mk_hops16 mt_16_12 w
  · exact mk_fin (n := 16) (k := 13) (by decide) hA hB (by rw [hn]; rfl) h mk_hops16 mt_16_13 w
  · exact mk_fin (n := 16) (k := 14) (by decide) hA hB (by rw [hn]; rfl) h mk_hops16 mt_16_14 w
  · exact mk_fin (n := 16) (k := 15) (by decide) hA hB (by rw [hn]; rfl) h mk_hops16 mt_16_15 w
theorem law_keep {A B : Int} (w0 : (Lit.int .u8 A).wf = true) (w1 : (Lit.int .u8 B).wf = true) (w : World) : Calls Try.prog mkF #[.int .u8 A, .int .u8 B] w fun e w' => e = .returned (.bool true) ∧ Gr w w' := by
  simp [Lit.wf, IntKind.min, IntKind.max, IntKind.signed, IntKind.bits] at w0 w1
  rcases (by omega : A % 16 = 0 ∨ A % 16 = 1 ∨ A % 16 = 2 ∨ A % 16 = 3 ∨ A % 16 = 4 ∨ A % 16 = 5 ∨ A % 16 = 6 ∨ A % 16 = 7 ∨ A % 16 = 8 ∨ A % 16 = 9 ∨ A % 16 = 10 ∨ A % 16 = 11 ∨ A % 16 = 12 ∨ A % 16 = 13 ∨ A % 16 = 14 ∨ A % 16 = 15) with h | h | h | h | h | h | h | h | h | h | h | h | h | h | h | h
  · exact mk_n1 (by omega) (by omega) h w
  · exact mk_n2 (by omega) (by omega) h w
  · exact mk_n3 (by omega) (by omega) h w
  · exact mk_n4 (by omega) (by omega) h w
  · exact mk_n5 (by omega) (by omega) h w
  · exact mk_n6 (by omega) (by omega) h w
  · exact mk_n7 (by omega) (by omega) h w
  · exact mk_n8 (by omega) (by omega) h w
  · exact mk_n9 (by omega) (by omega) h w
  · exact mk_n10 (by omega) (by omega) h w
  · exact mk_n11 (by omega) (by omega) h w
  · exact mk_n12 (by omega) (by omega) h w
  · exact mk_n13 (by omega) (by omega) h w
  · exact mk_n14 (by omega) (by omega) h w
  · exact mk_n15 (by omega) (by omega) h w
  · exact mk_n16 (by omega) (by omega) h w
end Go.Proofs.Ytafegjmaldbbiaa.Ex
