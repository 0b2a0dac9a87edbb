/-
  Layer 11: how many bytes an instruction has.
-/
import Derived.Test.YtbaiokfjoglmiaaDoorDkH
namespace Go.Proofs.YtbaiokfjoglmiaaDoor.Ex
open Go Go.RowKit
set_option linter.unusedVariables false
set_option linter.unusedSimpArgs false
set_option maxHeartbeats 0
set_option maxRecDepth 1000000
theorem byR_len : ∀ (n : Nat) (v : Int), (byR v n).length = n
  | 0, _ => rfl
  | n + 1, v => by rw [byR, List.length_cons, byR_len n]
theorem immR_len (v : Int) (n : Nat) : (immR v n).length = n := byR_len n _
theorem rexS_len (wi : Bool) (r m : Int) (al : Bool) : (rexS wi r m al).length ≤ 1 := by
  unfold rexS
  split <;> simp
theorem len1 (al co si : Int) (wi sh : Bool) (ds sr dp re im : Int) : 1 ≤ (encS1 al co si wi sh ds sr dp re im).length ∧ (encS1 al co si wi sh ds sr dp re im).length ≤ 10 := by
  have h1 := rexS_len wi (Int.tdiv sr 8) (Int.tdiv ds 8) false
  have h2 := rexS_len wi (Int.tdiv ds 8) (Int.tdiv sr 8) false
  have h3 := rexS_len wi 0 (Int.tdiv ds 8) false
  have h4 := rexS_len wi (Int.tdiv sr 8) (Int.tdiv ds 8) (si == 1)
  unfold encS1
  (repeat' split) <;> simp only [List.length_append, List.length_cons, List.length_nil, immR_len] <;> (try (repeat' split)) <;> (try simp only [List.length_cons, List.length_nil]) <;> omega
theorem len2 (al co si : Int) (wi sh : Bool) (ds sr dp re im : Int) : 1 ≤ (encS2 al co si wi sh ds sr dp re im).length ∧ (encS2 al co si wi sh ds sr dp re im).length ≤ 10 := by
  have h1 := rexS_len wi (Int.tdiv sr 8) (Int.tdiv ds 8) false
  have h2 := rexS_len wi (Int.tdiv ds 8) (Int.tdiv sr 8) false
  have h3 := rexS_len wi 0 (Int.tdiv ds 8) false
  have h4 := rexS_len wi (Int.tdiv sr 8) (Int.tdiv ds 8) (si == 1)
  unfold encS2
  (repeat' split) <;> simp only [List.length_append, List.length_cons, List.length_nil, immR_len] <;> (try (repeat' split)) <;> (try simp only [List.length_cons, List.length_nil]) <;> omega
theorem len3 (al co si : Int) (wi sh : Bool) (ds sr dp re im : Int) : 1 ≤ (encS3 al co si wi sh ds sr dp re im).length ∧ (encS3 al co si wi sh ds sr dp re im).length ≤ 10 := by
  have h1 := rexS_len wi (Int.tdiv sr 8) (Int.tdiv ds 8) false
  have h2 := rexS_len wi (Int.tdiv ds 8) (Int.tdiv sr 8) false
  have h3 := rexS_len wi 0 (Int.tdiv ds 8) false
  have h4 := rexS_len wi (Int.tdiv sr 8) (Int.tdiv ds 8) (si == 1)
  unfold encS3
  (repeat' split) <;> simp only [List.length_append, List.length_cons, List.length_nil, immR_len] <;> (try (repeat' split)) <;> (try simp only [List.length_cons, List.length_nil]) <;> omega
theorem len4 (al co si : Int) (wi sh : Bool) (ds sr dp re im : Int) : 1 ≤ (encS4 al co si wi sh ds sr dp re im).length ∧ (encS4 al co si wi sh ds sr dp re im).length ≤ 10 := by
  have h1 := rexS_len wi (Int.tdiv sr 8) (Int.tdiv ds 8) false
  have h2 := rexS_len wi (Int.tdiv ds 8) (Int.tdiv sr 8) false
  have h3 := rexS_len wi 0 (Int.tdiv ds 8) false
  have h4 := rexS_len wi (Int.tdiv sr 8) (Int.tdiv ds 8) (si == 1)
  unfold encS4
  (repeat' split) <;> simp only [List.length_append, List.length_cons, List.length_nil, immR_len] <;> (try (repeat' split)) <;> (try simp only [List.length_cons, List.length_nil]) <;> omega
theorem len5 (al co si : Int) (wi sh : Bool) (ds sr dp re im : Int) : 1 ≤ (encS5 al co si wi sh ds sr dp re im).length ∧ (encS5 al co si wi sh ds sr dp re im).length ≤ 10 := by
  have h1 := rexS_len wi (Int.tdiv sr 8) (Int.tdiv ds 8) false
  have h2 := rexS_len wi (Int.tdiv ds 8) (Int.tdiv sr 8) false
  have h3 := rexS_len wi 0 (Int.tdiv ds 8) false
  have h4 := rexS_len wi (Int.tdiv sr 8) (Int.tdiv ds 8) (si == 1)
  unfold encS5
  (repeat' split) <;> simp only [List.length_append, List.length_cons, List.length_nil, immR_len] <;> (try (repeat' split)) <;> (try simp only [List.length_cons, List.length_nil]) <;> omega
theorem len6 (al co si : Int) (wi sh : Bool) (ds sr dp re im : Int) : 1 ≤ (encS6 al co si wi sh ds sr dp re im).length ∧ (encS6 al co si wi sh ds sr dp re im).length ≤ 10 := by
  have h1 := rexS_len wi (Int.tdiv sr 8) (Int.tdiv ds 8) false
  have h2 := rexS_len wi (Int.tdiv ds 8) (Int.tdiv sr 8) false
  have h3 := rexS_len wi 0 (Int.tdiv ds 8) false
  have h4 := rexS_len wi (Int.tdiv sr 8) (Int.tdiv ds 8) (si == 1)
  unfold encS6
  (repeat' split) <;> simp only [List.length_append, List.length_cons, List.length_nil, immR_len] <;> (try (repeat' split)) <;> (try simp only [List.length_cons, List.length_nil]) <;> omega
theorem len7 (al co si : Int) (wi sh : Bool) (ds sr dp re im : Int) : 1 ≤ (encS7 al co si wi sh ds sr dp re im).length ∧ (encS7 al co si wi sh ds sr dp re im).length ≤ 10 := by
  have h1 := rexS_len wi (Int.tdiv sr 8) (Int.tdiv ds 8) false
  have h2 := rexS_len wi (Int.tdiv ds 8) (Int.tdiv sr 8) false
  have h3 := rexS_len wi 0 (Int.tdiv ds 8) false
  have h4 := rexS_len wi (Int.tdiv sr 8) (Int.tdiv ds 8) (si == 1)
  unfold encS7
  (repeat' split) <;> simp only [List.length_append, List.length_cons, List.length_nil, immR_len] <;> (try (repeat' split)) <;> (try simp only [List.length_cons, List.length_nil]) <;> omega
theorem len8 (al co si : Int) (wi sh : Bool) (ds sr dp re im : Int) : 1 ≤ (encS8 al co si wi sh ds sr dp re im).length ∧ (encS8 al co si wi sh ds sr dp re im).length ≤ 10 := by
  have h1 := rexS_len wi (Int.tdiv sr 8) (Int.tdiv ds 8) false
  have h2 := rexS_len wi (Int.tdiv ds 8) (Int.tdiv sr 8) false
  have h3 := rexS_len wi 0 (Int.tdiv ds 8) false
  have h4 := rexS_len wi (Int.tdiv sr 8) (Int.tdiv ds 8) (si == 1)
  unfold encS8
  (repeat' split) <;> simp only [List.length_append, List.length_cons, List.length_nil, immR_len] <;> (try (repeat' split)) <;> (try simp only [List.length_cons, List.length_nil]) <;> omega
theorem len9 (al co si : Int) (wi sh : Bool) (ds sr dp re im : Int) : 1 ≤ (encS9 al co si wi sh ds sr dp re im).length ∧ (encS9 al co si wi sh ds sr dp re im).length ≤ 10 := by
  have h1 := rexS_len wi (Int.tdiv sr 8) (Int.tdiv ds 8) false
  have h2 := rexS_len wi (Int.tdiv ds 8) (Int.tdiv sr 8) false
  have h3 := rexS_len wi 0 (Int.tdiv ds 8) false
  have h4 := rexS_len wi (Int.tdiv sr 8) (Int.tdiv ds 8) (si == 1)
  unfold encS9
  (repeat' split) <;> simp only [List.length_append, List.length_cons, List.length_nil, immR_len] <;> (try (repeat' split)) <;> (try simp only [List.length_cons, List.length_nil]) <;> omega
theorem len10 (al co si : Int) (wi sh : Bool) (ds sr dp re im : Int) : 1 ≤ (encS10 al co si wi sh ds sr dp re im).length ∧ (encS10 al co si wi sh ds sr dp re im).length ≤ 10 := by
  have h1 := rexS_len wi (Int.tdiv sr 8) (Int.tdiv ds 8) false
  have h2 := rexS_len wi (Int.tdiv ds 8) (Int.tdiv sr 8) false
  have h3 := rexS_len wi 0 (Int.tdiv ds 8) false
  have h4 := rexS_len wi (Int.tdiv sr 8) (Int.tdiv ds 8) (si == 1)
  unfold encS10
  (repeat' split) <;> simp only [List.length_append, List.length_cons, List.length_nil, immR_len] <;> (try (repeat' split)) <;> (try simp only [List.length_cons, List.length_nil]) <;> omega
theorem len11 (al co si : Int) (wi sh : Bool) (ds sr dp re im : Int) : 1 ≤ (encS11 al co si wi sh ds sr dp re im).length ∧ (encS11 al co si wi sh ds sr dp re im).length ≤ 10 := by
  have h1 := rexS_len wi (Int.tdiv sr 8) (Int.tdiv ds 8) false
  have h2 := rexS_len wi (Int.tdiv ds 8) (Int.tdiv sr 8) false
  have h3 := rexS_len wi 0 (Int.tdiv ds 8) false
  have h4 := rexS_len wi (Int.tdiv sr 8) (Int.tdiv ds 8) (si == 1)
  unfold encS11
  (repeat' split) <;> simp only [List.length_append, List.length_cons, List.length_nil, immR_len] <;> (try (repeat' split)) <;> (try simp only [List.length_cons, List.length_nil]) <;> omega
theorem len12 (al co si : Int) (wi sh : Bool) (ds sr dp re im : Int) : 1 ≤ (encS12 al co si wi sh ds sr dp re im).length ∧ (encS12 al co si wi sh ds sr dp re im).length ≤ 10 := by
  have h1 := rexS_len wi (Int.tdiv sr 8) (Int.tdiv ds 8) false
  have h2 := rexS_len wi (Int.tdiv ds 8) (Int.tdiv sr 8) false
  have h3 := rexS_len wi 0 (Int.tdiv ds 8) false
  have h4 := rexS_len wi (Int.tdiv sr 8) (Int.tdiv ds 8) (si == 1)
  unfold encS12
  (repeat' split) <;> simp only [List.length_append, List.length_cons, List.length_nil, immR_len] <;> (try (repeat' split)) <;> (try simp only [List.length_cons, List.length_nil]) <;> omega
theorem len13 (al co si : Int) (wi sh : Bool) (ds sr dp re im : Int) : 1 ≤ (encS13 al co si wi sh ds sr dp re im).length ∧ (encS13 al co si wi sh ds sr dp re im).length ≤ 10 := by
  have h1 := rexS_len wi (Int.tdiv sr 8) (Int.tdiv ds 8) false
  have h2 := rexS_len wi (Int.tdiv ds 8) (Int.tdiv sr 8) false
  have h3 := rexS_len wi 0 (Int.tdiv ds 8) false
  have h4 := rexS_len wi (Int.tdiv sr 8) (Int.tdiv ds 8) (si == 1)
  unfold encS13
  (repeat' split) <;> simp only [List.length_append, List.length_cons, List.length_nil, immR_len] <;> (try (repeat' split)) <;> (try simp only [List.length_cons, List.length_nil]) <;> omega
theorem len14 (al co si : Int) (wi sh : Bool) (ds sr dp re im : Int) : 1 ≤ (encS14 al co si wi sh ds sr dp re im).length ∧ (encS14 al co si wi sh ds sr dp re im).length ≤ 10 := by
  have h1 := rexS_len wi (Int.tdiv sr 8) (Int.tdiv ds 8) false
  have h2 := rexS_len wi (Int.tdiv ds 8) (Int.tdiv sr 8) false
  have h3 := rexS_len wi 0 (Int.tdiv ds 8) false
  have h4 := rexS_len wi (Int.tdiv sr 8) (Int.tdiv ds 8) (si == 1)
  unfold encS14
  (repeat' split) <;> simp only [List.length_append, List.length_cons, List.length_nil, immR_len] <;> (try (repeat' split)) <;> (try simp only [List.length_cons, List.length_nil]) <;> omega
theorem len15 (al co si : Int) (wi sh : Bool) (ds sr dp re im : Int) : 1 ≤ (encS15 al co si wi sh ds sr dp re im).length ∧ (encS15 al co si wi sh ds sr dp re im).length ≤ 10 := by
  have h1 := rexS_len wi (Int.tdiv sr 8) (Int.tdiv ds 8) false
  have h2 := rexS_len wi (Int.tdiv ds 8) (Int.tdiv sr 8) false
  have h3 := rexS_len wi 0 (Int.tdiv ds 8) false
  have h4 := rexS_len wi (Int.tdiv sr 8) (Int.tdiv ds 8) (si == 1)
  unfold encS15
  (repeat' split) <;> simp only [List.length_append, List.length_cons, List.length_nil, immR_len] <;> (try (repeat' split)) <;> (try simp only [List.length_cons, List.length_nil]) <;> omega
theorem len16 (al co si : Int) (wi sh : Bool) (ds sr dp re im : Int) : 1 ≤ (encS16 al co si wi sh ds sr dp re im).length ∧ (encS16 al co si wi sh ds sr dp re im).length ≤ 10 := by
  have h1 := rexS_len wi (Int.tdiv sr 8) (Int.tdiv ds 8) false
  have h2 := rexS_len wi (Int.tdiv ds 8) (Int.tdiv sr 8) false
  have h3 := rexS_len wi 0 (Int.tdiv ds 8) false
  have h4 := rexS_len wi (Int.tdiv sr 8) (Int.tdiv ds 8) (si == 1)
  unfold encS16
  (repeat' split) <;> simp only [List.length_append, List.length_cons, List.length_nil, immR_len] <;> (try (repeat' split)) <;> (try simp only [List.length_cons, List.length_nil]) <;> omega
theorem len17 (al co si : Int) (wi sh : Bool) (ds sr dp re im : Int) : 1 ≤ (encS17 al co si wi sh ds sr dp re im).length ∧ (encS17 al co si wi sh ds sr dp re im).length ≤ 10 := by
  have h1 := rexS_len wi (Int.tdiv sr 8) (Int.tdiv ds 8) false
  have h2 := rexS_len wi (Int.tdiv ds 8) (Int.tdiv sr 8) false
  have h3 := rexS_len wi 0 (Int.tdiv ds 8) false
  have h4 := rexS_len wi (Int.tdiv sr 8) (Int.tdiv ds 8) (si == 1)
  unfold encS17
  (repeat' split) <;> simp only [List.length_append, List.length_cons, List.length_nil, immR_len] <;> (try (repeat' split)) <;> (try simp only [List.length_cons, List.length_nil]) <;> omega
theorem len18 (al co si : Int) (wi sh : Bool) (ds sr dp re im : Int) : 1 ≤ (encS18 al co si wi sh ds sr dp re im).length ∧ (encS18 al co si wi sh ds sr dp re im).length ≤ 10 := by
  have h1 := rexS_len wi (Int.tdiv sr 8) (Int.tdiv ds 8) false
  have h2 := rexS_len wi (Int.tdiv ds 8) (Int.tdiv sr 8) false
  have h3 := rexS_len wi 0 (Int.tdiv ds 8) false
  have h4 := rexS_len wi (Int.tdiv sr 8) (Int.tdiv ds 8) (si == 1)
  unfold encS18
  (repeat' split) <;> simp only [List.length_append, List.length_cons, List.length_nil, immR_len] <;> (try (repeat' split)) <;> (try simp only [List.length_cons, List.length_nil]) <;> omega
theorem len19 (al co si : Int) (wi sh : Bool) (ds sr dp re im : Int) : 1 ≤ (encS19 al co si wi sh ds sr dp re im).length ∧ (encS19 al co si wi sh ds sr dp re im).length ≤ 10 := by
  have h1 := rexS_len wi (Int.tdiv sr 8) (Int.tdiv ds 8) false
  have h2 := rexS_len wi (Int.tdiv ds 8) (Int.tdiv sr 8) false
  have h3 := rexS_len wi 0 (Int.tdiv ds 8) false
  have h4 := rexS_len wi (Int.tdiv sr 8) (Int.tdiv ds 8) (si == 1)
  unfold encS19
  (repeat' split) <;> simp only [List.length_append, List.length_cons, List.length_nil, immR_len] <;> (try (repeat' split)) <;> (try simp only [List.length_cons, List.length_nil]) <;> omega
theorem len20 (al co si : Int) (wi sh : Bool) (ds sr dp re im : Int) : 1 ≤ (encS20 al co si wi sh ds sr dp re im).length ∧ (encS20 al co si wi sh ds sr dp re im).length ≤ 10 := by
  have h1 := rexS_len wi (Int.tdiv sr 8) (Int.tdiv ds 8) false
  have h2 := rexS_len wi (Int.tdiv ds 8) (Int.tdiv sr 8) false
  have h3 := rexS_len wi 0 (Int.tdiv ds 8) false
  have h4 := rexS_len wi (Int.tdiv sr 8) (Int.tdiv ds 8) (si == 1)
  unfold encS20
  (repeat' split) <;> simp only [List.length_append, List.length_cons, List.length_nil, immR_len] <;> (try (repeat' split)) <;> (try simp only [List.length_cons, List.length_nil]) <;> omega
theorem len21 (al co si : Int) (wi sh : Bool) (ds sr dp re im : Int) : 1 ≤ (encS21 al co si wi sh ds sr dp re im).length ∧ (encS21 al co si wi sh ds sr dp re im).length ≤ 10 := by
  have h1 := rexS_len wi (Int.tdiv sr 8) (Int.tdiv ds 8) false
  have h2 := rexS_len wi (Int.tdiv ds 8) (Int.tdiv sr 8) false
  have h3 := rexS_len wi 0 (Int.tdiv ds 8) false
  have h4 := rexS_len wi (Int.tdiv sr 8) (Int.tdiv ds 8) (si == 1)
  unfold encS21
  (repeat' split) <;> simp only [List.length_append, List.length_cons, List.length_nil, immR_len] <;> (try (repeat' split)) <;> (try simp only [List.length_cons, List.length_nil]) <;> omega
theorem by_len {x : XX} (h : x.may = true) : 1 ≤ x.by.length ∧ x.by.length ≤ 10 := by
  obtain ⟨k, al, co, si, wi, sh, ds, sr, dp, re, im⟩ := x
  by_cases hk : 1 ≤ k ∧ k ≤ 21
  · rcases kinds (k := k) (by simp only [decide_eq_false_iff_not]; omega) (by simp only [decide_eq_false_iff_not]; omega) with rfl | rfl | rfl | rfl | rfl | rfl | rfl | rfl | rfl | rfl | rfl | rfl | rfl | rfl | rfl | rfl | rfl | rfl | rfl | rfl | rfl
    · exact len1 al co si wi sh ds sr dp re im
    · exact len2 al co si wi sh ds sr dp re im
    · exact len3 al co si wi sh ds sr dp re im
    · exact len4 al co si wi sh ds sr dp re im
    · exact len5 al co si wi sh ds sr dp re im
    · exact len6 al co si wi sh ds sr dp re im
    · exact len7 al co si wi sh ds sr dp re im
    · exact len8 al co si wi sh ds sr dp re im
    · exact len9 al co si wi sh ds sr dp re im
    · exact len10 al co si wi sh ds sr dp re im
    · exact len11 al co si wi sh ds sr dp re im
    · exact len12 al co si wi sh ds sr dp re im
    · exact len13 al co si wi sh ds sr dp re im
    · exact len14 al co si wi sh ds sr dp re im
    · exact len15 al co si wi sh ds sr dp re im
    · exact len16 al co si wi sh ds sr dp re im
    · exact len17 al co si wi sh ds sr dp re im
    · exact len18 al co si wi sh ds sr dp re im
    · exact len19 al co si wi sh ds sr dp re im
    · exact len20 al co si wi sh ds sr dp re im
    · exact len21 al co si wi sh ds sr dp re im
  · exfalso
    have nd : ∀ n : Int, 1 ≤ n → n ≤ 21 → ¬ k = n := fun n h1 h2 => by omega
    have hv : vP k al co si wi sh ds sr dp re im = true := h
    unfold vP at hv
    rw [if_neg (nd 1 (by omega) (by omega)), if_neg (nd 2 (by omega) (by omega)), if_neg (nd 3 (by omega) (by omega)), if_neg (nd 4 (by omega) (by omega)), if_neg (nd 5 (by omega) (by omega)), if_neg (nd 6 (by omega) (by omega)), if_neg (nd 7 (by omega) (by omega)), if_neg (nd 8 (by omega) (by omega)), if_neg (nd 9 (by omega) (by omega)), if_neg (nd 10 (by omega) (by omega)), if_neg (nd 11 (by omega) (by omega)), if_neg (nd 12 (by omega) (by omega)), if_neg (nd 13 (by omega) (by omega)), if_neg (nd 14 (by omega) (by omega)), if_neg (nd 15 (by omega) (by omega)), if_neg (nd 16 (by omega) (by omega)), if_neg (nd 17 (by omega) (by omega)), if_neg (nd 18 (by omega) (by omega)), if_neg (nd 19 (by omega) (by omega)), if_neg (nd 20 (by omega) (by omega)), if_neg (nd 21 (by omega) (by omega))] at hv
    cases hv
end Go.Proofs.YtbaiokfjoglmiaaDoor.Ex
