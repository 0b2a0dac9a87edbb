/-
  The law MemoryWrite: its pairs hold.
-/
import Derived.Test.YtkdnjphgmifkmaaMw4
namespace Go.Proofs.Ytkdnjphgmifkmaa.Ex
open Go Go.RowKit
set_option maxHeartbeats 400000
set_option linter.unusedVariables false
theorem b1 {p : Prop} [Decidable p] (h : p) : b2i (decide p) = 1 := by rw [decide_eq_true h]; rfl
theorem b0 {p : Prop} [Decidable p] (h : ¬p) : b2i (decide p) = 0 := by rw [decide_eq_false h]; rfl
theorem bt {x : Bool} (h : x = true) : b2i x = 1 := by rw [h]; rfl
theorem bf {x : Bool} (h : x = false) : b2i x = 0 := by rw [h]; rfl
theorem room_ok {n : Nat} (h : n ≤ 300) : room5 n = true := by
  have e : room5 n = (decide (0 < 1) && !(Nat.beq 1 GM) && decide ((2 * n + 200) * 1 ≤ 2 ^ 48) && decide ((n : Int) ≤ IntKind.i64.max) && true) := by kernel_rfl
  rw [e]
  have h1 : IntKind.i64.max = 9223372036854775807 := by decide
  have h2 : Nat.beq 1 GM = false := by decide +kernel
  rw [h1, h2]
  simp only [Bool.and_eq_true, decide_eq_true_eq]
  refine ⟨⟨⟨⟨?_, ?_⟩, ?_⟩, ?_⟩, trivial⟩
  · decide
  · decide
  · omega
  · omega
theorem clP_ok {L : List UInt8} (h1 : 8 ≤ L.length) (h2 : L.length ≤ 300) : ∀ c ∈ clP L, c.1 = c.2 := by
  have e : ((mwC L).drop 0).take L.length = mwC L := mwK_eq L
  intro c hc
  unfold clP at hc
  rw [e] at hc
  simp only [List.mem_cons, List.not_mem_nil, or_false] at hc
  rcases hc with rfl | rfl | rfl
  · exact bt (by rw [mwC_one, room_ok h2, mwC_len]; simp; omega)
  · rfl
  · exact bt (mwC_scal L)
theorem fP_ok {s A B n o : Int} (h1 : A - B = o) (h2 : 0 ≤ o) (h3 : o + n ≤ s) (h4 : 1 ≤ n) (h5 : s ≤ 300) : ∀ c ∈ fP s A B n, c.1 = c.2 := by
  intro c hc
  simp only [fP, h1, List.mem_cons, List.not_mem_nil, or_false] at hc
  rw [wu_id (x := o) h2 (by omega), wu_id (x := s) (by omega) (by omega), wu_id (x := s - o) (by omega) (by omega), wu_id (x := n) (by omega) (by omega)] at hc
  rcases hc with rfl | rfl
  · exact b0 (by omega)
  · exact b0 (by omega)
theorem slP_ok {s o u : Int} (h1 : 0 ≤ o) (h2 : o ≤ u) (h3 : u ≤ s) (h4 : o < s) : b2i (slP s o u) = 1 := by
  apply bt
  simp only [slP, Bool.and_eq_true, Bool.or_eq_true, decide_eq_true_eq]
  omega
theorem cvP_ok {M : List UInt8} {o u : Int} (h1 : 0 ≤ o) (h2 : o ≤ u) (h3 : u ≤ M.length) : (cvP (mwC M) o u).1 = (cvP (mwC M) o u).2 := by
  unfold cvP
  apply bt
  rw [mwC_u8, mwC_len]
  simp
  omega
theorem txP_ok {M : List UInt8} {s A B : Int} (h0 : A = B) (hs : (M.length : Int) = s) (h1 : 8 ≤ s) (h2 : s ≤ 300) : ∀ c ∈ txP s A B (mwC M), c.1 = c.2 := by
  have hO : mO A B = 0 := by unfold mO; rw [h0, Int.sub_self, wu_id (by omega) (by omega), wi_id (by omega) (by omega)]
  intro c hc
  unfold txP at hc
  rw [hO, wi_id (x := 0 + s) (by omega) (by omega)] at hc
  rcases List.mem_append.1 hc with hc | hc
  · exact fP_ok (o := 0) (by omega) (by omega) (by omega) (by omega) h2 c hc
  · simp only [List.mem_cons, List.not_mem_nil, or_false] at hc
    rcases hc with rfl | rfl
    · exact slP_ok (by omega) (by omega) (by omega) (by omega)
    · exact cvP_ok (by omega) (by omega) (by omega)
theorem mTx_all {M : List UInt8} {A B s : Int} (h0 : A = B) (hs : (M.length : Int) = s) (h1 : 0 ≤ s) (h2 : s ≤ 300) : mTx (mwC M) (mO A B) (wi (mO A B + s)) = ⟨⟨M⟩⟩ := by
  have hO : mO A B = 0 := by unfold mO; rw [h0, Int.sub_self, wu_id (by omega) (by omega), wi_id (by omega) (by omega)]
  rw [hO, wi_id (x := 0 + s) (by omega) (by omega), mTx_eq, show (0 + s).toNat - (0 : Int).toNat = M.length from by omega]
  simp
end Go.Proofs.Ytkdnjphgmifkmaa.Ex
