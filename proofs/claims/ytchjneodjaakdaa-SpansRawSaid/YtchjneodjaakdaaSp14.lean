/-
  The walk of the law SpansRaw.
-/
import Derived.Test.YtchjneodjaakdaaSp7
import Derived.Test.YtchjneodjaakdaaSp10
import Derived.Test.YtchjneodjaakdaaSp12
import Derived.Test.YtchjneodjaakdaaSp13
namespace Go.Proofs.Ytchjneodjaakdaa
open Go.RowKit
set_option maxRecDepth 100000 in
set_option maxHeartbeats 8000000 in
theorem spansRaw_walk (alo ahi aslo ashi blo bhi bslo bshi : BitVec 64) (n : Int) (h0 : -9223372036854775808 ≤ n) (h1 : n ≤ 9223372036854775807) (w : World) : Calls Try.prog 9 #[.agg #[.int .u64 (N alo), .int .u64 (N ahi), .int .i64 (Z aslo), .int .i64 (Z ashi)], .agg #[.int .u64 (N blo), .int .u64 (N bhi), .int .i64 (Z bslo), .int .i64 (Z bshi)], .int .i64 n] w fun e w' => e = .returned (.bool true) ∧ Grown w w' := by
  have HN0 := Lib.hid h0
  have HN1 := Lib.hid h1
  clear h0 h1
  go_enter Try.func9, Try.ntmps9
  go_upto_region 1 with fail
  have hgr : Grown w ((w.alloc (.cells #[.int .u64 (N alo), .int .u64 (N ahi), .int .i64 (Z aslo), .int .i64 (Z ashi)] 49)).alloc (.cells #[.int .u64 (N blo), .int .u64 (N bhi), .int .i64 (Z bslo), .int .i64 (Z bshi)] 49)) := by go_grown
  have ca0 : ((w.alloc (.cells #[.int .u64 (N alo), .int .u64 (N ahi), .int .i64 (Z aslo), .int .i64 (Z ashi)] 49)).alloc (.cells #[.int .u64 (N blo), .int .u64 (N bhi), .int .i64 (Z bslo), .int .i64 (Z bshi)] 49)).cell? ⟨w.heap.size, 0, none⟩ = some (.int .u64 (N alo)) := by simp [go_sem]
  have ca1 : ((w.alloc (.cells #[.int .u64 (N alo), .int .u64 (N ahi), .int .i64 (Z aslo), .int .i64 (Z ashi)] 49)).alloc (.cells #[.int .u64 (N blo), .int .u64 (N bhi), .int .i64 (Z bslo), .int .i64 (Z bshi)] 49)).cell? ⟨w.heap.size, 1, none⟩ = some (.int .u64 (N ahi)) := by simp [go_sem]
  have ca2 : ((w.alloc (.cells #[.int .u64 (N alo), .int .u64 (N ahi), .int .i64 (Z aslo), .int .i64 (Z ashi)] 49)).alloc (.cells #[.int .u64 (N blo), .int .u64 (N bhi), .int .i64 (Z bslo), .int .i64 (Z bshi)] 49)).cell? ⟨w.heap.size, 2, none⟩ = some (.int .i64 (Z aslo)) := by simp [go_sem]
  have ca3 : ((w.alloc (.cells #[.int .u64 (N alo), .int .u64 (N ahi), .int .i64 (Z aslo), .int .i64 (Z ashi)] 49)).alloc (.cells #[.int .u64 (N blo), .int .u64 (N bhi), .int .i64 (Z bslo), .int .i64 (Z bshi)] 49)).cell? ⟨w.heap.size, 3, none⟩ = some (.int .i64 (Z ashi)) := by simp [go_sem]
  have ha : w.heap.size < ((w.alloc (.cells #[.int .u64 (N alo), .int .u64 (N ahi), .int .i64 (Z aslo), .int .i64 (Z ashi)] 49)).alloc (.cells #[.int .u64 (N blo), .int .u64 (N bhi), .int .i64 (Z bslo), .int .i64 (Z bshi)] 49)).heap.size := by simp <;> omega
  have cb0 : ((w.alloc (.cells #[.int .u64 (N alo), .int .u64 (N ahi), .int .i64 (Z aslo), .int .i64 (Z ashi)] 49)).alloc (.cells #[.int .u64 (N blo), .int .u64 (N bhi), .int .i64 (Z bslo), .int .i64 (Z bshi)] 49)).cell? ⟨w.heap.size + 1, 0, none⟩ = some (.int .u64 (N blo)) := by simp [go_sem]
  have cb1 : ((w.alloc (.cells #[.int .u64 (N alo), .int .u64 (N ahi), .int .i64 (Z aslo), .int .i64 (Z ashi)] 49)).alloc (.cells #[.int .u64 (N blo), .int .u64 (N bhi), .int .i64 (Z bslo), .int .i64 (Z bshi)] 49)).cell? ⟨w.heap.size + 1, 1, none⟩ = some (.int .u64 (N bhi)) := by simp [go_sem]
  have cb2 : ((w.alloc (.cells #[.int .u64 (N alo), .int .u64 (N ahi), .int .i64 (Z aslo), .int .i64 (Z ashi)] 49)).alloc (.cells #[.int .u64 (N blo), .int .u64 (N bhi), .int .i64 (Z bslo), .int .i64 (Z bshi)] 49)).cell? ⟨w.heap.size + 1, 2, none⟩ = some (.int .i64 (Z bslo)) := by simp [go_sem]
  have cb3 : ((w.alloc (.cells #[.int .u64 (N alo), .int .u64 (N ahi), .int .i64 (Z aslo), .int .i64 (Z ashi)] 49)).alloc (.cells #[.int .u64 (N blo), .int .u64 (N bhi), .int .i64 (Z bslo), .int .i64 (Z bshi)] 49)).cell? ⟨w.heap.size + 1, 3, none⟩ = some (.int .i64 (Z bshi)) := by simp [go_sem]
  have hb : w.heap.size + 1 < ((w.alloc (.cells #[.int .u64 (N alo), .int .u64 (N ahi), .int .i64 (Z aslo), .int .i64 (Z ashi)] 49)).alloc (.cells #[.int .u64 (N blo), .int .u64 (N bhi), .int .i64 (Z bslo), .int .i64 (Z bshi)] 49)).heap.size := by simp <;> omega
  generalize ((w.alloc (.cells #[.int .u64 (N alo), .int .u64 (N ahi), .int .i64 (Z aslo), .int .i64 (Z ashi)] 49)).alloc (.cells #[.int .u64 (N blo), .int .u64 (N bhi), .int .i64 (Z bslo), .int .i64 (Z bshi)] 49)) = W0 at *
  generalize w.heap.size = A at *
  have HG := Lib.hid hgr
  clear hgr
  have G : Grown W0 W0 := Grown.refl _
  go_wp2_with (first | (go_at_call 34; ((with_reducible refine (sp_add _ _ _ _ _ _ _ _ _ ).mono ?_); rintro e wn ⟨rfl, hg⟩; have G := Grown.trans' G hg; have gc := gcellI G; clear hg)) | (go_at_call 35; ((with_reducible refine (sp_sub _ _ _ _ _ _ _ _ _ ).mono ?_); rintro e wn ⟨rfl, hg⟩; have G := Grown.trans' G hg; have gc := gcellI G; clear hg)) | (go_at_call 36; ((with_reducible refine (sp_mul _ _ _ _ _ _ _ _ _ ).mono ?_); rintro e wn ⟨rfl, hg⟩; have G := Grown.trans' G hg; have gc := gcellI G; clear hg)) | (go_at_call 37; ((with_reducible refine (sp_and _ _ _ _ _ _ _ _ _ ).mono ?_); rintro e wn ⟨rfl, hg⟩; have G := Grown.trans' G hg; have gc := gcellI G; clear hg)) | (go_at_call 38; ((with_reducible refine (sp_or _ _ _ _ _ _ _ _ _ ).mono ?_); rintro e wn ⟨rfl, hg⟩; have G := Grown.trans' G hg; have gc := gcellI G; clear hg)) | (go_at_call 39; ((with_reducible refine (sp_xor _ _ _ _ _ _ _ _ _ ).mono ?_); rintro e wn ⟨rfl, hg⟩; have G := Grown.trans' G hg; have gc := gcellI G; clear hg)) | (go_at_call 40; ((with_reducible refine (sp_div _ _ _ _ _ _ _ _ _ ).mono ?_); rintro e wn ⟨rfl, hg⟩; have G := Grown.trans' G hg; have gc := gcellI G; clear hg)) | (go_at_call 41; ((with_reducible refine (sp_mod _ _ _ _ _ _ _ _ _ ).mono ?_); rintro e wn ⟨rfl, hg⟩; have G := Grown.trans' G hg; have gc := gcellI G; clear hg)) | (go_at_call 49; ((with_reducible refine (sp_both _ _ _ _ _ _ _ _ _ ).mono ?_); rintro e wn ⟨rfl, hg⟩; have G := Grown.trans' G hg; have gc := gcellI G; clear hg)) | (go_at_call 42; ((with_reducible refine (sp_lsh _ _ _ _ _ HN0.out HN1.out _).mono ?_); rintro e wn ⟨rfl, hg⟩; have G := Grown.trans' G hg; have gc := gcellI G; clear hg)) | (go_at_call 43; ((with_reducible refine (sp_rsh _ _ _ _ _ HN0.out HN1.out _).mono ?_); rintro e wn ⟨rfl, hg⟩; have G := Grown.trans' G hg; have gc := gcellI G; clear hg)) | (go_at_call 44; ((with_reducible refine (sp_arsh _ _ _ _ _ HN0.out HN1.out _).mono ?_); rintro e wn ⟨rfl, hg⟩; have G := Grown.trans' G hg; have gc := gcellI G; clear hg)) | (go_at_call 45; ((with_reducible refine (sp_low32 _ _ _ _ _ ).mono ?_); rintro e wn ⟨rfl, hg⟩; have G := Grown.trans' G hg; have gc := gcellI G; clear hg)) | (go_at_call 48; ((with_reducible refine (sp_tight _ _ _ _ _ ).mono ?_); rintro e wn ⟨rfl, hg⟩; have G := Grown.trans' G hg; have gc := gcellI G; clear hg)) | (go_at_call 47; ((with_reducible refine (ends_any _).mono ?_); rintro e wn ⟨rfl, hg⟩; have G := Grown.trans' G hg; have gc := gcellI G; clear hg)))
  go_ret
  exact ⟨rfl, Grown.trans' HG.out G⟩
end Go.Proofs.Ytchjneodjaakdaa
