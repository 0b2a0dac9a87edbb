/-
  The contract of conds.Holds, of 32 bits.
-/
import Derived.Test.YthhgfjnnconocaaGreatDoorPackE
namespace Go.Proofs.YthhgfjnnconocaaGreatDoor
open Go.RowKit

attribute [local go_sem] u64_wrap u8_wrap wrap64_N ofInt_N u64_and

set_option maxRecDepth 100000 in
set_option maxHeartbeats 1000000 in
theorem holds32_0 (a b : BitVec 64) (w : World) : Calls Tryz.prog 11 #[.int .u8 0, .bool false, .int .u64 (N a), .int .u64 (N b)] w fun e w' => e = .returned (.bool (condS 0 false a b)) ∧ Grown w w' := by
  have hl := run_lookup_lit (P := Tryz.prog) Tryz.underlying95 Tryz.underlying5 (w.alloc (.map (tabE 12) 12)) w.heap.size (tabE 12) 12 0 0 (.agg #[.bool true, .bool true, .bool true, .bool false, .bool false]) (MapKept.heap_alloc w _).1 rfl
  have hd : ∀ c, cmpI (N (lowS a 32)) (N (lowS b 32)) = c → condS 0 false a b = condO 0 c (gO false a b) (tO false a b) := by intro c hc; rw [← hc]; rfl
  rcases cmpI_three (N (lowS a 32)) (N (lowS b 32)) with h | h | h
  all_goals
    rw [hd _ h]
    clear hd
    go_enter Tryz.func11, Tryz.ntmps11
    go_wp2_with (first | (go_at_call 35; refine (table_any _).mono ?_; rintro e w' ⟨rfl, rfl⟩) | (go_at_call 34; refine (low_N _ _ _ (by decide) (by decide)).mono ?_; rintro e w' ⟨rfl, rfl⟩) | (go_at_call 38; refine (sign_N _ _ _ (by decide) (by decide)).mono ?_; rintro e w' ⟨rfl, rfl⟩) | (go_at_call 36; refine (cmp_u64 _ _ _).mono ?_; rintro e w' ⟨rfl, rfl⟩) | (go_at_call 37; refine (cmp_i64 _ _ _).mono ?_; rintro e w' ⟨rfl, rfl⟩))
    go_ret
    exact ⟨rfl, ((Grown.refl _).allocMap _ _).alloc _ _⟩

set_option maxRecDepth 100000 in
set_option maxHeartbeats 1000000 in
theorem holds32_16 (a b : BitVec 64) (w : World) : Calls Tryz.prog 11 #[.int .u8 16, .bool false, .int .u64 (N a), .int .u64 (N b)] w fun e w' => e = .returned (.bool (condS 16 false a b)) ∧ Grown w w' := by
  have hl := run_lookup_lit (P := Tryz.prog) Tryz.underlying95 Tryz.underlying5 (w.alloc (.map (tabE 12) 12)) w.heap.size (tabE 12) 12 16 1 (.agg #[.bool false, .bool true, .bool false, .bool false, .bool false]) (MapKept.heap_alloc w _).1 rfl
  have hd : ∀ c, cmpI (N (lowS a 32)) (N (lowS b 32)) = c → condS 16 false a b = condO 16 c (gO false a b) (tO false a b) := by intro c hc; rw [← hc]; rfl
  rcases cmpI_three (N (lowS a 32)) (N (lowS b 32)) with h | h | h
  all_goals
    rw [hd _ h]
    clear hd
    go_enter Tryz.func11, Tryz.ntmps11
    go_wp2_with (first | (go_at_call 35; refine (table_any _).mono ?_; rintro e w' ⟨rfl, rfl⟩) | (go_at_call 34; refine (low_N _ _ _ (by decide) (by decide)).mono ?_; rintro e w' ⟨rfl, rfl⟩) | (go_at_call 38; refine (sign_N _ _ _ (by decide) (by decide)).mono ?_; rintro e w' ⟨rfl, rfl⟩) | (go_at_call 36; refine (cmp_u64 _ _ _).mono ?_; rintro e w' ⟨rfl, rfl⟩) | (go_at_call 37; refine (cmp_i64 _ _ _).mono ?_; rintro e w' ⟨rfl, rfl⟩))
    go_ret
    exact ⟨rfl, ((Grown.refl _).allocMap _ _).alloc _ _⟩

set_option maxRecDepth 100000 in
set_option maxHeartbeats 1000000 in
theorem holds32_80 (a b : BitVec 64) (w : World) : Calls Tryz.prog 11 #[.int .u8 80, .bool false, .int .u64 (N a), .int .u64 (N b)] w fun e w' => e = .returned (.bool (condS 80 false a b)) ∧ Grown w w' := by
  have hl := run_lookup_lit (P := Tryz.prog) Tryz.underlying95 Tryz.underlying5 (w.alloc (.map (tabE 12) 12)) w.heap.size (tabE 12) 12 80 2 (.agg #[.bool true, .bool false, .bool true, .bool false, .bool false]) (MapKept.heap_alloc w _).1 rfl
  have hd : ∀ c, cmpI (N (lowS a 32)) (N (lowS b 32)) = c → condS 80 false a b = condO 80 c (gO false a b) (tO false a b) := by intro c hc; rw [← hc]; rfl
  rcases cmpI_three (N (lowS a 32)) (N (lowS b 32)) with h | h | h
  all_goals
    rw [hd _ h]
    clear hd
    go_enter Tryz.func11, Tryz.ntmps11
    go_wp2_with (first | (go_at_call 35; refine (table_any _).mono ?_; rintro e w' ⟨rfl, rfl⟩) | (go_at_call 34; refine (low_N _ _ _ (by decide) (by decide)).mono ?_; rintro e w' ⟨rfl, rfl⟩) | (go_at_call 38; refine (sign_N _ _ _ (by decide) (by decide)).mono ?_; rintro e w' ⟨rfl, rfl⟩) | (go_at_call 36; refine (cmp_u64 _ _ _).mono ?_; rintro e w' ⟨rfl, rfl⟩) | (go_at_call 37; refine (cmp_i64 _ _ _).mono ?_; rintro e w' ⟨rfl, rfl⟩))
    go_ret
    exact ⟨rfl, ((Grown.refl _).allocMap _ _).alloc _ _⟩

set_option maxRecDepth 100000 in
set_option maxHeartbeats 1000000 in
theorem holds32_32 (a b : BitVec 64) (w : World) : Calls Tryz.prog 11 #[.int .u8 32, .bool false, .int .u64 (N a), .int .u64 (N b)] w fun e w' => e = .returned (.bool (condS 32 false a b)) ∧ Grown w w' := by
  have hl := run_lookup_lit (P := Tryz.prog) Tryz.underlying95 Tryz.underlying5 (w.alloc (.map (tabE 12) 12)) w.heap.size (tabE 12) 12 32 3 (.agg #[.bool false, .bool false, .bool true, .bool false, .bool false]) (MapKept.heap_alloc w _).1 rfl
  have hd : ∀ c, cmpI (N (lowS a 32)) (N (lowS b 32)) = c → condS 32 false a b = condO 32 c (gO false a b) (tO false a b) := by intro c hc; rw [← hc]; rfl
  rcases cmpI_three (N (lowS a 32)) (N (lowS b 32)) with h | h | h
  all_goals
    rw [hd _ h]
    clear hd
    go_enter Tryz.func11, Tryz.ntmps11
    go_wp2_with (first | (go_at_call 35; refine (table_any _).mono ?_; rintro e w' ⟨rfl, rfl⟩) | (go_at_call 34; refine (low_N _ _ _ (by decide) (by decide)).mono ?_; rintro e w' ⟨rfl, rfl⟩) | (go_at_call 38; refine (sign_N _ _ _ (by decide) (by decide)).mono ?_; rintro e w' ⟨rfl, rfl⟩) | (go_at_call 36; refine (cmp_u64 _ _ _).mono ?_; rintro e w' ⟨rfl, rfl⟩) | (go_at_call 37; refine (cmp_i64 _ _ _).mono ?_; rintro e w' ⟨rfl, rfl⟩))
    go_ret
    exact ⟨rfl, ((Grown.refl _).allocMap _ _).alloc _ _⟩

set_option maxRecDepth 100000 in
set_option maxHeartbeats 1000000 in
theorem holds32_48 (a b : BitVec 64) (w : World) : Calls Tryz.prog 11 #[.int .u8 48, .bool false, .int .u64 (N a), .int .u64 (N b)] w fun e w' => e = .returned (.bool (condS 48 false a b)) ∧ Grown w w' := by
  have hl := run_lookup_lit (P := Tryz.prog) Tryz.underlying95 Tryz.underlying5 (w.alloc (.map (tabE 12) 12)) w.heap.size (tabE 12) 12 48 4 (.agg #[.bool false, .bool true, .bool true, .bool false, .bool false]) (MapKept.heap_alloc w _).1 rfl
  have hd : ∀ c, cmpI (N (lowS a 32)) (N (lowS b 32)) = c → condS 48 false a b = condO 48 c (gO false a b) (tO false a b) := by intro c hc; rw [← hc]; rfl
  rcases cmpI_three (N (lowS a 32)) (N (lowS b 32)) with h | h | h
  all_goals
    rw [hd _ h]
    clear hd
    go_enter Tryz.func11, Tryz.ntmps11
    go_wp2_with (first | (go_at_call 35; refine (table_any _).mono ?_; rintro e w' ⟨rfl, rfl⟩) | (go_at_call 34; refine (low_N _ _ _ (by decide) (by decide)).mono ?_; rintro e w' ⟨rfl, rfl⟩) | (go_at_call 38; refine (sign_N _ _ _ (by decide) (by decide)).mono ?_; rintro e w' ⟨rfl, rfl⟩) | (go_at_call 36; refine (cmp_u64 _ _ _).mono ?_; rintro e w' ⟨rfl, rfl⟩) | (go_at_call 37; refine (cmp_i64 _ _ _).mono ?_; rintro e w' ⟨rfl, rfl⟩))
    go_ret
    exact ⟨rfl, ((Grown.refl _).allocMap _ _).alloc _ _⟩

set_option maxRecDepth 100000 in
set_option maxHeartbeats 1000000 in
theorem holds32_160 (a b : BitVec 64) (w : World) : Calls Tryz.prog 11 #[.int .u8 160, .bool false, .int .u64 (N a), .int .u64 (N b)] w fun e w' => e = .returned (.bool (condS 160 false a b)) ∧ Grown w w' := by
  have hl := run_lookup_lit (P := Tryz.prog) Tryz.underlying95 Tryz.underlying5 (w.alloc (.map (tabE 12) 12)) w.heap.size (tabE 12) 12 160 5 (.agg #[.bool true, .bool false, .bool false, .bool false, .bool false]) (MapKept.heap_alloc w _).1 rfl
  have hd : ∀ c, cmpI (N (lowS a 32)) (N (lowS b 32)) = c → condS 160 false a b = condO 160 c (gO false a b) (tO false a b) := by intro c hc; rw [← hc]; rfl
  rcases cmpI_three (N (lowS a 32)) (N (lowS b 32)) with h | h | h
  all_goals
    rw [hd _ h]
    clear hd
    go_enter Tryz.func11, Tryz.ntmps11
    go_wp2_with (first | (go_at_call 35; refine (table_any _).mono ?_; rintro e w' ⟨rfl, rfl⟩) | (go_at_call 34; refine (low_N _ _ _ (by decide) (by decide)).mono ?_; rintro e w' ⟨rfl, rfl⟩) | (go_at_call 38; refine (sign_N _ _ _ (by decide) (by decide)).mono ?_; rintro e w' ⟨rfl, rfl⟩) | (go_at_call 36; refine (cmp_u64 _ _ _).mono ?_; rintro e w' ⟨rfl, rfl⟩) | (go_at_call 37; refine (cmp_i64 _ _ _).mono ?_; rintro e w' ⟨rfl, rfl⟩))
    go_ret
    exact ⟨rfl, ((Grown.refl _).allocMap _ _).alloc _ _⟩

set_option maxRecDepth 100000 in
set_option maxHeartbeats 1000000 in
theorem holds32_176 (a b : BitVec 64) (w : World) : Calls Tryz.prog 11 #[.int .u8 176, .bool false, .int .u64 (N a), .int .u64 (N b)] w fun e w' => e = .returned (.bool (condS 176 false a b)) ∧ Grown w w' := by
  have hl := run_lookup_lit (P := Tryz.prog) Tryz.underlying95 Tryz.underlying5 (w.alloc (.map (tabE 12) 12)) w.heap.size (tabE 12) 12 176 6 (.agg #[.bool true, .bool true, .bool false, .bool false, .bool false]) (MapKept.heap_alloc w _).1 rfl
  have hd : ∀ c, cmpI (N (lowS a 32)) (N (lowS b 32)) = c → condS 176 false a b = condO 176 c (gO false a b) (tO false a b) := by intro c hc; rw [← hc]; rfl
  rcases cmpI_three (N (lowS a 32)) (N (lowS b 32)) with h | h | h
  all_goals
    rw [hd _ h]
    clear hd
    go_enter Tryz.func11, Tryz.ntmps11
    go_wp2_with (first | (go_at_call 35; refine (table_any _).mono ?_; rintro e w' ⟨rfl, rfl⟩) | (go_at_call 34; refine (low_N _ _ _ (by decide) (by decide)).mono ?_; rintro e w' ⟨rfl, rfl⟩) | (go_at_call 38; refine (sign_N _ _ _ (by decide) (by decide)).mono ?_; rintro e w' ⟨rfl, rfl⟩) | (go_at_call 36; refine (cmp_u64 _ _ _).mono ?_; rintro e w' ⟨rfl, rfl⟩) | (go_at_call 37; refine (cmp_i64 _ _ _).mono ?_; rintro e w' ⟨rfl, rfl⟩))
    go_ret
    exact ⟨rfl, ((Grown.refl _).allocMap _ _).alloc _ _⟩

set_option maxRecDepth 100000 in
set_option maxHeartbeats 1000000 in
theorem holds32_96 (a b : BitVec 64) (w : World) : Calls Tryz.prog 11 #[.int .u8 96, .bool false, .int .u64 (N a), .int .u64 (N b)] w fun e w' => e = .returned (.bool (condS 96 false a b)) ∧ Grown w w' := by
  have hl := run_lookup_lit (P := Tryz.prog) Tryz.underlying95 Tryz.underlying5 (w.alloc (.map (tabE 12) 12)) w.heap.size (tabE 12) 12 96 7 (.agg #[.bool false, .bool false, .bool true, .bool false, .bool true]) (MapKept.heap_alloc w _).1 rfl
  have hd : ∀ c, cmpI (Z (signS (lowS a 32) 32)) (Z (signS (lowS b 32) 32)) = c → condS 96 false a b = condO 96 (uO false a b) c (tO false a b) := by intro c hc; rw [← hc]; rfl
  rcases cmpI_three (Z (signS (lowS a 32) 32)) (Z (signS (lowS b 32) 32)) with h | h | h
  all_goals
    rw [hd _ h]
    clear hd
    go_enter Tryz.func11, Tryz.ntmps11
    go_wp2_with (first | (go_at_call 35; refine (table_any _).mono ?_; rintro e w' ⟨rfl, rfl⟩) | (go_at_call 34; refine (low_N _ _ _ (by decide) (by decide)).mono ?_; rintro e w' ⟨rfl, rfl⟩) | (go_at_call 38; refine (sign_N _ _ _ (by decide) (by decide)).mono ?_; rintro e w' ⟨rfl, rfl⟩) | (go_at_call 36; refine (cmp_u64 _ _ _).mono ?_; rintro e w' ⟨rfl, rfl⟩) | (go_at_call 37; refine (cmp_i64 _ _ _).mono ?_; rintro e w' ⟨rfl, rfl⟩))
    go_ret
    exact ⟨rfl, ((Grown.refl _).allocMap _ _).alloc _ _⟩

set_option maxRecDepth 100000 in
set_option maxHeartbeats 1000000 in
theorem holds32_112 (a b : BitVec 64) (w : World) : Calls Tryz.prog 11 #[.int .u8 112, .bool false, .int .u64 (N a), .int .u64 (N b)] w fun e w' => e = .returned (.bool (condS 112 false a b)) ∧ Grown w w' := by
  have hl := run_lookup_lit (P := Tryz.prog) Tryz.underlying95 Tryz.underlying5 (w.alloc (.map (tabE 12) 12)) w.heap.size (tabE 12) 12 112 8 (.agg #[.bool false, .bool true, .bool true, .bool false, .bool true]) (MapKept.heap_alloc w _).1 rfl
  have hd : ∀ c, cmpI (Z (signS (lowS a 32) 32)) (Z (signS (lowS b 32) 32)) = c → condS 112 false a b = condO 112 (uO false a b) c (tO false a b) := by intro c hc; rw [← hc]; rfl
  rcases cmpI_three (Z (signS (lowS a 32) 32)) (Z (signS (lowS b 32) 32)) with h | h | h
  all_goals
    rw [hd _ h]
    clear hd
    go_enter Tryz.func11, Tryz.ntmps11
    go_wp2_with (first | (go_at_call 35; refine (table_any _).mono ?_; rintro e w' ⟨rfl, rfl⟩) | (go_at_call 34; refine (low_N _ _ _ (by decide) (by decide)).mono ?_; rintro e w' ⟨rfl, rfl⟩) | (go_at_call 38; refine (sign_N _ _ _ (by decide) (by decide)).mono ?_; rintro e w' ⟨rfl, rfl⟩) | (go_at_call 36; refine (cmp_u64 _ _ _).mono ?_; rintro e w' ⟨rfl, rfl⟩) | (go_at_call 37; refine (cmp_i64 _ _ _).mono ?_; rintro e w' ⟨rfl, rfl⟩))
    go_ret
    exact ⟨rfl, ((Grown.refl _).allocMap _ _).alloc _ _⟩

set_option maxRecDepth 100000 in
set_option maxHeartbeats 1000000 in
theorem holds32_192 (a b : BitVec 64) (w : World) : Calls Tryz.prog 11 #[.int .u8 192, .bool false, .int .u64 (N a), .int .u64 (N b)] w fun e w' => e = .returned (.bool (condS 192 false a b)) ∧ Grown w w' := by
  have hl := run_lookup_lit (P := Tryz.prog) Tryz.underlying95 Tryz.underlying5 (w.alloc (.map (tabE 12) 12)) w.heap.size (tabE 12) 12 192 9 (.agg #[.bool true, .bool false, .bool false, .bool false, .bool true]) (MapKept.heap_alloc w _).1 rfl
  have hd : ∀ c, cmpI (Z (signS (lowS a 32) 32)) (Z (signS (lowS b 32) 32)) = c → condS 192 false a b = condO 192 (uO false a b) c (tO false a b) := by intro c hc; rw [← hc]; rfl
  rcases cmpI_three (Z (signS (lowS a 32) 32)) (Z (signS (lowS b 32) 32)) with h | h | h
  all_goals
    rw [hd _ h]
    clear hd
    go_enter Tryz.func11, Tryz.ntmps11
    go_wp2_with (first | (go_at_call 35; refine (table_any _).mono ?_; rintro e w' ⟨rfl, rfl⟩) | (go_at_call 34; refine (low_N _ _ _ (by decide) (by decide)).mono ?_; rintro e w' ⟨rfl, rfl⟩) | (go_at_call 38; refine (sign_N _ _ _ (by decide) (by decide)).mono ?_; rintro e w' ⟨rfl, rfl⟩) | (go_at_call 36; refine (cmp_u64 _ _ _).mono ?_; rintro e w' ⟨rfl, rfl⟩) | (go_at_call 37; refine (cmp_i64 _ _ _).mono ?_; rintro e w' ⟨rfl, rfl⟩))
    go_ret
    exact ⟨rfl, ((Grown.refl _).allocMap _ _).alloc _ _⟩

set_option maxRecDepth 100000 in
set_option maxHeartbeats 1000000 in
theorem holds32_208 (a b : BitVec 64) (w : World) : Calls Tryz.prog 11 #[.int .u8 208, .bool false, .int .u64 (N a), .int .u64 (N b)] w fun e w' => e = .returned (.bool (condS 208 false a b)) ∧ Grown w w' := by
  have hl := run_lookup_lit (P := Tryz.prog) Tryz.underlying95 Tryz.underlying5 (w.alloc (.map (tabE 12) 12)) w.heap.size (tabE 12) 12 208 10 (.agg #[.bool true, .bool true, .bool false, .bool false, .bool true]) (MapKept.heap_alloc w _).1 rfl
  have hd : ∀ c, cmpI (Z (signS (lowS a 32) 32)) (Z (signS (lowS b 32) 32)) = c → condS 208 false a b = condO 208 (uO false a b) c (tO false a b) := by intro c hc; rw [← hc]; rfl
  rcases cmpI_three (Z (signS (lowS a 32) 32)) (Z (signS (lowS b 32) 32)) with h | h | h
  all_goals
    rw [hd _ h]
    clear hd
    go_enter Tryz.func11, Tryz.ntmps11
    go_wp2_with (first | (go_at_call 35; refine (table_any _).mono ?_; rintro e w' ⟨rfl, rfl⟩) | (go_at_call 34; refine (low_N _ _ _ (by decide) (by decide)).mono ?_; rintro e w' ⟨rfl, rfl⟩) | (go_at_call 38; refine (sign_N _ _ _ (by decide) (by decide)).mono ?_; rintro e w' ⟨rfl, rfl⟩) | (go_at_call 36; refine (cmp_u64 _ _ _).mono ?_; rintro e w' ⟨rfl, rfl⟩) | (go_at_call 37; refine (cmp_i64 _ _ _).mono ?_; rintro e w' ⟨rfl, rfl⟩))
    go_ret
    exact ⟨rfl, ((Grown.refl _).allocMap _ _).alloc _ _⟩

set_option maxRecDepth 100000 in
set_option maxHeartbeats 1000000 in
theorem holds32_64 (a b : BitVec 64) (w : World) : Calls Tryz.prog 11 #[.int .u8 64, .bool false, .int .u64 (N a), .int .u64 (N b)] w fun e w' => e = .returned (.bool (condS 64 false a b)) ∧ Grown w w' := by
  have hl := run_lookup_lit (P := Tryz.prog) Tryz.underlying95 Tryz.underlying5 (w.alloc (.map (tabE 12) 12)) w.heap.size (tabE 12) 12 64 11 (.agg #[.bool false, .bool false, .bool false, .bool true, .bool false]) (MapKept.heap_alloc w _).1 rfl
  have hd : condS 64 false a b = tO false a b := rfl
  rw [hd]
  have ht : tO false a b = !(N (lowS a 32 &&& lowS b 32) == 0) := by rw [N_and_beq]; rfl
  rw [ht]
  clear hd ht
  by_cases hz : N (lowS a 32 &&& lowS b 32) = 0
  · rw [hz, show (!((0 : Int) == 0)) = false from rfl]
    go_enter Tryz.func11, Tryz.ntmps11
    go_wp2_with (first | (go_at_call 35; refine (table_any _).mono ?_; rintro e w' ⟨rfl, rfl⟩) | (go_at_call 34; refine (low_N _ _ _ (by decide) (by decide)).mono ?_; rintro e w' ⟨rfl, rfl⟩) | (go_at_call 38; refine (sign_N _ _ _ (by decide) (by decide)).mono ?_; rintro e w' ⟨rfl, rfl⟩) | (go_at_call 36; refine (cmp_u64 _ _ _).mono ?_; rintro e w' ⟨rfl, rfl⟩) | (go_at_call 37; refine (cmp_i64 _ _ _).mono ?_; rintro e w' ⟨rfl, rfl⟩))
    go_ret
    exact ⟨rfl, ((Grown.refl _).allocMap _ _).alloc _ _⟩
  · have hz1 : (N (lowS a 32 &&& lowS b 32) == 0) = false := by simpa using hz
    have hz2 : (N (lowS a 32 &&& lowS b 32) != 0) = true := by simpa using hz
    rw [hz1, show (!false) = true from rfl]
    clear hz
    go_enter Tryz.func11, Tryz.ntmps11
    go_wp2_with (first | (go_at_call 35; refine (table_any _).mono ?_; rintro e w' ⟨rfl, rfl⟩) | (go_at_call 34; refine (low_N _ _ _ (by decide) (by decide)).mono ?_; rintro e w' ⟨rfl, rfl⟩) | (go_at_call 38; refine (sign_N _ _ _ (by decide) (by decide)).mono ?_; rintro e w' ⟨rfl, rfl⟩) | (go_at_call 36; refine (cmp_u64 _ _ _).mono ?_; rintro e w' ⟨rfl, rfl⟩) | (go_at_call 37; refine (cmp_i64 _ _ _).mono ?_; rintro e w' ⟨rfl, rfl⟩))
    go_ret
    exact ⟨rfl, ((Grown.refl _).allocMap _ _).alloc _ _⟩

set_option maxRecDepth 100000 in
set_option maxHeartbeats 1000000 in
theorem holds32_none (x : Int) (hx : NoCond x) (a b : BitVec 64) (w : World) : Calls Tryz.prog 11 #[.int .u8 x, .bool false, .int .u64 (N a), .int .u64 (N b)] w fun e w' => e = .returned (.bool (condS x false a b)) ∧ Grown w w' := by
  have hl := run_lookup_none (P := Tryz.prog) Tryz.underlying95 Tryz.underlying5 (w.alloc (.map (tabE 12) 12)) w.heap.size (tabE 12) 12 x (.agg #[.bool false, .bool false, .bool false, .bool false, .bool false]) (MapKept.heap_alloc w _).1 (find_none hx) (by kernel_rfl)
  have hd : condS x false a b = false := condO_none hx _ _ _
  rw [hd]
  clear hd hx
  go_enter Tryz.func11, Tryz.ntmps11
  go_wp2_with (first | (go_at_call 35; refine (table_any _).mono ?_; rintro e w' ⟨rfl, rfl⟩) | (go_at_call 34; refine (low_N _ _ _ (by decide) (by decide)).mono ?_; rintro e w' ⟨rfl, rfl⟩) | (go_at_call 38; refine (sign_N _ _ _ (by decide) (by decide)).mono ?_; rintro e w' ⟨rfl, rfl⟩) | (go_at_call 36; refine (cmp_u64 _ _ _).mono ?_; rintro e w' ⟨rfl, rfl⟩) | (go_at_call 37; refine (cmp_i64 _ _ _).mono ?_; rintro e w' ⟨rfl, rfl⟩))
  go_ret
  exact ⟨rfl, ((Grown.refl _).allocMap _ _).alloc _ _⟩

theorem holds32 (x : Int) (a b : BitVec 64) (w : World) : Calls Tryz.prog 11 #[.int .u8 x, .bool false, .int .u64 (N a), .int .u64 (N b)] w fun e w' => e = .returned (.bool (condS x false a b)) ∧ Grown w w' := by
  rcases cond_cases x with rfl | rfl | rfl | rfl | rfl | rfl | rfl | rfl | rfl | rfl | rfl | rfl | h
  · exact holds32_0 a b w
  · exact holds32_16 a b w
  · exact holds32_80 a b w
  · exact holds32_32 a b w
  · exact holds32_48 a b w
  · exact holds32_160 a b w
  · exact holds32_176 a b w
  · exact holds32_96 a b w
  · exact holds32_112 a b w
  · exact holds32_192 a b w
  · exact holds32_208 a b w
  · exact holds32_64 a b w
  · exact holds32_none x h a b w
end Go.Proofs.YthhgfjnnconocaaGreatDoor
