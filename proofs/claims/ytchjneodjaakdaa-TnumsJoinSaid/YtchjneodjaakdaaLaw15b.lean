/-
  The walk of the law TnumsRaw.
-/
import Derived.Test.YtchjneodjaakdaaLaw15a
import Derived.Test.YtchjneodjaakdaaCellsAt
import Derived.Deep.DeepCutAuto
namespace Go.Proofs.Ytchjneodjaakdaa
open Go.RowKit
attribute [local go_sem] u64_wrap BitVec.ofInt_add BitVec.ofInt_mul ofInt_sub' ofInt_N ofInt_Nw

/-- What lies there ahead of the calls. -/
def RawAt (w0 : World) (a b : W64) (c d : W64) (B0 : Nat) (s7 s8 : Value) (w : World) : Prop :=
  ∃ B1 B2 : Nat, s7 = .pointer (some ⟨B1, 0, none⟩) ∧ s8 = .pointer (some ⟨B2, 0, none⟩) ∧
    Keeps w0 [(B0, 0, .int .u64 (N a)), (B0, 1, .int .u64 (N b)), (B1, 0, .int .u64 (N a)), (B1, 1, .int .u64 (N b)), (B2, 0, .int .u64 (N c)), (B2, 1, .int .u64 (N d))] w
def Gw2 (a b : World) : Prop := Grown a b
theorem tn_bothV (av am bv bm : W64) (w : World) : Calls Try.prog 29 #[.agg #[.int .u64 (N av), .int .u64 (N am)], .agg #[.int .u64 (N bv), .int .u64 (N bm)]] w fun e w' => e = .returned (bothV av am bv bm) ∧ Grown w w' := tn_both av am bv bm w

set_option maxRecDepth 100000 in
set_option maxHeartbeats 4000000 in
theorem tnumsRaw_walk (a b c d : W64) (n : Int) (h1 : -9223372036854775808 ≤ n) (h2 : n ≤ 9223372036854775807) (w : World) :
    Calls Try.prog 6 #[.agg #[.int .u64 (N a), .int .u64 (N b)], .agg #[.int .u64 (N c), .int .u64 (N d)], .int .i64 n] w fun e w' => e = .returned (.bool true) ∧ Grown w w' := by
  obtain ⟨m, hx, hm⟩ : ∃ m : Nat, bits .and .i64 n 63 = m ∧ m < 64 := let ⟨m, p, q, _⟩ := and63 n; ⟨m, p, q⟩
  go_enter Try.func6, Try.ntmps6
  go_upto_region 1 with fail
  have p0 : ∀ x : World, Gw2 ((w.alloc (.cells #[.int .u64 (N a), .int .u64 (N b)] 23)).alloc (.cells #[.int .u64 (N c), .int .u64 (N d)] 23)) x → x.cell? ⟨w.heap.size, 0, none⟩ = some (.int .u64 (N a)) := fun x g => grown_cellAt g (by first | (simp; done) | (simp; omega)) (by simp [go_sem])
  have p1 : ∀ x : World, Gw2 ((w.alloc (.cells #[.int .u64 (N a), .int .u64 (N b)] 23)).alloc (.cells #[.int .u64 (N c), .int .u64 (N d)] 23)) x → x.cell? ⟨w.heap.size, 1, none⟩ = some (.int .u64 (N b)) := fun x g => grown_cellAt g (by first | (simp; done) | (simp; omega)) (by simp [go_sem])
  have p2 : ∀ x : World, Gw2 ((w.alloc (.cells #[.int .u64 (N a), .int .u64 (N b)] 23)).alloc (.cells #[.int .u64 (N c), .int .u64 (N d)] 23)) x → x.cell? ⟨w.heap.size + 1, 0, none⟩ = some (.int .u64 (N c)) := fun x g => grown_cellAt g (by first | (simp; done) | (simp; omega)) (by simp [go_sem])
  have p3 : ∀ x : World, Gw2 ((w.alloc (.cells #[.int .u64 (N a), .int .u64 (N b)] 23)).alloc (.cells #[.int .u64 (N c), .int .u64 (N d)] 23)) x → x.cell? ⟨w.heap.size + 1, 1, none⟩ = some (.int .u64 (N d)) := fun x g => grown_cellAt g (by first | (simp; done) | (simp; omega)) (by simp [go_sem])
  go_cut [7, 8] (fun s7 s8 wx => RawAt w a b c d w.heap.size s7 s8 wx)
  case first =>
    go_region_held3 (fun w' => Gw2 ((w.alloc (.cells #[.int .u64 (N a), .int .u64 (N b)] 23)).alloc (.cells #[.int .u64 (N c), .int .u64 (N d)] 23)) w') ((show Grown _ _; go_grown)) (fail)
    all_goals
      go_wp2_with fail
      go_meet
      case rel => exact ⟨_, _, rfl, rfl, ⟨⟨⟨by simp [go_sem], (by first | (simp; done) | (simp; omega))⟩, ⟨by simp [go_sem], (by first | (simp; done) | (simp; omega))⟩, ⟨by simp [go_sem], (by first | (simp; done) | (simp; omega))⟩, ⟨by simp [go_sem], (by first | (simp; done) | (simp; omega))⟩, ⟨by simp [go_sem], (by first | (simp; done) | (simp; omega))⟩, ⟨by simp [go_sem], (by first | (simp; done) | (simp; omega))⟩, trivial⟩, by go_grown⟩⟩
  case rest =>
    clear p0 p1 p2 p3
    obtain ⟨B1, B2, rfl, rfl, K⟩ := hcut
    generalize w.heap.size = B0 at *
    obtain ⟨⟨⟨c0, _⟩, ⟨c1, _⟩, ⟨c2, _⟩, ⟨c3, _⟩, ⟨c4, _⟩, ⟨c5, _⟩, _⟩, _⟩ := id K
    go_wp2_with fail
    refine (tn_add _ _ _ _ _).mono ?_
    rintro e wn ⟨rfl, g⟩
    replace K := K.grown g
    clear g c0 c1 c2 c3 c4 c5
    obtain ⟨⟨⟨c0, _⟩, ⟨c1, _⟩, ⟨c2, _⟩, ⟨c3, _⟩, ⟨c4, _⟩, ⟨c5, _⟩, _⟩, _⟩ := id K
    go_wp2_with fail
    refine (tn_sub _ _ _ _ _).mono ?_
    rintro e wn ⟨rfl, g⟩
    replace K := K.grown g
    clear g c0 c1 c2 c3 c4 c5
    obtain ⟨⟨⟨c0, _⟩, ⟨c1, _⟩, ⟨c2, _⟩, ⟨c3, _⟩, ⟨c4, _⟩, ⟨c5, _⟩, _⟩, _⟩ := id K
    go_wp2_with fail
    refine (tn_and _ _ _ _ _).mono ?_
    rintro e wn ⟨rfl, g⟩
    replace K := K.grown g
    clear g c0 c1 c2 c3 c4 c5
    obtain ⟨⟨⟨c0, _⟩, ⟨c1, _⟩, ⟨c2, _⟩, ⟨c3, _⟩, ⟨c4, _⟩, ⟨c5, _⟩, _⟩, _⟩ := id K
    go_wp2_with fail
    refine (tn_or _ _ _ _ _).mono ?_
    rintro e wn ⟨rfl, g⟩
    replace K := K.grown g
    clear g c0 c1 c2 c3 c4 c5
    obtain ⟨⟨⟨c0, _⟩, ⟨c1, _⟩, ⟨c2, _⟩, ⟨c3, _⟩, ⟨c4, _⟩, ⟨c5, _⟩, _⟩, _⟩ := id K
    go_wp2_with fail
    refine (tn_xor _ _ _ _ _).mono ?_
    rintro e wn ⟨rfl, g⟩
    replace K := K.grown g
    clear g c0 c1 c2 c3 c4 c5
    obtain ⟨⟨⟨c0, _⟩, ⟨c1, _⟩, ⟨c2, _⟩, ⟨c3, _⟩, ⟨c4, _⟩, ⟨c5, _⟩, _⟩, _⟩ := id K
    go_wp2_with fail
    refine (tn_mul _ _ _ _ _).mono ?_
    rintro e wn ⟨rfl, g⟩
    replace K := K.grown g
    clear g c0 c1 c2 c3 c4 c5
    obtain ⟨⟨⟨c0, _⟩, ⟨c1, _⟩, ⟨c2, _⟩, ⟨c3, _⟩, ⟨c4, _⟩, ⟨c5, _⟩, _⟩, _⟩ := id K
    go_wp2_with fail
    refine (tn_lsh _ _ _ m hx hm _).mono ?_
    rintro e wn ⟨rfl, g⟩
    replace K := K.grown g
    clear g c0 c1 c2 c3 c4 c5
    obtain ⟨⟨⟨c0, _⟩, ⟨c1, _⟩, ⟨c2, _⟩, ⟨c3, _⟩, ⟨c4, _⟩, ⟨c5, _⟩, _⟩, _⟩ := id K
    go_wp2_with fail
    refine (tn_rsh _ _ _ m hx hm _).mono ?_
    rintro e wn ⟨rfl, g⟩
    replace K := K.grown g
    clear g c0 c1 c2 c3 c4 c5
    obtain ⟨⟨⟨c0, _⟩, ⟨c1, _⟩, ⟨c2, _⟩, ⟨c3, _⟩, ⟨c4, _⟩, ⟨c5, _⟩, _⟩, _⟩ := id K
    go_wp2_with fail
    refine (tn_arsh _ _ _ m hx hm _).mono ?_
    rintro e wn ⟨rfl, g⟩
    replace K := K.grown g
    clear g c0 c1 c2 c3 c4 c5
    obtain ⟨⟨⟨c0, _⟩, ⟨c1, _⟩, ⟨c2, _⟩, ⟨c3, _⟩, ⟨c4, _⟩, ⟨c5, _⟩, _⟩, _⟩ := id K
    go_wp2_with fail
    refine (tn_low _ _ _ h1 h2 _).mono ?_
    rintro e wn ⟨rfl, g⟩
    replace K := K.grown g
    clear g c0 c1 c2 c3 c4 c5
    obtain ⟨⟨⟨c0, _⟩, ⟨c1, _⟩, ⟨c2, _⟩, ⟨c3, _⟩, ⟨c4, _⟩, ⟨c5, _⟩, _⟩, _⟩ := id K
    go_wp2_with fail
    refine (tn_bothV _ _ _ _ _).mono ?_
    rintro e wn ⟨rfl, g⟩
    replace K := K.grown g
    clear g c0 c1 c2 c3 c4 c5
    obtain ⟨⟨⟨c0, _⟩, ⟨c1, _⟩, ⟨c2, _⟩, ⟨c3, _⟩, ⟨c4, _⟩, ⟨c5, _⟩, _⟩, _⟩ := id K
    go_wp2_with fail
    refine (tn_either _ _ _ _ _).mono ?_
    rintro e wn ⟨rfl, g⟩
    replace K := K.grown g
    clear g c0 c1 c2 c3 c4 c5
    obtain ⟨⟨⟨c0, _⟩, ⟨c1, _⟩, ⟨c2, _⟩, ⟨c3, _⟩, ⟨c4, _⟩, ⟨c5, _⟩, _⟩, _⟩ := id K
    go_wp2_with fail
    refine (tn_in _ _ _ _ _).mono ?_
    rintro e wn ⟨rfl, g⟩
    replace K := K.grown g
    clear g c0 c1 c2 c3 c4 c5
    obtain ⟨⟨⟨c0, _⟩, ⟨c1, _⟩, ⟨c2, _⟩, ⟨c3, _⟩, ⟨c4, _⟩, ⟨c5, _⟩, _⟩, _⟩ := id K
    go_wp2_with fail
    refine (tn_range _ _ _).mono ?_
    rintro e wn ⟨rfl, g⟩
    replace K := K.grown g
    clear g c0 c1 c2 c3 c4 c5
    obtain ⟨⟨⟨c0, _⟩, ⟨c1, _⟩, ⟨c2, _⟩, ⟨c3, _⟩, ⟨c4, _⟩, ⟨c5, _⟩, _⟩, _⟩ := id K
    go_wp2_with fail
    refine (bits_any _).mono ?_
    rintro e wn ⟨rfl, g⟩
    replace K := K.grown g
    clear g c0 c1 c2 c3 c4 c5
    go_wp2_with fail
    go_ret
    exact ⟨rfl, K.2⟩
end Go.Proofs.Ytchjneodjaakdaa
