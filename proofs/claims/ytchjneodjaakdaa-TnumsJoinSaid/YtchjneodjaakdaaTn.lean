/-
  Contracts of package tnums.
-/
import Derived.Test.YtchjneodjaakdaaGrown
import Derived.Test.YtchjneodjaakdaaProg
import Derived.Handy
import Derived.BigQuiet
import Derived.Deep.RegionHeld3
import Derived.Deep.RegionWith
namespace Go.Proofs.Ytchjneodjaakdaa
open Go.RowKit

attribute [local go_sem] u64_wrap BitVec.ofInt_add BitVec.ofInt_mul ofInt_sub' ofInt_N ofInt_Nw u64_and u64_or u64_xor u64_andNot

abbrev W64 := BitVec 64
def tOf (v m : W64) : W64 × W64 := (v &&& ~~~m, m)
def tAdd (av am bv bm : W64) : W64 × W64 := tOf (av + bv) ((av + bv ^^^ av + bv + am + bm) ||| am ||| bm)
def tSub (av am bv bm : W64) : W64 × W64 := tOf (av - bv) ((av - bv + am ^^^ av - bv - bm) ||| am ||| bm)
def tAnd (av am bv bm : W64) : W64 × W64 := tOf (av &&& bv) ((av ||| am) &&& (bv ||| bm) &&& ~~~(av &&& bv))
def tOr (av am bv bm : W64) : W64 × W64 := tOf (av ||| bv) ((am ||| bm) &&& ~~~(av ||| bv))
def tXor (av am bv bm : W64) : W64 × W64 := tOf (av ^^^ bv) (am ||| bm)
def tEither (av am bv bm : W64) : W64 × W64 := tOf av (am ||| bm ||| (av ^^^ bv))

set_option maxHeartbeats 400000 in
theorem tn_of (v m : W64) (w : World) : Calls Try.prog 51 #[.int .u64 (N v), .int .u64 (N m)] w fun e w' => e = .returned (.agg #[.int .u64 (N (tOf v m).1), .int .u64 (N (tOf v m).2)]) ∧ Grown w w' := by
  go_enter Try.func51, Try.ntmps51
  go_wp2
  go_returns
  exact ⟨rfl, by go_grown⟩

set_option maxHeartbeats 1000000 in
theorem tn_add (av am bv bm : W64) (w : World) : Calls Try.prog 14 #[.agg #[.int .u64 (N av), .int .u64 (N am)], .agg #[.int .u64 (N bv), .int .u64 (N bm)]] w fun e w' => e = .returned (.agg #[.int .u64 (N (tAdd av am bv bm).1), .int .u64 (N (tAdd av am bv bm).2)]) ∧ Grown w w' := by
  go_enter Try.func14, Try.ntmps14
  go_wp2
  go_returns
  exact ⟨rfl, by go_grown⟩

set_option maxHeartbeats 1000000 in
theorem tn_sub (av am bv bm : W64) (w : World) : Calls Try.prog 15 #[.agg #[.int .u64 (N av), .int .u64 (N am)], .agg #[.int .u64 (N bv), .int .u64 (N bm)]] w fun e w' => e = .returned (.agg #[.int .u64 (N (tSub av am bv bm).1), .int .u64 (N (tSub av am bv bm).2)]) ∧ Grown w w' := by
  go_enter Try.func15, Try.ntmps15
  go_wp2
  go_quiet (fail)
  go_wp2
  go_returns
  exact ⟨rfl, by repeat' (first | exact Grown.refl _ | assumption | refine grown_drewN ?_ _ | refine Grown.alloc ?_ _ _ | refine Grown.setCell ?_ ?_ _ | (simp; omega))⟩

set_option maxHeartbeats 1000000 in
theorem tn_and (av am bv bm : W64) (w : World) : Calls Try.prog 17 #[.agg #[.int .u64 (N av), .int .u64 (N am)], .agg #[.int .u64 (N bv), .int .u64 (N bm)]] w fun e w' => e = .returned (.agg #[.int .u64 (N (tAnd av am bv bm).1), .int .u64 (N (tAnd av am bv bm).2)]) ∧ Grown w w' := by
  go_enter Try.func17, Try.ntmps17
  go_wp2
  go_returns
  exact ⟨rfl, by go_grown⟩

set_option maxHeartbeats 1000000 in
theorem tn_or (av am bv bm : W64) (w : World) : Calls Try.prog 18 #[.agg #[.int .u64 (N av), .int .u64 (N am)], .agg #[.int .u64 (N bv), .int .u64 (N bm)]] w fun e w' => e = .returned (.agg #[.int .u64 (N (tOr av am bv bm).1), .int .u64 (N (tOr av am bv bm).2)]) ∧ Grown w w' := by
  go_enter Try.func18, Try.ntmps18
  go_wp2
  go_returns
  exact ⟨rfl, by go_grown⟩

set_option maxHeartbeats 1000000 in
theorem tn_xor (av am bv bm : W64) (w : World) : Calls Try.prog 19 #[.agg #[.int .u64 (N av), .int .u64 (N am)], .agg #[.int .u64 (N bv), .int .u64 (N bm)]] w fun e w' => e = .returned (.agg #[.int .u64 (N (tXor av am bv bm).1), .int .u64 (N (tXor av am bv bm).2)]) ∧ Grown w w' := by
  go_enter Try.func19, Try.ntmps19
  go_wp2
  go_returns
  exact ⟨rfl, by go_grown⟩

set_option maxHeartbeats 1000000 in
theorem tn_either (av am bv bm : W64) (w : World) : Calls Try.prog 28 #[.agg #[.int .u64 (N av), .int .u64 (N am)], .agg #[.int .u64 (N bv), .int .u64 (N bm)]] w fun e w' => e = .returned (.agg #[.int .u64 (N (tEither av am bv bm).1), .int .u64 (N (tEither av am bv bm).2)]) ∧ Grown w w' := by
  go_enter Try.func28, Try.ntmps28
  go_wp2
  go_returns
  exact ⟨rfl, by go_grown⟩

set_option maxHeartbeats 400000 in
theorem tn_ofX (v m : W64) (w : World) : Calls Try.prog 51 #[.int .u64 (N v), .int .u64 (N m)] w fun e w' => e = .returned (.agg #[.int .u64 (N (tOf v m).1), .int .u64 (N (tOf v m).2)]) ∧ w' = w.alloc (.cells #[.int .u64 (N (tOf v m).1), .int .u64 (N (tOf v m).2)] 25) := by
  go_enter Try.func51, Try.ntmps51
  go_wp2
  go_returns
  exact ⟨rfl, rfl⟩

end Go.Proofs.Ytchjneodjaakdaa
