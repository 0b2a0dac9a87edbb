/-
  Lemmas for the laws of this seat: Sk44, Sk45, Sk46L, Sk46Z, Sk46N, Sk47.
-/
import Derived.Test.YtebolmfdglmpoaaSkK
import Derived.Test.YtebolmfdglmpoaaSk5
import Derived.Test.YtebolmfdglmpoaaSkF
import Derived.Test.YtebolmfdglmpoaaSkG
import Derived.Test.YtebolmfdglmpoaaSkI
section
namespace Go.Proofs.Ytebolmfdglmpoaa.Ex
open Go Go.RowKit
set_option maxHeartbeats 0
set_option maxRecDepth 1000000
set_option linter.unusedVariables false
set_option linter.unusedSectionVars false
open Go.Proofs.Ytebolmfdglmpoaa.Ex.S17 (TI NI SI nW tightI tightK hk_tight hk_tight_ok)
/-- The number behind an address. -/
def nOf (v : VI) : NI := ⟨⟨v.t, v.u⟩, ⟨v.a, v.b, v.c, v.d⟩⟩
noncomputable abbrev tiS (v : VI) : SI := (tightI (nOf v)).s
def suI (a b : Int) : Int := IntKind.i64.wrap (a + b)
def suK (a b : Int) : Bool := decide (suI a b > a) == decide (b > 0)
noncomputable def re3 : Hook3 := liftG 56 hk_tight
theorem re3_ok : HookOk3 Try.prog re3 := liftG_ok hk_tight_ok
/-- What Reach tells, of an offset 0. -/
def ReachIs (v : VI) (n s : Int) (b : Bool) : Prop := ∀ w : World, Calls Try.prog 23 #[.agg ⟨vL v⟩, .int .i64 0, .int .i64 n, .int .i64 s] w fun e w' => e = .returned (.bool b) ∧ Gr w w'
theorem re_0 (v : VI) (n s : Int) : reckonPI Try.prog re3 (oS [(23, 19, .bool true)]) noLoop 100000 300 [] 23 [.agg ⟨vL v⟩, .int .i64 0, .int .i64 n, .int .i64 s] = some (.bool false, inter [(b2i (!(suK v.o 0)), 1)]) := by kernel_rfl
theorem re_1 (v : VI) (n s : Int) : reckonPI Try.prog re3 (oS [(23, 19, .bool false), (23, 22, .bool true)]) noLoop 100000 300 [] 23 [.agg ⟨vL v⟩, .int .i64 0, .int .i64 n, .int .i64 s] = some (.bool false, inter [(b2i (!(suK v.o 0)), 0), (b2i (decide (n < 1)), 1)]) := by kernel_rfl
theorem re_2 (v : VI) (n s : Int) : reckonPI Try.prog re3 (oS [(23, 19, .bool false), (23, 22, .bool false), (23, 27, .bool true), (42, 17, .bool false)]) noLoop 100000 300 [] 23 [.agg ⟨vL v⟩, .int .i64 0, .int .i64 n, .int .i64 s] = some (.bool false, inter [(b2i (!(suK v.o 0)), 0), (b2i (decide (n < 1)), 0), (b2i (v.k == 2), 1), (b2i (suK (suI v.o 0) n), 0)]) := by kernel_rfl
theorem re_3 (v : VI) (n s : Int) : reckonPI Try.prog re3 (oS [(23, 19, .bool false), (23, 22, .bool false), (23, 27, .bool true), (42, 17, .bool true), (42, 21, .bool false)]) noLoop 100000 300 [] 23 [.agg ⟨vL v⟩, .int .i64 0, .int .i64 n, .int .i64 s] = some (.bool false, inter [(b2i (!(suK v.o 0)), 0), (b2i (decide (n < 1)), 0), (b2i (v.k == 2), 1), (b2i (suK (suI v.o 0) n), 1), (b2i (decide ((suI v.o 0) ≥ 0)), 0)]) := by kernel_rfl
theorem re_4 (v : VI) (n s : Int) : reckonPI Try.prog re3 (oS [(23, 19, .bool false), (23, 22, .bool false), (23, 27, .bool true), (42, 17, .bool true), (42, 21, .bool true)]) noLoop 100000 300 [] 23 [.agg ⟨vL v⟩, .int .i64 0, .int .i64 n, .int .i64 s] = some (.bool (decide (suI (suI v.o 0) n ≤ 24)), inter [(b2i (!(suK v.o 0)), 0), (b2i (decide (n < 1)), 0), (b2i (v.k == 2), 1), (b2i (suK (suI v.o 0) n), 1), (b2i (decide ((suI v.o 0) ≥ 0)), 1)]) := by kernel_rfl
theorem re_5 (v : VI) (n s : Int) : reckonPI Try.prog re3 (oS [(23, 19, .bool false), (23, 22, .bool false), (23, 27, .bool false), (23, 32, .bool true), (42, 17, .bool false)]) noLoop 100000 300 [] 23 [.agg ⟨vL v⟩, .int .i64 0, .int .i64 n, .int .i64 s] = some (.bool false, inter [(b2i (!(suK v.o 0)), 0), (b2i (decide (n < 1)), 0), (b2i (v.k == 2), 0), (b2i (v.k == 3), 1), (b2i (suK (suI v.o 0) n), 0)]) := by kernel_rfl
theorem re_6 (v : VI) (n s : Int) : reckonPI Try.prog re3 (oS [(23, 19, .bool false), (23, 22, .bool false), (23, 27, .bool false), (23, 32, .bool true), (42, 17, .bool true), (42, 21, .bool false)]) noLoop 100000 300 [] 23 [.agg ⟨vL v⟩, .int .i64 0, .int .i64 n, .int .i64 s] = some (.bool false, inter [(b2i (!(suK v.o 0)), 0), (b2i (decide (n < 1)), 0), (b2i (v.k == 2), 0), (b2i (v.k == 3), 1), (b2i (suK (suI v.o 0) n), 1), (b2i (decide ((suI v.o 0) ≥ -512)), 0)]) := by kernel_rfl
theorem re_7 (v : VI) (n s : Int) : reckonPI Try.prog re3 (oS [(23, 19, .bool false), (23, 22, .bool false), (23, 27, .bool false), (23, 32, .bool true), (42, 17, .bool true), (42, 21, .bool true)]) noLoop 100000 300 [] 23 [.agg ⟨vL v⟩, .int .i64 0, .int .i64 n, .int .i64 s] = some (.bool (decide (suI (suI v.o 0) n ≤ 0)), inter [(b2i (!(suK v.o 0)), 0), (b2i (decide (n < 1)), 0), (b2i (v.k == 2), 0), (b2i (v.k == 3), 1), (b2i (suK (suI v.o 0) n), 1), (b2i (decide ((suI v.o 0) ≥ -512)), 1)]) := by kernel_rfl
theorem re_8 (v : VI) (n s : Int) : reckonPI Try.prog re3 (oS [(23, 19, .bool false), (23, 22, .bool false), (23, 27, .bool false), (23, 32, .bool false), (23, 37, .bool true), (42, 17, .bool false)]) noLoop 100000 300 [] 23 [.agg ⟨vL v⟩, .int .i64 0, .int .i64 n, .int .i64 s] = some (.bool false, inter [(b2i (!(suK v.o 0)), 0), (b2i (decide (n < 1)), 0), (b2i (v.k == 2), 0), (b2i (v.k == 3), 0), (b2i (v.k == 7), 1), (b2i (suK (suI v.o 0) n), 0)]) := by kernel_rfl
theorem re_9 (v : VI) (n s : Int) : reckonPI Try.prog re3 (oS [(23, 19, .bool false), (23, 22, .bool false), (23, 27, .bool false), (23, 32, .bool false), (23, 37, .bool true), (42, 17, .bool true), (42, 21, .bool false)]) noLoop 100000 300 [] 23 [.agg ⟨vL v⟩, .int .i64 0, .int .i64 n, .int .i64 s] = some (.bool false, inter [(b2i (!(suK v.o 0)), 0), (b2i (decide (n < 1)), 0), (b2i (v.k == 2), 0), (b2i (v.k == 3), 0), (b2i (v.k == 7), 1), (b2i (suK (suI v.o 0) n), 1), (b2i (decide ((suI v.o 0) ≥ 0)), 0)]) := by kernel_rfl
theorem re_10 (v : VI) (n s : Int) : reckonPI Try.prog re3 (oS [(23, 19, .bool false), (23, 22, .bool false), (23, 27, .bool false), (23, 32, .bool false), (23, 37, .bool true), (42, 17, .bool true), (42, 21, .bool true)]) noLoop 100000 300 [] 23 [.agg ⟨vL v⟩, .int .i64 0, .int .i64 n, .int .i64 s] = some (.bool (decide (suI (suI v.o 0) n ≤ v.s)), inter [(b2i (!(suK v.o 0)), 0), (b2i (decide (n < 1)), 0), (b2i (v.k == 2), 0), (b2i (v.k == 3), 0), (b2i (v.k == 7), 1), (b2i (suK (suI v.o 0) n), 1), (b2i (decide ((suI v.o 0) ≥ 0)), 1)]) := by kernel_rfl
theorem re_11 (v : VI) (n s : Int) : reckonPI Try.prog re3 (oS [(23, 19, .bool false), (23, 22, .bool false), (23, 27, .bool false), (23, 32, .bool false), (23, 37, .bool false), (23, 44, .bool false)]) noLoop 100000 300 [] 23 [.agg ⟨vL v⟩, .int .i64 0, .int .i64 n, .int .i64 s] = some (.bool false, inter [(b2i (!(suK v.o 0)), 0), (b2i (decide (n < 1)), 0), (b2i (v.k == 2), 0), (b2i (v.k == 3), 0), (b2i (v.k == 7), 0), (b2i (v.k == 5), 0)]) := by kernel_rfl
theorem re_12 (v : VI) (n s : Int) : reckonPI Try.prog re3 (oS [(23, 19, .bool false), (23, 22, .bool false), (23, 27, .bool false), (23, 32, .bool false), (23, 37, .bool false), (23, 44, .bool true), (51, 11, .bool false)]) noLoop 100000 300 [] 23 [.agg ⟨vL v⟩, .int .i64 0, .int .i64 n, .int .i64 s] = some (.bool false, inter [(b2i (!(suK v.o 0)), 0), (b2i (decide (n < 1)), 0), (b2i (v.k == 2), 0), (b2i (v.k == 3), 0), (b2i (v.k == 7), 0), (b2i (v.k == 5), 1), (b2i (nW (nOf v)), 1), (b2i (tightK (nOf v)), 0)]) := by kernel_rfl
theorem re_13 (v : VI) (n s : Int) : reckonPI Try.prog re3 (oS [(23, 19, .bool false), (23, 22, .bool false), (23, 27, .bool false), (23, 32, .bool false), (23, 37, .bool false), (23, 44, .bool true), (51, 11, .bool true), (51, 16, .bool false)]) noLoop 100000 300 [] 23 [.agg ⟨vL v⟩, .int .i64 0, .int .i64 n, .int .i64 s] = some (.bool false, inter [(b2i (!(suK v.o 0)), 0), (b2i (decide (n < 1)), 0), (b2i (v.k == 2), 0), (b2i (v.k == 3), 0), (b2i (v.k == 7), 0), (b2i (v.k == 5), 1), (b2i (nW (nOf v)), 1), (b2i (tightK (nOf v)), 1), (b2i (decide ((tiS v).hi < 65536)), 0)]) := by kernel_rfl
theorem re_14 (v : VI) (n s : Int) : reckonPI Try.prog re3 (oS [(23, 19, .bool false), (23, 22, .bool false), (23, 27, .bool false), (23, 32, .bool false), (23, 37, .bool false), (23, 44, .bool true), (51, 11, .bool true), (51, 16, .bool true), (43, 39, .bool false)]) noLoop 100000 300 [] 23 [.agg ⟨vL v⟩, .int .i64 0, .int .i64 n, .int .i64 s] = some (.bool false, inter [(b2i (!(suK v.o 0)), 0), (b2i (decide (n < 1)), 0), (b2i (v.k == 2), 0), (b2i (v.k == 3), 0), (b2i (v.k == 7), 0), (b2i (v.k == 5), 1), (b2i (nW (nOf v)), 1), (b2i (tightK (nOf v)), 1), (b2i (decide ((tiS v).hi < 65536)), 1), (b2i (suK (suI v.o 0) (IntKind.i64.wrap (tiS v).lo)), 0)]) := by kernel_rfl
theorem re_15 (v : VI) (n s : Int) : reckonPI Try.prog re3 (oS [(23, 19, .bool false), (23, 22, .bool false), (23, 27, .bool false), (23, 32, .bool false), (23, 37, .bool false), (23, 44, .bool true), (51, 11, .bool true), (51, 16, .bool true), (43, 39, .bool true), (43, 41, .bool false)]) noLoop 100000 300 [] 23 [.agg ⟨vL v⟩, .int .i64 0, .int .i64 n, .int .i64 s] = some (.bool false, inter [(b2i (!(suK v.o 0)), 0), (b2i (decide (n < 1)), 0), (b2i (v.k == 2), 0), (b2i (v.k == 3), 0), (b2i (v.k == 7), 0), (b2i (v.k == 5), 1), (b2i (nW (nOf v)), 1), (b2i (tightK (nOf v)), 1), (b2i (decide ((tiS v).hi < 65536)), 1), (b2i (suK (suI v.o 0) (IntKind.i64.wrap (tiS v).lo)), 1), (b2i (suK (suI v.o 0) (IntKind.i64.wrap (tiS v).hi)), 0)]) := by kernel_rfl
theorem re_16 (v : VI) (n s : Int) : reckonPI Try.prog re3 (oS [(23, 19, .bool false), (23, 22, .bool false), (23, 27, .bool false), (23, 32, .bool false), (23, 37, .bool false), (23, 44, .bool true), (51, 11, .bool true), (51, 16, .bool true), (43, 39, .bool true), (43, 41, .bool true), (43, 45, .bool false)]) noLoop 100000 300 [] 23 [.agg ⟨vL v⟩, .int .i64 0, .int .i64 n, .int .i64 s] = some (.bool false, inter [(b2i (!(suK v.o 0)), 0), (b2i (decide (n < 1)), 0), (b2i (v.k == 2), 0), (b2i (v.k == 3), 0), (b2i (v.k == 7), 0), (b2i (v.k == 5), 1), (b2i (nW (nOf v)), 1), (b2i (tightK (nOf v)), 1), (b2i (decide ((tiS v).hi < 65536)), 1), (b2i (suK (suI v.o 0) (IntKind.i64.wrap (tiS v).lo)), 1), (b2i (suK (suI v.o 0) (IntKind.i64.wrap (tiS v).hi)), 1), (b2i (decide ((suI (suI v.o 0) (IntKind.i64.wrap (tiS v).lo)) ≥ 0)), 0)]) := by kernel_rfl
theorem re_17 (v : VI) (n s : Int) : reckonPI Try.prog re3 (oS [(23, 19, .bool false), (23, 22, .bool false), (23, 27, .bool false), (23, 32, .bool false), (23, 37, .bool false), (23, 44, .bool true), (51, 11, .bool true), (51, 16, .bool true), (43, 39, .bool true), (43, 41, .bool true), (43, 45, .bool true), (42, 17, .bool false)]) noLoop 100000 300 [] 23 [.agg ⟨vL v⟩, .int .i64 0, .int .i64 n, .int .i64 s] = some (.bool false, inter [(b2i (!(suK v.o 0)), 0), (b2i (decide (n < 1)), 0), (b2i (v.k == 2), 0), (b2i (v.k == 3), 0), (b2i (v.k == 7), 0), (b2i (v.k == 5), 1), (b2i (nW (nOf v)), 1), (b2i (tightK (nOf v)), 1), (b2i (decide ((tiS v).hi < 65536)), 1), (b2i (suK (suI v.o 0) (IntKind.i64.wrap (tiS v).lo)), 1), (b2i (suK (suI v.o 0) (IntKind.i64.wrap (tiS v).hi)), 1), (b2i (decide ((suI (suI v.o 0) (IntKind.i64.wrap (tiS v).lo)) ≥ 0)), 1), (b2i (suK (suI (suI v.o 0) (IntKind.i64.wrap (tiS v).hi)) n), 0)]) := by kernel_rfl
theorem re_18 (v : VI) (n s : Int) : reckonPI Try.prog re3 (oS [(23, 19, .bool false), (23, 22, .bool false), (23, 27, .bool false), (23, 32, .bool false), (23, 37, .bool false), (23, 44, .bool true), (51, 11, .bool true), (51, 16, .bool true), (43, 39, .bool true), (43, 41, .bool true), (43, 45, .bool true), (42, 17, .bool true), (42, 21, .bool false)]) noLoop 100000 300 [] 23 [.agg ⟨vL v⟩, .int .i64 0, .int .i64 n, .int .i64 s] = some (.bool false, inter [(b2i (!(suK v.o 0)), 0), (b2i (decide (n < 1)), 0), (b2i (v.k == 2), 0), (b2i (v.k == 3), 0), (b2i (v.k == 7), 0), (b2i (v.k == 5), 1), (b2i (nW (nOf v)), 1), (b2i (tightK (nOf v)), 1), (b2i (decide ((tiS v).hi < 65536)), 1), (b2i (suK (suI v.o 0) (IntKind.i64.wrap (tiS v).lo)), 1), (b2i (suK (suI v.o 0) (IntKind.i64.wrap (tiS v).hi)), 1), (b2i (decide ((suI (suI v.o 0) (IntKind.i64.wrap (tiS v).lo)) ≥ 0)), 1), (b2i (suK (suI (suI v.o 0) (IntKind.i64.wrap (tiS v).hi)) n), 1), (b2i (decide ((suI (suI v.o 0) (IntKind.i64.wrap (tiS v).hi)) ≥ 0)), 0)]) := by kernel_rfl
theorem re_19 (v : VI) (n s : Int) : reckonPI Try.prog re3 (oS [(23, 19, .bool false), (23, 22, .bool false), (23, 27, .bool false), (23, 32, .bool false), (23, 37, .bool false), (23, 44, .bool true), (51, 11, .bool true), (51, 16, .bool true), (43, 39, .bool true), (43, 41, .bool true), (43, 45, .bool true), (42, 17, .bool true), (42, 21, .bool true)]) noLoop 100000 300 [] 23 [.agg ⟨vL v⟩, .int .i64 0, .int .i64 n, .int .i64 s] = some (.bool (decide (suI (suI (suI v.o 0) (IntKind.i64.wrap (tiS v).hi)) n ≤ s)), inter [(b2i (!(suK v.o 0)), 0), (b2i (decide (n < 1)), 0), (b2i (v.k == 2), 0), (b2i (v.k == 3), 0), (b2i (v.k == 7), 0), (b2i (v.k == 5), 1), (b2i (nW (nOf v)), 1), (b2i (tightK (nOf v)), 1), (b2i (decide ((tiS v).hi < 65536)), 1), (b2i (suK (suI v.o 0) (IntKind.i64.wrap (tiS v).lo)), 1), (b2i (suK (suI v.o 0) (IntKind.i64.wrap (tiS v).hi)), 1), (b2i (decide ((suI (suI v.o 0) (IntKind.i64.wrap (tiS v).lo)) ≥ 0)), 1), (b2i (suK (suI (suI v.o 0) (IntKind.i64.wrap (tiS v).hi)) n), 1), (b2i (decide ((suI (suI v.o 0) (IntKind.i64.wrap (tiS v).hi)) ≥ 0)), 1)]) := by kernel_rfl
/-- Reach tells something; of other addresses than a map's value, whatever a value's size is. -/
theorem ex_reach (v : VI) (n s' : Int) (hw : nW (nOf v) = true) : ∃ b, ∀ s, (v.k = 5 → s = s') → ReachIs v n s b := by
  cases h19 : (!(suK v.o 0)) with
  | true =>
    exact ⟨false, fun s _ w => rq re3_ok _ rfl rfl (re_0 v n s) (AE.cons (bt h19) AE.nil) w⟩
  | false =>
    cases h22 : (decide (n < 1)) with
    | true =>
      exact ⟨false, fun s _ w => rq re3_ok _ rfl rfl (re_1 v n s) (AE.cons (bf h19) (AE.cons (bt h22) AE.nil)) w⟩
    | false =>
      cases h27 : (v.k == 2) with
      | true =>
        cases h17_w : (suK (suI v.o 0) n) with
        | true =>
          cases h21_w : (decide ((suI v.o 0) ≥ 0)) with
          | true =>
            exact ⟨(decide (suI (suI v.o 0) n ≤ 24)), fun s _ w => rq re3_ok _ rfl rfl (re_4 v n s) (AE.cons (bf h19) (AE.cons (bf h22) (AE.cons (bt h27) (AE.cons (bt h17_w) (AE.cons (bt h21_w) AE.nil))))) w⟩
          | false =>
            exact ⟨false, fun s _ w => rq re3_ok _ rfl rfl (re_3 v n s) (AE.cons (bf h19) (AE.cons (bf h22) (AE.cons (bt h27) (AE.cons (bt h17_w) (AE.cons (bf h21_w) AE.nil))))) w⟩
        | false =>
          exact ⟨false, fun s _ w => rq re3_ok _ rfl rfl (re_2 v n s) (AE.cons (bf h19) (AE.cons (bf h22) (AE.cons (bt h27) (AE.cons (bf h17_w) AE.nil)))) w⟩
      | false =>
        cases h32 : (v.k == 3) with
        | true =>
          cases h17_w : (suK (suI v.o 0) n) with
          | true =>
            cases h21_w : (decide ((suI v.o 0) ≥ -512)) with
            | true =>
              exact ⟨(decide (suI (suI v.o 0) n ≤ 0)), fun s _ w => rq re3_ok _ rfl rfl (re_7 v n s) (AE.cons (bf h19) (AE.cons (bf h22) (AE.cons (bf h27) (AE.cons (bt h32) (AE.cons (bt h17_w) (AE.cons (bt h21_w) AE.nil)))))) w⟩
            | false =>
              exact ⟨false, fun s _ w => rq re3_ok _ rfl rfl (re_6 v n s) (AE.cons (bf h19) (AE.cons (bf h22) (AE.cons (bf h27) (AE.cons (bt h32) (AE.cons (bt h17_w) (AE.cons (bf h21_w) AE.nil)))))) w⟩
          | false =>
            exact ⟨false, fun s _ w => rq re3_ok _ rfl rfl (re_5 v n s) (AE.cons (bf h19) (AE.cons (bf h22) (AE.cons (bf h27) (AE.cons (bt h32) (AE.cons (bf h17_w) AE.nil))))) w⟩
        | false =>
          cases h37 : (v.k == 7) with
          | true =>
            cases h17_w : (suK (suI v.o 0) n) with
            | true =>
              cases h21_w : (decide ((suI v.o 0) ≥ 0)) with
              | true =>
                exact ⟨(decide (suI (suI v.o 0) n ≤ v.s)), fun s _ w => rq re3_ok _ rfl rfl (re_10 v n s) (AE.cons (bf h19) (AE.cons (bf h22) (AE.cons (bf h27) (AE.cons (bf h32) (AE.cons (bt h37) (AE.cons (bt h17_w) (AE.cons (bt h21_w) AE.nil))))))) w⟩
              | false =>
                exact ⟨false, fun s _ w => rq re3_ok _ rfl rfl (re_9 v n s) (AE.cons (bf h19) (AE.cons (bf h22) (AE.cons (bf h27) (AE.cons (bf h32) (AE.cons (bt h37) (AE.cons (bt h17_w) (AE.cons (bf h21_w) AE.nil))))))) w⟩
            | false =>
              exact ⟨false, fun s _ w => rq re3_ok _ rfl rfl (re_8 v n s) (AE.cons (bf h19) (AE.cons (bf h22) (AE.cons (bf h27) (AE.cons (bf h32) (AE.cons (bt h37) (AE.cons (bf h17_w) AE.nil)))))) w⟩
          | false =>
            cases h44 : (v.k == 5) with
            | true =>
              cases h11_b : (tightK (nOf v)) with
              | true =>
                cases h16_b : (decide ((tiS v).hi < 65536)) with
                | true =>
                  cases h39_v : (suK (suI v.o 0) (IntKind.i64.wrap (tiS v).lo)) with
                  | true =>
                    cases h41_v : (suK (suI v.o 0) (IntKind.i64.wrap (tiS v).hi)) with
                    | true =>
                      cases h45_v : (decide ((suI (suI v.o 0) (IntKind.i64.wrap (tiS v).lo)) ≥ 0)) with
                      | true =>
                        cases h17_w : (suK (suI (suI v.o 0) (IntKind.i64.wrap (tiS v).hi)) n) with
                        | true =>
                          cases h21_w : (decide ((suI (suI v.o 0) (IntKind.i64.wrap (tiS v).hi)) ≥ 0)) with
                          | true =>
                            exact ⟨(decide (suI (suI (suI v.o 0) (IntKind.i64.wrap (tiS v).hi)) n ≤ s')), fun s hs w => by rw [hs (by simpa using h44)]; exact rq re3_ok _ rfl rfl (re_19 v n s') (AE.cons (bf h19) (AE.cons (bf h22) (AE.cons (bf h27) (AE.cons (bf h32) (AE.cons (bf h37) (AE.cons (bt h44) (AE.cons (bt hw) (AE.cons (bt h11_b) (AE.cons (bt h16_b) (AE.cons (bt h39_v) (AE.cons (bt h41_v) (AE.cons (bt h45_v) (AE.cons (bt h17_w) (AE.cons (bt h21_w) AE.nil)))))))))))))) w⟩
                          | false =>
                            exact ⟨false, fun s hs w => by rw [hs (by simpa using h44)]; exact rq re3_ok _ rfl rfl (re_18 v n s') (AE.cons (bf h19) (AE.cons (bf h22) (AE.cons (bf h27) (AE.cons (bf h32) (AE.cons (bf h37) (AE.cons (bt h44) (AE.cons (bt hw) (AE.cons (bt h11_b) (AE.cons (bt h16_b) (AE.cons (bt h39_v) (AE.cons (bt h41_v) (AE.cons (bt h45_v) (AE.cons (bt h17_w) (AE.cons (bf h21_w) AE.nil)))))))))))))) w⟩
                        | false =>
                          exact ⟨false, fun s hs w => by rw [hs (by simpa using h44)]; exact rq re3_ok _ rfl rfl (re_17 v n s') (AE.cons (bf h19) (AE.cons (bf h22) (AE.cons (bf h27) (AE.cons (bf h32) (AE.cons (bf h37) (AE.cons (bt h44) (AE.cons (bt hw) (AE.cons (bt h11_b) (AE.cons (bt h16_b) (AE.cons (bt h39_v) (AE.cons (bt h41_v) (AE.cons (bt h45_v) (AE.cons (bf h17_w) AE.nil))))))))))))) w⟩
                      | false =>
                        exact ⟨false, fun s hs w => by rw [hs (by simpa using h44)]; exact rq re3_ok _ rfl rfl (re_16 v n s') (AE.cons (bf h19) (AE.cons (bf h22) (AE.cons (bf h27) (AE.cons (bf h32) (AE.cons (bf h37) (AE.cons (bt h44) (AE.cons (bt hw) (AE.cons (bt h11_b) (AE.cons (bt h16_b) (AE.cons (bt h39_v) (AE.cons (bt h41_v) (AE.cons (bf h45_v) AE.nil)))))))))))) w⟩
                    | false =>
                      exact ⟨false, fun s hs w => by rw [hs (by simpa using h44)]; exact rq re3_ok _ rfl rfl (re_15 v n s') (AE.cons (bf h19) (AE.cons (bf h22) (AE.cons (bf h27) (AE.cons (bf h32) (AE.cons (bf h37) (AE.cons (bt h44) (AE.cons (bt hw) (AE.cons (bt h11_b) (AE.cons (bt h16_b) (AE.cons (bt h39_v) (AE.cons (bf h41_v) AE.nil))))))))))) w⟩
                  | false =>
                    exact ⟨false, fun s hs w => by rw [hs (by simpa using h44)]; exact rq re3_ok _ rfl rfl (re_14 v n s') (AE.cons (bf h19) (AE.cons (bf h22) (AE.cons (bf h27) (AE.cons (bf h32) (AE.cons (bf h37) (AE.cons (bt h44) (AE.cons (bt hw) (AE.cons (bt h11_b) (AE.cons (bt h16_b) (AE.cons (bf h39_v) AE.nil)))))))))) w⟩
                | false =>
                  exact ⟨false, fun s hs w => by rw [hs (by simpa using h44)]; exact rq re3_ok _ rfl rfl (re_13 v n s') (AE.cons (bf h19) (AE.cons (bf h22) (AE.cons (bf h27) (AE.cons (bf h32) (AE.cons (bf h37) (AE.cons (bt h44) (AE.cons (bt hw) (AE.cons (bt h11_b) (AE.cons (bf h16_b) AE.nil))))))))) w⟩
              | false =>
                exact ⟨false, fun s hs w => by rw [hs (by simpa using h44)]; exact rq re3_ok _ rfl rfl (re_12 v n s') (AE.cons (bf h19) (AE.cons (bf h22) (AE.cons (bf h27) (AE.cons (bf h32) (AE.cons (bf h37) (AE.cons (bt h44) (AE.cons (bt hw) (AE.cons (bf h11_b) AE.nil)))))))) w⟩
            | false =>
              exact ⟨false, fun s _ w => rq re3_ok _ rfl rfl (re_11 v n s) (AE.cons (bf h19) (AE.cons (bf h22) (AE.cons (bf h27) (AE.cons (bf h32) (AE.cons (bf h37) (AE.cons (bf h44) AE.nil)))))) w⟩
/-- Which size counts. -/
def szI (v : VI) (s : Int) : Int := bif v.k == 5 then s else 0
noncomputable def reB (v : VI) (n s : Int) : Bool := @dite _ (∃ b, ∀ t, (v.k = 5 → t = szI v s) → ReachIs v n t b) (Classical.propDecidable _) (fun h => Classical.choose h) (fun _ => false)
theorem reB_ok {v : VI} {n s : Int} (hw : nW (nOf v) = true) : ReachIs v n s (reB v n s) := by
  have h := ex_reach v n (szI v s) hw
  unfold reB
  rw [dif_pos h]
  refine Classical.choose_spec h s fun h5 => ?_
  unfold szI
  rw [h5]
  rfl
theorem reB_any {v : VI} {n s s' : Int} (h : v.k ≠ 5) : reB v n s = reB v n s' := by
  have e : szI v s = szI v s' := by
    unfold szI
    rw [show (v.k == 5) = false by simpa using h]
    rfl
  unfold reB
  rw [e]
noncomputable def hkReach : Hook := fun f args _ =>
  if Nat.beq f 23 then
    match args with
    | [.agg ⟨[.int .i64 k, .int .i64 m, .int .i64 i, .int .i64 o, .int .i64 u, .int .u64 t, .int .u64 x, .int .u64 a, .int .u64 b, .int .i64 c, .int .i64 d]⟩, .int .i64 0, .int .i64 n, .int .i64 s] => some (.bool (reB ⟨k, m, i, o, u, t, x, a, b, c, d⟩ n s), [(b2i (nW (nOf ⟨k, m, i, o, u, t, x, a, b, c, d⟩)), 1)])
    | _ => none
  else none
theorem hkReach_ok : HookOk Try.prog hkReach := by
  intro f args h v cs hv hc wb k s w H
  unfold hkReach at hv
  split at hv
  · rename_i hf
    obtain rfl := Nat.eq_of_beq_eq_true hf
    split at hv
    · rename_i k m i o u t x a b c d n s
      cases hv
      exact reB_ok (v := ⟨k, m, i, o, u, t, x, a, b, c, d⟩) (b2i_inj (b := true) (hc _ (List.mem_cons_self ..))) w
    · cases hv
  · cases hv
end Go.Proofs.Ytebolmfdglmpoaa.Ex
end
section
namespace Go.Proofs.Ytebolmfdglmpoaa.Ex
open Go Go.RowKit
set_option maxHeartbeats 0
set_option maxRecDepth 1000000
set_option linter.unusedVariables false
set_option linter.unusedSectionVars false
/-- The frame of some values, cell by cell. -/
noncomputable def hkFrameS : Hook := fun f args h =>
  match hkFrame f args h with
  | some (.agg ⟨X⟩, cs) => some (.agg ⟨spF X⟩, prP (OkF X) :: cs)
  | _ => none
theorem hkFrameS_ok : HookOk2 Try.prog hkFrameS := by
  intro f args h v cs hv hc wb k s w args' H ha
  unfold hkFrameS at hv
  split at hv
  · rename_i X cs0 he
    cases hv
    have := hkFrame_ok f args h _ _ he (fun c hm => hc c (List.mem_cons_of_mem _ hm)) wb k s w args' H ha
    rw [spF_eq (prP_of (hc _ (List.mem_cons_self ..)))]
    exact this
  · cases hv
abbrev fpF : FuncId := 5
/-- What is known of a value around a number, told. -/
noncomputable def hkVX (V : VI) : Hook := fun f args _ =>
  if Nat.beq f 19 then
    match args with
    | [.agg ⟨[.int .i64 k, .int .i64 m, .int .i64 i, .int .i64 o, .int .i64 s, .int .u32 num, .int .u64 b0, .int .u64 b1, .int .u64 b2, .int .u64 b3, .int .u64 b4]⟩] => some (.agg ⟨vL V⟩, [prP (V = vMade k m i o s num b0 b1 b2 b3 b4)])
    | _ => none
  else none
theorem hkVX_ok (V : VI) : HookOk Try.prog (hkVX V) := by
  intro f args h v cs hv hc wb k s w H
  unfold hkVX at hv
  split at hv
  · rename_i hf
    obtain rfl := Nat.eq_of_beq_eq_true hf
    split at hv
    · rename_i k m i o s num b0 b1 b2 b3 b4
      cases hv
      rw [prP_of (hc _ (List.mem_cons_self ..))]
      exact c_V k m i o s num b0 b1 b2 b3 b4 w
    · cases hv
  · cases hv
noncomputable def fp3 (V : VI) : Hook3 := or3 (liftQ hkFrameS) (or3 (liftQ hkFrame0) (or3 (liftG 19 (hkVX V)) (or3 (liftP hkPlain) (or3 (liftP hkReach) (liftG 17 hkBegun)))))
theorem fp3_ok (V : VI) : HookOk3 Try.prog (fp3 V) := or3_ok (liftQ_ok hkFrameS_ok) (or3_ok (liftQ_ok hkFrame0_ok) (or3_ok (liftG_ok (hkVX_ok V)) (or3_ok (liftP_ok hkPlain_ok) (or3_ok (liftP_ok hkReach_ok) (liftG_ok hkBegun_ok)))))
/-- kc: the address's kind (9: another one); z: is its map 0; p: is it not below 0; r: is it reached. -/
noncomputable def fpO (g : Bool) (F : List Value) (nn ss : Int) (kc : Nat) (z p r : Bool) : Orc := fun f t _ =>
  if Nat.beq f fpF then
    match t with
    | 16 => some (.bool g)
    | 26 => some (.int .i64 nn)
    | 31 => some (.int .i64 ss)
    | 38 => some (.bool (!z))
    | 41 => some (.bool (Nat.beq kc 3))
    | 43 => some (tld (.agg ⟨frS F⟩))
    | 50 => some (.bool (Nat.beq kc 3))
    | 54 => some (.bool (Nat.beq kc 5))
    | 59 => some (.bool (Nat.beq kc 7))
    | 61 => some (tld (.agg ⟨spF F⟩))
    | 76 => some (.bool true)
    | t => if Nat.beq t 2000007 then some (tld (.agg ⟨F⟩)) else none
  else if Nat.beq f 21 then
    match t with
    | 13 => some (.bool (Nat.beq kc 0))
    | 15 => some (.bool (Nat.beq kc 5))
    | 18 => some (.bool p)
    | 25 => some (.bool z)
    | 30 => some (.int .i64 0)
    | 35 => some (.bool (Nat.beq kc 3))
    | 36 => some (.bool (Nat.beq kc 7))
    | 42 => some (.bool (!r))
    | 46 => some (.bool (Nat.beq kc 3))
    | 48 => some (tld (.agg ⟨frS F⟩))
    | _ => none
  else if Nat.beq f 22 then
    match t with
    | 9 => some (.bool (Nat.beq kc 0))
    | 11 => some (.bool (!(Nat.beq kc 3 || Nat.beq kc 5 || Nat.beq kc 7)))
    | 13 => some (.bool (!r))
    | _ => none
  else none
def atV (v : VI) : List Value := [.int .i64 v.k, .int .i64 v.m, .int .i64 v.i, .int .i64 v.o, .int .i64 v.s, .int .u32 v.t, .int .u64 v.u, .int .u64 v.a, .int .u64 v.b, .int .u64 v.c, .int .u64 v.d]
def fpArgs (s0 : Value) (v : VI) (h0 h1 : Int) : List Value := [s0, .agg ⟨atV v⟩, .agg ⟨[.int .u16 h0, .int .u16 h1]⟩]
noncomputable def rcP (V : VI) (n s : Int) : Cs := [(b2i (([.agg ⟨vL V⟩, .int .i64 0, .int .i64 n, .int .i64 s] : List Value).all flat && flat (.bool (reB V n s))), 1), (b2i (S17.nW (nOf V)), 1)]
noncomputable def plcP (X : List Value) (V : VI) (n : Int) : Cs := [(b2i (([.agg ⟨frS X⟩, .int .i64 V.o, .int .i64 n] : List Value).all flat && flat (.int .i64 (plS (frS X) V.o n))), 1), prP (OkS (frS X))]
/-- What frames.Plain asks. -/
noncomputable def fpI (X : List Value) (V : VI) (n s : Int) (kc : Nat) (z p r : Bool) : Cs :=
  [(b2i (V.k == 0), b2i (Nat.beq kc 0))] ++ (bif Nat.beq kc 0 then [] else
  [(b2i (V.k == 5), b2i (Nat.beq kc 5))] ++ ((bif Nat.beq kc 5 then [(b2i (decide (V.m ≥ 0)), b2i p)] ++ (bif p then [(b2i (decide (V.m < 1)), b2i z)] ++ (bif z then [(V.m, 0)] else []) else [])
    else [(b2i (V.k == 3), b2i (Nat.beq kc 3))] ++ (bif Nat.beq kc 3 then [] else [(b2i (V.k == 7), b2i (Nat.beq kc 7))])) ++
  (bif Nat.beq kc 9 then [] else rcP V n (bif Nat.beq kc 5 && (p && z) then s else 0) ++ ([(b2i (!reB V n (bif Nat.beq kc 5 && (p && z) then s else 0)), b2i (!r))] ++
    (bif r then [(b2i (V.k == 3), b2i (Nat.beq kc 3))] ++ (bif Nat.beq kc 3 then ldP (spF X) (0 + 121) 768 (frS X) ++ plcP X V n else []) else [])))))
noncomputable def fpP (Y X : List Value) (v V : VI) (h0 h1 n s : Int) (kc : Nat) (z p r : Bool) : Cs :=
  [prP (V = vMade v.k v.m v.i v.o v.s v.t v.u v.a v.b v.c v.d)] ++ (stX zF 0 890 Y X ++ ([(wi ((wi h0).tmod 600 - 1), n), (wi ((wi h1).tmod 64 + 1), s), (b2i (V.m != 0), b2i (!z)), (b2i (V.k == 3), b2i (Nat.beq kc 3))] ++
  ((bif Nat.beq kc 3 then ldP X (0 + 121) 768 (frS X) ++ plcP X V n else []) ++ ([(b2i (V.k == 3), b2i (Nat.beq kc 3))] ++ ((bif Nat.beq kc 3 then [] else [(b2i (V.k == 5), b2i (Nat.beq kc 5))] ++ (bif Nat.beq kc 5 then [] else [(b2i (V.k == 7), b2i (Nat.beq kc 7))])) ++
  (ldP X 0 890 (spF X) ++ (fpI X V n s kc z p r ++ (rcP V n (bif z then s else 0) ++ ([(b2i (V.k == 0), b2i (Nat.beq kc 0))] ++ ((bif Nat.beq kc 0 then [] else bif Nat.beq kc 9 then [(1, 1)] else [(0, 0), (b2i (!reB V n (bif z then s else 0)), b2i (!r))]) ++
  (bif Nat.beq kc 3 && r then [(b2i (plS (frS X) V.o n == plS (frS X) V.o n), 1)] else [(1, 1)])))))))))))
noncomputable def fpPre (n : Nat) (cs X : List Value) : Cs := [(b2i (decide ((n : Int) > 75)), 0), (b2i (flat (.agg ⟨spF X⟩)), 1), prP (OkF X), prP (OkT cs n), (b2i (decide (n ≤ 75)), 1)]
end Go.Proofs.Ytebolmfdglmpoaa.Ex
end
section
namespace Go.Proofs.Ytebolmfdglmpoaa.Ex
open Go Go.RowKit
set_option maxHeartbeats 0
set_option maxRecDepth 1000000
set_option linter.unusedVariables false
set_option linter.unusedSectionVars false
theorem fp_L0111 (cs : List Value) (m c : Nat) (v V : VI) (h0 h1 n s : Int) : reckonQI Try.prog (fp3 V) (fpO false (frM cs m) n s 0 true true true) noLoop 100000 300 [⟨true, none, cs⟩] fpF (fpArgs (.slice (some ⟨0, 0, none⟩) m c) v h0 h1) = some (.bool true, inter (fpPre m cs (frM cs m) ++ fpP (spF (frM cs m)) (frM cs m) v V h0 h1 n s 0 true true true)) := by kernel_rfl
theorem fp_L0011 (cs : List Value) (m c : Nat) (v V : VI) (h0 h1 n s : Int) : reckonQI Try.prog (fp3 V) (fpO false (frM cs m) n s 0 false true true) noLoop 100000 300 [⟨true, none, cs⟩] fpF (fpArgs (.slice (some ⟨0, 0, none⟩) m c) v h0 h1) = some (.bool true, inter (fpPre m cs (frM cs m) ++ fpP (spF (frM cs m)) (frM cs m) v V h0 h1 n s 0 false true true)) := by kernel_rfl
theorem fp_L9111 (cs : List Value) (m c : Nat) (v V : VI) (h0 h1 n s : Int) : reckonQI Try.prog (fp3 V) (fpO false (frM cs m) n s 9 true true true) noLoop 100000 300 [⟨true, none, cs⟩] fpF (fpArgs (.slice (some ⟨0, 0, none⟩) m c) v h0 h1) = some (.bool true, inter (fpPre m cs (frM cs m) ++ fpP (spF (frM cs m)) (frM cs m) v V h0 h1 n s 9 true true true)) := by kernel_rfl
theorem fp_L9011 (cs : List Value) (m c : Nat) (v V : VI) (h0 h1 n s : Int) : reckonQI Try.prog (fp3 V) (fpO false (frM cs m) n s 9 false true true) noLoop 100000 300 [⟨true, none, cs⟩] fpF (fpArgs (.slice (some ⟨0, 0, none⟩) m c) v h0 h1) = some (.bool true, inter (fpPre m cs (frM cs m) ++ fpP (spF (frM cs m)) (frM cs m) v V h0 h1 n s 9 false true true)) := by kernel_rfl
theorem fp_L3111 (cs : List Value) (m c : Nat) (v V : VI) (h0 h1 n s : Int) : reckonQI Try.prog (fp3 V) (fpO false (frM cs m) n s 3 true true true) noLoop 100000 300 [⟨true, none, cs⟩] fpF (fpArgs (.slice (some ⟨0, 0, none⟩) m c) v h0 h1) = some (.bool true, inter (fpPre m cs (frM cs m) ++ fpP (spF (frM cs m)) (frM cs m) v V h0 h1 n s 3 true true true)) := by kernel_rfl
theorem fp_L3110 (cs : List Value) (m c : Nat) (v V : VI) (h0 h1 n s : Int) : reckonQI Try.prog (fp3 V) (fpO false (frM cs m) n s 3 true true false) noLoop 100000 300 [⟨true, none, cs⟩] fpF (fpArgs (.slice (some ⟨0, 0, none⟩) m c) v h0 h1) = some (.bool true, inter (fpPre m cs (frM cs m) ++ fpP (spF (frM cs m)) (frM cs m) v V h0 h1 n s 3 true true false)) := by kernel_rfl
theorem fp_L3011 (cs : List Value) (m c : Nat) (v V : VI) (h0 h1 n s : Int) : reckonQI Try.prog (fp3 V) (fpO false (frM cs m) n s 3 false true true) noLoop 100000 300 [⟨true, none, cs⟩] fpF (fpArgs (.slice (some ⟨0, 0, none⟩) m c) v h0 h1) = some (.bool true, inter (fpPre m cs (frM cs m) ++ fpP (spF (frM cs m)) (frM cs m) v V h0 h1 n s 3 false true true)) := by kernel_rfl
theorem fp_L3010 (cs : List Value) (m c : Nat) (v V : VI) (h0 h1 n s : Int) : reckonQI Try.prog (fp3 V) (fpO false (frM cs m) n s 3 false true false) noLoop 100000 300 [⟨true, none, cs⟩] fpF (fpArgs (.slice (some ⟨0, 0, none⟩) m c) v h0 h1) = some (.bool true, inter (fpPre m cs (frM cs m) ++ fpP (spF (frM cs m)) (frM cs m) v V h0 h1 n s 3 false true false)) := by kernel_rfl
theorem fp_L7111 (cs : List Value) (m c : Nat) (v V : VI) (h0 h1 n s : Int) : reckonQI Try.prog (fp3 V) (fpO false (frM cs m) n s 7 true true true) noLoop 100000 300 [⟨true, none, cs⟩] fpF (fpArgs (.slice (some ⟨0, 0, none⟩) m c) v h0 h1) = some (.bool true, inter (fpPre m cs (frM cs m) ++ fpP (spF (frM cs m)) (frM cs m) v V h0 h1 n s 7 true true true)) := by kernel_rfl
theorem fp_L7110 (cs : List Value) (m c : Nat) (v V : VI) (h0 h1 n s : Int) : reckonQI Try.prog (fp3 V) (fpO false (frM cs m) n s 7 true true false) noLoop 100000 300 [⟨true, none, cs⟩] fpF (fpArgs (.slice (some ⟨0, 0, none⟩) m c) v h0 h1) = some (.bool true, inter (fpPre m cs (frM cs m) ++ fpP (spF (frM cs m)) (frM cs m) v V h0 h1 n s 7 true true false)) := by kernel_rfl
theorem fp_L7011 (cs : List Value) (m c : Nat) (v V : VI) (h0 h1 n s : Int) : reckonQI Try.prog (fp3 V) (fpO false (frM cs m) n s 7 false true true) noLoop 100000 300 [⟨true, none, cs⟩] fpF (fpArgs (.slice (some ⟨0, 0, none⟩) m c) v h0 h1) = some (.bool true, inter (fpPre m cs (frM cs m) ++ fpP (spF (frM cs m)) (frM cs m) v V h0 h1 n s 7 false true true)) := by kernel_rfl
theorem fp_L7010 (cs : List Value) (m c : Nat) (v V : VI) (h0 h1 n s : Int) : reckonQI Try.prog (fp3 V) (fpO false (frM cs m) n s 7 false true false) noLoop 100000 300 [⟨true, none, cs⟩] fpF (fpArgs (.slice (some ⟨0, 0, none⟩) m c) v h0 h1) = some (.bool true, inter (fpPre m cs (frM cs m) ++ fpP (spF (frM cs m)) (frM cs m) v V h0 h1 n s 7 false true false)) := by kernel_rfl
theorem fp_L5111 (cs : List Value) (m c : Nat) (v V : VI) (h0 h1 n s : Int) : reckonQI Try.prog (fp3 V) (fpO false (frM cs m) n s 5 true true true) noLoop 100000 300 [⟨true, none, cs⟩] fpF (fpArgs (.slice (some ⟨0, 0, none⟩) m c) v h0 h1) = some (.bool true, inter (fpPre m cs (frM cs m) ++ fpP (spF (frM cs m)) (frM cs m) v V h0 h1 n s 5 true true true)) := by kernel_rfl
theorem fp_L5110 (cs : List Value) (m c : Nat) (v V : VI) (h0 h1 n s : Int) : reckonQI Try.prog (fp3 V) (fpO false (frM cs m) n s 5 true true false) noLoop 100000 300 [⟨true, none, cs⟩] fpF (fpArgs (.slice (some ⟨0, 0, none⟩) m c) v h0 h1) = some (.bool true, inter (fpPre m cs (frM cs m) ++ fpP (spF (frM cs m)) (frM cs m) v V h0 h1 n s 5 true true false)) := by kernel_rfl
theorem fp_L5011 (cs : List Value) (m c : Nat) (v V : VI) (h0 h1 n s : Int) : reckonQI Try.prog (fp3 V) (fpO false (frM cs m) n s 5 false true true) noLoop 100000 300 [⟨true, none, cs⟩] fpF (fpArgs (.slice (some ⟨0, 0, none⟩) m c) v h0 h1) = some (.bool true, inter (fpPre m cs (frM cs m) ++ fpP (spF (frM cs m)) (frM cs m) v V h0 h1 n s 5 false true true)) := by kernel_rfl
theorem fp_L5010 (cs : List Value) (m c : Nat) (v V : VI) (h0 h1 n s : Int) : reckonQI Try.prog (fp3 V) (fpO false (frM cs m) n s 5 false true false) noLoop 100000 300 [⟨true, none, cs⟩] fpF (fpArgs (.slice (some ⟨0, 0, none⟩) m c) v h0 h1) = some (.bool true, inter (fpPre m cs (frM cs m) ++ fpP (spF (frM cs m)) (frM cs m) v V h0 h1 n s 5 false true false)) := by kernel_rfl
theorem fp_L5001 (cs : List Value) (m c : Nat) (v V : VI) (h0 h1 n s : Int) : reckonQI Try.prog (fp3 V) (fpO false (frM cs m) n s 5 false false true) noLoop 100000 300 [⟨true, none, cs⟩] fpF (fpArgs (.slice (some ⟨0, 0, none⟩) m c) v h0 h1) = some (.bool true, inter (fpPre m cs (frM cs m) ++ fpP (spF (frM cs m)) (frM cs m) v V h0 h1 n s 5 false false true)) := by kernel_rfl
theorem fp_L5000 (cs : List Value) (m c : Nat) (v V : VI) (h0 h1 n s : Int) : reckonQI Try.prog (fp3 V) (fpO false (frM cs m) n s 5 false false false) noLoop 100000 300 [⟨true, none, cs⟩] fpF (fpArgs (.slice (some ⟨0, 0, none⟩) m c) v h0 h1) = some (.bool true, inter (fpPre m cs (frM cs m) ++ fpP (spF (frM cs m)) (frM cs m) v V h0 h1 n s 5 false false false)) := by kernel_rfl
end Go.Proofs.Ytebolmfdglmpoaa.Ex
end
section
namespace Go.Proofs.Ytebolmfdglmpoaa.Ex
open Go Go.RowKit
set_option maxHeartbeats 0
set_option maxRecDepth 1000000
set_option linter.unusedVariables false
set_option linter.unusedSectionVars false
theorem fp_Z0111 (v V : VI) (h0 h1 n s : Int) : reckonQI Try.prog (fp3 V) (fpO false zF n s 0 true true true) noLoop 100000 300 [dead] fpF (fpArgs (.slice (some ⟨0, 0, none⟩) 0 0) v h0 h1) = some (.bool true, inter (lwPre0 zF ++ fpP zF zF v V h0 h1 n s 0 true true true)) := by kernel_rfl
theorem fp_Z0011 (v V : VI) (h0 h1 n s : Int) : reckonQI Try.prog (fp3 V) (fpO false zF n s 0 false true true) noLoop 100000 300 [dead] fpF (fpArgs (.slice (some ⟨0, 0, none⟩) 0 0) v h0 h1) = some (.bool true, inter (lwPre0 zF ++ fpP zF zF v V h0 h1 n s 0 false true true)) := by kernel_rfl
theorem fp_Z9111 (v V : VI) (h0 h1 n s : Int) : reckonQI Try.prog (fp3 V) (fpO false zF n s 9 true true true) noLoop 100000 300 [dead] fpF (fpArgs (.slice (some ⟨0, 0, none⟩) 0 0) v h0 h1) = some (.bool true, inter (lwPre0 zF ++ fpP zF zF v V h0 h1 n s 9 true true true)) := by kernel_rfl
theorem fp_Z9011 (v V : VI) (h0 h1 n s : Int) : reckonQI Try.prog (fp3 V) (fpO false zF n s 9 false true true) noLoop 100000 300 [dead] fpF (fpArgs (.slice (some ⟨0, 0, none⟩) 0 0) v h0 h1) = some (.bool true, inter (lwPre0 zF ++ fpP zF zF v V h0 h1 n s 9 false true true)) := by kernel_rfl
theorem fp_Z3111 (v V : VI) (h0 h1 n s : Int) : reckonQI Try.prog (fp3 V) (fpO false zF n s 3 true true true) noLoop 100000 300 [dead] fpF (fpArgs (.slice (some ⟨0, 0, none⟩) 0 0) v h0 h1) = some (.bool true, inter (lwPre0 zF ++ fpP zF zF v V h0 h1 n s 3 true true true)) := by kernel_rfl
theorem fp_Z3110 (v V : VI) (h0 h1 n s : Int) : reckonQI Try.prog (fp3 V) (fpO false zF n s 3 true true false) noLoop 100000 300 [dead] fpF (fpArgs (.slice (some ⟨0, 0, none⟩) 0 0) v h0 h1) = some (.bool true, inter (lwPre0 zF ++ fpP zF zF v V h0 h1 n s 3 true true false)) := by kernel_rfl
theorem fp_Z3011 (v V : VI) (h0 h1 n s : Int) : reckonQI Try.prog (fp3 V) (fpO false zF n s 3 false true true) noLoop 100000 300 [dead] fpF (fpArgs (.slice (some ⟨0, 0, none⟩) 0 0) v h0 h1) = some (.bool true, inter (lwPre0 zF ++ fpP zF zF v V h0 h1 n s 3 false true true)) := by kernel_rfl
theorem fp_Z3010 (v V : VI) (h0 h1 n s : Int) : reckonQI Try.prog (fp3 V) (fpO false zF n s 3 false true false) noLoop 100000 300 [dead] fpF (fpArgs (.slice (some ⟨0, 0, none⟩) 0 0) v h0 h1) = some (.bool true, inter (lwPre0 zF ++ fpP zF zF v V h0 h1 n s 3 false true false)) := by kernel_rfl
theorem fp_Z7111 (v V : VI) (h0 h1 n s : Int) : reckonQI Try.prog (fp3 V) (fpO false zF n s 7 true true true) noLoop 100000 300 [dead] fpF (fpArgs (.slice (some ⟨0, 0, none⟩) 0 0) v h0 h1) = some (.bool true, inter (lwPre0 zF ++ fpP zF zF v V h0 h1 n s 7 true true true)) := by kernel_rfl
theorem fp_Z7110 (v V : VI) (h0 h1 n s : Int) : reckonQI Try.prog (fp3 V) (fpO false zF n s 7 true true false) noLoop 100000 300 [dead] fpF (fpArgs (.slice (some ⟨0, 0, none⟩) 0 0) v h0 h1) = some (.bool true, inter (lwPre0 zF ++ fpP zF zF v V h0 h1 n s 7 true true false)) := by kernel_rfl
theorem fp_Z7011 (v V : VI) (h0 h1 n s : Int) : reckonQI Try.prog (fp3 V) (fpO false zF n s 7 false true true) noLoop 100000 300 [dead] fpF (fpArgs (.slice (some ⟨0, 0, none⟩) 0 0) v h0 h1) = some (.bool true, inter (lwPre0 zF ++ fpP zF zF v V h0 h1 n s 7 false true true)) := by kernel_rfl
theorem fp_Z7010 (v V : VI) (h0 h1 n s : Int) : reckonQI Try.prog (fp3 V) (fpO false zF n s 7 false true false) noLoop 100000 300 [dead] fpF (fpArgs (.slice (some ⟨0, 0, none⟩) 0 0) v h0 h1) = some (.bool true, inter (lwPre0 zF ++ fpP zF zF v V h0 h1 n s 7 false true false)) := by kernel_rfl
theorem fp_Z5111 (v V : VI) (h0 h1 n s : Int) : reckonQI Try.prog (fp3 V) (fpO false zF n s 5 true true true) noLoop 100000 300 [dead] fpF (fpArgs (.slice (some ⟨0, 0, none⟩) 0 0) v h0 h1) = some (.bool true, inter (lwPre0 zF ++ fpP zF zF v V h0 h1 n s 5 true true true)) := by kernel_rfl
theorem fp_Z5110 (v V : VI) (h0 h1 n s : Int) : reckonQI Try.prog (fp3 V) (fpO false zF n s 5 true true false) noLoop 100000 300 [dead] fpF (fpArgs (.slice (some ⟨0, 0, none⟩) 0 0) v h0 h1) = some (.bool true, inter (lwPre0 zF ++ fpP zF zF v V h0 h1 n s 5 true true false)) := by kernel_rfl
theorem fp_Z5011 (v V : VI) (h0 h1 n s : Int) : reckonQI Try.prog (fp3 V) (fpO false zF n s 5 false true true) noLoop 100000 300 [dead] fpF (fpArgs (.slice (some ⟨0, 0, none⟩) 0 0) v h0 h1) = some (.bool true, inter (lwPre0 zF ++ fpP zF zF v V h0 h1 n s 5 false true true)) := by kernel_rfl
theorem fp_Z5010 (v V : VI) (h0 h1 n s : Int) : reckonQI Try.prog (fp3 V) (fpO false zF n s 5 false true false) noLoop 100000 300 [dead] fpF (fpArgs (.slice (some ⟨0, 0, none⟩) 0 0) v h0 h1) = some (.bool true, inter (lwPre0 zF ++ fpP zF zF v V h0 h1 n s 5 false true false)) := by kernel_rfl
theorem fp_Z5001 (v V : VI) (h0 h1 n s : Int) : reckonQI Try.prog (fp3 V) (fpO false zF n s 5 false false true) noLoop 100000 300 [dead] fpF (fpArgs (.slice (some ⟨0, 0, none⟩) 0 0) v h0 h1) = some (.bool true, inter (lwPre0 zF ++ fpP zF zF v V h0 h1 n s 5 false false true)) := by kernel_rfl
theorem fp_Z5000 (v V : VI) (h0 h1 n s : Int) : reckonQI Try.prog (fp3 V) (fpO false zF n s 5 false false false) noLoop 100000 300 [dead] fpF (fpArgs (.slice (some ⟨0, 0, none⟩) 0 0) v h0 h1) = some (.bool true, inter (lwPre0 zF ++ fpP zF zF v V h0 h1 n s 5 false false false)) := by kernel_rfl
end Go.Proofs.Ytebolmfdglmpoaa.Ex
end
section
namespace Go.Proofs.Ytebolmfdglmpoaa.Ex
open Go Go.RowKit
set_option maxHeartbeats 0
set_option maxRecDepth 1000000
set_option linter.unusedVariables false
set_option linter.unusedSectionVars false
theorem fp_N0111 (v V : VI) (h0 h1 n s : Int) : reckonQI Try.prog (fp3 V) (fpO false zF n s 0 true true true) noLoop 100000 300 [dead] fpF (fpArgs (.slice none 0 0) v h0 h1) = some (.bool true, inter (lwPre0 zF ++ fpP zF zF v V h0 h1 n s 0 true true true)) := by kernel_rfl
theorem fp_N0011 (v V : VI) (h0 h1 n s : Int) : reckonQI Try.prog (fp3 V) (fpO false zF n s 0 false true true) noLoop 100000 300 [dead] fpF (fpArgs (.slice none 0 0) v h0 h1) = some (.bool true, inter (lwPre0 zF ++ fpP zF zF v V h0 h1 n s 0 false true true)) := by kernel_rfl
theorem fp_N9111 (v V : VI) (h0 h1 n s : Int) : reckonQI Try.prog (fp3 V) (fpO false zF n s 9 true true true) noLoop 100000 300 [dead] fpF (fpArgs (.slice none 0 0) v h0 h1) = some (.bool true, inter (lwPre0 zF ++ fpP zF zF v V h0 h1 n s 9 true true true)) := by kernel_rfl
theorem fp_N9011 (v V : VI) (h0 h1 n s : Int) : reckonQI Try.prog (fp3 V) (fpO false zF n s 9 false true true) noLoop 100000 300 [dead] fpF (fpArgs (.slice none 0 0) v h0 h1) = some (.bool true, inter (lwPre0 zF ++ fpP zF zF v V h0 h1 n s 9 false true true)) := by kernel_rfl
theorem fp_N3111 (v V : VI) (h0 h1 n s : Int) : reckonQI Try.prog (fp3 V) (fpO false zF n s 3 true true true) noLoop 100000 300 [dead] fpF (fpArgs (.slice none 0 0) v h0 h1) = some (.bool true, inter (lwPre0 zF ++ fpP zF zF v V h0 h1 n s 3 true true true)) := by kernel_rfl
theorem fp_N3110 (v V : VI) (h0 h1 n s : Int) : reckonQI Try.prog (fp3 V) (fpO false zF n s 3 true true false) noLoop 100000 300 [dead] fpF (fpArgs (.slice none 0 0) v h0 h1) = some (.bool true, inter (lwPre0 zF ++ fpP zF zF v V h0 h1 n s 3 true true false)) := by kernel_rfl
theorem fp_N3011 (v V : VI) (h0 h1 n s : Int) : reckonQI Try.prog (fp3 V) (fpO false zF n s 3 false true true) noLoop 100000 300 [dead] fpF (fpArgs (.slice none 0 0) v h0 h1) = some (.bool true, inter (lwPre0 zF ++ fpP zF zF v V h0 h1 n s 3 false true true)) := by kernel_rfl
theorem fp_N3010 (v V : VI) (h0 h1 n s : Int) : reckonQI Try.prog (fp3 V) (fpO false zF n s 3 false true false) noLoop 100000 300 [dead] fpF (fpArgs (.slice none 0 0) v h0 h1) = some (.bool true, inter (lwPre0 zF ++ fpP zF zF v V h0 h1 n s 3 false true false)) := by kernel_rfl
theorem fp_N7111 (v V : VI) (h0 h1 n s : Int) : reckonQI Try.prog (fp3 V) (fpO false zF n s 7 true true true) noLoop 100000 300 [dead] fpF (fpArgs (.slice none 0 0) v h0 h1) = some (.bool true, inter (lwPre0 zF ++ fpP zF zF v V h0 h1 n s 7 true true true)) := by kernel_rfl
theorem fp_N7110 (v V : VI) (h0 h1 n s : Int) : reckonQI Try.prog (fp3 V) (fpO false zF n s 7 true true false) noLoop 100000 300 [dead] fpF (fpArgs (.slice none 0 0) v h0 h1) = some (.bool true, inter (lwPre0 zF ++ fpP zF zF v V h0 h1 n s 7 true true false)) := by kernel_rfl
theorem fp_N7011 (v V : VI) (h0 h1 n s : Int) : reckonQI Try.prog (fp3 V) (fpO false zF n s 7 false true true) noLoop 100000 300 [dead] fpF (fpArgs (.slice none 0 0) v h0 h1) = some (.bool true, inter (lwPre0 zF ++ fpP zF zF v V h0 h1 n s 7 false true true)) := by kernel_rfl
theorem fp_N7010 (v V : VI) (h0 h1 n s : Int) : reckonQI Try.prog (fp3 V) (fpO false zF n s 7 false true false) noLoop 100000 300 [dead] fpF (fpArgs (.slice none 0 0) v h0 h1) = some (.bool true, inter (lwPre0 zF ++ fpP zF zF v V h0 h1 n s 7 false true false)) := by kernel_rfl
theorem fp_N5111 (v V : VI) (h0 h1 n s : Int) : reckonQI Try.prog (fp3 V) (fpO false zF n s 5 true true true) noLoop 100000 300 [dead] fpF (fpArgs (.slice none 0 0) v h0 h1) = some (.bool true, inter (lwPre0 zF ++ fpP zF zF v V h0 h1 n s 5 true true true)) := by kernel_rfl
theorem fp_N5110 (v V : VI) (h0 h1 n s : Int) : reckonQI Try.prog (fp3 V) (fpO false zF n s 5 true true false) noLoop 100000 300 [dead] fpF (fpArgs (.slice none 0 0) v h0 h1) = some (.bool true, inter (lwPre0 zF ++ fpP zF zF v V h0 h1 n s 5 true true false)) := by kernel_rfl
theorem fp_N5011 (v V : VI) (h0 h1 n s : Int) : reckonQI Try.prog (fp3 V) (fpO false zF n s 5 false true true) noLoop 100000 300 [dead] fpF (fpArgs (.slice none 0 0) v h0 h1) = some (.bool true, inter (lwPre0 zF ++ fpP zF zF v V h0 h1 n s 5 false true true)) := by kernel_rfl
theorem fp_N5010 (v V : VI) (h0 h1 n s : Int) : reckonQI Try.prog (fp3 V) (fpO false zF n s 5 false true false) noLoop 100000 300 [dead] fpF (fpArgs (.slice none 0 0) v h0 h1) = some (.bool true, inter (lwPre0 zF ++ fpP zF zF v V h0 h1 n s 5 false true false)) := by kernel_rfl
theorem fp_N5001 (v V : VI) (h0 h1 n s : Int) : reckonQI Try.prog (fp3 V) (fpO false zF n s 5 false false true) noLoop 100000 300 [dead] fpF (fpArgs (.slice none 0 0) v h0 h1) = some (.bool true, inter (lwPre0 zF ++ fpP zF zF v V h0 h1 n s 5 false false true)) := by kernel_rfl
theorem fp_N5000 (v V : VI) (h0 h1 n s : Int) : reckonQI Try.prog (fp3 V) (fpO false zF n s 5 false false false) noLoop 100000 300 [dead] fpF (fpArgs (.slice none 0 0) v h0 h1) = some (.bool true, inter (lwPre0 zF ++ fpP zF zF v V h0 h1 n s 5 false false false)) := by kernel_rfl
theorem fp_G (m c : Nat) (v V : VI) (h0 h1 : Int) : reckonQI Try.prog (fp3 V) (fpO true zF 0 0 0 true true true) noLoop 100000 300 [dead] fpF (fpArgs (.slice (some ⟨0, 0, none⟩) m c) v h0 h1) = some (.bool true, inter [(b2i (decide ((m : Int) > 75)), 1)]) := by kernel_rfl
end Go.Proofs.Ytebolmfdglmpoaa.Ex
end
section
namespace Go.Proofs.Ytebolmfdglmpoaa.Ex
open Go Go.RowKit
set_option maxHeartbeats 0
set_option maxRecDepth 1000000
set_option linter.unusedVariables false
set_option linter.unusedSectionVars false
theorem qne_f {a b : Int} (h : a = b) : (a != b) = false := by rw [h]; simp
theorem qne_t {a b : Int} (h : a ≠ b) : (a != b) = true := by simpa using h
theorem qeq_t {a b : Int} (h : a = b) : (a == b) = true := by rw [h]; simp
theorem qeq_f {a b : Int} (h : a ≠ b) : (a == b) = false := by simpa using h
theorem pB {x y : Bool} (h : x = y) : (b2i x, b2i y).1 = (b2i x, b2i y).2 := congrArg b2i h
section
variable {Y X : List Value} {v V : VI} {h0 h1 n s : Int} (h : OkF X) (hy : AE (stX zF 0 890 Y X)) (hw : S17.nW (nOf V) = true) (hV : V = vMade v.k v.m v.i v.o v.s v.t v.u v.a v.b v.c v.d) (hn : wi ((wi h0).tmod 600 - 1) = n) (hs : wi ((wi h1).tmod 64 + 1) = s)
theorem rcP_ok (V : VI) (n s : Int) (hw : S17.nW (nOf V) = true) : AE (rcP V n s) := AE.cons rfl (AE.cons (bt hw) AE.nil)
theorem plcP_ok {X : List Value} (h : OkF X) (V : VI) (n : Int) : AE (plcP X V n) := AE.cons (bt (by
  show ((flat (.agg ⟨frS X⟩) && true) && true) = true
  rw [h.S.flat]
  rfl)) (AE.consP (prP_ok h.S) AE.nil)
theorem fpS {X : List Value} (h : OkF X) : AE (ldP X (0 + 121) 768 (frS X)) := ldP_ok (by rw [h.1]; omega) rfl
theorem fpSs {X : List Value} (h : OkF X) : AE (ldP (spF X) (0 + 121) 768 (frS X)) := by rw [spF_eq h]; exact fpS h
theorem fpL {X : List Value} (h : OkF X) : AE (ldP X 0 890 (spF X)) := ldP_ok (by rw [h.1]; omega) (by rw [spF_eq h]; exact h.whole)
include h hy hw hV hn hs
theorem fpA_0111 (hk : V.k = 0) (hm : V.m = 0) : AE (fpP Y X v V h0 h1 n s 0 true true true) := AE.app (AE.consP (prP_ok hV) AE.nil) (AE.app (hy) (AE.app (AE.cons (hn) (AE.cons (hs) (AE.cons (pB (qne_f hm)) (AE.cons (pB (qeq_f (by rw [hk]; decide))) AE.nil)))) (AE.app (AE.nil) (AE.app (AE.cons (pB (qeq_f (by rw [hk]; decide))) AE.nil) (AE.app (AE.app (AE.cons (pB (qeq_f (by rw [hk]; decide))) AE.nil) (AE.cons (pB (qeq_f (by rw [hk]; decide))) AE.nil)) (AE.app (fpL h) (AE.app (AE.app (AE.cons (pB (qeq_t hk)) AE.nil) (AE.nil)) (AE.app (rcP_ok V n _ hw) (AE.app (AE.cons (pB (qeq_t hk)) AE.nil) (AE.app (AE.nil) (AE.cons rfl AE.nil)))))))))))
theorem fpA_0011 (hk : V.k = 0) (hm : V.m ≠ 0) : AE (fpP Y X v V h0 h1 n s 0 false true true) := AE.app (AE.consP (prP_ok hV) AE.nil) (AE.app (hy) (AE.app (AE.cons (hn) (AE.cons (hs) (AE.cons (pB (qne_t hm)) (AE.cons (pB (qeq_f (by rw [hk]; decide))) AE.nil)))) (AE.app (AE.nil) (AE.app (AE.cons (pB (qeq_f (by rw [hk]; decide))) AE.nil) (AE.app (AE.app (AE.cons (pB (qeq_f (by rw [hk]; decide))) AE.nil) (AE.cons (pB (qeq_f (by rw [hk]; decide))) AE.nil)) (AE.app (fpL h) (AE.app (AE.app (AE.cons (pB (qeq_t hk)) AE.nil) (AE.nil)) (AE.app (rcP_ok V n _ hw) (AE.app (AE.cons (pB (qeq_t hk)) AE.nil) (AE.app (AE.nil) (AE.cons rfl AE.nil)))))))))))
theorem fpA_9111 (k0 : V.k ≠ 0) (k3 : V.k ≠ 3) (k5 : V.k ≠ 5) (k7 : V.k ≠ 7) (hm : V.m = 0) : AE (fpP Y X v V h0 h1 n s 9 true true true) := AE.app (AE.consP (prP_ok hV) AE.nil) (AE.app (hy) (AE.app (AE.cons (hn) (AE.cons (hs) (AE.cons (pB (qne_f hm)) (AE.cons (pB (qeq_f k3)) AE.nil)))) (AE.app (AE.nil) (AE.app (AE.cons (pB (qeq_f k3)) AE.nil) (AE.app (AE.app (AE.cons (pB (qeq_f k5)) AE.nil) (AE.cons (pB (qeq_f k7)) AE.nil)) (AE.app (fpL h) (AE.app (AE.app (AE.cons (pB (qeq_f k0)) AE.nil) (AE.app (AE.cons (pB (qeq_f k5)) AE.nil) (AE.app (AE.app (AE.cons (pB (qeq_f k3)) AE.nil) (AE.cons (pB (qeq_f k7)) AE.nil)) (AE.nil)))) (AE.app (rcP_ok V n _ hw) (AE.app (AE.cons (pB (qeq_f k0)) AE.nil) (AE.app (AE.cons rfl AE.nil) (AE.cons rfl AE.nil)))))))))))
theorem fpA_9011 (k0 : V.k ≠ 0) (k3 : V.k ≠ 3) (k5 : V.k ≠ 5) (k7 : V.k ≠ 7) (hm : V.m ≠ 0) : AE (fpP Y X v V h0 h1 n s 9 false true true) := AE.app (AE.consP (prP_ok hV) AE.nil) (AE.app (hy) (AE.app (AE.cons (hn) (AE.cons (hs) (AE.cons (pB (qne_t hm)) (AE.cons (pB (qeq_f k3)) AE.nil)))) (AE.app (AE.nil) (AE.app (AE.cons (pB (qeq_f k3)) AE.nil) (AE.app (AE.app (AE.cons (pB (qeq_f k5)) AE.nil) (AE.cons (pB (qeq_f k7)) AE.nil)) (AE.app (fpL h) (AE.app (AE.app (AE.cons (pB (qeq_f k0)) AE.nil) (AE.app (AE.cons (pB (qeq_f k5)) AE.nil) (AE.app (AE.app (AE.cons (pB (qeq_f k3)) AE.nil) (AE.cons (pB (qeq_f k7)) AE.nil)) (AE.nil)))) (AE.app (rcP_ok V n _ hw) (AE.app (AE.cons (pB (qeq_f k0)) AE.nil) (AE.app (AE.cons rfl AE.nil) (AE.cons rfl AE.nil)))))))))))
theorem fpA_3111 (k0 : V.k ≠ 0) (k5 : V.k ≠ 5) (k7 : V.k ≠ 7) (hk : V.k = 3) (hm : V.m = 0) (hr : reB V n 0 = true) (hr2 : reB V n s = true) : AE (fpP Y X v V h0 h1 n s 3 true true true) := AE.app (AE.consP (prP_ok hV) AE.nil) (AE.app (hy) (AE.app (AE.cons (hn) (AE.cons (hs) (AE.cons (pB (qne_f hm)) (AE.cons (pB (qeq_t hk)) AE.nil)))) (AE.app (AE.app (fpS h) (plcP_ok h V n)) (AE.app (AE.cons (pB (qeq_t hk)) AE.nil) (AE.app (AE.nil) (AE.app (fpL h) (AE.app (AE.app (AE.cons (pB (qeq_f k0)) AE.nil) (AE.app (AE.cons (pB (qeq_f k5)) AE.nil) (AE.app (AE.app (AE.cons (pB (qeq_t hk)) AE.nil) (AE.nil)) (AE.app (rcP_ok V n _ hw) (AE.app (AE.cons (pB (congrArg Bool.not hr)) AE.nil) (AE.app (AE.cons (pB (qeq_t hk)) AE.nil) (AE.app (fpSs h) (plcP_ok h V n)))))))) (AE.app (rcP_ok V n _ hw) (AE.app (AE.cons (pB (qeq_f k0)) AE.nil) (AE.app (AE.cons (rfl) (AE.cons (pB (congrArg Bool.not hr2)) AE.nil)) (AE.cons (bt (beq_self_eq_true _)) AE.nil)))))))))))
theorem fpA_3110 (k0 : V.k ≠ 0) (k5 : V.k ≠ 5) (k7 : V.k ≠ 7) (hk : V.k = 3) (hm : V.m = 0) (hr : reB V n 0 = false) (hr2 : reB V n s = false) : AE (fpP Y X v V h0 h1 n s 3 true true false) := AE.app (AE.consP (prP_ok hV) AE.nil) (AE.app (hy) (AE.app (AE.cons (hn) (AE.cons (hs) (AE.cons (pB (qne_f hm)) (AE.cons (pB (qeq_t hk)) AE.nil)))) (AE.app (AE.app (fpS h) (plcP_ok h V n)) (AE.app (AE.cons (pB (qeq_t hk)) AE.nil) (AE.app (AE.nil) (AE.app (fpL h) (AE.app (AE.app (AE.cons (pB (qeq_f k0)) AE.nil) (AE.app (AE.cons (pB (qeq_f k5)) AE.nil) (AE.app (AE.app (AE.cons (pB (qeq_t hk)) AE.nil) (AE.nil)) (AE.app (rcP_ok V n _ hw) (AE.app (AE.cons (pB (congrArg Bool.not hr)) AE.nil) (AE.nil)))))) (AE.app (rcP_ok V n _ hw) (AE.app (AE.cons (pB (qeq_f k0)) AE.nil) (AE.app (AE.cons (rfl) (AE.cons (pB (congrArg Bool.not hr2)) AE.nil)) (AE.cons rfl AE.nil)))))))))))
theorem fpA_3011 (k0 : V.k ≠ 0) (k5 : V.k ≠ 5) (k7 : V.k ≠ 7) (hk : V.k = 3) (hm : V.m ≠ 0) (hr : reB V n 0 = true) (hr2 : reB V n 0 = true) : AE (fpP Y X v V h0 h1 n s 3 false true true) := AE.app (AE.consP (prP_ok hV) AE.nil) (AE.app (hy) (AE.app (AE.cons (hn) (AE.cons (hs) (AE.cons (pB (qne_t hm)) (AE.cons (pB (qeq_t hk)) AE.nil)))) (AE.app (AE.app (fpS h) (plcP_ok h V n)) (AE.app (AE.cons (pB (qeq_t hk)) AE.nil) (AE.app (AE.nil) (AE.app (fpL h) (AE.app (AE.app (AE.cons (pB (qeq_f k0)) AE.nil) (AE.app (AE.cons (pB (qeq_f k5)) AE.nil) (AE.app (AE.app (AE.cons (pB (qeq_t hk)) AE.nil) (AE.nil)) (AE.app (rcP_ok V n _ hw) (AE.app (AE.cons (pB (congrArg Bool.not hr)) AE.nil) (AE.app (AE.cons (pB (qeq_t hk)) AE.nil) (AE.app (fpSs h) (plcP_ok h V n)))))))) (AE.app (rcP_ok V n _ hw) (AE.app (AE.cons (pB (qeq_f k0)) AE.nil) (AE.app (AE.cons (rfl) (AE.cons (pB (congrArg Bool.not hr2)) AE.nil)) (AE.cons (bt (beq_self_eq_true _)) AE.nil)))))))))))
theorem fpA_3010 (k0 : V.k ≠ 0) (k5 : V.k ≠ 5) (k7 : V.k ≠ 7) (hk : V.k = 3) (hm : V.m ≠ 0) (hr : reB V n 0 = false) (hr2 : reB V n 0 = false) : AE (fpP Y X v V h0 h1 n s 3 false true false) := AE.app (AE.consP (prP_ok hV) AE.nil) (AE.app (hy) (AE.app (AE.cons (hn) (AE.cons (hs) (AE.cons (pB (qne_t hm)) (AE.cons (pB (qeq_t hk)) AE.nil)))) (AE.app (AE.app (fpS h) (plcP_ok h V n)) (AE.app (AE.cons (pB (qeq_t hk)) AE.nil) (AE.app (AE.nil) (AE.app (fpL h) (AE.app (AE.app (AE.cons (pB (qeq_f k0)) AE.nil) (AE.app (AE.cons (pB (qeq_f k5)) AE.nil) (AE.app (AE.app (AE.cons (pB (qeq_t hk)) AE.nil) (AE.nil)) (AE.app (rcP_ok V n _ hw) (AE.app (AE.cons (pB (congrArg Bool.not hr)) AE.nil) (AE.nil)))))) (AE.app (rcP_ok V n _ hw) (AE.app (AE.cons (pB (qeq_f k0)) AE.nil) (AE.app (AE.cons (rfl) (AE.cons (pB (congrArg Bool.not hr2)) AE.nil)) (AE.cons rfl AE.nil)))))))))))
theorem fpA_7111 (k0 : V.k ≠ 0) (k3 : V.k ≠ 3) (k5 : V.k ≠ 5) (hk : V.k = 7) (hm : V.m = 0) (hr : reB V n 0 = true) (hr2 : reB V n s = true) : AE (fpP Y X v V h0 h1 n s 7 true true true) := AE.app (AE.consP (prP_ok hV) AE.nil) (AE.app (hy) (AE.app (AE.cons (hn) (AE.cons (hs) (AE.cons (pB (qne_f hm)) (AE.cons (pB (qeq_f k3)) AE.nil)))) (AE.app (AE.nil) (AE.app (AE.cons (pB (qeq_f k3)) AE.nil) (AE.app (AE.app (AE.cons (pB (qeq_f k5)) AE.nil) (AE.cons (pB (qeq_t hk)) AE.nil)) (AE.app (fpL h) (AE.app (AE.app (AE.cons (pB (qeq_f k0)) AE.nil) (AE.app (AE.cons (pB (qeq_f k5)) AE.nil) (AE.app (AE.app (AE.cons (pB (qeq_f k3)) AE.nil) (AE.cons (pB (qeq_t hk)) AE.nil)) (AE.app (rcP_ok V n _ hw) (AE.app (AE.cons (pB (congrArg Bool.not hr)) AE.nil) (AE.app (AE.cons (pB (qeq_f k3)) AE.nil) (AE.nil))))))) (AE.app (rcP_ok V n _ hw) (AE.app (AE.cons (pB (qeq_f k0)) AE.nil) (AE.app (AE.cons (rfl) (AE.cons (pB (congrArg Bool.not hr2)) AE.nil)) (AE.cons rfl AE.nil)))))))))))
theorem fpA_7110 (k0 : V.k ≠ 0) (k3 : V.k ≠ 3) (k5 : V.k ≠ 5) (hk : V.k = 7) (hm : V.m = 0) (hr : reB V n 0 = false) (hr2 : reB V n s = false) : AE (fpP Y X v V h0 h1 n s 7 true true false) := AE.app (AE.consP (prP_ok hV) AE.nil) (AE.app (hy) (AE.app (AE.cons (hn) (AE.cons (hs) (AE.cons (pB (qne_f hm)) (AE.cons (pB (qeq_f k3)) AE.nil)))) (AE.app (AE.nil) (AE.app (AE.cons (pB (qeq_f k3)) AE.nil) (AE.app (AE.app (AE.cons (pB (qeq_f k5)) AE.nil) (AE.cons (pB (qeq_t hk)) AE.nil)) (AE.app (fpL h) (AE.app (AE.app (AE.cons (pB (qeq_f k0)) AE.nil) (AE.app (AE.cons (pB (qeq_f k5)) AE.nil) (AE.app (AE.app (AE.cons (pB (qeq_f k3)) AE.nil) (AE.cons (pB (qeq_t hk)) AE.nil)) (AE.app (rcP_ok V n _ hw) (AE.app (AE.cons (pB (congrArg Bool.not hr)) AE.nil) (AE.nil)))))) (AE.app (rcP_ok V n _ hw) (AE.app (AE.cons (pB (qeq_f k0)) AE.nil) (AE.app (AE.cons (rfl) (AE.cons (pB (congrArg Bool.not hr2)) AE.nil)) (AE.cons rfl AE.nil)))))))))))
theorem fpA_7011 (k0 : V.k ≠ 0) (k3 : V.k ≠ 3) (k5 : V.k ≠ 5) (hk : V.k = 7) (hm : V.m ≠ 0) (hr : reB V n 0 = true) (hr2 : reB V n 0 = true) : AE (fpP Y X v V h0 h1 n s 7 false true true) := AE.app (AE.consP (prP_ok hV) AE.nil) (AE.app (hy) (AE.app (AE.cons (hn) (AE.cons (hs) (AE.cons (pB (qne_t hm)) (AE.cons (pB (qeq_f k3)) AE.nil)))) (AE.app (AE.nil) (AE.app (AE.cons (pB (qeq_f k3)) AE.nil) (AE.app (AE.app (AE.cons (pB (qeq_f k5)) AE.nil) (AE.cons (pB (qeq_t hk)) AE.nil)) (AE.app (fpL h) (AE.app (AE.app (AE.cons (pB (qeq_f k0)) AE.nil) (AE.app (AE.cons (pB (qeq_f k5)) AE.nil) (AE.app (AE.app (AE.cons (pB (qeq_f k3)) AE.nil) (AE.cons (pB (qeq_t hk)) AE.nil)) (AE.app (rcP_ok V n _ hw) (AE.app (AE.cons (pB (congrArg Bool.not hr)) AE.nil) (AE.app (AE.cons (pB (qeq_f k3)) AE.nil) (AE.nil))))))) (AE.app (rcP_ok V n _ hw) (AE.app (AE.cons (pB (qeq_f k0)) AE.nil) (AE.app (AE.cons (rfl) (AE.cons (pB (congrArg Bool.not hr2)) AE.nil)) (AE.cons rfl AE.nil)))))))))))
theorem fpA_7010 (k0 : V.k ≠ 0) (k3 : V.k ≠ 3) (k5 : V.k ≠ 5) (hk : V.k = 7) (hm : V.m ≠ 0) (hr : reB V n 0 = false) (hr2 : reB V n 0 = false) : AE (fpP Y X v V h0 h1 n s 7 false true false) := AE.app (AE.consP (prP_ok hV) AE.nil) (AE.app (hy) (AE.app (AE.cons (hn) (AE.cons (hs) (AE.cons (pB (qne_t hm)) (AE.cons (pB (qeq_f k3)) AE.nil)))) (AE.app (AE.nil) (AE.app (AE.cons (pB (qeq_f k3)) AE.nil) (AE.app (AE.app (AE.cons (pB (qeq_f k5)) AE.nil) (AE.cons (pB (qeq_t hk)) AE.nil)) (AE.app (fpL h) (AE.app (AE.app (AE.cons (pB (qeq_f k0)) AE.nil) (AE.app (AE.cons (pB (qeq_f k5)) AE.nil) (AE.app (AE.app (AE.cons (pB (qeq_f k3)) AE.nil) (AE.cons (pB (qeq_t hk)) AE.nil)) (AE.app (rcP_ok V n _ hw) (AE.app (AE.cons (pB (congrArg Bool.not hr)) AE.nil) (AE.nil)))))) (AE.app (rcP_ok V n _ hw) (AE.app (AE.cons (pB (qeq_f k0)) AE.nil) (AE.app (AE.cons (rfl) (AE.cons (pB (congrArg Bool.not hr2)) AE.nil)) (AE.cons rfl AE.nil)))))))))))
theorem fpA_5111 (k0 : V.k ≠ 0) (k3 : V.k ≠ 3) (k7 : V.k ≠ 7) (hk : V.k = 5) (hm : V.m = 0) (hr : reB V n s = true) (hr2 : reB V n s = true) : AE (fpP Y X v V h0 h1 n s 5 true true true) := AE.app (AE.consP (prP_ok hV) AE.nil) (AE.app (hy) (AE.app (AE.cons (hn) (AE.cons (hs) (AE.cons (pB (qne_f hm)) (AE.cons (pB (qeq_f k3)) AE.nil)))) (AE.app (AE.nil) (AE.app (AE.cons (pB (qeq_f k3)) AE.nil) (AE.app (AE.app (AE.cons (pB (qeq_t hk)) AE.nil) (AE.nil)) (AE.app (fpL h) (AE.app (AE.app (AE.cons (pB (qeq_f k0)) AE.nil) (AE.app (AE.cons (pB (qeq_t hk)) AE.nil) (AE.app (AE.app (AE.cons (pB (decide_eq_true (by omega))) AE.nil) (AE.app (AE.cons (pB (decide_eq_true (by omega))) AE.nil) (AE.cons (hm) AE.nil))) (AE.app (rcP_ok V n _ hw) (AE.app (AE.cons (pB (congrArg Bool.not hr)) AE.nil) (AE.app (AE.cons (pB (qeq_f k3)) AE.nil) (AE.nil))))))) (AE.app (rcP_ok V n _ hw) (AE.app (AE.cons (pB (qeq_f k0)) AE.nil) (AE.app (AE.cons (rfl) (AE.cons (pB (congrArg Bool.not hr2)) AE.nil)) (AE.cons rfl AE.nil)))))))))))
theorem fpA_5110 (k0 : V.k ≠ 0) (k3 : V.k ≠ 3) (k7 : V.k ≠ 7) (hk : V.k = 5) (hm : V.m = 0) (hr : reB V n s = false) (hr2 : reB V n s = false) : AE (fpP Y X v V h0 h1 n s 5 true true false) := AE.app (AE.consP (prP_ok hV) AE.nil) (AE.app (hy) (AE.app (AE.cons (hn) (AE.cons (hs) (AE.cons (pB (qne_f hm)) (AE.cons (pB (qeq_f k3)) AE.nil)))) (AE.app (AE.nil) (AE.app (AE.cons (pB (qeq_f k3)) AE.nil) (AE.app (AE.app (AE.cons (pB (qeq_t hk)) AE.nil) (AE.nil)) (AE.app (fpL h) (AE.app (AE.app (AE.cons (pB (qeq_f k0)) AE.nil) (AE.app (AE.cons (pB (qeq_t hk)) AE.nil) (AE.app (AE.app (AE.cons (pB (decide_eq_true (by omega))) AE.nil) (AE.app (AE.cons (pB (decide_eq_true (by omega))) AE.nil) (AE.cons (hm) AE.nil))) (AE.app (rcP_ok V n _ hw) (AE.app (AE.cons (pB (congrArg Bool.not hr)) AE.nil) (AE.nil)))))) (AE.app (rcP_ok V n _ hw) (AE.app (AE.cons (pB (qeq_f k0)) AE.nil) (AE.app (AE.cons (rfl) (AE.cons (pB (congrArg Bool.not hr2)) AE.nil)) (AE.cons rfl AE.nil)))))))))))
theorem fpA_5011 (k0 : V.k ≠ 0) (k3 : V.k ≠ 3) (k7 : V.k ≠ 7) (hk : V.k = 5) (hm : V.m ≠ 0) (hp : V.m ≥ 0) (hr : reB V n 0 = true) (hr2 : reB V n 0 = true) : AE (fpP Y X v V h0 h1 n s 5 false true true) := AE.app (AE.consP (prP_ok hV) AE.nil) (AE.app (hy) (AE.app (AE.cons (hn) (AE.cons (hs) (AE.cons (pB (qne_t hm)) (AE.cons (pB (qeq_f k3)) AE.nil)))) (AE.app (AE.nil) (AE.app (AE.cons (pB (qeq_f k3)) AE.nil) (AE.app (AE.app (AE.cons (pB (qeq_t hk)) AE.nil) (AE.nil)) (AE.app (fpL h) (AE.app (AE.app (AE.cons (pB (qeq_f k0)) AE.nil) (AE.app (AE.cons (pB (qeq_t hk)) AE.nil) (AE.app (AE.app (AE.cons (pB (decide_eq_true (hp))) AE.nil) (AE.app (AE.cons (pB (decide_eq_false (by omega))) AE.nil) (AE.nil))) (AE.app (rcP_ok V n _ hw) (AE.app (AE.cons (pB (congrArg Bool.not hr)) AE.nil) (AE.app (AE.cons (pB (qeq_f k3)) AE.nil) (AE.nil))))))) (AE.app (rcP_ok V n _ hw) (AE.app (AE.cons (pB (qeq_f k0)) AE.nil) (AE.app (AE.cons (rfl) (AE.cons (pB (congrArg Bool.not hr2)) AE.nil)) (AE.cons rfl AE.nil)))))))))))
theorem fpA_5010 (k0 : V.k ≠ 0) (k3 : V.k ≠ 3) (k7 : V.k ≠ 7) (hk : V.k = 5) (hm : V.m ≠ 0) (hp : V.m ≥ 0) (hr : reB V n 0 = false) (hr2 : reB V n 0 = false) : AE (fpP Y X v V h0 h1 n s 5 false true false) := AE.app (AE.consP (prP_ok hV) AE.nil) (AE.app (hy) (AE.app (AE.cons (hn) (AE.cons (hs) (AE.cons (pB (qne_t hm)) (AE.cons (pB (qeq_f k3)) AE.nil)))) (AE.app (AE.nil) (AE.app (AE.cons (pB (qeq_f k3)) AE.nil) (AE.app (AE.app (AE.cons (pB (qeq_t hk)) AE.nil) (AE.nil)) (AE.app (fpL h) (AE.app (AE.app (AE.cons (pB (qeq_f k0)) AE.nil) (AE.app (AE.cons (pB (qeq_t hk)) AE.nil) (AE.app (AE.app (AE.cons (pB (decide_eq_true (hp))) AE.nil) (AE.app (AE.cons (pB (decide_eq_false (by omega))) AE.nil) (AE.nil))) (AE.app (rcP_ok V n _ hw) (AE.app (AE.cons (pB (congrArg Bool.not hr)) AE.nil) (AE.nil)))))) (AE.app (rcP_ok V n _ hw) (AE.app (AE.cons (pB (qeq_f k0)) AE.nil) (AE.app (AE.cons (rfl) (AE.cons (pB (congrArg Bool.not hr2)) AE.nil)) (AE.cons rfl AE.nil)))))))))))
theorem fpA_5001 (k0 : V.k ≠ 0) (k3 : V.k ≠ 3) (k7 : V.k ≠ 7) (hk : V.k = 5) (hm : V.m ≠ 0) (hp : ¬V.m ≥ 0) (hr : reB V n 0 = true) (hr2 : reB V n 0 = true) : AE (fpP Y X v V h0 h1 n s 5 false false true) := AE.app (AE.consP (prP_ok hV) AE.nil) (AE.app (hy) (AE.app (AE.cons (hn) (AE.cons (hs) (AE.cons (pB (qne_t hm)) (AE.cons (pB (qeq_f k3)) AE.nil)))) (AE.app (AE.nil) (AE.app (AE.cons (pB (qeq_f k3)) AE.nil) (AE.app (AE.app (AE.cons (pB (qeq_t hk)) AE.nil) (AE.nil)) (AE.app (fpL h) (AE.app (AE.app (AE.cons (pB (qeq_f k0)) AE.nil) (AE.app (AE.cons (pB (qeq_t hk)) AE.nil) (AE.app (AE.app (AE.cons (pB (decide_eq_false hp)) AE.nil) (AE.nil)) (AE.app (rcP_ok V n _ hw) (AE.app (AE.cons (pB (congrArg Bool.not hr)) AE.nil) (AE.app (AE.cons (pB (qeq_f k3)) AE.nil) (AE.nil))))))) (AE.app (rcP_ok V n _ hw) (AE.app (AE.cons (pB (qeq_f k0)) AE.nil) (AE.app (AE.cons (rfl) (AE.cons (pB (congrArg Bool.not hr2)) AE.nil)) (AE.cons rfl AE.nil)))))))))))
theorem fpA_5000 (k0 : V.k ≠ 0) (k3 : V.k ≠ 3) (k7 : V.k ≠ 7) (hk : V.k = 5) (hm : V.m ≠ 0) (hp : ¬V.m ≥ 0) (hr : reB V n 0 = false) (hr2 : reB V n 0 = false) : AE (fpP Y X v V h0 h1 n s 5 false false false) := AE.app (AE.consP (prP_ok hV) AE.nil) (AE.app (hy) (AE.app (AE.cons (hn) (AE.cons (hs) (AE.cons (pB (qne_t hm)) (AE.cons (pB (qeq_f k3)) AE.nil)))) (AE.app (AE.nil) (AE.app (AE.cons (pB (qeq_f k3)) AE.nil) (AE.app (AE.app (AE.cons (pB (qeq_t hk)) AE.nil) (AE.nil)) (AE.app (fpL h) (AE.app (AE.app (AE.cons (pB (qeq_f k0)) AE.nil) (AE.app (AE.cons (pB (qeq_t hk)) AE.nil) (AE.app (AE.app (AE.cons (pB (decide_eq_false hp)) AE.nil) (AE.nil)) (AE.app (rcP_ok V n _ hw) (AE.app (AE.cons (pB (congrArg Bool.not hr)) AE.nil) (AE.nil)))))) (AE.app (rcP_ok V n _ hw) (AE.app (AE.cons (pB (qeq_f k0)) AE.nil) (AE.app (AE.cons (rfl) (AE.cons (pB (congrArg Bool.not hr2)) AE.nil)) (AE.cons rfl AE.nil)))))))))))
theorem fp_pick : AE (fpP Y X v V h0 h1 n s 0 true true true) ∨ AE (fpP Y X v V h0 h1 n s 0 false true true) ∨ AE (fpP Y X v V h0 h1 n s 9 true true true) ∨ AE (fpP Y X v V h0 h1 n s 9 false true true) ∨ AE (fpP Y X v V h0 h1 n s 3 true true true) ∨ AE (fpP Y X v V h0 h1 n s 3 true true false) ∨ AE (fpP Y X v V h0 h1 n s 3 false true true) ∨ AE (fpP Y X v V h0 h1 n s 3 false true false) ∨ AE (fpP Y X v V h0 h1 n s 7 true true true) ∨ AE (fpP Y X v V h0 h1 n s 7 true true false) ∨ AE (fpP Y X v V h0 h1 n s 7 false true true) ∨ AE (fpP Y X v V h0 h1 n s 7 false true false) ∨ AE (fpP Y X v V h0 h1 n s 5 true true true) ∨ AE (fpP Y X v V h0 h1 n s 5 true true false) ∨ AE (fpP Y X v V h0 h1 n s 5 false true true) ∨ AE (fpP Y X v V h0 h1 n s 5 false true false) ∨ AE (fpP Y X v V h0 h1 n s 5 false false true) ∨ AE (fpP Y X v V h0 h1 n s 5 false false false) := by
  by_cases k0 : V.k = 0
  · by_cases hm : V.m = 0
    · exact .inl (fpA_0111 h hy hw hV hn hs k0 hm)
    · exact .inr (.inl (fpA_0011 h hy hw hV hn hs k0 hm))
  by_cases hk : V.k = 3
  · have any : reB V n 0 = reB V n s := reB_any (by omega)
    cases hr : reB V n 0 with
    | true =>
      by_cases hm : V.m = 0
      · exact .inr (.inr (.inr (.inr (.inl (fpA_3111 h hy hw hV hn hs k0 (by omega) (by omega) hk hm hr (any.symm.trans hr))))))
      · exact .inr (.inr (.inr (.inr (.inr (.inr (.inl (fpA_3011 h hy hw hV hn hs k0 (by omega) (by omega) hk hm hr hr)))))))
    | false =>
      by_cases hm : V.m = 0
      · exact .inr (.inr (.inr (.inr (.inr (.inl (fpA_3110 h hy hw hV hn hs k0 (by omega) (by omega) hk hm hr (any.symm.trans hr)))))))
      · exact .inr (.inr (.inr (.inr (.inr (.inr (.inr (.inl (fpA_3010 h hy hw hV hn hs k0 (by omega) (by omega) hk hm hr hr))))))))
  have k3 := hk
  clear hk
  by_cases hk : V.k = 7
  · have any : reB V n 0 = reB V n s := reB_any (by omega)
    cases hr : reB V n 0 with
    | true =>
      by_cases hm : V.m = 0
      · exact .inr (.inr (.inr (.inr (.inr (.inr (.inr (.inr (.inl (fpA_7111 h hy hw hV hn hs k0 k3 (by omega) hk hm hr (any.symm.trans hr))))))))))
      · exact .inr (.inr (.inr (.inr (.inr (.inr (.inr (.inr (.inr (.inr (.inl (fpA_7011 h hy hw hV hn hs k0 k3 (by omega) hk hm hr hr)))))))))))
    | false =>
      by_cases hm : V.m = 0
      · exact .inr (.inr (.inr (.inr (.inr (.inr (.inr (.inr (.inr (.inl (fpA_7110 h hy hw hV hn hs k0 k3 (by omega) hk hm hr (any.symm.trans hr)))))))))))
      · exact .inr (.inr (.inr (.inr (.inr (.inr (.inr (.inr (.inr (.inr (.inr (.inl (fpA_7010 h hy hw hV hn hs k0 k3 (by omega) hk hm hr hr))))))))))))
  have k7 := hk
  clear hk
  by_cases hk : V.k = 5
  · by_cases hm : V.m = 0
    · cases hr : reB V n s with
      | true => exact .inr (.inr (.inr (.inr (.inr (.inr (.inr (.inr (.inr (.inr (.inr (.inr (.inl (fpA_5111 h hy hw hV hn hs k0 k3 k7 hk hm hr hr)))))))))))))
      | false => exact .inr (.inr (.inr (.inr (.inr (.inr (.inr (.inr (.inr (.inr (.inr (.inr (.inr (.inl (fpA_5110 h hy hw hV hn hs k0 k3 k7 hk hm hr hr))))))))))))))
    · by_cases hp : V.m ≥ 0
      · cases hr : reB V n 0 with
        | true => exact .inr (.inr (.inr (.inr (.inr (.inr (.inr (.inr (.inr (.inr (.inr (.inr (.inr (.inr (.inl (fpA_5011 h hy hw hV hn hs k0 k3 k7 hk hm hp hr hr)))))))))))))))
        | false => exact .inr (.inr (.inr (.inr (.inr (.inr (.inr (.inr (.inr (.inr (.inr (.inr (.inr (.inr (.inr (.inl (fpA_5010 h hy hw hV hn hs k0 k3 k7 hk hm hp hr hr))))))))))))))))
      · cases hr : reB V n 0 with
        | true => exact .inr (.inr (.inr (.inr (.inr (.inr (.inr (.inr (.inr (.inr (.inr (.inr (.inr (.inr (.inr (.inr (.inl (fpA_5001 h hy hw hV hn hs k0 k3 k7 hk hm hp hr hr)))))))))))))))))
        | false => exact .inr (.inr (.inr (.inr (.inr (.inr (.inr (.inr (.inr (.inr (.inr (.inr (.inr (.inr (.inr (.inr (.inr (fpA_5000 h hy hw hV hn hs k0 k3 k7 hk hm hp hr hr)))))))))))))))))
  · by_cases hm : V.m = 0
    · exact .inr (.inr (.inl (fpA_9111 h hy hw hV hn hs k0 k3 hk k7 hm)))
    · exact .inr (.inr (.inr (.inl (fpA_9011 h hy hw hV hn hs k0 k3 hk k7 hm))))
end
theorem vMade_w (k m i o s num b1 b2 b3 b4 : Int) {b0 : Int} (h1 : 0 ≤ b0) (h2 : b0 < 18446744073709551616) : S17.nW (nOf (vMade k m i o s num b0 b1 b2 b3 b4)) = true := by
  have u : ∀ x : Int, S17.uB (IntKind.u64.wrap x) = true := fun x => by
    have e : IntKind.u64.wrap x = wu x := rfl
    rw [e, wr64']
    exact decide_eq_true ⟨by omega, by omega⟩
  have z : ∀ x : Int, S17.zB (IntKind.i64.wrap x) = true := fun x => by
    refine decide_eq_true ?_
    unfold IntKind.wrap
    have e : (2 : Int) ^ IntKind.i64.bits = 18446744073709551616 := rfl
    have e2 : (2 : Int) ^ (IntKind.i64.bits - 1) = 9223372036854775808 := rfl
    simp only [e, e2]
    split
    · rename_i h
      simp at h
      omega
    · rename_i h
      simp [IntKind.signed] at h
      omega
  unfold S17.nW S17.tW S17.sW nOf vMade sub64
  simp only [u, z, Bool.and_true, Bool.true_and]
  exact decide_eq_true ⟨h1, h2⟩
theorem law_plain {sv : Value} {v : VI} {h0 h1 : Int} {w : World} (hu : 0 ≤ v.u ∧ v.u < 18446744073709551616) (hS : SlS [.i .i64, .i .i64, .i .i64, .i .i64, .i .i64, .i .u32, .i .u64, .i .u64, .i .u64, .i .u64, .i .u64] w sv) :
    Calls Try.prog fpF #[sv, .agg ⟨atV v⟩, .agg ⟨[.int .u16 h0, .int .u16 h1]⟩] w fun e w' => e = .returned (.bool true) ∧ Gr w w' := by
  have hL : Laid ([] : List AO) w := Laid.nil w
  have tl : ∀ {s : Ren}, LR s [.agg ⟨atV v⟩, .agg ⟨[.int .u16 h0, .int .u16 h1]⟩] [.agg ⟨atV v⟩, .agg ⟨[.int .u16 h0, .int .u16 h1]⟩] := fun {s} => LR.ofFlat rfl
  have p0 : AE (lwPre0 zF) := AE.cons (b0 (by decide)) (AE.cons (bt zF_ok.flat) AE.nil)
  have hw : S17.nW (nOf (vMade v.k v.m v.i v.o v.s v.t v.u v.a v.b v.c v.d)) = true := vMade_w _ _ _ _ _ _ _ _ _ _ hu.1 hu.2
  have yz : AE (stX zF 0 890 zF zF) := stX_ok zF_ok.one (by rw [zF_ok.1]; omega) (splice_whole (by rw [zF_ok.1]))
  have P0 := fp_pick (Y := zF) (v := v) (h0 := h0) (h1 := h1) zF_ok yz hw rfl rfl rfl
  rcases hS with rfl | ⟨bl, off, n, c, tot, T, l, rfl, hlc, hsh, hll, hfit, hfr, hcl, hok⟩
  · have H : HR w 1 (placeG [] w) [dead] w := ((HR.start hL).pad 1).here
    rcases P0 with P | P | P | P | P | P | P | P | P | P | P | P | P | P | P | P | P | P
    · exact reckonQ_ok noNG (fp3_ok _) noLoop_low (noLoop_ok _) _ _ _ _ rfl (fp_N0111 v _ h0 h1 _ _) (AE.app p0 P) H (LR.ofFlat rfl)
    · exact reckonQ_ok noNG (fp3_ok _) noLoop_low (noLoop_ok _) _ _ _ _ rfl (fp_N0011 v _ h0 h1 _ _) (AE.app p0 P) H (LR.ofFlat rfl)
    · exact reckonQ_ok noNG (fp3_ok _) noLoop_low (noLoop_ok _) _ _ _ _ rfl (fp_N9111 v _ h0 h1 _ _) (AE.app p0 P) H (LR.ofFlat rfl)
    · exact reckonQ_ok noNG (fp3_ok _) noLoop_low (noLoop_ok _) _ _ _ _ rfl (fp_N9011 v _ h0 h1 _ _) (AE.app p0 P) H (LR.ofFlat rfl)
    · exact reckonQ_ok noNG (fp3_ok _) noLoop_low (noLoop_ok _) _ _ _ _ rfl (fp_N3111 v _ h0 h1 _ _) (AE.app p0 P) H (LR.ofFlat rfl)
    · exact reckonQ_ok noNG (fp3_ok _) noLoop_low (noLoop_ok _) _ _ _ _ rfl (fp_N3110 v _ h0 h1 _ _) (AE.app p0 P) H (LR.ofFlat rfl)
    · exact reckonQ_ok noNG (fp3_ok _) noLoop_low (noLoop_ok _) _ _ _ _ rfl (fp_N3011 v _ h0 h1 _ _) (AE.app p0 P) H (LR.ofFlat rfl)
    · exact reckonQ_ok noNG (fp3_ok _) noLoop_low (noLoop_ok _) _ _ _ _ rfl (fp_N3010 v _ h0 h1 _ _) (AE.app p0 P) H (LR.ofFlat rfl)
    · exact reckonQ_ok noNG (fp3_ok _) noLoop_low (noLoop_ok _) _ _ _ _ rfl (fp_N7111 v _ h0 h1 _ _) (AE.app p0 P) H (LR.ofFlat rfl)
    · exact reckonQ_ok noNG (fp3_ok _) noLoop_low (noLoop_ok _) _ _ _ _ rfl (fp_N7110 v _ h0 h1 _ _) (AE.app p0 P) H (LR.ofFlat rfl)
    · exact reckonQ_ok noNG (fp3_ok _) noLoop_low (noLoop_ok _) _ _ _ _ rfl (fp_N7011 v _ h0 h1 _ _) (AE.app p0 P) H (LR.ofFlat rfl)
    · exact reckonQ_ok noNG (fp3_ok _) noLoop_low (noLoop_ok _) _ _ _ _ rfl (fp_N7010 v _ h0 h1 _ _) (AE.app p0 P) H (LR.ofFlat rfl)
    · exact reckonQ_ok noNG (fp3_ok _) noLoop_low (noLoop_ok _) _ _ _ _ rfl (fp_N5111 v _ h0 h1 _ _) (AE.app p0 P) H (LR.ofFlat rfl)
    · exact reckonQ_ok noNG (fp3_ok _) noLoop_low (noLoop_ok _) _ _ _ _ rfl (fp_N5110 v _ h0 h1 _ _) (AE.app p0 P) H (LR.ofFlat rfl)
    · exact reckonQ_ok noNG (fp3_ok _) noLoop_low (noLoop_ok _) _ _ _ _ rfl (fp_N5011 v _ h0 h1 _ _) (AE.app p0 P) H (LR.ofFlat rfl)
    · exact reckonQ_ok noNG (fp3_ok _) noLoop_low (noLoop_ok _) _ _ _ _ rfl (fp_N5010 v _ h0 h1 _ _) (AE.app p0 P) H (LR.ofFlat rfl)
    · exact reckonQ_ok noNG (fp3_ok _) noLoop_low (noLoop_ok _) _ _ _ _ rfl (fp_N5001 v _ h0 h1 _ _) (AE.app p0 P) H (LR.ofFlat rfl)
    · exact reckonQ_ok noNG (fp3_ok _) noLoop_low (noLoop_ok _) _ _ _ _ rfl (fp_N5000 v _ h0 h1 _ _) (AE.app p0 P) H (LR.ofFlat rfl)
  have hb : bl < w.heap.size := by
    unfold World.shape? at hsh
    split at hsh
    · rename_i h; exact (Array.getElem?_eq_some_iff.1 h).1
    · cases hsh
  by_cases c0 : n = 0
  · subst c0
    have H := HR.withPl (pl := ⟨bl, off, off + c, some 1⟩) hL hb (by intro h; simp [GM] at h)
    have lr : LR (upd (placeG [] w) 0 ⟨bl, off, off + c, some 1⟩) (fpArgs (.slice (some ⟨0, 0, none⟩) 0 0) v h0 h1) (fpArgs (.slice (some ⟨bl, off, none⟩) 0 c) v h0 h1) :=
      LR.cons (VR.slice (a := ⟨0, 0, none⟩) (p := ⟨bl, off, off + c, some 1⟩) rfl (upd_same _ _ _) (by show 0 < 1 ∧ off + 0 + c * 1 = off + c ∧ 0 ≤ c; omega)) tl
    rcases P0 with P | P | P | P | P | P | P | P | P | P | P | P | P | P | P | P | P | P
    · exact reckonQ_ok noNG (fp3_ok _) noLoop_low (noLoop_ok _) _ _ _ _ rfl (fp_Z0111 v _ h0 h1 _ _) (AE.app p0 P) H lr
    · exact reckonQ_ok noNG (fp3_ok _) noLoop_low (noLoop_ok _) _ _ _ _ rfl (fp_Z0011 v _ h0 h1 _ _) (AE.app p0 P) H lr
    · exact reckonQ_ok noNG (fp3_ok _) noLoop_low (noLoop_ok _) _ _ _ _ rfl (fp_Z9111 v _ h0 h1 _ _) (AE.app p0 P) H lr
    · exact reckonQ_ok noNG (fp3_ok _) noLoop_low (noLoop_ok _) _ _ _ _ rfl (fp_Z9011 v _ h0 h1 _ _) (AE.app p0 P) H lr
    · exact reckonQ_ok noNG (fp3_ok _) noLoop_low (noLoop_ok _) _ _ _ _ rfl (fp_Z3111 v _ h0 h1 _ _) (AE.app p0 P) H lr
    · exact reckonQ_ok noNG (fp3_ok _) noLoop_low (noLoop_ok _) _ _ _ _ rfl (fp_Z3110 v _ h0 h1 _ _) (AE.app p0 P) H lr
    · exact reckonQ_ok noNG (fp3_ok _) noLoop_low (noLoop_ok _) _ _ _ _ rfl (fp_Z3011 v _ h0 h1 _ _) (AE.app p0 P) H lr
    · exact reckonQ_ok noNG (fp3_ok _) noLoop_low (noLoop_ok _) _ _ _ _ rfl (fp_Z3010 v _ h0 h1 _ _) (AE.app p0 P) H lr
    · exact reckonQ_ok noNG (fp3_ok _) noLoop_low (noLoop_ok _) _ _ _ _ rfl (fp_Z7111 v _ h0 h1 _ _) (AE.app p0 P) H lr
    · exact reckonQ_ok noNG (fp3_ok _) noLoop_low (noLoop_ok _) _ _ _ _ rfl (fp_Z7110 v _ h0 h1 _ _) (AE.app p0 P) H lr
    · exact reckonQ_ok noNG (fp3_ok _) noLoop_low (noLoop_ok _) _ _ _ _ rfl (fp_Z7011 v _ h0 h1 _ _) (AE.app p0 P) H lr
    · exact reckonQ_ok noNG (fp3_ok _) noLoop_low (noLoop_ok _) _ _ _ _ rfl (fp_Z7010 v _ h0 h1 _ _) (AE.app p0 P) H lr
    · exact reckonQ_ok noNG (fp3_ok _) noLoop_low (noLoop_ok _) _ _ _ _ rfl (fp_Z5111 v _ h0 h1 _ _) (AE.app p0 P) H lr
    · exact reckonQ_ok noNG (fp3_ok _) noLoop_low (noLoop_ok _) _ _ _ _ rfl (fp_Z5110 v _ h0 h1 _ _) (AE.app p0 P) H lr
    · exact reckonQ_ok noNG (fp3_ok _) noLoop_low (noLoop_ok _) _ _ _ _ rfl (fp_Z5011 v _ h0 h1 _ _) (AE.app p0 P) H lr
    · exact reckonQ_ok noNG (fp3_ok _) noLoop_low (noLoop_ok _) _ _ _ _ rfl (fp_Z5010 v _ h0 h1 _ _) (AE.app p0 P) H lr
    · exact reckonQ_ok noNG (fp3_ok _) noLoop_low (noLoop_ok _) _ _ _ _ rfl (fp_Z5001 v _ h0 h1 _ _) (AE.app p0 P) H lr
    · exact reckonQ_ok noNG (fp3_ok _) noLoop_low (noLoop_ok _) _ _ _ _ rfl (fp_Z5000 v _ h0 h1 _ _) (AE.app p0 P) H lr
  have lr : LR (upd (placeG [] w) 0 ⟨bl, off, tot, none⟩) (fpArgs (.slice (some ⟨0, 0, none⟩) n c) v h0 h1) (fpArgs (.slice (some ⟨bl, off, none⟩) n c) v h0 h1) :=
    LR.cons (VR.slice (a := ⟨0, 0, none⟩) (p := ⟨bl, off, tot, none⟩) rfl (upd_same _ _ _) rfl) tl
  by_cases c1 : n ≤ 75
  · have hA : OkT l n := okT_of hll hok
    have o := frM_ok l n
    have H := HR.withSlice (cs := l) hL hsh (by rw [hll]; exact hfit (by omega)) (by rw [hll]; exact hfr) (fun o v hv => ⟨hcl o v hv, List.all_eq_true.1 hA.flat v (List.mem_of_getElem? hv)⟩) (fun i o hi => by simp at hi)
    have hp : AE (fpPre n l (frM l n)) := AE.cons (b0 (by omega)) (AE.cons (bt (by rw [spF_eq o]; exact o.flat)) (AE.consP (prP_ok o) (AE.consP (prP_ok hA) (AE.cons (b1 c1) AE.nil))))
    have yl : AE (stX zF 0 890 (spF (frM l n)) (frM l n)) := by
      rw [spF_eq o]
      exact stX_ok o.one (by rw [o.1, zF_ok.1]; omega) (splice_whole (by rw [o.1, zF_ok.1]))
    rcases fp_pick (v := v) (h0 := h0) (h1 := h1) o yl hw rfl rfl rfl with P | P | P | P | P | P | P | P | P | P | P | P | P | P | P | P | P | P
    · exact reckonQ_ok noNG (fp3_ok _) noLoop_low (noLoop_ok _) _ _ _ _ rfl (fp_L0111 l n c v _ h0 h1 _ _) (AE.app hp P) H lr
    · exact reckonQ_ok noNG (fp3_ok _) noLoop_low (noLoop_ok _) _ _ _ _ rfl (fp_L0011 l n c v _ h0 h1 _ _) (AE.app hp P) H lr
    · exact reckonQ_ok noNG (fp3_ok _) noLoop_low (noLoop_ok _) _ _ _ _ rfl (fp_L9111 l n c v _ h0 h1 _ _) (AE.app hp P) H lr
    · exact reckonQ_ok noNG (fp3_ok _) noLoop_low (noLoop_ok _) _ _ _ _ rfl (fp_L9011 l n c v _ h0 h1 _ _) (AE.app hp P) H lr
    · exact reckonQ_ok noNG (fp3_ok _) noLoop_low (noLoop_ok _) _ _ _ _ rfl (fp_L3111 l n c v _ h0 h1 _ _) (AE.app hp P) H lr
    · exact reckonQ_ok noNG (fp3_ok _) noLoop_low (noLoop_ok _) _ _ _ _ rfl (fp_L3110 l n c v _ h0 h1 _ _) (AE.app hp P) H lr
    · exact reckonQ_ok noNG (fp3_ok _) noLoop_low (noLoop_ok _) _ _ _ _ rfl (fp_L3011 l n c v _ h0 h1 _ _) (AE.app hp P) H lr
    · exact reckonQ_ok noNG (fp3_ok _) noLoop_low (noLoop_ok _) _ _ _ _ rfl (fp_L3010 l n c v _ h0 h1 _ _) (AE.app hp P) H lr
    · exact reckonQ_ok noNG (fp3_ok _) noLoop_low (noLoop_ok _) _ _ _ _ rfl (fp_L7111 l n c v _ h0 h1 _ _) (AE.app hp P) H lr
    · exact reckonQ_ok noNG (fp3_ok _) noLoop_low (noLoop_ok _) _ _ _ _ rfl (fp_L7110 l n c v _ h0 h1 _ _) (AE.app hp P) H lr
    · exact reckonQ_ok noNG (fp3_ok _) noLoop_low (noLoop_ok _) _ _ _ _ rfl (fp_L7011 l n c v _ h0 h1 _ _) (AE.app hp P) H lr
    · exact reckonQ_ok noNG (fp3_ok _) noLoop_low (noLoop_ok _) _ _ _ _ rfl (fp_L7010 l n c v _ h0 h1 _ _) (AE.app hp P) H lr
    · exact reckonQ_ok noNG (fp3_ok _) noLoop_low (noLoop_ok _) _ _ _ _ rfl (fp_L5111 l n c v _ h0 h1 _ _) (AE.app hp P) H lr
    · exact reckonQ_ok noNG (fp3_ok _) noLoop_low (noLoop_ok _) _ _ _ _ rfl (fp_L5110 l n c v _ h0 h1 _ _) (AE.app hp P) H lr
    · exact reckonQ_ok noNG (fp3_ok _) noLoop_low (noLoop_ok _) _ _ _ _ rfl (fp_L5011 l n c v _ h0 h1 _ _) (AE.app hp P) H lr
    · exact reckonQ_ok noNG (fp3_ok _) noLoop_low (noLoop_ok _) _ _ _ _ rfl (fp_L5010 l n c v _ h0 h1 _ _) (AE.app hp P) H lr
    · exact reckonQ_ok noNG (fp3_ok _) noLoop_low (noLoop_ok _) _ _ _ _ rfl (fp_L5001 l n c v _ h0 h1 _ _) (AE.app hp P) H lr
    · exact reckonQ_ok noNG (fp3_ok _) noLoop_low (noLoop_ok _) _ _ _ _ rfl (fp_L5000 l n c v _ h0 h1 _ _) (AE.app hp P) H lr
  · have H := HR.withPl (pl := ⟨bl, off, tot, none⟩) hL hb (by intro h; cases h)
    exact reckonQ_ok noNG (fp3_ok zV) noLoop_low (noLoop_ok _) _ _ _ _ rfl (fp_G n c v zV h0 h1) (AE.cons (b1 (by omega)) AE.nil) H lr
theorem u64_wf {x : Int} (h : (Lit.int .u64 x).wf = true) : 0 ≤ x ∧ x < 18446744073709551616 := by
  simp [Lit.wf, IntKind.min, IntKind.max, IntKind.signed, IntKind.bits] at h
  omega
end Go.Proofs.Ytebolmfdglmpoaa.Ex
end
