/-
  Lemmas for the laws of this seat: Tn, Tn2, TnBits, TnMul, SpMath, Sp, Sp2, Sp3, SpSet, Sp5, Reg, TnMath, ScMath, ScLoop, ScHook, Sc1, Sc2.
-/
import Derived.Test.YtebolmfdglmpoaaGrown
import Derived.Test.YtebolmfdglmpoaaProg
import Derived.Handy
import Derived.BigQuiet
import Derived.Deep.RegionHeld3
import Derived.Deep.RegionWith
import Derived.Test.YtebolmfdglmpoaaShelf
import Derived.Lib.Hide
import Derived.Test.YtebolmfdglmpoaaBv
import Derived.Lib.BitFns
import Derived.Lib.ItoaNum
import Derived.Shelf.Spec.BitsCarry
import Derived.Outline
import Derived.Deep.DeepCutAuto
import Derived.Test.YtebolmfdglmpoaaMemo
import Derived.StillTail
import Derived.Deep.Quiet
import Derived.Lib.SlBytesRow
import Derived.Test.YtebolmfdglmpoaaNoNG
section
namespace Go.Proofs.Ytebolmfdglmpoaa
set_option maxRecDepth 20000

open Go.RowKit

attribute [local go_sem] u64_wrap BitVec.ofInt_add BitVec.ofInt_mul ofInt_sub' ofInt_N ofInt_Nw u64_and u64_or u64_xor u64_andNot
abbrev W64 := BitVec 64
def tOf (v m : W64) : W64 × W64 := (v &&& ~~~m, m)
def tEither (av am bv bm : W64) : W64 × W64 := tOf av (am ||| bm ||| (av ^^^ bv))

set_option maxHeartbeats 1000000 in
theorem tn_either (av am bv bm : W64) (w : World) : Calls Try.prog 72 #[.agg #[.int .u64 (N av), .int .u64 (N am)], .agg #[.int .u64 (N bv), .int .u64 (N bm)]] w fun e w' => e = .returned (.agg #[.int .u64 (N (tEither av am bv bm).1), .int .u64 (N (tEither av am bv bm).2)]) ∧ Grown w w' := by
  go_enter Try.func72, Try.ntmps72
  go_wp2
  go_returns
  exact ⟨rfl, by go_grown⟩

end Go.Proofs.Ytebolmfdglmpoaa
end
section
namespace Go.Proofs.Ytebolmfdglmpoaa
set_option maxRecDepth 20000

open Go.RowKit

theorem i64_wrap_N (v : BitVec 64) : IntKind.i64.wrap (N v) = Z v := by
  rw [← wrap64_N]; unfold wrap64; rw [IntKind.wrap_i64]
attribute [local go_sem] i64_wrap_N u64_wrap BitVec.ofInt_add BitVec.ofInt_mul ofInt_sub' ofInt_N ofInt_Nw ofInt_Z ofInt_pow ofInt_shl mul_shl1 wrap64_N N_shr Z_shr u64_and u64_or u64_xor u64_andNot
def tRange (lo hi : W64) : W64 × W64 := tOf lo (1#64 <<< min (Lib.bitLen (lo.toNat ^^^ hi.toNat)) 64 - 1#64)
set_option maxHeartbeats 1000000 in
theorem tn_range (lo hi : W64) (w : World) : Calls Try.prog 54 #[.int .u64 (N lo), .int .u64 (N hi)] w fun e w' => e = .returned (.agg #[.int .u64 (N (tRange lo hi).1), .int .u64 (N (tRange lo hi).2)]) ∧ Grown w w' := by
  have hN : (N (lo ^^^ hi)).toNat = (lo ^^^ hi).toNat := by unfold N; simp
  unfold tRange
  go_enter Try.func54, Try.ntmps54
  go_wp2_with (first | (go_at_call 60; refine (Try.bits_Len64 _ _ (N_nonneg _) (by have := N_lt (lo ^^^ hi); omega)).mono ?_; rintro e w' ⟨rfl, rfl⟩) | go_in)
  go_returns
  exact ⟨rfl, by go_grown⟩

set_option maxHeartbeats 1000000 in
theorem tn_both (av am bv bm : W64) (w : World) : Calls Try.prog 65 #[.agg #[.int .u64 (N av), .int .u64 (N am)], .agg #[.int .u64 (N bv), .int .u64 (N bm)]] w fun e w' => e = .returned (if (N ((av ^^^ bv) &&& ~~~am &&& ~~~bm) == 0) = true then .tuple #[.agg #[.int .u64 (N (tOf (av ||| bv) (am &&& bm)).1), .int .u64 (N (tOf (av ||| bv) (am &&& bm)).2)], .bool true] else .tuple #[.agg #[.int .u64 0, .int .u64 0], .bool false]) ∧ Grown w w' := by
  by_cases h : N ((av ^^^ bv) &&& ~~~am &&& ~~~bm) = 0
  · rw [if_pos (by rw [h]; rfl)]
    go_enter Try.func65, Try.ntmps65
    go_wp2
    go_returns
    exact ⟨rfl, by go_grown⟩
  · rw [if_neg (by simpa using h)]
    have h1 : (N ((av ^^^ bv) &&& ~~~am &&& ~~~bm) != 0) = true := by simpa using h
    clear h
    go_enter Try.func65, Try.ntmps65
    go_wp2
    go_returns
    exact ⟨rfl, by go_grown⟩

set_option maxHeartbeats 1000000 in
theorem tn_in (av am bv bm : W64) (w : World) : Calls Try.prog 57 #[.agg #[.int .u64 (N av), .int .u64 (N am)], .agg #[.int .u64 (N bv), .int .u64 (N bm)]] w fun e w' => e = .returned (.bool ((N (bm &&& ~~~am) == 0) && (N (bv &&& ~~~am) == N av))) ∧ Grown w w' := by
  cases h : (N (bm &&& ~~~am) == 0)
  all_goals
    go_enter Try.func57, Try.ntmps57
    go_wp2
    go_returns
    exact ⟨rfl, by go_grown⟩

end Go.Proofs.Ytebolmfdglmpoaa
end
section
namespace Go.Proofs.Ytebolmfdglmpoaa
set_option maxRecDepth 20000

open Go.RowKit

attribute [local go_sem] u64_wrap ofInt_N ofInt_Nw N_ofNat
def Gr (a b : World) : Prop := Grown a b

end Go.Proofs.Ytebolmfdglmpoaa
end
section
namespace Go.Proofs.Ytebolmfdglmpoaa
set_option maxRecDepth 20000

open Go.RowKit
attribute [local go_sem] u64_wrap BitVec.ofInt_add BitVec.ofInt_mul ofInt_sub' ofInt_N ofInt_Nw ofInt_pow ofInt_shl mul_shl1 u64_and u64_or u64_xor u64_andNot
structure MulAt (w : World) (B : Nat) (av am bv bm : W64) (l : W64 × W64) (wr : World) : Prop where
  a0 : wr.cell? ⟨B, 0, none⟩ = some (.int .u64 (N av))
  a1 : wr.cell? ⟨B, 1, none⟩ = some (.int .u64 (N am))
  b0 : wr.cell? ⟨B + 1, 0, none⟩ = some (.int .u64 (N bv))
  b1 : wr.cell? ⟨B + 1, 1, none⟩ = some (.int .u64 (N bm))
  r0 : wr.cell? ⟨B + 1 + 1, 0, none⟩ = some (.int .u64 0)
  r1 : wr.cell? ⟨B + 1 + 1, 1, none⟩ = some (.int .u64 0)
  s0 : wr.cell? ⟨B + 1 + 1 + 1 + 1, 0, none⟩ = some (.int .u64 (N (av * bv)))
  s1 : wr.cell? ⟨B + 1 + 1 + 1 + 1, 1, none⟩ = some (.int .u64 0)
  l0 : wr.cell? ⟨B + 1 + 1 + 1 + 1 + 1, 0, none⟩ = some (.int .u64 (N l.1))
  l1 : wr.cell? ⟨B + 1 + 1 + 1 + 1 + 1, 1, none⟩ = some (.int .u64 (N l.2))
  fr : ∀ o, wr.frozen? ⟨B + 1 + 1, o, none⟩ = false
  fl : ∀ o, wr.frozen? ⟨B + 1 + 1 + 1 + 1 + 1, o, none⟩ = false
  sz : B + 1 + 1 + 1 + 1 + 1 < wr.heap.size
  gr : Grown w wr
  lo : w.heap.size ≤ B

theorem MulAt.drew {w : World} {B : Nat} {av am bv bm : W64} {l : W64 × W64} {wr : World} (h : MulAt w B av am bv bm l wr) : MulAt w B av am bv bm l wr.drew :=
  ⟨h.a0, h.a1, h.b0, h.b1, h.r0, h.r1, h.s0, h.s1, h.l0, h.l1, h.fr, h.fl, h.sz, h.gr, h.lo⟩
end Go.Proofs.Ytebolmfdglmpoaa
end
section
namespace Go.Proofs.Ytebolmfdglmpoaa.Spn
set_option maxRecDepth 20000

open Go.Proofs.Ytebolmfdglmpoaa
abbrev W64 := BitVec 64
structure Sp where
  lo : W64
  hi : W64
  slo : W64
  shi : W64
/-- A number without its sign and with it. -/
theorem two_forms (v : W64) : 0 ≤ N v ∧ N v < 18446744073709551616 ∧ ((N v < 9223372036854775808 ∧ Z v = N v) ∨ (9223372036854775808 ≤ N v ∧ Z v = N v - 18446744073709551616)) := by
  unfold N Z
  have := v.isLt
  rw [BitVec.toInt_eq_toNat_cond]
  refine ⟨by omega, by omega, ?_⟩
  split <;> omega
def umax (a b : W64) : W64 := if N a < N b then b else a
def umin (a b : W64) : W64 := if N b < N a then b else a
def smax (a b : W64) : W64 := if Z a < Z b then b else a
def smin (a b : W64) : W64 := if Z b < Z a then b else a
theorem N_umax (a b : W64) : N (umax a b) = max (N a) (N b) := by unfold umax; split <;> omega
theorem N_umin (a b : W64) : N (umin a b) = min (N a) (N b) := by unfold umin; split <;> omega
theorem Z_smax (a b : W64) : Z (smax a b) = max (Z a) (Z b) := by unfold smax; split <;> omega
theorem Z_smin (a b : W64) : Z (smin a b) = min (Z a) (Z b) := by unfold smin; split <;> omega
def plusS (s : Sp) : W64 × W64 := if 0 ≤ Z s.shi then (umax s.lo (smax s.slo 0#64), umin s.hi s.shi) else (1#64, 0#64)
def minusS (s : Sp) : W64 × W64 := if Z s.slo < 0 then (umax s.lo s.slo, umin s.hi (smin s.shi (-1#64))) else (1#64, 0#64)
def emptyS (p : W64 × W64) : Bool := decide (N p.2 < N p.1)
def okS (s : Sp) : Bool := !(emptyS (plusS s) && emptyS (minusS s))
def tightS (s : Sp) : Sp :=
  if emptyS (plusS s) && emptyS (minusS s) then ⟨0#64, 0#64, 0#64, 0#64⟩
  else if emptyS (minusS s) then ⟨(plusS s).1, (plusS s).2, (plusS s).1, (plusS s).2⟩
  else if emptyS (plusS s) then ⟨(minusS s).1, (minusS s).2, (minusS s).1, (minusS s).2⟩
  else ⟨(plusS s).1, (minusS s).2, (minusS s).1, (plusS s).2⟩
theorem N1 : N (1#64) = 1 := by decide
theorem N0 : N (0#64) = 0 := by decide
theorem Z0 : Z (0#64) = 0 := by decide
theorem Zm1 : Z (-1#64) = -1 := by decide
/-! Sums and differences. -/
/-! The bits by which a carry is told. -/
/-! Quotients, what is left, shifts, the lowest 32 bits. -/
def constS (v : W64) : Sp := ⟨v, v, v, v⟩
/-! Shifts. -/
theorem Z_range (a : W64) : -9223372036854775808 ≤ Z a ∧ Z a ≤ 9223372036854775807 := by have := two_forms a; omega
/-! Products. -/
/-! Bit by bit. -/
end Go.Proofs.Ytebolmfdglmpoaa.Spn
end
section
namespace Go.Proofs.Ytebolmfdglmpoaa
set_option maxRecDepth 20000

set_option maxRecDepth 20000
open Go.RowKit
open Spn (Sp umax umin smax smin plusS minusS emptyS okS tightS constS)

theorem ofInt_Z64 (v : BitVec 64) : BitVec.ofInt 64 (Z v) = v := by unfold Z; simp
theorem max_N (a b : BitVec 64) : max (N a) (N b) = N (umax a b) := (Spn.N_umax a b).symm
theorem min_N (a b : BitVec 64) : min (N a) (N b) = N (umin a b) := (Spn.N_umin a b).symm
theorem max_Z (a b : BitVec 64) : max (Z a) (Z b) = Z (smax a b) := (Spn.Z_smax a b).symm
theorem min_Z (a b : BitVec 64) : min (Z a) (Z b) = Z (smin a b) := (Spn.Z_smin a b).symm
theorem max_Z0 (a : BitVec 64) : max (Z a) 0 = Z (smax a 0#64) := by rw [Spn.Z_smax, Spn.Z0]
theorem min_Zm1 (a : BitVec 64) : min (Z a) (-1) = Z (smin a (-1#64)) := by rw [Spn.Z_smin, Spn.Zm1]
attribute [local go_sem] u64_wrap BitVec.ofInt_add BitVec.ofInt_mul ofInt_sub' ofInt_N ofInt_Nw u64_and u64_or u64_xor u64_andNot wrap64_N ofInt_Z64 max_N min_N max_Z min_Z max_Z0 min_Zm1
theorem plus_t {lo hi slo shi : BitVec 64} (h : decide (0 ≤ Z shi) = true) : plusS (⟨lo, hi, slo, shi⟩ : Sp) = (umax lo (smax slo 0#64), umin hi shi) := by unfold plusS; rw [if_pos (of_decide_eq_true h)]
theorem plus_f {lo hi slo shi : BitVec 64} (h : decide (0 ≤ Z shi) = false) : plusS (⟨lo, hi, slo, shi⟩ : Sp) = (1#64, 0#64) := by unfold plusS; rw [if_neg (of_decide_eq_false h)]
theorem minus_t {lo hi slo shi : BitVec 64} (h : decide (Z slo < 0) = true) : minusS (⟨lo, hi, slo, shi⟩ : Sp) = (umax lo slo, umin hi (smin shi (-1#64))) := by unfold minusS; rw [if_pos (of_decide_eq_true h)]
theorem minus_f {lo hi slo shi : BitVec 64} (h : decide (Z slo < 0) = false) : minusS (⟨lo, hi, slo, shi⟩ : Sp) = (1#64, 0#64) := by unfold minusS; rw [if_neg (of_decide_eq_false h)]
theorem tight_ff {s : Sp} (h1 : emptyS (plusS s) = false) (h2 : emptyS (minusS s) = false) : okS s = true ∧ tightS s = ⟨(plusS s).1, (minusS s).2, (minusS s).1, (plusS s).2⟩ := by unfold okS tightS; rw [h1, h2]; exact ⟨rfl, rfl⟩
theorem tight_tt {s : Sp} (h1 : emptyS (plusS s) = true) (h2 : emptyS (minusS s) = true) : okS s = false ∧ tightS s = ⟨0#64, 0#64, 0#64, 0#64⟩ := by unfold okS tightS; rw [h1, h2]; exact ⟨rfl, rfl⟩
theorem tight_ft {s : Sp} (h1 : emptyS (plusS s) = false) (h2 : emptyS (minusS s) = true) : okS s = true ∧ tightS s = ⟨(plusS s).1, (plusS s).2, (plusS s).1, (plusS s).2⟩ := by unfold okS tightS; rw [h1, h2]; exact ⟨rfl, rfl⟩
theorem tight_tf {s : Sp} (h1 : emptyS (plusS s) = true) (h2 : emptyS (minusS s) = false) : okS s = true ∧ tightS s = ⟨(minusS s).1, (minusS s).2, (minusS s).1, (minusS s).2⟩ := by unfold okS tightS; rw [h1, h2]; exact ⟨rfl, rfl⟩
set_option maxHeartbeats 1000000 in
theorem sp_empty_true (a b : BitVec 64) (h : emptyS (a, b) = true) (w : World) : Calls Try.prog 69 #[.agg #[.int .u64 (N a), .int .u64 (N b)]] w fun e w' => e = .returned (.bool true) ∧ w' = w.alloc (.cells #[.int .u64 (N a), .int .u64 (N b)] 128) := by
  unfold emptyS at h
  have H := Lib.hid h
  clear h
  go_enter Try.func69, Try.ntmps69
  go_wp2
  go_ret
  exact ⟨congrArg (fun b => Ending.returned (.bool b)) H.out, rfl⟩
set_option maxHeartbeats 1000000 in
theorem sp_empty_false (a b : BitVec 64) (h : emptyS (a, b) = false) (w : World) : Calls Try.prog 69 #[.agg #[.int .u64 (N a), .int .u64 (N b)]] w fun e w' => e = .returned (.bool false) ∧ w' = w.alloc (.cells #[.int .u64 (N a), .int .u64 (N b)] 128) := by
  unfold emptyS at h
  have H := Lib.hid h
  clear h
  go_enter Try.func69, Try.ntmps69
  go_wp2
  go_ret
  exact ⟨congrArg (fun b => Ending.returned (.bool b)) H.out, rfl⟩
set_option maxHeartbeats 1000000 in
theorem sp_parts (lo hi slo shi : BitVec 64) (w : World) : Calls Try.prog 68 #[.agg #[.int .u64 (N lo), .int .u64 (N hi), .int .i64 (Z slo), .int .i64 (Z shi)]] w fun e w' => e = .returned (.tuple #[.agg #[.int .u64 (N (plusS (⟨lo, hi, slo, shi⟩ : Sp)).1), .int .u64 (N (plusS (⟨lo, hi, slo, shi⟩ : Sp)).2)], .agg #[.int .u64 (N (minusS (⟨lo, hi, slo, shi⟩ : Sp)).1), .int .u64 (N (minusS (⟨lo, hi, slo, shi⟩ : Sp)).2)]]) ∧ w' = (((w.alloc (.cells #[.int .u64 (N lo), .int .u64 (N hi), .int .i64 (Z slo), .int .i64 (Z shi)] 28)).alloc (.cells #[.int .u64 (N (plusS (⟨lo, hi, slo, shi⟩ : Sp)).1), .int .u64 (N (plusS (⟨lo, hi, slo, shi⟩ : Sp)).2)] 128)).alloc (.cells #[.int .u64 (N (minusS (⟨lo, hi, slo, shi⟩ : Sp)).1), .int .u64 (N (minusS (⟨lo, hi, slo, shi⟩ : Sp)).2)] 128)).drew := by
  cases h1 : decide (0 ≤ Z shi) <;> cases h2 : decide (Z slo < 0)
  all_goals
    first | rw [plus_t h1, minus_t h2] | rw [plus_t h1, minus_f h2] | rw [plus_f h1, minus_t h2] | rw [plus_f h1, minus_f h2]
    simp only [Spn.N1, Spn.N0]
    go_enter Try.func68, Try.ntmps68
    go_wp2
    go_region
  all_goals go_wp2
  all_goals go_returns
  all_goals exact ⟨rfl, rfl⟩
set_option maxHeartbeats 4000000 in
theorem sp_tight (lo hi slo shi : BitVec 64) (w : World) : Calls Try.prog 62 #[.agg #[.int .u64 (N lo), .int .u64 (N hi), .int .i64 (Z slo), .int .i64 (Z shi)]] w fun e w' => e = .returned (.tuple #[.agg #[.int .u64 (N (tightS (⟨lo, hi, slo, shi⟩ : Sp)).lo), .int .u64 (N (tightS (⟨lo, hi, slo, shi⟩ : Sp)).hi), .int .i64 (Z (tightS (⟨lo, hi, slo, shi⟩ : Sp)).slo), .int .i64 (Z (tightS (⟨lo, hi, slo, shi⟩ : Sp)).shi)], .bool (okS (⟨lo, hi, slo, shi⟩ : Sp))]) ∧ Grown w w' := by
  have HP := Lib.hid (fun w => sp_parts lo hi slo shi w)
  cases h1 : emptyS (plusS (⟨lo, hi, slo, shi⟩ : Sp)) <;> cases h2 : emptyS (minusS (⟨lo, hi, slo, shi⟩ : Sp))
  · have HE1 := Lib.hid (fun w => sp_empty_false (plusS (⟨lo, hi, slo, shi⟩ : Sp)).1 (plusS (⟨lo, hi, slo, shi⟩ : Sp)).2 h1 w)
    have HE2 := Lib.hid (fun w => sp_empty_false (minusS (⟨lo, hi, slo, shi⟩ : Sp)).1 (minusS (⟨lo, hi, slo, shi⟩ : Sp)).2 h2 w)
    rw [(tight_ff h1 h2).1, (tight_ff h1 h2).2]
    clear h1 h2
    generalize plusS (⟨lo, hi, slo, shi⟩ : Sp) = p at *
    generalize minusS (⟨lo, hi, slo, shi⟩ : Sp) = m at *
    go_enter Try.func62, Try.ntmps62
    go_wp2_with (first | (go_at_call 68; refine (HP.out _).mono ?_; rintro e w1 ⟨rfl, rfl⟩) | (go_at_call 69; refine (HE1.out _).mono ?_; rintro e w2 ⟨rfl, rfl⟩) | (go_at_call 69; refine (HE2.out _).mono ?_; rintro e w3 ⟨rfl, rfl⟩))
    go_returns
    exact ⟨rfl, by go_grown⟩
  · have HE1 := Lib.hid (fun w => sp_empty_false (plusS (⟨lo, hi, slo, shi⟩ : Sp)).1 (plusS (⟨lo, hi, slo, shi⟩ : Sp)).2 h1 w)
    have HE2 := Lib.hid (fun w => sp_empty_true (minusS (⟨lo, hi, slo, shi⟩ : Sp)).1 (minusS (⟨lo, hi, slo, shi⟩ : Sp)).2 h2 w)
    rw [(tight_ft h1 h2).1, (tight_ft h1 h2).2]
    clear h1 h2
    generalize plusS (⟨lo, hi, slo, shi⟩ : Sp) = p at *
    generalize minusS (⟨lo, hi, slo, shi⟩ : Sp) = m at *
    go_enter Try.func62, Try.ntmps62
    go_wp2_with (first | (go_at_call 68; refine (HP.out _).mono ?_; rintro e w1 ⟨rfl, rfl⟩) | (go_at_call 69; refine (HE1.out _).mono ?_; rintro e w2 ⟨rfl, rfl⟩) | (go_at_call 69; refine (HE2.out _).mono ?_; rintro e w3 ⟨rfl, rfl⟩))
    go_returns
    exact ⟨rfl, by go_grown⟩
  · have HE1 := Lib.hid (fun w => sp_empty_true (plusS (⟨lo, hi, slo, shi⟩ : Sp)).1 (plusS (⟨lo, hi, slo, shi⟩ : Sp)).2 h1 w)
    have HE2 := Lib.hid (fun w => sp_empty_false (minusS (⟨lo, hi, slo, shi⟩ : Sp)).1 (minusS (⟨lo, hi, slo, shi⟩ : Sp)).2 h2 w)
    rw [(tight_tf h1 h2).1, (tight_tf h1 h2).2]
    clear h1 h2
    generalize plusS (⟨lo, hi, slo, shi⟩ : Sp) = p at *
    generalize minusS (⟨lo, hi, slo, shi⟩ : Sp) = m at *
    go_enter Try.func62, Try.ntmps62
    go_wp2_with (first | (go_at_call 68; refine (HP.out _).mono ?_; rintro e w1 ⟨rfl, rfl⟩) | (go_at_call 69; refine (HE1.out _).mono ?_; rintro e w2 ⟨rfl, rfl⟩) | (go_at_call 69; refine (HE2.out _).mono ?_; rintro e w3 ⟨rfl, rfl⟩))
    go_returns
    exact ⟨rfl, by go_grown⟩
  · have HE1 := Lib.hid (fun w => sp_empty_true (plusS (⟨lo, hi, slo, shi⟩ : Sp)).1 (plusS (⟨lo, hi, slo, shi⟩ : Sp)).2 h1 w)
    have HE2 := Lib.hid (fun w => sp_empty_true (minusS (⟨lo, hi, slo, shi⟩ : Sp)).1 (minusS (⟨lo, hi, slo, shi⟩ : Sp)).2 h2 w)
    rw [(tight_tt h1 h2).1, (tight_tt h1 h2).2]
    clear h1 h2
    generalize plusS (⟨lo, hi, slo, shi⟩ : Sp) = p at *
    generalize minusS (⟨lo, hi, slo, shi⟩ : Sp) = m at *
    simp only [Spn.N0, Spn.Z0]
    go_enter Try.func62, Try.ntmps62
    go_wp2_with (first | (go_at_call 68; refine (HP.out _).mono ?_; rintro e w1 ⟨rfl, rfl⟩) | (go_at_call 69; refine (HE1.out _).mono ?_; rintro e w2 ⟨rfl, rfl⟩) | (go_at_call 69; refine (HE2.out _).mono ?_; rintro e w3 ⟨rfl, rfl⟩))
    go_returns
    exact ⟨rfl, by go_grown⟩
end Go.Proofs.Ytebolmfdglmpoaa
end
section
namespace Go.Proofs.Ytebolmfdglmpoaa
set_option maxRecDepth 20000

set_option maxRecDepth 20000
open Go.RowKit
open Spn (Sp umax umin smax smin plusS minusS emptyS okS tightS constS)

attribute [local go_sem] u64_wrap BitVec.ofInt_add BitVec.ofInt_mul ofInt_sub' ofInt_N ofInt_Nw u64_and u64_or u64_xor u64_andNot wrap64_N ofInt_Z64 max_N min_N max_Z min_Z max_Z0 min_Zm1
set_option maxHeartbeats 1000000 in
theorem sp_const (v : BitVec 64) (w : World) : Calls Try.prog 48 #[.int .u64 (N v)] w fun e w' => e = .returned (.agg #[.int .u64 (N (constS v).lo), .int .u64 (N (constS v).hi), .int .i64 (Z (constS v).slo), .int .i64 (Z (constS v).shi)]) ∧ Grown w w' := by
  unfold constS
  go_enter Try.func48, Try.ntmps48
  go_wp2
  go_returns
  exact ⟨rfl, by go_grown⟩
end Go.Proofs.Ytebolmfdglmpoaa
end
section
namespace Go.Proofs.Ytebolmfdglmpoaa
set_option maxRecDepth 20000

set_option maxRecDepth 20000
open Go.RowKit
open Spn (Sp umax umin smax smin plusS minusS emptyS okS tightS constS)

attribute [local go_sem] u64_wrap BitVec.ofInt_add BitVec.ofInt_mul ofInt_sub' ofInt_N ofInt_Nw u64_and u64_or u64_xor u64_andNot wrap64_N ofInt_Z64 max_N min_N max_Z min_Z max_Z0 min_Zm1
theorem w_add (a b : BitVec 64) : wrap64 (Z a + Z b) = Z (a + b) := by rw [← Z_ofInt, BitVec.ofInt_add, ofInt_Z64, ofInt_Z64]
theorem w_sub (a b : BitVec 64) : wrap64 (Z a - Z b) = Z (a - b) := by rw [← Z_ofInt, ofInt_sub', ofInt_Z64, ofInt_Z64]
theorem w_mul (a b : BitVec 64) : wrap64 (Z a * Z b) = Z (a * b) := by rw [← Z_ofInt, BitVec.ofInt_mul, ofInt_Z64, ofInt_Z64]
theorem w_div (a b : BitVec 64) : wrap64 ((Z a).tdiv (Z b)) = Z (a.sdiv b) := by
  rw [← Z_ofInt]
  unfold Z
  rw [BitVec.toInt_ofInt, BitVec.toInt_sdiv]
attribute [local go_sem] w_add w_sub w_mul w_div ofInt_pow
end Go.Proofs.Ytebolmfdglmpoaa
end
section
namespace Go.Proofs.Ytebolmfdglmpoaa
set_option maxRecDepth 20000

set_option maxRecDepth 20000
open Go.RowKit
open Spn (Sp umax umin smax smin plusS minusS emptyS okS tightS constS)

attribute [local go_sem] u64_wrap BitVec.ofInt_add BitVec.ofInt_mul ofInt_sub' ofInt_N ofInt_Nw u64_and u64_or u64_xor u64_andNot wrap64_N ofInt_Z64 max_N min_N max_Z min_Z max_Z0 min_Zm1 w_add w_sub w_mul w_div
abbrev three (w : World) (x y : Array Value) : World := ((w.alloc (.cells x 28)).alloc (.cells y 28)).alloc (.cells #[.int .u64 0, .int .u64 0, .int .i64 0, .int .i64 0] 28)
end Go.Proofs.Ytebolmfdglmpoaa
end
section
namespace Go.Proofs.Ytebolmfdglmpoaa
set_option maxRecDepth 20000

set_option maxRecDepth 20000
open Go.RowKit
open Spn (Sp umax umin smax smin plusS minusS emptyS okS tightS constS)

attribute [local go_sem] u64_wrap BitVec.ofInt_add BitVec.ofInt_mul ofInt_sub' ofInt_N ofInt_Nw u64_and u64_or u64_xor u64_andNot wrap64_N ofInt_Z64 max_N min_N max_Z min_Z max_Z0 min_Zm1 w_add w_sub w_mul w_div
def inB (a b : Sp) : Bool := decide (N a.lo ≤ N b.lo) && (decide (N b.hi ≤ N a.hi) && (decide (Z a.slo ≤ Z b.slo) && decide (Z b.shi ≤ Z a.shi)))
set_option maxHeartbeats 1000000 in
theorem sp_in (alo ahi aslo ashi blo bhi bslo bshi : BitVec 64) (w : World) : Calls Try.prog 58 #[.agg #[.int .u64 (N alo), .int .u64 (N ahi), .int .i64 (Z aslo), .int .i64 (Z ashi)], .agg #[.int .u64 (N blo), .int .u64 (N bhi), .int .i64 (Z bslo), .int .i64 (Z bshi)]] w fun e w' => e = .returned (.bool (inB (⟨alo, ahi, aslo, ashi⟩ : Sp) (⟨blo, bhi, bslo, bshi⟩ : Sp))) ∧ Grown w w' := by
  have key : inB (⟨alo, ahi, aslo, ashi⟩ : Sp) (⟨blo, bhi, bslo, bshi⟩ : Sp) = (decide (N alo ≤ N blo) && (decide (N bhi ≤ N ahi) && (decide (Z aslo ≤ Z bslo) && (decide (Z bshi ≤ Z ashi))))) := rfl
  rw [key]
  clear key
  cases b0 : decide (N alo ≤ N blo)
  · skip
    go_enter Try.func58, Try.ntmps58
    go_wp2
    go_ret
    exact ⟨rfl, by go_grown⟩
  cases b1 : decide (N bhi ≤ N ahi)
  · skip
    go_enter Try.func58, Try.ntmps58
    go_wp2
    go_ret
    exact ⟨rfl, by go_grown⟩
  cases b2 : decide (Z aslo ≤ Z bslo)
  · skip
    go_enter Try.func58, Try.ntmps58
    go_wp2
    go_ret
    exact ⟨rfl, by go_grown⟩
  cases b3 : decide (Z bshi ≤ Z ashi)
  · skip
    go_enter Try.func58, Try.ntmps58
    go_wp2
    go_ret
    exact ⟨rfl, by go_grown⟩
  go_enter Try.func58, Try.ntmps58
  go_wp2
  go_ret
  exact ⟨rfl, by go_grown⟩
theorem ofInt_max : BitVec.ofInt 64 9223372036854775808 = 9223372036854775808#64 := by decide
attribute [local go_sem] ofInt_max
end Go.Proofs.Ytebolmfdglmpoaa
end
section
namespace Go.Proofs.Ytebolmfdglmpoaa
set_option maxRecDepth 20000

open Go.RowKit

/-- 'Grown', not taken apart. -/
def Gw (a b : World) : Prop := Grown a b
theorem Gw.drew {a b : World} (h : Gw a b) : Gw a b.drew := Grown.drew h
end Go.Proofs.Ytebolmfdglmpoaa
end
section
namespace Go.Proofs.Ytebolmfdglmpoaa
set_option maxRecDepth 20000

open Go.RowKit

/-! Products. -/
/-- The lowest k bits. -/
def lowK (a : W64) (k : Nat) : W64 := BitVec.ofNat 64 (a.toNat % 2 ^ k)
theorem lowK_all (a : W64) : lowK a 64 = a := by
  unfold lowK
  rw [Nat.mod_eq_of_lt a.isLt]; simp
/-! Range. -/
end Go.Proofs.Ytebolmfdglmpoaa
end
section
namespace Go.Proofs.Ytebolmfdglmpoaa.Sc
set_option maxRecDepth 20000

open Go.Proofs.Ytebolmfdglmpoaa
open Go.Proofs.Ytebolmfdglmpoaa.Spn (Sp umax umin smax smin plusS minusS emptyS okS tightS constS two_forms N_umax N_umin Z_smax Z_smin N0 N1 Z0 Zm1 Z_range)

abbrev Tm := BitVec 64 × BitVec 64
/-! The first and the last number of a T, from one on, up to one. -/
def bitW (k : Nat) : W64 := 1#64 <<< k
def firstL (m lo : W64) : Nat → W64 → W64
  | 0, v => v
  | k + 1, v => firstL m lo k (if m.getLsbD k then (if N lo ≤ N (v &&& ~~~bitW k) then v &&& ~~~bitW k else v) else v)
def firstOk (t : Tm) (lo : W64) : Bool := !decide (N (t.1 ||| t.2) < N lo)
def firstV (t : Tm) (lo : W64) : W64 := if N (t.1 ||| t.2) < N lo then 0#64 else firstL t.2 lo 64 (t.1 ||| t.2)
def lastL (m hi : W64) : Nat → W64 → W64
  | 0, v => v
  | k + 1, v => lastL m hi k (if m.getLsbD k then (if N (v ||| bitW k) ≤ N hi then v ||| bitW k else v) else v)
def lastOk (t : Tm) (hi : W64) : Bool := !decide (N hi < N t.1)
def lastV (t : Tm) (hi : W64) : W64 := if N hi < N t.1 then 0#64 else lastL t.2 hi 64 t.1

theorem toNat_bitW {k : Nat} (hk : k < 64) : (bitW k).toNat = 2 ^ k := by
  unfold bitW
  rw [BitVec.toNat_shiftLeft, Nat.shiftLeft_eq, show (1#64).toNat = 1 from rfl, Nat.one_mul, Nat.mod_eq_of_lt (Nat.pow_lt_pow_right (by decide) hk)]
theorem bitW_two {k : Nat} : bitW k = BitVec.twoPow 64 k := by unfold bitW; rw [BitVec.twoPow_eq]
theorem bit_mod (v : W64) (k : Nat) : v.getLsbD k = decide (v.toNat / 2 ^ k % 2 = 1) := by
  rw [BitVec.getLsbD, Nat.testBit_eq_decide_div_mod_eq]
theorem clear_set {v : W64} {k : Nat} (hk : k < 64) (h : v.getLsbD k = true) : (v &&& ~~~bitW k).toNat + 2 ^ k = v.toNat := by
  have e : v = (v &&& ~~~bitW k) + bitW k := by
    rw [BitVec.add_eq_or_of_and_eq_zero]
    · apply BitVec.eq_of_getLsbD_eq
      intro i hi
      rw [bitW_two]
      simp only [BitVec.getLsbD_or, BitVec.getLsbD_and, BitVec.getLsbD_not, BitVec.getLsbD_twoPow, hi, decide_true, Bool.true_and]
      by_cases e : k = i
      · subst e; simp [h, hk]
      · simp [e]
    · apply BitVec.eq_of_getLsbD_eq
      intro i hi
      rw [bitW_two]
      simp only [BitVec.getLsbD_and, BitVec.getLsbD_not, BitVec.getLsbD_twoPow, BitVec.getLsbD_zero, hi, decide_true, Bool.true_and]
      by_cases e : k = i <;> simp [e]
  have h2 := congrArg BitVec.toNat e
  rw [BitVec.toNat_add, toNat_bitW hk] at h2
  have h3 : (v &&& ~~~bitW k).toNat ≤ v.toNat := by rw [BitVec.toNat_and]; exact Nat.and_le_left
  have h4 := v.isLt
  have h5 : 2 ^ k < 2 ^ 64 := Nat.pow_lt_pow_right (by decide) hk
  have h6 : 2 ^ k ≤ v.toNat := by
    rw [bit_mod] at h
    have h7 := of_decide_eq_true h
    refine Nat.le_of_not_lt fun hlt => ?_
    rw [Nat.div_eq_of_lt hlt] at h7
    cases h7
  generalize (v &&& ~~~bitW k).toNat = c at *
  generalize 2 ^ k = P at *
  by_cases hc : c + P < 2 ^ 64
  · rw [Nat.mod_eq_of_lt hc] at h2; omega
  · omega
/-- A number in three parts: above a bit, the bit, and below. -/
theorem parts3 (v : Nat) (k : Nat) : v = 2 ^ k * (2 * (v / 2 ^ (k + 1)) + v / 2 ^ k % 2) + v % 2 ^ k ∧ v / 2 ^ k = 2 * (v / 2 ^ (k + 1)) + v / 2 ^ k % 2 ∧ v % 2 ^ (k + 1) = v % 2 ^ k + 2 ^ k * (v / 2 ^ k % 2) ∧ v % 2 ^ k < 2 ^ k ∧ v / 2 ^ k % 2 < 2 := by
  have e : v / 2 ^ (k + 1) = v / 2 ^ k / 2 := by rw [Nat.pow_succ, Nat.div_div_eq_div_mul]
  have h1 : v / 2 ^ k = 2 * (v / 2 ^ (k + 1)) + v / 2 ^ k % 2 := by rw [e]; omega
  refine ⟨?_, h1, by rw [Nat.pow_succ, Nat.mod_mul], Nat.mod_lt _ (Nat.two_pow_pos k), Nat.mod_lt _ (by decide)⟩
  rw [← h1]
  exact (Nat.div_add_mod v (2 ^ k)).symm
end Go.Proofs.Ytebolmfdglmpoaa.Sc
end
section
namespace Go.Proofs.Ytebolmfdglmpoaa
set_option maxRecDepth 20000

open Go.RowKit
open Sc (firstL firstOk firstV lastL lastOk lastV bitW)

attribute [local go_sem] u64_wrap BitVec.ofInt_add BitVec.ofInt_mul ofInt_sub' ofInt_N ofInt_Nw ofInt_pow ofInt_shl mul_shl1 u64_and u64_or u64_xor u64_andNot
theorem firstL_skip {m lo : W64} {b : Nat} (x : W64) : ∀ {k : Nat}, b ≤ k → m.toNat % 2 ^ k = m.toNat % 2 ^ b → firstL m lo k x = firstL m lo b x
  | 0, hb, _ => by
    obtain rfl : b = 0 := by omega
    rfl
  | k + 1, hb, h => by
    rcases Nat.eq_or_lt_of_le hb with rfl | hlt
    · rfl
    · obtain ⟨_, _, h3, _, h5⟩ := Sc.parts3 m.toNat k
      have h6 : m.toNat % 2 ^ b ≤ m.toNat % 2 ^ k := by
        have : m.toNat % 2 ^ k % 2 ^ b = m.toNat % 2 ^ b := Nat.mod_mod_of_dvd _ (Nat.pow_dvd_pow 2 (by omega))
        rw [← this]; exact Nat.mod_le _ _
      have h7 : 2 ^ k * (m.toNat / 2 ^ k % 2) = 0 := by omega
      have h8 : m.toNat / 2 ^ k % 2 = 0 := by
        rcases Nat.mul_eq_zero.1 h7 with h | h
        · have := Nat.two_pow_pos k; omega
        · exact h
      have h9 : m.getLsbD k = false := by rw [Sc.bit_mod, h8]; rfl
      rw [firstL, h9]
      exact firstL_skip x (by omega) (by rw [h7] at h3; omega)
theorem lastL_skip {m lo : W64} {b : Nat} (x : W64) : ∀ {k : Nat}, b ≤ k → m.toNat % 2 ^ k = m.toNat % 2 ^ b → lastL m lo k x = lastL m lo b x
  | 0, hb, _ => by
    obtain rfl : b = 0 := by omega
    rfl
  | k + 1, hb, h => by
    rcases Nat.eq_or_lt_of_le hb with rfl | hlt
    · rfl
    · obtain ⟨_, _, h3, _, h5⟩ := Sc.parts3 m.toNat k
      have h6 : m.toNat % 2 ^ b ≤ m.toNat % 2 ^ k := by
        have : m.toNat % 2 ^ k % 2 ^ b = m.toNat % 2 ^ b := Nat.mod_mod_of_dvd _ (Nat.pow_dvd_pow 2 (by omega))
        rw [← this]; exact Nat.mod_le _ _
      have h7 : 2 ^ k * (m.toNat / 2 ^ k % 2) = 0 := by omega
      have h8 : m.toNat / 2 ^ k % 2 = 0 := by
        rcases Nat.mul_eq_zero.1 h7 with h | h
        · have := Nat.two_pow_pos k; omega
        · exact h
      have h9 : m.getLsbD k = false := by rw [Sc.bit_mod, h8]; rfl
      rw [lastL, h9]
      exact lastL_skip x (by omega) (by rw [h7] at h3; omega)
theorem lowK_nat (m : W64) (k : Nat) : (lowK m k).toNat = m.toNat % 2 ^ k := by
  unfold lowK
  rw [BitVec.toNat_ofNat, Nat.mod_eq_of_lt (Nat.lt_of_le_of_lt (Nat.mod_le _ _) m.isLt)]
/-- The highest bit of what is left. -/
theorem top_bit (m : W64) (k : Nat) (hk : k ≤ 64) (h : ¬ lowK m k = 0#64) : ∃ j, j < k ∧ Lib.bitLen (lowK m k).toNat = j + 1 ∧ m.toNat % 2 ^ k = m.toNat % 2 ^ (j + 1) ∧ m.getLsbD j = true ∧ lowK m k &&& ~~~(1#64 <<< j) = lowK m j ∧ N (lowK m j) < N (lowK m k) := by
  have h0 : ¬ (lowK m k).toNat = 0 := fun e => h (BitVec.eq_of_toNat_eq (by rw [e]; rfl))
  obtain ⟨b1, b2, b3⟩ := Lib.bitLenAux_bounds 64 (lowK m k).toNat (lowK m k).isLt h0
  change 0 < Lib.bitLen (lowK m k).toNat at b1
  change 2 ^ (Lib.bitLen (lowK m k).toNat - 1) ≤ (lowK m k).toNat at b2
  change (lowK m k).toNat < 2 ^ Lib.bitLen (lowK m k).toNat at b3
  obtain ⟨j, hj⟩ : ∃ j, Lib.bitLen (lowK m k).toNat = j + 1 := ⟨_, (Nat.sub_add_cancel b1).symm⟩
  rw [hj] at b2 b3
  simp only [Nat.add_sub_cancel] at b2
  rw [lowK_nat] at b2 b3 h0
  have hlt : j < k := by
    have h1 := Nat.mod_lt m.toNat (Nat.two_pow_pos k)
    exact (Nat.pow_lt_pow_iff_right (by decide : 1 < 2)).1 (Nat.lt_of_le_of_lt b2 h1)
  have e1 : m.toNat % 2 ^ k = m.toNat % 2 ^ (j + 1) := by
    have : m.toNat % 2 ^ k % 2 ^ (j + 1) = m.toNat % 2 ^ (j + 1) := Nat.mod_mod_of_dvd _ (Nat.pow_dvd_pow 2 (by omega))
    rw [← this, Nat.mod_eq_of_lt b3]
  obtain ⟨_, _, h3, h4, h5⟩ := Sc.parts3 m.toNat j
  have e2 : m.toNat / 2 ^ j % 2 = 1 := by
    rcases (show m.toNat / 2 ^ j % 2 = 0 ∨ m.toNat / 2 ^ j % 2 = 1 by omega) with h | h
    · rw [h, Nat.mul_zero] at h3; omega
    · exact h
  rw [e2, Nat.mul_one] at h3
  have e3 : (lowK m k).getLsbD j = true := by
    rw [Sc.bit_mod, lowK_nat, e1]
    refine decide_eq_true ?_
    have : m.toNat % 2 ^ (j + 1) / 2 ^ j = 1 := by
      rw [h3, Nat.add_div_right _ (Nat.two_pow_pos j), Nat.div_eq_of_lt h4]
    rw [this]
  have e4 := Sc.clear_set (by omega) e3
  rw [lowK_nat] at e4
  have e5 : (lowK m k &&& ~~~(1#64 <<< j)) = lowK m j := by
    apply BitVec.eq_of_toNat_eq
    rw [lowK_nat]
    unfold Sc.bitW at e4
    omega
  refine ⟨j, hlt, hj, e1, by rw [Sc.bit_mod, e2]; rfl, e5, ?_⟩
  unfold N
  rw [lowK_nat, lowK_nat]
  have := Nat.two_pow_pos j
  omega
theorem N_zero_iff' (a : W64) : N a = 0 ↔ a = 0#64 := by
  rw [show (0 : Int) = N (0#64) from rfl, N_eq_iff]
set_option maxHeartbeats 1000000 in
theorem sc_first (av am lo : W64) (w : World) : Calls Try.prog 70 #[.agg #[.int .u64 (N av), .int .u64 (N am)], .int .u64 (N lo)] w fun e w' => e = .returned (.tuple #[.int .u64 (N (firstV (av, am) lo)), .bool (firstOk (av, am) lo)]) ∧ Grown w w' := by
  unfold firstV firstOk
  by_cases h : N (av ||| am) < N lo
  · rw [if_pos h]
    go_enter Try.func70, Try.ntmps70
    go_wp2
    go_returns
    exact ⟨by simp [h, show N (0#64) = 0 from rfl], by go_grown⟩
  · rw [if_neg h]
    go_enter Try.func70, Try.ntmps70
    go_wp2
    generalize hW : (w.alloc (.cells #[.int .u64 (N av), .int .u64 (N am)] 26)) = W0 at *
    have hg0 : Grown w W0 := by rw [← hW]; go_grown
    clear hW
    go_loopw [6, 7, 8] (fun v o b wr => ∃ (k : Nat) (x : W64), k ≤ 64 ∧ v = .int .u64 (N x) ∧ o = .int .u64 (N (lowK am k)) ∧ firstL am lo k x = firstL am lo 64 (av ||| am) ∧ Grown w wr) (fun _ o _ _ => (intOf o).toNat)
    case atStart => exact ⟨64, av ||| am, by omega, rfl, by rw [lowK_all], rfl, by first | assumption | exact Grown.drew hg0⟩
    case round =>
      obtain ⟨k, x, hk, rfl, rfl, hx, hg⟩ := hrel
      by_cases h0 : lowK am k = 0#64
      · have hz : N (lowK am k) = 0 := by rw [h0]; rfl
        have hm : am.toNat % 2 ^ k = am.toNat % 2 ^ 0 := by
          have := congrArg BitVec.toNat h0
          rw [lowK_nat] at this
          rw [this, Nat.pow_zero, Nat.mod_one]; rfl
        rw [firstL_skip x (Nat.zero_le k) hm] at hx
        change x = _ at hx
        rw [hz]
        go_wp2
        go_returns
        exact ⟨by simp [h, hx], by go_grown⟩
      · obtain ⟨j, hj, hl, hm, hb, ho, hlt⟩ := top_bit am k hk h0
        have hne : (N (lowK am k) != 0) = true := by
          rw [bne_iff_ne]
          exact fun e => h0 ((N_zero_iff' _).1 e)
        have HL : ∀ w : World, Calls Try.prog 60 #[.int .u64 (N (lowK am k))] w fun e w' => e = .returned (.int .i64 ((j : Int) + 1)) ∧ w' = w := by
          intro w
          refine (Try.bits_Len64 _ _ (N_nonneg _) (by have := N_lt (lowK am k); omega)).mono ?_
          rintro e w' ⟨rfl, rfl⟩
          refine ⟨?_, rfl⟩
          have : (N (lowK am k)).toNat = (lowK am k).toNat := by unfold N; simp
          rw [this, hl]; simp
        rw [firstL_skip x (by omega) hm] at hx
        rw [firstL, hb] at hx
        simp only [if_true] at hx
        unfold bitW at hx
        have hj64 : j < 64 := by omega
        by_cases hc : N lo ≤ N (x &&& ~~~(1#64 <<< j))
        · rw [if_pos hc] at hx
          have hd : decide (N (x &&& ~~~(1#64 <<< j)) ≥ N lo) = true := decide_eq_true hc
          go_wp2_with (go_at_call 60; refine (HL _).mono ?_; rintro e w' ⟨rfl, rfl⟩)
          go_roundw
          case rel => exact ⟨j, _, by omega, rfl, rfl, hx, by assumption⟩
          case measure => have n1 := N_nonneg (lowK am j); have n2 := N_nonneg (lowK am k); simp [intOf]; omega
        · rw [if_neg hc] at hx
          have hd : decide (N (x &&& ~~~(1#64 <<< j)) ≥ N lo) = false := decide_eq_false hc
          go_wp2_with (go_at_call 60; refine (HL _).mono ?_; rintro e w' ⟨rfl, rfl⟩)
          go_roundw
          case rel => exact ⟨j, _, by omega, rfl, rfl, hx, by assumption⟩
          case measure => have n1 := N_nonneg (lowK am j); have n2 := N_nonneg (lowK am k); simp [intOf]; omega
set_option maxHeartbeats 1000000 in
theorem sc_last (av am hi : W64) (w : World) : Calls Try.prog 71 #[.agg #[.int .u64 (N av), .int .u64 (N am)], .int .u64 (N hi)] w fun e w' => e = .returned (.tuple #[.int .u64 (N (lastV (av, am) hi)), .bool (lastOk (av, am) hi)]) ∧ Grown w w' := by
  unfold lastV lastOk
  by_cases h : N hi < N av
  · rw [if_pos h]
    go_enter Try.func71, Try.ntmps71
    go_wp2
    go_returns
    exact ⟨by simp [h, show N (0#64) = 0 from rfl], by go_grown⟩
  · rw [if_neg h]
    go_enter Try.func71, Try.ntmps71
    go_wp2
    generalize hW : (w.alloc (.cells #[.int .u64 (N av), .int .u64 (N am)] 26)) = W0 at *
    have hg0 : Grown w W0 := by rw [← hW]; go_grown
    clear hW
    go_loopw [6, 7, 8] (fun v o b wr => ∃ (k : Nat) (x : W64), k ≤ 64 ∧ v = .int .u64 (N x) ∧ o = .int .u64 (N (lowK am k)) ∧ lastL am hi k x = lastL am hi 64 av ∧ Grown w wr) (fun _ o _ _ => (intOf o).toNat)
    case atStart => exact ⟨64, av, by omega, rfl, by rw [lowK_all], rfl, by first | assumption | exact Grown.drew hg0⟩
    case round =>
      obtain ⟨k, x, hk, rfl, rfl, hx, hg⟩ := hrel
      by_cases h0 : lowK am k = 0#64
      · have hz : N (lowK am k) = 0 := by rw [h0]; rfl
        have hm : am.toNat % 2 ^ k = am.toNat % 2 ^ 0 := by
          have := congrArg BitVec.toNat h0
          rw [lowK_nat] at this
          rw [this, Nat.pow_zero, Nat.mod_one]; rfl
        rw [lastL_skip x (Nat.zero_le k) hm] at hx
        change x = _ at hx
        rw [hz]
        go_wp2
        go_returns
        exact ⟨by simp [h, hx], by go_grown⟩
      · obtain ⟨j, hj, hl, hm, hb, ho, hlt⟩ := top_bit am k hk h0
        have hne : (N (lowK am k) != 0) = true := by
          rw [bne_iff_ne]
          exact fun e => h0 ((N_zero_iff' _).1 e)
        have HL : ∀ w : World, Calls Try.prog 60 #[.int .u64 (N (lowK am k))] w fun e w' => e = .returned (.int .i64 ((j : Int) + 1)) ∧ w' = w := by
          intro w
          refine (Try.bits_Len64 _ _ (N_nonneg _) (by have := N_lt (lowK am k); omega)).mono ?_
          rintro e w' ⟨rfl, rfl⟩
          refine ⟨?_, rfl⟩
          have : (N (lowK am k)).toNat = (lowK am k).toNat := by unfold N; simp
          rw [this, hl]; simp
        rw [lastL_skip x (by omega) hm] at hx
        rw [lastL, hb] at hx
        simp only [if_true] at hx
        unfold bitW at hx
        have hj64 : j < 64 := by omega
        by_cases hc : N (x ||| 1#64 <<< j) ≤ N hi
        · rw [if_pos hc] at hx
          have hd : decide (N (x ||| 1#64 <<< j) ≤ N hi) = true := decide_eq_true hc
          go_wp2_with (go_at_call 60; refine (HL _).mono ?_; rintro e w' ⟨rfl, rfl⟩)
          go_roundw
          case rel => exact ⟨j, _, by omega, rfl, rfl, hx, by assumption⟩
          case measure => have n1 := N_nonneg (lowK am j); have n2 := N_nonneg (lowK am k); simp [intOf]; omega
        · rw [if_neg hc] at hx
          have hd : decide (N (x ||| 1#64 <<< j) ≤ N hi) = false := decide_eq_false hc
          go_wp2_with (go_at_call 60; refine (HL _).mono ?_; rintro e w' ⟨rfl, rfl⟩)
          go_roundw
          case rel => exact ⟨j, _, by omega, rfl, rfl, hx, by assumption⟩
          case measure => have n1 := N_nonneg (lowK am j); have n2 := N_nonneg (lowK am k); simp [intOf]; omega
end Go.Proofs.Ytebolmfdglmpoaa
end
section
namespace Go.Proofs.Ytebolmfdglmpoaa.Ex.S17
set_option maxRecDepth 20000

open Go Go.RowKit
open Go.Proofs.Ytebolmfdglmpoaa.Spn (Sp okS tightS constS)

structure TI where
  v : Int
  m : Int
structure SI where
  lo : Int
  hi : Int
  slo : Int
  shi : Int
structure NI where
  t : TI
  s : SI
abbrev B (x : Int) : BitVec 64 := BitVec.ofInt 64 x
def tB (t : TI) : BitVec 64 × BitVec 64 := (B t.v, B t.m)
def sB (s : SI) : Sp := ⟨B s.lo, B s.hi, B s.slo, B s.shi⟩
def tN (x : BitVec 64 × BitVec 64) : TI := ⟨N x.1, N x.2⟩
def sN (s : Sp) : SI := ⟨N s.lo, N s.hi, Z s.slo, Z s.shi⟩
theorem tB_tN (x : BitVec 64 × BitVec 64) : tB (tN x) = x := by
  unfold tB tN B; simp only [ofInt_N]
def VT (t : TI) : Value := .agg ⟨[.int .u64 t.v, .int .u64 t.m]⟩
def VS (s : SI) : Value := .agg ⟨[.int .u64 s.lo, .int .u64 s.hi, .int .i64 s.slo, .int .i64 s.shi]⟩
def VN (n : NI) : Value := .agg ⟨[.int .u64 n.t.v, .int .u64 n.t.m, .int .u64 n.s.lo, .int .u64 n.s.hi, .int .i64 n.s.slo, .int .i64 n.s.shi]⟩
def uB (x : Int) : Bool := decide (0 ≤ x ∧ x < 18446744073709551616)
def zB (x : Int) : Bool := decide (-9223372036854775808 ≤ x ∧ x ≤ 9223372036854775807)
def tW (t : TI) : Bool := uB t.v && uB t.m
def sW (s : SI) : Bool := uB s.lo && uB s.hi && zB s.slo && zB s.shi
def nW (n : NI) : Bool := tW n.t && sW n.s
theorem uB_N (v : BitVec 64) : uB (N v) = true := decide_eq_true ⟨N_nonneg v, by simpa using N_lt v⟩
theorem zB_Z (v : BitVec 64) : zB (Z v) = true := by
  have := Spn.Z_range v
  exact decide_eq_true this
theorem tW_tN (x : BitVec 64 × BitVec 64) : tW (tN x) = true := by unfold tW tN; simp only [uB_N, Bool.and_self]
theorem sW_sN (s : Sp) : sW (sN s) = true := by unfold sW sN; simp only [uB_N, zB_Z, Bool.and_self]
theorem uB_eq {x : Int} (h : uB x = true) : ∃ v : BitVec 64, x = N v := by
  obtain ⟨h0, h1⟩ := of_decide_eq_true h
  exact ⟨B x, (N_ofInt x h0 (by simpa using h1)).symm⟩
theorem zB_eq {x : Int} (h : zB x = true) : ∃ v : BitVec 64, x = Z v := by
  obtain ⟨h0, h1⟩ := of_decide_eq_true h
  refine ⟨B x, ?_⟩
  rw [Z_ofInt]
  unfold wrap64
  omega
theorem tW_eq {t : TI} (h : tW t = true) : ∃ x, t = tN x := by
  unfold tW at h
  simp only [Bool.and_eq_true] at h
  obtain ⟨a, ha⟩ := uB_eq h.1
  obtain ⟨b, hb⟩ := uB_eq h.2
  exact ⟨(a, b), by cases t; simp only at ha hb; rw [ha, hb]; rfl⟩
theorem tW_eq2 {a b : Int} (h : tW ⟨a, b⟩ = true) : ∃ x y : BitVec 64, a = N x ∧ b = N y := by
  unfold tW at h
  simp only [Bool.and_eq_true] at h
  obtain ⟨x, hx⟩ := uB_eq h.1
  obtain ⟨y, hy⟩ := uB_eq h.2
  exact ⟨x, y, hx, hy⟩
theorem sW_eq4 {a b c d : Int} (h : sW ⟨a, b, c, d⟩ = true) : ∃ x y z u : BitVec 64, a = N x ∧ b = N y ∧ c = Z z ∧ d = Z u := by
  unfold sW at h
  simp only [Bool.and_eq_true] at h
  obtain ⟨x, hx⟩ := uB_eq h.1.1.1
  obtain ⟨y, hy⟩ := uB_eq h.1.1.2
  obtain ⟨z, hz⟩ := zB_eq h.1.2
  obtain ⟨u, hu⟩ := zB_eq h.2
  exact ⟨x, y, z, u, hx, hy, hz, hu⟩
theorem VT_tN (x : BitVec 64 × BitVec 64) : VT (tN x) = .agg #[.int .u64 (N x.1), .int .u64 (N x.2)] := rfl
theorem VS_sN (x : Sp) : VS (sN x) = .agg #[.int .u64 (N x.lo), .int .u64 (N x.hi), .int .i64 (Z x.slo), .int .i64 (Z x.shi)] := rfl
theorem pair1 {b : Bool} {cs : Cs} (h : ∀ p ∈ cs, p.1 = p.2) (hc : cs = [(b2i b, 1)]) : b = true := by
  subst hc
  exact b2i_inj (b := true) (h (b2i b, 1) (List.mem_singleton.2 rfl))
def tBothV (a b : BitVec 64 × BitVec 64) : BitVec 64 × BitVec 64 := if (N ((a.1 ^^^ b.1) &&& ~~~a.2 &&& ~~~b.2) == 0) = true then tOf (a.1 ||| b.1) (a.2 &&& b.2) else (0#64, 0#64)
def tBothK (a b : BitVec 64 × BitVec 64) : Bool := N ((a.1 ^^^ b.1) &&& ~~~a.2 &&& ~~~b.2) == 0
theorem tn_both2 (av am bv bm : BitVec 64) (w : World) : Calls Try.prog 65 #[.agg #[.int .u64 (N av), .int .u64 (N am)], .agg #[.int .u64 (N bv), .int .u64 (N bm)]] w fun e w' => e = .returned (.tuple #[.agg #[.int .u64 (N (tBothV (av, am) (bv, bm)).1), .int .u64 (N (tBothV (av, am) (bv, bm)).2)], .bool (tBothK (av, am) (bv, bm))]) ∧ Grown w w' := by
  refine (tn_both av am bv bm w).mono ?_
  rintro e w' ⟨rfl, hg⟩
  refine ⟨?_, hg⟩
  unfold tBothV tBothK
  by_cases h : (N ((av ^^^ bv) &&& ~~~am &&& ~~~bm) == 0) = true
  · simp only [h, if_true]
  · rw [if_neg h, if_neg h, Bool.not_eq_true _ |>.mp h]; rfl
def tEitherI (a : TI) (b : TI) : TI := tN (tEither (tB a).1 (tB a).2 (tB b).1 (tB b).2)
def hk_tnums_Either : Hook := fun f args _ =>
  if Nat.beq f 72 then
    match args with
    | [.agg ⟨[.int .u64 a0, .int .u64 a1]⟩, .agg ⟨[.int .u64 b0, .int .u64 b1]⟩] => some (VT (tEitherI (⟨a0, a1⟩ : TI) (⟨b0, b1⟩ : TI)), [(b2i (tW (⟨a0, a1⟩ : TI) && tW (⟨b0, b1⟩ : TI)), 1)])
    | _ => none
  else none
theorem hk_tnums_Either_ok : HookOk Try.prog hk_tnums_Either := by
  intro f args h v cs hv hc wb k s w H
  unfold hk_tnums_Either at hv
  split at hv
  · rename_i hf
    obtain rfl := Nat.eq_of_beq_eq_true hf
    split at hv
    · rename_i a0 a1 b0 b1
      cases hv
      have hw := pair1 hc rfl
      simp only [Bool.and_eq_true] at hw
      obtain ⟨hwa, hwb⟩ := hw
      obtain ⟨av0, av1, rfl, rfl⟩ := tW_eq2 hwa
      obtain ⟨bv0, bv1, rfl, rfl⟩ := tW_eq2 hwb
      simp only [tEitherI, tB, B, ofInt_N, VT_tN]
      exact (tn_either av0 av1 bv0 bv1 w).mono fun e w' h => ⟨h.1, Gr.of_grown h.2⟩
    · cases hv
  · cases hv
def tRangeI (a : Int) (b : Int) : TI := tN (tRange (B a) (B b))
def hk_tnums_Range : Hook := fun f args _ =>
  if Nat.beq f 54 then
    match args with
    | [.int .u64 a0, .int .u64 b0] => some (VT (tRangeI a0 b0), [(b2i (uB a0 && uB b0), 1)])
    | _ => none
  else none
theorem hk_tnums_Range_ok : HookOk Try.prog hk_tnums_Range := by
  intro f args h v cs hv hc wb k s w H
  unfold hk_tnums_Range at hv
  split at hv
  · rename_i hf
    obtain rfl := Nat.eq_of_beq_eq_true hf
    split at hv
    · rename_i a0 b0
      cases hv
      have hw := pair1 hc rfl
      simp only [Bool.and_eq_true] at hw
      obtain ⟨hwa, hwb⟩ := hw
      obtain ⟨av0, rfl⟩ := uB_eq hwa
      obtain ⟨bv0, rfl⟩ := uB_eq hwb
      simp only [tRangeI, B, ofInt_N, VT_tN]
      exact (tn_range av0 bv0 w).mono fun e w' h => ⟨h.1, Gr.of_grown h.2⟩
    · cases hv
  · cases hv
def sConstI (a : Int) : SI := sN (constS (B a))
def hk_spans_Const : Hook := fun f args _ =>
  if Nat.beq f 48 then
    match args with
    | [.int .u64 a0] => some (VS (sConstI a0), [(b2i (uB a0), 1)])
    | _ => none
  else none
theorem hk_spans_Const_ok : HookOk Try.prog hk_spans_Const := by
  intro f args h v cs hv hc wb k s w H
  unfold hk_spans_Const at hv
  split at hv
  · rename_i hf
    obtain rfl := Nat.eq_of_beq_eq_true hf
    split at hv
    · rename_i a0
      cases hv
      have hw := pair1 hc rfl
      have hwa := hw
      obtain ⟨av0, rfl⟩ := uB_eq hwa
      simp only [sConstI, B, ofInt_N, VS_sN]
      exact (sp_const av0 w).mono fun e w' h => ⟨h.1, Gr.of_grown h.2⟩
    · cases hv
  · cases hv
def tBothI (a : TI) (b : TI) : TI := tN (tBothV (tB a) (tB b))
def tBothKI (a : TI) (b : TI) : Bool := tBothK (tB a) (tB b)
def hk_tnums_Both : Hook := fun f args _ =>
  if Nat.beq f 65 then
    match args with
    | [.agg ⟨[.int .u64 a0, .int .u64 a1]⟩, .agg ⟨[.int .u64 b0, .int .u64 b1]⟩] => some (.tuple ⟨[VT (tBothI (⟨a0, a1⟩ : TI) (⟨b0, b1⟩ : TI)), .bool (tBothKI (⟨a0, a1⟩ : TI) (⟨b0, b1⟩ : TI))]⟩, [(b2i (tW (⟨a0, a1⟩ : TI) && tW (⟨b0, b1⟩ : TI)), 1)])
    | _ => none
  else none
theorem hk_tnums_Both_ok : HookOk Try.prog hk_tnums_Both := by
  intro f args h v cs hv hc wb k s w H
  unfold hk_tnums_Both at hv
  split at hv
  · rename_i hf
    obtain rfl := Nat.eq_of_beq_eq_true hf
    split at hv
    · rename_i a0 a1 b0 b1
      cases hv
      have hw := pair1 hc rfl
      simp only [Bool.and_eq_true] at hw
      obtain ⟨hwa, hwb⟩ := hw
      obtain ⟨av0, av1, rfl, rfl⟩ := tW_eq2 hwa
      obtain ⟨bv0, bv1, rfl, rfl⟩ := tW_eq2 hwb
      simp only [tBothI, tBothKI, tB, B, ofInt_N, VT_tN]
      exact (tn_both2 av0 av1 bv0 bv1 w).mono fun e w' h => ⟨h.1, Gr.of_grown h.2⟩
    · cases hv
  · cases hv
def sTightI (a : SI) : SI := sN (tightS (sB a))
def sTightKI (a : SI) : Bool := okS (sB a)
def hk_spans_Tight : Hook := fun f args _ =>
  if Nat.beq f 62 then
    match args with
    | [.agg ⟨[.int .u64 a0, .int .u64 a1, .int .i64 a2, .int .i64 a3]⟩] => some (.tuple ⟨[VS (sTightI (⟨a0, a1, a2, a3⟩ : SI)), .bool (sTightKI (⟨a0, a1, a2, a3⟩ : SI))]⟩, [(b2i (sW (⟨a0, a1, a2, a3⟩ : SI)), 1)])
    | _ => none
  else none
theorem hk_spans_Tight_ok : HookOk Try.prog hk_spans_Tight := by
  intro f args h v cs hv hc wb k s w H
  unfold hk_spans_Tight at hv
  split at hv
  · rename_i hf
    obtain rfl := Nat.eq_of_beq_eq_true hf
    split at hv
    · rename_i a0 a1 a2 a3
      cases hv
      have hw := pair1 hc rfl
      have hwa := hw
      obtain ⟨av0, av1, av2, av3, rfl, rfl, rfl, rfl⟩ := sW_eq4 hwa
      simp only [sTightI, sTightKI, sB, B, ofInt_N, ofInt_Z64, VS_sN]
      exact (sp_tight av0 av1 av2 av3 w).mono fun e w' h => ⟨h.1, Gr.of_grown h.2⟩
    · cases hv
  · cases hv
def tInI (a : TI) (b : TI) : Bool := (N ((tB b).2 &&& ~~~(tB a).2) == 0) && (N ((tB b).1 &&& ~~~(tB a).2) == N (tB a).1)
def hk_tnums_In : Hook := fun f args _ =>
  if Nat.beq f 57 then
    match args with
    | [.agg ⟨[.int .u64 a0, .int .u64 a1]⟩, .agg ⟨[.int .u64 b0, .int .u64 b1]⟩] => some (.bool (tInI (⟨a0, a1⟩ : TI) (⟨b0, b1⟩ : TI)), [(b2i (tW (⟨a0, a1⟩ : TI) && tW (⟨b0, b1⟩ : TI)), 1)])
    | _ => none
  else none
theorem hk_tnums_In_ok : HookOk Try.prog hk_tnums_In := by
  intro f args h v cs hv hc wb k s w H
  unfold hk_tnums_In at hv
  split at hv
  · rename_i hf
    obtain rfl := Nat.eq_of_beq_eq_true hf
    split at hv
    · rename_i a0 a1 b0 b1
      cases hv
      have hw := pair1 hc rfl
      simp only [Bool.and_eq_true] at hw
      obtain ⟨hwa, hwb⟩ := hw
      obtain ⟨av0, av1, rfl, rfl⟩ := tW_eq2 hwa
      obtain ⟨bv0, bv1, rfl, rfl⟩ := tW_eq2 hwb
      simp only [tInI, tB, B, ofInt_N]
      exact (tn_in av0 av1 bv0 bv1 w).mono fun e w' h => ⟨h.1, Gr.of_grown h.2⟩
    · cases hv
  · cases hv
def sInI (a : SI) (b : SI) : Bool := inB (sB a) (sB b)
def hk_spans_In : Hook := fun f args _ =>
  if Nat.beq f 58 then
    match args with
    | [.agg ⟨[.int .u64 a0, .int .u64 a1, .int .i64 a2, .int .i64 a3]⟩, .agg ⟨[.int .u64 b0, .int .u64 b1, .int .i64 b2, .int .i64 b3]⟩] => some (.bool (sInI (⟨a0, a1, a2, a3⟩ : SI) (⟨b0, b1, b2, b3⟩ : SI)), [(b2i (sW (⟨a0, a1, a2, a3⟩ : SI) && sW (⟨b0, b1, b2, b3⟩ : SI)), 1)])
    | _ => none
  else none
theorem hk_spans_In_ok : HookOk Try.prog hk_spans_In := by
  intro f args h v cs hv hc wb k s w H
  unfold hk_spans_In at hv
  split at hv
  · rename_i hf
    obtain rfl := Nat.eq_of_beq_eq_true hf
    split at hv
    · rename_i a0 a1 a2 a3 b0 b1 b2 b3
      cases hv
      have hw := pair1 hc rfl
      simp only [Bool.and_eq_true] at hw
      obtain ⟨hwa, hwb⟩ := hw
      obtain ⟨av0, av1, av2, av3, rfl, rfl, rfl, rfl⟩ := sW_eq4 hwa
      obtain ⟨bv0, bv1, bv2, bv3, rfl, rfl, rfl, rfl⟩ := sW_eq4 hwb
      simp only [sInI, sB, B, ofInt_N, ofInt_Z64]
      exact (sp_in av0 av1 av2 av3 bv0 bv1 bv2 bv3 w).mono fun e w' h => ⟨h.1, Gr.of_grown h.2⟩
    · cases hv
  · cases hv
def hkBase : Hook := orHook hk_tnums_Either (orHook hk_tnums_Range (orHook hk_spans_Const (orHook hk_tnums_Both (orHook hk_spans_Tight (orHook hk_tnums_In (hk_spans_In))))))
theorem hkBase_ok : HookOk Try.prog hkBase := orHook_ok hk_tnums_Either_ok (orHook_ok hk_tnums_Range_ok (orHook_ok hk_spans_Const_ok (orHook_ok hk_tnums_Both_ok (orHook_ok hk_spans_Tight_ok (orHook_ok hk_tnums_In_ok (hk_spans_In_ok))))))
end Go.Proofs.Ytebolmfdglmpoaa.Ex.S17
end
section
namespace Go.Proofs.Ytebolmfdglmpoaa.Ex.S17
set_option maxRecDepth 20000

open Go Go.RowKit
open Go.Proofs.Ytebolmfdglmpoaa.Sc (firstV firstOk lastV lastOk)

structure RI where
  lo : Int
  hi : Int
  ok : Bool
def VR_ (r : RI) : Value := .agg ⟨[.int .u64 r.lo, .int .u64 r.hi, .bool r.ok]⟩
theorem rk {hk : Hook} (hhk : HookOk Try.prog hk) (orc : Orc) {g : FuncId} {args : List Value} {v : Value} {cs : Cs} (hf : (args.all flat && flat v) = true)
    (h : reckonGL Try.prog (guardH hk) orc 100000 300 [] g args = some (v, cs.map (·.1))) (h2 : reckonGR Try.prog (guardH hk) orc 100000 300 [] g args v = some (v, cs.map (·.2))) (he : cs.map (·.1) = cs.map (·.2)) (w : World) : Calls Try.prog g ⟨args⟩ w fun e w' => e = .returned v ∧ Gr w w' := by
  simp only [Bool.and_eq_true] at hf
  exact reckonS_ok noNG hhk orc 100000 300 [] hf.1 hf.2 h h2 he w (Laid.nil w)
theorem ret_eq {P : Program} {g : FuncId} {args : Array Value} {u v : Value} {w : World} (e : u = v) (h : Calls P g args w fun x w' => x = .returned v ∧ Gr w w') : Calls P g args w fun x w' => x = .returned u ∧ Gr w w' := e ▸ h
def firstI (t : TI) (l : Int) : Int := N (firstV (tB t) (B l))
def firstK (t : TI) (l : Int) : Bool := firstOk (tB t) (B l)
theorem c_first (t : TI) (l : Int) (hw : (tW t && uB l) = true) (w : World) : Calls Try.prog 70 #[VT t, .int .u64 l] w fun e w' => e = .returned (.tuple ⟨[.int .u64 (firstI t l), .bool (firstK t l)]⟩) ∧ Gr w w' := by
  simp only [Bool.and_eq_true] at hw
  obtain ⟨x, rfl⟩ := tW_eq hw.1
  obtain ⟨y, rfl⟩ := uB_eq hw.2
  simp only [firstI, firstK, tB_tN, B, ofInt_N]
  exact (sc_first x.1 x.2 y w).mono fun e w' h => ⟨h.1, Gr.of_grown h.2⟩
def hk_first : Hook := fun f args _ =>
  if Nat.beq f 70 then
    match args with
    | [.agg ⟨[.int .u64 a0, .int .u64 a1]⟩, .int .u64 b] => some (.tuple ⟨[.int .u64 (firstI (⟨a0, a1⟩ : TI) b), .bool (firstK (⟨a0, a1⟩ : TI) b)]⟩, [(b2i (tW (⟨a0, a1⟩ : TI) && uB b), 1)])
    | _ => none
  else none
theorem hk_first_ok : HookOk Try.prog hk_first := by
  intro f args h v cs hv hc wb k s w H
  unfold hk_first at hv
  split at hv
  · rename_i hf
    obtain rfl := Nat.eq_of_beq_eq_true hf
    split at hv
    · rename_i a0 a1 b
      cases hv
      have hw := pair1 hc rfl
      exact c_first (⟨a0, a1⟩ : TI) b hw w
    · cases hv
  · cases hv
def lastI (t : TI) (l : Int) : Int := N (lastV (tB t) (B l))
def lastK (t : TI) (l : Int) : Bool := lastOk (tB t) (B l)
theorem c_last (t : TI) (l : Int) (hw : (tW t && uB l) = true) (w : World) : Calls Try.prog 71 #[VT t, .int .u64 l] w fun e w' => e = .returned (.tuple ⟨[.int .u64 (lastI t l), .bool (lastK t l)]⟩) ∧ Gr w w' := by
  simp only [Bool.and_eq_true] at hw
  obtain ⟨x, rfl⟩ := tW_eq hw.1
  obtain ⟨y, rfl⟩ := uB_eq hw.2
  simp only [lastI, lastK, tB_tN, B, ofInt_N]
  exact (sc_last x.1 x.2 y w).mono fun e w' h => ⟨h.1, Gr.of_grown h.2⟩
def hk_last : Hook := fun f args _ =>
  if Nat.beq f 71 then
    match args with
    | [.agg ⟨[.int .u64 a0, .int .u64 a1]⟩, .int .u64 b] => some (.tuple ⟨[.int .u64 (lastI (⟨a0, a1⟩ : TI) b), .bool (lastK (⟨a0, a1⟩ : TI) b)]⟩, [(b2i (tW (⟨a0, a1⟩ : TI) && uB b), 1)])
    | _ => none
  else none
theorem hk_last_ok : HookOk Try.prog hk_last := by
  intro f args h v cs hv hc wb k s w H
  unfold hk_last at hv
  split at hv
  · rename_i hf
    obtain rfl := Nat.eq_of_beq_eq_true hf
    split at hv
    · rename_i a0 a1 b
      cases hv
      have hw := pair1 hc rfl
      exact c_last (⟨a0, a1⟩ : TI) b hw w
    · cases hv
  · cases hv
def halvesI (s : SI) : RI × RI :=
  if decide (s.slo ≥ 0) then (⟨s.lo, s.hi, true⟩, ⟨0, 0, false⟩)
  else if decide (s.shi < 0) then (⟨0, 0, false⟩, ⟨s.lo, s.hi, true⟩)
  else (⟨s.lo, IntKind.u64.wrap s.shi, true⟩, ⟨IntKind.u64.wrap s.slo, s.hi, true⟩)
def halvesOrc (b7 b17 : Bool) : Orc := fun f t _ => if Nat.beq f 63 then (if Nat.beq t 7 then some (.bool b7) else if Nat.beq t 17 then some (.bool b17) else none) else none
set_option maxHeartbeats 0 in
set_option maxRecDepth 1000000 in
theorem halves_1 (s : SI) (h : decide (s.slo ≥ 0) = true) (w : World) : Calls Try.prog 63 #[VS s] w fun e w' => e = .returned (.tuple ⟨[VR_ ⟨s.lo, s.hi, true⟩, VR_ ⟨0, 0, false⟩]⟩) ∧ Gr w w' :=
  rk hkBase_ok (halvesOrc true true) (cs := [(b2i (decide (s.slo ≥ 0)), 1)]) rfl (by kernel_rfl) (by kernel_rfl) (by rw [h]; rfl) w
set_option maxHeartbeats 0 in
set_option maxRecDepth 1000000 in
theorem halves_2 (s : SI) (h : decide (s.slo ≥ 0) = false) (h2 : decide (s.shi < 0) = true) (w : World) : Calls Try.prog 63 #[VS s] w fun e w' => e = .returned (.tuple ⟨[VR_ ⟨0, 0, false⟩, VR_ ⟨s.lo, s.hi, true⟩]⟩) ∧ Gr w w' :=
  rk hkBase_ok (halvesOrc false true) (cs := [(b2i (decide (s.slo ≥ 0)), 0), (b2i (decide (s.shi < 0)), 1)]) rfl (by kernel_rfl) (by kernel_rfl) (by rw [h, h2]; rfl) w
set_option maxHeartbeats 0 in
set_option maxRecDepth 1000000 in
theorem halves_3 (s : SI) (h : decide (s.slo ≥ 0) = false) (h2 : decide (s.shi < 0) = false) (w : World) : Calls Try.prog 63 #[VS s] w fun e w' => e = .returned (.tuple ⟨[VR_ ⟨s.lo, IntKind.u64.wrap s.shi, true⟩, VR_ ⟨IntKind.u64.wrap s.slo, s.hi, true⟩]⟩) ∧ Gr w w' :=
  rk hkBase_ok (halvesOrc false false) (cs := [(b2i (decide (s.slo ≥ 0)), 0), (b2i (decide (s.shi < 0)), 0)]) rfl (by kernel_rfl) (by kernel_rfl) (by rw [h, h2]; rfl) w
theorem c_halves (s : SI) (w : World) : Calls Try.prog 63 #[VS s] w fun e w' => e = .returned (.tuple ⟨[VR_ (halvesI s).1, VR_ (halvesI s).2]⟩) ∧ Gr w w' := by
  cases h : decide (s.slo ≥ 0) with
  | true => exact ret_eq (by simp only [halvesI, h]; rfl) (halves_1 s h w)
  | false =>
    cases h2 : decide (s.shi < 0) with
    | true => exact ret_eq (by simp only [halvesI, h, h2]; rfl) (halves_2 s h h2 w)
    | false => exact ret_eq (by simp only [halvesI, h, h2]; rfl) (halves_3 s h h2 w)
def hk_halves : Hook := fun f args _ =>
  if Nat.beq f 63 then
    match args with
    | [.agg ⟨[.int .u64 a0, .int .u64 a1, .int .i64 a2, .int .i64 a3]⟩] => some (.tuple ⟨[VR_ (halvesI (⟨a0, a1, a2, a3⟩ : SI)).1, VR_ (halvesI (⟨a0, a1, a2, a3⟩ : SI)).2]⟩, [])
    | _ => none
  else none
theorem hk_halves_ok : HookOk Try.prog hk_halves := by
  intro f args h v cs hv hc wb k s w H
  unfold hk_halves at hv
  split at hv
  · rename_i hf
    obtain rfl := Nat.eq_of_beq_eq_true hf
    split at hv
    · rename_i a0 a1 a2 a3
      cases hv
      exact c_halves (⟨a0, a1, a2, a3⟩ : SI) w
    · cases hv
  · cases hv
def hk1 : Hook := orHook hk_first (orHook hk_last (orHook hk_halves (hkBase)))
theorem hk1_ok : HookOk Try.prog hk1 := orHook_ok hk_first_ok (orHook_ok hk_last_ok (orHook_ok hk_halves_ok (hkBase_ok)))
def amongI (r : RI) (t : TI) : RI :=
  if r.ok && firstK t r.lo && lastK t r.hi && !decide (firstI t r.lo > lastI t r.hi) then ⟨firstI t r.lo, lastI t r.hi, true⟩ else ⟨0, 0, false⟩
def amongOrc (b15 b22 b37 : Bool) : Orc := fun f t _ => if Nat.beq f 64 then (if Nat.beq t 15 then some (.bool b15) else if Nat.beq t 22 then some (.bool b22) else if Nat.beq t 37 then some (.bool b37) else none) else none
set_option maxHeartbeats 0 in
set_option maxRecDepth 1000000 in
theorem among_n00 (l h : Int) (t : TI) (hw : (tW t && uB l) = true) (hw2 : (tW t && uB h) = true) (h1 : firstK t l = false) (h2 : lastK t h = false) (w : World) : Calls Try.prog 64 #[VR_ ⟨l, h, false⟩, VT t] w fun e w' => e = .returned (VR_ ⟨0, 0, false⟩) ∧ Gr w w' :=
  rk hk1_ok (amongOrc false false true) (cs := [(b2i (tW t && uB l), 1), (b2i (firstK t l), 0), (b2i (tW t && uB h), 1), (b2i (lastK t h), 0)]) rfl (by kernel_rfl) (by kernel_rfl) (by rw [hw, hw2, h1, h2]; rfl) w
set_option maxHeartbeats 0 in
set_option maxRecDepth 1000000 in
theorem among_o00 (l h : Int) (t : TI) (hw : (tW t && uB l) = true) (hw2 : (tW t && uB h) = true) (h1 : firstK t l = false) (h2 : lastK t h = false) (w : World) : Calls Try.prog 64 #[VR_ ⟨l, h, true⟩, VT t] w fun e w' => e = .returned (VR_ ⟨0, 0, false⟩) ∧ Gr w w' :=
  rk hk1_ok (amongOrc false false true) (cs := [(b2i (tW t && uB l), 1), (b2i (firstK t l), 0), (b2i (tW t && uB h), 1), (b2i (lastK t h), 0)]) rfl (by kernel_rfl) (by kernel_rfl) (by rw [hw, hw2, h1, h2]; rfl) w
set_option maxHeartbeats 0 in
set_option maxRecDepth 1000000 in
theorem among_n01 (l h : Int) (t : TI) (hw : (tW t && uB l) = true) (hw2 : (tW t && uB h) = true) (h1 : firstK t l = false) (h2 : lastK t h = true) (w : World) : Calls Try.prog 64 #[VR_ ⟨l, h, false⟩, VT t] w fun e w' => e = .returned (VR_ ⟨0, 0, false⟩) ∧ Gr w w' :=
  rk hk1_ok (amongOrc false true true) (cs := [(b2i (tW t && uB l), 1), (b2i (firstK t l), 0), (b2i (tW t && uB h), 1), (b2i (lastK t h), 1)]) rfl (by kernel_rfl) (by kernel_rfl) (by rw [hw, hw2, h1, h2]; rfl) w
set_option maxHeartbeats 0 in
set_option maxRecDepth 1000000 in
theorem among_o01 (l h : Int) (t : TI) (hw : (tW t && uB l) = true) (hw2 : (tW t && uB h) = true) (h1 : firstK t l = false) (h2 : lastK t h = true) (w : World) : Calls Try.prog 64 #[VR_ ⟨l, h, true⟩, VT t] w fun e w' => e = .returned (VR_ ⟨0, 0, false⟩) ∧ Gr w w' :=
  rk hk1_ok (amongOrc false true true) (cs := [(b2i (tW t && uB l), 1), (b2i (firstK t l), 0), (b2i (tW t && uB h), 1), (b2i (lastK t h), 1)]) rfl (by kernel_rfl) (by kernel_rfl) (by rw [hw, hw2, h1, h2]; rfl) w
set_option maxHeartbeats 0 in
set_option maxRecDepth 1000000 in
theorem among_n10 (l h : Int) (t : TI) (hw : (tW t && uB l) = true) (hw2 : (tW t && uB h) = true) (h1 : firstK t l = true) (h2 : lastK t h = false) (w : World) : Calls Try.prog 64 #[VR_ ⟨l, h, false⟩, VT t] w fun e w' => e = .returned (VR_ ⟨0, 0, false⟩) ∧ Gr w w' :=
  rk hk1_ok (amongOrc true false true) (cs := [(b2i (tW t && uB l), 1), (b2i (firstK t l), 1), (b2i (tW t && uB h), 1), (b2i (lastK t h), 0)]) rfl (by kernel_rfl) (by kernel_rfl) (by rw [hw, hw2, h1, h2]; rfl) w
set_option maxHeartbeats 0 in
set_option maxRecDepth 1000000 in
theorem among_o10 (l h : Int) (t : TI) (hw : (tW t && uB l) = true) (hw2 : (tW t && uB h) = true) (h1 : firstK t l = true) (h2 : lastK t h = false) (w : World) : Calls Try.prog 64 #[VR_ ⟨l, h, true⟩, VT t] w fun e w' => e = .returned (VR_ ⟨0, 0, false⟩) ∧ Gr w w' :=
  rk hk1_ok (amongOrc true false true) (cs := [(b2i (tW t && uB l), 1), (b2i (firstK t l), 1), (b2i (tW t && uB h), 1), (b2i (lastK t h), 0)]) rfl (by kernel_rfl) (by kernel_rfl) (by rw [hw, hw2, h1, h2]; rfl) w
set_option maxHeartbeats 0 in
set_option maxRecDepth 1000000 in
theorem among_n11 (l h : Int) (t : TI) (hw : (tW t && uB l) = true) (hw2 : (tW t && uB h) = true) (h1 : firstK t l = true) (h2 : lastK t h = true) (w : World) : Calls Try.prog 64 #[VR_ ⟨l, h, false⟩, VT t] w fun e w' => e = .returned (VR_ ⟨0, 0, false⟩) ∧ Gr w w' :=
  rk hk1_ok (amongOrc true true true) (cs := [(b2i (tW t && uB l), 1), (b2i (firstK t l), 1), (b2i (tW t && uB h), 1), (b2i (lastK t h), 1)]) rfl (by kernel_rfl) (by kernel_rfl) (by rw [hw, hw2, h1, h2]; rfl) w
set_option maxHeartbeats 0 in
set_option maxRecDepth 1000000 in
theorem among_o11t (l h : Int) (t : TI) (hw : (tW t && uB l) = true) (hw2 : (tW t && uB h) = true) (h1 : firstK t l = true) (h2 : lastK t h = true) (h3 : decide (firstI t l > lastI t h) = true) (w : World) : Calls Try.prog 64 #[VR_ ⟨l, h, true⟩, VT t] w fun e w' => e = .returned (VR_ ⟨0, 0, false⟩) ∧ Gr w w' :=
  rk hk1_ok (amongOrc true true true) (cs := [(b2i (tW t && uB l), 1), (b2i (firstK t l), 1), (b2i (tW t && uB h), 1), (b2i (lastK t h), 1), (b2i (decide (firstI t l > lastI t h)), 1)]) rfl (by kernel_rfl) (by kernel_rfl) (by rw [hw, hw2, h1, h2, h3]; rfl) w
set_option maxHeartbeats 0 in
set_option maxRecDepth 1000000 in
theorem among_o11f (l h : Int) (t : TI) (hw : (tW t && uB l) = true) (hw2 : (tW t && uB h) = true) (h1 : firstK t l = true) (h2 : lastK t h = true) (h3 : decide (firstI t l > lastI t h) = false) (w : World) : Calls Try.prog 64 #[VR_ ⟨l, h, true⟩, VT t] w fun e w' => e = .returned (VR_ ⟨firstI t l, lastI t h, true⟩) ∧ Gr w w' :=
  rk hk1_ok (amongOrc true true false) (cs := [(b2i (tW t && uB l), 1), (b2i (firstK t l), 1), (b2i (tW t && uB h), 1), (b2i (lastK t h), 1), (b2i (decide (firstI t l > lastI t h)), 0)]) rfl (by kernel_rfl) (by kernel_rfl) (by rw [hw, hw2, h1, h2, h3]; rfl) w
theorem c_among (r : RI) (t : TI) (hw : (tW t && uB r.lo && uB r.hi) = true) (w : World) : Calls Try.prog 64 #[VR_ r, VT t] w fun e w' => e = .returned (VR_ (amongI r t)) ∧ Gr w w' := by
  obtain ⟨l, h, ok⟩ := r
  simp only [Bool.and_eq_true] at hw
  have w1 : (tW t && uB l) = true := by rw [hw.1.1, hw.1.2]; rfl
  have w2 : (tW t && uB h) = true := by rw [hw.1.1, hw.2]; rfl
  cases h1 : firstK t l <;> cases h2 : lastK t h <;> cases ok
  · exact ret_eq (by simp only [amongI, h1, h2]; rfl) (among_n00 l h t w1 w2 h1 h2 w)
  · exact ret_eq (by simp only [amongI, h1, h2]; rfl) (among_o00 l h t w1 w2 h1 h2 w)
  · exact ret_eq (by simp only [amongI, h1, h2]; rfl) (among_n01 l h t w1 w2 h1 h2 w)
  · exact ret_eq (by simp only [amongI, h1, h2]; rfl) (among_o01 l h t w1 w2 h1 h2 w)
  · exact ret_eq (by simp only [amongI, h1, h2]; rfl) (among_n10 l h t w1 w2 h1 h2 w)
  · exact ret_eq (by simp only [amongI, h1, h2]; rfl) (among_o10 l h t w1 w2 h1 h2 w)
  · exact ret_eq (by simp only [amongI, h1, h2]; rfl) (among_n11 l h t w1 w2 h1 h2 w)
  · cases h3 : decide (firstI t l > lastI t h) with
    | true => exact ret_eq (by simp only [amongI, h1, h2, h3]; rfl) (among_o11t l h t w1 w2 h1 h2 h3 w)
    | false => exact ret_eq (by simp only [amongI, h1, h2, h3]; rfl) (among_o11f l h t w1 w2 h1 h2 h3 w)
def hk_among : Hook := fun f args _ =>
  if Nat.beq f 64 then
    match args with
    | [.agg ⟨[.int .u64 a0, .int .u64 a1, .bool a2]⟩, .agg ⟨[.int .u64 b0, .int .u64 b1]⟩] => some (VR_ (amongI (⟨a0, a1, a2⟩ : RI) (⟨b0, b1⟩ : TI)), [(b2i (tW (⟨b0, b1⟩ : TI) && uB (⟨a0, a1, a2⟩ : RI).lo && uB (⟨a0, a1, a2⟩ : RI).hi), 1)])
    | _ => none
  else none
theorem hk_among_ok : HookOk Try.prog hk_among := by
  intro f args h v cs hv hc wb k s w H
  unfold hk_among at hv
  split at hv
  · rename_i hf
    obtain rfl := Nat.eq_of_beq_eq_true hf
    split at hv
    · rename_i a0 a1 a2 b0 b1
      cases hv
      have hw := pair1 hc rfl
      exact c_among (⟨a0, a1, a2⟩ : RI) (⟨b0, b1⟩ : TI) hw w
    · cases hv
  · cases hv
def knownI (p m : RI) : TI := if m.ok then (if p.ok then tEitherI (tRangeI p.lo p.hi) (tRangeI m.lo m.hi) else tRangeI m.lo m.hi) else tRangeI p.lo p.hi
def rW (r : RI) : Bool := uB r.lo && uB r.hi
theorem tRange_tW (a b : Int) : tW (tRangeI a b) = true := tW_tN _
set_option maxHeartbeats 0 in
set_option maxRecDepth 1000000 in
theorem known_ff (a b c d : Int) (h1 : (uB a && uB b) = true) (h2 : (uB c && uB d) = true) (w : World) : Calls Try.prog 66 #[VR_ ⟨a, b, false⟩, VR_ ⟨c, d, false⟩] w fun e w' => e = .returned (VT (tRangeI a b)) ∧ Gr w w' :=
  rk hk1_ok noOrc (cs := [(b2i (uB a && uB b), 1), (b2i (uB c && uB d), 1)]) rfl (by kernel_rfl) (by kernel_rfl) (by rw [h1, h2]; rfl) w
set_option maxHeartbeats 0 in
set_option maxRecDepth 1000000 in
theorem known_ft (a b c d : Int) (h1 : (uB a && uB b) = true) (h2 : (uB c && uB d) = true) (w : World) : Calls Try.prog 66 #[VR_ ⟨a, b, false⟩, VR_ ⟨c, d, true⟩] w fun e w' => e = .returned (VT (tRangeI c d)) ∧ Gr w w' :=
  rk hk1_ok noOrc (cs := [(b2i (uB a && uB b), 1), (b2i (uB c && uB d), 1)]) rfl (by kernel_rfl) (by kernel_rfl) (by rw [h1, h2]; rfl) w
set_option maxHeartbeats 0 in
set_option maxRecDepth 1000000 in
theorem known_tf (a b c d : Int) (h1 : (uB a && uB b) = true) (h2 : (uB c && uB d) = true) (w : World) : Calls Try.prog 66 #[VR_ ⟨a, b, true⟩, VR_ ⟨c, d, false⟩] w fun e w' => e = .returned (VT (tRangeI a b)) ∧ Gr w w' :=
  rk hk1_ok noOrc (cs := [(b2i (uB a && uB b), 1), (b2i (uB c && uB d), 1)]) rfl (by kernel_rfl) (by kernel_rfl) (by rw [h1, h2]; rfl) w
set_option maxHeartbeats 0 in
set_option maxRecDepth 1000000 in
theorem known_tt (a b c d : Int) (h1 : (uB a && uB b) = true) (h2 : (uB c && uB d) = true) (w : World) : Calls Try.prog 66 #[VR_ ⟨a, b, true⟩, VR_ ⟨c, d, true⟩] w fun e w' => e = .returned (VT (tEitherI (tRangeI a b) (tRangeI c d))) ∧ Gr w w' :=
  rk hk1_ok noOrc (cs := [(b2i (uB a && uB b), 1), (b2i (uB c && uB d), 1), (b2i (tW (tRangeI a b) && tW (tRangeI c d)), 1)]) rfl (by kernel_rfl) (by kernel_rfl) (by simp only [h1, h2, tRange_tW, Bool.and_self]; rfl) w
theorem c_known (p m : RI) (hw : (rW p && rW m) = true) (w : World) : Calls Try.prog 66 #[VR_ p, VR_ m] w fun e w' => e = .returned (VT (knownI p m)) ∧ Gr w w' := by
  obtain ⟨a, b, p⟩ := p
  obtain ⟨c, d, m⟩ := m
  simp only [Bool.and_eq_true] at hw
  have w1 : (uB a && uB b) = true := hw.1
  have w2 : (uB c && uB d) = true := hw.2
  cases p <;> cases m
  · exact known_ff a b c d w1 w2 w
  · exact known_ft a b c d w1 w2 w
  · exact known_tf a b c d w1 w2 w
  · exact known_tt a b c d w1 w2 w
def hk_known : Hook := fun f args _ =>
  if Nat.beq f 66 then
    match args with
    | [.agg ⟨[.int .u64 a0, .int .u64 a1, .bool a2]⟩, .agg ⟨[.int .u64 b0, .int .u64 b1, .bool b2]⟩] => some (VT (knownI (⟨a0, a1, a2⟩ : RI) (⟨b0, b1, b2⟩ : RI)), [(b2i (rW (⟨a0, a1, a2⟩ : RI) && rW (⟨b0, b1, b2⟩ : RI)), 1)])
    | _ => none
  else none
theorem hk_known_ok : HookOk Try.prog hk_known := by
  intro f args h v cs hv hc wb k s w H
  unfold hk_known at hv
  split at hv
  · rename_i hf
    obtain rfl := Nat.eq_of_beq_eq_true hf
    split at hv
    · rename_i a0 a1 a2 b0 b1 b2
      cases hv
      have hw := pair1 hc rfl
      exact c_known (⟨a0, a1, a2⟩ : RI) (⟨b0, b1, b2⟩ : RI) hw w
    · cases hv
  · cases hv
def hullI (p m : RI) : SI :=
  if m.ok then (if p.ok then ⟨p.lo, m.hi, IntKind.i64.wrap m.lo, IntKind.i64.wrap p.hi⟩ else ⟨m.lo, m.hi, IntKind.i64.wrap m.lo, IntKind.i64.wrap m.hi⟩)
  else ⟨p.lo, p.hi, IntKind.i64.wrap p.lo, IntKind.i64.wrap p.hi⟩
set_option maxHeartbeats 0 in
set_option maxRecDepth 1000000 in
theorem c_hull (p m : RI) (w : World) : Calls Try.prog 67 #[VR_ p, VR_ m] w fun e w' => e = .returned (VS (hullI p m)) ∧ Gr w w' := by
  obtain ⟨a, b, p⟩ := p
  obtain ⟨c, d, m⟩ := m
  cases p <;> cases m
  all_goals exact rk hkBase_ok noOrc (cs := []) rfl (by kernel_rfl) (by kernel_rfl) rfl w
def hk_hull : Hook := fun f args _ =>
  if Nat.beq f 67 then
    match args with
    | [.agg ⟨[.int .u64 a0, .int .u64 a1, .bool a2]⟩, .agg ⟨[.int .u64 b0, .int .u64 b1, .bool b2]⟩] => some (VS (hullI (⟨a0, a1, a2⟩ : RI) (⟨b0, b1, b2⟩ : RI)), [])
    | _ => none
  else none
theorem hk_hull_ok : HookOk Try.prog hk_hull := by
  intro f args h v cs hv hc wb k s w H
  unfold hk_hull at hv
  split at hv
  · rename_i hf
    obtain rfl := Nat.eq_of_beq_eq_true hf
    split at hv
    · rename_i a0 a1 a2 b0 b1 b2
      cases hv
      exact c_hull (⟨a0, a1, a2⟩ : RI) (⟨b0, b1, b2⟩ : RI) w
    · cases hv
  · cases hv
def hk2 : Hook := orHook hk_first (orHook hk_last (orHook hk_halves (orHook hk_among (orHook hk_known (orHook hk_hull (hkBase))))))
theorem hk2_ok : HookOk Try.prog hk2 := orHook_ok hk_first_ok (orHook_ok hk_last_ok (orHook_ok hk_halves_ok (orHook_ok hk_among_ok (orHook_ok hk_known_ok (orHook_ok hk_hull_ok (hkBase_ok))))))
end Go.Proofs.Ytebolmfdglmpoaa.Ex.S17
end
section
namespace Go.Proofs.Ytebolmfdglmpoaa.Ex.S17
set_option maxRecDepth 20000

open Go Go.RowKit
open Go.Proofs.Ytebolmfdglmpoaa.Sc (firstV firstOk lastV lastOk)

theorem u64_uB (x : Int) : uB (IntKind.u64.wrap x) = true := by rw [u64_wrap]; exact uB_N _
theorem rW_halves {s : SI} (h : sW s = true) : rW (halvesI s).1 = true ∧ rW (halvesI s).2 = true := by
  unfold sW at h
  simp only [Bool.and_eq_true] at h
  unfold halvesI rW
  have z : uB 0 = true := rfl
  split
  · simp only [h.1.1.1, h.1.1.2, z, Bool.and_self, and_self]
  · split
    · simp only [h.1.1.1, h.1.1.2, z, Bool.and_self, and_self]
    · simp only [h.1.1.1, h.1.1.2, u64_uB, Bool.and_self, and_self]
theorem rW_among (r : RI) (t : TI) : rW (amongI r t) = true := by
  unfold amongI rW
  split
  · simp only [firstI, lastI, uB_N, Bool.and_self]
  · rfl
theorem tW_known (p m : RI) : tW (knownI p m) = true := by
  unfold knownI
  split
  · split
    · exact tW_tN _
    · exact tW_tN _
  · exact tW_tN _
def nilN : NI := ⟨⟨0, 0⟩, ⟨0, 0, 0, 0⟩⟩
def tP (a : NI) : RI := amongI (halvesI (sTightI a.s)).1 a.t
def tM (a : NI) : RI := amongI (halvesI (sTightI a.s)).2 a.t
def tightK (a : NI) : Bool := sTightKI a.s && ((tP a).ok || (tM a).ok) && tBothKI a.t (knownI (tP a) (tM a))
def tightI (a : NI) : NI := if tightK a then ⟨tBothI a.t (knownI (tP a) (tM a)), hullI (tP a) (tM a)⟩ else nilN
def tightOrc (b14 b32 b36 b49 : Bool) : Orc := fun f t _ => if Nat.beq f 56 then (if Nat.beq t 14 then some (.bool b14) else if Nat.beq t 32 then some (.bool b32) else if Nat.beq t 36 then some (.bool b36) else if Nat.beq t 49 then some (.bool b49) else none) else none
set_option maxHeartbeats 0 in
set_option maxRecDepth 1000000 in
theorem tight_a_r (a : NI) (he : ([(b2i (sW a.s), 1), (b2i (sTightKI a.s), 0)] : Cs).map (·.1) = ([(b2i (sW a.s), 1), (b2i (sTightKI a.s), 0)] : Cs).map (·.2)) (w : World) : Calls Try.prog 56 #[VN a] w fun e w' => e = .returned (.tuple ⟨[VN nilN, .bool false]⟩) ∧ Gr w w' :=
  rk hk2_ok (tightOrc false true true true) (cs := ([(b2i (sW a.s), 1), (b2i (sTightKI a.s), 0)] : Cs)) rfl (by kernel_rfl) (by kernel_rfl) he w
theorem tight_a (a : NI) (h0 : sW a.s = true) (_h1 : (tW a.t && uB (halvesI (sTightI a.s)).1.lo && uB (halvesI (sTightI a.s)).1.hi) = true) (_h2 : (tW a.t && uB (halvesI (sTightI a.s)).2.lo && uB (halvesI (sTightI a.s)).2.hi) = true) (_h3 : (rW (tP a) && rW (tM a)) = true) (_h4 : (tW a.t && tW (knownI (tP a) (tM a))) = true) (k : sTightKI a.s = false) (w : World) : Calls Try.prog 56 #[VN a] w fun e w' => e = .returned (.tuple ⟨[VN nilN, .bool false]⟩) ∧ Gr w w' :=
  tight_a_r a (by rw [h0, k]; rfl) w
set_option maxHeartbeats 0 in
set_option maxRecDepth 1000000 in
theorem tight_b_r (a : NI) (he : ([(b2i (sW a.s), 1), (b2i (sTightKI a.s), 1), (b2i (tW a.t && uB (halvesI (sTightI a.s)).1.lo && uB (halvesI (sTightI a.s)).1.hi), 1), (b2i (tW a.t && uB (halvesI (sTightI a.s)).2.lo && uB (halvesI (sTightI a.s)).2.hi), 1), (b2i (tP a).ok, 0), (b2i (tM a).ok, 0)] : Cs).map (·.1) = ([(b2i (sW a.s), 1), (b2i (sTightKI a.s), 1), (b2i (tW a.t && uB (halvesI (sTightI a.s)).1.lo && uB (halvesI (sTightI a.s)).1.hi), 1), (b2i (tW a.t && uB (halvesI (sTightI a.s)).2.lo && uB (halvesI (sTightI a.s)).2.hi), 1), (b2i (tP a).ok, 0), (b2i (tM a).ok, 0)] : Cs).map (·.2)) (w : World) : Calls Try.prog 56 #[VN a] w fun e w' => e = .returned (.tuple ⟨[VN nilN, .bool false]⟩) ∧ Gr w w' :=
  rk hk2_ok (tightOrc true false false true) (cs := ([(b2i (sW a.s), 1), (b2i (sTightKI a.s), 1), (b2i (tW a.t && uB (halvesI (sTightI a.s)).1.lo && uB (halvesI (sTightI a.s)).1.hi), 1), (b2i (tW a.t && uB (halvesI (sTightI a.s)).2.lo && uB (halvesI (sTightI a.s)).2.hi), 1), (b2i (tP a).ok, 0), (b2i (tM a).ok, 0)] : Cs)) rfl (by kernel_rfl) (by kernel_rfl) he w
theorem tight_b (a : NI) (h0 : sW a.s = true) (h1 : (tW a.t && uB (halvesI (sTightI a.s)).1.lo && uB (halvesI (sTightI a.s)).1.hi) = true) (h2 : (tW a.t && uB (halvesI (sTightI a.s)).2.lo && uB (halvesI (sTightI a.s)).2.hi) = true) (_h3 : (rW (tP a) && rW (tM a)) = true) (_h4 : (tW a.t && tW (knownI (tP a) (tM a))) = true) (k : sTightKI a.s = true) (p : (tP a).ok = false) (m : (tM a).ok = false) (w : World) : Calls Try.prog 56 #[VN a] w fun e w' => e = .returned (.tuple ⟨[VN nilN, .bool false]⟩) ∧ Gr w w' :=
  tight_b_r a (by rw [h0, k, h1, h2, p, m]; rfl) w
set_option maxHeartbeats 0 in
set_option maxRecDepth 1000000 in
theorem tight_c0_r (a : NI) (he : ([(b2i (sW a.s), 1), (b2i (sTightKI a.s), 1), (b2i (tW a.t && uB (halvesI (sTightI a.s)).1.lo && uB (halvesI (sTightI a.s)).1.hi), 1), (b2i (tW a.t && uB (halvesI (sTightI a.s)).2.lo && uB (halvesI (sTightI a.s)).2.hi), 1), (b2i (tP a).ok, 1), (b2i (rW (tP a) && rW (tM a)), 1), (b2i (tW a.t && tW (knownI (tP a) (tM a))), 1), (b2i (tBothKI a.t (knownI (tP a) (tM a))), 0)] : Cs).map (·.1) = ([(b2i (sW a.s), 1), (b2i (sTightKI a.s), 1), (b2i (tW a.t && uB (halvesI (sTightI a.s)).1.lo && uB (halvesI (sTightI a.s)).1.hi), 1), (b2i (tW a.t && uB (halvesI (sTightI a.s)).2.lo && uB (halvesI (sTightI a.s)).2.hi), 1), (b2i (tP a).ok, 1), (b2i (rW (tP a) && rW (tM a)), 1), (b2i (tW a.t && tW (knownI (tP a) (tM a))), 1), (b2i (tBothKI a.t (knownI (tP a) (tM a))), 0)] : Cs).map (·.2)) (w : World) : Calls Try.prog 56 #[VN a] w fun e w' => e = .returned (.tuple ⟨[VN nilN, .bool false]⟩) ∧ Gr w w' :=
  rk hk2_ok (tightOrc true true true false) (cs := ([(b2i (sW a.s), 1), (b2i (sTightKI a.s), 1), (b2i (tW a.t && uB (halvesI (sTightI a.s)).1.lo && uB (halvesI (sTightI a.s)).1.hi), 1), (b2i (tW a.t && uB (halvesI (sTightI a.s)).2.lo && uB (halvesI (sTightI a.s)).2.hi), 1), (b2i (tP a).ok, 1), (b2i (rW (tP a) && rW (tM a)), 1), (b2i (tW a.t && tW (knownI (tP a) (tM a))), 1), (b2i (tBothKI a.t (knownI (tP a) (tM a))), 0)] : Cs)) rfl (by kernel_rfl) (by kernel_rfl) he w
theorem tight_c0 (a : NI) (h0 : sW a.s = true) (h1 : (tW a.t && uB (halvesI (sTightI a.s)).1.lo && uB (halvesI (sTightI a.s)).1.hi) = true) (h2 : (tW a.t && uB (halvesI (sTightI a.s)).2.lo && uB (halvesI (sTightI a.s)).2.hi) = true) (h3 : (rW (tP a) && rW (tM a)) = true) (h4 : (tW a.t && tW (knownI (tP a) (tM a))) = true) (k : sTightKI a.s = true) (p : (tP a).ok = true) (z : tBothKI a.t (knownI (tP a) (tM a)) = false) (w : World) : Calls Try.prog 56 #[VN a] w fun e w' => e = .returned (.tuple ⟨[VN nilN, .bool false]⟩) ∧ Gr w w' :=
  tight_c0_r a (by rw [h0, k, h1, h2, p, h3, h4, z]; rfl) w
set_option maxHeartbeats 0 in
set_option maxRecDepth 1000000 in
theorem tight_d0_r (a : NI) (he : ([(b2i (sW a.s), 1), (b2i (sTightKI a.s), 1), (b2i (tW a.t && uB (halvesI (sTightI a.s)).1.lo && uB (halvesI (sTightI a.s)).1.hi), 1), (b2i (tW a.t && uB (halvesI (sTightI a.s)).2.lo && uB (halvesI (sTightI a.s)).2.hi), 1), (b2i (tP a).ok, 0), (b2i (tM a).ok, 1), (b2i (rW (tP a) && rW (tM a)), 1), (b2i (tW a.t && tW (knownI (tP a) (tM a))), 1), (b2i (tBothKI a.t (knownI (tP a) (tM a))), 0)] : Cs).map (·.1) = ([(b2i (sW a.s), 1), (b2i (sTightKI a.s), 1), (b2i (tW a.t && uB (halvesI (sTightI a.s)).1.lo && uB (halvesI (sTightI a.s)).1.hi), 1), (b2i (tW a.t && uB (halvesI (sTightI a.s)).2.lo && uB (halvesI (sTightI a.s)).2.hi), 1), (b2i (tP a).ok, 0), (b2i (tM a).ok, 1), (b2i (rW (tP a) && rW (tM a)), 1), (b2i (tW a.t && tW (knownI (tP a) (tM a))), 1), (b2i (tBothKI a.t (knownI (tP a) (tM a))), 0)] : Cs).map (·.2)) (w : World) : Calls Try.prog 56 #[VN a] w fun e w' => e = .returned (.tuple ⟨[VN nilN, .bool false]⟩) ∧ Gr w w' :=
  rk hk2_ok (tightOrc true false true false) (cs := ([(b2i (sW a.s), 1), (b2i (sTightKI a.s), 1), (b2i (tW a.t && uB (halvesI (sTightI a.s)).1.lo && uB (halvesI (sTightI a.s)).1.hi), 1), (b2i (tW a.t && uB (halvesI (sTightI a.s)).2.lo && uB (halvesI (sTightI a.s)).2.hi), 1), (b2i (tP a).ok, 0), (b2i (tM a).ok, 1), (b2i (rW (tP a) && rW (tM a)), 1), (b2i (tW a.t && tW (knownI (tP a) (tM a))), 1), (b2i (tBothKI a.t (knownI (tP a) (tM a))), 0)] : Cs)) rfl (by kernel_rfl) (by kernel_rfl) he w
theorem tight_d0 (a : NI) (h0 : sW a.s = true) (h1 : (tW a.t && uB (halvesI (sTightI a.s)).1.lo && uB (halvesI (sTightI a.s)).1.hi) = true) (h2 : (tW a.t && uB (halvesI (sTightI a.s)).2.lo && uB (halvesI (sTightI a.s)).2.hi) = true) (h3 : (rW (tP a) && rW (tM a)) = true) (h4 : (tW a.t && tW (knownI (tP a) (tM a))) = true) (k : sTightKI a.s = true) (p : (tP a).ok = false) (m : (tM a).ok = true) (z : tBothKI a.t (knownI (tP a) (tM a)) = false) (w : World) : Calls Try.prog 56 #[VN a] w fun e w' => e = .returned (.tuple ⟨[VN nilN, .bool false]⟩) ∧ Gr w w' :=
  tight_d0_r a (by rw [h0, k, h1, h2, p, m, h3, h4, z]; rfl) w
set_option maxHeartbeats 0 in
set_option maxRecDepth 1000000 in
theorem tight_c1_r (a : NI) (he : ([(b2i (sW a.s), 1), (b2i (sTightKI a.s), 1), (b2i (tW a.t && uB (halvesI (sTightI a.s)).1.lo && uB (halvesI (sTightI a.s)).1.hi), 1), (b2i (tW a.t && uB (halvesI (sTightI a.s)).2.lo && uB (halvesI (sTightI a.s)).2.hi), 1), (b2i (tP a).ok, 1), (b2i (rW (tP a) && rW (tM a)), 1), (b2i (tW a.t && tW (knownI (tP a) (tM a))), 1), (b2i (tBothKI a.t (knownI (tP a) (tM a))), 1)] : Cs).map (·.1) = ([(b2i (sW a.s), 1), (b2i (sTightKI a.s), 1), (b2i (tW a.t && uB (halvesI (sTightI a.s)).1.lo && uB (halvesI (sTightI a.s)).1.hi), 1), (b2i (tW a.t && uB (halvesI (sTightI a.s)).2.lo && uB (halvesI (sTightI a.s)).2.hi), 1), (b2i (tP a).ok, 1), (b2i (rW (tP a) && rW (tM a)), 1), (b2i (tW a.t && tW (knownI (tP a) (tM a))), 1), (b2i (tBothKI a.t (knownI (tP a) (tM a))), 1)] : Cs).map (·.2)) (w : World) : Calls Try.prog 56 #[VN a] w fun e w' => e = .returned (.tuple ⟨[VN ⟨tBothI a.t (knownI (tP a) (tM a)), hullI (tP a) (tM a)⟩, .bool true]⟩) ∧ Gr w w' :=
  rk hk2_ok (tightOrc true true true true) (cs := ([(b2i (sW a.s), 1), (b2i (sTightKI a.s), 1), (b2i (tW a.t && uB (halvesI (sTightI a.s)).1.lo && uB (halvesI (sTightI a.s)).1.hi), 1), (b2i (tW a.t && uB (halvesI (sTightI a.s)).2.lo && uB (halvesI (sTightI a.s)).2.hi), 1), (b2i (tP a).ok, 1), (b2i (rW (tP a) && rW (tM a)), 1), (b2i (tW a.t && tW (knownI (tP a) (tM a))), 1), (b2i (tBothKI a.t (knownI (tP a) (tM a))), 1)] : Cs)) rfl (by kernel_rfl) (by kernel_rfl) he w
theorem tight_c1 (a : NI) (h0 : sW a.s = true) (h1 : (tW a.t && uB (halvesI (sTightI a.s)).1.lo && uB (halvesI (sTightI a.s)).1.hi) = true) (h2 : (tW a.t && uB (halvesI (sTightI a.s)).2.lo && uB (halvesI (sTightI a.s)).2.hi) = true) (h3 : (rW (tP a) && rW (tM a)) = true) (h4 : (tW a.t && tW (knownI (tP a) (tM a))) = true) (k : sTightKI a.s = true) (p : (tP a).ok = true) (z : tBothKI a.t (knownI (tP a) (tM a)) = true) (w : World) : Calls Try.prog 56 #[VN a] w fun e w' => e = .returned (.tuple ⟨[VN ⟨tBothI a.t (knownI (tP a) (tM a)), hullI (tP a) (tM a)⟩, .bool true]⟩) ∧ Gr w w' :=
  tight_c1_r a (by rw [h0, k, h1, h2, p, h3, h4, z]; rfl) w
set_option maxHeartbeats 0 in
set_option maxRecDepth 1000000 in
theorem tight_d1_r (a : NI) (he : ([(b2i (sW a.s), 1), (b2i (sTightKI a.s), 1), (b2i (tW a.t && uB (halvesI (sTightI a.s)).1.lo && uB (halvesI (sTightI a.s)).1.hi), 1), (b2i (tW a.t && uB (halvesI (sTightI a.s)).2.lo && uB (halvesI (sTightI a.s)).2.hi), 1), (b2i (tP a).ok, 0), (b2i (tM a).ok, 1), (b2i (rW (tP a) && rW (tM a)), 1), (b2i (tW a.t && tW (knownI (tP a) (tM a))), 1), (b2i (tBothKI a.t (knownI (tP a) (tM a))), 1)] : Cs).map (·.1) = ([(b2i (sW a.s), 1), (b2i (sTightKI a.s), 1), (b2i (tW a.t && uB (halvesI (sTightI a.s)).1.lo && uB (halvesI (sTightI a.s)).1.hi), 1), (b2i (tW a.t && uB (halvesI (sTightI a.s)).2.lo && uB (halvesI (sTightI a.s)).2.hi), 1), (b2i (tP a).ok, 0), (b2i (tM a).ok, 1), (b2i (rW (tP a) && rW (tM a)), 1), (b2i (tW a.t && tW (knownI (tP a) (tM a))), 1), (b2i (tBothKI a.t (knownI (tP a) (tM a))), 1)] : Cs).map (·.2)) (w : World) : Calls Try.prog 56 #[VN a] w fun e w' => e = .returned (.tuple ⟨[VN ⟨tBothI a.t (knownI (tP a) (tM a)), hullI (tP a) (tM a)⟩, .bool true]⟩) ∧ Gr w w' :=
  rk hk2_ok (tightOrc true false true true) (cs := ([(b2i (sW a.s), 1), (b2i (sTightKI a.s), 1), (b2i (tW a.t && uB (halvesI (sTightI a.s)).1.lo && uB (halvesI (sTightI a.s)).1.hi), 1), (b2i (tW a.t && uB (halvesI (sTightI a.s)).2.lo && uB (halvesI (sTightI a.s)).2.hi), 1), (b2i (tP a).ok, 0), (b2i (tM a).ok, 1), (b2i (rW (tP a) && rW (tM a)), 1), (b2i (tW a.t && tW (knownI (tP a) (tM a))), 1), (b2i (tBothKI a.t (knownI (tP a) (tM a))), 1)] : Cs)) rfl (by kernel_rfl) (by kernel_rfl) he w
theorem tight_d1 (a : NI) (h0 : sW a.s = true) (h1 : (tW a.t && uB (halvesI (sTightI a.s)).1.lo && uB (halvesI (sTightI a.s)).1.hi) = true) (h2 : (tW a.t && uB (halvesI (sTightI a.s)).2.lo && uB (halvesI (sTightI a.s)).2.hi) = true) (h3 : (rW (tP a) && rW (tM a)) = true) (h4 : (tW a.t && tW (knownI (tP a) (tM a))) = true) (k : sTightKI a.s = true) (p : (tP a).ok = false) (m : (tM a).ok = true) (z : tBothKI a.t (knownI (tP a) (tM a)) = true) (w : World) : Calls Try.prog 56 #[VN a] w fun e w' => e = .returned (.tuple ⟨[VN ⟨tBothI a.t (knownI (tP a) (tM a)), hullI (tP a) (tM a)⟩, .bool true]⟩) ∧ Gr w w' :=
  tight_d1_r a (by rw [h0, k, h1, h2, p, m, h3, h4, z]; rfl) w
theorem c_tight (a : NI) (hw : nW a = true) (w : World) : Calls Try.prog 56 #[VN a] w fun e w' => e = .returned (.tuple ⟨[VN (tightI a), .bool (tightK a)]⟩) ∧ Gr w w' := by
  unfold nW at hw
  simp only [Bool.and_eq_true] at hw
  have hs : sW (sTightI a.s) = true := sW_sN _
  obtain ⟨r1, r2⟩ := rW_halves hs
  have r1' := r1
  have r2' := r2
  unfold rW at r1 r2
  simp only [Bool.and_eq_true] at r1 r2
  have h1 : (tW a.t && uB (halvesI (sTightI a.s)).1.lo && uB (halvesI (sTightI a.s)).1.hi) = true := by rw [hw.1, r1.1, r1.2]; rfl
  have h2 : (tW a.t && uB (halvesI (sTightI a.s)).2.lo && uB (halvesI (sTightI a.s)).2.hi) = true := by rw [hw.1, r2.1, r2.2]; rfl
  have h3 : (rW (tP a) && rW (tM a)) = true := by unfold tP tM; rw [rW_among, rW_among]; rfl
  have h4 : (tW a.t && tW (knownI (tP a) (tM a))) = true := by rw [hw.1, tW_known]; rfl
  cases k : sTightKI a.s with
  | false => exact ret_eq (by simp only [tightI, tightK, k]; rfl) (tight_a a hw.2 h1 h2 h3 h4 k w)
  | true =>
    cases p : (tP a).ok with
    | true =>
      cases z : tBothKI a.t (knownI (tP a) (tM a)) with
      | true => exact ret_eq (by simp only [tightI, tightK, k, p, z]; rfl) (tight_c1 a hw.2 h1 h2 h3 h4 k p z w)
      | false => exact ret_eq (by simp only [tightI, tightK, k, p, z]; rfl) (tight_c0 a hw.2 h1 h2 h3 h4 k p z w)
    | false =>
      cases m : (tM a).ok with
      | false => exact ret_eq (by simp only [tightI, tightK, k, p, m]; rfl) (tight_b a hw.2 h1 h2 h3 h4 k p m w)
      | true =>
        cases z : tBothKI a.t (knownI (tP a) (tM a)) with
        | true => exact ret_eq (by simp only [tightI, tightK, k, p, m, z]; rfl) (tight_d1 a hw.2 h1 h2 h3 h4 k p m z w)
        | false => exact ret_eq (by simp only [tightI, tightK, k, p, m, z]; rfl) (tight_d0 a hw.2 h1 h2 h3 h4 k p m z w)
def hk_tight : Hook := fun f args _ =>
  if Nat.beq f 56 then
    match args with
    | [.agg ⟨[.int .u64 a0, .int .u64 a1, .int .u64 a2, .int .u64 a3, .int .i64 a4, .int .i64 a5]⟩] => some (.tuple ⟨[VN (tightI (⟨⟨a0, a1⟩, ⟨a2, a3, a4, a5⟩⟩ : NI)), .bool (tightK (⟨⟨a0, a1⟩, ⟨a2, a3, a4, a5⟩⟩ : NI))]⟩, [(b2i (nW (⟨⟨a0, a1⟩, ⟨a2, a3, a4, a5⟩⟩ : NI)), 1)])
    | _ => none
  else none
theorem hk_tight_ok : HookOk Try.prog hk_tight := by
  intro f args h v cs hv hc wb k s w H
  unfold hk_tight at hv
  split at hv
  · rename_i hf
    obtain rfl := Nat.eq_of_beq_eq_true hf
    split at hv
    · rename_i a0 a1 a2 a3 a4 a5
      cases hv
      have hw := pair1 hc rfl
      exact c_tight (⟨⟨a0, a1⟩, ⟨a2, a3, a4, a5⟩⟩ : NI) hw w
    · cases hv
  · cases hv
end Go.Proofs.Ytebolmfdglmpoaa.Ex.S17
end
