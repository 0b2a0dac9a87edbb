/-
  Lemmas for the laws of this seat, part J: Sc4.
-/
import Derived.Test.YtchjneodjaakdaaGreatPackI
section
namespace Go.Proofs.YtchjneodjaakdaaGreat.Ex
open Go Go.RowKit
open Go.Proofs.YtchjneodjaakdaaGreat.Sc (firstV firstOk lastV lastOk)
def oAt (F : Nat) (l : List (Nat × Bool)) : Orc := fun f t _ => if Nat.beq f F then (match l.find? (fun p => Nat.beq p.1 t) with | some p => some (.bool p.2) | none => none) else none
theorem csT {e : Bool} {l : Cs} (h : e = true) (r : l.map (·.1) = l.map (·.2)) : (((b2i e, 1) :: l : Cs)).map (·.1) = (((b2i e, 1) :: l : Cs)).map (·.2) := by
  subst h; exact congrArg (List.cons _) r
theorem csF {e : Bool} {l : Cs} (h : e = false) (r : l.map (·.1) = l.map (·.2)) : (((b2i e, 0) :: l : Cs)).map (·.1) = (((b2i e, 0) :: l : Cs)).map (·.2) := by
  subst h; exact congrArg (List.cons _) r
theorem csN : (([] : Cs)).map (·.1) = (([] : Cs)).map (·.2) := rfl
abbrev N3 := NI × NI × Bool
def V3 (r : N3) : Value := .tuple ⟨[VN r.1, VN r.2.1, .bool r.2.2]⟩
def nil3 : N3 := (nilN, nilN, false)
def orI (x c : Int) : Int := IntKind.u64.wrap ((BitVec.ofInt IntKind.u64.bits x ||| BitVec.ofInt IntKind.u64.bits c).toNat : Int)
def notI (x : Int) : Int := IntKind.u64.wrap (BitVec.ofInt IntKind.u64.bits 18446744073709551615 ^^^ BitVec.ofInt IntKind.u64.bits x).toNat
def incU (x : Int) : Int := IntKind.u64.wrap (x + 1)
def decU (x : Int) : Int := IntKind.u64.wrap (x - 1)
def incZ (x : Int) : Int := IntKind.i64.wrap (x + 1)
def decZ (x : Int) : Int := IntKind.i64.wrap (x - 1)
def minI (x y : Int) : Int := if y < x then y else x
def maxI (x y : Int) : Int := if y > x then y else x
def withoutI (a : NI) (v : Int) : NI :=
  ⟨a.t, ⟨if a.s.lo == v then incU a.s.lo else a.s.lo, if a.s.hi == v then decU a.s.hi else a.s.hi, if a.s.slo == IntKind.i64.wrap v then incZ a.s.slo else a.s.slo, if a.s.shi == IntKind.i64.wrap v then decZ a.s.shi else a.s.shi⟩⟩
set_option maxHeartbeats 0 in
set_option maxRecDepth 1000000 in
theorem without_0 (a : NI) (v : Int) (he : ([(b2i (a.s.lo == v), 1), (b2i (a.s.hi == v), 1), (b2i (a.s.slo == IntKind.i64.wrap v), 1), (b2i (a.s.shi == IntKind.i64.wrap v), 1)] : Cs).map (·.1) = ([(b2i (a.s.lo == v), 1), (b2i (a.s.hi == v), 1), (b2i (a.s.slo == IntKind.i64.wrap v), 1), (b2i (a.s.shi == IntKind.i64.wrap v), 1)] : Cs).map (·.2)) (w : World) : Calls Tryz.prog 119 #[VN a, .int .u64 v] w fun e w' => e = .returned (VN ⟨a.t, ⟨incU a.s.lo, decU a.s.hi, incZ a.s.slo, decZ a.s.shi⟩⟩) ∧ Gr w w' :=
  rk hk9_ok (oAt 119 [(9, true), (20, true), (32, true), (44, true)]) (cs := ([(b2i (a.s.lo == v), 1), (b2i (a.s.hi == v), 1), (b2i (a.s.slo == IntKind.i64.wrap v), 1), (b2i (a.s.shi == IntKind.i64.wrap v), 1)] : Cs)) rfl (by kernel_rfl) (by kernel_rfl) he w
set_option maxHeartbeats 0 in
set_option maxRecDepth 1000000 in
theorem without_1 (a : NI) (v : Int) (he : ([(b2i (a.s.lo == v), 1), (b2i (a.s.hi == v), 1), (b2i (a.s.slo == IntKind.i64.wrap v), 1), (b2i (a.s.shi == IntKind.i64.wrap v), 0)] : Cs).map (·.1) = ([(b2i (a.s.lo == v), 1), (b2i (a.s.hi == v), 1), (b2i (a.s.slo == IntKind.i64.wrap v), 1), (b2i (a.s.shi == IntKind.i64.wrap v), 0)] : Cs).map (·.2)) (w : World) : Calls Tryz.prog 119 #[VN a, .int .u64 v] w fun e w' => e = .returned (VN ⟨a.t, ⟨incU a.s.lo, decU a.s.hi, incZ a.s.slo, a.s.shi⟩⟩) ∧ Gr w w' :=
  rk hk9_ok (oAt 119 [(9, true), (20, true), (32, true), (44, false)]) (cs := ([(b2i (a.s.lo == v), 1), (b2i (a.s.hi == v), 1), (b2i (a.s.slo == IntKind.i64.wrap v), 1), (b2i (a.s.shi == IntKind.i64.wrap v), 0)] : Cs)) rfl (by kernel_rfl) (by kernel_rfl) he w
set_option maxHeartbeats 0 in
set_option maxRecDepth 1000000 in
theorem without_2 (a : NI) (v : Int) (he : ([(b2i (a.s.lo == v), 1), (b2i (a.s.hi == v), 1), (b2i (a.s.slo == IntKind.i64.wrap v), 0), (b2i (a.s.shi == IntKind.i64.wrap v), 1)] : Cs).map (·.1) = ([(b2i (a.s.lo == v), 1), (b2i (a.s.hi == v), 1), (b2i (a.s.slo == IntKind.i64.wrap v), 0), (b2i (a.s.shi == IntKind.i64.wrap v), 1)] : Cs).map (·.2)) (w : World) : Calls Tryz.prog 119 #[VN a, .int .u64 v] w fun e w' => e = .returned (VN ⟨a.t, ⟨incU a.s.lo, decU a.s.hi, a.s.slo, decZ a.s.shi⟩⟩) ∧ Gr w w' :=
  rk hk9_ok (oAt 119 [(9, true), (20, true), (32, false), (44, true)]) (cs := ([(b2i (a.s.lo == v), 1), (b2i (a.s.hi == v), 1), (b2i (a.s.slo == IntKind.i64.wrap v), 0), (b2i (a.s.shi == IntKind.i64.wrap v), 1)] : Cs)) rfl (by kernel_rfl) (by kernel_rfl) he w
set_option maxHeartbeats 0 in
set_option maxRecDepth 1000000 in
theorem without_3 (a : NI) (v : Int) (he : ([(b2i (a.s.lo == v), 1), (b2i (a.s.hi == v), 1), (b2i (a.s.slo == IntKind.i64.wrap v), 0), (b2i (a.s.shi == IntKind.i64.wrap v), 0)] : Cs).map (·.1) = ([(b2i (a.s.lo == v), 1), (b2i (a.s.hi == v), 1), (b2i (a.s.slo == IntKind.i64.wrap v), 0), (b2i (a.s.shi == IntKind.i64.wrap v), 0)] : Cs).map (·.2)) (w : World) : Calls Tryz.prog 119 #[VN a, .int .u64 v] w fun e w' => e = .returned (VN ⟨a.t, ⟨incU a.s.lo, decU a.s.hi, a.s.slo, a.s.shi⟩⟩) ∧ Gr w w' :=
  rk hk9_ok (oAt 119 [(9, true), (20, true), (32, false), (44, false)]) (cs := ([(b2i (a.s.lo == v), 1), (b2i (a.s.hi == v), 1), (b2i (a.s.slo == IntKind.i64.wrap v), 0), (b2i (a.s.shi == IntKind.i64.wrap v), 0)] : Cs)) rfl (by kernel_rfl) (by kernel_rfl) he w
set_option maxHeartbeats 0 in
set_option maxRecDepth 1000000 in
theorem without_4 (a : NI) (v : Int) (he : ([(b2i (a.s.lo == v), 1), (b2i (a.s.hi == v), 0), (b2i (a.s.slo == IntKind.i64.wrap v), 1), (b2i (a.s.shi == IntKind.i64.wrap v), 1)] : Cs).map (·.1) = ([(b2i (a.s.lo == v), 1), (b2i (a.s.hi == v), 0), (b2i (a.s.slo == IntKind.i64.wrap v), 1), (b2i (a.s.shi == IntKind.i64.wrap v), 1)] : Cs).map (·.2)) (w : World) : Calls Tryz.prog 119 #[VN a, .int .u64 v] w fun e w' => e = .returned (VN ⟨a.t, ⟨incU a.s.lo, a.s.hi, incZ a.s.slo, decZ a.s.shi⟩⟩) ∧ Gr w w' :=
  rk hk9_ok (oAt 119 [(9, true), (20, false), (32, true), (44, true)]) (cs := ([(b2i (a.s.lo == v), 1), (b2i (a.s.hi == v), 0), (b2i (a.s.slo == IntKind.i64.wrap v), 1), (b2i (a.s.shi == IntKind.i64.wrap v), 1)] : Cs)) rfl (by kernel_rfl) (by kernel_rfl) he w
set_option maxHeartbeats 0 in
set_option maxRecDepth 1000000 in
theorem without_5 (a : NI) (v : Int) (he : ([(b2i (a.s.lo == v), 1), (b2i (a.s.hi == v), 0), (b2i (a.s.slo == IntKind.i64.wrap v), 1), (b2i (a.s.shi == IntKind.i64.wrap v), 0)] : Cs).map (·.1) = ([(b2i (a.s.lo == v), 1), (b2i (a.s.hi == v), 0), (b2i (a.s.slo == IntKind.i64.wrap v), 1), (b2i (a.s.shi == IntKind.i64.wrap v), 0)] : Cs).map (·.2)) (w : World) : Calls Tryz.prog 119 #[VN a, .int .u64 v] w fun e w' => e = .returned (VN ⟨a.t, ⟨incU a.s.lo, a.s.hi, incZ a.s.slo, a.s.shi⟩⟩) ∧ Gr w w' :=
  rk hk9_ok (oAt 119 [(9, true), (20, false), (32, true), (44, false)]) (cs := ([(b2i (a.s.lo == v), 1), (b2i (a.s.hi == v), 0), (b2i (a.s.slo == IntKind.i64.wrap v), 1), (b2i (a.s.shi == IntKind.i64.wrap v), 0)] : Cs)) rfl (by kernel_rfl) (by kernel_rfl) he w
set_option maxHeartbeats 0 in
set_option maxRecDepth 1000000 in
theorem without_6 (a : NI) (v : Int) (he : ([(b2i (a.s.lo == v), 1), (b2i (a.s.hi == v), 0), (b2i (a.s.slo == IntKind.i64.wrap v), 0), (b2i (a.s.shi == IntKind.i64.wrap v), 1)] : Cs).map (·.1) = ([(b2i (a.s.lo == v), 1), (b2i (a.s.hi == v), 0), (b2i (a.s.slo == IntKind.i64.wrap v), 0), (b2i (a.s.shi == IntKind.i64.wrap v), 1)] : Cs).map (·.2)) (w : World) : Calls Tryz.prog 119 #[VN a, .int .u64 v] w fun e w' => e = .returned (VN ⟨a.t, ⟨incU a.s.lo, a.s.hi, a.s.slo, decZ a.s.shi⟩⟩) ∧ Gr w w' :=
  rk hk9_ok (oAt 119 [(9, true), (20, false), (32, false), (44, true)]) (cs := ([(b2i (a.s.lo == v), 1), (b2i (a.s.hi == v), 0), (b2i (a.s.slo == IntKind.i64.wrap v), 0), (b2i (a.s.shi == IntKind.i64.wrap v), 1)] : Cs)) rfl (by kernel_rfl) (by kernel_rfl) he w
set_option maxHeartbeats 0 in
set_option maxRecDepth 1000000 in
theorem without_7 (a : NI) (v : Int) (he : ([(b2i (a.s.lo == v), 1), (b2i (a.s.hi == v), 0), (b2i (a.s.slo == IntKind.i64.wrap v), 0), (b2i (a.s.shi == IntKind.i64.wrap v), 0)] : Cs).map (·.1) = ([(b2i (a.s.lo == v), 1), (b2i (a.s.hi == v), 0), (b2i (a.s.slo == IntKind.i64.wrap v), 0), (b2i (a.s.shi == IntKind.i64.wrap v), 0)] : Cs).map (·.2)) (w : World) : Calls Tryz.prog 119 #[VN a, .int .u64 v] w fun e w' => e = .returned (VN ⟨a.t, ⟨incU a.s.lo, a.s.hi, a.s.slo, a.s.shi⟩⟩) ∧ Gr w w' :=
  rk hk9_ok (oAt 119 [(9, true), (20, false), (32, false), (44, false)]) (cs := ([(b2i (a.s.lo == v), 1), (b2i (a.s.hi == v), 0), (b2i (a.s.slo == IntKind.i64.wrap v), 0), (b2i (a.s.shi == IntKind.i64.wrap v), 0)] : Cs)) rfl (by kernel_rfl) (by kernel_rfl) he w
set_option maxHeartbeats 0 in
set_option maxRecDepth 1000000 in
theorem without_8 (a : NI) (v : Int) (he : ([(b2i (a.s.lo == v), 0), (b2i (a.s.hi == v), 1), (b2i (a.s.slo == IntKind.i64.wrap v), 1), (b2i (a.s.shi == IntKind.i64.wrap v), 1)] : Cs).map (·.1) = ([(b2i (a.s.lo == v), 0), (b2i (a.s.hi == v), 1), (b2i (a.s.slo == IntKind.i64.wrap v), 1), (b2i (a.s.shi == IntKind.i64.wrap v), 1)] : Cs).map (·.2)) (w : World) : Calls Tryz.prog 119 #[VN a, .int .u64 v] w fun e w' => e = .returned (VN ⟨a.t, ⟨a.s.lo, decU a.s.hi, incZ a.s.slo, decZ a.s.shi⟩⟩) ∧ Gr w w' :=
  rk hk9_ok (oAt 119 [(9, false), (20, true), (32, true), (44, true)]) (cs := ([(b2i (a.s.lo == v), 0), (b2i (a.s.hi == v), 1), (b2i (a.s.slo == IntKind.i64.wrap v), 1), (b2i (a.s.shi == IntKind.i64.wrap v), 1)] : Cs)) rfl (by kernel_rfl) (by kernel_rfl) he w
set_option maxHeartbeats 0 in
set_option maxRecDepth 1000000 in
theorem without_9 (a : NI) (v : Int) (he : ([(b2i (a.s.lo == v), 0), (b2i (a.s.hi == v), 1), (b2i (a.s.slo == IntKind.i64.wrap v), 1), (b2i (a.s.shi == IntKind.i64.wrap v), 0)] : Cs).map (·.1) = ([(b2i (a.s.lo == v), 0), (b2i (a.s.hi == v), 1), (b2i (a.s.slo == IntKind.i64.wrap v), 1), (b2i (a.s.shi == IntKind.i64.wrap v), 0)] : Cs).map (·.2)) (w : World) : Calls Tryz.prog 119 #[VN a, .int .u64 v] w fun e w' => e = .returned (VN ⟨a.t, ⟨a.s.lo, decU a.s.hi, incZ a.s.slo, a.s.shi⟩⟩) ∧ Gr w w' :=
  rk hk9_ok (oAt 119 [(9, false), (20, true), (32, true), (44, false)]) (cs := ([(b2i (a.s.lo == v), 0), (b2i (a.s.hi == v), 1), (b2i (a.s.slo == IntKind.i64.wrap v), 1), (b2i (a.s.shi == IntKind.i64.wrap v), 0)] : Cs)) rfl (by kernel_rfl) (by kernel_rfl) he w
set_option maxHeartbeats 0 in
set_option maxRecDepth 1000000 in
theorem without_10 (a : NI) (v : Int) (he : ([(b2i (a.s.lo == v), 0), (b2i (a.s.hi == v), 1), (b2i (a.s.slo == IntKind.i64.wrap v), 0), (b2i (a.s.shi == IntKind.i64.wrap v), 1)] : Cs).map (·.1) = ([(b2i (a.s.lo == v), 0), (b2i (a.s.hi == v), 1), (b2i (a.s.slo == IntKind.i64.wrap v), 0), (b2i (a.s.shi == IntKind.i64.wrap v), 1)] : Cs).map (·.2)) (w : World) : Calls Tryz.prog 119 #[VN a, .int .u64 v] w fun e w' => e = .returned (VN ⟨a.t, ⟨a.s.lo, decU a.s.hi, a.s.slo, decZ a.s.shi⟩⟩) ∧ Gr w w' :=
  rk hk9_ok (oAt 119 [(9, false), (20, true), (32, false), (44, true)]) (cs := ([(b2i (a.s.lo == v), 0), (b2i (a.s.hi == v), 1), (b2i (a.s.slo == IntKind.i64.wrap v), 0), (b2i (a.s.shi == IntKind.i64.wrap v), 1)] : Cs)) rfl (by kernel_rfl) (by kernel_rfl) he w
set_option maxHeartbeats 0 in
set_option maxRecDepth 1000000 in
theorem without_11 (a : NI) (v : Int) (he : ([(b2i (a.s.lo == v), 0), (b2i (a.s.hi == v), 1), (b2i (a.s.slo == IntKind.i64.wrap v), 0), (b2i (a.s.shi == IntKind.i64.wrap v), 0)] : Cs).map (·.1) = ([(b2i (a.s.lo == v), 0), (b2i (a.s.hi == v), 1), (b2i (a.s.slo == IntKind.i64.wrap v), 0), (b2i (a.s.shi == IntKind.i64.wrap v), 0)] : Cs).map (·.2)) (w : World) : Calls Tryz.prog 119 #[VN a, .int .u64 v] w fun e w' => e = .returned (VN ⟨a.t, ⟨a.s.lo, decU a.s.hi, a.s.slo, a.s.shi⟩⟩) ∧ Gr w w' :=
  rk hk9_ok (oAt 119 [(9, false), (20, true), (32, false), (44, false)]) (cs := ([(b2i (a.s.lo == v), 0), (b2i (a.s.hi == v), 1), (b2i (a.s.slo == IntKind.i64.wrap v), 0), (b2i (a.s.shi == IntKind.i64.wrap v), 0)] : Cs)) rfl (by kernel_rfl) (by kernel_rfl) he w
set_option maxHeartbeats 0 in
set_option maxRecDepth 1000000 in
theorem without_12 (a : NI) (v : Int) (he : ([(b2i (a.s.lo == v), 0), (b2i (a.s.hi == v), 0), (b2i (a.s.slo == IntKind.i64.wrap v), 1), (b2i (a.s.shi == IntKind.i64.wrap v), 1)] : Cs).map (·.1) = ([(b2i (a.s.lo == v), 0), (b2i (a.s.hi == v), 0), (b2i (a.s.slo == IntKind.i64.wrap v), 1), (b2i (a.s.shi == IntKind.i64.wrap v), 1)] : Cs).map (·.2)) (w : World) : Calls Tryz.prog 119 #[VN a, .int .u64 v] w fun e w' => e = .returned (VN ⟨a.t, ⟨a.s.lo, a.s.hi, incZ a.s.slo, decZ a.s.shi⟩⟩) ∧ Gr w w' :=
  rk hk9_ok (oAt 119 [(9, false), (20, false), (32, true), (44, true)]) (cs := ([(b2i (a.s.lo == v), 0), (b2i (a.s.hi == v), 0), (b2i (a.s.slo == IntKind.i64.wrap v), 1), (b2i (a.s.shi == IntKind.i64.wrap v), 1)] : Cs)) rfl (by kernel_rfl) (by kernel_rfl) he w
set_option maxHeartbeats 0 in
set_option maxRecDepth 1000000 in
theorem without_13 (a : NI) (v : Int) (he : ([(b2i (a.s.lo == v), 0), (b2i (a.s.hi == v), 0), (b2i (a.s.slo == IntKind.i64.wrap v), 1), (b2i (a.s.shi == IntKind.i64.wrap v), 0)] : Cs).map (·.1) = ([(b2i (a.s.lo == v), 0), (b2i (a.s.hi == v), 0), (b2i (a.s.slo == IntKind.i64.wrap v), 1), (b2i (a.s.shi == IntKind.i64.wrap v), 0)] : Cs).map (·.2)) (w : World) : Calls Tryz.prog 119 #[VN a, .int .u64 v] w fun e w' => e = .returned (VN ⟨a.t, ⟨a.s.lo, a.s.hi, incZ a.s.slo, a.s.shi⟩⟩) ∧ Gr w w' :=
  rk hk9_ok (oAt 119 [(9, false), (20, false), (32, true), (44, false)]) (cs := ([(b2i (a.s.lo == v), 0), (b2i (a.s.hi == v), 0), (b2i (a.s.slo == IntKind.i64.wrap v), 1), (b2i (a.s.shi == IntKind.i64.wrap v), 0)] : Cs)) rfl (by kernel_rfl) (by kernel_rfl) he w
set_option maxHeartbeats 0 in
set_option maxRecDepth 1000000 in
theorem without_14 (a : NI) (v : Int) (he : ([(b2i (a.s.lo == v), 0), (b2i (a.s.hi == v), 0), (b2i (a.s.slo == IntKind.i64.wrap v), 0), (b2i (a.s.shi == IntKind.i64.wrap v), 1)] : Cs).map (·.1) = ([(b2i (a.s.lo == v), 0), (b2i (a.s.hi == v), 0), (b2i (a.s.slo == IntKind.i64.wrap v), 0), (b2i (a.s.shi == IntKind.i64.wrap v), 1)] : Cs).map (·.2)) (w : World) : Calls Tryz.prog 119 #[VN a, .int .u64 v] w fun e w' => e = .returned (VN ⟨a.t, ⟨a.s.lo, a.s.hi, a.s.slo, decZ a.s.shi⟩⟩) ∧ Gr w w' :=
  rk hk9_ok (oAt 119 [(9, false), (20, false), (32, false), (44, true)]) (cs := ([(b2i (a.s.lo == v), 0), (b2i (a.s.hi == v), 0), (b2i (a.s.slo == IntKind.i64.wrap v), 0), (b2i (a.s.shi == IntKind.i64.wrap v), 1)] : Cs)) rfl (by kernel_rfl) (by kernel_rfl) he w
set_option maxHeartbeats 0 in
set_option maxRecDepth 1000000 in
theorem without_15 (a : NI) (v : Int) (he : ([(b2i (a.s.lo == v), 0), (b2i (a.s.hi == v), 0), (b2i (a.s.slo == IntKind.i64.wrap v), 0), (b2i (a.s.shi == IntKind.i64.wrap v), 0)] : Cs).map (·.1) = ([(b2i (a.s.lo == v), 0), (b2i (a.s.hi == v), 0), (b2i (a.s.slo == IntKind.i64.wrap v), 0), (b2i (a.s.shi == IntKind.i64.wrap v), 0)] : Cs).map (·.2)) (w : World) : Calls Tryz.prog 119 #[VN a, .int .u64 v] w fun e w' => e = .returned (VN ⟨a.t, ⟨a.s.lo, a.s.hi, a.s.slo, a.s.shi⟩⟩) ∧ Gr w w' :=
  rk hk9_ok (oAt 119 [(9, false), (20, false), (32, false), (44, false)]) (cs := ([(b2i (a.s.lo == v), 0), (b2i (a.s.hi == v), 0), (b2i (a.s.slo == IntKind.i64.wrap v), 0), (b2i (a.s.shi == IntKind.i64.wrap v), 0)] : Cs)) rfl (by kernel_rfl) (by kernel_rfl) he w
theorem c_without (a : NI) (v : Int) (w : World) : Calls Tryz.prog 119 #[VN a, .int .u64 v] w fun e w' => e = .returned (VN (withoutI a v)) ∧ Gr w w' := by
  cases k0 : (a.s.lo == v) with
  | true =>
    cases k1 : (a.s.hi == v) with
    | true =>
      cases k2 : (a.s.slo == IntKind.i64.wrap v) with
      | true =>
        cases k3 : (a.s.shi == IntKind.i64.wrap v) with
        | true =>
          exact ret_eq (by simp only [withoutI, k0, k1, k2, k3, ↓reduceIte]) (without_0 a v (csT k0 (csT k1 (csT k2 (csT k3 csN)))) w)
        | false =>
          exact ret_eq (by simp only [withoutI, k0, k1, k2, k3, Bool.false_eq_true, ↓reduceIte]) (without_1 a v (csT k0 (csT k1 (csT k2 (csF k3 csN)))) w)
      | false =>
        cases k3 : (a.s.shi == IntKind.i64.wrap v) with
        | true =>
          exact ret_eq (by simp only [withoutI, k0, k1, k2, k3, Bool.false_eq_true, ↓reduceIte]) (without_2 a v (csT k0 (csT k1 (csF k2 (csT k3 csN)))) w)
        | false =>
          exact ret_eq (by simp only [withoutI, k0, k1, k2, k3, Bool.false_eq_true, ↓reduceIte]) (without_3 a v (csT k0 (csT k1 (csF k2 (csF k3 csN)))) w)
    | false =>
      cases k2 : (a.s.slo == IntKind.i64.wrap v) with
      | true =>
        cases k3 : (a.s.shi == IntKind.i64.wrap v) with
        | true =>
          exact ret_eq (by simp only [withoutI, k0, k1, k2, k3, Bool.false_eq_true, ↓reduceIte]) (without_4 a v (csT k0 (csF k1 (csT k2 (csT k3 csN)))) w)
        | false =>
          exact ret_eq (by simp only [withoutI, k0, k1, k2, k3, Bool.false_eq_true, ↓reduceIte]) (without_5 a v (csT k0 (csF k1 (csT k2 (csF k3 csN)))) w)
      | false =>
        cases k3 : (a.s.shi == IntKind.i64.wrap v) with
        | true =>
          exact ret_eq (by simp only [withoutI, k0, k1, k2, k3, Bool.false_eq_true, ↓reduceIte]) (without_6 a v (csT k0 (csF k1 (csF k2 (csT k3 csN)))) w)
        | false =>
          exact ret_eq (by simp only [withoutI, k0, k1, k2, k3, Bool.false_eq_true, ↓reduceIte]) (without_7 a v (csT k0 (csF k1 (csF k2 (csF k3 csN)))) w)
  | false =>
    cases k1 : (a.s.hi == v) with
    | true =>
      cases k2 : (a.s.slo == IntKind.i64.wrap v) with
      | true =>
        cases k3 : (a.s.shi == IntKind.i64.wrap v) with
        | true =>
          exact ret_eq (by simp only [withoutI, k0, k1, k2, k3, Bool.false_eq_true, ↓reduceIte]) (without_8 a v (csF k0 (csT k1 (csT k2 (csT k3 csN)))) w)
        | false =>
          exact ret_eq (by simp only [withoutI, k0, k1, k2, k3, Bool.false_eq_true, ↓reduceIte]) (without_9 a v (csF k0 (csT k1 (csT k2 (csF k3 csN)))) w)
      | false =>
        cases k3 : (a.s.shi == IntKind.i64.wrap v) with
        | true =>
          exact ret_eq (by simp only [withoutI, k0, k1, k2, k3, Bool.false_eq_true, ↓reduceIte]) (without_10 a v (csF k0 (csT k1 (csF k2 (csT k3 csN)))) w)
        | false =>
          exact ret_eq (by simp only [withoutI, k0, k1, k2, k3, Bool.false_eq_true, ↓reduceIte]) (without_11 a v (csF k0 (csT k1 (csF k2 (csF k3 csN)))) w)
    | false =>
      cases k2 : (a.s.slo == IntKind.i64.wrap v) with
      | true =>
        cases k3 : (a.s.shi == IntKind.i64.wrap v) with
        | true =>
          exact ret_eq (by simp only [withoutI, k0, k1, k2, k3, Bool.false_eq_true, ↓reduceIte]) (without_12 a v (csF k0 (csF k1 (csT k2 (csT k3 csN)))) w)
        | false =>
          exact ret_eq (by simp only [withoutI, k0, k1, k2, k3, Bool.false_eq_true, ↓reduceIte]) (without_13 a v (csF k0 (csF k1 (csT k2 (csF k3 csN)))) w)
      | false =>
        cases k3 : (a.s.shi == IntKind.i64.wrap v) with
        | true =>
          exact ret_eq (by simp only [withoutI, k0, k1, k2, k3, Bool.false_eq_true, ↓reduceIte]) (without_14 a v (csF k0 (csF k1 (csF k2 (csT k3 csN)))) w)
        | false =>
          exact ret_eq (by simp only [withoutI, k0, k1, k2, k3, Bool.false_eq_true, ↓reduceIte]) (without_15 a v (csF k0 (csF k1 (csF k2 (csF k3 csN)))) w)
def hk_without : Hook := fun f args _ =>
  if Nat.beq f 119 then
    match args with
    | [.agg ⟨[.int .u64 a0, .int .u64 a1, .int .u64 a2, .int .u64 a3, .int .i64 a4, .int .i64 a5]⟩, .int .u64 b] => some (VN (withoutI (⟨⟨a0, a1⟩, ⟨a2, a3, a4, a5⟩⟩ : NI) b), [])
    | _ => none
  else none
theorem hk_without_ok : HookOk Tryz.prog hk_without := by
  intro f args h v cs hv hc wb k s w H
  unfold hk_without at hv
  split at hv
  · rename_i hf
    obtain rfl := Nat.eq_of_beq_eq_true hf
    split at hv
    · rename_i a0 a1 a2 a3 a4 a5 b
      cases hv
      exact c_without (⟨⟨a0, a1⟩, ⟨a2, a3, a4, a5⟩⟩ : NI) b w
    · cases hv
  · cases hv
def lessI (s g : Bool) (a b : NI) : N3 :=
  match s, g with
  | true, true => if decide (a.s.slo ≥ b.s.shi) then nil3 else if decide (a.s.slo > b.s.shi) then nil3 else (⟨a.t, ⟨a.s.lo, a.s.hi, a.s.slo, minI a.s.shi (decZ b.s.shi)⟩⟩, ⟨b.t, ⟨b.s.lo, b.s.hi, maxI b.s.slo (incZ a.s.slo), b.s.shi⟩⟩, true)
  | true, false => if decide (a.s.slo > b.s.shi) then nil3 else (⟨a.t, ⟨a.s.lo, a.s.hi, a.s.slo, minI a.s.shi (IntKind.i64.wrap (b.s.shi - 0))⟩⟩, ⟨b.t, ⟨b.s.lo, b.s.hi, maxI b.s.slo (IntKind.i64.wrap (a.s.slo + 0)), b.s.shi⟩⟩, true)
  | false, true => if decide (a.s.lo ≥ b.s.hi) then nil3 else if decide (a.s.lo > b.s.hi) then nil3 else (⟨a.t, ⟨a.s.lo, minI a.s.hi (decU b.s.hi), a.s.slo, a.s.shi⟩⟩, ⟨b.t, ⟨maxI b.s.lo (incU a.s.lo), b.s.hi, b.s.slo, b.s.shi⟩⟩, true)
  | false, false => if decide (a.s.lo > b.s.hi) then nil3 else (⟨a.t, ⟨a.s.lo, minI a.s.hi (IntKind.u64.wrap (b.s.hi - 0)), a.s.slo, a.s.shi⟩⟩, ⟨b.t, ⟨maxI b.s.lo (IntKind.u64.wrap (a.s.lo + 0)), b.s.hi, b.s.slo, b.s.shi⟩⟩, true)
set_option maxHeartbeats 0 in
set_option maxRecDepth 1000000 in
theorem less_tt_0 (a b : NI) (he : ([(b2i (decide (a.s.slo ≥ b.s.shi)), 1)] : Cs).map (·.1) = ([(b2i (decide (a.s.slo ≥ b.s.shi)), 1)] : Cs).map (·.2)) (w : World) : Calls Tryz.prog 79 #[.bool true, .bool true, VN a, VN b] w fun e w' => e = .returned (V3 nil3) ∧ Gr w w' :=
  rk hk9_ok (oAt 79 [(24, true)]) (cs := ([(b2i (decide (a.s.slo ≥ b.s.shi)), 1)] : Cs)) rfl (by kernel_rfl) (by kernel_rfl) he w
set_option maxHeartbeats 0 in
set_option maxRecDepth 1000000 in
theorem less_tt_1 (a b : NI) (he : ([(b2i (decide (a.s.slo ≥ b.s.shi)), 0), (b2i (decide (a.s.slo > b.s.shi)), 1)] : Cs).map (·.1) = ([(b2i (decide (a.s.slo ≥ b.s.shi)), 0), (b2i (decide (a.s.slo > b.s.shi)), 1)] : Cs).map (·.2)) (w : World) : Calls Tryz.prog 79 #[.bool true, .bool true, VN a, VN b] w fun e w' => e = .returned (V3 nil3) ∧ Gr w w' :=
  rk hk9_ok (oAt 79 [(24, false), (31, true)]) (cs := ([(b2i (decide (a.s.slo ≥ b.s.shi)), 0), (b2i (decide (a.s.slo > b.s.shi)), 1)] : Cs)) rfl (by kernel_rfl) (by kernel_rfl) he w
set_option maxHeartbeats 0 in
set_option maxRecDepth 1000000 in
theorem less_tt_2 (a b : NI) (he : ([(b2i (decide (a.s.slo ≥ b.s.shi)), 0), (b2i (decide (a.s.slo > b.s.shi)), 0)] : Cs).map (·.1) = ([(b2i (decide (a.s.slo ≥ b.s.shi)), 0), (b2i (decide (a.s.slo > b.s.shi)), 0)] : Cs).map (·.2)) (w : World) : Calls Tryz.prog 79 #[.bool true, .bool true, VN a, VN b] w fun e w' => e = .returned (V3 (⟨a.t, ⟨a.s.lo, a.s.hi, a.s.slo, minI a.s.shi (decZ b.s.shi)⟩⟩, ⟨b.t, ⟨b.s.lo, b.s.hi, maxI b.s.slo (incZ a.s.slo), b.s.shi⟩⟩, true)) ∧ Gr w w' :=
  rk hk9_ok (oAt 79 [(24, false), (31, false)]) (cs := ([(b2i (decide (a.s.slo ≥ b.s.shi)), 0), (b2i (decide (a.s.slo > b.s.shi)), 0)] : Cs)) rfl (by kernel_rfl) (by kernel_rfl) he w
theorem c_less_tt (a b : NI) (w : World) : Calls Tryz.prog 79 #[.bool true, .bool true, VN a, VN b] w fun e w' => e = .returned (V3 (lessI true true a b)) ∧ Gr w w' := by
  cases k0 : (decide (a.s.slo ≥ b.s.shi)) with
  | true =>
    exact ret_eq (by simp only [lessI, k0, ↓reduceIte]) (less_tt_0 a b (csT k0 csN) w)
  | false =>
    cases k1 : (decide (a.s.slo > b.s.shi)) with
    | true =>
      exact ret_eq (by simp only [lessI, k0, k1, Bool.false_eq_true, ↓reduceIte]) (less_tt_1 a b (csF k0 (csT k1 csN)) w)
    | false =>
      exact ret_eq (by simp only [lessI, k0, k1, Bool.false_eq_true, ↓reduceIte]) (less_tt_2 a b (csF k0 (csF k1 csN)) w)
set_option maxHeartbeats 0 in
set_option maxRecDepth 1000000 in
theorem less_tf_0 (a b : NI) (he : ([(b2i (decide (a.s.slo > b.s.shi)), 1)] : Cs).map (·.1) = ([(b2i (decide (a.s.slo > b.s.shi)), 1)] : Cs).map (·.2)) (w : World) : Calls Tryz.prog 79 #[.bool true, .bool false, VN a, VN b] w fun e w' => e = .returned (V3 nil3) ∧ Gr w w' :=
  rk hk9_ok (oAt 79 [(31, true)]) (cs := ([(b2i (decide (a.s.slo > b.s.shi)), 1)] : Cs)) rfl (by kernel_rfl) (by kernel_rfl) he w
set_option maxHeartbeats 0 in
set_option maxRecDepth 1000000 in
theorem less_tf_1 (a b : NI) (he : ([(b2i (decide (a.s.slo > b.s.shi)), 0)] : Cs).map (·.1) = ([(b2i (decide (a.s.slo > b.s.shi)), 0)] : Cs).map (·.2)) (w : World) : Calls Tryz.prog 79 #[.bool true, .bool false, VN a, VN b] w fun e w' => e = .returned (V3 (⟨a.t, ⟨a.s.lo, a.s.hi, a.s.slo, minI a.s.shi (IntKind.i64.wrap (b.s.shi - 0))⟩⟩, ⟨b.t, ⟨b.s.lo, b.s.hi, maxI b.s.slo (IntKind.i64.wrap (a.s.slo + 0)), b.s.shi⟩⟩, true)) ∧ Gr w w' :=
  rk hk9_ok (oAt 79 [(31, false)]) (cs := ([(b2i (decide (a.s.slo > b.s.shi)), 0)] : Cs)) rfl (by kernel_rfl) (by kernel_rfl) he w
theorem c_less_tf (a b : NI) (w : World) : Calls Tryz.prog 79 #[.bool true, .bool false, VN a, VN b] w fun e w' => e = .returned (V3 (lessI true false a b)) ∧ Gr w w' := by
  cases k0 : (decide (a.s.slo > b.s.shi)) with
  | true =>
    exact ret_eq (by simp only [lessI, k0, ↓reduceIte]) (less_tf_0 a b (csT k0 csN) w)
  | false =>
    exact ret_eq (by simp only [lessI, k0, Bool.false_eq_true, ↓reduceIte]) (less_tf_1 a b (csF k0 csN) w)
set_option maxHeartbeats 0 in
set_option maxRecDepth 1000000 in
theorem less_ft_0 (a b : NI) (he : ([(b2i (decide (a.s.lo ≥ b.s.hi)), 1)] : Cs).map (·.1) = ([(b2i (decide (a.s.lo ≥ b.s.hi)), 1)] : Cs).map (·.2)) (w : World) : Calls Tryz.prog 79 #[.bool false, .bool true, VN a, VN b] w fun e w' => e = .returned (V3 nil3) ∧ Gr w w' :=
  rk hk9_ok (oAt 79 [(71, true)]) (cs := ([(b2i (decide (a.s.lo ≥ b.s.hi)), 1)] : Cs)) rfl (by kernel_rfl) (by kernel_rfl) he w
set_option maxHeartbeats 0 in
set_option maxRecDepth 1000000 in
theorem less_ft_1 (a b : NI) (he : ([(b2i (decide (a.s.lo ≥ b.s.hi)), 0), (b2i (decide (a.s.lo > b.s.hi)), 1)] : Cs).map (·.1) = ([(b2i (decide (a.s.lo ≥ b.s.hi)), 0), (b2i (decide (a.s.lo > b.s.hi)), 1)] : Cs).map (·.2)) (w : World) : Calls Tryz.prog 79 #[.bool false, .bool true, VN a, VN b] w fun e w' => e = .returned (V3 nil3) ∧ Gr w w' :=
  rk hk9_ok (oAt 79 [(71, false), (78, true)]) (cs := ([(b2i (decide (a.s.lo ≥ b.s.hi)), 0), (b2i (decide (a.s.lo > b.s.hi)), 1)] : Cs)) rfl (by kernel_rfl) (by kernel_rfl) he w
set_option maxHeartbeats 0 in
set_option maxRecDepth 1000000 in
theorem less_ft_2 (a b : NI) (he : ([(b2i (decide (a.s.lo ≥ b.s.hi)), 0), (b2i (decide (a.s.lo > b.s.hi)), 0)] : Cs).map (·.1) = ([(b2i (decide (a.s.lo ≥ b.s.hi)), 0), (b2i (decide (a.s.lo > b.s.hi)), 0)] : Cs).map (·.2)) (w : World) : Calls Tryz.prog 79 #[.bool false, .bool true, VN a, VN b] w fun e w' => e = .returned (V3 (⟨a.t, ⟨a.s.lo, minI a.s.hi (decU b.s.hi), a.s.slo, a.s.shi⟩⟩, ⟨b.t, ⟨maxI b.s.lo (incU a.s.lo), b.s.hi, b.s.slo, b.s.shi⟩⟩, true)) ∧ Gr w w' :=
  rk hk9_ok (oAt 79 [(71, false), (78, false)]) (cs := ([(b2i (decide (a.s.lo ≥ b.s.hi)), 0), (b2i (decide (a.s.lo > b.s.hi)), 0)] : Cs)) rfl (by kernel_rfl) (by kernel_rfl) he w
theorem c_less_ft (a b : NI) (w : World) : Calls Tryz.prog 79 #[.bool false, .bool true, VN a, VN b] w fun e w' => e = .returned (V3 (lessI false true a b)) ∧ Gr w w' := by
  cases k0 : (decide (a.s.lo ≥ b.s.hi)) with
  | true =>
    exact ret_eq (by simp only [lessI, k0, ↓reduceIte]) (less_ft_0 a b (csT k0 csN) w)
  | false =>
    cases k1 : (decide (a.s.lo > b.s.hi)) with
    | true =>
      exact ret_eq (by simp only [lessI, k0, k1, Bool.false_eq_true, ↓reduceIte]) (less_ft_1 a b (csF k0 (csT k1 csN)) w)
    | false =>
      exact ret_eq (by simp only [lessI, k0, k1, Bool.false_eq_true, ↓reduceIte]) (less_ft_2 a b (csF k0 (csF k1 csN)) w)
set_option maxHeartbeats 0 in
set_option maxRecDepth 1000000 in
theorem less_ff_0 (a b : NI) (he : ([(b2i (decide (a.s.lo > b.s.hi)), 1)] : Cs).map (·.1) = ([(b2i (decide (a.s.lo > b.s.hi)), 1)] : Cs).map (·.2)) (w : World) : Calls Tryz.prog 79 #[.bool false, .bool false, VN a, VN b] w fun e w' => e = .returned (V3 nil3) ∧ Gr w w' :=
  rk hk9_ok (oAt 79 [(78, true)]) (cs := ([(b2i (decide (a.s.lo > b.s.hi)), 1)] : Cs)) rfl (by kernel_rfl) (by kernel_rfl) he w
set_option maxHeartbeats 0 in
set_option maxRecDepth 1000000 in
theorem less_ff_1 (a b : NI) (he : ([(b2i (decide (a.s.lo > b.s.hi)), 0)] : Cs).map (·.1) = ([(b2i (decide (a.s.lo > b.s.hi)), 0)] : Cs).map (·.2)) (w : World) : Calls Tryz.prog 79 #[.bool false, .bool false, VN a, VN b] w fun e w' => e = .returned (V3 (⟨a.t, ⟨a.s.lo, minI a.s.hi (IntKind.u64.wrap (b.s.hi - 0)), a.s.slo, a.s.shi⟩⟩, ⟨b.t, ⟨maxI b.s.lo (IntKind.u64.wrap (a.s.lo + 0)), b.s.hi, b.s.slo, b.s.shi⟩⟩, true)) ∧ Gr w w' :=
  rk hk9_ok (oAt 79 [(78, false)]) (cs := ([(b2i (decide (a.s.lo > b.s.hi)), 0)] : Cs)) rfl (by kernel_rfl) (by kernel_rfl) he w
theorem c_less_ff (a b : NI) (w : World) : Calls Tryz.prog 79 #[.bool false, .bool false, VN a, VN b] w fun e w' => e = .returned (V3 (lessI false false a b)) ∧ Gr w w' := by
  cases k0 : (decide (a.s.lo > b.s.hi)) with
  | true =>
    exact ret_eq (by simp only [lessI, k0, ↓reduceIte]) (less_ff_0 a b (csT k0 csN) w)
  | false =>
    exact ret_eq (by simp only [lessI, k0, Bool.false_eq_true, ↓reduceIte]) (less_ff_1 a b (csF k0 csN) w)
theorem c_less (s g : Bool) (a b : NI) (w : World) : Calls Tryz.prog 79 #[.bool s, .bool g, VN a, VN b] w fun e w' => e = .returned (V3 (lessI s g a b)) ∧ Gr w w' :=
  match s, g with
  | true, true => c_less_tt a b w
  | true, false => c_less_tf a b w
  | false, true => c_less_ft a b w
  | false, false => c_less_ff a b w
def hk_less : Hook := fun f args _ =>
  if Nat.beq f 79 then
    match args with
    | [.bool a, .bool b, .agg ⟨[.int .u64 c0, .int .u64 c1, .int .u64 c2, .int .u64 c3, .int .i64 c4, .int .i64 c5]⟩, .agg ⟨[.int .u64 d0, .int .u64 d1, .int .u64 d2, .int .u64 d3, .int .i64 d4, .int .i64 d5]⟩] => some (V3 (lessI a b (⟨⟨c0, c1⟩, ⟨c2, c3, c4, c5⟩⟩ : NI) (⟨⟨d0, d1⟩, ⟨d2, d3, d4, d5⟩⟩ : NI)), [])
    | _ => none
  else none
theorem hk_less_ok : HookOk Tryz.prog hk_less := by
  intro f args h v cs hv hc wb k s w H
  unfold hk_less at hv
  split at hv
  · rename_i hf
    obtain rfl := Nat.eq_of_beq_eq_true hf
    split at hv
    · rename_i a b c0 c1 c2 c3 c4 c5 d0 d1 d2 d3 d4 d5
      cases hv
      exact c_less a b (⟨⟨c0, c1⟩, ⟨c2, c3, c4, c5⟩⟩ : NI) (⟨⟨d0, d1⟩, ⟨d2, d3, d4, d5⟩⟩ : NI) w
    · cases hv
  · cases hv
def hkm1 : Hook := orHook hk_without (hk9)
theorem hkm1_ok : HookOk Tryz.prog hkm1 := orHook_ok hk_without_ok (hk9_ok)
def differI (a b : NI) : N3 :=
  if oneK a then (if oneK b then (a, b, oneI a != oneI b) else (a, withoutI b (oneI a), true)) else if oneK b then (withoutI a (oneI b), b, true) else (a, b, true)
set_option maxHeartbeats 0 in
set_option maxRecDepth 1000000 in
theorem differ_0 (a b : NI) (he : ([(b2i (oneK a), 1), (b2i (oneK b), 1)] : Cs).map (·.1) = ([(b2i (oneK a), 1), (b2i (oneK b), 1)] : Cs).map (·.2)) (w : World) : Calls Tryz.prog 80 #[VN a, VN b] w fun e w' => e = .returned (V3 (a, b, oneI a != oneI b)) ∧ Gr w w' :=
  rk hkm1_ok (oAt 80 [(15, true), (20, true)]) (cs := ([(b2i (oneK a), 1), (b2i (oneK b), 1)] : Cs)) rfl (by kernel_rfl) (by kernel_rfl) he w
set_option maxHeartbeats 0 in
set_option maxRecDepth 1000000 in
theorem differ_1 (a b : NI) (he : ([(b2i (oneK a), 1), (b2i (oneK b), 0)] : Cs).map (·.1) = ([(b2i (oneK a), 1), (b2i (oneK b), 0)] : Cs).map (·.2)) (w : World) : Calls Tryz.prog 80 #[VN a, VN b] w fun e w' => e = .returned (V3 (a, withoutI b (oneI a), true)) ∧ Gr w w' :=
  rk hkm1_ok (oAt 80 [(15, true), (20, false)]) (cs := ([(b2i (oneK a), 1), (b2i (oneK b), 0)] : Cs)) rfl (by kernel_rfl) (by kernel_rfl) he w
set_option maxHeartbeats 0 in
set_option maxRecDepth 1000000 in
theorem differ_2 (a b : NI) (he : ([(b2i (oneK a), 0), (b2i (oneK b), 1)] : Cs).map (·.1) = ([(b2i (oneK a), 0), (b2i (oneK b), 1)] : Cs).map (·.2)) (w : World) : Calls Tryz.prog 80 #[VN a, VN b] w fun e w' => e = .returned (V3 (withoutI a (oneI b), b, true)) ∧ Gr w w' :=
  rk hkm1_ok (oAt 80 [(15, false), (20, true)]) (cs := ([(b2i (oneK a), 0), (b2i (oneK b), 1)] : Cs)) rfl (by kernel_rfl) (by kernel_rfl) he w
set_option maxHeartbeats 0 in
set_option maxRecDepth 1000000 in
theorem differ_3 (a b : NI) (he : ([(b2i (oneK a), 0), (b2i (oneK b), 0)] : Cs).map (·.1) = ([(b2i (oneK a), 0), (b2i (oneK b), 0)] : Cs).map (·.2)) (w : World) : Calls Tryz.prog 80 #[VN a, VN b] w fun e w' => e = .returned (V3 (a, b, true)) ∧ Gr w w' :=
  rk hkm1_ok (oAt 80 [(15, false), (20, false)]) (cs := ([(b2i (oneK a), 0), (b2i (oneK b), 0)] : Cs)) rfl (by kernel_rfl) (by kernel_rfl) he w
theorem c_differ (a b : NI) (w : World) : Calls Tryz.prog 80 #[VN a, VN b] w fun e w' => e = .returned (V3 (differI a b)) ∧ Gr w w' := by
  cases k0 : (oneK a) with
  | true =>
    cases k1 : (oneK b) with
    | true =>
      exact ret_eq (by simp only [differI, k0, k1, ↓reduceIte]) (differ_0 a b (csT k0 (csT k1 csN)) w)
    | false =>
      exact ret_eq (by simp only [differI, k0, k1, Bool.false_eq_true, ↓reduceIte]) (differ_1 a b (csT k0 (csF k1 csN)) w)
  | false =>
    cases k1 : (oneK b) with
    | true =>
      exact ret_eq (by simp only [differI, k0, k1, Bool.false_eq_true, ↓reduceIte]) (differ_2 a b (csF k0 (csT k1 csN)) w)
    | false =>
      exact ret_eq (by simp only [differI, k0, k1, Bool.false_eq_true, ↓reduceIte]) (differ_3 a b (csF k0 (csF k1 csN)) w)
def hk_differ : Hook := fun f args _ =>
  if Nat.beq f 80 then
    match args with
    | [.agg ⟨[.int .u64 a0, .int .u64 a1, .int .u64 a2, .int .u64 a3, .int .i64 a4, .int .i64 a5]⟩, .agg ⟨[.int .u64 b0, .int .u64 b1, .int .u64 b2, .int .u64 b3, .int .i64 b4, .int .i64 b5]⟩] => some (V3 (differI (⟨⟨a0, a1⟩, ⟨a2, a3, a4, a5⟩⟩ : NI) (⟨⟨b0, b1⟩, ⟨b2, b3, b4, b5⟩⟩ : NI)), [])
    | _ => none
  else none
theorem hk_differ_ok : HookOk Tryz.prog hk_differ := by
  intro f args h v cs hv hc wb k s w H
  unfold hk_differ at hv
  split at hv
  · rename_i hf
    obtain rfl := Nat.eq_of_beq_eq_true hf
    split at hv
    · rename_i a0 a1 a2 a3 a4 a5 b0 b1 b2 b3 b4 b5
      cases hv
      exact c_differ (⟨⟨a0, a1⟩, ⟨a2, a3, a4, a5⟩⟩ : NI) (⟨⟨b0, b1⟩, ⟨b2, b3, b4, b5⟩⟩ : NI) w
    · cases hv
  · cases hv
theorem tW_mk {x y : Int} (h : uB x = true) (h2 : uB y = true) : tW ⟨x, y⟩ = true := by unfold tW; rw [h, h2]; rfl
def mayI (a b : NI) : Int := andI (orI a.t.v a.t.m) (orI b.t.v b.t.m)
def meetI (a b : NI) : N3 :=
  if mayI a b == 0 then nil3
  else if andI (mayI a b) (decU (mayI a b)) == 0 then (⟨tBothI a.t ⟨mayI a b, notI (mayI a b)⟩, a.s⟩, ⟨tBothI b.t ⟨mayI a b, notI (mayI a b)⟩, b.s⟩, true)
  else (a, b, true)
theorem uB_or (x c : Int) : uB (orI x c) = true := u64_uB _
theorem uB_not (x : Int) : uB (notI x) = true := u64_uB _
set_option maxHeartbeats 0 in
set_option maxRecDepth 1000000 in
theorem meet_0 (a b : NI) (he : ([(b2i (mayI a b == 0), 1)] : Cs).map (·.1) = ([(b2i (mayI a b == 0), 1)] : Cs).map (·.2)) (w : World) : Calls Tryz.prog 81 #[VN a, VN b] w fun e w' => e = .returned (V3 nil3) ∧ Gr w w' :=
  rk hk9_ok (oAt 81 [(25, true)]) (cs := ([(b2i (mayI a b == 0), 1)] : Cs)) rfl (by kernel_rfl) (by kernel_rfl) he w
set_option maxHeartbeats 0 in
set_option maxRecDepth 1000000 in
theorem meet_1 (a b : NI) (he : ([(b2i (mayI a b == 0), 0), (b2i (andI (mayI a b) (decU (mayI a b)) == 0), 1), (b2i (tW a.t && tW ⟨mayI a b, notI (mayI a b)⟩), 1), (b2i (tW b.t && tW ⟨mayI a b, notI (mayI a b)⟩), 1)] : Cs).map (·.1) = ([(b2i (mayI a b == 0), 0), (b2i (andI (mayI a b) (decU (mayI a b)) == 0), 1), (b2i (tW a.t && tW ⟨mayI a b, notI (mayI a b)⟩), 1), (b2i (tW b.t && tW ⟨mayI a b, notI (mayI a b)⟩), 1)] : Cs).map (·.2)) (w : World) : Calls Tryz.prog 81 #[VN a, VN b] w fun e w' => e = .returned (V3 (⟨tBothI a.t ⟨mayI a b, notI (mayI a b)⟩, a.s⟩, ⟨tBothI b.t ⟨mayI a b, notI (mayI a b)⟩, b.s⟩, true)) ∧ Gr w w' :=
  rk hk9_ok (oAt 81 [(25, false), (32, true)]) (cs := ([(b2i (mayI a b == 0), 0), (b2i (andI (mayI a b) (decU (mayI a b)) == 0), 1), (b2i (tW a.t && tW ⟨mayI a b, notI (mayI a b)⟩), 1), (b2i (tW b.t && tW ⟨mayI a b, notI (mayI a b)⟩), 1)] : Cs)) rfl (by kernel_rfl) (by kernel_rfl) he w
set_option maxHeartbeats 0 in
set_option maxRecDepth 1000000 in
theorem meet_2 (a b : NI) (he : ([(b2i (mayI a b == 0), 0), (b2i (andI (mayI a b) (decU (mayI a b)) == 0), 0)] : Cs).map (·.1) = ([(b2i (mayI a b == 0), 0), (b2i (andI (mayI a b) (decU (mayI a b)) == 0), 0)] : Cs).map (·.2)) (w : World) : Calls Tryz.prog 81 #[VN a, VN b] w fun e w' => e = .returned (V3 (a, b, true)) ∧ Gr w w' :=
  rk hk9_ok (oAt 81 [(25, false), (32, false)]) (cs := ([(b2i (mayI a b == 0), 0), (b2i (andI (mayI a b) (decU (mayI a b)) == 0), 0)] : Cs)) rfl (by kernel_rfl) (by kernel_rfl) he w
theorem c_meet (a b : NI) (hw : (nW a && nW b) = true) (w : World) : Calls Tryz.prog 81 #[VN a, VN b] w fun e w' => e = .returned (V3 (meetI a b)) ∧ Gr w w' := by
  unfold nW at hw
  simp only [Bool.and_eq_true] at hw
  have h0 : tW ⟨mayI a b, notI (mayI a b)⟩ = true := tW_mk (uB_and _ _) (uB_not _)
  have h1 : (tW a.t && tW ⟨mayI a b, notI (mayI a b)⟩) = true := by rw [hw.1.1, h0]; rfl
  have h2 : (tW b.t && tW ⟨mayI a b, notI (mayI a b)⟩) = true := by rw [hw.2.1, h0]; rfl
  cases k0 : (mayI a b == 0) with
  | true =>
    exact ret_eq (by simp only [meetI, k0, ↓reduceIte]) (meet_0 a b (csT k0 csN) w)
  | false =>
    cases k1 : (andI (mayI a b) (decU (mayI a b)) == 0) with
    | true =>
      exact ret_eq (by simp only [meetI, k0, k1, Bool.false_eq_true, ↓reduceIte]) (meet_1 a b (csF k0 (csT k1 (csT h1 (csT h2 csN)))) w)
    | false =>
      exact ret_eq (by simp only [meetI, k0, k1, Bool.false_eq_true, ↓reduceIte]) (meet_2 a b (csF k0 (csF k1 csN)) w)
def hk_meet : Hook := fun f args _ =>
  if Nat.beq f 81 then
    match args with
    | [.agg ⟨[.int .u64 a0, .int .u64 a1, .int .u64 a2, .int .u64 a3, .int .i64 a4, .int .i64 a5]⟩, .agg ⟨[.int .u64 b0, .int .u64 b1, .int .u64 b2, .int .u64 b3, .int .i64 b4, .int .i64 b5]⟩] => some (V3 (meetI (⟨⟨a0, a1⟩, ⟨a2, a3, a4, a5⟩⟩ : NI) (⟨⟨b0, b1⟩, ⟨b2, b3, b4, b5⟩⟩ : NI)), [(b2i (nW (⟨⟨a0, a1⟩, ⟨a2, a3, a4, a5⟩⟩ : NI) && nW (⟨⟨b0, b1⟩, ⟨b2, b3, b4, b5⟩⟩ : NI)), 1)])
    | _ => none
  else none
theorem hk_meet_ok : HookOk Tryz.prog hk_meet := by
  intro f args h v cs hv hc wb k s w H
  unfold hk_meet at hv
  split at hv
  · rename_i hf
    obtain rfl := Nat.eq_of_beq_eq_true hf
    split at hv
    · rename_i a0 a1 a2 a3 a4 a5 b0 b1 b2 b3 b4 b5
      cases hv
      have hw := pair1 hc rfl
      exact c_meet (⟨⟨a0, a1⟩, ⟨a2, a3, a4, a5⟩⟩ : NI) (⟨⟨b0, b1⟩, ⟨b2, b3, b4, b5⟩⟩ : NI) hw w
    · cases hv
  · cases hv
def partA (a b : NI) : TI := tBothI a.t ⟨0, notI b.t.v⟩
def partB (a b : NI) : TI := tBothI b.t ⟨0, notI a.t.v⟩
def partKA (a b : NI) : Bool := tBothKI a.t ⟨0, notI b.t.v⟩
def partKB (a b : NI) : Bool := tBothKI b.t ⟨0, notI a.t.v⟩
def partI (a b : NI) : N3 := if partKA a b then (if partKB a b then (⟨partA a b, a.s⟩, ⟨partB a b, b.s⟩, true) else nil3) else nil3
set_option maxHeartbeats 0 in
set_option maxRecDepth 1000000 in
theorem part_0 (a b : NI) (he : ([(b2i (tW a.t && tW ⟨0, notI b.t.v⟩), 1), (b2i (partKA a b), 1), (b2i (tW b.t && tW ⟨0, notI a.t.v⟩), 1), (b2i (partKB a b), 1)] : Cs).map (·.1) = ([(b2i (tW a.t && tW ⟨0, notI b.t.v⟩), 1), (b2i (partKA a b), 1), (b2i (tW b.t && tW ⟨0, notI a.t.v⟩), 1), (b2i (partKB a b), 1)] : Cs).map (·.2)) (w : World) : Calls Tryz.prog 82 #[VN a, VN b] w fun e w' => e = .returned (V3 (⟨partA a b, a.s⟩, ⟨partB a b, b.s⟩, true)) ∧ Gr w w' :=
  rk hk9_ok (oAt 82 [(21, true), (32, true)]) (cs := ([(b2i (tW a.t && tW ⟨0, notI b.t.v⟩), 1), (b2i (partKA a b), 1), (b2i (tW b.t && tW ⟨0, notI a.t.v⟩), 1), (b2i (partKB a b), 1)] : Cs)) rfl (by kernel_rfl) (by kernel_rfl) he w
set_option maxHeartbeats 0 in
set_option maxRecDepth 1000000 in
theorem part_1 (a b : NI) (he : ([(b2i (tW a.t && tW ⟨0, notI b.t.v⟩), 1), (b2i (partKA a b), 1), (b2i (tW b.t && tW ⟨0, notI a.t.v⟩), 1), (b2i (partKB a b), 0)] : Cs).map (·.1) = ([(b2i (tW a.t && tW ⟨0, notI b.t.v⟩), 1), (b2i (partKA a b), 1), (b2i (tW b.t && tW ⟨0, notI a.t.v⟩), 1), (b2i (partKB a b), 0)] : Cs).map (·.2)) (w : World) : Calls Tryz.prog 82 #[VN a, VN b] w fun e w' => e = .returned (V3 nil3) ∧ Gr w w' :=
  rk hk9_ok (oAt 82 [(21, true), (32, false)]) (cs := ([(b2i (tW a.t && tW ⟨0, notI b.t.v⟩), 1), (b2i (partKA a b), 1), (b2i (tW b.t && tW ⟨0, notI a.t.v⟩), 1), (b2i (partKB a b), 0)] : Cs)) rfl (by kernel_rfl) (by kernel_rfl) he w
set_option maxHeartbeats 0 in
set_option maxRecDepth 1000000 in
theorem part_2 (a b : NI) (he : ([(b2i (tW a.t && tW ⟨0, notI b.t.v⟩), 1), (b2i (partKA a b), 0), (b2i (tW b.t && tW ⟨0, notI a.t.v⟩), 1), (b2i (partKB a b), 1)] : Cs).map (·.1) = ([(b2i (tW a.t && tW ⟨0, notI b.t.v⟩), 1), (b2i (partKA a b), 0), (b2i (tW b.t && tW ⟨0, notI a.t.v⟩), 1), (b2i (partKB a b), 1)] : Cs).map (·.2)) (w : World) : Calls Tryz.prog 82 #[VN a, VN b] w fun e w' => e = .returned (V3 nil3) ∧ Gr w w' :=
  rk hk9_ok (oAt 82 [(21, false), (32, true)]) (cs := ([(b2i (tW a.t && tW ⟨0, notI b.t.v⟩), 1), (b2i (partKA a b), 0), (b2i (tW b.t && tW ⟨0, notI a.t.v⟩), 1), (b2i (partKB a b), 1)] : Cs)) rfl (by kernel_rfl) (by kernel_rfl) he w
set_option maxHeartbeats 0 in
set_option maxRecDepth 1000000 in
theorem part_3 (a b : NI) (he : ([(b2i (tW a.t && tW ⟨0, notI b.t.v⟩), 1), (b2i (partKA a b), 0), (b2i (tW b.t && tW ⟨0, notI a.t.v⟩), 1), (b2i (partKB a b), 0)] : Cs).map (·.1) = ([(b2i (tW a.t && tW ⟨0, notI b.t.v⟩), 1), (b2i (partKA a b), 0), (b2i (tW b.t && tW ⟨0, notI a.t.v⟩), 1), (b2i (partKB a b), 0)] : Cs).map (·.2)) (w : World) : Calls Tryz.prog 82 #[VN a, VN b] w fun e w' => e = .returned (V3 nil3) ∧ Gr w w' :=
  rk hk9_ok (oAt 82 [(21, false), (32, false)]) (cs := ([(b2i (tW a.t && tW ⟨0, notI b.t.v⟩), 1), (b2i (partKA a b), 0), (b2i (tW b.t && tW ⟨0, notI a.t.v⟩), 1), (b2i (partKB a b), 0)] : Cs)) rfl (by kernel_rfl) (by kernel_rfl) he w
theorem c_part (a b : NI) (hw : (nW a && nW b) = true) (w : World) : Calls Tryz.prog 82 #[VN a, VN b] w fun e w' => e = .returned (V3 (partI a b)) ∧ Gr w w' := by
  unfold nW at hw
  simp only [Bool.and_eq_true] at hw
  have h1 : (tW a.t && tW ⟨0, notI b.t.v⟩) = true := by rw [hw.1.1, tW_mk rfl (uB_not _)]; rfl
  have h2 : (tW b.t && tW ⟨0, notI a.t.v⟩) = true := by rw [hw.2.1, tW_mk rfl (uB_not _)]; rfl
  cases k0 : (partKA a b) with
  | true =>
    cases k1 : (partKB a b) with
    | true =>
      exact ret_eq (by simp only [partI, k0, k1, ↓reduceIte]) (part_0 a b (csT h1 (csT k0 (csT h2 (csT k1 csN)))) w)
    | false =>
      exact ret_eq (by simp only [partI, k0, k1, Bool.false_eq_true, ↓reduceIte]) (part_1 a b (csT h1 (csT k0 (csT h2 (csF k1 csN)))) w)
  | false =>
    cases k1 : (partKB a b) with
    | true =>
      exact ret_eq (by simp only [partI, k0, Bool.false_eq_true, ↓reduceIte]) (part_2 a b (csT h1 (csF k0 (csT h2 (csT k1 csN)))) w)
    | false =>
      exact ret_eq (by simp only [partI, k0, Bool.false_eq_true, ↓reduceIte]) (part_3 a b (csT h1 (csF k0 (csT h2 (csF k1 csN)))) w)
def hk_part : Hook := fun f args _ =>
  if Nat.beq f 82 then
    match args with
    | [.agg ⟨[.int .u64 a0, .int .u64 a1, .int .u64 a2, .int .u64 a3, .int .i64 a4, .int .i64 a5]⟩, .agg ⟨[.int .u64 b0, .int .u64 b1, .int .u64 b2, .int .u64 b3, .int .i64 b4, .int .i64 b5]⟩] => some (V3 (partI (⟨⟨a0, a1⟩, ⟨a2, a3, a4, a5⟩⟩ : NI) (⟨⟨b0, b1⟩, ⟨b2, b3, b4, b5⟩⟩ : NI)), [(b2i (nW (⟨⟨a0, a1⟩, ⟨a2, a3, a4, a5⟩⟩ : NI) && nW (⟨⟨b0, b1⟩, ⟨b2, b3, b4, b5⟩⟩ : NI)), 1)])
    | _ => none
  else none
theorem hk_part_ok : HookOk Tryz.prog hk_part := by
  intro f args h v cs hv hc wb k s w H
  unfold hk_part at hv
  split at hv
  · rename_i hf
    obtain rfl := Nat.eq_of_beq_eq_true hf
    split at hv
    · rename_i a0 a1 a2 a3 a4 a5 b0 b1 b2 b3 b4 b5
      cases hv
      have hw := pair1 hc rfl
      exact c_part (⟨⟨a0, a1⟩, ⟨a2, a3, a4, a5⟩⟩ : NI) (⟨⟨b0, b1⟩, ⟨b2, b3, b4, b5⟩⟩ : NI) hw w
    · cases hv
  · cases hv
def comN (a b : NI) : NI := ⟨tBothI a.t b.t, sBothI a.s b.s⟩
def comI (a b : NI) : NI := if tBothKI a.t b.t then (if sBothKI a.s b.s then tightI (comN a b) else nilN) else nilN
def comK (a b : NI) : Bool := if tBothKI a.t b.t then (if sBothKI a.s b.s then tightK (comN a b) else false) else false
theorem nW_com (a b : NI) : nW (comN a b) = true := by unfold nW comN; simp only [tBothI, sBothI, tW_tN, sW_sN, Bool.and_self]
set_option maxHeartbeats 0 in
set_option maxRecDepth 1000000 in
theorem common_0 (a b : NI) (he : ([(b2i (tW a.t && tW b.t), 1), (b2i (tBothKI a.t b.t), 1), (b2i (sW a.s && sW b.s), 1), (b2i (sBothKI a.s b.s), 1), (b2i (nW (comN a b)), 1)] : Cs).map (·.1) = ([(b2i (tW a.t && tW b.t), 1), (b2i (tBothKI a.t b.t), 1), (b2i (sW a.s && sW b.s), 1), (b2i (sBothKI a.s b.s), 1), (b2i (nW (comN a b)), 1)] : Cs).map (·.2)) (w : World) : Calls Tryz.prog 78 #[VN a, VN b] w fun e w' => e = .returned (.tuple ⟨[VN (tightI (comN a b)), .bool (tightK (comN a b))]⟩) ∧ Gr w w' :=
  rk hk9_ok (oAt 78 [(17, true), (25, true)]) (cs := ([(b2i (tW a.t && tW b.t), 1), (b2i (tBothKI a.t b.t), 1), (b2i (sW a.s && sW b.s), 1), (b2i (sBothKI a.s b.s), 1), (b2i (nW (comN a b)), 1)] : Cs)) rfl (by kernel_rfl) (by kernel_rfl) he w
set_option maxHeartbeats 0 in
set_option maxRecDepth 1000000 in
theorem common_1 (a b : NI) (he : ([(b2i (tW a.t && tW b.t), 1), (b2i (tBothKI a.t b.t), 1), (b2i (sW a.s && sW b.s), 1), (b2i (sBothKI a.s b.s), 0)] : Cs).map (·.1) = ([(b2i (tW a.t && tW b.t), 1), (b2i (tBothKI a.t b.t), 1), (b2i (sW a.s && sW b.s), 1), (b2i (sBothKI a.s b.s), 0)] : Cs).map (·.2)) (w : World) : Calls Tryz.prog 78 #[VN a, VN b] w fun e w' => e = .returned (.tuple ⟨[VN nilN, .bool false]⟩) ∧ Gr w w' :=
  rk hk9_ok (oAt 78 [(17, true), (25, false)]) (cs := ([(b2i (tW a.t && tW b.t), 1), (b2i (tBothKI a.t b.t), 1), (b2i (sW a.s && sW b.s), 1), (b2i (sBothKI a.s b.s), 0)] : Cs)) rfl (by kernel_rfl) (by kernel_rfl) he w
set_option maxHeartbeats 0 in
set_option maxRecDepth 1000000 in
theorem common_2 (a b : NI) (he : ([(b2i (tW a.t && tW b.t), 1), (b2i (tBothKI a.t b.t), 0), (b2i (sW a.s && sW b.s), 1), (b2i (sBothKI a.s b.s), 1)] : Cs).map (·.1) = ([(b2i (tW a.t && tW b.t), 1), (b2i (tBothKI a.t b.t), 0), (b2i (sW a.s && sW b.s), 1), (b2i (sBothKI a.s b.s), 1)] : Cs).map (·.2)) (w : World) : Calls Tryz.prog 78 #[VN a, VN b] w fun e w' => e = .returned (.tuple ⟨[VN nilN, .bool false]⟩) ∧ Gr w w' :=
  rk hk9_ok (oAt 78 [(17, false), (25, true)]) (cs := ([(b2i (tW a.t && tW b.t), 1), (b2i (tBothKI a.t b.t), 0), (b2i (sW a.s && sW b.s), 1), (b2i (sBothKI a.s b.s), 1)] : Cs)) rfl (by kernel_rfl) (by kernel_rfl) he w
set_option maxHeartbeats 0 in
set_option maxRecDepth 1000000 in
theorem common_3 (a b : NI) (he : ([(b2i (tW a.t && tW b.t), 1), (b2i (tBothKI a.t b.t), 0), (b2i (sW a.s && sW b.s), 1), (b2i (sBothKI a.s b.s), 0)] : Cs).map (·.1) = ([(b2i (tW a.t && tW b.t), 1), (b2i (tBothKI a.t b.t), 0), (b2i (sW a.s && sW b.s), 1), (b2i (sBothKI a.s b.s), 0)] : Cs).map (·.2)) (w : World) : Calls Tryz.prog 78 #[VN a, VN b] w fun e w' => e = .returned (.tuple ⟨[VN nilN, .bool false]⟩) ∧ Gr w w' :=
  rk hk9_ok (oAt 78 [(17, false), (25, false)]) (cs := ([(b2i (tW a.t && tW b.t), 1), (b2i (tBothKI a.t b.t), 0), (b2i (sW a.s && sW b.s), 1), (b2i (sBothKI a.s b.s), 0)] : Cs)) rfl (by kernel_rfl) (by kernel_rfl) he w
theorem c_common (a b : NI) (hw : (nW a && nW b) = true) (w : World) : Calls Tryz.prog 78 #[VN a, VN b] w fun e w' => e = .returned (.tuple ⟨[VN (comI a b), .bool (comK a b)]⟩) ∧ Gr w w' := by
  unfold nW at hw
  simp only [Bool.and_eq_true] at hw
  have h1 : (tW a.t && tW b.t) = true := by rw [hw.1.1, hw.2.1]; rfl
  have h2 : (sW a.s && sW b.s) = true := by rw [hw.1.2, hw.2.2]; rfl
  have h3 := nW_com a b
  cases k0 : (tBothKI a.t b.t) with
  | true =>
    cases k1 : (sBothKI a.s b.s) with
    | true =>
      exact ret_eq (by simp only [comI, comK, k0, k1, ↓reduceIte]) (common_0 a b (csT h1 (csT k0 (csT h2 (csT k1 (csT h3 csN))))) w)
    | false =>
      exact ret_eq (by simp only [comI, comK, k0, k1, Bool.false_eq_true, ↓reduceIte]) (common_1 a b (csT h1 (csT k0 (csT h2 (csF k1 csN)))) w)
  | false =>
    cases k1 : (sBothKI a.s b.s) with
    | true =>
      exact ret_eq (by simp only [comI, comK, k0, Bool.false_eq_true, ↓reduceIte]) (common_2 a b (csT h1 (csF k0 (csT h2 (csT k1 csN)))) w)
    | false =>
      exact ret_eq (by simp only [comI, comK, k0, Bool.false_eq_true, ↓reduceIte]) (common_3 a b (csT h1 (csF k0 (csT h2 (csF k1 csN)))) w)
def hk_common : Hook := fun f args _ =>
  if Nat.beq f 78 then
    match args with
    | [.agg ⟨[.int .u64 a0, .int .u64 a1, .int .u64 a2, .int .u64 a3, .int .i64 a4, .int .i64 a5]⟩, .agg ⟨[.int .u64 b0, .int .u64 b1, .int .u64 b2, .int .u64 b3, .int .i64 b4, .int .i64 b5]⟩] => some (.tuple ⟨[VN (comI (⟨⟨a0, a1⟩, ⟨a2, a3, a4, a5⟩⟩ : NI) (⟨⟨b0, b1⟩, ⟨b2, b3, b4, b5⟩⟩ : NI)), .bool (comK (⟨⟨a0, a1⟩, ⟨a2, a3, a4, a5⟩⟩ : NI) (⟨⟨b0, b1⟩, ⟨b2, b3, b4, b5⟩⟩ : NI))]⟩, [(b2i (nW (⟨⟨a0, a1⟩, ⟨a2, a3, a4, a5⟩⟩ : NI) && nW (⟨⟨b0, b1⟩, ⟨b2, b3, b4, b5⟩⟩ : NI)), 1)])
    | _ => none
  else none
theorem hk_common_ok : HookOk Tryz.prog hk_common := by
  intro f args h v cs hv hc wb k s w H
  unfold hk_common at hv
  split at hv
  · rename_i hf
    obtain rfl := Nat.eq_of_beq_eq_true hf
    split at hv
    · rename_i a0 a1 a2 a3 a4 a5 b0 b1 b2 b3 b4 b5
      cases hv
      have hw := pair1 hc rfl
      exact c_common (⟨⟨a0, a1⟩, ⟨a2, a3, a4, a5⟩⟩ : NI) (⟨⟨b0, b1⟩, ⟨b2, b3, b4, b5⟩⟩ : NI) hw w
    · cases hv
  · cases hv
def n3W (r : N3) : Bool := nW r.1 && nW r.2.1
theorem zB_minI {x y : Int} (hx : zB x = true) (hy : zB y = true) : zB (minI x y) = true := by unfold minI; split <;> assumption
theorem zB_maxI {x y : Int} (hx : zB x = true) (hy : zB y = true) : zB (maxI x y) = true := by unfold maxI; split <;> assumption
theorem uB_minI {x y : Int} (hx : uB x = true) (hy : uB y = true) : uB (minI x y) = true := by unfold minI; split <;> assumption
theorem uB_maxI {x y : Int} (hx : uB x = true) (hy : uB y = true) : uB (maxI x y) = true := by unfold maxI; split <;> assumption
theorem nW_nil : nW nilN = true := rfl
theorem n3_nil : n3W nil3 = true := rfl
theorem nW_mk {n : NI} (ht : tW n.t = true) (h1 : uB n.s.lo = true) (h2 : uB n.s.hi = true) (h3 : zB n.s.slo = true) (h4 : zB n.s.shi = true) : nW n = true := by
  unfold nW sW; rw [ht, h1, h2, h3, h4]; rfl
theorem nW_out {n : NI} (h : nW n = true) : tW n.t = true ∧ uB n.s.lo = true ∧ uB n.s.hi = true ∧ zB n.s.slo = true ∧ zB n.s.shi = true := by
  unfold nW sW at h
  simp only [Bool.and_eq_true] at h
  exact ⟨h.1, h.2.1.1.1, h.2.1.1.2, h.2.1.2, h.2.2⟩
theorem n3_mk {x y : NI} {k : Bool} (hx : nW x = true) (hy : nW y = true) : n3W (x, y, k) = true := by unfold n3W; rw [hx, hy]; rfl
theorem nW_without {a : NI} (ha : nW a = true) (v : Int) : nW (withoutI a v) = true := by
  obtain ⟨t, h1, h2, h3, h4⟩ := nW_out ha
  refine nW_mk t ?_ ?_ ?_ ?_ <;> (unfold withoutI; simp only; split <;> first | assumption | exact u64_uB _ | exact i64_zB _)
theorem n3_less (s g : Bool) {a b : NI} (ha : nW a = true) (hb : nW b = true) : n3W (lessI s g a b) = true := by
  obtain ⟨t, h1, h2, h3, h4⟩ := nW_out ha
  obtain ⟨u, g1, g2, g3, g4⟩ := nW_out hb
  cases s <;> cases g <;> simp only [lessI]
  · split
    · rfl
    · exact n3_mk (nW_mk t h1 (uB_minI h2 (u64_uB _)) h3 h4) (nW_mk u (uB_maxI g1 (u64_uB _)) g2 g3 g4)
  · split
    · rfl
    · split
      · rfl
      · exact n3_mk (nW_mk t h1 (uB_minI h2 (u64_uB _)) h3 h4) (nW_mk u (uB_maxI g1 (u64_uB _)) g2 g3 g4)
  · split
    · rfl
    · exact n3_mk (nW_mk t h1 h2 h3 (zB_minI h4 (i64_zB _))) (nW_mk u g1 g2 (zB_maxI g3 (i64_zB _)) g4)
  · split
    · rfl
    · split
      · rfl
      · exact n3_mk (nW_mk t h1 h2 h3 (zB_minI h4 (i64_zB _))) (nW_mk u g1 g2 (zB_maxI g3 (i64_zB _)) g4)
theorem n3_differ {a b : NI} (ha : nW a = true) (hb : nW b = true) : n3W (differI a b) = true := by
  unfold differI
  split
  · split
    · exact n3_mk ha hb
    · exact n3_mk ha (nW_without hb _)
  · split
    · exact n3_mk (nW_without ha _) hb
    · exact n3_mk ha hb
theorem nW_t {a : NI} (ha : nW a = true) {t : TI} (ht : tW t = true) : nW ⟨t, a.s⟩ = true := by
  unfold nW at ha ⊢
  simp only [Bool.and_eq_true] at ha ⊢
  exact ⟨ht, ha.2⟩
theorem n3_meet {a b : NI} (ha : nW a = true) (hb : nW b = true) : n3W (meetI a b) = true := by
  unfold meetI
  split
  · rfl
  · split
    · exact n3_mk (nW_t ha (tW_tN _)) (nW_t hb (tW_tN _))
    · exact n3_mk ha hb
theorem n3_part {a b : NI} (ha : nW a = true) (hb : nW b = true) : n3W (partI a b) = true := by
  unfold partI
  split
  · split
    · exact n3_mk (nW_t ha (tW_tN _)) (nW_t hb (tW_tN _))
    · rfl
  · rfl
def hkm2 : Hook := orHook hk_less (orHook hk_differ (orHook hk_meet (orHook hk_part (orHook hk_common (hk9)))))
theorem hkm2_ok : HookOk Tryz.prog hkm2 := orHook_ok hk_less_ok (orHook_ok hk_differ_ok (orHook_ok hk_meet_ok (orHook_ok hk_part_ok (orHook_ok hk_common_ok (hk9_ok)))))
def sw3 (r : N3) : N3 := (r.2.1, r.1, r.2.2)
theorem n3_sw {r : N3} (h : n3W r = true) : n3W (sw3 r) = true := by unfold n3W at h ⊢; rw [Bool.and_comm]; exact h
def isC (op : Int) : Bool := op == 16 || op == 80 || op == 64 || op == 255 || op == 32 || op == 48 || op == 96 || op == 112 || op == 160 || op == 176 || op == 192 || op == 208
def preI (op : Int) (a b : NI) : N3 :=
  if op = 32 then sw3 (lessI false true b a) else if op = 48 then sw3 (lessI false false b a) else if op = 96 then sw3 (lessI true true b a) else if op = 112 then sw3 (lessI true false b a)
  else if op = 160 then lessI false true a b else if op = 176 then lessI false false a b else if op = 192 then lessI true true a b else if op = 208 then lessI true false a b
  else if op = 80 then differI a b else if op = 64 then meetI a b else partI a b
def finI (r : N3) : N3 := if r.2.2 then (if tightK r.1 then (if tightK r.2.1 then (tightI r.1, tightI r.2.1, true) else nil3) else nil3) else nil3
def cmpI (op : Int) (a b : NI) : N3 := if op = 16 then (comI a b, comI a b, comK a b) else finI (preI op a b)
theorem n3_pre (op : Int) {a b : NI} (ha : nW a = true) (hb : nW b = true) : n3W (preI op a b) = true := by
  unfold preI
  split
  · exact n3_sw (n3_less _ _ hb ha)
  split
  · exact n3_sw (n3_less _ _ hb ha)
  split
  · exact n3_sw (n3_less _ _ hb ha)
  split
  · exact n3_sw (n3_less _ _ hb ha)
  split
  · exact n3_less _ _ ha hb
  split
  · exact n3_less _ _ ha hb
  split
  · exact n3_less _ _ ha hb
  split
  · exact n3_less _ _ ha hb
  split
  · exact n3_differ ha hb
  split
  · exact n3_meet ha hb
  · exact n3_part ha hb
theorem nW_comI (a b : NI) : nW (comI a b) = true := by
  unfold comI
  split
  · split
    · exact nW_tight _
    · exact nW_nil
  · exact nW_nil
theorem n3_fin (r : N3) : n3W (finI r) = true := by
  unfold finI
  split
  · split
    · split
      · exact n3_mk (nW_tight _) (nW_tight _)
      · exact n3_nil
    · exact n3_nil
  · exact n3_nil
theorem n3_cmp (op : Int) (a b : NI) : n3W (cmpI op a b) = true := by
  unfold cmpI
  split
  · exact n3_mk (nW_comI _ _) (nW_comI _ _)
  · exact n3_fin _
set_option maxHeartbeats 0 in
set_option maxRecDepth 1000000 in
theorem cmp16_0 (a b : NI) (he : ([(b2i (nW a && nW b), 1)] : Cs).map (·.1) = ([(b2i (nW a && nW b), 1)] : Cs).map (·.2)) (w : World) : Calls Tryz.prog 33 #[.int .u8 16, VN a, VN b] w fun e w' => e = .returned (V3 (comI a b, comI a b, comK a b)) ∧ Gr w w' :=
  rk hkm2_ok noOrc (cs := ([(b2i (nW a && nW b), 1)] : Cs)) rfl (by kernel_rfl) (by kernel_rfl) he w
theorem c_cmp16 (a b : NI) (hw : (nW a && nW b) = true) (w : World) : Calls Tryz.prog 33 #[.int .u8 16, VN a, VN b] w fun e w' => e = .returned (V3 (cmpI 16 a b)) ∧ Gr w w' := by
  exact ret_eq (by rfl) (cmp16_0 a b (csT hw csN) w)
set_option maxHeartbeats 0 in
set_option maxRecDepth 1000000 in
theorem cmp32_0 (a b : NI) (he : ([(b2i ((preI 32 a b).2.2), 1), (b2i (nW (preI 32 a b).1), 1), (b2i (tightK (preI 32 a b).1), 1), (b2i (nW (preI 32 a b).2.1), 1), (b2i (tightK (preI 32 a b).2.1), 1)] : Cs).map (·.1) = ([(b2i ((preI 32 a b).2.2), 1), (b2i (nW (preI 32 a b).1), 1), (b2i (tightK (preI 32 a b).1), 1), (b2i (nW (preI 32 a b).2.1), 1), (b2i (tightK (preI 32 a b).2.1), 1)] : Cs).map (·.2)) (w : World) : Calls Tryz.prog 33 #[.int .u8 32, VN a, VN b] w fun e w' => e = .returned (V3 (tightI (preI 32 a b).1, tightI (preI 32 a b).2.1, true)) ∧ Gr w w' :=
  rk hkm2_ok (oAt 33 [(53, true), (104, true), (109, true)]) (cs := ([(b2i ((preI 32 a b).2.2), 1), (b2i (nW (preI 32 a b).1), 1), (b2i (tightK (preI 32 a b).1), 1), (b2i (nW (preI 32 a b).2.1), 1), (b2i (tightK (preI 32 a b).2.1), 1)] : Cs)) rfl (by kernel_rfl) (by kernel_rfl) he w
set_option maxHeartbeats 0 in
set_option maxRecDepth 1000000 in
theorem cmp32_1 (a b : NI) (he : ([(b2i ((preI 32 a b).2.2), 1), (b2i (nW (preI 32 a b).1), 1), (b2i (tightK (preI 32 a b).1), 1), (b2i (nW (preI 32 a b).2.1), 1), (b2i (tightK (preI 32 a b).2.1), 0)] : Cs).map (·.1) = ([(b2i ((preI 32 a b).2.2), 1), (b2i (nW (preI 32 a b).1), 1), (b2i (tightK (preI 32 a b).1), 1), (b2i (nW (preI 32 a b).2.1), 1), (b2i (tightK (preI 32 a b).2.1), 0)] : Cs).map (·.2)) (w : World) : Calls Tryz.prog 33 #[.int .u8 32, VN a, VN b] w fun e w' => e = .returned (V3 nil3) ∧ Gr w w' :=
  rk hkm2_ok (oAt 33 [(53, true), (104, true), (109, false)]) (cs := ([(b2i ((preI 32 a b).2.2), 1), (b2i (nW (preI 32 a b).1), 1), (b2i (tightK (preI 32 a b).1), 1), (b2i (nW (preI 32 a b).2.1), 1), (b2i (tightK (preI 32 a b).2.1), 0)] : Cs)) rfl (by kernel_rfl) (by kernel_rfl) he w
set_option maxHeartbeats 0 in
set_option maxRecDepth 1000000 in
theorem cmp32_2 (a b : NI) (he : ([(b2i ((preI 32 a b).2.2), 1), (b2i (nW (preI 32 a b).1), 1), (b2i (tightK (preI 32 a b).1), 0), (b2i (nW (preI 32 a b).2.1), 1), (b2i (tightK (preI 32 a b).2.1), 1)] : Cs).map (·.1) = ([(b2i ((preI 32 a b).2.2), 1), (b2i (nW (preI 32 a b).1), 1), (b2i (tightK (preI 32 a b).1), 0), (b2i (nW (preI 32 a b).2.1), 1), (b2i (tightK (preI 32 a b).2.1), 1)] : Cs).map (·.2)) (w : World) : Calls Tryz.prog 33 #[.int .u8 32, VN a, VN b] w fun e w' => e = .returned (V3 nil3) ∧ Gr w w' :=
  rk hkm2_ok (oAt 33 [(53, true), (104, false), (109, true)]) (cs := ([(b2i ((preI 32 a b).2.2), 1), (b2i (nW (preI 32 a b).1), 1), (b2i (tightK (preI 32 a b).1), 0), (b2i (nW (preI 32 a b).2.1), 1), (b2i (tightK (preI 32 a b).2.1), 1)] : Cs)) rfl (by kernel_rfl) (by kernel_rfl) he w
set_option maxHeartbeats 0 in
set_option maxRecDepth 1000000 in
theorem cmp32_3 (a b : NI) (he : ([(b2i ((preI 32 a b).2.2), 1), (b2i (nW (preI 32 a b).1), 1), (b2i (tightK (preI 32 a b).1), 0), (b2i (nW (preI 32 a b).2.1), 1), (b2i (tightK (preI 32 a b).2.1), 0)] : Cs).map (·.1) = ([(b2i ((preI 32 a b).2.2), 1), (b2i (nW (preI 32 a b).1), 1), (b2i (tightK (preI 32 a b).1), 0), (b2i (nW (preI 32 a b).2.1), 1), (b2i (tightK (preI 32 a b).2.1), 0)] : Cs).map (·.2)) (w : World) : Calls Tryz.prog 33 #[.int .u8 32, VN a, VN b] w fun e w' => e = .returned (V3 nil3) ∧ Gr w w' :=
  rk hkm2_ok (oAt 33 [(53, true), (104, false), (109, false)]) (cs := ([(b2i ((preI 32 a b).2.2), 1), (b2i (nW (preI 32 a b).1), 1), (b2i (tightK (preI 32 a b).1), 0), (b2i (nW (preI 32 a b).2.1), 1), (b2i (tightK (preI 32 a b).2.1), 0)] : Cs)) rfl (by kernel_rfl) (by kernel_rfl) he w
set_option maxHeartbeats 0 in
set_option maxRecDepth 1000000 in
theorem cmp32_4 (a b : NI) (he : ([(b2i ((preI 32 a b).2.2), 0)] : Cs).map (·.1) = ([(b2i ((preI 32 a b).2.2), 0)] : Cs).map (·.2)) (w : World) : Calls Tryz.prog 33 #[.int .u8 32, VN a, VN b] w fun e w' => e = .returned (V3 nil3) ∧ Gr w w' :=
  rk hkm2_ok (oAt 33 [(53, false)]) (cs := ([(b2i ((preI 32 a b).2.2), 0)] : Cs)) rfl (by kernel_rfl) (by kernel_rfl) he w
theorem c_cmp32 (a b : NI) (hw : (nW a && nW b) = true) (w : World) : Calls Tryz.prog 33 #[.int .u8 32, VN a, VN b] w fun e w' => e = .returned (V3 (finI (preI 32 a b))) ∧ Gr w w' := by
  have hb := hw
  simp only [Bool.and_eq_true] at hb
  have hn := n3_pre 32 hb.1 hb.2
  unfold n3W at hn
  simp only [Bool.and_eq_true] at hn
  have h1 := hn.1
  have h2 := hn.2
  cases k0 : ((preI 32 a b).2.2) with
  | true =>
    cases k1 : (tightK (preI 32 a b).1) with
    | true =>
      cases k2 : (tightK (preI 32 a b).2.1) with
      | true =>
        exact ret_eq (by simp only [finI, k0, k1, k2, ↓reduceIte]) (cmp32_0 a b (csT k0 (csT h1 (csT k1 (csT h2 (csT k2 csN))))) w)
      | false =>
        exact ret_eq (by simp only [finI, k0, k1, k2, Bool.false_eq_true, ↓reduceIte]) (cmp32_1 a b (csT k0 (csT h1 (csT k1 (csT h2 (csF k2 csN))))) w)
    | false =>
      cases k2 : (tightK (preI 32 a b).2.1) with
      | true =>
        exact ret_eq (by simp only [finI, k0, k1, Bool.false_eq_true, ↓reduceIte]) (cmp32_2 a b (csT k0 (csT h1 (csF k1 (csT h2 (csT k2 csN))))) w)
      | false =>
        exact ret_eq (by simp only [finI, k0, k1, Bool.false_eq_true, ↓reduceIte]) (cmp32_3 a b (csT k0 (csT h1 (csF k1 (csT h2 (csF k2 csN))))) w)
  | false =>
    exact ret_eq (by simp only [finI, k0, Bool.false_eq_true, ↓reduceIte]) (cmp32_4 a b (csF k0 csN) w)
set_option maxHeartbeats 0 in
set_option maxRecDepth 1000000 in
theorem cmp48_0 (a b : NI) (he : ([(b2i ((preI 48 a b).2.2), 1), (b2i (nW (preI 48 a b).1), 1), (b2i (tightK (preI 48 a b).1), 1), (b2i (nW (preI 48 a b).2.1), 1), (b2i (tightK (preI 48 a b).2.1), 1)] : Cs).map (·.1) = ([(b2i ((preI 48 a b).2.2), 1), (b2i (nW (preI 48 a b).1), 1), (b2i (tightK (preI 48 a b).1), 1), (b2i (nW (preI 48 a b).2.1), 1), (b2i (tightK (preI 48 a b).2.1), 1)] : Cs).map (·.2)) (w : World) : Calls Tryz.prog 33 #[.int .u8 48, VN a, VN b] w fun e w' => e = .returned (V3 (tightI (preI 48 a b).1, tightI (preI 48 a b).2.1, true)) ∧ Gr w w' :=
  rk hkm2_ok (oAt 33 [(53, true), (104, true), (109, true)]) (cs := ([(b2i ((preI 48 a b).2.2), 1), (b2i (nW (preI 48 a b).1), 1), (b2i (tightK (preI 48 a b).1), 1), (b2i (nW (preI 48 a b).2.1), 1), (b2i (tightK (preI 48 a b).2.1), 1)] : Cs)) rfl (by kernel_rfl) (by kernel_rfl) he w
set_option maxHeartbeats 0 in
set_option maxRecDepth 1000000 in
theorem cmp48_1 (a b : NI) (he : ([(b2i ((preI 48 a b).2.2), 1), (b2i (nW (preI 48 a b).1), 1), (b2i (tightK (preI 48 a b).1), 1), (b2i (nW (preI 48 a b).2.1), 1), (b2i (tightK (preI 48 a b).2.1), 0)] : Cs).map (·.1) = ([(b2i ((preI 48 a b).2.2), 1), (b2i (nW (preI 48 a b).1), 1), (b2i (tightK (preI 48 a b).1), 1), (b2i (nW (preI 48 a b).2.1), 1), (b2i (tightK (preI 48 a b).2.1), 0)] : Cs).map (·.2)) (w : World) : Calls Tryz.prog 33 #[.int .u8 48, VN a, VN b] w fun e w' => e = .returned (V3 nil3) ∧ Gr w w' :=
  rk hkm2_ok (oAt 33 [(53, true), (104, true), (109, false)]) (cs := ([(b2i ((preI 48 a b).2.2), 1), (b2i (nW (preI 48 a b).1), 1), (b2i (tightK (preI 48 a b).1), 1), (b2i (nW (preI 48 a b).2.1), 1), (b2i (tightK (preI 48 a b).2.1), 0)] : Cs)) rfl (by kernel_rfl) (by kernel_rfl) he w
set_option maxHeartbeats 0 in
set_option maxRecDepth 1000000 in
theorem cmp48_2 (a b : NI) (he : ([(b2i ((preI 48 a b).2.2), 1), (b2i (nW (preI 48 a b).1), 1), (b2i (tightK (preI 48 a b).1), 0), (b2i (nW (preI 48 a b).2.1), 1), (b2i (tightK (preI 48 a b).2.1), 1)] : Cs).map (·.1) = ([(b2i ((preI 48 a b).2.2), 1), (b2i (nW (preI 48 a b).1), 1), (b2i (tightK (preI 48 a b).1), 0), (b2i (nW (preI 48 a b).2.1), 1), (b2i (tightK (preI 48 a b).2.1), 1)] : Cs).map (·.2)) (w : World) : Calls Tryz.prog 33 #[.int .u8 48, VN a, VN b] w fun e w' => e = .returned (V3 nil3) ∧ Gr w w' :=
  rk hkm2_ok (oAt 33 [(53, true), (104, false), (109, true)]) (cs := ([(b2i ((preI 48 a b).2.2), 1), (b2i (nW (preI 48 a b).1), 1), (b2i (tightK (preI 48 a b).1), 0), (b2i (nW (preI 48 a b).2.1), 1), (b2i (tightK (preI 48 a b).2.1), 1)] : Cs)) rfl (by kernel_rfl) (by kernel_rfl) he w
set_option maxHeartbeats 0 in
set_option maxRecDepth 1000000 in
theorem cmp48_3 (a b : NI) (he : ([(b2i ((preI 48 a b).2.2), 1), (b2i (nW (preI 48 a b).1), 1), (b2i (tightK (preI 48 a b).1), 0), (b2i (nW (preI 48 a b).2.1), 1), (b2i (tightK (preI 48 a b).2.1), 0)] : Cs).map (·.1) = ([(b2i ((preI 48 a b).2.2), 1), (b2i (nW (preI 48 a b).1), 1), (b2i (tightK (preI 48 a b).1), 0), (b2i (nW (preI 48 a b).2.1), 1), (b2i (tightK (preI 48 a b).2.1), 0)] : Cs).map (·.2)) (w : World) : Calls Tryz.prog 33 #[.int .u8 48, VN a, VN b] w fun e w' => e = .returned (V3 nil3) ∧ Gr w w' :=
  rk hkm2_ok (oAt 33 [(53, true), (104, false), (109, false)]) (cs := ([(b2i ((preI 48 a b).2.2), 1), (b2i (nW (preI 48 a b).1), 1), (b2i (tightK (preI 48 a b).1), 0), (b2i (nW (preI 48 a b).2.1), 1), (b2i (tightK (preI 48 a b).2.1), 0)] : Cs)) rfl (by kernel_rfl) (by kernel_rfl) he w
set_option maxHeartbeats 0 in
set_option maxRecDepth 1000000 in
theorem cmp48_4 (a b : NI) (he : ([(b2i ((preI 48 a b).2.2), 0)] : Cs).map (·.1) = ([(b2i ((preI 48 a b).2.2), 0)] : Cs).map (·.2)) (w : World) : Calls Tryz.prog 33 #[.int .u8 48, VN a, VN b] w fun e w' => e = .returned (V3 nil3) ∧ Gr w w' :=
  rk hkm2_ok (oAt 33 [(53, false)]) (cs := ([(b2i ((preI 48 a b).2.2), 0)] : Cs)) rfl (by kernel_rfl) (by kernel_rfl) he w
theorem c_cmp48 (a b : NI) (hw : (nW a && nW b) = true) (w : World) : Calls Tryz.prog 33 #[.int .u8 48, VN a, VN b] w fun e w' => e = .returned (V3 (finI (preI 48 a b))) ∧ Gr w w' := by
  have hb := hw
  simp only [Bool.and_eq_true] at hb
  have hn := n3_pre 48 hb.1 hb.2
  unfold n3W at hn
  simp only [Bool.and_eq_true] at hn
  have h1 := hn.1
  have h2 := hn.2
  cases k0 : ((preI 48 a b).2.2) with
  | true =>
    cases k1 : (tightK (preI 48 a b).1) with
    | true =>
      cases k2 : (tightK (preI 48 a b).2.1) with
      | true =>
        exact ret_eq (by simp only [finI, k0, k1, k2, ↓reduceIte]) (cmp48_0 a b (csT k0 (csT h1 (csT k1 (csT h2 (csT k2 csN))))) w)
      | false =>
        exact ret_eq (by simp only [finI, k0, k1, k2, Bool.false_eq_true, ↓reduceIte]) (cmp48_1 a b (csT k0 (csT h1 (csT k1 (csT h2 (csF k2 csN))))) w)
    | false =>
      cases k2 : (tightK (preI 48 a b).2.1) with
      | true =>
        exact ret_eq (by simp only [finI, k0, k1, Bool.false_eq_true, ↓reduceIte]) (cmp48_2 a b (csT k0 (csT h1 (csF k1 (csT h2 (csT k2 csN))))) w)
      | false =>
        exact ret_eq (by simp only [finI, k0, k1, Bool.false_eq_true, ↓reduceIte]) (cmp48_3 a b (csT k0 (csT h1 (csF k1 (csT h2 (csF k2 csN))))) w)
  | false =>
    exact ret_eq (by simp only [finI, k0, Bool.false_eq_true, ↓reduceIte]) (cmp48_4 a b (csF k0 csN) w)
set_option maxHeartbeats 0 in
set_option maxRecDepth 1000000 in
theorem cmp96_0 (a b : NI) (he : ([(b2i ((preI 96 a b).2.2), 1), (b2i (nW (preI 96 a b).1), 1), (b2i (tightK (preI 96 a b).1), 1), (b2i (nW (preI 96 a b).2.1), 1), (b2i (tightK (preI 96 a b).2.1), 1)] : Cs).map (·.1) = ([(b2i ((preI 96 a b).2.2), 1), (b2i (nW (preI 96 a b).1), 1), (b2i (tightK (preI 96 a b).1), 1), (b2i (nW (preI 96 a b).2.1), 1), (b2i (tightK (preI 96 a b).2.1), 1)] : Cs).map (·.2)) (w : World) : Calls Tryz.prog 33 #[.int .u8 96, VN a, VN b] w fun e w' => e = .returned (V3 (tightI (preI 96 a b).1, tightI (preI 96 a b).2.1, true)) ∧ Gr w w' :=
  rk hkm2_ok (oAt 33 [(53, true), (104, true), (109, true)]) (cs := ([(b2i ((preI 96 a b).2.2), 1), (b2i (nW (preI 96 a b).1), 1), (b2i (tightK (preI 96 a b).1), 1), (b2i (nW (preI 96 a b).2.1), 1), (b2i (tightK (preI 96 a b).2.1), 1)] : Cs)) rfl (by kernel_rfl) (by kernel_rfl) he w
set_option maxHeartbeats 0 in
set_option maxRecDepth 1000000 in
theorem cmp96_1 (a b : NI) (he : ([(b2i ((preI 96 a b).2.2), 1), (b2i (nW (preI 96 a b).1), 1), (b2i (tightK (preI 96 a b).1), 1), (b2i (nW (preI 96 a b).2.1), 1), (b2i (tightK (preI 96 a b).2.1), 0)] : Cs).map (·.1) = ([(b2i ((preI 96 a b).2.2), 1), (b2i (nW (preI 96 a b).1), 1), (b2i (tightK (preI 96 a b).1), 1), (b2i (nW (preI 96 a b).2.1), 1), (b2i (tightK (preI 96 a b).2.1), 0)] : Cs).map (·.2)) (w : World) : Calls Tryz.prog 33 #[.int .u8 96, VN a, VN b] w fun e w' => e = .returned (V3 nil3) ∧ Gr w w' :=
  rk hkm2_ok (oAt 33 [(53, true), (104, true), (109, false)]) (cs := ([(b2i ((preI 96 a b).2.2), 1), (b2i (nW (preI 96 a b).1), 1), (b2i (tightK (preI 96 a b).1), 1), (b2i (nW (preI 96 a b).2.1), 1), (b2i (tightK (preI 96 a b).2.1), 0)] : Cs)) rfl (by kernel_rfl) (by kernel_rfl) he w
set_option maxHeartbeats 0 in
set_option maxRecDepth 1000000 in
theorem cmp96_2 (a b : NI) (he : ([(b2i ((preI 96 a b).2.2), 1), (b2i (nW (preI 96 a b).1), 1), (b2i (tightK (preI 96 a b).1), 0), (b2i (nW (preI 96 a b).2.1), 1), (b2i (tightK (preI 96 a b).2.1), 1)] : Cs).map (·.1) = ([(b2i ((preI 96 a b).2.2), 1), (b2i (nW (preI 96 a b).1), 1), (b2i (tightK (preI 96 a b).1), 0), (b2i (nW (preI 96 a b).2.1), 1), (b2i (tightK (preI 96 a b).2.1), 1)] : Cs).map (·.2)) (w : World) : Calls Tryz.prog 33 #[.int .u8 96, VN a, VN b] w fun e w' => e = .returned (V3 nil3) ∧ Gr w w' :=
  rk hkm2_ok (oAt 33 [(53, true), (104, false), (109, true)]) (cs := ([(b2i ((preI 96 a b).2.2), 1), (b2i (nW (preI 96 a b).1), 1), (b2i (tightK (preI 96 a b).1), 0), (b2i (nW (preI 96 a b).2.1), 1), (b2i (tightK (preI 96 a b).2.1), 1)] : Cs)) rfl (by kernel_rfl) (by kernel_rfl) he w
set_option maxHeartbeats 0 in
set_option maxRecDepth 1000000 in
theorem cmp96_3 (a b : NI) (he : ([(b2i ((preI 96 a b).2.2), 1), (b2i (nW (preI 96 a b).1), 1), (b2i (tightK (preI 96 a b).1), 0), (b2i (nW (preI 96 a b).2.1), 1), (b2i (tightK (preI 96 a b).2.1), 0)] : Cs).map (·.1) = ([(b2i ((preI 96 a b).2.2), 1), (b2i (nW (preI 96 a b).1), 1), (b2i (tightK (preI 96 a b).1), 0), (b2i (nW (preI 96 a b).2.1), 1), (b2i (tightK (preI 96 a b).2.1), 0)] : Cs).map (·.2)) (w : World) : Calls Tryz.prog 33 #[.int .u8 96, VN a, VN b] w fun e w' => e = .returned (V3 nil3) ∧ Gr w w' :=
  rk hkm2_ok (oAt 33 [(53, true), (104, false), (109, false)]) (cs := ([(b2i ((preI 96 a b).2.2), 1), (b2i (nW (preI 96 a b).1), 1), (b2i (tightK (preI 96 a b).1), 0), (b2i (nW (preI 96 a b).2.1), 1), (b2i (tightK (preI 96 a b).2.1), 0)] : Cs)) rfl (by kernel_rfl) (by kernel_rfl) he w
set_option maxHeartbeats 0 in
set_option maxRecDepth 1000000 in
theorem cmp96_4 (a b : NI) (he : ([(b2i ((preI 96 a b).2.2), 0)] : Cs).map (·.1) = ([(b2i ((preI 96 a b).2.2), 0)] : Cs).map (·.2)) (w : World) : Calls Tryz.prog 33 #[.int .u8 96, VN a, VN b] w fun e w' => e = .returned (V3 nil3) ∧ Gr w w' :=
  rk hkm2_ok (oAt 33 [(53, false)]) (cs := ([(b2i ((preI 96 a b).2.2), 0)] : Cs)) rfl (by kernel_rfl) (by kernel_rfl) he w
theorem c_cmp96 (a b : NI) (hw : (nW a && nW b) = true) (w : World) : Calls Tryz.prog 33 #[.int .u8 96, VN a, VN b] w fun e w' => e = .returned (V3 (finI (preI 96 a b))) ∧ Gr w w' := by
  have hb := hw
  simp only [Bool.and_eq_true] at hb
  have hn := n3_pre 96 hb.1 hb.2
  unfold n3W at hn
  simp only [Bool.and_eq_true] at hn
  have h1 := hn.1
  have h2 := hn.2
  cases k0 : ((preI 96 a b).2.2) with
  | true =>
    cases k1 : (tightK (preI 96 a b).1) with
    | true =>
      cases k2 : (tightK (preI 96 a b).2.1) with
      | true =>
        exact ret_eq (by simp only [finI, k0, k1, k2, ↓reduceIte]) (cmp96_0 a b (csT k0 (csT h1 (csT k1 (csT h2 (csT k2 csN))))) w)
      | false =>
        exact ret_eq (by simp only [finI, k0, k1, k2, Bool.false_eq_true, ↓reduceIte]) (cmp96_1 a b (csT k0 (csT h1 (csT k1 (csT h2 (csF k2 csN))))) w)
    | false =>
      cases k2 : (tightK (preI 96 a b).2.1) with
      | true =>
        exact ret_eq (by simp only [finI, k0, k1, Bool.false_eq_true, ↓reduceIte]) (cmp96_2 a b (csT k0 (csT h1 (csF k1 (csT h2 (csT k2 csN))))) w)
      | false =>
        exact ret_eq (by simp only [finI, k0, k1, Bool.false_eq_true, ↓reduceIte]) (cmp96_3 a b (csT k0 (csT h1 (csF k1 (csT h2 (csF k2 csN))))) w)
  | false =>
    exact ret_eq (by simp only [finI, k0, Bool.false_eq_true, ↓reduceIte]) (cmp96_4 a b (csF k0 csN) w)
set_option maxHeartbeats 0 in
set_option maxRecDepth 1000000 in
theorem cmp112_0 (a b : NI) (he : ([(b2i ((preI 112 a b).2.2), 1), (b2i (nW (preI 112 a b).1), 1), (b2i (tightK (preI 112 a b).1), 1), (b2i (nW (preI 112 a b).2.1), 1), (b2i (tightK (preI 112 a b).2.1), 1)] : Cs).map (·.1) = ([(b2i ((preI 112 a b).2.2), 1), (b2i (nW (preI 112 a b).1), 1), (b2i (tightK (preI 112 a b).1), 1), (b2i (nW (preI 112 a b).2.1), 1), (b2i (tightK (preI 112 a b).2.1), 1)] : Cs).map (·.2)) (w : World) : Calls Tryz.prog 33 #[.int .u8 112, VN a, VN b] w fun e w' => e = .returned (V3 (tightI (preI 112 a b).1, tightI (preI 112 a b).2.1, true)) ∧ Gr w w' :=
  rk hkm2_ok (oAt 33 [(53, true), (104, true), (109, true)]) (cs := ([(b2i ((preI 112 a b).2.2), 1), (b2i (nW (preI 112 a b).1), 1), (b2i (tightK (preI 112 a b).1), 1), (b2i (nW (preI 112 a b).2.1), 1), (b2i (tightK (preI 112 a b).2.1), 1)] : Cs)) rfl (by kernel_rfl) (by kernel_rfl) he w
set_option maxHeartbeats 0 in
set_option maxRecDepth 1000000 in
theorem cmp112_1 (a b : NI) (he : ([(b2i ((preI 112 a b).2.2), 1), (b2i (nW (preI 112 a b).1), 1), (b2i (tightK (preI 112 a b).1), 1), (b2i (nW (preI 112 a b).2.1), 1), (b2i (tightK (preI 112 a b).2.1), 0)] : Cs).map (·.1) = ([(b2i ((preI 112 a b).2.2), 1), (b2i (nW (preI 112 a b).1), 1), (b2i (tightK (preI 112 a b).1), 1), (b2i (nW (preI 112 a b).2.1), 1), (b2i (tightK (preI 112 a b).2.1), 0)] : Cs).map (·.2)) (w : World) : Calls Tryz.prog 33 #[.int .u8 112, VN a, VN b] w fun e w' => e = .returned (V3 nil3) ∧ Gr w w' :=
  rk hkm2_ok (oAt 33 [(53, true), (104, true), (109, false)]) (cs := ([(b2i ((preI 112 a b).2.2), 1), (b2i (nW (preI 112 a b).1), 1), (b2i (tightK (preI 112 a b).1), 1), (b2i (nW (preI 112 a b).2.1), 1), (b2i (tightK (preI 112 a b).2.1), 0)] : Cs)) rfl (by kernel_rfl) (by kernel_rfl) he w
set_option maxHeartbeats 0 in
set_option maxRecDepth 1000000 in
theorem cmp112_2 (a b : NI) (he : ([(b2i ((preI 112 a b).2.2), 1), (b2i (nW (preI 112 a b).1), 1), (b2i (tightK (preI 112 a b).1), 0), (b2i (nW (preI 112 a b).2.1), 1), (b2i (tightK (preI 112 a b).2.1), 1)] : Cs).map (·.1) = ([(b2i ((preI 112 a b).2.2), 1), (b2i (nW (preI 112 a b).1), 1), (b2i (tightK (preI 112 a b).1), 0), (b2i (nW (preI 112 a b).2.1), 1), (b2i (tightK (preI 112 a b).2.1), 1)] : Cs).map (·.2)) (w : World) : Calls Tryz.prog 33 #[.int .u8 112, VN a, VN b] w fun e w' => e = .returned (V3 nil3) ∧ Gr w w' :=
  rk hkm2_ok (oAt 33 [(53, true), (104, false), (109, true)]) (cs := ([(b2i ((preI 112 a b).2.2), 1), (b2i (nW (preI 112 a b).1), 1), (b2i (tightK (preI 112 a b).1), 0), (b2i (nW (preI 112 a b).2.1), 1), (b2i (tightK (preI 112 a b).2.1), 1)] : Cs)) rfl (by kernel_rfl) (by kernel_rfl) he w
set_option maxHeartbeats 0 in
set_option maxRecDepth 1000000 in
theorem cmp112_3 (a b : NI) (he : ([(b2i ((preI 112 a b).2.2), 1), (b2i (nW (preI 112 a b).1), 1), (b2i (tightK (preI 112 a b).1), 0), (b2i (nW (preI 112 a b).2.1), 1), (b2i (tightK (preI 112 a b).2.1), 0)] : Cs).map (·.1) = ([(b2i ((preI 112 a b).2.2), 1), (b2i (nW (preI 112 a b).1), 1), (b2i (tightK (preI 112 a b).1), 0), (b2i (nW (preI 112 a b).2.1), 1), (b2i (tightK (preI 112 a b).2.1), 0)] : Cs).map (·.2)) (w : World) : Calls Tryz.prog 33 #[.int .u8 112, VN a, VN b] w fun e w' => e = .returned (V3 nil3) ∧ Gr w w' :=
  rk hkm2_ok (oAt 33 [(53, true), (104, false), (109, false)]) (cs := ([(b2i ((preI 112 a b).2.2), 1), (b2i (nW (preI 112 a b).1), 1), (b2i (tightK (preI 112 a b).1), 0), (b2i (nW (preI 112 a b).2.1), 1), (b2i (tightK (preI 112 a b).2.1), 0)] : Cs)) rfl (by kernel_rfl) (by kernel_rfl) he w
set_option maxHeartbeats 0 in
set_option maxRecDepth 1000000 in
theorem cmp112_4 (a b : NI) (he : ([(b2i ((preI 112 a b).2.2), 0)] : Cs).map (·.1) = ([(b2i ((preI 112 a b).2.2), 0)] : Cs).map (·.2)) (w : World) : Calls Tryz.prog 33 #[.int .u8 112, VN a, VN b] w fun e w' => e = .returned (V3 nil3) ∧ Gr w w' :=
  rk hkm2_ok (oAt 33 [(53, false)]) (cs := ([(b2i ((preI 112 a b).2.2), 0)] : Cs)) rfl (by kernel_rfl) (by kernel_rfl) he w
theorem c_cmp112 (a b : NI) (hw : (nW a && nW b) = true) (w : World) : Calls Tryz.prog 33 #[.int .u8 112, VN a, VN b] w fun e w' => e = .returned (V3 (finI (preI 112 a b))) ∧ Gr w w' := by
  have hb := hw
  simp only [Bool.and_eq_true] at hb
  have hn := n3_pre 112 hb.1 hb.2
  unfold n3W at hn
  simp only [Bool.and_eq_true] at hn
  have h1 := hn.1
  have h2 := hn.2
  cases k0 : ((preI 112 a b).2.2) with
  | true =>
    cases k1 : (tightK (preI 112 a b).1) with
    | true =>
      cases k2 : (tightK (preI 112 a b).2.1) with
      | true =>
        exact ret_eq (by simp only [finI, k0, k1, k2, ↓reduceIte]) (cmp112_0 a b (csT k0 (csT h1 (csT k1 (csT h2 (csT k2 csN))))) w)
      | false =>
        exact ret_eq (by simp only [finI, k0, k1, k2, Bool.false_eq_true, ↓reduceIte]) (cmp112_1 a b (csT k0 (csT h1 (csT k1 (csT h2 (csF k2 csN))))) w)
    | false =>
      cases k2 : (tightK (preI 112 a b).2.1) with
      | true =>
        exact ret_eq (by simp only [finI, k0, k1, Bool.false_eq_true, ↓reduceIte]) (cmp112_2 a b (csT k0 (csT h1 (csF k1 (csT h2 (csT k2 csN))))) w)
      | false =>
        exact ret_eq (by simp only [finI, k0, k1, Bool.false_eq_true, ↓reduceIte]) (cmp112_3 a b (csT k0 (csT h1 (csF k1 (csT h2 (csF k2 csN))))) w)
  | false =>
    exact ret_eq (by simp only [finI, k0, Bool.false_eq_true, ↓reduceIte]) (cmp112_4 a b (csF k0 csN) w)
set_option maxHeartbeats 0 in
set_option maxRecDepth 1000000 in
theorem cmp160_0 (a b : NI) (he : ([(b2i ((preI 160 a b).2.2), 1), (b2i (nW (preI 160 a b).1), 1), (b2i (tightK (preI 160 a b).1), 1), (b2i (nW (preI 160 a b).2.1), 1), (b2i (tightK (preI 160 a b).2.1), 1)] : Cs).map (·.1) = ([(b2i ((preI 160 a b).2.2), 1), (b2i (nW (preI 160 a b).1), 1), (b2i (tightK (preI 160 a b).1), 1), (b2i (nW (preI 160 a b).2.1), 1), (b2i (tightK (preI 160 a b).2.1), 1)] : Cs).map (·.2)) (w : World) : Calls Tryz.prog 33 #[.int .u8 160, VN a, VN b] w fun e w' => e = .returned (V3 (tightI (preI 160 a b).1, tightI (preI 160 a b).2.1, true)) ∧ Gr w w' :=
  rk hkm2_ok (oAt 33 [(77, true), (104, true), (109, true)]) (cs := ([(b2i ((preI 160 a b).2.2), 1), (b2i (nW (preI 160 a b).1), 1), (b2i (tightK (preI 160 a b).1), 1), (b2i (nW (preI 160 a b).2.1), 1), (b2i (tightK (preI 160 a b).2.1), 1)] : Cs)) rfl (by kernel_rfl) (by kernel_rfl) he w
set_option maxHeartbeats 0 in
set_option maxRecDepth 1000000 in
theorem cmp160_1 (a b : NI) (he : ([(b2i ((preI 160 a b).2.2), 1), (b2i (nW (preI 160 a b).1), 1), (b2i (tightK (preI 160 a b).1), 1), (b2i (nW (preI 160 a b).2.1), 1), (b2i (tightK (preI 160 a b).2.1), 0)] : Cs).map (·.1) = ([(b2i ((preI 160 a b).2.2), 1), (b2i (nW (preI 160 a b).1), 1), (b2i (tightK (preI 160 a b).1), 1), (b2i (nW (preI 160 a b).2.1), 1), (b2i (tightK (preI 160 a b).2.1), 0)] : Cs).map (·.2)) (w : World) : Calls Tryz.prog 33 #[.int .u8 160, VN a, VN b] w fun e w' => e = .returned (V3 nil3) ∧ Gr w w' :=
  rk hkm2_ok (oAt 33 [(77, true), (104, true), (109, false)]) (cs := ([(b2i ((preI 160 a b).2.2), 1), (b2i (nW (preI 160 a b).1), 1), (b2i (tightK (preI 160 a b).1), 1), (b2i (nW (preI 160 a b).2.1), 1), (b2i (tightK (preI 160 a b).2.1), 0)] : Cs)) rfl (by kernel_rfl) (by kernel_rfl) he w
set_option maxHeartbeats 0 in
set_option maxRecDepth 1000000 in
theorem cmp160_2 (a b : NI) (he : ([(b2i ((preI 160 a b).2.2), 1), (b2i (nW (preI 160 a b).1), 1), (b2i (tightK (preI 160 a b).1), 0), (b2i (nW (preI 160 a b).2.1), 1), (b2i (tightK (preI 160 a b).2.1), 1)] : Cs).map (·.1) = ([(b2i ((preI 160 a b).2.2), 1), (b2i (nW (preI 160 a b).1), 1), (b2i (tightK (preI 160 a b).1), 0), (b2i (nW (preI 160 a b).2.1), 1), (b2i (tightK (preI 160 a b).2.1), 1)] : Cs).map (·.2)) (w : World) : Calls Tryz.prog 33 #[.int .u8 160, VN a, VN b] w fun e w' => e = .returned (V3 nil3) ∧ Gr w w' :=
  rk hkm2_ok (oAt 33 [(77, true), (104, false), (109, true)]) (cs := ([(b2i ((preI 160 a b).2.2), 1), (b2i (nW (preI 160 a b).1), 1), (b2i (tightK (preI 160 a b).1), 0), (b2i (nW (preI 160 a b).2.1), 1), (b2i (tightK (preI 160 a b).2.1), 1)] : Cs)) rfl (by kernel_rfl) (by kernel_rfl) he w
set_option maxHeartbeats 0 in
set_option maxRecDepth 1000000 in
theorem cmp160_3 (a b : NI) (he : ([(b2i ((preI 160 a b).2.2), 1), (b2i (nW (preI 160 a b).1), 1), (b2i (tightK (preI 160 a b).1), 0), (b2i (nW (preI 160 a b).2.1), 1), (b2i (tightK (preI 160 a b).2.1), 0)] : Cs).map (·.1) = ([(b2i ((preI 160 a b).2.2), 1), (b2i (nW (preI 160 a b).1), 1), (b2i (tightK (preI 160 a b).1), 0), (b2i (nW (preI 160 a b).2.1), 1), (b2i (tightK (preI 160 a b).2.1), 0)] : Cs).map (·.2)) (w : World) : Calls Tryz.prog 33 #[.int .u8 160, VN a, VN b] w fun e w' => e = .returned (V3 nil3) ∧ Gr w w' :=
  rk hkm2_ok (oAt 33 [(77, true), (104, false), (109, false)]) (cs := ([(b2i ((preI 160 a b).2.2), 1), (b2i (nW (preI 160 a b).1), 1), (b2i (tightK (preI 160 a b).1), 0), (b2i (nW (preI 160 a b).2.1), 1), (b2i (tightK (preI 160 a b).2.1), 0)] : Cs)) rfl (by kernel_rfl) (by kernel_rfl) he w
set_option maxHeartbeats 0 in
set_option maxRecDepth 1000000 in
theorem cmp160_4 (a b : NI) (he : ([(b2i ((preI 160 a b).2.2), 0)] : Cs).map (·.1) = ([(b2i ((preI 160 a b).2.2), 0)] : Cs).map (·.2)) (w : World) : Calls Tryz.prog 33 #[.int .u8 160, VN a, VN b] w fun e w' => e = .returned (V3 nil3) ∧ Gr w w' :=
  rk hkm2_ok (oAt 33 [(77, false)]) (cs := ([(b2i ((preI 160 a b).2.2), 0)] : Cs)) rfl (by kernel_rfl) (by kernel_rfl) he w
theorem c_cmp160 (a b : NI) (hw : (nW a && nW b) = true) (w : World) : Calls Tryz.prog 33 #[.int .u8 160, VN a, VN b] w fun e w' => e = .returned (V3 (finI (preI 160 a b))) ∧ Gr w w' := by
  have hb := hw
  simp only [Bool.and_eq_true] at hb
  have hn := n3_pre 160 hb.1 hb.2
  unfold n3W at hn
  simp only [Bool.and_eq_true] at hn
  have h1 := hn.1
  have h2 := hn.2
  cases k0 : ((preI 160 a b).2.2) with
  | true =>
    cases k1 : (tightK (preI 160 a b).1) with
    | true =>
      cases k2 : (tightK (preI 160 a b).2.1) with
      | true =>
        exact ret_eq (by simp only [finI, k0, k1, k2, ↓reduceIte]) (cmp160_0 a b (csT k0 (csT h1 (csT k1 (csT h2 (csT k2 csN))))) w)
      | false =>
        exact ret_eq (by simp only [finI, k0, k1, k2, Bool.false_eq_true, ↓reduceIte]) (cmp160_1 a b (csT k0 (csT h1 (csT k1 (csT h2 (csF k2 csN))))) w)
    | false =>
      cases k2 : (tightK (preI 160 a b).2.1) with
      | true =>
        exact ret_eq (by simp only [finI, k0, k1, Bool.false_eq_true, ↓reduceIte]) (cmp160_2 a b (csT k0 (csT h1 (csF k1 (csT h2 (csT k2 csN))))) w)
      | false =>
        exact ret_eq (by simp only [finI, k0, k1, Bool.false_eq_true, ↓reduceIte]) (cmp160_3 a b (csT k0 (csT h1 (csF k1 (csT h2 (csF k2 csN))))) w)
  | false =>
    exact ret_eq (by simp only [finI, k0, Bool.false_eq_true, ↓reduceIte]) (cmp160_4 a b (csF k0 csN) w)
set_option maxHeartbeats 0 in
set_option maxRecDepth 1000000 in
theorem cmp176_0 (a b : NI) (he : ([(b2i ((preI 176 a b).2.2), 1), (b2i (nW (preI 176 a b).1), 1), (b2i (tightK (preI 176 a b).1), 1), (b2i (nW (preI 176 a b).2.1), 1), (b2i (tightK (preI 176 a b).2.1), 1)] : Cs).map (·.1) = ([(b2i ((preI 176 a b).2.2), 1), (b2i (nW (preI 176 a b).1), 1), (b2i (tightK (preI 176 a b).1), 1), (b2i (nW (preI 176 a b).2.1), 1), (b2i (tightK (preI 176 a b).2.1), 1)] : Cs).map (·.2)) (w : World) : Calls Tryz.prog 33 #[.int .u8 176, VN a, VN b] w fun e w' => e = .returned (V3 (tightI (preI 176 a b).1, tightI (preI 176 a b).2.1, true)) ∧ Gr w w' :=
  rk hkm2_ok (oAt 33 [(77, true), (104, true), (109, true)]) (cs := ([(b2i ((preI 176 a b).2.2), 1), (b2i (nW (preI 176 a b).1), 1), (b2i (tightK (preI 176 a b).1), 1), (b2i (nW (preI 176 a b).2.1), 1), (b2i (tightK (preI 176 a b).2.1), 1)] : Cs)) rfl (by kernel_rfl) (by kernel_rfl) he w
set_option maxHeartbeats 0 in
set_option maxRecDepth 1000000 in
theorem cmp176_1 (a b : NI) (he : ([(b2i ((preI 176 a b).2.2), 1), (b2i (nW (preI 176 a b).1), 1), (b2i (tightK (preI 176 a b).1), 1), (b2i (nW (preI 176 a b).2.1), 1), (b2i (tightK (preI 176 a b).2.1), 0)] : Cs).map (·.1) = ([(b2i ((preI 176 a b).2.2), 1), (b2i (nW (preI 176 a b).1), 1), (b2i (tightK (preI 176 a b).1), 1), (b2i (nW (preI 176 a b).2.1), 1), (b2i (tightK (preI 176 a b).2.1), 0)] : Cs).map (·.2)) (w : World) : Calls Tryz.prog 33 #[.int .u8 176, VN a, VN b] w fun e w' => e = .returned (V3 nil3) ∧ Gr w w' :=
  rk hkm2_ok (oAt 33 [(77, true), (104, true), (109, false)]) (cs := ([(b2i ((preI 176 a b).2.2), 1), (b2i (nW (preI 176 a b).1), 1), (b2i (tightK (preI 176 a b).1), 1), (b2i (nW (preI 176 a b).2.1), 1), (b2i (tightK (preI 176 a b).2.1), 0)] : Cs)) rfl (by kernel_rfl) (by kernel_rfl) he w
set_option maxHeartbeats 0 in
set_option maxRecDepth 1000000 in
theorem cmp176_2 (a b : NI) (he : ([(b2i ((preI 176 a b).2.2), 1), (b2i (nW (preI 176 a b).1), 1), (b2i (tightK (preI 176 a b).1), 0), (b2i (nW (preI 176 a b).2.1), 1), (b2i (tightK (preI 176 a b).2.1), 1)] : Cs).map (·.1) = ([(b2i ((preI 176 a b).2.2), 1), (b2i (nW (preI 176 a b).1), 1), (b2i (tightK (preI 176 a b).1), 0), (b2i (nW (preI 176 a b).2.1), 1), (b2i (tightK (preI 176 a b).2.1), 1)] : Cs).map (·.2)) (w : World) : Calls Tryz.prog 33 #[.int .u8 176, VN a, VN b] w fun e w' => e = .returned (V3 nil3) ∧ Gr w w' :=
  rk hkm2_ok (oAt 33 [(77, true), (104, false), (109, true)]) (cs := ([(b2i ((preI 176 a b).2.2), 1), (b2i (nW (preI 176 a b).1), 1), (b2i (tightK (preI 176 a b).1), 0), (b2i (nW (preI 176 a b).2.1), 1), (b2i (tightK (preI 176 a b).2.1), 1)] : Cs)) rfl (by kernel_rfl) (by kernel_rfl) he w
set_option maxHeartbeats 0 in
set_option maxRecDepth 1000000 in
theorem cmp176_3 (a b : NI) (he : ([(b2i ((preI 176 a b).2.2), 1), (b2i (nW (preI 176 a b).1), 1), (b2i (tightK (preI 176 a b).1), 0), (b2i (nW (preI 176 a b).2.1), 1), (b2i (tightK (preI 176 a b).2.1), 0)] : Cs).map (·.1) = ([(b2i ((preI 176 a b).2.2), 1), (b2i (nW (preI 176 a b).1), 1), (b2i (tightK (preI 176 a b).1), 0), (b2i (nW (preI 176 a b).2.1), 1), (b2i (tightK (preI 176 a b).2.1), 0)] : Cs).map (·.2)) (w : World) : Calls Tryz.prog 33 #[.int .u8 176, VN a, VN b] w fun e w' => e = .returned (V3 nil3) ∧ Gr w w' :=
  rk hkm2_ok (oAt 33 [(77, true), (104, false), (109, false)]) (cs := ([(b2i ((preI 176 a b).2.2), 1), (b2i (nW (preI 176 a b).1), 1), (b2i (tightK (preI 176 a b).1), 0), (b2i (nW (preI 176 a b).2.1), 1), (b2i (tightK (preI 176 a b).2.1), 0)] : Cs)) rfl (by kernel_rfl) (by kernel_rfl) he w
set_option maxHeartbeats 0 in
set_option maxRecDepth 1000000 in
theorem cmp176_4 (a b : NI) (he : ([(b2i ((preI 176 a b).2.2), 0)] : Cs).map (·.1) = ([(b2i ((preI 176 a b).2.2), 0)] : Cs).map (·.2)) (w : World) : Calls Tryz.prog 33 #[.int .u8 176, VN a, VN b] w fun e w' => e = .returned (V3 nil3) ∧ Gr w w' :=
  rk hkm2_ok (oAt 33 [(77, false)]) (cs := ([(b2i ((preI 176 a b).2.2), 0)] : Cs)) rfl (by kernel_rfl) (by kernel_rfl) he w
theorem c_cmp176 (a b : NI) (hw : (nW a && nW b) = true) (w : World) : Calls Tryz.prog 33 #[.int .u8 176, VN a, VN b] w fun e w' => e = .returned (V3 (finI (preI 176 a b))) ∧ Gr w w' := by
  have hb := hw
  simp only [Bool.and_eq_true] at hb
  have hn := n3_pre 176 hb.1 hb.2
  unfold n3W at hn
  simp only [Bool.and_eq_true] at hn
  have h1 := hn.1
  have h2 := hn.2
  cases k0 : ((preI 176 a b).2.2) with
  | true =>
    cases k1 : (tightK (preI 176 a b).1) with
    | true =>
      cases k2 : (tightK (preI 176 a b).2.1) with
      | true =>
        exact ret_eq (by simp only [finI, k0, k1, k2, ↓reduceIte]) (cmp176_0 a b (csT k0 (csT h1 (csT k1 (csT h2 (csT k2 csN))))) w)
      | false =>
        exact ret_eq (by simp only [finI, k0, k1, k2, Bool.false_eq_true, ↓reduceIte]) (cmp176_1 a b (csT k0 (csT h1 (csT k1 (csT h2 (csF k2 csN))))) w)
    | false =>
      cases k2 : (tightK (preI 176 a b).2.1) with
      | true =>
        exact ret_eq (by simp only [finI, k0, k1, Bool.false_eq_true, ↓reduceIte]) (cmp176_2 a b (csT k0 (csT h1 (csF k1 (csT h2 (csT k2 csN))))) w)
      | false =>
        exact ret_eq (by simp only [finI, k0, k1, Bool.false_eq_true, ↓reduceIte]) (cmp176_3 a b (csT k0 (csT h1 (csF k1 (csT h2 (csF k2 csN))))) w)
  | false =>
    exact ret_eq (by simp only [finI, k0, Bool.false_eq_true, ↓reduceIte]) (cmp176_4 a b (csF k0 csN) w)
set_option maxHeartbeats 0 in
set_option maxRecDepth 1000000 in
theorem cmp192_0 (a b : NI) (he : ([(b2i ((preI 192 a b).2.2), 1), (b2i (nW (preI 192 a b).1), 1), (b2i (tightK (preI 192 a b).1), 1), (b2i (nW (preI 192 a b).2.1), 1), (b2i (tightK (preI 192 a b).2.1), 1)] : Cs).map (·.1) = ([(b2i ((preI 192 a b).2.2), 1), (b2i (nW (preI 192 a b).1), 1), (b2i (tightK (preI 192 a b).1), 1), (b2i (nW (preI 192 a b).2.1), 1), (b2i (tightK (preI 192 a b).2.1), 1)] : Cs).map (·.2)) (w : World) : Calls Tryz.prog 33 #[.int .u8 192, VN a, VN b] w fun e w' => e = .returned (V3 (tightI (preI 192 a b).1, tightI (preI 192 a b).2.1, true)) ∧ Gr w w' :=
  rk hkm2_ok (oAt 33 [(77, true), (104, true), (109, true)]) (cs := ([(b2i ((preI 192 a b).2.2), 1), (b2i (nW (preI 192 a b).1), 1), (b2i (tightK (preI 192 a b).1), 1), (b2i (nW (preI 192 a b).2.1), 1), (b2i (tightK (preI 192 a b).2.1), 1)] : Cs)) rfl (by kernel_rfl) (by kernel_rfl) he w
set_option maxHeartbeats 0 in
set_option maxRecDepth 1000000 in
theorem cmp192_1 (a b : NI) (he : ([(b2i ((preI 192 a b).2.2), 1), (b2i (nW (preI 192 a b).1), 1), (b2i (tightK (preI 192 a b).1), 1), (b2i (nW (preI 192 a b).2.1), 1), (b2i (tightK (preI 192 a b).2.1), 0)] : Cs).map (·.1) = ([(b2i ((preI 192 a b).2.2), 1), (b2i (nW (preI 192 a b).1), 1), (b2i (tightK (preI 192 a b).1), 1), (b2i (nW (preI 192 a b).2.1), 1), (b2i (tightK (preI 192 a b).2.1), 0)] : Cs).map (·.2)) (w : World) : Calls Tryz.prog 33 #[.int .u8 192, VN a, VN b] w fun e w' => e = .returned (V3 nil3) ∧ Gr w w' :=
  rk hkm2_ok (oAt 33 [(77, true), (104, true), (109, false)]) (cs := ([(b2i ((preI 192 a b).2.2), 1), (b2i (nW (preI 192 a b).1), 1), (b2i (tightK (preI 192 a b).1), 1), (b2i (nW (preI 192 a b).2.1), 1), (b2i (tightK (preI 192 a b).2.1), 0)] : Cs)) rfl (by kernel_rfl) (by kernel_rfl) he w
set_option maxHeartbeats 0 in
set_option maxRecDepth 1000000 in
theorem cmp192_2 (a b : NI) (he : ([(b2i ((preI 192 a b).2.2), 1), (b2i (nW (preI 192 a b).1), 1), (b2i (tightK (preI 192 a b).1), 0), (b2i (nW (preI 192 a b).2.1), 1), (b2i (tightK (preI 192 a b).2.1), 1)] : Cs).map (·.1) = ([(b2i ((preI 192 a b).2.2), 1), (b2i (nW (preI 192 a b).1), 1), (b2i (tightK (preI 192 a b).1), 0), (b2i (nW (preI 192 a b).2.1), 1), (b2i (tightK (preI 192 a b).2.1), 1)] : Cs).map (·.2)) (w : World) : Calls Tryz.prog 33 #[.int .u8 192, VN a, VN b] w fun e w' => e = .returned (V3 nil3) ∧ Gr w w' :=
  rk hkm2_ok (oAt 33 [(77, true), (104, false), (109, true)]) (cs := ([(b2i ((preI 192 a b).2.2), 1), (b2i (nW (preI 192 a b).1), 1), (b2i (tightK (preI 192 a b).1), 0), (b2i (nW (preI 192 a b).2.1), 1), (b2i (tightK (preI 192 a b).2.1), 1)] : Cs)) rfl (by kernel_rfl) (by kernel_rfl) he w
set_option maxHeartbeats 0 in
set_option maxRecDepth 1000000 in
theorem cmp192_3 (a b : NI) (he : ([(b2i ((preI 192 a b).2.2), 1), (b2i (nW (preI 192 a b).1), 1), (b2i (tightK (preI 192 a b).1), 0), (b2i (nW (preI 192 a b).2.1), 1), (b2i (tightK (preI 192 a b).2.1), 0)] : Cs).map (·.1) = ([(b2i ((preI 192 a b).2.2), 1), (b2i (nW (preI 192 a b).1), 1), (b2i (tightK (preI 192 a b).1), 0), (b2i (nW (preI 192 a b).2.1), 1), (b2i (tightK (preI 192 a b).2.1), 0)] : Cs).map (·.2)) (w : World) : Calls Tryz.prog 33 #[.int .u8 192, VN a, VN b] w fun e w' => e = .returned (V3 nil3) ∧ Gr w w' :=
  rk hkm2_ok (oAt 33 [(77, true), (104, false), (109, false)]) (cs := ([(b2i ((preI 192 a b).2.2), 1), (b2i (nW (preI 192 a b).1), 1), (b2i (tightK (preI 192 a b).1), 0), (b2i (nW (preI 192 a b).2.1), 1), (b2i (tightK (preI 192 a b).2.1), 0)] : Cs)) rfl (by kernel_rfl) (by kernel_rfl) he w
set_option maxHeartbeats 0 in
set_option maxRecDepth 1000000 in
theorem cmp192_4 (a b : NI) (he : ([(b2i ((preI 192 a b).2.2), 0)] : Cs).map (·.1) = ([(b2i ((preI 192 a b).2.2), 0)] : Cs).map (·.2)) (w : World) : Calls Tryz.prog 33 #[.int .u8 192, VN a, VN b] w fun e w' => e = .returned (V3 nil3) ∧ Gr w w' :=
  rk hkm2_ok (oAt 33 [(77, false)]) (cs := ([(b2i ((preI 192 a b).2.2), 0)] : Cs)) rfl (by kernel_rfl) (by kernel_rfl) he w
theorem c_cmp192 (a b : NI) (hw : (nW a && nW b) = true) (w : World) : Calls Tryz.prog 33 #[.int .u8 192, VN a, VN b] w fun e w' => e = .returned (V3 (finI (preI 192 a b))) ∧ Gr w w' := by
  have hb := hw
  simp only [Bool.and_eq_true] at hb
  have hn := n3_pre 192 hb.1 hb.2
  unfold n3W at hn
  simp only [Bool.and_eq_true] at hn
  have h1 := hn.1
  have h2 := hn.2
  cases k0 : ((preI 192 a b).2.2) with
  | true =>
    cases k1 : (tightK (preI 192 a b).1) with
    | true =>
      cases k2 : (tightK (preI 192 a b).2.1) with
      | true =>
        exact ret_eq (by simp only [finI, k0, k1, k2, ↓reduceIte]) (cmp192_0 a b (csT k0 (csT h1 (csT k1 (csT h2 (csT k2 csN))))) w)
      | false =>
        exact ret_eq (by simp only [finI, k0, k1, k2, Bool.false_eq_true, ↓reduceIte]) (cmp192_1 a b (csT k0 (csT h1 (csT k1 (csT h2 (csF k2 csN))))) w)
    | false =>
      cases k2 : (tightK (preI 192 a b).2.1) with
      | true =>
        exact ret_eq (by simp only [finI, k0, k1, Bool.false_eq_true, ↓reduceIte]) (cmp192_2 a b (csT k0 (csT h1 (csF k1 (csT h2 (csT k2 csN))))) w)
      | false =>
        exact ret_eq (by simp only [finI, k0, k1, Bool.false_eq_true, ↓reduceIte]) (cmp192_3 a b (csT k0 (csT h1 (csF k1 (csT h2 (csF k2 csN))))) w)
  | false =>
    exact ret_eq (by simp only [finI, k0, Bool.false_eq_true, ↓reduceIte]) (cmp192_4 a b (csF k0 csN) w)
set_option maxHeartbeats 0 in
set_option maxRecDepth 1000000 in
theorem cmp208_0 (a b : NI) (he : ([(b2i ((preI 208 a b).2.2), 1), (b2i (nW (preI 208 a b).1), 1), (b2i (tightK (preI 208 a b).1), 1), (b2i (nW (preI 208 a b).2.1), 1), (b2i (tightK (preI 208 a b).2.1), 1)] : Cs).map (·.1) = ([(b2i ((preI 208 a b).2.2), 1), (b2i (nW (preI 208 a b).1), 1), (b2i (tightK (preI 208 a b).1), 1), (b2i (nW (preI 208 a b).2.1), 1), (b2i (tightK (preI 208 a b).2.1), 1)] : Cs).map (·.2)) (w : World) : Calls Tryz.prog 33 #[.int .u8 208, VN a, VN b] w fun e w' => e = .returned (V3 (tightI (preI 208 a b).1, tightI (preI 208 a b).2.1, true)) ∧ Gr w w' :=
  rk hkm2_ok (oAt 33 [(77, true), (104, true), (109, true)]) (cs := ([(b2i ((preI 208 a b).2.2), 1), (b2i (nW (preI 208 a b).1), 1), (b2i (tightK (preI 208 a b).1), 1), (b2i (nW (preI 208 a b).2.1), 1), (b2i (tightK (preI 208 a b).2.1), 1)] : Cs)) rfl (by kernel_rfl) (by kernel_rfl) he w
set_option maxHeartbeats 0 in
set_option maxRecDepth 1000000 in
theorem cmp208_1 (a b : NI) (he : ([(b2i ((preI 208 a b).2.2), 1), (b2i (nW (preI 208 a b).1), 1), (b2i (tightK (preI 208 a b).1), 1), (b2i (nW (preI 208 a b).2.1), 1), (b2i (tightK (preI 208 a b).2.1), 0)] : Cs).map (·.1) = ([(b2i ((preI 208 a b).2.2), 1), (b2i (nW (preI 208 a b).1), 1), (b2i (tightK (preI 208 a b).1), 1), (b2i (nW (preI 208 a b).2.1), 1), (b2i (tightK (preI 208 a b).2.1), 0)] : Cs).map (·.2)) (w : World) : Calls Tryz.prog 33 #[.int .u8 208, VN a, VN b] w fun e w' => e = .returned (V3 nil3) ∧ Gr w w' :=
  rk hkm2_ok (oAt 33 [(77, true), (104, true), (109, false)]) (cs := ([(b2i ((preI 208 a b).2.2), 1), (b2i (nW (preI 208 a b).1), 1), (b2i (tightK (preI 208 a b).1), 1), (b2i (nW (preI 208 a b).2.1), 1), (b2i (tightK (preI 208 a b).2.1), 0)] : Cs)) rfl (by kernel_rfl) (by kernel_rfl) he w
set_option maxHeartbeats 0 in
set_option maxRecDepth 1000000 in
theorem cmp208_2 (a b : NI) (he : ([(b2i ((preI 208 a b).2.2), 1), (b2i (nW (preI 208 a b).1), 1), (b2i (tightK (preI 208 a b).1), 0), (b2i (nW (preI 208 a b).2.1), 1), (b2i (tightK (preI 208 a b).2.1), 1)] : Cs).map (·.1) = ([(b2i ((preI 208 a b).2.2), 1), (b2i (nW (preI 208 a b).1), 1), (b2i (tightK (preI 208 a b).1), 0), (b2i (nW (preI 208 a b).2.1), 1), (b2i (tightK (preI 208 a b).2.1), 1)] : Cs).map (·.2)) (w : World) : Calls Tryz.prog 33 #[.int .u8 208, VN a, VN b] w fun e w' => e = .returned (V3 nil3) ∧ Gr w w' :=
  rk hkm2_ok (oAt 33 [(77, true), (104, false), (109, true)]) (cs := ([(b2i ((preI 208 a b).2.2), 1), (b2i (nW (preI 208 a b).1), 1), (b2i (tightK (preI 208 a b).1), 0), (b2i (nW (preI 208 a b).2.1), 1), (b2i (tightK (preI 208 a b).2.1), 1)] : Cs)) rfl (by kernel_rfl) (by kernel_rfl) he w
set_option maxHeartbeats 0 in
set_option maxRecDepth 1000000 in
theorem cmp208_3 (a b : NI) (he : ([(b2i ((preI 208 a b).2.2), 1), (b2i (nW (preI 208 a b).1), 1), (b2i (tightK (preI 208 a b).1), 0), (b2i (nW (preI 208 a b).2.1), 1), (b2i (tightK (preI 208 a b).2.1), 0)] : Cs).map (·.1) = ([(b2i ((preI 208 a b).2.2), 1), (b2i (nW (preI 208 a b).1), 1), (b2i (tightK (preI 208 a b).1), 0), (b2i (nW (preI 208 a b).2.1), 1), (b2i (tightK (preI 208 a b).2.1), 0)] : Cs).map (·.2)) (w : World) : Calls Tryz.prog 33 #[.int .u8 208, VN a, VN b] w fun e w' => e = .returned (V3 nil3) ∧ Gr w w' :=
  rk hkm2_ok (oAt 33 [(77, true), (104, false), (109, false)]) (cs := ([(b2i ((preI 208 a b).2.2), 1), (b2i (nW (preI 208 a b).1), 1), (b2i (tightK (preI 208 a b).1), 0), (b2i (nW (preI 208 a b).2.1), 1), (b2i (tightK (preI 208 a b).2.1), 0)] : Cs)) rfl (by kernel_rfl) (by kernel_rfl) he w
set_option maxHeartbeats 0 in
set_option maxRecDepth 1000000 in
theorem cmp208_4 (a b : NI) (he : ([(b2i ((preI 208 a b).2.2), 0)] : Cs).map (·.1) = ([(b2i ((preI 208 a b).2.2), 0)] : Cs).map (·.2)) (w : World) : Calls Tryz.prog 33 #[.int .u8 208, VN a, VN b] w fun e w' => e = .returned (V3 nil3) ∧ Gr w w' :=
  rk hkm2_ok (oAt 33 [(77, false)]) (cs := ([(b2i ((preI 208 a b).2.2), 0)] : Cs)) rfl (by kernel_rfl) (by kernel_rfl) he w
theorem c_cmp208 (a b : NI) (hw : (nW a && nW b) = true) (w : World) : Calls Tryz.prog 33 #[.int .u8 208, VN a, VN b] w fun e w' => e = .returned (V3 (finI (preI 208 a b))) ∧ Gr w w' := by
  have hb := hw
  simp only [Bool.and_eq_true] at hb
  have hn := n3_pre 208 hb.1 hb.2
  unfold n3W at hn
  simp only [Bool.and_eq_true] at hn
  have h1 := hn.1
  have h2 := hn.2
  cases k0 : ((preI 208 a b).2.2) with
  | true =>
    cases k1 : (tightK (preI 208 a b).1) with
    | true =>
      cases k2 : (tightK (preI 208 a b).2.1) with
      | true =>
        exact ret_eq (by simp only [finI, k0, k1, k2, ↓reduceIte]) (cmp208_0 a b (csT k0 (csT h1 (csT k1 (csT h2 (csT k2 csN))))) w)
      | false =>
        exact ret_eq (by simp only [finI, k0, k1, k2, Bool.false_eq_true, ↓reduceIte]) (cmp208_1 a b (csT k0 (csT h1 (csT k1 (csT h2 (csF k2 csN))))) w)
    | false =>
      cases k2 : (tightK (preI 208 a b).2.1) with
      | true =>
        exact ret_eq (by simp only [finI, k0, k1, Bool.false_eq_true, ↓reduceIte]) (cmp208_2 a b (csT k0 (csT h1 (csF k1 (csT h2 (csT k2 csN))))) w)
      | false =>
        exact ret_eq (by simp only [finI, k0, k1, Bool.false_eq_true, ↓reduceIte]) (cmp208_3 a b (csT k0 (csT h1 (csF k1 (csT h2 (csF k2 csN))))) w)
  | false =>
    exact ret_eq (by simp only [finI, k0, Bool.false_eq_true, ↓reduceIte]) (cmp208_4 a b (csF k0 csN) w)
set_option maxHeartbeats 0 in
set_option maxRecDepth 1000000 in
theorem cmp80_0 (a b : NI) (he : ([(b2i ((preI 80 a b).2.2), 1), (b2i (nW (preI 80 a b).1), 1), (b2i (tightK (preI 80 a b).1), 1), (b2i (nW (preI 80 a b).2.1), 1), (b2i (tightK (preI 80 a b).2.1), 1)] : Cs).map (·.1) = ([(b2i ((preI 80 a b).2.2), 1), (b2i (nW (preI 80 a b).1), 1), (b2i (tightK (preI 80 a b).1), 1), (b2i (nW (preI 80 a b).2.1), 1), (b2i (tightK (preI 80 a b).2.1), 1)] : Cs).map (·.2)) (w : World) : Calls Tryz.prog 33 #[.int .u8 80, VN a, VN b] w fun e w' => e = .returned (V3 (tightI (preI 80 a b).1, tightI (preI 80 a b).2.1, true)) ∧ Gr w w' :=
  rk hkm2_ok (oAt 33 [(86, true), (104, true), (109, true)]) (cs := ([(b2i ((preI 80 a b).2.2), 1), (b2i (nW (preI 80 a b).1), 1), (b2i (tightK (preI 80 a b).1), 1), (b2i (nW (preI 80 a b).2.1), 1), (b2i (tightK (preI 80 a b).2.1), 1)] : Cs)) rfl (by kernel_rfl) (by kernel_rfl) he w
set_option maxHeartbeats 0 in
set_option maxRecDepth 1000000 in
theorem cmp80_1 (a b : NI) (he : ([(b2i ((preI 80 a b).2.2), 1), (b2i (nW (preI 80 a b).1), 1), (b2i (tightK (preI 80 a b).1), 1), (b2i (nW (preI 80 a b).2.1), 1), (b2i (tightK (preI 80 a b).2.1), 0)] : Cs).map (·.1) = ([(b2i ((preI 80 a b).2.2), 1), (b2i (nW (preI 80 a b).1), 1), (b2i (tightK (preI 80 a b).1), 1), (b2i (nW (preI 80 a b).2.1), 1), (b2i (tightK (preI 80 a b).2.1), 0)] : Cs).map (·.2)) (w : World) : Calls Tryz.prog 33 #[.int .u8 80, VN a, VN b] w fun e w' => e = .returned (V3 nil3) ∧ Gr w w' :=
  rk hkm2_ok (oAt 33 [(86, true), (104, true), (109, false)]) (cs := ([(b2i ((preI 80 a b).2.2), 1), (b2i (nW (preI 80 a b).1), 1), (b2i (tightK (preI 80 a b).1), 1), (b2i (nW (preI 80 a b).2.1), 1), (b2i (tightK (preI 80 a b).2.1), 0)] : Cs)) rfl (by kernel_rfl) (by kernel_rfl) he w
set_option maxHeartbeats 0 in
set_option maxRecDepth 1000000 in
theorem cmp80_2 (a b : NI) (he : ([(b2i ((preI 80 a b).2.2), 1), (b2i (nW (preI 80 a b).1), 1), (b2i (tightK (preI 80 a b).1), 0), (b2i (nW (preI 80 a b).2.1), 1), (b2i (tightK (preI 80 a b).2.1), 1)] : Cs).map (·.1) = ([(b2i ((preI 80 a b).2.2), 1), (b2i (nW (preI 80 a b).1), 1), (b2i (tightK (preI 80 a b).1), 0), (b2i (nW (preI 80 a b).2.1), 1), (b2i (tightK (preI 80 a b).2.1), 1)] : Cs).map (·.2)) (w : World) : Calls Tryz.prog 33 #[.int .u8 80, VN a, VN b] w fun e w' => e = .returned (V3 nil3) ∧ Gr w w' :=
  rk hkm2_ok (oAt 33 [(86, true), (104, false), (109, true)]) (cs := ([(b2i ((preI 80 a b).2.2), 1), (b2i (nW (preI 80 a b).1), 1), (b2i (tightK (preI 80 a b).1), 0), (b2i (nW (preI 80 a b).2.1), 1), (b2i (tightK (preI 80 a b).2.1), 1)] : Cs)) rfl (by kernel_rfl) (by kernel_rfl) he w
set_option maxHeartbeats 0 in
set_option maxRecDepth 1000000 in
theorem cmp80_3 (a b : NI) (he : ([(b2i ((preI 80 a b).2.2), 1), (b2i (nW (preI 80 a b).1), 1), (b2i (tightK (preI 80 a b).1), 0), (b2i (nW (preI 80 a b).2.1), 1), (b2i (tightK (preI 80 a b).2.1), 0)] : Cs).map (·.1) = ([(b2i ((preI 80 a b).2.2), 1), (b2i (nW (preI 80 a b).1), 1), (b2i (tightK (preI 80 a b).1), 0), (b2i (nW (preI 80 a b).2.1), 1), (b2i (tightK (preI 80 a b).2.1), 0)] : Cs).map (·.2)) (w : World) : Calls Tryz.prog 33 #[.int .u8 80, VN a, VN b] w fun e w' => e = .returned (V3 nil3) ∧ Gr w w' :=
  rk hkm2_ok (oAt 33 [(86, true), (104, false), (109, false)]) (cs := ([(b2i ((preI 80 a b).2.2), 1), (b2i (nW (preI 80 a b).1), 1), (b2i (tightK (preI 80 a b).1), 0), (b2i (nW (preI 80 a b).2.1), 1), (b2i (tightK (preI 80 a b).2.1), 0)] : Cs)) rfl (by kernel_rfl) (by kernel_rfl) he w
set_option maxHeartbeats 0 in
set_option maxRecDepth 1000000 in
theorem cmp80_4 (a b : NI) (he : ([(b2i ((preI 80 a b).2.2), 0)] : Cs).map (·.1) = ([(b2i ((preI 80 a b).2.2), 0)] : Cs).map (·.2)) (w : World) : Calls Tryz.prog 33 #[.int .u8 80, VN a, VN b] w fun e w' => e = .returned (V3 nil3) ∧ Gr w w' :=
  rk hkm2_ok (oAt 33 [(86, false)]) (cs := ([(b2i ((preI 80 a b).2.2), 0)] : Cs)) rfl (by kernel_rfl) (by kernel_rfl) he w
theorem c_cmp80 (a b : NI) (hw : (nW a && nW b) = true) (w : World) : Calls Tryz.prog 33 #[.int .u8 80, VN a, VN b] w fun e w' => e = .returned (V3 (finI (preI 80 a b))) ∧ Gr w w' := by
  have hb := hw
  simp only [Bool.and_eq_true] at hb
  have hn := n3_pre 80 hb.1 hb.2
  unfold n3W at hn
  simp only [Bool.and_eq_true] at hn
  have h1 := hn.1
  have h2 := hn.2
  cases k0 : ((preI 80 a b).2.2) with
  | true =>
    cases k1 : (tightK (preI 80 a b).1) with
    | true =>
      cases k2 : (tightK (preI 80 a b).2.1) with
      | true =>
        exact ret_eq (by simp only [finI, k0, k1, k2, ↓reduceIte]) (cmp80_0 a b (csT k0 (csT h1 (csT k1 (csT h2 (csT k2 csN))))) w)
      | false =>
        exact ret_eq (by simp only [finI, k0, k1, k2, Bool.false_eq_true, ↓reduceIte]) (cmp80_1 a b (csT k0 (csT h1 (csT k1 (csT h2 (csF k2 csN))))) w)
    | false =>
      cases k2 : (tightK (preI 80 a b).2.1) with
      | true =>
        exact ret_eq (by simp only [finI, k0, k1, Bool.false_eq_true, ↓reduceIte]) (cmp80_2 a b (csT k0 (csT h1 (csF k1 (csT h2 (csT k2 csN))))) w)
      | false =>
        exact ret_eq (by simp only [finI, k0, k1, Bool.false_eq_true, ↓reduceIte]) (cmp80_3 a b (csT k0 (csT h1 (csF k1 (csT h2 (csF k2 csN))))) w)
  | false =>
    exact ret_eq (by simp only [finI, k0, Bool.false_eq_true, ↓reduceIte]) (cmp80_4 a b (csF k0 csN) w)
set_option maxHeartbeats 0 in
set_option maxRecDepth 1000000 in
theorem cmp64_0 (a b : NI) (he : ([(b2i (nW a && nW b), 1), (b2i ((preI 64 a b).2.2), 1), (b2i (nW (preI 64 a b).1), 1), (b2i (tightK (preI 64 a b).1), 1), (b2i (nW (preI 64 a b).2.1), 1), (b2i (tightK (preI 64 a b).2.1), 1)] : Cs).map (·.1) = ([(b2i (nW a && nW b), 1), (b2i ((preI 64 a b).2.2), 1), (b2i (nW (preI 64 a b).1), 1), (b2i (tightK (preI 64 a b).1), 1), (b2i (nW (preI 64 a b).2.1), 1), (b2i (tightK (preI 64 a b).2.1), 1)] : Cs).map (·.2)) (w : World) : Calls Tryz.prog 33 #[.int .u8 64, VN a, VN b] w fun e w' => e = .returned (V3 (tightI (preI 64 a b).1, tightI (preI 64 a b).2.1, true)) ∧ Gr w w' :=
  rk hkm2_ok (oAt 33 [(95, true), (104, true), (109, true)]) (cs := ([(b2i (nW a && nW b), 1), (b2i ((preI 64 a b).2.2), 1), (b2i (nW (preI 64 a b).1), 1), (b2i (tightK (preI 64 a b).1), 1), (b2i (nW (preI 64 a b).2.1), 1), (b2i (tightK (preI 64 a b).2.1), 1)] : Cs)) rfl (by kernel_rfl) (by kernel_rfl) he w
set_option maxHeartbeats 0 in
set_option maxRecDepth 1000000 in
theorem cmp64_1 (a b : NI) (he : ([(b2i (nW a && nW b), 1), (b2i ((preI 64 a b).2.2), 1), (b2i (nW (preI 64 a b).1), 1), (b2i (tightK (preI 64 a b).1), 1), (b2i (nW (preI 64 a b).2.1), 1), (b2i (tightK (preI 64 a b).2.1), 0)] : Cs).map (·.1) = ([(b2i (nW a && nW b), 1), (b2i ((preI 64 a b).2.2), 1), (b2i (nW (preI 64 a b).1), 1), (b2i (tightK (preI 64 a b).1), 1), (b2i (nW (preI 64 a b).2.1), 1), (b2i (tightK (preI 64 a b).2.1), 0)] : Cs).map (·.2)) (w : World) : Calls Tryz.prog 33 #[.int .u8 64, VN a, VN b] w fun e w' => e = .returned (V3 nil3) ∧ Gr w w' :=
  rk hkm2_ok (oAt 33 [(95, true), (104, true), (109, false)]) (cs := ([(b2i (nW a && nW b), 1), (b2i ((preI 64 a b).2.2), 1), (b2i (nW (preI 64 a b).1), 1), (b2i (tightK (preI 64 a b).1), 1), (b2i (nW (preI 64 a b).2.1), 1), (b2i (tightK (preI 64 a b).2.1), 0)] : Cs)) rfl (by kernel_rfl) (by kernel_rfl) he w
set_option maxHeartbeats 0 in
set_option maxRecDepth 1000000 in
theorem cmp64_2 (a b : NI) (he : ([(b2i (nW a && nW b), 1), (b2i ((preI 64 a b).2.2), 1), (b2i (nW (preI 64 a b).1), 1), (b2i (tightK (preI 64 a b).1), 0), (b2i (nW (preI 64 a b).2.1), 1), (b2i (tightK (preI 64 a b).2.1), 1)] : Cs).map (·.1) = ([(b2i (nW a && nW b), 1), (b2i ((preI 64 a b).2.2), 1), (b2i (nW (preI 64 a b).1), 1), (b2i (tightK (preI 64 a b).1), 0), (b2i (nW (preI 64 a b).2.1), 1), (b2i (tightK (preI 64 a b).2.1), 1)] : Cs).map (·.2)) (w : World) : Calls Tryz.prog 33 #[.int .u8 64, VN a, VN b] w fun e w' => e = .returned (V3 nil3) ∧ Gr w w' :=
  rk hkm2_ok (oAt 33 [(95, true), (104, false), (109, true)]) (cs := ([(b2i (nW a && nW b), 1), (b2i ((preI 64 a b).2.2), 1), (b2i (nW (preI 64 a b).1), 1), (b2i (tightK (preI 64 a b).1), 0), (b2i (nW (preI 64 a b).2.1), 1), (b2i (tightK (preI 64 a b).2.1), 1)] : Cs)) rfl (by kernel_rfl) (by kernel_rfl) he w
set_option maxHeartbeats 0 in
set_option maxRecDepth 1000000 in
theorem cmp64_3 (a b : NI) (he : ([(b2i (nW a && nW b), 1), (b2i ((preI 64 a b).2.2), 1), (b2i (nW (preI 64 a b).1), 1), (b2i (tightK (preI 64 a b).1), 0), (b2i (nW (preI 64 a b).2.1), 1), (b2i (tightK (preI 64 a b).2.1), 0)] : Cs).map (·.1) = ([(b2i (nW a && nW b), 1), (b2i ((preI 64 a b).2.2), 1), (b2i (nW (preI 64 a b).1), 1), (b2i (tightK (preI 64 a b).1), 0), (b2i (nW (preI 64 a b).2.1), 1), (b2i (tightK (preI 64 a b).2.1), 0)] : Cs).map (·.2)) (w : World) : Calls Tryz.prog 33 #[.int .u8 64, VN a, VN b] w fun e w' => e = .returned (V3 nil3) ∧ Gr w w' :=
  rk hkm2_ok (oAt 33 [(95, true), (104, false), (109, false)]) (cs := ([(b2i (nW a && nW b), 1), (b2i ((preI 64 a b).2.2), 1), (b2i (nW (preI 64 a b).1), 1), (b2i (tightK (preI 64 a b).1), 0), (b2i (nW (preI 64 a b).2.1), 1), (b2i (tightK (preI 64 a b).2.1), 0)] : Cs)) rfl (by kernel_rfl) (by kernel_rfl) he w
set_option maxHeartbeats 0 in
set_option maxRecDepth 1000000 in
theorem cmp64_4 (a b : NI) (he : ([(b2i (nW a && nW b), 1), (b2i ((preI 64 a b).2.2), 0)] : Cs).map (·.1) = ([(b2i (nW a && nW b), 1), (b2i ((preI 64 a b).2.2), 0)] : Cs).map (·.2)) (w : World) : Calls Tryz.prog 33 #[.int .u8 64, VN a, VN b] w fun e w' => e = .returned (V3 nil3) ∧ Gr w w' :=
  rk hkm2_ok (oAt 33 [(95, false)]) (cs := ([(b2i (nW a && nW b), 1), (b2i ((preI 64 a b).2.2), 0)] : Cs)) rfl (by kernel_rfl) (by kernel_rfl) he w
theorem c_cmp64 (a b : NI) (hw : (nW a && nW b) = true) (w : World) : Calls Tryz.prog 33 #[.int .u8 64, VN a, VN b] w fun e w' => e = .returned (V3 (finI (preI 64 a b))) ∧ Gr w w' := by
  have hb := hw
  simp only [Bool.and_eq_true] at hb
  have hn := n3_pre 64 hb.1 hb.2
  unfold n3W at hn
  simp only [Bool.and_eq_true] at hn
  have h1 := hn.1
  have h2 := hn.2
  cases k0 : ((preI 64 a b).2.2) with
  | true =>
    cases k1 : (tightK (preI 64 a b).1) with
    | true =>
      cases k2 : (tightK (preI 64 a b).2.1) with
      | true =>
        exact ret_eq (by simp only [finI, k0, k1, k2, ↓reduceIte]) (cmp64_0 a b (csT hw (csT k0 (csT h1 (csT k1 (csT h2 (csT k2 csN)))))) w)
      | false =>
        exact ret_eq (by simp only [finI, k0, k1, k2, Bool.false_eq_true, ↓reduceIte]) (cmp64_1 a b (csT hw (csT k0 (csT h1 (csT k1 (csT h2 (csF k2 csN)))))) w)
    | false =>
      cases k2 : (tightK (preI 64 a b).2.1) with
      | true =>
        exact ret_eq (by simp only [finI, k0, k1, Bool.false_eq_true, ↓reduceIte]) (cmp64_2 a b (csT hw (csT k0 (csT h1 (csF k1 (csT h2 (csT k2 csN)))))) w)
      | false =>
        exact ret_eq (by simp only [finI, k0, k1, Bool.false_eq_true, ↓reduceIte]) (cmp64_3 a b (csT hw (csT k0 (csT h1 (csF k1 (csT h2 (csF k2 csN)))))) w)
  | false =>
    exact ret_eq (by simp only [finI, k0, Bool.false_eq_true, ↓reduceIte]) (cmp64_4 a b (csT hw (csF k0 csN)) w)
set_option maxHeartbeats 0 in
set_option maxRecDepth 1000000 in
theorem cmp255_0 (a b : NI) (he : ([(b2i (nW a && nW b), 1), (b2i ((preI 255 a b).2.2), 1), (b2i (nW (preI 255 a b).1), 1), (b2i (tightK (preI 255 a b).1), 1), (b2i (nW (preI 255 a b).2.1), 1), (b2i (tightK (preI 255 a b).2.1), 1)] : Cs).map (·.1) = ([(b2i (nW a && nW b), 1), (b2i ((preI 255 a b).2.2), 1), (b2i (nW (preI 255 a b).1), 1), (b2i (tightK (preI 255 a b).1), 1), (b2i (nW (preI 255 a b).2.1), 1), (b2i (tightK (preI 255 a b).2.1), 1)] : Cs).map (·.2)) (w : World) : Calls Tryz.prog 33 #[.int .u8 255, VN a, VN b] w fun e w' => e = .returned (V3 (tightI (preI 255 a b).1, tightI (preI 255 a b).2.1, true)) ∧ Gr w w' :=
  rk hkm2_ok (oAt 33 [(18, true), (104, true), (109, true)]) (cs := ([(b2i (nW a && nW b), 1), (b2i ((preI 255 a b).2.2), 1), (b2i (nW (preI 255 a b).1), 1), (b2i (tightK (preI 255 a b).1), 1), (b2i (nW (preI 255 a b).2.1), 1), (b2i (tightK (preI 255 a b).2.1), 1)] : Cs)) rfl (by kernel_rfl) (by kernel_rfl) he w
set_option maxHeartbeats 0 in
set_option maxRecDepth 1000000 in
theorem cmp255_1 (a b : NI) (he : ([(b2i (nW a && nW b), 1), (b2i ((preI 255 a b).2.2), 1), (b2i (nW (preI 255 a b).1), 1), (b2i (tightK (preI 255 a b).1), 1), (b2i (nW (preI 255 a b).2.1), 1), (b2i (tightK (preI 255 a b).2.1), 0)] : Cs).map (·.1) = ([(b2i (nW a && nW b), 1), (b2i ((preI 255 a b).2.2), 1), (b2i (nW (preI 255 a b).1), 1), (b2i (tightK (preI 255 a b).1), 1), (b2i (nW (preI 255 a b).2.1), 1), (b2i (tightK (preI 255 a b).2.1), 0)] : Cs).map (·.2)) (w : World) : Calls Tryz.prog 33 #[.int .u8 255, VN a, VN b] w fun e w' => e = .returned (V3 nil3) ∧ Gr w w' :=
  rk hkm2_ok (oAt 33 [(18, true), (104, true), (109, false)]) (cs := ([(b2i (nW a && nW b), 1), (b2i ((preI 255 a b).2.2), 1), (b2i (nW (preI 255 a b).1), 1), (b2i (tightK (preI 255 a b).1), 1), (b2i (nW (preI 255 a b).2.1), 1), (b2i (tightK (preI 255 a b).2.1), 0)] : Cs)) rfl (by kernel_rfl) (by kernel_rfl) he w
set_option maxHeartbeats 0 in
set_option maxRecDepth 1000000 in
theorem cmp255_2 (a b : NI) (he : ([(b2i (nW a && nW b), 1), (b2i ((preI 255 a b).2.2), 1), (b2i (nW (preI 255 a b).1), 1), (b2i (tightK (preI 255 a b).1), 0), (b2i (nW (preI 255 a b).2.1), 1), (b2i (tightK (preI 255 a b).2.1), 1)] : Cs).map (·.1) = ([(b2i (nW a && nW b), 1), (b2i ((preI 255 a b).2.2), 1), (b2i (nW (preI 255 a b).1), 1), (b2i (tightK (preI 255 a b).1), 0), (b2i (nW (preI 255 a b).2.1), 1), (b2i (tightK (preI 255 a b).2.1), 1)] : Cs).map (·.2)) (w : World) : Calls Tryz.prog 33 #[.int .u8 255, VN a, VN b] w fun e w' => e = .returned (V3 nil3) ∧ Gr w w' :=
  rk hkm2_ok (oAt 33 [(18, true), (104, false), (109, true)]) (cs := ([(b2i (nW a && nW b), 1), (b2i ((preI 255 a b).2.2), 1), (b2i (nW (preI 255 a b).1), 1), (b2i (tightK (preI 255 a b).1), 0), (b2i (nW (preI 255 a b).2.1), 1), (b2i (tightK (preI 255 a b).2.1), 1)] : Cs)) rfl (by kernel_rfl) (by kernel_rfl) he w
set_option maxHeartbeats 0 in
set_option maxRecDepth 1000000 in
theorem cmp255_3 (a b : NI) (he : ([(b2i (nW a && nW b), 1), (b2i ((preI 255 a b).2.2), 1), (b2i (nW (preI 255 a b).1), 1), (b2i (tightK (preI 255 a b).1), 0), (b2i (nW (preI 255 a b).2.1), 1), (b2i (tightK (preI 255 a b).2.1), 0)] : Cs).map (·.1) = ([(b2i (nW a && nW b), 1), (b2i ((preI 255 a b).2.2), 1), (b2i (nW (preI 255 a b).1), 1), (b2i (tightK (preI 255 a b).1), 0), (b2i (nW (preI 255 a b).2.1), 1), (b2i (tightK (preI 255 a b).2.1), 0)] : Cs).map (·.2)) (w : World) : Calls Tryz.prog 33 #[.int .u8 255, VN a, VN b] w fun e w' => e = .returned (V3 nil3) ∧ Gr w w' :=
  rk hkm2_ok (oAt 33 [(18, true), (104, false), (109, false)]) (cs := ([(b2i (nW a && nW b), 1), (b2i ((preI 255 a b).2.2), 1), (b2i (nW (preI 255 a b).1), 1), (b2i (tightK (preI 255 a b).1), 0), (b2i (nW (preI 255 a b).2.1), 1), (b2i (tightK (preI 255 a b).2.1), 0)] : Cs)) rfl (by kernel_rfl) (by kernel_rfl) he w
set_option maxHeartbeats 0 in
set_option maxRecDepth 1000000 in
theorem cmp255_4 (a b : NI) (he : ([(b2i (nW a && nW b), 1), (b2i ((preI 255 a b).2.2), 0)] : Cs).map (·.1) = ([(b2i (nW a && nW b), 1), (b2i ((preI 255 a b).2.2), 0)] : Cs).map (·.2)) (w : World) : Calls Tryz.prog 33 #[.int .u8 255, VN a, VN b] w fun e w' => e = .returned (V3 nil3) ∧ Gr w w' :=
  rk hkm2_ok (oAt 33 [(18, false)]) (cs := ([(b2i (nW a && nW b), 1), (b2i ((preI 255 a b).2.2), 0)] : Cs)) rfl (by kernel_rfl) (by kernel_rfl) he w
theorem c_cmp255 (a b : NI) (hw : (nW a && nW b) = true) (w : World) : Calls Tryz.prog 33 #[.int .u8 255, VN a, VN b] w fun e w' => e = .returned (V3 (finI (preI 255 a b))) ∧ Gr w w' := by
  have hb := hw
  simp only [Bool.and_eq_true] at hb
  have hn := n3_pre 255 hb.1 hb.2
  unfold n3W at hn
  simp only [Bool.and_eq_true] at hn
  have h1 := hn.1
  have h2 := hn.2
  cases k0 : ((preI 255 a b).2.2) with
  | true =>
    cases k1 : (tightK (preI 255 a b).1) with
    | true =>
      cases k2 : (tightK (preI 255 a b).2.1) with
      | true =>
        exact ret_eq (by simp only [finI, k0, k1, k2, ↓reduceIte]) (cmp255_0 a b (csT hw (csT k0 (csT h1 (csT k1 (csT h2 (csT k2 csN)))))) w)
      | false =>
        exact ret_eq (by simp only [finI, k0, k1, k2, Bool.false_eq_true, ↓reduceIte]) (cmp255_1 a b (csT hw (csT k0 (csT h1 (csT k1 (csT h2 (csF k2 csN)))))) w)
    | false =>
      cases k2 : (tightK (preI 255 a b).2.1) with
      | true =>
        exact ret_eq (by simp only [finI, k0, k1, Bool.false_eq_true, ↓reduceIte]) (cmp255_2 a b (csT hw (csT k0 (csT h1 (csF k1 (csT h2 (csT k2 csN)))))) w)
      | false =>
        exact ret_eq (by simp only [finI, k0, k1, Bool.false_eq_true, ↓reduceIte]) (cmp255_3 a b (csT hw (csT k0 (csT h1 (csF k1 (csT h2 (csF k2 csN)))))) w)
  | false =>
    exact ret_eq (by simp only [finI, k0, Bool.false_eq_true, ↓reduceIte]) (cmp255_4 a b (csT hw (csF k0 csN)) w)
theorem c_cmp (op : Int) (a b : NI) (hw : (isC op && (nW a && nW b)) = true) (w : World) : Calls Tryz.prog 33 #[.int .u8 op, VN a, VN b] w fun e w' => e = .returned (V3 (cmpI op a b)) ∧ Gr w w' := by
  have hh : isC op = true ∧ (nW a && nW b) = true := by simpa only [Bool.and_eq_true] using hw
  obtain ⟨h1, h2⟩ := hh
  unfold isC at h1
  simp only [Bool.or_eq_true, beq_iff_eq, or_assoc] at h1
  rcases h1 with rfl | rfl | rfl | rfl | rfl | rfl | rfl | rfl | rfl | rfl | rfl | rfl
  · exact c_cmp16 a b h2 w
  · exact c_cmp80 a b h2 w
  · exact c_cmp64 a b h2 w
  · exact c_cmp255 a b h2 w
  · exact c_cmp32 a b h2 w
  · exact c_cmp48 a b h2 w
  · exact c_cmp96 a b h2 w
  · exact c_cmp112 a b h2 w
  · exact c_cmp160 a b h2 w
  · exact c_cmp176 a b h2 w
  · exact c_cmp192 a b h2 w
  · exact c_cmp208 a b h2 w
def hk_cmp : Hook := fun f args _ =>
  if Nat.beq f 33 then
    match args with
    | [.int .u8 a, .agg ⟨[.int .u64 b0, .int .u64 b1, .int .u64 b2, .int .u64 b3, .int .i64 b4, .int .i64 b5]⟩, .agg ⟨[.int .u64 c0, .int .u64 c1, .int .u64 c2, .int .u64 c3, .int .i64 c4, .int .i64 c5]⟩] => some (V3 (cmpI a (⟨⟨b0, b1⟩, ⟨b2, b3, b4, b5⟩⟩ : NI) (⟨⟨c0, c1⟩, ⟨c2, c3, c4, c5⟩⟩ : NI)), [(b2i (isC a && (nW (⟨⟨b0, b1⟩, ⟨b2, b3, b4, b5⟩⟩ : NI) && nW (⟨⟨c0, c1⟩, ⟨c2, c3, c4, c5⟩⟩ : NI))), 1)])
    | _ => none
  else none
theorem hk_cmp_ok : HookOk Tryz.prog hk_cmp := by
  intro f args h v cs hv hc wb k s w H
  unfold hk_cmp at hv
  split at hv
  · rename_i hf
    obtain rfl := Nat.eq_of_beq_eq_true hf
    split at hv
    · rename_i a b0 b1 b2 b3 b4 b5 c0 c1 c2 c3 c4 c5
      cases hv
      have hw := pair1 hc rfl
      exact c_cmp a (⟨⟨b0, b1⟩, ⟨b2, b3, b4, b5⟩⟩ : NI) (⟨⟨c0, c1⟩, ⟨c2, c3, c4, c5⟩⟩ : NI) hw w
    · cases hv
  · cases hv
def unlI (l a : NI) : NI := if decide (a.s.hi > 4294967295) then a else l
set_option maxHeartbeats 0 in
set_option maxRecDepth 1000000 in
theorem unl_0 (a b : NI) (he : ([(b2i (decide (b.s.hi > 4294967295)), 1)] : Cs).map (·.1) = ([(b2i (decide (b.s.hi > 4294967295)), 1)] : Cs).map (·.2)) (w : World) : Calls Tryz.prog 84 #[VN a, VN b] w fun e w' => e = .returned (VN b) ∧ Gr w w' :=
  rk hk9_ok (oAt 84 [(8, true)]) (cs := ([(b2i (decide (b.s.hi > 4294967295)), 1)] : Cs)) rfl (by kernel_rfl) (by kernel_rfl) he w
set_option maxHeartbeats 0 in
set_option maxRecDepth 1000000 in
theorem unl_1 (a b : NI) (he : ([(b2i (decide (b.s.hi > 4294967295)), 0)] : Cs).map (·.1) = ([(b2i (decide (b.s.hi > 4294967295)), 0)] : Cs).map (·.2)) (w : World) : Calls Tryz.prog 84 #[VN a, VN b] w fun e w' => e = .returned (VN a) ∧ Gr w w' :=
  rk hk9_ok (oAt 84 [(8, false)]) (cs := ([(b2i (decide (b.s.hi > 4294967295)), 0)] : Cs)) rfl (by kernel_rfl) (by kernel_rfl) he w
theorem c_unl (a b : NI) (w : World) : Calls Tryz.prog 84 #[VN a, VN b] w fun e w' => e = .returned (VN (unlI a b)) ∧ Gr w w' := by
  cases k0 : (decide (b.s.hi > 4294967295)) with
  | true =>
    exact ret_eq (by simp only [unlI, k0, ↓reduceIte]) (unl_0 a b (csT k0 csN) w)
  | false =>
    exact ret_eq (by simp only [unlI, k0, Bool.false_eq_true, ↓reduceIte]) (unl_1 a b (csF k0 csN) w)
def hk_unl : Hook := fun f args _ =>
  if Nat.beq f 84 then
    match args with
    | [.agg ⟨[.int .u64 a0, .int .u64 a1, .int .u64 a2, .int .u64 a3, .int .i64 a4, .int .i64 a5]⟩, .agg ⟨[.int .u64 b0, .int .u64 b1, .int .u64 b2, .int .u64 b3, .int .i64 b4, .int .i64 b5]⟩] => some (VN (unlI (⟨⟨a0, a1⟩, ⟨a2, a3, a4, a5⟩⟩ : NI) (⟨⟨b0, b1⟩, ⟨b2, b3, b4, b5⟩⟩ : NI)), [])
    | _ => none
  else none
theorem hk_unl_ok : HookOk Tryz.prog hk_unl := by
  intro f args h v cs hv hc wb k s w H
  unfold hk_unl at hv
  split at hv
  · rename_i hf
    obtain rfl := Nat.eq_of_beq_eq_true hf
    split at hv
    · rename_i a0 a1 a2 a3 a4 a5 b0 b1 b2 b3 b4 b5
      cases hv
      exact c_unl (⟨⟨a0, a1⟩, ⟨a2, a3, a4, a5⟩⟩ : NI) (⟨⟨b0, b1⟩, ⟨b2, b3, b4, b5⟩⟩ : NI) w
    · cases hv
  · cases hv
def hkm3 : Hook := orHook hk_cmp (orHook hk_unl (hk9))
theorem hkm3_ok : HookOk Tryz.prog hkm3 := orHook_ok hk_cmp_ok (orHook_ok hk_unl_ok (hk9_ok))
def isSg (op : Int) : Bool := op == 96 || op == 112 || op == 192 || op == 208
def okI (r x : N3) : N3 := if r.2.2 then x else nil3
def hcL (op : Int) (a b : NI) : N3 := cmpI op (lowI a) (lowI b)
def hcE (op : Int) (a b : NI) : N3 := cmpI op (settledI (extI a)) (settledI (extI b))
def hcS (op : Int) (a b : NI) : N3 := okI (hcL op a b) (unlI (hcL op a b).1 a, unlI (hcL op a b).2.1 b, true)
def hcX (op : Int) (a b : NI) : N3 := okI (hcE op a b) (a, b, true)
def hcI (op : Int) (a b : NI) : N3 :=
  if isSg op then (if decide ((lowI a).s.hi > 2147483647) then hcX op a b else if decide ((lowI b).s.hi > 2147483647) then hcX op a b else hcS op a b) else hcS op a b
set_option maxHeartbeats 0 in
set_option maxRecDepth 1000000 in
theorem hc16_0 (a b : NI) (he : ([(b2i (nW a), 1), (b2i (nW b), 1), (b2i (isC 16 && (nW (lowI a) && nW (lowI b))), 1), (b2i ((hcL 16 a b).2.2), 1)] : Cs).map (·.1) = ([(b2i (nW a), 1), (b2i (nW b), 1), (b2i (isC 16 && (nW (lowI a) && nW (lowI b))), 1), (b2i ((hcL 16 a b).2.2), 1)] : Cs).map (·.2)) (w : World) : Calls Tryz.prog 34 #[.int .u8 16, VN a, VN b] w fun e w' => e = .returned (V3 (unlI (hcL 16 a b).1 a, unlI (hcL 16 a b).2.1 b, true)) ∧ Gr w w' :=
  rk hkm3_ok (oAt 34 [(50, true)]) (cs := ([(b2i (nW a), 1), (b2i (nW b), 1), (b2i (isC 16 && (nW (lowI a) && nW (lowI b))), 1), (b2i ((hcL 16 a b).2.2), 1)] : Cs)) rfl (by kernel_rfl) (by kernel_rfl) he w
set_option maxHeartbeats 0 in
set_option maxRecDepth 1000000 in
theorem hc16_1 (a b : NI) (he : ([(b2i (nW a), 1), (b2i (nW b), 1), (b2i (isC 16 && (nW (lowI a) && nW (lowI b))), 1), (b2i ((hcL 16 a b).2.2), 0)] : Cs).map (·.1) = ([(b2i (nW a), 1), (b2i (nW b), 1), (b2i (isC 16 && (nW (lowI a) && nW (lowI b))), 1), (b2i ((hcL 16 a b).2.2), 0)] : Cs).map (·.2)) (w : World) : Calls Tryz.prog 34 #[.int .u8 16, VN a, VN b] w fun e w' => e = .returned (V3 nil3) ∧ Gr w w' :=
  rk hkm3_ok (oAt 34 [(50, false)]) (cs := ([(b2i (nW a), 1), (b2i (nW b), 1), (b2i (isC 16 && (nW (lowI a) && nW (lowI b))), 1), (b2i ((hcL 16 a b).2.2), 0)] : Cs)) rfl (by kernel_rfl) (by kernel_rfl) he w
theorem c_hc16 (a b : NI) (hw : (nW a && nW b) = true) (w : World) : Calls Tryz.prog 34 #[.int .u8 16, VN a, VN b] w fun e w' => e = .returned (V3 (hcI 16 a b)) ∧ Gr w w' := by
  have hb := hw
  simp only [Bool.and_eq_true] at hb
  have ha := hb.1
  have hb := hb.2
  have h1 : (isC 16 && (nW (lowI a) && nW (lowI b))) = true := by rw [nW_lowI, nW_lowI]; rfl
  have e1 := nW_ext a
  have e2 := nW_ext b
  have h2 : (isC 16 && (nW (settledI (extI a)) && nW (settledI (extI b)))) = true := by rw [nW_settled e1, nW_settled e2]; rfl
  cases k0 : ((hcL 16 a b).2.2) with
  | true =>
    exact ret_eq (by simp only [hcI, hcS, okI, show isSg 16 = false from rfl, k0, Bool.false_eq_true, ↓reduceIte]) (hc16_0 a b (csT ha (csT hb (csT h1 (csT k0 csN)))) w)
  | false =>
    exact ret_eq (by simp only [hcI, hcS, okI, show isSg 16 = false from rfl, k0, Bool.false_eq_true, ↓reduceIte]) (hc16_1 a b (csT ha (csT hb (csT h1 (csF k0 csN)))) w)
set_option maxHeartbeats 0 in
set_option maxRecDepth 1000000 in
theorem hc80_0 (a b : NI) (he : ([(b2i (nW a), 1), (b2i (nW b), 1), (b2i (isC 80 && (nW (lowI a) && nW (lowI b))), 1), (b2i ((hcL 80 a b).2.2), 1)] : Cs).map (·.1) = ([(b2i (nW a), 1), (b2i (nW b), 1), (b2i (isC 80 && (nW (lowI a) && nW (lowI b))), 1), (b2i ((hcL 80 a b).2.2), 1)] : Cs).map (·.2)) (w : World) : Calls Tryz.prog 34 #[.int .u8 80, VN a, VN b] w fun e w' => e = .returned (V3 (unlI (hcL 80 a b).1 a, unlI (hcL 80 a b).2.1 b, true)) ∧ Gr w w' :=
  rk hkm3_ok (oAt 34 [(50, true)]) (cs := ([(b2i (nW a), 1), (b2i (nW b), 1), (b2i (isC 80 && (nW (lowI a) && nW (lowI b))), 1), (b2i ((hcL 80 a b).2.2), 1)] : Cs)) rfl (by kernel_rfl) (by kernel_rfl) he w
set_option maxHeartbeats 0 in
set_option maxRecDepth 1000000 in
theorem hc80_1 (a b : NI) (he : ([(b2i (nW a), 1), (b2i (nW b), 1), (b2i (isC 80 && (nW (lowI a) && nW (lowI b))), 1), (b2i ((hcL 80 a b).2.2), 0)] : Cs).map (·.1) = ([(b2i (nW a), 1), (b2i (nW b), 1), (b2i (isC 80 && (nW (lowI a) && nW (lowI b))), 1), (b2i ((hcL 80 a b).2.2), 0)] : Cs).map (·.2)) (w : World) : Calls Tryz.prog 34 #[.int .u8 80, VN a, VN b] w fun e w' => e = .returned (V3 nil3) ∧ Gr w w' :=
  rk hkm3_ok (oAt 34 [(50, false)]) (cs := ([(b2i (nW a), 1), (b2i (nW b), 1), (b2i (isC 80 && (nW (lowI a) && nW (lowI b))), 1), (b2i ((hcL 80 a b).2.2), 0)] : Cs)) rfl (by kernel_rfl) (by kernel_rfl) he w
theorem c_hc80 (a b : NI) (hw : (nW a && nW b) = true) (w : World) : Calls Tryz.prog 34 #[.int .u8 80, VN a, VN b] w fun e w' => e = .returned (V3 (hcI 80 a b)) ∧ Gr w w' := by
  have hb := hw
  simp only [Bool.and_eq_true] at hb
  have ha := hb.1
  have hb := hb.2
  have h1 : (isC 80 && (nW (lowI a) && nW (lowI b))) = true := by rw [nW_lowI, nW_lowI]; rfl
  have e1 := nW_ext a
  have e2 := nW_ext b
  have h2 : (isC 80 && (nW (settledI (extI a)) && nW (settledI (extI b)))) = true := by rw [nW_settled e1, nW_settled e2]; rfl
  cases k0 : ((hcL 80 a b).2.2) with
  | true =>
    exact ret_eq (by simp only [hcI, hcS, okI, show isSg 80 = false from rfl, k0, Bool.false_eq_true, ↓reduceIte]) (hc80_0 a b (csT ha (csT hb (csT h1 (csT k0 csN)))) w)
  | false =>
    exact ret_eq (by simp only [hcI, hcS, okI, show isSg 80 = false from rfl, k0, Bool.false_eq_true, ↓reduceIte]) (hc80_1 a b (csT ha (csT hb (csT h1 (csF k0 csN)))) w)
set_option maxHeartbeats 0 in
set_option maxRecDepth 1000000 in
theorem hc64_0 (a b : NI) (he : ([(b2i (nW a), 1), (b2i (nW b), 1), (b2i (isC 64 && (nW (lowI a) && nW (lowI b))), 1), (b2i ((hcL 64 a b).2.2), 1)] : Cs).map (·.1) = ([(b2i (nW a), 1), (b2i (nW b), 1), (b2i (isC 64 && (nW (lowI a) && nW (lowI b))), 1), (b2i ((hcL 64 a b).2.2), 1)] : Cs).map (·.2)) (w : World) : Calls Tryz.prog 34 #[.int .u8 64, VN a, VN b] w fun e w' => e = .returned (V3 (unlI (hcL 64 a b).1 a, unlI (hcL 64 a b).2.1 b, true)) ∧ Gr w w' :=
  rk hkm3_ok (oAt 34 [(50, true)]) (cs := ([(b2i (nW a), 1), (b2i (nW b), 1), (b2i (isC 64 && (nW (lowI a) && nW (lowI b))), 1), (b2i ((hcL 64 a b).2.2), 1)] : Cs)) rfl (by kernel_rfl) (by kernel_rfl) he w
set_option maxHeartbeats 0 in
set_option maxRecDepth 1000000 in
theorem hc64_1 (a b : NI) (he : ([(b2i (nW a), 1), (b2i (nW b), 1), (b2i (isC 64 && (nW (lowI a) && nW (lowI b))), 1), (b2i ((hcL 64 a b).2.2), 0)] : Cs).map (·.1) = ([(b2i (nW a), 1), (b2i (nW b), 1), (b2i (isC 64 && (nW (lowI a) && nW (lowI b))), 1), (b2i ((hcL 64 a b).2.2), 0)] : Cs).map (·.2)) (w : World) : Calls Tryz.prog 34 #[.int .u8 64, VN a, VN b] w fun e w' => e = .returned (V3 nil3) ∧ Gr w w' :=
  rk hkm3_ok (oAt 34 [(50, false)]) (cs := ([(b2i (nW a), 1), (b2i (nW b), 1), (b2i (isC 64 && (nW (lowI a) && nW (lowI b))), 1), (b2i ((hcL 64 a b).2.2), 0)] : Cs)) rfl (by kernel_rfl) (by kernel_rfl) he w
theorem c_hc64 (a b : NI) (hw : (nW a && nW b) = true) (w : World) : Calls Tryz.prog 34 #[.int .u8 64, VN a, VN b] w fun e w' => e = .returned (V3 (hcI 64 a b)) ∧ Gr w w' := by
  have hb := hw
  simp only [Bool.and_eq_true] at hb
  have ha := hb.1
  have hb := hb.2
  have h1 : (isC 64 && (nW (lowI a) && nW (lowI b))) = true := by rw [nW_lowI, nW_lowI]; rfl
  have e1 := nW_ext a
  have e2 := nW_ext b
  have h2 : (isC 64 && (nW (settledI (extI a)) && nW (settledI (extI b)))) = true := by rw [nW_settled e1, nW_settled e2]; rfl
  cases k0 : ((hcL 64 a b).2.2) with
  | true =>
    exact ret_eq (by simp only [hcI, hcS, okI, show isSg 64 = false from rfl, k0, Bool.false_eq_true, ↓reduceIte]) (hc64_0 a b (csT ha (csT hb (csT h1 (csT k0 csN)))) w)
  | false =>
    exact ret_eq (by simp only [hcI, hcS, okI, show isSg 64 = false from rfl, k0, Bool.false_eq_true, ↓reduceIte]) (hc64_1 a b (csT ha (csT hb (csT h1 (csF k0 csN)))) w)
set_option maxHeartbeats 0 in
set_option maxRecDepth 1000000 in
theorem hc255_0 (a b : NI) (he : ([(b2i (nW a), 1), (b2i (nW b), 1), (b2i (isC 255 && (nW (lowI a) && nW (lowI b))), 1), (b2i ((hcL 255 a b).2.2), 1)] : Cs).map (·.1) = ([(b2i (nW a), 1), (b2i (nW b), 1), (b2i (isC 255 && (nW (lowI a) && nW (lowI b))), 1), (b2i ((hcL 255 a b).2.2), 1)] : Cs).map (·.2)) (w : World) : Calls Tryz.prog 34 #[.int .u8 255, VN a, VN b] w fun e w' => e = .returned (V3 (unlI (hcL 255 a b).1 a, unlI (hcL 255 a b).2.1 b, true)) ∧ Gr w w' :=
  rk hkm3_ok (oAt 34 [(50, true)]) (cs := ([(b2i (nW a), 1), (b2i (nW b), 1), (b2i (isC 255 && (nW (lowI a) && nW (lowI b))), 1), (b2i ((hcL 255 a b).2.2), 1)] : Cs)) rfl (by kernel_rfl) (by kernel_rfl) he w
set_option maxHeartbeats 0 in
set_option maxRecDepth 1000000 in
theorem hc255_1 (a b : NI) (he : ([(b2i (nW a), 1), (b2i (nW b), 1), (b2i (isC 255 && (nW (lowI a) && nW (lowI b))), 1), (b2i ((hcL 255 a b).2.2), 0)] : Cs).map (·.1) = ([(b2i (nW a), 1), (b2i (nW b), 1), (b2i (isC 255 && (nW (lowI a) && nW (lowI b))), 1), (b2i ((hcL 255 a b).2.2), 0)] : Cs).map (·.2)) (w : World) : Calls Tryz.prog 34 #[.int .u8 255, VN a, VN b] w fun e w' => e = .returned (V3 nil3) ∧ Gr w w' :=
  rk hkm3_ok (oAt 34 [(50, false)]) (cs := ([(b2i (nW a), 1), (b2i (nW b), 1), (b2i (isC 255 && (nW (lowI a) && nW (lowI b))), 1), (b2i ((hcL 255 a b).2.2), 0)] : Cs)) rfl (by kernel_rfl) (by kernel_rfl) he w
theorem c_hc255 (a b : NI) (hw : (nW a && nW b) = true) (w : World) : Calls Tryz.prog 34 #[.int .u8 255, VN a, VN b] w fun e w' => e = .returned (V3 (hcI 255 a b)) ∧ Gr w w' := by
  have hb := hw
  simp only [Bool.and_eq_true] at hb
  have ha := hb.1
  have hb := hb.2
  have h1 : (isC 255 && (nW (lowI a) && nW (lowI b))) = true := by rw [nW_lowI, nW_lowI]; rfl
  have e1 := nW_ext a
  have e2 := nW_ext b
  have h2 : (isC 255 && (nW (settledI (extI a)) && nW (settledI (extI b)))) = true := by rw [nW_settled e1, nW_settled e2]; rfl
  cases k0 : ((hcL 255 a b).2.2) with
  | true =>
    exact ret_eq (by simp only [hcI, hcS, okI, show isSg 255 = false from rfl, k0, Bool.false_eq_true, ↓reduceIte]) (hc255_0 a b (csT ha (csT hb (csT h1 (csT k0 csN)))) w)
  | false =>
    exact ret_eq (by simp only [hcI, hcS, okI, show isSg 255 = false from rfl, k0, Bool.false_eq_true, ↓reduceIte]) (hc255_1 a b (csT ha (csT hb (csT h1 (csF k0 csN)))) w)
set_option maxHeartbeats 0 in
set_option maxRecDepth 1000000 in
theorem hc32_0 (a b : NI) (he : ([(b2i (nW a), 1), (b2i (nW b), 1), (b2i (isC 32 && (nW (lowI a) && nW (lowI b))), 1), (b2i ((hcL 32 a b).2.2), 1)] : Cs).map (·.1) = ([(b2i (nW a), 1), (b2i (nW b), 1), (b2i (isC 32 && (nW (lowI a) && nW (lowI b))), 1), (b2i ((hcL 32 a b).2.2), 1)] : Cs).map (·.2)) (w : World) : Calls Tryz.prog 34 #[.int .u8 32, VN a, VN b] w fun e w' => e = .returned (V3 (unlI (hcL 32 a b).1 a, unlI (hcL 32 a b).2.1 b, true)) ∧ Gr w w' :=
  rk hkm3_ok (oAt 34 [(50, true)]) (cs := ([(b2i (nW a), 1), (b2i (nW b), 1), (b2i (isC 32 && (nW (lowI a) && nW (lowI b))), 1), (b2i ((hcL 32 a b).2.2), 1)] : Cs)) rfl (by kernel_rfl) (by kernel_rfl) he w
set_option maxHeartbeats 0 in
set_option maxRecDepth 1000000 in
theorem hc32_1 (a b : NI) (he : ([(b2i (nW a), 1), (b2i (nW b), 1), (b2i (isC 32 && (nW (lowI a) && nW (lowI b))), 1), (b2i ((hcL 32 a b).2.2), 0)] : Cs).map (·.1) = ([(b2i (nW a), 1), (b2i (nW b), 1), (b2i (isC 32 && (nW (lowI a) && nW (lowI b))), 1), (b2i ((hcL 32 a b).2.2), 0)] : Cs).map (·.2)) (w : World) : Calls Tryz.prog 34 #[.int .u8 32, VN a, VN b] w fun e w' => e = .returned (V3 nil3) ∧ Gr w w' :=
  rk hkm3_ok (oAt 34 [(50, false)]) (cs := ([(b2i (nW a), 1), (b2i (nW b), 1), (b2i (isC 32 && (nW (lowI a) && nW (lowI b))), 1), (b2i ((hcL 32 a b).2.2), 0)] : Cs)) rfl (by kernel_rfl) (by kernel_rfl) he w
theorem c_hc32 (a b : NI) (hw : (nW a && nW b) = true) (w : World) : Calls Tryz.prog 34 #[.int .u8 32, VN a, VN b] w fun e w' => e = .returned (V3 (hcI 32 a b)) ∧ Gr w w' := by
  have hb := hw
  simp only [Bool.and_eq_true] at hb
  have ha := hb.1
  have hb := hb.2
  have h1 : (isC 32 && (nW (lowI a) && nW (lowI b))) = true := by rw [nW_lowI, nW_lowI]; rfl
  have e1 := nW_ext a
  have e2 := nW_ext b
  have h2 : (isC 32 && (nW (settledI (extI a)) && nW (settledI (extI b)))) = true := by rw [nW_settled e1, nW_settled e2]; rfl
  cases k0 : ((hcL 32 a b).2.2) with
  | true =>
    exact ret_eq (by simp only [hcI, hcS, okI, show isSg 32 = false from rfl, k0, Bool.false_eq_true, ↓reduceIte]) (hc32_0 a b (csT ha (csT hb (csT h1 (csT k0 csN)))) w)
  | false =>
    exact ret_eq (by simp only [hcI, hcS, okI, show isSg 32 = false from rfl, k0, Bool.false_eq_true, ↓reduceIte]) (hc32_1 a b (csT ha (csT hb (csT h1 (csF k0 csN)))) w)
set_option maxHeartbeats 0 in
set_option maxRecDepth 1000000 in
theorem hc48_0 (a b : NI) (he : ([(b2i (nW a), 1), (b2i (nW b), 1), (b2i (isC 48 && (nW (lowI a) && nW (lowI b))), 1), (b2i ((hcL 48 a b).2.2), 1)] : Cs).map (·.1) = ([(b2i (nW a), 1), (b2i (nW b), 1), (b2i (isC 48 && (nW (lowI a) && nW (lowI b))), 1), (b2i ((hcL 48 a b).2.2), 1)] : Cs).map (·.2)) (w : World) : Calls Tryz.prog 34 #[.int .u8 48, VN a, VN b] w fun e w' => e = .returned (V3 (unlI (hcL 48 a b).1 a, unlI (hcL 48 a b).2.1 b, true)) ∧ Gr w w' :=
  rk hkm3_ok (oAt 34 [(50, true)]) (cs := ([(b2i (nW a), 1), (b2i (nW b), 1), (b2i (isC 48 && (nW (lowI a) && nW (lowI b))), 1), (b2i ((hcL 48 a b).2.2), 1)] : Cs)) rfl (by kernel_rfl) (by kernel_rfl) he w
set_option maxHeartbeats 0 in
set_option maxRecDepth 1000000 in
theorem hc48_1 (a b : NI) (he : ([(b2i (nW a), 1), (b2i (nW b), 1), (b2i (isC 48 && (nW (lowI a) && nW (lowI b))), 1), (b2i ((hcL 48 a b).2.2), 0)] : Cs).map (·.1) = ([(b2i (nW a), 1), (b2i (nW b), 1), (b2i (isC 48 && (nW (lowI a) && nW (lowI b))), 1), (b2i ((hcL 48 a b).2.2), 0)] : Cs).map (·.2)) (w : World) : Calls Tryz.prog 34 #[.int .u8 48, VN a, VN b] w fun e w' => e = .returned (V3 nil3) ∧ Gr w w' :=
  rk hkm3_ok (oAt 34 [(50, false)]) (cs := ([(b2i (nW a), 1), (b2i (nW b), 1), (b2i (isC 48 && (nW (lowI a) && nW (lowI b))), 1), (b2i ((hcL 48 a b).2.2), 0)] : Cs)) rfl (by kernel_rfl) (by kernel_rfl) he w
theorem c_hc48 (a b : NI) (hw : (nW a && nW b) = true) (w : World) : Calls Tryz.prog 34 #[.int .u8 48, VN a, VN b] w fun e w' => e = .returned (V3 (hcI 48 a b)) ∧ Gr w w' := by
  have hb := hw
  simp only [Bool.and_eq_true] at hb
  have ha := hb.1
  have hb := hb.2
  have h1 : (isC 48 && (nW (lowI a) && nW (lowI b))) = true := by rw [nW_lowI, nW_lowI]; rfl
  have e1 := nW_ext a
  have e2 := nW_ext b
  have h2 : (isC 48 && (nW (settledI (extI a)) && nW (settledI (extI b)))) = true := by rw [nW_settled e1, nW_settled e2]; rfl
  cases k0 : ((hcL 48 a b).2.2) with
  | true =>
    exact ret_eq (by simp only [hcI, hcS, okI, show isSg 48 = false from rfl, k0, Bool.false_eq_true, ↓reduceIte]) (hc48_0 a b (csT ha (csT hb (csT h1 (csT k0 csN)))) w)
  | false =>
    exact ret_eq (by simp only [hcI, hcS, okI, show isSg 48 = false from rfl, k0, Bool.false_eq_true, ↓reduceIte]) (hc48_1 a b (csT ha (csT hb (csT h1 (csF k0 csN)))) w)
set_option maxHeartbeats 0 in
set_option maxRecDepth 1000000 in
theorem hc96_0 (a b : NI) (he : ([(b2i (nW a), 1), (b2i (nW b), 1), (b2i (decide ((lowI a).s.hi > 2147483647)), 1), (b2i (nW a), 1), (b2i (nW (extI a)), 1), (b2i (nW b), 1), (b2i (nW (extI b)), 1), (b2i (isC 96 && (nW (settledI (extI a)) && nW (settledI (extI b)))), 1), (b2i ((hcE 96 a b).2.2), 1)] : Cs).map (·.1) = ([(b2i (nW a), 1), (b2i (nW b), 1), (b2i (decide ((lowI a).s.hi > 2147483647)), 1), (b2i (nW a), 1), (b2i (nW (extI a)), 1), (b2i (nW b), 1), (b2i (nW (extI b)), 1), (b2i (isC 96 && (nW (settledI (extI a)) && nW (settledI (extI b)))), 1), (b2i ((hcE 96 a b).2.2), 1)] : Cs).map (·.2)) (w : World) : Calls Tryz.prog 34 #[.int .u8 96, VN a, VN b] w fun e w' => e = .returned (V3 (a, b, true)) ∧ Gr w w' :=
  rk hkm3_ok (oAt 34 [(21, true), (40, true)]) (cs := ([(b2i (nW a), 1), (b2i (nW b), 1), (b2i (decide ((lowI a).s.hi > 2147483647)), 1), (b2i (nW a), 1), (b2i (nW (extI a)), 1), (b2i (nW b), 1), (b2i (nW (extI b)), 1), (b2i (isC 96 && (nW (settledI (extI a)) && nW (settledI (extI b)))), 1), (b2i ((hcE 96 a b).2.2), 1)] : Cs)) rfl (by kernel_rfl) (by kernel_rfl) he w
set_option maxHeartbeats 0 in
set_option maxRecDepth 1000000 in
theorem hc96_1 (a b : NI) (he : ([(b2i (nW a), 1), (b2i (nW b), 1), (b2i (decide ((lowI a).s.hi > 2147483647)), 1), (b2i (nW a), 1), (b2i (nW (extI a)), 1), (b2i (nW b), 1), (b2i (nW (extI b)), 1), (b2i (isC 96 && (nW (settledI (extI a)) && nW (settledI (extI b)))), 1), (b2i ((hcE 96 a b).2.2), 0)] : Cs).map (·.1) = ([(b2i (nW a), 1), (b2i (nW b), 1), (b2i (decide ((lowI a).s.hi > 2147483647)), 1), (b2i (nW a), 1), (b2i (nW (extI a)), 1), (b2i (nW b), 1), (b2i (nW (extI b)), 1), (b2i (isC 96 && (nW (settledI (extI a)) && nW (settledI (extI b)))), 1), (b2i ((hcE 96 a b).2.2), 0)] : Cs).map (·.2)) (w : World) : Calls Tryz.prog 34 #[.int .u8 96, VN a, VN b] w fun e w' => e = .returned (V3 nil3) ∧ Gr w w' :=
  rk hkm3_ok (oAt 34 [(21, true), (40, false)]) (cs := ([(b2i (nW a), 1), (b2i (nW b), 1), (b2i (decide ((lowI a).s.hi > 2147483647)), 1), (b2i (nW a), 1), (b2i (nW (extI a)), 1), (b2i (nW b), 1), (b2i (nW (extI b)), 1), (b2i (isC 96 && (nW (settledI (extI a)) && nW (settledI (extI b)))), 1), (b2i ((hcE 96 a b).2.2), 0)] : Cs)) rfl (by kernel_rfl) (by kernel_rfl) he w
set_option maxHeartbeats 0 in
set_option maxRecDepth 1000000 in
theorem hc96_2 (a b : NI) (he : ([(b2i (nW a), 1), (b2i (nW b), 1), (b2i (decide ((lowI a).s.hi > 2147483647)), 0), (b2i (decide ((lowI b).s.hi > 2147483647)), 1), (b2i (nW a), 1), (b2i (nW (extI a)), 1), (b2i (nW b), 1), (b2i (nW (extI b)), 1), (b2i (isC 96 && (nW (settledI (extI a)) && nW (settledI (extI b)))), 1), (b2i ((hcE 96 a b).2.2), 1)] : Cs).map (·.1) = ([(b2i (nW a), 1), (b2i (nW b), 1), (b2i (decide ((lowI a).s.hi > 2147483647)), 0), (b2i (decide ((lowI b).s.hi > 2147483647)), 1), (b2i (nW a), 1), (b2i (nW (extI a)), 1), (b2i (nW b), 1), (b2i (nW (extI b)), 1), (b2i (isC 96 && (nW (settledI (extI a)) && nW (settledI (extI b)))), 1), (b2i ((hcE 96 a b).2.2), 1)] : Cs).map (·.2)) (w : World) : Calls Tryz.prog 34 #[.int .u8 96, VN a, VN b] w fun e w' => e = .returned (V3 (a, b, true)) ∧ Gr w w' :=
  rk hkm3_ok (oAt 34 [(21, false), (26, true), (40, true)]) (cs := ([(b2i (nW a), 1), (b2i (nW b), 1), (b2i (decide ((lowI a).s.hi > 2147483647)), 0), (b2i (decide ((lowI b).s.hi > 2147483647)), 1), (b2i (nW a), 1), (b2i (nW (extI a)), 1), (b2i (nW b), 1), (b2i (nW (extI b)), 1), (b2i (isC 96 && (nW (settledI (extI a)) && nW (settledI (extI b)))), 1), (b2i ((hcE 96 a b).2.2), 1)] : Cs)) rfl (by kernel_rfl) (by kernel_rfl) he w
set_option maxHeartbeats 0 in
set_option maxRecDepth 1000000 in
theorem hc96_3 (a b : NI) (he : ([(b2i (nW a), 1), (b2i (nW b), 1), (b2i (decide ((lowI a).s.hi > 2147483647)), 0), (b2i (decide ((lowI b).s.hi > 2147483647)), 1), (b2i (nW a), 1), (b2i (nW (extI a)), 1), (b2i (nW b), 1), (b2i (nW (extI b)), 1), (b2i (isC 96 && (nW (settledI (extI a)) && nW (settledI (extI b)))), 1), (b2i ((hcE 96 a b).2.2), 0)] : Cs).map (·.1) = ([(b2i (nW a), 1), (b2i (nW b), 1), (b2i (decide ((lowI a).s.hi > 2147483647)), 0), (b2i (decide ((lowI b).s.hi > 2147483647)), 1), (b2i (nW a), 1), (b2i (nW (extI a)), 1), (b2i (nW b), 1), (b2i (nW (extI b)), 1), (b2i (isC 96 && (nW (settledI (extI a)) && nW (settledI (extI b)))), 1), (b2i ((hcE 96 a b).2.2), 0)] : Cs).map (·.2)) (w : World) : Calls Tryz.prog 34 #[.int .u8 96, VN a, VN b] w fun e w' => e = .returned (V3 nil3) ∧ Gr w w' :=
  rk hkm3_ok (oAt 34 [(21, false), (26, true), (40, false)]) (cs := ([(b2i (nW a), 1), (b2i (nW b), 1), (b2i (decide ((lowI a).s.hi > 2147483647)), 0), (b2i (decide ((lowI b).s.hi > 2147483647)), 1), (b2i (nW a), 1), (b2i (nW (extI a)), 1), (b2i (nW b), 1), (b2i (nW (extI b)), 1), (b2i (isC 96 && (nW (settledI (extI a)) && nW (settledI (extI b)))), 1), (b2i ((hcE 96 a b).2.2), 0)] : Cs)) rfl (by kernel_rfl) (by kernel_rfl) he w
set_option maxHeartbeats 0 in
set_option maxRecDepth 1000000 in
theorem hc96_4 (a b : NI) (he : ([(b2i (nW a), 1), (b2i (nW b), 1), (b2i (decide ((lowI a).s.hi > 2147483647)), 0), (b2i (decide ((lowI b).s.hi > 2147483647)), 0), (b2i (isC 96 && (nW (lowI a) && nW (lowI b))), 1), (b2i ((hcL 96 a b).2.2), 1)] : Cs).map (·.1) = ([(b2i (nW a), 1), (b2i (nW b), 1), (b2i (decide ((lowI a).s.hi > 2147483647)), 0), (b2i (decide ((lowI b).s.hi > 2147483647)), 0), (b2i (isC 96 && (nW (lowI a) && nW (lowI b))), 1), (b2i ((hcL 96 a b).2.2), 1)] : Cs).map (·.2)) (w : World) : Calls Tryz.prog 34 #[.int .u8 96, VN a, VN b] w fun e w' => e = .returned (V3 (unlI (hcL 96 a b).1 a, unlI (hcL 96 a b).2.1 b, true)) ∧ Gr w w' :=
  rk hkm3_ok (oAt 34 [(21, false), (26, false), (50, true)]) (cs := ([(b2i (nW a), 1), (b2i (nW b), 1), (b2i (decide ((lowI a).s.hi > 2147483647)), 0), (b2i (decide ((lowI b).s.hi > 2147483647)), 0), (b2i (isC 96 && (nW (lowI a) && nW (lowI b))), 1), (b2i ((hcL 96 a b).2.2), 1)] : Cs)) rfl (by kernel_rfl) (by kernel_rfl) he w
set_option maxHeartbeats 0 in
set_option maxRecDepth 1000000 in
theorem hc96_5 (a b : NI) (he : ([(b2i (nW a), 1), (b2i (nW b), 1), (b2i (decide ((lowI a).s.hi > 2147483647)), 0), (b2i (decide ((lowI b).s.hi > 2147483647)), 0), (b2i (isC 96 && (nW (lowI a) && nW (lowI b))), 1), (b2i ((hcL 96 a b).2.2), 0)] : Cs).map (·.1) = ([(b2i (nW a), 1), (b2i (nW b), 1), (b2i (decide ((lowI a).s.hi > 2147483647)), 0), (b2i (decide ((lowI b).s.hi > 2147483647)), 0), (b2i (isC 96 && (nW (lowI a) && nW (lowI b))), 1), (b2i ((hcL 96 a b).2.2), 0)] : Cs).map (·.2)) (w : World) : Calls Tryz.prog 34 #[.int .u8 96, VN a, VN b] w fun e w' => e = .returned (V3 nil3) ∧ Gr w w' :=
  rk hkm3_ok (oAt 34 [(21, false), (26, false), (50, false)]) (cs := ([(b2i (nW a), 1), (b2i (nW b), 1), (b2i (decide ((lowI a).s.hi > 2147483647)), 0), (b2i (decide ((lowI b).s.hi > 2147483647)), 0), (b2i (isC 96 && (nW (lowI a) && nW (lowI b))), 1), (b2i ((hcL 96 a b).2.2), 0)] : Cs)) rfl (by kernel_rfl) (by kernel_rfl) he w
theorem c_hc96 (a b : NI) (hw : (nW a && nW b) = true) (w : World) : Calls Tryz.prog 34 #[.int .u8 96, VN a, VN b] w fun e w' => e = .returned (V3 (hcI 96 a b)) ∧ Gr w w' := by
  have hb := hw
  simp only [Bool.and_eq_true] at hb
  have ha := hb.1
  have hb := hb.2
  have h1 : (isC 96 && (nW (lowI a) && nW (lowI b))) = true := by rw [nW_lowI, nW_lowI]; rfl
  have e1 := nW_ext a
  have e2 := nW_ext b
  have h2 : (isC 96 && (nW (settledI (extI a)) && nW (settledI (extI b)))) = true := by rw [nW_settled e1, nW_settled e2]; rfl
  cases k0 : (decide ((lowI a).s.hi > 2147483647)) with
  | true =>
    cases k1 : ((hcE 96 a b).2.2) with
    | true =>
      exact ret_eq (by simp only [hcI, hcX, okI, show isSg 96 = true from rfl, k0, k1, ↓reduceIte]) (hc96_0 a b (csT ha (csT hb (csT k0 (csT ha (csT e1 (csT hb (csT e2 (csT h2 (csT k1 csN))))))))) w)
    | false =>
      exact ret_eq (by simp only [hcI, hcX, okI, show isSg 96 = true from rfl, k0, k1, Bool.false_eq_true, ↓reduceIte]) (hc96_1 a b (csT ha (csT hb (csT k0 (csT ha (csT e1 (csT hb (csT e2 (csT h2 (csF k1 csN))))))))) w)
  | false =>
    cases k1 : (decide ((lowI b).s.hi > 2147483647)) with
    | true =>
      cases k2 : ((hcE 96 a b).2.2) with
      | true =>
        exact ret_eq (by simp only [hcI, hcX, okI, show isSg 96 = true from rfl, k0, k1, k2, Bool.false_eq_true, ↓reduceIte]) (hc96_2 a b (csT ha (csT hb (csF k0 (csT k1 (csT ha (csT e1 (csT hb (csT e2 (csT h2 (csT k2 csN)))))))))) w)
      | false =>
        exact ret_eq (by simp only [hcI, hcX, okI, show isSg 96 = true from rfl, k0, k1, k2, Bool.false_eq_true, ↓reduceIte]) (hc96_3 a b (csT ha (csT hb (csF k0 (csT k1 (csT ha (csT e1 (csT hb (csT e2 (csT h2 (csF k2 csN)))))))))) w)
    | false =>
      cases k2 : ((hcL 96 a b).2.2) with
      | true =>
        exact ret_eq (by simp only [hcI, hcS, okI, show isSg 96 = true from rfl, k0, k1, k2, Bool.false_eq_true, ↓reduceIte]) (hc96_4 a b (csT ha (csT hb (csF k0 (csF k1 (csT h1 (csT k2 csN)))))) w)
      | false =>
        exact ret_eq (by simp only [hcI, hcS, okI, show isSg 96 = true from rfl, k0, k1, k2, Bool.false_eq_true, ↓reduceIte]) (hc96_5 a b (csT ha (csT hb (csF k0 (csF k1 (csT h1 (csF k2 csN)))))) w)
set_option maxHeartbeats 0 in
set_option maxRecDepth 1000000 in
theorem hc112_0 (a b : NI) (he : ([(b2i (nW a), 1), (b2i (nW b), 1), (b2i (decide ((lowI a).s.hi > 2147483647)), 1), (b2i (nW a), 1), (b2i (nW (extI a)), 1), (b2i (nW b), 1), (b2i (nW (extI b)), 1), (b2i (isC 112 && (nW (settledI (extI a)) && nW (settledI (extI b)))), 1), (b2i ((hcE 112 a b).2.2), 1)] : Cs).map (·.1) = ([(b2i (nW a), 1), (b2i (nW b), 1), (b2i (decide ((lowI a).s.hi > 2147483647)), 1), (b2i (nW a), 1), (b2i (nW (extI a)), 1), (b2i (nW b), 1), (b2i (nW (extI b)), 1), (b2i (isC 112 && (nW (settledI (extI a)) && nW (settledI (extI b)))), 1), (b2i ((hcE 112 a b).2.2), 1)] : Cs).map (·.2)) (w : World) : Calls Tryz.prog 34 #[.int .u8 112, VN a, VN b] w fun e w' => e = .returned (V3 (a, b, true)) ∧ Gr w w' :=
  rk hkm3_ok (oAt 34 [(21, true), (40, true)]) (cs := ([(b2i (nW a), 1), (b2i (nW b), 1), (b2i (decide ((lowI a).s.hi > 2147483647)), 1), (b2i (nW a), 1), (b2i (nW (extI a)), 1), (b2i (nW b), 1), (b2i (nW (extI b)), 1), (b2i (isC 112 && (nW (settledI (extI a)) && nW (settledI (extI b)))), 1), (b2i ((hcE 112 a b).2.2), 1)] : Cs)) rfl (by kernel_rfl) (by kernel_rfl) he w
set_option maxHeartbeats 0 in
set_option maxRecDepth 1000000 in
theorem hc112_1 (a b : NI) (he : ([(b2i (nW a), 1), (b2i (nW b), 1), (b2i (decide ((lowI a).s.hi > 2147483647)), 1), (b2i (nW a), 1), (b2i (nW (extI a)), 1), (b2i (nW b), 1), (b2i (nW (extI b)), 1), (b2i (isC 112 && (nW (settledI (extI a)) && nW (settledI (extI b)))), 1), (b2i ((hcE 112 a b).2.2), 0)] : Cs).map (·.1) = ([(b2i (nW a), 1), (b2i (nW b), 1), (b2i (decide ((lowI a).s.hi > 2147483647)), 1), (b2i (nW a), 1), (b2i (nW (extI a)), 1), (b2i (nW b), 1), (b2i (nW (extI b)), 1), (b2i (isC 112 && (nW (settledI (extI a)) && nW (settledI (extI b)))), 1), (b2i ((hcE 112 a b).2.2), 0)] : Cs).map (·.2)) (w : World) : Calls Tryz.prog 34 #[.int .u8 112, VN a, VN b] w fun e w' => e = .returned (V3 nil3) ∧ Gr w w' :=
  rk hkm3_ok (oAt 34 [(21, true), (40, false)]) (cs := ([(b2i (nW a), 1), (b2i (nW b), 1), (b2i (decide ((lowI a).s.hi > 2147483647)), 1), (b2i (nW a), 1), (b2i (nW (extI a)), 1), (b2i (nW b), 1), (b2i (nW (extI b)), 1), (b2i (isC 112 && (nW (settledI (extI a)) && nW (settledI (extI b)))), 1), (b2i ((hcE 112 a b).2.2), 0)] : Cs)) rfl (by kernel_rfl) (by kernel_rfl) he w
set_option maxHeartbeats 0 in
set_option maxRecDepth 1000000 in
theorem hc112_2 (a b : NI) (he : ([(b2i (nW a), 1), (b2i (nW b), 1), (b2i (decide ((lowI a).s.hi > 2147483647)), 0), (b2i (decide ((lowI b).s.hi > 2147483647)), 1), (b2i (nW a), 1), (b2i (nW (extI a)), 1), (b2i (nW b), 1), (b2i (nW (extI b)), 1), (b2i (isC 112 && (nW (settledI (extI a)) && nW (settledI (extI b)))), 1), (b2i ((hcE 112 a b).2.2), 1)] : Cs).map (·.1) = ([(b2i (nW a), 1), (b2i (nW b), 1), (b2i (decide ((lowI a).s.hi > 2147483647)), 0), (b2i (decide ((lowI b).s.hi > 2147483647)), 1), (b2i (nW a), 1), (b2i (nW (extI a)), 1), (b2i (nW b), 1), (b2i (nW (extI b)), 1), (b2i (isC 112 && (nW (settledI (extI a)) && nW (settledI (extI b)))), 1), (b2i ((hcE 112 a b).2.2), 1)] : Cs).map (·.2)) (w : World) : Calls Tryz.prog 34 #[.int .u8 112, VN a, VN b] w fun e w' => e = .returned (V3 (a, b, true)) ∧ Gr w w' :=
  rk hkm3_ok (oAt 34 [(21, false), (26, true), (40, true)]) (cs := ([(b2i (nW a), 1), (b2i (nW b), 1), (b2i (decide ((lowI a).s.hi > 2147483647)), 0), (b2i (decide ((lowI b).s.hi > 2147483647)), 1), (b2i (nW a), 1), (b2i (nW (extI a)), 1), (b2i (nW b), 1), (b2i (nW (extI b)), 1), (b2i (isC 112 && (nW (settledI (extI a)) && nW (settledI (extI b)))), 1), (b2i ((hcE 112 a b).2.2), 1)] : Cs)) rfl (by kernel_rfl) (by kernel_rfl) he w
set_option maxHeartbeats 0 in
set_option maxRecDepth 1000000 in
theorem hc112_3 (a b : NI) (he : ([(b2i (nW a), 1), (b2i (nW b), 1), (b2i (decide ((lowI a).s.hi > 2147483647)), 0), (b2i (decide ((lowI b).s.hi > 2147483647)), 1), (b2i (nW a), 1), (b2i (nW (extI a)), 1), (b2i (nW b), 1), (b2i (nW (extI b)), 1), (b2i (isC 112 && (nW (settledI (extI a)) && nW (settledI (extI b)))), 1), (b2i ((hcE 112 a b).2.2), 0)] : Cs).map (·.1) = ([(b2i (nW a), 1), (b2i (nW b), 1), (b2i (decide ((lowI a).s.hi > 2147483647)), 0), (b2i (decide ((lowI b).s.hi > 2147483647)), 1), (b2i (nW a), 1), (b2i (nW (extI a)), 1), (b2i (nW b), 1), (b2i (nW (extI b)), 1), (b2i (isC 112 && (nW (settledI (extI a)) && nW (settledI (extI b)))), 1), (b2i ((hcE 112 a b).2.2), 0)] : Cs).map (·.2)) (w : World) : Calls Tryz.prog 34 #[.int .u8 112, VN a, VN b] w fun e w' => e = .returned (V3 nil3) ∧ Gr w w' :=
  rk hkm3_ok (oAt 34 [(21, false), (26, true), (40, false)]) (cs := ([(b2i (nW a), 1), (b2i (nW b), 1), (b2i (decide ((lowI a).s.hi > 2147483647)), 0), (b2i (decide ((lowI b).s.hi > 2147483647)), 1), (b2i (nW a), 1), (b2i (nW (extI a)), 1), (b2i (nW b), 1), (b2i (nW (extI b)), 1), (b2i (isC 112 && (nW (settledI (extI a)) && nW (settledI (extI b)))), 1), (b2i ((hcE 112 a b).2.2), 0)] : Cs)) rfl (by kernel_rfl) (by kernel_rfl) he w
set_option maxHeartbeats 0 in
set_option maxRecDepth 1000000 in
theorem hc112_4 (a b : NI) (he : ([(b2i (nW a), 1), (b2i (nW b), 1), (b2i (decide ((lowI a).s.hi > 2147483647)), 0), (b2i (decide ((lowI b).s.hi > 2147483647)), 0), (b2i (isC 112 && (nW (lowI a) && nW (lowI b))), 1), (b2i ((hcL 112 a b).2.2), 1)] : Cs).map (·.1) = ([(b2i (nW a), 1), (b2i (nW b), 1), (b2i (decide ((lowI a).s.hi > 2147483647)), 0), (b2i (decide ((lowI b).s.hi > 2147483647)), 0), (b2i (isC 112 && (nW (lowI a) && nW (lowI b))), 1), (b2i ((hcL 112 a b).2.2), 1)] : Cs).map (·.2)) (w : World) : Calls Tryz.prog 34 #[.int .u8 112, VN a, VN b] w fun e w' => e = .returned (V3 (unlI (hcL 112 a b).1 a, unlI (hcL 112 a b).2.1 b, true)) ∧ Gr w w' :=
  rk hkm3_ok (oAt 34 [(21, false), (26, false), (50, true)]) (cs := ([(b2i (nW a), 1), (b2i (nW b), 1), (b2i (decide ((lowI a).s.hi > 2147483647)), 0), (b2i (decide ((lowI b).s.hi > 2147483647)), 0), (b2i (isC 112 && (nW (lowI a) && nW (lowI b))), 1), (b2i ((hcL 112 a b).2.2), 1)] : Cs)) rfl (by kernel_rfl) (by kernel_rfl) he w
set_option maxHeartbeats 0 in
set_option maxRecDepth 1000000 in
theorem hc112_5 (a b : NI) (he : ([(b2i (nW a), 1), (b2i (nW b), 1), (b2i (decide ((lowI a).s.hi > 2147483647)), 0), (b2i (decide ((lowI b).s.hi > 2147483647)), 0), (b2i (isC 112 && (nW (lowI a) && nW (lowI b))), 1), (b2i ((hcL 112 a b).2.2), 0)] : Cs).map (·.1) = ([(b2i (nW a), 1), (b2i (nW b), 1), (b2i (decide ((lowI a).s.hi > 2147483647)), 0), (b2i (decide ((lowI b).s.hi > 2147483647)), 0), (b2i (isC 112 && (nW (lowI a) && nW (lowI b))), 1), (b2i ((hcL 112 a b).2.2), 0)] : Cs).map (·.2)) (w : World) : Calls Tryz.prog 34 #[.int .u8 112, VN a, VN b] w fun e w' => e = .returned (V3 nil3) ∧ Gr w w' :=
  rk hkm3_ok (oAt 34 [(21, false), (26, false), (50, false)]) (cs := ([(b2i (nW a), 1), (b2i (nW b), 1), (b2i (decide ((lowI a).s.hi > 2147483647)), 0), (b2i (decide ((lowI b).s.hi > 2147483647)), 0), (b2i (isC 112 && (nW (lowI a) && nW (lowI b))), 1), (b2i ((hcL 112 a b).2.2), 0)] : Cs)) rfl (by kernel_rfl) (by kernel_rfl) he w
theorem c_hc112 (a b : NI) (hw : (nW a && nW b) = true) (w : World) : Calls Tryz.prog 34 #[.int .u8 112, VN a, VN b] w fun e w' => e = .returned (V3 (hcI 112 a b)) ∧ Gr w w' := by
  have hb := hw
  simp only [Bool.and_eq_true] at hb
  have ha := hb.1
  have hb := hb.2
  have h1 : (isC 112 && (nW (lowI a) && nW (lowI b))) = true := by rw [nW_lowI, nW_lowI]; rfl
  have e1 := nW_ext a
  have e2 := nW_ext b
  have h2 : (isC 112 && (nW (settledI (extI a)) && nW (settledI (extI b)))) = true := by rw [nW_settled e1, nW_settled e2]; rfl
  cases k0 : (decide ((lowI a).s.hi > 2147483647)) with
  | true =>
    cases k1 : ((hcE 112 a b).2.2) with
    | true =>
      exact ret_eq (by simp only [hcI, hcX, okI, show isSg 112 = true from rfl, k0, k1, ↓reduceIte]) (hc112_0 a b (csT ha (csT hb (csT k0 (csT ha (csT e1 (csT hb (csT e2 (csT h2 (csT k1 csN))))))))) w)
    | false =>
      exact ret_eq (by simp only [hcI, hcX, okI, show isSg 112 = true from rfl, k0, k1, Bool.false_eq_true, ↓reduceIte]) (hc112_1 a b (csT ha (csT hb (csT k0 (csT ha (csT e1 (csT hb (csT e2 (csT h2 (csF k1 csN))))))))) w)
  | false =>
    cases k1 : (decide ((lowI b).s.hi > 2147483647)) with
    | true =>
      cases k2 : ((hcE 112 a b).2.2) with
      | true =>
        exact ret_eq (by simp only [hcI, hcX, okI, show isSg 112 = true from rfl, k0, k1, k2, Bool.false_eq_true, ↓reduceIte]) (hc112_2 a b (csT ha (csT hb (csF k0 (csT k1 (csT ha (csT e1 (csT hb (csT e2 (csT h2 (csT k2 csN)))))))))) w)
      | false =>
        exact ret_eq (by simp only [hcI, hcX, okI, show isSg 112 = true from rfl, k0, k1, k2, Bool.false_eq_true, ↓reduceIte]) (hc112_3 a b (csT ha (csT hb (csF k0 (csT k1 (csT ha (csT e1 (csT hb (csT e2 (csT h2 (csF k2 csN)))))))))) w)
    | false =>
      cases k2 : ((hcL 112 a b).2.2) with
      | true =>
        exact ret_eq (by simp only [hcI, hcS, okI, show isSg 112 = true from rfl, k0, k1, k2, Bool.false_eq_true, ↓reduceIte]) (hc112_4 a b (csT ha (csT hb (csF k0 (csF k1 (csT h1 (csT k2 csN)))))) w)
      | false =>
        exact ret_eq (by simp only [hcI, hcS, okI, show isSg 112 = true from rfl, k0, k1, k2, Bool.false_eq_true, ↓reduceIte]) (hc112_5 a b (csT ha (csT hb (csF k0 (csF k1 (csT h1 (csF k2 csN)))))) w)
set_option maxHeartbeats 0 in
set_option maxRecDepth 1000000 in
theorem hc160_0 (a b : NI) (he : ([(b2i (nW a), 1), (b2i (nW b), 1), (b2i (isC 160 && (nW (lowI a) && nW (lowI b))), 1), (b2i ((hcL 160 a b).2.2), 1)] : Cs).map (·.1) = ([(b2i (nW a), 1), (b2i (nW b), 1), (b2i (isC 160 && (nW (lowI a) && nW (lowI b))), 1), (b2i ((hcL 160 a b).2.2), 1)] : Cs).map (·.2)) (w : World) : Calls Tryz.prog 34 #[.int .u8 160, VN a, VN b] w fun e w' => e = .returned (V3 (unlI (hcL 160 a b).1 a, unlI (hcL 160 a b).2.1 b, true)) ∧ Gr w w' :=
  rk hkm3_ok (oAt 34 [(50, true)]) (cs := ([(b2i (nW a), 1), (b2i (nW b), 1), (b2i (isC 160 && (nW (lowI a) && nW (lowI b))), 1), (b2i ((hcL 160 a b).2.2), 1)] : Cs)) rfl (by kernel_rfl) (by kernel_rfl) he w
set_option maxHeartbeats 0 in
set_option maxRecDepth 1000000 in
theorem hc160_1 (a b : NI) (he : ([(b2i (nW a), 1), (b2i (nW b), 1), (b2i (isC 160 && (nW (lowI a) && nW (lowI b))), 1), (b2i ((hcL 160 a b).2.2), 0)] : Cs).map (·.1) = ([(b2i (nW a), 1), (b2i (nW b), 1), (b2i (isC 160 && (nW (lowI a) && nW (lowI b))), 1), (b2i ((hcL 160 a b).2.2), 0)] : Cs).map (·.2)) (w : World) : Calls Tryz.prog 34 #[.int .u8 160, VN a, VN b] w fun e w' => e = .returned (V3 nil3) ∧ Gr w w' :=
  rk hkm3_ok (oAt 34 [(50, false)]) (cs := ([(b2i (nW a), 1), (b2i (nW b), 1), (b2i (isC 160 && (nW (lowI a) && nW (lowI b))), 1), (b2i ((hcL 160 a b).2.2), 0)] : Cs)) rfl (by kernel_rfl) (by kernel_rfl) he w
theorem c_hc160 (a b : NI) (hw : (nW a && nW b) = true) (w : World) : Calls Tryz.prog 34 #[.int .u8 160, VN a, VN b] w fun e w' => e = .returned (V3 (hcI 160 a b)) ∧ Gr w w' := by
  have hb := hw
  simp only [Bool.and_eq_true] at hb
  have ha := hb.1
  have hb := hb.2
  have h1 : (isC 160 && (nW (lowI a) && nW (lowI b))) = true := by rw [nW_lowI, nW_lowI]; rfl
  have e1 := nW_ext a
  have e2 := nW_ext b
  have h2 : (isC 160 && (nW (settledI (extI a)) && nW (settledI (extI b)))) = true := by rw [nW_settled e1, nW_settled e2]; rfl
  cases k0 : ((hcL 160 a b).2.2) with
  | true =>
    exact ret_eq (by simp only [hcI, hcS, okI, show isSg 160 = false from rfl, k0, Bool.false_eq_true, ↓reduceIte]) (hc160_0 a b (csT ha (csT hb (csT h1 (csT k0 csN)))) w)
  | false =>
    exact ret_eq (by simp only [hcI, hcS, okI, show isSg 160 = false from rfl, k0, Bool.false_eq_true, ↓reduceIte]) (hc160_1 a b (csT ha (csT hb (csT h1 (csF k0 csN)))) w)
set_option maxHeartbeats 0 in
set_option maxRecDepth 1000000 in
theorem hc176_0 (a b : NI) (he : ([(b2i (nW a), 1), (b2i (nW b), 1), (b2i (isC 176 && (nW (lowI a) && nW (lowI b))), 1), (b2i ((hcL 176 a b).2.2), 1)] : Cs).map (·.1) = ([(b2i (nW a), 1), (b2i (nW b), 1), (b2i (isC 176 && (nW (lowI a) && nW (lowI b))), 1), (b2i ((hcL 176 a b).2.2), 1)] : Cs).map (·.2)) (w : World) : Calls Tryz.prog 34 #[.int .u8 176, VN a, VN b] w fun e w' => e = .returned (V3 (unlI (hcL 176 a b).1 a, unlI (hcL 176 a b).2.1 b, true)) ∧ Gr w w' :=
  rk hkm3_ok (oAt 34 [(50, true)]) (cs := ([(b2i (nW a), 1), (b2i (nW b), 1), (b2i (isC 176 && (nW (lowI a) && nW (lowI b))), 1), (b2i ((hcL 176 a b).2.2), 1)] : Cs)) rfl (by kernel_rfl) (by kernel_rfl) he w
set_option maxHeartbeats 0 in
set_option maxRecDepth 1000000 in
theorem hc176_1 (a b : NI) (he : ([(b2i (nW a), 1), (b2i (nW b), 1), (b2i (isC 176 && (nW (lowI a) && nW (lowI b))), 1), (b2i ((hcL 176 a b).2.2), 0)] : Cs).map (·.1) = ([(b2i (nW a), 1), (b2i (nW b), 1), (b2i (isC 176 && (nW (lowI a) && nW (lowI b))), 1), (b2i ((hcL 176 a b).2.2), 0)] : Cs).map (·.2)) (w : World) : Calls Tryz.prog 34 #[.int .u8 176, VN a, VN b] w fun e w' => e = .returned (V3 nil3) ∧ Gr w w' :=
  rk hkm3_ok (oAt 34 [(50, false)]) (cs := ([(b2i (nW a), 1), (b2i (nW b), 1), (b2i (isC 176 && (nW (lowI a) && nW (lowI b))), 1), (b2i ((hcL 176 a b).2.2), 0)] : Cs)) rfl (by kernel_rfl) (by kernel_rfl) he w
theorem c_hc176 (a b : NI) (hw : (nW a && nW b) = true) (w : World) : Calls Tryz.prog 34 #[.int .u8 176, VN a, VN b] w fun e w' => e = .returned (V3 (hcI 176 a b)) ∧ Gr w w' := by
  have hb := hw
  simp only [Bool.and_eq_true] at hb
  have ha := hb.1
  have hb := hb.2
  have h1 : (isC 176 && (nW (lowI a) && nW (lowI b))) = true := by rw [nW_lowI, nW_lowI]; rfl
  have e1 := nW_ext a
  have e2 := nW_ext b
  have h2 : (isC 176 && (nW (settledI (extI a)) && nW (settledI (extI b)))) = true := by rw [nW_settled e1, nW_settled e2]; rfl
  cases k0 : ((hcL 176 a b).2.2) with
  | true =>
    exact ret_eq (by simp only [hcI, hcS, okI, show isSg 176 = false from rfl, k0, Bool.false_eq_true, ↓reduceIte]) (hc176_0 a b (csT ha (csT hb (csT h1 (csT k0 csN)))) w)
  | false =>
    exact ret_eq (by simp only [hcI, hcS, okI, show isSg 176 = false from rfl, k0, Bool.false_eq_true, ↓reduceIte]) (hc176_1 a b (csT ha (csT hb (csT h1 (csF k0 csN)))) w)
set_option maxHeartbeats 0 in
set_option maxRecDepth 1000000 in
theorem hc192_0 (a b : NI) (he : ([(b2i (nW a), 1), (b2i (nW b), 1), (b2i (decide ((lowI a).s.hi > 2147483647)), 1), (b2i (nW a), 1), (b2i (nW (extI a)), 1), (b2i (nW b), 1), (b2i (nW (extI b)), 1), (b2i (isC 192 && (nW (settledI (extI a)) && nW (settledI (extI b)))), 1), (b2i ((hcE 192 a b).2.2), 1)] : Cs).map (·.1) = ([(b2i (nW a), 1), (b2i (nW b), 1), (b2i (decide ((lowI a).s.hi > 2147483647)), 1), (b2i (nW a), 1), (b2i (nW (extI a)), 1), (b2i (nW b), 1), (b2i (nW (extI b)), 1), (b2i (isC 192 && (nW (settledI (extI a)) && nW (settledI (extI b)))), 1), (b2i ((hcE 192 a b).2.2), 1)] : Cs).map (·.2)) (w : World) : Calls Tryz.prog 34 #[.int .u8 192, VN a, VN b] w fun e w' => e = .returned (V3 (a, b, true)) ∧ Gr w w' :=
  rk hkm3_ok (oAt 34 [(21, true), (40, true)]) (cs := ([(b2i (nW a), 1), (b2i (nW b), 1), (b2i (decide ((lowI a).s.hi > 2147483647)), 1), (b2i (nW a), 1), (b2i (nW (extI a)), 1), (b2i (nW b), 1), (b2i (nW (extI b)), 1), (b2i (isC 192 && (nW (settledI (extI a)) && nW (settledI (extI b)))), 1), (b2i ((hcE 192 a b).2.2), 1)] : Cs)) rfl (by kernel_rfl) (by kernel_rfl) he w
set_option maxHeartbeats 0 in
set_option maxRecDepth 1000000 in
theorem hc192_1 (a b : NI) (he : ([(b2i (nW a), 1), (b2i (nW b), 1), (b2i (decide ((lowI a).s.hi > 2147483647)), 1), (b2i (nW a), 1), (b2i (nW (extI a)), 1), (b2i (nW b), 1), (b2i (nW (extI b)), 1), (b2i (isC 192 && (nW (settledI (extI a)) && nW (settledI (extI b)))), 1), (b2i ((hcE 192 a b).2.2), 0)] : Cs).map (·.1) = ([(b2i (nW a), 1), (b2i (nW b), 1), (b2i (decide ((lowI a).s.hi > 2147483647)), 1), (b2i (nW a), 1), (b2i (nW (extI a)), 1), (b2i (nW b), 1), (b2i (nW (extI b)), 1), (b2i (isC 192 && (nW (settledI (extI a)) && nW (settledI (extI b)))), 1), (b2i ((hcE 192 a b).2.2), 0)] : Cs).map (·.2)) (w : World) : Calls Tryz.prog 34 #[.int .u8 192, VN a, VN b] w fun e w' => e = .returned (V3 nil3) ∧ Gr w w' :=
  rk hkm3_ok (oAt 34 [(21, true), (40, false)]) (cs := ([(b2i (nW a), 1), (b2i (nW b), 1), (b2i (decide ((lowI a).s.hi > 2147483647)), 1), (b2i (nW a), 1), (b2i (nW (extI a)), 1), (b2i (nW b), 1), (b2i (nW (extI b)), 1), (b2i (isC 192 && (nW (settledI (extI a)) && nW (settledI (extI b)))), 1), (b2i ((hcE 192 a b).2.2), 0)] : Cs)) rfl (by kernel_rfl) (by kernel_rfl) he w
set_option maxHeartbeats 0 in
set_option maxRecDepth 1000000 in
theorem hc192_2 (a b : NI) (he : ([(b2i (nW a), 1), (b2i (nW b), 1), (b2i (decide ((lowI a).s.hi > 2147483647)), 0), (b2i (decide ((lowI b).s.hi > 2147483647)), 1), (b2i (nW a), 1), (b2i (nW (extI a)), 1), (b2i (nW b), 1), (b2i (nW (extI b)), 1), (b2i (isC 192 && (nW (settledI (extI a)) && nW (settledI (extI b)))), 1), (b2i ((hcE 192 a b).2.2), 1)] : Cs).map (·.1) = ([(b2i (nW a), 1), (b2i (nW b), 1), (b2i (decide ((lowI a).s.hi > 2147483647)), 0), (b2i (decide ((lowI b).s.hi > 2147483647)), 1), (b2i (nW a), 1), (b2i (nW (extI a)), 1), (b2i (nW b), 1), (b2i (nW (extI b)), 1), (b2i (isC 192 && (nW (settledI (extI a)) && nW (settledI (extI b)))), 1), (b2i ((hcE 192 a b).2.2), 1)] : Cs).map (·.2)) (w : World) : Calls Tryz.prog 34 #[.int .u8 192, VN a, VN b] w fun e w' => e = .returned (V3 (a, b, true)) ∧ Gr w w' :=
  rk hkm3_ok (oAt 34 [(21, false), (26, true), (40, true)]) (cs := ([(b2i (nW a), 1), (b2i (nW b), 1), (b2i (decide ((lowI a).s.hi > 2147483647)), 0), (b2i (decide ((lowI b).s.hi > 2147483647)), 1), (b2i (nW a), 1), (b2i (nW (extI a)), 1), (b2i (nW b), 1), (b2i (nW (extI b)), 1), (b2i (isC 192 && (nW (settledI (extI a)) && nW (settledI (extI b)))), 1), (b2i ((hcE 192 a b).2.2), 1)] : Cs)) rfl (by kernel_rfl) (by kernel_rfl) he w
set_option maxHeartbeats 0 in
set_option maxRecDepth 1000000 in
theorem hc192_3 (a b : NI) (he : ([(b2i (nW a), 1), (b2i (nW b), 1), (b2i (decide ((lowI a).s.hi > 2147483647)), 0), (b2i (decide ((lowI b).s.hi > 2147483647)), 1), (b2i (nW a), 1), (b2i (nW (extI a)), 1), (b2i (nW b), 1), (b2i (nW (extI b)), 1), (b2i (isC 192 && (nW (settledI (extI a)) && nW (settledI (extI b)))), 1), (b2i ((hcE 192 a b).2.2), 0)] : Cs).map (·.1) = ([(b2i (nW a), 1), (b2i (nW b), 1), (b2i (decide ((lowI a).s.hi > 2147483647)), 0), (b2i (decide ((lowI b).s.hi > 2147483647)), 1), (b2i (nW a), 1), (b2i (nW (extI a)), 1), (b2i (nW b), 1), (b2i (nW (extI b)), 1), (b2i (isC 192 && (nW (settledI (extI a)) && nW (settledI (extI b)))), 1), (b2i ((hcE 192 a b).2.2), 0)] : Cs).map (·.2)) (w : World) : Calls Tryz.prog 34 #[.int .u8 192, VN a, VN b] w fun e w' => e = .returned (V3 nil3) ∧ Gr w w' :=
  rk hkm3_ok (oAt 34 [(21, false), (26, true), (40, false)]) (cs := ([(b2i (nW a), 1), (b2i (nW b), 1), (b2i (decide ((lowI a).s.hi > 2147483647)), 0), (b2i (decide ((lowI b).s.hi > 2147483647)), 1), (b2i (nW a), 1), (b2i (nW (extI a)), 1), (b2i (nW b), 1), (b2i (nW (extI b)), 1), (b2i (isC 192 && (nW (settledI (extI a)) && nW (settledI (extI b)))), 1), (b2i ((hcE 192 a b).2.2), 0)] : Cs)) rfl (by kernel_rfl) (by kernel_rfl) he w
set_option maxHeartbeats 0 in
set_option maxRecDepth 1000000 in
theorem hc192_4 (a b : NI) (he : ([(b2i (nW a), 1), (b2i (nW b), 1), (b2i (decide ((lowI a).s.hi > 2147483647)), 0), (b2i (decide ((lowI b).s.hi > 2147483647)), 0), (b2i (isC 192 && (nW (lowI a) && nW (lowI b))), 1), (b2i ((hcL 192 a b).2.2), 1)] : Cs).map (·.1) = ([(b2i (nW a), 1), (b2i (nW b), 1), (b2i (decide ((lowI a).s.hi > 2147483647)), 0), (b2i (decide ((lowI b).s.hi > 2147483647)), 0), (b2i (isC 192 && (nW (lowI a) && nW (lowI b))), 1), (b2i ((hcL 192 a b).2.2), 1)] : Cs).map (·.2)) (w : World) : Calls Tryz.prog 34 #[.int .u8 192, VN a, VN b] w fun e w' => e = .returned (V3 (unlI (hcL 192 a b).1 a, unlI (hcL 192 a b).2.1 b, true)) ∧ Gr w w' :=
  rk hkm3_ok (oAt 34 [(21, false), (26, false), (50, true)]) (cs := ([(b2i (nW a), 1), (b2i (nW b), 1), (b2i (decide ((lowI a).s.hi > 2147483647)), 0), (b2i (decide ((lowI b).s.hi > 2147483647)), 0), (b2i (isC 192 && (nW (lowI a) && nW (lowI b))), 1), (b2i ((hcL 192 a b).2.2), 1)] : Cs)) rfl (by kernel_rfl) (by kernel_rfl) he w
set_option maxHeartbeats 0 in
set_option maxRecDepth 1000000 in
theorem hc192_5 (a b : NI) (he : ([(b2i (nW a), 1), (b2i (nW b), 1), (b2i (decide ((lowI a).s.hi > 2147483647)), 0), (b2i (decide ((lowI b).s.hi > 2147483647)), 0), (b2i (isC 192 && (nW (lowI a) && nW (lowI b))), 1), (b2i ((hcL 192 a b).2.2), 0)] : Cs).map (·.1) = ([(b2i (nW a), 1), (b2i (nW b), 1), (b2i (decide ((lowI a).s.hi > 2147483647)), 0), (b2i (decide ((lowI b).s.hi > 2147483647)), 0), (b2i (isC 192 && (nW (lowI a) && nW (lowI b))), 1), (b2i ((hcL 192 a b).2.2), 0)] : Cs).map (·.2)) (w : World) : Calls Tryz.prog 34 #[.int .u8 192, VN a, VN b] w fun e w' => e = .returned (V3 nil3) ∧ Gr w w' :=
  rk hkm3_ok (oAt 34 [(21, false), (26, false), (50, false)]) (cs := ([(b2i (nW a), 1), (b2i (nW b), 1), (b2i (decide ((lowI a).s.hi > 2147483647)), 0), (b2i (decide ((lowI b).s.hi > 2147483647)), 0), (b2i (isC 192 && (nW (lowI a) && nW (lowI b))), 1), (b2i ((hcL 192 a b).2.2), 0)] : Cs)) rfl (by kernel_rfl) (by kernel_rfl) he w
theorem c_hc192 (a b : NI) (hw : (nW a && nW b) = true) (w : World) : Calls Tryz.prog 34 #[.int .u8 192, VN a, VN b] w fun e w' => e = .returned (V3 (hcI 192 a b)) ∧ Gr w w' := by
  have hb := hw
  simp only [Bool.and_eq_true] at hb
  have ha := hb.1
  have hb := hb.2
  have h1 : (isC 192 && (nW (lowI a) && nW (lowI b))) = true := by rw [nW_lowI, nW_lowI]; rfl
  have e1 := nW_ext a
  have e2 := nW_ext b
  have h2 : (isC 192 && (nW (settledI (extI a)) && nW (settledI (extI b)))) = true := by rw [nW_settled e1, nW_settled e2]; rfl
  cases k0 : (decide ((lowI a).s.hi > 2147483647)) with
  | true =>
    cases k1 : ((hcE 192 a b).2.2) with
    | true =>
      exact ret_eq (by simp only [hcI, hcX, okI, show isSg 192 = true from rfl, k0, k1, ↓reduceIte]) (hc192_0 a b (csT ha (csT hb (csT k0 (csT ha (csT e1 (csT hb (csT e2 (csT h2 (csT k1 csN))))))))) w)
    | false =>
      exact ret_eq (by simp only [hcI, hcX, okI, show isSg 192 = true from rfl, k0, k1, Bool.false_eq_true, ↓reduceIte]) (hc192_1 a b (csT ha (csT hb (csT k0 (csT ha (csT e1 (csT hb (csT e2 (csT h2 (csF k1 csN))))))))) w)
  | false =>
    cases k1 : (decide ((lowI b).s.hi > 2147483647)) with
    | true =>
      cases k2 : ((hcE 192 a b).2.2) with
      | true =>
        exact ret_eq (by simp only [hcI, hcX, okI, show isSg 192 = true from rfl, k0, k1, k2, Bool.false_eq_true, ↓reduceIte]) (hc192_2 a b (csT ha (csT hb (csF k0 (csT k1 (csT ha (csT e1 (csT hb (csT e2 (csT h2 (csT k2 csN)))))))))) w)
      | false =>
        exact ret_eq (by simp only [hcI, hcX, okI, show isSg 192 = true from rfl, k0, k1, k2, Bool.false_eq_true, ↓reduceIte]) (hc192_3 a b (csT ha (csT hb (csF k0 (csT k1 (csT ha (csT e1 (csT hb (csT e2 (csT h2 (csF k2 csN)))))))))) w)
    | false =>
      cases k2 : ((hcL 192 a b).2.2) with
      | true =>
        exact ret_eq (by simp only [hcI, hcS, okI, show isSg 192 = true from rfl, k0, k1, k2, Bool.false_eq_true, ↓reduceIte]) (hc192_4 a b (csT ha (csT hb (csF k0 (csF k1 (csT h1 (csT k2 csN)))))) w)
      | false =>
        exact ret_eq (by simp only [hcI, hcS, okI, show isSg 192 = true from rfl, k0, k1, k2, Bool.false_eq_true, ↓reduceIte]) (hc192_5 a b (csT ha (csT hb (csF k0 (csF k1 (csT h1 (csF k2 csN)))))) w)
set_option maxHeartbeats 0 in
set_option maxRecDepth 1000000 in
theorem hc208_0 (a b : NI) (he : ([(b2i (nW a), 1), (b2i (nW b), 1), (b2i (decide ((lowI a).s.hi > 2147483647)), 1), (b2i (nW a), 1), (b2i (nW (extI a)), 1), (b2i (nW b), 1), (b2i (nW (extI b)), 1), (b2i (isC 208 && (nW (settledI (extI a)) && nW (settledI (extI b)))), 1), (b2i ((hcE 208 a b).2.2), 1)] : Cs).map (·.1) = ([(b2i (nW a), 1), (b2i (nW b), 1), (b2i (decide ((lowI a).s.hi > 2147483647)), 1), (b2i (nW a), 1), (b2i (nW (extI a)), 1), (b2i (nW b), 1), (b2i (nW (extI b)), 1), (b2i (isC 208 && (nW (settledI (extI a)) && nW (settledI (extI b)))), 1), (b2i ((hcE 208 a b).2.2), 1)] : Cs).map (·.2)) (w : World) : Calls Tryz.prog 34 #[.int .u8 208, VN a, VN b] w fun e w' => e = .returned (V3 (a, b, true)) ∧ Gr w w' :=
  rk hkm3_ok (oAt 34 [(21, true), (40, true)]) (cs := ([(b2i (nW a), 1), (b2i (nW b), 1), (b2i (decide ((lowI a).s.hi > 2147483647)), 1), (b2i (nW a), 1), (b2i (nW (extI a)), 1), (b2i (nW b), 1), (b2i (nW (extI b)), 1), (b2i (isC 208 && (nW (settledI (extI a)) && nW (settledI (extI b)))), 1), (b2i ((hcE 208 a b).2.2), 1)] : Cs)) rfl (by kernel_rfl) (by kernel_rfl) he w
set_option maxHeartbeats 0 in
set_option maxRecDepth 1000000 in
theorem hc208_1 (a b : NI) (he : ([(b2i (nW a), 1), (b2i (nW b), 1), (b2i (decide ((lowI a).s.hi > 2147483647)), 1), (b2i (nW a), 1), (b2i (nW (extI a)), 1), (b2i (nW b), 1), (b2i (nW (extI b)), 1), (b2i (isC 208 && (nW (settledI (extI a)) && nW (settledI (extI b)))), 1), (b2i ((hcE 208 a b).2.2), 0)] : Cs).map (·.1) = ([(b2i (nW a), 1), (b2i (nW b), 1), (b2i (decide ((lowI a).s.hi > 2147483647)), 1), (b2i (nW a), 1), (b2i (nW (extI a)), 1), (b2i (nW b), 1), (b2i (nW (extI b)), 1), (b2i (isC 208 && (nW (settledI (extI a)) && nW (settledI (extI b)))), 1), (b2i ((hcE 208 a b).2.2), 0)] : Cs).map (·.2)) (w : World) : Calls Tryz.prog 34 #[.int .u8 208, VN a, VN b] w fun e w' => e = .returned (V3 nil3) ∧ Gr w w' :=
  rk hkm3_ok (oAt 34 [(21, true), (40, false)]) (cs := ([(b2i (nW a), 1), (b2i (nW b), 1), (b2i (decide ((lowI a).s.hi > 2147483647)), 1), (b2i (nW a), 1), (b2i (nW (extI a)), 1), (b2i (nW b), 1), (b2i (nW (extI b)), 1), (b2i (isC 208 && (nW (settledI (extI a)) && nW (settledI (extI b)))), 1), (b2i ((hcE 208 a b).2.2), 0)] : Cs)) rfl (by kernel_rfl) (by kernel_rfl) he w
set_option maxHeartbeats 0 in
set_option maxRecDepth 1000000 in
theorem hc208_2 (a b : NI) (he : ([(b2i (nW a), 1), (b2i (nW b), 1), (b2i (decide ((lowI a).s.hi > 2147483647)), 0), (b2i (decide ((lowI b).s.hi > 2147483647)), 1), (b2i (nW a), 1), (b2i (nW (extI a)), 1), (b2i (nW b), 1), (b2i (nW (extI b)), 1), (b2i (isC 208 && (nW (settledI (extI a)) && nW (settledI (extI b)))), 1), (b2i ((hcE 208 a b).2.2), 1)] : Cs).map (·.1) = ([(b2i (nW a), 1), (b2i (nW b), 1), (b2i (decide ((lowI a).s.hi > 2147483647)), 0), (b2i (decide ((lowI b).s.hi > 2147483647)), 1), (b2i (nW a), 1), (b2i (nW (extI a)), 1), (b2i (nW b), 1), (b2i (nW (extI b)), 1), (b2i (isC 208 && (nW (settledI (extI a)) && nW (settledI (extI b)))), 1), (b2i ((hcE 208 a b).2.2), 1)] : Cs).map (·.2)) (w : World) : Calls Tryz.prog 34 #[.int .u8 208, VN a, VN b] w fun e w' => e = .returned (V3 (a, b, true)) ∧ Gr w w' :=
  rk hkm3_ok (oAt 34 [(21, false), (26, true), (40, true)]) (cs := ([(b2i (nW a), 1), (b2i (nW b), 1), (b2i (decide ((lowI a).s.hi > 2147483647)), 0), (b2i (decide ((lowI b).s.hi > 2147483647)), 1), (b2i (nW a), 1), (b2i (nW (extI a)), 1), (b2i (nW b), 1), (b2i (nW (extI b)), 1), (b2i (isC 208 && (nW (settledI (extI a)) && nW (settledI (extI b)))), 1), (b2i ((hcE 208 a b).2.2), 1)] : Cs)) rfl (by kernel_rfl) (by kernel_rfl) he w
set_option maxHeartbeats 0 in
set_option maxRecDepth 1000000 in
theorem hc208_3 (a b : NI) (he : ([(b2i (nW a), 1), (b2i (nW b), 1), (b2i (decide ((lowI a).s.hi > 2147483647)), 0), (b2i (decide ((lowI b).s.hi > 2147483647)), 1), (b2i (nW a), 1), (b2i (nW (extI a)), 1), (b2i (nW b), 1), (b2i (nW (extI b)), 1), (b2i (isC 208 && (nW (settledI (extI a)) && nW (settledI (extI b)))), 1), (b2i ((hcE 208 a b).2.2), 0)] : Cs).map (·.1) = ([(b2i (nW a), 1), (b2i (nW b), 1), (b2i (decide ((lowI a).s.hi > 2147483647)), 0), (b2i (decide ((lowI b).s.hi > 2147483647)), 1), (b2i (nW a), 1), (b2i (nW (extI a)), 1), (b2i (nW b), 1), (b2i (nW (extI b)), 1), (b2i (isC 208 && (nW (settledI (extI a)) && nW (settledI (extI b)))), 1), (b2i ((hcE 208 a b).2.2), 0)] : Cs).map (·.2)) (w : World) : Calls Tryz.prog 34 #[.int .u8 208, VN a, VN b] w fun e w' => e = .returned (V3 nil3) ∧ Gr w w' :=
  rk hkm3_ok (oAt 34 [(21, false), (26, true), (40, false)]) (cs := ([(b2i (nW a), 1), (b2i (nW b), 1), (b2i (decide ((lowI a).s.hi > 2147483647)), 0), (b2i (decide ((lowI b).s.hi > 2147483647)), 1), (b2i (nW a), 1), (b2i (nW (extI a)), 1), (b2i (nW b), 1), (b2i (nW (extI b)), 1), (b2i (isC 208 && (nW (settledI (extI a)) && nW (settledI (extI b)))), 1), (b2i ((hcE 208 a b).2.2), 0)] : Cs)) rfl (by kernel_rfl) (by kernel_rfl) he w
set_option maxHeartbeats 0 in
set_option maxRecDepth 1000000 in
theorem hc208_4 (a b : NI) (he : ([(b2i (nW a), 1), (b2i (nW b), 1), (b2i (decide ((lowI a).s.hi > 2147483647)), 0), (b2i (decide ((lowI b).s.hi > 2147483647)), 0), (b2i (isC 208 && (nW (lowI a) && nW (lowI b))), 1), (b2i ((hcL 208 a b).2.2), 1)] : Cs).map (·.1) = ([(b2i (nW a), 1), (b2i (nW b), 1), (b2i (decide ((lowI a).s.hi > 2147483647)), 0), (b2i (decide ((lowI b).s.hi > 2147483647)), 0), (b2i (isC 208 && (nW (lowI a) && nW (lowI b))), 1), (b2i ((hcL 208 a b).2.2), 1)] : Cs).map (·.2)) (w : World) : Calls Tryz.prog 34 #[.int .u8 208, VN a, VN b] w fun e w' => e = .returned (V3 (unlI (hcL 208 a b).1 a, unlI (hcL 208 a b).2.1 b, true)) ∧ Gr w w' :=
  rk hkm3_ok (oAt 34 [(21, false), (26, false), (50, true)]) (cs := ([(b2i (nW a), 1), (b2i (nW b), 1), (b2i (decide ((lowI a).s.hi > 2147483647)), 0), (b2i (decide ((lowI b).s.hi > 2147483647)), 0), (b2i (isC 208 && (nW (lowI a) && nW (lowI b))), 1), (b2i ((hcL 208 a b).2.2), 1)] : Cs)) rfl (by kernel_rfl) (by kernel_rfl) he w
set_option maxHeartbeats 0 in
set_option maxRecDepth 1000000 in
theorem hc208_5 (a b : NI) (he : ([(b2i (nW a), 1), (b2i (nW b), 1), (b2i (decide ((lowI a).s.hi > 2147483647)), 0), (b2i (decide ((lowI b).s.hi > 2147483647)), 0), (b2i (isC 208 && (nW (lowI a) && nW (lowI b))), 1), (b2i ((hcL 208 a b).2.2), 0)] : Cs).map (·.1) = ([(b2i (nW a), 1), (b2i (nW b), 1), (b2i (decide ((lowI a).s.hi > 2147483647)), 0), (b2i (decide ((lowI b).s.hi > 2147483647)), 0), (b2i (isC 208 && (nW (lowI a) && nW (lowI b))), 1), (b2i ((hcL 208 a b).2.2), 0)] : Cs).map (·.2)) (w : World) : Calls Tryz.prog 34 #[.int .u8 208, VN a, VN b] w fun e w' => e = .returned (V3 nil3) ∧ Gr w w' :=
  rk hkm3_ok (oAt 34 [(21, false), (26, false), (50, false)]) (cs := ([(b2i (nW a), 1), (b2i (nW b), 1), (b2i (decide ((lowI a).s.hi > 2147483647)), 0), (b2i (decide ((lowI b).s.hi > 2147483647)), 0), (b2i (isC 208 && (nW (lowI a) && nW (lowI b))), 1), (b2i ((hcL 208 a b).2.2), 0)] : Cs)) rfl (by kernel_rfl) (by kernel_rfl) he w
theorem c_hc208 (a b : NI) (hw : (nW a && nW b) = true) (w : World) : Calls Tryz.prog 34 #[.int .u8 208, VN a, VN b] w fun e w' => e = .returned (V3 (hcI 208 a b)) ∧ Gr w w' := by
  have hb := hw
  simp only [Bool.and_eq_true] at hb
  have ha := hb.1
  have hb := hb.2
  have h1 : (isC 208 && (nW (lowI a) && nW (lowI b))) = true := by rw [nW_lowI, nW_lowI]; rfl
  have e1 := nW_ext a
  have e2 := nW_ext b
  have h2 : (isC 208 && (nW (settledI (extI a)) && nW (settledI (extI b)))) = true := by rw [nW_settled e1, nW_settled e2]; rfl
  cases k0 : (decide ((lowI a).s.hi > 2147483647)) with
  | true =>
    cases k1 : ((hcE 208 a b).2.2) with
    | true =>
      exact ret_eq (by simp only [hcI, hcX, okI, show isSg 208 = true from rfl, k0, k1, ↓reduceIte]) (hc208_0 a b (csT ha (csT hb (csT k0 (csT ha (csT e1 (csT hb (csT e2 (csT h2 (csT k1 csN))))))))) w)
    | false =>
      exact ret_eq (by simp only [hcI, hcX, okI, show isSg 208 = true from rfl, k0, k1, Bool.false_eq_true, ↓reduceIte]) (hc208_1 a b (csT ha (csT hb (csT k0 (csT ha (csT e1 (csT hb (csT e2 (csT h2 (csF k1 csN))))))))) w)
  | false =>
    cases k1 : (decide ((lowI b).s.hi > 2147483647)) with
    | true =>
      cases k2 : ((hcE 208 a b).2.2) with
      | true =>
        exact ret_eq (by simp only [hcI, hcX, okI, show isSg 208 = true from rfl, k0, k1, k2, Bool.false_eq_true, ↓reduceIte]) (hc208_2 a b (csT ha (csT hb (csF k0 (csT k1 (csT ha (csT e1 (csT hb (csT e2 (csT h2 (csT k2 csN)))))))))) w)
      | false =>
        exact ret_eq (by simp only [hcI, hcX, okI, show isSg 208 = true from rfl, k0, k1, k2, Bool.false_eq_true, ↓reduceIte]) (hc208_3 a b (csT ha (csT hb (csF k0 (csT k1 (csT ha (csT e1 (csT hb (csT e2 (csT h2 (csF k2 csN)))))))))) w)
    | false =>
      cases k2 : ((hcL 208 a b).2.2) with
      | true =>
        exact ret_eq (by simp only [hcI, hcS, okI, show isSg 208 = true from rfl, k0, k1, k2, Bool.false_eq_true, ↓reduceIte]) (hc208_4 a b (csT ha (csT hb (csF k0 (csF k1 (csT h1 (csT k2 csN)))))) w)
      | false =>
        exact ret_eq (by simp only [hcI, hcS, okI, show isSg 208 = true from rfl, k0, k1, k2, Bool.false_eq_true, ↓reduceIte]) (hc208_5 a b (csT ha (csT hb (csF k0 (csF k1 (csT h1 (csF k2 csN)))))) w)
theorem c_hc (op : Int) (a b : NI) (hw : (isC op && (nW a && nW b)) = true) (w : World) : Calls Tryz.prog 34 #[.int .u8 op, VN a, VN b] w fun e w' => e = .returned (V3 (hcI op a b)) ∧ Gr w w' := by
  have hh : isC op = true ∧ (nW a && nW b) = true := by simpa only [Bool.and_eq_true] using hw
  obtain ⟨h1, h2⟩ := hh
  unfold isC at h1
  simp only [Bool.or_eq_true, beq_iff_eq, or_assoc] at h1
  rcases h1 with rfl | rfl | rfl | rfl | rfl | rfl | rfl | rfl | rfl | rfl | rfl | rfl
  · exact c_hc16 a b h2 w
  · exact c_hc80 a b h2 w
  · exact c_hc64 a b h2 w
  · exact c_hc255 a b h2 w
  · exact c_hc32 a b h2 w
  · exact c_hc48 a b h2 w
  · exact c_hc96 a b h2 w
  · exact c_hc112 a b h2 w
  · exact c_hc160 a b h2 w
  · exact c_hc176 a b h2 w
  · exact c_hc192 a b h2 w
  · exact c_hc208 a b h2 w
def hk_hc : Hook := fun f args _ =>
  if Nat.beq f 34 then
    match args with
    | [.int .u8 a, .agg ⟨[.int .u64 b0, .int .u64 b1, .int .u64 b2, .int .u64 b3, .int .i64 b4, .int .i64 b5]⟩, .agg ⟨[.int .u64 c0, .int .u64 c1, .int .u64 c2, .int .u64 c3, .int .i64 c4, .int .i64 c5]⟩] => some (V3 (hcI a (⟨⟨b0, b1⟩, ⟨b2, b3, b4, b5⟩⟩ : NI) (⟨⟨c0, c1⟩, ⟨c2, c3, c4, c5⟩⟩ : NI)), [(b2i (isC a && (nW (⟨⟨b0, b1⟩, ⟨b2, b3, b4, b5⟩⟩ : NI) && nW (⟨⟨c0, c1⟩, ⟨c2, c3, c4, c5⟩⟩ : NI))), 1)])
    | _ => none
  else none
theorem hk_hc_ok : HookOk Tryz.prog hk_hc := by
  intro f args h v cs hv hc wb k s w H
  unfold hk_hc at hv
  split at hv
  · rename_i hf
    obtain rfl := Nat.eq_of_beq_eq_true hf
    split at hv
    · rename_i a b0 b1 b2 b3 b4 b5 c0 c1 c2 c3 c4 c5
      cases hv
      have hw := pair1 hc rfl
      exact c_hc a (⟨⟨b0, b1⟩, ⟨b2, b3, b4, b5⟩⟩ : NI) (⟨⟨c0, c1⟩, ⟨c2, c3, c4, c5⟩⟩ : NI) hw w
    · cases hv
  · cases hv
end Go.Proofs.YtchjneodjaakdaaGreat.Ex
end
