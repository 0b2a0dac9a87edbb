/-
  Lemmas for the laws of this seat, part D: Law12f, Law12g, Law12h, PostGr.
-/
import Derived.Test.YtbaiokfjoglmiaaDoorPackC
import Derived.ChangeSame
section
namespace Go.Proofs.YtbaiokfjoglmiaaDoor.Ex
open Go Go.RowKit
set_option linter.unusedVariables false
def lowH (x : Int) : Int := IntKind.u64.wrap (IntKind.u32.wrap x)
def shr32 (x : Int) : Int := Int.fdiv x (2 ^ 32)
def orI2 (k : IntKind) (a b : Int) : Int := k.wrap (BitVec.ofInt k.bits a ||| BitVec.ofInt k.bits b).toNat
def mulHi (a b : Int) : Int :=
  let t := IntKind.u64.wrap (IntKind.u64.wrap (shr32 a * andI .u64 b 4294967295) + shr32 (IntKind.u64.wrap (andI .u64 a 4294967295 * andI .u64 b 4294967295)))
  IntKind.u64.wrap (IntKind.u64.wrap (IntKind.u64.wrap (shr32 a * shr32 b) + shr32 t) + shr32 (IntKind.u64.wrap (andI .u64 t 4294967295 + IntKind.u64.wrap (andI .u64 a 4294967295 * shr32 b))))
def dvOrc (b : Bool) : Orc := fun f t _ =>
  if Nat.beq f 62 then (if Nat.beq t 34 then some (.bool b) else if Nat.beq t 60 || Nat.beq t 63 then some .nilIface else none)
  else if Nat.beq f 93 then (if Nat.beq t 20 || Nat.beq t 24 then some (.bool false) else if Nat.beq t 30 || Nat.beq t 33 then some .nilIface else none)
  else none
def shOrc : Orc := fun f t _ =>
  if Nat.beq f 15 && Nat.beq t 20 then some (.bool true)
  else if Nat.beq f 43 && (Nat.beq t 11 || Nat.beq t 15) then some (.bool true)
  else none
theorem rk12 {hk : Hook} (hhk : HookOk Tryd.prog hk) (orc : Orc) {g : FuncId} {args : List Value} {v : Value} {cs : Cs} (hf : (args.all flat && flat v) = true)
    (h : reckonGL Tryd.prog (guardH hk) orc 100000 300 h12 g args = some (v, cs.map (·.1))) (h2 : reckonGR Tryd.prog (guardH hk) orc 100000 300 h12 g args v = some (v, cs.map (·.2))) (he : cs.map (·.1) = cs.map (·.2)) (w : World) (hL : Laid h12 w) : Calls Tryd.prog g ⟨args⟩ w fun e w' => e = .returned v ∧ Gr w w' := by
  simp only [Bool.and_eq_true] at hf
  exact reckonS_ok noNG hhk orc 100000 300 h12 hf.1 hf.2 h h2 he w hL
theorem he_of {cs : Cs} (h : ∀ p ∈ cs, p.1 = p.2) : cs.map (·.1) = cs.map (·.2) := List.map_congr_left h
set_option maxHeartbeats 0 in
set_option maxRecDepth 1000000 in
theorem ex_addw (r0 r1 r2 r3 r4 r5 r6 r7 r8 r9 r10 r11 r12 r13 r14 r15 : Int) (z s c o : Bool) (pc : Int) (he : ([] : Cs).map (·.1) = ([] : Cs).map (·.2)) (w : World) (hL : Laid h12 w) : Calls Tryd.prog 21 #[.agg ⟨[.int .i64 4, .int .i64 0, .int .i64 0, .int .i64 0, .bool true, .bool false, .int .i64 0, .int .i64 3, .int .i32 0, .int .i32 0, .int .i64 0]⟩, stA r0 r1 r2 r3 r4 r5 r6 r7 r8 r9 r10 r11 r12 r13 r14 r15 z s c o pc] w fun e w' => e = .returned (.tuple ⟨[stA (IntKind.wrap .u64 (r0 + r3)) r1 r2 r3 r4 r5 r6 r7 r8 r9 r10 r11 r12 r13 r14 r15 ((IntKind.wrap .u64 (r0 + r3)) == 0) (negB 9223372036854775807 (IntKind.wrap .u64 (r0 + r3))) (decide ((IntKind.wrap .u64 (r0 + r3)) < r0)) (negB 9223372036854775807 (andI .u64 (xorI .u64 r0 (IntKind.wrap .u64 (r0 + r3))) (xorI .u64 r3 (IntKind.wrap .u64 (r0 + r3))))) pc, .int .i64 0]⟩) ∧ Gr w w' :=
  rk12 doHook_ok (fun _ _ _ => none) (cs := ([] : Cs)) rfl (by kernel_rfl) (by kernel_rfl) he w hL
set_option maxHeartbeats 0 in
set_option maxRecDepth 1000000 in
theorem ex_subw (r0 r1 r2 r3 r4 r5 r6 r7 r8 r9 r10 r11 r12 r13 r14 r15 : Int) (z s c o : Bool) (pc : Int) (he : ([] : Cs).map (·.1) = ([] : Cs).map (·.2)) (w : World) (hL : Laid h12 w) : Calls Tryd.prog 21 #[.agg ⟨[.int .i64 4, .int .i64 5, .int .i64 0, .int .i64 0, .bool true, .bool false, .int .i64 0, .int .i64 3, .int .i32 0, .int .i32 0, .int .i64 0]⟩, stA r0 r1 r2 r3 r4 r5 r6 r7 r8 r9 r10 r11 r12 r13 r14 r15 z s c o pc] w fun e w' => e = .returned (.tuple ⟨[stA (subI .u64 r0 r3) r1 r2 r3 r4 r5 r6 r7 r8 r9 r10 r11 r12 r13 r14 r15 ((subI .u64 r0 r3) == 0) (negB 9223372036854775807 (subI .u64 r0 r3)) (decide (r0 < r3)) (negB 9223372036854775807 (andI .u64 (xorI .u64 r0 r3) (xorI .u64 r0 (subI .u64 r0 r3)))) pc, .int .i64 0]⟩) ∧ Gr w w' :=
  rk12 doHook_ok (fun _ _ _ => none) (cs := ([] : Cs)) rfl (by kernel_rfl) (by kernel_rfl) he w hL
set_option maxHeartbeats 0 in
set_option maxRecDepth 1000000 in
theorem ex_orw (r0 r1 r2 r3 r4 r5 r6 r7 r8 r9 r10 r11 r12 r13 r14 r15 : Int) (z s c o : Bool) (pc : Int) (he : ([] : Cs).map (·.1) = ([] : Cs).map (·.2)) (w : World) (hL : Laid h12 w) : Calls Tryd.prog 21 #[.agg ⟨[.int .i64 4, .int .i64 1, .int .i64 0, .int .i64 0, .bool true, .bool false, .int .i64 0, .int .i64 3, .int .i32 0, .int .i32 0, .int .i64 0]⟩, stA r0 r1 r2 r3 r4 r5 r6 r7 r8 r9 r10 r11 r12 r13 r14 r15 z s c o pc] w fun e w' => e = .returned (.tuple ⟨[stA (orI2 .u64 r0 r3) r1 r2 r3 r4 r5 r6 r7 r8 r9 r10 r11 r12 r13 r14 r15 ((orI2 .u64 r0 r3) == 0) (negB 9223372036854775807 (orI2 .u64 r0 r3)) (false) (false) pc, .int .i64 0]⟩) ∧ Gr w w' :=
  rk12 doHook_ok (fun _ _ _ => none) (cs := ([] : Cs)) rfl (by kernel_rfl) (by kernel_rfl) he w hL
set_option maxHeartbeats 0 in
set_option maxRecDepth 1000000 in
theorem ex_andw (r0 r1 r2 r3 r4 r5 r6 r7 r8 r9 r10 r11 r12 r13 r14 r15 : Int) (z s c o : Bool) (pc : Int) (he : ([] : Cs).map (·.1) = ([] : Cs).map (·.2)) (w : World) (hL : Laid h12 w) : Calls Tryd.prog 21 #[.agg ⟨[.int .i64 4, .int .i64 4, .int .i64 0, .int .i64 0, .bool true, .bool false, .int .i64 0, .int .i64 3, .int .i32 0, .int .i32 0, .int .i64 0]⟩, stA r0 r1 r2 r3 r4 r5 r6 r7 r8 r9 r10 r11 r12 r13 r14 r15 z s c o pc] w fun e w' => e = .returned (.tuple ⟨[stA (andI .u64 r0 r3) r1 r2 r3 r4 r5 r6 r7 r8 r9 r10 r11 r12 r13 r14 r15 ((andI .u64 r0 r3) == 0) (negB 9223372036854775807 (andI .u64 r0 r3)) (false) (false) pc, .int .i64 0]⟩) ∧ Gr w w' :=
  rk12 doHook_ok (fun _ _ _ => none) (cs := ([] : Cs)) rfl (by kernel_rfl) (by kernel_rfl) he w hL
set_option maxHeartbeats 0 in
set_option maxRecDepth 1000000 in
theorem ex_xorw (r0 r1 r2 r3 r4 r5 r6 r7 r8 r9 r10 r11 r12 r13 r14 r15 : Int) (z s c o : Bool) (pc : Int) (he : ([] : Cs).map (·.1) = ([] : Cs).map (·.2)) (w : World) (hL : Laid h12 w) : Calls Tryd.prog 21 #[.agg ⟨[.int .i64 4, .int .i64 6, .int .i64 0, .int .i64 0, .bool true, .bool false, .int .i64 0, .int .i64 3, .int .i32 0, .int .i32 0, .int .i64 0]⟩, stA r0 r1 r2 r3 r4 r5 r6 r7 r8 r9 r10 r11 r12 r13 r14 r15 z s c o pc] w fun e w' => e = .returned (.tuple ⟨[stA (xorI .u64 r0 r3) r1 r2 r3 r4 r5 r6 r7 r8 r9 r10 r11 r12 r13 r14 r15 ((xorI .u64 r0 r3) == 0) (negB 9223372036854775807 (xorI .u64 r0 r3)) (false) (false) pc, .int .i64 0]⟩) ∧ Gr w w' :=
  rk12 doHook_ok (fun _ _ _ => none) (cs := ([] : Cs)) rfl (by kernel_rfl) (by kernel_rfl) he w hL
set_option maxHeartbeats 0 in
set_option maxRecDepth 1000000 in
theorem ex_movw (r0 r1 r2 r3 r4 r5 r6 r7 r8 r9 r10 r11 r12 r13 r14 r15 : Int) (z s c o : Bool) (pc : Int) (he : ([] : Cs).map (·.1) = ([] : Cs).map (·.2)) (w : World) (hL : Laid h12 w) : Calls Tryd.prog 21 #[.agg ⟨[.int .i64 1, .int .i64 0, .int .i64 0, .int .i64 0, .bool true, .bool false, .int .i64 0, .int .i64 3, .int .i32 0, .int .i32 0, .int .i64 0]⟩, stA r0 r1 r2 r3 r4 r5 r6 r7 r8 r9 r10 r11 r12 r13 r14 r15 z s c o pc] w fun e w' => e = .returned (.tuple ⟨[stA (r3) r1 r2 r3 r4 r5 r6 r7 r8 r9 r10 r11 r12 r13 r14 r15 z s c o pc, .int .i64 0]⟩) ∧ Gr w w' :=
  rk12 doHook_ok (fun _ _ _ => none) (cs := ([] : Cs)) rfl (by kernel_rfl) (by kernel_rfl) he w hL
set_option maxHeartbeats 0 in
set_option maxRecDepth 1000000 in
theorem ex_imulw (r0 r1 r2 r3 r4 r5 r6 r7 r8 r9 r10 r11 r12 r13 r14 r15 : Int) (z s c o : Bool) (pc : Int) (he : ([] : Cs).map (·.1) = ([] : Cs).map (·.2)) (w : World) (hL : Laid h12 w) : Calls Tryd.prog 21 #[.agg ⟨[.int .i64 10, .int .i64 0, .int .i64 0, .int .i64 0, .bool true, .bool false, .int .i64 0, .int .i64 3, .int .i32 0, .int .i32 0, .int .i64 0]⟩, stA r0 r1 r2 r3 r4 r5 r6 r7 r8 r9 r10 r11 r12 r13 r14 r15 z s c o pc] w fun e w' => e = .returned (.tuple ⟨[stA (IntKind.u64.wrap (r0 * r3)) r1 r2 r3 r4 r5 r6 r7 r8 r9 r10 r11 r12 r13 r14 r15 z s c o pc, .int .i64 0]⟩) ∧ Gr w w' :=
  rk12 doHook_ok (fun _ _ _ => none) (cs := ([] : Cs)) rfl (by kernel_rfl) (by kernel_rfl) he w hL
set_option maxHeartbeats 0 in
set_option maxRecDepth 1000000 in
theorem ex_negw (r0 r1 r2 r3 r4 r5 r6 r7 r8 r9 r10 r11 r12 r13 r14 r15 : Int) (z s c o : Bool) (pc : Int) (he : ([] : Cs).map (·.1) = ([] : Cs).map (·.2)) (w : World) (hL : Laid h12 w) : Calls Tryd.prog 21 #[.agg ⟨[.int .i64 7, .int .i64 0, .int .i64 0, .int .i64 0, .bool true, .bool false, .int .i64 0, .int .i64 0, .int .i32 0, .int .i32 0, .int .i64 0]⟩, stA r0 r1 r2 r3 r4 r5 r6 r7 r8 r9 r10 r11 r12 r13 r14 r15 z s c o pc] w fun e w' => e = .returned (.tuple ⟨[stA (subI .u64 0 r0) r1 r2 r3 r4 r5 r6 r7 r8 r9 r10 r11 r12 r13 r14 r15 ((subI .u64 0 r0) == 0) (negB 9223372036854775807 (subI .u64 0 r0)) (decide (0 < r0)) (negB 9223372036854775807 (andI .u64 (xorI .u64 0 r0) (xorI .u64 0 (subI .u64 0 r0)))) pc, .int .i64 0]⟩) ∧ Gr w w' :=
  rk12 doHook_ok (fun _ _ _ => none) (cs := ([] : Cs)) rfl (by kernel_rfl) (by kernel_rfl) he w hL
set_option maxHeartbeats 0 in
set_option maxRecDepth 1000000 in
theorem ex_mulw (r0 r1 r2 r3 r4 r5 r6 r7 r8 r9 r10 r11 r12 r13 r14 r15 : Int) (z s c o : Bool) (pc : Int) (he : ([] : Cs).map (·.1) = ([] : Cs).map (·.2)) (w : World) (hL : Laid h12 w) : Calls Tryd.prog 21 #[.agg ⟨[.int .i64 8, .int .i64 0, .int .i64 0, .int .i64 0, .bool true, .bool false, .int .i64 3, .int .i64 0, .int .i32 0, .int .i32 0, .int .i64 0]⟩, stA r0 r1 r2 r3 r4 r5 r6 r7 r8 r9 r10 r11 r12 r13 r14 r15 z s c o pc] w fun e w' => e = .returned (.tuple ⟨[stA (IntKind.u64.wrap (r0 * r3)) r1 (mulHi r0 r3) r3 r4 r5 r6 r7 r8 r9 r10 r11 r12 r13 r14 r15 z s c o pc, .int .i64 0]⟩) ∧ Gr w w' :=
  rk12 doHook_ok (fun _ _ _ => none) (cs := ([] : Cs)) rfl (by kernel_rfl) (by kernel_rfl) he w hL
set_option maxHeartbeats 0 in
set_option maxRecDepth 1000000 in
theorem ex_lshcw (r0 r1 r2 r3 r4 r5 r6 r7 r8 r9 r10 r11 r12 r13 r14 r15 : Int) (z s c o : Bool) (pc : Int) (he : ([inU r0, inU r1] : Cs).map (·.1) = ([inU r0, inU r1] : Cs).map (·.2)) (w : World) (hL : Laid h12 w) : Calls Tryd.prog 21 #[.agg ⟨[.int .i64 12, .int .i64 4, .int .i64 0, .int .i64 0, .bool true, .bool false, .int .i64 0, .int .i64 0, .int .i32 0, .int .i32 0, .int .i64 0]⟩, stA r0 r1 r2 r3 r4 r5 r6 r7 r8 r9 r10 r11 r12 r13 r14 r15 z s c o pc] w fun e w' => e = .returned (.tuple ⟨[stA (N (aluS 96 true (BitVec.ofInt 64 r0) (BitVec.ofInt 64 r1))) r1 r2 r3 r4 r5 r6 r7 r8 r9 r10 r11 r12 r13 r14 r15 z s c o pc, .int .i64 0]⟩) ∧ Gr w w' :=
  rk12 doHook_ok (fun _ _ _ => none) (cs := ([inU r0, inU r1] : Cs)) rfl (by kernel_rfl) (by kernel_rfl) he w hL
set_option maxHeartbeats 0 in
set_option maxRecDepth 1000000 in
theorem ex_lshiw (r0 r1 r2 r3 r4 r5 r6 r7 r8 r9 r10 r11 r12 r13 r14 r15 imm : Int) (z s c o : Bool) (pc : Int) (he : ([(b2i (eqD [.int .i64 11, .int .i64 4, .int .i64 0, .int .i64 0, .bool true, .bool false, .int .i64 0, .int .i64 0, .int .i32 0, .int .i32 0, .int .i64 imm] [.int .i64 11, .int .i64 4, .int .i64 0, .int .i64 0, .bool true, .bool false, .int .i64 0, .int .i64 0, .int .i32 0, .int .i32 0, .int .i64 imm]), 1), (b2i (decide (imm ≥ 0)), 1), (b2i (decide (imm < 32)), 1), inU r0, inU (IntKind.u64.wrap imm)] : Cs).map (·.1) = ([(b2i (eqD [.int .i64 11, .int .i64 4, .int .i64 0, .int .i64 0, .bool true, .bool false, .int .i64 0, .int .i64 0, .int .i32 0, .int .i32 0, .int .i64 imm] [.int .i64 11, .int .i64 4, .int .i64 0, .int .i64 0, .bool true, .bool false, .int .i64 0, .int .i64 0, .int .i32 0, .int .i32 0, .int .i64 imm]), 1), (b2i (decide (imm ≥ 0)), 1), (b2i (decide (imm < 32)), 1), inU r0, inU (IntKind.u64.wrap imm)] : Cs).map (·.2)) (w : World) (hL : Laid h12 w) : Calls Tryd.prog 21 #[.agg ⟨[.int .i64 11, .int .i64 4, .int .i64 0, .int .i64 0, .bool true, .bool false, .int .i64 0, .int .i64 0, .int .i32 0, .int .i32 0, .int .i64 imm]⟩, stA r0 r1 r2 r3 r4 r5 r6 r7 r8 r9 r10 r11 r12 r13 r14 r15 z s c o pc] w fun e w' => e = .returned (.tuple ⟨[stA (N (aluS 96 true (BitVec.ofInt 64 r0) (BitVec.ofInt 64 (IntKind.u64.wrap imm)))) r1 r2 r3 r4 r5 r6 r7 r8 r9 r10 r11 r12 r13 r14 r15 z s c o pc, .int .i64 0]⟩) ∧ Gr w w' :=
  rk12 doHook_ok shOrc (cs := ([(b2i (eqD [.int .i64 11, .int .i64 4, .int .i64 0, .int .i64 0, .bool true, .bool false, .int .i64 0, .int .i64 0, .int .i32 0, .int .i32 0, .int .i64 imm] [.int .i64 11, .int .i64 4, .int .i64 0, .int .i64 0, .bool true, .bool false, .int .i64 0, .int .i64 0, .int .i32 0, .int .i32 0, .int .i64 imm]), 1), (b2i (decide (imm ≥ 0)), 1), (b2i (decide (imm < 32)), 1), inU r0, inU (IntKind.u64.wrap imm)] : Cs)) rfl (by kernel_rfl) (by kernel_rfl) he w hL
set_option maxHeartbeats 0 in
set_option maxRecDepth 1000000 in
theorem ex_rshcw (r0 r1 r2 r3 r4 r5 r6 r7 r8 r9 r10 r11 r12 r13 r14 r15 : Int) (z s c o : Bool) (pc : Int) (he : ([inU r0, inU r1] : Cs).map (·.1) = ([inU r0, inU r1] : Cs).map (·.2)) (w : World) (hL : Laid h12 w) : Calls Tryd.prog 21 #[.agg ⟨[.int .i64 12, .int .i64 5, .int .i64 0, .int .i64 0, .bool true, .bool false, .int .i64 0, .int .i64 0, .int .i32 0, .int .i32 0, .int .i64 0]⟩, stA r0 r1 r2 r3 r4 r5 r6 r7 r8 r9 r10 r11 r12 r13 r14 r15 z s c o pc] w fun e w' => e = .returned (.tuple ⟨[stA (N (aluS 112 true (BitVec.ofInt 64 r0) (BitVec.ofInt 64 r1))) r1 r2 r3 r4 r5 r6 r7 r8 r9 r10 r11 r12 r13 r14 r15 z s c o pc, .int .i64 0]⟩) ∧ Gr w w' :=
  rk12 doHook_ok (fun _ _ _ => none) (cs := ([inU r0, inU r1] : Cs)) rfl (by kernel_rfl) (by kernel_rfl) he w hL
set_option maxHeartbeats 0 in
set_option maxRecDepth 1000000 in
theorem ex_rshiw (r0 r1 r2 r3 r4 r5 r6 r7 r8 r9 r10 r11 r12 r13 r14 r15 imm : Int) (z s c o : Bool) (pc : Int) (he : ([(b2i (eqD [.int .i64 11, .int .i64 5, .int .i64 0, .int .i64 0, .bool true, .bool false, .int .i64 0, .int .i64 0, .int .i32 0, .int .i32 0, .int .i64 imm] [.int .i64 11, .int .i64 5, .int .i64 0, .int .i64 0, .bool true, .bool false, .int .i64 0, .int .i64 0, .int .i32 0, .int .i32 0, .int .i64 imm]), 1), (b2i (decide (imm ≥ 0)), 1), (b2i (decide (imm < 32)), 1), inU r0, inU (IntKind.u64.wrap imm)] : Cs).map (·.1) = ([(b2i (eqD [.int .i64 11, .int .i64 5, .int .i64 0, .int .i64 0, .bool true, .bool false, .int .i64 0, .int .i64 0, .int .i32 0, .int .i32 0, .int .i64 imm] [.int .i64 11, .int .i64 5, .int .i64 0, .int .i64 0, .bool true, .bool false, .int .i64 0, .int .i64 0, .int .i32 0, .int .i32 0, .int .i64 imm]), 1), (b2i (decide (imm ≥ 0)), 1), (b2i (decide (imm < 32)), 1), inU r0, inU (IntKind.u64.wrap imm)] : Cs).map (·.2)) (w : World) (hL : Laid h12 w) : Calls Tryd.prog 21 #[.agg ⟨[.int .i64 11, .int .i64 5, .int .i64 0, .int .i64 0, .bool true, .bool false, .int .i64 0, .int .i64 0, .int .i32 0, .int .i32 0, .int .i64 imm]⟩, stA r0 r1 r2 r3 r4 r5 r6 r7 r8 r9 r10 r11 r12 r13 r14 r15 z s c o pc] w fun e w' => e = .returned (.tuple ⟨[stA (N (aluS 112 true (BitVec.ofInt 64 r0) (BitVec.ofInt 64 (IntKind.u64.wrap imm)))) r1 r2 r3 r4 r5 r6 r7 r8 r9 r10 r11 r12 r13 r14 r15 z s c o pc, .int .i64 0]⟩) ∧ Gr w w' :=
  rk12 doHook_ok shOrc (cs := ([(b2i (eqD [.int .i64 11, .int .i64 5, .int .i64 0, .int .i64 0, .bool true, .bool false, .int .i64 0, .int .i64 0, .int .i32 0, .int .i32 0, .int .i64 imm] [.int .i64 11, .int .i64 5, .int .i64 0, .int .i64 0, .bool true, .bool false, .int .i64 0, .int .i64 0, .int .i32 0, .int .i32 0, .int .i64 imm]), 1), (b2i (decide (imm ≥ 0)), 1), (b2i (decide (imm < 32)), 1), inU r0, inU (IntKind.u64.wrap imm)] : Cs)) rfl (by kernel_rfl) (by kernel_rfl) he w hL
set_option maxHeartbeats 0 in
set_option maxRecDepth 1000000 in
theorem ex_arshcw (r0 r1 r2 r3 r4 r5 r6 r7 r8 r9 r10 r11 r12 r13 r14 r15 : Int) (z s c o : Bool) (pc : Int) (he : ([inU r0, inU r1] : Cs).map (·.1) = ([inU r0, inU r1] : Cs).map (·.2)) (w : World) (hL : Laid h12 w) : Calls Tryd.prog 21 #[.agg ⟨[.int .i64 12, .int .i64 7, .int .i64 0, .int .i64 0, .bool true, .bool false, .int .i64 0, .int .i64 0, .int .i32 0, .int .i32 0, .int .i64 0]⟩, stA r0 r1 r2 r3 r4 r5 r6 r7 r8 r9 r10 r11 r12 r13 r14 r15 z s c o pc] w fun e w' => e = .returned (.tuple ⟨[stA (N (aluS 192 true (BitVec.ofInt 64 r0) (BitVec.ofInt 64 r1))) r1 r2 r3 r4 r5 r6 r7 r8 r9 r10 r11 r12 r13 r14 r15 z s c o pc, .int .i64 0]⟩) ∧ Gr w w' :=
  rk12 doHook_ok (fun _ _ _ => none) (cs := ([inU r0, inU r1] : Cs)) rfl (by kernel_rfl) (by kernel_rfl) he w hL
set_option maxHeartbeats 0 in
set_option maxRecDepth 1000000 in
theorem ex_arshiw (r0 r1 r2 r3 r4 r5 r6 r7 r8 r9 r10 r11 r12 r13 r14 r15 imm : Int) (z s c o : Bool) (pc : Int) (he : ([(b2i (eqD [.int .i64 11, .int .i64 7, .int .i64 0, .int .i64 0, .bool true, .bool false, .int .i64 0, .int .i64 0, .int .i32 0, .int .i32 0, .int .i64 imm] [.int .i64 11, .int .i64 7, .int .i64 0, .int .i64 0, .bool true, .bool false, .int .i64 0, .int .i64 0, .int .i32 0, .int .i32 0, .int .i64 imm]), 1), (b2i (decide (imm ≥ 0)), 1), (b2i (decide (imm < 32)), 1), inU r0, inU (IntKind.u64.wrap imm)] : Cs).map (·.1) = ([(b2i (eqD [.int .i64 11, .int .i64 7, .int .i64 0, .int .i64 0, .bool true, .bool false, .int .i64 0, .int .i64 0, .int .i32 0, .int .i32 0, .int .i64 imm] [.int .i64 11, .int .i64 7, .int .i64 0, .int .i64 0, .bool true, .bool false, .int .i64 0, .int .i64 0, .int .i32 0, .int .i32 0, .int .i64 imm]), 1), (b2i (decide (imm ≥ 0)), 1), (b2i (decide (imm < 32)), 1), inU r0, inU (IntKind.u64.wrap imm)] : Cs).map (·.2)) (w : World) (hL : Laid h12 w) : Calls Tryd.prog 21 #[.agg ⟨[.int .i64 11, .int .i64 7, .int .i64 0, .int .i64 0, .bool true, .bool false, .int .i64 0, .int .i64 0, .int .i32 0, .int .i32 0, .int .i64 imm]⟩, stA r0 r1 r2 r3 r4 r5 r6 r7 r8 r9 r10 r11 r12 r13 r14 r15 z s c o pc] w fun e w' => e = .returned (.tuple ⟨[stA (N (aluS 192 true (BitVec.ofInt 64 r0) (BitVec.ofInt 64 (IntKind.u64.wrap imm)))) r1 r2 r3 r4 r5 r6 r7 r8 r9 r10 r11 r12 r13 r14 r15 z s c o pc, .int .i64 0]⟩) ∧ Gr w w' :=
  rk12 doHook_ok shOrc (cs := ([(b2i (eqD [.int .i64 11, .int .i64 7, .int .i64 0, .int .i64 0, .bool true, .bool false, .int .i64 0, .int .i64 0, .int .i32 0, .int .i32 0, .int .i64 imm] [.int .i64 11, .int .i64 7, .int .i64 0, .int .i64 0, .bool true, .bool false, .int .i64 0, .int .i64 0, .int .i32 0, .int .i32 0, .int .i64 imm]), 1), (b2i (decide (imm ≥ 0)), 1), (b2i (decide (imm < 32)), 1), inU r0, inU (IntKind.u64.wrap imm)] : Cs)) rfl (by kernel_rfl) (by kernel_rfl) he w hL
set_option maxHeartbeats 0 in
set_option maxRecDepth 1000000 in
theorem ex_divw (r0 r1 r3 r4 r5 r6 r7 r8 r9 r10 r11 r12 r13 r14 r15 : Int) (z s c o : Bool) (pc : Int) (he : ([(b2i (decide (r3 ≤ 0)), 0), (b2i (r3 == 0), 0), (b2i (decide (r3 ≤ 0)), 0), (b2i (decide (r3 = 0)), 0), (b2i (decide (r3 = 0)), 0)] : Cs).map (·.1) = ([(b2i (decide (r3 ≤ 0)), 0), (b2i (r3 == 0), 0), (b2i (decide (r3 ≤ 0)), 0), (b2i (decide (r3 = 0)), 0), (b2i (decide (r3 = 0)), 0)] : Cs).map (·.2)) (w : World) (hL : Laid h12 w) : Calls Tryd.prog 21 #[.agg ⟨[.int .i64 9, .int .i64 0, .int .i64 0, .int .i64 0, .bool true, .bool false, .int .i64 3, .int .i64 0, .int .i32 0, .int .i32 0, .int .i64 0]⟩, stA r0 r1 0 r3 r4 r5 r6 r7 r8 r9 r10 r11 r12 r13 r14 r15 z s c o pc] w fun e w' => e = .returned (.tuple ⟨[stA (IntKind.u64.wrap (Int.tdiv r0 r3)) r1 (Int.tmod r0 r3) r3 r4 r5 r6 r7 r8 r9 r10 r11 r12 r13 r14 r15 z s c o pc, .int .i64 0]⟩) ∧ Gr w w' :=
  rk12 doHook_ok (dvOrc false) (cs := ([(b2i (decide (r3 ≤ 0)), 0), (b2i (r3 == 0), 0), (b2i (decide (r3 ≤ 0)), 0), (b2i (decide (r3 = 0)), 0), (b2i (decide (r3 = 0)), 0)] : Cs)) rfl (by kernel_rfl) (by kernel_rfl) he w hL
set_option maxHeartbeats 0 in
set_option maxRecDepth 1000000 in
theorem ex_dv0w (r0 r1 r3 r4 r5 r6 r7 r8 r9 r10 r11 r12 r13 r14 r15 : Int) (z s c o : Bool) (pc : Int) (he : ([(b2i (decide (r3 ≤ 0)), 1)] : Cs).map (·.1) = ([(b2i (decide (r3 ≤ 0)), 1)] : Cs).map (·.2)) (w : World) (hL : Laid h12 w) : Calls Tryd.prog 21 #[.agg ⟨[.int .i64 9, .int .i64 0, .int .i64 0, .int .i64 0, .bool true, .bool false, .int .i64 3, .int .i64 0, .int .i32 0, .int .i32 0, .int .i64 0]⟩, stA r0 r1 0 r3 r4 r5 r6 r7 r8 r9 r10 r11 r12 r13 r14 r15 z s c o pc] w fun e w' => e = .returned (.tuple ⟨[stA 0 0 0 0 0 0 0 0 0 0 0 0 0 0 0 0 false false false false 0, .int .i64 120]⟩) ∧ Gr w w' :=
  rk12 doHook_ok (dvOrc true) (cs := ([(b2i (decide (r3 ≤ 0)), 1)] : Cs)) rfl (by kernel_rfl) (by kernel_rfl) he w hL
set_option maxHeartbeats 0 in
set_option maxRecDepth 1000000 in
theorem ex_addh (r0 r1 r2 r3 r4 r5 r6 r7 r8 r9 r10 r11 r12 r13 r14 r15 : Int) (z s c o : Bool) (pc : Int) (he : ([] : Cs).map (·.1) = ([] : Cs).map (·.2)) (w : World) (hL : Laid h12 w) : Calls Tryd.prog 21 #[.agg ⟨[.int .i64 4, .int .i64 0, .int .i64 0, .int .i64 0, .bool false, .bool false, .int .i64 0, .int .i64 3, .int .i32 0, .int .i32 0, .int .i64 0]⟩, stA r0 r1 r2 r3 r4 r5 r6 r7 r8 r9 r10 r11 r12 r13 r14 r15 z s c o pc] w fun e w' => e = .returned (.tuple ⟨[stA (lowH (IntKind.u64.wrap (IntKind.wrap .u32 ((IntKind.u32.wrap r0) + (IntKind.u32.wrap r3))))) r1 r2 r3 r4 r5 r6 r7 r8 r9 r10 r11 r12 r13 r14 r15 ((IntKind.wrap .u32 ((IntKind.u32.wrap r0) + (IntKind.u32.wrap r3))) == 0) (negB 2147483647 (IntKind.wrap .u32 ((IntKind.u32.wrap r0) + (IntKind.u32.wrap r3)))) (decide ((IntKind.wrap .u32 ((IntKind.u32.wrap r0) + (IntKind.u32.wrap r3))) < (IntKind.u32.wrap r0))) (negB 2147483647 (andI .u32 (xorI .u32 (IntKind.u32.wrap r0) (IntKind.wrap .u32 ((IntKind.u32.wrap r0) + (IntKind.u32.wrap r3)))) (xorI .u32 (IntKind.u32.wrap r3) (IntKind.wrap .u32 ((IntKind.u32.wrap r0) + (IntKind.u32.wrap r3)))))) pc, .int .i64 0]⟩) ∧ Gr w w' :=
  rk12 doHook_ok (fun _ _ _ => none) (cs := ([] : Cs)) rfl (by kernel_rfl) (by kernel_rfl) he w hL
set_option maxHeartbeats 0 in
set_option maxRecDepth 1000000 in
theorem ex_subh (r0 r1 r2 r3 r4 r5 r6 r7 r8 r9 r10 r11 r12 r13 r14 r15 : Int) (z s c o : Bool) (pc : Int) (he : ([] : Cs).map (·.1) = ([] : Cs).map (·.2)) (w : World) (hL : Laid h12 w) : Calls Tryd.prog 21 #[.agg ⟨[.int .i64 4, .int .i64 5, .int .i64 0, .int .i64 0, .bool false, .bool false, .int .i64 0, .int .i64 3, .int .i32 0, .int .i32 0, .int .i64 0]⟩, stA r0 r1 r2 r3 r4 r5 r6 r7 r8 r9 r10 r11 r12 r13 r14 r15 z s c o pc] w fun e w' => e = .returned (.tuple ⟨[stA (lowH (IntKind.u64.wrap (subI .u32 (IntKind.u32.wrap r0) (IntKind.u32.wrap r3)))) r1 r2 r3 r4 r5 r6 r7 r8 r9 r10 r11 r12 r13 r14 r15 ((subI .u32 (IntKind.u32.wrap r0) (IntKind.u32.wrap r3)) == 0) (negB 2147483647 (subI .u32 (IntKind.u32.wrap r0) (IntKind.u32.wrap r3))) (decide ((IntKind.u32.wrap r0) < (IntKind.u32.wrap r3))) (negB 2147483647 (andI .u32 (xorI .u32 (IntKind.u32.wrap r0) (IntKind.u32.wrap r3)) (xorI .u32 (IntKind.u32.wrap r0) (subI .u32 (IntKind.u32.wrap r0) (IntKind.u32.wrap r3))))) pc, .int .i64 0]⟩) ∧ Gr w w' :=
  rk12 doHook_ok (fun _ _ _ => none) (cs := ([] : Cs)) rfl (by kernel_rfl) (by kernel_rfl) he w hL
set_option maxHeartbeats 0 in
set_option maxRecDepth 1000000 in
theorem ex_orh (r0 r1 r2 r3 r4 r5 r6 r7 r8 r9 r10 r11 r12 r13 r14 r15 : Int) (z s c o : Bool) (pc : Int) (he : ([] : Cs).map (·.1) = ([] : Cs).map (·.2)) (w : World) (hL : Laid h12 w) : Calls Tryd.prog 21 #[.agg ⟨[.int .i64 4, .int .i64 1, .int .i64 0, .int .i64 0, .bool false, .bool false, .int .i64 0, .int .i64 3, .int .i32 0, .int .i32 0, .int .i64 0]⟩, stA r0 r1 r2 r3 r4 r5 r6 r7 r8 r9 r10 r11 r12 r13 r14 r15 z s c o pc] w fun e w' => e = .returned (.tuple ⟨[stA (lowH (IntKind.u64.wrap (orI2 .u32 (IntKind.u32.wrap r0) (IntKind.u32.wrap r3)))) r1 r2 r3 r4 r5 r6 r7 r8 r9 r10 r11 r12 r13 r14 r15 ((orI2 .u32 (IntKind.u32.wrap r0) (IntKind.u32.wrap r3)) == 0) (negB 2147483647 (orI2 .u32 (IntKind.u32.wrap r0) (IntKind.u32.wrap r3))) (false) (false) pc, .int .i64 0]⟩) ∧ Gr w w' :=
  rk12 doHook_ok (fun _ _ _ => none) (cs := ([] : Cs)) rfl (by kernel_rfl) (by kernel_rfl) he w hL
set_option maxHeartbeats 0 in
set_option maxRecDepth 1000000 in
theorem ex_andh (r0 r1 r2 r3 r4 r5 r6 r7 r8 r9 r10 r11 r12 r13 r14 r15 : Int) (z s c o : Bool) (pc : Int) (he : ([] : Cs).map (·.1) = ([] : Cs).map (·.2)) (w : World) (hL : Laid h12 w) : Calls Tryd.prog 21 #[.agg ⟨[.int .i64 4, .int .i64 4, .int .i64 0, .int .i64 0, .bool false, .bool false, .int .i64 0, .int .i64 3, .int .i32 0, .int .i32 0, .int .i64 0]⟩, stA r0 r1 r2 r3 r4 r5 r6 r7 r8 r9 r10 r11 r12 r13 r14 r15 z s c o pc] w fun e w' => e = .returned (.tuple ⟨[stA (lowH (IntKind.u64.wrap (andI .u32 (IntKind.u32.wrap r0) (IntKind.u32.wrap r3)))) r1 r2 r3 r4 r5 r6 r7 r8 r9 r10 r11 r12 r13 r14 r15 ((andI .u32 (IntKind.u32.wrap r0) (IntKind.u32.wrap r3)) == 0) (negB 2147483647 (andI .u32 (IntKind.u32.wrap r0) (IntKind.u32.wrap r3))) (false) (false) pc, .int .i64 0]⟩) ∧ Gr w w' :=
  rk12 doHook_ok (fun _ _ _ => none) (cs := ([] : Cs)) rfl (by kernel_rfl) (by kernel_rfl) he w hL
set_option maxHeartbeats 0 in
set_option maxRecDepth 1000000 in
theorem ex_xorh (r0 r1 r2 r3 r4 r5 r6 r7 r8 r9 r10 r11 r12 r13 r14 r15 : Int) (z s c o : Bool) (pc : Int) (he : ([] : Cs).map (·.1) = ([] : Cs).map (·.2)) (w : World) (hL : Laid h12 w) : Calls Tryd.prog 21 #[.agg ⟨[.int .i64 4, .int .i64 6, .int .i64 0, .int .i64 0, .bool false, .bool false, .int .i64 0, .int .i64 3, .int .i32 0, .int .i32 0, .int .i64 0]⟩, stA r0 r1 r2 r3 r4 r5 r6 r7 r8 r9 r10 r11 r12 r13 r14 r15 z s c o pc] w fun e w' => e = .returned (.tuple ⟨[stA (lowH (IntKind.u64.wrap (xorI .u32 (IntKind.u32.wrap r0) (IntKind.u32.wrap r3)))) r1 r2 r3 r4 r5 r6 r7 r8 r9 r10 r11 r12 r13 r14 r15 ((xorI .u32 (IntKind.u32.wrap r0) (IntKind.u32.wrap r3)) == 0) (negB 2147483647 (xorI .u32 (IntKind.u32.wrap r0) (IntKind.u32.wrap r3))) (false) (false) pc, .int .i64 0]⟩) ∧ Gr w w' :=
  rk12 doHook_ok (fun _ _ _ => none) (cs := ([] : Cs)) rfl (by kernel_rfl) (by kernel_rfl) he w hL
set_option maxHeartbeats 0 in
set_option maxRecDepth 1000000 in
theorem ex_movh (r0 r1 r2 r3 r4 r5 r6 r7 r8 r9 r10 r11 r12 r13 r14 r15 : Int) (z s c o : Bool) (pc : Int) (he : ([] : Cs).map (·.1) = ([] : Cs).map (·.2)) (w : World) (hL : Laid h12 w) : Calls Tryd.prog 21 #[.agg ⟨[.int .i64 1, .int .i64 0, .int .i64 0, .int .i64 0, .bool false, .bool false, .int .i64 0, .int .i64 3, .int .i32 0, .int .i32 0, .int .i64 0]⟩, stA r0 r1 r2 r3 r4 r5 r6 r7 r8 r9 r10 r11 r12 r13 r14 r15 z s c o pc] w fun e w' => e = .returned (.tuple ⟨[stA (lowH (r3)) r1 r2 r3 r4 r5 r6 r7 r8 r9 r10 r11 r12 r13 r14 r15 z s c o pc, .int .i64 0]⟩) ∧ Gr w w' :=
  rk12 doHook_ok (fun _ _ _ => none) (cs := ([] : Cs)) rfl (by kernel_rfl) (by kernel_rfl) he w hL
set_option maxHeartbeats 0 in
set_option maxRecDepth 1000000 in
theorem ex_imulh (r0 r1 r2 r3 r4 r5 r6 r7 r8 r9 r10 r11 r12 r13 r14 r15 : Int) (z s c o : Bool) (pc : Int) (he : ([] : Cs).map (·.1) = ([] : Cs).map (·.2)) (w : World) (hL : Laid h12 w) : Calls Tryd.prog 21 #[.agg ⟨[.int .i64 10, .int .i64 0, .int .i64 0, .int .i64 0, .bool false, .bool false, .int .i64 0, .int .i64 3, .int .i32 0, .int .i32 0, .int .i64 0]⟩, stA r0 r1 r2 r3 r4 r5 r6 r7 r8 r9 r10 r11 r12 r13 r14 r15 z s c o pc] w fun e w' => e = .returned (.tuple ⟨[stA (lowH (IntKind.u64.wrap (r0 * r3))) r1 r2 r3 r4 r5 r6 r7 r8 r9 r10 r11 r12 r13 r14 r15 z s c o pc, .int .i64 0]⟩) ∧ Gr w w' :=
  rk12 doHook_ok (fun _ _ _ => none) (cs := ([] : Cs)) rfl (by kernel_rfl) (by kernel_rfl) he w hL
set_option maxHeartbeats 0 in
set_option maxRecDepth 1000000 in
theorem ex_negh (r0 r1 r2 r3 r4 r5 r6 r7 r8 r9 r10 r11 r12 r13 r14 r15 : Int) (z s c o : Bool) (pc : Int) (he : ([] : Cs).map (·.1) = ([] : Cs).map (·.2)) (w : World) (hL : Laid h12 w) : Calls Tryd.prog 21 #[.agg ⟨[.int .i64 7, .int .i64 0, .int .i64 0, .int .i64 0, .bool false, .bool false, .int .i64 0, .int .i64 0, .int .i32 0, .int .i32 0, .int .i64 0]⟩, stA r0 r1 r2 r3 r4 r5 r6 r7 r8 r9 r10 r11 r12 r13 r14 r15 z s c o pc] w fun e w' => e = .returned (.tuple ⟨[stA (lowH (IntKind.u64.wrap (subI .u32 (IntKind.u32.wrap 0) (IntKind.u32.wrap r0)))) r1 r2 r3 r4 r5 r6 r7 r8 r9 r10 r11 r12 r13 r14 r15 ((subI .u32 (IntKind.u32.wrap 0) (IntKind.u32.wrap r0)) == 0) (negB 2147483647 (subI .u32 (IntKind.u32.wrap 0) (IntKind.u32.wrap r0))) (decide ((IntKind.u32.wrap 0) < (IntKind.u32.wrap r0))) (negB 2147483647 (andI .u32 (xorI .u32 (IntKind.u32.wrap 0) (IntKind.u32.wrap r0)) (xorI .u32 (IntKind.u32.wrap 0) (subI .u32 (IntKind.u32.wrap 0) (IntKind.u32.wrap r0))))) pc, .int .i64 0]⟩) ∧ Gr w w' :=
  rk12 doHook_ok (fun _ _ _ => none) (cs := ([] : Cs)) rfl (by kernel_rfl) (by kernel_rfl) he w hL
set_option maxHeartbeats 0 in
set_option maxRecDepth 1000000 in
theorem ex_mulh (r0 r1 r2 r3 r4 r5 r6 r7 r8 r9 r10 r11 r12 r13 r14 r15 : Int) (z s c o : Bool) (pc : Int) (he : ([] : Cs).map (·.1) = ([] : Cs).map (·.2)) (w : World) (hL : Laid h12 w) : Calls Tryd.prog 21 #[.agg ⟨[.int .i64 8, .int .i64 0, .int .i64 0, .int .i64 0, .bool false, .bool false, .int .i64 3, .int .i64 0, .int .i32 0, .int .i32 0, .int .i64 0]⟩, stA r0 r1 r2 r3 r4 r5 r6 r7 r8 r9 r10 r11 r12 r13 r14 r15 z s c o pc] w fun e w' => e = .returned (.tuple ⟨[stA (lowH (IntKind.u64.wrap (lowH r0 * lowH r3))) r1 (shr32 (IntKind.u64.wrap (lowH r0 * lowH r3))) r3 r4 r5 r6 r7 r8 r9 r10 r11 r12 r13 r14 r15 z s c o pc, .int .i64 0]⟩) ∧ Gr w w' :=
  rk12 doHook_ok (fun _ _ _ => none) (cs := ([] : Cs)) rfl (by kernel_rfl) (by kernel_rfl) he w hL
set_option maxHeartbeats 0 in
set_option maxRecDepth 1000000 in
theorem ex_lshch (r0 r1 r2 r3 r4 r5 r6 r7 r8 r9 r10 r11 r12 r13 r14 r15 : Int) (z s c o : Bool) (pc : Int) (he : ([inU r0, inU r1] : Cs).map (·.1) = ([inU r0, inU r1] : Cs).map (·.2)) (w : World) (hL : Laid h12 w) : Calls Tryd.prog 21 #[.agg ⟨[.int .i64 12, .int .i64 4, .int .i64 0, .int .i64 0, .bool false, .bool false, .int .i64 0, .int .i64 0, .int .i32 0, .int .i32 0, .int .i64 0]⟩, stA r0 r1 r2 r3 r4 r5 r6 r7 r8 r9 r10 r11 r12 r13 r14 r15 z s c o pc] w fun e w' => e = .returned (.tuple ⟨[stA (lowH (N (aluS 96 false (BitVec.ofInt 64 r0) (BitVec.ofInt 64 r1)))) r1 r2 r3 r4 r5 r6 r7 r8 r9 r10 r11 r12 r13 r14 r15 z s c o pc, .int .i64 0]⟩) ∧ Gr w w' :=
  rk12 doHook_ok (fun _ _ _ => none) (cs := ([inU r0, inU r1] : Cs)) rfl (by kernel_rfl) (by kernel_rfl) he w hL
set_option maxHeartbeats 0 in
set_option maxRecDepth 1000000 in
theorem ex_lshih (r0 r1 r2 r3 r4 r5 r6 r7 r8 r9 r10 r11 r12 r13 r14 r15 imm : Int) (z s c o : Bool) (pc : Int) (he : ([(b2i (eqD [.int .i64 11, .int .i64 4, .int .i64 0, .int .i64 0, .bool false, .bool false, .int .i64 0, .int .i64 0, .int .i32 0, .int .i32 0, .int .i64 imm] [.int .i64 11, .int .i64 4, .int .i64 0, .int .i64 0, .bool false, .bool false, .int .i64 0, .int .i64 0, .int .i32 0, .int .i32 0, .int .i64 imm]), 1), (b2i (decide (imm ≥ 0)), 1), (b2i (decide (imm < 32)), 1), inU r0, inU (IntKind.u64.wrap imm)] : Cs).map (·.1) = ([(b2i (eqD [.int .i64 11, .int .i64 4, .int .i64 0, .int .i64 0, .bool false, .bool false, .int .i64 0, .int .i64 0, .int .i32 0, .int .i32 0, .int .i64 imm] [.int .i64 11, .int .i64 4, .int .i64 0, .int .i64 0, .bool false, .bool false, .int .i64 0, .int .i64 0, .int .i32 0, .int .i32 0, .int .i64 imm]), 1), (b2i (decide (imm ≥ 0)), 1), (b2i (decide (imm < 32)), 1), inU r0, inU (IntKind.u64.wrap imm)] : Cs).map (·.2)) (w : World) (hL : Laid h12 w) : Calls Tryd.prog 21 #[.agg ⟨[.int .i64 11, .int .i64 4, .int .i64 0, .int .i64 0, .bool false, .bool false, .int .i64 0, .int .i64 0, .int .i32 0, .int .i32 0, .int .i64 imm]⟩, stA r0 r1 r2 r3 r4 r5 r6 r7 r8 r9 r10 r11 r12 r13 r14 r15 z s c o pc] w fun e w' => e = .returned (.tuple ⟨[stA (lowH (N (aluS 96 false (BitVec.ofInt 64 r0) (BitVec.ofInt 64 (IntKind.u64.wrap imm))))) r1 r2 r3 r4 r5 r6 r7 r8 r9 r10 r11 r12 r13 r14 r15 z s c o pc, .int .i64 0]⟩) ∧ Gr w w' :=
  rk12 doHook_ok shOrc (cs := ([(b2i (eqD [.int .i64 11, .int .i64 4, .int .i64 0, .int .i64 0, .bool false, .bool false, .int .i64 0, .int .i64 0, .int .i32 0, .int .i32 0, .int .i64 imm] [.int .i64 11, .int .i64 4, .int .i64 0, .int .i64 0, .bool false, .bool false, .int .i64 0, .int .i64 0, .int .i32 0, .int .i32 0, .int .i64 imm]), 1), (b2i (decide (imm ≥ 0)), 1), (b2i (decide (imm < 32)), 1), inU r0, inU (IntKind.u64.wrap imm)] : Cs)) rfl (by kernel_rfl) (by kernel_rfl) he w hL
set_option maxHeartbeats 0 in
set_option maxRecDepth 1000000 in
theorem ex_rshch (r0 r1 r2 r3 r4 r5 r6 r7 r8 r9 r10 r11 r12 r13 r14 r15 : Int) (z s c o : Bool) (pc : Int) (he : ([inU r0, inU r1] : Cs).map (·.1) = ([inU r0, inU r1] : Cs).map (·.2)) (w : World) (hL : Laid h12 w) : Calls Tryd.prog 21 #[.agg ⟨[.int .i64 12, .int .i64 5, .int .i64 0, .int .i64 0, .bool false, .bool false, .int .i64 0, .int .i64 0, .int .i32 0, .int .i32 0, .int .i64 0]⟩, stA r0 r1 r2 r3 r4 r5 r6 r7 r8 r9 r10 r11 r12 r13 r14 r15 z s c o pc] w fun e w' => e = .returned (.tuple ⟨[stA (lowH (N (aluS 112 false (BitVec.ofInt 64 r0) (BitVec.ofInt 64 r1)))) r1 r2 r3 r4 r5 r6 r7 r8 r9 r10 r11 r12 r13 r14 r15 z s c o pc, .int .i64 0]⟩) ∧ Gr w w' :=
  rk12 doHook_ok (fun _ _ _ => none) (cs := ([inU r0, inU r1] : Cs)) rfl (by kernel_rfl) (by kernel_rfl) he w hL
set_option maxHeartbeats 0 in
set_option maxRecDepth 1000000 in
theorem ex_rshih (r0 r1 r2 r3 r4 r5 r6 r7 r8 r9 r10 r11 r12 r13 r14 r15 imm : Int) (z s c o : Bool) (pc : Int) (he : ([(b2i (eqD [.int .i64 11, .int .i64 5, .int .i64 0, .int .i64 0, .bool false, .bool false, .int .i64 0, .int .i64 0, .int .i32 0, .int .i32 0, .int .i64 imm] [.int .i64 11, .int .i64 5, .int .i64 0, .int .i64 0, .bool false, .bool false, .int .i64 0, .int .i64 0, .int .i32 0, .int .i32 0, .int .i64 imm]), 1), (b2i (decide (imm ≥ 0)), 1), (b2i (decide (imm < 32)), 1), inU r0, inU (IntKind.u64.wrap imm)] : Cs).map (·.1) = ([(b2i (eqD [.int .i64 11, .int .i64 5, .int .i64 0, .int .i64 0, .bool false, .bool false, .int .i64 0, .int .i64 0, .int .i32 0, .int .i32 0, .int .i64 imm] [.int .i64 11, .int .i64 5, .int .i64 0, .int .i64 0, .bool false, .bool false, .int .i64 0, .int .i64 0, .int .i32 0, .int .i32 0, .int .i64 imm]), 1), (b2i (decide (imm ≥ 0)), 1), (b2i (decide (imm < 32)), 1), inU r0, inU (IntKind.u64.wrap imm)] : Cs).map (·.2)) (w : World) (hL : Laid h12 w) : Calls Tryd.prog 21 #[.agg ⟨[.int .i64 11, .int .i64 5, .int .i64 0, .int .i64 0, .bool false, .bool false, .int .i64 0, .int .i64 0, .int .i32 0, .int .i32 0, .int .i64 imm]⟩, stA r0 r1 r2 r3 r4 r5 r6 r7 r8 r9 r10 r11 r12 r13 r14 r15 z s c o pc] w fun e w' => e = .returned (.tuple ⟨[stA (lowH (N (aluS 112 false (BitVec.ofInt 64 r0) (BitVec.ofInt 64 (IntKind.u64.wrap imm))))) r1 r2 r3 r4 r5 r6 r7 r8 r9 r10 r11 r12 r13 r14 r15 z s c o pc, .int .i64 0]⟩) ∧ Gr w w' :=
  rk12 doHook_ok shOrc (cs := ([(b2i (eqD [.int .i64 11, .int .i64 5, .int .i64 0, .int .i64 0, .bool false, .bool false, .int .i64 0, .int .i64 0, .int .i32 0, .int .i32 0, .int .i64 imm] [.int .i64 11, .int .i64 5, .int .i64 0, .int .i64 0, .bool false, .bool false, .int .i64 0, .int .i64 0, .int .i32 0, .int .i32 0, .int .i64 imm]), 1), (b2i (decide (imm ≥ 0)), 1), (b2i (decide (imm < 32)), 1), inU r0, inU (IntKind.u64.wrap imm)] : Cs)) rfl (by kernel_rfl) (by kernel_rfl) he w hL
set_option maxHeartbeats 0 in
set_option maxRecDepth 1000000 in
theorem ex_arshch (r0 r1 r2 r3 r4 r5 r6 r7 r8 r9 r10 r11 r12 r13 r14 r15 : Int) (z s c o : Bool) (pc : Int) (he : ([inU r0, inU r1] : Cs).map (·.1) = ([inU r0, inU r1] : Cs).map (·.2)) (w : World) (hL : Laid h12 w) : Calls Tryd.prog 21 #[.agg ⟨[.int .i64 12, .int .i64 7, .int .i64 0, .int .i64 0, .bool false, .bool false, .int .i64 0, .int .i64 0, .int .i32 0, .int .i32 0, .int .i64 0]⟩, stA r0 r1 r2 r3 r4 r5 r6 r7 r8 r9 r10 r11 r12 r13 r14 r15 z s c o pc] w fun e w' => e = .returned (.tuple ⟨[stA (lowH (N (aluS 192 false (BitVec.ofInt 64 r0) (BitVec.ofInt 64 r1)))) r1 r2 r3 r4 r5 r6 r7 r8 r9 r10 r11 r12 r13 r14 r15 z s c o pc, .int .i64 0]⟩) ∧ Gr w w' :=
  rk12 doHook_ok (fun _ _ _ => none) (cs := ([inU r0, inU r1] : Cs)) rfl (by kernel_rfl) (by kernel_rfl) he w hL
set_option maxHeartbeats 0 in
set_option maxRecDepth 1000000 in
theorem ex_arshih (r0 r1 r2 r3 r4 r5 r6 r7 r8 r9 r10 r11 r12 r13 r14 r15 imm : Int) (z s c o : Bool) (pc : Int) (he : ([(b2i (eqD [.int .i64 11, .int .i64 7, .int .i64 0, .int .i64 0, .bool false, .bool false, .int .i64 0, .int .i64 0, .int .i32 0, .int .i32 0, .int .i64 imm] [.int .i64 11, .int .i64 7, .int .i64 0, .int .i64 0, .bool false, .bool false, .int .i64 0, .int .i64 0, .int .i32 0, .int .i32 0, .int .i64 imm]), 1), (b2i (decide (imm ≥ 0)), 1), (b2i (decide (imm < 32)), 1), inU r0, inU (IntKind.u64.wrap imm)] : Cs).map (·.1) = ([(b2i (eqD [.int .i64 11, .int .i64 7, .int .i64 0, .int .i64 0, .bool false, .bool false, .int .i64 0, .int .i64 0, .int .i32 0, .int .i32 0, .int .i64 imm] [.int .i64 11, .int .i64 7, .int .i64 0, .int .i64 0, .bool false, .bool false, .int .i64 0, .int .i64 0, .int .i32 0, .int .i32 0, .int .i64 imm]), 1), (b2i (decide (imm ≥ 0)), 1), (b2i (decide (imm < 32)), 1), inU r0, inU (IntKind.u64.wrap imm)] : Cs).map (·.2)) (w : World) (hL : Laid h12 w) : Calls Tryd.prog 21 #[.agg ⟨[.int .i64 11, .int .i64 7, .int .i64 0, .int .i64 0, .bool false, .bool false, .int .i64 0, .int .i64 0, .int .i32 0, .int .i32 0, .int .i64 imm]⟩, stA r0 r1 r2 r3 r4 r5 r6 r7 r8 r9 r10 r11 r12 r13 r14 r15 z s c o pc] w fun e w' => e = .returned (.tuple ⟨[stA (lowH (N (aluS 192 false (BitVec.ofInt 64 r0) (BitVec.ofInt 64 (IntKind.u64.wrap imm))))) r1 r2 r3 r4 r5 r6 r7 r8 r9 r10 r11 r12 r13 r14 r15 z s c o pc, .int .i64 0]⟩) ∧ Gr w w' :=
  rk12 doHook_ok shOrc (cs := ([(b2i (eqD [.int .i64 11, .int .i64 7, .int .i64 0, .int .i64 0, .bool false, .bool false, .int .i64 0, .int .i64 0, .int .i32 0, .int .i32 0, .int .i64 imm] [.int .i64 11, .int .i64 7, .int .i64 0, .int .i64 0, .bool false, .bool false, .int .i64 0, .int .i64 0, .int .i32 0, .int .i32 0, .int .i64 imm]), 1), (b2i (decide (imm ≥ 0)), 1), (b2i (decide (imm < 32)), 1), inU r0, inU (IntKind.u64.wrap imm)] : Cs)) rfl (by kernel_rfl) (by kernel_rfl) he w hL
set_option maxHeartbeats 0 in
set_option maxRecDepth 1000000 in
theorem ex_divh (r0 r1 r3 r4 r5 r6 r7 r8 r9 r10 r11 r12 r13 r14 r15 : Int) (z s c o : Bool) (pc : Int) (he : ([(b2i (decide ((lowH r3) ≤ lowH 0)), 0), (b2i (decide ((lowH r3) = 0)), 0), (b2i (decide ((lowH r3) = 0)), 0)] : Cs).map (·.1) = ([(b2i (decide ((lowH r3) ≤ lowH 0)), 0), (b2i (decide ((lowH r3) = 0)), 0), (b2i (decide ((lowH r3) = 0)), 0)] : Cs).map (·.2)) (w : World) (hL : Laid h12 w) : Calls Tryd.prog 21 #[.agg ⟨[.int .i64 9, .int .i64 0, .int .i64 0, .int .i64 0, .bool false, .bool false, .int .i64 3, .int .i64 0, .int .i32 0, .int .i32 0, .int .i64 0]⟩, stA r0 r1 0 r3 r4 r5 r6 r7 r8 r9 r10 r11 r12 r13 r14 r15 z s c o pc] w fun e w' => e = .returned (.tuple ⟨[stA (IntKind.u64.wrap (Int.tdiv (orI2 .u64 (IntKind.u64.wrap (lowH 0 * 2 ^ 32)) (lowH r0)) (lowH r3))) r1 (Int.tmod (orI2 .u64 (IntKind.u64.wrap (lowH 0 * 2 ^ 32)) (lowH r0)) (lowH r3)) r3 r4 r5 r6 r7 r8 r9 r10 r11 r12 r13 r14 r15 z s c o pc, .int .i64 0]⟩) ∧ Gr w w' :=
  rk12 doHook_ok (dvOrc false) (cs := ([(b2i (decide ((lowH r3) ≤ lowH 0)), 0), (b2i (decide ((lowH r3) = 0)), 0), (b2i (decide ((lowH r3) = 0)), 0)] : Cs)) rfl (by kernel_rfl) (by kernel_rfl) he w hL
set_option maxHeartbeats 0 in
set_option maxRecDepth 1000000 in
theorem ex_dv0h (r0 r1 r3 r4 r5 r6 r7 r8 r9 r10 r11 r12 r13 r14 r15 : Int) (z s c o : Bool) (pc : Int) (he : ([(b2i (decide ((lowH r3) ≤ lowH 0)), 1)] : Cs).map (·.1) = ([(b2i (decide ((lowH r3) ≤ lowH 0)), 1)] : Cs).map (·.2)) (w : World) (hL : Laid h12 w) : Calls Tryd.prog 21 #[.agg ⟨[.int .i64 9, .int .i64 0, .int .i64 0, .int .i64 0, .bool false, .bool false, .int .i64 3, .int .i64 0, .int .i32 0, .int .i32 0, .int .i64 0]⟩, stA r0 r1 0 r3 r4 r5 r6 r7 r8 r9 r10 r11 r12 r13 r14 r15 z s c o pc] w fun e w' => e = .returned (.tuple ⟨[stA 0 0 0 0 0 0 0 0 0 0 0 0 0 0 0 0 false false false false 0, .int .i64 120]⟩) ∧ Gr w w' :=
  rk12 doHook_ok (dvOrc true) (cs := ([(b2i (decide ((lowH r3) ≤ lowH 0)), 1)] : Cs)) rfl (by kernel_rfl) (by kernel_rfl) he w hL
def hx_addw : Hook := fun f args h =>
  if Nat.beq f 21 then
    match args with
    | [.agg ⟨[x0, x1, x2, x3, x4, x5, x6, x7, x8, x9, .int .i64 imm]⟩, .agg ⟨[.int .u64 r0, .int .u64 r1, .int .u64 r2, .int .u64 r3, .int .u64 r4, .int .u64 r5, .int .u64 r6, .int .u64 r7, .int .u64 r8, .int .u64 r9, .int .u64 r10, .int .u64 r11, .int .u64 r12, .int .u64 r13, .int .u64 r14, .int .u64 r15, .bool z, .bool s, .bool c, .bool o, .int .u64 pc]⟩] => if hasG h12 h && eqM (.agg ⟨[x0, x1, x2, x3, x4, x5, x6, x7, x8, x9, .int .i64 imm]⟩) (.agg ⟨[.int .i64 4, .int .i64 0, .int .i64 0, .int .i64 0, .bool true, .bool false, .int .i64 0, .int .i64 3, .int .i32 0, .int .i32 0, .int .i64 0]⟩) then some (.tuple ⟨[stA (IntKind.wrap .u64 (r0 + r3)) r1 r2 r3 r4 r5 r6 r7 r8 r9 r10 r11 r12 r13 r14 r15 ((IntKind.wrap .u64 (r0 + r3)) == 0) (negB 9223372036854775807 (IntKind.wrap .u64 (r0 + r3))) (decide ((IntKind.wrap .u64 (r0 + r3)) < r0)) (negB 9223372036854775807 (andI .u64 (xorI .u64 r0 (IntKind.wrap .u64 (r0 + r3))) (xorI .u64 r3 (IntKind.wrap .u64 (r0 + r3))))) pc, .int .i64 0]⟩, []) else none
    | _ => none
  else none
theorem hx_addw_ok : HookOk Tryd.prog hx_addw := by
  intro f args h v cs hv hc wb k s w H
  unfold hx_addw at hv
  split at hv
  · rename_i hf
    obtain rfl := Nat.eq_of_beq_eq_true hf
    split at hv
    · split at hv
      · rename_i hq
        simp only [Bool.and_eq_true] at hq
        have hL := H.laid hq.1 rfl
        have he := eqM_ok hq.2
        cases he
        cases hv
        exact ex_addw _ _ _ _ _ _ _ _ _ _ _ _ _ _ _ _ _ _ _ _ _ (he_of hc) w hL
      · cases hv
    · cases hv
  · cases hv
def hx_subw : Hook := fun f args h =>
  if Nat.beq f 21 then
    match args with
    | [.agg ⟨[x0, x1, x2, x3, x4, x5, x6, x7, x8, x9, .int .i64 imm]⟩, .agg ⟨[.int .u64 r0, .int .u64 r1, .int .u64 r2, .int .u64 r3, .int .u64 r4, .int .u64 r5, .int .u64 r6, .int .u64 r7, .int .u64 r8, .int .u64 r9, .int .u64 r10, .int .u64 r11, .int .u64 r12, .int .u64 r13, .int .u64 r14, .int .u64 r15, .bool z, .bool s, .bool c, .bool o, .int .u64 pc]⟩] => if hasG h12 h && eqM (.agg ⟨[x0, x1, x2, x3, x4, x5, x6, x7, x8, x9, .int .i64 imm]⟩) (.agg ⟨[.int .i64 4, .int .i64 5, .int .i64 0, .int .i64 0, .bool true, .bool false, .int .i64 0, .int .i64 3, .int .i32 0, .int .i32 0, .int .i64 0]⟩) then some (.tuple ⟨[stA (subI .u64 r0 r3) r1 r2 r3 r4 r5 r6 r7 r8 r9 r10 r11 r12 r13 r14 r15 ((subI .u64 r0 r3) == 0) (negB 9223372036854775807 (subI .u64 r0 r3)) (decide (r0 < r3)) (negB 9223372036854775807 (andI .u64 (xorI .u64 r0 r3) (xorI .u64 r0 (subI .u64 r0 r3)))) pc, .int .i64 0]⟩, []) else none
    | _ => none
  else none
theorem hx_subw_ok : HookOk Tryd.prog hx_subw := by
  intro f args h v cs hv hc wb k s w H
  unfold hx_subw at hv
  split at hv
  · rename_i hf
    obtain rfl := Nat.eq_of_beq_eq_true hf
    split at hv
    · split at hv
      · rename_i hq
        simp only [Bool.and_eq_true] at hq
        have hL := H.laid hq.1 rfl
        have he := eqM_ok hq.2
        cases he
        cases hv
        exact ex_subw _ _ _ _ _ _ _ _ _ _ _ _ _ _ _ _ _ _ _ _ _ (he_of hc) w hL
      · cases hv
    · cases hv
  · cases hv
def hx_orw : Hook := fun f args h =>
  if Nat.beq f 21 then
    match args with
    | [.agg ⟨[x0, x1, x2, x3, x4, x5, x6, x7, x8, x9, .int .i64 imm]⟩, .agg ⟨[.int .u64 r0, .int .u64 r1, .int .u64 r2, .int .u64 r3, .int .u64 r4, .int .u64 r5, .int .u64 r6, .int .u64 r7, .int .u64 r8, .int .u64 r9, .int .u64 r10, .int .u64 r11, .int .u64 r12, .int .u64 r13, .int .u64 r14, .int .u64 r15, .bool z, .bool s, .bool c, .bool o, .int .u64 pc]⟩] => if hasG h12 h && eqM (.agg ⟨[x0, x1, x2, x3, x4, x5, x6, x7, x8, x9, .int .i64 imm]⟩) (.agg ⟨[.int .i64 4, .int .i64 1, .int .i64 0, .int .i64 0, .bool true, .bool false, .int .i64 0, .int .i64 3, .int .i32 0, .int .i32 0, .int .i64 0]⟩) then some (.tuple ⟨[stA (orI2 .u64 r0 r3) r1 r2 r3 r4 r5 r6 r7 r8 r9 r10 r11 r12 r13 r14 r15 ((orI2 .u64 r0 r3) == 0) (negB 9223372036854775807 (orI2 .u64 r0 r3)) (false) (false) pc, .int .i64 0]⟩, []) else none
    | _ => none
  else none
theorem hx_orw_ok : HookOk Tryd.prog hx_orw := by
  intro f args h v cs hv hc wb k s w H
  unfold hx_orw at hv
  split at hv
  · rename_i hf
    obtain rfl := Nat.eq_of_beq_eq_true hf
    split at hv
    · split at hv
      · rename_i hq
        simp only [Bool.and_eq_true] at hq
        have hL := H.laid hq.1 rfl
        have he := eqM_ok hq.2
        cases he
        cases hv
        exact ex_orw _ _ _ _ _ _ _ _ _ _ _ _ _ _ _ _ _ _ _ _ _ (he_of hc) w hL
      · cases hv
    · cases hv
  · cases hv
def hx_andw : Hook := fun f args h =>
  if Nat.beq f 21 then
    match args with
    | [.agg ⟨[x0, x1, x2, x3, x4, x5, x6, x7, x8, x9, .int .i64 imm]⟩, .agg ⟨[.int .u64 r0, .int .u64 r1, .int .u64 r2, .int .u64 r3, .int .u64 r4, .int .u64 r5, .int .u64 r6, .int .u64 r7, .int .u64 r8, .int .u64 r9, .int .u64 r10, .int .u64 r11, .int .u64 r12, .int .u64 r13, .int .u64 r14, .int .u64 r15, .bool z, .bool s, .bool c, .bool o, .int .u64 pc]⟩] => if hasG h12 h && eqM (.agg ⟨[x0, x1, x2, x3, x4, x5, x6, x7, x8, x9, .int .i64 imm]⟩) (.agg ⟨[.int .i64 4, .int .i64 4, .int .i64 0, .int .i64 0, .bool true, .bool false, .int .i64 0, .int .i64 3, .int .i32 0, .int .i32 0, .int .i64 0]⟩) then some (.tuple ⟨[stA (andI .u64 r0 r3) r1 r2 r3 r4 r5 r6 r7 r8 r9 r10 r11 r12 r13 r14 r15 ((andI .u64 r0 r3) == 0) (negB 9223372036854775807 (andI .u64 r0 r3)) (false) (false) pc, .int .i64 0]⟩, []) else none
    | _ => none
  else none
theorem hx_andw_ok : HookOk Tryd.prog hx_andw := by
  intro f args h v cs hv hc wb k s w H
  unfold hx_andw at hv
  split at hv
  · rename_i hf
    obtain rfl := Nat.eq_of_beq_eq_true hf
    split at hv
    · split at hv
      · rename_i hq
        simp only [Bool.and_eq_true] at hq
        have hL := H.laid hq.1 rfl
        have he := eqM_ok hq.2
        cases he
        cases hv
        exact ex_andw _ _ _ _ _ _ _ _ _ _ _ _ _ _ _ _ _ _ _ _ _ (he_of hc) w hL
      · cases hv
    · cases hv
  · cases hv
def hx_xorw : Hook := fun f args h =>
  if Nat.beq f 21 then
    match args with
    | [.agg ⟨[x0, x1, x2, x3, x4, x5, x6, x7, x8, x9, .int .i64 imm]⟩, .agg ⟨[.int .u64 r0, .int .u64 r1, .int .u64 r2, .int .u64 r3, .int .u64 r4, .int .u64 r5, .int .u64 r6, .int .u64 r7, .int .u64 r8, .int .u64 r9, .int .u64 r10, .int .u64 r11, .int .u64 r12, .int .u64 r13, .int .u64 r14, .int .u64 r15, .bool z, .bool s, .bool c, .bool o, .int .u64 pc]⟩] => if hasG h12 h && eqM (.agg ⟨[x0, x1, x2, x3, x4, x5, x6, x7, x8, x9, .int .i64 imm]⟩) (.agg ⟨[.int .i64 4, .int .i64 6, .int .i64 0, .int .i64 0, .bool true, .bool false, .int .i64 0, .int .i64 3, .int .i32 0, .int .i32 0, .int .i64 0]⟩) then some (.tuple ⟨[stA (xorI .u64 r0 r3) r1 r2 r3 r4 r5 r6 r7 r8 r9 r10 r11 r12 r13 r14 r15 ((xorI .u64 r0 r3) == 0) (negB 9223372036854775807 (xorI .u64 r0 r3)) (false) (false) pc, .int .i64 0]⟩, []) else none
    | _ => none
  else none
theorem hx_xorw_ok : HookOk Tryd.prog hx_xorw := by
  intro f args h v cs hv hc wb k s w H
  unfold hx_xorw at hv
  split at hv
  · rename_i hf
    obtain rfl := Nat.eq_of_beq_eq_true hf
    split at hv
    · split at hv
      · rename_i hq
        simp only [Bool.and_eq_true] at hq
        have hL := H.laid hq.1 rfl
        have he := eqM_ok hq.2
        cases he
        cases hv
        exact ex_xorw _ _ _ _ _ _ _ _ _ _ _ _ _ _ _ _ _ _ _ _ _ (he_of hc) w hL
      · cases hv
    · cases hv
  · cases hv
def hx_movw : Hook := fun f args h =>
  if Nat.beq f 21 then
    match args with
    | [.agg ⟨[x0, x1, x2, x3, x4, x5, x6, x7, x8, x9, .int .i64 imm]⟩, .agg ⟨[.int .u64 r0, .int .u64 r1, .int .u64 r2, .int .u64 r3, .int .u64 r4, .int .u64 r5, .int .u64 r6, .int .u64 r7, .int .u64 r8, .int .u64 r9, .int .u64 r10, .int .u64 r11, .int .u64 r12, .int .u64 r13, .int .u64 r14, .int .u64 r15, .bool z, .bool s, .bool c, .bool o, .int .u64 pc]⟩] => if hasG h12 h && eqM (.agg ⟨[x0, x1, x2, x3, x4, x5, x6, x7, x8, x9, .int .i64 imm]⟩) (.agg ⟨[.int .i64 1, .int .i64 0, .int .i64 0, .int .i64 0, .bool true, .bool false, .int .i64 0, .int .i64 3, .int .i32 0, .int .i32 0, .int .i64 0]⟩) then some (.tuple ⟨[stA (r3) r1 r2 r3 r4 r5 r6 r7 r8 r9 r10 r11 r12 r13 r14 r15 z s c o pc, .int .i64 0]⟩, []) else none
    | _ => none
  else none
theorem hx_movw_ok : HookOk Tryd.prog hx_movw := by
  intro f args h v cs hv hc wb k s w H
  unfold hx_movw at hv
  split at hv
  · rename_i hf
    obtain rfl := Nat.eq_of_beq_eq_true hf
    split at hv
    · split at hv
      · rename_i hq
        simp only [Bool.and_eq_true] at hq
        have hL := H.laid hq.1 rfl
        have he := eqM_ok hq.2
        cases he
        cases hv
        exact ex_movw _ _ _ _ _ _ _ _ _ _ _ _ _ _ _ _ _ _ _ _ _ (he_of hc) w hL
      · cases hv
    · cases hv
  · cases hv
def hx_imulw : Hook := fun f args h =>
  if Nat.beq f 21 then
    match args with
    | [.agg ⟨[x0, x1, x2, x3, x4, x5, x6, x7, x8, x9, .int .i64 imm]⟩, .agg ⟨[.int .u64 r0, .int .u64 r1, .int .u64 r2, .int .u64 r3, .int .u64 r4, .int .u64 r5, .int .u64 r6, .int .u64 r7, .int .u64 r8, .int .u64 r9, .int .u64 r10, .int .u64 r11, .int .u64 r12, .int .u64 r13, .int .u64 r14, .int .u64 r15, .bool z, .bool s, .bool c, .bool o, .int .u64 pc]⟩] => if hasG h12 h && eqM (.agg ⟨[x0, x1, x2, x3, x4, x5, x6, x7, x8, x9, .int .i64 imm]⟩) (.agg ⟨[.int .i64 10, .int .i64 0, .int .i64 0, .int .i64 0, .bool true, .bool false, .int .i64 0, .int .i64 3, .int .i32 0, .int .i32 0, .int .i64 0]⟩) then some (.tuple ⟨[stA (IntKind.u64.wrap (r0 * r3)) r1 r2 r3 r4 r5 r6 r7 r8 r9 r10 r11 r12 r13 r14 r15 z s c o pc, .int .i64 0]⟩, []) else none
    | _ => none
  else none
theorem hx_imulw_ok : HookOk Tryd.prog hx_imulw := by
  intro f args h v cs hv hc wb k s w H
  unfold hx_imulw at hv
  split at hv
  · rename_i hf
    obtain rfl := Nat.eq_of_beq_eq_true hf
    split at hv
    · split at hv
      · rename_i hq
        simp only [Bool.and_eq_true] at hq
        have hL := H.laid hq.1 rfl
        have he := eqM_ok hq.2
        cases he
        cases hv
        exact ex_imulw _ _ _ _ _ _ _ _ _ _ _ _ _ _ _ _ _ _ _ _ _ (he_of hc) w hL
      · cases hv
    · cases hv
  · cases hv
def hx_negw : Hook := fun f args h =>
  if Nat.beq f 21 then
    match args with
    | [.agg ⟨[x0, x1, x2, x3, x4, x5, x6, x7, x8, x9, .int .i64 imm]⟩, .agg ⟨[.int .u64 r0, .int .u64 r1, .int .u64 r2, .int .u64 r3, .int .u64 r4, .int .u64 r5, .int .u64 r6, .int .u64 r7, .int .u64 r8, .int .u64 r9, .int .u64 r10, .int .u64 r11, .int .u64 r12, .int .u64 r13, .int .u64 r14, .int .u64 r15, .bool z, .bool s, .bool c, .bool o, .int .u64 pc]⟩] => if hasG h12 h && eqM (.agg ⟨[x0, x1, x2, x3, x4, x5, x6, x7, x8, x9, .int .i64 imm]⟩) (.agg ⟨[.int .i64 7, .int .i64 0, .int .i64 0, .int .i64 0, .bool true, .bool false, .int .i64 0, .int .i64 0, .int .i32 0, .int .i32 0, .int .i64 0]⟩) then some (.tuple ⟨[stA (subI .u64 0 r0) r1 r2 r3 r4 r5 r6 r7 r8 r9 r10 r11 r12 r13 r14 r15 ((subI .u64 0 r0) == 0) (negB 9223372036854775807 (subI .u64 0 r0)) (decide (0 < r0)) (negB 9223372036854775807 (andI .u64 (xorI .u64 0 r0) (xorI .u64 0 (subI .u64 0 r0)))) pc, .int .i64 0]⟩, []) else none
    | _ => none
  else none
theorem hx_negw_ok : HookOk Tryd.prog hx_negw := by
  intro f args h v cs hv hc wb k s w H
  unfold hx_negw at hv
  split at hv
  · rename_i hf
    obtain rfl := Nat.eq_of_beq_eq_true hf
    split at hv
    · split at hv
      · rename_i hq
        simp only [Bool.and_eq_true] at hq
        have hL := H.laid hq.1 rfl
        have he := eqM_ok hq.2
        cases he
        cases hv
        exact ex_negw _ _ _ _ _ _ _ _ _ _ _ _ _ _ _ _ _ _ _ _ _ (he_of hc) w hL
      · cases hv
    · cases hv
  · cases hv
def hx_mulw : Hook := fun f args h =>
  if Nat.beq f 21 then
    match args with
    | [.agg ⟨[x0, x1, x2, x3, x4, x5, x6, x7, x8, x9, .int .i64 imm]⟩, .agg ⟨[.int .u64 r0, .int .u64 r1, .int .u64 r2, .int .u64 r3, .int .u64 r4, .int .u64 r5, .int .u64 r6, .int .u64 r7, .int .u64 r8, .int .u64 r9, .int .u64 r10, .int .u64 r11, .int .u64 r12, .int .u64 r13, .int .u64 r14, .int .u64 r15, .bool z, .bool s, .bool c, .bool o, .int .u64 pc]⟩] => if hasG h12 h && eqM (.agg ⟨[x0, x1, x2, x3, x4, x5, x6, x7, x8, x9, .int .i64 imm]⟩) (.agg ⟨[.int .i64 8, .int .i64 0, .int .i64 0, .int .i64 0, .bool true, .bool false, .int .i64 3, .int .i64 0, .int .i32 0, .int .i32 0, .int .i64 0]⟩) then some (.tuple ⟨[stA (IntKind.u64.wrap (r0 * r3)) r1 (mulHi r0 r3) r3 r4 r5 r6 r7 r8 r9 r10 r11 r12 r13 r14 r15 z s c o pc, .int .i64 0]⟩, []) else none
    | _ => none
  else none
theorem hx_mulw_ok : HookOk Tryd.prog hx_mulw := by
  intro f args h v cs hv hc wb k s w H
  unfold hx_mulw at hv
  split at hv
  · rename_i hf
    obtain rfl := Nat.eq_of_beq_eq_true hf
    split at hv
    · split at hv
      · rename_i hq
        simp only [Bool.and_eq_true] at hq
        have hL := H.laid hq.1 rfl
        have he := eqM_ok hq.2
        cases he
        cases hv
        exact ex_mulw _ _ _ _ _ _ _ _ _ _ _ _ _ _ _ _ _ _ _ _ _ (he_of hc) w hL
      · cases hv
    · cases hv
  · cases hv
def hx_lshcw : Hook := fun f args h =>
  if Nat.beq f 21 then
    match args with
    | [.agg ⟨[x0, x1, x2, x3, x4, x5, x6, x7, x8, x9, .int .i64 imm]⟩, .agg ⟨[.int .u64 r0, .int .u64 r1, .int .u64 r2, .int .u64 r3, .int .u64 r4, .int .u64 r5, .int .u64 r6, .int .u64 r7, .int .u64 r8, .int .u64 r9, .int .u64 r10, .int .u64 r11, .int .u64 r12, .int .u64 r13, .int .u64 r14, .int .u64 r15, .bool z, .bool s, .bool c, .bool o, .int .u64 pc]⟩] => if hasG h12 h && eqM (.agg ⟨[x0, x1, x2, x3, x4, x5, x6, x7, x8, x9, .int .i64 imm]⟩) (.agg ⟨[.int .i64 12, .int .i64 4, .int .i64 0, .int .i64 0, .bool true, .bool false, .int .i64 0, .int .i64 0, .int .i32 0, .int .i32 0, .int .i64 0]⟩) then some (.tuple ⟨[stA (N (aluS 96 true (BitVec.ofInt 64 r0) (BitVec.ofInt 64 r1))) r1 r2 r3 r4 r5 r6 r7 r8 r9 r10 r11 r12 r13 r14 r15 z s c o pc, .int .i64 0]⟩, [inU r0, inU r1]) else none
    | _ => none
  else none
theorem hx_lshcw_ok : HookOk Tryd.prog hx_lshcw := by
  intro f args h v cs hv hc wb k s w H
  unfold hx_lshcw at hv
  split at hv
  · rename_i hf
    obtain rfl := Nat.eq_of_beq_eq_true hf
    split at hv
    · split at hv
      · rename_i hq
        simp only [Bool.and_eq_true] at hq
        have hL := H.laid hq.1 rfl
        have he := eqM_ok hq.2
        cases he
        cases hv
        exact ex_lshcw _ _ _ _ _ _ _ _ _ _ _ _ _ _ _ _ _ _ _ _ _ (he_of hc) w hL
      · cases hv
    · cases hv
  · cases hv
def hx_lshiw : Hook := fun f args h =>
  if Nat.beq f 21 then
    match args with
    | [.agg ⟨[x0, x1, x2, x3, x4, x5, x6, x7, x8, x9, .int .i64 imm]⟩, .agg ⟨[.int .u64 r0, .int .u64 r1, .int .u64 r2, .int .u64 r3, .int .u64 r4, .int .u64 r5, .int .u64 r6, .int .u64 r7, .int .u64 r8, .int .u64 r9, .int .u64 r10, .int .u64 r11, .int .u64 r12, .int .u64 r13, .int .u64 r14, .int .u64 r15, .bool z, .bool s, .bool c, .bool o, .int .u64 pc]⟩] => if hasG h12 h && eqM (.agg ⟨[x0, x1, x2, x3, x4, x5, x6, x7, x8, x9]⟩) (.agg ⟨[.int .i64 11, .int .i64 4, .int .i64 0, .int .i64 0, .bool true, .bool false, .int .i64 0, .int .i64 0, .int .i32 0, .int .i32 0]⟩) then some (.tuple ⟨[stA (N (aluS 96 true (BitVec.ofInt 64 r0) (BitVec.ofInt 64 (IntKind.u64.wrap imm)))) r1 r2 r3 r4 r5 r6 r7 r8 r9 r10 r11 r12 r13 r14 r15 z s c o pc, .int .i64 0]⟩, [(b2i (eqD [.int .i64 11, .int .i64 4, .int .i64 0, .int .i64 0, .bool true, .bool false, .int .i64 0, .int .i64 0, .int .i32 0, .int .i32 0, .int .i64 imm] [.int .i64 11, .int .i64 4, .int .i64 0, .int .i64 0, .bool true, .bool false, .int .i64 0, .int .i64 0, .int .i32 0, .int .i32 0, .int .i64 imm]), 1), (b2i (decide (imm ≥ 0)), 1), (b2i (decide (imm < 32)), 1), inU r0, inU (IntKind.u64.wrap imm)]) else none
    | _ => none
  else none
theorem hx_lshiw_ok : HookOk Tryd.prog hx_lshiw := by
  intro f args h v cs hv hc wb k s w H
  unfold hx_lshiw at hv
  split at hv
  · rename_i hf
    obtain rfl := Nat.eq_of_beq_eq_true hf
    split at hv
    · split at hv
      · rename_i hq
        simp only [Bool.and_eq_true] at hq
        have hL := H.laid hq.1 rfl
        have he := eqM_ok hq.2
        cases he
        cases hv
        exact ex_lshiw _ _ _ _ _ _ _ _ _ _ _ _ _ _ _ _ _ _ _ _ _ _ (he_of hc) w hL
      · cases hv
    · cases hv
  · cases hv
def hx_rshcw : Hook := fun f args h =>
  if Nat.beq f 21 then
    match args with
    | [.agg ⟨[x0, x1, x2, x3, x4, x5, x6, x7, x8, x9, .int .i64 imm]⟩, .agg ⟨[.int .u64 r0, .int .u64 r1, .int .u64 r2, .int .u64 r3, .int .u64 r4, .int .u64 r5, .int .u64 r6, .int .u64 r7, .int .u64 r8, .int .u64 r9, .int .u64 r10, .int .u64 r11, .int .u64 r12, .int .u64 r13, .int .u64 r14, .int .u64 r15, .bool z, .bool s, .bool c, .bool o, .int .u64 pc]⟩] => if hasG h12 h && eqM (.agg ⟨[x0, x1, x2, x3, x4, x5, x6, x7, x8, x9, .int .i64 imm]⟩) (.agg ⟨[.int .i64 12, .int .i64 5, .int .i64 0, .int .i64 0, .bool true, .bool false, .int .i64 0, .int .i64 0, .int .i32 0, .int .i32 0, .int .i64 0]⟩) then some (.tuple ⟨[stA (N (aluS 112 true (BitVec.ofInt 64 r0) (BitVec.ofInt 64 r1))) r1 r2 r3 r4 r5 r6 r7 r8 r9 r10 r11 r12 r13 r14 r15 z s c o pc, .int .i64 0]⟩, [inU r0, inU r1]) else none
    | _ => none
  else none
theorem hx_rshcw_ok : HookOk Tryd.prog hx_rshcw := by
  intro f args h v cs hv hc wb k s w H
  unfold hx_rshcw at hv
  split at hv
  · rename_i hf
    obtain rfl := Nat.eq_of_beq_eq_true hf
    split at hv
    · split at hv
      · rename_i hq
        simp only [Bool.and_eq_true] at hq
        have hL := H.laid hq.1 rfl
        have he := eqM_ok hq.2
        cases he
        cases hv
        exact ex_rshcw _ _ _ _ _ _ _ _ _ _ _ _ _ _ _ _ _ _ _ _ _ (he_of hc) w hL
      · cases hv
    · cases hv
  · cases hv
def hx_rshiw : Hook := fun f args h =>
  if Nat.beq f 21 then
    match args with
    | [.agg ⟨[x0, x1, x2, x3, x4, x5, x6, x7, x8, x9, .int .i64 imm]⟩, .agg ⟨[.int .u64 r0, .int .u64 r1, .int .u64 r2, .int .u64 r3, .int .u64 r4, .int .u64 r5, .int .u64 r6, .int .u64 r7, .int .u64 r8, .int .u64 r9, .int .u64 r10, .int .u64 r11, .int .u64 r12, .int .u64 r13, .int .u64 r14, .int .u64 r15, .bool z, .bool s, .bool c, .bool o, .int .u64 pc]⟩] => if hasG h12 h && eqM (.agg ⟨[x0, x1, x2, x3, x4, x5, x6, x7, x8, x9]⟩) (.agg ⟨[.int .i64 11, .int .i64 5, .int .i64 0, .int .i64 0, .bool true, .bool false, .int .i64 0, .int .i64 0, .int .i32 0, .int .i32 0]⟩) then some (.tuple ⟨[stA (N (aluS 112 true (BitVec.ofInt 64 r0) (BitVec.ofInt 64 (IntKind.u64.wrap imm)))) r1 r2 r3 r4 r5 r6 r7 r8 r9 r10 r11 r12 r13 r14 r15 z s c o pc, .int .i64 0]⟩, [(b2i (eqD [.int .i64 11, .int .i64 5, .int .i64 0, .int .i64 0, .bool true, .bool false, .int .i64 0, .int .i64 0, .int .i32 0, .int .i32 0, .int .i64 imm] [.int .i64 11, .int .i64 5, .int .i64 0, .int .i64 0, .bool true, .bool false, .int .i64 0, .int .i64 0, .int .i32 0, .int .i32 0, .int .i64 imm]), 1), (b2i (decide (imm ≥ 0)), 1), (b2i (decide (imm < 32)), 1), inU r0, inU (IntKind.u64.wrap imm)]) else none
    | _ => none
  else none
theorem hx_rshiw_ok : HookOk Tryd.prog hx_rshiw := by
  intro f args h v cs hv hc wb k s w H
  unfold hx_rshiw at hv
  split at hv
  · rename_i hf
    obtain rfl := Nat.eq_of_beq_eq_true hf
    split at hv
    · split at hv
      · rename_i hq
        simp only [Bool.and_eq_true] at hq
        have hL := H.laid hq.1 rfl
        have he := eqM_ok hq.2
        cases he
        cases hv
        exact ex_rshiw _ _ _ _ _ _ _ _ _ _ _ _ _ _ _ _ _ _ _ _ _ _ (he_of hc) w hL
      · cases hv
    · cases hv
  · cases hv
def hx_arshcw : Hook := fun f args h =>
  if Nat.beq f 21 then
    match args with
    | [.agg ⟨[x0, x1, x2, x3, x4, x5, x6, x7, x8, x9, .int .i64 imm]⟩, .agg ⟨[.int .u64 r0, .int .u64 r1, .int .u64 r2, .int .u64 r3, .int .u64 r4, .int .u64 r5, .int .u64 r6, .int .u64 r7, .int .u64 r8, .int .u64 r9, .int .u64 r10, .int .u64 r11, .int .u64 r12, .int .u64 r13, .int .u64 r14, .int .u64 r15, .bool z, .bool s, .bool c, .bool o, .int .u64 pc]⟩] => if hasG h12 h && eqM (.agg ⟨[x0, x1, x2, x3, x4, x5, x6, x7, x8, x9, .int .i64 imm]⟩) (.agg ⟨[.int .i64 12, .int .i64 7, .int .i64 0, .int .i64 0, .bool true, .bool false, .int .i64 0, .int .i64 0, .int .i32 0, .int .i32 0, .int .i64 0]⟩) then some (.tuple ⟨[stA (N (aluS 192 true (BitVec.ofInt 64 r0) (BitVec.ofInt 64 r1))) r1 r2 r3 r4 r5 r6 r7 r8 r9 r10 r11 r12 r13 r14 r15 z s c o pc, .int .i64 0]⟩, [inU r0, inU r1]) else none
    | _ => none
  else none
theorem hx_arshcw_ok : HookOk Tryd.prog hx_arshcw := by
  intro f args h v cs hv hc wb k s w H
  unfold hx_arshcw at hv
  split at hv
  · rename_i hf
    obtain rfl := Nat.eq_of_beq_eq_true hf
    split at hv
    · split at hv
      · rename_i hq
        simp only [Bool.and_eq_true] at hq
        have hL := H.laid hq.1 rfl
        have he := eqM_ok hq.2
        cases he
        cases hv
        exact ex_arshcw _ _ _ _ _ _ _ _ _ _ _ _ _ _ _ _ _ _ _ _ _ (he_of hc) w hL
      · cases hv
    · cases hv
  · cases hv
def hx_arshiw : Hook := fun f args h =>
  if Nat.beq f 21 then
    match args with
    | [.agg ⟨[x0, x1, x2, x3, x4, x5, x6, x7, x8, x9, .int .i64 imm]⟩, .agg ⟨[.int .u64 r0, .int .u64 r1, .int .u64 r2, .int .u64 r3, .int .u64 r4, .int .u64 r5, .int .u64 r6, .int .u64 r7, .int .u64 r8, .int .u64 r9, .int .u64 r10, .int .u64 r11, .int .u64 r12, .int .u64 r13, .int .u64 r14, .int .u64 r15, .bool z, .bool s, .bool c, .bool o, .int .u64 pc]⟩] => if hasG h12 h && eqM (.agg ⟨[x0, x1, x2, x3, x4, x5, x6, x7, x8, x9]⟩) (.agg ⟨[.int .i64 11, .int .i64 7, .int .i64 0, .int .i64 0, .bool true, .bool false, .int .i64 0, .int .i64 0, .int .i32 0, .int .i32 0]⟩) then some (.tuple ⟨[stA (N (aluS 192 true (BitVec.ofInt 64 r0) (BitVec.ofInt 64 (IntKind.u64.wrap imm)))) r1 r2 r3 r4 r5 r6 r7 r8 r9 r10 r11 r12 r13 r14 r15 z s c o pc, .int .i64 0]⟩, [(b2i (eqD [.int .i64 11, .int .i64 7, .int .i64 0, .int .i64 0, .bool true, .bool false, .int .i64 0, .int .i64 0, .int .i32 0, .int .i32 0, .int .i64 imm] [.int .i64 11, .int .i64 7, .int .i64 0, .int .i64 0, .bool true, .bool false, .int .i64 0, .int .i64 0, .int .i32 0, .int .i32 0, .int .i64 imm]), 1), (b2i (decide (imm ≥ 0)), 1), (b2i (decide (imm < 32)), 1), inU r0, inU (IntKind.u64.wrap imm)]) else none
    | _ => none
  else none
theorem hx_arshiw_ok : HookOk Tryd.prog hx_arshiw := by
  intro f args h v cs hv hc wb k s w H
  unfold hx_arshiw at hv
  split at hv
  · rename_i hf
    obtain rfl := Nat.eq_of_beq_eq_true hf
    split at hv
    · split at hv
      · rename_i hq
        simp only [Bool.and_eq_true] at hq
        have hL := H.laid hq.1 rfl
        have he := eqM_ok hq.2
        cases he
        cases hv
        exact ex_arshiw _ _ _ _ _ _ _ _ _ _ _ _ _ _ _ _ _ _ _ _ _ _ (he_of hc) w hL
      · cases hv
    · cases hv
  · cases hv
def hx_divw : Hook := fun f args h =>
  if Nat.beq f 21 then
    match args with
    | [.agg ⟨[x0, x1, x2, x3, x4, x5, x6, x7, x8, x9, .int .i64 imm]⟩, .agg ⟨[.int .u64 r0, .int .u64 r1, .int .u64 r2, .int .u64 r3, .int .u64 r4, .int .u64 r5, .int .u64 r6, .int .u64 r7, .int .u64 r8, .int .u64 r9, .int .u64 r10, .int .u64 r11, .int .u64 r12, .int .u64 r13, .int .u64 r14, .int .u64 r15, .bool z, .bool s, .bool c, .bool o, .int .u64 pc]⟩] => if hasG h12 h && eqM (.agg ⟨[x0, x1, x2, x3, x4, x5, x6, x7, x8, x9, .int .i64 imm]⟩) (.agg ⟨[.int .i64 9, .int .i64 0, .int .i64 0, .int .i64 0, .bool true, .bool false, .int .i64 3, .int .i64 0, .int .i32 0, .int .i32 0, .int .i64 0]⟩) && eqM (.int .u64 r2) (.int .u64 0) then some (.tuple ⟨[stA (IntKind.u64.wrap (Int.tdiv r0 r3)) r1 (Int.tmod r0 r3) r3 r4 r5 r6 r7 r8 r9 r10 r11 r12 r13 r14 r15 z s c o pc, .int .i64 0]⟩, [(b2i (decide (r3 ≤ 0)), 0), (b2i (r3 == 0), 0), (b2i (decide (r3 ≤ 0)), 0), (b2i (decide (r3 = 0)), 0), (b2i (decide (r3 = 0)), 0)]) else none
    | _ => none
  else none
theorem hx_divw_ok : HookOk Tryd.prog hx_divw := by
  intro f args h v cs hv hc wb k s w H
  unfold hx_divw at hv
  split at hv
  · rename_i hf
    obtain rfl := Nat.eq_of_beq_eq_true hf
    split at hv
    · split at hv
      · rename_i hq
        simp only [Bool.and_eq_true] at hq
        have hL := H.laid hq.1.1 rfl
        have he := eqM_ok hq.1.2
        cases he
        have h2 := eqM_ok hq.2
        cases h2
        cases hv
        exact ex_divw _ _ _ _ _ _ _ _ _ _ _ _ _ _ _ _ _ _ _ _ (he_of hc) w hL
      · cases hv
    · cases hv
  · cases hv
def hx_dv0w : Hook := fun f args h =>
  if Nat.beq f 21 then
    match args with
    | [.agg ⟨[x0, x1, x2, x3, x4, x5, x6, x7, x8, x9, .int .i64 imm]⟩, .agg ⟨[.int .u64 r0, .int .u64 r1, .int .u64 r2, .int .u64 r3, .int .u64 r4, .int .u64 r5, .int .u64 r6, .int .u64 r7, .int .u64 r8, .int .u64 r9, .int .u64 r10, .int .u64 r11, .int .u64 r12, .int .u64 r13, .int .u64 r14, .int .u64 r15, .bool z, .bool s, .bool c, .bool o, .int .u64 pc]⟩] => if hasG h12 h && eqM (.agg ⟨[x0, x1, x2, x3, x4, x5, x6, x7, x8, x9, .int .i64 imm]⟩) (.agg ⟨[.int .i64 9, .int .i64 0, .int .i64 0, .int .i64 0, .bool true, .bool false, .int .i64 3, .int .i64 0, .int .i32 0, .int .i32 0, .int .i64 0]⟩) && eqM (.int .u64 r2) (.int .u64 0) then some (.tuple ⟨[stA 0 0 0 0 0 0 0 0 0 0 0 0 0 0 0 0 false false false false 0, .int .i64 120]⟩, [(b2i (decide (r3 ≤ 0)), 1)]) else none
    | _ => none
  else none
theorem hx_dv0w_ok : HookOk Tryd.prog hx_dv0w := by
  intro f args h v cs hv hc wb k s w H
  unfold hx_dv0w at hv
  split at hv
  · rename_i hf
    obtain rfl := Nat.eq_of_beq_eq_true hf
    split at hv
    · split at hv
      · rename_i hq
        simp only [Bool.and_eq_true] at hq
        have hL := H.laid hq.1.1 rfl
        have he := eqM_ok hq.1.2
        cases he
        have h2 := eqM_ok hq.2
        cases h2
        cases hv
        exact ex_dv0w _ _ _ _ _ _ _ _ _ _ _ _ _ _ _ _ _ _ _ _ (he_of hc) w hL
      · cases hv
    · cases hv
  · cases hv
def hx_addh : Hook := fun f args h =>
  if Nat.beq f 21 then
    match args with
    | [.agg ⟨[x0, x1, x2, x3, x4, x5, x6, x7, x8, x9, .int .i64 imm]⟩, .agg ⟨[.int .u64 r0, .int .u64 r1, .int .u64 r2, .int .u64 r3, .int .u64 r4, .int .u64 r5, .int .u64 r6, .int .u64 r7, .int .u64 r8, .int .u64 r9, .int .u64 r10, .int .u64 r11, .int .u64 r12, .int .u64 r13, .int .u64 r14, .int .u64 r15, .bool z, .bool s, .bool c, .bool o, .int .u64 pc]⟩] => if hasG h12 h && eqM (.agg ⟨[x0, x1, x2, x3, x4, x5, x6, x7, x8, x9, .int .i64 imm]⟩) (.agg ⟨[.int .i64 4, .int .i64 0, .int .i64 0, .int .i64 0, .bool false, .bool false, .int .i64 0, .int .i64 3, .int .i32 0, .int .i32 0, .int .i64 0]⟩) then some (.tuple ⟨[stA (lowH (IntKind.u64.wrap (IntKind.wrap .u32 ((IntKind.u32.wrap r0) + (IntKind.u32.wrap r3))))) r1 r2 r3 r4 r5 r6 r7 r8 r9 r10 r11 r12 r13 r14 r15 ((IntKind.wrap .u32 ((IntKind.u32.wrap r0) + (IntKind.u32.wrap r3))) == 0) (negB 2147483647 (IntKind.wrap .u32 ((IntKind.u32.wrap r0) + (IntKind.u32.wrap r3)))) (decide ((IntKind.wrap .u32 ((IntKind.u32.wrap r0) + (IntKind.u32.wrap r3))) < (IntKind.u32.wrap r0))) (negB 2147483647 (andI .u32 (xorI .u32 (IntKind.u32.wrap r0) (IntKind.wrap .u32 ((IntKind.u32.wrap r0) + (IntKind.u32.wrap r3)))) (xorI .u32 (IntKind.u32.wrap r3) (IntKind.wrap .u32 ((IntKind.u32.wrap r0) + (IntKind.u32.wrap r3)))))) pc, .int .i64 0]⟩, []) else none
    | _ => none
  else none
theorem hx_addh_ok : HookOk Tryd.prog hx_addh := by
  intro f args h v cs hv hc wb k s w H
  unfold hx_addh at hv
  split at hv
  · rename_i hf
    obtain rfl := Nat.eq_of_beq_eq_true hf
    split at hv
    · split at hv
      · rename_i hq
        simp only [Bool.and_eq_true] at hq
        have hL := H.laid hq.1 rfl
        have he := eqM_ok hq.2
        cases he
        cases hv
        exact ex_addh _ _ _ _ _ _ _ _ _ _ _ _ _ _ _ _ _ _ _ _ _ (he_of hc) w hL
      · cases hv
    · cases hv
  · cases hv
def hx_subh : Hook := fun f args h =>
  if Nat.beq f 21 then
    match args with
    | [.agg ⟨[x0, x1, x2, x3, x4, x5, x6, x7, x8, x9, .int .i64 imm]⟩, .agg ⟨[.int .u64 r0, .int .u64 r1, .int .u64 r2, .int .u64 r3, .int .u64 r4, .int .u64 r5, .int .u64 r6, .int .u64 r7, .int .u64 r8, .int .u64 r9, .int .u64 r10, .int .u64 r11, .int .u64 r12, .int .u64 r13, .int .u64 r14, .int .u64 r15, .bool z, .bool s, .bool c, .bool o, .int .u64 pc]⟩] => if hasG h12 h && eqM (.agg ⟨[x0, x1, x2, x3, x4, x5, x6, x7, x8, x9, .int .i64 imm]⟩) (.agg ⟨[.int .i64 4, .int .i64 5, .int .i64 0, .int .i64 0, .bool false, .bool false, .int .i64 0, .int .i64 3, .int .i32 0, .int .i32 0, .int .i64 0]⟩) then some (.tuple ⟨[stA (lowH (IntKind.u64.wrap (subI .u32 (IntKind.u32.wrap r0) (IntKind.u32.wrap r3)))) r1 r2 r3 r4 r5 r6 r7 r8 r9 r10 r11 r12 r13 r14 r15 ((subI .u32 (IntKind.u32.wrap r0) (IntKind.u32.wrap r3)) == 0) (negB 2147483647 (subI .u32 (IntKind.u32.wrap r0) (IntKind.u32.wrap r3))) (decide ((IntKind.u32.wrap r0) < (IntKind.u32.wrap r3))) (negB 2147483647 (andI .u32 (xorI .u32 (IntKind.u32.wrap r0) (IntKind.u32.wrap r3)) (xorI .u32 (IntKind.u32.wrap r0) (subI .u32 (IntKind.u32.wrap r0) (IntKind.u32.wrap r3))))) pc, .int .i64 0]⟩, []) else none
    | _ => none
  else none
theorem hx_subh_ok : HookOk Tryd.prog hx_subh := by
  intro f args h v cs hv hc wb k s w H
  unfold hx_subh at hv
  split at hv
  · rename_i hf
    obtain rfl := Nat.eq_of_beq_eq_true hf
    split at hv
    · split at hv
      · rename_i hq
        simp only [Bool.and_eq_true] at hq
        have hL := H.laid hq.1 rfl
        have he := eqM_ok hq.2
        cases he
        cases hv
        exact ex_subh _ _ _ _ _ _ _ _ _ _ _ _ _ _ _ _ _ _ _ _ _ (he_of hc) w hL
      · cases hv
    · cases hv
  · cases hv
def hx_orh : Hook := fun f args h =>
  if Nat.beq f 21 then
    match args with
    | [.agg ⟨[x0, x1, x2, x3, x4, x5, x6, x7, x8, x9, .int .i64 imm]⟩, .agg ⟨[.int .u64 r0, .int .u64 r1, .int .u64 r2, .int .u64 r3, .int .u64 r4, .int .u64 r5, .int .u64 r6, .int .u64 r7, .int .u64 r8, .int .u64 r9, .int .u64 r10, .int .u64 r11, .int .u64 r12, .int .u64 r13, .int .u64 r14, .int .u64 r15, .bool z, .bool s, .bool c, .bool o, .int .u64 pc]⟩] => if hasG h12 h && eqM (.agg ⟨[x0, x1, x2, x3, x4, x5, x6, x7, x8, x9, .int .i64 imm]⟩) (.agg ⟨[.int .i64 4, .int .i64 1, .int .i64 0, .int .i64 0, .bool false, .bool false, .int .i64 0, .int .i64 3, .int .i32 0, .int .i32 0, .int .i64 0]⟩) then some (.tuple ⟨[stA (lowH (IntKind.u64.wrap (orI2 .u32 (IntKind.u32.wrap r0) (IntKind.u32.wrap r3)))) r1 r2 r3 r4 r5 r6 r7 r8 r9 r10 r11 r12 r13 r14 r15 ((orI2 .u32 (IntKind.u32.wrap r0) (IntKind.u32.wrap r3)) == 0) (negB 2147483647 (orI2 .u32 (IntKind.u32.wrap r0) (IntKind.u32.wrap r3))) (false) (false) pc, .int .i64 0]⟩, []) else none
    | _ => none
  else none
theorem hx_orh_ok : HookOk Tryd.prog hx_orh := by
  intro f args h v cs hv hc wb k s w H
  unfold hx_orh at hv
  split at hv
  · rename_i hf
    obtain rfl := Nat.eq_of_beq_eq_true hf
    split at hv
    · split at hv
      · rename_i hq
        simp only [Bool.and_eq_true] at hq
        have hL := H.laid hq.1 rfl
        have he := eqM_ok hq.2
        cases he
        cases hv
        exact ex_orh _ _ _ _ _ _ _ _ _ _ _ _ _ _ _ _ _ _ _ _ _ (he_of hc) w hL
      · cases hv
    · cases hv
  · cases hv
def hx_andh : Hook := fun f args h =>
  if Nat.beq f 21 then
    match args with
    | [.agg ⟨[x0, x1, x2, x3, x4, x5, x6, x7, x8, x9, .int .i64 imm]⟩, .agg ⟨[.int .u64 r0, .int .u64 r1, .int .u64 r2, .int .u64 r3, .int .u64 r4, .int .u64 r5, .int .u64 r6, .int .u64 r7, .int .u64 r8, .int .u64 r9, .int .u64 r10, .int .u64 r11, .int .u64 r12, .int .u64 r13, .int .u64 r14, .int .u64 r15, .bool z, .bool s, .bool c, .bool o, .int .u64 pc]⟩] => if hasG h12 h && eqM (.agg ⟨[x0, x1, x2, x3, x4, x5, x6, x7, x8, x9, .int .i64 imm]⟩) (.agg ⟨[.int .i64 4, .int .i64 4, .int .i64 0, .int .i64 0, .bool false, .bool false, .int .i64 0, .int .i64 3, .int .i32 0, .int .i32 0, .int .i64 0]⟩) then some (.tuple ⟨[stA (lowH (IntKind.u64.wrap (andI .u32 (IntKind.u32.wrap r0) (IntKind.u32.wrap r3)))) r1 r2 r3 r4 r5 r6 r7 r8 r9 r10 r11 r12 r13 r14 r15 ((andI .u32 (IntKind.u32.wrap r0) (IntKind.u32.wrap r3)) == 0) (negB 2147483647 (andI .u32 (IntKind.u32.wrap r0) (IntKind.u32.wrap r3))) (false) (false) pc, .int .i64 0]⟩, []) else none
    | _ => none
  else none
theorem hx_andh_ok : HookOk Tryd.prog hx_andh := by
  intro f args h v cs hv hc wb k s w H
  unfold hx_andh at hv
  split at hv
  · rename_i hf
    obtain rfl := Nat.eq_of_beq_eq_true hf
    split at hv
    · split at hv
      · rename_i hq
        simp only [Bool.and_eq_true] at hq
        have hL := H.laid hq.1 rfl
        have he := eqM_ok hq.2
        cases he
        cases hv
        exact ex_andh _ _ _ _ _ _ _ _ _ _ _ _ _ _ _ _ _ _ _ _ _ (he_of hc) w hL
      · cases hv
    · cases hv
  · cases hv
def hx_xorh : Hook := fun f args h =>
  if Nat.beq f 21 then
    match args with
    | [.agg ⟨[x0, x1, x2, x3, x4, x5, x6, x7, x8, x9, .int .i64 imm]⟩, .agg ⟨[.int .u64 r0, .int .u64 r1, .int .u64 r2, .int .u64 r3, .int .u64 r4, .int .u64 r5, .int .u64 r6, .int .u64 r7, .int .u64 r8, .int .u64 r9, .int .u64 r10, .int .u64 r11, .int .u64 r12, .int .u64 r13, .int .u64 r14, .int .u64 r15, .bool z, .bool s, .bool c, .bool o, .int .u64 pc]⟩] => if hasG h12 h && eqM (.agg ⟨[x0, x1, x2, x3, x4, x5, x6, x7, x8, x9, .int .i64 imm]⟩) (.agg ⟨[.int .i64 4, .int .i64 6, .int .i64 0, .int .i64 0, .bool false, .bool false, .int .i64 0, .int .i64 3, .int .i32 0, .int .i32 0, .int .i64 0]⟩) then some (.tuple ⟨[stA (lowH (IntKind.u64.wrap (xorI .u32 (IntKind.u32.wrap r0) (IntKind.u32.wrap r3)))) r1 r2 r3 r4 r5 r6 r7 r8 r9 r10 r11 r12 r13 r14 r15 ((xorI .u32 (IntKind.u32.wrap r0) (IntKind.u32.wrap r3)) == 0) (negB 2147483647 (xorI .u32 (IntKind.u32.wrap r0) (IntKind.u32.wrap r3))) (false) (false) pc, .int .i64 0]⟩, []) else none
    | _ => none
  else none
theorem hx_xorh_ok : HookOk Tryd.prog hx_xorh := by
  intro f args h v cs hv hc wb k s w H
  unfold hx_xorh at hv
  split at hv
  · rename_i hf
    obtain rfl := Nat.eq_of_beq_eq_true hf
    split at hv
    · split at hv
      · rename_i hq
        simp only [Bool.and_eq_true] at hq
        have hL := H.laid hq.1 rfl
        have he := eqM_ok hq.2
        cases he
        cases hv
        exact ex_xorh _ _ _ _ _ _ _ _ _ _ _ _ _ _ _ _ _ _ _ _ _ (he_of hc) w hL
      · cases hv
    · cases hv
  · cases hv
def hx_movh : Hook := fun f args h =>
  if Nat.beq f 21 then
    match args with
    | [.agg ⟨[x0, x1, x2, x3, x4, x5, x6, x7, x8, x9, .int .i64 imm]⟩, .agg ⟨[.int .u64 r0, .int .u64 r1, .int .u64 r2, .int .u64 r3, .int .u64 r4, .int .u64 r5, .int .u64 r6, .int .u64 r7, .int .u64 r8, .int .u64 r9, .int .u64 r10, .int .u64 r11, .int .u64 r12, .int .u64 r13, .int .u64 r14, .int .u64 r15, .bool z, .bool s, .bool c, .bool o, .int .u64 pc]⟩] => if hasG h12 h && eqM (.agg ⟨[x0, x1, x2, x3, x4, x5, x6, x7, x8, x9, .int .i64 imm]⟩) (.agg ⟨[.int .i64 1, .int .i64 0, .int .i64 0, .int .i64 0, .bool false, .bool false, .int .i64 0, .int .i64 3, .int .i32 0, .int .i32 0, .int .i64 0]⟩) then some (.tuple ⟨[stA (lowH (r3)) r1 r2 r3 r4 r5 r6 r7 r8 r9 r10 r11 r12 r13 r14 r15 z s c o pc, .int .i64 0]⟩, []) else none
    | _ => none
  else none
theorem hx_movh_ok : HookOk Tryd.prog hx_movh := by
  intro f args h v cs hv hc wb k s w H
  unfold hx_movh at hv
  split at hv
  · rename_i hf
    obtain rfl := Nat.eq_of_beq_eq_true hf
    split at hv
    · split at hv
      · rename_i hq
        simp only [Bool.and_eq_true] at hq
        have hL := H.laid hq.1 rfl
        have he := eqM_ok hq.2
        cases he
        cases hv
        exact ex_movh _ _ _ _ _ _ _ _ _ _ _ _ _ _ _ _ _ _ _ _ _ (he_of hc) w hL
      · cases hv
    · cases hv
  · cases hv
def hx_imulh : Hook := fun f args h =>
  if Nat.beq f 21 then
    match args with
    | [.agg ⟨[x0, x1, x2, x3, x4, x5, x6, x7, x8, x9, .int .i64 imm]⟩, .agg ⟨[.int .u64 r0, .int .u64 r1, .int .u64 r2, .int .u64 r3, .int .u64 r4, .int .u64 r5, .int .u64 r6, .int .u64 r7, .int .u64 r8, .int .u64 r9, .int .u64 r10, .int .u64 r11, .int .u64 r12, .int .u64 r13, .int .u64 r14, .int .u64 r15, .bool z, .bool s, .bool c, .bool o, .int .u64 pc]⟩] => if hasG h12 h && eqM (.agg ⟨[x0, x1, x2, x3, x4, x5, x6, x7, x8, x9, .int .i64 imm]⟩) (.agg ⟨[.int .i64 10, .int .i64 0, .int .i64 0, .int .i64 0, .bool false, .bool false, .int .i64 0, .int .i64 3, .int .i32 0, .int .i32 0, .int .i64 0]⟩) then some (.tuple ⟨[stA (lowH (IntKind.u64.wrap (r0 * r3))) r1 r2 r3 r4 r5 r6 r7 r8 r9 r10 r11 r12 r13 r14 r15 z s c o pc, .int .i64 0]⟩, []) else none
    | _ => none
  else none
theorem hx_imulh_ok : HookOk Tryd.prog hx_imulh := by
  intro f args h v cs hv hc wb k s w H
  unfold hx_imulh at hv
  split at hv
  · rename_i hf
    obtain rfl := Nat.eq_of_beq_eq_true hf
    split at hv
    · split at hv
      · rename_i hq
        simp only [Bool.and_eq_true] at hq
        have hL := H.laid hq.1 rfl
        have he := eqM_ok hq.2
        cases he
        cases hv
        exact ex_imulh _ _ _ _ _ _ _ _ _ _ _ _ _ _ _ _ _ _ _ _ _ (he_of hc) w hL
      · cases hv
    · cases hv
  · cases hv
def hx_negh : Hook := fun f args h =>
  if Nat.beq f 21 then
    match args with
    | [.agg ⟨[x0, x1, x2, x3, x4, x5, x6, x7, x8, x9, .int .i64 imm]⟩, .agg ⟨[.int .u64 r0, .int .u64 r1, .int .u64 r2, .int .u64 r3, .int .u64 r4, .int .u64 r5, .int .u64 r6, .int .u64 r7, .int .u64 r8, .int .u64 r9, .int .u64 r10, .int .u64 r11, .int .u64 r12, .int .u64 r13, .int .u64 r14, .int .u64 r15, .bool z, .bool s, .bool c, .bool o, .int .u64 pc]⟩] => if hasG h12 h && eqM (.agg ⟨[x0, x1, x2, x3, x4, x5, x6, x7, x8, x9, .int .i64 imm]⟩) (.agg ⟨[.int .i64 7, .int .i64 0, .int .i64 0, .int .i64 0, .bool false, .bool false, .int .i64 0, .int .i64 0, .int .i32 0, .int .i32 0, .int .i64 0]⟩) then some (.tuple ⟨[stA (lowH (IntKind.u64.wrap (subI .u32 (IntKind.u32.wrap 0) (IntKind.u32.wrap r0)))) r1 r2 r3 r4 r5 r6 r7 r8 r9 r10 r11 r12 r13 r14 r15 ((subI .u32 (IntKind.u32.wrap 0) (IntKind.u32.wrap r0)) == 0) (negB 2147483647 (subI .u32 (IntKind.u32.wrap 0) (IntKind.u32.wrap r0))) (decide ((IntKind.u32.wrap 0) < (IntKind.u32.wrap r0))) (negB 2147483647 (andI .u32 (xorI .u32 (IntKind.u32.wrap 0) (IntKind.u32.wrap r0)) (xorI .u32 (IntKind.u32.wrap 0) (subI .u32 (IntKind.u32.wrap 0) (IntKind.u32.wrap r0))))) pc, .int .i64 0]⟩, []) else none
    | _ => none
  else none
theorem hx_negh_ok : HookOk Tryd.prog hx_negh := by
  intro f args h v cs hv hc wb k s w H
  unfold hx_negh at hv
  split at hv
  · rename_i hf
    obtain rfl := Nat.eq_of_beq_eq_true hf
    split at hv
    · split at hv
      · rename_i hq
        simp only [Bool.and_eq_true] at hq
        have hL := H.laid hq.1 rfl
        have he := eqM_ok hq.2
        cases he
        cases hv
        exact ex_negh _ _ _ _ _ _ _ _ _ _ _ _ _ _ _ _ _ _ _ _ _ (he_of hc) w hL
      · cases hv
    · cases hv
  · cases hv
def hx_mulh : Hook := fun f args h =>
  if Nat.beq f 21 then
    match args with
    | [.agg ⟨[x0, x1, x2, x3, x4, x5, x6, x7, x8, x9, .int .i64 imm]⟩, .agg ⟨[.int .u64 r0, .int .u64 r1, .int .u64 r2, .int .u64 r3, .int .u64 r4, .int .u64 r5, .int .u64 r6, .int .u64 r7, .int .u64 r8, .int .u64 r9, .int .u64 r10, .int .u64 r11, .int .u64 r12, .int .u64 r13, .int .u64 r14, .int .u64 r15, .bool z, .bool s, .bool c, .bool o, .int .u64 pc]⟩] => if hasG h12 h && eqM (.agg ⟨[x0, x1, x2, x3, x4, x5, x6, x7, x8, x9, .int .i64 imm]⟩) (.agg ⟨[.int .i64 8, .int .i64 0, .int .i64 0, .int .i64 0, .bool false, .bool false, .int .i64 3, .int .i64 0, .int .i32 0, .int .i32 0, .int .i64 0]⟩) then some (.tuple ⟨[stA (lowH (IntKind.u64.wrap (lowH r0 * lowH r3))) r1 (shr32 (IntKind.u64.wrap (lowH r0 * lowH r3))) r3 r4 r5 r6 r7 r8 r9 r10 r11 r12 r13 r14 r15 z s c o pc, .int .i64 0]⟩, []) else none
    | _ => none
  else none
theorem hx_mulh_ok : HookOk Tryd.prog hx_mulh := by
  intro f args h v cs hv hc wb k s w H
  unfold hx_mulh at hv
  split at hv
  · rename_i hf
    obtain rfl := Nat.eq_of_beq_eq_true hf
    split at hv
    · split at hv
      · rename_i hq
        simp only [Bool.and_eq_true] at hq
        have hL := H.laid hq.1 rfl
        have he := eqM_ok hq.2
        cases he
        cases hv
        exact ex_mulh _ _ _ _ _ _ _ _ _ _ _ _ _ _ _ _ _ _ _ _ _ (he_of hc) w hL
      · cases hv
    · cases hv
  · cases hv
def hx_lshch : Hook := fun f args h =>
  if Nat.beq f 21 then
    match args with
    | [.agg ⟨[x0, x1, x2, x3, x4, x5, x6, x7, x8, x9, .int .i64 imm]⟩, .agg ⟨[.int .u64 r0, .int .u64 r1, .int .u64 r2, .int .u64 r3, .int .u64 r4, .int .u64 r5, .int .u64 r6, .int .u64 r7, .int .u64 r8, .int .u64 r9, .int .u64 r10, .int .u64 r11, .int .u64 r12, .int .u64 r13, .int .u64 r14, .int .u64 r15, .bool z, .bool s, .bool c, .bool o, .int .u64 pc]⟩] => if hasG h12 h && eqM (.agg ⟨[x0, x1, x2, x3, x4, x5, x6, x7, x8, x9, .int .i64 imm]⟩) (.agg ⟨[.int .i64 12, .int .i64 4, .int .i64 0, .int .i64 0, .bool false, .bool false, .int .i64 0, .int .i64 0, .int .i32 0, .int .i32 0, .int .i64 0]⟩) then some (.tuple ⟨[stA (lowH (N (aluS 96 false (BitVec.ofInt 64 r0) (BitVec.ofInt 64 r1)))) r1 r2 r3 r4 r5 r6 r7 r8 r9 r10 r11 r12 r13 r14 r15 z s c o pc, .int .i64 0]⟩, [inU r0, inU r1]) else none
    | _ => none
  else none
theorem hx_lshch_ok : HookOk Tryd.prog hx_lshch := by
  intro f args h v cs hv hc wb k s w H
  unfold hx_lshch at hv
  split at hv
  · rename_i hf
    obtain rfl := Nat.eq_of_beq_eq_true hf
    split at hv
    · split at hv
      · rename_i hq
        simp only [Bool.and_eq_true] at hq
        have hL := H.laid hq.1 rfl
        have he := eqM_ok hq.2
        cases he
        cases hv
        exact ex_lshch _ _ _ _ _ _ _ _ _ _ _ _ _ _ _ _ _ _ _ _ _ (he_of hc) w hL
      · cases hv
    · cases hv
  · cases hv
def hx_lshih : Hook := fun f args h =>
  if Nat.beq f 21 then
    match args with
    | [.agg ⟨[x0, x1, x2, x3, x4, x5, x6, x7, x8, x9, .int .i64 imm]⟩, .agg ⟨[.int .u64 r0, .int .u64 r1, .int .u64 r2, .int .u64 r3, .int .u64 r4, .int .u64 r5, .int .u64 r6, .int .u64 r7, .int .u64 r8, .int .u64 r9, .int .u64 r10, .int .u64 r11, .int .u64 r12, .int .u64 r13, .int .u64 r14, .int .u64 r15, .bool z, .bool s, .bool c, .bool o, .int .u64 pc]⟩] => if hasG h12 h && eqM (.agg ⟨[x0, x1, x2, x3, x4, x5, x6, x7, x8, x9]⟩) (.agg ⟨[.int .i64 11, .int .i64 4, .int .i64 0, .int .i64 0, .bool false, .bool false, .int .i64 0, .int .i64 0, .int .i32 0, .int .i32 0]⟩) then some (.tuple ⟨[stA (lowH (N (aluS 96 false (BitVec.ofInt 64 r0) (BitVec.ofInt 64 (IntKind.u64.wrap imm))))) r1 r2 r3 r4 r5 r6 r7 r8 r9 r10 r11 r12 r13 r14 r15 z s c o pc, .int .i64 0]⟩, [(b2i (eqD [.int .i64 11, .int .i64 4, .int .i64 0, .int .i64 0, .bool false, .bool false, .int .i64 0, .int .i64 0, .int .i32 0, .int .i32 0, .int .i64 imm] [.int .i64 11, .int .i64 4, .int .i64 0, .int .i64 0, .bool false, .bool false, .int .i64 0, .int .i64 0, .int .i32 0, .int .i32 0, .int .i64 imm]), 1), (b2i (decide (imm ≥ 0)), 1), (b2i (decide (imm < 32)), 1), inU r0, inU (IntKind.u64.wrap imm)]) else none
    | _ => none
  else none
theorem hx_lshih_ok : HookOk Tryd.prog hx_lshih := by
  intro f args h v cs hv hc wb k s w H
  unfold hx_lshih at hv
  split at hv
  · rename_i hf
    obtain rfl := Nat.eq_of_beq_eq_true hf
    split at hv
    · split at hv
      · rename_i hq
        simp only [Bool.and_eq_true] at hq
        have hL := H.laid hq.1 rfl
        have he := eqM_ok hq.2
        cases he
        cases hv
        exact ex_lshih _ _ _ _ _ _ _ _ _ _ _ _ _ _ _ _ _ _ _ _ _ _ (he_of hc) w hL
      · cases hv
    · cases hv
  · cases hv
def hx_rshch : Hook := fun f args h =>
  if Nat.beq f 21 then
    match args with
    | [.agg ⟨[x0, x1, x2, x3, x4, x5, x6, x7, x8, x9, .int .i64 imm]⟩, .agg ⟨[.int .u64 r0, .int .u64 r1, .int .u64 r2, .int .u64 r3, .int .u64 r4, .int .u64 r5, .int .u64 r6, .int .u64 r7, .int .u64 r8, .int .u64 r9, .int .u64 r10, .int .u64 r11, .int .u64 r12, .int .u64 r13, .int .u64 r14, .int .u64 r15, .bool z, .bool s, .bool c, .bool o, .int .u64 pc]⟩] => if hasG h12 h && eqM (.agg ⟨[x0, x1, x2, x3, x4, x5, x6, x7, x8, x9, .int .i64 imm]⟩) (.agg ⟨[.int .i64 12, .int .i64 5, .int .i64 0, .int .i64 0, .bool false, .bool false, .int .i64 0, .int .i64 0, .int .i32 0, .int .i32 0, .int .i64 0]⟩) then some (.tuple ⟨[stA (lowH (N (aluS 112 false (BitVec.ofInt 64 r0) (BitVec.ofInt 64 r1)))) r1 r2 r3 r4 r5 r6 r7 r8 r9 r10 r11 r12 r13 r14 r15 z s c o pc, .int .i64 0]⟩, [inU r0, inU r1]) else none
    | _ => none
  else none
theorem hx_rshch_ok : HookOk Tryd.prog hx_rshch := by
  intro f args h v cs hv hc wb k s w H
  unfold hx_rshch at hv
  split at hv
  · rename_i hf
    obtain rfl := Nat.eq_of_beq_eq_true hf
    split at hv
    · split at hv
      · rename_i hq
        simp only [Bool.and_eq_true] at hq
        have hL := H.laid hq.1 rfl
        have he := eqM_ok hq.2
        cases he
        cases hv
        exact ex_rshch _ _ _ _ _ _ _ _ _ _ _ _ _ _ _ _ _ _ _ _ _ (he_of hc) w hL
      · cases hv
    · cases hv
  · cases hv
def hx_rshih : Hook := fun f args h =>
  if Nat.beq f 21 then
    match args with
    | [.agg ⟨[x0, x1, x2, x3, x4, x5, x6, x7, x8, x9, .int .i64 imm]⟩, .agg ⟨[.int .u64 r0, .int .u64 r1, .int .u64 r2, .int .u64 r3, .int .u64 r4, .int .u64 r5, .int .u64 r6, .int .u64 r7, .int .u64 r8, .int .u64 r9, .int .u64 r10, .int .u64 r11, .int .u64 r12, .int .u64 r13, .int .u64 r14, .int .u64 r15, .bool z, .bool s, .bool c, .bool o, .int .u64 pc]⟩] => if hasG h12 h && eqM (.agg ⟨[x0, x1, x2, x3, x4, x5, x6, x7, x8, x9]⟩) (.agg ⟨[.int .i64 11, .int .i64 5, .int .i64 0, .int .i64 0, .bool false, .bool false, .int .i64 0, .int .i64 0, .int .i32 0, .int .i32 0]⟩) then some (.tuple ⟨[stA (lowH (N (aluS 112 false (BitVec.ofInt 64 r0) (BitVec.ofInt 64 (IntKind.u64.wrap imm))))) r1 r2 r3 r4 r5 r6 r7 r8 r9 r10 r11 r12 r13 r14 r15 z s c o pc, .int .i64 0]⟩, [(b2i (eqD [.int .i64 11, .int .i64 5, .int .i64 0, .int .i64 0, .bool false, .bool false, .int .i64 0, .int .i64 0, .int .i32 0, .int .i32 0, .int .i64 imm] [.int .i64 11, .int .i64 5, .int .i64 0, .int .i64 0, .bool false, .bool false, .int .i64 0, .int .i64 0, .int .i32 0, .int .i32 0, .int .i64 imm]), 1), (b2i (decide (imm ≥ 0)), 1), (b2i (decide (imm < 32)), 1), inU r0, inU (IntKind.u64.wrap imm)]) else none
    | _ => none
  else none
theorem hx_rshih_ok : HookOk Tryd.prog hx_rshih := by
  intro f args h v cs hv hc wb k s w H
  unfold hx_rshih at hv
  split at hv
  · rename_i hf
    obtain rfl := Nat.eq_of_beq_eq_true hf
    split at hv
    · split at hv
      · rename_i hq
        simp only [Bool.and_eq_true] at hq
        have hL := H.laid hq.1 rfl
        have he := eqM_ok hq.2
        cases he
        cases hv
        exact ex_rshih _ _ _ _ _ _ _ _ _ _ _ _ _ _ _ _ _ _ _ _ _ _ (he_of hc) w hL
      · cases hv
    · cases hv
  · cases hv
def hx_arshch : Hook := fun f args h =>
  if Nat.beq f 21 then
    match args with
    | [.agg ⟨[x0, x1, x2, x3, x4, x5, x6, x7, x8, x9, .int .i64 imm]⟩, .agg ⟨[.int .u64 r0, .int .u64 r1, .int .u64 r2, .int .u64 r3, .int .u64 r4, .int .u64 r5, .int .u64 r6, .int .u64 r7, .int .u64 r8, .int .u64 r9, .int .u64 r10, .int .u64 r11, .int .u64 r12, .int .u64 r13, .int .u64 r14, .int .u64 r15, .bool z, .bool s, .bool c, .bool o, .int .u64 pc]⟩] => if hasG h12 h && eqM (.agg ⟨[x0, x1, x2, x3, x4, x5, x6, x7, x8, x9, .int .i64 imm]⟩) (.agg ⟨[.int .i64 12, .int .i64 7, .int .i64 0, .int .i64 0, .bool false, .bool false, .int .i64 0, .int .i64 0, .int .i32 0, .int .i32 0, .int .i64 0]⟩) then some (.tuple ⟨[stA (lowH (N (aluS 192 false (BitVec.ofInt 64 r0) (BitVec.ofInt 64 r1)))) r1 r2 r3 r4 r5 r6 r7 r8 r9 r10 r11 r12 r13 r14 r15 z s c o pc, .int .i64 0]⟩, [inU r0, inU r1]) else none
    | _ => none
  else none
theorem hx_arshch_ok : HookOk Tryd.prog hx_arshch := by
  intro f args h v cs hv hc wb k s w H
  unfold hx_arshch at hv
  split at hv
  · rename_i hf
    obtain rfl := Nat.eq_of_beq_eq_true hf
    split at hv
    · split at hv
      · rename_i hq
        simp only [Bool.and_eq_true] at hq
        have hL := H.laid hq.1 rfl
        have he := eqM_ok hq.2
        cases he
        cases hv
        exact ex_arshch _ _ _ _ _ _ _ _ _ _ _ _ _ _ _ _ _ _ _ _ _ (he_of hc) w hL
      · cases hv
    · cases hv
  · cases hv
def hx_arshih : Hook := fun f args h =>
  if Nat.beq f 21 then
    match args with
    | [.agg ⟨[x0, x1, x2, x3, x4, x5, x6, x7, x8, x9, .int .i64 imm]⟩, .agg ⟨[.int .u64 r0, .int .u64 r1, .int .u64 r2, .int .u64 r3, .int .u64 r4, .int .u64 r5, .int .u64 r6, .int .u64 r7, .int .u64 r8, .int .u64 r9, .int .u64 r10, .int .u64 r11, .int .u64 r12, .int .u64 r13, .int .u64 r14, .int .u64 r15, .bool z, .bool s, .bool c, .bool o, .int .u64 pc]⟩] => if hasG h12 h && eqM (.agg ⟨[x0, x1, x2, x3, x4, x5, x6, x7, x8, x9]⟩) (.agg ⟨[.int .i64 11, .int .i64 7, .int .i64 0, .int .i64 0, .bool false, .bool false, .int .i64 0, .int .i64 0, .int .i32 0, .int .i32 0]⟩) then some (.tuple ⟨[stA (lowH (N (aluS 192 false (BitVec.ofInt 64 r0) (BitVec.ofInt 64 (IntKind.u64.wrap imm))))) r1 r2 r3 r4 r5 r6 r7 r8 r9 r10 r11 r12 r13 r14 r15 z s c o pc, .int .i64 0]⟩, [(b2i (eqD [.int .i64 11, .int .i64 7, .int .i64 0, .int .i64 0, .bool false, .bool false, .int .i64 0, .int .i64 0, .int .i32 0, .int .i32 0, .int .i64 imm] [.int .i64 11, .int .i64 7, .int .i64 0, .int .i64 0, .bool false, .bool false, .int .i64 0, .int .i64 0, .int .i32 0, .int .i32 0, .int .i64 imm]), 1), (b2i (decide (imm ≥ 0)), 1), (b2i (decide (imm < 32)), 1), inU r0, inU (IntKind.u64.wrap imm)]) else none
    | _ => none
  else none
theorem hx_arshih_ok : HookOk Tryd.prog hx_arshih := by
  intro f args h v cs hv hc wb k s w H
  unfold hx_arshih at hv
  split at hv
  · rename_i hf
    obtain rfl := Nat.eq_of_beq_eq_true hf
    split at hv
    · split at hv
      · rename_i hq
        simp only [Bool.and_eq_true] at hq
        have hL := H.laid hq.1 rfl
        have he := eqM_ok hq.2
        cases he
        cases hv
        exact ex_arshih _ _ _ _ _ _ _ _ _ _ _ _ _ _ _ _ _ _ _ _ _ _ (he_of hc) w hL
      · cases hv
    · cases hv
  · cases hv
def hx_divh : Hook := fun f args h =>
  if Nat.beq f 21 then
    match args with
    | [.agg ⟨[x0, x1, x2, x3, x4, x5, x6, x7, x8, x9, .int .i64 imm]⟩, .agg ⟨[.int .u64 r0, .int .u64 r1, .int .u64 r2, .int .u64 r3, .int .u64 r4, .int .u64 r5, .int .u64 r6, .int .u64 r7, .int .u64 r8, .int .u64 r9, .int .u64 r10, .int .u64 r11, .int .u64 r12, .int .u64 r13, .int .u64 r14, .int .u64 r15, .bool z, .bool s, .bool c, .bool o, .int .u64 pc]⟩] => if hasG h12 h && eqM (.agg ⟨[x0, x1, x2, x3, x4, x5, x6, x7, x8, x9, .int .i64 imm]⟩) (.agg ⟨[.int .i64 9, .int .i64 0, .int .i64 0, .int .i64 0, .bool false, .bool false, .int .i64 3, .int .i64 0, .int .i32 0, .int .i32 0, .int .i64 0]⟩) && eqM (.int .u64 r2) (.int .u64 0) then some (.tuple ⟨[stA (IntKind.u64.wrap (Int.tdiv (orI2 .u64 (IntKind.u64.wrap (lowH 0 * 2 ^ 32)) (lowH r0)) (lowH r3))) r1 (Int.tmod (orI2 .u64 (IntKind.u64.wrap (lowH 0 * 2 ^ 32)) (lowH r0)) (lowH r3)) r3 r4 r5 r6 r7 r8 r9 r10 r11 r12 r13 r14 r15 z s c o pc, .int .i64 0]⟩, [(b2i (decide ((lowH r3) ≤ lowH 0)), 0), (b2i (decide ((lowH r3) = 0)), 0), (b2i (decide ((lowH r3) = 0)), 0)]) else none
    | _ => none
  else none
theorem hx_divh_ok : HookOk Tryd.prog hx_divh := by
  intro f args h v cs hv hc wb k s w H
  unfold hx_divh at hv
  split at hv
  · rename_i hf
    obtain rfl := Nat.eq_of_beq_eq_true hf
    split at hv
    · split at hv
      · rename_i hq
        simp only [Bool.and_eq_true] at hq
        have hL := H.laid hq.1.1 rfl
        have he := eqM_ok hq.1.2
        cases he
        have h2 := eqM_ok hq.2
        cases h2
        cases hv
        exact ex_divh _ _ _ _ _ _ _ _ _ _ _ _ _ _ _ _ _ _ _ _ (he_of hc) w hL
      · cases hv
    · cases hv
  · cases hv
def hx_dv0h : Hook := fun f args h =>
  if Nat.beq f 21 then
    match args with
    | [.agg ⟨[x0, x1, x2, x3, x4, x5, x6, x7, x8, x9, .int .i64 imm]⟩, .agg ⟨[.int .u64 r0, .int .u64 r1, .int .u64 r2, .int .u64 r3, .int .u64 r4, .int .u64 r5, .int .u64 r6, .int .u64 r7, .int .u64 r8, .int .u64 r9, .int .u64 r10, .int .u64 r11, .int .u64 r12, .int .u64 r13, .int .u64 r14, .int .u64 r15, .bool z, .bool s, .bool c, .bool o, .int .u64 pc]⟩] => if hasG h12 h && eqM (.agg ⟨[x0, x1, x2, x3, x4, x5, x6, x7, x8, x9, .int .i64 imm]⟩) (.agg ⟨[.int .i64 9, .int .i64 0, .int .i64 0, .int .i64 0, .bool false, .bool false, .int .i64 3, .int .i64 0, .int .i32 0, .int .i32 0, .int .i64 0]⟩) && eqM (.int .u64 r2) (.int .u64 0) then some (.tuple ⟨[stA 0 0 0 0 0 0 0 0 0 0 0 0 0 0 0 0 false false false false 0, .int .i64 120]⟩, [(b2i (decide ((lowH r3) ≤ lowH 0)), 1)]) else none
    | _ => none
  else none
theorem hx_dv0h_ok : HookOk Tryd.prog hx_dv0h := by
  intro f args h v cs hv hc wb k s w H
  unfold hx_dv0h at hv
  split at hv
  · rename_i hf
    obtain rfl := Nat.eq_of_beq_eq_true hf
    split at hv
    · split at hv
      · rename_i hq
        simp only [Bool.and_eq_true] at hq
        have hL := H.laid hq.1.1 rfl
        have he := eqM_ok hq.1.2
        cases he
        have h2 := eqM_ok hq.2
        cases h2
        cases hv
        exact ex_dv0h _ _ _ _ _ _ _ _ _ _ _ _ _ _ _ _ _ _ _ _ (he_of hc) w hL
      · cases hv
    · cases hv
  · cases hv
def hkR00 : Hook := orHook hx_addw (orHook hx_subw (orHook hx_orw (orHook hx_andw (orHook hx_xorw (orHook hx_movw (orHook hx_imulw (orHook hx_negw (orHook hx_mulw (orHook hx_lshcw (orHook hx_lshiw (orHook hx_rshcw (orHook hx_rshiw (orHook hx_arshcw (orHook hx_arshiw (orHook hx_divw (orHook hx_addh (orHook hx_subh (orHook hx_orh (orHook hx_andh (orHook hx_xorh (orHook hx_movh (orHook hx_imulh (orHook hx_negh (orHook hx_mulh (orHook hx_lshch (orHook hx_lshih (orHook hx_rshch (orHook hx_rshih (orHook hx_arshch (orHook hx_arshih (orHook hx_divh (orHook doHook (doneHook)))))))))))))))))))))))))))))))))
theorem hkR00_ok : HookOk Tryd.prog hkR00 := orHook_ok hx_addw_ok (orHook_ok hx_subw_ok (orHook_ok hx_orw_ok (orHook_ok hx_andw_ok (orHook_ok hx_xorw_ok (orHook_ok hx_movw_ok (orHook_ok hx_imulw_ok (orHook_ok hx_negw_ok (orHook_ok hx_mulw_ok (orHook_ok hx_lshcw_ok (orHook_ok hx_lshiw_ok (orHook_ok hx_rshcw_ok (orHook_ok hx_rshiw_ok (orHook_ok hx_arshcw_ok (orHook_ok hx_arshiw_ok (orHook_ok hx_divw_ok (orHook_ok hx_addh_ok (orHook_ok hx_subh_ok (orHook_ok hx_orh_ok (orHook_ok hx_andh_ok (orHook_ok hx_xorh_ok (orHook_ok hx_movh_ok (orHook_ok hx_imulh_ok (orHook_ok hx_negh_ok (orHook_ok hx_mulh_ok (orHook_ok hx_lshch_ok (orHook_ok hx_lshih_ok (orHook_ok hx_rshch_ok (orHook_ok hx_rshih_ok (orHook_ok hx_arshch_ok (orHook_ok hx_arshih_ok (orHook_ok hx_divh_ok (orHook_ok doHook_ok (doneHook_ok)))))))))))))))))))))))))))))))))
def hkR01 : Hook := orHook hx_addw (orHook hx_subw (orHook hx_orw (orHook hx_andw (orHook hx_xorw (orHook hx_movw (orHook hx_imulw (orHook hx_negw (orHook hx_mulw (orHook hx_lshcw (orHook hx_lshiw (orHook hx_rshcw (orHook hx_rshiw (orHook hx_arshcw (orHook hx_arshiw (orHook hx_divw (orHook hx_addh (orHook hx_subh (orHook hx_orh (orHook hx_andh (orHook hx_xorh (orHook hx_movh (orHook hx_imulh (orHook hx_negh (orHook hx_mulh (orHook hx_lshch (orHook hx_lshih (orHook hx_rshch (orHook hx_rshih (orHook hx_arshch (orHook hx_arshih (orHook hx_dv0h (orHook doHook (doneHook)))))))))))))))))))))))))))))))))
theorem hkR01_ok : HookOk Tryd.prog hkR01 := orHook_ok hx_addw_ok (orHook_ok hx_subw_ok (orHook_ok hx_orw_ok (orHook_ok hx_andw_ok (orHook_ok hx_xorw_ok (orHook_ok hx_movw_ok (orHook_ok hx_imulw_ok (orHook_ok hx_negw_ok (orHook_ok hx_mulw_ok (orHook_ok hx_lshcw_ok (orHook_ok hx_lshiw_ok (orHook_ok hx_rshcw_ok (orHook_ok hx_rshiw_ok (orHook_ok hx_arshcw_ok (orHook_ok hx_arshiw_ok (orHook_ok hx_divw_ok (orHook_ok hx_addh_ok (orHook_ok hx_subh_ok (orHook_ok hx_orh_ok (orHook_ok hx_andh_ok (orHook_ok hx_xorh_ok (orHook_ok hx_movh_ok (orHook_ok hx_imulh_ok (orHook_ok hx_negh_ok (orHook_ok hx_mulh_ok (orHook_ok hx_lshch_ok (orHook_ok hx_lshih_ok (orHook_ok hx_rshch_ok (orHook_ok hx_rshih_ok (orHook_ok hx_arshch_ok (orHook_ok hx_arshih_ok (orHook_ok hx_dv0h_ok (orHook_ok doHook_ok (doneHook_ok)))))))))))))))))))))))))))))))))
def hkR11 : Hook := orHook hx_addw (orHook hx_subw (orHook hx_orw (orHook hx_andw (orHook hx_xorw (orHook hx_movw (orHook hx_imulw (orHook hx_negw (orHook hx_mulw (orHook hx_lshcw (orHook hx_lshiw (orHook hx_rshcw (orHook hx_rshiw (orHook hx_arshcw (orHook hx_arshiw (orHook hx_dv0w (orHook hx_addh (orHook hx_subh (orHook hx_orh (orHook hx_andh (orHook hx_xorh (orHook hx_movh (orHook hx_imulh (orHook hx_negh (orHook hx_mulh (orHook hx_lshch (orHook hx_lshih (orHook hx_rshch (orHook hx_rshih (orHook hx_arshch (orHook hx_arshih (orHook hx_dv0h (orHook doHook (doneHook)))))))))))))))))))))))))))))))))
theorem hkR11_ok : HookOk Tryd.prog hkR11 := orHook_ok hx_addw_ok (orHook_ok hx_subw_ok (orHook_ok hx_orw_ok (orHook_ok hx_andw_ok (orHook_ok hx_xorw_ok (orHook_ok hx_movw_ok (orHook_ok hx_imulw_ok (orHook_ok hx_negw_ok (orHook_ok hx_mulw_ok (orHook_ok hx_lshcw_ok (orHook_ok hx_lshiw_ok (orHook_ok hx_rshcw_ok (orHook_ok hx_rshiw_ok (orHook_ok hx_arshcw_ok (orHook_ok hx_arshiw_ok (orHook_ok hx_dv0w_ok (orHook_ok hx_addh_ok (orHook_ok hx_subh_ok (orHook_ok hx_orh_ok (orHook_ok hx_andh_ok (orHook_ok hx_xorh_ok (orHook_ok hx_movh_ok (orHook_ok hx_imulh_ok (orHook_ok hx_negh_ok (orHook_ok hx_mulh_ok (orHook_ok hx_lshch_ok (orHook_ok hx_lshih_ok (orHook_ok hx_rshch_ok (orHook_ok hx_rshih_ok (orHook_ok hx_arshch_ok (orHook_ok hx_arshih_ok (orHook_ok hx_dv0h_ok (orHook_ok doHook_ok (doneHook_ok)))))))))))))))))))))))))))))))))
end Go.Proofs.YtbaiokfjoglmiaaDoor.Ex
end
section
namespace Go.Proofs.YtbaiokfjoglmiaaDoor.Ex
open Go Go.RowKit
def crOrc (bw bh : Bool) : Orc := fun f t (x : List Value) =>
  if Nat.beq f 11 then
    (if Nat.beq t 85 || Nat.beq t 133 || Nat.beq t 147 || Nat.beq t 172 || Nat.beq t 182 then some (.bool false)
     else if Nat.beq t 159 then (match (x[10]? : Option Value) with | some (Value.bool true) => some (.bool bw) | _ => some (.bool bh))
     else none)
  else none
def cr00Cs (a b : Int) : Cs := [inU a, inU b, (b2i ((IntKind.wrap .u64 (a + b)) != N (aluS 0 true (BitVec.ofInt 64 a) (BitVec.ofInt 64 b))), 0), inU a, inU b, (b2i ((subI .u64 a b) != N (aluS 16 true (BitVec.ofInt 64 a) (BitVec.ofInt 64 b))), 0), inU a, inU b, (b2i ((orI2 .u64 a b) != N (aluS 64 true (BitVec.ofInt 64 a) (BitVec.ofInt 64 b))), 0), inU a, inU b, (b2i ((andI .u64 a b) != N (aluS 80 true (BitVec.ofInt 64 a) (BitVec.ofInt 64 b))), 0), inU a, inU b, (b2i ((xorI .u64 a b) != N (aluS 160 true (BitVec.ofInt 64 a) (BitVec.ofInt 64 b))), 0), inU a, inU b, (b2i ((b) != N (aluS 176 true (BitVec.ofInt 64 a) (BitVec.ofInt 64 b))), 0), inU a, inU b, (b2i ((IntKind.u64.wrap (a * b)) != N (aluS 32 true (BitVec.ofInt 64 a) (BitVec.ofInt 64 b))), 0), inU a, inU b, (b2i ((subI .u64 0 a) != N (aluS 128 true (BitVec.ofInt 64 a) (BitVec.ofInt 64 b))), 0), inU a, inU b, (b2i ((IntKind.u64.wrap (a * b)) != N (aluS 32 true (BitVec.ofInt 64 a) (BitVec.ofInt 64 b))), 0), inU a, inU b, (b2i (eqD [.int .i64 11, .int .i64 4, .int .i64 0, .int .i64 0, .bool true, .bool false, .int .i64 0, .int .i64 0, .int .i32 0, .int .i32 0, .int .i64 (IntKind.i64.wrap (Int.tmod b 32))] [.int .i64 11, .int .i64 4, .int .i64 0, .int .i64 0, .bool true, .bool false, .int .i64 0, .int .i64 0, .int .i32 0, .int .i32 0, .int .i64 (IntKind.i64.wrap (Int.tmod b 32))]), 1), (b2i (decide ((IntKind.i64.wrap (Int.tmod b 32)) ≥ 0)), 1), (b2i (decide ((IntKind.i64.wrap (Int.tmod b 32)) < 32)), 1), inU a, inU (IntKind.u64.wrap (IntKind.i64.wrap (Int.tmod b 32))), inU a, inU b, (b2i ((N (aluS 96 true (BitVec.ofInt 64 a) (BitVec.ofInt 64 b))) != N (aluS 96 true (BitVec.ofInt 64 a) (BitVec.ofInt 64 b))), 0), inU a, inU (Int.tmod b 32), (b2i ((N (aluS 96 true (BitVec.ofInt 64 a) (BitVec.ofInt 64 (IntKind.u64.wrap (IntKind.i64.wrap (Int.tmod b 32)))))) != N (aluS 96 true (BitVec.ofInt 64 a) (BitVec.ofInt 64 (Int.tmod b 32)))), 0), inU a, inU b, (b2i (eqD [.int .i64 11, .int .i64 5, .int .i64 0, .int .i64 0, .bool true, .bool false, .int .i64 0, .int .i64 0, .int .i32 0, .int .i32 0, .int .i64 (IntKind.i64.wrap (Int.tmod b 32))] [.int .i64 11, .int .i64 5, .int .i64 0, .int .i64 0, .bool true, .bool false, .int .i64 0, .int .i64 0, .int .i32 0, .int .i32 0, .int .i64 (IntKind.i64.wrap (Int.tmod b 32))]), 1), (b2i (decide ((IntKind.i64.wrap (Int.tmod b 32)) ≥ 0)), 1), (b2i (decide ((IntKind.i64.wrap (Int.tmod b 32)) < 32)), 1), inU a, inU (IntKind.u64.wrap (IntKind.i64.wrap (Int.tmod b 32))), inU a, inU b, (b2i ((N (aluS 112 true (BitVec.ofInt 64 a) (BitVec.ofInt 64 b))) != N (aluS 112 true (BitVec.ofInt 64 a) (BitVec.ofInt 64 b))), 0), inU a, inU (Int.tmod b 32), (b2i ((N (aluS 112 true (BitVec.ofInt 64 a) (BitVec.ofInt 64 (IntKind.u64.wrap (IntKind.i64.wrap (Int.tmod b 32)))))) != N (aluS 112 true (BitVec.ofInt 64 a) (BitVec.ofInt 64 (Int.tmod b 32)))), 0), inU a, inU b, (b2i (eqD [.int .i64 11, .int .i64 7, .int .i64 0, .int .i64 0, .bool true, .bool false, .int .i64 0, .int .i64 0, .int .i32 0, .int .i32 0, .int .i64 (IntKind.i64.wrap (Int.tmod b 32))] [.int .i64 11, .int .i64 7, .int .i64 0, .int .i64 0, .bool true, .bool false, .int .i64 0, .int .i64 0, .int .i32 0, .int .i32 0, .int .i64 (IntKind.i64.wrap (Int.tmod b 32))]), 1), (b2i (decide ((IntKind.i64.wrap (Int.tmod b 32)) ≥ 0)), 1), (b2i (decide ((IntKind.i64.wrap (Int.tmod b 32)) < 32)), 1), inU a, inU (IntKind.u64.wrap (IntKind.i64.wrap (Int.tmod b 32))), inU a, inU b, (b2i ((N (aluS 192 true (BitVec.ofInt 64 a) (BitVec.ofInt 64 b))) != N (aluS 192 true (BitVec.ofInt 64 a) (BitVec.ofInt 64 b))), 0), inU a, inU (Int.tmod b 32), (b2i ((N (aluS 192 true (BitVec.ofInt 64 a) (BitVec.ofInt 64 (IntKind.u64.wrap (IntKind.i64.wrap (Int.tmod b 32)))))) != N (aluS 192 true (BitVec.ofInt 64 a) (BitVec.ofInt 64 (Int.tmod b 32)))), 0), (b2i (decide (b ≤ 0)), 0), (b2i (b == 0), 0), (b2i (decide (b ≤ 0)), 0), (b2i (decide (b = 0)), 0), (b2i (decide (b = 0)), 0), inU 0, inU b, (b2i (N (aluS 176 true (BitVec.ofInt 64 0) (BitVec.ofInt 64 b)) == 0), 0), inU a, inU b, (b2i ((IntKind.u64.wrap (Int.tdiv a b)) != N (aluS 48 true (BitVec.ofInt 64 a) (BitVec.ofInt 64 b))), 0), inU a, inU b, (b2i ((Int.tmod a b) != N (aluS 144 true (BitVec.ofInt 64 a) (BitVec.ofInt 64 b))), 0), inU a, inU b, (b2i ((lowH (IntKind.u64.wrap (IntKind.wrap .u32 ((IntKind.u32.wrap a) + (IntKind.u32.wrap b))))) != N (aluS 0 false (BitVec.ofInt 64 a) (BitVec.ofInt 64 b))), 0), inU a, inU b, (b2i ((lowH (IntKind.u64.wrap (subI .u32 (IntKind.u32.wrap a) (IntKind.u32.wrap b)))) != N (aluS 16 false (BitVec.ofInt 64 a) (BitVec.ofInt 64 b))), 0), inU a, inU b, (b2i ((lowH (IntKind.u64.wrap (orI2 .u32 (IntKind.u32.wrap a) (IntKind.u32.wrap b)))) != N (aluS 64 false (BitVec.ofInt 64 a) (BitVec.ofInt 64 b))), 0), inU a, inU b, (b2i ((lowH (IntKind.u64.wrap (andI .u32 (IntKind.u32.wrap a) (IntKind.u32.wrap b)))) != N (aluS 80 false (BitVec.ofInt 64 a) (BitVec.ofInt 64 b))), 0), inU a, inU b, (b2i ((lowH (IntKind.u64.wrap (xorI .u32 (IntKind.u32.wrap a) (IntKind.u32.wrap b)))) != N (aluS 160 false (BitVec.ofInt 64 a) (BitVec.ofInt 64 b))), 0), inU a, inU b, (b2i ((lowH (b)) != N (aluS 176 false (BitVec.ofInt 64 a) (BitVec.ofInt 64 b))), 0), inU a, inU b, (b2i ((lowH (IntKind.u64.wrap (a * b))) != N (aluS 32 false (BitVec.ofInt 64 a) (BitVec.ofInt 64 b))), 0), inU a, inU b, (b2i ((lowH (IntKind.u64.wrap (subI .u32 (IntKind.u32.wrap 0) (IntKind.u32.wrap a)))) != N (aluS 128 false (BitVec.ofInt 64 a) (BitVec.ofInt 64 b))), 0), inU a, inU b, (b2i ((lowH (IntKind.u64.wrap (lowH a * lowH b))) != N (aluS 32 false (BitVec.ofInt 64 a) (BitVec.ofInt 64 b))), 0), inU a, inU b, (b2i (eqD [.int .i64 11, .int .i64 4, .int .i64 0, .int .i64 0, .bool false, .bool false, .int .i64 0, .int .i64 0, .int .i32 0, .int .i32 0, .int .i64 (IntKind.i64.wrap (Int.tmod b 32))] [.int .i64 11, .int .i64 4, .int .i64 0, .int .i64 0, .bool false, .bool false, .int .i64 0, .int .i64 0, .int .i32 0, .int .i32 0, .int .i64 (IntKind.i64.wrap (Int.tmod b 32))]), 1), (b2i (decide ((IntKind.i64.wrap (Int.tmod b 32)) ≥ 0)), 1), (b2i (decide ((IntKind.i64.wrap (Int.tmod b 32)) < 32)), 1), inU a, inU (IntKind.u64.wrap (IntKind.i64.wrap (Int.tmod b 32))), inU a, inU b, (b2i ((lowH (N (aluS 96 false (BitVec.ofInt 64 a) (BitVec.ofInt 64 b)))) != N (aluS 96 false (BitVec.ofInt 64 a) (BitVec.ofInt 64 b))), 0), inU a, inU (Int.tmod b 32), (b2i ((lowH (N (aluS 96 false (BitVec.ofInt 64 a) (BitVec.ofInt 64 (IntKind.u64.wrap (IntKind.i64.wrap (Int.tmod b 32))))))) != N (aluS 96 false (BitVec.ofInt 64 a) (BitVec.ofInt 64 (Int.tmod b 32)))), 0), inU a, inU b, (b2i (eqD [.int .i64 11, .int .i64 5, .int .i64 0, .int .i64 0, .bool false, .bool false, .int .i64 0, .int .i64 0, .int .i32 0, .int .i32 0, .int .i64 (IntKind.i64.wrap (Int.tmod b 32))] [.int .i64 11, .int .i64 5, .int .i64 0, .int .i64 0, .bool false, .bool false, .int .i64 0, .int .i64 0, .int .i32 0, .int .i32 0, .int .i64 (IntKind.i64.wrap (Int.tmod b 32))]), 1), (b2i (decide ((IntKind.i64.wrap (Int.tmod b 32)) ≥ 0)), 1), (b2i (decide ((IntKind.i64.wrap (Int.tmod b 32)) < 32)), 1), inU a, inU (IntKind.u64.wrap (IntKind.i64.wrap (Int.tmod b 32))), inU a, inU b, (b2i ((lowH (N (aluS 112 false (BitVec.ofInt 64 a) (BitVec.ofInt 64 b)))) != N (aluS 112 false (BitVec.ofInt 64 a) (BitVec.ofInt 64 b))), 0), inU a, inU (Int.tmod b 32), (b2i ((lowH (N (aluS 112 false (BitVec.ofInt 64 a) (BitVec.ofInt 64 (IntKind.u64.wrap (IntKind.i64.wrap (Int.tmod b 32))))))) != N (aluS 112 false (BitVec.ofInt 64 a) (BitVec.ofInt 64 (Int.tmod b 32)))), 0), inU a, inU b, (b2i (eqD [.int .i64 11, .int .i64 7, .int .i64 0, .int .i64 0, .bool false, .bool false, .int .i64 0, .int .i64 0, .int .i32 0, .int .i32 0, .int .i64 (IntKind.i64.wrap (Int.tmod b 32))] [.int .i64 11, .int .i64 7, .int .i64 0, .int .i64 0, .bool false, .bool false, .int .i64 0, .int .i64 0, .int .i32 0, .int .i32 0, .int .i64 (IntKind.i64.wrap (Int.tmod b 32))]), 1), (b2i (decide ((IntKind.i64.wrap (Int.tmod b 32)) ≥ 0)), 1), (b2i (decide ((IntKind.i64.wrap (Int.tmod b 32)) < 32)), 1), inU a, inU (IntKind.u64.wrap (IntKind.i64.wrap (Int.tmod b 32))), inU a, inU b, (b2i ((lowH (N (aluS 192 false (BitVec.ofInt 64 a) (BitVec.ofInt 64 b)))) != N (aluS 192 false (BitVec.ofInt 64 a) (BitVec.ofInt 64 b))), 0), inU a, inU (Int.tmod b 32), (b2i ((lowH (N (aluS 192 false (BitVec.ofInt 64 a) (BitVec.ofInt 64 (IntKind.u64.wrap (IntKind.i64.wrap (Int.tmod b 32))))))) != N (aluS 192 false (BitVec.ofInt 64 a) (BitVec.ofInt 64 (Int.tmod b 32)))), 0), (b2i (decide ((lowH b) ≤ lowH 0)), 0), (b2i (decide ((lowH b) = 0)), 0), (b2i (decide ((lowH b) = 0)), 0), inU 0, inU b, (b2i (N (aluS 176 false (BitVec.ofInt 64 0) (BitVec.ofInt 64 b)) == 0), 0), inU a, inU b, (b2i ((IntKind.u64.wrap (Int.tdiv (orI2 .u64 (IntKind.u64.wrap (lowH 0 * 2 ^ 32)) (lowH a)) (lowH b))) != N (aluS 48 false (BitVec.ofInt 64 a) (BitVec.ofInt 64 b))), 0), inU a, inU b, (b2i ((Int.tmod (orI2 .u64 (IntKind.u64.wrap (lowH 0 * 2 ^ 32)) (lowH a)) (lowH b)) != N (aluS 144 false (BitVec.ofInt 64 a) (BitVec.ofInt 64 b))), 0)]
set_option maxHeartbeats 0 in
set_option maxRecDepth 1000000 in
theorem cr00_run (r0 r1 r2 r3 r4 r5 r6 r7 r8 r9 r10 r11 r12 r13 r14 r15 a b : Int) (z s c o : Bool) (pc : Int) (he : (cr00Cs a b).map (·.1) = (cr00Cs a b).map (·.2)) (w : World) (hL : Laid h12 w) : Calls Tryd.prog 11 #[stA r0 r1 r2 r3 r4 r5 r6 r7 r8 r9 r10 r11 r12 r13 r14 r15 z s c o pc, .int .u64 a, .int .u64 b] w fun e w' => e = .returned (.bool true) ∧ Gr w w' :=
  rk12 hkR00_ok (crOrc false false) (cs := cr00Cs a b) rfl (by kernel_rfl) (by kernel_rfl) he w hL
def cr01Cs (a b : Int) : Cs := [inU a, inU b, (b2i ((IntKind.wrap .u64 (a + b)) != N (aluS 0 true (BitVec.ofInt 64 a) (BitVec.ofInt 64 b))), 0), inU a, inU b, (b2i ((subI .u64 a b) != N (aluS 16 true (BitVec.ofInt 64 a) (BitVec.ofInt 64 b))), 0), inU a, inU b, (b2i ((orI2 .u64 a b) != N (aluS 64 true (BitVec.ofInt 64 a) (BitVec.ofInt 64 b))), 0), inU a, inU b, (b2i ((andI .u64 a b) != N (aluS 80 true (BitVec.ofInt 64 a) (BitVec.ofInt 64 b))), 0), inU a, inU b, (b2i ((xorI .u64 a b) != N (aluS 160 true (BitVec.ofInt 64 a) (BitVec.ofInt 64 b))), 0), inU a, inU b, (b2i ((b) != N (aluS 176 true (BitVec.ofInt 64 a) (BitVec.ofInt 64 b))), 0), inU a, inU b, (b2i ((IntKind.u64.wrap (a * b)) != N (aluS 32 true (BitVec.ofInt 64 a) (BitVec.ofInt 64 b))), 0), inU a, inU b, (b2i ((subI .u64 0 a) != N (aluS 128 true (BitVec.ofInt 64 a) (BitVec.ofInt 64 b))), 0), inU a, inU b, (b2i ((IntKind.u64.wrap (a * b)) != N (aluS 32 true (BitVec.ofInt 64 a) (BitVec.ofInt 64 b))), 0), inU a, inU b, (b2i (eqD [.int .i64 11, .int .i64 4, .int .i64 0, .int .i64 0, .bool true, .bool false, .int .i64 0, .int .i64 0, .int .i32 0, .int .i32 0, .int .i64 (IntKind.i64.wrap (Int.tmod b 32))] [.int .i64 11, .int .i64 4, .int .i64 0, .int .i64 0, .bool true, .bool false, .int .i64 0, .int .i64 0, .int .i32 0, .int .i32 0, .int .i64 (IntKind.i64.wrap (Int.tmod b 32))]), 1), (b2i (decide ((IntKind.i64.wrap (Int.tmod b 32)) ≥ 0)), 1), (b2i (decide ((IntKind.i64.wrap (Int.tmod b 32)) < 32)), 1), inU a, inU (IntKind.u64.wrap (IntKind.i64.wrap (Int.tmod b 32))), inU a, inU b, (b2i ((N (aluS 96 true (BitVec.ofInt 64 a) (BitVec.ofInt 64 b))) != N (aluS 96 true (BitVec.ofInt 64 a) (BitVec.ofInt 64 b))), 0), inU a, inU (Int.tmod b 32), (b2i ((N (aluS 96 true (BitVec.ofInt 64 a) (BitVec.ofInt 64 (IntKind.u64.wrap (IntKind.i64.wrap (Int.tmod b 32)))))) != N (aluS 96 true (BitVec.ofInt 64 a) (BitVec.ofInt 64 (Int.tmod b 32)))), 0), inU a, inU b, (b2i (eqD [.int .i64 11, .int .i64 5, .int .i64 0, .int .i64 0, .bool true, .bool false, .int .i64 0, .int .i64 0, .int .i32 0, .int .i32 0, .int .i64 (IntKind.i64.wrap (Int.tmod b 32))] [.int .i64 11, .int .i64 5, .int .i64 0, .int .i64 0, .bool true, .bool false, .int .i64 0, .int .i64 0, .int .i32 0, .int .i32 0, .int .i64 (IntKind.i64.wrap (Int.tmod b 32))]), 1), (b2i (decide ((IntKind.i64.wrap (Int.tmod b 32)) ≥ 0)), 1), (b2i (decide ((IntKind.i64.wrap (Int.tmod b 32)) < 32)), 1), inU a, inU (IntKind.u64.wrap (IntKind.i64.wrap (Int.tmod b 32))), inU a, inU b, (b2i ((N (aluS 112 true (BitVec.ofInt 64 a) (BitVec.ofInt 64 b))) != N (aluS 112 true (BitVec.ofInt 64 a) (BitVec.ofInt 64 b))), 0), inU a, inU (Int.tmod b 32), (b2i ((N (aluS 112 true (BitVec.ofInt 64 a) (BitVec.ofInt 64 (IntKind.u64.wrap (IntKind.i64.wrap (Int.tmod b 32)))))) != N (aluS 112 true (BitVec.ofInt 64 a) (BitVec.ofInt 64 (Int.tmod b 32)))), 0), inU a, inU b, (b2i (eqD [.int .i64 11, .int .i64 7, .int .i64 0, .int .i64 0, .bool true, .bool false, .int .i64 0, .int .i64 0, .int .i32 0, .int .i32 0, .int .i64 (IntKind.i64.wrap (Int.tmod b 32))] [.int .i64 11, .int .i64 7, .int .i64 0, .int .i64 0, .bool true, .bool false, .int .i64 0, .int .i64 0, .int .i32 0, .int .i32 0, .int .i64 (IntKind.i64.wrap (Int.tmod b 32))]), 1), (b2i (decide ((IntKind.i64.wrap (Int.tmod b 32)) ≥ 0)), 1), (b2i (decide ((IntKind.i64.wrap (Int.tmod b 32)) < 32)), 1), inU a, inU (IntKind.u64.wrap (IntKind.i64.wrap (Int.tmod b 32))), inU a, inU b, (b2i ((N (aluS 192 true (BitVec.ofInt 64 a) (BitVec.ofInt 64 b))) != N (aluS 192 true (BitVec.ofInt 64 a) (BitVec.ofInt 64 b))), 0), inU a, inU (Int.tmod b 32), (b2i ((N (aluS 192 true (BitVec.ofInt 64 a) (BitVec.ofInt 64 (IntKind.u64.wrap (IntKind.i64.wrap (Int.tmod b 32)))))) != N (aluS 192 true (BitVec.ofInt 64 a) (BitVec.ofInt 64 (Int.tmod b 32)))), 0), (b2i (decide (b ≤ 0)), 0), (b2i (b == 0), 0), (b2i (decide (b ≤ 0)), 0), (b2i (decide (b = 0)), 0), (b2i (decide (b = 0)), 0), inU 0, inU b, (b2i (N (aluS 176 true (BitVec.ofInt 64 0) (BitVec.ofInt 64 b)) == 0), 0), inU a, inU b, (b2i ((IntKind.u64.wrap (Int.tdiv a b)) != N (aluS 48 true (BitVec.ofInt 64 a) (BitVec.ofInt 64 b))), 0), inU a, inU b, (b2i ((Int.tmod a b) != N (aluS 144 true (BitVec.ofInt 64 a) (BitVec.ofInt 64 b))), 0), inU a, inU b, (b2i ((lowH (IntKind.u64.wrap (IntKind.wrap .u32 ((IntKind.u32.wrap a) + (IntKind.u32.wrap b))))) != N (aluS 0 false (BitVec.ofInt 64 a) (BitVec.ofInt 64 b))), 0), inU a, inU b, (b2i ((lowH (IntKind.u64.wrap (subI .u32 (IntKind.u32.wrap a) (IntKind.u32.wrap b)))) != N (aluS 16 false (BitVec.ofInt 64 a) (BitVec.ofInt 64 b))), 0), inU a, inU b, (b2i ((lowH (IntKind.u64.wrap (orI2 .u32 (IntKind.u32.wrap a) (IntKind.u32.wrap b)))) != N (aluS 64 false (BitVec.ofInt 64 a) (BitVec.ofInt 64 b))), 0), inU a, inU b, (b2i ((lowH (IntKind.u64.wrap (andI .u32 (IntKind.u32.wrap a) (IntKind.u32.wrap b)))) != N (aluS 80 false (BitVec.ofInt 64 a) (BitVec.ofInt 64 b))), 0), inU a, inU b, (b2i ((lowH (IntKind.u64.wrap (xorI .u32 (IntKind.u32.wrap a) (IntKind.u32.wrap b)))) != N (aluS 160 false (BitVec.ofInt 64 a) (BitVec.ofInt 64 b))), 0), inU a, inU b, (b2i ((lowH (b)) != N (aluS 176 false (BitVec.ofInt 64 a) (BitVec.ofInt 64 b))), 0), inU a, inU b, (b2i ((lowH (IntKind.u64.wrap (a * b))) != N (aluS 32 false (BitVec.ofInt 64 a) (BitVec.ofInt 64 b))), 0), inU a, inU b, (b2i ((lowH (IntKind.u64.wrap (subI .u32 (IntKind.u32.wrap 0) (IntKind.u32.wrap a)))) != N (aluS 128 false (BitVec.ofInt 64 a) (BitVec.ofInt 64 b))), 0), inU a, inU b, (b2i ((lowH (IntKind.u64.wrap (lowH a * lowH b))) != N (aluS 32 false (BitVec.ofInt 64 a) (BitVec.ofInt 64 b))), 0), inU a, inU b, (b2i (eqD [.int .i64 11, .int .i64 4, .int .i64 0, .int .i64 0, .bool false, .bool false, .int .i64 0, .int .i64 0, .int .i32 0, .int .i32 0, .int .i64 (IntKind.i64.wrap (Int.tmod b 32))] [.int .i64 11, .int .i64 4, .int .i64 0, .int .i64 0, .bool false, .bool false, .int .i64 0, .int .i64 0, .int .i32 0, .int .i32 0, .int .i64 (IntKind.i64.wrap (Int.tmod b 32))]), 1), (b2i (decide ((IntKind.i64.wrap (Int.tmod b 32)) ≥ 0)), 1), (b2i (decide ((IntKind.i64.wrap (Int.tmod b 32)) < 32)), 1), inU a, inU (IntKind.u64.wrap (IntKind.i64.wrap (Int.tmod b 32))), inU a, inU b, (b2i ((lowH (N (aluS 96 false (BitVec.ofInt 64 a) (BitVec.ofInt 64 b)))) != N (aluS 96 false (BitVec.ofInt 64 a) (BitVec.ofInt 64 b))), 0), inU a, inU (Int.tmod b 32), (b2i ((lowH (N (aluS 96 false (BitVec.ofInt 64 a) (BitVec.ofInt 64 (IntKind.u64.wrap (IntKind.i64.wrap (Int.tmod b 32))))))) != N (aluS 96 false (BitVec.ofInt 64 a) (BitVec.ofInt 64 (Int.tmod b 32)))), 0), inU a, inU b, (b2i (eqD [.int .i64 11, .int .i64 5, .int .i64 0, .int .i64 0, .bool false, .bool false, .int .i64 0, .int .i64 0, .int .i32 0, .int .i32 0, .int .i64 (IntKind.i64.wrap (Int.tmod b 32))] [.int .i64 11, .int .i64 5, .int .i64 0, .int .i64 0, .bool false, .bool false, .int .i64 0, .int .i64 0, .int .i32 0, .int .i32 0, .int .i64 (IntKind.i64.wrap (Int.tmod b 32))]), 1), (b2i (decide ((IntKind.i64.wrap (Int.tmod b 32)) ≥ 0)), 1), (b2i (decide ((IntKind.i64.wrap (Int.tmod b 32)) < 32)), 1), inU a, inU (IntKind.u64.wrap (IntKind.i64.wrap (Int.tmod b 32))), inU a, inU b, (b2i ((lowH (N (aluS 112 false (BitVec.ofInt 64 a) (BitVec.ofInt 64 b)))) != N (aluS 112 false (BitVec.ofInt 64 a) (BitVec.ofInt 64 b))), 0), inU a, inU (Int.tmod b 32), (b2i ((lowH (N (aluS 112 false (BitVec.ofInt 64 a) (BitVec.ofInt 64 (IntKind.u64.wrap (IntKind.i64.wrap (Int.tmod b 32))))))) != N (aluS 112 false (BitVec.ofInt 64 a) (BitVec.ofInt 64 (Int.tmod b 32)))), 0), inU a, inU b, (b2i (eqD [.int .i64 11, .int .i64 7, .int .i64 0, .int .i64 0, .bool false, .bool false, .int .i64 0, .int .i64 0, .int .i32 0, .int .i32 0, .int .i64 (IntKind.i64.wrap (Int.tmod b 32))] [.int .i64 11, .int .i64 7, .int .i64 0, .int .i64 0, .bool false, .bool false, .int .i64 0, .int .i64 0, .int .i32 0, .int .i32 0, .int .i64 (IntKind.i64.wrap (Int.tmod b 32))]), 1), (b2i (decide ((IntKind.i64.wrap (Int.tmod b 32)) ≥ 0)), 1), (b2i (decide ((IntKind.i64.wrap (Int.tmod b 32)) < 32)), 1), inU a, inU (IntKind.u64.wrap (IntKind.i64.wrap (Int.tmod b 32))), inU a, inU b, (b2i ((lowH (N (aluS 192 false (BitVec.ofInt 64 a) (BitVec.ofInt 64 b)))) != N (aluS 192 false (BitVec.ofInt 64 a) (BitVec.ofInt 64 b))), 0), inU a, inU (Int.tmod b 32), (b2i ((lowH (N (aluS 192 false (BitVec.ofInt 64 a) (BitVec.ofInt 64 (IntKind.u64.wrap (IntKind.i64.wrap (Int.tmod b 32))))))) != N (aluS 192 false (BitVec.ofInt 64 a) (BitVec.ofInt 64 (Int.tmod b 32)))), 0), (b2i (decide ((lowH b) ≤ lowH 0)), 1), inU 0, inU b, (b2i (N (aluS 176 false (BitVec.ofInt 64 0) (BitVec.ofInt 64 b)) == 0), 1)]
set_option maxHeartbeats 0 in
set_option maxRecDepth 1000000 in
theorem cr01_run (r0 r1 r2 r3 r4 r5 r6 r7 r8 r9 r10 r11 r12 r13 r14 r15 a b : Int) (z s c o : Bool) (pc : Int) (he : (cr01Cs a b).map (·.1) = (cr01Cs a b).map (·.2)) (w : World) (hL : Laid h12 w) : Calls Tryd.prog 11 #[stA r0 r1 r2 r3 r4 r5 r6 r7 r8 r9 r10 r11 r12 r13 r14 r15 z s c o pc, .int .u64 a, .int .u64 b] w fun e w' => e = .returned (.bool true) ∧ Gr w w' :=
  rk12 hkR01_ok (crOrc false true) (cs := cr01Cs a b) rfl (by kernel_rfl) (by kernel_rfl) he w hL
def cr11Cs (a b : Int) : Cs := [inU a, inU b, (b2i ((IntKind.wrap .u64 (a + b)) != N (aluS 0 true (BitVec.ofInt 64 a) (BitVec.ofInt 64 b))), 0), inU a, inU b, (b2i ((subI .u64 a b) != N (aluS 16 true (BitVec.ofInt 64 a) (BitVec.ofInt 64 b))), 0), inU a, inU b, (b2i ((orI2 .u64 a b) != N (aluS 64 true (BitVec.ofInt 64 a) (BitVec.ofInt 64 b))), 0), inU a, inU b, (b2i ((andI .u64 a b) != N (aluS 80 true (BitVec.ofInt 64 a) (BitVec.ofInt 64 b))), 0), inU a, inU b, (b2i ((xorI .u64 a b) != N (aluS 160 true (BitVec.ofInt 64 a) (BitVec.ofInt 64 b))), 0), inU a, inU b, (b2i ((b) != N (aluS 176 true (BitVec.ofInt 64 a) (BitVec.ofInt 64 b))), 0), inU a, inU b, (b2i ((IntKind.u64.wrap (a * b)) != N (aluS 32 true (BitVec.ofInt 64 a) (BitVec.ofInt 64 b))), 0), inU a, inU b, (b2i ((subI .u64 0 a) != N (aluS 128 true (BitVec.ofInt 64 a) (BitVec.ofInt 64 b))), 0), inU a, inU b, (b2i ((IntKind.u64.wrap (a * b)) != N (aluS 32 true (BitVec.ofInt 64 a) (BitVec.ofInt 64 b))), 0), inU a, inU b, (b2i (eqD [.int .i64 11, .int .i64 4, .int .i64 0, .int .i64 0, .bool true, .bool false, .int .i64 0, .int .i64 0, .int .i32 0, .int .i32 0, .int .i64 (IntKind.i64.wrap (Int.tmod b 32))] [.int .i64 11, .int .i64 4, .int .i64 0, .int .i64 0, .bool true, .bool false, .int .i64 0, .int .i64 0, .int .i32 0, .int .i32 0, .int .i64 (IntKind.i64.wrap (Int.tmod b 32))]), 1), (b2i (decide ((IntKind.i64.wrap (Int.tmod b 32)) ≥ 0)), 1), (b2i (decide ((IntKind.i64.wrap (Int.tmod b 32)) < 32)), 1), inU a, inU (IntKind.u64.wrap (IntKind.i64.wrap (Int.tmod b 32))), inU a, inU b, (b2i ((N (aluS 96 true (BitVec.ofInt 64 a) (BitVec.ofInt 64 b))) != N (aluS 96 true (BitVec.ofInt 64 a) (BitVec.ofInt 64 b))), 0), inU a, inU (Int.tmod b 32), (b2i ((N (aluS 96 true (BitVec.ofInt 64 a) (BitVec.ofInt 64 (IntKind.u64.wrap (IntKind.i64.wrap (Int.tmod b 32)))))) != N (aluS 96 true (BitVec.ofInt 64 a) (BitVec.ofInt 64 (Int.tmod b 32)))), 0), inU a, inU b, (b2i (eqD [.int .i64 11, .int .i64 5, .int .i64 0, .int .i64 0, .bool true, .bool false, .int .i64 0, .int .i64 0, .int .i32 0, .int .i32 0, .int .i64 (IntKind.i64.wrap (Int.tmod b 32))] [.int .i64 11, .int .i64 5, .int .i64 0, .int .i64 0, .bool true, .bool false, .int .i64 0, .int .i64 0, .int .i32 0, .int .i32 0, .int .i64 (IntKind.i64.wrap (Int.tmod b 32))]), 1), (b2i (decide ((IntKind.i64.wrap (Int.tmod b 32)) ≥ 0)), 1), (b2i (decide ((IntKind.i64.wrap (Int.tmod b 32)) < 32)), 1), inU a, inU (IntKind.u64.wrap (IntKind.i64.wrap (Int.tmod b 32))), inU a, inU b, (b2i ((N (aluS 112 true (BitVec.ofInt 64 a) (BitVec.ofInt 64 b))) != N (aluS 112 true (BitVec.ofInt 64 a) (BitVec.ofInt 64 b))), 0), inU a, inU (Int.tmod b 32), (b2i ((N (aluS 112 true (BitVec.ofInt 64 a) (BitVec.ofInt 64 (IntKind.u64.wrap (IntKind.i64.wrap (Int.tmod b 32)))))) != N (aluS 112 true (BitVec.ofInt 64 a) (BitVec.ofInt 64 (Int.tmod b 32)))), 0), inU a, inU b, (b2i (eqD [.int .i64 11, .int .i64 7, .int .i64 0, .int .i64 0, .bool true, .bool false, .int .i64 0, .int .i64 0, .int .i32 0, .int .i32 0, .int .i64 (IntKind.i64.wrap (Int.tmod b 32))] [.int .i64 11, .int .i64 7, .int .i64 0, .int .i64 0, .bool true, .bool false, .int .i64 0, .int .i64 0, .int .i32 0, .int .i32 0, .int .i64 (IntKind.i64.wrap (Int.tmod b 32))]), 1), (b2i (decide ((IntKind.i64.wrap (Int.tmod b 32)) ≥ 0)), 1), (b2i (decide ((IntKind.i64.wrap (Int.tmod b 32)) < 32)), 1), inU a, inU (IntKind.u64.wrap (IntKind.i64.wrap (Int.tmod b 32))), inU a, inU b, (b2i ((N (aluS 192 true (BitVec.ofInt 64 a) (BitVec.ofInt 64 b))) != N (aluS 192 true (BitVec.ofInt 64 a) (BitVec.ofInt 64 b))), 0), inU a, inU (Int.tmod b 32), (b2i ((N (aluS 192 true (BitVec.ofInt 64 a) (BitVec.ofInt 64 (IntKind.u64.wrap (IntKind.i64.wrap (Int.tmod b 32)))))) != N (aluS 192 true (BitVec.ofInt 64 a) (BitVec.ofInt 64 (Int.tmod b 32)))), 0), (b2i (decide (b ≤ 0)), 1), inU 0, inU b, (b2i (N (aluS 176 true (BitVec.ofInt 64 0) (BitVec.ofInt 64 b)) == 0), 1), inU a, inU b, (b2i ((lowH (IntKind.u64.wrap (IntKind.wrap .u32 ((IntKind.u32.wrap a) + (IntKind.u32.wrap b))))) != N (aluS 0 false (BitVec.ofInt 64 a) (BitVec.ofInt 64 b))), 0), inU a, inU b, (b2i ((lowH (IntKind.u64.wrap (subI .u32 (IntKind.u32.wrap a) (IntKind.u32.wrap b)))) != N (aluS 16 false (BitVec.ofInt 64 a) (BitVec.ofInt 64 b))), 0), inU a, inU b, (b2i ((lowH (IntKind.u64.wrap (orI2 .u32 (IntKind.u32.wrap a) (IntKind.u32.wrap b)))) != N (aluS 64 false (BitVec.ofInt 64 a) (BitVec.ofInt 64 b))), 0), inU a, inU b, (b2i ((lowH (IntKind.u64.wrap (andI .u32 (IntKind.u32.wrap a) (IntKind.u32.wrap b)))) != N (aluS 80 false (BitVec.ofInt 64 a) (BitVec.ofInt 64 b))), 0), inU a, inU b, (b2i ((lowH (IntKind.u64.wrap (xorI .u32 (IntKind.u32.wrap a) (IntKind.u32.wrap b)))) != N (aluS 160 false (BitVec.ofInt 64 a) (BitVec.ofInt 64 b))), 0), inU a, inU b, (b2i ((lowH (b)) != N (aluS 176 false (BitVec.ofInt 64 a) (BitVec.ofInt 64 b))), 0), inU a, inU b, (b2i ((lowH (IntKind.u64.wrap (a * b))) != N (aluS 32 false (BitVec.ofInt 64 a) (BitVec.ofInt 64 b))), 0), inU a, inU b, (b2i ((lowH (IntKind.u64.wrap (subI .u32 (IntKind.u32.wrap 0) (IntKind.u32.wrap a)))) != N (aluS 128 false (BitVec.ofInt 64 a) (BitVec.ofInt 64 b))), 0), inU a, inU b, (b2i ((lowH (IntKind.u64.wrap (lowH a * lowH b))) != N (aluS 32 false (BitVec.ofInt 64 a) (BitVec.ofInt 64 b))), 0), inU a, inU b, (b2i (eqD [.int .i64 11, .int .i64 4, .int .i64 0, .int .i64 0, .bool false, .bool false, .int .i64 0, .int .i64 0, .int .i32 0, .int .i32 0, .int .i64 (IntKind.i64.wrap (Int.tmod b 32))] [.int .i64 11, .int .i64 4, .int .i64 0, .int .i64 0, .bool false, .bool false, .int .i64 0, .int .i64 0, .int .i32 0, .int .i32 0, .int .i64 (IntKind.i64.wrap (Int.tmod b 32))]), 1), (b2i (decide ((IntKind.i64.wrap (Int.tmod b 32)) ≥ 0)), 1), (b2i (decide ((IntKind.i64.wrap (Int.tmod b 32)) < 32)), 1), inU a, inU (IntKind.u64.wrap (IntKind.i64.wrap (Int.tmod b 32))), inU a, inU b, (b2i ((lowH (N (aluS 96 false (BitVec.ofInt 64 a) (BitVec.ofInt 64 b)))) != N (aluS 96 false (BitVec.ofInt 64 a) (BitVec.ofInt 64 b))), 0), inU a, inU (Int.tmod b 32), (b2i ((lowH (N (aluS 96 false (BitVec.ofInt 64 a) (BitVec.ofInt 64 (IntKind.u64.wrap (IntKind.i64.wrap (Int.tmod b 32))))))) != N (aluS 96 false (BitVec.ofInt 64 a) (BitVec.ofInt 64 (Int.tmod b 32)))), 0), inU a, inU b, (b2i (eqD [.int .i64 11, .int .i64 5, .int .i64 0, .int .i64 0, .bool false, .bool false, .int .i64 0, .int .i64 0, .int .i32 0, .int .i32 0, .int .i64 (IntKind.i64.wrap (Int.tmod b 32))] [.int .i64 11, .int .i64 5, .int .i64 0, .int .i64 0, .bool false, .bool false, .int .i64 0, .int .i64 0, .int .i32 0, .int .i32 0, .int .i64 (IntKind.i64.wrap (Int.tmod b 32))]), 1), (b2i (decide ((IntKind.i64.wrap (Int.tmod b 32)) ≥ 0)), 1), (b2i (decide ((IntKind.i64.wrap (Int.tmod b 32)) < 32)), 1), inU a, inU (IntKind.u64.wrap (IntKind.i64.wrap (Int.tmod b 32))), inU a, inU b, (b2i ((lowH (N (aluS 112 false (BitVec.ofInt 64 a) (BitVec.ofInt 64 b)))) != N (aluS 112 false (BitVec.ofInt 64 a) (BitVec.ofInt 64 b))), 0), inU a, inU (Int.tmod b 32), (b2i ((lowH (N (aluS 112 false (BitVec.ofInt 64 a) (BitVec.ofInt 64 (IntKind.u64.wrap (IntKind.i64.wrap (Int.tmod b 32))))))) != N (aluS 112 false (BitVec.ofInt 64 a) (BitVec.ofInt 64 (Int.tmod b 32)))), 0), inU a, inU b, (b2i (eqD [.int .i64 11, .int .i64 7, .int .i64 0, .int .i64 0, .bool false, .bool false, .int .i64 0, .int .i64 0, .int .i32 0, .int .i32 0, .int .i64 (IntKind.i64.wrap (Int.tmod b 32))] [.int .i64 11, .int .i64 7, .int .i64 0, .int .i64 0, .bool false, .bool false, .int .i64 0, .int .i64 0, .int .i32 0, .int .i32 0, .int .i64 (IntKind.i64.wrap (Int.tmod b 32))]), 1), (b2i (decide ((IntKind.i64.wrap (Int.tmod b 32)) ≥ 0)), 1), (b2i (decide ((IntKind.i64.wrap (Int.tmod b 32)) < 32)), 1), inU a, inU (IntKind.u64.wrap (IntKind.i64.wrap (Int.tmod b 32))), inU a, inU b, (b2i ((lowH (N (aluS 192 false (BitVec.ofInt 64 a) (BitVec.ofInt 64 b)))) != N (aluS 192 false (BitVec.ofInt 64 a) (BitVec.ofInt 64 b))), 0), inU a, inU (Int.tmod b 32), (b2i ((lowH (N (aluS 192 false (BitVec.ofInt 64 a) (BitVec.ofInt 64 (IntKind.u64.wrap (IntKind.i64.wrap (Int.tmod b 32))))))) != N (aluS 192 false (BitVec.ofInt 64 a) (BitVec.ofInt 64 (Int.tmod b 32)))), 0), (b2i (decide ((lowH b) ≤ lowH 0)), 1), inU 0, inU b, (b2i (N (aluS 176 false (BitVec.ofInt 64 0) (BitVec.ofInt 64 b)) == 0), 1)]
set_option maxHeartbeats 0 in
set_option maxRecDepth 1000000 in
theorem cr11_run (r0 r1 r2 r3 r4 r5 r6 r7 r8 r9 r10 r11 r12 r13 r14 r15 a b : Int) (z s c o : Bool) (pc : Int) (he : (cr11Cs a b).map (·.1) = (cr11Cs a b).map (·.2)) (w : World) (hL : Laid h12 w) : Calls Tryd.prog 11 #[stA r0 r1 r2 r3 r4 r5 r6 r7 r8 r9 r10 r11 r12 r13 r14 r15 z s c o pc, .int .u64 a, .int .u64 b] w fun e w' => e = .returned (.bool true) ∧ Gr w w' :=
  rk12 hkR11_ok (crOrc true true) (cs := cr11Cs a b) rfl (by kernel_rfl) (by kernel_rfl) he w hL
end Go.Proofs.YtbaiokfjoglmiaaDoor.Ex
end
section
namespace Go.Proofs.YtbaiokfjoglmiaaDoor.Ex
open Go Go.RowKit
theorem csT {e : Bool} {l : Cs} (h : e = true) (r : l.map (·.1) = l.map (·.2)) : (((b2i e, 1) :: l : Cs)).map (·.1) = (((b2i e, 1) :: l : Cs)).map (·.2) := by
  subst h; exact congrArg (List.cons _) r
theorem csF {e : Bool} {l : Cs} (h : e = false) (r : l.map (·.1) = l.map (·.2)) : (((b2i e, 0) :: l : Cs)).map (·.1) = (((b2i e, 0) :: l : Cs)).map (·.2) := by
  subst h; exact congrArg (List.cons _) r
theorem csU {x : Int} {l : Cs} (h : (inU x).1 = 1) (r : l.map (·.1) = l.map (·.2)) : ((inU x :: l : Cs)).map (·.1) = ((inU x :: l : Cs)).map (·.2) := by
  show (inU x).1 :: l.map (·.1) = (inU x).2 :: l.map (·.2)
  rw [r, h]; rfl
theorem csN : (([] : Cs)).map (·.1) = (([] : Cs)).map (·.2) := rfl
theorem ne_f {x y : Int} (h : x = y) : (x != y) = false := by rw [h]; exact bne_self_eq_false y
theorem o64_N32 (v : BitVec 32) : BitVec.ofInt 64 (N v) = v.setWidth 64 := by
  apply BitVec.eq_of_toNat_eq
  have h := v.isLt
  rw [BitVec.toNat_setWidth, Nat.mod_eq_of_lt (by omega)]
  show (BitVec.ofInt 64 ((v.toNat : Nat) : Int)).toNat = _
  rw [BitVec.ofInt_natCast, BitVec.toNat_ofNat, Nat.mod_eq_of_lt (by omega)]
theorem o32_N64 (v : BitVec 64) : BitVec.ofInt 32 (N v) = v.setWidth 32 := by
  apply BitVec.eq_of_toNat_eq
  rw [BitVec.toNat_setWidth]
  show (BitVec.ofInt 32 ((v.toNat : Nat) : Int)).toNat = _
  rw [BitVec.ofInt_natCast, BitVec.toNat_ofNat]
theorem o64_u64 (x : Int) : BitVec.ofInt 64 (IntKind.u64.wrap x) = BitVec.ofInt 64 x := by rw [u64_wrap, ofInt_N]
theorem o32_u32 (x : Int) : BitVec.ofInt 32 (IntKind.u32.wrap x) = BitVec.ofInt 32 x := by rw [u32_wrap, ofInt_N]
theorem o32_u64 (x : Int) : BitVec.ofInt 32 (IntKind.u64.wrap x) = BitVec.ofInt 32 x := by
  rw [u64_wrap, o32_N64]
  apply BitVec.eq_of_toNat_eq
  rw [BitVec.toNat_setWidth, BitVec.toNat_ofInt, BitVec.toNat_ofInt]
  omega
theorem lowH_N (x : Int) : lowH x = N ((BitVec.ofInt 32 x).setWidth 64) := by
  unfold lowH
  rw [u32_wrap, u64_wrap, o64_N32]
theorem o32_lowH (x : Int) : BitVec.ofInt 32 (lowH x) = BitVec.ofInt 32 x := by
  unfold lowH
  rw [o32_u64, o32_u32]
theorem o32_nat (v : BitVec 32) : BitVec.ofInt 32 ((v.toNat : Nat) : Int) = v := by rw [BitVec.ofInt_natCast, BitVec.ofNat_toNat, BitVec.setWidth_eq]
theorem o64_nat (v : BitVec 64) : BitVec.ofInt 64 ((v.toNat : Nat) : Int) = v := by rw [BitVec.ofInt_natCast, BitVec.ofNat_toNat, BitVec.setWidth_eq]
theorem low_N64 (x : BitVec 32) : lowH (N (x.setWidth 64)) = N (x.setWidth 64) := by
  rw [lowH_N, o32_N64]
  congr 1
  apply BitVec.eq_of_toNat_eq
  have h := x.isLt
  simp only [BitVec.toNat_setWidth]
  omega
theorem tdiv_N {a b : BitVec 64} : Int.tdiv (N a) (N b) = N (a / b) := by
  show Int.tdiv ((a.toNat : Nat) : Int) ((b.toNat : Nat) : Int) = ((a / b).toNat : Int)
  rw [BitVec.toNat_udiv, Int.ofNat_tdiv]
theorem tmod_N {a b : BitVec 64} : Int.tmod (N a) (N b) = N (a % b) := by
  show Int.tmod ((a.toNat : Nat) : Int) ((b.toNat : Nat) : Int) = ((a % b).toNat : Int)
  rw [BitVec.toNat_umod, Int.ofNat_tmod]
theorem wrap_N (v : BitVec 64) : IntKind.u64.wrap (N v) = N v := by rw [u64_wrap, ofInt_N]
theorem m_addw (va vb : BitVec 64) : (IntKind.wrap .u64 ((N va) + (N vb))) = N (aluS 0 true (BitVec.ofInt 64 (N va)) (BitVec.ofInt 64 (N vb))) := by
  rw [ofInt_N, ofInt_N]
  show _ = N (va + vb)
  rw [u64_wrap]
  refine congrArg N ?_
  rw [BitVec.ofInt_add, ofInt_N, ofInt_N]
theorem m_subw (va vb : BitVec 64) : (subI .u64 (N va) (N vb)) = N (aluS 16 true (BitVec.ofInt 64 (N va)) (BitVec.ofInt 64 (N vb))) := by
  rw [ofInt_N, ofInt_N]
  show _ = N (va - vb)
  unfold subI
  rw [u64_wrap]
  refine congrArg N ?_
  rw [ofInt_sub', ofInt_N, ofInt_N]
theorem m_orw (va vb : BitVec 64) : (orI2 .u64 (N va) (N vb)) = N (aluS 64 true (BitVec.ofInt 64 (N va)) (BitVec.ofInt 64 (N vb))) := by
  rw [ofInt_N, ofInt_N]
  show _ = N (va ||| vb)
  unfold orI2
  rw [u64_wrap]
  refine congrArg N ?_
  show BitVec.ofInt 64 (((BitVec.ofInt 64 (N va) ||| BitVec.ofInt 64 (N vb)).toNat : Nat) : Int) = _
  rw [o64_nat, ofInt_N, ofInt_N]
theorem m_andw (va vb : BitVec 64) : (andI .u64 (N va) (N vb)) = N (aluS 80 true (BitVec.ofInt 64 (N va)) (BitVec.ofInt 64 (N vb))) := by
  rw [ofInt_N, ofInt_N]
  show _ = N (va &&& vb)
  unfold andI
  rw [u64_wrap]
  refine congrArg N ?_
  show BitVec.ofInt 64 (((BitVec.ofInt 64 (N va) &&& BitVec.ofInt 64 (N vb)).toNat : Nat) : Int) = _
  rw [o64_nat, ofInt_N, ofInt_N]
theorem m_xorw (va vb : BitVec 64) : (xorI .u64 (N va) (N vb)) = N (aluS 160 true (BitVec.ofInt 64 (N va)) (BitVec.ofInt 64 (N vb))) := by
  rw [ofInt_N, ofInt_N]
  show _ = N (va ^^^ vb)
  unfold xorI
  rw [u64_wrap]
  refine congrArg N ?_
  show BitVec.ofInt 64 (((BitVec.ofInt 64 (N va) ^^^ BitVec.ofInt 64 (N vb)).toNat : Nat) : Int) = _
  rw [o64_nat, ofInt_N, ofInt_N]
theorem m_movw (va vb : BitVec 64) : ((N vb)) = N (aluS 176 true (BitVec.ofInt 64 (N va)) (BitVec.ofInt 64 (N vb))) := by
  rw [ofInt_N, ofInt_N]
  rfl
theorem m_imulw (va vb : BitVec 64) : (IntKind.u64.wrap ((N va) * (N vb))) = N (aluS 32 true (BitVec.ofInt 64 (N va)) (BitVec.ofInt 64 (N vb))) := by
  rw [ofInt_N, ofInt_N]
  show _ = N (va * vb)
  rw [u64_wrap]
  refine congrArg N ?_
  rw [BitVec.ofInt_mul, ofInt_N, ofInt_N]
theorem m_negw (va vb : BitVec 64) : (subI .u64 0 (N va)) = N (aluS 128 true (BitVec.ofInt 64 (N va)) (BitVec.ofInt 64 (N vb))) := by
  rw [ofInt_N, ofInt_N]
  show _ = N (-va)
  unfold subI
  rw [u64_wrap]
  refine congrArg N ?_
  rw [ofInt_sub', ofInt_N]
  exact BitVec.zero_sub va
theorem m_mulw (va vb : BitVec 64) : (IntKind.u64.wrap ((N va) * (N vb))) = N (aluS 32 true (BitVec.ofInt 64 (N va)) (BitVec.ofInt 64 (N vb))) := by
  rw [ofInt_N, ofInt_N]
  show _ = N (va * vb)
  rw [u64_wrap]
  refine congrArg N ?_
  rw [BitVec.ofInt_mul, ofInt_N, ofInt_N]
theorem m_addh (va vb : BitVec 64) : (lowH (IntKind.u64.wrap (IntKind.wrap .u32 ((IntKind.u32.wrap (N va)) + (IntKind.u32.wrap (N vb)))))) = N (aluS 0 false (BitVec.ofInt 64 (N va)) (BitVec.ofInt 64 (N vb))) := by
  rw [ofInt_N, ofInt_N]
  show _ = N ((va.setWidth 32 + vb.setWidth 32).setWidth 64)
  rw [lowH_N]
  refine congrArg (fun z : BitVec 32 => N (z.setWidth 64)) ?_
  rw [o32_u64, o32_u32, BitVec.ofInt_add, o32_u32, o32_u32, o32_N64, o32_N64]
theorem m_subh (va vb : BitVec 64) : (lowH (IntKind.u64.wrap (subI .u32 (IntKind.u32.wrap (N va)) (IntKind.u32.wrap (N vb))))) = N (aluS 16 false (BitVec.ofInt 64 (N va)) (BitVec.ofInt 64 (N vb))) := by
  rw [ofInt_N, ofInt_N]
  show _ = N ((va.setWidth 32 - vb.setWidth 32).setWidth 64)
  unfold subI
  rw [lowH_N]
  refine congrArg (fun z : BitVec 32 => N (z.setWidth 64)) ?_
  rw [o32_u64, o32_u32, ofInt_sub', o32_u32, o32_u32, o32_N64, o32_N64]
theorem m_orh (va vb : BitVec 64) : (lowH (IntKind.u64.wrap (orI2 .u32 (IntKind.u32.wrap (N va)) (IntKind.u32.wrap (N vb))))) = N (aluS 64 false (BitVec.ofInt 64 (N va)) (BitVec.ofInt 64 (N vb))) := by
  rw [ofInt_N, ofInt_N]
  show _ = N ((va.setWidth 32 ||| vb.setWidth 32).setWidth 64)
  unfold orI2
  rw [lowH_N]
  refine congrArg (fun z : BitVec 32 => N (z.setWidth 64)) ?_
  rw [o32_u64, o32_u32]
  show BitVec.ofInt 32 (((BitVec.ofInt 32 (IntKind.u32.wrap (N va)) ||| BitVec.ofInt 32 (IntKind.u32.wrap (N vb))).toNat : Nat) : Int) = _
  rw [o32_nat, o32_u32, o32_u32, o32_N64, o32_N64]
theorem m_andh (va vb : BitVec 64) : (lowH (IntKind.u64.wrap (andI .u32 (IntKind.u32.wrap (N va)) (IntKind.u32.wrap (N vb))))) = N (aluS 80 false (BitVec.ofInt 64 (N va)) (BitVec.ofInt 64 (N vb))) := by
  rw [ofInt_N, ofInt_N]
  show _ = N ((va.setWidth 32 &&& vb.setWidth 32).setWidth 64)
  unfold andI
  rw [lowH_N]
  refine congrArg (fun z : BitVec 32 => N (z.setWidth 64)) ?_
  rw [o32_u64, o32_u32]
  show BitVec.ofInt 32 (((BitVec.ofInt 32 (IntKind.u32.wrap (N va)) &&& BitVec.ofInt 32 (IntKind.u32.wrap (N vb))).toNat : Nat) : Int) = _
  rw [o32_nat, o32_u32, o32_u32, o32_N64, o32_N64]
theorem m_xorh (va vb : BitVec 64) : (lowH (IntKind.u64.wrap (xorI .u32 (IntKind.u32.wrap (N va)) (IntKind.u32.wrap (N vb))))) = N (aluS 160 false (BitVec.ofInt 64 (N va)) (BitVec.ofInt 64 (N vb))) := by
  rw [ofInt_N, ofInt_N]
  show _ = N ((va.setWidth 32 ^^^ vb.setWidth 32).setWidth 64)
  unfold xorI
  rw [lowH_N]
  refine congrArg (fun z : BitVec 32 => N (z.setWidth 64)) ?_
  rw [o32_u64, o32_u32]
  show BitVec.ofInt 32 (((BitVec.ofInt 32 (IntKind.u32.wrap (N va)) ^^^ BitVec.ofInt 32 (IntKind.u32.wrap (N vb))).toNat : Nat) : Int) = _
  rw [o32_nat, o32_u32, o32_u32, o32_N64, o32_N64]
theorem m_movh (va vb : BitVec 64) : (lowH ((N vb))) = N (aluS 176 false (BitVec.ofInt 64 (N va)) (BitVec.ofInt 64 (N vb))) := by
  rw [ofInt_N, ofInt_N]
  show _ = N ((vb.setWidth 32).setWidth 64)
  rw [lowH_N]
  refine congrArg (fun z : BitVec 32 => N (z.setWidth 64)) ?_
  exact o32_N64 vb
theorem m_imulh (va vb : BitVec 64) : (lowH (IntKind.u64.wrap ((N va) * (N vb)))) = N (aluS 32 false (BitVec.ofInt 64 (N va)) (BitVec.ofInt 64 (N vb))) := by
  rw [ofInt_N, ofInt_N]
  show _ = N ((va.setWidth 32 * vb.setWidth 32).setWidth 64)
  rw [lowH_N]
  refine congrArg (fun z : BitVec 32 => N (z.setWidth 64)) ?_
  rw [o32_u64, BitVec.ofInt_mul, o32_N64, o32_N64]
theorem m_negh (va vb : BitVec 64) : (lowH (IntKind.u64.wrap (subI .u32 (IntKind.u32.wrap 0) (IntKind.u32.wrap (N va))))) = N (aluS 128 false (BitVec.ofInt 64 (N va)) (BitVec.ofInt 64 (N vb))) := by
  rw [ofInt_N, ofInt_N]
  show _ = N ((-(va.setWidth 32)).setWidth 64)
  unfold subI
  rw [lowH_N]
  refine congrArg (fun z : BitVec 32 => N (z.setWidth 64)) ?_
  rw [o32_u64, o32_u32, ofInt_sub', o32_u32, o32_u32, o32_N64]
  exact BitVec.zero_sub _
theorem m_mulh (va vb : BitVec 64) : (lowH (IntKind.u64.wrap (lowH (N va) * lowH (N vb)))) = N (aluS 32 false (BitVec.ofInt 64 (N va)) (BitVec.ofInt 64 (N vb))) := by
  rw [ofInt_N, ofInt_N]
  show _ = N ((va.setWidth 32 * vb.setWidth 32).setWidth 64)
  rw [lowH_N]
  refine congrArg (fun z : BitVec 32 => N (z.setWidth 64)) ?_
  rw [o32_u64, BitVec.ofInt_mul, o32_lowH, o32_lowH, o32_N64, o32_N64]
theorem imm_N (vb : BitVec 64) : IntKind.u64.wrap (IntKind.i64.wrap (Int.tmod (N vb) 32)) = Int.tmod (N vb) 32 ∧ IntKind.i64.wrap (Int.tmod (N vb) 32) = Int.tmod (N vb) 32 ∧ 0 ≤ Int.tmod (N vb) 32 ∧ Int.tmod (N vb) 32 < 32 := by
  have e : Int.tmod (N vb) 32 = ((vb.toNat % 32 : Nat) : Int) := by
    show Int.tmod ((vb.toNat : Nat) : Int) ((32 : Nat) : Int) = _
    rw [Int.ofNat_tmod]
  have h1 : vb.toNat % 32 < 32 := Nat.mod_lt _ (by decide)
  rw [e]
  generalize vb.toNat % 32 = n at *
  have f1 : IntKind.i64.wrap (n : Int) = n := by
    have q : (n : Int) % 18446744073709551616 = n := Int.emod_eq_of_lt (by omega) (by omega)
    have f : decide ((n : Int) % 18446744073709551616 ≥ 9223372036854775808) = false := decide_eq_false (by omega)
    show (if (true && decide ((n : Int) % 18446744073709551616 ≥ 9223372036854775808)) = true then (n : Int) % 18446744073709551616 - 18446744073709551616 else (n : Int) % 18446744073709551616) = n
    rw [f, q]; rfl
  have f2 : IntKind.u64.wrap (n : Int) = n := by
    have q : (n : Int) % 18446744073709551616 = n := Int.emod_eq_of_lt (by omega) (by omega)
    show (if (false && decide ((n : Int) % 18446744073709551616 ≥ 9223372036854775808)) = true then (n : Int) % 18446744073709551616 - 18446744073709551616 else (n : Int) % 18446744073709551616) = n
    rw [q]; rfl
  rw [f1]
  exact ⟨f2, rfl, by omega, by omega⟩
theorem inU_small {x : Int} (h : 0 ≤ x) (h2 : x < 32) : (inU x).1 = 1 := by
  unfold inU
  rw [decide_eq_true ⟨h, by omega⟩]; rfl
theorem inU_wrap (x : Int) : (inU (IntKind.u64.wrap x)).1 = 1 := by rw [u64_wrap]; exact inU_N _
theorem low_alu (op : Int) (x y : BitVec 64) : lowH (N (aluS op false x y)) = N (aluS op false x y) := low_N64 _
theorem lowH_va (v : BitVec 64) : lowH (N v) = N ((v.setWidth 32).setWidth 64) := by rw [lowH_N, o32_N64]
theorem lowH_0 : lowH 0 = 0 := rfl
theorem all_va (v : BitVec 64) : orI2 .u64 (IntKind.u64.wrap (lowH 0 * 2 ^ 32)) (lowH (N v)) = N ((v.setWidth 32).setWidth 64) := by
  unfold orI2
  rw [u64_wrap, lowH_va]
  show N (BitVec.ofInt 64 (((BitVec.ofInt 64 (IntKind.u64.wrap (lowH 0 * 2 ^ 32)) ||| BitVec.ofInt 64 (N ((v.setWidth 32).setWidth 64))).toNat : Nat) : Int)) = _
  rw [o64_nat, ofInt_N]
  have e : BitVec.ofInt 64 (IntKind.u64.wrap (lowH 0 * 2 ^ 32)) = 0#64 := by decide
  rw [e, BitVec.zero_or]
theorem half_div (x y : BitVec 32) : x.setWidth 64 / y.setWidth 64 = (x / y).setWidth 64 := by
  apply BitVec.eq_of_toNat_eq
  have hx := x.isLt
  have hy := y.isLt
  have hd : x.toNat / y.toNat ≤ x.toNat := Nat.div_le_self _ _
  have e1 : x.toNat % 2 ^ 64 = x.toNat := Nat.mod_eq_of_lt (by omega)
  have e2 : y.toNat % 2 ^ 64 = y.toNat := Nat.mod_eq_of_lt (by omega)
  have e3 : (x.toNat / y.toNat) % 2 ^ 64 = x.toNat / y.toNat := Nat.mod_eq_of_lt (by omega)
  rw [BitVec.toNat_udiv, BitVec.toNat_setWidth, BitVec.toNat_setWidth, BitVec.toNat_setWidth, BitVec.toNat_udiv, e1, e2, e3]
theorem half_mod (x y : BitVec 32) : x.setWidth 64 % y.setWidth 64 = (x % y).setWidth 64 := by
  apply BitVec.eq_of_toNat_eq
  have hx := x.isLt
  have hy := y.isLt
  have hd : x.toNat % y.toNat ≤ x.toNat := Nat.mod_le _ _
  have e1 : x.toNat % 2 ^ 64 = x.toNat := Nat.mod_eq_of_lt (by omega)
  have e2 : y.toNat % 2 ^ 64 = y.toNat := Nat.mod_eq_of_lt (by omega)
  have e3 : (x.toNat % y.toNat) % 2 ^ 64 = x.toNat % y.toNat := Nat.mod_eq_of_lt (by omega)
  rw [BitVec.toNat_umod, BitVec.toNat_setWidth, BitVec.toNat_setWidth, BitVec.toNat_setWidth, BitVec.toNat_umod, e1, e2, e3]
theorem eqD_sh (al : Int) (wd : Bool) (x : Int) : eqD [.int .i64 11, .int .i64 al, .int .i64 0, .int .i64 0, .bool wd, .bool false, .int .i64 0, .int .i64 0, .int .i32 0, .int .i32 0, .int .i64 x] [.int .i64 11, .int .i64 al, .int .i64 0, .int .i64 0, .bool wd, .bool false, .int .i64 0, .int .i64 0, .int .i32 0, .int .i32 0, .int .i64 x] = true := by simp [eqD, eqW]
theorem cr00_all (va vb : BitVec 64) (hw : ¬ N vb = 0) (hh : ¬ lowH (N vb) = 0) : (cr00Cs (N va) (N vb)).map (·.1) = (cr00Cs (N va) (N vb)).map (·.2) := by
  obtain ⟨i1, i2, i3, i4⟩ := imm_N vb
  have u := inU_N va
  have u' := inU_N vb
  have md := inU_small i3 i4
  have im := inU_wrap (IntKind.i64.wrap (Int.tmod (N vb) 32))
  have ge : decide (IntKind.i64.wrap (Int.tmod (N vb) 32) ≥ 0) = true := by rw [i2]; exact decide_eq_true i3
  have lt : decide (IntKind.i64.wrap (Int.tmod (N vb) 32) < 32) = true := by rw [i2]; exact decide_eq_true i4
  have hv : 0 ≤ N vb := N_nonneg vb
  have hl : 0 ≤ lowH (N vb) := by rw [lowH_va]; exact N_nonneg _
  have mvw : (N (aluS 176 true (BitVec.ofInt 64 0) (BitVec.ofInt 64 (N vb))) == 0) = false := by
    rw [ofInt_N]; show (N vb == 0) = false; exact beq_eq_false_iff_ne.2 hw
  have mvh : (N (aluS 176 false (BitVec.ofInt 64 0) (BitVec.ofInt 64 (N vb))) == 0) = false := by
    rw [ofInt_N]; show (N ((vb.setWidth 32).setWidth 64) == 0) = false; rw [← lowH_va]; exact beq_eq_false_iff_ne.2 hh
  unfold cr00Cs
  exact (csU u (csU u' (csF (ne_f (m_addw va vb)) (csU u (csU u' (csF (ne_f (m_subw va vb)) (csU u (csU u' (csF (ne_f (m_orw va vb)) (csU u (csU u' (csF (ne_f (m_andw va vb)) (csU u (csU u' (csF (ne_f (m_xorw va vb)) (csU u (csU u' (csF (ne_f (m_movw va vb)) (csU u (csU u' (csF (ne_f (m_imulw va vb)) (csU u (csU u' (csF (ne_f (m_negw va vb)) (csU u (csU u' (csF (ne_f (m_mulw va vb)) (csU u (csU u' (csT (eqD_sh _ _ _) (csT ge (csT lt (csU u (csU im (csU u (csU u' (csF (ne_f rfl) (csU u (csU md (csF (ne_f (by rw [i1])) (csU u (csU u' (csT (eqD_sh _ _ _) (csT ge (csT lt (csU u (csU im (csU u (csU u' (csF (ne_f rfl) (csU u (csU md (csF (ne_f (by rw [i1])) (csU u (csU u' (csT (eqD_sh _ _ _) (csT ge (csT lt (csU u (csU im (csU u (csU u' (csF (ne_f rfl) (csU u (csU md (csF (ne_f (by rw [i1])) (csF (decide_eq_false (by omega)) (csF (beq_eq_false_iff_ne.2 hw) (csF (decide_eq_false (by omega)) (csF (decide_eq_false (by omega)) (csF (decide_eq_false (by omega)) (csU rfl (csU u' (csF mvw (csU u (csU u' (csF (ne_f (by rw [tdiv_N, wrap_N, ofInt_N, ofInt_N]; rfl)) (csU u (csU u' (csF (ne_f (by rw [tmod_N, ofInt_N, ofInt_N]; rfl)) (csU u (csU u' (csF (ne_f (m_addh va vb)) (csU u (csU u' (csF (ne_f (m_subh va vb)) (csU u (csU u' (csF (ne_f (m_orh va vb)) (csU u (csU u' (csF (ne_f (m_andh va vb)) (csU u (csU u' (csF (ne_f (m_xorh va vb)) (csU u (csU u' (csF (ne_f (m_movh va vb)) (csU u (csU u' (csF (ne_f (m_imulh va vb)) (csU u (csU u' (csF (ne_f (m_negh va vb)) (csU u (csU u' (csF (ne_f (m_mulh va vb)) (csU u (csU u' (csT (eqD_sh _ _ _) (csT ge (csT lt (csU u (csU im (csU u (csU u' (csF (ne_f (low_alu _ _ _)) (csU u (csU md (csF (ne_f (by rw [i1]; exact low_alu _ _ _)) (csU u (csU u' (csT (eqD_sh _ _ _) (csT ge (csT lt (csU u (csU im (csU u (csU u' (csF (ne_f (low_alu _ _ _)) (csU u (csU md (csF (ne_f (by rw [i1]; exact low_alu _ _ _)) (csU u (csU u' (csT (eqD_sh _ _ _) (csT ge (csT lt (csU u (csU im (csU u (csU u' (csF (ne_f (low_alu _ _ _)) (csU u (csU md (csF (ne_f (by rw [i1]; exact low_alu _ _ _)) (csF (decide_eq_false (by first | omega | (rw [lowH_0]; omega))) (csF (decide_eq_false (by first | omega | (rw [lowH_0]; omega))) (csF (decide_eq_false (by first | omega | (rw [lowH_0]; omega))) (csU rfl (csU u' (csF mvh (csU u (csU u' (csF (ne_f (by rw [all_va, lowH_va, tdiv_N, wrap_N, half_div, ofInt_N, ofInt_N]; rfl)) (csU u (csU u' (csF (ne_f (by rw [all_va, lowH_va, tmod_N, half_mod, ofInt_N, ofInt_N]; rfl)) csN))))))))))))))))))))))))))))))))))))))))))))))))))))))))))))))))))))))))))))))))))))))))))))))))))))))))))))))))))))))))))))))))))))))))))))))))))))))))))))))
theorem cr01_all (va vb : BitVec 64) (hw : ¬ N vb = 0) (hh : lowH (N vb) = 0) : (cr01Cs (N va) (N vb)).map (·.1) = (cr01Cs (N va) (N vb)).map (·.2) := by
  obtain ⟨i1, i2, i3, i4⟩ := imm_N vb
  have u := inU_N va
  have u' := inU_N vb
  have md := inU_small i3 i4
  have im := inU_wrap (IntKind.i64.wrap (Int.tmod (N vb) 32))
  have ge : decide (IntKind.i64.wrap (Int.tmod (N vb) 32) ≥ 0) = true := by rw [i2]; exact decide_eq_true i3
  have lt : decide (IntKind.i64.wrap (Int.tmod (N vb) 32) < 32) = true := by rw [i2]; exact decide_eq_true i4
  have hv : 0 ≤ N vb := N_nonneg vb
  have hl : 0 ≤ lowH (N vb) := by rw [lowH_va]; exact N_nonneg _
  have mvw : (N (aluS 176 true (BitVec.ofInt 64 0) (BitVec.ofInt 64 (N vb))) == 0) = false := by
    rw [ofInt_N]; show (N vb == 0) = false; exact beq_eq_false_iff_ne.2 hw
  have mvh : (N (aluS 176 false (BitVec.ofInt 64 0) (BitVec.ofInt 64 (N vb))) == 0) = true := by
    rw [ofInt_N]; show (N ((vb.setWidth 32).setWidth 64) == 0) = true; rw [← lowH_va]; exact beq_iff_eq.2 hh
  unfold cr01Cs
  exact (csU u (csU u' (csF (ne_f (m_addw va vb)) (csU u (csU u' (csF (ne_f (m_subw va vb)) (csU u (csU u' (csF (ne_f (m_orw va vb)) (csU u (csU u' (csF (ne_f (m_andw va vb)) (csU u (csU u' (csF (ne_f (m_xorw va vb)) (csU u (csU u' (csF (ne_f (m_movw va vb)) (csU u (csU u' (csF (ne_f (m_imulw va vb)) (csU u (csU u' (csF (ne_f (m_negw va vb)) (csU u (csU u' (csF (ne_f (m_mulw va vb)) (csU u (csU u' (csT (eqD_sh _ _ _) (csT ge (csT lt (csU u (csU im (csU u (csU u' (csF (ne_f rfl) (csU u (csU md (csF (ne_f (by rw [i1])) (csU u (csU u' (csT (eqD_sh _ _ _) (csT ge (csT lt (csU u (csU im (csU u (csU u' (csF (ne_f rfl) (csU u (csU md (csF (ne_f (by rw [i1])) (csU u (csU u' (csT (eqD_sh _ _ _) (csT ge (csT lt (csU u (csU im (csU u (csU u' (csF (ne_f rfl) (csU u (csU md (csF (ne_f (by rw [i1])) (csF (decide_eq_false (by omega)) (csF (beq_eq_false_iff_ne.2 hw) (csF (decide_eq_false (by omega)) (csF (decide_eq_false (by omega)) (csF (decide_eq_false (by omega)) (csU rfl (csU u' (csF mvw (csU u (csU u' (csF (ne_f (by rw [tdiv_N, wrap_N, ofInt_N, ofInt_N]; rfl)) (csU u (csU u' (csF (ne_f (by rw [tmod_N, ofInt_N, ofInt_N]; rfl)) (csU u (csU u' (csF (ne_f (m_addh va vb)) (csU u (csU u' (csF (ne_f (m_subh va vb)) (csU u (csU u' (csF (ne_f (m_orh va vb)) (csU u (csU u' (csF (ne_f (m_andh va vb)) (csU u (csU u' (csF (ne_f (m_xorh va vb)) (csU u (csU u' (csF (ne_f (m_movh va vb)) (csU u (csU u' (csF (ne_f (m_imulh va vb)) (csU u (csU u' (csF (ne_f (m_negh va vb)) (csU u (csU u' (csF (ne_f (m_mulh va vb)) (csU u (csU u' (csT (eqD_sh _ _ _) (csT ge (csT lt (csU u (csU im (csU u (csU u' (csF (ne_f (low_alu _ _ _)) (csU u (csU md (csF (ne_f (by rw [i1]; exact low_alu _ _ _)) (csU u (csU u' (csT (eqD_sh _ _ _) (csT ge (csT lt (csU u (csU im (csU u (csU u' (csF (ne_f (low_alu _ _ _)) (csU u (csU md (csF (ne_f (by rw [i1]; exact low_alu _ _ _)) (csU u (csU u' (csT (eqD_sh _ _ _) (csT ge (csT lt (csU u (csU im (csU u (csU u' (csF (ne_f (low_alu _ _ _)) (csU u (csU md (csF (ne_f (by rw [i1]; exact low_alu _ _ _)) (csT (decide_eq_true (by rw [lowH_0]; omega)) (csU rfl (csU u' (csT mvh csN))))))))))))))))))))))))))))))))))))))))))))))))))))))))))))))))))))))))))))))))))))))))))))))))))))))))))))))))))))))))))))))))))))))))))))))))))))))
theorem cr11_all (va vb : BitVec 64) (hw : N vb = 0) (hh : lowH (N vb) = 0) : (cr11Cs (N va) (N vb)).map (·.1) = (cr11Cs (N va) (N vb)).map (·.2) := by
  obtain ⟨i1, i2, i3, i4⟩ := imm_N vb
  have u := inU_N va
  have u' := inU_N vb
  have md := inU_small i3 i4
  have im := inU_wrap (IntKind.i64.wrap (Int.tmod (N vb) 32))
  have ge : decide (IntKind.i64.wrap (Int.tmod (N vb) 32) ≥ 0) = true := by rw [i2]; exact decide_eq_true i3
  have lt : decide (IntKind.i64.wrap (Int.tmod (N vb) 32) < 32) = true := by rw [i2]; exact decide_eq_true i4
  have hv : 0 ≤ N vb := N_nonneg vb
  have hl : 0 ≤ lowH (N vb) := by rw [lowH_va]; exact N_nonneg _
  have mvw : (N (aluS 176 true (BitVec.ofInt 64 0) (BitVec.ofInt 64 (N vb))) == 0) = true := by
    rw [ofInt_N]; show (N vb == 0) = true; exact beq_iff_eq.2 hw
  have mvh : (N (aluS 176 false (BitVec.ofInt 64 0) (BitVec.ofInt 64 (N vb))) == 0) = true := by
    rw [ofInt_N]; show (N ((vb.setWidth 32).setWidth 64) == 0) = true; rw [← lowH_va]; exact beq_iff_eq.2 hh
  unfold cr11Cs
  exact (csU u (csU u' (csF (ne_f (m_addw va vb)) (csU u (csU u' (csF (ne_f (m_subw va vb)) (csU u (csU u' (csF (ne_f (m_orw va vb)) (csU u (csU u' (csF (ne_f (m_andw va vb)) (csU u (csU u' (csF (ne_f (m_xorw va vb)) (csU u (csU u' (csF (ne_f (m_movw va vb)) (csU u (csU u' (csF (ne_f (m_imulw va vb)) (csU u (csU u' (csF (ne_f (m_negw va vb)) (csU u (csU u' (csF (ne_f (m_mulw va vb)) (csU u (csU u' (csT (eqD_sh _ _ _) (csT ge (csT lt (csU u (csU im (csU u (csU u' (csF (ne_f rfl) (csU u (csU md (csF (ne_f (by rw [i1])) (csU u (csU u' (csT (eqD_sh _ _ _) (csT ge (csT lt (csU u (csU im (csU u (csU u' (csF (ne_f rfl) (csU u (csU md (csF (ne_f (by rw [i1])) (csU u (csU u' (csT (eqD_sh _ _ _) (csT ge (csT lt (csU u (csU im (csU u (csU u' (csF (ne_f rfl) (csU u (csU md (csF (ne_f (by rw [i1])) (csT (decide_eq_true (by omega)) (csU rfl (csU u' (csT mvw (csU u (csU u' (csF (ne_f (m_addh va vb)) (csU u (csU u' (csF (ne_f (m_subh va vb)) (csU u (csU u' (csF (ne_f (m_orh va vb)) (csU u (csU u' (csF (ne_f (m_andh va vb)) (csU u (csU u' (csF (ne_f (m_xorh va vb)) (csU u (csU u' (csF (ne_f (m_movh va vb)) (csU u (csU u' (csF (ne_f (m_imulh va vb)) (csU u (csU u' (csF (ne_f (m_negh va vb)) (csU u (csU u' (csF (ne_f (m_mulh va vb)) (csU u (csU u' (csT (eqD_sh _ _ _) (csT ge (csT lt (csU u (csU im (csU u (csU u' (csF (ne_f (low_alu _ _ _)) (csU u (csU md (csF (ne_f (by rw [i1]; exact low_alu _ _ _)) (csU u (csU u' (csT (eqD_sh _ _ _) (csT ge (csT lt (csU u (csU im (csU u (csU u' (csF (ne_f (low_alu _ _ _)) (csU u (csU md (csF (ne_f (by rw [i1]; exact low_alu _ _ _)) (csU u (csU u' (csT (eqD_sh _ _ _) (csT ge (csT lt (csU u (csU im (csU u (csU u' (csF (ne_f (low_alu _ _ _)) (csU u (csU md (csF (ne_f (by rw [i1]; exact low_alu _ _ _)) (csT (decide_eq_true (by rw [lowH_0]; omega)) (csU rfl (csU u' (csT mvh csN))))))))))))))))))))))))))))))))))))))))))))))))))))))))))))))))))))))))))))))))))))))))))))))))))))))))))))))))))))))))))))))))))))))))))))
theorem u64_of_wf' {a : Int} (h : (Lit.int .u64 a).wf = true) : ∃ v : BitVec 64, a = N v := by
  have hb : 0 ≤ a ∧ a < 18446744073709551616 := by
    simp [Lit.wf, IntKind.min, IntKind.max, IntKind.signed, IntKind.bits] at h
    omega
  exact ⟨BitVec.ofInt 64 a, (N_ofInt a hb.1 (by simpa using hb.2)).symm⟩
theorem cr_law (r0 r1 r2 r3 r4 r5 r6 r7 r8 r9 r10 r11 r12 r13 r14 r15 : Int) (z s c o : Bool) (pc a b : Int) (wa : (Lit.int .u64 a).wf = true) (wb : (Lit.int .u64 b).wf = true) (w : World) (hT : TabAt w) : Calls Tryd.prog 11 #[stA r0 r1 r2 r3 r4 r5 r6 r7 r8 r9 r10 r11 r12 r13 r14 r15 z s c o pc, .int .u64 a, .int .u64 b] w fun e w' => e = .returned (.bool true) ∧ Gr w w' := by
  obtain ⟨va, rfl⟩ := u64_of_wf' wa
  obtain ⟨vb, rfl⟩ := u64_of_wf' wb
  by_cases hw : N vb = 0
  · have hh : lowH (N vb) = 0 := by rw [hw]; rfl
    exact cr11_run _ _ _ _ _ _ _ _ _ _ _ _ _ _ _ _ _ _ _ _ _ _ _ (cr11_all va vb hw hh) w (laid_of_tab hT)
  · by_cases hh : lowH (N vb) = 0
    · exact cr01_run _ _ _ _ _ _ _ _ _ _ _ _ _ _ _ _ _ _ _ _ _ _ _ (cr01_all va vb hw hh) w (laid_of_tab hT)
    · exact cr00_run _ _ _ _ _ _ _ _ _ _ _ _ _ _ _ _ _ _ _ _ _ _ _ (cr00_all va vb hw hh) w (laid_of_tab hT)
end Go.Proofs.YtbaiokfjoglmiaaDoor.Ex
end
section
namespace Go.Proofs.YtbaiokfjoglmiaaDoor.Ex
open Go Go.RowKit Go.WideShapes Go.ChangeShapes

theorem gr_frame {W W' : World} (h : Gr W W') (may : MemPlace → Prop) : W.keptBut W' may := by
  refine ⟨h.1.1, h.1.2, fun i hi => ?_⟩
  rw [h.2.1 i hi]
  split <;> simp_all
section
variable {H : Type} {enc : TypeId × Value → H} {P : Program}
theorem post_of_gr {f : Func} {s : ChangeSpec} {apart fresh handsOn again : Bool} {W W' : World} {args : Array Value} {v : Value} {ds gs : List (DataW H)} {before pa pv : List MemPlace}
    (hW : DataW.Whole enc P f.params.toList s.vars apart W args.toList ds gs before)
    (hres : ∀ (b : Nat) (sp : Nat → Bool) (hd : Bool), DataW.TrodAll enc P W' b sp hd f.resultTypes.toList (v.resultList f.resultTypes.size) (s.fn H (ds ++ gs)).results [])
    (hargs : ∀ sp : Nat → Bool, (∀ p ∈ before, sp p.block = true) → DataW.TrodAll enc P W' 0 sp true f.params.toList args.toList (s.fn H (ds ++ gs)).args pa)
    (hvars : ∀ sp : Nat → Bool, (∀ p ∈ before, sp p.block = true) → DataW.TrodVars enc P W' sp s.vars (s.fn H (ds ++ gs)).vars pv)
    (hps : before = pa ++ pv) (hg : Gr W W')
    (hok : ∀ (j : Nat) (t : TypeId) (r : Value), f.resultTypes[j]? = some t → (v.resultList f.resultTypes.size)[j]? = some r → Value.okWide P W' .any 0 t r) :
    s.post enc P f apart fresh handsOn again W args v W' := by
  have hlt : ∀ p ∈ before, p.block < W.heap.size := fun p hp => hW.lt p hp
  have hold : ∀ p ∈ before, (fun b => decide (b < W.heap.size)) p.block = true := fun p hp => by simpa using hlt p hp
  refine ⟨ds, gs, before, [], pa, pv, hW, hres _ _ _, hargs _ hold, hvars _ hold, World.keptBut_mono (fun p hp => ⟨hp, ?_⟩) (gr_frame hg (· ∈ before)), fun _ => ?_⟩
  · rw [hps, List.mem_append] at hp
    exact Or.inr hp
  · obtain ⟨_, _, _, _, _, hz, hn⟩ := hW
    refine ⟨hok, _, _, ([] ++ pa) ++ pv, ⟨[] ++ pa, pv, trodAll_append (hargs _ (fun _ _ => rfl)) (hres _ _ _), hvars _ (fun _ _ => rfl), rfl, ?_, ?_⟩, ?_⟩
    · intro b off hp
      have hin : MemPlace.cell b off ∈ before := by rw [hps]; simpa using hp
      rw [gr_frozen hg (hlt _ hin)]
      exact hz b off hin
    · intro ha
      have := hn ha
      rw [hps] at this
      simpa using this
    · intro p hp _
      rw [hps]
      simpa using hp
end
end Go.Proofs.YtbaiokfjoglmiaaDoor.Ex
end
