/-
  Layer 12: the law CpuCompare, reckoned.
-/
import Derived.Test.YtbaiokfjoglmiaaDoorLaw12c
import Derived.Test.YtbaiokfjoglmiaaDoorCmpMath
import Derived.Test.YtbaiokfjoglmiaaDoorLaw12e
namespace Go.Proofs.YtbaiokfjoglmiaaDoor.Ex
open Go Go.RowKit
def cmpOrc : Orc := fun f t _ => if Nat.beq f 10 && (Nat.beq t 53 || Nat.beq t 60 || Nat.beq t 67 || Nat.beq t 74 || Nat.beq t 92 || Nat.beq t 99) then some (.bool false) else none
theorem eqD_self : ∀ l : List Value, fitL (l.map fun _ => Kc.i .u64) l = true → eqD l l = true
  | [], _ => rfl
  | v :: l, h => by
    simp only [List.map_cons, fitL, Bool.and_eq_true] at h
    have h1 := h.1
    cases v <;> simp only [Kc.fit, Bool.false_eq_true] at h1
    simp [eqD, eqW, eqD_self l h.2]
set_option maxHeartbeats 0 in
set_option maxRecDepth 1000000 in
theorem cpuCompare_walk (r0 r1 r2 r3 r4 r5 r6 r7 r8 r9 r10 r11 r12 r13 r14 r15 : Int) (z s c o : Bool) (pc : Int) (va vb : BitVec 64) (w : World) (hT : TabAt w) : Calls Tryd.prog 10 #[stA r0 r1 r2 r3 r4 r5 r6 r7 r8 r9 r10 r11 r12 r13 r14 r15 z s c o pc, .int .u64 (N va), .int .u64 (N vb)] w fun e w' => e = .returned (.bool true) ∧ Gr w w' := by
  refine reckonS_ok noNG (hk := orHook execHook (orHook holdsHook (orHook takenHook doneHook))) (orHook_ok execHook_ok (orHook_ok holdsHook_ok (orHook_ok takenHook_ok doneHook_ok))) cmpOrc 100000 300 h12
    (ls := ([(b2i (!eqD [.int .u64 (N va), .int .u64 r1, .int .u64 r2, .int .u64 (N vb), .int .u64 r4, .int .u64 r5, .int .u64 r6, .int .u64 r7, .int .u64 r8, .int .u64 r9, .int .u64 r10, .int .u64 r11, .int .u64 r12, .int .u64 r13, .int .u64 r14, .int .u64 r15] [.int .u64 (N va), .int .u64 r1, .int .u64 r2, .int .u64 (N vb), .int .u64 r4, .int .u64 r5, .int .u64 r6, .int .u64 r7, .int .u64 r8, .int .u64 r9, .int .u64 r10, .int .u64 r11, .int .u64 r12, .int .u64 r13, .int .u64 r14, .int .u64 r15]), 0),
      (b2i (!eqD [.int .u64 (N va), .int .u64 r1, .int .u64 r2, .int .u64 (N vb), .int .u64 r4, .int .u64 r5, .int .u64 r6, .int .u64 r7, .int .u64 r8, .int .u64 r9, .int .u64 r10, .int .u64 r11, .int .u64 r12, .int .u64 r13, .int .u64 r14, .int .u64 r15] [.int .u64 (N va), .int .u64 r1, .int .u64 r2, .int .u64 (N vb), .int .u64 r4, .int .u64 r5, .int .u64 r6, .int .u64 r7, .int .u64 r8, .int .u64 r9, .int .u64 r10, .int .u64 r11, .int .u64 r12, .int .u64 r13, .int .u64 r14, .int .u64 r15]), 0),
      (b2i (pc != pc), 0),
      (b2i (pc != pc), 0),
      inU (N va),
      inU (N vb),
      (b2i (takenS 2 ((subI .u64 (N va) (N vb)) == 0) (negB 9223372036854775807 (subI .u64 (N va) (N vb))) (decide ((N va) < (N vb))) (negB 9223372036854775807 (andI .u64 (xorI .u64 (N va) (N vb)) (xorI .u64 (N va) (subI .u64 (N va) (N vb))))) != condS 160 true (BitVec.ofInt 64 (N va)) (BitVec.ofInt 64 (N vb))), 0),
      inU (N va),
      inU (N vb),
      (b2i (takenS 3 ((subI .u64 (N va) (N vb)) == 0) (negB 9223372036854775807 (subI .u64 (N va) (N vb))) (decide ((N va) < (N vb))) (negB 9223372036854775807 (andI .u64 (xorI .u64 (N va) (N vb)) (xorI .u64 (N va) (subI .u64 (N va) (N vb))))) != condS 48 true (BitVec.ofInt 64 (N va)) (BitVec.ofInt 64 (N vb))), 0),
      inU (N va),
      inU (N vb),
      (b2i (takenS 4 ((subI .u64 (N va) (N vb)) == 0) (negB 9223372036854775807 (subI .u64 (N va) (N vb))) (decide ((N va) < (N vb))) (negB 9223372036854775807 (andI .u64 (xorI .u64 (N va) (N vb)) (xorI .u64 (N va) (subI .u64 (N va) (N vb))))) != condS 16 true (BitVec.ofInt 64 (N va)) (BitVec.ofInt 64 (N vb))), 0),
      inU (N va),
      inU (N vb),
      (b2i (takenS 5 ((subI .u64 (N va) (N vb)) == 0) (negB 9223372036854775807 (subI .u64 (N va) (N vb))) (decide ((N va) < (N vb))) (negB 9223372036854775807 (andI .u64 (xorI .u64 (N va) (N vb)) (xorI .u64 (N va) (subI .u64 (N va) (N vb))))) != condS 80 true (BitVec.ofInt 64 (N va)) (BitVec.ofInt 64 (N vb))), 0),
      inU (N va),
      inU (N vb),
      (b2i (takenS 6 ((subI .u64 (N va) (N vb)) == 0) (negB 9223372036854775807 (subI .u64 (N va) (N vb))) (decide ((N va) < (N vb))) (negB 9223372036854775807 (andI .u64 (xorI .u64 (N va) (N vb)) (xorI .u64 (N va) (subI .u64 (N va) (N vb))))) != condS 176 true (BitVec.ofInt 64 (N va)) (BitVec.ofInt 64 (N vb))), 0),
      inU (N va),
      inU (N vb),
      (b2i (takenS 7 ((subI .u64 (N va) (N vb)) == 0) (negB 9223372036854775807 (subI .u64 (N va) (N vb))) (decide ((N va) < (N vb))) (negB 9223372036854775807 (andI .u64 (xorI .u64 (N va) (N vb)) (xorI .u64 (N va) (subI .u64 (N va) (N vb))))) != condS 32 true (BitVec.ofInt 64 (N va)) (BitVec.ofInt 64 (N vb))), 0),
      inU (N va),
      inU (N vb),
      (b2i (takenS 12 ((subI .u64 (N va) (N vb)) == 0) (negB 9223372036854775807 (subI .u64 (N va) (N vb))) (decide ((N va) < (N vb))) (negB 9223372036854775807 (andI .u64 (xorI .u64 (N va) (N vb)) (xorI .u64 (N va) (subI .u64 (N va) (N vb))))) != condS 192 true (BitVec.ofInt 64 (N va)) (BitVec.ofInt 64 (N vb))), 0),
      inU (N va),
      inU (N vb),
      (b2i (takenS 13 ((subI .u64 (N va) (N vb)) == 0) (negB 9223372036854775807 (subI .u64 (N va) (N vb))) (decide ((N va) < (N vb))) (negB 9223372036854775807 (andI .u64 (xorI .u64 (N va) (N vb)) (xorI .u64 (N va) (subI .u64 (N va) (N vb))))) != condS 112 true (BitVec.ofInt 64 (N va)) (BitVec.ofInt 64 (N vb))), 0),
      inU (N va),
      inU (N vb),
      (b2i (takenS 14 ((subI .u64 (N va) (N vb)) == 0) (negB 9223372036854775807 (subI .u64 (N va) (N vb))) (decide ((N va) < (N vb))) (negB 9223372036854775807 (andI .u64 (xorI .u64 (N va) (N vb)) (xorI .u64 (N va) (subI .u64 (N va) (N vb))))) != condS 208 true (BitVec.ofInt 64 (N va)) (BitVec.ofInt 64 (N vb))), 0),
      inU (N va),
      inU (N vb),
      (b2i (takenS 15 ((subI .u64 (N va) (N vb)) == 0) (negB 9223372036854775807 (subI .u64 (N va) (N vb))) (decide ((N va) < (N vb))) (negB 9223372036854775807 (andI .u64 (xorI .u64 (N va) (N vb)) (xorI .u64 (N va) (subI .u64 (N va) (N vb))))) != condS 96 true (BitVec.ofInt 64 (N va)) (BitVec.ofInt 64 (N vb))), 0),
      inU (N va),
      inU (N vb),
      (b2i (takenS 5 ((andI .u64 (N va) (N vb)) == 0) (negB 9223372036854775807 (andI .u64 (N va) (N vb))) false false != condS 64 true (BitVec.ofInt 64 (N va)) (BitVec.ofInt 64 (N vb))), 0),
      (b2i (!eqD [.int .u64 (N va), .int .u64 r1, .int .u64 r2, .int .u64 (N vb), .int .u64 r4, .int .u64 r5, .int .u64 r6, .int .u64 r7, .int .u64 r8, .int .u64 r9, .int .u64 r10, .int .u64 r11, .int .u64 r12, .int .u64 r13, .int .u64 r14, .int .u64 r15] [.int .u64 (N va), .int .u64 r1, .int .u64 r2, .int .u64 (N vb), .int .u64 r4, .int .u64 r5, .int .u64 r6, .int .u64 r7, .int .u64 r8, .int .u64 r9, .int .u64 r10, .int .u64 r11, .int .u64 r12, .int .u64 r13, .int .u64 r14, .int .u64 r15]), 0),
      (b2i (!eqD [.int .u64 (N va), .int .u64 r1, .int .u64 r2, .int .u64 (N vb), .int .u64 r4, .int .u64 r5, .int .u64 r6, .int .u64 r7, .int .u64 r8, .int .u64 r9, .int .u64 r10, .int .u64 r11, .int .u64 r12, .int .u64 r13, .int .u64 r14, .int .u64 r15] [.int .u64 (N va), .int .u64 r1, .int .u64 r2, .int .u64 (N vb), .int .u64 r4, .int .u64 r5, .int .u64 r6, .int .u64 r7, .int .u64 r8, .int .u64 r9, .int .u64 r10, .int .u64 r11, .int .u64 r12, .int .u64 r13, .int .u64 r14, .int .u64 r15]), 0),
      (b2i (pc != pc), 0),
      (b2i (pc != pc), 0),
      inU (N va),
      inU (N vb),
      (b2i (takenS 2 ((subI .u32 (IntKind.u32.wrap (N va)) (IntKind.u32.wrap (N vb))) == 0) (negB 2147483647 (subI .u32 (IntKind.u32.wrap (N va)) (IntKind.u32.wrap (N vb)))) (decide ((IntKind.u32.wrap (N va)) < (IntKind.u32.wrap (N vb)))) (negB 2147483647 (andI .u32 (xorI .u32 (IntKind.u32.wrap (N va)) (IntKind.u32.wrap (N vb))) (xorI .u32 (IntKind.u32.wrap (N va)) (subI .u32 (IntKind.u32.wrap (N va)) (IntKind.u32.wrap (N vb)))))) != condS 160 false (BitVec.ofInt 64 (N va)) (BitVec.ofInt 64 (N vb))), 0),
      inU (N va),
      inU (N vb),
      (b2i (takenS 3 ((subI .u32 (IntKind.u32.wrap (N va)) (IntKind.u32.wrap (N vb))) == 0) (negB 2147483647 (subI .u32 (IntKind.u32.wrap (N va)) (IntKind.u32.wrap (N vb)))) (decide ((IntKind.u32.wrap (N va)) < (IntKind.u32.wrap (N vb)))) (negB 2147483647 (andI .u32 (xorI .u32 (IntKind.u32.wrap (N va)) (IntKind.u32.wrap (N vb))) (xorI .u32 (IntKind.u32.wrap (N va)) (subI .u32 (IntKind.u32.wrap (N va)) (IntKind.u32.wrap (N vb)))))) != condS 48 false (BitVec.ofInt 64 (N va)) (BitVec.ofInt 64 (N vb))), 0),
      inU (N va),
      inU (N vb),
      (b2i (takenS 4 ((subI .u32 (IntKind.u32.wrap (N va)) (IntKind.u32.wrap (N vb))) == 0) (negB 2147483647 (subI .u32 (IntKind.u32.wrap (N va)) (IntKind.u32.wrap (N vb)))) (decide ((IntKind.u32.wrap (N va)) < (IntKind.u32.wrap (N vb)))) (negB 2147483647 (andI .u32 (xorI .u32 (IntKind.u32.wrap (N va)) (IntKind.u32.wrap (N vb))) (xorI .u32 (IntKind.u32.wrap (N va)) (subI .u32 (IntKind.u32.wrap (N va)) (IntKind.u32.wrap (N vb)))))) != condS 16 false (BitVec.ofInt 64 (N va)) (BitVec.ofInt 64 (N vb))), 0),
      inU (N va),
      inU (N vb),
      (b2i (takenS 5 ((subI .u32 (IntKind.u32.wrap (N va)) (IntKind.u32.wrap (N vb))) == 0) (negB 2147483647 (subI .u32 (IntKind.u32.wrap (N va)) (IntKind.u32.wrap (N vb)))) (decide ((IntKind.u32.wrap (N va)) < (IntKind.u32.wrap (N vb)))) (negB 2147483647 (andI .u32 (xorI .u32 (IntKind.u32.wrap (N va)) (IntKind.u32.wrap (N vb))) (xorI .u32 (IntKind.u32.wrap (N va)) (subI .u32 (IntKind.u32.wrap (N va)) (IntKind.u32.wrap (N vb)))))) != condS 80 false (BitVec.ofInt 64 (N va)) (BitVec.ofInt 64 (N vb))), 0),
      inU (N va),
      inU (N vb),
      (b2i (takenS 6 ((subI .u32 (IntKind.u32.wrap (N va)) (IntKind.u32.wrap (N vb))) == 0) (negB 2147483647 (subI .u32 (IntKind.u32.wrap (N va)) (IntKind.u32.wrap (N vb)))) (decide ((IntKind.u32.wrap (N va)) < (IntKind.u32.wrap (N vb)))) (negB 2147483647 (andI .u32 (xorI .u32 (IntKind.u32.wrap (N va)) (IntKind.u32.wrap (N vb))) (xorI .u32 (IntKind.u32.wrap (N va)) (subI .u32 (IntKind.u32.wrap (N va)) (IntKind.u32.wrap (N vb)))))) != condS 176 false (BitVec.ofInt 64 (N va)) (BitVec.ofInt 64 (N vb))), 0),
      inU (N va),
      inU (N vb),
      (b2i (takenS 7 ((subI .u32 (IntKind.u32.wrap (N va)) (IntKind.u32.wrap (N vb))) == 0) (negB 2147483647 (subI .u32 (IntKind.u32.wrap (N va)) (IntKind.u32.wrap (N vb)))) (decide ((IntKind.u32.wrap (N va)) < (IntKind.u32.wrap (N vb)))) (negB 2147483647 (andI .u32 (xorI .u32 (IntKind.u32.wrap (N va)) (IntKind.u32.wrap (N vb))) (xorI .u32 (IntKind.u32.wrap (N va)) (subI .u32 (IntKind.u32.wrap (N va)) (IntKind.u32.wrap (N vb)))))) != condS 32 false (BitVec.ofInt 64 (N va)) (BitVec.ofInt 64 (N vb))), 0),
      inU (N va),
      inU (N vb),
      (b2i (takenS 12 ((subI .u32 (IntKind.u32.wrap (N va)) (IntKind.u32.wrap (N vb))) == 0) (negB 2147483647 (subI .u32 (IntKind.u32.wrap (N va)) (IntKind.u32.wrap (N vb)))) (decide ((IntKind.u32.wrap (N va)) < (IntKind.u32.wrap (N vb)))) (negB 2147483647 (andI .u32 (xorI .u32 (IntKind.u32.wrap (N va)) (IntKind.u32.wrap (N vb))) (xorI .u32 (IntKind.u32.wrap (N va)) (subI .u32 (IntKind.u32.wrap (N va)) (IntKind.u32.wrap (N vb)))))) != condS 192 false (BitVec.ofInt 64 (N va)) (BitVec.ofInt 64 (N vb))), 0),
      inU (N va),
      inU (N vb),
      (b2i (takenS 13 ((subI .u32 (IntKind.u32.wrap (N va)) (IntKind.u32.wrap (N vb))) == 0) (negB 2147483647 (subI .u32 (IntKind.u32.wrap (N va)) (IntKind.u32.wrap (N vb)))) (decide ((IntKind.u32.wrap (N va)) < (IntKind.u32.wrap (N vb)))) (negB 2147483647 (andI .u32 (xorI .u32 (IntKind.u32.wrap (N va)) (IntKind.u32.wrap (N vb))) (xorI .u32 (IntKind.u32.wrap (N va)) (subI .u32 (IntKind.u32.wrap (N va)) (IntKind.u32.wrap (N vb)))))) != condS 112 false (BitVec.ofInt 64 (N va)) (BitVec.ofInt 64 (N vb))), 0),
      inU (N va),
      inU (N vb),
      (b2i (takenS 14 ((subI .u32 (IntKind.u32.wrap (N va)) (IntKind.u32.wrap (N vb))) == 0) (negB 2147483647 (subI .u32 (IntKind.u32.wrap (N va)) (IntKind.u32.wrap (N vb)))) (decide ((IntKind.u32.wrap (N va)) < (IntKind.u32.wrap (N vb)))) (negB 2147483647 (andI .u32 (xorI .u32 (IntKind.u32.wrap (N va)) (IntKind.u32.wrap (N vb))) (xorI .u32 (IntKind.u32.wrap (N va)) (subI .u32 (IntKind.u32.wrap (N va)) (IntKind.u32.wrap (N vb)))))) != condS 208 false (BitVec.ofInt 64 (N va)) (BitVec.ofInt 64 (N vb))), 0),
      inU (N va),
      inU (N vb),
      (b2i (takenS 15 ((subI .u32 (IntKind.u32.wrap (N va)) (IntKind.u32.wrap (N vb))) == 0) (negB 2147483647 (subI .u32 (IntKind.u32.wrap (N va)) (IntKind.u32.wrap (N vb)))) (decide ((IntKind.u32.wrap (N va)) < (IntKind.u32.wrap (N vb)))) (negB 2147483647 (andI .u32 (xorI .u32 (IntKind.u32.wrap (N va)) (IntKind.u32.wrap (N vb))) (xorI .u32 (IntKind.u32.wrap (N va)) (subI .u32 (IntKind.u32.wrap (N va)) (IntKind.u32.wrap (N vb)))))) != condS 96 false (BitVec.ofInt 64 (N va)) (BitVec.ofInt 64 (N vb))), 0),
      inU (N va),
      inU (N vb),
      (b2i (takenS 5 ((andI .u32 (IntKind.u32.wrap (N va)) (IntKind.u32.wrap (N vb))) == 0) (negB 2147483647 (andI .u32 (IntKind.u32.wrap (N va)) (IntKind.u32.wrap (N vb)))) false false != condS 64 false (BitVec.ofInt 64 (N va)) (BitVec.ofInt 64 (N vb))), 0)] : Cs).map (·.1)) (rs := [0, 0, 0, 0, 1, 1, 0, 1, 1, 0, 1, 1, 0, 1, 1, 0, 1, 1, 0, 1, 1, 0, 1, 1, 0, 1, 1, 0, 1, 1, 0, 1, 1, 0, 1, 1, 0, 0, 0, 0, 0, 1, 1, 0, 1, 1, 0, 1, 1, 0, 1, 1, 0, 1, 1, 0, 1, 1, 0, 1, 1, 0, 1, 1, 0, 1, 1, 0, 1, 1, 0, 1, 1, 0]) rfl rfl (by kernel_rfl) (by kernel_rfl) ?_ w (laid_of_tab hT)
  have hE : eqD [.int .u64 (N va), .int .u64 r1, .int .u64 r2, .int .u64 (N vb), .int .u64 r4, .int .u64 r5, .int .u64 r6, .int .u64 r7, .int .u64 r8, .int .u64 r9, .int .u64 r10, .int .u64 r11, .int .u64 r12, .int .u64 r13, .int .u64 r14, .int .u64 r15] [.int .u64 (N va), .int .u64 r1, .int .u64 r2, .int .u64 (N vb), .int .u64 r4, .int .u64 r5, .int .u64 r6, .int .u64 r7, .int .u64 r8, .int .u64 r9, .int .u64 r10, .int .u64 r11, .int .u64 r12, .int .u64 r13, .int .u64 r14, .int .u64 r15] = true := eqD_self _ rfl
  obtain ⟨w1, w2, w3, w4, w5, w6, w7, w8, w9, w10⟩ := cmpWide va vb
  obtain ⟨k1, k2, k3, k4, k5, k6, k7, k8, k9, k10⟩ := cmpHalf va vb
  simp only [List.map, inU_N, hE, w1, w2, w3, w4, w5, w6, w7, w8, w9, w10, k1, k2, k3, k4, k5, k6, k7, k8, k9, k10, setW, setH, ofInt_N, bne_self_eq_false, Bool.not_true]
  simp [b2i]
theorem u64_of_wf {a : Int} (h : (Lit.int .u64 a).wf = true) : ∃ v : BitVec 64, a = N v := by
  have hb : 0 ≤ a ∧ a < 18446744073709551616 := by
    simp [Lit.wf, IntKind.min, IntKind.max, IntKind.signed, IntKind.bits] at h
    omega
  exact ⟨BitVec.ofInt 64 a, (N_ofInt a hb.1 (by simpa using hb.2)).symm⟩
theorem cpuCompare_int (r0 r1 r2 r3 r4 r5 r6 r7 r8 r9 r10 r11 r12 r13 r14 r15 : Int) (z s c o : Bool) (pc a b : Int) (wa : (Lit.int .u64 a).wf = true) (wb : (Lit.int .u64 b).wf = true) (w : World) (hT : TabAt w) : Calls Tryd.prog 10 #[stA r0 r1 r2 r3 r4 r5 r6 r7 r8 r9 r10 r11 r12 r13 r14 r15 z s c o pc, .int .u64 a, .int .u64 b] w fun e w' => e = .returned (.bool true) ∧ Gr w w' := by
  obtain ⟨va, rfl⟩ := u64_of_wf wa
  obtain ⟨vb, rfl⟩ := u64_of_wf wb
  exact cpuCompare_walk _ _ _ _ _ _ _ _ _ _ _ _ _ _ _ _ _ _ _ _ _ _ _ w hT
end Go.Proofs.YtbaiokfjoglmiaaDoor.Ex
