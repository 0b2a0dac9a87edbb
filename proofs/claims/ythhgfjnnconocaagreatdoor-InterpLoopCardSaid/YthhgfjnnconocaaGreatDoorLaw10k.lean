/-
  Layer 10: the law InterpLoop, reckoned.
-/
import Derived.Test.YthhgfjnnconocaaGreatDoorLaw10i
import Derived.Test.YthhgfjnnconocaaGreatDoorLaw10j
import Derived.Test.YthhgfjnnconocaaGreatDoorLaw10f
namespace Go.Proofs.YthhgfjnnconocaaGreatDoor.Ex
open Go Go.RowKit
set_option maxHeartbeats 0
set_option maxRecDepth 1000000
set_option linter.unusedVariables false
def loOrc (n : Int) : Orc := fun f t x =>
  if Nat.beq f 6 then
    if Nat.beq t 21 then some (.int .i64 n)
    else if Nat.beq t 24 then some (.int .i32 n)
    else if Nat.beq t 48 || (Nat.beq t 57 || Nat.beq t 87) then some (.int .i64 (3 * n))
    else if Nat.beq t 49 || Nat.beq t 88 then some (.int .i64 (3 * n + 3))
    else if Nat.beq t 58 then some (.int .i64 (3 * n + 2))
    else if Nat.beq t 90 then some (.bool true)
    else none
  else none
def loHook : Hook3 := orHook3 new10Hook (liftH (guardH goesHook))
theorem loHook_ok : HookOk3 Tryz.prog loHook := orHook3_ok new10Hook_ok (lift_ok (guard_ok goesHook_ok))
noncomputable def loLoops : LoopHook := loopWHook [lv_P, lw_P]
theorem loLoops_ok : LoopsOk Tryz.prog loLoops := loopWHook_ok fun e he => by
  simp only [List.mem_cons, List.not_mem_nil, or_false] at he
  rcases he with rfl | rfl
  · exact lv_ok
  · exact lw_ok
def loCs (often n : Int) : Cs := [(IntKind.i64.wrap (1 + (IntKind.i64.wrap often).tmod 60), n), (IntKind.i32.wrap n, n), (IntKind.i64.wrap (3 * n), 3 * n), (IntKind.i64.wrap (3 * n + 3), 3 * n + 3),
  (3 * n + 3, 3 * n + 3), (b2i (u6pos n), 1), (IntKind.i64.wrap (3 * n), 3 * n), (IntKind.i64.wrap (3 * n + 2), 3 * n + 2), (3 * n + 2, 3 * n + 2), (b2i (u6pos n), 1),
  (IntKind.i64.wrap (3 * n), 3 * n), (IntKind.i64.wrap (3 * n + 3), 3 * n + 3), (b2i (eqD [.int .u64 0, .int .i64 (3 * n + 1 + 1 + 1)] [.int .u64 0, .int .i64 (3 * n + 3)]), 1)]
theorem lo_run (often n : Int) : reckonPI Tryz.prog loHook (loOrc n) loLoops 100000 300 h10 6 [.int .u8 often] = some (.bool true, inter (loCs often n)) := by kernel_rfl
theorem tmod_bd (x : Int) (h : 0 ≤ x) : 0 ≤ x.tmod 60 ∧ x.tmod 60 < 60 := by
  rw [Int.tmod_eq_emod_of_nonneg h]
  omega
theorem interpLoop_walk (often : Int) (hl : 0 ≤ often) (hh : often < 256) (w : World) (hL : Laid h10 w) : Calls Tryz.prog 6 #[.int .u8 often] w fun e w' => e = .returned (.bool true) ∧ Gr w w' := by
  have e0 := i64_idL often hl (by omega)
  obtain ⟨t1, t2⟩ := tmod_bd often hl
  have e1 := i64_idL (1 + often.tmod 60) (by omega) (by omega)
  generalize hn : 1 + often.tmod 60 = n at e1
  have f1 := i32_idL n (by omega) (by omega)
  have f2 := i64_idL (3 * n) (by omega) (by omega)
  have f3 := i64_idL (3 * n + 3) (by omega) (by omega)
  have f4 := i64_idL (3 * n + 2) (by omega) (by omega)
  have b1 : u6pos n = true := decide_eq_true ⟨by omega, by omega⟩
  have q1 : eqD [.int .u64 0, .int .i64 (3 * n + 1 + 1 + 1)] [.int .u64 0, .int .i64 (3 * n + 3)] = true := by
    have e : 3 * n + 1 + 1 + 1 = 3 * n + 3 := by omega
    rw [e]
    simp [eqD, eqW]
  refine reckonP_ok noNG loHook_ok (loopWHook_low _) loLoops_ok (loOrc n) 100000 300 h10 (cs := loCs often n) rfl rfl (lo_run often n) (fun c hc => ?_) w hL
  simp only [loCs, List.mem_cons, List.not_mem_nil, or_false] at hc
  rcases hc with rfl | rfl | rfl | rfl | rfl | rfl | rfl | rfl | rfl | rfl | rfl | rfl | rfl <;> simp only [e0, hn, e1, f1, f2, f3, f4, b1, q1, b2i]
theorem interpLoop_law (often : Int) (h : (Lit.int .u8 often).wf = true) (w : World) (hL : TabAt w) : Calls Tryz.prog 6 #[.int .u8 often] w fun e w' => e = .returned (.bool true) ∧ Gr w w' := by
  simp [Lit.wf, IntKind.min, IntKind.max, IntKind.signed, IntKind.bits] at h
  exact interpLoop_walk often (by omega) (by omega) w hL
end Go.Proofs.YthhgfjnnconocaaGreatDoor.Ex
