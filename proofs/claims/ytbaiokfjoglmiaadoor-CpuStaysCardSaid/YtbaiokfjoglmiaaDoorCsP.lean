/-
  The law CpuStays for numbers as they are handed in.
-/
import Derived.Test.YtbaiokfjoglmiaaDoorCsZ
namespace Go.Proofs.YtbaiokfjoglmiaaDoor.Ex
open Go Go.RowKit
set_option maxHeartbeats 0
set_option maxRecDepth 1000000
set_option linter.unusedVariables false
theorem wfB {x : Int} (h : (Lit.int .u64 x).wf = true) : inB x = true := by
  simp [Lit.wf, IntKind.min, IntKind.max, IntKind.signed, IntKind.bits] at h
  exact decide_eq_true ⟨by omega, by omega⟩
theorem all_c {x : Int} {l : List Int} (h : inB x = true) (hl : l.all inB = true) : (x :: l).all inB = true := by
  rw [List.all_cons, h, hl]
  rfl
theorem cpuStays_law (k al co si : Int) (wi sh : Bool) (ds sr dp re im r0 r1 r2 r3 r4 r5 r6 r7 r8 r9 r10 r11 r12 r13 r14 r15 : Int) (z s c o : Bool) (pc : Int) (h0 : (Lit.int .u64 r0).wf = true) (h1 : (Lit.int .u64 r1).wf = true) (h2 : (Lit.int .u64 r2).wf = true) (h3 : (Lit.int .u64 r3).wf = true) (h4 : (Lit.int .u64 r4).wf = true) (h5 : (Lit.int .u64 r5).wf = true) (h6 : (Lit.int .u64 r6).wf = true) (h7 : (Lit.int .u64 r7).wf = true) (h8 : (Lit.int .u64 r8).wf = true) (h9 : (Lit.int .u64 r9).wf = true) (h10 : (Lit.int .u64 r10).wf = true) (h11 : (Lit.int .u64 r11).wf = true) (h12 : (Lit.int .u64 r12).wf = true) (h13 : (Lit.int .u64 r13).wf = true) (h14 : (Lit.int .u64 r14).wf = true) (h15 : (Lit.int .u64 r15).wf = true) (w : World) (hT : TabAt w) : Calls Tryd.prog 12 #[.agg ⟨[.int .i64 k, .int .i64 al, .int .i64 co, .int .i64 si, .bool wi, .bool sh, .int .i64 ds, .int .i64 sr, .int .i32 dp, .int .i32 re, .int .i64 im]⟩, .agg ⟨[.int .u64 r0, .int .u64 r1, .int .u64 r2, .int .u64 r3, .int .u64 r4, .int .u64 r5, .int .u64 r6, .int .u64 r7, .int .u64 r8, .int .u64 r9, .int .u64 r10, .int .u64 r11, .int .u64 r12, .int .u64 r13, .int .u64 r14, .int .u64 r15, .bool z, .bool s, .bool c, .bool o, .int .u64 pc]⟩] w fun e w' => e = .returned (.bool true) ∧ Gr w w' :=
  cpuStays_walk k al co si wi sh ds sr dp re im r0 r1 r2 r3 r4 r5 r6 r7 r8 r9 r10 r11 r12 r13 r14 r15 z s c o pc (all_c (wfB h0) (all_c (wfB h1) (all_c (wfB h2) (all_c (wfB h3) (all_c (wfB h4) (all_c (wfB h5) (all_c (wfB h6) (all_c (wfB h7) (all_c (wfB h8) (all_c (wfB h9) (all_c (wfB h10) (all_c (wfB h11) (all_c (wfB h12) (all_c (wfB h13) (all_c (wfB h14) (all_c (wfB h15) rfl)))))))))))))))) w hT
end Go.Proofs.YtbaiokfjoglmiaaDoor.Ex
