/-
  The law MemoryWrite: its runs.
-/
import Derived.Test.YtkdnjphgmifkmaaMw2
namespace Go.Proofs.Ytkdnjphgmifkmaa.Ex
open Go Go.RowKit
set_option maxHeartbeats 0
set_option maxRecDepth 1000000
set_option linter.unusedVariables false
def mwS (a c : Bool) : Orc := fun f t x =>
  if Nat.beq f 4 then
    match t with
    | 23 => some (.bool a) | 27 => some (.bool c)
    | _ => none
  else none
theorem mw_few (L : List UInt8) (b kd ad vv nn : Int) : reckonGI Try.prog (guardH mwHook) (mwS true false) 100000 300 [] 4 [.string ⟨⟨L⟩⟩, .int .u32 b, .agg ⟨[.int .u8 kd, .int .u64 ad, .int .u64 vv, .int .i64 nn]⟩] = some (.bool true, inter [(b2i (decide ((L.length : Int) < 8)), 1)]) := by kernel_rfl
theorem mw_many (L : List UInt8) (b kd ad vv nn : Int) : reckonGI Try.prog (guardH mwHook) (mwS false true) 100000 300 [] 4 [.string ⟨⟨L⟩⟩, .int .u32 b, .agg ⟨[.int .u8 kd, .int .u64 ad, .int .u64 vv, .int .i64 nn]⟩] = some (.bool true, inter [(b2i (decide ((L.length : Int) < 8)), 0), (b2i (decide ((L.length : Int) > 300)), 1)]) := by kernel_rfl
theorem mw_1 (L : List UInt8) (b kd ad vv nn : Int) : reckonGI Try.prog (guardH mwHook) (mwOrc 0) 100000 300 [] 4 [.string ⟨⟨L⟩⟩, .int .u32 b, .agg ⟨[.int .u8 kd, .int .u64 ad, .int .u64 vv, .int .i64 nn]⟩] = some (.bool true, inter (mwCs L b ad vv nn 0 1)) := by kernel_rfl
theorem mw_2 (L : List UInt8) (b kd ad vv nn : Int) : reckonGI Try.prog (guardH mwHook) (mwOrc 1) 100000 300 [] 4 [.string ⟨⟨L⟩⟩, .int .u32 b, .agg ⟨[.int .u8 kd, .int .u64 ad, .int .u64 vv, .int .i64 nn]⟩] = some (.bool true, inter (mwCs L b ad vv nn 1 2)) := by kernel_rfl
theorem mw_4 (L : List UInt8) (b kd ad vv nn : Int) : reckonGI Try.prog (guardH mwHook) (mwOrc 2) 100000 300 [] 4 [.string ⟨⟨L⟩⟩, .int .u32 b, .agg ⟨[.int .u8 kd, .int .u64 ad, .int .u64 vv, .int .i64 nn]⟩] = some (.bool true, inter (mwCs L b ad vv nn 2 4)) := by kernel_rfl
theorem mw_8 (L : List UInt8) (b kd ad vv nn : Int) : reckonGI Try.prog (guardH mwHook) (mwOrc 3) 100000 300 [] 4 [.string ⟨⟨L⟩⟩, .int .u32 b, .agg ⟨[.int .u8 kd, .int .u64 ad, .int .u64 vv, .int .i64 nn]⟩] = some (.bool true, inter (mwCs L b ad vv nn 3 8)) := by kernel_rfl
end Go.Proofs.Ytkdnjphgmifkmaa.Ex
