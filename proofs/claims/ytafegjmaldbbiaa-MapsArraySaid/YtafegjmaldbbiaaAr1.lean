/-
  Layer 8: the law MapsArray: the states of its loop.
-/
import Derived.Test.YtafegjmaldbbiaaAr0
namespace Go.Proofs.Ytafegjmaldbbiaa.Ex
open Go Go.RowKit
set_option maxHeartbeats 0
set_option maxRecDepth 1000000
set_option linter.unusedVariables false
set_option linter.unusedSectionVars false
def tld (v : Value) : Value := .tuple ⟨[.nilIface, v]⟩
noncomputable def arT (n cp : Nat) (i : Nat) (p r : Value) (β : Nat → Value) : List Value := [.slice (some ⟨0, 0, none⟩) n cp, β 1, .bool false, .pointer (some ⟨23, 0, none⟩), .pointer (some ⟨9, 0, none⟩), .pointer (some ⟨37, 0, none⟩), .int .i64 (i : Int), β 7, β 8, β 9, β 10, β 11, β 12, β 13, β 14, β 15, β 16, β 17, β 18, β 19, β 20, β 21, β 22, β 23, β 24, β 25, β 26, β 27, β 28, β 29, β 30, β 31, β 32, β 33, β 34, β 35, β 36, β 37, β 38, β 39, β 40, β 41, β 42, β 43, p, β 45, β 46, β 47, β 48, β 49, β 50, β 51, β 52, β 53, β 54, β 55, β 56, β 57, β 58, β 59, β 60, β 61, β 62, β 63, β 64, β 65, β 66, β 67, β 68, β 69, β 70, β 71, β 72, β 73, β 74, β 75, β 76, β 77, β 78, β 79, β 80, β 81, β 82, β 83, β 84, β 85, β 86, β 87, β 88, β 89, β 90, β 91, β 92, β 93, β 94, β 95, β 96, β 97, β 98, r, β 100, β 101, β 102, β 103, β 104, β 105, β 106, β 107, β 108]
def arZ : List Bool := [false, true, false, false, false, false, false, true, true, true, true, true, true, true, true, true, true, true, true, true, true, true, true, true, true, true, true, true, true, true, true, true, true, true, true, true, true, true, true, true, true, true, true, true, false, true, true, true, true, true, true, true, true, true, true, true, true, true, true, true, true, true, true, true, true, true, true, true, true, true, true, true, true, true, true, true, true, true, true, true, true, true, true, true, true, true, true, true, true, true, true, true, true, true, true, true, true, true, true, false, true, true, true, true, true, true, true, true, true]
noncomputable def arG (a b c x y z : Int) : List AO := [⟨true, none, [.int .i64 1, .int .i64 4, .int .i64 1, .int .i64 3, .int .i64 2, .int .i64 2, .int .i64 3, .int .i64 2]⟩, ⟨true, none, [.int .i64 1, .int .i64 4, .int .i64 1, .int .i64 3]⟩, ⟨true, none, [.int .u64 1048576, .string ⟨⟨[0, 0, 0]⟩⟩, .bool true]⟩, dead, ⟨true, none, [.int .i64 2, .int .i64 2, .int .i64 3, .int .i64 2]⟩, ⟨true, none, [.int .u64 1114112, .string ⟨⟨[0, 0, 0, 0, 0, 0]⟩⟩, .bool true]⟩, ⟨true, some 3, [.int .u64 1048576, .string ⟨⟨[0, 0, 0]⟩⟩, .bool true, .int .u64 1114112, .string ⟨⟨[0, 0, 0, 0, 0, 0]⟩⟩, .bool true]⟩, ⟨true, none, [.int .u64 1048576, .slice (some ⟨11, 0, none⟩) 3 3, .bool true, .int .u64 1114112, .slice (some ⟨14, 0, none⟩) 6 6, .bool true]⟩, ⟨true, none, [.bool true, .slice (some ⟨8, 0, none⟩) 2 2]⟩, ⟨true, none, [.int .u64 1048576, .string ⟨⟨[0, 0, 0]⟩⟩, .bool true]⟩, ⟨true, some 1, [.int .u8 a, .int .u8 b, .int .u8 c]⟩, ⟨true, none, [.int .u64 1048576, .slice (some ⟨11, 0, none⟩) 3 3, .bool true]⟩, ⟨true, none, [.int .u64 1114112, .string ⟨⟨[0, 0, 0, 0, 0, 0]⟩⟩, .bool true]⟩, ⟨true, some 1, [.int .u8 0, .int .u8 0, .int .u8 0, .int .u8 0, .int .u8 0, .int .u8 0]⟩, ⟨true, none, [.int .u64 1114112, .slice (some ⟨14, 0, none⟩) 6 6, .bool true]⟩, ⟨true, none, [.int .u64 1048576, .slice (some ⟨11, 0, none⟩) 3 3, .bool true]⟩, ⟨true, none, [.int .i64 1, .int .i64 4, .int .i64 1, .int .i64 3]⟩, ⟨true, none, [.int .u64 1048576, .string ⟨⟨[0, 0, 0]⟩⟩, .bool true]⟩, dead, ⟨true, none, [.int .i64 2, .int .i64 2, .int .i64 3, .int .i64 2]⟩, ⟨true, none, [.int .u64 1114112, .string ⟨⟨[0, 0, 0, 0, 0, 0]⟩⟩, .bool true]⟩, ⟨true, some 3, [.int .u64 1048576, .string ⟨⟨[0, 0, 0]⟩⟩, .bool true, .int .u64 1114112, .string ⟨⟨[0, 0, 0, 0, 0, 0]⟩⟩, .bool true]⟩, ⟨true, none, [.bool true, .slice (some ⟨31, 0, none⟩) 2 2, .slice (some ⟨36, 0, none⟩) 2 2, .pointer (some ⟨9, 0, none⟩)]⟩, ⟨true, none, [.int .i64 1, .int .i64 4, .int .i64 1, .int .i64 3]⟩, ⟨true, none, [.int .i64 1, .int .i64 4, .int .i64 1, .int .i64 3]⟩, dead, ⟨true, none, [.iface 119 (.agg ⟨[.int .i64 3]⟩)]⟩, dead, ⟨true, none, [.int .i64 2, .int .i64 2, .int .i64 3, .int .i64 2]⟩, ⟨true, none, [.int .i64 2, .int .i64 2, .int .i64 3, .int .i64 2]⟩, ⟨true, some 4, [.int .i64 1, .int .i64 4, .int .i64 1, .int .i64 3, .int .i64 2, .int .i64 2, .int .i64 3, .int .i64 2]⟩, ⟨true, none, [.int .i64 2, .int .i64 2, .int .i64 3, .int .i64 2]⟩, ⟨true, none, [.string ⟨⟨[]⟩⟩, .string ⟨⟨[]⟩⟩]⟩, ⟨true, none, [.slice (some ⟨33, 0, none⟩) 2 2]⟩, ⟨true, none, [.iface 66 (.pointer (some ⟨34, 0, none⟩))]⟩, ⟨true, some 1, [.iface 119 (.agg ⟨[.int .i64 3]⟩), .iface 66 (.pointer (some ⟨34, 0, none⟩))]⟩, ⟨true, none, [.int .u8 x, .int .u8 y, .int .u8 z]⟩]
noncomputable def arH (L : List Value) (a b c x y z : Int) (G1 G2 : AO) : List AO := ⟨true, none, L⟩ :: (arG a b c x y z ++ [G1, G2])
abbrev arF : FuncId := 4
noncomputable abbrev arLp : Code := theLoopN Try.prog arF 0
theorem ar_one : oneLoopN Try.prog arF 0 = true := by kernel_rfl
def arO1 : Orc := fun f t x => if Nat.beq f arF then (match t with | 14 => some (.bool false) | _ => none) else none
def arO (k : Int) (i : Nat) (kk v : Int) : Orc := fun f t x =>
  if Nat.beq f arF then
    match t with
    | 24 => some (.bool true)
    | 26 => some (.int .i64 ((i + 1 : Nat) : Int))
    | 29 => some .nilIface
    | 31 => some (tld (.int .u8 kk))
    | 33 => some (.int .i64 k)
    | 41 => some .nilIface
    | 43 => some (tld (.int .u8 v))
    | 52 => some .nilIface
    | 54 => some (tld (.int .u8 v))
    | 95 => some (.bool false)
    | _ => none
  else none
end Go.Proofs.Ytafegjmaldbbiaa.Ex
