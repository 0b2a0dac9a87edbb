/-
  The law HelpersOwn: the states of its loops; what is asked in a round.
-/
import Derived.Test.YtbjiicjmlbocdaaDoorHo0
namespace Go.Proofs.YtbjiicjmlbocdaaDoor.Ex
open Go Go.RowKit
set_option maxHeartbeats 0
set_option maxRecDepth 1000000
set_option linter.unusedVariables false
/-- The state at the first inner loop's entry, as the law's own run has it. -/
noncomputable def capL (fid n slot : Nat) : LoopHook := fun f c x => if Nat.beq f fid && Nat.beq (nIn c) n then some (.ret, ⟨x.t.set slot (.tuple ⟨x.t⟩), x.h, x.m⟩) else none
noncomputable def hoH (q m : Nat) (z E a0 a1 a2 : Int) : List AO :=
  match callA Tryd.prog ⟨exG Tryd.prog (aOp Tryd.prog) (drawE Tryd.prog) ho3 (hoE q m z E) accQ (capL 4 0 6) 100000 300, ho3, fun _ _ => none, accQ⟩ 4 [.int .u8 a0, .int .u16 a1, .int .u8 a2] h09 with
  | some (_, h, _) => h
  | none => []
def hoBs (q : Nat) : List Int := bif Nat.beq q 6 then [65536, 65552, 131072, 196608, 1048576] else [65536, 65552, 131072, 1048576]
/-- What Own asks: of each region, whether the address is ahead of it (0), behind it (1), within it but not all (2), within it (3). -/
def ownO (q m : Nat) (st : List Nat) : Orc := fun f t x =>
  if Nat.beq f 11 then
    let j := (atI x 22).toNat
    let s := st.getD j 0
    match t with
    | 28 => bif Nat.beq q 6 && Nat.beq j 3 then some (.int .i64 m) else none
    | 33 => bif Nat.beq s 0 then none else some (.int .u64 (atI x 1 - (hoBs q).getD j 0))
    | 37 => some (.bool (!(Nat.beq s 0)))
    | 41 => some (.bool (Nat.ble 2 s))
    | 49 => some (.bool (Nat.beq s 3))
    | _ => none
  else none
/-- A round: the base, whether k is below 0, whether all is inside, the tests beside. -/
def hoO (q m : Nat) (st : List Nat) (A k : Int) (neg ins e1 s1 e16 s8 go : Bool) : Orc := fun f t x =>
  if Nat.beq f 4 then
    match t with
    | 66 => some (.bool go) | 76 => some (.int .u64 A) | 78 => some (.bool (!neg)) | 86 => some (.bool ins) | 92 => some (.bool e1) | 96 => some (.bool s1) | 103 => some (.bool e16) | 107 => some (.bool s8)
    | 68 => some (.int .i64 (k + 1))
    | _ => none
  else if Nat.beq f 11 && Nat.beq t 15 then some (.bool false)
  else ownO q m st f t x
noncomputable def hoT6 (m : Nat) (z i k : Int) (β : Nat → Value) : List Value := [β 0, β 1, β 2, β 3, β 4, β 5, β 6, .int .i64 (m : Int), .int .i64 z, β 9, .pointer (some ⟨3, 0, none⟩), .pointer (some ⟨71, 0, none⟩), β 12, .pointer (some ⟨93, 0, none⟩), .pointer (some ⟨94, 0, none⟩), .int .i64 i, .int .i64 k, β 17, β 18, β 19, β 20, β 21, β 22, β 23, β 24, β 25, β 26, β 27, β 28, β 29, β 30, β 31, β 32, β 33, β 34, β 35, β 36, β 37, β 38, β 39, β 40, β 41, β 42, β 43, β 44, β 45, β 46, β 47, β 48, β 49, β 50, β 51, β 52, β 53, β 54, β 55, β 56, β 57, β 58, β 59, β 60, β 61, β 62, β 63, β 64, β 65, β 66, β 67, β 68, β 69, β 70, β 71, β 72, β 73, β 74, β 75, β 76, β 77, β 78, β 79, β 80, β 81, β 82, β 83, β 84, β 85, β 86, β 87, β 88, β 89, β 90, β 91, β 92, β 93, β 94, β 95, β 96, β 97, β 98, β 99, β 100, β 101, β 102, β 103, β 104, β 105, β 106, β 107, β 108, β 109, β 110, β 111, β 112, β 113, β 114, β 115, β 116, β 117, β 118, β 119, β 120, β 121, β 122, β 123, β 124, β 125, β 126, β 127, β 128, β 129, β 130, β 131, β 132, β 133, β 134, β 135, β 136, β 137, β 138, β 139, β 140, β 141, β 142, β 143, β 144, β 145]
end Go.Proofs.YtbjiicjmlbocdaaDoor.Ex
