/-
  Layer 8: the law MapsArray: what its rounds ask.
-/
import Derived.Test.YtafegjmaldbbiaaAr1
namespace Go.Proofs.Ytafegjmaldbbiaa.Ex
open Go Go.RowKit
set_option maxHeartbeats 0
set_option maxRecDepth 1000000
set_option linter.unusedVariables false
set_option linter.unusedSectionVars false
noncomputable abbrev UUU : Value := .tuple ⟨[]⟩
noncomputable def sdJ (i n : Nat) : Cs := [(b2i (decide (0 ≤ (i : Int)) && decide ((i : Int) < (n : Nat))), 1)]
noncomputable def ld1P (cs : List Value) (o : Nat) (v : Value) : Cs := [(b2i (decide (o < cs.length)), 1), (b2i (sameC (some (.value (cs.getD o .nilFunc), [], none)) (some (.value v, [], none))), 1)]
/-- A byte, as it lies in the memory. -/
noncomputable def arB (v : Int) : Int := (((UInt8.ofNat (IntKind.u8.wrap ((IntKind.u64.wrap (((UInt8.ofNat v.toNat).toNat : Nat) : Int)).fdiv 1)).toNat).toNat : Nat) : Int)
noncomputable def arS (a b c : Int) : List UInt8 := [a, b, c].map fun n => UInt8.ofNat n.toNat
noncomputable def arHd (L : List Value) (n i : Nat) (k kk v : Int) : Cs := [(b2i (decide ((i : Int) < (n : Int))), 1)] ++ (sdJ i n ++ (ld1P L (0 + i * 2 + 0) (.int .u8 kk) ++ ([((wi kk).tmod 5, k)] ++ (sdJ i n ++ ld1P L (0 + i * 2 + 1) (.int .u8 v)))))
noncomputable def arTl (a b c x y z : Int) (i : Nat) : Cs := [(b2i (!(arS a b c == arS x y z)), 0), (wi ((i : Int) + 1), ((i + 1 : Nat) : Int))]
noncomputable def arP1 (L : List Value) (n i : Nat) (k kk v a b c x y z : Int) : Cs := arHd L n i k kk v ++ (sdJ i n ++ (ld1P L (0 + i * 2 + 1) (.int .u8 v) ++ arTl a b c x y z i))
noncomputable def arP0 (L : List Value) (n i : Nat) (k kk v a b c x y z : Int) : Cs := arHd L n i k kk v ++ arTl a b c x y z i
noncomputable def arK1 (v : Int) : AO := ⟨true, none, [.int .u8 v]⟩
noncomputable def arX (a : Int) : Value := .string ⟨⟨[a].map fun n => UInt8.ofNat n.toNat⟩⟩
noncomputable def arK2 (a b c : Int) : AO := ⟨true, some 2, [.string ⟨⟨[0, 0, 0, 0]⟩⟩, arX a, .string ⟨⟨[1, 0, 0, 0]⟩⟩, arX b, .string ⟨⟨[2, 0, 0, 0]⟩⟩, arX c]⟩
def arC1 (k : Nat) : Bool := Nat.ble 7 k && Nat.ble k 11 || Nat.ble 21 k && Nat.ble k 102
def arC0 (k : Nat) : Bool := Nat.ble 7 k && Nat.ble k 11 || Nat.ble 21 k && Nat.ble k 48 || Nat.ble 56 k && Nat.ble k 102
noncomputable def arN (β : Nat → Value) : List Value := [β 0, β 1, .bool false, .pointer (some ⟨23, 0, none⟩), β 4, β 5, β 6, β 7, β 8, β 9, β 10, β 11, β 12, β 13, β 14, β 15, β 16, β 17, β 18, β 19, β 20, β 21, β 22, β 23, β 24, β 25, β 26, β 27, β 28, β 29, β 30, β 31, β 32, β 33, β 34, β 35, β 36, β 37, β 38, β 39, β 40, β 41, β 42, β 43, β 44, β 45, β 46, β 47, β 48, β 49, β 50, β 51, β 52, β 53, β 54, β 55, β 56, β 57, β 58, β 59, β 60, β 61, β 62, β 63, β 64, β 65, β 66, β 67, β 68, β 69, β 70, β 71, β 72, β 73, β 74, β 75, β 76, β 77, β 78, β 79, β 80, β 81, β 82, β 83, β 84, β 85, β 86, β 87, β 88, β 89, β 90, β 91, β 92, β 93, β 94, β 95, β 96, β 97, β 98, β 99, β 100, β 101, β 102, β 103, β 104, β 105, β 106, β 107, β 108]
def arNs : List Bool := [true, true, false, false, true, true, true, true, true, true, true, true, true, true, true, true, true, true, true, true, true, true, true, true, true, true, true, true, true, true, true, true, true, true, true, true, true, true, true, true, true, true, true, true, true, true, true, true, true, true, true, true, true, true, true, true, true, true, true, true, true, true, true, true, true, true, true, true, true, true, true, true, true, true, true, true, true, true, true, true, true, true, true, true, true, true, true, true, true, true, true, true, true, true, true, true, true, true, true, true, true, true, true, true, true, true, true, true, true]
def arQO : Orc := fun f t x => if Nat.beq f arF then (match t with | 24 => some (.bool false) | _ => none) else none
def arGO : Orc := fun f t x => if Nat.beq f arF then (match t with | 14 => some (.bool true) | _ => none) else none
end Go.Proofs.Ytafegjmaldbbiaa.Ex
