/-
  Layer 8: the law MapsArray: its runs, given what its loop comes to.
-/
import Derived.Test.YtafegjmaldbbiaaAr3
import Derived.Test.YtafegjmaldbbiaaSlice
import Derived.Test.YtafegjmaldbbiaaSliceS
namespace Go.Proofs.Ytafegjmaldbbiaa.Ex
open Go Go.RowKit
set_option maxHeartbeats 0
set_option maxRecDepth 1000000
set_option linter.unusedVariables false
set_option linter.unusedSectionVars false
noncomputable def arE (n cp : Nat) : List Value := [.slice (some ⟨0, 0, none⟩) n cp, UUU, .bool false, .pointer (some ⟨23, 0, none⟩), .pointer (some ⟨9, 0, none⟩), .pointer (some ⟨37, 0, none⟩), .int .i64 0, UUU, UUU, UUU, UUU, UUU, .slice (some ⟨0, 0, none⟩) n cp, .int .i64 (n : Int), .bool false, UUU, .tuple ⟨[.pointer (some ⟨23, 0, none⟩), .pointer (some ⟨9, 0, none⟩)]⟩, .tuple ⟨[.pointer (some ⟨23, 0, none⟩), .pointer (some ⟨9, 0, none⟩)]⟩, .pointer (some ⟨23, 0, none⟩), .pointer (some ⟨9, 0, none⟩), .agg ⟨[.int .u8 0, .int .u8 0, .int .u8 0]⟩, UUU, UUU, UUU, UUU, UUU, UUU, UUU, UUU, UUU, UUU, UUU, UUU, UUU, UUU, UUU, UUU, UUU, UUU, UUU, UUU, UUU, UUU, UUU, UUU, UUU, UUU, UUU, UUU, UUU, UUU, UUU, UUU, UUU, UUU, UUU, UUU, UUU, UUU, UUU, UUU, UUU, UUU, UUU, UUU, UUU, UUU, UUU, UUU, UUU, UUU, UUU, UUU, UUU, UUU, UUU, UUU, UUU, UUU, UUU, UUU, UUU, UUU, UUU, UUU, UUU, UUU, UUU, UUU, UUU, UUU, UUU, UUU, UUU, UUU, UUU, UUU, UUU, UUU, UUU, UUU, UUU, UUU, UUU, UUU, UUU, UUU, UUU, UUU]
theorem arE_eq (n cp : Nat) : arT n cp 0 UUU UUU (fun k => (arE n cp).getD k (.bool true)) = arE n cp := by kernel_rfl
theorem arE_ok (n cp : Nat) : FlR 38 (fun k => (arE n cp).getD k (.bool true)) := by
  have a : (arE n cp).all (okR 38) = true := by kernel_rfl
  intro k
  show okR 38 ((arE n cp).getD k (.bool true)) = true
  rw [List.getD_eq_getElem?_getD]
  cases e : (arE n cp)[k]? with
  | none => rfl
  | some v => exact List.all_eq_true.1 a v (List.mem_of_getElem? e)
noncomputable def arQ (L : List Value) (n cp : Nat) (a b c x y z : Int) (β : Nat → Value) (G1 G2 : AO) : LoopQ := ⟨arF, 0, fun _ => true, arE n cp, ⟨true, none, L⟩ :: arG 0 0 0 0 0 0, .exit 0, arN β, arH L a b c x y z G1 G2, (some 11, [])⟩
noncomputable def arP (L : List Value) (n cp : Nat) : Cs := [(b2i (decide ((n : Int) > 100)), 0), (1, 1), (1, 1), (1, 1), (1, 1), prP (arE n cp = arE n cp), prP ((⟨true, none, L⟩ :: arG 0 0 0 0 0 0 : List AO) = ⟨true, none, L⟩ :: arG 0 0 0 0 0 0)]
theorem ar_L (L : List Value) (n cp : Nat) (a b c x y z : Int) (β : Nat → Value) (G1 G2 : AO) : reckonQI Try.prog ar3 arO1 (loopQHook [arQ L n cp a b c x y z β G1 G2]) 100000 300 [⟨true, none, L⟩] arF [.slice (some ⟨0, 0, none⟩) n cp] = some (.bool true, inter (arP L n cp)) := by kernel_rfl
theorem ar_Z : (reckonQI Try.prog ar3 noOrc noLoop 100000 300 [dead] arF [.slice (some ⟨0, 0, none⟩) 0 0]).map (fun r => (r.1, eqs r.2)) = some (.bool true, true) := by kernel_rfl
theorem ar_Nl : (reckonQI Try.prog ar3 noOrc noLoop 100000 300 [] arF [.slice none 0 0]).map (fun r => (r.1, eqs r.2)) = some (.bool true, true) := by kernel_rfl
theorem ar_G (n cp : Nat) : reckonQI Try.prog ar3 arGO noLoop 100000 300 [dead] arF [.slice (some ⟨0, 0, none⟩) n cp] = some (.bool true, inter [(b2i (decide ((n : Int) > 100)), 1)]) := by kernel_rfl
end Go.Proofs.Ytafegjmaldbbiaa.Ex
