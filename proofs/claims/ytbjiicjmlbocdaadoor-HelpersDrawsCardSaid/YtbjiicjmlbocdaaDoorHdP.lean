/-
  The law HelpersDraws: its states, its rounds, its inner loop.
-/
import Derived.Test.YtbjiicjmlbocdaaDoorHd0
import Derived.Test.YtbjiicjmlbocdaaDoorEx27
namespace Go.Proofs.YtbjiicjmlbocdaaDoor.Ex
open Go Go.RowKit
set_option maxHeartbeats 0
set_option maxRecDepth 1000000
set_option linter.unusedVariables false
set_option linter.unusedSectionVars false
noncomputable def rpB (n : Nat) (x : UInt8) (l : List UInt8) : List UInt8 := Nat.rec (motive := fun _ => List UInt8) l (fun _ ih => x :: ih) n
noncomputable def hdB0 : List UInt8 := 0 :: 0 :: (3 :: (rpB 7 0 (3 :: (rpB 5 0 ([])))))
noncomputable def hdB1 : List UInt8 := rpB 8 0 ([])
noncomputable def hdB2 : List UInt8 := rpB 512 0 ([])
noncomputable def hdB3 : List UInt8 := rpB 128 0 ([])
/-- At the law's own entry. -/
noncomputable def hdE0 (n c : Nat) (a : Int) : List Value := [.slice (some ⟨1, 0, none⟩) (n) (c), .int .u8 (a), .tuple ⟨[]⟩, .tuple ⟨[]⟩, .bool false, .tuple ⟨[]⟩, .tuple ⟨[]⟩, .pointer (some ⟨34, 0, none⟩), .int .i64 0, .int .i64 0, .tuple ⟨[]⟩, .tuple ⟨[]⟩, .tuple ⟨[]⟩, .tuple ⟨[]⟩, .tuple ⟨[]⟩, .tuple ⟨[]⟩, .slice (some ⟨1, 0, none⟩) (n) (c), .int .i64 ((n : Int)), .bool false, .tuple ⟨[]⟩, .tuple ⟨[]⟩, .tuple ⟨[]⟩, .tuple ⟨[]⟩, .tuple ⟨[]⟩, .tuple ⟨[]⟩, .tuple ⟨[]⟩, .tuple ⟨[]⟩, .tuple ⟨[]⟩, .tuple ⟨[]⟩, .tuple ⟨[]⟩, .tuple ⟨[]⟩, .tuple ⟨[]⟩, .tuple ⟨[]⟩, .tuple ⟨[]⟩, .tuple ⟨[]⟩, .tuple ⟨[.pointer (some ⟨34, 0, none⟩), .int .i64 0]⟩, .agg ⟨[.slice none 0 0, .int .i64 0]⟩, .slice (some ⟨1, 0, none⟩) (n) (c), .agg ⟨[.string ⟨⟨[]⟩⟩, .int .u64 0, .slice none 0 0, .slice (some ⟨1, 0, none⟩) (n) (c)]⟩, .tuple ⟨[.pointer (some ⟨34, 0, none⟩), .int .i64 0]⟩, .pointer (some ⟨34, 0, none⟩), .int .i64 0, .int .i64 0, .bool false, .tuple ⟨[]⟩, .tuple ⟨[]⟩, .tuple ⟨[]⟩, .tuple ⟨[]⟩, .tuple ⟨[]⟩, .tuple ⟨[]⟩, .tuple ⟨[]⟩, .tuple ⟨[]⟩, .tuple ⟨[]⟩, .tuple ⟨[]⟩, .tuple ⟨[]⟩, .tuple ⟨[]⟩, .tuple ⟨[]⟩, .tuple ⟨[]⟩, .tuple ⟨[]⟩, .tuple ⟨[]⟩, .tuple ⟨[]⟩, .tuple ⟨[]⟩, .tuple ⟨[]⟩, .tuple ⟨[]⟩, .tuple ⟨[]⟩, .tuple ⟨[]⟩, .tuple ⟨[]⟩, .tuple ⟨[]⟩, .tuple ⟨[]⟩, .tuple ⟨[]⟩, .tuple ⟨[]⟩, .tuple ⟨[]⟩, .tuple ⟨[]⟩, .tuple ⟨[]⟩, .tuple ⟨[]⟩, .tuple ⟨[]⟩, .tuple ⟨[]⟩, .tuple ⟨[]⟩, .tuple ⟨[]⟩, .tuple ⟨[]⟩, .tuple ⟨[]⟩, .tuple ⟨[]⟩, .tuple ⟨[]⟩, .tuple ⟨[]⟩, .tuple ⟨[]⟩, .tuple ⟨[]⟩, .tuple ⟨[]⟩, .tuple ⟨[]⟩, .tuple ⟨[]⟩, .tuple ⟨[]⟩, .tuple ⟨[]⟩, .tuple ⟨[]⟩, .tuple ⟨[]⟩, .tuple ⟨[]⟩, .tuple ⟨[]⟩, .tuple ⟨[]⟩, .tuple ⟨[]⟩, .tuple ⟨[]⟩, .tuple ⟨[]⟩, .tuple ⟨[]⟩, .tuple ⟨[]⟩, .tuple ⟨[]⟩, .tuple ⟨[]⟩, .tuple ⟨[]⟩, .tuple ⟨[]⟩, .tuple ⟨[]⟩, .tuple ⟨[]⟩, .tuple ⟨[]⟩, .tuple ⟨[]⟩, .tuple ⟨[]⟩, .tuple ⟨[]⟩, .tuple ⟨[]⟩, .tuple ⟨[]⟩, .tuple ⟨[]⟩, .tuple ⟨[]⟩, .tuple ⟨[]⟩, .tuple ⟨[]⟩, .tuple ⟨[]⟩, .tuple ⟨[]⟩, .tuple ⟨[]⟩, .tuple ⟨[]⟩, .tuple ⟨[]⟩, .tuple ⟨[]⟩, .tuple ⟨[]⟩, .tuple ⟨[]⟩, .tuple ⟨[]⟩, .tuple ⟨[]⟩, .tuple ⟨[]⟩, .tuple ⟨[]⟩, .tuple ⟨[]⟩]
noncomputable def hdT (n c : Nat) (a i : Int) (β : Nat → Value) : List Value := [.slice (some ⟨1, 0, none⟩) n c, .int .u8 a, β 2, β 3, β 4, β 5, β 6, .pointer (some ⟨34, 0, none⟩), β 8, .int .i64 i, β 10, β 11, β 12, β 13, β 14, β 15, β 16, β 17, β 18, β 19, β 20, β 21, β 22, β 23, β 24, β 25, β 26, β 27, β 28, β 29, β 30, β 31, β 32, β 33, β 34, β 35, β 36, β 37, β 38, β 39, β 40, β 41, β 42, β 43, β 44, β 45, β 46, β 47, β 48, β 49, β 50, β 51, β 52, β 53, β 54, β 55, β 56, β 57, β 58, β 59, β 60, β 61, β 62, β 63, β 64, β 65, β 66, β 67, β 68, β 69, β 70, β 71, β 72, β 73, β 74, β 75, β 76, β 77, β 78, β 79, β 80, β 81, β 82, β 83, β 84, β 85, β 86, β 87, β 88, β 89, β 90, β 91, β 92, β 93, β 94, β 95, β 96, β 97, β 98, β 99, β 100, β 101, β 102, β 103, β 104, β 105, β 106, β 107, β 108, β 109, β 110, β 111, β 112, β 113, β 114, β 115, β 116, β 117, β 118, β 119, β 120, β 121, β 122, β 123, β 124, β 125, β 126, β 127, β 128, β 129]
noncomputable def hdI (n c : Nat) (a i k : Int) (cp : Nat) (β : Nat → Value) : List Value := [.slice (some ⟨1, 0, none⟩) n c, .int .u8 a, β 2, β 3, β 4, β 5, β 6, .pointer (some ⟨34, 0, none⟩), β 8, .int .i64 i, .pointer (some ⟨cp, 0, none⟩), .int .i64 k, β 12, β 13, β 14, β 15, β 16, β 17, β 18, β 19, β 20, β 21, β 22, β 23, β 24, β 25, β 26, β 27, β 28, β 29, β 30, β 31, β 32, β 33, β 34, β 35, β 36, β 37, β 38, β 39, β 40, β 41, β 42, β 43, β 44, β 45, β 46, β 47, β 48, β 49, β 50, β 51, β 52, β 53, β 54, β 55, β 56, β 57, β 58, β 59, β 60, β 61, β 62, β 63, β 64, β 65, β 66, β 67, β 68, β 69, β 70, β 71, β 72, β 73, β 74, β 75, β 76, β 77, β 78, β 79, β 80, β 81, β 82, β 83, β 84, β 85, β 86, β 87, β 88, β 89, β 90, β 91, β 92, β 93, β 94, β 95, β 96, β 97, β 98, β 99, β 100, β 101, β 102, β 103, β 104, β 105, β 106, β 107, β 108, β 109, β 110, β 111, β 112, β 113, β 114, β 115, β 116, β 117, β 118, β 119, β 120, β 121, β 122, β 123, β 124, β 125, β 126, β 127, β 128, β 129]
/-- So many blocks of which nothing is known. -/
noncomputable def hdX (X : Nat → AO) : Nat → Nat → List AO
  | 0, _ => []
  | k + 1, i => X i :: hdX X k (i + 1)
def hdDs : List Bool := [false, false, true, true, true, true, true, false, true, false, true, true, true, true, true, true, true, true, true, true, true, true, true, true, true, true, true, true, true, true, true, true, true, true, true, true, true, true, true, true, true, true, true, true, true, true, true, true, true, true, true, true, true, true, true, true, true, true, true, true, true, true, true, true, true, true, true, true, true, true, true, true, true, true, true, true, true, true, true, true, true, true, true, true, true, true, true, true, true, true, true, true, true, true, true, true, true, true, true, true, true, true, true, true, true, true, true, true, true, true, true, true, true, true, true, true, true, true, true, true, true, true, true, true, true, true, true, true, true, true]
def hdDi : List Bool := [false, false, true, true, true, true, true, false, true, false, false, false, true, true, true, true, true, true, true, true, true, true, true, true, true, true, true, true, true, true, true, true, true, true, true, true, true, true, true, true, true, true, true, true, true, true, true, true, true, true, true, true, true, true, true, true, true, true, true, true, true, true, true, true, true, true, true, true, true, true, true, true, true, true, true, true, true, true, true, true, true, true, true, true, true, true, true, true, true, true, true, true, true, true, true, true, true, true, true, true, true, true, true, true, true, true, true, true, true, true, true, true, true, true, true, true, true, true, true, true, true, true, true, true, true, true, true, true, true, true]
noncomputable def hdC (n c : Nat) (ps cs : List Value) (dv : Value) : List AO := [⟨true, some GM, [.int .i8 (-1), .int .i8 2, .int .i8 4, .int .i8 2, .int .i8 (-1), .int .i8 (-1), .int .i8 (-1), .int .i8 0]⟩, ⟨true, none, ps⟩, ⟨true, none, [.slice none 0 0, .int .i64 0]⟩, ⟨true, none, [.string ⟨⟨[]⟩⟩, .int .u64 0, .slice none 0 0, .slice (some ⟨1, 0, none⟩) (n) (c)]⟩, ⟨true, none, [.string ⟨⟨[]⟩⟩, .int .u64 0, .slice none 0 0, .slice (some ⟨1, 0, none⟩) (n) (c)]⟩, ⟨true, none, [.int .u64 65536, .string ⟨⟨hdB0⟩⟩, .bool false, .int .u64 65552, .string ⟨⟨hdB1⟩⟩, .bool true]⟩, ⟨true, none, [.int .u64 131072, .string ⟨⟨hdB2⟩⟩, .bool true]⟩, ⟨true, none, [.slice (some ⟨5, 0, none⟩) 2 2, .slice (some ⟨6, 0, none⟩) 1 1, .slice none 0 0, .slice none 0 0]⟩, ⟨false, none, []⟩, ⟨true, some 3, [.int .u64 65536, .string ⟨⟨hdB0⟩⟩, .bool false, .int .u64 65552, .string ⟨⟨hdB1⟩⟩, .bool true, .int .u64 131072, .string ⟨⟨hdB2⟩⟩, .bool true]⟩, ⟨true, none, [.int .u64 262144, .string ⟨⟨hdB3⟩⟩, .bool true]⟩, ⟨true, none, [.slice (some ⟨9, 0, none⟩) 3 3, .slice (some ⟨10, 0, none⟩) 1 1, .slice none 0 0]⟩, ⟨false, none, []⟩, ⟨true, some 3, [.int .u64 65536, .string ⟨⟨hdB0⟩⟩, .bool false, .int .u64 65552, .string ⟨⟨hdB1⟩⟩, .bool true, .int .u64 131072, .string ⟨⟨hdB2⟩⟩, .bool true, .int .u64 262144, .string ⟨⟨hdB3⟩⟩, .bool true]⟩, ⟨true, none, [.int .u64 65536, .slice (some ⟨17, 0, none⟩) 16 16, .bool false, .int .u64 65552, .slice (some ⟨20, 0, none⟩) 8 8, .bool true, .int .u64 131072, .slice (some ⟨23, 0, none⟩) 512 512, .bool true, .int .u64 262144, .slice (some ⟨26, 0, none⟩) 128 128, .bool true]⟩, ⟨true, none, [.bool true, .slice (some ⟨14, 0, none⟩) 4 4]⟩, ⟨true, none, [.int .u64 65536, .string ⟨⟨hdB0⟩⟩, .bool false]⟩, ⟨true, some 1, (.int .u8 0 :: .int .u8 0 :: .int .u8 3 :: rp 7 (.int .u8 0) ([.int .u8 3, .int .u8 0, .int .u8 0, .int .u8 0, .int .u8 0, .int .u8 0]))⟩, ⟨true, none, [.int .u64 65536, .slice (some ⟨17, 0, none⟩) 16 16, .bool false]⟩, ⟨true, none, [.int .u64 65552, .string ⟨⟨hdB1⟩⟩, .bool true]⟩, ⟨true, some 1, (rp 8 (.int .u8 0) ([]))⟩, ⟨true, none, [.int .u64 65552, .slice (some ⟨20, 0, none⟩) 8 8, .bool true]⟩, ⟨true, none, [.int .u64 131072, .string ⟨⟨hdB2⟩⟩, .bool true]⟩, ⟨true, some 1, (rp 512 (.int .u8 0) ([]))⟩, ⟨true, none, [.int .u64 131072, .slice (some ⟨23, 0, none⟩) 512 512, .bool true]⟩, ⟨true, none, [.int .u64 262144, .string ⟨⟨hdB3⟩⟩, .bool true]⟩, ⟨true, some 1, (rp 128 (.int .u8 0) ([]))⟩, ⟨true, none, [.int .u64 262144, .slice (some ⟨26, 0, none⟩) 128 128, .bool true]⟩, ⟨true, none, [.int .u64 65536, .slice (some ⟨17, 0, none⟩) 16 16, .bool false]⟩, ⟨true, none, [.int .u64 65552, .slice (some ⟨20, 0, none⟩) 8 8, .bool true]⟩, ⟨true, none, [.int .u64 131072, .slice (some ⟨23, 0, none⟩) 512 512, .bool true]⟩, ⟨true, none, [.bool true, .slice none 0 0, .slice none 0 0, .pointer (some ⟨15, 0, none⟩)]⟩, ⟨true, none, []⟩, ⟨true, some 1, cs⟩, ⟨true, none, [.slice none 0 0, .int .i64 0, .pointer (some ⟨15, 0, none⟩), .pointer (some ⟨31, 0, none⟩), dv, .slice (some ⟨9, 0, none⟩) 3 3]⟩]
theorem hdT_un (n c : Nat) (a i : Int) (β : Nat → Value) : unmask β 0 hdDs (hdT n c a i fun _ => .bool true) = hdT n c a i β := by kernel_rfl
theorem hdI_un (n c : Nat) (a i k : Int) (cp : Nat) (β : Nat → Value) : unmask β 0 hdDi (hdI n c a i k cp fun _ => .bool true) = hdI n c a i k cp β := by kernel_rfl
noncomputable def wu (x : Int) : Int := IntKind.u64.wrap x
noncomputable def wi (x : Int) : Int := IntKind.i64.wrap x
noncomputable def slP (s o u : Int) : Bool := (decide (0 ≤ u) && decide (u ≤ s)) && ((decide (0 ≤ o) && decide (o ≤ u)) && (decide (o = 0) || decide (o < s)))
noncomputable def hdV (cs : List Value) (j : Nat) : Int := nOfV (cs.getD j .nilFunc)
noncomputable def idP (cs : List Value) (j : Nat) : Int × Int := (b2i (decide (j < cs.length) && isKV .u64 (cs.getD j .nilFunc)), 1)
noncomputable def hdHd (n : Nat) (i a : Int) (cp : Bool) : Cs := [(b2i (decide (i < wi (n + 3))), 1), (b2i (i == wi a), b2i cp)]
/-- A draw: of more than one that are left, of one, of none. -/
noncomputable def drA (cs : List Value) (o r : Nat) : Cs := [(b2i ((r : Int) == 0), 0), (b2i (decide ((0 : Int) ≤ 0) && decide ((0 : Int) < (r : Int))), 1), idP cs o, (b2i (slP r 1 r), 1)]
noncomputable def drL (cs : List Value) (o : Nat) : Cs := [(0, 0), (1, 1), idP cs o]
/-- What the law asks of it. -/
noncomputable def laL (n : Nat) (ps cs : List Value) (o : Nat) (i : Int) : Cs := [(b2i (decide (i < n)), 1), (b2i (decide (0 ≤ i) && decide (i < n)), 1), idP ps (0 + i.toNat * 1), (b2i (hdV cs o != hdV ps (0 + i.toNat * 1)), 0), (b2i (decide (i ≥ n)), 0)]
noncomputable def laG (n : Nat) (i : Int) : Cs := [(b2i (decide (i < n)), 0), (b2i (decide (i ≥ n)), 1)]
noncomputable def rdA (n : Nat) (a : Int) (ps cs : List Value) (o r : Nat) (i : Int) : Cs := hdHd n i a false ++ (drA cs o r ++ (laL n ps cs o i ++ [(wi (i + 1), i + 1)]))
noncomputable def rdL (n : Nat) (a : Int) (ps cs : List Value) (o : Nat) (i : Int) : Cs := hdHd n i a false ++ (drL cs o ++ (laL n ps cs o i ++ [(wi (i + 1), i + 1)]))
noncomputable def rdB (n : Nat) (a i : Int) : Cs := hdHd n i a false ++ (laG n i ++ [(wi (i + 1), i + 1)])
noncomputable def hdG : List AO := [⟨true, none, [.int .u64 0, .int .u64 0, .int .u64 0, .int .u64 0, .int .u64 0]⟩, dead]
def sl (b o r : Nat) : Value := .slice (some ⟨b, o, none⟩) r r
/-- The temporaries that a round lays. -/
def hdCh (k : Nat) : Bool := (Nat.ble 44 k && Nat.ble k 54) || ((Nat.ble 97 k && Nat.ble k 128) || (Nat.beq k 14 || Nat.beq k 15))
theorem hd_A0 (n c : Nat) (a : Int) (ps cs : List Value) (o r d : Nat) (i : Int) (β : Nat → Value) (X : Nat → AO) : (hopRunL Tryd.prog hd3 (hdO i 0 false true true false) noLoop 3 (theLoopN Tryd.prog 3 1) 1 35 [] (hdT n c a i β) (hdC n c ps cs (sl 33 o r))).map (fun r => (maskR 35 hdDs r.1, r.2)) = some (hdT n c a (i + 1) fun k => bif hdCh k then .bool true else .bool (okR 35 (β k)), hdC n c ps cs (sl 33 (o + 1) (r - 1)), some 34, inter (rdA n a ps cs o r i)) := by kernel_rfl
theorem hd_L0 (n c : Nat) (a : Int) (ps cs : List Value) (o r d : Nat) (i : Int) (β : Nat → Value) (X : Nat → AO) : (hopRunL Tryd.prog hd3 (hdO1 i 0 false true true false) noLoop 3 (theLoopN Tryd.prog 3 1) 1 37 [] (hdT n c a i β) (hdC n c ps cs (sl 33 o 1))).map (fun r => (maskR 35 hdDs r.1, r.2)) = some (hdT n c a (i + 1) fun k => bif hdCh k then .bool true else .bool (okR 35 (β k)), hdC n c ps cs (sl 36 0 0) ++ hdG, some 33, inter (rdL n a ps cs o i)) := by kernel_rfl
theorem hd_A17 (n c : Nat) (a : Int) (ps cs : List Value) (o r d : Nat) (i : Int) (β : Nat → Value) (X : Nat → AO) : (hopRunL Tryd.prog hd3 (hdO i 0 false true true false) noLoop 3 (theLoopN Tryd.prog 3 1) 1 52 [] (hdT n c a i β) (hdC n c ps cs (sl 33 o r) ++ hdX X 17 0)).map (fun r => (maskR 52 hdDs r.1, r.2)) = some (hdT n c a (i + 1) fun k => bif hdCh k then .bool true else .bool (okR 52 (β k)), hdC n c ps cs (sl 33 (o + 1) (r - 1)) ++ hdX X 17 0, some 34, inter (rdA n a ps cs o r i)) := by kernel_rfl
theorem hd_L17 (n c : Nat) (a : Int) (ps cs : List Value) (o r d : Nat) (i : Int) (β : Nat → Value) (X : Nat → AO) : (hopRunL Tryd.prog hd3 (hdO1 i 0 false true true false) noLoop 3 (theLoopN Tryd.prog 3 1) 1 54 [] (hdT n c a i β) (hdC n c ps cs (sl 33 o 1) ++ hdX X 17 0)).map (fun r => (maskR 52 hdDs r.1, r.2)) = some (hdT n c a (i + 1) fun k => bif hdCh k then .bool true else .bool (okR 52 (β k)), hdC n c ps cs (sl 53 0 0) ++ hdX X 17 0 ++ hdG, some 33, inter (rdL n a ps cs o i)) := by kernel_rfl
theorem hd_B2 (n c : Nat) (a : Int) (ps cs : List Value) (o r d : Nat) (i : Int) (β : Nat → Value) (X : Nat → AO) : (hopRunL Tryd.prog hd3 (hdO i 0 false false true false) noLoop 3 (theLoopN Tryd.prog 3 1) 1 37 [] (hdT n c a i β) (hdC n c ps cs (sl d 0 0) ++ hdX X 2 0)).map (fun r => (maskR 37 hdDs r.1, r.2)) = some (hdT n c a (i + 1) fun k => bif hdCh k then .bool true else .bool (okR 37 (β k)), hdC n c ps cs (sl d 0 0) ++ hdX X 2 0, none, inter (rdB n a i)) := by kernel_rfl
theorem hd_S2 (n c : Nat) (a : Int) (ps cs : List Value) (d : Nat) (i : Int) (β : Nat → Value) (X : Nat → AO) : (stopRunL Tryd.prog hd3 (hdO i 0 false false false false) noLoop 3 (theLoopN Tryd.prog 3 1) 1 37 [] (hdT n c a i β) (hdC n c ps cs (sl d 0 0) ++ hdX X 2 0)).map (fun r => (r.1, r.2.map fun r => (maskR 37 hdDs r.1, r.2))) = some (.exit 0, some (hdT n c a i fun k => bif Nat.ble 44 k && Nat.ble k 48 then .bool true else .bool (okR 37 (β k)), hdC n c ps cs (sl d 0 0) ++ hdX X 2 0, none, inter [(b2i (decide (i < wi (n + 3))), 0)])) := by kernel_rfl
theorem hd_B16 (n c : Nat) (a : Int) (ps cs : List Value) (o r d : Nat) (i : Int) (β : Nat → Value) (X : Nat → AO) : (hopRunL Tryd.prog hd3 (hdO i 0 false false true false) noLoop 3 (theLoopN Tryd.prog 3 1) 1 51 [] (hdT n c a i β) (hdC n c ps cs (sl d 0 0) ++ hdX X 16 0)).map (fun r => (maskR 51 hdDs r.1, r.2)) = some (hdT n c a (i + 1) fun k => bif hdCh k then .bool true else .bool (okR 51 (β k)), hdC n c ps cs (sl d 0 0) ++ hdX X 16 0, none, inter (rdB n a i)) := by kernel_rfl
theorem hd_S16 (n c : Nat) (a : Int) (ps cs : List Value) (d : Nat) (i : Int) (β : Nat → Value) (X : Nat → AO) : (stopRunL Tryd.prog hd3 (hdO i 0 false false false false) noLoop 3 (theLoopN Tryd.prog 3 1) 1 51 [] (hdT n c a i β) (hdC n c ps cs (sl d 0 0) ++ hdX X 16 0)).map (fun r => (r.1, r.2.map fun r => (maskR 51 hdDs r.1, r.2))) = some (.exit 0, some (hdT n c a i fun k => bif Nat.ble 44 k && Nat.ble k 48 then .bool true else .bool (okR 51 (β k)), hdC n c ps cs (sl d 0 0) ++ hdX X 16 0, none, inter [(b2i (decide (i < wi (n + 3))), 0)])) := by kernel_rfl
theorem hd_B19 (n c : Nat) (a : Int) (ps cs : List Value) (o r d : Nat) (i : Int) (β : Nat → Value) (X : Nat → AO) : (hopRunL Tryd.prog hd3 (hdO i 0 false false true false) noLoop 3 (theLoopN Tryd.prog 3 1) 1 54 [] (hdT n c a i β) (hdC n c ps cs (sl d 0 0) ++ hdX X 19 0)).map (fun r => (maskR 54 hdDs r.1, r.2)) = some (hdT n c a (i + 1) fun k => bif hdCh k then .bool true else .bool (okR 54 (β k)), hdC n c ps cs (sl d 0 0) ++ hdX X 19 0, none, inter (rdB n a i)) := by kernel_rfl
theorem hd_S19 (n c : Nat) (a : Int) (ps cs : List Value) (d : Nat) (i : Int) (β : Nat → Value) (X : Nat → AO) : (stopRunL Tryd.prog hd3 (hdO i 0 false false false false) noLoop 3 (theLoopN Tryd.prog 3 1) 1 54 [] (hdT n c a i β) (hdC n c ps cs (sl d 0 0) ++ hdX X 19 0)).map (fun r => (r.1, r.2.map fun r => (maskR 54 hdDs r.1, r.2))) = some (.exit 0, some (hdT n c a i fun k => bif Nat.ble 44 k && Nat.ble k 48 then .bool true else .bool (okR 54 (β k)), hdC n c ps cs (sl d 0 0) ++ hdX X 19 0, none, inter [(b2i (decide (i < wi (n + 3))), 0)])) := by kernel_rfl
/-- What a copy of the world lays, from the block b on: thirteen blocks, the draws, the world. -/
noncomputable def hdY (b : Nat) : List AO := [⟨true, none, []⟩, ⟨true, some 3, [.int .u64 65536, .slice (some ⟨b + 4, 0, none⟩) 16 16, .bool false, .int .u64 65552, .slice (some ⟨b + 6, 0, none⟩) 8 8, .bool true, .int .u64 131072, .slice (some ⟨b + 8, 0, none⟩) 512 512, .bool true, .int .u64 262144, .slice (some ⟨b + 10, 0, none⟩) 128 128, .bool true]⟩, ⟨true, none, [.bool true, .slice (some ⟨b + 1, 0, none⟩) 4 4]⟩, ⟨true, none, []⟩, ⟨true, some 1, (.int .u8 0 :: .int .u8 0 :: .int .u8 3 :: rp 7 (.int .u8 0) ([.int .u8 3, .int .u8 0, .int .u8 0, .int .u8 0, .int .u8 0, .int .u8 0]))⟩, ⟨true, none, []⟩, ⟨true, some 1, (rp 8 (.int .u8 0) ([]))⟩, ⟨true, none, []⟩, ⟨true, some 1, (rp 512 (.int .u8 0) ([]))⟩, ⟨true, none, []⟩, ⟨true, some 1, (rp 128 (.int .u8 0) ([]))⟩, ⟨true, none, [.bool true, .slice none 0 0, .slice none 0 0, .pointer (some ⟨b + 2, 0, none⟩)]⟩, ⟨true, none, []⟩]
noncomputable def hdW (b : Nat) (dv : Value) : AO := ⟨true, none, [.slice none 0 0, .int .i64 0, .pointer (some ⟨b + 2, 0, none⟩), .pointer (some ⟨b + 11, 0, none⟩), dv, .slice (some ⟨9, 0, none⟩) 3 3]⟩
noncomputable def hdGi : List AO := [⟨true, none, [.int .u64 1, .int .u64 2, .int .u64 3, .int .u64 4, .int .u64 5]⟩, dead]
noncomputable def inHd (n : Nat) (k : Int) : Cs := [(b2i (decide (k < wi (n + 2))), 1)]
noncomputable def riA (n : Nat) (ps ds : List Value) (j s : Nat) (k : Int) : Cs := inHd n k ++ (drA ds j s ++ (laL n ps ds j k ++ [(wi (k + 1), k + 1)]))
noncomputable def riL (n : Nat) (ps ds : List Value) (j : Nat) (k : Int) : Cs := inHd n k ++ (drL ds j ++ (laL n ps ds j k ++ [(wi (k + 1), k + 1)]))
noncomputable def riB (n : Nat) (k : Int) : Cs := inHd n k ++ (laG n k ++ [(wi (k + 1), k + 1)])
/-- The world of the copy, ahead of the end of the draws; behind it. -/
noncomputable def hdHA (n c : Nat) (ps cs ds : List Value) (o r : Nat) (w : Value) : List AO := hdC n c ps cs (sl 33 o r) ++ (hdY 35 ++ [⟨true, some 1, ds⟩, hdW 35 w])
noncomputable def hdHL (n c : Nat) (ps cs ds : List Value) (o r : Nat) : List AO := hdC n c ps cs (sl 33 o r) ++ (hdY 35 ++ ([⟨true, some 1, ds⟩, hdW 35 (sl 51 0 0)] ++ hdGi))
noncomputable def hdHB (n c : Nat) (ps cs : List Value) : List AO := hdC n c ps cs (sl 36 0 0) ++ (hdG ++ (hdY 37 ++ [hdW 37 (sl 49 0 0)]))
def hdCi (k : Nat) : Bool := (Nat.ble 58 k && Nat.ble k 96) || (Nat.beq k 12 || Nat.beq k 13)
def hdCs (k : Nat) : Bool := Nat.ble 58 k && Nat.ble k 62
theorem hi_A (n c : Nat) (a : Int) (ps cs ds : List Value) (o r j s : Nat) (i k : Int) (β : Nat → Value) : (hopRunL Tryd.prog hd3 (hdO i k true true true true) noLoop 3 (theLoopN Tryd.prog 3 0) 1 50 [] (hdI n c a i k 49 β) (hdHA n c ps cs ds o r (sl 48 j s))).map (fun x => (maskR 50 hdDi x.1, x.2)) = some (hdI n c a i (k + 1) 49 fun y => bif hdCi y then .bool true else .bool (okR 50 (β y)), hdHA n c ps cs ds o r (sl 48 (j + 1) (s - 1)), some 49, inter (riA n ps ds j s k)) := by kernel_rfl
theorem hi_L (n c : Nat) (a : Int) (ps cs ds : List Value) (o r j s : Nat) (i k : Int) (β : Nat → Value) : (hopRunL Tryd.prog hd3 (hdO1 i k true true true true) noLoop 3 (theLoopN Tryd.prog 3 0) 1 52 [] (hdI n c a i k 49 β) (hdHA n c ps cs ds o r (sl 48 j 1))).map (fun x => (maskR 50 hdDi x.1, x.2)) = some (hdI n c a i (k + 1) 49 fun y => bif hdCi y then .bool true else .bool (okR 50 (β y)), hdHL n c ps cs ds o r, some 48, inter (riL n ps ds j k)) := by kernel_rfl
theorem hi_B (n c : Nat) (a : Int) (ps cs ds : List Value) (o r j s : Nat) (i k : Int) (β : Nat → Value) : (hopRunL Tryd.prog hd3 (hdO i k true false true true) noLoop 3 (theLoopN Tryd.prog 3 0) 1 52 [] (hdI n c a i k 49 β) (hdHL n c ps cs ds o r)).map (fun x => (maskR 52 hdDi x.1, x.2)) = some (hdI n c a i (k + 1) 49 fun y => bif hdCi y then .bool true else .bool (okR 52 (β y)), hdHL n c ps cs ds o r, none, inter (riB n k)) := by kernel_rfl
theorem hi_C (n c : Nat) (a : Int) (ps cs ds : List Value) (o r j s : Nat) (i k : Int) (β : Nat → Value) : (hopRunL Tryd.prog hd3 (hdO i k true false true true) noLoop 3 (theLoopN Tryd.prog 3 0) 1 51 [] (hdI n c a i k 50 β) (hdHB n c ps cs)).map (fun x => (maskR 51 hdDi x.1, x.2)) = some (hdI n c a i (k + 1) 50 fun y => bif hdCi y then .bool true else .bool (okR 51 (β y)), hdHB n c ps cs, none, inter (riB n k)) := by kernel_rfl
theorem hi_S (n c : Nat) (a : Int) (ps cs ds : List Value) (o r j s : Nat) (i k : Int) (β : Nat → Value) : (stopRunL Tryd.prog hd3 (hdO i k true false false false) noLoop 3 (theLoopN Tryd.prog 3 0) 1 52 [] (hdI n c a i k 49 β) (hdHL n c ps cs ds o r)).map (fun x => (x.1, x.2.map fun x => (maskR 52 hdDi x.1, x.2))) = some (.exit 2, some (hdI n c a i k 49 fun y => bif hdCs y then .bool true else .bool (okR 52 (β y)), hdHL n c ps cs ds o r, none, inter [(b2i (decide (k < wi (n + 2))), 0)])) := by kernel_rfl
theorem hi_T (n c : Nat) (a : Int) (ps cs ds : List Value) (o r j s : Nat) (i k : Int) (β : Nat → Value) : (stopRunL Tryd.prog hd3 (hdO i k true false false false) noLoop 3 (theLoopN Tryd.prog 3 0) 1 51 [] (hdI n c a i k 50 β) (hdHB n c ps cs)).map (fun x => (x.1, x.2.map fun x => (maskR 51 hdDi x.1, x.2))) = some (.exit 2, some (hdI n c a i k 50 fun y => bif hdCs y then .bool true else .bool (okR 51 (β y)), hdHB n c ps cs, none, inter [(b2i (decide (k < wi (n + 2))), 0)])) := by kernel_rfl
theorem wr64' (x : Int) : wu x = x % 18446744073709551616 := by simp [wu, IntKind.wrap, IntKind.signed, IntKind.bits]
theorem wu_id {x : Int} (h1 : 0 ≤ x) (h2 : x < 18446744073709551616) : wu x = x := by rw [wr64']; omega
theorem wi_id {x : Int} (h1 : -9223372036854775808 ≤ x) (h2 : x < 9223372036854775808) : wi x = x := by
  unfold wi IntKind.wrap
  have e : (2 : Int) ^ IntKind.i64.bits = 18446744073709551616 := rfl
  have e2 : (2 : Int) ^ (IntKind.i64.bits - 1) = 9223372036854775808 := rfl
  simp only [e, e2]
  split
  · rename_i h
    simp at h
    omega
  · rename_i h
    simp [IntKind.signed] at h
    omega
theorem b1 {p : Prop} [Decidable p] (h : p) : b2i (decide p) = 1 := by rw [decide_eq_true h]; rfl
theorem b0 {p : Prop} [Decidable p] (h : ¬p) : b2i (decide p) = 0 := by rw [decide_eq_false h]; rfl
theorem bt {x : Bool} (h : x = true) : b2i x = 1 := by rw [h]; rfl
theorem bf {x : Bool} (h : x = false) : b2i x = 0 := by rw [h]; rfl
def AE (cs : Cs) : Prop := ∀ c ∈ cs, c.1 = c.2
theorem AE.nil : AE [] := fun _ h => by cases h
theorem AE.cons {a b : Int} {l : Cs} (h : a = b) (hl : AE l) : AE ((a, b) :: l) := fun c hc => by
  rcases List.mem_cons.1 hc with rfl | hc
  · exact h
  · exact hl c hc
theorem AE.app {l m : Cs} (h : AE l) (hm : AE m) : AE (l ++ m) := fun c hc => by
  rcases List.mem_append.1 hc with hc | hc
  · exact h c hc
  · exact hm c hc

theorem isKV_scal {v : Value} (h : isKV .u64 v = true) : scal v = true := by rw [isKV_eq h]; rfl
/-- What draws are told: the p-th and those behind it. -/
structure DrOk (n : Nat) (ps xs : List Value) (p : Nat) : Prop where
  all : xs.all (isKV .u64) = true
  at' : ∀ j, p + j < n → j < xs.length ∧ xs.getD j .nilFunc = ps.getD (p + j) .nilFunc
theorem DrOk.kv {n : Nat} {ps xs : List Value} {p : Nat} (h : DrOk n ps xs p) {j : Nat} (hj : p + j < n) : (decide (j < xs.length) && isKV .u64 (xs.getD j .nilFunc)) = true := by
  have h1 := (h.at' j hj).1
  have e : xs.getD j .nilFunc = xs[j] := by simp [List.getD, h1]
  rw [decide_eq_true h1, Bool.true_and, e]
  exact List.all_eq_true.1 h.all _ (List.getElem_mem h1)
theorem idP_ok {n : Nat} {ps xs : List Value} {p : Nat} (h : DrOk n ps xs p) {j : Nat} (hj : p + j < n) : (idP xs j).1 = (idP xs j).2 := bt (h.kv hj)
theorem AE.pair {c : Int × Int} {l : Cs} (h : c.1 = c.2) (hl : AE l) : AE (c :: l) := AE.cons h hl
theorem drA_ok {n : Nat} {ps xs : List Value} {p : Nat} (h : DrOk n ps xs p) {j r : Nat} (hj : p + j < n) (hr : 2 ≤ r) : AE (drA xs j r) := by
  refine AE.cons (bf ?_) (AE.cons (bt ?_) (AE.pair (idP_ok h hj) (AE.cons (bt ?_) AE.nil)))
  · exact beq_eq_false_iff_ne.2 (by omega)
  · rw [decide_eq_true (by omega : (0 : Int) ≤ 0), decide_eq_true (by omega : (0 : Int) < (r : Int))]; rfl
  · unfold slP
    rw [decide_eq_true (by omega : (0 : Int) ≤ (r : Int)), decide_eq_true (by omega : (r : Int) ≤ (r : Int)), decide_eq_true (by omega : (0 : Int) ≤ 1), decide_eq_true (by omega : (1 : Int) ≤ (r : Int)), decide_eq_true (by omega : (1 : Int) < (r : Int))]
    simp
theorem drL_ok {n : Nat} {ps xs : List Value} {p : Nat} (h : DrOk n ps xs p) {j : Nat} (hj : p + j < n) : AE (drL xs j) :=
  AE.cons rfl (AE.cons rfl (AE.pair (idP_ok h hj) AE.nil))
theorem laL_ok {n : Nat} {ps xs : List Value} {p : Nat} (h0 : DrOk n ps ps 0) (h : DrOk n ps xs p) {j i : Nat} (hj : p + j < n) (hi : i = p + j) : AE (laL n ps xs j (i : Int)) := by
  subst hi
  have e : 0 + ((p + j : Nat) : Int).toNat * 1 = p + j := by omega
  unfold laL
  rw [e]
  refine AE.cons (b1 (by omega)) (AE.cons (bt ?_) (AE.pair (idP_ok h0 (by omega)) (AE.cons (bf ?_) (AE.cons (b0 (by omega)) AE.nil))))
  · rw [decide_eq_true (by omega : (0 : Int) ≤ ((p + j : Nat) : Int)), decide_eq_true (by omega : ((p + j : Nat) : Int) < (n : Int))]; rfl
  · unfold hdV
    rw [(h.at' j hj).2]
    simp
theorem laG_ok {n i : Nat} (hi : n ≤ i) : AE (laG n (i : Int)) := AE.cons (b0 (by omega)) (AE.cons (b1 (by omega)) AE.nil)
theorem nx_ok {i : Nat} (hi : i ≤ 200) : AE [(wi ((i : Int) + 1), (i : Int) + 1)] := AE.cons (wi_id (by omega) (by omega)) AE.nil
theorem hdHd_ok {n i : Nat} {a : Int} (hn : n ≤ 100) (hi : i < n + 3) (ha : 0 ≤ a ∧ a < 256) {cp : Bool} (hc : ((i : Int) == a) = cp) : AE (hdHd n (i : Int) a cp) := by
  unfold hdHd
  rw [wi_id (x := (n : Int) + 3) (by omega) (by omega), wi_id (x := a) (by omega) (by omega), hc]
  exact AE.cons (b1 (by omega)) (AE.cons rfl AE.nil)
theorem inHd_ok {n k : Nat} (hn : n ≤ 100) (hk : k < n + 2) : AE (inHd n (k : Int)) := by
  unfold inHd
  rw [wi_id (x := (n : Int) + 2) (by omega) (by omega)]
  exact AE.cons (b1 (by omega)) AE.nil
section
variable {n : Nat} {ps cs : List Value} {a : Int} (hn : n ≤ 100) (h0 : DrOk n ps ps 0) (hC : DrOk n ps cs 0) (ha : 0 ≤ a ∧ a < 256)
include hn h0 hC ha
theorem rdA_ok {i : Nat} (hi : i + 1 < n) (hx : ((i : Int) == a) = false) : AE (rdA n a ps cs i (n - i) (i : Int)) :=
  (hdHd_ok hn (by omega) ha hx).app ((drA_ok hC (j := i) (by omega) (by omega)).app ((laL_ok h0 hC (j := i) (by omega) (by omega)).app (nx_ok (by omega))))
theorem rdL_ok {i : Nat} (hi : i < n) (hx : ((i : Int) == a) = false) : AE (rdL n a ps cs i (i : Int)) :=
  (hdHd_ok hn (by omega) ha hx).app ((drL_ok hC (j := i) (by omega)).app ((laL_ok h0 hC (j := i) (by omega) (by omega)).app (nx_ok (by omega))))
omit h0 hC in
theorem rdB_ok {i : Nat} (hi : n ≤ i) (hi2 : i < n + 3) (hx : ((i : Int) == a) = false) : AE (rdB n a (i : Int)) :=
  (hdHd_ok hn (by omega) ha hx).app ((laG_ok hi).app (nx_ok (by omega)))
omit ha hC in
theorem riA_ok {ds : List Value} {p : Nat} (hD : DrOk n ps ds p) {j : Nat} (hj : p + j + 1 < n) : AE (riA n ps ds j (n - (p + j)) ((p + j : Nat) : Int)) :=
  (inHd_ok hn (by omega)).app ((drA_ok hD (by omega) (by omega)).app ((laL_ok h0 hD (j := j) (by omega) rfl).app (nx_ok (by omega))))
omit ha hC in
theorem riL_ok {ds : List Value} {p : Nat} (hD : DrOk n ps ds p) {j : Nat} (hj : p + j < n) : AE (riL n ps ds j ((p + j : Nat) : Int)) :=
  (inHd_ok hn (by omega)).app ((drL_ok hD (by omega)).app ((laL_ok h0 hD (j := j) (by omega) rfl).app (nx_ok (by omega))))
omit ha hC h0 in
theorem riB_ok {k : Nat} (hk : n ≤ k) (hk2 : k < n + 2) : AE (riB n (k : Int)) :=
  (inHd_ok hn (by omega)).app ((laG_ok hk).app (nx_ok (by omega)))
end
theorem kv_refO {ok : Nat → Bool} {es : Option Nat} {xs : List Value} (h : xs.all (isKV .u64) = true) : refO ok ⟨true, es, xs⟩ = true := by
  unfold refO
  simp only [Bool.not_true, Bool.false_or]
  exact List.all_eq_true.2 fun v hv => refF_scal _ (isKV_scal (List.all_eq_true.1 h v hv))
/-- A state's references: the core's two lists of cells, and what stands behind. -/
theorem hdC_split (n c : Nat) (ps cs : List Value) (dv : Value) : hdC n c ps cs dv = (hdC n c [] [] dv).take 1 ++ (⟨true, none, ps⟩ :: (((hdC n c [] [] dv).drop 2).take 31 ++ (⟨true, some 1, cs⟩ :: (hdC n c [] [] dv).drop 34))) := rfl
theorem hdC_ref {q n c : Nat} {ps cs : List Value} {dv : Value} (hp : ps.all (isKV .u64) = true) (hc : cs.all (isKV .u64) = true)
    (h : (hdC n c [] [] dv).all (refO fun x => decide (x < q)) = true) : (hdC n c ps cs dv).all (refO fun x => decide (x < q)) = true := by
  rw [hdC_split] at h ⊢
  simp only [List.all_append, List.all_cons, Bool.and_eq_true] at h ⊢
  exact ⟨h.1, kv_refO hp, h.2.2.1, kv_refO hc, h.2.2.2.2⟩
theorem hdC_deadB (n c : Nat) (ps cs : List Value) (dv : Value) : deadB (hdC n c ps cs dv) = true := by kernel_rfl
theorem deadB_app {g h : List AO} (hg : deadB g = true) (hh : deadB h = true) : deadB (g ++ h) = true := by
  unfold deadB at *
  rw [List.all_append, hg, hh]; rfl
theorem hopC_hd {n c : Nat} {ps cs : List Value} {dv : Value} {Y : List AO} {t : List Value} (q : Nat) (hq : (hdC n c ps cs dv ++ Y).length = q) (hp : ps.all (isKV .u64) = true) (hc : cs.all (isKV .u64) = true)
    (h : (hdC n c [] [] dv).all (refO fun x => decide (x < q)) = true) (ht : t.all (refF (fun x => decide (x < q)) 6) = true) (hY : Y.all (refO fun x => decide (x < q)) = true) : hopC t (hdC n c ps cs dv ++ Y) = true := by
  unfold hopC
  rw [hq, ht, List.all_append, hdC_ref hp hc h, hY]; rfl
abbrev hdF : FuncId := 3
noncomputable abbrev hdLI : Code := theLoopN Tryd.prog hdF 0
noncomputable abbrev hdLO : Code := theLoopN Tryd.prog hdF 1
theorem hd_oneI : oneLoopN Tryd.prog hdF 0 = true := by kernel_rfl
theorem hd_oneO : oneLoopN Tryd.prog hdF 1 = true := by kernel_rfl
theorem kv_all {xs ys : List AO} {q : Nat} {ds : List Value} (h : ds.all (isKV .u64) = true) (h1 : xs.all (refO fun x => decide (x < q)) = true) (h2 : ys.all (refO fun x => decide (x < q)) = true) : (xs ++ (⟨true, some 1, ds⟩ :: ys)).all (refO fun x => decide (x < q)) = true := by
  rw [List.all_append, List.all_cons, h1, kv_refO h, h2]; rfl
theorem deadB_ds {xs ys : List AO} {ds : List Value} (h1 : deadB xs = true) (h2 : deadB ys = true) : deadB (xs ++ (⟨true, some 1, ds⟩ :: ys)) = true :=
  deadB_app h1 (by unfold deadB at *; rw [List.all_cons, h2]; rfl)
section
variable {n c : Nat} {a : Int} {ps cs ds : List Value} (hp : ps.all (isKV .u64) = true) (hc : cs.all (isKV .u64) = true) (hd : ds.all (isKV .u64) = true)
include hp hc hd
theorem hA_hopC (i k : Int) (o r j s : Nat) : hopC (hdI n c a i k 49 fun _ => .bool true) (hdHA n c ps cs ds o r (sl 48 j s)) = true :=
  hopC_hd 50 (by kernel_rfl) hp hc (by kernel_rfl) (by kernel_rfl) (kv_all hd (by kernel_rfl) (by kernel_rfl))
theorem hL_hopC (i k : Int) (o r : Nat) : hopC (hdI n c a i k 49 fun _ => .bool true) (hdHL n c ps cs ds o r) = true :=
  hopC_hd 52 (by kernel_rfl) hp hc (by kernel_rfl) (by kernel_rfl) (kv_all hd (by kernel_rfl) (by kernel_rfl))
omit hd in
theorem hB_hopC (i k : Int) : hopC (hdI n c a i k 50 fun _ => .bool true) (hdHB n c ps cs) = true :=
  hopC_hd 51 (by kernel_rfl) hp hc (by kernel_rfl) (by kernel_rfl) (by kernel_rfl)
end
theorem hA_deadB (n c : Nat) (ps cs ds : List Value) (o r j s : Nat) : deadB (hdHA n c ps cs ds o r (sl 48 j s)) = true := by kernel_rfl
theorem hL_deadB (n c : Nat) (ps cs ds : List Value) (o r : Nat) : deadB (hdHL n c ps cs ds o r) = true := by kernel_rfl
theorem hB_deadB (n c : Nat) (ps cs : List Value) : deadB (hdHB n c ps cs) = true := by kernel_rfl
theorem hI_dead (n c : Nat) (a i k : Int) (cp : Nat) : deadAt hdDi (hdI n c a i k cp fun _ => .bool true) = true := by kernel_rfl
section
variable {n c : Nat} {a : Int} {ps cs ds : List Value} {p : Nat} (hn : n ≤ 100) (h0 : DrOk n ps ps 0) (hc : cs.all (isKV .u64) = true) (hD : DrOk n ps ds p)
include hn h0 hc hD
theorem hi_toL (i : Int) (o r : Nat) : ∀ (d j : Nat) (β : Nat → Value), FlR 50 β → p + j + (d + 1) = n →
    ∃ β', FlR 50 β' ∧ HopQ Tryd.prog hdLI (d + 1) 50 (hdI n c a i ((p + j : Nat) : Int) 49 β) (hdHA n c ps cs ds o r (sl 48 j (d + 1))) (hdI n c a i (n : Int) 49 β') (hdHL n c ps cs ds o r) (some 48, [])
  | 0, j, β, hβ, hj => by
    have e : ((p + j : Nat) : Int) + 1 = (n : Int) := by omega
    obtain ⟨β', h1, h2⟩ := hopR0_ok noNG hd3_ok noLoop_low (noLoop_ok _) hd_oneI (hdI_un n c a i _ 49) hdCi hβ (hi_L n c a ps cs ds o r j 0 i ((p + j : Nat) : Int) β) (by kernel_rfl) (by omega) (hI_dead ..) (hL_deadB ..) (hL_hopC h0.all hc hD.all ..) (riL_ok hn h0 hD (by omega))
    rw [e] at h2
    exact ⟨β', h1, (h2.shrink (by omega)).weak (bndW rfl)⟩
  | d + 1, j, β, hβ, hj => by
    have e : ((p + j : Nat) : Int) + 1 = ((p + (j + 1) : Nat) : Int) := by omega
    have es : d + 1 + 1 = n - (p + j) := by omega
    have hq := riA_ok hn h0 hD (j := j) (by omega)
    rw [← es] at hq
    obtain ⟨β1, h1, h2⟩ := hopR0_ok noNG hd3_ok noLoop_low (noLoop_ok _) hd_oneI (hdI_un n c a i _ 49) hdCi hβ (hi_A n c a ps cs ds o r j (d + 1 + 1) i ((p + j : Nat) : Int) β) (by kernel_rfl) (by omega) (hI_dead ..) (hA_deadB ..) (hA_hopC h0.all hc hD.all ..) hq
    rw [e] at h2
    obtain ⟨β2, h3, h4⟩ := hi_toL i o r d (j + 1) β1 h1 (by omega)
    refine ⟨β2, h3, ?_⟩
    rw [show d + 1 + 1 = 1 + (d + 1) by omega]
    rw [show 1 + (d + 1) = d + 1 + 1 by omega] at *
    have h5 := (h2.weak (bndW (lo3 := some 48) rfl)).trans h4 (fun _ _ h => h) (fun _ _ h => h)
    rw [show 1 + (d + 1) = d + 1 + 1 by omega] at h5
    exact h5
theorem hi_tail (i : Int) (o r : Nat) (β : Nat → Value) (hβ : FlR 52 β) :
    ∃ β', FlR 52 β' ∧ StopQ Tryd.prog hdLI 3 50 (hdI n c a i (n : Int) 49 β) (hdHL n c ps cs ds o r) (.exit 2) (hdI n c a i ((n + 2 : Nat) : Int) 49 β') (hdHL n c ps cs ds o r) (some 48, []) := by
  have step : ∀ (k : Nat) (β : Nat → Value), FlR 52 β → n ≤ k → k < n + 2 → ∃ β', FlR 52 β' ∧ HopQ Tryd.prog hdLI 1 50 (hdI n c a i (k : Int) 49 β) (hdHL n c ps cs ds o r) (hdI n c a i ((k + 1 : Nat) : Int) 49 β') (hdHL n c ps cs ds o r) (some 48, []) := by
    intro k β hβ h1 h2
    obtain ⟨β', h3, h4⟩ := hopR0_ok noNG hd3_ok noLoop_low (noLoop_ok _) hd_oneI (hdI_un n c a i _ 49) hdCi hβ (hi_B n c a ps cs ds o r 0 0 i (k : Int) β) (by kernel_rfl) (by omega) (hI_dead ..) (hL_deadB ..) (hL_hopC h0.all hc hD.all ..) (riB_ok hn h1 h2)
    rw [show (k : Int) + 1 = ((k + 1 : Nat) : Int) by omega] at h4
    exact ⟨β', h3, (h4.shrink (by omega)).weak (bndW rfl)⟩
  obtain ⟨β1, f1, q1⟩ := step n β hβ (by omega) (by omega)
  obtain ⟨β2, f2, q2⟩ := step (n + 1) β1 f1 (by omega) (by omega)
  have hp : AE [(b2i (decide (((n + 1 + 1 : Nat) : Int) < wi ((n : Int) + 2))), 0)] := AE.cons (b0 (by rw [wi_id (by omega) (by omega)]; omega)) AE.nil
  obtain ⟨β3, f3, q3⟩ := stopR0_ok noNG hd3_ok noLoop_low (noLoop_ok _) hd_oneI (hdI_un n c a i _ 49) hdCs f2 (hi_S n c a ps cs ds o r 0 0 i ((n + 1 + 1 : Nat) : Int) β2) (by kernel_rfl) (by omega) (hI_dead ..) (hL_deadB ..) (hL_hopC h0.all hc hD.all ..) hp
  exact ⟨β3, f3, (q1.trans q2 (fun _ _ h => h) (fun _ _ h => h)).stop ((q3.shrink (by omega)).weak (bndW (lo3 := some 48) rfl)) (fun _ _ h => h) (fun _ _ h => h)⟩
/-- The inner loop, where draws are left. -/
theorem hi_loop (i : Int) (o r : Nat) (hpn : p < n) (β : Nat → Value) (hβ : FlR 50 β) :
    ∃ β', FlR 52 β' ∧ LoopQOk Tryd.prog ⟨hdF, 0, fun _ => true, hdI n c a i (p : Int) 49 β, hdHA n c ps cs ds o r (sl 48 0 (n - p)), .exit 2, hdI n c a i ((n + 2 : Nat) : Int) 49 β', hdHL n c ps cs ds o r, (some 48, [])⟩ := by
  obtain ⟨β1, f1, q1⟩ := hi_toL (c := c) (a := a) (cs := cs) hn h0 hc hD i o r (n - p - 1) 0 β hβ (by omega)
  obtain ⟨β2, f2, q2⟩ := hi_tail (c := c) (a := a) (cs := cs) hn h0 hc hD i o r β1 (f1.mono (by omega))
  refine ⟨β2, f2, loopQ_ok (N := n - p - 1 + 1 + 3) hd_oneI ?_⟩
  have h := q1.stop q2 (fun _ _ h => h) (fun _ _ h => h)
  rw [show n - p - 1 + 1 = n - p by omega] at h ⊢
  exact h.stop (by kernel_rfl)
end
/-- The inner loop, where none is left. -/
theorem hi_loopB {n c : Nat} {a : Int} {ps cs : List Value} (hn : n ≤ 100) (hp : ps.all (isKV .u64) = true) (hc : cs.all (isKV .u64) = true) (i : Int) :
    ∀ (d p : Nat) (β : Nat → Value), FlR 51 β → n ≤ p → p + d = n + 2 →
    ∃ β', FlR 51 β' ∧ StopQ Tryd.prog hdLI (d + 1) 51 (hdI n c a i (p : Int) 50 β) (hdHB n c ps cs) (.exit 2) (hdI n c a i ((n + 2 : Nat) : Int) 50 β') (hdHB n c ps cs) (none, [])
  | 0, p, β, hβ, h1, h2 => by
    obtain rfl : p = n + 2 := by omega
    have hq : AE [(b2i (decide (((n + 2 : Nat) : Int) < wi ((n : Int) + 2))), 0)] := AE.cons (b0 (by rw [wi_id (by omega) (by omega)]; omega)) AE.nil
    obtain ⟨β3, f3, q3⟩ := stopR0_ok noNG hd3_ok noLoop_low (noLoop_ok _) hd_oneI (hdI_un n c a i _ 50) hdCs hβ (hi_T n c a ps cs [] 0 0 0 0 i ((n + 2 : Nat) : Int) β) (by kernel_rfl) (by omega) (hI_dead ..) (hB_deadB ..) (hB_hopC hp hc ..) hq
    exact ⟨β3, f3, q3⟩
  | d + 1, p, β, hβ, h1, h2 => by
    obtain ⟨β1, f1, q1⟩ := hopR0_ok noNG hd3_ok noLoop_low (noLoop_ok _) hd_oneI (hdI_un n c a i _ 50) hdCi hβ (hi_C n c a ps cs [] 0 0 0 0 i (p : Int) β) (by kernel_rfl) (by omega) (hI_dead ..) (hB_deadB ..) (hB_hopC hp hc ..) (riB_ok hn h1 (by omega))
    rw [show (p : Int) + 1 = ((p + 1 : Nat) : Int) by omega] at q1
    obtain ⟨β2, f2, q2⟩ := hi_loopB hn hp hc i d (p + 1) β1 f1 (by omega) (by omega)
    refine ⟨β2, f2, ?_⟩
    have h := q1.stop q2 (fun _ _ h => h) (fun _ _ h => h)
    rw [show 1 + (d + 1) = d + 1 + 1 by omega] at h
    exact h
end Go.Proofs.YtbjiicjmlbocdaaDoor.Ex
