/-
  Layer 11: decoding, way by way.
-/
import Derived.Test.YtokeopmmnpmfeaaDoorPackC
namespace Go.Proofs.YtokeopmmnpmfeaaDoor.Ex
set_option maxRecDepth 20000

open Go Go.RowKit
set_option linter.unusedVariables false
set_option linter.unusedSimpArgs false
set_option maxHeartbeats 0
set_option maxRecDepth 1000000
def khw0 : Way := ⟨fun s a b => q0 (b 2 == 15) ++ (pkC s a 3 ++ (q1 (decide ((b 3) < 192)) ++ (q1 ((b 2) == 137) ++ (tkC s a 3 ++ (q0 (Int.tmod (endE (b 1) (b 3)) 8 == 4) ++ (tkC s a 4 ++ (tkC s a 5 ++ (tkC s a 6 ++ (tkC s a 7 ++ (sgC [(b 4), (b 5), (b 6), (b 7)])))))))))), no 9 27 ++ (yo 20 11 ++ (yo 20 23 ++ (no 21 87))), fun b => xSd b true true (b 1) 3 8 (IntKind.i32.wrap (s4 b 4))⟩
theorem khw0e : WE hw khw0 := fun _ _ h s a => lfE h (oE hw khw0)
theorem khw0f : WF hw khw0 := fun _ _ h s a => lfE h (oF hw khw0)
theorem khw0t : WT hw khw0 := fun _ _ h s a => lfE h (oT hw khw0)
def khw1 : Way := ⟨fun s a b => q0 (b 2 == 15) ++ (pkC s a 3 ++ (q1 (decide ((b 3) < 192)) ++ (q1 ((b 2) == 137) ++ (tkC s a 3 ++ (q1 (Int.tmod (endE (b 1) (b 3)) 8 == 4) ++ (tkC s a 4 ++ (tkC s a 5 ++ (tkC s a 6 ++ (tkC s a 7 ++ (tkC s a 8 ++ (sgC [(b 5), (b 6), (b 7), (b 8)]))))))))))), no 9 27 ++ (yo 20 11 ++ (yo 20 23 ++ (yo 21 87))), fun b => xSd b true true (b 1) 3 8 (IntKind.i32.wrap (s4 b 5))⟩
theorem khw1e : WE hw khw1 := fun _ _ h s a => lfE h (oE hw khw1)
theorem khw1f : WF hw khw1 := fun _ _ h s a => lfE h (oF hw khw1)
theorem khw1t : WT hw khw1 := fun _ _ h s a => lfE h (oT hw khw1)
def khw2 : Way := ⟨fun s a b => q0 (b 2 == 15) ++ (pkC s a 3 ++ (q0 (decide ((b 3) < 192)) ++ (q1 ((b 2) == 137) ++ (tkC s a 3)))), no 9 27 ++ (no 20 11 ++ (yo 20 23)), fun b => xRM b true true (b 1) 3 1 0⟩
theorem khw2e : WE hw khw2 := fun _ _ h s a => lfE h (oE hw khw2)
theorem khw2f : WF hw khw2 := fun _ _ h s a => lfE h (oF hw khw2)
theorem khw2t : WT hw khw2 := fun _ _ h s a => lfE h (oT hw khw2)
def khw3 : Way := ⟨fun s a b => q0 (b 2 == 15) ++ (pkC s a 3 ++ (ne (b 2) [137] ++ (q1 ((b 2) == 136) ++ (tkC s a 3 ++ (q0 (Int.tmod (endE (b 1) (b 3)) 8 == 4) ++ (tkC s a 4 ++ (tkC s a 5 ++ (tkC s a 6 ++ (tkC s a 7 ++ (sgC [(b 4), (b 5), (b 6), (b 7)])))))))))), no 9 27 ++ (nos 20 [23] ++ (yo 20 30 ++ (no 21 87))), fun b => xSd b true true (b 1) 3 1 (IntKind.i32.wrap (s4 b 4))⟩
theorem khw3e : WE hw khw3 := fun _ _ h s a => lfE h (oE hw khw3)
theorem khw3f : WF hw khw3 := fun _ _ h s a => lfE h (oF hw khw3)
theorem khw3t : WT hw khw3 := fun _ _ h s a => lfE h (oT hw khw3)
def khw4 : Way := ⟨fun s a b => q0 (b 2 == 15) ++ (pkC s a 3 ++ (ne (b 2) [137] ++ (q1 ((b 2) == 136) ++ (tkC s a 3 ++ (q1 (Int.tmod (endE (b 1) (b 3)) 8 == 4) ++ (tkC s a 4 ++ (tkC s a 5 ++ (tkC s a 6 ++ (tkC s a 7 ++ (tkC s a 8 ++ (sgC [(b 5), (b 6), (b 7), (b 8)]))))))))))), no 9 27 ++ (nos 20 [23] ++ (yo 20 30 ++ (yo 21 87))), fun b => xSd b true true (b 1) 3 1 (IntKind.i32.wrap (s4 b 5))⟩
theorem khw4e : WE hw khw4 := fun _ _ h s a => lfE h (oE hw khw4)
theorem khw4f : WF hw khw4 := fun _ _ h s a => lfE h (oF hw khw4)
theorem khw4t : WT hw khw4 := fun _ _ h s a => lfE h (oT hw khw4)
def khw5 : Way := ⟨fun s a b => q0 (b 2 == 15) ++ (pkC s a 3 ++ (ne (b 2) [137, 136] ++ (q1 ((b 2) == 139) ++ (tkC s a 3 ++ (q0 (Int.tmod (endE (b 1) (b 3)) 8 == 4) ++ (tkC s a 4 ++ (tkC s a 5 ++ (tkC s a 6 ++ (tkC s a 7 ++ (sgC [(b 4), (b 5), (b 6), (b 7)])))))))))), no 9 27 ++ (nos 20 [23, 30] ++ (yo 20 34 ++ (no 21 87))), fun b => xLd b true true (b 1) 3 8 (IntKind.i32.wrap (s4 b 4))⟩
theorem khw5e : WE hw khw5 := fun _ _ h s a => lfE h (oE hw khw5)
theorem khw5f : WF hw khw5 := fun _ _ h s a => lfE h (oF hw khw5)
theorem khw5t : WT hw khw5 := fun _ _ h s a => lfE h (oT hw khw5)
def khw6 : Way := ⟨fun s a b => q0 (b 2 == 15) ++ (pkC s a 3 ++ (ne (b 2) [137, 136] ++ (q1 ((b 2) == 139) ++ (tkC s a 3 ++ (q1 (Int.tmod (endE (b 1) (b 3)) 8 == 4) ++ (tkC s a 4 ++ (tkC s a 5 ++ (tkC s a 6 ++ (tkC s a 7 ++ (tkC s a 8 ++ (sgC [(b 5), (b 6), (b 7), (b 8)]))))))))))), no 9 27 ++ (nos 20 [23, 30] ++ (yo 20 34 ++ (yo 21 87))), fun b => xLd b true true (b 1) 3 8 (IntKind.i32.wrap (s4 b 5))⟩
theorem khw6e : WE hw khw6 := fun _ _ h s a => lfE h (oE hw khw6)
theorem khw6f : WF hw khw6 := fun _ _ h s a => lfE h (oF hw khw6)
theorem khw6t : WT hw khw6 := fun _ _ h s a => lfE h (oT hw khw6)
def khw7 : Way := ⟨fun s a b => q0 (b 2 == 15) ++ (pkC s a 3 ++ (ne (b 2) [137, 136, 139] ++ (q1 ((b 2) == 133) ++ (tkC s a 3)))), no 9 27 ++ (nos 20 [23, 30, 34] ++ (yo 20 39)), fun b => xRM b true true (b 1) 3 6 0⟩
theorem khw7e : WE hw khw7 := fun _ _ h s a => lfE h (oE hw khw7)
theorem khw7f : WF hw khw7 := fun _ _ h s a => lfE h (oF hw khw7)
theorem khw7t : WT hw khw7 := fun _ _ h s a => lfE h (oT hw khw7)
def khw8 : Way := ⟨fun s a b => q0 (b 2 == 15) ++ (pkC s a 3 ++ (ne (b 2) [137, 136, 139, 133] ++ (q1 ((b 2) == 129) ++ (tkC s a 3 ++ (tkC s a 4 ++ (tkC s a 5 ++ (tkC s a 6 ++ (tkC s a 7 ++ (sgC [(b 4), (b 5), (b 6), (b 7)]))))))))), no 9 27 ++ (nos 20 [23, 30, 34, 39] ++ (yo 20 42)), fun b => xDg b true true (b 1) 3 5 (digE (b 3)) (s4 b 4)⟩
theorem khw8e : WE hw khw8 := fun _ _ h s a => lfE h (oE hw khw8)
theorem khw8f : WF hw khw8 := fun _ _ h s a => lfE h (oF hw khw8)
theorem khw8t : WT hw khw8 := fun _ _ h s a => lfE h (oT hw khw8)
def khw9 : Way := ⟨fun s a b => q0 (b 2 == 15) ++ (pkC s a 3 ++ (ne (b 2) [137, 136, 139, 133, 129] ++ (q1 ((b 2) == 199) ++ (tkC s a 3 ++ (tkC s a 4 ++ (tkC s a 5 ++ (tkC s a 6 ++ (tkC s a 7 ++ (sgC [(b 4), (b 5), (b 6), (b 7)]))))))))), no 9 27 ++ (nos 20 [23, 30, 34, 39, 42] ++ (yo 20 47)), fun b => xDg b true true (b 1) 3 2 0 (s4 b 4)⟩
theorem khw9e : WE hw khw9 := fun _ _ h s a => lfE h (oE hw khw9)
theorem khw9f : WF hw khw9 := fun _ _ h s a => lfE h (oF hw khw9)
theorem khw9t : WT hw khw9 := fun _ _ h s a => lfE h (oT hw khw9)
def khw10 : Way := ⟨fun s a b => q0 (b 2 == 15) ++ (pkC s a 3 ++ (ne (b 2) [137, 136, 139, 133, 129, 199] ++ (q1 ((b 2) == 247) ++ (q1 ((digE (b 3)) == 3) ++ (tkC s a 3))))), no 9 27 ++ (nos 20 [23, 30, 34, 39, 42, 47] ++ (yo 20 50 ++ (yo 38 5))), fun b => xDg b true true (b 1) 3 7 0 0⟩
theorem khw10e : WE hw khw10 := fun _ _ h s a => lfE h (oE hw khw10)
theorem khw10f : WF hw khw10 := fun _ _ h s a => lfE h (oF hw khw10)
theorem khw10t : WT hw khw10 := fun _ _ h s a => lfE h (oT hw khw10)
def khw11 : Way := ⟨fun s a b => q0 (b 2 == 15) ++ (pkC s a 3 ++ (ne (b 2) [137, 136, 139, 133, 129, 199] ++ (q1 ((b 2) == 247) ++ (q0 ((digE (b 3)) == 3) ++ (q1 ((digE (b 3)) == 4) ++ (tkC s a 3)))))), no 9 27 ++ (nos 20 [23, 30, 34, 39, 42, 47] ++ (yo 20 50 ++ (no 38 5 ++ (yo 38 7)))), fun b => xDg b true true (b 1) 3 8 0 0⟩
theorem khw11e : WE hw khw11 := fun _ _ h s a => lfE h (oE hw khw11)
theorem khw11f : WF hw khw11 := fun _ _ h s a => lfE h (oF hw khw11)
theorem khw11t : WT hw khw11 := fun _ _ h s a => lfE h (oT hw khw11)
def khw12 : Way := ⟨fun s a b => q0 (b 2 == 15) ++ (pkC s a 3 ++ (ne (b 2) [137, 136, 139, 133, 129, 199] ++ (q1 ((b 2) == 247) ++ (q0 ((digE (b 3)) == 3) ++ (q0 ((digE (b 3)) == 4) ++ (q1 ((digE (b 3)) == 6) ++ (tkC s a 3))))))), no 9 27 ++ (nos 20 [23, 30, 34, 39, 42, 47] ++ (yo 20 50 ++ (no 38 5 ++ (no 38 7 ++ (yo 38 9))))), fun b => xDg b true true (b 1) 3 9 0 0⟩
theorem khw12e : WE hw khw12 := fun _ _ h s a => lfE h (oE hw khw12)
theorem khw12f : WF hw khw12 := fun _ _ h s a => lfE h (oF hw khw12)
theorem khw12t : WT hw khw12 := fun _ _ h s a => lfE h (oT hw khw12)
def khw13 : Way := ⟨fun s a b => q0 (b 2 == 15) ++ (pkC s a 3 ++ (ne (b 2) [137, 136, 139, 133, 129, 199] ++ (q1 ((b 2) == 247) ++ (q0 ((digE (b 3)) == 3) ++ (q0 ((digE (b 3)) == 4) ++ (q0 ((digE (b 3)) == 6))))))), no 9 27 ++ (nos 20 [23, 30, 34, 39, 42, 47] ++ (yo 20 50 ++ (no 38 5 ++ (no 38 7 ++ (no 38 9))))), fun b => XX.z⟩
theorem khw13e : WE hw khw13 := fun _ _ h s a => lfE h (oE hw khw13)
def khw14 : Way := ⟨fun s a b => q0 (b 2 == 15) ++ (pkC s a 3 ++ (ne (b 2) [137, 136, 139, 133, 129, 199, 247] ++ (q1 ((b 2) == 193) ++ (tkC s a 3 ++ (tkC s a 4 ++ (sgC [(b 4)])))))), no 9 27 ++ (nos 20 [23, 30, 34, 39, 42, 47, 50] ++ (yo 20 55)), fun b => xDg b true true (b 1) 3 11 (digE (b 3)) (s1 b 4)⟩
theorem khw14e : WE hw khw14 := fun _ _ h s a => lfE h (oE hw khw14)
theorem khw14f : WF hw khw14 := fun _ _ h s a => lfE h (oF hw khw14)
theorem khw14t : WT hw khw14 := fun _ _ h s a => lfE h (oT hw khw14)
def khw15 : Way := ⟨fun s a b => q0 (b 2 == 15) ++ (pkC s a 3 ++ (ne (b 2) [137, 136, 139, 133, 129, 199, 247, 193] ++ (q1 ((b 2) == 211) ++ (tkC s a 3)))), no 9 27 ++ (nos 20 [23, 30, 34, 39, 42, 47, 50, 55] ++ (yo 20 60)), fun b => xDg b true true (b 1) 3 12 (digE (b 3)) 0⟩
theorem khw15e : WE hw khw15 := fun _ _ h s a => lfE h (oE hw khw15)
theorem khw15f : WF hw khw15 := fun _ _ h s a => lfE h (oF hw khw15)
theorem khw15t : WT hw khw15 := fun _ _ h s a => lfE h (oT hw khw15)
def khw16 : Way := ⟨fun s a b => q0 (b 2 == 15) ++ (pkC s a 3 ++ (ne (b 2) [137, 136, 139, 133, 129, 199, 247, 193, 211] ++ (q1 ((b 2) == 235) ++ (tkC s a 3 ++ (sgC [(b 3)]))))), no 9 27 ++ (nos 20 [23, 30, 34, 39, 42, 47, 50, 55, 60] ++ (yo 20 65)), fun b => xR true true true 15 0 (IntKind.i32.wrap (s1 b 3))⟩
theorem khw16e : WE hw khw16 := fun _ _ h s a => lfE h (oE hw khw16)
theorem khw16f : WF hw khw16 := fun _ _ h s a => lfE h (oF hw khw16)
theorem khw16t : WT hw khw16 := fun _ _ h s a => lfE h (oT hw khw16)
def khw17 : Way := ⟨fun s a b => q0 (b 2 == 15) ++ (pkC s a 3 ++ (ne (b 2) [137, 136, 139, 133, 129, 199, 247, 193, 211, 235] ++ (q1 ((b 2) == 233) ++ (tkC s a 3 ++ (tkC s a 4 ++ (tkC s a 5 ++ (tkC s a 6 ++ (sgC [(b 3), (b 4), (b 5), (b 6)])))))))), no 9 27 ++ (nos 20 [23, 30, 34, 39, 42, 47, 50, 55, 60, 65] ++ (yo 20 69)), fun b => xR true true false 15 0 (IntKind.i32.wrap (s4 b 3))⟩
theorem khw17e : WE hw khw17 := fun _ _ h s a => lfE h (oE hw khw17)
theorem khw17f : WF hw khw17 := fun _ _ h s a => lfE h (oF hw khw17)
theorem khw17t : WT hw khw17 := fun _ _ h s a => lfE h (oT hw khw17)
def khw18 : Way := ⟨fun s a b => q0 (b 2 == 15) ++ (pkC s a 3 ++ (ne (b 2) [137, 136, 139, 133, 129, 199, 247, 193, 211, 235, 233] ++ (q1 ((b 2) == 232) ++ (tkC s a 3 ++ (tkC s a 4 ++ (tkC s a 5 ++ (tkC s a 6 ++ (sgC [(b 3), (b 4), (b 5), (b 6)])))))))), no 9 27 ++ (nos 20 [23, 30, 34, 39, 42, 47, 50, 55, 60, 65, 69] ++ (yo 20 72)), fun b => xR true true false 20 0 (IntKind.i32.wrap (s4 b 3))⟩
theorem khw18e : WE hw khw18 := fun _ _ h s a => lfE h (oE hw khw18)
theorem khw18f : WF hw khw18 := fun _ _ h s a => lfE h (oF hw khw18)
theorem khw18t : WT hw khw18 := fun _ _ h s a => lfE h (oT hw khw18)
end Go.Proofs.YtokeopmmnpmfeaaDoor.Ex
