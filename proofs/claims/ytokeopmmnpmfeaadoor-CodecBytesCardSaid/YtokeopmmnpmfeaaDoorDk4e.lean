/-
  Layer 11: decoding, way by way.
-/
import Derived.Test.YtokeopmmnpmfeaaDoorPackC
namespace Go.Proofs.YtokeopmmnpmfeaaDoor.Ex
set_option maxRecDepth 20000

open Go Go.RowKit
set_option linter.unusedVariables false
set_option linter.unusedSimpArgs false
set_option maxHeartbeats 0
set_option maxRecDepth 1000000
def knw0 : Way := ⟨fun s a b => q0 (b 1 == 15) ++ (pkC s a 2 ++ (q1 (decide ((b 2) < 192)) ++ (q1 ((b 1) == 137) ++ (tkC s a 2 ++ (q0 (Int.tmod (endE (b 0) (b 2)) 8 == 4) ++ (tkC s a 3 ++ (tkC s a 4 ++ (tkC s a 5 ++ (tkC s a 6 ++ (sgC [(b 3), (b 4), (b 5), (b 6)])))))))))), no 9 27 ++ (yo 20 11 ++ (yo 20 23 ++ (no 21 87))), fun b => xSd b false true (b 0) 2 8 (IntKind.i32.wrap (s4 b 3))⟩
theorem knw0e : WE nw knw0 := fun _ _ h s a => lfE h (oE nw knw0)
theorem knw0f : WF nw knw0 := fun _ _ h s a => lfE h (oF nw knw0)
theorem knw0t : WT nw knw0 := fun _ _ h s a => lfE h (oT nw knw0)
def knw1 : Way := ⟨fun s a b => q0 (b 1 == 15) ++ (pkC s a 2 ++ (q1 (decide ((b 2) < 192)) ++ (q1 ((b 1) == 137) ++ (tkC s a 2 ++ (q1 (Int.tmod (endE (b 0) (b 2)) 8 == 4) ++ (tkC s a 3 ++ (tkC s a 4 ++ (tkC s a 5 ++ (tkC s a 6 ++ (tkC s a 7 ++ (sgC [(b 4), (b 5), (b 6), (b 7)]))))))))))), no 9 27 ++ (yo 20 11 ++ (yo 20 23 ++ (yo 21 87))), fun b => xSd b false true (b 0) 2 8 (IntKind.i32.wrap (s4 b 4))⟩
theorem knw1e : WE nw knw1 := fun _ _ h s a => lfE h (oE nw knw1)
theorem knw1f : WF nw knw1 := fun _ _ h s a => lfE h (oF nw knw1)
theorem knw1t : WT nw knw1 := fun _ _ h s a => lfE h (oT nw knw1)
def knw2 : Way := ⟨fun s a b => q0 (b 1 == 15) ++ (pkC s a 2 ++ (q0 (decide ((b 2) < 192)) ++ (q1 ((b 1) == 137) ++ (tkC s a 2)))), no 9 27 ++ (no 20 11 ++ (yo 20 23)), fun b => xRM b false true (b 0) 2 1 0⟩
theorem knw2e : WE nw knw2 := fun _ _ h s a => lfE h (oE nw knw2)
theorem knw2f : WF nw knw2 := fun _ _ h s a => lfE h (oF nw knw2)
theorem knw2t : WT nw knw2 := fun _ _ h s a => lfE h (oT nw knw2)
def knw3 : Way := ⟨fun s a b => q0 (b 1 == 15) ++ (pkC s a 2 ++ (ne (b 1) [137] ++ (q1 ((b 1) == 136) ++ (tkC s a 2 ++ (q0 (Int.tmod (endE (b 0) (b 2)) 8 == 4) ++ (tkC s a 3 ++ (tkC s a 4 ++ (tkC s a 5 ++ (tkC s a 6 ++ (sgC [(b 3), (b 4), (b 5), (b 6)])))))))))), no 9 27 ++ (nos 20 [23] ++ (yo 20 30 ++ (no 21 87))), fun b => xSd b false true (b 0) 2 1 (IntKind.i32.wrap (s4 b 3))⟩
theorem knw3e : WE nw knw3 := fun _ _ h s a => lfE h (oE nw knw3)
theorem knw3f : WF nw knw3 := fun _ _ h s a => lfE h (oF nw knw3)
theorem knw3t : WT nw knw3 := fun _ _ h s a => lfE h (oT nw knw3)
def knw4 : Way := ⟨fun s a b => q0 (b 1 == 15) ++ (pkC s a 2 ++ (ne (b 1) [137] ++ (q1 ((b 1) == 136) ++ (tkC s a 2 ++ (q1 (Int.tmod (endE (b 0) (b 2)) 8 == 4) ++ (tkC s a 3 ++ (tkC s a 4 ++ (tkC s a 5 ++ (tkC s a 6 ++ (tkC s a 7 ++ (sgC [(b 4), (b 5), (b 6), (b 7)]))))))))))), no 9 27 ++ (nos 20 [23] ++ (yo 20 30 ++ (yo 21 87))), fun b => xSd b false true (b 0) 2 1 (IntKind.i32.wrap (s4 b 4))⟩
theorem knw4e : WE nw knw4 := fun _ _ h s a => lfE h (oE nw knw4)
theorem knw4f : WF nw knw4 := fun _ _ h s a => lfE h (oF nw knw4)
theorem knw4t : WT nw knw4 := fun _ _ h s a => lfE h (oT nw knw4)
def knw5 : Way := ⟨fun s a b => q0 (b 1 == 15) ++ (pkC s a 2 ++ (ne (b 1) [137, 136] ++ (q1 ((b 1) == 139) ++ (tkC s a 2 ++ (q0 (Int.tmod (endE (b 0) (b 2)) 8 == 4) ++ (tkC s a 3 ++ (tkC s a 4 ++ (tkC s a 5 ++ (tkC s a 6 ++ (sgC [(b 3), (b 4), (b 5), (b 6)])))))))))), no 9 27 ++ (nos 20 [23, 30] ++ (yo 20 34 ++ (no 21 87))), fun b => xLd b false true (b 0) 2 8 (IntKind.i32.wrap (s4 b 3))⟩
theorem knw5e : WE nw knw5 := fun _ _ h s a => lfE h (oE nw knw5)
theorem knw5f : WF nw knw5 := fun _ _ h s a => lfE h (oF nw knw5)
theorem knw5t : WT nw knw5 := fun _ _ h s a => lfE h (oT nw knw5)
def knw6 : Way := ⟨fun s a b => q0 (b 1 == 15) ++ (pkC s a 2 ++ (ne (b 1) [137, 136] ++ (q1 ((b 1) == 139) ++ (tkC s a 2 ++ (q1 (Int.tmod (endE (b 0) (b 2)) 8 == 4) ++ (tkC s a 3 ++ (tkC s a 4 ++ (tkC s a 5 ++ (tkC s a 6 ++ (tkC s a 7 ++ (sgC [(b 4), (b 5), (b 6), (b 7)]))))))))))), no 9 27 ++ (nos 20 [23, 30] ++ (yo 20 34 ++ (yo 21 87))), fun b => xLd b false true (b 0) 2 8 (IntKind.i32.wrap (s4 b 4))⟩
theorem knw6e : WE nw knw6 := fun _ _ h s a => lfE h (oE nw knw6)
theorem knw6f : WF nw knw6 := fun _ _ h s a => lfE h (oF nw knw6)
theorem knw6t : WT nw knw6 := fun _ _ h s a => lfE h (oT nw knw6)
def knw7 : Way := ⟨fun s a b => q0 (b 1 == 15) ++ (pkC s a 2 ++ (ne (b 1) [137, 136, 139] ++ (q1 ((b 1) == 133) ++ (tkC s a 2)))), no 9 27 ++ (nos 20 [23, 30, 34] ++ (yo 20 39)), fun b => xRM b false true (b 0) 2 6 0⟩
theorem knw7e : WE nw knw7 := fun _ _ h s a => lfE h (oE nw knw7)
theorem knw7f : WF nw knw7 := fun _ _ h s a => lfE h (oF nw knw7)
theorem knw7t : WT nw knw7 := fun _ _ h s a => lfE h (oT nw knw7)
def knw8 : Way := ⟨fun s a b => q0 (b 1 == 15) ++ (pkC s a 2 ++ (ne (b 1) [137, 136, 139, 133] ++ (q1 ((b 1) == 129) ++ (tkC s a 2 ++ (tkC s a 3 ++ (tkC s a 4 ++ (tkC s a 5 ++ (tkC s a 6 ++ (sgC [(b 3), (b 4), (b 5), (b 6)]))))))))), no 9 27 ++ (nos 20 [23, 30, 34, 39] ++ (yo 20 42)), fun b => xDg b false true (b 0) 2 5 (digE (b 2)) (s4 b 3)⟩
theorem knw8e : WE nw knw8 := fun _ _ h s a => lfE h (oE nw knw8)
theorem knw8f : WF nw knw8 := fun _ _ h s a => lfE h (oF nw knw8)
theorem knw8t : WT nw knw8 := fun _ _ h s a => lfE h (oT nw knw8)
def knw9 : Way := ⟨fun s a b => q0 (b 1 == 15) ++ (pkC s a 2 ++ (ne (b 1) [137, 136, 139, 133, 129] ++ (q1 ((b 1) == 199) ++ (tkC s a 2 ++ (tkC s a 3 ++ (tkC s a 4 ++ (tkC s a 5 ++ (tkC s a 6 ++ (sgC [(b 3), (b 4), (b 5), (b 6)]))))))))), no 9 27 ++ (nos 20 [23, 30, 34, 39, 42] ++ (yo 20 47)), fun b => xDg b false true (b 0) 2 2 0 (s4 b 3)⟩
theorem knw9e : WE nw knw9 := fun _ _ h s a => lfE h (oE nw knw9)
theorem knw9f : WF nw knw9 := fun _ _ h s a => lfE h (oF nw knw9)
theorem knw9t : WT nw knw9 := fun _ _ h s a => lfE h (oT nw knw9)
def knw10 : Way := ⟨fun s a b => q0 (b 1 == 15) ++ (pkC s a 2 ++ (ne (b 1) [137, 136, 139, 133, 129, 199] ++ (q1 ((b 1) == 247) ++ (q1 ((digE (b 2)) == 3) ++ (tkC s a 2))))), no 9 27 ++ (nos 20 [23, 30, 34, 39, 42, 47] ++ (yo 20 50 ++ (yo 38 5))), fun b => xDg b false true (b 0) 2 7 0 0⟩
theorem knw10e : WE nw knw10 := fun _ _ h s a => lfE h (oE nw knw10)
theorem knw10f : WF nw knw10 := fun _ _ h s a => lfE h (oF nw knw10)
theorem knw10t : WT nw knw10 := fun _ _ h s a => lfE h (oT nw knw10)
def knw11 : Way := ⟨fun s a b => q0 (b 1 == 15) ++ (pkC s a 2 ++ (ne (b 1) [137, 136, 139, 133, 129, 199] ++ (q1 ((b 1) == 247) ++ (q0 ((digE (b 2)) == 3) ++ (q1 ((digE (b 2)) == 4) ++ (tkC s a 2)))))), no 9 27 ++ (nos 20 [23, 30, 34, 39, 42, 47] ++ (yo 20 50 ++ (no 38 5 ++ (yo 38 7)))), fun b => xDg b false true (b 0) 2 8 0 0⟩
theorem knw11e : WE nw knw11 := fun _ _ h s a => lfE h (oE nw knw11)
theorem knw11f : WF nw knw11 := fun _ _ h s a => lfE h (oF nw knw11)
theorem knw11t : WT nw knw11 := fun _ _ h s a => lfE h (oT nw knw11)
def knw12 : Way := ⟨fun s a b => q0 (b 1 == 15) ++ (pkC s a 2 ++ (ne (b 1) [137, 136, 139, 133, 129, 199] ++ (q1 ((b 1) == 247) ++ (q0 ((digE (b 2)) == 3) ++ (q0 ((digE (b 2)) == 4) ++ (q1 ((digE (b 2)) == 6) ++ (tkC s a 2))))))), no 9 27 ++ (nos 20 [23, 30, 34, 39, 42, 47] ++ (yo 20 50 ++ (no 38 5 ++ (no 38 7 ++ (yo 38 9))))), fun b => xDg b false true (b 0) 2 9 0 0⟩
theorem knw12e : WE nw knw12 := fun _ _ h s a => lfE h (oE nw knw12)
theorem knw12f : WF nw knw12 := fun _ _ h s a => lfE h (oF nw knw12)
theorem knw12t : WT nw knw12 := fun _ _ h s a => lfE h (oT nw knw12)
def knw13 : Way := ⟨fun s a b => q0 (b 1 == 15) ++ (pkC s a 2 ++ (ne (b 1) [137, 136, 139, 133, 129, 199] ++ (q1 ((b 1) == 247) ++ (q0 ((digE (b 2)) == 3) ++ (q0 ((digE (b 2)) == 4) ++ (q0 ((digE (b 2)) == 6))))))), no 9 27 ++ (nos 20 [23, 30, 34, 39, 42, 47] ++ (yo 20 50 ++ (no 38 5 ++ (no 38 7 ++ (no 38 9))))), fun b => XX.z⟩
theorem knw13e : WE nw knw13 := fun _ _ h s a => lfE h (oE nw knw13)
def knw14 : Way := ⟨fun s a b => q0 (b 1 == 15) ++ (pkC s a 2 ++ (ne (b 1) [137, 136, 139, 133, 129, 199, 247] ++ (q1 ((b 1) == 193) ++ (tkC s a 2 ++ (tkC s a 3 ++ (sgC [(b 3)])))))), no 9 27 ++ (nos 20 [23, 30, 34, 39, 42, 47, 50] ++ (yo 20 55)), fun b => xDg b false true (b 0) 2 11 (digE (b 2)) (s1 b 3)⟩
theorem knw14e : WE nw knw14 := fun _ _ h s a => lfE h (oE nw knw14)
theorem knw14f : WF nw knw14 := fun _ _ h s a => lfE h (oF nw knw14)
theorem knw14t : WT nw knw14 := fun _ _ h s a => lfE h (oT nw knw14)
def knw15 : Way := ⟨fun s a b => q0 (b 1 == 15) ++ (pkC s a 2 ++ (ne (b 1) [137, 136, 139, 133, 129, 199, 247, 193] ++ (q1 ((b 1) == 211) ++ (tkC s a 2)))), no 9 27 ++ (nos 20 [23, 30, 34, 39, 42, 47, 50, 55] ++ (yo 20 60)), fun b => xDg b false true (b 0) 2 12 (digE (b 2)) 0⟩
theorem knw15e : WE nw knw15 := fun _ _ h s a => lfE h (oE nw knw15)
theorem knw15f : WF nw knw15 := fun _ _ h s a => lfE h (oF nw knw15)
theorem knw15t : WT nw knw15 := fun _ _ h s a => lfE h (oT nw knw15)
def knw16 : Way := ⟨fun s a b => q0 (b 1 == 15) ++ (pkC s a 2 ++ (ne (b 1) [137, 136, 139, 133, 129, 199, 247, 193, 211] ++ (q1 ((b 1) == 235) ++ (tkC s a 2 ++ (sgC [(b 2)]))))), no 9 27 ++ (nos 20 [23, 30, 34, 39, 42, 47, 50, 55, 60] ++ (yo 20 65)), fun b => xR false true true 15 0 (IntKind.i32.wrap (s1 b 2))⟩
theorem knw16e : WE nw knw16 := fun _ _ h s a => lfE h (oE nw knw16)
theorem knw16f : WF nw knw16 := fun _ _ h s a => lfE h (oF nw knw16)
theorem knw16t : WT nw knw16 := fun _ _ h s a => lfE h (oT nw knw16)
def knw17 : Way := ⟨fun s a b => q0 (b 1 == 15) ++ (pkC s a 2 ++ (ne (b 1) [137, 136, 139, 133, 129, 199, 247, 193, 211, 235] ++ (q1 ((b 1) == 233) ++ (tkC s a 2 ++ (tkC s a 3 ++ (tkC s a 4 ++ (tkC s a 5 ++ (sgC [(b 2), (b 3), (b 4), (b 5)])))))))), no 9 27 ++ (nos 20 [23, 30, 34, 39, 42, 47, 50, 55, 60, 65] ++ (yo 20 69)), fun b => xR false true false 15 0 (IntKind.i32.wrap (s4 b 2))⟩
theorem knw17e : WE nw knw17 := fun _ _ h s a => lfE h (oE nw knw17)
theorem knw17f : WF nw knw17 := fun _ _ h s a => lfE h (oF nw knw17)
theorem knw17t : WT nw knw17 := fun _ _ h s a => lfE h (oT nw knw17)
def knw18 : Way := ⟨fun s a b => q0 (b 1 == 15) ++ (pkC s a 2 ++ (ne (b 1) [137, 136, 139, 133, 129, 199, 247, 193, 211, 235, 233] ++ (q1 ((b 1) == 232) ++ (tkC s a 2 ++ (tkC s a 3 ++ (tkC s a 4 ++ (tkC s a 5 ++ (sgC [(b 2), (b 3), (b 4), (b 5)])))))))), no 9 27 ++ (nos 20 [23, 30, 34, 39, 42, 47, 50, 55, 60, 65, 69] ++ (yo 20 72)), fun b => xR false true false 20 0 (IntKind.i32.wrap (s4 b 2))⟩
theorem knw18e : WE nw knw18 := fun _ _ h s a => lfE h (oE nw knw18)
theorem knw18f : WF nw knw18 := fun _ _ h s a => lfE h (oF nw knw18)
theorem knw18t : WT nw knw18 := fun _ _ h s a => lfE h (oT nw knw18)
end Go.Proofs.YtokeopmmnpmfeaaDoor.Ex
