/-
  Layer 11: decoding, way by way.
-/
import Derived.Test.YtokeopmmnpmfeaaDoorPackC
namespace Go.Proofs.YtokeopmmnpmfeaaDoor.Ex
set_option maxRecDepth 20000

open Go Go.RowKit
set_option linter.unusedVariables false
set_option linter.unusedSimpArgs false
set_option maxHeartbeats 0
set_option maxRecDepth 1000000
def khr0 : Way := ⟨fun s a b => q0 (b 2 == 15) ++ (pkC s a 3 ++ (q1 (decide ((b 3) < 192)) ++ (q1 ((b 2) == 137) ++ (tkC s a 3 ++ (q0 (Int.tmod (endE (b 1) (b 3)) 8 == 4) ++ (tkC s a 4 ++ (tkC s a 5 ++ (tkC s a 6 ++ (tkC s a 7 ++ (sgC [(b 4), (b 5), (b 6), (b 7)])))))))))), no 9 27 ++ (yo 20 11 ++ (yo 20 23 ++ (no 21 87))), fun b => xSd b true false (b 1) 3 4 (IntKind.i32.wrap (s4 b 4))⟩
theorem khr0e : WE hr khr0 := fun _ _ h s a => lfE h (oE hr khr0)
theorem khr0f : WF hr khr0 := fun _ _ h s a => lfE h (oF hr khr0)
theorem khr0t : WT hr khr0 := fun _ _ h s a => lfE h (oT hr khr0)
def khr1 : Way := ⟨fun s a b => q0 (b 2 == 15) ++ (pkC s a 3 ++ (q1 (decide ((b 3) < 192)) ++ (q1 ((b 2) == 137) ++ (tkC s a 3 ++ (q1 (Int.tmod (endE (b 1) (b 3)) 8 == 4) ++ (tkC s a 4 ++ (tkC s a 5 ++ (tkC s a 6 ++ (tkC s a 7 ++ (tkC s a 8 ++ (sgC [(b 5), (b 6), (b 7), (b 8)]))))))))))), no 9 27 ++ (yo 20 11 ++ (yo 20 23 ++ (yo 21 87))), fun b => xSd b true false (b 1) 3 4 (IntKind.i32.wrap (s4 b 5))⟩
theorem khr1e : WE hr khr1 := fun _ _ h s a => lfE h (oE hr khr1)
theorem khr1f : WF hr khr1 := fun _ _ h s a => lfE h (oF hr khr1)
theorem khr1t : WT hr khr1 := fun _ _ h s a => lfE h (oT hr khr1)
def khr2 : Way := ⟨fun s a b => q0 (b 2 == 15) ++ (pkC s a 3 ++ (q0 (decide ((b 3) < 192)) ++ (q1 ((b 2) == 137) ++ (tkC s a 3)))), no 9 27 ++ (no 20 11 ++ (yo 20 23)), fun b => xRM b true false (b 1) 3 1 0⟩
theorem khr2e : WE hr khr2 := fun _ _ h s a => lfE h (oE hr khr2)
theorem khr2f : WF hr khr2 := fun _ _ h s a => lfE h (oF hr khr2)
theorem khr2t : WT hr khr2 := fun _ _ h s a => lfE h (oT hr khr2)
def khr3 : Way := ⟨fun s a b => q0 (b 2 == 15) ++ (pkC s a 3 ++ (ne (b 2) [137] ++ (q1 ((b 2) == 136) ++ (tkC s a 3 ++ (q0 (Int.tmod (endE (b 1) (b 3)) 8 == 4) ++ (tkC s a 4 ++ (tkC s a 5 ++ (tkC s a 6 ++ (tkC s a 7 ++ (sgC [(b 4), (b 5), (b 6), (b 7)])))))))))), no 9 27 ++ (nos 20 [23] ++ (yo 20 30 ++ (no 21 87))), fun b => xSd b true false (b 1) 3 1 (IntKind.i32.wrap (s4 b 4))⟩
theorem khr3e : WE hr khr3 := fun _ _ h s a => lfE h (oE hr khr3)
theorem khr3f : WF hr khr3 := fun _ _ h s a => lfE h (oF hr khr3)
theorem khr3t : WT hr khr3 := fun _ _ h s a => lfE h (oT hr khr3)
def khr4 : Way := ⟨fun s a b => q0 (b 2 == 15) ++ (pkC s a 3 ++ (ne (b 2) [137] ++ (q1 ((b 2) == 136) ++ (tkC s a 3 ++ (q1 (Int.tmod (endE (b 1) (b 3)) 8 == 4) ++ (tkC s a 4 ++ (tkC s a 5 ++ (tkC s a 6 ++ (tkC s a 7 ++ (tkC s a 8 ++ (sgC [(b 5), (b 6), (b 7), (b 8)]))))))))))), no 9 27 ++ (nos 20 [23] ++ (yo 20 30 ++ (yo 21 87))), fun b => xSd b true false (b 1) 3 1 (IntKind.i32.wrap (s4 b 5))⟩
theorem khr4e : WE hr khr4 := fun _ _ h s a => lfE h (oE hr khr4)
theorem khr4f : WF hr khr4 := fun _ _ h s a => lfE h (oF hr khr4)
theorem khr4t : WT hr khr4 := fun _ _ h s a => lfE h (oT hr khr4)
def khr5 : Way := ⟨fun s a b => q0 (b 2 == 15) ++ (pkC s a 3 ++ (ne (b 2) [137, 136] ++ (q1 ((b 2) == 139) ++ (tkC s a 3 ++ (q0 (Int.tmod (endE (b 1) (b 3)) 8 == 4) ++ (tkC s a 4 ++ (tkC s a 5 ++ (tkC s a 6 ++ (tkC s a 7 ++ (sgC [(b 4), (b 5), (b 6), (b 7)])))))))))), no 9 27 ++ (nos 20 [23, 30] ++ (yo 20 34 ++ (no 21 87))), fun b => xLd b true false (b 1) 3 4 (IntKind.i32.wrap (s4 b 4))⟩
theorem khr5e : WE hr khr5 := fun _ _ h s a => lfE h (oE hr khr5)
theorem khr5f : WF hr khr5 := fun _ _ h s a => lfE h (oF hr khr5)
theorem khr5t : WT hr khr5 := fun _ _ h s a => lfE h (oT hr khr5)
def khr6 : Way := ⟨fun s a b => q0 (b 2 == 15) ++ (pkC s a 3 ++ (ne (b 2) [137, 136] ++ (q1 ((b 2) == 139) ++ (tkC s a 3 ++ (q1 (Int.tmod (endE (b 1) (b 3)) 8 == 4) ++ (tkC s a 4 ++ (tkC s a 5 ++ (tkC s a 6 ++ (tkC s a 7 ++ (tkC s a 8 ++ (sgC [(b 5), (b 6), (b 7), (b 8)]))))))))))), no 9 27 ++ (nos 20 [23, 30] ++ (yo 20 34 ++ (yo 21 87))), fun b => xLd b true false (b 1) 3 4 (IntKind.i32.wrap (s4 b 5))⟩
theorem khr6e : WE hr khr6 := fun _ _ h s a => lfE h (oE hr khr6)
theorem khr6f : WF hr khr6 := fun _ _ h s a => lfE h (oF hr khr6)
theorem khr6t : WT hr khr6 := fun _ _ h s a => lfE h (oT hr khr6)
def khr7 : Way := ⟨fun s a b => q0 (b 2 == 15) ++ (pkC s a 3 ++ (ne (b 2) [137, 136, 139] ++ (q1 ((b 2) == 133) ++ (tkC s a 3)))), no 9 27 ++ (nos 20 [23, 30, 34] ++ (yo 20 39)), fun b => xRM b true false (b 1) 3 6 0⟩
theorem khr7e : WE hr khr7 := fun _ _ h s a => lfE h (oE hr khr7)
theorem khr7f : WF hr khr7 := fun _ _ h s a => lfE h (oF hr khr7)
theorem khr7t : WT hr khr7 := fun _ _ h s a => lfE h (oT hr khr7)
def khr8 : Way := ⟨fun s a b => q0 (b 2 == 15) ++ (pkC s a 3 ++ (ne (b 2) [137, 136, 139, 133] ++ (q1 ((b 2) == 129) ++ (tkC s a 3 ++ (tkC s a 4 ++ (tkC s a 5 ++ (tkC s a 6 ++ (tkC s a 7 ++ (sgC [(b 4), (b 5), (b 6), (b 7)]))))))))), no 9 27 ++ (nos 20 [23, 30, 34, 39] ++ (yo 20 42)), fun b => xDg b true false (b 1) 3 5 (digE (b 3)) (s4 b 4)⟩
theorem khr8e : WE hr khr8 := fun _ _ h s a => lfE h (oE hr khr8)
theorem khr8f : WF hr khr8 := fun _ _ h s a => lfE h (oF hr khr8)
theorem khr8t : WT hr khr8 := fun _ _ h s a => lfE h (oT hr khr8)
def khr9 : Way := ⟨fun s a b => q0 (b 2 == 15) ++ (pkC s a 3 ++ (ne (b 2) [137, 136, 139, 133, 129] ++ (q1 ((b 2) == 199) ++ (tkC s a 3 ++ (tkC s a 4 ++ (tkC s a 5 ++ (tkC s a 6 ++ (tkC s a 7 ++ (sgC [(b 4), (b 5), (b 6), (b 7)]))))))))), no 9 27 ++ (nos 20 [23, 30, 34, 39, 42] ++ (yo 20 47)), fun b => xDg b true false (b 1) 3 2 0 (s4 b 4)⟩
theorem khr9e : WE hr khr9 := fun _ _ h s a => lfE h (oE hr khr9)
theorem khr9f : WF hr khr9 := fun _ _ h s a => lfE h (oF hr khr9)
theorem khr9t : WT hr khr9 := fun _ _ h s a => lfE h (oT hr khr9)
def khr10 : Way := ⟨fun s a b => q0 (b 2 == 15) ++ (pkC s a 3 ++ (ne (b 2) [137, 136, 139, 133, 129, 199] ++ (q1 ((b 2) == 247) ++ (q1 ((digE (b 3)) == 3) ++ (tkC s a 3))))), no 9 27 ++ (nos 20 [23, 30, 34, 39, 42, 47] ++ (yo 20 50 ++ (yo 38 5))), fun b => xDg b true false (b 1) 3 7 0 0⟩
theorem khr10e : WE hr khr10 := fun _ _ h s a => lfE h (oE hr khr10)
theorem khr10f : WF hr khr10 := fun _ _ h s a => lfE h (oF hr khr10)
theorem khr10t : WT hr khr10 := fun _ _ h s a => lfE h (oT hr khr10)
def khr11 : Way := ⟨fun s a b => q0 (b 2 == 15) ++ (pkC s a 3 ++ (ne (b 2) [137, 136, 139, 133, 129, 199] ++ (q1 ((b 2) == 247) ++ (q0 ((digE (b 3)) == 3) ++ (q1 ((digE (b 3)) == 4) ++ (tkC s a 3)))))), no 9 27 ++ (nos 20 [23, 30, 34, 39, 42, 47] ++ (yo 20 50 ++ (no 38 5 ++ (yo 38 7)))), fun b => xDg b true false (b 1) 3 8 0 0⟩
theorem khr11e : WE hr khr11 := fun _ _ h s a => lfE h (oE hr khr11)
theorem khr11f : WF hr khr11 := fun _ _ h s a => lfE h (oF hr khr11)
theorem khr11t : WT hr khr11 := fun _ _ h s a => lfE h (oT hr khr11)
def khr12 : Way := ⟨fun s a b => q0 (b 2 == 15) ++ (pkC s a 3 ++ (ne (b 2) [137, 136, 139, 133, 129, 199] ++ (q1 ((b 2) == 247) ++ (q0 ((digE (b 3)) == 3) ++ (q0 ((digE (b 3)) == 4) ++ (q1 ((digE (b 3)) == 6) ++ (tkC s a 3))))))), no 9 27 ++ (nos 20 [23, 30, 34, 39, 42, 47] ++ (yo 20 50 ++ (no 38 5 ++ (no 38 7 ++ (yo 38 9))))), fun b => xDg b true false (b 1) 3 9 0 0⟩
theorem khr12e : WE hr khr12 := fun _ _ h s a => lfE h (oE hr khr12)
theorem khr12f : WF hr khr12 := fun _ _ h s a => lfE h (oF hr khr12)
theorem khr12t : WT hr khr12 := fun _ _ h s a => lfE h (oT hr khr12)
def khr13 : Way := ⟨fun s a b => q0 (b 2 == 15) ++ (pkC s a 3 ++ (ne (b 2) [137, 136, 139, 133, 129, 199] ++ (q1 ((b 2) == 247) ++ (q0 ((digE (b 3)) == 3) ++ (q0 ((digE (b 3)) == 4) ++ (q0 ((digE (b 3)) == 6))))))), no 9 27 ++ (nos 20 [23, 30, 34, 39, 42, 47] ++ (yo 20 50 ++ (no 38 5 ++ (no 38 7 ++ (no 38 9))))), fun b => XX.z⟩
theorem khr13e : WE hr khr13 := fun _ _ h s a => lfE h (oE hr khr13)
def khr14 : Way := ⟨fun s a b => q0 (b 2 == 15) ++ (pkC s a 3 ++ (ne (b 2) [137, 136, 139, 133, 129, 199, 247] ++ (q1 ((b 2) == 193) ++ (tkC s a 3 ++ (tkC s a 4 ++ (sgC [(b 4)])))))), no 9 27 ++ (nos 20 [23, 30, 34, 39, 42, 47, 50] ++ (yo 20 55)), fun b => xDg b true false (b 1) 3 11 (digE (b 3)) (s1 b 4)⟩
theorem khr14e : WE hr khr14 := fun _ _ h s a => lfE h (oE hr khr14)
theorem khr14f : WF hr khr14 := fun _ _ h s a => lfE h (oF hr khr14)
theorem khr14t : WT hr khr14 := fun _ _ h s a => lfE h (oT hr khr14)
def khr15 : Way := ⟨fun s a b => q0 (b 2 == 15) ++ (pkC s a 3 ++ (ne (b 2) [137, 136, 139, 133, 129, 199, 247, 193] ++ (q1 ((b 2) == 211) ++ (tkC s a 3)))), no 9 27 ++ (nos 20 [23, 30, 34, 39, 42, 47, 50, 55] ++ (yo 20 60)), fun b => xDg b true false (b 1) 3 12 (digE (b 3)) 0⟩
theorem khr15e : WE hr khr15 := fun _ _ h s a => lfE h (oE hr khr15)
theorem khr15f : WF hr khr15 := fun _ _ h s a => lfE h (oF hr khr15)
theorem khr15t : WT hr khr15 := fun _ _ h s a => lfE h (oT hr khr15)
def khr16 : Way := ⟨fun s a b => q0 (b 2 == 15) ++ (pkC s a 3 ++ (ne (b 2) [137, 136, 139, 133, 129, 199, 247, 193, 211] ++ (q1 ((b 2) == 235) ++ (tkC s a 3 ++ (sgC [(b 3)]))))), no 9 27 ++ (nos 20 [23, 30, 34, 39, 42, 47, 50, 55, 60] ++ (yo 20 65)), fun b => xR true false true 15 0 (IntKind.i32.wrap (s1 b 3))⟩
theorem khr16e : WE hr khr16 := fun _ _ h s a => lfE h (oE hr khr16)
theorem khr16f : WF hr khr16 := fun _ _ h s a => lfE h (oF hr khr16)
theorem khr16t : WT hr khr16 := fun _ _ h s a => lfE h (oT hr khr16)
def khr17 : Way := ⟨fun s a b => q0 (b 2 == 15) ++ (pkC s a 3 ++ (ne (b 2) [137, 136, 139, 133, 129, 199, 247, 193, 211, 235] ++ (q1 ((b 2) == 233) ++ (tkC s a 3 ++ (tkC s a 4 ++ (tkC s a 5 ++ (tkC s a 6 ++ (sgC [(b 3), (b 4), (b 5), (b 6)])))))))), no 9 27 ++ (nos 20 [23, 30, 34, 39, 42, 47, 50, 55, 60, 65] ++ (yo 20 69)), fun b => xR true false false 15 0 (IntKind.i32.wrap (s4 b 3))⟩
theorem khr17e : WE hr khr17 := fun _ _ h s a => lfE h (oE hr khr17)
theorem khr17f : WF hr khr17 := fun _ _ h s a => lfE h (oF hr khr17)
theorem khr17t : WT hr khr17 := fun _ _ h s a => lfE h (oT hr khr17)
def khr18 : Way := ⟨fun s a b => q0 (b 2 == 15) ++ (pkC s a 3 ++ (ne (b 2) [137, 136, 139, 133, 129, 199, 247, 193, 211, 235, 233] ++ (q1 ((b 2) == 232) ++ (tkC s a 3 ++ (tkC s a 4 ++ (tkC s a 5 ++ (tkC s a 6 ++ (sgC [(b 3), (b 4), (b 5), (b 6)])))))))), no 9 27 ++ (nos 20 [23, 30, 34, 39, 42, 47, 50, 55, 60, 65, 69] ++ (yo 20 72)), fun b => xR true false false 20 0 (IntKind.i32.wrap (s4 b 3))⟩
theorem khr18e : WE hr khr18 := fun _ _ h s a => lfE h (oE hr khr18)
theorem khr18f : WF hr khr18 := fun _ _ h s a => lfE h (oF hr khr18)
theorem khr18t : WT hr khr18 := fun _ _ h s a => lfE h (oT hr khr18)
end Go.Proofs.YtokeopmmnpmfeaaDoor.Ex
