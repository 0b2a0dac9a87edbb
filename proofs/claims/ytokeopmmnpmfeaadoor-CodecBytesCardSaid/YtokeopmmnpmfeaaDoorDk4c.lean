/-
  Layer 11: decoding, way by way.
-/
import Derived.Test.YtokeopmmnpmfeaaDoorPackC
namespace Go.Proofs.YtokeopmmnpmfeaaDoor.Ex
set_option maxRecDepth 20000

open Go Go.RowKit
set_option linter.unusedVariables false
set_option linter.unusedSimpArgs false
set_option maxHeartbeats 0
set_option maxRecDepth 1000000
def knr0 : Way := ⟨fun s a b => q0 (b 1 == 15) ++ (pkC s a 2 ++ (q1 (decide ((b 2) < 192)) ++ (q1 ((b 1) == 137) ++ (tkC s a 2 ++ (q0 (Int.tmod (endE (b 0) (b 2)) 8 == 4) ++ (tkC s a 3 ++ (tkC s a 4 ++ (tkC s a 5 ++ (tkC s a 6 ++ (sgC [(b 3), (b 4), (b 5), (b 6)])))))))))), no 9 27 ++ (yo 20 11 ++ (yo 20 23 ++ (no 21 87))), fun b => xSd b false false (b 0) 2 4 (IntKind.i32.wrap (s4 b 3))⟩
theorem knr0e : WE nr knr0 := fun _ _ h s a => lfE h (oE nr knr0)
theorem knr0f : WF nr knr0 := fun _ _ h s a => lfE h (oF nr knr0)
theorem knr0t : WT nr knr0 := fun _ _ h s a => lfE h (oT nr knr0)
def knr1 : Way := ⟨fun s a b => q0 (b 1 == 15) ++ (pkC s a 2 ++ (q1 (decide ((b 2) < 192)) ++ (q1 ((b 1) == 137) ++ (tkC s a 2 ++ (q1 (Int.tmod (endE (b 0) (b 2)) 8 == 4) ++ (tkC s a 3 ++ (tkC s a 4 ++ (tkC s a 5 ++ (tkC s a 6 ++ (tkC s a 7 ++ (sgC [(b 4), (b 5), (b 6), (b 7)]))))))))))), no 9 27 ++ (yo 20 11 ++ (yo 20 23 ++ (yo 21 87))), fun b => xSd b false false (b 0) 2 4 (IntKind.i32.wrap (s4 b 4))⟩
theorem knr1e : WE nr knr1 := fun _ _ h s a => lfE h (oE nr knr1)
theorem knr1f : WF nr knr1 := fun _ _ h s a => lfE h (oF nr knr1)
theorem knr1t : WT nr knr1 := fun _ _ h s a => lfE h (oT nr knr1)
def knr2 : Way := ⟨fun s a b => q0 (b 1 == 15) ++ (pkC s a 2 ++ (q0 (decide ((b 2) < 192)) ++ (q1 ((b 1) == 137) ++ (tkC s a 2)))), no 9 27 ++ (no 20 11 ++ (yo 20 23)), fun b => xRM b false false (b 0) 2 1 0⟩
theorem knr2e : WE nr knr2 := fun _ _ h s a => lfE h (oE nr knr2)
theorem knr2f : WF nr knr2 := fun _ _ h s a => lfE h (oF nr knr2)
theorem knr2t : WT nr knr2 := fun _ _ h s a => lfE h (oT nr knr2)
def knr3 : Way := ⟨fun s a b => q0 (b 1 == 15) ++ (pkC s a 2 ++ (ne (b 1) [137] ++ (q1 ((b 1) == 136) ++ (tkC s a 2 ++ (q0 (Int.tmod (endE (b 0) (b 2)) 8 == 4) ++ (tkC s a 3 ++ (tkC s a 4 ++ (tkC s a 5 ++ (tkC s a 6 ++ (sgC [(b 3), (b 4), (b 5), (b 6)])))))))))), no 9 27 ++ (nos 20 [23] ++ (yo 20 30 ++ (no 21 87))), fun b => xSd b false false (b 0) 2 1 (IntKind.i32.wrap (s4 b 3))⟩
theorem knr3e : WE nr knr3 := fun _ _ h s a => lfE h (oE nr knr3)
theorem knr3f : WF nr knr3 := fun _ _ h s a => lfE h (oF nr knr3)
theorem knr3t : WT nr knr3 := fun _ _ h s a => lfE h (oT nr knr3)
def knr4 : Way := ⟨fun s a b => q0 (b 1 == 15) ++ (pkC s a 2 ++ (ne (b 1) [137] ++ (q1 ((b 1) == 136) ++ (tkC s a 2 ++ (q1 (Int.tmod (endE (b 0) (b 2)) 8 == 4) ++ (tkC s a 3 ++ (tkC s a 4 ++ (tkC s a 5 ++ (tkC s a 6 ++ (tkC s a 7 ++ (sgC [(b 4), (b 5), (b 6), (b 7)]))))))))))), no 9 27 ++ (nos 20 [23] ++ (yo 20 30 ++ (yo 21 87))), fun b => xSd b false false (b 0) 2 1 (IntKind.i32.wrap (s4 b 4))⟩
theorem knr4e : WE nr knr4 := fun _ _ h s a => lfE h (oE nr knr4)
theorem knr4f : WF nr knr4 := fun _ _ h s a => lfE h (oF nr knr4)
theorem knr4t : WT nr knr4 := fun _ _ h s a => lfE h (oT nr knr4)
def knr5 : Way := ⟨fun s a b => q0 (b 1 == 15) ++ (pkC s a 2 ++ (ne (b 1) [137, 136] ++ (q1 ((b 1) == 139) ++ (tkC s a 2 ++ (q0 (Int.tmod (endE (b 0) (b 2)) 8 == 4) ++ (tkC s a 3 ++ (tkC s a 4 ++ (tkC s a 5 ++ (tkC s a 6 ++ (sgC [(b 3), (b 4), (b 5), (b 6)])))))))))), no 9 27 ++ (nos 20 [23, 30] ++ (yo 20 34 ++ (no 21 87))), fun b => xLd b false false (b 0) 2 4 (IntKind.i32.wrap (s4 b 3))⟩
theorem knr5e : WE nr knr5 := fun _ _ h s a => lfE h (oE nr knr5)
theorem knr5f : WF nr knr5 := fun _ _ h s a => lfE h (oF nr knr5)
theorem knr5t : WT nr knr5 := fun _ _ h s a => lfE h (oT nr knr5)
def knr6 : Way := ⟨fun s a b => q0 (b 1 == 15) ++ (pkC s a 2 ++ (ne (b 1) [137, 136] ++ (q1 ((b 1) == 139) ++ (tkC s a 2 ++ (q1 (Int.tmod (endE (b 0) (b 2)) 8 == 4) ++ (tkC s a 3 ++ (tkC s a 4 ++ (tkC s a 5 ++ (tkC s a 6 ++ (tkC s a 7 ++ (sgC [(b 4), (b 5), (b 6), (b 7)]))))))))))), no 9 27 ++ (nos 20 [23, 30] ++ (yo 20 34 ++ (yo 21 87))), fun b => xLd b false false (b 0) 2 4 (IntKind.i32.wrap (s4 b 4))⟩
theorem knr6e : WE nr knr6 := fun _ _ h s a => lfE h (oE nr knr6)
theorem knr6f : WF nr knr6 := fun _ _ h s a => lfE h (oF nr knr6)
theorem knr6t : WT nr knr6 := fun _ _ h s a => lfE h (oT nr knr6)
def knr7 : Way := ⟨fun s a b => q0 (b 1 == 15) ++ (pkC s a 2 ++ (ne (b 1) [137, 136, 139] ++ (q1 ((b 1) == 133) ++ (tkC s a 2)))), no 9 27 ++ (nos 20 [23, 30, 34] ++ (yo 20 39)), fun b => xRM b false false (b 0) 2 6 0⟩
theorem knr7e : WE nr knr7 := fun _ _ h s a => lfE h (oE nr knr7)
theorem knr7f : WF nr knr7 := fun _ _ h s a => lfE h (oF nr knr7)
theorem knr7t : WT nr knr7 := fun _ _ h s a => lfE h (oT nr knr7)
def knr8 : Way := ⟨fun s a b => q0 (b 1 == 15) ++ (pkC s a 2 ++ (ne (b 1) [137, 136, 139, 133] ++ (q1 ((b 1) == 129) ++ (tkC s a 2 ++ (tkC s a 3 ++ (tkC s a 4 ++ (tkC s a 5 ++ (tkC s a 6 ++ (sgC [(b 3), (b 4), (b 5), (b 6)]))))))))), no 9 27 ++ (nos 20 [23, 30, 34, 39] ++ (yo 20 42)), fun b => xDg b false false (b 0) 2 5 (digE (b 2)) (s4 b 3)⟩
theorem knr8e : WE nr knr8 := fun _ _ h s a => lfE h (oE nr knr8)
theorem knr8f : WF nr knr8 := fun _ _ h s a => lfE h (oF nr knr8)
theorem knr8t : WT nr knr8 := fun _ _ h s a => lfE h (oT nr knr8)
def knr9 : Way := ⟨fun s a b => q0 (b 1 == 15) ++ (pkC s a 2 ++ (ne (b 1) [137, 136, 139, 133, 129] ++ (q1 ((b 1) == 199) ++ (tkC s a 2 ++ (tkC s a 3 ++ (tkC s a 4 ++ (tkC s a 5 ++ (tkC s a 6 ++ (sgC [(b 3), (b 4), (b 5), (b 6)]))))))))), no 9 27 ++ (nos 20 [23, 30, 34, 39, 42] ++ (yo 20 47)), fun b => xDg b false false (b 0) 2 2 0 (s4 b 3)⟩
theorem knr9e : WE nr knr9 := fun _ _ h s a => lfE h (oE nr knr9)
theorem knr9f : WF nr knr9 := fun _ _ h s a => lfE h (oF nr knr9)
theorem knr9t : WT nr knr9 := fun _ _ h s a => lfE h (oT nr knr9)
def knr10 : Way := ⟨fun s a b => q0 (b 1 == 15) ++ (pkC s a 2 ++ (ne (b 1) [137, 136, 139, 133, 129, 199] ++ (q1 ((b 1) == 247) ++ (q1 ((digE (b 2)) == 3) ++ (tkC s a 2))))), no 9 27 ++ (nos 20 [23, 30, 34, 39, 42, 47] ++ (yo 20 50 ++ (yo 38 5))), fun b => xDg b false false (b 0) 2 7 0 0⟩
theorem knr10e : WE nr knr10 := fun _ _ h s a => lfE h (oE nr knr10)
theorem knr10f : WF nr knr10 := fun _ _ h s a => lfE h (oF nr knr10)
theorem knr10t : WT nr knr10 := fun _ _ h s a => lfE h (oT nr knr10)
def knr11 : Way := ⟨fun s a b => q0 (b 1 == 15) ++ (pkC s a 2 ++ (ne (b 1) [137, 136, 139, 133, 129, 199] ++ (q1 ((b 1) == 247) ++ (q0 ((digE (b 2)) == 3) ++ (q1 ((digE (b 2)) == 4) ++ (tkC s a 2)))))), no 9 27 ++ (nos 20 [23, 30, 34, 39, 42, 47] ++ (yo 20 50 ++ (no 38 5 ++ (yo 38 7)))), fun b => xDg b false false (b 0) 2 8 0 0⟩
theorem knr11e : WE nr knr11 := fun _ _ h s a => lfE h (oE nr knr11)
theorem knr11f : WF nr knr11 := fun _ _ h s a => lfE h (oF nr knr11)
theorem knr11t : WT nr knr11 := fun _ _ h s a => lfE h (oT nr knr11)
def knr12 : Way := ⟨fun s a b => q0 (b 1 == 15) ++ (pkC s a 2 ++ (ne (b 1) [137, 136, 139, 133, 129, 199] ++ (q1 ((b 1) == 247) ++ (q0 ((digE (b 2)) == 3) ++ (q0 ((digE (b 2)) == 4) ++ (q1 ((digE (b 2)) == 6) ++ (tkC s a 2))))))), no 9 27 ++ (nos 20 [23, 30, 34, 39, 42, 47] ++ (yo 20 50 ++ (no 38 5 ++ (no 38 7 ++ (yo 38 9))))), fun b => xDg b false false (b 0) 2 9 0 0⟩
theorem knr12e : WE nr knr12 := fun _ _ h s a => lfE h (oE nr knr12)
theorem knr12f : WF nr knr12 := fun _ _ h s a => lfE h (oF nr knr12)
theorem knr12t : WT nr knr12 := fun _ _ h s a => lfE h (oT nr knr12)
def knr13 : Way := ⟨fun s a b => q0 (b 1 == 15) ++ (pkC s a 2 ++ (ne (b 1) [137, 136, 139, 133, 129, 199] ++ (q1 ((b 1) == 247) ++ (q0 ((digE (b 2)) == 3) ++ (q0 ((digE (b 2)) == 4) ++ (q0 ((digE (b 2)) == 6))))))), no 9 27 ++ (nos 20 [23, 30, 34, 39, 42, 47] ++ (yo 20 50 ++ (no 38 5 ++ (no 38 7 ++ (no 38 9))))), fun b => XX.z⟩
theorem knr13e : WE nr knr13 := fun _ _ h s a => lfE h (oE nr knr13)
def knr14 : Way := ⟨fun s a b => q0 (b 1 == 15) ++ (pkC s a 2 ++ (ne (b 1) [137, 136, 139, 133, 129, 199, 247] ++ (q1 ((b 1) == 193) ++ (tkC s a 2 ++ (tkC s a 3 ++ (sgC [(b 3)])))))), no 9 27 ++ (nos 20 [23, 30, 34, 39, 42, 47, 50] ++ (yo 20 55)), fun b => xDg b false false (b 0) 2 11 (digE (b 2)) (s1 b 3)⟩
theorem knr14e : WE nr knr14 := fun _ _ h s a => lfE h (oE nr knr14)
theorem knr14f : WF nr knr14 := fun _ _ h s a => lfE h (oF nr knr14)
theorem knr14t : WT nr knr14 := fun _ _ h s a => lfE h (oT nr knr14)
def knr15 : Way := ⟨fun s a b => q0 (b 1 == 15) ++ (pkC s a 2 ++ (ne (b 1) [137, 136, 139, 133, 129, 199, 247, 193] ++ (q1 ((b 1) == 211) ++ (tkC s a 2)))), no 9 27 ++ (nos 20 [23, 30, 34, 39, 42, 47, 50, 55] ++ (yo 20 60)), fun b => xDg b false false (b 0) 2 12 (digE (b 2)) 0⟩
theorem knr15e : WE nr knr15 := fun _ _ h s a => lfE h (oE nr knr15)
theorem knr15f : WF nr knr15 := fun _ _ h s a => lfE h (oF nr knr15)
theorem knr15t : WT nr knr15 := fun _ _ h s a => lfE h (oT nr knr15)
def knr16 : Way := ⟨fun s a b => q0 (b 1 == 15) ++ (pkC s a 2 ++ (ne (b 1) [137, 136, 139, 133, 129, 199, 247, 193, 211] ++ (q1 ((b 1) == 235) ++ (tkC s a 2 ++ (sgC [(b 2)]))))), no 9 27 ++ (nos 20 [23, 30, 34, 39, 42, 47, 50, 55, 60] ++ (yo 20 65)), fun b => xR false false true 15 0 (IntKind.i32.wrap (s1 b 2))⟩
theorem knr16e : WE nr knr16 := fun _ _ h s a => lfE h (oE nr knr16)
theorem knr16f : WF nr knr16 := fun _ _ h s a => lfE h (oF nr knr16)
theorem knr16t : WT nr knr16 := fun _ _ h s a => lfE h (oT nr knr16)
def knr17 : Way := ⟨fun s a b => q0 (b 1 == 15) ++ (pkC s a 2 ++ (ne (b 1) [137, 136, 139, 133, 129, 199, 247, 193, 211, 235] ++ (q1 ((b 1) == 233) ++ (tkC s a 2 ++ (tkC s a 3 ++ (tkC s a 4 ++ (tkC s a 5 ++ (sgC [(b 2), (b 3), (b 4), (b 5)])))))))), no 9 27 ++ (nos 20 [23, 30, 34, 39, 42, 47, 50, 55, 60, 65] ++ (yo 20 69)), fun b => xR false false false 15 0 (IntKind.i32.wrap (s4 b 2))⟩
theorem knr17e : WE nr knr17 := fun _ _ h s a => lfE h (oE nr knr17)
theorem knr17f : WF nr knr17 := fun _ _ h s a => lfE h (oF nr knr17)
theorem knr17t : WT nr knr17 := fun _ _ h s a => lfE h (oT nr knr17)
def knr18 : Way := ⟨fun s a b => q0 (b 1 == 15) ++ (pkC s a 2 ++ (ne (b 1) [137, 136, 139, 133, 129, 199, 247, 193, 211, 235, 233] ++ (q1 ((b 1) == 232) ++ (tkC s a 2 ++ (tkC s a 3 ++ (tkC s a 4 ++ (tkC s a 5 ++ (sgC [(b 2), (b 3), (b 4), (b 5)])))))))), no 9 27 ++ (nos 20 [23, 30, 34, 39, 42, 47, 50, 55, 60, 65, 69] ++ (yo 20 72)), fun b => xR false false false 20 0 (IntKind.i32.wrap (s4 b 2))⟩
theorem knr18e : WE nr knr18 := fun _ _ h s a => lfE h (oE nr knr18)
theorem knr18f : WF nr knr18 := fun _ _ h s a => lfE h (oF nr knr18)
theorem knr18t : WT nr knr18 := fun _ _ h s a => lfE h (oT nr knr18)
end Go.Proofs.YtokeopmmnpmfeaaDoor.Ex
