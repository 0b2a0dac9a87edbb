/-
  Layer 11: decoding, way by way.
-/
import Derived.Test.YtokeopmmnpmfeaaDoorPackC
namespace Go.Proofs.YtokeopmmnpmfeaaDoor.Ex
set_option maxRecDepth 20000

open Go Go.RowKit
set_option linter.unusedVariables false
set_option linter.unusedSimpArgs false
set_option maxHeartbeats 0
set_option maxRecDepth 1000000
def kn00 : Way := ⟨fun s a b => q0 (b 0 == 15) ++ (pkC s a 1 ++ (q1 (decide ((b 1) < 192)) ++ (q1 ((b 0) == 137) ++ (tkC s a 1 ++ (q0 (Int.tmod (endE 0 (b 1)) 8 == 4) ++ (tkC s a 2 ++ (tkC s a 3 ++ (tkC s a 4 ++ (tkC s a 5 ++ (sgC [(b 2), (b 3), (b 4), (b 5)])))))))))), no 9 27 ++ (yo 20 11 ++ (yo 20 23 ++ (no 21 87))), fun b => xSd b false false 0 1 4 (IntKind.i32.wrap (s4 b 2))⟩
theorem kn00e : WE n0 kn00 := fun _ _ h s a => lfE h (oE n0 kn00)
theorem kn00f : WF n0 kn00 := fun _ _ h s a => lfE h (oF n0 kn00)
theorem kn00t : WT n0 kn00 := fun _ _ h s a => lfE h (oT n0 kn00)
def kn01 : Way := ⟨fun s a b => q0 (b 0 == 15) ++ (pkC s a 1 ++ (q1 (decide ((b 1) < 192)) ++ (q1 ((b 0) == 137) ++ (tkC s a 1 ++ (q1 (Int.tmod (endE 0 (b 1)) 8 == 4) ++ (tkC s a 2 ++ (tkC s a 3 ++ (tkC s a 4 ++ (tkC s a 5 ++ (tkC s a 6 ++ (sgC [(b 3), (b 4), (b 5), (b 6)]))))))))))), no 9 27 ++ (yo 20 11 ++ (yo 20 23 ++ (yo 21 87))), fun b => xSd b false false 0 1 4 (IntKind.i32.wrap (s4 b 3))⟩
theorem kn01e : WE n0 kn01 := fun _ _ h s a => lfE h (oE n0 kn01)
theorem kn01f : WF n0 kn01 := fun _ _ h s a => lfE h (oF n0 kn01)
theorem kn01t : WT n0 kn01 := fun _ _ h s a => lfE h (oT n0 kn01)
def kn02 : Way := ⟨fun s a b => q0 (b 0 == 15) ++ (pkC s a 1 ++ (q0 (decide ((b 1) < 192)) ++ (q1 ((b 0) == 137) ++ (tkC s a 1)))), no 9 27 ++ (no 20 11 ++ (yo 20 23)), fun b => xRM b false false 0 1 1 0⟩
theorem kn02e : WE n0 kn02 := fun _ _ h s a => lfE h (oE n0 kn02)
theorem kn02f : WF n0 kn02 := fun _ _ h s a => lfE h (oF n0 kn02)
theorem kn02t : WT n0 kn02 := fun _ _ h s a => lfE h (oT n0 kn02)
def kn03 : Way := ⟨fun s a b => q0 (b 0 == 15) ++ (pkC s a 1 ++ (ne (b 0) [137] ++ (q1 ((b 0) == 136) ++ (tkC s a 1 ++ (q0 (Int.tmod (endE 0 (b 1)) 8 == 4) ++ (tkC s a 2 ++ (tkC s a 3 ++ (tkC s a 4 ++ (tkC s a 5 ++ (sgC [(b 2), (b 3), (b 4), (b 5)])))))))))), no 9 27 ++ (nos 20 [23] ++ (yo 20 30 ++ (no 21 87))), fun b => xSd b false false 0 1 1 (IntKind.i32.wrap (s4 b 2))⟩
theorem kn03e : WE n0 kn03 := fun _ _ h s a => lfE h (oE n0 kn03)
theorem kn03f : WF n0 kn03 := fun _ _ h s a => lfE h (oF n0 kn03)
theorem kn03t : WT n0 kn03 := fun _ _ h s a => lfE h (oT n0 kn03)
def kn04 : Way := ⟨fun s a b => q0 (b 0 == 15) ++ (pkC s a 1 ++ (ne (b 0) [137] ++ (q1 ((b 0) == 136) ++ (tkC s a 1 ++ (q1 (Int.tmod (endE 0 (b 1)) 8 == 4) ++ (tkC s a 2 ++ (tkC s a 3 ++ (tkC s a 4 ++ (tkC s a 5 ++ (tkC s a 6 ++ (sgC [(b 3), (b 4), (b 5), (b 6)]))))))))))), no 9 27 ++ (nos 20 [23] ++ (yo 20 30 ++ (yo 21 87))), fun b => xSd b false false 0 1 1 (IntKind.i32.wrap (s4 b 3))⟩
theorem kn04e : WE n0 kn04 := fun _ _ h s a => lfE h (oE n0 kn04)
theorem kn04f : WF n0 kn04 := fun _ _ h s a => lfE h (oF n0 kn04)
theorem kn04t : WT n0 kn04 := fun _ _ h s a => lfE h (oT n0 kn04)
def kn05 : Way := ⟨fun s a b => q0 (b 0 == 15) ++ (pkC s a 1 ++ (ne (b 0) [137, 136] ++ (q1 ((b 0) == 139) ++ (tkC s a 1 ++ (q0 (Int.tmod (endE 0 (b 1)) 8 == 4) ++ (tkC s a 2 ++ (tkC s a 3 ++ (tkC s a 4 ++ (tkC s a 5 ++ (sgC [(b 2), (b 3), (b 4), (b 5)])))))))))), no 9 27 ++ (nos 20 [23, 30] ++ (yo 20 34 ++ (no 21 87))), fun b => xLd b false false 0 1 4 (IntKind.i32.wrap (s4 b 2))⟩
theorem kn05e : WE n0 kn05 := fun _ _ h s a => lfE h (oE n0 kn05)
theorem kn05f : WF n0 kn05 := fun _ _ h s a => lfE h (oF n0 kn05)
theorem kn05t : WT n0 kn05 := fun _ _ h s a => lfE h (oT n0 kn05)
def kn06 : Way := ⟨fun s a b => q0 (b 0 == 15) ++ (pkC s a 1 ++ (ne (b 0) [137, 136] ++ (q1 ((b 0) == 139) ++ (tkC s a 1 ++ (q1 (Int.tmod (endE 0 (b 1)) 8 == 4) ++ (tkC s a 2 ++ (tkC s a 3 ++ (tkC s a 4 ++ (tkC s a 5 ++ (tkC s a 6 ++ (sgC [(b 3), (b 4), (b 5), (b 6)]))))))))))), no 9 27 ++ (nos 20 [23, 30] ++ (yo 20 34 ++ (yo 21 87))), fun b => xLd b false false 0 1 4 (IntKind.i32.wrap (s4 b 3))⟩
theorem kn06e : WE n0 kn06 := fun _ _ h s a => lfE h (oE n0 kn06)
theorem kn06f : WF n0 kn06 := fun _ _ h s a => lfE h (oF n0 kn06)
theorem kn06t : WT n0 kn06 := fun _ _ h s a => lfE h (oT n0 kn06)
def kn07 : Way := ⟨fun s a b => q0 (b 0 == 15) ++ (pkC s a 1 ++ (ne (b 0) [137, 136, 139] ++ (q1 ((b 0) == 133) ++ (tkC s a 1)))), no 9 27 ++ (nos 20 [23, 30, 34] ++ (yo 20 39)), fun b => xRM b false false 0 1 6 0⟩
theorem kn07e : WE n0 kn07 := fun _ _ h s a => lfE h (oE n0 kn07)
theorem kn07f : WF n0 kn07 := fun _ _ h s a => lfE h (oF n0 kn07)
theorem kn07t : WT n0 kn07 := fun _ _ h s a => lfE h (oT n0 kn07)
def kn08 : Way := ⟨fun s a b => q0 (b 0 == 15) ++ (pkC s a 1 ++ (ne (b 0) [137, 136, 139, 133] ++ (q1 ((b 0) == 129) ++ (tkC s a 1 ++ (tkC s a 2 ++ (tkC s a 3 ++ (tkC s a 4 ++ (tkC s a 5 ++ (sgC [(b 2), (b 3), (b 4), (b 5)]))))))))), no 9 27 ++ (nos 20 [23, 30, 34, 39] ++ (yo 20 42)), fun b => xDg b false false 0 1 5 (digE (b 1)) (s4 b 2)⟩
theorem kn08e : WE n0 kn08 := fun _ _ h s a => lfE h (oE n0 kn08)
theorem kn08f : WF n0 kn08 := fun _ _ h s a => lfE h (oF n0 kn08)
theorem kn08t : WT n0 kn08 := fun _ _ h s a => lfE h (oT n0 kn08)
def kn09 : Way := ⟨fun s a b => q0 (b 0 == 15) ++ (pkC s a 1 ++ (ne (b 0) [137, 136, 139, 133, 129] ++ (q1 ((b 0) == 199) ++ (tkC s a 1 ++ (tkC s a 2 ++ (tkC s a 3 ++ (tkC s a 4 ++ (tkC s a 5 ++ (sgC [(b 2), (b 3), (b 4), (b 5)]))))))))), no 9 27 ++ (nos 20 [23, 30, 34, 39, 42] ++ (yo 20 47)), fun b => xDg b false false 0 1 2 0 (s4 b 2)⟩
theorem kn09e : WE n0 kn09 := fun _ _ h s a => lfE h (oE n0 kn09)
theorem kn09f : WF n0 kn09 := fun _ _ h s a => lfE h (oF n0 kn09)
theorem kn09t : WT n0 kn09 := fun _ _ h s a => lfE h (oT n0 kn09)
def kn010 : Way := ⟨fun s a b => q0 (b 0 == 15) ++ (pkC s a 1 ++ (ne (b 0) [137, 136, 139, 133, 129, 199] ++ (q1 ((b 0) == 247) ++ (q1 ((digE (b 1)) == 3) ++ (tkC s a 1))))), no 9 27 ++ (nos 20 [23, 30, 34, 39, 42, 47] ++ (yo 20 50 ++ (yo 38 5))), fun b => xDg b false false 0 1 7 0 0⟩
theorem kn010e : WE n0 kn010 := fun _ _ h s a => lfE h (oE n0 kn010)
theorem kn010f : WF n0 kn010 := fun _ _ h s a => lfE h (oF n0 kn010)
theorem kn010t : WT n0 kn010 := fun _ _ h s a => lfE h (oT n0 kn010)
def kn011 : Way := ⟨fun s a b => q0 (b 0 == 15) ++ (pkC s a 1 ++ (ne (b 0) [137, 136, 139, 133, 129, 199] ++ (q1 ((b 0) == 247) ++ (q0 ((digE (b 1)) == 3) ++ (q1 ((digE (b 1)) == 4) ++ (tkC s a 1)))))), no 9 27 ++ (nos 20 [23, 30, 34, 39, 42, 47] ++ (yo 20 50 ++ (no 38 5 ++ (yo 38 7)))), fun b => xDg b false false 0 1 8 0 0⟩
theorem kn011e : WE n0 kn011 := fun _ _ h s a => lfE h (oE n0 kn011)
theorem kn011f : WF n0 kn011 := fun _ _ h s a => lfE h (oF n0 kn011)
theorem kn011t : WT n0 kn011 := fun _ _ h s a => lfE h (oT n0 kn011)
def kn012 : Way := ⟨fun s a b => q0 (b 0 == 15) ++ (pkC s a 1 ++ (ne (b 0) [137, 136, 139, 133, 129, 199] ++ (q1 ((b 0) == 247) ++ (q0 ((digE (b 1)) == 3) ++ (q0 ((digE (b 1)) == 4) ++ (q1 ((digE (b 1)) == 6) ++ (tkC s a 1))))))), no 9 27 ++ (nos 20 [23, 30, 34, 39, 42, 47] ++ (yo 20 50 ++ (no 38 5 ++ (no 38 7 ++ (yo 38 9))))), fun b => xDg b false false 0 1 9 0 0⟩
theorem kn012e : WE n0 kn012 := fun _ _ h s a => lfE h (oE n0 kn012)
theorem kn012f : WF n0 kn012 := fun _ _ h s a => lfE h (oF n0 kn012)
theorem kn012t : WT n0 kn012 := fun _ _ h s a => lfE h (oT n0 kn012)
def kn013 : Way := ⟨fun s a b => q0 (b 0 == 15) ++ (pkC s a 1 ++ (ne (b 0) [137, 136, 139, 133, 129, 199] ++ (q1 ((b 0) == 247) ++ (q0 ((digE (b 1)) == 3) ++ (q0 ((digE (b 1)) == 4) ++ (q0 ((digE (b 1)) == 6))))))), no 9 27 ++ (nos 20 [23, 30, 34, 39, 42, 47] ++ (yo 20 50 ++ (no 38 5 ++ (no 38 7 ++ (no 38 9))))), fun b => XX.z⟩
theorem kn013e : WE n0 kn013 := fun _ _ h s a => lfE h (oE n0 kn013)
def kn014 : Way := ⟨fun s a b => q0 (b 0 == 15) ++ (pkC s a 1 ++ (ne (b 0) [137, 136, 139, 133, 129, 199, 247] ++ (q1 ((b 0) == 193) ++ (tkC s a 1 ++ (tkC s a 2 ++ (sgC [(b 2)])))))), no 9 27 ++ (nos 20 [23, 30, 34, 39, 42, 47, 50] ++ (yo 20 55)), fun b => xDg b false false 0 1 11 (digE (b 1)) (s1 b 2)⟩
theorem kn014e : WE n0 kn014 := fun _ _ h s a => lfE h (oE n0 kn014)
theorem kn014f : WF n0 kn014 := fun _ _ h s a => lfE h (oF n0 kn014)
theorem kn014t : WT n0 kn014 := fun _ _ h s a => lfE h (oT n0 kn014)
def kn015 : Way := ⟨fun s a b => q0 (b 0 == 15) ++ (pkC s a 1 ++ (ne (b 0) [137, 136, 139, 133, 129, 199, 247, 193] ++ (q1 ((b 0) == 211) ++ (tkC s a 1)))), no 9 27 ++ (nos 20 [23, 30, 34, 39, 42, 47, 50, 55] ++ (yo 20 60)), fun b => xDg b false false 0 1 12 (digE (b 1)) 0⟩
theorem kn015e : WE n0 kn015 := fun _ _ h s a => lfE h (oE n0 kn015)
theorem kn015f : WF n0 kn015 := fun _ _ h s a => lfE h (oF n0 kn015)
theorem kn015t : WT n0 kn015 := fun _ _ h s a => lfE h (oT n0 kn015)
def kn016 : Way := ⟨fun s a b => q0 (b 0 == 15) ++ (pkC s a 1 ++ (ne (b 0) [137, 136, 139, 133, 129, 199, 247, 193, 211] ++ (q1 ((b 0) == 235) ++ (tkC s a 1 ++ (sgC [(b 1)]))))), no 9 27 ++ (nos 20 [23, 30, 34, 39, 42, 47, 50, 55, 60] ++ (yo 20 65)), fun b => xR false false true 15 0 (IntKind.i32.wrap (s1 b 1))⟩
theorem kn016e : WE n0 kn016 := fun _ _ h s a => lfE h (oE n0 kn016)
theorem kn016f : WF n0 kn016 := fun _ _ h s a => lfE h (oF n0 kn016)
theorem kn016t : WT n0 kn016 := fun _ _ h s a => lfE h (oT n0 kn016)
def kn017 : Way := ⟨fun s a b => q0 (b 0 == 15) ++ (pkC s a 1 ++ (ne (b 0) [137, 136, 139, 133, 129, 199, 247, 193, 211, 235] ++ (q1 ((b 0) == 233) ++ (tkC s a 1 ++ (tkC s a 2 ++ (tkC s a 3 ++ (tkC s a 4 ++ (sgC [(b 1), (b 2), (b 3), (b 4)])))))))), no 9 27 ++ (nos 20 [23, 30, 34, 39, 42, 47, 50, 55, 60, 65] ++ (yo 20 69)), fun b => xR false false false 15 0 (IntKind.i32.wrap (s4 b 1))⟩
theorem kn017e : WE n0 kn017 := fun _ _ h s a => lfE h (oE n0 kn017)
theorem kn017f : WF n0 kn017 := fun _ _ h s a => lfE h (oF n0 kn017)
theorem kn017t : WT n0 kn017 := fun _ _ h s a => lfE h (oT n0 kn017)
def kn018 : Way := ⟨fun s a b => q0 (b 0 == 15) ++ (pkC s a 1 ++ (ne (b 0) [137, 136, 139, 133, 129, 199, 247, 193, 211, 235, 233] ++ (q1 ((b 0) == 232) ++ (tkC s a 1 ++ (tkC s a 2 ++ (tkC s a 3 ++ (tkC s a 4 ++ (sgC [(b 1), (b 2), (b 3), (b 4)])))))))), no 9 27 ++ (nos 20 [23, 30, 34, 39, 42, 47, 50, 55, 60, 65, 69] ++ (yo 20 72)), fun b => xR false false false 20 0 (IntKind.i32.wrap (s4 b 1))⟩
theorem kn018e : WE n0 kn018 := fun _ _ h s a => lfE h (oE n0 kn018)
theorem kn018f : WF n0 kn018 := fun _ _ h s a => lfE h (oF n0 kn018)
theorem kn018t : WT n0 kn018 := fun _ _ h s a => lfE h (oT n0 kn018)
end Go.Proofs.YtokeopmmnpmfeaaDoor.Ex
