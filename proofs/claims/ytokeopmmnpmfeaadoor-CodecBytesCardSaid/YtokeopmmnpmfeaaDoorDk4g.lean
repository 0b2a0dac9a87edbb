/-
  Layer 11: decoding, way by way.
-/
import Derived.Test.YtokeopmmnpmfeaaDoorPackC
namespace Go.Proofs.YtokeopmmnpmfeaaDoor.Ex
set_option maxRecDepth 20000

open Go Go.RowKit
set_option linter.unusedVariables false
set_option linter.unusedSimpArgs false
set_option maxHeartbeats 0
set_option maxRecDepth 1000000
def kh00 : Way := ⟨fun s a b => q0 (b 1 == 15) ++ (pkC s a 2 ++ (q1 (decide ((b 2) < 192)) ++ (q1 ((b 1) == 137) ++ (tkC s a 2 ++ (q0 (Int.tmod (endE 0 (b 2)) 8 == 4) ++ (tkC s a 3 ++ (tkC s a 4 ++ (tkC s a 5 ++ (tkC s a 6 ++ (sgC [(b 3), (b 4), (b 5), (b 6)])))))))))), no 9 27 ++ (yo 20 11 ++ (yo 20 23 ++ (no 21 87))), fun b => xSd b true false 0 2 4 (IntKind.i32.wrap (s4 b 3))⟩
theorem kh00e : WE h0 kh00 := fun _ _ h s a => lfE h (oE h0 kh00)
theorem kh00f : WF h0 kh00 := fun _ _ h s a => lfE h (oF h0 kh00)
theorem kh00t : WT h0 kh00 := fun _ _ h s a => lfE h (oT h0 kh00)
def kh01 : Way := ⟨fun s a b => q0 (b 1 == 15) ++ (pkC s a 2 ++ (q1 (decide ((b 2) < 192)) ++ (q1 ((b 1) == 137) ++ (tkC s a 2 ++ (q1 (Int.tmod (endE 0 (b 2)) 8 == 4) ++ (tkC s a 3 ++ (tkC s a 4 ++ (tkC s a 5 ++ (tkC s a 6 ++ (tkC s a 7 ++ (sgC [(b 4), (b 5), (b 6), (b 7)]))))))))))), no 9 27 ++ (yo 20 11 ++ (yo 20 23 ++ (yo 21 87))), fun b => xSd b true false 0 2 4 (IntKind.i32.wrap (s4 b 4))⟩
theorem kh01e : WE h0 kh01 := fun _ _ h s a => lfE h (oE h0 kh01)
theorem kh01f : WF h0 kh01 := fun _ _ h s a => lfE h (oF h0 kh01)
theorem kh01t : WT h0 kh01 := fun _ _ h s a => lfE h (oT h0 kh01)
def kh02 : Way := ⟨fun s a b => q0 (b 1 == 15) ++ (pkC s a 2 ++ (q0 (decide ((b 2) < 192)) ++ (q1 ((b 1) == 137) ++ (tkC s a 2)))), no 9 27 ++ (no 20 11 ++ (yo 20 23)), fun b => xRM b true false 0 2 1 0⟩
theorem kh02e : WE h0 kh02 := fun _ _ h s a => lfE h (oE h0 kh02)
theorem kh02f : WF h0 kh02 := fun _ _ h s a => lfE h (oF h0 kh02)
theorem kh02t : WT h0 kh02 := fun _ _ h s a => lfE h (oT h0 kh02)
def kh03 : Way := ⟨fun s a b => q0 (b 1 == 15) ++ (pkC s a 2 ++ (ne (b 1) [137] ++ (q1 ((b 1) == 136) ++ (tkC s a 2 ++ (q0 (Int.tmod (endE 0 (b 2)) 8 == 4) ++ (tkC s a 3 ++ (tkC s a 4 ++ (tkC s a 5 ++ (tkC s a 6 ++ (sgC [(b 3), (b 4), (b 5), (b 6)])))))))))), no 9 27 ++ (nos 20 [23] ++ (yo 20 30 ++ (no 21 87))), fun b => xSd b true false 0 2 1 (IntKind.i32.wrap (s4 b 3))⟩
theorem kh03e : WE h0 kh03 := fun _ _ h s a => lfE h (oE h0 kh03)
theorem kh03f : WF h0 kh03 := fun _ _ h s a => lfE h (oF h0 kh03)
theorem kh03t : WT h0 kh03 := fun _ _ h s a => lfE h (oT h0 kh03)
def kh04 : Way := ⟨fun s a b => q0 (b 1 == 15) ++ (pkC s a 2 ++ (ne (b 1) [137] ++ (q1 ((b 1) == 136) ++ (tkC s a 2 ++ (q1 (Int.tmod (endE 0 (b 2)) 8 == 4) ++ (tkC s a 3 ++ (tkC s a 4 ++ (tkC s a 5 ++ (tkC s a 6 ++ (tkC s a 7 ++ (sgC [(b 4), (b 5), (b 6), (b 7)]))))))))))), no 9 27 ++ (nos 20 [23] ++ (yo 20 30 ++ (yo 21 87))), fun b => xSd b true false 0 2 1 (IntKind.i32.wrap (s4 b 4))⟩
theorem kh04e : WE h0 kh04 := fun _ _ h s a => lfE h (oE h0 kh04)
theorem kh04f : WF h0 kh04 := fun _ _ h s a => lfE h (oF h0 kh04)
theorem kh04t : WT h0 kh04 := fun _ _ h s a => lfE h (oT h0 kh04)
def kh05 : Way := ⟨fun s a b => q0 (b 1 == 15) ++ (pkC s a 2 ++ (ne (b 1) [137, 136] ++ (q1 ((b 1) == 139) ++ (tkC s a 2 ++ (q0 (Int.tmod (endE 0 (b 2)) 8 == 4) ++ (tkC s a 3 ++ (tkC s a 4 ++ (tkC s a 5 ++ (tkC s a 6 ++ (sgC [(b 3), (b 4), (b 5), (b 6)])))))))))), no 9 27 ++ (nos 20 [23, 30] ++ (yo 20 34 ++ (no 21 87))), fun b => xLd b true false 0 2 4 (IntKind.i32.wrap (s4 b 3))⟩
theorem kh05e : WE h0 kh05 := fun _ _ h s a => lfE h (oE h0 kh05)
theorem kh05f : WF h0 kh05 := fun _ _ h s a => lfE h (oF h0 kh05)
theorem kh05t : WT h0 kh05 := fun _ _ h s a => lfE h (oT h0 kh05)
def kh06 : Way := ⟨fun s a b => q0 (b 1 == 15) ++ (pkC s a 2 ++ (ne (b 1) [137, 136] ++ (q1 ((b 1) == 139) ++ (tkC s a 2 ++ (q1 (Int.tmod (endE 0 (b 2)) 8 == 4) ++ (tkC s a 3 ++ (tkC s a 4 ++ (tkC s a 5 ++ (tkC s a 6 ++ (tkC s a 7 ++ (sgC [(b 4), (b 5), (b 6), (b 7)]))))))))))), no 9 27 ++ (nos 20 [23, 30] ++ (yo 20 34 ++ (yo 21 87))), fun b => xLd b true false 0 2 4 (IntKind.i32.wrap (s4 b 4))⟩
theorem kh06e : WE h0 kh06 := fun _ _ h s a => lfE h (oE h0 kh06)
theorem kh06f : WF h0 kh06 := fun _ _ h s a => lfE h (oF h0 kh06)
theorem kh06t : WT h0 kh06 := fun _ _ h s a => lfE h (oT h0 kh06)
def kh07 : Way := ⟨fun s a b => q0 (b 1 == 15) ++ (pkC s a 2 ++ (ne (b 1) [137, 136, 139] ++ (q1 ((b 1) == 133) ++ (tkC s a 2)))), no 9 27 ++ (nos 20 [23, 30, 34] ++ (yo 20 39)), fun b => xRM b true false 0 2 6 0⟩
theorem kh07e : WE h0 kh07 := fun _ _ h s a => lfE h (oE h0 kh07)
theorem kh07f : WF h0 kh07 := fun _ _ h s a => lfE h (oF h0 kh07)
theorem kh07t : WT h0 kh07 := fun _ _ h s a => lfE h (oT h0 kh07)
def kh08 : Way := ⟨fun s a b => q0 (b 1 == 15) ++ (pkC s a 2 ++ (ne (b 1) [137, 136, 139, 133] ++ (q1 ((b 1) == 129) ++ (tkC s a 2 ++ (tkC s a 3 ++ (tkC s a 4 ++ (tkC s a 5 ++ (tkC s a 6 ++ (sgC [(b 3), (b 4), (b 5), (b 6)]))))))))), no 9 27 ++ (nos 20 [23, 30, 34, 39] ++ (yo 20 42)), fun b => xDg b true false 0 2 5 (digE (b 2)) (s4 b 3)⟩
theorem kh08e : WE h0 kh08 := fun _ _ h s a => lfE h (oE h0 kh08)
theorem kh08f : WF h0 kh08 := fun _ _ h s a => lfE h (oF h0 kh08)
theorem kh08t : WT h0 kh08 := fun _ _ h s a => lfE h (oT h0 kh08)
def kh09 : Way := ⟨fun s a b => q0 (b 1 == 15) ++ (pkC s a 2 ++ (ne (b 1) [137, 136, 139, 133, 129] ++ (q1 ((b 1) == 199) ++ (tkC s a 2 ++ (tkC s a 3 ++ (tkC s a 4 ++ (tkC s a 5 ++ (tkC s a 6 ++ (sgC [(b 3), (b 4), (b 5), (b 6)]))))))))), no 9 27 ++ (nos 20 [23, 30, 34, 39, 42] ++ (yo 20 47)), fun b => xDg b true false 0 2 2 0 (s4 b 3)⟩
theorem kh09e : WE h0 kh09 := fun _ _ h s a => lfE h (oE h0 kh09)
theorem kh09f : WF h0 kh09 := fun _ _ h s a => lfE h (oF h0 kh09)
theorem kh09t : WT h0 kh09 := fun _ _ h s a => lfE h (oT h0 kh09)
def kh010 : Way := ⟨fun s a b => q0 (b 1 == 15) ++ (pkC s a 2 ++ (ne (b 1) [137, 136, 139, 133, 129, 199] ++ (q1 ((b 1) == 247) ++ (q1 ((digE (b 2)) == 3) ++ (tkC s a 2))))), no 9 27 ++ (nos 20 [23, 30, 34, 39, 42, 47] ++ (yo 20 50 ++ (yo 38 5))), fun b => xDg b true false 0 2 7 0 0⟩
theorem kh010e : WE h0 kh010 := fun _ _ h s a => lfE h (oE h0 kh010)
theorem kh010f : WF h0 kh010 := fun _ _ h s a => lfE h (oF h0 kh010)
theorem kh010t : WT h0 kh010 := fun _ _ h s a => lfE h (oT h0 kh010)
def kh011 : Way := ⟨fun s a b => q0 (b 1 == 15) ++ (pkC s a 2 ++ (ne (b 1) [137, 136, 139, 133, 129, 199] ++ (q1 ((b 1) == 247) ++ (q0 ((digE (b 2)) == 3) ++ (q1 ((digE (b 2)) == 4) ++ (tkC s a 2)))))), no 9 27 ++ (nos 20 [23, 30, 34, 39, 42, 47] ++ (yo 20 50 ++ (no 38 5 ++ (yo 38 7)))), fun b => xDg b true false 0 2 8 0 0⟩
theorem kh011e : WE h0 kh011 := fun _ _ h s a => lfE h (oE h0 kh011)
theorem kh011f : WF h0 kh011 := fun _ _ h s a => lfE h (oF h0 kh011)
theorem kh011t : WT h0 kh011 := fun _ _ h s a => lfE h (oT h0 kh011)
def kh012 : Way := ⟨fun s a b => q0 (b 1 == 15) ++ (pkC s a 2 ++ (ne (b 1) [137, 136, 139, 133, 129, 199] ++ (q1 ((b 1) == 247) ++ (q0 ((digE (b 2)) == 3) ++ (q0 ((digE (b 2)) == 4) ++ (q1 ((digE (b 2)) == 6) ++ (tkC s a 2))))))), no 9 27 ++ (nos 20 [23, 30, 34, 39, 42, 47] ++ (yo 20 50 ++ (no 38 5 ++ (no 38 7 ++ (yo 38 9))))), fun b => xDg b true false 0 2 9 0 0⟩
theorem kh012e : WE h0 kh012 := fun _ _ h s a => lfE h (oE h0 kh012)
theorem kh012f : WF h0 kh012 := fun _ _ h s a => lfE h (oF h0 kh012)
theorem kh012t : WT h0 kh012 := fun _ _ h s a => lfE h (oT h0 kh012)
def kh013 : Way := ⟨fun s a b => q0 (b 1 == 15) ++ (pkC s a 2 ++ (ne (b 1) [137, 136, 139, 133, 129, 199] ++ (q1 ((b 1) == 247) ++ (q0 ((digE (b 2)) == 3) ++ (q0 ((digE (b 2)) == 4) ++ (q0 ((digE (b 2)) == 6))))))), no 9 27 ++ (nos 20 [23, 30, 34, 39, 42, 47] ++ (yo 20 50 ++ (no 38 5 ++ (no 38 7 ++ (no 38 9))))), fun b => XX.z⟩
theorem kh013e : WE h0 kh013 := fun _ _ h s a => lfE h (oE h0 kh013)
def kh014 : Way := ⟨fun s a b => q0 (b 1 == 15) ++ (pkC s a 2 ++ (ne (b 1) [137, 136, 139, 133, 129, 199, 247] ++ (q1 ((b 1) == 193) ++ (tkC s a 2 ++ (tkC s a 3 ++ (sgC [(b 3)])))))), no 9 27 ++ (nos 20 [23, 30, 34, 39, 42, 47, 50] ++ (yo 20 55)), fun b => xDg b true false 0 2 11 (digE (b 2)) (s1 b 3)⟩
theorem kh014e : WE h0 kh014 := fun _ _ h s a => lfE h (oE h0 kh014)
theorem kh014f : WF h0 kh014 := fun _ _ h s a => lfE h (oF h0 kh014)
theorem kh014t : WT h0 kh014 := fun _ _ h s a => lfE h (oT h0 kh014)
def kh015 : Way := ⟨fun s a b => q0 (b 1 == 15) ++ (pkC s a 2 ++ (ne (b 1) [137, 136, 139, 133, 129, 199, 247, 193] ++ (q1 ((b 1) == 211) ++ (tkC s a 2)))), no 9 27 ++ (nos 20 [23, 30, 34, 39, 42, 47, 50, 55] ++ (yo 20 60)), fun b => xDg b true false 0 2 12 (digE (b 2)) 0⟩
theorem kh015e : WE h0 kh015 := fun _ _ h s a => lfE h (oE h0 kh015)
theorem kh015f : WF h0 kh015 := fun _ _ h s a => lfE h (oF h0 kh015)
theorem kh015t : WT h0 kh015 := fun _ _ h s a => lfE h (oT h0 kh015)
def kh016 : Way := ⟨fun s a b => q0 (b 1 == 15) ++ (pkC s a 2 ++ (ne (b 1) [137, 136, 139, 133, 129, 199, 247, 193, 211] ++ (q1 ((b 1) == 235) ++ (tkC s a 2 ++ (sgC [(b 2)]))))), no 9 27 ++ (nos 20 [23, 30, 34, 39, 42, 47, 50, 55, 60] ++ (yo 20 65)), fun b => xR true false true 15 0 (IntKind.i32.wrap (s1 b 2))⟩
theorem kh016e : WE h0 kh016 := fun _ _ h s a => lfE h (oE h0 kh016)
theorem kh016f : WF h0 kh016 := fun _ _ h s a => lfE h (oF h0 kh016)
theorem kh016t : WT h0 kh016 := fun _ _ h s a => lfE h (oT h0 kh016)
def kh017 : Way := ⟨fun s a b => q0 (b 1 == 15) ++ (pkC s a 2 ++ (ne (b 1) [137, 136, 139, 133, 129, 199, 247, 193, 211, 235] ++ (q1 ((b 1) == 233) ++ (tkC s a 2 ++ (tkC s a 3 ++ (tkC s a 4 ++ (tkC s a 5 ++ (sgC [(b 2), (b 3), (b 4), (b 5)])))))))), no 9 27 ++ (nos 20 [23, 30, 34, 39, 42, 47, 50, 55, 60, 65] ++ (yo 20 69)), fun b => xR true false false 15 0 (IntKind.i32.wrap (s4 b 2))⟩
theorem kh017e : WE h0 kh017 := fun _ _ h s a => lfE h (oE h0 kh017)
theorem kh017f : WF h0 kh017 := fun _ _ h s a => lfE h (oF h0 kh017)
theorem kh017t : WT h0 kh017 := fun _ _ h s a => lfE h (oT h0 kh017)
def kh018 : Way := ⟨fun s a b => q0 (b 1 == 15) ++ (pkC s a 2 ++ (ne (b 1) [137, 136, 139, 133, 129, 199, 247, 193, 211, 235, 233] ++ (q1 ((b 1) == 232) ++ (tkC s a 2 ++ (tkC s a 3 ++ (tkC s a 4 ++ (tkC s a 5 ++ (sgC [(b 2), (b 3), (b 4), (b 5)])))))))), no 9 27 ++ (nos 20 [23, 30, 34, 39, 42, 47, 50, 55, 60, 65, 69] ++ (yo 20 72)), fun b => xR true false false 20 0 (IntKind.i32.wrap (s4 b 2))⟩
theorem kh018e : WE h0 kh018 := fun _ _ h s a => lfE h (oE h0 kh018)
theorem kh018f : WF h0 kh018 := fun _ _ h s a => lfE h (oF h0 kh018)
theorem kh018t : WT h0 kh018 := fun _ _ h s a => lfE h (oT h0 kh018)
end Go.Proofs.YtokeopmmnpmfeaaDoor.Ex
