/-
  Layer 11: decoding, way by way.
-/
import Derived.Test.YtokeopmmnpmfeaaDoorPackC
namespace Go.Proofs.YtokeopmmnpmfeaaDoor.Ex
set_option maxRecDepth 20000

open Go Go.RowKit
set_option linter.unusedVariables false
set_option linter.unusedSimpArgs false
set_option maxHeartbeats 0
set_option maxRecDepth 1000000
def kh019 : Way := ⟨fun s a b => q0 (b 1 == 15) ++ (pkC s a 2 ++ (ne (b 1) [137, 136, 139, 133, 129, 199, 247, 193, 211, 235, 233, 232] ++ (q1 ((b 1) == 195)))), no 9 27 ++ (nos 20 [23, 30, 34, 39, 42, 47, 50, 55, 60, 65, 69, 72] ++ (yo 20 75)), fun b => xN true false 19⟩
theorem kh019e : WE h0 kh019 := fun _ _ h s a => lfE h (oE h0 kh019)
theorem kh019f : WF h0 kh019 := fun _ _ h s a => lfE h (oF h0 kh019)
theorem kh019t : WT h0 kh019 := fun _ _ h s a => lfE h (oT h0 kh019)
def kh020 : Way := ⟨fun s a b => q0 (b 1 == 15) ++ (pkC s a 2 ++ (ne (b 1) [137, 136, 139, 133, 129, 199, 247, 193, 211, 235, 233, 232, 195] ++ (q1 (decide ((b 1) < 64)) ++ (q1 (Int.tmod (b 1) 8 == 1) ++ (tkC s a 2))))), no 9 27 ++ (nos 20 [23, 30, 34, 39, 42, 47, 50, 55, 60, 65, 69, 72, 75] ++ (yo 39 7 ++ (yo 39 11))), fun b => xRM b true false 0 2 4 (IntKind.i64.wrap (IntKind.u8.wrap (Int.tdiv (b 1) 8)))⟩
theorem kh020e : WE h0 kh020 := fun _ _ h s a => lfE h (oE h0 kh020)
theorem kh020f : WF h0 kh020 := fun _ _ h s a => lfE h (oF h0 kh020)
theorem kh020t : WT h0 kh020 := fun _ _ h s a => lfE h (oT h0 kh020)
def kh021 : Way := ⟨fun s a b => q0 (b 1 == 15) ++ (pkC s a 2 ++ (ne (b 1) [137, 136, 139, 133, 129, 199, 247, 193, 211, 235, 233, 232, 195] ++ (q1 (decide ((b 1) < 64)) ++ (q0 (Int.tmod (b 1) 8 == 1) ++ (q1 (andB (b 1) 248 == 80)))))), no 9 27 ++ (nos 20 [23, 30, 34, 39, 42, 47, 50, 55, 60, 65, 69, 72, 75] ++ (yo 39 7 ++ (no 39 11 ++ (yo 39 21)))), fun b => xC true false 0 (b 1) 17 0⟩
theorem kh021e : WE h0 kh021 := fun _ _ h s a => lfE h (oE h0 kh021)
theorem kh021f : WF h0 kh021 := fun _ _ h s a => lfE h (oF h0 kh021)
theorem kh021t : WT h0 kh021 := fun _ _ h s a => lfE h (oT h0 kh021)
def kh022 : Way := ⟨fun s a b => q0 (b 1 == 15) ++ (pkC s a 2 ++ (ne (b 1) [137, 136, 139, 133, 129, 199, 247, 193, 211, 235, 233, 232, 195] ++ (q1 (decide ((b 1) < 64)) ++ (q0 (Int.tmod (b 1) 8 == 1) ++ (q0 (andB (b 1) 248 == 80) ++ (q1 (andB (b 1) 248 == 88))))))), no 9 27 ++ (nos 20 [23, 30, 34, 39, 42, 47, 50, 55, 60, 65, 69, 72, 75] ++ (yo 39 7 ++ (no 39 11 ++ (no 39 21 ++ (yo 39 26))))), fun b => xC true false 0 (b 1) 18 0⟩
theorem kh022e : WE h0 kh022 := fun _ _ h s a => lfE h (oE h0 kh022)
theorem kh022f : WF h0 kh022 := fun _ _ h s a => lfE h (oF h0 kh022)
theorem kh022t : WT h0 kh022 := fun _ _ h s a => lfE h (oT h0 kh022)
def kh023 : Way := ⟨fun s a b => q0 (b 1 == 15) ++ (pkC s a 2 ++ (ne (b 1) [137, 136, 139, 133, 129, 199, 247, 193, 211, 235, 233, 232, 195] ++ (q1 (decide ((b 1) < 64)) ++ (q0 (Int.tmod (b 1) 8 == 1) ++ (q0 (andB (b 1) 248 == 80) ++ (q0 (andB (b 1) 248 == 88) ++ (q1 (andB (b 1) 240 == 112) ++ (tkC s a 2 ++ (sgC [(b 2)]))))))))), no 9 27 ++ (nos 20 [23, 30, 34, 39, 42, 47, 50, 55, 60, 65, 69, 72, 75] ++ (yo 39 7 ++ (no 39 11 ++ (no 39 21 ++ (no 39 26 ++ (yo 39 31)))))), fun b => xR true false true 16 (IntKind.i64.wrap (andB (b 1) 15)) (IntKind.i32.wrap (s1 b 2))⟩
theorem kh023e : WE h0 kh023 := fun _ _ h s a => lfE h (oE h0 kh023)
theorem kh023f : WF h0 kh023 := fun _ _ h s a => lfE h (oF h0 kh023)
theorem kh023t : WT h0 kh023 := fun _ _ h s a => lfE h (oT h0 kh023)
def kh024 : Way := ⟨fun s a b => q0 (b 1 == 15) ++ (pkC s a 2 ++ (ne (b 1) [137, 136, 139, 133, 129, 199, 247, 193, 211, 235, 233, 232, 195] ++ (q1 (decide ((b 1) < 64)) ++ (q0 (Int.tmod (b 1) 8 == 1) ++ (q0 (andB (b 1) 248 == 80) ++ (q0 (andB (b 1) 248 == 88) ++ (q0 (andB (b 1) 240 == 112) ++ (q1 (andB (b 1) 248 == 184) ++ (tkC s a 2 ++ (tkC s a 3 ++ (tkC s a 4 ++ (tkC s a 5 ++ (tkC s a 6 ++ (tkC s a 7 ++ (tkC s a 8 ++ (tkC s a 9 ++ (sgC [(b 2), (b 3), (b 4), (b 5), (b 6), (b 7), (b 8), (b 9)]))))))))))))))))), no 9 27 ++ (nos 20 [23, 30, 34, 39, 42, 47, 50, 55, 60, 65, 69, 72, 75] ++ (yo 39 7 ++ (no 39 11 ++ (no 39 21 ++ (no 39 26 ++ (no 39 31 ++ (yo 39 41))))))), fun b => xC true false 0 (b 1) 3 (s8 b 2)⟩
theorem kh024e : WE h0 kh024 := fun _ _ h s a => lfE h (oE h0 kh024)
theorem kh024f : WF h0 kh024 := fun _ _ h s a => lfE h (oF h0 kh024)
theorem kh024t : WT h0 kh024 := fun _ _ h s a => lfE h (oT h0 kh024)
def kh025 : Way := ⟨fun s a b => q0 (b 1 == 15) ++ (pkC s a 2 ++ (ne (b 1) [137, 136, 139, 133, 129, 199, 247, 193, 211, 235, 233, 232, 195] ++ (q1 (decide ((b 1) < 64)) ++ (q0 (Int.tmod (b 1) 8 == 1) ++ (q0 (andB (b 1) 248 == 80) ++ (q0 (andB (b 1) 248 == 88) ++ (q0 (andB (b 1) 240 == 112) ++ (q0 (andB (b 1) 248 == 184))))))))), no 9 27 ++ (nos 20 [23, 30, 34, 39, 42, 47, 50, 55, 60, 65, 69, 72, 75] ++ (yo 39 7 ++ (no 39 11 ++ (no 39 21 ++ (no 39 26 ++ (no 39 31 ++ (no 39 41))))))), fun b => XX.z⟩
theorem kh025e : WE h0 kh025 := fun _ _ h s a => lfE h (oE h0 kh025)
def kh026 : Way := ⟨fun s a b => q0 (b 1 == 15) ++ (pkC s a 2 ++ (ne (b 1) [137, 136, 139, 133, 129, 199, 247, 193, 211, 235, 233, 232, 195] ++ (q0 (decide ((b 1) < 64)) ++ (q1 (andB (b 1) 248 == 80))))), no 9 27 ++ (nos 20 [23, 30, 34, 39, 42, 47, 50, 55, 60, 65, 69, 72, 75] ++ (no 39 7 ++ (yo 39 21))), fun b => xC true false 0 (b 1) 17 0⟩
theorem kh026e : WE h0 kh026 := fun _ _ h s a => lfE h (oE h0 kh026)
theorem kh026f : WF h0 kh026 := fun _ _ h s a => lfE h (oF h0 kh026)
theorem kh026t : WT h0 kh026 := fun _ _ h s a => lfE h (oT h0 kh026)
def kh027 : Way := ⟨fun s a b => q0 (b 1 == 15) ++ (pkC s a 2 ++ (ne (b 1) [137, 136, 139, 133, 129, 199, 247, 193, 211, 235, 233, 232, 195] ++ (q0 (decide ((b 1) < 64)) ++ (q0 (andB (b 1) 248 == 80) ++ (q1 (andB (b 1) 248 == 88)))))), no 9 27 ++ (nos 20 [23, 30, 34, 39, 42, 47, 50, 55, 60, 65, 69, 72, 75] ++ (no 39 7 ++ (no 39 21 ++ (yo 39 26)))), fun b => xC true false 0 (b 1) 18 0⟩
theorem kh027e : WE h0 kh027 := fun _ _ h s a => lfE h (oE h0 kh027)
theorem kh027f : WF h0 kh027 := fun _ _ h s a => lfE h (oF h0 kh027)
theorem kh027t : WT h0 kh027 := fun _ _ h s a => lfE h (oT h0 kh027)
def kh028 : Way := ⟨fun s a b => q0 (b 1 == 15) ++ (pkC s a 2 ++ (ne (b 1) [137, 136, 139, 133, 129, 199, 247, 193, 211, 235, 233, 232, 195] ++ (q0 (decide ((b 1) < 64)) ++ (q0 (andB (b 1) 248 == 80) ++ (q0 (andB (b 1) 248 == 88) ++ (q1 (andB (b 1) 240 == 112) ++ (tkC s a 2 ++ (sgC [(b 2)])))))))), no 9 27 ++ (nos 20 [23, 30, 34, 39, 42, 47, 50, 55, 60, 65, 69, 72, 75] ++ (no 39 7 ++ (no 39 21 ++ (no 39 26 ++ (yo 39 31))))), fun b => xR true false true 16 (IntKind.i64.wrap (andB (b 1) 15)) (IntKind.i32.wrap (s1 b 2))⟩
theorem kh028e : WE h0 kh028 := fun _ _ h s a => lfE h (oE h0 kh028)
theorem kh028f : WF h0 kh028 := fun _ _ h s a => lfE h (oF h0 kh028)
theorem kh028t : WT h0 kh028 := fun _ _ h s a => lfE h (oT h0 kh028)
def kh029 : Way := ⟨fun s a b => q0 (b 1 == 15) ++ (pkC s a 2 ++ (ne (b 1) [137, 136, 139, 133, 129, 199, 247, 193, 211, 235, 233, 232, 195] ++ (q0 (decide ((b 1) < 64)) ++ (q0 (andB (b 1) 248 == 80) ++ (q0 (andB (b 1) 248 == 88) ++ (q0 (andB (b 1) 240 == 112) ++ (q1 (andB (b 1) 248 == 184) ++ (tkC s a 2 ++ (tkC s a 3 ++ (tkC s a 4 ++ (tkC s a 5 ++ (tkC s a 6 ++ (tkC s a 7 ++ (tkC s a 8 ++ (tkC s a 9 ++ (sgC [(b 2), (b 3), (b 4), (b 5), (b 6), (b 7), (b 8), (b 9)])))))))))))))))), no 9 27 ++ (nos 20 [23, 30, 34, 39, 42, 47, 50, 55, 60, 65, 69, 72, 75] ++ (no 39 7 ++ (no 39 21 ++ (no 39 26 ++ (no 39 31 ++ (yo 39 41)))))), fun b => xC true false 0 (b 1) 3 (s8 b 2)⟩
theorem kh029e : WE h0 kh029 := fun _ _ h s a => lfE h (oE h0 kh029)
theorem kh029f : WF h0 kh029 := fun _ _ h s a => lfE h (oF h0 kh029)
theorem kh029t : WT h0 kh029 := fun _ _ h s a => lfE h (oT h0 kh029)
def kh030 : Way := ⟨fun s a b => q0 (b 1 == 15) ++ (pkC s a 2 ++ (ne (b 1) [137, 136, 139, 133, 129, 199, 247, 193, 211, 235, 233, 232, 195] ++ (q0 (decide ((b 1) < 64)) ++ (q0 (andB (b 1) 248 == 80) ++ (q0 (andB (b 1) 248 == 88) ++ (q0 (andB (b 1) 240 == 112) ++ (q0 (andB (b 1) 248 == 184)))))))), no 9 27 ++ (nos 20 [23, 30, 34, 39, 42, 47, 50, 55, 60, 65, 69, 72, 75] ++ (no 39 7 ++ (no 39 21 ++ (no 39 26 ++ (no 39 31 ++ (no 39 41)))))), fun b => XX.z⟩
theorem kh030e : WE h0 kh030 := fun _ _ h s a => lfE h (oE h0 kh030)
def kh031 : Way := ⟨fun s a b => q1 (b 1 == 15) ++ (tkC s a 2 ++ (q1 ((b 2) == 175) ++ (tkC s a 3))), yo 9 27 ++ (yo 19 15), fun b => xMR b true false 0 3 10⟩
theorem kh031e : WE h0 kh031 := fun _ _ h s a => lfE h (oE h0 kh031)
theorem kh031f : WF h0 kh031 := fun _ _ h s a => lfE h (oF h0 kh031)
theorem kh031t : WT h0 kh031 := fun _ _ h s a => lfE h (oT h0 kh031)
def kh032 : Way := ⟨fun s a b => q1 (b 1 == 15) ++ (tkC s a 2 ++ (ne (b 2) [175] ++ (q1 ((b 2) == 182) ++ (tkC s a 3 ++ (q0 (Int.tmod (endE 0 (b 3)) 8 == 4) ++ (tkC s a 4 ++ (tkC s a 5 ++ (tkC s a 6 ++ (tkC s a 7 ++ (sgC [(b 4), (b 5), (b 6), (b 7)])))))))))), yo 9 27 ++ (nos 19 [15] ++ (yo 19 18 ++ (no 21 87))), fun b => xLd b true false 0 3 1 (IntKind.i32.wrap (s4 b 4))⟩
theorem kh032e : WE h0 kh032 := fun _ _ h s a => lfE h (oE h0 kh032)
theorem kh032f : WF h0 kh032 := fun _ _ h s a => lfE h (oF h0 kh032)
theorem kh032t : WT h0 kh032 := fun _ _ h s a => lfE h (oT h0 kh032)
def kh033 : Way := ⟨fun s a b => q1 (b 1 == 15) ++ (tkC s a 2 ++ (ne (b 2) [175] ++ (q1 ((b 2) == 182) ++ (tkC s a 3 ++ (q1 (Int.tmod (endE 0 (b 3)) 8 == 4) ++ (tkC s a 4 ++ (tkC s a 5 ++ (tkC s a 6 ++ (tkC s a 7 ++ (tkC s a 8 ++ (sgC [(b 5), (b 6), (b 7), (b 8)]))))))))))), yo 9 27 ++ (nos 19 [15] ++ (yo 19 18 ++ (yo 21 87))), fun b => xLd b true false 0 3 1 (IntKind.i32.wrap (s4 b 5))⟩
theorem kh033e : WE h0 kh033 := fun _ _ h s a => lfE h (oE h0 kh033)
theorem kh033f : WF h0 kh033 := fun _ _ h s a => lfE h (oF h0 kh033)
theorem kh033t : WT h0 kh033 := fun _ _ h s a => lfE h (oT h0 kh033)
def kh034 : Way := ⟨fun s a b => q1 (b 1 == 15) ++ (tkC s a 2 ++ (ne (b 2) [175, 182] ++ (q1 ((b 2) == 183) ++ (tkC s a 3 ++ (q0 (Int.tmod (endE 0 (b 3)) 8 == 4) ++ (tkC s a 4 ++ (tkC s a 5 ++ (tkC s a 6 ++ (tkC s a 7 ++ (sgC [(b 4), (b 5), (b 6), (b 7)])))))))))), yo 9 27 ++ (nos 19 [15, 18] ++ (yo 19 22 ++ (no 21 87))), fun b => xLd b true false 0 3 2 (IntKind.i32.wrap (s4 b 4))⟩
theorem kh034e : WE h0 kh034 := fun _ _ h s a => lfE h (oE h0 kh034)
theorem kh034f : WF h0 kh034 := fun _ _ h s a => lfE h (oF h0 kh034)
theorem kh034t : WT h0 kh034 := fun _ _ h s a => lfE h (oT h0 kh034)
def kh035 : Way := ⟨fun s a b => q1 (b 1 == 15) ++ (tkC s a 2 ++ (ne (b 2) [175, 182] ++ (q1 ((b 2) == 183) ++ (tkC s a 3 ++ (q1 (Int.tmod (endE 0 (b 3)) 8 == 4) ++ (tkC s a 4 ++ (tkC s a 5 ++ (tkC s a 6 ++ (tkC s a 7 ++ (tkC s a 8 ++ (sgC [(b 5), (b 6), (b 7), (b 8)]))))))))))), yo 9 27 ++ (nos 19 [15, 18] ++ (yo 19 22 ++ (yo 21 87))), fun b => xLd b true false 0 3 2 (IntKind.i32.wrap (s4 b 5))⟩
theorem kh035e : WE h0 kh035 := fun _ _ h s a => lfE h (oE h0 kh035)
theorem kh035f : WF h0 kh035 := fun _ _ h s a => lfE h (oF h0 kh035)
theorem kh035t : WT h0 kh035 := fun _ _ h s a => lfE h (oT h0 kh035)
def kh036 : Way := ⟨fun s a b => q1 (b 1 == 15) ++ (tkC s a 2 ++ (ne (b 2) [175, 182, 183] ++ (q1 ((b 2) == 174)))), yo 9 27 ++ (nos 19 [15, 18, 22] ++ (yo 19 26)), fun b => xN true false 21⟩
theorem kh036e : WE h0 kh036 := fun _ _ h s a => lfE h (oE h0 kh036)
theorem kh036f : WF h0 kh036 := fun _ _ h s a => lfE h (oF h0 kh036)
theorem kh036t : WT h0 kh036 := fun _ _ h s a => lfE h (oT h0 kh036)
def kh037 : Way := ⟨fun s a b => q1 (b 1 == 15) ++ (tkC s a 2 ++ (ne (b 2) [175, 182, 183, 174] ++ (q1 (andB (b 2) 240 == 128) ++ (tkC s a 3 ++ (tkC s a 4 ++ (tkC s a 5 ++ (tkC s a 6 ++ (sgC [(b 3), (b 4), (b 5), (b 6)])))))))), yo 9 27 ++ (nos 19 [15, 18, 22, 26] ++ (yo 19 8)), fun b => xR true false false 16 (IntKind.i64.wrap (andB (b 2) 15)) (IntKind.i32.wrap (s4 b 3))⟩
theorem kh037e : WE h0 kh037 := fun _ _ h s a => lfE h (oE h0 kh037)
theorem kh037f : WF h0 kh037 := fun _ _ h s a => lfE h (oF h0 kh037)
theorem kh037t : WT h0 kh037 := fun _ _ h s a => lfE h (oT h0 kh037)
def kh038 : Way := ⟨fun s a b => q1 (b 1 == 15) ++ (tkC s a 2 ++ (ne (b 2) [175, 182, 183, 174] ++ (q0 (andB (b 2) 240 == 128)))), yo 9 27 ++ (nos 19 [15, 18, 22, 26] ++ (no 19 8)), fun b => XX.z⟩
theorem kh038e : WE h0 kh038 := fun _ _ h s a => lfE h (oE h0 kh038)
end Go.Proofs.YtokeopmmnpmfeaaDoor.Ex
