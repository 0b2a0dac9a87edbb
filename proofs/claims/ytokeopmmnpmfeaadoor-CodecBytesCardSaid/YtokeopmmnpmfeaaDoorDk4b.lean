/-
  Layer 11: decoding, way by way.
-/
import Derived.Test.YtokeopmmnpmfeaaDoorPackC
namespace Go.Proofs.YtokeopmmnpmfeaaDoor.Ex
set_option maxRecDepth 20000

open Go Go.RowKit
set_option linter.unusedVariables false
set_option linter.unusedSimpArgs false
set_option maxHeartbeats 0
set_option maxRecDepth 1000000
def kn019 : Way := ⟨fun s a b => q0 (b 0 == 15) ++ (pkC s a 1 ++ (ne (b 0) [137, 136, 139, 133, 129, 199, 247, 193, 211, 235, 233, 232] ++ (q1 ((b 0) == 195)))), no 9 27 ++ (nos 20 [23, 30, 34, 39, 42, 47, 50, 55, 60, 65, 69, 72] ++ (yo 20 75)), fun b => xN false false 19⟩
theorem kn019e : WE n0 kn019 := fun _ _ h s a => lfE h (oE n0 kn019)
theorem kn019f : WF n0 kn019 := fun _ _ h s a => lfE h (oF n0 kn019)
theorem kn019t : WT n0 kn019 := fun _ _ h s a => lfE h (oT n0 kn019)
def kn020 : Way := ⟨fun s a b => q0 (b 0 == 15) ++ (pkC s a 1 ++ (ne (b 0) [137, 136, 139, 133, 129, 199, 247, 193, 211, 235, 233, 232, 195] ++ (q1 (decide ((b 0) < 64)) ++ (q1 (Int.tmod (b 0) 8 == 1) ++ (tkC s a 1))))), no 9 27 ++ (nos 20 [23, 30, 34, 39, 42, 47, 50, 55, 60, 65, 69, 72, 75] ++ (yo 39 7 ++ (yo 39 11))), fun b => xRM b false false 0 1 4 (IntKind.i64.wrap (IntKind.u8.wrap (Int.tdiv (b 0) 8)))⟩
theorem kn020e : WE n0 kn020 := fun _ _ h s a => lfE h (oE n0 kn020)
theorem kn020f : WF n0 kn020 := fun _ _ h s a => lfE h (oF n0 kn020)
theorem kn020t : WT n0 kn020 := fun _ _ h s a => lfE h (oT n0 kn020)
def kn021 : Way := ⟨fun s a b => q0 (b 0 == 15) ++ (pkC s a 1 ++ (ne (b 0) [137, 136, 139, 133, 129, 199, 247, 193, 211, 235, 233, 232, 195] ++ (q1 (decide ((b 0) < 64)) ++ (q0 (Int.tmod (b 0) 8 == 1) ++ (q1 (andB (b 0) 248 == 80)))))), no 9 27 ++ (nos 20 [23, 30, 34, 39, 42, 47, 50, 55, 60, 65, 69, 72, 75] ++ (yo 39 7 ++ (no 39 11 ++ (yo 39 21)))), fun b => xC false false 0 (b 0) 17 0⟩
theorem kn021e : WE n0 kn021 := fun _ _ h s a => lfE h (oE n0 kn021)
theorem kn021f : WF n0 kn021 := fun _ _ h s a => lfE h (oF n0 kn021)
theorem kn021t : WT n0 kn021 := fun _ _ h s a => lfE h (oT n0 kn021)
def kn022 : Way := ⟨fun s a b => q0 (b 0 == 15) ++ (pkC s a 1 ++ (ne (b 0) [137, 136, 139, 133, 129, 199, 247, 193, 211, 235, 233, 232, 195] ++ (q1 (decide ((b 0) < 64)) ++ (q0 (Int.tmod (b 0) 8 == 1) ++ (q0 (andB (b 0) 248 == 80) ++ (q1 (andB (b 0) 248 == 88))))))), no 9 27 ++ (nos 20 [23, 30, 34, 39, 42, 47, 50, 55, 60, 65, 69, 72, 75] ++ (yo 39 7 ++ (no 39 11 ++ (no 39 21 ++ (yo 39 26))))), fun b => xC false false 0 (b 0) 18 0⟩
theorem kn022e : WE n0 kn022 := fun _ _ h s a => lfE h (oE n0 kn022)
theorem kn022f : WF n0 kn022 := fun _ _ h s a => lfE h (oF n0 kn022)
theorem kn022t : WT n0 kn022 := fun _ _ h s a => lfE h (oT n0 kn022)
def kn023 : Way := ⟨fun s a b => q0 (b 0 == 15) ++ (pkC s a 1 ++ (ne (b 0) [137, 136, 139, 133, 129, 199, 247, 193, 211, 235, 233, 232, 195] ++ (q1 (decide ((b 0) < 64)) ++ (q0 (Int.tmod (b 0) 8 == 1) ++ (q0 (andB (b 0) 248 == 80) ++ (q0 (andB (b 0) 248 == 88) ++ (q1 (andB (b 0) 240 == 112) ++ (tkC s a 1 ++ (sgC [(b 1)]))))))))), no 9 27 ++ (nos 20 [23, 30, 34, 39, 42, 47, 50, 55, 60, 65, 69, 72, 75] ++ (yo 39 7 ++ (no 39 11 ++ (no 39 21 ++ (no 39 26 ++ (yo 39 31)))))), fun b => xR false false true 16 (IntKind.i64.wrap (andB (b 0) 15)) (IntKind.i32.wrap (s1 b 1))⟩
theorem kn023e : WE n0 kn023 := fun _ _ h s a => lfE h (oE n0 kn023)
theorem kn023f : WF n0 kn023 := fun _ _ h s a => lfE h (oF n0 kn023)
theorem kn023t : WT n0 kn023 := fun _ _ h s a => lfE h (oT n0 kn023)
def kn024 : Way := ⟨fun s a b => q0 (b 0 == 15) ++ (pkC s a 1 ++ (ne (b 0) [137, 136, 139, 133, 129, 199, 247, 193, 211, 235, 233, 232, 195] ++ (q1 (decide ((b 0) < 64)) ++ (q0 (Int.tmod (b 0) 8 == 1) ++ (q0 (andB (b 0) 248 == 80) ++ (q0 (andB (b 0) 248 == 88) ++ (q0 (andB (b 0) 240 == 112) ++ (q1 (andB (b 0) 248 == 184) ++ (tkC s a 1 ++ (tkC s a 2 ++ (tkC s a 3 ++ (tkC s a 4 ++ (tkC s a 5 ++ (tkC s a 6 ++ (tkC s a 7 ++ (tkC s a 8 ++ (sgC [(b 1), (b 2), (b 3), (b 4), (b 5), (b 6), (b 7), (b 8)]))))))))))))))))), no 9 27 ++ (nos 20 [23, 30, 34, 39, 42, 47, 50, 55, 60, 65, 69, 72, 75] ++ (yo 39 7 ++ (no 39 11 ++ (no 39 21 ++ (no 39 26 ++ (no 39 31 ++ (yo 39 41))))))), fun b => xC false false 0 (b 0) 3 (s8 b 1)⟩
theorem kn024e : WE n0 kn024 := fun _ _ h s a => lfE h (oE n0 kn024)
theorem kn024f : WF n0 kn024 := fun _ _ h s a => lfE h (oF n0 kn024)
theorem kn024t : WT n0 kn024 := fun _ _ h s a => lfE h (oT n0 kn024)
def kn025 : Way := ⟨fun s a b => q0 (b 0 == 15) ++ (pkC s a 1 ++ (ne (b 0) [137, 136, 139, 133, 129, 199, 247, 193, 211, 235, 233, 232, 195] ++ (q1 (decide ((b 0) < 64)) ++ (q0 (Int.tmod (b 0) 8 == 1) ++ (q0 (andB (b 0) 248 == 80) ++ (q0 (andB (b 0) 248 == 88) ++ (q0 (andB (b 0) 240 == 112) ++ (q0 (andB (b 0) 248 == 184))))))))), no 9 27 ++ (nos 20 [23, 30, 34, 39, 42, 47, 50, 55, 60, 65, 69, 72, 75] ++ (yo 39 7 ++ (no 39 11 ++ (no 39 21 ++ (no 39 26 ++ (no 39 31 ++ (no 39 41))))))), fun b => XX.z⟩
theorem kn025e : WE n0 kn025 := fun _ _ h s a => lfE h (oE n0 kn025)
def kn026 : Way := ⟨fun s a b => q0 (b 0 == 15) ++ (pkC s a 1 ++ (ne (b 0) [137, 136, 139, 133, 129, 199, 247, 193, 211, 235, 233, 232, 195] ++ (q0 (decide ((b 0) < 64)) ++ (q1 (andB (b 0) 248 == 80))))), no 9 27 ++ (nos 20 [23, 30, 34, 39, 42, 47, 50, 55, 60, 65, 69, 72, 75] ++ (no 39 7 ++ (yo 39 21))), fun b => xC false false 0 (b 0) 17 0⟩
theorem kn026e : WE n0 kn026 := fun _ _ h s a => lfE h (oE n0 kn026)
theorem kn026f : WF n0 kn026 := fun _ _ h s a => lfE h (oF n0 kn026)
theorem kn026t : WT n0 kn026 := fun _ _ h s a => lfE h (oT n0 kn026)
def kn027 : Way := ⟨fun s a b => q0 (b 0 == 15) ++ (pkC s a 1 ++ (ne (b 0) [137, 136, 139, 133, 129, 199, 247, 193, 211, 235, 233, 232, 195] ++ (q0 (decide ((b 0) < 64)) ++ (q0 (andB (b 0) 248 == 80) ++ (q1 (andB (b 0) 248 == 88)))))), no 9 27 ++ (nos 20 [23, 30, 34, 39, 42, 47, 50, 55, 60, 65, 69, 72, 75] ++ (no 39 7 ++ (no 39 21 ++ (yo 39 26)))), fun b => xC false false 0 (b 0) 18 0⟩
theorem kn027e : WE n0 kn027 := fun _ _ h s a => lfE h (oE n0 kn027)
theorem kn027f : WF n0 kn027 := fun _ _ h s a => lfE h (oF n0 kn027)
theorem kn027t : WT n0 kn027 := fun _ _ h s a => lfE h (oT n0 kn027)
def kn028 : Way := ⟨fun s a b => q0 (b 0 == 15) ++ (pkC s a 1 ++ (ne (b 0) [137, 136, 139, 133, 129, 199, 247, 193, 211, 235, 233, 232, 195] ++ (q0 (decide ((b 0) < 64)) ++ (q0 (andB (b 0) 248 == 80) ++ (q0 (andB (b 0) 248 == 88) ++ (q1 (andB (b 0) 240 == 112) ++ (tkC s a 1 ++ (sgC [(b 1)])))))))), no 9 27 ++ (nos 20 [23, 30, 34, 39, 42, 47, 50, 55, 60, 65, 69, 72, 75] ++ (no 39 7 ++ (no 39 21 ++ (no 39 26 ++ (yo 39 31))))), fun b => xR false false true 16 (IntKind.i64.wrap (andB (b 0) 15)) (IntKind.i32.wrap (s1 b 1))⟩
theorem kn028e : WE n0 kn028 := fun _ _ h s a => lfE h (oE n0 kn028)
theorem kn028f : WF n0 kn028 := fun _ _ h s a => lfE h (oF n0 kn028)
theorem kn028t : WT n0 kn028 := fun _ _ h s a => lfE h (oT n0 kn028)
def kn029 : Way := ⟨fun s a b => q0 (b 0 == 15) ++ (pkC s a 1 ++ (ne (b 0) [137, 136, 139, 133, 129, 199, 247, 193, 211, 235, 233, 232, 195] ++ (q0 (decide ((b 0) < 64)) ++ (q0 (andB (b 0) 248 == 80) ++ (q0 (andB (b 0) 248 == 88) ++ (q0 (andB (b 0) 240 == 112) ++ (q1 (andB (b 0) 248 == 184) ++ (tkC s a 1 ++ (tkC s a 2 ++ (tkC s a 3 ++ (tkC s a 4 ++ (tkC s a 5 ++ (tkC s a 6 ++ (tkC s a 7 ++ (tkC s a 8 ++ (sgC [(b 1), (b 2), (b 3), (b 4), (b 5), (b 6), (b 7), (b 8)])))))))))))))))), no 9 27 ++ (nos 20 [23, 30, 34, 39, 42, 47, 50, 55, 60, 65, 69, 72, 75] ++ (no 39 7 ++ (no 39 21 ++ (no 39 26 ++ (no 39 31 ++ (yo 39 41)))))), fun b => xC false false 0 (b 0) 3 (s8 b 1)⟩
theorem kn029e : WE n0 kn029 := fun _ _ h s a => lfE h (oE n0 kn029)
theorem kn029f : WF n0 kn029 := fun _ _ h s a => lfE h (oF n0 kn029)
theorem kn029t : WT n0 kn029 := fun _ _ h s a => lfE h (oT n0 kn029)
def kn030 : Way := ⟨fun s a b => q0 (b 0 == 15) ++ (pkC s a 1 ++ (ne (b 0) [137, 136, 139, 133, 129, 199, 247, 193, 211, 235, 233, 232, 195] ++ (q0 (decide ((b 0) < 64)) ++ (q0 (andB (b 0) 248 == 80) ++ (q0 (andB (b 0) 248 == 88) ++ (q0 (andB (b 0) 240 == 112) ++ (q0 (andB (b 0) 248 == 184)))))))), no 9 27 ++ (nos 20 [23, 30, 34, 39, 42, 47, 50, 55, 60, 65, 69, 72, 75] ++ (no 39 7 ++ (no 39 21 ++ (no 39 26 ++ (no 39 31 ++ (no 39 41)))))), fun b => XX.z⟩
theorem kn030e : WE n0 kn030 := fun _ _ h s a => lfE h (oE n0 kn030)
def kn031 : Way := ⟨fun s a b => q1 (b 0 == 15) ++ (tkC s a 1 ++ (q1 ((b 1) == 175) ++ (tkC s a 2))), yo 9 27 ++ (yo 19 15), fun b => xMR b false false 0 2 10⟩
theorem kn031e : WE n0 kn031 := fun _ _ h s a => lfE h (oE n0 kn031)
theorem kn031f : WF n0 kn031 := fun _ _ h s a => lfE h (oF n0 kn031)
theorem kn031t : WT n0 kn031 := fun _ _ h s a => lfE h (oT n0 kn031)
def kn032 : Way := ⟨fun s a b => q1 (b 0 == 15) ++ (tkC s a 1 ++ (ne (b 1) [175] ++ (q1 ((b 1) == 182) ++ (tkC s a 2 ++ (q0 (Int.tmod (endE 0 (b 2)) 8 == 4) ++ (tkC s a 3 ++ (tkC s a 4 ++ (tkC s a 5 ++ (tkC s a 6 ++ (sgC [(b 3), (b 4), (b 5), (b 6)])))))))))), yo 9 27 ++ (nos 19 [15] ++ (yo 19 18 ++ (no 21 87))), fun b => xLd b false false 0 2 1 (IntKind.i32.wrap (s4 b 3))⟩
theorem kn032e : WE n0 kn032 := fun _ _ h s a => lfE h (oE n0 kn032)
theorem kn032f : WF n0 kn032 := fun _ _ h s a => lfE h (oF n0 kn032)
theorem kn032t : WT n0 kn032 := fun _ _ h s a => lfE h (oT n0 kn032)
def kn033 : Way := ⟨fun s a b => q1 (b 0 == 15) ++ (tkC s a 1 ++ (ne (b 1) [175] ++ (q1 ((b 1) == 182) ++ (tkC s a 2 ++ (q1 (Int.tmod (endE 0 (b 2)) 8 == 4) ++ (tkC s a 3 ++ (tkC s a 4 ++ (tkC s a 5 ++ (tkC s a 6 ++ (tkC s a 7 ++ (sgC [(b 4), (b 5), (b 6), (b 7)]))))))))))), yo 9 27 ++ (nos 19 [15] ++ (yo 19 18 ++ (yo 21 87))), fun b => xLd b false false 0 2 1 (IntKind.i32.wrap (s4 b 4))⟩
theorem kn033e : WE n0 kn033 := fun _ _ h s a => lfE h (oE n0 kn033)
theorem kn033f : WF n0 kn033 := fun _ _ h s a => lfE h (oF n0 kn033)
theorem kn033t : WT n0 kn033 := fun _ _ h s a => lfE h (oT n0 kn033)
def kn034 : Way := ⟨fun s a b => q1 (b 0 == 15) ++ (tkC s a 1 ++ (ne (b 1) [175, 182] ++ (q1 ((b 1) == 183) ++ (tkC s a 2 ++ (q0 (Int.tmod (endE 0 (b 2)) 8 == 4) ++ (tkC s a 3 ++ (tkC s a 4 ++ (tkC s a 5 ++ (tkC s a 6 ++ (sgC [(b 3), (b 4), (b 5), (b 6)])))))))))), yo 9 27 ++ (nos 19 [15, 18] ++ (yo 19 22 ++ (no 21 87))), fun b => xLd b false false 0 2 2 (IntKind.i32.wrap (s4 b 3))⟩
theorem kn034e : WE n0 kn034 := fun _ _ h s a => lfE h (oE n0 kn034)
theorem kn034f : WF n0 kn034 := fun _ _ h s a => lfE h (oF n0 kn034)
theorem kn034t : WT n0 kn034 := fun _ _ h s a => lfE h (oT n0 kn034)
def kn035 : Way := ⟨fun s a b => q1 (b 0 == 15) ++ (tkC s a 1 ++ (ne (b 1) [175, 182] ++ (q1 ((b 1) == 183) ++ (tkC s a 2 ++ (q1 (Int.tmod (endE 0 (b 2)) 8 == 4) ++ (tkC s a 3 ++ (tkC s a 4 ++ (tkC s a 5 ++ (tkC s a 6 ++ (tkC s a 7 ++ (sgC [(b 4), (b 5), (b 6), (b 7)]))))))))))), yo 9 27 ++ (nos 19 [15, 18] ++ (yo 19 22 ++ (yo 21 87))), fun b => xLd b false false 0 2 2 (IntKind.i32.wrap (s4 b 4))⟩
theorem kn035e : WE n0 kn035 := fun _ _ h s a => lfE h (oE n0 kn035)
theorem kn035f : WF n0 kn035 := fun _ _ h s a => lfE h (oF n0 kn035)
theorem kn035t : WT n0 kn035 := fun _ _ h s a => lfE h (oT n0 kn035)
def kn036 : Way := ⟨fun s a b => q1 (b 0 == 15) ++ (tkC s a 1 ++ (ne (b 1) [175, 182, 183] ++ (q1 ((b 1) == 174)))), yo 9 27 ++ (nos 19 [15, 18, 22] ++ (yo 19 26)), fun b => xN false false 21⟩
theorem kn036e : WE n0 kn036 := fun _ _ h s a => lfE h (oE n0 kn036)
theorem kn036f : WF n0 kn036 := fun _ _ h s a => lfE h (oF n0 kn036)
theorem kn036t : WT n0 kn036 := fun _ _ h s a => lfE h (oT n0 kn036)
def kn037 : Way := ⟨fun s a b => q1 (b 0 == 15) ++ (tkC s a 1 ++ (ne (b 1) [175, 182, 183, 174] ++ (q1 (andB (b 1) 240 == 128) ++ (tkC s a 2 ++ (tkC s a 3 ++ (tkC s a 4 ++ (tkC s a 5 ++ (sgC [(b 2), (b 3), (b 4), (b 5)])))))))), yo 9 27 ++ (nos 19 [15, 18, 22, 26] ++ (yo 19 8)), fun b => xR false false false 16 (IntKind.i64.wrap (andB (b 1) 15)) (IntKind.i32.wrap (s4 b 2))⟩
theorem kn037e : WE n0 kn037 := fun _ _ h s a => lfE h (oE n0 kn037)
theorem kn037f : WF n0 kn037 := fun _ _ h s a => lfE h (oF n0 kn037)
theorem kn037t : WT n0 kn037 := fun _ _ h s a => lfE h (oT n0 kn037)
def kn038 : Way := ⟨fun s a b => q1 (b 0 == 15) ++ (tkC s a 1 ++ (ne (b 1) [175, 182, 183, 174] ++ (q0 (andB (b 1) 240 == 128)))), yo 9 27 ++ (nos 19 [15, 18, 22, 26] ++ (no 19 8)), fun b => XX.z⟩
theorem kn038e : WE n0 kn038 := fun _ _ h s a => lfE h (oE n0 kn038)
end Go.Proofs.YtokeopmmnpmfeaaDoor.Ex
