/-
  Layer 11: decoding, way by way.
-/
import Derived.Test.YtokeopmmnpmfeaaDoorPackC
namespace Go.Proofs.YtokeopmmnpmfeaaDoor.Ex
set_option maxRecDepth 20000

open Go Go.RowKit
set_option linter.unusedVariables false
set_option linter.unusedSimpArgs false
set_option maxHeartbeats 0
set_option maxRecDepth 1000000
def khr19 : Way := ⟨fun s a b => q0 (b 2 == 15) ++ (pkC s a 3 ++ (ne (b 2) [137, 136, 139, 133, 129, 199, 247, 193, 211, 235, 233, 232] ++ (q1 ((b 2) == 195)))), no 9 27 ++ (nos 20 [23, 30, 34, 39, 42, 47, 50, 55, 60, 65, 69, 72] ++ (yo 20 75)), fun b => xN true false 19⟩
theorem khr19e : WE hr khr19 := fun _ _ h s a => lfE h (oE hr khr19)
theorem khr19f : WF hr khr19 := fun _ _ h s a => lfE h (oF hr khr19)
theorem khr19t : WT hr khr19 := fun _ _ h s a => lfE h (oT hr khr19)
def khr20 : Way := ⟨fun s a b => q0 (b 2 == 15) ++ (pkC s a 3 ++ (ne (b 2) [137, 136, 139, 133, 129, 199, 247, 193, 211, 235, 233, 232, 195] ++ (q1 (decide ((b 2) < 64)) ++ (q1 (Int.tmod (b 2) 8 == 1) ++ (tkC s a 3))))), no 9 27 ++ (nos 20 [23, 30, 34, 39, 42, 47, 50, 55, 60, 65, 69, 72, 75] ++ (yo 39 7 ++ (yo 39 11))), fun b => xRM b true false (b 1) 3 4 (IntKind.i64.wrap (IntKind.u8.wrap (Int.tdiv (b 2) 8)))⟩
theorem khr20e : WE hr khr20 := fun _ _ h s a => lfE h (oE hr khr20)
theorem khr20f : WF hr khr20 := fun _ _ h s a => lfE h (oF hr khr20)
theorem khr20t : WT hr khr20 := fun _ _ h s a => lfE h (oT hr khr20)
def khr21 : Way := ⟨fun s a b => q0 (b 2 == 15) ++ (pkC s a 3 ++ (ne (b 2) [137, 136, 139, 133, 129, 199, 247, 193, 211, 235, 233, 232, 195] ++ (q1 (decide ((b 2) < 64)) ++ (q0 (Int.tmod (b 2) 8 == 1) ++ (q1 (andB (b 2) 248 == 80)))))), no 9 27 ++ (nos 20 [23, 30, 34, 39, 42, 47, 50, 55, 60, 65, 69, 72, 75] ++ (yo 39 7 ++ (no 39 11 ++ (yo 39 21)))), fun b => xC true false (b 1) (b 2) 17 0⟩
theorem khr21e : WE hr khr21 := fun _ _ h s a => lfE h (oE hr khr21)
theorem khr21f : WF hr khr21 := fun _ _ h s a => lfE h (oF hr khr21)
theorem khr21t : WT hr khr21 := fun _ _ h s a => lfE h (oT hr khr21)
def khr22 : Way := ⟨fun s a b => q0 (b 2 == 15) ++ (pkC s a 3 ++ (ne (b 2) [137, 136, 139, 133, 129, 199, 247, 193, 211, 235, 233, 232, 195] ++ (q1 (decide ((b 2) < 64)) ++ (q0 (Int.tmod (b 2) 8 == 1) ++ (q0 (andB (b 2) 248 == 80) ++ (q1 (andB (b 2) 248 == 88))))))), no 9 27 ++ (nos 20 [23, 30, 34, 39, 42, 47, 50, 55, 60, 65, 69, 72, 75] ++ (yo 39 7 ++ (no 39 11 ++ (no 39 21 ++ (yo 39 26))))), fun b => xC true false (b 1) (b 2) 18 0⟩
theorem khr22e : WE hr khr22 := fun _ _ h s a => lfE h (oE hr khr22)
theorem khr22f : WF hr khr22 := fun _ _ h s a => lfE h (oF hr khr22)
theorem khr22t : WT hr khr22 := fun _ _ h s a => lfE h (oT hr khr22)
def khr23 : Way := ⟨fun s a b => q0 (b 2 == 15) ++ (pkC s a 3 ++ (ne (b 2) [137, 136, 139, 133, 129, 199, 247, 193, 211, 235, 233, 232, 195] ++ (q1 (decide ((b 2) < 64)) ++ (q0 (Int.tmod (b 2) 8 == 1) ++ (q0 (andB (b 2) 248 == 80) ++ (q0 (andB (b 2) 248 == 88) ++ (q1 (andB (b 2) 240 == 112) ++ (tkC s a 3 ++ (sgC [(b 3)]))))))))), no 9 27 ++ (nos 20 [23, 30, 34, 39, 42, 47, 50, 55, 60, 65, 69, 72, 75] ++ (yo 39 7 ++ (no 39 11 ++ (no 39 21 ++ (no 39 26 ++ (yo 39 31)))))), fun b => xR true false true 16 (IntKind.i64.wrap (andB (b 2) 15)) (IntKind.i32.wrap (s1 b 3))⟩
theorem khr23e : WE hr khr23 := fun _ _ h s a => lfE h (oE hr khr23)
theorem khr23f : WF hr khr23 := fun _ _ h s a => lfE h (oF hr khr23)
theorem khr23t : WT hr khr23 := fun _ _ h s a => lfE h (oT hr khr23)
def khr24 : Way := ⟨fun s a b => q0 (b 2 == 15) ++ (pkC s a 3 ++ (ne (b 2) [137, 136, 139, 133, 129, 199, 247, 193, 211, 235, 233, 232, 195] ++ (q1 (decide ((b 2) < 64)) ++ (q0 (Int.tmod (b 2) 8 == 1) ++ (q0 (andB (b 2) 248 == 80) ++ (q0 (andB (b 2) 248 == 88) ++ (q0 (andB (b 2) 240 == 112) ++ (q1 (andB (b 2) 248 == 184) ++ (tkC s a 3 ++ (tkC s a 4 ++ (tkC s a 5 ++ (tkC s a 6 ++ (tkC s a 7 ++ (tkC s a 8 ++ (tkC s a 9 ++ (tkC s a 10 ++ (sgC [(b 3), (b 4), (b 5), (b 6), (b 7), (b 8), (b 9), (b 10)]))))))))))))))))), no 9 27 ++ (nos 20 [23, 30, 34, 39, 42, 47, 50, 55, 60, 65, 69, 72, 75] ++ (yo 39 7 ++ (no 39 11 ++ (no 39 21 ++ (no 39 26 ++ (no 39 31 ++ (yo 39 41))))))), fun b => xC true false (b 1) (b 2) 3 (s8 b 3)⟩
theorem khr24e : WE hr khr24 := fun _ _ h s a => lfE h (oE hr khr24)
theorem khr24f : WF hr khr24 := fun _ _ h s a => lfE h (oF hr khr24)
theorem khr24t : WT hr khr24 := fun _ _ h s a => lfE h (oT hr khr24)
def khr25 : Way := ⟨fun s a b => q0 (b 2 == 15) ++ (pkC s a 3 ++ (ne (b 2) [137, 136, 139, 133, 129, 199, 247, 193, 211, 235, 233, 232, 195] ++ (q1 (decide ((b 2) < 64)) ++ (q0 (Int.tmod (b 2) 8 == 1) ++ (q0 (andB (b 2) 248 == 80) ++ (q0 (andB (b 2) 248 == 88) ++ (q0 (andB (b 2) 240 == 112) ++ (q0 (andB (b 2) 248 == 184))))))))), no 9 27 ++ (nos 20 [23, 30, 34, 39, 42, 47, 50, 55, 60, 65, 69, 72, 75] ++ (yo 39 7 ++ (no 39 11 ++ (no 39 21 ++ (no 39 26 ++ (no 39 31 ++ (no 39 41))))))), fun b => XX.z⟩
theorem khr25e : WE hr khr25 := fun _ _ h s a => lfE h (oE hr khr25)
def khr26 : Way := ⟨fun s a b => q0 (b 2 == 15) ++ (pkC s a 3 ++ (ne (b 2) [137, 136, 139, 133, 129, 199, 247, 193, 211, 235, 233, 232, 195] ++ (q0 (decide ((b 2) < 64)) ++ (q1 (andB (b 2) 248 == 80))))), no 9 27 ++ (nos 20 [23, 30, 34, 39, 42, 47, 50, 55, 60, 65, 69, 72, 75] ++ (no 39 7 ++ (yo 39 21))), fun b => xC true false (b 1) (b 2) 17 0⟩
theorem khr26e : WE hr khr26 := fun _ _ h s a => lfE h (oE hr khr26)
theorem khr26f : WF hr khr26 := fun _ _ h s a => lfE h (oF hr khr26)
theorem khr26t : WT hr khr26 := fun _ _ h s a => lfE h (oT hr khr26)
def khr27 : Way := ⟨fun s a b => q0 (b 2 == 15) ++ (pkC s a 3 ++ (ne (b 2) [137, 136, 139, 133, 129, 199, 247, 193, 211, 235, 233, 232, 195] ++ (q0 (decide ((b 2) < 64)) ++ (q0 (andB (b 2) 248 == 80) ++ (q1 (andB (b 2) 248 == 88)))))), no 9 27 ++ (nos 20 [23, 30, 34, 39, 42, 47, 50, 55, 60, 65, 69, 72, 75] ++ (no 39 7 ++ (no 39 21 ++ (yo 39 26)))), fun b => xC true false (b 1) (b 2) 18 0⟩
theorem khr27e : WE hr khr27 := fun _ _ h s a => lfE h (oE hr khr27)
theorem khr27f : WF hr khr27 := fun _ _ h s a => lfE h (oF hr khr27)
theorem khr27t : WT hr khr27 := fun _ _ h s a => lfE h (oT hr khr27)
def khr28 : Way := ⟨fun s a b => q0 (b 2 == 15) ++ (pkC s a 3 ++ (ne (b 2) [137, 136, 139, 133, 129, 199, 247, 193, 211, 235, 233, 232, 195] ++ (q0 (decide ((b 2) < 64)) ++ (q0 (andB (b 2) 248 == 80) ++ (q0 (andB (b 2) 248 == 88) ++ (q1 (andB (b 2) 240 == 112) ++ (tkC s a 3 ++ (sgC [(b 3)])))))))), no 9 27 ++ (nos 20 [23, 30, 34, 39, 42, 47, 50, 55, 60, 65, 69, 72, 75] ++ (no 39 7 ++ (no 39 21 ++ (no 39 26 ++ (yo 39 31))))), fun b => xR true false true 16 (IntKind.i64.wrap (andB (b 2) 15)) (IntKind.i32.wrap (s1 b 3))⟩
theorem khr28e : WE hr khr28 := fun _ _ h s a => lfE h (oE hr khr28)
theorem khr28f : WF hr khr28 := fun _ _ h s a => lfE h (oF hr khr28)
theorem khr28t : WT hr khr28 := fun _ _ h s a => lfE h (oT hr khr28)
def khr29 : Way := ⟨fun s a b => q0 (b 2 == 15) ++ (pkC s a 3 ++ (ne (b 2) [137, 136, 139, 133, 129, 199, 247, 193, 211, 235, 233, 232, 195] ++ (q0 (decide ((b 2) < 64)) ++ (q0 (andB (b 2) 248 == 80) ++ (q0 (andB (b 2) 248 == 88) ++ (q0 (andB (b 2) 240 == 112) ++ (q1 (andB (b 2) 248 == 184) ++ (tkC s a 3 ++ (tkC s a 4 ++ (tkC s a 5 ++ (tkC s a 6 ++ (tkC s a 7 ++ (tkC s a 8 ++ (tkC s a 9 ++ (tkC s a 10 ++ (sgC [(b 3), (b 4), (b 5), (b 6), (b 7), (b 8), (b 9), (b 10)])))))))))))))))), no 9 27 ++ (nos 20 [23, 30, 34, 39, 42, 47, 50, 55, 60, 65, 69, 72, 75] ++ (no 39 7 ++ (no 39 21 ++ (no 39 26 ++ (no 39 31 ++ (yo 39 41)))))), fun b => xC true false (b 1) (b 2) 3 (s8 b 3)⟩
theorem khr29e : WE hr khr29 := fun _ _ h s a => lfE h (oE hr khr29)
theorem khr29f : WF hr khr29 := fun _ _ h s a => lfE h (oF hr khr29)
theorem khr29t : WT hr khr29 := fun _ _ h s a => lfE h (oT hr khr29)
def khr30 : Way := ⟨fun s a b => q0 (b 2 == 15) ++ (pkC s a 3 ++ (ne (b 2) [137, 136, 139, 133, 129, 199, 247, 193, 211, 235, 233, 232, 195] ++ (q0 (decide ((b 2) < 64)) ++ (q0 (andB (b 2) 248 == 80) ++ (q0 (andB (b 2) 248 == 88) ++ (q0 (andB (b 2) 240 == 112) ++ (q0 (andB (b 2) 248 == 184)))))))), no 9 27 ++ (nos 20 [23, 30, 34, 39, 42, 47, 50, 55, 60, 65, 69, 72, 75] ++ (no 39 7 ++ (no 39 21 ++ (no 39 26 ++ (no 39 31 ++ (no 39 41)))))), fun b => XX.z⟩
theorem khr30e : WE hr khr30 := fun _ _ h s a => lfE h (oE hr khr30)
def khr31 : Way := ⟨fun s a b => q1 (b 2 == 15) ++ (tkC s a 3 ++ (q1 ((b 3) == 175) ++ (tkC s a 4))), yo 9 27 ++ (yo 19 15), fun b => xMR b true false (b 1) 4 10⟩
theorem khr31e : WE hr khr31 := fun _ _ h s a => lfE h (oE hr khr31)
theorem khr31f : WF hr khr31 := fun _ _ h s a => lfE h (oF hr khr31)
theorem khr31t : WT hr khr31 := fun _ _ h s a => lfE h (oT hr khr31)
def khr32 : Way := ⟨fun s a b => q1 (b 2 == 15) ++ (tkC s a 3 ++ (ne (b 3) [175] ++ (q1 ((b 3) == 182) ++ (tkC s a 4 ++ (q0 (Int.tmod (endE (b 1) (b 4)) 8 == 4) ++ (tkC s a 5 ++ (tkC s a 6 ++ (tkC s a 7 ++ (tkC s a 8 ++ (sgC [(b 5), (b 6), (b 7), (b 8)])))))))))), yo 9 27 ++ (nos 19 [15] ++ (yo 19 18 ++ (no 21 87))), fun b => xLd b true false (b 1) 4 1 (IntKind.i32.wrap (s4 b 5))⟩
theorem khr32e : WE hr khr32 := fun _ _ h s a => lfE h (oE hr khr32)
theorem khr32f : WF hr khr32 := fun _ _ h s a => lfE h (oF hr khr32)
theorem khr32t : WT hr khr32 := fun _ _ h s a => lfE h (oT hr khr32)
def khr33 : Way := ⟨fun s a b => q1 (b 2 == 15) ++ (tkC s a 3 ++ (ne (b 3) [175] ++ (q1 ((b 3) == 182) ++ (tkC s a 4 ++ (q1 (Int.tmod (endE (b 1) (b 4)) 8 == 4) ++ (tkC s a 5 ++ (tkC s a 6 ++ (tkC s a 7 ++ (tkC s a 8 ++ (tkC s a 9 ++ (sgC [(b 6), (b 7), (b 8), (b 9)]))))))))))), yo 9 27 ++ (nos 19 [15] ++ (yo 19 18 ++ (yo 21 87))), fun b => xLd b true false (b 1) 4 1 (IntKind.i32.wrap (s4 b 6))⟩
theorem khr33e : WE hr khr33 := fun _ _ h s a => lfE h (oE hr khr33)
theorem khr33f : WF hr khr33 := fun _ _ h s a => lfE h (oF hr khr33)
theorem khr33t : WT hr khr33 := fun _ _ h s a => lfE h (oT hr khr33)
def khr34 : Way := ⟨fun s a b => q1 (b 2 == 15) ++ (tkC s a 3 ++ (ne (b 3) [175, 182] ++ (q1 ((b 3) == 183) ++ (tkC s a 4 ++ (q0 (Int.tmod (endE (b 1) (b 4)) 8 == 4) ++ (tkC s a 5 ++ (tkC s a 6 ++ (tkC s a 7 ++ (tkC s a 8 ++ (sgC [(b 5), (b 6), (b 7), (b 8)])))))))))), yo 9 27 ++ (nos 19 [15, 18] ++ (yo 19 22 ++ (no 21 87))), fun b => xLd b true false (b 1) 4 2 (IntKind.i32.wrap (s4 b 5))⟩
theorem khr34e : WE hr khr34 := fun _ _ h s a => lfE h (oE hr khr34)
theorem khr34f : WF hr khr34 := fun _ _ h s a => lfE h (oF hr khr34)
theorem khr34t : WT hr khr34 := fun _ _ h s a => lfE h (oT hr khr34)
def khr35 : Way := ⟨fun s a b => q1 (b 2 == 15) ++ (tkC s a 3 ++ (ne (b 3) [175, 182] ++ (q1 ((b 3) == 183) ++ (tkC s a 4 ++ (q1 (Int.tmod (endE (b 1) (b 4)) 8 == 4) ++ (tkC s a 5 ++ (tkC s a 6 ++ (tkC s a 7 ++ (tkC s a 8 ++ (tkC s a 9 ++ (sgC [(b 6), (b 7), (b 8), (b 9)]))))))))))), yo 9 27 ++ (nos 19 [15, 18] ++ (yo 19 22 ++ (yo 21 87))), fun b => xLd b true false (b 1) 4 2 (IntKind.i32.wrap (s4 b 6))⟩
theorem khr35e : WE hr khr35 := fun _ _ h s a => lfE h (oE hr khr35)
theorem khr35f : WF hr khr35 := fun _ _ h s a => lfE h (oF hr khr35)
theorem khr35t : WT hr khr35 := fun _ _ h s a => lfE h (oT hr khr35)
def khr36 : Way := ⟨fun s a b => q1 (b 2 == 15) ++ (tkC s a 3 ++ (ne (b 3) [175, 182, 183] ++ (q1 ((b 3) == 174)))), yo 9 27 ++ (nos 19 [15, 18, 22] ++ (yo 19 26)), fun b => xN true false 21⟩
theorem khr36e : WE hr khr36 := fun _ _ h s a => lfE h (oE hr khr36)
theorem khr36f : WF hr khr36 := fun _ _ h s a => lfE h (oF hr khr36)
theorem khr36t : WT hr khr36 := fun _ _ h s a => lfE h (oT hr khr36)
def khr37 : Way := ⟨fun s a b => q1 (b 2 == 15) ++ (tkC s a 3 ++ (ne (b 3) [175, 182, 183, 174] ++ (q1 (andB (b 3) 240 == 128) ++ (tkC s a 4 ++ (tkC s a 5 ++ (tkC s a 6 ++ (tkC s a 7 ++ (sgC [(b 4), (b 5), (b 6), (b 7)])))))))), yo 9 27 ++ (nos 19 [15, 18, 22, 26] ++ (yo 19 8)), fun b => xR true false false 16 (IntKind.i64.wrap (andB (b 3) 15)) (IntKind.i32.wrap (s4 b 4))⟩
theorem khr37e : WE hr khr37 := fun _ _ h s a => lfE h (oE hr khr37)
theorem khr37f : WF hr khr37 := fun _ _ h s a => lfE h (oF hr khr37)
theorem khr37t : WT hr khr37 := fun _ _ h s a => lfE h (oT hr khr37)
def khr38 : Way := ⟨fun s a b => q1 (b 2 == 15) ++ (tkC s a 3 ++ (ne (b 3) [175, 182, 183, 174] ++ (q0 (andB (b 3) 240 == 128)))), yo 9 27 ++ (nos 19 [15, 18, 22, 26] ++ (no 19 8)), fun b => XX.z⟩
theorem khr38e : WE hr khr38 := fun _ _ h s a => lfE h (oE hr khr38)
end Go.Proofs.YtokeopmmnpmfeaaDoor.Ex
