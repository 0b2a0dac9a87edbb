/-
  Layer 11: decoding, way by way.
-/
import Derived.Test.YtokeopmmnpmfeaaDoorPackC
namespace Go.Proofs.YtokeopmmnpmfeaaDoor.Ex
set_option maxRecDepth 20000

open Go Go.RowKit
set_option linter.unusedVariables false
set_option linter.unusedSimpArgs false
set_option maxHeartbeats 0
set_option maxRecDepth 1000000
def knw19 : Way := ⟨fun s a b => q0 (b 1 == 15) ++ (pkC s a 2 ++ (ne (b 1) [137, 136, 139, 133, 129, 199, 247, 193, 211, 235, 233, 232] ++ (q1 ((b 1) == 195)))), no 9 27 ++ (nos 20 [23, 30, 34, 39, 42, 47, 50, 55, 60, 65, 69, 72] ++ (yo 20 75)), fun b => xN false true 19⟩
theorem knw19e : WE nw knw19 := fun _ _ h s a => lfE h (oE nw knw19)
theorem knw19f : WF nw knw19 := fun _ _ h s a => lfE h (oF nw knw19)
theorem knw19t : WT nw knw19 := fun _ _ h s a => lfE h (oT nw knw19)
def knw20 : Way := ⟨fun s a b => q0 (b 1 == 15) ++ (pkC s a 2 ++ (ne (b 1) [137, 136, 139, 133, 129, 199, 247, 193, 211, 235, 233, 232, 195] ++ (q1 (decide ((b 1) < 64)) ++ (q1 (Int.tmod (b 1) 8 == 1) ++ (tkC s a 2))))), no 9 27 ++ (nos 20 [23, 30, 34, 39, 42, 47, 50, 55, 60, 65, 69, 72, 75] ++ (yo 39 7 ++ (yo 39 11))), fun b => xRM b false true (b 0) 2 4 (IntKind.i64.wrap (IntKind.u8.wrap (Int.tdiv (b 1) 8)))⟩
theorem knw20e : WE nw knw20 := fun _ _ h s a => lfE h (oE nw knw20)
theorem knw20f : WF nw knw20 := fun _ _ h s a => lfE h (oF nw knw20)
theorem knw20t : WT nw knw20 := fun _ _ h s a => lfE h (oT nw knw20)
def knw21 : Way := ⟨fun s a b => q0 (b 1 == 15) ++ (pkC s a 2 ++ (ne (b 1) [137, 136, 139, 133, 129, 199, 247, 193, 211, 235, 233, 232, 195] ++ (q1 (decide ((b 1) < 64)) ++ (q0 (Int.tmod (b 1) 8 == 1) ++ (q1 (andB (b 1) 248 == 80)))))), no 9 27 ++ (nos 20 [23, 30, 34, 39, 42, 47, 50, 55, 60, 65, 69, 72, 75] ++ (yo 39 7 ++ (no 39 11 ++ (yo 39 21)))), fun b => xC false true (b 0) (b 1) 17 0⟩
theorem knw21e : WE nw knw21 := fun _ _ h s a => lfE h (oE nw knw21)
theorem knw21f : WF nw knw21 := fun _ _ h s a => lfE h (oF nw knw21)
theorem knw21t : WT nw knw21 := fun _ _ h s a => lfE h (oT nw knw21)
def knw22 : Way := ⟨fun s a b => q0 (b 1 == 15) ++ (pkC s a 2 ++ (ne (b 1) [137, 136, 139, 133, 129, 199, 247, 193, 211, 235, 233, 232, 195] ++ (q1 (decide ((b 1) < 64)) ++ (q0 (Int.tmod (b 1) 8 == 1) ++ (q0 (andB (b 1) 248 == 80) ++ (q1 (andB (b 1) 248 == 88))))))), no 9 27 ++ (nos 20 [23, 30, 34, 39, 42, 47, 50, 55, 60, 65, 69, 72, 75] ++ (yo 39 7 ++ (no 39 11 ++ (no 39 21 ++ (yo 39 26))))), fun b => xC false true (b 0) (b 1) 18 0⟩
theorem knw22e : WE nw knw22 := fun _ _ h s a => lfE h (oE nw knw22)
theorem knw22f : WF nw knw22 := fun _ _ h s a => lfE h (oF nw knw22)
theorem knw22t : WT nw knw22 := fun _ _ h s a => lfE h (oT nw knw22)
def knw23 : Way := ⟨fun s a b => q0 (b 1 == 15) ++ (pkC s a 2 ++ (ne (b 1) [137, 136, 139, 133, 129, 199, 247, 193, 211, 235, 233, 232, 195] ++ (q1 (decide ((b 1) < 64)) ++ (q0 (Int.tmod (b 1) 8 == 1) ++ (q0 (andB (b 1) 248 == 80) ++ (q0 (andB (b 1) 248 == 88) ++ (q1 (andB (b 1) 240 == 112) ++ (tkC s a 2 ++ (sgC [(b 2)]))))))))), no 9 27 ++ (nos 20 [23, 30, 34, 39, 42, 47, 50, 55, 60, 65, 69, 72, 75] ++ (yo 39 7 ++ (no 39 11 ++ (no 39 21 ++ (no 39 26 ++ (yo 39 31)))))), fun b => xR false true true 16 (IntKind.i64.wrap (andB (b 1) 15)) (IntKind.i32.wrap (s1 b 2))⟩
theorem knw23e : WE nw knw23 := fun _ _ h s a => lfE h (oE nw knw23)
theorem knw23f : WF nw knw23 := fun _ _ h s a => lfE h (oF nw knw23)
theorem knw23t : WT nw knw23 := fun _ _ h s a => lfE h (oT nw knw23)
def knw24 : Way := ⟨fun s a b => q0 (b 1 == 15) ++ (pkC s a 2 ++ (ne (b 1) [137, 136, 139, 133, 129, 199, 247, 193, 211, 235, 233, 232, 195] ++ (q1 (decide ((b 1) < 64)) ++ (q0 (Int.tmod (b 1) 8 == 1) ++ (q0 (andB (b 1) 248 == 80) ++ (q0 (andB (b 1) 248 == 88) ++ (q0 (andB (b 1) 240 == 112) ++ (q1 (andB (b 1) 248 == 184) ++ (tkC s a 2 ++ (tkC s a 3 ++ (tkC s a 4 ++ (tkC s a 5 ++ (tkC s a 6 ++ (tkC s a 7 ++ (tkC s a 8 ++ (tkC s a 9 ++ (sgC [(b 2), (b 3), (b 4), (b 5), (b 6), (b 7), (b 8), (b 9)]))))))))))))))))), no 9 27 ++ (nos 20 [23, 30, 34, 39, 42, 47, 50, 55, 60, 65, 69, 72, 75] ++ (yo 39 7 ++ (no 39 11 ++ (no 39 21 ++ (no 39 26 ++ (no 39 31 ++ (yo 39 41))))))), fun b => xC false true (b 0) (b 1) 3 (s8 b 2)⟩
theorem knw24e : WE nw knw24 := fun _ _ h s a => lfE h (oE nw knw24)
theorem knw24f : WF nw knw24 := fun _ _ h s a => lfE h (oF nw knw24)
theorem knw24t : WT nw knw24 := fun _ _ h s a => lfE h (oT nw knw24)
def knw25 : Way := ⟨fun s a b => q0 (b 1 == 15) ++ (pkC s a 2 ++ (ne (b 1) [137, 136, 139, 133, 129, 199, 247, 193, 211, 235, 233, 232, 195] ++ (q1 (decide ((b 1) < 64)) ++ (q0 (Int.tmod (b 1) 8 == 1) ++ (q0 (andB (b 1) 248 == 80) ++ (q0 (andB (b 1) 248 == 88) ++ (q0 (andB (b 1) 240 == 112) ++ (q0 (andB (b 1) 248 == 184))))))))), no 9 27 ++ (nos 20 [23, 30, 34, 39, 42, 47, 50, 55, 60, 65, 69, 72, 75] ++ (yo 39 7 ++ (no 39 11 ++ (no 39 21 ++ (no 39 26 ++ (no 39 31 ++ (no 39 41))))))), fun b => XX.z⟩
theorem knw25e : WE nw knw25 := fun _ _ h s a => lfE h (oE nw knw25)
def knw26 : Way := ⟨fun s a b => q0 (b 1 == 15) ++ (pkC s a 2 ++ (ne (b 1) [137, 136, 139, 133, 129, 199, 247, 193, 211, 235, 233, 232, 195] ++ (q0 (decide ((b 1) < 64)) ++ (q1 (andB (b 1) 248 == 80))))), no 9 27 ++ (nos 20 [23, 30, 34, 39, 42, 47, 50, 55, 60, 65, 69, 72, 75] ++ (no 39 7 ++ (yo 39 21))), fun b => xC false true (b 0) (b 1) 17 0⟩
theorem knw26e : WE nw knw26 := fun _ _ h s a => lfE h (oE nw knw26)
theorem knw26f : WF nw knw26 := fun _ _ h s a => lfE h (oF nw knw26)
theorem knw26t : WT nw knw26 := fun _ _ h s a => lfE h (oT nw knw26)
def knw27 : Way := ⟨fun s a b => q0 (b 1 == 15) ++ (pkC s a 2 ++ (ne (b 1) [137, 136, 139, 133, 129, 199, 247, 193, 211, 235, 233, 232, 195] ++ (q0 (decide ((b 1) < 64)) ++ (q0 (andB (b 1) 248 == 80) ++ (q1 (andB (b 1) 248 == 88)))))), no 9 27 ++ (nos 20 [23, 30, 34, 39, 42, 47, 50, 55, 60, 65, 69, 72, 75] ++ (no 39 7 ++ (no 39 21 ++ (yo 39 26)))), fun b => xC false true (b 0) (b 1) 18 0⟩
theorem knw27e : WE nw knw27 := fun _ _ h s a => lfE h (oE nw knw27)
theorem knw27f : WF nw knw27 := fun _ _ h s a => lfE h (oF nw knw27)
theorem knw27t : WT nw knw27 := fun _ _ h s a => lfE h (oT nw knw27)
def knw28 : Way := ⟨fun s a b => q0 (b 1 == 15) ++ (pkC s a 2 ++ (ne (b 1) [137, 136, 139, 133, 129, 199, 247, 193, 211, 235, 233, 232, 195] ++ (q0 (decide ((b 1) < 64)) ++ (q0 (andB (b 1) 248 == 80) ++ (q0 (andB (b 1) 248 == 88) ++ (q1 (andB (b 1) 240 == 112) ++ (tkC s a 2 ++ (sgC [(b 2)])))))))), no 9 27 ++ (nos 20 [23, 30, 34, 39, 42, 47, 50, 55, 60, 65, 69, 72, 75] ++ (no 39 7 ++ (no 39 21 ++ (no 39 26 ++ (yo 39 31))))), fun b => xR false true true 16 (IntKind.i64.wrap (andB (b 1) 15)) (IntKind.i32.wrap (s1 b 2))⟩
theorem knw28e : WE nw knw28 := fun _ _ h s a => lfE h (oE nw knw28)
theorem knw28f : WF nw knw28 := fun _ _ h s a => lfE h (oF nw knw28)
theorem knw28t : WT nw knw28 := fun _ _ h s a => lfE h (oT nw knw28)
def knw29 : Way := ⟨fun s a b => q0 (b 1 == 15) ++ (pkC s a 2 ++ (ne (b 1) [137, 136, 139, 133, 129, 199, 247, 193, 211, 235, 233, 232, 195] ++ (q0 (decide ((b 1) < 64)) ++ (q0 (andB (b 1) 248 == 80) ++ (q0 (andB (b 1) 248 == 88) ++ (q0 (andB (b 1) 240 == 112) ++ (q1 (andB (b 1) 248 == 184) ++ (tkC s a 2 ++ (tkC s a 3 ++ (tkC s a 4 ++ (tkC s a 5 ++ (tkC s a 6 ++ (tkC s a 7 ++ (tkC s a 8 ++ (tkC s a 9 ++ (sgC [(b 2), (b 3), (b 4), (b 5), (b 6), (b 7), (b 8), (b 9)])))))))))))))))), no 9 27 ++ (nos 20 [23, 30, 34, 39, 42, 47, 50, 55, 60, 65, 69, 72, 75] ++ (no 39 7 ++ (no 39 21 ++ (no 39 26 ++ (no 39 31 ++ (yo 39 41)))))), fun b => xC false true (b 0) (b 1) 3 (s8 b 2)⟩
theorem knw29e : WE nw knw29 := fun _ _ h s a => lfE h (oE nw knw29)
theorem knw29f : WF nw knw29 := fun _ _ h s a => lfE h (oF nw knw29)
theorem knw29t : WT nw knw29 := fun _ _ h s a => lfE h (oT nw knw29)
def knw30 : Way := ⟨fun s a b => q0 (b 1 == 15) ++ (pkC s a 2 ++ (ne (b 1) [137, 136, 139, 133, 129, 199, 247, 193, 211, 235, 233, 232, 195] ++ (q0 (decide ((b 1) < 64)) ++ (q0 (andB (b 1) 248 == 80) ++ (q0 (andB (b 1) 248 == 88) ++ (q0 (andB (b 1) 240 == 112) ++ (q0 (andB (b 1) 248 == 184)))))))), no 9 27 ++ (nos 20 [23, 30, 34, 39, 42, 47, 50, 55, 60, 65, 69, 72, 75] ++ (no 39 7 ++ (no 39 21 ++ (no 39 26 ++ (no 39 31 ++ (no 39 41)))))), fun b => XX.z⟩
theorem knw30e : WE nw knw30 := fun _ _ h s a => lfE h (oE nw knw30)
def knw31 : Way := ⟨fun s a b => q1 (b 1 == 15) ++ (tkC s a 2 ++ (q1 ((b 2) == 175) ++ (tkC s a 3))), yo 9 27 ++ (yo 19 15), fun b => xMR b false true (b 0) 3 10⟩
theorem knw31e : WE nw knw31 := fun _ _ h s a => lfE h (oE nw knw31)
theorem knw31f : WF nw knw31 := fun _ _ h s a => lfE h (oF nw knw31)
theorem knw31t : WT nw knw31 := fun _ _ h s a => lfE h (oT nw knw31)
def knw32 : Way := ⟨fun s a b => q1 (b 1 == 15) ++ (tkC s a 2 ++ (ne (b 2) [175] ++ (q1 ((b 2) == 182) ++ (tkC s a 3 ++ (q0 (Int.tmod (endE (b 0) (b 3)) 8 == 4) ++ (tkC s a 4 ++ (tkC s a 5 ++ (tkC s a 6 ++ (tkC s a 7 ++ (sgC [(b 4), (b 5), (b 6), (b 7)])))))))))), yo 9 27 ++ (nos 19 [15] ++ (yo 19 18 ++ (no 21 87))), fun b => xLd b false true (b 0) 3 1 (IntKind.i32.wrap (s4 b 4))⟩
theorem knw32e : WE nw knw32 := fun _ _ h s a => lfE h (oE nw knw32)
theorem knw32f : WF nw knw32 := fun _ _ h s a => lfE h (oF nw knw32)
theorem knw32t : WT nw knw32 := fun _ _ h s a => lfE h (oT nw knw32)
def knw33 : Way := ⟨fun s a b => q1 (b 1 == 15) ++ (tkC s a 2 ++ (ne (b 2) [175] ++ (q1 ((b 2) == 182) ++ (tkC s a 3 ++ (q1 (Int.tmod (endE (b 0) (b 3)) 8 == 4) ++ (tkC s a 4 ++ (tkC s a 5 ++ (tkC s a 6 ++ (tkC s a 7 ++ (tkC s a 8 ++ (sgC [(b 5), (b 6), (b 7), (b 8)]))))))))))), yo 9 27 ++ (nos 19 [15] ++ (yo 19 18 ++ (yo 21 87))), fun b => xLd b false true (b 0) 3 1 (IntKind.i32.wrap (s4 b 5))⟩
theorem knw33e : WE nw knw33 := fun _ _ h s a => lfE h (oE nw knw33)
theorem knw33f : WF nw knw33 := fun _ _ h s a => lfE h (oF nw knw33)
theorem knw33t : WT nw knw33 := fun _ _ h s a => lfE h (oT nw knw33)
def knw34 : Way := ⟨fun s a b => q1 (b 1 == 15) ++ (tkC s a 2 ++ (ne (b 2) [175, 182] ++ (q1 ((b 2) == 183) ++ (tkC s a 3 ++ (q0 (Int.tmod (endE (b 0) (b 3)) 8 == 4) ++ (tkC s a 4 ++ (tkC s a 5 ++ (tkC s a 6 ++ (tkC s a 7 ++ (sgC [(b 4), (b 5), (b 6), (b 7)])))))))))), yo 9 27 ++ (nos 19 [15, 18] ++ (yo 19 22 ++ (no 21 87))), fun b => xLd b false true (b 0) 3 2 (IntKind.i32.wrap (s4 b 4))⟩
theorem knw34e : WE nw knw34 := fun _ _ h s a => lfE h (oE nw knw34)
theorem knw34f : WF nw knw34 := fun _ _ h s a => lfE h (oF nw knw34)
theorem knw34t : WT nw knw34 := fun _ _ h s a => lfE h (oT nw knw34)
def knw35 : Way := ⟨fun s a b => q1 (b 1 == 15) ++ (tkC s a 2 ++ (ne (b 2) [175, 182] ++ (q1 ((b 2) == 183) ++ (tkC s a 3 ++ (q1 (Int.tmod (endE (b 0) (b 3)) 8 == 4) ++ (tkC s a 4 ++ (tkC s a 5 ++ (tkC s a 6 ++ (tkC s a 7 ++ (tkC s a 8 ++ (sgC [(b 5), (b 6), (b 7), (b 8)]))))))))))), yo 9 27 ++ (nos 19 [15, 18] ++ (yo 19 22 ++ (yo 21 87))), fun b => xLd b false true (b 0) 3 2 (IntKind.i32.wrap (s4 b 5))⟩
theorem knw35e : WE nw knw35 := fun _ _ h s a => lfE h (oE nw knw35)
theorem knw35f : WF nw knw35 := fun _ _ h s a => lfE h (oF nw knw35)
theorem knw35t : WT nw knw35 := fun _ _ h s a => lfE h (oT nw knw35)
def knw36 : Way := ⟨fun s a b => q1 (b 1 == 15) ++ (tkC s a 2 ++ (ne (b 2) [175, 182, 183] ++ (q1 ((b 2) == 174)))), yo 9 27 ++ (nos 19 [15, 18, 22] ++ (yo 19 26)), fun b => xN false true 21⟩
theorem knw36e : WE nw knw36 := fun _ _ h s a => lfE h (oE nw knw36)
theorem knw36f : WF nw knw36 := fun _ _ h s a => lfE h (oF nw knw36)
theorem knw36t : WT nw knw36 := fun _ _ h s a => lfE h (oT nw knw36)
def knw37 : Way := ⟨fun s a b => q1 (b 1 == 15) ++ (tkC s a 2 ++ (ne (b 2) [175, 182, 183, 174] ++ (q1 (andB (b 2) 240 == 128) ++ (tkC s a 3 ++ (tkC s a 4 ++ (tkC s a 5 ++ (tkC s a 6 ++ (sgC [(b 3), (b 4), (b 5), (b 6)])))))))), yo 9 27 ++ (nos 19 [15, 18, 22, 26] ++ (yo 19 8)), fun b => xR false true false 16 (IntKind.i64.wrap (andB (b 2) 15)) (IntKind.i32.wrap (s4 b 3))⟩
theorem knw37e : WE nw knw37 := fun _ _ h s a => lfE h (oE nw knw37)
theorem knw37f : WF nw knw37 := fun _ _ h s a => lfE h (oF nw knw37)
theorem knw37t : WT nw knw37 := fun _ _ h s a => lfE h (oT nw knw37)
def knw38 : Way := ⟨fun s a b => q1 (b 1 == 15) ++ (tkC s a 2 ++ (ne (b 2) [175, 182, 183, 174] ++ (q0 (andB (b 2) 240 == 128)))), yo 9 27 ++ (nos 19 [15, 18, 22, 26] ++ (no 19 8)), fun b => XX.z⟩
theorem knw38e : WE nw knw38 := fun _ _ h s a => lfE h (oE nw knw38)
end Go.Proofs.YtokeopmmnpmfeaaDoor.Ex
