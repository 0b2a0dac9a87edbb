/-
  Layer 11: decoding, way by way.
-/
import Derived.Test.YtokeopmmnpmfeaaDoorPackC
namespace Go.Proofs.YtokeopmmnpmfeaaDoor.Ex
set_option maxRecDepth 20000

open Go Go.RowKit
set_option linter.unusedVariables false
set_option linter.unusedSimpArgs false
set_option maxHeartbeats 0
set_option maxRecDepth 1000000
def khw19 : Way := ⟨fun s a b => q0 (b 2 == 15) ++ (pkC s a 3 ++ (ne (b 2) [137, 136, 139, 133, 129, 199, 247, 193, 211, 235, 233, 232] ++ (q1 ((b 2) == 195)))), no 9 27 ++ (nos 20 [23, 30, 34, 39, 42, 47, 50, 55, 60, 65, 69, 72] ++ (yo 20 75)), fun b => xN true true 19⟩
theorem khw19e : WE hw khw19 := fun _ _ h s a => lfE h (oE hw khw19)
theorem khw19f : WF hw khw19 := fun _ _ h s a => lfE h (oF hw khw19)
theorem khw19t : WT hw khw19 := fun _ _ h s a => lfE h (oT hw khw19)
def khw20 : Way := ⟨fun s a b => q0 (b 2 == 15) ++ (pkC s a 3 ++ (ne (b 2) [137, 136, 139, 133, 129, 199, 247, 193, 211, 235, 233, 232, 195] ++ (q1 (decide ((b 2) < 64)) ++ (q1 (Int.tmod (b 2) 8 == 1) ++ (tkC s a 3))))), no 9 27 ++ (nos 20 [23, 30, 34, 39, 42, 47, 50, 55, 60, 65, 69, 72, 75] ++ (yo 39 7 ++ (yo 39 11))), fun b => xRM b true true (b 1) 3 4 (IntKind.i64.wrap (IntKind.u8.wrap (Int.tdiv (b 2) 8)))⟩
theorem khw20e : WE hw khw20 := fun _ _ h s a => lfE h (oE hw khw20)
theorem khw20f : WF hw khw20 := fun _ _ h s a => lfE h (oF hw khw20)
theorem khw20t : WT hw khw20 := fun _ _ h s a => lfE h (oT hw khw20)
def khw21 : Way := ⟨fun s a b => q0 (b 2 == 15) ++ (pkC s a 3 ++ (ne (b 2) [137, 136, 139, 133, 129, 199, 247, 193, 211, 235, 233, 232, 195] ++ (q1 (decide ((b 2) < 64)) ++ (q0 (Int.tmod (b 2) 8 == 1) ++ (q1 (andB (b 2) 248 == 80)))))), no 9 27 ++ (nos 20 [23, 30, 34, 39, 42, 47, 50, 55, 60, 65, 69, 72, 75] ++ (yo 39 7 ++ (no 39 11 ++ (yo 39 21)))), fun b => xC true true (b 1) (b 2) 17 0⟩
theorem khw21e : WE hw khw21 := fun _ _ h s a => lfE h (oE hw khw21)
theorem khw21f : WF hw khw21 := fun _ _ h s a => lfE h (oF hw khw21)
theorem khw21t : WT hw khw21 := fun _ _ h s a => lfE h (oT hw khw21)
def khw22 : Way := ⟨fun s a b => q0 (b 2 == 15) ++ (pkC s a 3 ++ (ne (b 2) [137, 136, 139, 133, 129, 199, 247, 193, 211, 235, 233, 232, 195] ++ (q1 (decide ((b 2) < 64)) ++ (q0 (Int.tmod (b 2) 8 == 1) ++ (q0 (andB (b 2) 248 == 80) ++ (q1 (andB (b 2) 248 == 88))))))), no 9 27 ++ (nos 20 [23, 30, 34, 39, 42, 47, 50, 55, 60, 65, 69, 72, 75] ++ (yo 39 7 ++ (no 39 11 ++ (no 39 21 ++ (yo 39 26))))), fun b => xC true true (b 1) (b 2) 18 0⟩
theorem khw22e : WE hw khw22 := fun _ _ h s a => lfE h (oE hw khw22)
theorem khw22f : WF hw khw22 := fun _ _ h s a => lfE h (oF hw khw22)
theorem khw22t : WT hw khw22 := fun _ _ h s a => lfE h (oT hw khw22)
def khw23 : Way := ⟨fun s a b => q0 (b 2 == 15) ++ (pkC s a 3 ++ (ne (b 2) [137, 136, 139, 133, 129, 199, 247, 193, 211, 235, 233, 232, 195] ++ (q1 (decide ((b 2) < 64)) ++ (q0 (Int.tmod (b 2) 8 == 1) ++ (q0 (andB (b 2) 248 == 80) ++ (q0 (andB (b 2) 248 == 88) ++ (q1 (andB (b 2) 240 == 112) ++ (tkC s a 3 ++ (sgC [(b 3)]))))))))), no 9 27 ++ (nos 20 [23, 30, 34, 39, 42, 47, 50, 55, 60, 65, 69, 72, 75] ++ (yo 39 7 ++ (no 39 11 ++ (no 39 21 ++ (no 39 26 ++ (yo 39 31)))))), fun b => xR true true true 16 (IntKind.i64.wrap (andB (b 2) 15)) (IntKind.i32.wrap (s1 b 3))⟩
theorem khw23e : WE hw khw23 := fun _ _ h s a => lfE h (oE hw khw23)
theorem khw23f : WF hw khw23 := fun _ _ h s a => lfE h (oF hw khw23)
theorem khw23t : WT hw khw23 := fun _ _ h s a => lfE h (oT hw khw23)
def khw24 : Way := ⟨fun s a b => q0 (b 2 == 15) ++ (pkC s a 3 ++ (ne (b 2) [137, 136, 139, 133, 129, 199, 247, 193, 211, 235, 233, 232, 195] ++ (q1 (decide ((b 2) < 64)) ++ (q0 (Int.tmod (b 2) 8 == 1) ++ (q0 (andB (b 2) 248 == 80) ++ (q0 (andB (b 2) 248 == 88) ++ (q0 (andB (b 2) 240 == 112) ++ (q1 (andB (b 2) 248 == 184) ++ (tkC s a 3 ++ (tkC s a 4 ++ (tkC s a 5 ++ (tkC s a 6 ++ (tkC s a 7 ++ (tkC s a 8 ++ (tkC s a 9 ++ (tkC s a 10 ++ (sgC [(b 3), (b 4), (b 5), (b 6), (b 7), (b 8), (b 9), (b 10)]))))))))))))))))), no 9 27 ++ (nos 20 [23, 30, 34, 39, 42, 47, 50, 55, 60, 65, 69, 72, 75] ++ (yo 39 7 ++ (no 39 11 ++ (no 39 21 ++ (no 39 26 ++ (no 39 31 ++ (yo 39 41))))))), fun b => xC true true (b 1) (b 2) 3 (s8 b 3)⟩
theorem khw24e : WE hw khw24 := fun _ _ h s a => lfE h (oE hw khw24)
theorem khw24f : WF hw khw24 := fun _ _ h s a => lfE h (oF hw khw24)
theorem khw24t : WT hw khw24 := fun _ _ h s a => lfE h (oT hw khw24)
def khw25 : Way := ⟨fun s a b => q0 (b 2 == 15) ++ (pkC s a 3 ++ (ne (b 2) [137, 136, 139, 133, 129, 199, 247, 193, 211, 235, 233, 232, 195] ++ (q1 (decide ((b 2) < 64)) ++ (q0 (Int.tmod (b 2) 8 == 1) ++ (q0 (andB (b 2) 248 == 80) ++ (q0 (andB (b 2) 248 == 88) ++ (q0 (andB (b 2) 240 == 112) ++ (q0 (andB (b 2) 248 == 184))))))))), no 9 27 ++ (nos 20 [23, 30, 34, 39, 42, 47, 50, 55, 60, 65, 69, 72, 75] ++ (yo 39 7 ++ (no 39 11 ++ (no 39 21 ++ (no 39 26 ++ (no 39 31 ++ (no 39 41))))))), fun b => XX.z⟩
theorem khw25e : WE hw khw25 := fun _ _ h s a => lfE h (oE hw khw25)
def khw26 : Way := ⟨fun s a b => q0 (b 2 == 15) ++ (pkC s a 3 ++ (ne (b 2) [137, 136, 139, 133, 129, 199, 247, 193, 211, 235, 233, 232, 195] ++ (q0 (decide ((b 2) < 64)) ++ (q1 (andB (b 2) 248 == 80))))), no 9 27 ++ (nos 20 [23, 30, 34, 39, 42, 47, 50, 55, 60, 65, 69, 72, 75] ++ (no 39 7 ++ (yo 39 21))), fun b => xC true true (b 1) (b 2) 17 0⟩
theorem khw26e : WE hw khw26 := fun _ _ h s a => lfE h (oE hw khw26)
theorem khw26f : WF hw khw26 := fun _ _ h s a => lfE h (oF hw khw26)
theorem khw26t : WT hw khw26 := fun _ _ h s a => lfE h (oT hw khw26)
def khw27 : Way := ⟨fun s a b => q0 (b 2 == 15) ++ (pkC s a 3 ++ (ne (b 2) [137, 136, 139, 133, 129, 199, 247, 193, 211, 235, 233, 232, 195] ++ (q0 (decide ((b 2) < 64)) ++ (q0 (andB (b 2) 248 == 80) ++ (q1 (andB (b 2) 248 == 88)))))), no 9 27 ++ (nos 20 [23, 30, 34, 39, 42, 47, 50, 55, 60, 65, 69, 72, 75] ++ (no 39 7 ++ (no 39 21 ++ (yo 39 26)))), fun b => xC true true (b 1) (b 2) 18 0⟩
theorem khw27e : WE hw khw27 := fun _ _ h s a => lfE h (oE hw khw27)
theorem khw27f : WF hw khw27 := fun _ _ h s a => lfE h (oF hw khw27)
theorem khw27t : WT hw khw27 := fun _ _ h s a => lfE h (oT hw khw27)
def khw28 : Way := ⟨fun s a b => q0 (b 2 == 15) ++ (pkC s a 3 ++ (ne (b 2) [137, 136, 139, 133, 129, 199, 247, 193, 211, 235, 233, 232, 195] ++ (q0 (decide ((b 2) < 64)) ++ (q0 (andB (b 2) 248 == 80) ++ (q0 (andB (b 2) 248 == 88) ++ (q1 (andB (b 2) 240 == 112) ++ (tkC s a 3 ++ (sgC [(b 3)])))))))), no 9 27 ++ (nos 20 [23, 30, 34, 39, 42, 47, 50, 55, 60, 65, 69, 72, 75] ++ (no 39 7 ++ (no 39 21 ++ (no 39 26 ++ (yo 39 31))))), fun b => xR true true true 16 (IntKind.i64.wrap (andB (b 2) 15)) (IntKind.i32.wrap (s1 b 3))⟩
theorem khw28e : WE hw khw28 := fun _ _ h s a => lfE h (oE hw khw28)
theorem khw28f : WF hw khw28 := fun _ _ h s a => lfE h (oF hw khw28)
theorem khw28t : WT hw khw28 := fun _ _ h s a => lfE h (oT hw khw28)
def khw29 : Way := ⟨fun s a b => q0 (b 2 == 15) ++ (pkC s a 3 ++ (ne (b 2) [137, 136, 139, 133, 129, 199, 247, 193, 211, 235, 233, 232, 195] ++ (q0 (decide ((b 2) < 64)) ++ (q0 (andB (b 2) 248 == 80) ++ (q0 (andB (b 2) 248 == 88) ++ (q0 (andB (b 2) 240 == 112) ++ (q1 (andB (b 2) 248 == 184) ++ (tkC s a 3 ++ (tkC s a 4 ++ (tkC s a 5 ++ (tkC s a 6 ++ (tkC s a 7 ++ (tkC s a 8 ++ (tkC s a 9 ++ (tkC s a 10 ++ (sgC [(b 3), (b 4), (b 5), (b 6), (b 7), (b 8), (b 9), (b 10)])))))))))))))))), no 9 27 ++ (nos 20 [23, 30, 34, 39, 42, 47, 50, 55, 60, 65, 69, 72, 75] ++ (no 39 7 ++ (no 39 21 ++ (no 39 26 ++ (no 39 31 ++ (yo 39 41)))))), fun b => xC true true (b 1) (b 2) 3 (s8 b 3)⟩
theorem khw29e : WE hw khw29 := fun _ _ h s a => lfE h (oE hw khw29)
theorem khw29f : WF hw khw29 := fun _ _ h s a => lfE h (oF hw khw29)
theorem khw29t : WT hw khw29 := fun _ _ h s a => lfE h (oT hw khw29)
def khw30 : Way := ⟨fun s a b => q0 (b 2 == 15) ++ (pkC s a 3 ++ (ne (b 2) [137, 136, 139, 133, 129, 199, 247, 193, 211, 235, 233, 232, 195] ++ (q0 (decide ((b 2) < 64)) ++ (q0 (andB (b 2) 248 == 80) ++ (q0 (andB (b 2) 248 == 88) ++ (q0 (andB (b 2) 240 == 112) ++ (q0 (andB (b 2) 248 == 184)))))))), no 9 27 ++ (nos 20 [23, 30, 34, 39, 42, 47, 50, 55, 60, 65, 69, 72, 75] ++ (no 39 7 ++ (no 39 21 ++ (no 39 26 ++ (no 39 31 ++ (no 39 41)))))), fun b => XX.z⟩
theorem khw30e : WE hw khw30 := fun _ _ h s a => lfE h (oE hw khw30)
def khw31 : Way := ⟨fun s a b => q1 (b 2 == 15) ++ (tkC s a 3 ++ (q1 ((b 3) == 175) ++ (tkC s a 4))), yo 9 27 ++ (yo 19 15), fun b => xMR b true true (b 1) 4 10⟩
theorem khw31e : WE hw khw31 := fun _ _ h s a => lfE h (oE hw khw31)
theorem khw31f : WF hw khw31 := fun _ _ h s a => lfE h (oF hw khw31)
theorem khw31t : WT hw khw31 := fun _ _ h s a => lfE h (oT hw khw31)
def khw32 : Way := ⟨fun s a b => q1 (b 2 == 15) ++ (tkC s a 3 ++ (ne (b 3) [175] ++ (q1 ((b 3) == 182) ++ (tkC s a 4 ++ (q0 (Int.tmod (endE (b 1) (b 4)) 8 == 4) ++ (tkC s a 5 ++ (tkC s a 6 ++ (tkC s a 7 ++ (tkC s a 8 ++ (sgC [(b 5), (b 6), (b 7), (b 8)])))))))))), yo 9 27 ++ (nos 19 [15] ++ (yo 19 18 ++ (no 21 87))), fun b => xLd b true true (b 1) 4 1 (IntKind.i32.wrap (s4 b 5))⟩
theorem khw32e : WE hw khw32 := fun _ _ h s a => lfE h (oE hw khw32)
theorem khw32f : WF hw khw32 := fun _ _ h s a => lfE h (oF hw khw32)
theorem khw32t : WT hw khw32 := fun _ _ h s a => lfE h (oT hw khw32)
def khw33 : Way := ⟨fun s a b => q1 (b 2 == 15) ++ (tkC s a 3 ++ (ne (b 3) [175] ++ (q1 ((b 3) == 182) ++ (tkC s a 4 ++ (q1 (Int.tmod (endE (b 1) (b 4)) 8 == 4) ++ (tkC s a 5 ++ (tkC s a 6 ++ (tkC s a 7 ++ (tkC s a 8 ++ (tkC s a 9 ++ (sgC [(b 6), (b 7), (b 8), (b 9)]))))))))))), yo 9 27 ++ (nos 19 [15] ++ (yo 19 18 ++ (yo 21 87))), fun b => xLd b true true (b 1) 4 1 (IntKind.i32.wrap (s4 b 6))⟩
theorem khw33e : WE hw khw33 := fun _ _ h s a => lfE h (oE hw khw33)
theorem khw33f : WF hw khw33 := fun _ _ h s a => lfE h (oF hw khw33)
theorem khw33t : WT hw khw33 := fun _ _ h s a => lfE h (oT hw khw33)
def khw34 : Way := ⟨fun s a b => q1 (b 2 == 15) ++ (tkC s a 3 ++ (ne (b 3) [175, 182] ++ (q1 ((b 3) == 183) ++ (tkC s a 4 ++ (q0 (Int.tmod (endE (b 1) (b 4)) 8 == 4) ++ (tkC s a 5 ++ (tkC s a 6 ++ (tkC s a 7 ++ (tkC s a 8 ++ (sgC [(b 5), (b 6), (b 7), (b 8)])))))))))), yo 9 27 ++ (nos 19 [15, 18] ++ (yo 19 22 ++ (no 21 87))), fun b => xLd b true true (b 1) 4 2 (IntKind.i32.wrap (s4 b 5))⟩
theorem khw34e : WE hw khw34 := fun _ _ h s a => lfE h (oE hw khw34)
theorem khw34f : WF hw khw34 := fun _ _ h s a => lfE h (oF hw khw34)
theorem khw34t : WT hw khw34 := fun _ _ h s a => lfE h (oT hw khw34)
def khw35 : Way := ⟨fun s a b => q1 (b 2 == 15) ++ (tkC s a 3 ++ (ne (b 3) [175, 182] ++ (q1 ((b 3) == 183) ++ (tkC s a 4 ++ (q1 (Int.tmod (endE (b 1) (b 4)) 8 == 4) ++ (tkC s a 5 ++ (tkC s a 6 ++ (tkC s a 7 ++ (tkC s a 8 ++ (tkC s a 9 ++ (sgC [(b 6), (b 7), (b 8), (b 9)]))))))))))), yo 9 27 ++ (nos 19 [15, 18] ++ (yo 19 22 ++ (yo 21 87))), fun b => xLd b true true (b 1) 4 2 (IntKind.i32.wrap (s4 b 6))⟩
theorem khw35e : WE hw khw35 := fun _ _ h s a => lfE h (oE hw khw35)
theorem khw35f : WF hw khw35 := fun _ _ h s a => lfE h (oF hw khw35)
theorem khw35t : WT hw khw35 := fun _ _ h s a => lfE h (oT hw khw35)
def khw36 : Way := ⟨fun s a b => q1 (b 2 == 15) ++ (tkC s a 3 ++ (ne (b 3) [175, 182, 183] ++ (q1 ((b 3) == 174)))), yo 9 27 ++ (nos 19 [15, 18, 22] ++ (yo 19 26)), fun b => xN true true 21⟩
theorem khw36e : WE hw khw36 := fun _ _ h s a => lfE h (oE hw khw36)
theorem khw36f : WF hw khw36 := fun _ _ h s a => lfE h (oF hw khw36)
theorem khw36t : WT hw khw36 := fun _ _ h s a => lfE h (oT hw khw36)
def khw37 : Way := ⟨fun s a b => q1 (b 2 == 15) ++ (tkC s a 3 ++ (ne (b 3) [175, 182, 183, 174] ++ (q1 (andB (b 3) 240 == 128) ++ (tkC s a 4 ++ (tkC s a 5 ++ (tkC s a 6 ++ (tkC s a 7 ++ (sgC [(b 4), (b 5), (b 6), (b 7)])))))))), yo 9 27 ++ (nos 19 [15, 18, 22, 26] ++ (yo 19 8)), fun b => xR true true false 16 (IntKind.i64.wrap (andB (b 3) 15)) (IntKind.i32.wrap (s4 b 4))⟩
theorem khw37e : WE hw khw37 := fun _ _ h s a => lfE h (oE hw khw37)
theorem khw37f : WF hw khw37 := fun _ _ h s a => lfE h (oF hw khw37)
theorem khw37t : WT hw khw37 := fun _ _ h s a => lfE h (oT hw khw37)
def khw38 : Way := ⟨fun s a b => q1 (b 2 == 15) ++ (tkC s a 3 ++ (ne (b 3) [175, 182, 183, 174] ++ (q0 (andB (b 3) 240 == 128)))), yo 9 27 ++ (nos 19 [15, 18, 22, 26] ++ (no 19 8)), fun b => XX.z⟩
theorem khw38e : WE hw khw38 := fun _ _ h s a => lfE h (oE hw khw38)
end Go.Proofs.YtokeopmmnpmfeaaDoor.Ex
