/-
  Layer 11: decoding, way by way.
-/
import Derived.Test.YtokeopmmnpmfeaaDoorPackC
namespace Go.Proofs.YtokeopmmnpmfeaaDoor.Ex
set_option maxRecDepth 20000

open Go Go.RowKit
set_option linter.unusedVariables false
set_option linter.unusedSimpArgs false
set_option maxHeartbeats 0
set_option maxRecDepth 1000000
def knr19 : Way := ⟨fun s a b => q0 (b 1 == 15) ++ (pkC s a 2 ++ (ne (b 1) [137, 136, 139, 133, 129, 199, 247, 193, 211, 235, 233, 232] ++ (q1 ((b 1) == 195)))), no 9 27 ++ (nos 20 [23, 30, 34, 39, 42, 47, 50, 55, 60, 65, 69, 72] ++ (yo 20 75)), fun b => xN false false 19⟩
theorem knr19e : WE nr knr19 := fun _ _ h s a => lfE h (oE nr knr19)
theorem knr19f : WF nr knr19 := fun _ _ h s a => lfE h (oF nr knr19)
theorem knr19t : WT nr knr19 := fun _ _ h s a => lfE h (oT nr knr19)
def knr20 : Way := ⟨fun s a b => q0 (b 1 == 15) ++ (pkC s a 2 ++ (ne (b 1) [137, 136, 139, 133, 129, 199, 247, 193, 211, 235, 233, 232, 195] ++ (q1 (decide ((b 1) < 64)) ++ (q1 (Int.tmod (b 1) 8 == 1) ++ (tkC s a 2))))), no 9 27 ++ (nos 20 [23, 30, 34, 39, 42, 47, 50, 55, 60, 65, 69, 72, 75] ++ (yo 39 7 ++ (yo 39 11))), fun b => xRM b false false (b 0) 2 4 (IntKind.i64.wrap (IntKind.u8.wrap (Int.tdiv (b 1) 8)))⟩
theorem knr20e : WE nr knr20 := fun _ _ h s a => lfE h (oE nr knr20)
theorem knr20f : WF nr knr20 := fun _ _ h s a => lfE h (oF nr knr20)
theorem knr20t : WT nr knr20 := fun _ _ h s a => lfE h (oT nr knr20)
def knr21 : Way := ⟨fun s a b => q0 (b 1 == 15) ++ (pkC s a 2 ++ (ne (b 1) [137, 136, 139, 133, 129, 199, 247, 193, 211, 235, 233, 232, 195] ++ (q1 (decide ((b 1) < 64)) ++ (q0 (Int.tmod (b 1) 8 == 1) ++ (q1 (andB (b 1) 248 == 80)))))), no 9 27 ++ (nos 20 [23, 30, 34, 39, 42, 47, 50, 55, 60, 65, 69, 72, 75] ++ (yo 39 7 ++ (no 39 11 ++ (yo 39 21)))), fun b => xC false false (b 0) (b 1) 17 0⟩
theorem knr21e : WE nr knr21 := fun _ _ h s a => lfE h (oE nr knr21)
theorem knr21f : WF nr knr21 := fun _ _ h s a => lfE h (oF nr knr21)
theorem knr21t : WT nr knr21 := fun _ _ h s a => lfE h (oT nr knr21)
def knr22 : Way := ⟨fun s a b => q0 (b 1 == 15) ++ (pkC s a 2 ++ (ne (b 1) [137, 136, 139, 133, 129, 199, 247, 193, 211, 235, 233, 232, 195] ++ (q1 (decide ((b 1) < 64)) ++ (q0 (Int.tmod (b 1) 8 == 1) ++ (q0 (andB (b 1) 248 == 80) ++ (q1 (andB (b 1) 248 == 88))))))), no 9 27 ++ (nos 20 [23, 30, 34, 39, 42, 47, 50, 55, 60, 65, 69, 72, 75] ++ (yo 39 7 ++ (no 39 11 ++ (no 39 21 ++ (yo 39 26))))), fun b => xC false false (b 0) (b 1) 18 0⟩
theorem knr22e : WE nr knr22 := fun _ _ h s a => lfE h (oE nr knr22)
theorem knr22f : WF nr knr22 := fun _ _ h s a => lfE h (oF nr knr22)
theorem knr22t : WT nr knr22 := fun _ _ h s a => lfE h (oT nr knr22)
def knr23 : Way := ⟨fun s a b => q0 (b 1 == 15) ++ (pkC s a 2 ++ (ne (b 1) [137, 136, 139, 133, 129, 199, 247, 193, 211, 235, 233, 232, 195] ++ (q1 (decide ((b 1) < 64)) ++ (q0 (Int.tmod (b 1) 8 == 1) ++ (q0 (andB (b 1) 248 == 80) ++ (q0 (andB (b 1) 248 == 88) ++ (q1 (andB (b 1) 240 == 112) ++ (tkC s a 2 ++ (sgC [(b 2)]))))))))), no 9 27 ++ (nos 20 [23, 30, 34, 39, 42, 47, 50, 55, 60, 65, 69, 72, 75] ++ (yo 39 7 ++ (no 39 11 ++ (no 39 21 ++ (no 39 26 ++ (yo 39 31)))))), fun b => xR false false true 16 (IntKind.i64.wrap (andB (b 1) 15)) (IntKind.i32.wrap (s1 b 2))⟩
theorem knr23e : WE nr knr23 := fun _ _ h s a => lfE h (oE nr knr23)
theorem knr23f : WF nr knr23 := fun _ _ h s a => lfE h (oF nr knr23)
theorem knr23t : WT nr knr23 := fun _ _ h s a => lfE h (oT nr knr23)
def knr24 : Way := ⟨fun s a b => q0 (b 1 == 15) ++ (pkC s a 2 ++ (ne (b 1) [137, 136, 139, 133, 129, 199, 247, 193, 211, 235, 233, 232, 195] ++ (q1 (decide ((b 1) < 64)) ++ (q0 (Int.tmod (b 1) 8 == 1) ++ (q0 (andB (b 1) 248 == 80) ++ (q0 (andB (b 1) 248 == 88) ++ (q0 (andB (b 1) 240 == 112) ++ (q1 (andB (b 1) 248 == 184) ++ (tkC s a 2 ++ (tkC s a 3 ++ (tkC s a 4 ++ (tkC s a 5 ++ (tkC s a 6 ++ (tkC s a 7 ++ (tkC s a 8 ++ (tkC s a 9 ++ (sgC [(b 2), (b 3), (b 4), (b 5), (b 6), (b 7), (b 8), (b 9)]))))))))))))))))), no 9 27 ++ (nos 20 [23, 30, 34, 39, 42, 47, 50, 55, 60, 65, 69, 72, 75] ++ (yo 39 7 ++ (no 39 11 ++ (no 39 21 ++ (no 39 26 ++ (no 39 31 ++ (yo 39 41))))))), fun b => xC false false (b 0) (b 1) 3 (s8 b 2)⟩
theorem knr24e : WE nr knr24 := fun _ _ h s a => lfE h (oE nr knr24)
theorem knr24f : WF nr knr24 := fun _ _ h s a => lfE h (oF nr knr24)
theorem knr24t : WT nr knr24 := fun _ _ h s a => lfE h (oT nr knr24)
def knr25 : Way := ⟨fun s a b => q0 (b 1 == 15) ++ (pkC s a 2 ++ (ne (b 1) [137, 136, 139, 133, 129, 199, 247, 193, 211, 235, 233, 232, 195] ++ (q1 (decide ((b 1) < 64)) ++ (q0 (Int.tmod (b 1) 8 == 1) ++ (q0 (andB (b 1) 248 == 80) ++ (q0 (andB (b 1) 248 == 88) ++ (q0 (andB (b 1) 240 == 112) ++ (q0 (andB (b 1) 248 == 184))))))))), no 9 27 ++ (nos 20 [23, 30, 34, 39, 42, 47, 50, 55, 60, 65, 69, 72, 75] ++ (yo 39 7 ++ (no 39 11 ++ (no 39 21 ++ (no 39 26 ++ (no 39 31 ++ (no 39 41))))))), fun b => XX.z⟩
theorem knr25e : WE nr knr25 := fun _ _ h s a => lfE h (oE nr knr25)
def knr26 : Way := ⟨fun s a b => q0 (b 1 == 15) ++ (pkC s a 2 ++ (ne (b 1) [137, 136, 139, 133, 129, 199, 247, 193, 211, 235, 233, 232, 195] ++ (q0 (decide ((b 1) < 64)) ++ (q1 (andB (b 1) 248 == 80))))), no 9 27 ++ (nos 20 [23, 30, 34, 39, 42, 47, 50, 55, 60, 65, 69, 72, 75] ++ (no 39 7 ++ (yo 39 21))), fun b => xC false false (b 0) (b 1) 17 0⟩
theorem knr26e : WE nr knr26 := fun _ _ h s a => lfE h (oE nr knr26)
theorem knr26f : WF nr knr26 := fun _ _ h s a => lfE h (oF nr knr26)
theorem knr26t : WT nr knr26 := fun _ _ h s a => lfE h (oT nr knr26)
def knr27 : Way := ⟨fun s a b => q0 (b 1 == 15) ++ (pkC s a 2 ++ (ne (b 1) [137, 136, 139, 133, 129, 199, 247, 193, 211, 235, 233, 232, 195] ++ (q0 (decide ((b 1) < 64)) ++ (q0 (andB (b 1) 248 == 80) ++ (q1 (andB (b 1) 248 == 88)))))), no 9 27 ++ (nos 20 [23, 30, 34, 39, 42, 47, 50, 55, 60, 65, 69, 72, 75] ++ (no 39 7 ++ (no 39 21 ++ (yo 39 26)))), fun b => xC false false (b 0) (b 1) 18 0⟩
theorem knr27e : WE nr knr27 := fun _ _ h s a => lfE h (oE nr knr27)
theorem knr27f : WF nr knr27 := fun _ _ h s a => lfE h (oF nr knr27)
theorem knr27t : WT nr knr27 := fun _ _ h s a => lfE h (oT nr knr27)
def knr28 : Way := ⟨fun s a b => q0 (b 1 == 15) ++ (pkC s a 2 ++ (ne (b 1) [137, 136, 139, 133, 129, 199, 247, 193, 211, 235, 233, 232, 195] ++ (q0 (decide ((b 1) < 64)) ++ (q0 (andB (b 1) 248 == 80) ++ (q0 (andB (b 1) 248 == 88) ++ (q1 (andB (b 1) 240 == 112) ++ (tkC s a 2 ++ (sgC [(b 2)])))))))), no 9 27 ++ (nos 20 [23, 30, 34, 39, 42, 47, 50, 55, 60, 65, 69, 72, 75] ++ (no 39 7 ++ (no 39 21 ++ (no 39 26 ++ (yo 39 31))))), fun b => xR false false true 16 (IntKind.i64.wrap (andB (b 1) 15)) (IntKind.i32.wrap (s1 b 2))⟩
theorem knr28e : WE nr knr28 := fun _ _ h s a => lfE h (oE nr knr28)
theorem knr28f : WF nr knr28 := fun _ _ h s a => lfE h (oF nr knr28)
theorem knr28t : WT nr knr28 := fun _ _ h s a => lfE h (oT nr knr28)
def knr29 : Way := ⟨fun s a b => q0 (b 1 == 15) ++ (pkC s a 2 ++ (ne (b 1) [137, 136, 139, 133, 129, 199, 247, 193, 211, 235, 233, 232, 195] ++ (q0 (decide ((b 1) < 64)) ++ (q0 (andB (b 1) 248 == 80) ++ (q0 (andB (b 1) 248 == 88) ++ (q0 (andB (b 1) 240 == 112) ++ (q1 (andB (b 1) 248 == 184) ++ (tkC s a 2 ++ (tkC s a 3 ++ (tkC s a 4 ++ (tkC s a 5 ++ (tkC s a 6 ++ (tkC s a 7 ++ (tkC s a 8 ++ (tkC s a 9 ++ (sgC [(b 2), (b 3), (b 4), (b 5), (b 6), (b 7), (b 8), (b 9)])))))))))))))))), no 9 27 ++ (nos 20 [23, 30, 34, 39, 42, 47, 50, 55, 60, 65, 69, 72, 75] ++ (no 39 7 ++ (no 39 21 ++ (no 39 26 ++ (no 39 31 ++ (yo 39 41)))))), fun b => xC false false (b 0) (b 1) 3 (s8 b 2)⟩
theorem knr29e : WE nr knr29 := fun _ _ h s a => lfE h (oE nr knr29)
theorem knr29f : WF nr knr29 := fun _ _ h s a => lfE h (oF nr knr29)
theorem knr29t : WT nr knr29 := fun _ _ h s a => lfE h (oT nr knr29)
def knr30 : Way := ⟨fun s a b => q0 (b 1 == 15) ++ (pkC s a 2 ++ (ne (b 1) [137, 136, 139, 133, 129, 199, 247, 193, 211, 235, 233, 232, 195] ++ (q0 (decide ((b 1) < 64)) ++ (q0 (andB (b 1) 248 == 80) ++ (q0 (andB (b 1) 248 == 88) ++ (q0 (andB (b 1) 240 == 112) ++ (q0 (andB (b 1) 248 == 184)))))))), no 9 27 ++ (nos 20 [23, 30, 34, 39, 42, 47, 50, 55, 60, 65, 69, 72, 75] ++ (no 39 7 ++ (no 39 21 ++ (no 39 26 ++ (no 39 31 ++ (no 39 41)))))), fun b => XX.z⟩
theorem knr30e : WE nr knr30 := fun _ _ h s a => lfE h (oE nr knr30)
def knr31 : Way := ⟨fun s a b => q1 (b 1 == 15) ++ (tkC s a 2 ++ (q1 ((b 2) == 175) ++ (tkC s a 3))), yo 9 27 ++ (yo 19 15), fun b => xMR b false false (b 0) 3 10⟩
theorem knr31e : WE nr knr31 := fun _ _ h s a => lfE h (oE nr knr31)
theorem knr31f : WF nr knr31 := fun _ _ h s a => lfE h (oF nr knr31)
theorem knr31t : WT nr knr31 := fun _ _ h s a => lfE h (oT nr knr31)
def knr32 : Way := ⟨fun s a b => q1 (b 1 == 15) ++ (tkC s a 2 ++ (ne (b 2) [175] ++ (q1 ((b 2) == 182) ++ (tkC s a 3 ++ (q0 (Int.tmod (endE (b 0) (b 3)) 8 == 4) ++ (tkC s a 4 ++ (tkC s a 5 ++ (tkC s a 6 ++ (tkC s a 7 ++ (sgC [(b 4), (b 5), (b 6), (b 7)])))))))))), yo 9 27 ++ (nos 19 [15] ++ (yo 19 18 ++ (no 21 87))), fun b => xLd b false false (b 0) 3 1 (IntKind.i32.wrap (s4 b 4))⟩
theorem knr32e : WE nr knr32 := fun _ _ h s a => lfE h (oE nr knr32)
theorem knr32f : WF nr knr32 := fun _ _ h s a => lfE h (oF nr knr32)
theorem knr32t : WT nr knr32 := fun _ _ h s a => lfE h (oT nr knr32)
def knr33 : Way := ⟨fun s a b => q1 (b 1 == 15) ++ (tkC s a 2 ++ (ne (b 2) [175] ++ (q1 ((b 2) == 182) ++ (tkC s a 3 ++ (q1 (Int.tmod (endE (b 0) (b 3)) 8 == 4) ++ (tkC s a 4 ++ (tkC s a 5 ++ (tkC s a 6 ++ (tkC s a 7 ++ (tkC s a 8 ++ (sgC [(b 5), (b 6), (b 7), (b 8)]))))))))))), yo 9 27 ++ (nos 19 [15] ++ (yo 19 18 ++ (yo 21 87))), fun b => xLd b false false (b 0) 3 1 (IntKind.i32.wrap (s4 b 5))⟩
theorem knr33e : WE nr knr33 := fun _ _ h s a => lfE h (oE nr knr33)
theorem knr33f : WF nr knr33 := fun _ _ h s a => lfE h (oF nr knr33)
theorem knr33t : WT nr knr33 := fun _ _ h s a => lfE h (oT nr knr33)
def knr34 : Way := ⟨fun s a b => q1 (b 1 == 15) ++ (tkC s a 2 ++ (ne (b 2) [175, 182] ++ (q1 ((b 2) == 183) ++ (tkC s a 3 ++ (q0 (Int.tmod (endE (b 0) (b 3)) 8 == 4) ++ (tkC s a 4 ++ (tkC s a 5 ++ (tkC s a 6 ++ (tkC s a 7 ++ (sgC [(b 4), (b 5), (b 6), (b 7)])))))))))), yo 9 27 ++ (nos 19 [15, 18] ++ (yo 19 22 ++ (no 21 87))), fun b => xLd b false false (b 0) 3 2 (IntKind.i32.wrap (s4 b 4))⟩
theorem knr34e : WE nr knr34 := fun _ _ h s a => lfE h (oE nr knr34)
theorem knr34f : WF nr knr34 := fun _ _ h s a => lfE h (oF nr knr34)
theorem knr34t : WT nr knr34 := fun _ _ h s a => lfE h (oT nr knr34)
def knr35 : Way := ⟨fun s a b => q1 (b 1 == 15) ++ (tkC s a 2 ++ (ne (b 2) [175, 182] ++ (q1 ((b 2) == 183) ++ (tkC s a 3 ++ (q1 (Int.tmod (endE (b 0) (b 3)) 8 == 4) ++ (tkC s a 4 ++ (tkC s a 5 ++ (tkC s a 6 ++ (tkC s a 7 ++ (tkC s a 8 ++ (sgC [(b 5), (b 6), (b 7), (b 8)]))))))))))), yo 9 27 ++ (nos 19 [15, 18] ++ (yo 19 22 ++ (yo 21 87))), fun b => xLd b false false (b 0) 3 2 (IntKind.i32.wrap (s4 b 5))⟩
theorem knr35e : WE nr knr35 := fun _ _ h s a => lfE h (oE nr knr35)
theorem knr35f : WF nr knr35 := fun _ _ h s a => lfE h (oF nr knr35)
theorem knr35t : WT nr knr35 := fun _ _ h s a => lfE h (oT nr knr35)
def knr36 : Way := ⟨fun s a b => q1 (b 1 == 15) ++ (tkC s a 2 ++ (ne (b 2) [175, 182, 183] ++ (q1 ((b 2) == 174)))), yo 9 27 ++ (nos 19 [15, 18, 22] ++ (yo 19 26)), fun b => xN false false 21⟩
theorem knr36e : WE nr knr36 := fun _ _ h s a => lfE h (oE nr knr36)
theorem knr36f : WF nr knr36 := fun _ _ h s a => lfE h (oF nr knr36)
theorem knr36t : WT nr knr36 := fun _ _ h s a => lfE h (oT nr knr36)
def knr37 : Way := ⟨fun s a b => q1 (b 1 == 15) ++ (tkC s a 2 ++ (ne (b 2) [175, 182, 183, 174] ++ (q1 (andB (b 2) 240 == 128) ++ (tkC s a 3 ++ (tkC s a 4 ++ (tkC s a 5 ++ (tkC s a 6 ++ (sgC [(b 3), (b 4), (b 5), (b 6)])))))))), yo 9 27 ++ (nos 19 [15, 18, 22, 26] ++ (yo 19 8)), fun b => xR false false false 16 (IntKind.i64.wrap (andB (b 2) 15)) (IntKind.i32.wrap (s4 b 3))⟩
theorem knr37e : WE nr knr37 := fun _ _ h s a => lfE h (oE nr knr37)
theorem knr37f : WF nr knr37 := fun _ _ h s a => lfE h (oF nr knr37)
theorem knr37t : WT nr knr37 := fun _ _ h s a => lfE h (oT nr knr37)
def knr38 : Way := ⟨fun s a b => q1 (b 1 == 15) ++ (tkC s a 2 ++ (ne (b 2) [175, 182, 183, 174] ++ (q0 (andB (b 2) 240 == 128)))), yo 9 27 ++ (nos 19 [15, 18, 22, 26] ++ (no 19 8)), fun b => XX.z⟩
theorem knr38e : WE nr knr38 := fun _ _ h s a => lfE h (oE nr knr38)
end Go.Proofs.YtokeopmmnpmfeaaDoor.Ex
