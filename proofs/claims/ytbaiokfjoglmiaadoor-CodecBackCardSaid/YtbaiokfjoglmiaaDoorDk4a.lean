/-
  Layer 11: decoding, way by way.
-/
import Derived.Test.YtbaiokfjoglmiaaDoorPackW
namespace Go.Proofs.YtbaiokfjoglmiaaDoor.Ex
open Go Go.RowKit
set_option linter.unusedVariables false
set_option linter.unusedSimpArgs false
set_option maxHeartbeats 0
set_option maxRecDepth 1000000
def kn00 : Way := ⟨fun s a b => q0 (b 0 == 15) ++ (pkC s a 1 ++ (q1 (decide ((b 1) < 192)) ++ (q1 ((b 0) == 137) ++ (tkC s a 1 ++ (q0 (Int.tmod (endE 0 (b 1)) 8 == 4) ++ (tkC s a 2 ++ (tkC s a 3 ++ (tkC s a 4 ++ (tkC s a 5 ++ (sgC [(b 2), (b 3), (b 4), (b 5)])))))))))), no 52 27 ++ (yo 84 11 ++ (yo 84 23 ++ (no 85 87))), fun b => xSd b false false 0 1 4 (IntKind.i32.wrap (s4 b 2))⟩
theorem kn00e : WE n0 kn00 := fun _ _ h s a => lfD h (oE n0 kn00) (by kernel_rfl) (by kernel_rfl)
theorem kn00f : WF n0 kn00 := fun _ _ h s a => lfD h (oF n0 kn00) (by kernel_rfl) (by kernel_rfl)
theorem kn00t : WT n0 kn00 := fun _ _ h s a => lfD h (oT n0 kn00) (by kernel_rfl) (by kernel_rfl)
def kn01 : Way := ⟨fun s a b => q0 (b 0 == 15) ++ (pkC s a 1 ++ (q1 (decide ((b 1) < 192)) ++ (q1 ((b 0) == 137) ++ (tkC s a 1 ++ (q1 (Int.tmod (endE 0 (b 1)) 8 == 4) ++ (tkC s a 2 ++ (tkC s a 3 ++ (tkC s a 4 ++ (tkC s a 5 ++ (tkC s a 6 ++ (sgC [(b 3), (b 4), (b 5), (b 6)]))))))))))), no 52 27 ++ (yo 84 11 ++ (yo 84 23 ++ (yo 85 87))), fun b => xSd b false false 0 1 4 (IntKind.i32.wrap (s4 b 3))⟩
theorem kn01e : WE n0 kn01 := fun _ _ h s a => lfD h (oE n0 kn01) (by kernel_rfl) (by kernel_rfl)
theorem kn01f : WF n0 kn01 := fun _ _ h s a => lfD h (oF n0 kn01) (by kernel_rfl) (by kernel_rfl)
theorem kn01t : WT n0 kn01 := fun _ _ h s a => lfD h (oT n0 kn01) (by kernel_rfl) (by kernel_rfl)
def kn02 : Way := ⟨fun s a b => q0 (b 0 == 15) ++ (pkC s a 1 ++ (q0 (decide ((b 1) < 192)) ++ (q1 ((b 0) == 137) ++ (tkC s a 1)))), no 52 27 ++ (no 84 11 ++ (yo 84 23)), fun b => xRM b false false 0 1 1 0⟩
theorem kn02e : WE n0 kn02 := fun _ _ h s a => lfD h (oE n0 kn02) (by kernel_rfl) (by kernel_rfl)
theorem kn02f : WF n0 kn02 := fun _ _ h s a => lfD h (oF n0 kn02) (by kernel_rfl) (by kernel_rfl)
theorem kn02t : WT n0 kn02 := fun _ _ h s a => lfD h (oT n0 kn02) (by kernel_rfl) (by kernel_rfl)
def kn03 : Way := ⟨fun s a b => q0 (b 0 == 15) ++ (pkC s a 1 ++ (ne (b 0) [137] ++ (q1 ((b 0) == 136) ++ (tkC s a 1 ++ (q0 (Int.tmod (endE 0 (b 1)) 8 == 4) ++ (tkC s a 2 ++ (tkC s a 3 ++ (tkC s a 4 ++ (tkC s a 5 ++ (sgC [(b 2), (b 3), (b 4), (b 5)])))))))))), no 52 27 ++ (nos 84 [23] ++ (yo 84 30 ++ (no 85 87))), fun b => xSd b false false 0 1 1 (IntKind.i32.wrap (s4 b 2))⟩
theorem kn03e : WE n0 kn03 := fun _ _ h s a => lfD h (oE n0 kn03) (by kernel_rfl) (by kernel_rfl)
theorem kn03f : WF n0 kn03 := fun _ _ h s a => lfD h (oF n0 kn03) (by kernel_rfl) (by kernel_rfl)
theorem kn03t : WT n0 kn03 := fun _ _ h s a => lfD h (oT n0 kn03) (by kernel_rfl) (by kernel_rfl)
def kn04 : Way := ⟨fun s a b => q0 (b 0 == 15) ++ (pkC s a 1 ++ (ne (b 0) [137] ++ (q1 ((b 0) == 136) ++ (tkC s a 1 ++ (q1 (Int.tmod (endE 0 (b 1)) 8 == 4) ++ (tkC s a 2 ++ (tkC s a 3 ++ (tkC s a 4 ++ (tkC s a 5 ++ (tkC s a 6 ++ (sgC [(b 3), (b 4), (b 5), (b 6)]))))))))))), no 52 27 ++ (nos 84 [23] ++ (yo 84 30 ++ (yo 85 87))), fun b => xSd b false false 0 1 1 (IntKind.i32.wrap (s4 b 3))⟩
theorem kn04e : WE n0 kn04 := fun _ _ h s a => lfD h (oE n0 kn04) (by kernel_rfl) (by kernel_rfl)
theorem kn04f : WF n0 kn04 := fun _ _ h s a => lfD h (oF n0 kn04) (by kernel_rfl) (by kernel_rfl)
theorem kn04t : WT n0 kn04 := fun _ _ h s a => lfD h (oT n0 kn04) (by kernel_rfl) (by kernel_rfl)
def kn05 : Way := ⟨fun s a b => q0 (b 0 == 15) ++ (pkC s a 1 ++ (ne (b 0) [137, 136] ++ (q1 ((b 0) == 139) ++ (tkC s a 1 ++ (q0 (Int.tmod (endE 0 (b 1)) 8 == 4) ++ (tkC s a 2 ++ (tkC s a 3 ++ (tkC s a 4 ++ (tkC s a 5 ++ (sgC [(b 2), (b 3), (b 4), (b 5)])))))))))), no 52 27 ++ (nos 84 [23, 30] ++ (yo 84 34 ++ (no 85 87))), fun b => xLd b false false 0 1 4 (IntKind.i32.wrap (s4 b 2))⟩
theorem kn05e : WE n0 kn05 := fun _ _ h s a => lfD h (oE n0 kn05) (by kernel_rfl) (by kernel_rfl)
theorem kn05f : WF n0 kn05 := fun _ _ h s a => lfD h (oF n0 kn05) (by kernel_rfl) (by kernel_rfl)
theorem kn05t : WT n0 kn05 := fun _ _ h s a => lfD h (oT n0 kn05) (by kernel_rfl) (by kernel_rfl)
def kn06 : Way := ⟨fun s a b => q0 (b 0 == 15) ++ (pkC s a 1 ++ (ne (b 0) [137, 136] ++ (q1 ((b 0) == 139) ++ (tkC s a 1 ++ (q1 (Int.tmod (endE 0 (b 1)) 8 == 4) ++ (tkC s a 2 ++ (tkC s a 3 ++ (tkC s a 4 ++ (tkC s a 5 ++ (tkC s a 6 ++ (sgC [(b 3), (b 4), (b 5), (b 6)]))))))))))), no 52 27 ++ (nos 84 [23, 30] ++ (yo 84 34 ++ (yo 85 87))), fun b => xLd b false false 0 1 4 (IntKind.i32.wrap (s4 b 3))⟩
theorem kn06e : WE n0 kn06 := fun _ _ h s a => lfD h (oE n0 kn06) (by kernel_rfl) (by kernel_rfl)
theorem kn06f : WF n0 kn06 := fun _ _ h s a => lfD h (oF n0 kn06) (by kernel_rfl) (by kernel_rfl)
theorem kn06t : WT n0 kn06 := fun _ _ h s a => lfD h (oT n0 kn06) (by kernel_rfl) (by kernel_rfl)
def kn07 : Way := ⟨fun s a b => q0 (b 0 == 15) ++ (pkC s a 1 ++ (ne (b 0) [137, 136, 139] ++ (q1 ((b 0) == 133) ++ (tkC s a 1)))), no 52 27 ++ (nos 84 [23, 30, 34] ++ (yo 84 39)), fun b => xRM b false false 0 1 6 0⟩
theorem kn07e : WE n0 kn07 := fun _ _ h s a => lfD h (oE n0 kn07) (by kernel_rfl) (by kernel_rfl)
theorem kn07f : WF n0 kn07 := fun _ _ h s a => lfD h (oF n0 kn07) (by kernel_rfl) (by kernel_rfl)
theorem kn07t : WT n0 kn07 := fun _ _ h s a => lfD h (oT n0 kn07) (by kernel_rfl) (by kernel_rfl)
def kn08 : Way := ⟨fun s a b => q0 (b 0 == 15) ++ (pkC s a 1 ++ (ne (b 0) [137, 136, 139, 133] ++ (q1 ((b 0) == 129) ++ (tkC s a 1 ++ (tkC s a 2 ++ (tkC s a 3 ++ (tkC s a 4 ++ (tkC s a 5 ++ (sgC [(b 2), (b 3), (b 4), (b 5)]))))))))), no 52 27 ++ (nos 84 [23, 30, 34, 39] ++ (yo 84 42)), fun b => xDg b false false 0 1 5 (digE (b 1)) (s4 b 2)⟩
theorem kn08e : WE n0 kn08 := fun _ _ h s a => lfD h (oE n0 kn08) (by kernel_rfl) (by kernel_rfl)
theorem kn08f : WF n0 kn08 := fun _ _ h s a => lfD h (oF n0 kn08) (by kernel_rfl) (by kernel_rfl)
theorem kn08t : WT n0 kn08 := fun _ _ h s a => lfD h (oT n0 kn08) (by kernel_rfl) (by kernel_rfl)
def kn09 : Way := ⟨fun s a b => q0 (b 0 == 15) ++ (pkC s a 1 ++ (ne (b 0) [137, 136, 139, 133, 129] ++ (q1 ((b 0) == 199) ++ (tkC s a 1 ++ (tkC s a 2 ++ (tkC s a 3 ++ (tkC s a 4 ++ (tkC s a 5 ++ (sgC [(b 2), (b 3), (b 4), (b 5)]))))))))), no 52 27 ++ (nos 84 [23, 30, 34, 39, 42] ++ (yo 84 47)), fun b => xDg b false false 0 1 2 0 (s4 b 2)⟩
theorem kn09e : WE n0 kn09 := fun _ _ h s a => lfD h (oE n0 kn09) (by kernel_rfl) (by kernel_rfl)
theorem kn09f : WF n0 kn09 := fun _ _ h s a => lfD h (oF n0 kn09) (by kernel_rfl) (by kernel_rfl)
theorem kn09t : WT n0 kn09 := fun _ _ h s a => lfD h (oT n0 kn09) (by kernel_rfl) (by kernel_rfl)
def kn010 : Way := ⟨fun s a b => q0 (b 0 == 15) ++ (pkC s a 1 ++ (ne (b 0) [137, 136, 139, 133, 129, 199] ++ (q1 ((b 0) == 247) ++ (q1 ((digE (b 1)) == 3) ++ (tkC s a 1))))), no 52 27 ++ (nos 84 [23, 30, 34, 39, 42, 47] ++ (yo 84 50 ++ (yo 103 5))), fun b => xDg b false false 0 1 7 0 0⟩
theorem kn010e : WE n0 kn010 := fun _ _ h s a => lfD h (oE n0 kn010) (by kernel_rfl) (by kernel_rfl)
theorem kn010f : WF n0 kn010 := fun _ _ h s a => lfD h (oF n0 kn010) (by kernel_rfl) (by kernel_rfl)
theorem kn010t : WT n0 kn010 := fun _ _ h s a => lfD h (oT n0 kn010) (by kernel_rfl) (by kernel_rfl)
def kn011 : Way := ⟨fun s a b => q0 (b 0 == 15) ++ (pkC s a 1 ++ (ne (b 0) [137, 136, 139, 133, 129, 199] ++ (q1 ((b 0) == 247) ++ (q0 ((digE (b 1)) == 3) ++ (q1 ((digE (b 1)) == 4) ++ (tkC s a 1)))))), no 52 27 ++ (nos 84 [23, 30, 34, 39, 42, 47] ++ (yo 84 50 ++ (no 103 5 ++ (yo 103 7)))), fun b => xDg b false false 0 1 8 0 0⟩
theorem kn011e : WE n0 kn011 := fun _ _ h s a => lfD h (oE n0 kn011) (by kernel_rfl) (by kernel_rfl)
theorem kn011f : WF n0 kn011 := fun _ _ h s a => lfD h (oF n0 kn011) (by kernel_rfl) (by kernel_rfl)
theorem kn011t : WT n0 kn011 := fun _ _ h s a => lfD h (oT n0 kn011) (by kernel_rfl) (by kernel_rfl)
def kn012 : Way := ⟨fun s a b => q0 (b 0 == 15) ++ (pkC s a 1 ++ (ne (b 0) [137, 136, 139, 133, 129, 199] ++ (q1 ((b 0) == 247) ++ (q0 ((digE (b 1)) == 3) ++ (q0 ((digE (b 1)) == 4) ++ (q1 ((digE (b 1)) == 6) ++ (tkC s a 1))))))), no 52 27 ++ (nos 84 [23, 30, 34, 39, 42, 47] ++ (yo 84 50 ++ (no 103 5 ++ (no 103 7 ++ (yo 103 9))))), fun b => xDg b false false 0 1 9 0 0⟩
theorem kn012e : WE n0 kn012 := fun _ _ h s a => lfD h (oE n0 kn012) (by kernel_rfl) (by kernel_rfl)
theorem kn012f : WF n0 kn012 := fun _ _ h s a => lfD h (oF n0 kn012) (by kernel_rfl) (by kernel_rfl)
theorem kn012t : WT n0 kn012 := fun _ _ h s a => lfD h (oT n0 kn012) (by kernel_rfl) (by kernel_rfl)
def kn013 : Way := ⟨fun s a b => q0 (b 0 == 15) ++ (pkC s a 1 ++ (ne (b 0) [137, 136, 139, 133, 129, 199] ++ (q1 ((b 0) == 247) ++ (q0 ((digE (b 1)) == 3) ++ (q0 ((digE (b 1)) == 4) ++ (q0 ((digE (b 1)) == 6))))))), no 52 27 ++ (nos 84 [23, 30, 34, 39, 42, 47] ++ (yo 84 50 ++ (no 103 5 ++ (no 103 7 ++ (no 103 9))))), fun b => XX.z⟩
theorem kn013e : WE n0 kn013 := fun _ _ h s a => lfD h (oE n0 kn013) (by kernel_rfl) (by kernel_rfl)
def kn014 : Way := ⟨fun s a b => q0 (b 0 == 15) ++ (pkC s a 1 ++ (ne (b 0) [137, 136, 139, 133, 129, 199, 247] ++ (q1 ((b 0) == 193) ++ (tkC s a 1 ++ (tkC s a 2 ++ (sgC [(b 2)])))))), no 52 27 ++ (nos 84 [23, 30, 34, 39, 42, 47, 50] ++ (yo 84 55)), fun b => xDg b false false 0 1 11 (digE (b 1)) (s1 b 2)⟩
theorem kn014e : WE n0 kn014 := fun _ _ h s a => lfD h (oE n0 kn014) (by kernel_rfl) (by kernel_rfl)
theorem kn014f : WF n0 kn014 := fun _ _ h s a => lfD h (oF n0 kn014) (by kernel_rfl) (by kernel_rfl)
theorem kn014t : WT n0 kn014 := fun _ _ h s a => lfD h (oT n0 kn014) (by kernel_rfl) (by kernel_rfl)
def kn015 : Way := ⟨fun s a b => q0 (b 0 == 15) ++ (pkC s a 1 ++ (ne (b 0) [137, 136, 139, 133, 129, 199, 247, 193] ++ (q1 ((b 0) == 211) ++ (tkC s a 1)))), no 52 27 ++ (nos 84 [23, 30, 34, 39, 42, 47, 50, 55] ++ (yo 84 60)), fun b => xDg b false false 0 1 12 (digE (b 1)) 0⟩
theorem kn015e : WE n0 kn015 := fun _ _ h s a => lfD h (oE n0 kn015) (by kernel_rfl) (by kernel_rfl)
theorem kn015f : WF n0 kn015 := fun _ _ h s a => lfD h (oF n0 kn015) (by kernel_rfl) (by kernel_rfl)
theorem kn015t : WT n0 kn015 := fun _ _ h s a => lfD h (oT n0 kn015) (by kernel_rfl) (by kernel_rfl)
def kn016 : Way := ⟨fun s a b => q0 (b 0 == 15) ++ (pkC s a 1 ++ (ne (b 0) [137, 136, 139, 133, 129, 199, 247, 193, 211] ++ (q1 ((b 0) == 235) ++ (tkC s a 1 ++ (sgC [(b 1)]))))), no 52 27 ++ (nos 84 [23, 30, 34, 39, 42, 47, 50, 55, 60] ++ (yo 84 65)), fun b => xR false false true 15 0 (IntKind.i32.wrap (s1 b 1))⟩
theorem kn016e : WE n0 kn016 := fun _ _ h s a => lfD h (oE n0 kn016) (by kernel_rfl) (by kernel_rfl)
theorem kn016f : WF n0 kn016 := fun _ _ h s a => lfD h (oF n0 kn016) (by kernel_rfl) (by kernel_rfl)
theorem kn016t : WT n0 kn016 := fun _ _ h s a => lfD h (oT n0 kn016) (by kernel_rfl) (by kernel_rfl)
def kn017 : Way := ⟨fun s a b => q0 (b 0 == 15) ++ (pkC s a 1 ++ (ne (b 0) [137, 136, 139, 133, 129, 199, 247, 193, 211, 235] ++ (q1 ((b 0) == 233) ++ (tkC s a 1 ++ (tkC s a 2 ++ (tkC s a 3 ++ (tkC s a 4 ++ (sgC [(b 1), (b 2), (b 3), (b 4)])))))))), no 52 27 ++ (nos 84 [23, 30, 34, 39, 42, 47, 50, 55, 60, 65] ++ (yo 84 69)), fun b => xR false false false 15 0 (IntKind.i32.wrap (s4 b 1))⟩
theorem kn017e : WE n0 kn017 := fun _ _ h s a => lfD h (oE n0 kn017) (by kernel_rfl) (by kernel_rfl)
theorem kn017f : WF n0 kn017 := fun _ _ h s a => lfD h (oF n0 kn017) (by kernel_rfl) (by kernel_rfl)
theorem kn017t : WT n0 kn017 := fun _ _ h s a => lfD h (oT n0 kn017) (by kernel_rfl) (by kernel_rfl)
def kn018 : Way := ⟨fun s a b => q0 (b 0 == 15) ++ (pkC s a 1 ++ (ne (b 0) [137, 136, 139, 133, 129, 199, 247, 193, 211, 235, 233] ++ (q1 ((b 0) == 232) ++ (tkC s a 1 ++ (tkC s a 2 ++ (tkC s a 3 ++ (tkC s a 4 ++ (sgC [(b 1), (b 2), (b 3), (b 4)])))))))), no 52 27 ++ (nos 84 [23, 30, 34, 39, 42, 47, 50, 55, 60, 65, 69] ++ (yo 84 72)), fun b => xR false false false 20 0 (IntKind.i32.wrap (s4 b 1))⟩
theorem kn018e : WE n0 kn018 := fun _ _ h s a => lfD h (oE n0 kn018) (by kernel_rfl) (by kernel_rfl)
theorem kn018f : WF n0 kn018 := fun _ _ h s a => lfD h (oF n0 kn018) (by kernel_rfl) (by kernel_rfl)
theorem kn018t : WT n0 kn018 := fun _ _ h s a => lfD h (oT n0 kn018) (by kernel_rfl) (by kernel_rfl)
end Go.Proofs.YtbaiokfjoglmiaaDoor.Ex
