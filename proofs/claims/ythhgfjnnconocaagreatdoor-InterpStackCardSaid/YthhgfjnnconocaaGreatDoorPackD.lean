/-
  Lemmas for the laws of this seat, part D: RkArith, RkJump, RkCode, RkName, Memo, Shelf, RepHook, RkAll, RkNumber, Ex16, Ex18, ExI, Ex19, Ex20, LaidArr, Plain, Flat, Law10a, Law10n, Ex23, Ex24.
-/
import Derived.Test.YthhgfjnnconocaaGreatDoorPackC
import Derived.Shelf.Strings.Repeat
import Derived.Test.YthhgfjnnconocaaGreatDoorProg
import Derived.OpenShut
import Derived.MakeChecks
import Derived.Deep.Fields
import Derived.ChangeSame
import Derived.ProofKit
import Derived.WalkKit
import Derived.ShutString
import Derived.Test.YthhgfjnnconocaaGreatDoorRows
section
namespace Go.Proofs.YthhgfjnnconocaaGreatDoor.Ex
set_option maxRecDepth 20000

open Go Go.RowKit
def rkArithV (n : Nat) : Value := (bif Nat.ble 128 n then (bif Nat.ble 192 n then (bif Nat.ble 224 n then (bif Nat.ble 240 n then (bif Nat.ble 248 n then (bif Nat.ble 252 n then (bif Nat.ble 254 n then (bif Nat.ble 255 n then (.bool true) else (.bool false)) else (bif Nat.ble 253 n then (.bool false) else (.bool true))) else (.bool false)) else (bif Nat.ble 244 n then (bif Nat.ble 246 n then (bif Nat.ble 247 n then (.bool true) else (.bool false)) else (bif Nat.ble 245 n then (.bool false) else (.bool true))) else (.bool false))) else (bif Nat.ble 232 n then (bif Nat.ble 236 n then (bif Nat.ble 238 n then (bif Nat.ble 239 n then (.bool true) else (.bool false)) else (bif Nat.ble 237 n then (.bool false) else (.bool true))) else (.bool false)) else (bif Nat.ble 228 n then (bif Nat.ble 230 n then (bif Nat.ble 231 n then (.bool true) else (.bool false)) else (bif Nat.ble 229 n then (.bool false) else (.bool true))) else (.bool false)))) else (bif Nat.ble 208 n then (bif Nat.ble 216 n then (bif Nat.ble 220 n then (bif Nat.ble 222 n then (bif Nat.ble 223 n then (.bool true) else (.bool false)) else (bif Nat.ble 221 n then (.bool false) else (.bool true))) else (.bool false)) else (bif Nat.ble 212 n then (bif Nat.ble 214 n then (bif Nat.ble 215 n then (.bool true) else (.bool false)) else (bif Nat.ble 213 n then (.bool false) else (.bool true))) else (.bool false))) else (bif Nat.ble 200 n then (bif Nat.ble 204 n then (bif Nat.ble 206 n then (bif Nat.ble 207 n then (.bool true) else (.bool false)) else (bif Nat.ble 205 n then (.bool false) else (.bool true))) else (.bool false)) else (bif Nat.ble 196 n then (bif Nat.ble 198 n then (bif Nat.ble 199 n then (.bool true) else (.bool false)) else (bif Nat.ble 197 n then (.bool false) else (.bool true))) else (.bool false))))) else (bif Nat.ble 160 n then (bif Nat.ble 176 n then (bif Nat.ble 184 n then (bif Nat.ble 188 n then (bif Nat.ble 190 n then (bif Nat.ble 191 n then (.bool true) else (.bool false)) else (bif Nat.ble 189 n then (.bool false) else (.bool true))) else (.bool false)) else (bif Nat.ble 180 n then (bif Nat.ble 182 n then (bif Nat.ble 183 n then (.bool true) else (.bool false)) else (bif Nat.ble 181 n then (.bool false) else (.bool true))) else (.bool false))) else (bif Nat.ble 168 n then (bif Nat.ble 172 n then (bif Nat.ble 174 n then (bif Nat.ble 175 n then (.bool true) else (.bool false)) else (bif Nat.ble 173 n then (.bool false) else (.bool true))) else (.bool false)) else (bif Nat.ble 164 n then (bif Nat.ble 166 n then (bif Nat.ble 167 n then (.bool true) else (.bool false)) else (bif Nat.ble 165 n then (.bool false) else (.bool true))) else (.bool false)))) else (bif Nat.ble 144 n then (bif Nat.ble 152 n then (bif Nat.ble 156 n then (bif Nat.ble 158 n then (bif Nat.ble 159 n then (.bool true) else (.bool false)) else (bif Nat.ble 157 n then (.bool false) else (.bool true))) else (.bool false)) else (bif Nat.ble 148 n then (bif Nat.ble 150 n then (bif Nat.ble 151 n then (.bool true) else (.bool false)) else (bif Nat.ble 149 n then (.bool false) else (.bool true))) else (.bool false))) else (bif Nat.ble 136 n then (bif Nat.ble 140 n then (bif Nat.ble 142 n then (bif Nat.ble 143 n then (.bool true) else (.bool false)) else (bif Nat.ble 141 n then (.bool false) else (.bool true))) else (.bool false)) else (bif Nat.ble 132 n then (bif Nat.ble 134 n then (bif Nat.ble 135 n then (.bool true) else (.bool false)) else (bif Nat.ble 133 n then (.bool false) else (.bool true))) else (.bool false)))))) else (bif Nat.ble 64 n then (bif Nat.ble 96 n then (bif Nat.ble 112 n then (bif Nat.ble 120 n then (bif Nat.ble 124 n then (bif Nat.ble 126 n then (bif Nat.ble 127 n then (.bool true) else (.bool false)) else (bif Nat.ble 125 n then (.bool false) else (.bool true))) else (.bool false)) else (bif Nat.ble 116 n then (bif Nat.ble 118 n then (bif Nat.ble 119 n then (.bool true) else (.bool false)) else (bif Nat.ble 117 n then (.bool false) else (.bool true))) else (.bool false))) else (bif Nat.ble 104 n then (bif Nat.ble 108 n then (bif Nat.ble 110 n then (bif Nat.ble 111 n then (.bool true) else (.bool false)) else (bif Nat.ble 109 n then (.bool false) else (.bool true))) else (.bool false)) else (bif Nat.ble 100 n then (bif Nat.ble 102 n then (bif Nat.ble 103 n then (.bool true) else (.bool false)) else (bif Nat.ble 101 n then (.bool false) else (.bool true))) else (.bool false)))) else (bif Nat.ble 80 n then (bif Nat.ble 88 n then (bif Nat.ble 92 n then (bif Nat.ble 94 n then (bif Nat.ble 95 n then (.bool true) else (.bool false)) else (bif Nat.ble 93 n then (.bool false) else (.bool true))) else (.bool false)) else (bif Nat.ble 84 n then (bif Nat.ble 86 n then (bif Nat.ble 87 n then (.bool true) else (.bool false)) else (bif Nat.ble 85 n then (.bool false) else (.bool true))) else (.bool false))) else (bif Nat.ble 72 n then (bif Nat.ble 76 n then (bif Nat.ble 78 n then (bif Nat.ble 79 n then (.bool true) else (.bool false)) else (bif Nat.ble 77 n then (.bool false) else (.bool true))) else (.bool false)) else (bif Nat.ble 68 n then (bif Nat.ble 70 n then (bif Nat.ble 71 n then (.bool true) else (.bool false)) else (bif Nat.ble 69 n then (.bool false) else (.bool true))) else (.bool false))))) else (bif Nat.ble 32 n then (bif Nat.ble 48 n then (bif Nat.ble 56 n then (bif Nat.ble 60 n then (bif Nat.ble 62 n then (bif Nat.ble 63 n then (.bool true) else (.bool false)) else (bif Nat.ble 61 n then (.bool false) else (.bool true))) else (.bool false)) else (bif Nat.ble 52 n then (bif Nat.ble 54 n then (bif Nat.ble 55 n then (.bool true) else (.bool false)) else (bif Nat.ble 53 n then (.bool false) else (.bool true))) else (.bool false))) else (bif Nat.ble 40 n then (bif Nat.ble 44 n then (bif Nat.ble 46 n then (bif Nat.ble 47 n then (.bool true) else (.bool false)) else (bif Nat.ble 45 n then (.bool false) else (.bool true))) else (.bool false)) else (bif Nat.ble 36 n then (bif Nat.ble 38 n then (bif Nat.ble 39 n then (.bool true) else (.bool false)) else (bif Nat.ble 37 n then (.bool false) else (.bool true))) else (.bool false)))) else (bif Nat.ble 16 n then (bif Nat.ble 24 n then (bif Nat.ble 28 n then (bif Nat.ble 30 n then (bif Nat.ble 31 n then (.bool true) else (.bool false)) else (bif Nat.ble 29 n then (.bool false) else (.bool true))) else (.bool false)) else (bif Nat.ble 20 n then (bif Nat.ble 22 n then (bif Nat.ble 23 n then (.bool true) else (.bool false)) else (bif Nat.ble 21 n then (.bool false) else (.bool true))) else (.bool false))) else (bif Nat.ble 8 n then (bif Nat.ble 12 n then (bif Nat.ble 14 n then (bif Nat.ble 15 n then (.bool true) else (.bool false)) else (bif Nat.ble 13 n then (.bool false) else (.bool true))) else (.bool false)) else (bif Nat.ble 4 n then (bif Nat.ble 6 n then (bif Nat.ble 7 n then (.bool true) else (.bool false)) else (bif Nat.ble 5 n then (.bool false) else (.bool true))) else (.bool false)))))))
theorem rkArith_flat : u8s.all (fun op => flat (rkArithV op.toNat)) = true := by kernel_rfl
set_option maxHeartbeats 0 in
set_option maxRecDepth 1000000 in
theorem rkArith_0 : u8c0.map (fun op => reckonGC Tryz.prog (guardH noHook) noOrc 100000 300 [] 150 [.int .u8 op]) = u8c0.map (fun op => some (rkArithV op.toNat, [])) := by kernel_rfl
set_option maxHeartbeats 0 in
set_option maxRecDepth 1000000 in
theorem rkArith_1 : u8c1.map (fun op => reckonGC Tryz.prog (guardH noHook) noOrc 100000 300 [] 150 [.int .u8 op]) = u8c1.map (fun op => some (rkArithV op.toNat, [])) := by kernel_rfl
set_option maxHeartbeats 0 in
set_option maxRecDepth 1000000 in
theorem rkArith_2 : u8c2.map (fun op => reckonGC Tryz.prog (guardH noHook) noOrc 100000 300 [] 150 [.int .u8 op]) = u8c2.map (fun op => some (rkArithV op.toNat, [])) := by kernel_rfl
set_option maxHeartbeats 0 in
set_option maxRecDepth 1000000 in
theorem rkArith_3 : u8c3.map (fun op => reckonGC Tryz.prog (guardH noHook) noOrc 100000 300 [] 150 [.int .u8 op]) = u8c3.map (fun op => some (rkArithV op.toNat, [])) := by kernel_rfl
set_option maxHeartbeats 0 in
set_option maxRecDepth 1000000 in
theorem rkArith_4 : u8c4.map (fun op => reckonGC Tryz.prog (guardH noHook) noOrc 100000 300 [] 150 [.int .u8 op]) = u8c4.map (fun op => some (rkArithV op.toNat, [])) := by kernel_rfl
set_option maxHeartbeats 0 in
set_option maxRecDepth 1000000 in
theorem rkArith_5 : u8c5.map (fun op => reckonGC Tryz.prog (guardH noHook) noOrc 100000 300 [] 150 [.int .u8 op]) = u8c5.map (fun op => some (rkArithV op.toNat, [])) := by kernel_rfl
set_option maxHeartbeats 0 in
set_option maxRecDepth 1000000 in
theorem rkArith_6 : u8c6.map (fun op => reckonGC Tryz.prog (guardH noHook) noOrc 100000 300 [] 150 [.int .u8 op]) = u8c6.map (fun op => some (rkArithV op.toNat, [])) := by kernel_rfl
set_option maxHeartbeats 0 in
set_option maxRecDepth 1000000 in
theorem rkArith_7 : u8c7.map (fun op => reckonGC Tryz.prog (guardH noHook) noOrc 100000 300 [] 150 [.int .u8 op]) = u8c7.map (fun op => some (rkArithV op.toNat, [])) := by kernel_rfl
set_option maxHeartbeats 0 in
set_option maxRecDepth 1000000 in
theorem rkArith_8 : u8c8.map (fun op => reckonGC Tryz.prog (guardH noHook) noOrc 100000 300 [] 150 [.int .u8 op]) = u8c8.map (fun op => some (rkArithV op.toNat, [])) := by kernel_rfl
set_option maxHeartbeats 0 in
set_option maxRecDepth 1000000 in
theorem rkArith_9 : u8c9.map (fun op => reckonGC Tryz.prog (guardH noHook) noOrc 100000 300 [] 150 [.int .u8 op]) = u8c9.map (fun op => some (rkArithV op.toNat, [])) := by kernel_rfl
set_option maxHeartbeats 0 in
set_option maxRecDepth 1000000 in
theorem rkArith_10 : u8c10.map (fun op => reckonGC Tryz.prog (guardH noHook) noOrc 100000 300 [] 150 [.int .u8 op]) = u8c10.map (fun op => some (rkArithV op.toNat, [])) := by kernel_rfl
set_option maxHeartbeats 0 in
set_option maxRecDepth 1000000 in
theorem rkArith_11 : u8c11.map (fun op => reckonGC Tryz.prog (guardH noHook) noOrc 100000 300 [] 150 [.int .u8 op]) = u8c11.map (fun op => some (rkArithV op.toNat, [])) := by kernel_rfl
set_option maxHeartbeats 0 in
set_option maxRecDepth 1000000 in
theorem rkArith_12 : u8c12.map (fun op => reckonGC Tryz.prog (guardH noHook) noOrc 100000 300 [] 150 [.int .u8 op]) = u8c12.map (fun op => some (rkArithV op.toNat, [])) := by kernel_rfl
set_option maxHeartbeats 0 in
set_option maxRecDepth 1000000 in
theorem rkArith_13 : u8c13.map (fun op => reckonGC Tryz.prog (guardH noHook) noOrc 100000 300 [] 150 [.int .u8 op]) = u8c13.map (fun op => some (rkArithV op.toNat, [])) := by kernel_rfl
set_option maxHeartbeats 0 in
set_option maxRecDepth 1000000 in
theorem rkArith_14 : u8c14.map (fun op => reckonGC Tryz.prog (guardH noHook) noOrc 100000 300 [] 150 [.int .u8 op]) = u8c14.map (fun op => some (rkArithV op.toNat, [])) := by kernel_rfl
set_option maxHeartbeats 0 in
set_option maxRecDepth 1000000 in
theorem rkArith_15 : u8c15.map (fun op => reckonGC Tryz.prog (guardH noHook) noOrc 100000 300 [] 150 [.int .u8 op]) = u8c15.map (fun op => some (rkArithV op.toNat, [])) := by kernel_rfl
set_option maxHeartbeats 0 in
set_option maxRecDepth 1000000 in
theorem rkArith_16 : u8c16.map (fun op => reckonGC Tryz.prog (guardH noHook) noOrc 100000 300 [] 150 [.int .u8 op]) = u8c16.map (fun op => some (rkArithV op.toNat, [])) := by kernel_rfl
set_option maxHeartbeats 0 in
set_option maxRecDepth 1000000 in
theorem rkArith_17 : u8c17.map (fun op => reckonGC Tryz.prog (guardH noHook) noOrc 100000 300 [] 150 [.int .u8 op]) = u8c17.map (fun op => some (rkArithV op.toNat, [])) := by kernel_rfl
set_option maxHeartbeats 0 in
set_option maxRecDepth 1000000 in
theorem rkArith_18 : u8c18.map (fun op => reckonGC Tryz.prog (guardH noHook) noOrc 100000 300 [] 150 [.int .u8 op]) = u8c18.map (fun op => some (rkArithV op.toNat, [])) := by kernel_rfl
set_option maxHeartbeats 0 in
set_option maxRecDepth 1000000 in
theorem rkArith_19 : u8c19.map (fun op => reckonGC Tryz.prog (guardH noHook) noOrc 100000 300 [] 150 [.int .u8 op]) = u8c19.map (fun op => some (rkArithV op.toNat, [])) := by kernel_rfl
set_option maxHeartbeats 0 in
set_option maxRecDepth 1000000 in
theorem rkArith_20 : u8c20.map (fun op => reckonGC Tryz.prog (guardH noHook) noOrc 100000 300 [] 150 [.int .u8 op]) = u8c20.map (fun op => some (rkArithV op.toNat, [])) := by kernel_rfl
set_option maxHeartbeats 0 in
set_option maxRecDepth 1000000 in
theorem rkArith_21 : u8c21.map (fun op => reckonGC Tryz.prog (guardH noHook) noOrc 100000 300 [] 150 [.int .u8 op]) = u8c21.map (fun op => some (rkArithV op.toNat, [])) := by kernel_rfl
set_option maxHeartbeats 0 in
set_option maxRecDepth 1000000 in
theorem rkArith_22 : u8c22.map (fun op => reckonGC Tryz.prog (guardH noHook) noOrc 100000 300 [] 150 [.int .u8 op]) = u8c22.map (fun op => some (rkArithV op.toNat, [])) := by kernel_rfl
set_option maxHeartbeats 0 in
set_option maxRecDepth 1000000 in
theorem rkArith_23 : u8c23.map (fun op => reckonGC Tryz.prog (guardH noHook) noOrc 100000 300 [] 150 [.int .u8 op]) = u8c23.map (fun op => some (rkArithV op.toNat, [])) := by kernel_rfl
set_option maxHeartbeats 0 in
set_option maxRecDepth 1000000 in
theorem rkArith_24 : u8c24.map (fun op => reckonGC Tryz.prog (guardH noHook) noOrc 100000 300 [] 150 [.int .u8 op]) = u8c24.map (fun op => some (rkArithV op.toNat, [])) := by kernel_rfl
set_option maxHeartbeats 0 in
set_option maxRecDepth 1000000 in
theorem rkArith_25 : u8c25.map (fun op => reckonGC Tryz.prog (guardH noHook) noOrc 100000 300 [] 150 [.int .u8 op]) = u8c25.map (fun op => some (rkArithV op.toNat, [])) := by kernel_rfl
set_option maxHeartbeats 0 in
set_option maxRecDepth 1000000 in
theorem rkArith_26 : u8c26.map (fun op => reckonGC Tryz.prog (guardH noHook) noOrc 100000 300 [] 150 [.int .u8 op]) = u8c26.map (fun op => some (rkArithV op.toNat, [])) := by kernel_rfl
set_option maxHeartbeats 0 in
set_option maxRecDepth 1000000 in
theorem rkArith_27 : u8c27.map (fun op => reckonGC Tryz.prog (guardH noHook) noOrc 100000 300 [] 150 [.int .u8 op]) = u8c27.map (fun op => some (rkArithV op.toNat, [])) := by kernel_rfl
set_option maxHeartbeats 0 in
set_option maxRecDepth 1000000 in
theorem rkArith_28 : u8c28.map (fun op => reckonGC Tryz.prog (guardH noHook) noOrc 100000 300 [] 150 [.int .u8 op]) = u8c28.map (fun op => some (rkArithV op.toNat, [])) := by kernel_rfl
set_option maxHeartbeats 0 in
set_option maxRecDepth 1000000 in
theorem rkArith_29 : u8c29.map (fun op => reckonGC Tryz.prog (guardH noHook) noOrc 100000 300 [] 150 [.int .u8 op]) = u8c29.map (fun op => some (rkArithV op.toNat, [])) := by kernel_rfl
set_option maxHeartbeats 0 in
set_option maxRecDepth 1000000 in
theorem rkArith_30 : u8c30.map (fun op => reckonGC Tryz.prog (guardH noHook) noOrc 100000 300 [] 150 [.int .u8 op]) = u8c30.map (fun op => some (rkArithV op.toNat, [])) := by kernel_rfl
set_option maxHeartbeats 0 in
set_option maxRecDepth 1000000 in
theorem rkArith_31 : u8c31.map (fun op => reckonGC Tryz.prog (guardH noHook) noOrc 100000 300 [] 150 [.int .u8 op]) = u8c31.map (fun op => some (rkArithV op.toNat, [])) := by kernel_rfl
theorem c_rkArith (op : Int) (h : op ∈ u8s) (w : World) : Calls Tryz.prog 150 #[.int .u8 op] w fun e w' => e = .returned (rkArithV op.toNat) ∧ Gr w w' := by
  have hf := List.all_eq_true.1 rkArith_flat op h
  unfold u8s at h
  rcases List.mem_append.1 h with hm | h
  · exact reckonT_ok noNG (noHook_ok _) noOrc 100000 300 [] (cs := []) rfl hf (List.map_inj_left.1 rkArith_0 op hm) rfl w (Laid.nil w)
  rcases List.mem_append.1 h with hm | h
  · exact reckonT_ok noNG (noHook_ok _) noOrc 100000 300 [] (cs := []) rfl hf (List.map_inj_left.1 rkArith_1 op hm) rfl w (Laid.nil w)
  rcases List.mem_append.1 h with hm | h
  · exact reckonT_ok noNG (noHook_ok _) noOrc 100000 300 [] (cs := []) rfl hf (List.map_inj_left.1 rkArith_2 op hm) rfl w (Laid.nil w)
  rcases List.mem_append.1 h with hm | h
  · exact reckonT_ok noNG (noHook_ok _) noOrc 100000 300 [] (cs := []) rfl hf (List.map_inj_left.1 rkArith_3 op hm) rfl w (Laid.nil w)
  rcases List.mem_append.1 h with hm | h
  · exact reckonT_ok noNG (noHook_ok _) noOrc 100000 300 [] (cs := []) rfl hf (List.map_inj_left.1 rkArith_4 op hm) rfl w (Laid.nil w)
  rcases List.mem_append.1 h with hm | h
  · exact reckonT_ok noNG (noHook_ok _) noOrc 100000 300 [] (cs := []) rfl hf (List.map_inj_left.1 rkArith_5 op hm) rfl w (Laid.nil w)
  rcases List.mem_append.1 h with hm | h
  · exact reckonT_ok noNG (noHook_ok _) noOrc 100000 300 [] (cs := []) rfl hf (List.map_inj_left.1 rkArith_6 op hm) rfl w (Laid.nil w)
  rcases List.mem_append.1 h with hm | h
  · exact reckonT_ok noNG (noHook_ok _) noOrc 100000 300 [] (cs := []) rfl hf (List.map_inj_left.1 rkArith_7 op hm) rfl w (Laid.nil w)
  rcases List.mem_append.1 h with hm | h
  · exact reckonT_ok noNG (noHook_ok _) noOrc 100000 300 [] (cs := []) rfl hf (List.map_inj_left.1 rkArith_8 op hm) rfl w (Laid.nil w)
  rcases List.mem_append.1 h with hm | h
  · exact reckonT_ok noNG (noHook_ok _) noOrc 100000 300 [] (cs := []) rfl hf (List.map_inj_left.1 rkArith_9 op hm) rfl w (Laid.nil w)
  rcases List.mem_append.1 h with hm | h
  · exact reckonT_ok noNG (noHook_ok _) noOrc 100000 300 [] (cs := []) rfl hf (List.map_inj_left.1 rkArith_10 op hm) rfl w (Laid.nil w)
  rcases List.mem_append.1 h with hm | h
  · exact reckonT_ok noNG (noHook_ok _) noOrc 100000 300 [] (cs := []) rfl hf (List.map_inj_left.1 rkArith_11 op hm) rfl w (Laid.nil w)
  rcases List.mem_append.1 h with hm | h
  · exact reckonT_ok noNG (noHook_ok _) noOrc 100000 300 [] (cs := []) rfl hf (List.map_inj_left.1 rkArith_12 op hm) rfl w (Laid.nil w)
  rcases List.mem_append.1 h with hm | h
  · exact reckonT_ok noNG (noHook_ok _) noOrc 100000 300 [] (cs := []) rfl hf (List.map_inj_left.1 rkArith_13 op hm) rfl w (Laid.nil w)
  rcases List.mem_append.1 h with hm | h
  · exact reckonT_ok noNG (noHook_ok _) noOrc 100000 300 [] (cs := []) rfl hf (List.map_inj_left.1 rkArith_14 op hm) rfl w (Laid.nil w)
  rcases List.mem_append.1 h with hm | h
  · exact reckonT_ok noNG (noHook_ok _) noOrc 100000 300 [] (cs := []) rfl hf (List.map_inj_left.1 rkArith_15 op hm) rfl w (Laid.nil w)
  rcases List.mem_append.1 h with hm | h
  · exact reckonT_ok noNG (noHook_ok _) noOrc 100000 300 [] (cs := []) rfl hf (List.map_inj_left.1 rkArith_16 op hm) rfl w (Laid.nil w)
  rcases List.mem_append.1 h with hm | h
  · exact reckonT_ok noNG (noHook_ok _) noOrc 100000 300 [] (cs := []) rfl hf (List.map_inj_left.1 rkArith_17 op hm) rfl w (Laid.nil w)
  rcases List.mem_append.1 h with hm | h
  · exact reckonT_ok noNG (noHook_ok _) noOrc 100000 300 [] (cs := []) rfl hf (List.map_inj_left.1 rkArith_18 op hm) rfl w (Laid.nil w)
  rcases List.mem_append.1 h with hm | h
  · exact reckonT_ok noNG (noHook_ok _) noOrc 100000 300 [] (cs := []) rfl hf (List.map_inj_left.1 rkArith_19 op hm) rfl w (Laid.nil w)
  rcases List.mem_append.1 h with hm | h
  · exact reckonT_ok noNG (noHook_ok _) noOrc 100000 300 [] (cs := []) rfl hf (List.map_inj_left.1 rkArith_20 op hm) rfl w (Laid.nil w)
  rcases List.mem_append.1 h with hm | h
  · exact reckonT_ok noNG (noHook_ok _) noOrc 100000 300 [] (cs := []) rfl hf (List.map_inj_left.1 rkArith_21 op hm) rfl w (Laid.nil w)
  rcases List.mem_append.1 h with hm | h
  · exact reckonT_ok noNG (noHook_ok _) noOrc 100000 300 [] (cs := []) rfl hf (List.map_inj_left.1 rkArith_22 op hm) rfl w (Laid.nil w)
  rcases List.mem_append.1 h with hm | h
  · exact reckonT_ok noNG (noHook_ok _) noOrc 100000 300 [] (cs := []) rfl hf (List.map_inj_left.1 rkArith_23 op hm) rfl w (Laid.nil w)
  rcases List.mem_append.1 h with hm | h
  · exact reckonT_ok noNG (noHook_ok _) noOrc 100000 300 [] (cs := []) rfl hf (List.map_inj_left.1 rkArith_24 op hm) rfl w (Laid.nil w)
  rcases List.mem_append.1 h with hm | h
  · exact reckonT_ok noNG (noHook_ok _) noOrc 100000 300 [] (cs := []) rfl hf (List.map_inj_left.1 rkArith_25 op hm) rfl w (Laid.nil w)
  rcases List.mem_append.1 h with hm | h
  · exact reckonT_ok noNG (noHook_ok _) noOrc 100000 300 [] (cs := []) rfl hf (List.map_inj_left.1 rkArith_26 op hm) rfl w (Laid.nil w)
  rcases List.mem_append.1 h with hm | h
  · exact reckonT_ok noNG (noHook_ok _) noOrc 100000 300 [] (cs := []) rfl hf (List.map_inj_left.1 rkArith_27 op hm) rfl w (Laid.nil w)
  rcases List.mem_append.1 h with hm | h
  · exact reckonT_ok noNG (noHook_ok _) noOrc 100000 300 [] (cs := []) rfl hf (List.map_inj_left.1 rkArith_28 op hm) rfl w (Laid.nil w)
  rcases List.mem_append.1 h with hm | h
  · exact reckonT_ok noNG (noHook_ok _) noOrc 100000 300 [] (cs := []) rfl hf (List.map_inj_left.1 rkArith_29 op hm) rfl w (Laid.nil w)
  rcases List.mem_append.1 h with hm | h
  · exact reckonT_ok noNG (noHook_ok _) noOrc 100000 300 [] (cs := []) rfl hf (List.map_inj_left.1 rkArith_30 op hm) rfl w (Laid.nil w)
  · exact reckonT_ok noNG (noHook_ok _) noOrc 100000 300 [] (cs := []) rfl hf (List.map_inj_left.1 rkArith_31 op h) rfl w (Laid.nil w)
def hk_rkArith : Hook := fun f args _ =>
  if Nat.beq f 150 then
    match args with
    | [.int .u8 op] => if u8in op then some (rkArithV op.toNat, []) else none
    | _ => none
  else none
theorem hk_rkArith_ok : HookOk Tryz.prog hk_rkArith := by
  intro f args h v cs hv hc wb k s w H
  unfold hk_rkArith at hv
  split at hv
  · rename_i hf
    obtain rfl := Nat.eq_of_beq_eq_true hf
    split at hv
    · rename_i op
      split at hv
      · rename_i ho
        cases hv
        exact c_rkArith op (u8in_mem ho) w
      · cases hv
    · cases hv
  · cases hv
end Go.Proofs.YthhgfjnnconocaaGreatDoor.Ex
end
section
namespace Go.Proofs.YthhgfjnnconocaaGreatDoor.Ex
set_option maxRecDepth 20000

open Go Go.RowKit
def rkJumpV (n : Nat) : Value := (bif Nat.ble 128 n then (bif Nat.ble 192 n then (bif Nat.ble 224 n then (bif Nat.ble 240 n then (bif Nat.ble 248 n then (bif Nat.ble 252 n then (bif Nat.ble 254 n then (bif Nat.ble 255 n then (.bool false) else (.bool true)) else (bif Nat.ble 253 n then (.bool true) else (.bool false))) else (.bool false)) else (bif Nat.ble 244 n then (bif Nat.ble 246 n then (bif Nat.ble 247 n then (.bool false) else (.bool true)) else (bif Nat.ble 245 n then (.bool true) else (.bool false))) else (.bool false))) else (bif Nat.ble 232 n then (bif Nat.ble 236 n then (bif Nat.ble 238 n then (bif Nat.ble 239 n then (.bool false) else (.bool true)) else (bif Nat.ble 237 n then (.bool true) else (.bool false))) else (.bool false)) else (bif Nat.ble 228 n then (bif Nat.ble 230 n then (bif Nat.ble 231 n then (.bool false) else (.bool true)) else (bif Nat.ble 229 n then (.bool true) else (.bool false))) else (.bool false)))) else (bif Nat.ble 208 n then (bif Nat.ble 216 n then (bif Nat.ble 220 n then (bif Nat.ble 222 n then (bif Nat.ble 223 n then (.bool false) else (.bool true)) else (bif Nat.ble 221 n then (.bool true) else (.bool false))) else (.bool false)) else (bif Nat.ble 212 n then (bif Nat.ble 214 n then (bif Nat.ble 215 n then (.bool false) else (.bool true)) else (bif Nat.ble 213 n then (.bool true) else (.bool false))) else (.bool false))) else (bif Nat.ble 200 n then (bif Nat.ble 204 n then (bif Nat.ble 206 n then (bif Nat.ble 207 n then (.bool false) else (.bool true)) else (bif Nat.ble 205 n then (.bool true) else (.bool false))) else (.bool false)) else (bif Nat.ble 196 n then (bif Nat.ble 198 n then (bif Nat.ble 199 n then (.bool false) else (.bool true)) else (bif Nat.ble 197 n then (.bool true) else (.bool false))) else (.bool false))))) else (bif Nat.ble 160 n then (bif Nat.ble 176 n then (bif Nat.ble 184 n then (bif Nat.ble 188 n then (bif Nat.ble 190 n then (bif Nat.ble 191 n then (.bool false) else (.bool true)) else (bif Nat.ble 189 n then (.bool true) else (.bool false))) else (.bool false)) else (bif Nat.ble 180 n then (bif Nat.ble 182 n then (bif Nat.ble 183 n then (.bool false) else (.bool true)) else (bif Nat.ble 181 n then (.bool true) else (.bool false))) else (.bool false))) else (bif Nat.ble 168 n then (bif Nat.ble 172 n then (bif Nat.ble 174 n then (bif Nat.ble 175 n then (.bool false) else (.bool true)) else (bif Nat.ble 173 n then (.bool true) else (.bool false))) else (.bool false)) else (bif Nat.ble 164 n then (bif Nat.ble 166 n then (bif Nat.ble 167 n then (.bool false) else (.bool true)) else (bif Nat.ble 165 n then (.bool true) else (.bool false))) else (.bool false)))) else (bif Nat.ble 144 n then (bif Nat.ble 152 n then (bif Nat.ble 156 n then (bif Nat.ble 158 n then (bif Nat.ble 159 n then (.bool false) else (.bool true)) else (bif Nat.ble 157 n then (.bool true) else (.bool false))) else (.bool false)) else (bif Nat.ble 148 n then (bif Nat.ble 150 n then (bif Nat.ble 151 n then (.bool false) else (.bool true)) else (bif Nat.ble 149 n then (.bool true) else (.bool false))) else (.bool false))) else (bif Nat.ble 136 n then (bif Nat.ble 140 n then (bif Nat.ble 142 n then (bif Nat.ble 143 n then (.bool false) else (.bool true)) else (bif Nat.ble 141 n then (.bool true) else (.bool false))) else (.bool false)) else (bif Nat.ble 132 n then (bif Nat.ble 134 n then (bif Nat.ble 135 n then (.bool false) else (.bool true)) else (bif Nat.ble 133 n then (.bool true) else (.bool false))) else (.bool false)))))) else (bif Nat.ble 64 n then (bif Nat.ble 96 n then (bif Nat.ble 112 n then (bif Nat.ble 120 n then (bif Nat.ble 124 n then (bif Nat.ble 126 n then (bif Nat.ble 127 n then (.bool false) else (.bool true)) else (bif Nat.ble 125 n then (.bool true) else (.bool false))) else (.bool false)) else (bif Nat.ble 116 n then (bif Nat.ble 118 n then (bif Nat.ble 119 n then (.bool false) else (.bool true)) else (bif Nat.ble 117 n then (.bool true) else (.bool false))) else (.bool false))) else (bif Nat.ble 104 n then (bif Nat.ble 108 n then (bif Nat.ble 110 n then (bif Nat.ble 111 n then (.bool false) else (.bool true)) else (bif Nat.ble 109 n then (.bool true) else (.bool false))) else (.bool false)) else (bif Nat.ble 100 n then (bif Nat.ble 102 n then (bif Nat.ble 103 n then (.bool false) else (.bool true)) else (bif Nat.ble 101 n then (.bool true) else (.bool false))) else (.bool false)))) else (bif Nat.ble 80 n then (bif Nat.ble 88 n then (bif Nat.ble 92 n then (bif Nat.ble 94 n then (bif Nat.ble 95 n then (.bool false) else (.bool true)) else (bif Nat.ble 93 n then (.bool true) else (.bool false))) else (.bool false)) else (bif Nat.ble 84 n then (bif Nat.ble 86 n then (bif Nat.ble 87 n then (.bool false) else (.bool true)) else (bif Nat.ble 85 n then (.bool true) else (.bool false))) else (.bool false))) else (bif Nat.ble 72 n then (bif Nat.ble 76 n then (bif Nat.ble 78 n then (bif Nat.ble 79 n then (.bool false) else (.bool true)) else (bif Nat.ble 77 n then (.bool true) else (.bool false))) else (.bool false)) else (bif Nat.ble 68 n then (bif Nat.ble 70 n then (bif Nat.ble 71 n then (.bool false) else (.bool true)) else (bif Nat.ble 69 n then (.bool true) else (.bool false))) else (.bool false))))) else (bif Nat.ble 32 n then (bif Nat.ble 48 n then (bif Nat.ble 56 n then (bif Nat.ble 60 n then (bif Nat.ble 62 n then (bif Nat.ble 63 n then (.bool false) else (.bool true)) else (bif Nat.ble 61 n then (.bool true) else (.bool false))) else (.bool false)) else (bif Nat.ble 52 n then (bif Nat.ble 54 n then (bif Nat.ble 55 n then (.bool false) else (.bool true)) else (bif Nat.ble 53 n then (.bool true) else (.bool false))) else (.bool false))) else (bif Nat.ble 40 n then (bif Nat.ble 44 n then (bif Nat.ble 46 n then (bif Nat.ble 47 n then (.bool false) else (.bool true)) else (bif Nat.ble 45 n then (.bool true) else (.bool false))) else (.bool false)) else (bif Nat.ble 36 n then (bif Nat.ble 38 n then (bif Nat.ble 39 n then (.bool false) else (.bool true)) else (bif Nat.ble 37 n then (.bool true) else (.bool false))) else (.bool false)))) else (bif Nat.ble 16 n then (bif Nat.ble 24 n then (bif Nat.ble 28 n then (bif Nat.ble 30 n then (bif Nat.ble 31 n then (.bool false) else (.bool true)) else (bif Nat.ble 29 n then (.bool true) else (.bool false))) else (.bool false)) else (bif Nat.ble 20 n then (bif Nat.ble 22 n then (bif Nat.ble 23 n then (.bool false) else (.bool true)) else (bif Nat.ble 21 n then (.bool true) else (.bool false))) else (.bool false))) else (bif Nat.ble 8 n then (bif Nat.ble 12 n then (bif Nat.ble 14 n then (bif Nat.ble 15 n then (.bool false) else (.bool true)) else (bif Nat.ble 13 n then (.bool true) else (.bool false))) else (.bool false)) else (bif Nat.ble 4 n then (bif Nat.ble 6 n then (bif Nat.ble 7 n then (.bool false) else (.bool true)) else (bif Nat.ble 5 n then (.bool true) else (.bool false))) else (.bool false)))))))
theorem rkJump_flat : u8s.all (fun op => flat (rkJumpV op.toNat)) = true := by kernel_rfl
set_option maxHeartbeats 0 in
set_option maxRecDepth 1000000 in
theorem rkJump_0 : u8c0.map (fun op => reckonGC Tryz.prog (guardH noHook) noOrc 100000 300 [] 151 [.int .u8 op]) = u8c0.map (fun op => some (rkJumpV op.toNat, [])) := by kernel_rfl
set_option maxHeartbeats 0 in
set_option maxRecDepth 1000000 in
theorem rkJump_1 : u8c1.map (fun op => reckonGC Tryz.prog (guardH noHook) noOrc 100000 300 [] 151 [.int .u8 op]) = u8c1.map (fun op => some (rkJumpV op.toNat, [])) := by kernel_rfl
set_option maxHeartbeats 0 in
set_option maxRecDepth 1000000 in
theorem rkJump_2 : u8c2.map (fun op => reckonGC Tryz.prog (guardH noHook) noOrc 100000 300 [] 151 [.int .u8 op]) = u8c2.map (fun op => some (rkJumpV op.toNat, [])) := by kernel_rfl
set_option maxHeartbeats 0 in
set_option maxRecDepth 1000000 in
theorem rkJump_3 : u8c3.map (fun op => reckonGC Tryz.prog (guardH noHook) noOrc 100000 300 [] 151 [.int .u8 op]) = u8c3.map (fun op => some (rkJumpV op.toNat, [])) := by kernel_rfl
set_option maxHeartbeats 0 in
set_option maxRecDepth 1000000 in
theorem rkJump_4 : u8c4.map (fun op => reckonGC Tryz.prog (guardH noHook) noOrc 100000 300 [] 151 [.int .u8 op]) = u8c4.map (fun op => some (rkJumpV op.toNat, [])) := by kernel_rfl
set_option maxHeartbeats 0 in
set_option maxRecDepth 1000000 in
theorem rkJump_5 : u8c5.map (fun op => reckonGC Tryz.prog (guardH noHook) noOrc 100000 300 [] 151 [.int .u8 op]) = u8c5.map (fun op => some (rkJumpV op.toNat, [])) := by kernel_rfl
set_option maxHeartbeats 0 in
set_option maxRecDepth 1000000 in
theorem rkJump_6 : u8c6.map (fun op => reckonGC Tryz.prog (guardH noHook) noOrc 100000 300 [] 151 [.int .u8 op]) = u8c6.map (fun op => some (rkJumpV op.toNat, [])) := by kernel_rfl
set_option maxHeartbeats 0 in
set_option maxRecDepth 1000000 in
theorem rkJump_7 : u8c7.map (fun op => reckonGC Tryz.prog (guardH noHook) noOrc 100000 300 [] 151 [.int .u8 op]) = u8c7.map (fun op => some (rkJumpV op.toNat, [])) := by kernel_rfl
set_option maxHeartbeats 0 in
set_option maxRecDepth 1000000 in
theorem rkJump_8 : u8c8.map (fun op => reckonGC Tryz.prog (guardH noHook) noOrc 100000 300 [] 151 [.int .u8 op]) = u8c8.map (fun op => some (rkJumpV op.toNat, [])) := by kernel_rfl
set_option maxHeartbeats 0 in
set_option maxRecDepth 1000000 in
theorem rkJump_9 : u8c9.map (fun op => reckonGC Tryz.prog (guardH noHook) noOrc 100000 300 [] 151 [.int .u8 op]) = u8c9.map (fun op => some (rkJumpV op.toNat, [])) := by kernel_rfl
set_option maxHeartbeats 0 in
set_option maxRecDepth 1000000 in
theorem rkJump_10 : u8c10.map (fun op => reckonGC Tryz.prog (guardH noHook) noOrc 100000 300 [] 151 [.int .u8 op]) = u8c10.map (fun op => some (rkJumpV op.toNat, [])) := by kernel_rfl
set_option maxHeartbeats 0 in
set_option maxRecDepth 1000000 in
theorem rkJump_11 : u8c11.map (fun op => reckonGC Tryz.prog (guardH noHook) noOrc 100000 300 [] 151 [.int .u8 op]) = u8c11.map (fun op => some (rkJumpV op.toNat, [])) := by kernel_rfl
set_option maxHeartbeats 0 in
set_option maxRecDepth 1000000 in
theorem rkJump_12 : u8c12.map (fun op => reckonGC Tryz.prog (guardH noHook) noOrc 100000 300 [] 151 [.int .u8 op]) = u8c12.map (fun op => some (rkJumpV op.toNat, [])) := by kernel_rfl
set_option maxHeartbeats 0 in
set_option maxRecDepth 1000000 in
theorem rkJump_13 : u8c13.map (fun op => reckonGC Tryz.prog (guardH noHook) noOrc 100000 300 [] 151 [.int .u8 op]) = u8c13.map (fun op => some (rkJumpV op.toNat, [])) := by kernel_rfl
set_option maxHeartbeats 0 in
set_option maxRecDepth 1000000 in
theorem rkJump_14 : u8c14.map (fun op => reckonGC Tryz.prog (guardH noHook) noOrc 100000 300 [] 151 [.int .u8 op]) = u8c14.map (fun op => some (rkJumpV op.toNat, [])) := by kernel_rfl
set_option maxHeartbeats 0 in
set_option maxRecDepth 1000000 in
theorem rkJump_15 : u8c15.map (fun op => reckonGC Tryz.prog (guardH noHook) noOrc 100000 300 [] 151 [.int .u8 op]) = u8c15.map (fun op => some (rkJumpV op.toNat, [])) := by kernel_rfl
set_option maxHeartbeats 0 in
set_option maxRecDepth 1000000 in
theorem rkJump_16 : u8c16.map (fun op => reckonGC Tryz.prog (guardH noHook) noOrc 100000 300 [] 151 [.int .u8 op]) = u8c16.map (fun op => some (rkJumpV op.toNat, [])) := by kernel_rfl
set_option maxHeartbeats 0 in
set_option maxRecDepth 1000000 in
theorem rkJump_17 : u8c17.map (fun op => reckonGC Tryz.prog (guardH noHook) noOrc 100000 300 [] 151 [.int .u8 op]) = u8c17.map (fun op => some (rkJumpV op.toNat, [])) := by kernel_rfl
set_option maxHeartbeats 0 in
set_option maxRecDepth 1000000 in
theorem rkJump_18 : u8c18.map (fun op => reckonGC Tryz.prog (guardH noHook) noOrc 100000 300 [] 151 [.int .u8 op]) = u8c18.map (fun op => some (rkJumpV op.toNat, [])) := by kernel_rfl
set_option maxHeartbeats 0 in
set_option maxRecDepth 1000000 in
theorem rkJump_19 : u8c19.map (fun op => reckonGC Tryz.prog (guardH noHook) noOrc 100000 300 [] 151 [.int .u8 op]) = u8c19.map (fun op => some (rkJumpV op.toNat, [])) := by kernel_rfl
set_option maxHeartbeats 0 in
set_option maxRecDepth 1000000 in
theorem rkJump_20 : u8c20.map (fun op => reckonGC Tryz.prog (guardH noHook) noOrc 100000 300 [] 151 [.int .u8 op]) = u8c20.map (fun op => some (rkJumpV op.toNat, [])) := by kernel_rfl
set_option maxHeartbeats 0 in
set_option maxRecDepth 1000000 in
theorem rkJump_21 : u8c21.map (fun op => reckonGC Tryz.prog (guardH noHook) noOrc 100000 300 [] 151 [.int .u8 op]) = u8c21.map (fun op => some (rkJumpV op.toNat, [])) := by kernel_rfl
set_option maxHeartbeats 0 in
set_option maxRecDepth 1000000 in
theorem rkJump_22 : u8c22.map (fun op => reckonGC Tryz.prog (guardH noHook) noOrc 100000 300 [] 151 [.int .u8 op]) = u8c22.map (fun op => some (rkJumpV op.toNat, [])) := by kernel_rfl
set_option maxHeartbeats 0 in
set_option maxRecDepth 1000000 in
theorem rkJump_23 : u8c23.map (fun op => reckonGC Tryz.prog (guardH noHook) noOrc 100000 300 [] 151 [.int .u8 op]) = u8c23.map (fun op => some (rkJumpV op.toNat, [])) := by kernel_rfl
set_option maxHeartbeats 0 in
set_option maxRecDepth 1000000 in
theorem rkJump_24 : u8c24.map (fun op => reckonGC Tryz.prog (guardH noHook) noOrc 100000 300 [] 151 [.int .u8 op]) = u8c24.map (fun op => some (rkJumpV op.toNat, [])) := by kernel_rfl
set_option maxHeartbeats 0 in
set_option maxRecDepth 1000000 in
theorem rkJump_25 : u8c25.map (fun op => reckonGC Tryz.prog (guardH noHook) noOrc 100000 300 [] 151 [.int .u8 op]) = u8c25.map (fun op => some (rkJumpV op.toNat, [])) := by kernel_rfl
set_option maxHeartbeats 0 in
set_option maxRecDepth 1000000 in
theorem rkJump_26 : u8c26.map (fun op => reckonGC Tryz.prog (guardH noHook) noOrc 100000 300 [] 151 [.int .u8 op]) = u8c26.map (fun op => some (rkJumpV op.toNat, [])) := by kernel_rfl
set_option maxHeartbeats 0 in
set_option maxRecDepth 1000000 in
theorem rkJump_27 : u8c27.map (fun op => reckonGC Tryz.prog (guardH noHook) noOrc 100000 300 [] 151 [.int .u8 op]) = u8c27.map (fun op => some (rkJumpV op.toNat, [])) := by kernel_rfl
set_option maxHeartbeats 0 in
set_option maxRecDepth 1000000 in
theorem rkJump_28 : u8c28.map (fun op => reckonGC Tryz.prog (guardH noHook) noOrc 100000 300 [] 151 [.int .u8 op]) = u8c28.map (fun op => some (rkJumpV op.toNat, [])) := by kernel_rfl
set_option maxHeartbeats 0 in
set_option maxRecDepth 1000000 in
theorem rkJump_29 : u8c29.map (fun op => reckonGC Tryz.prog (guardH noHook) noOrc 100000 300 [] 151 [.int .u8 op]) = u8c29.map (fun op => some (rkJumpV op.toNat, [])) := by kernel_rfl
set_option maxHeartbeats 0 in
set_option maxRecDepth 1000000 in
theorem rkJump_30 : u8c30.map (fun op => reckonGC Tryz.prog (guardH noHook) noOrc 100000 300 [] 151 [.int .u8 op]) = u8c30.map (fun op => some (rkJumpV op.toNat, [])) := by kernel_rfl
set_option maxHeartbeats 0 in
set_option maxRecDepth 1000000 in
theorem rkJump_31 : u8c31.map (fun op => reckonGC Tryz.prog (guardH noHook) noOrc 100000 300 [] 151 [.int .u8 op]) = u8c31.map (fun op => some (rkJumpV op.toNat, [])) := by kernel_rfl
theorem c_rkJump (op : Int) (h : op ∈ u8s) (w : World) : Calls Tryz.prog 151 #[.int .u8 op] w fun e w' => e = .returned (rkJumpV op.toNat) ∧ Gr w w' := by
  have hf := List.all_eq_true.1 rkJump_flat op h
  unfold u8s at h
  rcases List.mem_append.1 h with hm | h
  · exact reckonT_ok noNG (noHook_ok _) noOrc 100000 300 [] (cs := []) rfl hf (List.map_inj_left.1 rkJump_0 op hm) rfl w (Laid.nil w)
  rcases List.mem_append.1 h with hm | h
  · exact reckonT_ok noNG (noHook_ok _) noOrc 100000 300 [] (cs := []) rfl hf (List.map_inj_left.1 rkJump_1 op hm) rfl w (Laid.nil w)
  rcases List.mem_append.1 h with hm | h
  · exact reckonT_ok noNG (noHook_ok _) noOrc 100000 300 [] (cs := []) rfl hf (List.map_inj_left.1 rkJump_2 op hm) rfl w (Laid.nil w)
  rcases List.mem_append.1 h with hm | h
  · exact reckonT_ok noNG (noHook_ok _) noOrc 100000 300 [] (cs := []) rfl hf (List.map_inj_left.1 rkJump_3 op hm) rfl w (Laid.nil w)
  rcases List.mem_append.1 h with hm | h
  · exact reckonT_ok noNG (noHook_ok _) noOrc 100000 300 [] (cs := []) rfl hf (List.map_inj_left.1 rkJump_4 op hm) rfl w (Laid.nil w)
  rcases List.mem_append.1 h with hm | h
  · exact reckonT_ok noNG (noHook_ok _) noOrc 100000 300 [] (cs := []) rfl hf (List.map_inj_left.1 rkJump_5 op hm) rfl w (Laid.nil w)
  rcases List.mem_append.1 h with hm | h
  · exact reckonT_ok noNG (noHook_ok _) noOrc 100000 300 [] (cs := []) rfl hf (List.map_inj_left.1 rkJump_6 op hm) rfl w (Laid.nil w)
  rcases List.mem_append.1 h with hm | h
  · exact reckonT_ok noNG (noHook_ok _) noOrc 100000 300 [] (cs := []) rfl hf (List.map_inj_left.1 rkJump_7 op hm) rfl w (Laid.nil w)
  rcases List.mem_append.1 h with hm | h
  · exact reckonT_ok noNG (noHook_ok _) noOrc 100000 300 [] (cs := []) rfl hf (List.map_inj_left.1 rkJump_8 op hm) rfl w (Laid.nil w)
  rcases List.mem_append.1 h with hm | h
  · exact reckonT_ok noNG (noHook_ok _) noOrc 100000 300 [] (cs := []) rfl hf (List.map_inj_left.1 rkJump_9 op hm) rfl w (Laid.nil w)
  rcases List.mem_append.1 h with hm | h
  · exact reckonT_ok noNG (noHook_ok _) noOrc 100000 300 [] (cs := []) rfl hf (List.map_inj_left.1 rkJump_10 op hm) rfl w (Laid.nil w)
  rcases List.mem_append.1 h with hm | h
  · exact reckonT_ok noNG (noHook_ok _) noOrc 100000 300 [] (cs := []) rfl hf (List.map_inj_left.1 rkJump_11 op hm) rfl w (Laid.nil w)
  rcases List.mem_append.1 h with hm | h
  · exact reckonT_ok noNG (noHook_ok _) noOrc 100000 300 [] (cs := []) rfl hf (List.map_inj_left.1 rkJump_12 op hm) rfl w (Laid.nil w)
  rcases List.mem_append.1 h with hm | h
  · exact reckonT_ok noNG (noHook_ok _) noOrc 100000 300 [] (cs := []) rfl hf (List.map_inj_left.1 rkJump_13 op hm) rfl w (Laid.nil w)
  rcases List.mem_append.1 h with hm | h
  · exact reckonT_ok noNG (noHook_ok _) noOrc 100000 300 [] (cs := []) rfl hf (List.map_inj_left.1 rkJump_14 op hm) rfl w (Laid.nil w)
  rcases List.mem_append.1 h with hm | h
  · exact reckonT_ok noNG (noHook_ok _) noOrc 100000 300 [] (cs := []) rfl hf (List.map_inj_left.1 rkJump_15 op hm) rfl w (Laid.nil w)
  rcases List.mem_append.1 h with hm | h
  · exact reckonT_ok noNG (noHook_ok _) noOrc 100000 300 [] (cs := []) rfl hf (List.map_inj_left.1 rkJump_16 op hm) rfl w (Laid.nil w)
  rcases List.mem_append.1 h with hm | h
  · exact reckonT_ok noNG (noHook_ok _) noOrc 100000 300 [] (cs := []) rfl hf (List.map_inj_left.1 rkJump_17 op hm) rfl w (Laid.nil w)
  rcases List.mem_append.1 h with hm | h
  · exact reckonT_ok noNG (noHook_ok _) noOrc 100000 300 [] (cs := []) rfl hf (List.map_inj_left.1 rkJump_18 op hm) rfl w (Laid.nil w)
  rcases List.mem_append.1 h with hm | h
  · exact reckonT_ok noNG (noHook_ok _) noOrc 100000 300 [] (cs := []) rfl hf (List.map_inj_left.1 rkJump_19 op hm) rfl w (Laid.nil w)
  rcases List.mem_append.1 h with hm | h
  · exact reckonT_ok noNG (noHook_ok _) noOrc 100000 300 [] (cs := []) rfl hf (List.map_inj_left.1 rkJump_20 op hm) rfl w (Laid.nil w)
  rcases List.mem_append.1 h with hm | h
  · exact reckonT_ok noNG (noHook_ok _) noOrc 100000 300 [] (cs := []) rfl hf (List.map_inj_left.1 rkJump_21 op hm) rfl w (Laid.nil w)
  rcases List.mem_append.1 h with hm | h
  · exact reckonT_ok noNG (noHook_ok _) noOrc 100000 300 [] (cs := []) rfl hf (List.map_inj_left.1 rkJump_22 op hm) rfl w (Laid.nil w)
  rcases List.mem_append.1 h with hm | h
  · exact reckonT_ok noNG (noHook_ok _) noOrc 100000 300 [] (cs := []) rfl hf (List.map_inj_left.1 rkJump_23 op hm) rfl w (Laid.nil w)
  rcases List.mem_append.1 h with hm | h
  · exact reckonT_ok noNG (noHook_ok _) noOrc 100000 300 [] (cs := []) rfl hf (List.map_inj_left.1 rkJump_24 op hm) rfl w (Laid.nil w)
  rcases List.mem_append.1 h with hm | h
  · exact reckonT_ok noNG (noHook_ok _) noOrc 100000 300 [] (cs := []) rfl hf (List.map_inj_left.1 rkJump_25 op hm) rfl w (Laid.nil w)
  rcases List.mem_append.1 h with hm | h
  · exact reckonT_ok noNG (noHook_ok _) noOrc 100000 300 [] (cs := []) rfl hf (List.map_inj_left.1 rkJump_26 op hm) rfl w (Laid.nil w)
  rcases List.mem_append.1 h with hm | h
  · exact reckonT_ok noNG (noHook_ok _) noOrc 100000 300 [] (cs := []) rfl hf (List.map_inj_left.1 rkJump_27 op hm) rfl w (Laid.nil w)
  rcases List.mem_append.1 h with hm | h
  · exact reckonT_ok noNG (noHook_ok _) noOrc 100000 300 [] (cs := []) rfl hf (List.map_inj_left.1 rkJump_28 op hm) rfl w (Laid.nil w)
  rcases List.mem_append.1 h with hm | h
  · exact reckonT_ok noNG (noHook_ok _) noOrc 100000 300 [] (cs := []) rfl hf (List.map_inj_left.1 rkJump_29 op hm) rfl w (Laid.nil w)
  rcases List.mem_append.1 h with hm | h
  · exact reckonT_ok noNG (noHook_ok _) noOrc 100000 300 [] (cs := []) rfl hf (List.map_inj_left.1 rkJump_30 op hm) rfl w (Laid.nil w)
  · exact reckonT_ok noNG (noHook_ok _) noOrc 100000 300 [] (cs := []) rfl hf (List.map_inj_left.1 rkJump_31 op h) rfl w (Laid.nil w)
def hk_rkJump : Hook := fun f args _ =>
  if Nat.beq f 151 then
    match args with
    | [.int .u8 op] => if u8in op then some (rkJumpV op.toNat, []) else none
    | _ => none
  else none
theorem hk_rkJump_ok : HookOk Tryz.prog hk_rkJump := by
  intro f args h v cs hv hc wb k s w H
  unfold hk_rkJump at hv
  split at hv
  · rename_i hf
    obtain rfl := Nat.eq_of_beq_eq_true hf
    split at hv
    · rename_i op
      split at hv
      · rename_i ho
        cases hv
        exact c_rkJump op (u8in_mem ho) w
      · cases hv
    · cases hv
  · cases hv
end Go.Proofs.YthhgfjnnconocaaGreatDoor.Ex
end
section
namespace Go.Proofs.YthhgfjnnconocaaGreatDoor.Ex
set_option maxRecDepth 20000

open Go Go.RowKit
def rkCodeV (n : Nat) : Value := (bif Nat.ble 128 n then (bif Nat.ble 192 n then (bif Nat.ble 224 n then (bif Nat.ble 240 n then (.int .i64 240) else (.int .i64 224)) else (bif Nat.ble 208 n then (.int .i64 208) else (.int .i64 192))) else (bif Nat.ble 160 n then (bif Nat.ble 176 n then (.int .i64 176) else (.int .i64 160)) else (bif Nat.ble 144 n then (.int .i64 144) else (.int .i64 128)))) else (bif Nat.ble 64 n then (bif Nat.ble 96 n then (bif Nat.ble 112 n then (.int .i64 112) else (.int .i64 96)) else (bif Nat.ble 80 n then (.int .i64 80) else (.int .i64 64))) else (bif Nat.ble 32 n then (bif Nat.ble 48 n then (.int .i64 48) else (.int .i64 32)) else (bif Nat.ble 16 n then (.int .i64 16) else (.int .i64 0)))))
theorem rkCode_flat : u8s.all (fun op => flat (rkCodeV op.toNat)) = true := by kernel_rfl
set_option maxHeartbeats 0 in
set_option maxRecDepth 1000000 in
theorem rkCode_0 : u8c0.map (fun op => reckonGC Tryz.prog (guardH noHook) noOrc 100000 300 [] 153 [.int .u8 op]) = u8c0.map (fun op => some (rkCodeV op.toNat, [])) := by kernel_rfl
set_option maxHeartbeats 0 in
set_option maxRecDepth 1000000 in
theorem rkCode_1 : u8c1.map (fun op => reckonGC Tryz.prog (guardH noHook) noOrc 100000 300 [] 153 [.int .u8 op]) = u8c1.map (fun op => some (rkCodeV op.toNat, [])) := by kernel_rfl
set_option maxHeartbeats 0 in
set_option maxRecDepth 1000000 in
theorem rkCode_2 : u8c2.map (fun op => reckonGC Tryz.prog (guardH noHook) noOrc 100000 300 [] 153 [.int .u8 op]) = u8c2.map (fun op => some (rkCodeV op.toNat, [])) := by kernel_rfl
set_option maxHeartbeats 0 in
set_option maxRecDepth 1000000 in
theorem rkCode_3 : u8c3.map (fun op => reckonGC Tryz.prog (guardH noHook) noOrc 100000 300 [] 153 [.int .u8 op]) = u8c3.map (fun op => some (rkCodeV op.toNat, [])) := by kernel_rfl
set_option maxHeartbeats 0 in
set_option maxRecDepth 1000000 in
theorem rkCode_4 : u8c4.map (fun op => reckonGC Tryz.prog (guardH noHook) noOrc 100000 300 [] 153 [.int .u8 op]) = u8c4.map (fun op => some (rkCodeV op.toNat, [])) := by kernel_rfl
set_option maxHeartbeats 0 in
set_option maxRecDepth 1000000 in
theorem rkCode_5 : u8c5.map (fun op => reckonGC Tryz.prog (guardH noHook) noOrc 100000 300 [] 153 [.int .u8 op]) = u8c5.map (fun op => some (rkCodeV op.toNat, [])) := by kernel_rfl
set_option maxHeartbeats 0 in
set_option maxRecDepth 1000000 in
theorem rkCode_6 : u8c6.map (fun op => reckonGC Tryz.prog (guardH noHook) noOrc 100000 300 [] 153 [.int .u8 op]) = u8c6.map (fun op => some (rkCodeV op.toNat, [])) := by kernel_rfl
set_option maxHeartbeats 0 in
set_option maxRecDepth 1000000 in
theorem rkCode_7 : u8c7.map (fun op => reckonGC Tryz.prog (guardH noHook) noOrc 100000 300 [] 153 [.int .u8 op]) = u8c7.map (fun op => some (rkCodeV op.toNat, [])) := by kernel_rfl
set_option maxHeartbeats 0 in
set_option maxRecDepth 1000000 in
theorem rkCode_8 : u8c8.map (fun op => reckonGC Tryz.prog (guardH noHook) noOrc 100000 300 [] 153 [.int .u8 op]) = u8c8.map (fun op => some (rkCodeV op.toNat, [])) := by kernel_rfl
set_option maxHeartbeats 0 in
set_option maxRecDepth 1000000 in
theorem rkCode_9 : u8c9.map (fun op => reckonGC Tryz.prog (guardH noHook) noOrc 100000 300 [] 153 [.int .u8 op]) = u8c9.map (fun op => some (rkCodeV op.toNat, [])) := by kernel_rfl
set_option maxHeartbeats 0 in
set_option maxRecDepth 1000000 in
theorem rkCode_10 : u8c10.map (fun op => reckonGC Tryz.prog (guardH noHook) noOrc 100000 300 [] 153 [.int .u8 op]) = u8c10.map (fun op => some (rkCodeV op.toNat, [])) := by kernel_rfl
set_option maxHeartbeats 0 in
set_option maxRecDepth 1000000 in
theorem rkCode_11 : u8c11.map (fun op => reckonGC Tryz.prog (guardH noHook) noOrc 100000 300 [] 153 [.int .u8 op]) = u8c11.map (fun op => some (rkCodeV op.toNat, [])) := by kernel_rfl
set_option maxHeartbeats 0 in
set_option maxRecDepth 1000000 in
theorem rkCode_12 : u8c12.map (fun op => reckonGC Tryz.prog (guardH noHook) noOrc 100000 300 [] 153 [.int .u8 op]) = u8c12.map (fun op => some (rkCodeV op.toNat, [])) := by kernel_rfl
set_option maxHeartbeats 0 in
set_option maxRecDepth 1000000 in
theorem rkCode_13 : u8c13.map (fun op => reckonGC Tryz.prog (guardH noHook) noOrc 100000 300 [] 153 [.int .u8 op]) = u8c13.map (fun op => some (rkCodeV op.toNat, [])) := by kernel_rfl
set_option maxHeartbeats 0 in
set_option maxRecDepth 1000000 in
theorem rkCode_14 : u8c14.map (fun op => reckonGC Tryz.prog (guardH noHook) noOrc 100000 300 [] 153 [.int .u8 op]) = u8c14.map (fun op => some (rkCodeV op.toNat, [])) := by kernel_rfl
set_option maxHeartbeats 0 in
set_option maxRecDepth 1000000 in
theorem rkCode_15 : u8c15.map (fun op => reckonGC Tryz.prog (guardH noHook) noOrc 100000 300 [] 153 [.int .u8 op]) = u8c15.map (fun op => some (rkCodeV op.toNat, [])) := by kernel_rfl
set_option maxHeartbeats 0 in
set_option maxRecDepth 1000000 in
theorem rkCode_16 : u8c16.map (fun op => reckonGC Tryz.prog (guardH noHook) noOrc 100000 300 [] 153 [.int .u8 op]) = u8c16.map (fun op => some (rkCodeV op.toNat, [])) := by kernel_rfl
set_option maxHeartbeats 0 in
set_option maxRecDepth 1000000 in
theorem rkCode_17 : u8c17.map (fun op => reckonGC Tryz.prog (guardH noHook) noOrc 100000 300 [] 153 [.int .u8 op]) = u8c17.map (fun op => some (rkCodeV op.toNat, [])) := by kernel_rfl
set_option maxHeartbeats 0 in
set_option maxRecDepth 1000000 in
theorem rkCode_18 : u8c18.map (fun op => reckonGC Tryz.prog (guardH noHook) noOrc 100000 300 [] 153 [.int .u8 op]) = u8c18.map (fun op => some (rkCodeV op.toNat, [])) := by kernel_rfl
set_option maxHeartbeats 0 in
set_option maxRecDepth 1000000 in
theorem rkCode_19 : u8c19.map (fun op => reckonGC Tryz.prog (guardH noHook) noOrc 100000 300 [] 153 [.int .u8 op]) = u8c19.map (fun op => some (rkCodeV op.toNat, [])) := by kernel_rfl
set_option maxHeartbeats 0 in
set_option maxRecDepth 1000000 in
theorem rkCode_20 : u8c20.map (fun op => reckonGC Tryz.prog (guardH noHook) noOrc 100000 300 [] 153 [.int .u8 op]) = u8c20.map (fun op => some (rkCodeV op.toNat, [])) := by kernel_rfl
set_option maxHeartbeats 0 in
set_option maxRecDepth 1000000 in
theorem rkCode_21 : u8c21.map (fun op => reckonGC Tryz.prog (guardH noHook) noOrc 100000 300 [] 153 [.int .u8 op]) = u8c21.map (fun op => some (rkCodeV op.toNat, [])) := by kernel_rfl
set_option maxHeartbeats 0 in
set_option maxRecDepth 1000000 in
theorem rkCode_22 : u8c22.map (fun op => reckonGC Tryz.prog (guardH noHook) noOrc 100000 300 [] 153 [.int .u8 op]) = u8c22.map (fun op => some (rkCodeV op.toNat, [])) := by kernel_rfl
set_option maxHeartbeats 0 in
set_option maxRecDepth 1000000 in
theorem rkCode_23 : u8c23.map (fun op => reckonGC Tryz.prog (guardH noHook) noOrc 100000 300 [] 153 [.int .u8 op]) = u8c23.map (fun op => some (rkCodeV op.toNat, [])) := by kernel_rfl
set_option maxHeartbeats 0 in
set_option maxRecDepth 1000000 in
theorem rkCode_24 : u8c24.map (fun op => reckonGC Tryz.prog (guardH noHook) noOrc 100000 300 [] 153 [.int .u8 op]) = u8c24.map (fun op => some (rkCodeV op.toNat, [])) := by kernel_rfl
set_option maxHeartbeats 0 in
set_option maxRecDepth 1000000 in
theorem rkCode_25 : u8c25.map (fun op => reckonGC Tryz.prog (guardH noHook) noOrc 100000 300 [] 153 [.int .u8 op]) = u8c25.map (fun op => some (rkCodeV op.toNat, [])) := by kernel_rfl
set_option maxHeartbeats 0 in
set_option maxRecDepth 1000000 in
theorem rkCode_26 : u8c26.map (fun op => reckonGC Tryz.prog (guardH noHook) noOrc 100000 300 [] 153 [.int .u8 op]) = u8c26.map (fun op => some (rkCodeV op.toNat, [])) := by kernel_rfl
set_option maxHeartbeats 0 in
set_option maxRecDepth 1000000 in
theorem rkCode_27 : u8c27.map (fun op => reckonGC Tryz.prog (guardH noHook) noOrc 100000 300 [] 153 [.int .u8 op]) = u8c27.map (fun op => some (rkCodeV op.toNat, [])) := by kernel_rfl
set_option maxHeartbeats 0 in
set_option maxRecDepth 1000000 in
theorem rkCode_28 : u8c28.map (fun op => reckonGC Tryz.prog (guardH noHook) noOrc 100000 300 [] 153 [.int .u8 op]) = u8c28.map (fun op => some (rkCodeV op.toNat, [])) := by kernel_rfl
set_option maxHeartbeats 0 in
set_option maxRecDepth 1000000 in
theorem rkCode_29 : u8c29.map (fun op => reckonGC Tryz.prog (guardH noHook) noOrc 100000 300 [] 153 [.int .u8 op]) = u8c29.map (fun op => some (rkCodeV op.toNat, [])) := by kernel_rfl
set_option maxHeartbeats 0 in
set_option maxRecDepth 1000000 in
theorem rkCode_30 : u8c30.map (fun op => reckonGC Tryz.prog (guardH noHook) noOrc 100000 300 [] 153 [.int .u8 op]) = u8c30.map (fun op => some (rkCodeV op.toNat, [])) := by kernel_rfl
set_option maxHeartbeats 0 in
set_option maxRecDepth 1000000 in
theorem rkCode_31 : u8c31.map (fun op => reckonGC Tryz.prog (guardH noHook) noOrc 100000 300 [] 153 [.int .u8 op]) = u8c31.map (fun op => some (rkCodeV op.toNat, [])) := by kernel_rfl
theorem c_rkCode (op : Int) (h : op ∈ u8s) (w : World) : Calls Tryz.prog 153 #[.int .u8 op] w fun e w' => e = .returned (rkCodeV op.toNat) ∧ Gr w w' := by
  have hf := List.all_eq_true.1 rkCode_flat op h
  unfold u8s at h
  rcases List.mem_append.1 h with hm | h
  · exact reckonT_ok noNG (noHook_ok _) noOrc 100000 300 [] (cs := []) rfl hf (List.map_inj_left.1 rkCode_0 op hm) rfl w (Laid.nil w)
  rcases List.mem_append.1 h with hm | h
  · exact reckonT_ok noNG (noHook_ok _) noOrc 100000 300 [] (cs := []) rfl hf (List.map_inj_left.1 rkCode_1 op hm) rfl w (Laid.nil w)
  rcases List.mem_append.1 h with hm | h
  · exact reckonT_ok noNG (noHook_ok _) noOrc 100000 300 [] (cs := []) rfl hf (List.map_inj_left.1 rkCode_2 op hm) rfl w (Laid.nil w)
  rcases List.mem_append.1 h with hm | h
  · exact reckonT_ok noNG (noHook_ok _) noOrc 100000 300 [] (cs := []) rfl hf (List.map_inj_left.1 rkCode_3 op hm) rfl w (Laid.nil w)
  rcases List.mem_append.1 h with hm | h
  · exact reckonT_ok noNG (noHook_ok _) noOrc 100000 300 [] (cs := []) rfl hf (List.map_inj_left.1 rkCode_4 op hm) rfl w (Laid.nil w)
  rcases List.mem_append.1 h with hm | h
  · exact reckonT_ok noNG (noHook_ok _) noOrc 100000 300 [] (cs := []) rfl hf (List.map_inj_left.1 rkCode_5 op hm) rfl w (Laid.nil w)
  rcases List.mem_append.1 h with hm | h
  · exact reckonT_ok noNG (noHook_ok _) noOrc 100000 300 [] (cs := []) rfl hf (List.map_inj_left.1 rkCode_6 op hm) rfl w (Laid.nil w)
  rcases List.mem_append.1 h with hm | h
  · exact reckonT_ok noNG (noHook_ok _) noOrc 100000 300 [] (cs := []) rfl hf (List.map_inj_left.1 rkCode_7 op hm) rfl w (Laid.nil w)
  rcases List.mem_append.1 h with hm | h
  · exact reckonT_ok noNG (noHook_ok _) noOrc 100000 300 [] (cs := []) rfl hf (List.map_inj_left.1 rkCode_8 op hm) rfl w (Laid.nil w)
  rcases List.mem_append.1 h with hm | h
  · exact reckonT_ok noNG (noHook_ok _) noOrc 100000 300 [] (cs := []) rfl hf (List.map_inj_left.1 rkCode_9 op hm) rfl w (Laid.nil w)
  rcases List.mem_append.1 h with hm | h
  · exact reckonT_ok noNG (noHook_ok _) noOrc 100000 300 [] (cs := []) rfl hf (List.map_inj_left.1 rkCode_10 op hm) rfl w (Laid.nil w)
  rcases List.mem_append.1 h with hm | h
  · exact reckonT_ok noNG (noHook_ok _) noOrc 100000 300 [] (cs := []) rfl hf (List.map_inj_left.1 rkCode_11 op hm) rfl w (Laid.nil w)
  rcases List.mem_append.1 h with hm | h
  · exact reckonT_ok noNG (noHook_ok _) noOrc 100000 300 [] (cs := []) rfl hf (List.map_inj_left.1 rkCode_12 op hm) rfl w (Laid.nil w)
  rcases List.mem_append.1 h with hm | h
  · exact reckonT_ok noNG (noHook_ok _) noOrc 100000 300 [] (cs := []) rfl hf (List.map_inj_left.1 rkCode_13 op hm) rfl w (Laid.nil w)
  rcases List.mem_append.1 h with hm | h
  · exact reckonT_ok noNG (noHook_ok _) noOrc 100000 300 [] (cs := []) rfl hf (List.map_inj_left.1 rkCode_14 op hm) rfl w (Laid.nil w)
  rcases List.mem_append.1 h with hm | h
  · exact reckonT_ok noNG (noHook_ok _) noOrc 100000 300 [] (cs := []) rfl hf (List.map_inj_left.1 rkCode_15 op hm) rfl w (Laid.nil w)
  rcases List.mem_append.1 h with hm | h
  · exact reckonT_ok noNG (noHook_ok _) noOrc 100000 300 [] (cs := []) rfl hf (List.map_inj_left.1 rkCode_16 op hm) rfl w (Laid.nil w)
  rcases List.mem_append.1 h with hm | h
  · exact reckonT_ok noNG (noHook_ok _) noOrc 100000 300 [] (cs := []) rfl hf (List.map_inj_left.1 rkCode_17 op hm) rfl w (Laid.nil w)
  rcases List.mem_append.1 h with hm | h
  · exact reckonT_ok noNG (noHook_ok _) noOrc 100000 300 [] (cs := []) rfl hf (List.map_inj_left.1 rkCode_18 op hm) rfl w (Laid.nil w)
  rcases List.mem_append.1 h with hm | h
  · exact reckonT_ok noNG (noHook_ok _) noOrc 100000 300 [] (cs := []) rfl hf (List.map_inj_left.1 rkCode_19 op hm) rfl w (Laid.nil w)
  rcases List.mem_append.1 h with hm | h
  · exact reckonT_ok noNG (noHook_ok _) noOrc 100000 300 [] (cs := []) rfl hf (List.map_inj_left.1 rkCode_20 op hm) rfl w (Laid.nil w)
  rcases List.mem_append.1 h with hm | h
  · exact reckonT_ok noNG (noHook_ok _) noOrc 100000 300 [] (cs := []) rfl hf (List.map_inj_left.1 rkCode_21 op hm) rfl w (Laid.nil w)
  rcases List.mem_append.1 h with hm | h
  · exact reckonT_ok noNG (noHook_ok _) noOrc 100000 300 [] (cs := []) rfl hf (List.map_inj_left.1 rkCode_22 op hm) rfl w (Laid.nil w)
  rcases List.mem_append.1 h with hm | h
  · exact reckonT_ok noNG (noHook_ok _) noOrc 100000 300 [] (cs := []) rfl hf (List.map_inj_left.1 rkCode_23 op hm) rfl w (Laid.nil w)
  rcases List.mem_append.1 h with hm | h
  · exact reckonT_ok noNG (noHook_ok _) noOrc 100000 300 [] (cs := []) rfl hf (List.map_inj_left.1 rkCode_24 op hm) rfl w (Laid.nil w)
  rcases List.mem_append.1 h with hm | h
  · exact reckonT_ok noNG (noHook_ok _) noOrc 100000 300 [] (cs := []) rfl hf (List.map_inj_left.1 rkCode_25 op hm) rfl w (Laid.nil w)
  rcases List.mem_append.1 h with hm | h
  · exact reckonT_ok noNG (noHook_ok _) noOrc 100000 300 [] (cs := []) rfl hf (List.map_inj_left.1 rkCode_26 op hm) rfl w (Laid.nil w)
  rcases List.mem_append.1 h with hm | h
  · exact reckonT_ok noNG (noHook_ok _) noOrc 100000 300 [] (cs := []) rfl hf (List.map_inj_left.1 rkCode_27 op hm) rfl w (Laid.nil w)
  rcases List.mem_append.1 h with hm | h
  · exact reckonT_ok noNG (noHook_ok _) noOrc 100000 300 [] (cs := []) rfl hf (List.map_inj_left.1 rkCode_28 op hm) rfl w (Laid.nil w)
  rcases List.mem_append.1 h with hm | h
  · exact reckonT_ok noNG (noHook_ok _) noOrc 100000 300 [] (cs := []) rfl hf (List.map_inj_left.1 rkCode_29 op hm) rfl w (Laid.nil w)
  rcases List.mem_append.1 h with hm | h
  · exact reckonT_ok noNG (noHook_ok _) noOrc 100000 300 [] (cs := []) rfl hf (List.map_inj_left.1 rkCode_30 op hm) rfl w (Laid.nil w)
  · exact reckonT_ok noNG (noHook_ok _) noOrc 100000 300 [] (cs := []) rfl hf (List.map_inj_left.1 rkCode_31 op h) rfl w (Laid.nil w)
def hk_rkCode : Hook := fun f args _ =>
  if Nat.beq f 153 then
    match args with
    | [.int .u8 op] => if u8in op then some (rkCodeV op.toNat, []) else none
    | _ => none
  else none
theorem hk_rkCode_ok : HookOk Tryz.prog hk_rkCode := by
  intro f args h v cs hv hc wb k s w H
  unfold hk_rkCode at hv
  split at hv
  · rename_i hf
    obtain rfl := Nat.eq_of_beq_eq_true hf
    split at hv
    · rename_i op
      split at hv
      · rename_i ho
        cases hv
        exact c_rkCode op (u8in_mem ho) w
      · cases hv
    · cases hv
  · cases hv
end Go.Proofs.YthhgfjnnconocaaGreatDoor.Ex
end
section
namespace Go.Proofs.YthhgfjnnconocaaGreatDoor.Ex
set_option maxRecDepth 20000

open Go Go.RowKit
def rkNameV (n : Nat) : Value := (bif Nat.ble 128 n then (bif Nat.ble 192 n then (bif Nat.ble 224 n then (.string ⟨#[]⟩) else (bif Nat.ble 208 n then (bif Nat.ble 216 n then (bif Nat.ble 220 n then (bif Nat.ble 222 n then (bif Nat.ble 223 n then (.string ⟨#[]⟩) else (.string ⟨#[106, 115, 108, 101]⟩)) else (bif Nat.ble 221 n then (.string ⟨#[106, 115, 108, 101]⟩) else (.string ⟨#[]⟩))) else (.string ⟨#[106, 115, 108, 101]⟩)) else (bif Nat.ble 212 n then (bif Nat.ble 214 n then (bif Nat.ble 215 n then (.string ⟨#[]⟩) else (.string ⟨#[106, 115, 108, 101]⟩)) else (bif Nat.ble 213 n then (.string ⟨#[106, 115, 108, 101]⟩) else (.string ⟨#[]⟩))) else (.string ⟨#[106, 115, 108, 101]⟩))) else (bif Nat.ble 200 n then (bif Nat.ble 204 n then (bif Nat.ble 206 n then (bif Nat.ble 207 n then (.string ⟨#[97, 114, 115, 104]⟩) else (.string ⟨#[106, 115, 108, 116]⟩)) else (bif Nat.ble 205 n then (.string ⟨#[106, 115, 108, 116]⟩) else (.string ⟨#[97, 114, 115, 104]⟩))) else (.string ⟨#[106, 115, 108, 116]⟩)) else (bif Nat.ble 196 n then (bif Nat.ble 198 n then (bif Nat.ble 199 n then (.string ⟨#[97, 114, 115, 104]⟩) else (.string ⟨#[106, 115, 108, 116]⟩)) else (bif Nat.ble 197 n then (.string ⟨#[106, 115, 108, 116]⟩) else (.string ⟨#[97, 114, 115, 104]⟩))) else (.string ⟨#[106, 115, 108, 116]⟩))))) else (bif Nat.ble 160 n then (bif Nat.ble 176 n then (bif Nat.ble 184 n then (bif Nat.ble 188 n then (bif Nat.ble 190 n then (bif Nat.ble 191 n then (.string ⟨#[109, 111, 118]⟩) else (.string ⟨#[106, 108, 101]⟩)) else (bif Nat.ble 189 n then (.string ⟨#[106, 108, 101]⟩) else (.string ⟨#[109, 111, 118]⟩))) else (.string ⟨#[106, 108, 101]⟩)) else (bif Nat.ble 180 n then (bif Nat.ble 182 n then (bif Nat.ble 183 n then (.string ⟨#[109, 111, 118]⟩) else (.string ⟨#[106, 108, 101]⟩)) else (bif Nat.ble 181 n then (.string ⟨#[106, 108, 101]⟩) else (.string ⟨#[109, 111, 118]⟩))) else (.string ⟨#[106, 108, 101]⟩))) else (bif Nat.ble 168 n then (bif Nat.ble 172 n then (bif Nat.ble 174 n then (bif Nat.ble 175 n then (.string ⟨#[120, 111, 114]⟩) else (.string ⟨#[106, 108, 116]⟩)) else (bif Nat.ble 173 n then (.string ⟨#[106, 108, 116]⟩) else (.string ⟨#[120, 111, 114]⟩))) else (.string ⟨#[106, 108, 116]⟩)) else (bif Nat.ble 164 n then (bif Nat.ble 166 n then (bif Nat.ble 167 n then (.string ⟨#[120, 111, 114]⟩) else (.string ⟨#[106, 108, 116]⟩)) else (bif Nat.ble 165 n then (.string ⟨#[106, 108, 116]⟩) else (.string ⟨#[120, 111, 114]⟩))) else (.string ⟨#[106, 108, 116]⟩)))) else (bif Nat.ble 144 n then (bif Nat.ble 152 n then (bif Nat.ble 156 n then (bif Nat.ble 158 n then (bif Nat.ble 159 n then (.string ⟨#[109, 111, 100]⟩) else (.string ⟨#[]⟩)) else (bif Nat.ble 157 n then (.string ⟨#[]⟩) else (.string ⟨#[109, 111, 100]⟩))) else (.string ⟨#[]⟩)) else (bif Nat.ble 148 n then (bif Nat.ble 150 n then (bif Nat.ble 151 n then (.string ⟨#[109, 111, 100]⟩) else (.string ⟨#[]⟩)) else (bif Nat.ble 149 n then (.string ⟨#[]⟩) else (.string ⟨#[109, 111, 100]⟩))) else (.string ⟨#[]⟩))) else (bif Nat.ble 136 n then (bif Nat.ble 140 n then (bif Nat.ble 142 n then (bif Nat.ble 143 n then (.string ⟨#[110, 101, 103]⟩) else (.string ⟨#[]⟩)) else (bif Nat.ble 141 n then (.string ⟨#[]⟩) else (.string ⟨#[110, 101, 103]⟩))) else (.string ⟨#[]⟩)) else (bif Nat.ble 132 n then (bif Nat.ble 134 n then (bif Nat.ble 135 n then (.string ⟨#[110, 101, 103]⟩) else (.string ⟨#[]⟩)) else (bif Nat.ble 133 n then (.string ⟨#[]⟩) else (.string ⟨#[110, 101, 103]⟩))) else (.string ⟨#[]⟩)))))) else (bif Nat.ble 64 n then (bif Nat.ble 96 n then (bif Nat.ble 112 n then (bif Nat.ble 120 n then (bif Nat.ble 124 n then (bif Nat.ble 126 n then (bif Nat.ble 127 n then (.string ⟨#[114, 115, 104]⟩) else (.string ⟨#[106, 115, 103, 101]⟩)) else (bif Nat.ble 125 n then (.string ⟨#[106, 115, 103, 101]⟩) else (.string ⟨#[114, 115, 104]⟩))) else (.string ⟨#[106, 115, 103, 101]⟩)) else (bif Nat.ble 116 n then (bif Nat.ble 118 n then (bif Nat.ble 119 n then (.string ⟨#[114, 115, 104]⟩) else (.string ⟨#[106, 115, 103, 101]⟩)) else (bif Nat.ble 117 n then (.string ⟨#[106, 115, 103, 101]⟩) else (.string ⟨#[114, 115, 104]⟩))) else (.string ⟨#[106, 115, 103, 101]⟩))) else (bif Nat.ble 104 n then (bif Nat.ble 108 n then (bif Nat.ble 110 n then (bif Nat.ble 111 n then (.string ⟨#[108, 115, 104]⟩) else (.string ⟨#[106, 115, 103, 116]⟩)) else (bif Nat.ble 109 n then (.string ⟨#[106, 115, 103, 116]⟩) else (.string ⟨#[108, 115, 104]⟩))) else (.string ⟨#[106, 115, 103, 116]⟩)) else (bif Nat.ble 100 n then (bif Nat.ble 102 n then (bif Nat.ble 103 n then (.string ⟨#[108, 115, 104]⟩) else (.string ⟨#[106, 115, 103, 116]⟩)) else (bif Nat.ble 101 n then (.string ⟨#[106, 115, 103, 116]⟩) else (.string ⟨#[108, 115, 104]⟩))) else (.string ⟨#[106, 115, 103, 116]⟩)))) else (bif Nat.ble 80 n then (bif Nat.ble 88 n then (bif Nat.ble 92 n then (bif Nat.ble 94 n then (bif Nat.ble 95 n then (.string ⟨#[97, 110, 100]⟩) else (.string ⟨#[106, 110, 101]⟩)) else (bif Nat.ble 93 n then (.string ⟨#[106, 110, 101]⟩) else (.string ⟨#[97, 110, 100]⟩))) else (.string ⟨#[106, 110, 101]⟩)) else (bif Nat.ble 84 n then (bif Nat.ble 86 n then (bif Nat.ble 87 n then (.string ⟨#[97, 110, 100]⟩) else (.string ⟨#[106, 110, 101]⟩)) else (bif Nat.ble 85 n then (.string ⟨#[106, 110, 101]⟩) else (.string ⟨#[97, 110, 100]⟩))) else (.string ⟨#[106, 110, 101]⟩))) else (bif Nat.ble 72 n then (bif Nat.ble 76 n then (bif Nat.ble 78 n then (bif Nat.ble 79 n then (.string ⟨#[111, 114]⟩) else (.string ⟨#[106, 115, 101, 116]⟩)) else (bif Nat.ble 77 n then (.string ⟨#[106, 115, 101, 116]⟩) else (.string ⟨#[111, 114]⟩))) else (.string ⟨#[106, 115, 101, 116]⟩)) else (bif Nat.ble 68 n then (bif Nat.ble 70 n then (bif Nat.ble 71 n then (.string ⟨#[111, 114]⟩) else (.string ⟨#[106, 115, 101, 116]⟩)) else (bif Nat.ble 69 n then (.string ⟨#[106, 115, 101, 116]⟩) else (.string ⟨#[111, 114]⟩))) else (.string ⟨#[106, 115, 101, 116]⟩))))) else (bif Nat.ble 32 n then (bif Nat.ble 48 n then (bif Nat.ble 56 n then (bif Nat.ble 60 n then (bif Nat.ble 62 n then (bif Nat.ble 63 n then (.string ⟨#[100, 105, 118]⟩) else (.string ⟨#[106, 103, 101]⟩)) else (bif Nat.ble 61 n then (.string ⟨#[106, 103, 101]⟩) else (.string ⟨#[100, 105, 118]⟩))) else (.string ⟨#[106, 103, 101]⟩)) else (bif Nat.ble 52 n then (bif Nat.ble 54 n then (bif Nat.ble 55 n then (.string ⟨#[100, 105, 118]⟩) else (.string ⟨#[106, 103, 101]⟩)) else (bif Nat.ble 53 n then (.string ⟨#[106, 103, 101]⟩) else (.string ⟨#[100, 105, 118]⟩))) else (.string ⟨#[106, 103, 101]⟩))) else (bif Nat.ble 40 n then (bif Nat.ble 44 n then (bif Nat.ble 46 n then (bif Nat.ble 47 n then (.string ⟨#[109, 117, 108]⟩) else (.string ⟨#[106, 103, 116]⟩)) else (bif Nat.ble 45 n then (.string ⟨#[106, 103, 116]⟩) else (.string ⟨#[109, 117, 108]⟩))) else (.string ⟨#[106, 103, 116]⟩)) else (bif Nat.ble 36 n then (bif Nat.ble 38 n then (bif Nat.ble 39 n then (.string ⟨#[109, 117, 108]⟩) else (.string ⟨#[106, 103, 116]⟩)) else (bif Nat.ble 37 n then (.string ⟨#[106, 103, 116]⟩) else (.string ⟨#[109, 117, 108]⟩))) else (.string ⟨#[106, 103, 116]⟩)))) else (bif Nat.ble 16 n then (bif Nat.ble 24 n then (bif Nat.ble 28 n then (bif Nat.ble 30 n then (bif Nat.ble 31 n then (.string ⟨#[115, 117, 98]⟩) else (.string ⟨#[106, 101, 113]⟩)) else (bif Nat.ble 29 n then (.string ⟨#[106, 101, 113]⟩) else (.string ⟨#[115, 117, 98]⟩))) else (.string ⟨#[106, 101, 113]⟩)) else (bif Nat.ble 20 n then (bif Nat.ble 22 n then (bif Nat.ble 23 n then (.string ⟨#[115, 117, 98]⟩) else (.string ⟨#[106, 101, 113]⟩)) else (bif Nat.ble 21 n then (.string ⟨#[106, 101, 113]⟩) else (.string ⟨#[115, 117, 98]⟩))) else (.string ⟨#[106, 101, 113]⟩))) else (bif Nat.ble 8 n then (bif Nat.ble 12 n then (bif Nat.ble 14 n then (bif Nat.ble 15 n then (.string ⟨#[97, 100, 100]⟩) else (.string ⟨#[]⟩)) else (bif Nat.ble 13 n then (.string ⟨#[]⟩) else (.string ⟨#[97, 100, 100]⟩))) else (.string ⟨#[]⟩)) else (bif Nat.ble 4 n then (bif Nat.ble 6 n then (bif Nat.ble 7 n then (.string ⟨#[97, 100, 100]⟩) else (.string ⟨#[]⟩)) else (bif Nat.ble 5 n then (.string ⟨#[]⟩) else (.string ⟨#[97, 100, 100]⟩))) else (.string ⟨#[]⟩)))))))
theorem rkName_flat : u8s.all (fun op => flat (rkNameV op.toNat)) = true := by kernel_rfl
set_option maxHeartbeats 0 in
set_option maxRecDepth 1000000 in
theorem rkName_0 : u8c0.map (fun op => reckonGC Tryz.prog (guardH noHook) noOrc 100000 300 [] 152 [.int .u8 op]) = u8c0.map (fun op => some (rkNameV op.toNat, [])) := by kernel_rfl
set_option maxHeartbeats 0 in
set_option maxRecDepth 1000000 in
theorem rkName_1 : u8c1.map (fun op => reckonGC Tryz.prog (guardH noHook) noOrc 100000 300 [] 152 [.int .u8 op]) = u8c1.map (fun op => some (rkNameV op.toNat, [])) := by kernel_rfl
set_option maxHeartbeats 0 in
set_option maxRecDepth 1000000 in
theorem rkName_2 : u8c2.map (fun op => reckonGC Tryz.prog (guardH noHook) noOrc 100000 300 [] 152 [.int .u8 op]) = u8c2.map (fun op => some (rkNameV op.toNat, [])) := by kernel_rfl
set_option maxHeartbeats 0 in
set_option maxRecDepth 1000000 in
theorem rkName_3 : u8c3.map (fun op => reckonGC Tryz.prog (guardH noHook) noOrc 100000 300 [] 152 [.int .u8 op]) = u8c3.map (fun op => some (rkNameV op.toNat, [])) := by kernel_rfl
set_option maxHeartbeats 0 in
set_option maxRecDepth 1000000 in
theorem rkName_4 : u8c4.map (fun op => reckonGC Tryz.prog (guardH noHook) noOrc 100000 300 [] 152 [.int .u8 op]) = u8c4.map (fun op => some (rkNameV op.toNat, [])) := by kernel_rfl
set_option maxHeartbeats 0 in
set_option maxRecDepth 1000000 in
theorem rkName_5 : u8c5.map (fun op => reckonGC Tryz.prog (guardH noHook) noOrc 100000 300 [] 152 [.int .u8 op]) = u8c5.map (fun op => some (rkNameV op.toNat, [])) := by kernel_rfl
set_option maxHeartbeats 0 in
set_option maxRecDepth 1000000 in
theorem rkName_6 : u8c6.map (fun op => reckonGC Tryz.prog (guardH noHook) noOrc 100000 300 [] 152 [.int .u8 op]) = u8c6.map (fun op => some (rkNameV op.toNat, [])) := by kernel_rfl
set_option maxHeartbeats 0 in
set_option maxRecDepth 1000000 in
theorem rkName_7 : u8c7.map (fun op => reckonGC Tryz.prog (guardH noHook) noOrc 100000 300 [] 152 [.int .u8 op]) = u8c7.map (fun op => some (rkNameV op.toNat, [])) := by kernel_rfl
set_option maxHeartbeats 0 in
set_option maxRecDepth 1000000 in
theorem rkName_8 : u8c8.map (fun op => reckonGC Tryz.prog (guardH noHook) noOrc 100000 300 [] 152 [.int .u8 op]) = u8c8.map (fun op => some (rkNameV op.toNat, [])) := by kernel_rfl
set_option maxHeartbeats 0 in
set_option maxRecDepth 1000000 in
theorem rkName_9 : u8c9.map (fun op => reckonGC Tryz.prog (guardH noHook) noOrc 100000 300 [] 152 [.int .u8 op]) = u8c9.map (fun op => some (rkNameV op.toNat, [])) := by kernel_rfl
set_option maxHeartbeats 0 in
set_option maxRecDepth 1000000 in
theorem rkName_10 : u8c10.map (fun op => reckonGC Tryz.prog (guardH noHook) noOrc 100000 300 [] 152 [.int .u8 op]) = u8c10.map (fun op => some (rkNameV op.toNat, [])) := by kernel_rfl
set_option maxHeartbeats 0 in
set_option maxRecDepth 1000000 in
theorem rkName_11 : u8c11.map (fun op => reckonGC Tryz.prog (guardH noHook) noOrc 100000 300 [] 152 [.int .u8 op]) = u8c11.map (fun op => some (rkNameV op.toNat, [])) := by kernel_rfl
set_option maxHeartbeats 0 in
set_option maxRecDepth 1000000 in
theorem rkName_12 : u8c12.map (fun op => reckonGC Tryz.prog (guardH noHook) noOrc 100000 300 [] 152 [.int .u8 op]) = u8c12.map (fun op => some (rkNameV op.toNat, [])) := by kernel_rfl
set_option maxHeartbeats 0 in
set_option maxRecDepth 1000000 in
theorem rkName_13 : u8c13.map (fun op => reckonGC Tryz.prog (guardH noHook) noOrc 100000 300 [] 152 [.int .u8 op]) = u8c13.map (fun op => some (rkNameV op.toNat, [])) := by kernel_rfl
set_option maxHeartbeats 0 in
set_option maxRecDepth 1000000 in
theorem rkName_14 : u8c14.map (fun op => reckonGC Tryz.prog (guardH noHook) noOrc 100000 300 [] 152 [.int .u8 op]) = u8c14.map (fun op => some (rkNameV op.toNat, [])) := by kernel_rfl
set_option maxHeartbeats 0 in
set_option maxRecDepth 1000000 in
theorem rkName_15 : u8c15.map (fun op => reckonGC Tryz.prog (guardH noHook) noOrc 100000 300 [] 152 [.int .u8 op]) = u8c15.map (fun op => some (rkNameV op.toNat, [])) := by kernel_rfl
set_option maxHeartbeats 0 in
set_option maxRecDepth 1000000 in
theorem rkName_16 : u8c16.map (fun op => reckonGC Tryz.prog (guardH noHook) noOrc 100000 300 [] 152 [.int .u8 op]) = u8c16.map (fun op => some (rkNameV op.toNat, [])) := by kernel_rfl
set_option maxHeartbeats 0 in
set_option maxRecDepth 1000000 in
theorem rkName_17 : u8c17.map (fun op => reckonGC Tryz.prog (guardH noHook) noOrc 100000 300 [] 152 [.int .u8 op]) = u8c17.map (fun op => some (rkNameV op.toNat, [])) := by kernel_rfl
set_option maxHeartbeats 0 in
set_option maxRecDepth 1000000 in
theorem rkName_18 : u8c18.map (fun op => reckonGC Tryz.prog (guardH noHook) noOrc 100000 300 [] 152 [.int .u8 op]) = u8c18.map (fun op => some (rkNameV op.toNat, [])) := by kernel_rfl
set_option maxHeartbeats 0 in
set_option maxRecDepth 1000000 in
theorem rkName_19 : u8c19.map (fun op => reckonGC Tryz.prog (guardH noHook) noOrc 100000 300 [] 152 [.int .u8 op]) = u8c19.map (fun op => some (rkNameV op.toNat, [])) := by kernel_rfl
set_option maxHeartbeats 0 in
set_option maxRecDepth 1000000 in
theorem rkName_20 : u8c20.map (fun op => reckonGC Tryz.prog (guardH noHook) noOrc 100000 300 [] 152 [.int .u8 op]) = u8c20.map (fun op => some (rkNameV op.toNat, [])) := by kernel_rfl
set_option maxHeartbeats 0 in
set_option maxRecDepth 1000000 in
theorem rkName_21 : u8c21.map (fun op => reckonGC Tryz.prog (guardH noHook) noOrc 100000 300 [] 152 [.int .u8 op]) = u8c21.map (fun op => some (rkNameV op.toNat, [])) := by kernel_rfl
set_option maxHeartbeats 0 in
set_option maxRecDepth 1000000 in
theorem rkName_22 : u8c22.map (fun op => reckonGC Tryz.prog (guardH noHook) noOrc 100000 300 [] 152 [.int .u8 op]) = u8c22.map (fun op => some (rkNameV op.toNat, [])) := by kernel_rfl
set_option maxHeartbeats 0 in
set_option maxRecDepth 1000000 in
theorem rkName_23 : u8c23.map (fun op => reckonGC Tryz.prog (guardH noHook) noOrc 100000 300 [] 152 [.int .u8 op]) = u8c23.map (fun op => some (rkNameV op.toNat, [])) := by kernel_rfl
set_option maxHeartbeats 0 in
set_option maxRecDepth 1000000 in
theorem rkName_24 : u8c24.map (fun op => reckonGC Tryz.prog (guardH noHook) noOrc 100000 300 [] 152 [.int .u8 op]) = u8c24.map (fun op => some (rkNameV op.toNat, [])) := by kernel_rfl
set_option maxHeartbeats 0 in
set_option maxRecDepth 1000000 in
theorem rkName_25 : u8c25.map (fun op => reckonGC Tryz.prog (guardH noHook) noOrc 100000 300 [] 152 [.int .u8 op]) = u8c25.map (fun op => some (rkNameV op.toNat, [])) := by kernel_rfl
set_option maxHeartbeats 0 in
set_option maxRecDepth 1000000 in
theorem rkName_26 : u8c26.map (fun op => reckonGC Tryz.prog (guardH noHook) noOrc 100000 300 [] 152 [.int .u8 op]) = u8c26.map (fun op => some (rkNameV op.toNat, [])) := by kernel_rfl
set_option maxHeartbeats 0 in
set_option maxRecDepth 1000000 in
theorem rkName_27 : u8c27.map (fun op => reckonGC Tryz.prog (guardH noHook) noOrc 100000 300 [] 152 [.int .u8 op]) = u8c27.map (fun op => some (rkNameV op.toNat, [])) := by kernel_rfl
set_option maxHeartbeats 0 in
set_option maxRecDepth 1000000 in
theorem rkName_28 : u8c28.map (fun op => reckonGC Tryz.prog (guardH noHook) noOrc 100000 300 [] 152 [.int .u8 op]) = u8c28.map (fun op => some (rkNameV op.toNat, [])) := by kernel_rfl
set_option maxHeartbeats 0 in
set_option maxRecDepth 1000000 in
theorem rkName_29 : u8c29.map (fun op => reckonGC Tryz.prog (guardH noHook) noOrc 100000 300 [] 152 [.int .u8 op]) = u8c29.map (fun op => some (rkNameV op.toNat, [])) := by kernel_rfl
set_option maxHeartbeats 0 in
set_option maxRecDepth 1000000 in
theorem rkName_30 : u8c30.map (fun op => reckonGC Tryz.prog (guardH noHook) noOrc 100000 300 [] 152 [.int .u8 op]) = u8c30.map (fun op => some (rkNameV op.toNat, [])) := by kernel_rfl
set_option maxHeartbeats 0 in
set_option maxRecDepth 1000000 in
theorem rkName_31 : u8c31.map (fun op => reckonGC Tryz.prog (guardH noHook) noOrc 100000 300 [] 152 [.int .u8 op]) = u8c31.map (fun op => some (rkNameV op.toNat, [])) := by kernel_rfl
theorem c_rkName (op : Int) (h : op ∈ u8s) (w : World) : Calls Tryz.prog 152 #[.int .u8 op] w fun e w' => e = .returned (rkNameV op.toNat) ∧ Gr w w' := by
  have hf := List.all_eq_true.1 rkName_flat op h
  unfold u8s at h
  rcases List.mem_append.1 h with hm | h
  · exact reckonT_ok noNG (noHook_ok _) noOrc 100000 300 [] (cs := []) rfl hf (List.map_inj_left.1 rkName_0 op hm) rfl w (Laid.nil w)
  rcases List.mem_append.1 h with hm | h
  · exact reckonT_ok noNG (noHook_ok _) noOrc 100000 300 [] (cs := []) rfl hf (List.map_inj_left.1 rkName_1 op hm) rfl w (Laid.nil w)
  rcases List.mem_append.1 h with hm | h
  · exact reckonT_ok noNG (noHook_ok _) noOrc 100000 300 [] (cs := []) rfl hf (List.map_inj_left.1 rkName_2 op hm) rfl w (Laid.nil w)
  rcases List.mem_append.1 h with hm | h
  · exact reckonT_ok noNG (noHook_ok _) noOrc 100000 300 [] (cs := []) rfl hf (List.map_inj_left.1 rkName_3 op hm) rfl w (Laid.nil w)
  rcases List.mem_append.1 h with hm | h
  · exact reckonT_ok noNG (noHook_ok _) noOrc 100000 300 [] (cs := []) rfl hf (List.map_inj_left.1 rkName_4 op hm) rfl w (Laid.nil w)
  rcases List.mem_append.1 h with hm | h
  · exact reckonT_ok noNG (noHook_ok _) noOrc 100000 300 [] (cs := []) rfl hf (List.map_inj_left.1 rkName_5 op hm) rfl w (Laid.nil w)
  rcases List.mem_append.1 h with hm | h
  · exact reckonT_ok noNG (noHook_ok _) noOrc 100000 300 [] (cs := []) rfl hf (List.map_inj_left.1 rkName_6 op hm) rfl w (Laid.nil w)
  rcases List.mem_append.1 h with hm | h
  · exact reckonT_ok noNG (noHook_ok _) noOrc 100000 300 [] (cs := []) rfl hf (List.map_inj_left.1 rkName_7 op hm) rfl w (Laid.nil w)
  rcases List.mem_append.1 h with hm | h
  · exact reckonT_ok noNG (noHook_ok _) noOrc 100000 300 [] (cs := []) rfl hf (List.map_inj_left.1 rkName_8 op hm) rfl w (Laid.nil w)
  rcases List.mem_append.1 h with hm | h
  · exact reckonT_ok noNG (noHook_ok _) noOrc 100000 300 [] (cs := []) rfl hf (List.map_inj_left.1 rkName_9 op hm) rfl w (Laid.nil w)
  rcases List.mem_append.1 h with hm | h
  · exact reckonT_ok noNG (noHook_ok _) noOrc 100000 300 [] (cs := []) rfl hf (List.map_inj_left.1 rkName_10 op hm) rfl w (Laid.nil w)
  rcases List.mem_append.1 h with hm | h
  · exact reckonT_ok noNG (noHook_ok _) noOrc 100000 300 [] (cs := []) rfl hf (List.map_inj_left.1 rkName_11 op hm) rfl w (Laid.nil w)
  rcases List.mem_append.1 h with hm | h
  · exact reckonT_ok noNG (noHook_ok _) noOrc 100000 300 [] (cs := []) rfl hf (List.map_inj_left.1 rkName_12 op hm) rfl w (Laid.nil w)
  rcases List.mem_append.1 h with hm | h
  · exact reckonT_ok noNG (noHook_ok _) noOrc 100000 300 [] (cs := []) rfl hf (List.map_inj_left.1 rkName_13 op hm) rfl w (Laid.nil w)
  rcases List.mem_append.1 h with hm | h
  · exact reckonT_ok noNG (noHook_ok _) noOrc 100000 300 [] (cs := []) rfl hf (List.map_inj_left.1 rkName_14 op hm) rfl w (Laid.nil w)
  rcases List.mem_append.1 h with hm | h
  · exact reckonT_ok noNG (noHook_ok _) noOrc 100000 300 [] (cs := []) rfl hf (List.map_inj_left.1 rkName_15 op hm) rfl w (Laid.nil w)
  rcases List.mem_append.1 h with hm | h
  · exact reckonT_ok noNG (noHook_ok _) noOrc 100000 300 [] (cs := []) rfl hf (List.map_inj_left.1 rkName_16 op hm) rfl w (Laid.nil w)
  rcases List.mem_append.1 h with hm | h
  · exact reckonT_ok noNG (noHook_ok _) noOrc 100000 300 [] (cs := []) rfl hf (List.map_inj_left.1 rkName_17 op hm) rfl w (Laid.nil w)
  rcases List.mem_append.1 h with hm | h
  · exact reckonT_ok noNG (noHook_ok _) noOrc 100000 300 [] (cs := []) rfl hf (List.map_inj_left.1 rkName_18 op hm) rfl w (Laid.nil w)
  rcases List.mem_append.1 h with hm | h
  · exact reckonT_ok noNG (noHook_ok _) noOrc 100000 300 [] (cs := []) rfl hf (List.map_inj_left.1 rkName_19 op hm) rfl w (Laid.nil w)
  rcases List.mem_append.1 h with hm | h
  · exact reckonT_ok noNG (noHook_ok _) noOrc 100000 300 [] (cs := []) rfl hf (List.map_inj_left.1 rkName_20 op hm) rfl w (Laid.nil w)
  rcases List.mem_append.1 h with hm | h
  · exact reckonT_ok noNG (noHook_ok _) noOrc 100000 300 [] (cs := []) rfl hf (List.map_inj_left.1 rkName_21 op hm) rfl w (Laid.nil w)
  rcases List.mem_append.1 h with hm | h
  · exact reckonT_ok noNG (noHook_ok _) noOrc 100000 300 [] (cs := []) rfl hf (List.map_inj_left.1 rkName_22 op hm) rfl w (Laid.nil w)
  rcases List.mem_append.1 h with hm | h
  · exact reckonT_ok noNG (noHook_ok _) noOrc 100000 300 [] (cs := []) rfl hf (List.map_inj_left.1 rkName_23 op hm) rfl w (Laid.nil w)
  rcases List.mem_append.1 h with hm | h
  · exact reckonT_ok noNG (noHook_ok _) noOrc 100000 300 [] (cs := []) rfl hf (List.map_inj_left.1 rkName_24 op hm) rfl w (Laid.nil w)
  rcases List.mem_append.1 h with hm | h
  · exact reckonT_ok noNG (noHook_ok _) noOrc 100000 300 [] (cs := []) rfl hf (List.map_inj_left.1 rkName_25 op hm) rfl w (Laid.nil w)
  rcases List.mem_append.1 h with hm | h
  · exact reckonT_ok noNG (noHook_ok _) noOrc 100000 300 [] (cs := []) rfl hf (List.map_inj_left.1 rkName_26 op hm) rfl w (Laid.nil w)
  rcases List.mem_append.1 h with hm | h
  · exact reckonT_ok noNG (noHook_ok _) noOrc 100000 300 [] (cs := []) rfl hf (List.map_inj_left.1 rkName_27 op hm) rfl w (Laid.nil w)
  rcases List.mem_append.1 h with hm | h
  · exact reckonT_ok noNG (noHook_ok _) noOrc 100000 300 [] (cs := []) rfl hf (List.map_inj_left.1 rkName_28 op hm) rfl w (Laid.nil w)
  rcases List.mem_append.1 h with hm | h
  · exact reckonT_ok noNG (noHook_ok _) noOrc 100000 300 [] (cs := []) rfl hf (List.map_inj_left.1 rkName_29 op hm) rfl w (Laid.nil w)
  rcases List.mem_append.1 h with hm | h
  · exact reckonT_ok noNG (noHook_ok _) noOrc 100000 300 [] (cs := []) rfl hf (List.map_inj_left.1 rkName_30 op hm) rfl w (Laid.nil w)
  · exact reckonT_ok noNG (noHook_ok _) noOrc 100000 300 [] (cs := []) rfl hf (List.map_inj_left.1 rkName_31 op h) rfl w (Laid.nil w)
def hk_rkName : Hook := fun f args _ =>
  if Nat.beq f 152 then
    match args with
    | [.int .u8 op] => if u8in op then some (rkNameV op.toNat, []) else none
    | _ => none
  else none
theorem hk_rkName_ok : HookOk Tryz.prog hk_rkName := by
  intro f args h v cs hv hc wb k s w H
  unfold hk_rkName at hv
  split at hv
  · rename_i hf
    obtain rfl := Nat.eq_of_beq_eq_true hf
    split at hv
    · rename_i op
      split at hv
      · rename_i ho
        cases hv
        exact c_rkName op (u8in_mem ho) w
      · cases hv
    · cases hv
  · cases hv
end Go.Proofs.YthhgfjnnconocaaGreatDoor.Ex
end
section
namespace Go.Proofs.YthhgfjnnconocaaGreatDoor.Ex
set_option maxRecDepth 20000

open Go Go.RowKit
def eqM : Value → Value → Bool
  | .agg ⟨a⟩, .agg ⟨b⟩ => eqL a b
  | x, y => eqI x y
theorem eqM_ok {x y : Value} (h : eqM x y = true) : x = y := by
  unfold eqM at h
  split at h
  · rw [eqL_ok h]
  · exact eqI_ok h
def eqML : List Value → List Value → Bool
  | [], [] => true
  | x :: xs, y :: ys => eqM x y && eqML xs ys
  | _, _ => false
theorem eqML_ok : ∀ {xs ys : List Value}, eqML xs ys = true → xs = ys
  | [], [], _ => rfl
  | x :: xs, y :: ys, h => by
    simp only [eqML, Bool.and_eq_true] at h
    rw [eqM_ok h.1, eqML_ok h.2]
  | [], _ :: _, h => by cases h
  | _ :: _, [], h => by cases h
/-- Of one function: arguments, and what it comes to. -/
abbrev Tab := List (List Value × Value)
def tabFind : Tab → List Value → Option Value
  | [], _ => none
  | e :: r, args => if eqML args e.1 then some e.2 else tabFind r args
theorem tabFind_mem : ∀ {t : Tab} {args : List Value} {v : Value}, tabFind t args = some v → (args, v) ∈ t
  | [], _, _, h => by cases h
  | e :: r, args, v, h => by
    simp only [tabFind] at h
    split at h
    · rename_i he
      cases h
      rw [eqML_ok he]
      simp
    · exact List.mem_cons_of_mem _ (tabFind_mem h)
def TabOk (P : Program) (h0 : List AO) (g : FuncId) : Tab → Prop
  | [] => True
  | e :: r => (∀ w, Laid h0 w → Calls P g ⟨e.1⟩ w fun x w' => x = .returned e.2 ∧ Gr w w') ∧ TabOk P h0 g r
theorem TabOk.at {P : Program} {h0 : List AO} {g : FuncId} : ∀ {t : Tab}, TabOk P h0 g t → ∀ e ∈ t, ∀ w, Laid h0 w → Calls P g ⟨e.1⟩ w fun x w' => x = .returned e.2 ∧ Gr w w'
  | [], _, e, he => by cases he
  | a :: r, h, e, he => by
    rcases List.mem_cons.1 he with q | q
    · rw [q]; exact h.1
    · exact h.2.at e q
theorem TabOk.app {P : Program} {h0 : List AO} {g : FuncId} : ∀ {s t : Tab}, TabOk P h0 g s → TabOk P h0 g t → TabOk P h0 g (s ++ t)
  | [], _, _, h => h
  | _ :: _, _, a, h => ⟨a.1, a.2.app h⟩
def memoHook (h0 : List AO) (g : FuncId) (t : Tab) : Hook := fun f args h =>
  if Nat.beq f g then
    match tabFind t args with
    | some v => if hasG h0 h then some (v, []) else none
    | none => none
  else none
theorem memoHook_ok {P : Program} {h0 : List AO} (hf : h0.all (fun o => !o.live || (match o.es with | some e => Nat.beq e GM | none => false) && o.cs.all flat) = true) {g : FuncId} {t : Tab} (ht : TabOk P h0 g t) : HookOk P (memoHook h0 g t) := by
  intro f args h v cs hv _ wb k s w H
  unfold memoHook at hv
  split at hv
  · rename_i hc
    obtain rfl := Nat.eq_of_beq_eq_true hc
    split at hv
    · rename_i v' hm
      split at hv
      · rename_i hg
        cases hv
        exact ht.at _ (tabFind_mem hm) w (H.laid hg hf)
      · cases hv
    · cases hv
  · cases hv
def orHook (a b : Hook) : Hook := fun f args h =>
  match a f args h with
  | some r => some r
  | none => b f args h
theorem orHook_ok {P : Program} {a b : Hook} (ha : HookOk P a) (hb : HookOk P b) : HookOk P (orHook a b) := by
  intro f args h v cs hv
  unfold orHook at hv
  split at hv
  · rename_i r hr
    cases hv
    exact ha f args h v cs hr
  · exact hb f args h v cs hv
end Go.Proofs.YthhgfjnnconocaaGreatDoor.Ex
end
section
namespace Go.Proofs
open Go.Shelf
def Tryz.lays105_ren : Go.Shelf.Ren := ⟨fun | 105 => 55 | 212 => 99 | 99 => 100 | 165 => 101 | 166 => 102 | 170 => 103 | 169 => 104 | 263 => 123 | 264 => 124 | 206 => 125 | 240 => 126 | 241 => 127 | 276 => 160 | 277 => 161 | n => n, fun | 9 => 9 | 3 => 3 | 4 => 4 | 20 => 20 | 0 => 0 | 46 => 46 | 109 => 171 | 5 => 5 | 72 => 176 | 76 => 179 | 51 => 42 | 146 => 212 | 53 => 24 | 148 => 214 | 70 => 174 | 37 => 100 | 75 => 178 | 127 => 216 | 164 => 243 | 80 => 181 | n => n, fun | n => n⟩
theorem Tryz.lays105 : Go.Proofs.Lays.n105 Tryz.prog Tryz.lays105_ren := {
  mixed := by kernel_rfl
  f99 := Tryz.func100.trans (congrArg some (by kernel_rfl))
  f105 := Tryz.func55.trans (congrArg some (by kernel_rfl))
  f165 := Tryz.func101.trans (congrArg some (by kernel_rfl))
  f166 := Tryz.func102.trans (congrArg some (by kernel_rfl))
  f169 := Tryz.func104.trans (congrArg some (by kernel_rfl))
  f170 := Tryz.func103.trans (congrArg some (by kernel_rfl))
  f206 := Tryz.func125.trans (congrArg some (by kernel_rfl))
  f212 := Tryz.func99.trans (congrArg some (by kernel_rfl))
  f240 := Tryz.func126.trans (congrArg some (by kernel_rfl))
  f241 := Tryz.func127.trans (congrArg some (by kernel_rfl))
  f263 := Tryz.func123.trans (congrArg some (by kernel_rfl))
  f264 := Tryz.func124.trans (congrArg some (by kernel_rfl))
  f276 := Tryz.func160.trans (congrArg some (by kernel_rfl))
  f277 := Tryz.func161.trans (congrArg some (by kernel_rfl))
  t0 := Tryz.underlying0
  a0 := Tryz.isAgg0
  z0 := Tryz.sizeOf0
  v0 := Tryz.zeroValue0
  t3 := Tryz.underlying3
  a3 := Tryz.isAgg3
  z3 := Tryz.sizeOf3
  v3 := Tryz.zeroValue3
  t4 := Tryz.underlying4
  a4 := Tryz.isAgg4
  z4 := Tryz.sizeOf4
  v4 := Tryz.zeroValue4
  t5 := Tryz.underlying5
  a5 := Tryz.isAgg5
  z5 := Tryz.sizeOf5
  v5 := Tryz.zeroValue5
  t9 := Tryz.underlying9
  a9 := Tryz.isAgg9
  z9 := Tryz.sizeOf9
  v9 := Tryz.zeroValue9
  t20 := Tryz.underlying20
  a20 := Tryz.isAgg20
  z20 := Tryz.sizeOf20
  v20 := Tryz.zeroValue20
  t37 := Tryz.underlying100
  a37 := Tryz.isAgg100
  z37 := Tryz.sizeOf100
  v37 := Tryz.zeroValue100
  t46 := Tryz.underlying46
  a46 := Tryz.isAgg46
  z46 := Tryz.sizeOf46
  v46 := Tryz.zeroValue46
  t51 := Tryz.underlying42
  a51 := Tryz.isAgg42
  z51 := Tryz.sizeOf42
  v51 := Tryz.zeroValue42
  t53 := Tryz.underlying24
  a53 := Tryz.isAgg24
  z53 := Tryz.sizeOf24
  v53 := Tryz.zeroValue24
  t70 := Tryz.underlying174
  a70 := Tryz.isAgg174
  z70 := Tryz.sizeOf174
  v70 := Tryz.zeroValue174
  t72 := Tryz.underlying176
  a72 := Tryz.isAgg176
  z72 := Tryz.sizeOf176
  v72 := Tryz.zeroValue176
  t75 := Tryz.underlying178
  a75 := Tryz.isAgg178
  z75 := Tryz.sizeOf178
  v75 := Tryz.zeroValue178
  t76 := Tryz.underlying179
  a76 := Tryz.isAgg179
  z76 := Tryz.sizeOf179
  v76 := Tryz.zeroValue179
  t109 := Tryz.underlying171
  a109 := Tryz.isAgg171
  z109 := Tryz.sizeOf171
  v109 := Tryz.zeroValue171
  t127 := Tryz.underlying216
  a127 := Tryz.isAgg216
  z127 := Tryz.sizeOf216
  v127 := Tryz.zeroValue216
  t146 := Tryz.underlying212
  a146 := Tryz.isAgg212
  z146 := Tryz.sizeOf212
  v146 := Tryz.zeroValue212
  t148 := Tryz.underlying214
  a148 := Tryz.isAgg214
  z148 := Tryz.sizeOf214
  v148 := Tryz.zeroValue214
  t164 := Tryz.underlying243
  a164 := Tryz.isAgg243
  z164 := Tryz.sizeOf243
  v164 := Tryz.zeroValue243 }
theorem Tryz.Builder_Extra_105 : Builder.Extra Tryz.prog Tryz.lays105_ren := {
  sizeBuilder := by kernel_rfl
  liesBuilder := by kernel_rfl
  t5 := Tryz.underlying5
  a5 := Tryz.isAgg5
  z5 := Tryz.sizeOf5
  v5 := Tryz.zeroValue5
  infoByte := by kernel_rfl
  cellsByte := by kernel_rfl
  sizeByte := by kernel_rfl
  neB5 := by decide }
open Go.RowKit Go.Lib in
/-- THE MAIN CASE: at least two copies of a string that is not empty. (LAID: no walk: one application.) -/
theorem Tryz.strings_Repeat_main (s : ByteArray) (c : Nat) (w : World) (hc2 : 2 ≤ c) (hc : c ≤ 9223372036854775807) (hlen : s.size * c ≤ 140737488355328) (h0 : 0 < s.size) :
    Calls Tryz.prog 55 #[.string s, .int .i64 c] w fun e w' => e = .returned (.string ⟨(Lib.repeatL s.data.toList c).toArray⟩) ∧ Below w.heap.size w w' := Any.strings_Repeat_main Tryz.lays105 Tryz.Builder_Extra_105 s c w hc2 hc hlen h0
open Go.RowKit Go.Lib in
theorem Tryz.strings_Repeat_zero (s : ByteArray) (w : World) :
    Calls Tryz.prog 55 #[.string s, .int .i64 0] w fun e w' => e = .returned (.string ⟨#[]⟩) ∧ w' = w := Any.strings_Repeat_zero Tryz.lays105 s w
open Go.RowKit Go.Lib in
theorem Tryz.strings_Repeat_one (s : ByteArray) (w : World) :
    Calls Tryz.prog 55 #[.string s, .int .i64 1] w fun e w' => e = .returned (.string s) ∧ w' = w := Any.strings_Repeat_one Tryz.lays105 s w
open Go.RowKit Go.Lib in
/-- Copies of the empty string. (LAID: no walk: one application.) -/
theorem Tryz.strings_Repeat_empty (s : ByteArray) (c : Nat) (w : World) (hc2 : 2 ≤ c) (hc : c ≤ 9223372036854775807) (h0 : s.size = 0) :
    Calls Tryz.prog 55 #[.string s, .int .i64 c] w fun e w' => e = .returned (.string ⟨#[]⟩) ∧ w' = w := Any.strings_Repeat_empty Tryz.lays105 s c w hc2 hc h0
open Go.RowKit Go.Lib in
/-- count < 0: "It panics if count is negative". (LAID: no walk: one application.) -/
theorem Tryz.strings_Repeat_negative (s : ByteArray) (c : Int) (w : World) (hc : c < 0) :
    Calls Tryz.prog 55 #[.string s, .int .i64 c] w fun e w' => e = .panicked [{ v := repeatPanic Tryz.lays105_ren "strings: negative Repeat count", recovered := false }] ∧ w' = w := Any.strings_Repeat_negative Tryz.lays105 s c w hc
open Go.RowKit Go.Lib in
/-- len(s) * count is no int: ".. or if the result of (len(s) * count) overflows". (LAID: no walk: one application.) -/
theorem Tryz.strings_Repeat_overflow (s : ByteArray) (c : Nat) (w : World) (hc : c ≤ 9223372036854775807) (hs : s.size ≤ 9223372036854775807) (hbig : 9223372036854775807 < s.size * c) :
    Calls Tryz.prog 55 #[.string s, .int .i64 c] w fun e w' => e = .panicked [{ v := repeatPanic Tryz.lays105_ren "strings: Repeat output length overflow", recovered := false }] ∧ w' = w := Any.strings_Repeat_overflow Tryz.lays105 s c w hc hs hbig
open Go.RowKit Go.Lib in
/-- **strings.Repeat: count ≥ 0, the result within one allocation: count copies of s.** (LAID: no walk: one application.) -/
theorem Tryz.strings_Repeat (s : ByteArray) (c : Nat) (w : World) (hc : c ≤ 9223372036854775807) (hlen : s.size * c ≤ 140737488355328) :
    Calls Tryz.prog 55 #[.string s, .int .i64 c] w fun e w' => e = .returned (.string ⟨(Lib.repeatL s.data.toList c).toArray⟩) ∧ Below w.heap.size w w' := Any.strings_Repeat Tryz.lays105 Tryz.Builder_Extra_105 s c w hc hlen
end Go.Proofs
end
section
namespace Go.Proofs.YthhgfjnnconocaaGreatDoor.Ex
set_option maxRecDepth 20000

open Go Go.RowKit

theorem Gr.of_below {w w' : World} (h : Below w.heap.size w w') : Gr w w' := ⟨⟨h.os, h.output⟩, h.block, h.size⟩
def repHook : Hook := fun f args _ =>
  if Nat.beq f 55 then
    match args with
    | [.string s, .int .i64 n] => some (.string ⟨(Lib.repeatL s.data.toList n.toNat).toArray⟩, [(b2i (decide (0 ≤ n) && decide (n ≤ 100000) && decide (s.size ≤ 100000)), 1)])
    | _ => none
  else none
theorem repHook_ok : HookOk Tryz.prog repHook := by
  intro f args h0 v cs h hcs _ _ _ w _
  unfold repHook at h
  split at h
  · rename_i hf
    obtain rfl := Nat.eq_of_beq_eq_true hf
    split at h
    · rename_i s n
      cases h
      have hc : (decide (0 ≤ n) && decide (n ≤ 100000) && decide (s.size ≤ 100000)) = true := b2i_inj (hcs _ (List.mem_singleton.2 rfl))
      simp only [Bool.and_eq_true, decide_eq_true_eq] at hc
      have e : n = ((n.toNat : Nat) : Int) := by omega
      have hmul : s.size * n.toNat ≤ 100000 * 100000 := Nat.mul_le_mul hc.2 (by omega)
      have := Tryz.strings_Repeat s n.toNat w (by omega) (by omega)
      rw [← e] at this
      exact this.mono fun e w' h => ⟨h.1, Gr.of_below h.2⟩
    · cases h
  · cases h
end Go.Proofs.YthhgfjnnconocaaGreatDoor.Ex
end
section
namespace Go.Proofs.YthhgfjnnconocaaGreatDoor.Ex
set_option maxRecDepth 20000

open Go Go.RowKit
def rkHook : Hook := orHook hk_rkSize (orHook hk_rkLoad (orHook hk_rkStore (orHook hk_rkStoreReg (orHook hk_rkReg (orHook hk_rkArith (orHook hk_rkJump (orHook hk_rkCode (orHook hk_rkName (repHook)))))))))
theorem rkHook_ok : HookOk Tryz.prog rkHook := orHook_ok hk_rkSize_ok (orHook_ok hk_rkLoad_ok (orHook_ok hk_rkStore_ok (orHook_ok hk_rkStoreReg_ok (orHook_ok hk_rkReg_ok (orHook_ok hk_rkArith_ok (orHook_ok hk_rkJump_ok (orHook_ok hk_rkCode_ok (orHook_ok hk_rkName_ok (repHook_ok)))))))))
end Go.Proofs.YthhgfjnnconocaaGreatDoor.Ex
end
section
namespace Go.Proofs.YthhgfjnnconocaaGreatDoor.Ex
set_option maxRecDepth 20000

open Go Go.RowKit
set_option maxHeartbeats 0 in
set_option maxRecDepth 1000000 in
theorem rkNum_0 (w : World) : Calls Tryz.prog 144 #[.int .i64 0] w fun e w' => e = .returned (.string ⟨#[48]⟩) ∧ Gr w w' := reckon_ok noNG 100000 300 rfl rfl (by kernel_rfl) w
set_option maxHeartbeats 0 in
set_option maxRecDepth 1000000 in
theorem rkNum_1 (w : World) : Calls Tryz.prog 144 #[.int .i64 1] w fun e w' => e = .returned (.string ⟨#[49]⟩) ∧ Gr w w' := reckon_ok noNG 100000 300 rfl rfl (by kernel_rfl) w
set_option maxHeartbeats 0 in
set_option maxRecDepth 1000000 in
theorem rkNum_2 (w : World) : Calls Tryz.prog 144 #[.int .i64 2] w fun e w' => e = .returned (.string ⟨#[50]⟩) ∧ Gr w w' := reckon_ok noNG 100000 300 rfl rfl (by kernel_rfl) w
set_option maxHeartbeats 0 in
set_option maxRecDepth 1000000 in
theorem rkNum_4 (w : World) : Calls Tryz.prog 144 #[.int .i64 4] w fun e w' => e = .returned (.string ⟨#[52]⟩) ∧ Gr w w' := reckon_ok noNG 100000 300 rfl rfl (by kernel_rfl) w
set_option maxHeartbeats 0 in
set_option maxRecDepth 1000000 in
theorem rkNum_8 (w : World) : Calls Tryz.prog 144 #[.int .i64 8] w fun e w' => e = .returned (.string ⟨#[56]⟩) ∧ Gr w w' := reckon_ok noNG 100000 300 rfl rfl (by kernel_rfl) w
def hk_rkNumber : Hook := fun f args _ =>
  if Nat.beq f 144 then
    match args with
    | [.int .i64 0] => some (.string ⟨#[48]⟩, [])
    | [.int .i64 1] => some (.string ⟨#[49]⟩, [])
    | [.int .i64 2] => some (.string ⟨#[50]⟩, [])
    | [.int .i64 4] => some (.string ⟨#[52]⟩, [])
    | [.int .i64 8] => some (.string ⟨#[56]⟩, [])
    | _ => none
  else none
theorem hk_rkNumber_ok : HookOk Tryz.prog hk_rkNumber := by
  intro f args h v cs hv hc wb k s w H
  unfold hk_rkNumber at hv
  split at hv
  · rename_i hf
    obtain rfl := Nat.eq_of_beq_eq_true hf
    split at hv
    · cases hv; exact rkNum_0 w
    · cases hv; exact rkNum_1 w
    · cases hv; exact rkNum_2 w
    · cases hv; exact rkNum_4 w
    · cases hv; exact rkNum_8 w
    · cases hv
  · cases hv
def rkHook2 : Hook := orHook hk_rkNumber rkHook
theorem rkHook2_ok : HookOk Tryz.prog rkHook2 := orHook_ok hk_rkNumber_ok rkHook_ok
end Go.Proofs.YthhgfjnnconocaaGreatDoor.Ex
end
section
namespace Go.Proofs.YthhgfjnnconocaaGreatDoor.Ex
set_option maxRecDepth 20000

open Go Go.RowKit

/-- A memory has, at the same places, what a smaller one tells of. -/
def eqEs : Option Nat → Option Nat → Bool
  | none, none => true
  | some a, some b => Nat.beq a b
  | _, _ => false
theorem eqEs_ok {a b : Option Nat} (h : eqEs a b = true) : a = b := by
  cases a <;> cases b <;> first | rfl | (cases h; done) | (rw [Nat.eq_of_beq_eq_true h])
def subH : List AO → List AO → Bool
  | [], _ => true
  | _ :: _, [] => false
  | o :: l, p :: h => (!o.live || (p.live && eqEs p.es o.es && eqL p.cs o.cs)) && subH l h
theorem subH_at : ∀ {h0 h : List AO}, subH h0 h = true → ∀ (g : Nat) (o : AO), h0[g]? = some o → o.live = true → h[g]? = some o
  | [], _, _, g, o, ho, _ => by simp at ho
  | _ :: _, [], h, _, _, _, _ => by cases h
  | o :: l, p :: h, hh, g, q, hq, hl => by
    simp only [subH, Bool.and_eq_true] at hh
    cases g with
    | succ g => simpa using subH_at hh.2 g q (by simpa using hq) hl
    | zero =>
      simp at hq
      subst hq
      have h1 := hh.1
      simp only [hl, Bool.not_true, Bool.false_or, Bool.and_eq_true] at h1
      have e1 := eqEs_ok h1.1.2
      have e2 := eqL_ok h1.2
      obtain ⟨pl, pe, pc⟩ := p
      obtain ⟨ol, oe, oc⟩ := o
      simp only at h1 hl e1 e2
      rw [List.getElem?_cons_zero, hl, h1.1.1, e1, e2]
theorem HR.sub {wb : Wb} {k : Nat} {s : Ren} {h h0 : List AO} {w : World} (H : HR wb k s h w) (hs : subH h0 h = true) (hl : h.length = h0.length) : HR wb k s h0 w :=
  ⟨H.grown, by rw [← hl]; exact H.kle, fun i hi => H.dom i (by rw [hl]; exact hi), H.plc, fun i o ho hv => H.obj i o (subH_at hs i o ho hv) hv,
    fun i j a c p q hi hj ha hc => H.sep i j a c p q (subH_at hs i a hi ha) (subH_at hs j c hj hc) ha hc, H.gl⟩
end Go.Proofs.YthhgfjnnconocaaGreatDoor.Ex
end
section
namespace Go.Proofs.YthhgfjnnconocaaGreatDoor.Ex
set_option maxRecDepth 20000

open Go Go.RowKit

def iterB (body : St → Option (Exit × St)) : Nat → St → Option St
  | 0, x => some x
  | n + 1, x =>
    match body x with
    | some (.normal, x') => iterB body n x'
    | _ => none
section
variable {P : Program}
theorem iterB_low {body : St → Option (Exit × St)} {k : Nat} (hl : ∀ (x x' : St) (e : Exit), body x = some (e, x') → Bnd k x'.m → Bnd k x.m) :
    ∀ (n : Nat) (x x' : St), iterB body n x = some x' → Bnd k x'.m → Bnd k x.m
  | 0, x, x', hr, hm => by simp [iterB] at hr; subst hr; exact hm
  | n + 1, x, x', hr, hm => by
    simp only [iterB] at hr
    split at hr
    · rename_i x1 h1
      exact hl x x1 .normal h1 (iterB_low hl n x1 x' hr hm)
    · cases hr
theorem iterB_ok {body : St → Option (Exit × St)} {c : Code}
    (hb : ∀ (wb : Wb) (k : Nat) (s : Ren) (x x' : St) (e : Exit) (a : Act) (w : World), body x = some (e, x') → Bnd k x'.m → SR wb k s x a w → c.wp P (Post wb k s x' e) a w)
    (wb : Wb) (k : Nat) (hl : ∀ (x x' : St) (e : Exit), body x = some (e, x') → Bnd k x'.m → Bnd k x.m) :
    ∀ (n : Nat) (x x' : St), iterB body n x = some x' → Bnd k x'.m → ∀ (s : Ren) (a : Act) (w : World), SR wb k s x a w → ∀ (N : Nat) (Q : Exit → Act → World → Prop),
      (∀ s' a' w', Le s s' → SR wb k s' x' a' w' → Code.rounds P c Q N a' w') → Code.rounds P c Q (n + N) a w
  | 0, x, x', hr, hm => by
    simp [iterB] at hr
    subst hr
    intro s a w H N Q hQ
    rw [Nat.zero_add]
    exact hQ s a w (Le.refl s) H
  | n + 1, x, x', hr, hm => by
    simp only [iterB] at hr
    split at hr
    · rename_i x1 h1
      have g1 := iterB_low hl n x1 x' hr hm
      intro s a w H N Q hQ
      rw [show n + 1 + N = (n + N) + 1 by omega, rounds_succ]
      refine Code.wp_mono ?_ (hb wb k s x x1 .normal a w h1 g1 H)
      rintro e' a' w' ⟨rfl, s', hle, H'⟩
      exact iterB_ok hb wb k hl n x1 x' hr hm s' a' w' H' N Q fun s'' a'' w'' hle' H'' => hQ s'' a'' w'' (hle.trans hle') H''
    · cases hr
theorem rounds_le {c : Code} {wb : Wb} {k : Nat} {s t : Ren} (h : Le s t) {x : St} {e : Exit} : ∀ (n : Nat) (a : Act) (w : World), Code.rounds P c (Post wb k t x e) n a w → Code.rounds P c (Post wb k s x e) n a w := by
  intro n
  induction n with
  | zero => intro a w h; exact h
  | succ n ih =>
    intro a w h0
    rw [rounds_succ] at h0 ⊢
    refine Code.wp_mono (fun e' a' w' hp => ?_) h0
    cases e' <;> first | exact ih _ _ hp | exact post_le h hp
/-- So many rounds lead from a state to another one. -/
def Hop (P : Program) (c : Code) (n : Nat) (t : List Value) (h : List AO) (t' : List Value) (h' : List AO) (mE : Mk) : Prop :=
  ∀ (wb : Wb) (k : Nat), Bnd k mE → ∀ (s : Ren) (m : Mk) (a : Act) (w : World), SR wb k s ⟨t, h, m⟩ a w → ∀ (N : Nat) (Q : Exit → Act → World → Prop),
    (∀ s' a' w', Le s s' → SR wb k s' ⟨t', h', m⟩ a' w' → Code.rounds P c Q N a' w') → Code.rounds P c Q (n + N) a w
/-- Within so many rounds the loop ends. -/
def Stop (P : Program) (c : Code) (n : Nat) (t : List Value) (h : List AO) (e : Exit) (t' : List Value) (h' : List AO) (mE : Mk) : Prop :=
  ∀ (wb : Wb) (k : Nat), Bnd k mE → ∀ (s : Ren) (m : Mk) (a : Act) (w : World), SR wb k s ⟨t, h, m⟩ a w → ∀ (m' : Mk), Code.rounds P c (Post wb k s ⟨t', h', m'⟩ e) n a w
noncomputable def bodyE (P : Program) (hk : Hook3) (orc : Orc) (fid : FuncId) (c : Code) : St → Option (Exit × St) := exG P (aOp P) (drawE P) hk orc accQ noLoop 100000 300 fid c
theorem bodyE_ok (hng : NoNG P) {hk : Hook3} (hhk : HookOk3 P hk) (orc : Orc) (fid : FuncId) (c : Code) (wb : Wb) (k : Nat) (s : Ren) (x x' : St) (e : Exit) (a : Act) (w : World) (h : bodyE P hk orc fid c x = some (e, x')) (hm : Bnd k x'.m) (H : SR wb k s x a w) : c.wp P (Post wb k s x' e) a w :=
  exG_run accQ_eq hng (aOp_ok P hng) (drawE_ok P) (drawE_low P) hhk noLoop_low (noLoop_ok P) 100000 300 wb k s fid c x x' e a w (fun c' _ x x' e h => by cases h) h hm H
theorem bodyE_low {hk : Hook3} (orc : Orc) (fid : FuncId) (c : Code) (k : Nat) (x x' : St) (e : Exit) (h : bodyE P hk orc fid c x = some (e, x')) (hm : Bnd k x'.m) : Bnd k x.m :=
  exG_low (drawE_low P) noLoop_low 100000 k 300 fid c x x' e h hm
theorem stop_ok (hng : NoNG P) {hk : Hook3} (hhk : HookOk3 P hk) {orc : Orc} {fid : FuncId} {c : Code} {n : Nat} {t t' : List Value} {h h' : List AO} {e : Exit} {mE : Mk} (hr : loopN (bodyE P hk orc fid c) n ⟨t, h, (none, [])⟩ = some (e, ⟨t', h', mE⟩)) : Stop P c n t h e t' h' mE := by
  intro wb k hm s m a w H m'
  have h1 := loopN_ok (bodyE_ok hng hhk orc fid c) wb k (bodyE_low orc fid c k) n ⟨t, h, (none, [])⟩ ⟨t', h', mE⟩ e hr hm s a w ⟨H.t, H.d, H.h⟩
  have mono : ∀ (n : Nat) (a : Act) (w : World), Code.rounds P c (Post wb k s ⟨t', h', mE⟩ e) n a w → Code.rounds P c (Post wb k s ⟨t', h', m'⟩ e) n a w := by
    intro n
    induction n with
    | zero => intro a w h; exact h
    | succ n ih =>
      intro a w h0
      rw [rounds_succ] at h0 ⊢
      refine Code.wp_mono (fun e' a' w' hp => ?_) h0
      cases e' <;> first | exact ih _ _ hp | exact ⟨hp.1, let ⟨s', h1, h2⟩ := hp.2; ⟨s', h1, ⟨h2.t, h2.d, h2.h⟩⟩⟩
  exact mono n a w h1
theorem Hop.stop {c : Code} {n N : Nat} {t t1 t2 : List Value} {h h1 h2 : List AO} {e : Exit} {m1 m2 : Mk} (a : Hop P c n t h t1 h1 m1) (b : Stop P c N t1 h1 e t2 h2 m2) : Stop P c (n + N) t h e t2 h2 (low m1 m2) := by
  intro wb k hm s m act w H m'
  refine a wb k (bnd_low hm).1 s m act w H N _ fun s' a' w' hle H' => ?_
  exact rounds_le hle N a' w' (b wb k (bnd_low hm).2 s' m a' w' H' m')
/-- A loop, from a state on to its end. -/
structure LoopT where
  f : FuncId
  t : List Value
  h : List AO
  e : Exit
  t' : List Value
  h' : List AO
  m : Mk
def eqAll (p : Value → Value → Bool) : List Value → List Value → Bool
  | [], [] => true
  | x :: xs, y :: ys => p x y && eqAll p xs ys
  | _, _ => false
theorem eqAll_ok {p : Value → Value → Bool} (hp : ∀ x y, p x y = true → x = y) : ∀ {xs ys : List Value}, eqAll p xs ys = true → xs = ys
  | [], [], _ => rfl
  | x :: xs, y :: ys, h => by
    simp only [eqAll, Bool.and_eq_true] at h
    rw [hp x y h.1, eqAll_ok hp h.2]
  | [], _ :: _, h => by cases h
  | _ :: _, [], h => by cases h
def eqD2 : Nat → Value → Value → Bool
  | 0, _, _ => false
  | n + 1, .agg ⟨a⟩, .agg ⟨b⟩ => eqAll (eqD2 n) a b
  | n + 1, .tuple ⟨a⟩, .tuple ⟨b⟩ => eqAll (eqD2 n) a b
  | _ + 1, x, y => eqI x y
theorem eqD2_ok : ∀ (n : Nat) (x y : Value), eqD2 n x y = true → x = y
  | 0, x, y, h => by simp [eqD2] at h
  | n + 1, x, y, h => by
    unfold eqD2 at h
    split at h
    · cases ‹_ + 1 = 0›
    · cases ‹_ + 1 = _ + 1›; rw [eqAll_ok (eqD2_ok _) h]
    · cases ‹_ + 1 = _ + 1›; rw [eqAll_ok (eqD2_ok _) h]
    · exact eqI_ok h
def eqHp : List AO → List AO → Bool
  | [], [] => true
  | o :: l, p :: h => (o.live == p.live && (eqEs o.es p.es && eqAll (eqD2 4) o.cs p.cs)) && eqHp l h
  | _, _ => false
theorem eqHp_ok : ∀ {l h : List AO}, eqHp l h = true → l = h
  | [], [], _ => rfl
  | o :: l, p :: h, hh => by
    simp only [eqHp, Bool.and_eq_true] at hh
    obtain ⟨⟨h1, h2, h3⟩, h4⟩ := hh
    obtain ⟨ol, oe, oc⟩ := o
    obtain ⟨pl, pe, pc⟩ := p
    simp only at h1 h2 h3
    rw [eq_of_beq h1, eqEs_ok h2, eqAll_ok (eqD2_ok 4) h3, eqHp_ok h4]
  | [], _ :: _, h => by cases h
  | _ :: _, [], h => by cases h
def LoopE.is (e : LoopT) (fid : FuncId) (x : St) : Bool := Nat.beq fid e.f && (Nat.beq x.h.length e.h.length && (eqAll (eqD2 4) x.t e.t && eqHp x.h e.h))
def loopHook : List LoopT → LoopHook
  | [] => fun _ _ _ => none
  | e :: l => fun fid c x => if LoopE.is e fid x then some (e.e, ⟨e.t', e.h', low x.m e.m⟩) else loopHook l fid c x
def LoopTOk (P : Program) (e : LoopT) : Prop := ∀ (fn : Func) (c : Code), P.funcs[e.f]? = some fn → fn.body = some c → ∀ c' ∈ loopsIn c,
  ∀ (wb : Wb) (k : Nat), Bnd k e.m → ∀ (s : Ren) (m m' : Mk) (a : Act) (w : World), SR wb k s ⟨e.t, e.h, m⟩ a w → (Code.loop c').wp P (Post wb k s ⟨e.t', e.h', m'⟩ e.e) a w
theorem loopHook_low : ∀ (l : List LoopT), LoopLow (loopHook l)
  | [] => by intro f c x x' e h; cases h
  | q :: l => by
    intro f c x x' e h k hm
    unfold loopHook at h
    split at h
    · cases h
      exact (bnd_low hm).1
    · exact loopHook_low l f c x x' e h k hm
theorem loopHook_ok : ∀ {l : List LoopT}, (∀ e ∈ l, LoopTOk P e) → LoopsOk P (loopHook l)
  | [], _ => by intro f fn c _ _ c' _ x x' e h; cases h
  | q :: l, hq => by
    intro f fn c hf hb c' hc x x' e h wb k s a w hm H
    unfold loopHook at h
    split at h
    · rename_i hi
      cases h
      unfold LoopE.is at hi
      simp only [Bool.and_eq_true] at hi
      obtain ⟨h1, _, h3, h4⟩ := hi
      obtain rfl := Nat.eq_of_beq_eq_true h1
      obtain ⟨xt, xh, xm⟩ := x
      obtain rfl := eqAll_ok (eqD2_ok 4) h3
      obtain rfl := eqHp_ok h4
      exact hq q List.mem_cons_self fn c hf hb c' hc wb k (bnd_low hm).2 s xm (low xm q.m) a w H
    · exact loopHook_ok (fun e he => hq e (List.mem_cons_of_mem _ he)) f fn c hf hb c' hc x x' e h wb k s a w hm H
/-- The loop of a function that has one. -/
def theLoop (P : Program) (f : FuncId) : Code :=
  match P.funcs[f]? with
  | some fn =>
    match fn.body with
    | some c =>
      match loopsIn c with
      | [c'] => c'
      | _ => .skip
    | none => .skip
  | none => .skip
def oneLoop (P : Program) (f : FuncId) : Bool :=
  match P.funcs[f]? with
  | some fn =>
    match fn.body with
    | some c =>
      match loopsIn c with
      | [_] => true
      | _ => false
    | none => false
  | none => false
theorem loopT_ok {e : LoopT} {n : Nat} (h1 : oneLoop P e.f = true) (hs : Stop P (theLoop P e.f) n e.t e.h e.e e.t' e.h' e.m) : LoopTOk P e := by
  intro fn c hf hb c' hc wb k hm s m m' a w H
  unfold oneLoop at h1
  unfold theLoop at hs
  rw [hf] at h1 hs
  simp only [hb] at h1 hs
  split at h1
  · rename_i c0 hl
    rw [hl] at hc hs
    rw [List.mem_singleton.1 hc]
    exact wp_loop_rounds n (hs wb k hm s m a w H m')
  · cases h1
/-- The blocks that a call of flat arguments lays, with loops that are told. -/
noncomputable def laysL (P : Program) (hk : Hook3) (orc : Orc) (lh : LoopHook) (L f : Nat) (q : Nat) (g : FuncId) (args : List Value) : Option (Value × List AO × Cs) :=
  match callA P ⟨exG P (aOp P) (drawE P) hk orc accQ lh L f, hk, fun _ _ => none, accQ⟩ g args (List.replicate q dead) with
  | some (v, h, m) =>
    if quietB q m.1 && (refF (fun x => decide (q ≤ x) && decide (x < q + (h.drop q).length)) 6 v && (h.drop q).all (refO fun x => decide (q ≤ x) && decide (x < q + (h.drop q).length))) then some (v, h.drop q, m.2) else none
  | none => none
theorem laysL_ok (hng : NoNG P) {hk : Hook3} (hhk : HookOk3 P hk) {lh : LoopHook} (hll : LoopLow lh) (hlo : LoopsOk P lh) {orc : Orc} {L f q : Nat} {g : FuncId} {args : List Value} {v : Value} {new : List AO} {cs : Cs} (ha : args.all flat = true) (hr : laysL P hk orc lh L f q g args = some (v, new, cs)) (hc : ∀ c ∈ cs, c.1 = c.2)
    {wb : Wb} {k : Nat} {s : Ren} {h : List AO} {w : World} (hq : h.length = q) (H : HR wb k s h w) : Calls P g ⟨args⟩ w (CallPost wb k s v (h ++ new)) := by
  unfold laysL at hr
  split at hr
  · rename_i v1 h1 m hca
    split at hr
    · rename_i hcond
      cases hr
      simp only [Bool.and_eq_true] at hcond
      obtain ⟨hq3, hrv, hro⟩ := hcond
      have HP := ((HR.init w).pad q).here
      rw [List.nil_append, List.length_replicate] at HP
      refine (callA_ok (exG_ok accQ_eq hng (aOp_ok P hng) (drawE_ok P) (drawE_low P) hhk hll hlo L f _) hca (wb := w) (k := q) ⟨quietB_ok hq3, hc⟩ (LR.ofFlat ha) HP).mono ?_
      rintro e w' ⟨s', v', rfl, _, H', hvr⟩
      have HD := H.pad (h1.drop q).length
      have hr1 : (h1.drop q).all (refO fun x => (fun _ => false) x || (decide (q ≤ x) && decide (x < q + (h1.drop q).length))) = true := by simpa using hro
      obtain ⟨H2, hle2, hok⟩ := HD.layNew (q := q) (bs := h1.drop q) (by simp only [List.length_append, List.length_replicate]; omega) (by have := H.kle; omega) (fun x hx1 _ => H.dom x (by omega))
        H' (fun x o ho => by rw [List.getElem?_drop] at ho; exact ho) (old := fun _ => false) (fun x hx => by cases hx) (fun x hx => by cases hx) hr1
      subst hq
      rw [layL_end] at H2
      refine ⟨_, v', rfl, hle2, H2, hvr.refs hok 6 ?_⟩
      simpa using hrv
    · cases hr
  · cases hr
end
end Go.Proofs.YthhgfjnnconocaaGreatDoor.Ex
end
section
namespace Go.Proofs.YthhgfjnnconocaaGreatDoor.Ex
set_option maxRecDepth 20000

open Go Go.RowKit

def inter : Cs → List Int
  | [] => []
  | c :: l => c.1 :: c.2 :: inter l
theorem inter_inj : ∀ {a b : Cs}, inter a = inter b → a = b
  | [], [], _ => rfl
  | c :: a, d :: b, h => by
    simp only [inter, List.cons.injEq] at h
    obtain ⟨h1, h2, h3⟩ := h
    rw [inter_inj h3, Prod.ext h1 h2]
  | [], _ :: _, h => by simp [inter] at h
  | _ :: _, [], h => by simp [inter] at h
end Go.Proofs.YthhgfjnnconocaaGreatDoor.Ex
end
section
namespace Go.Proofs.YthhgfjnnconocaaGreatDoor.Ex
set_option maxRecDepth 20000

open Go Go.RowKit
set_option linter.unusedVariables false

/-- So many times the same, and what stands behind. -/
noncomputable def rp (n : Nat) (x : Value) (l : List Value) : List Value := Nat.rec (motive := fun _ => List Value) l (fun _ ih => x :: ih) n
noncomputable def rpO (n : Nat) (x : AO) (l : List AO) : List AO := Nat.rec (motive := fun _ => List AO) l (fun _ ih => x :: ih) n
/-- A value with its blocks told by other numbers. -/
def reV (f : Nat → Nat) : Nat → Value → Value
  | 0, v => v
  | n + 1, v =>
    match v with
    | .pointer (some a) => .pointer (some ⟨f a.block, a.off, a.spot⟩)
    | .slice (some a) l c => .slice (some ⟨f a.block, a.off, a.spot⟩) l c
    | .map (some i) => .map (some (f i))
    | .agg cs => .agg ⟨cs.toList.map (reV f n)⟩
    | .tuple cs => .tuple ⟨cs.toList.map (reV f n)⟩
    | .iface t x => .iface t (reV f n x)
    | .func (.func g) a b => .func (.func g) ⟨a.toList.map (reV f n)⟩ ⟨b.toList.map (reV f n)⟩
    | v => v
theorem LR.unmap {s t : Ren} {g : Value → Value} {ok : Value → Bool} (hg : ∀ {v v' : Value}, VR s (g v) v' → ok v = true → VR t v v') {xs ys : List Value} (h : LR s (xs.map g) ys) (ho : xs.all ok = true) : LR t xs ys := by
  refine ⟨by simpa using h.1, fun i x y hx hy => hg (h.2 i (g x) y (by rw [List.getElem?_map, hx]; rfl) hy) (all_get ho hx)⟩
theorem VR.ren {s t : Ren} {f : Nat → Nat} {ok : Nat → Bool} (hst : ∀ j p, ok j = true → s (f j) = some p → t j = some p) : ∀ (n : Nat) {v v' : Value}, VR s (reV f n v) v' → refF ok n v = true → VR t v v'
  | 0, v, v', h, hr => by
    have hf : flat v = true := flat_of_scal hr
    have h' : VR s v v' := h
    rw [h'.eq_of_flat hf]
    exact .same hf
  | n + 1, v, v', h, hr => by
    have ih := fun {v v' : Value} => VR.ren hst n (v := v) (v' := v')
    have plain : ∀ u : Value, VR s u v' → scal u = true → VR t u v' := fun u hu hs => by
      have hf := flat_of_scal hs
      rw [hu.eq_of_flat hf]
      exact .same hf
    cases v with
    | pointer a =>
      cases a with
      | none => exact plain _ h rfl
      | some a =>
        obtain ⟨p, h1, h2, rfl⟩ := VR.ptr_inv (a := ⟨f a.block, a.off, a.spot⟩) h
        exact VR.ptr (a := a) h1 (hst _ _ hr h2)
    | slice a l c =>
      cases a with
      | none => exact plain _ h rfl
      | some a =>
        obtain ⟨p, c', h1, h2, h3, rfl⟩ := VR.slice_inv (a := ⟨f a.block, a.off, a.spot⟩) h
        exact VR.slice (a := a) h1 (hst _ _ hr h2) h3
    | map i =>
      cases i with
      | none => exact plain _ h rfl
      | some i =>
        obtain ⟨p, h1, rfl⟩ := VR.map_inv (i := f i) h
        exact VR.map (hst _ _ hr h1)
    | agg cs =>
      obtain ⟨xs⟩ := cs
      obtain ⟨ys, rfl, hl⟩ := VR.agg_inv (xs := xs.map (reV f n)) h
      have := hl.unmap ih hr
      exact VR.agg this.1 this.2
    | tuple cs =>
      obtain ⟨xs⟩ := cs
      obtain ⟨ys, rfl, hl⟩ := VR.tuple_inv (xs := xs.map (reV f n)) h
      have := hl.unmap ih hr
      exact VR.tuple this.1 this.2
    | iface t' x =>
      obtain ⟨y, rfl, hv⟩ := VR.iface_inv (x := reV f n x) h
      exact VR.iface (ih hv hr)
    | func g a b =>
      cases g with
      | func g =>
        obtain ⟨xs⟩ := a
        obtain ⟨us⟩ := b
        obtain ⟨ys, vs, rfl, hl, hl'⟩ := VR.func_inv (xs := xs.map (reV f n)) (us := us.map (reV f n)) h
        simp only [refF, Bool.and_eq_true] at hr
        have h1 := hl.unmap ih hr.1
        have h2 := hl'.unmap ih hr.2
        exact VR.func h1.1 h1.2 h2.1 h2.2
      | _ => simp [refF, scal] at hr
    | _ => exact plain _ h hr
def reO (f : Nat → Nat) (o : AO) : AO := ⟨o.live, o.es, o.cs.map (reV f 6)⟩
theorem ObjAt.ren {s t : Ren} {f : Nat → Nat} {ok : Nat → Bool} (hst : ∀ j p, ok j = true → s (f j) = some p → t j = some p) {p : Pl} {o : AO} {w : World} (h : ObjAt s p (reO f o) w) (hb : o.cs.all (refF ok 6) = true) : ObjAt t p o w := by
  refine ⟨fun hm => ?_, fun hm => ?_⟩
  · obtain ⟨cs', h1, h2⟩ := h.1 hm
    have h1 : LR s (o.cs.map (reV f 6)) cs' := h1
    exact ⟨cs', h1.unmap (VR.ren hst 6) hb, h2⟩
  · have B := h.2 hm
    refine ⟨by simpa [reO] using B.fit, B.all, B.shp, fun g1 g2 g3 g4 g5 => B.free g1 g2 g3 g4 (by simpa [reO] using g5), fun x v hv => ?_⟩
    obtain ⟨v', h1, h2⟩ := B.rel x (reV f 6 v) (by simp only [reO, List.getElem?_map, hv, Option.map_some])
    exact ⟨v', h1, h2.ren hst 6 (all_get hb hv)⟩
/-- Blocks told by other numbers, others given up. -/
theorem HR.renum {wb : Wb} {k : Nat} {s : Ren} {h1 : List AO} {w : World} (H : HR wb k s h1 w) {f : Nat → Nat} {q : Nat} {h2 : List AO} (hkq : k ≤ q) (hq : q ≤ h2.length) (hid : ∀ j, j < q → f j = j) (hge : ∀ j, q ≤ j → j < h2.length → q ≤ f j)
    (hinj : ∀ i j, i < h2.length → j < h2.length → f i = f j → i = j) (ho : ∀ j o, h2[j]? = some o → h1[f j]? = some (reO f o)) (hl : ∀ j o, h2[j]? = some o → q ≤ j → o.live = true ∧ o.es ≠ some GM)
    (hr : h2.all (refO fun x => decide (x < h2.length)) = true) : HR wb k (fun j => if j < h2.length then s (f j) else none) h2 w := by
  have hst : ∀ j p, (fun x => decide (x < h2.length)) j = true → s (f j) = some p → (fun j => if j < h2.length then s (f j) else none) j = some p := by
    intro j p hj hs
    simp only [decide_eq_true_eq] at hj
    simp only [if_pos hj]
    exact hs
  have at' : ∀ i p, (if i < h2.length then s (f i) else none) = some p → i < h2.length ∧ s (f i) = some p := by
    intro i p hp
    split at hp
    · rename_i hi; exact ⟨hi, hp⟩
    · cases hp
  refine ⟨H.grown, by omega, fun i hi => if_neg (by omega), fun i p hp => ?_, fun i o hi hv => ?_, fun i j a b p q' hi hj ha hb hp hq' e => ?_, fun g p hp hg => ?_⟩
  · obtain ⟨hi, hs⟩ := at' i p hp
    obtain ⟨c1, c2, c3⟩ := H.plc _ p hs
    by_cases hiq : i < q
    · rw [hid i hiq] at c1 c2
      exact ⟨c1, c2, c3⟩
    · exact ⟨fun hlt => absurd hlt (by omega), fun _ => c2 (by have := hge i (by omega) hi; omega), c3⟩
  · have hlt := (List.getElem?_eq_some_iff.1 hi).1
    obtain ⟨p, hp, he, hob⟩ := H.obj _ _ (ho i o hi) hv
    have hro := all_get' hr hi hv
    exact ⟨p, by rw [if_pos hlt]; exact hp, he, hob.ren hst hro⟩
  · have hlt := (List.getElem?_eq_some_iff.1 hi).1
    have hlt2 := (List.getElem?_eq_some_iff.1 hj).1
    rw [if_pos hlt] at hp
    rw [if_pos hlt2] at hq'
    exact hinj i j hlt hlt2 (H.sep _ _ _ _ p q' (ho i a hi) (ho j b hj) ha hb hp hq' e)
  · obtain ⟨hi, hs⟩ := at' g p hp
    by_cases hgq : g < q
    · rw [hid g hgq] at hs
      exact H.gl g p hs hg
    · have hx := List.getElem?_eq_getElem hi
      obtain ⟨h3, h4⟩ := hl g _ hx (by omega)
      obtain ⟨p', hp', he, _⟩ := H.obj _ _ (ho g _ hx) h3
      rw [hs] at hp'
      cases hp'
      exact absurd (he.symm.trans hg) h4
where
  all_get' {h2 : List AO} {ok : Nat → Bool} (hr : h2.all (refO ok) = true) {i : Nat} {o : AO} (hi : h2[i]? = some o) (hv : o.live = true) : o.cs.all (refF ok 6) = true := by
    have := List.all_eq_true.1 hr o (List.mem_of_getElem? hi)
    simpa [refO, hv] using this
/-- The first blocks keep their numbers; behind them stand those that are named. -/
def keepF (q : Nat) (keep : List Nat) (j : Nat) : Nat := bif Nat.blt j q then j else keep.getD (j - q) 0
def upB (q : Nat) : Nat → List Nat → Bool
  | _, [] => true
  | n, x :: l => Nat.ble n x && upB q (x + 1) l
theorem upB_spec {q : Nat} : ∀ {n : Nat} {l : List Nat}, upB q n l = true → (∀ (i x : Nat), l[i]? = some x → n ≤ x) ∧ ∀ (i j x : Nat), l[i]? = some x → l[j]? = some x → i = j
  | n, [], _ => ⟨fun i x h => by simp at h, fun i j x h => by simp at h⟩
  | n, y :: l, h => by
    simp only [upB, Bool.and_eq_true] at h
    obtain ⟨h1, h2⟩ := upB_spec h.2
    have hy := Nat.le_of_ble_eq_true h.1
    refine ⟨fun i x hx => ?_, fun i j x hx hj => ?_⟩
    · cases i with
      | zero => simp at hx; omega
      | succ i => have := h1 i x (by simpa using hx); omega
    · cases i with
      | zero =>
        cases j with
        | zero => rfl
        | succ j => simp at hx; subst hx; have := h1 j y (by simpa using hj); omega
      | succ i =>
        cases j with
        | zero => simp at hj; subst hj; have := h1 i y (by simpa using hx); omega
        | succ j => rw [h2 i j x (by simpa using hx) (by simpa using hj)]
def aliveB (o : AO) : Bool := o.live && (match o.es with | some e => !(Nat.beq e GM) | none => true)
/-- So many rounds lead from a state to another one; of the blocks the first ones keep their numbers. -/
def HopQ (P : Program) (c : Code) (n q : Nat) (t : List Value) (h : List AO) (t' : List Value) (h' : List AO) (mE : Mk) : Prop :=
  ∀ (wb : Wb) (k : Nat), Bnd k mE → k ≤ q → ∀ (s : Ren) (m : Mk) (a : Act) (w : World), SR wb k s ⟨t, h, m⟩ a w → ∀ (N : Nat) (Q : Exit → Act → World → Prop),
    (∀ s' a' w', (∀ i p, i < q → s i = some p → s' i = some p) → SR wb k s' ⟨t', h', m⟩ a' w' → Code.rounds P c Q N a' w') → Code.rounds P c Q (n + N) a w
/-- A state behind a run, with the blocks that are kept. -/
def keepS (q : Nat) (keep : List Nat) (x : St) : Option (List Value × List AO × Option Nat × List Int) :=
  if Nat.ble q x.h.length && (upB q q keep && keep.all fun i => aliveB (x.h.getD i dead)) then some (x.t, x.h.take q ++ keep.map fun i => x.h.getD i dead, x.m.1, inter x.m.2) else none
def hopC (t : List Value) (h : List AO) : Bool := t.all (refF (fun x => decide (x < h.length)) 6) && h.all (refO fun x => decide (x < h.length))
theorem keepS_ok {q : Nat} {keep : List Nat} {x : St} {t2 : List Value} {h2 : List AO} {lo : Option Nat} {cs : Cs} (hr : keepS q keep x = some (t2.map (reV (keepF q keep) 6), h2.map (reO (keepF q keep)), lo, inter cs)) (hb : hopC t2 h2 = true) :
    x.m = (lo, cs) ∧ ∀ (wb : Wb) (k : Nat) (s : Ren) (m : Mk) (a : Act) (w : World), k ≤ q → SR wb k s x a w → ∃ s', (∀ i p, i < q → s i = some p → s' i = some p) ∧ SR wb k s' ⟨t2, h2, m⟩ a w := by
  unfold keepS at hr
  split at hr
  · rename_i hcond
    simp only [Option.some.injEq, Prod.mk.injEq] at hr
    obtain ⟨ht, hh, hlo, hin⟩ := hr
    have hcs := inter_inj hin
    simp only [Bool.and_eq_true] at hcond
    obtain ⟨g2, g3, g4⟩ := hcond
    have g2 := Nat.le_of_ble_eq_true g2
    obtain ⟨u1, u2⟩ := upB_spec g3
    simp only [hopC, Bool.and_eq_true] at hb
    have hlen : h2.length = q + keep.length := by
      have := congrArg List.length hh
      simp only [List.length_append, List.length_take, List.length_map] at this
      omega
    have hlt : ∀ j, j < q → keepF q keep j = j := by
      intro j hj
      have : Nat.blt j q = true := by simpa [Nat.blt_eq] using hj
      simp [keepF, this]
    have hgt : ∀ j, q ≤ j → keepF q keep j = keep.getD (j - q) 0 := by
      intro j hj
      have : Nat.blt j q = false := by
        cases hb : Nat.blt j q with
        | false => rfl
        | true => rw [Nat.blt_eq] at hb; omega
      simp [keepF, this]
    have hkl : ∀ (i y : Nat), keep[i]? = some y → y < x.h.length := by
      intro i y hy
      by_cases hlt : y < x.h.length
      · exact hlt
      · have := List.all_eq_true.1 g4 y (List.mem_of_getElem? hy)
        rw [List.getD_eq_getElem?_getD, List.getElem?_eq_none (by omega)] at this
        simp [aliveB, dead] at this
    have hkeep : ∀ j, q ≤ j → j < h2.length → ∃ y, keep[j - q]? = some y ∧ keepF q keep j = y := by
      intro j h1 h3
      have hj : j - q < keep.length := by omega
      exact ⟨keep[j - q], List.getElem?_eq_getElem hj, by rw [hgt j h1, List.getD_eq_getElem?_getD, List.getElem?_eq_getElem hj]; rfl⟩
    have hat : ∀ j o, h2[j]? = some o → x.h[keepF q keep j]? = some (reO (keepF q keep) o) := by
      intro j o ho
      have hj := (List.getElem?_eq_some_iff.1 ho).1
      have e : (x.h.take q ++ keep.map fun i => x.h.getD i dead)[j]? = some (reO (keepF q keep) o) := by
        rw [hh, List.getElem?_map, ho]; rfl
      by_cases hjq : j < q
      · rw [hlt j hjq]
        rw [List.getElem?_append_left (by rw [List.length_take]; omega), List.getElem?_take, if_pos hjq] at e
        exact e
      · obtain ⟨y, hy, hfy⟩ := hkeep j (by omega) hj
        rw [hfy]
        rw [List.getElem?_append_right (by rw [List.length_take]; omega), List.length_take, Nat.min_eq_left g2, List.getElem?_map, hy] at e
        simp only [Option.map_some, Option.some.injEq] at e
        have hyl := hkl _ _ hy
        rw [List.getElem?_eq_getElem hyl, ← e, List.getD_eq_getElem?_getD, List.getElem?_eq_getElem hyl]
        rfl
    refine ⟨by rw [← hlo, ← hcs], fun wb k s m a w hkq H' => ?_⟩
    have HH := H'.h.renum (f := keepF q keep) (q := q) (h2 := h2) hkq (by omega) hlt
      (fun j h1 h3 => by
        obtain ⟨y, hy, hfy⟩ := hkeep j h1 h3
        rw [hfy]; exact u1 _ _ hy)
      (fun i j hi hj e => by
        by_cases h1 : i < q
        · rw [hlt i h1] at e
          by_cases h3 : j < q
          · rw [hlt j h3] at e; exact e
          · obtain ⟨y, hy, hfy⟩ := hkeep j (by omega) hj
            have := u1 _ _ hy
            omega
        · obtain ⟨y, hy, hfy⟩ := hkeep i (by omega) hi
          by_cases h3 : j < q
          · rw [hlt j h3] at e
            have := u1 _ _ hy
            omega
          · obtain ⟨z, hz, hfz⟩ := hkeep j (by omega) hj
            rw [hfy, hfz] at e
            subst e
            have := u2 _ _ _ hy hz
            omega) hat
      (fun j o ho hjq => by
        have hj := (List.getElem?_eq_some_iff.1 ho).1
        obtain ⟨y, hy, hfy⟩ := hkeep j hjq hj
        have e := hat j o ho
        rw [hfy] at e
        have hl := List.all_eq_true.1 g4 y (List.mem_of_getElem? hy)
        rw [List.getD_eq_getElem?_getD, e] at hl
        simp only [Option.getD_some, aliveB, reO, Bool.and_eq_true] at hl
        refine ⟨hl.1, fun hg => ?_⟩
        rw [hg] at hl
        simp [Nat.beq_refl] at hl) hb.2
    refine ⟨_, fun i p hi hp => ?_, ⟨?_, H'.d, HH⟩⟩
    · show (if i < h2.length then s (keepF q keep i) else none) = some p
      rw [if_pos (by omega), hlt i hi]
      exact hp
    · have h5 : LR s (t2.map (reV (keepF q keep) 6)) a.tmps.toList := by
        have := H'.t
        rw [ht] at this
        exact this
      refine h5.unmap (VR.ren (ok := fun y => decide (y < h2.length)) (fun j p hj hs => ?_) 6) hb.1
      simp only [decide_eq_true_eq] at hj
      show (if j < h2.length then s (keepF q keep j) else none) = some p
      rw [if_pos hj]
      exact hs
  · cases hr
/-- So many rounds: the state behind them, with the blocks that are kept. -/
noncomputable def hopRun (P : Program) (hk : Hook3) (orc : Orc) (fid : FuncId) (c : Code) (n q : Nat) (keep : List Nat) (t : List Value) (h : List AO) : Option (List Value × List AO × Option Nat × List Int) :=
  match iterB (bodyE P hk orc fid c) n ⟨t, h, (none, [])⟩ with
  | some x => keepS q keep x
  | none => none
theorem hopR_ok {P : Program} (hng : NoNG P) {hk : Hook3} (hhk : HookOk3 P hk) {orc : Orc} {fid : FuncId} {c : Code} {n q : Nat} (keep : List Nat) {t t2 : List Value} {h h2 : List AO} {lo : Option Nat} {cs : Cs}
    (hr : hopRun P hk orc fid c n q keep t h = some (t2.map (reV (keepF q keep) 6), h2.map (reO (keepF q keep)), lo, inter cs)) (hb : hopC t2 h2 = true) (hc : ∀ c ∈ cs, c.1 = c.2) : HopQ P c n q t h t2 h2 (lo, []) := by
  unfold hopRun at hr
  split at hr
  · rename_i x hx
    obtain ⟨hm2, hk2⟩ := keepS_ok hr hb
    intro wb k hm hkq s m a w H N Q hQ
    refine iterB_ok (bodyE_ok hng hhk orc fid c) wb k (bodyE_low orc fid c k) n ⟨t, h, (none, [])⟩ x hx (by rw [hm2]; exact ⟨hm.1, hc⟩) s a w ⟨H.t, H.d, H.h⟩ N Q fun s' a' w' hle H' => ?_
    obtain ⟨s2, h1, h3⟩ := hk2 wb k s' m a' w' hkq H'
    exact hQ s2 a' w' (fun i p hi hp => h1 i p hi (hle i p hp)) h3
  · cases hr
section
variable {P : Program} {c : Code}
theorem HopQ.zero (q : Nat) (t : List Value) (h : List AO) (m : Mk) : HopQ P c 0 q t h t h m := by
  intro wb k hm hkq s m a w H N Q hQ
  rw [Nat.zero_add]
  exact hQ s a w (fun _ _ _ h => h) H
theorem HopQ.trans {n N q : Nat} {t t1 t2 : List Value} {h h1 h2 : List AO} {m1 m2 m3 : Mk} (a : HopQ P c n q t h t1 h1 m1) (b : HopQ P c N q t1 h1 t2 h2 m2) (hm1 : ∀ k, k ≤ q → Bnd k m3 → Bnd k m1) (hm2 : ∀ k, k ≤ q → Bnd k m3 → Bnd k m2) : HopQ P c (n + N) q t h t2 h2 m3 := by
  intro wb k hm hkq s m act w H M Q hQ
  rw [Nat.add_assoc]
  exact a wb k (hm1 k hkq hm) hkq s m act w H (N + M) Q fun s' a' w' hle H' => b wb k (hm2 k hkq hm) hkq s' m a' w' H' M Q fun s'' a'' w'' hle' H'' => hQ s'' a'' w'' (fun i p hi hp => hle' i p hi (hle i p hi hp)) H''
/-- Within so many rounds the loop ends, of the blocks the first ones keep their numbers. -/
def StopQ (P : Program) (c : Code) (n q : Nat) (t : List Value) (h : List AO) (e : Exit) (t' : List Value) (h' : List AO) (mE : Mk) : Prop :=
  ∀ (wb : Wb) (k : Nat), Bnd k mE → k ≤ q → ∀ (s : Ren) (m : Mk) (a : Act) (w : World), SR wb k s ⟨t, h, m⟩ a w → ∀ (m' : Mk), Code.rounds P c (fun e' a' w' => e' = e ∧ ∃ s', (∀ i p, i < q → s i = some p → s' i = some p) ∧ SR wb k s' ⟨t', h', m'⟩ a' w') n a w
theorem rounds_mono {A B : Exit → Act → World → Prop} (h : ∀ e a w, A e a w → B e a w) : ∀ (n : Nat) (a : Act) (w : World), Code.rounds P c A n a w → Code.rounds P c B n a w := by
  intro n
  induction n with
  | zero => intro a w h; exact h
  | succ n ih =>
    intro a w h0
    rw [rounds_succ] at h0 ⊢
    refine Code.wp_mono (fun e' a' w' hp => ?_) h0
    cases e' <;> first | exact ih _ _ hp | exact h _ _ _ hp
theorem HopQ.stop {n N q : Nat} {t t1 t2 : List Value} {h h1 h2 : List AO} {e : Exit} {m1 m2 m3 : Mk} (a : HopQ P c n q t h t1 h1 m1) (b : StopQ P c N q t1 h1 e t2 h2 m2) (hm1 : ∀ k, k ≤ q → Bnd k m3 → Bnd k m1) (hm2 : ∀ k, k ≤ q → Bnd k m3 → Bnd k m2) : StopQ P c (n + N) q t h e t2 h2 m3 := by
  intro wb k hm hkq s m act w H m'
  refine a wb k (hm1 k hkq hm) hkq s m act w H N _ fun s' a' w' hle H' => ?_
  exact rounds_mono (fun e' a'' w'' hp => ⟨hp.1, let ⟨s'', h3, h4⟩ := hp.2; ⟨s'', fun i p hi hq => h3 i p hi (hle i p hi hq), h4⟩⟩) N a' w' (b wb k (hm2 k hkq hm) hkq s' m a' w' H' m')
theorem StopQ.stop {n q : Nat} {t t2 : List Value} {h h2 : List AO} {e : Exit} {m : Mk} (a : StopQ P c n q t h e t2 h2 m) (hq : h.length = q) : Stop P c n t h e t2 h2 m := by
  intro wb k hm s m0 act w H m'
  have hkq : k ≤ q := by have : k ≤ h.length := H.h.kle; omega
  refine rounds_mono (fun e' a'' w'' hp => ⟨hp.1, let ⟨s'', h3, h4⟩ := hp.2; ⟨s'', fun i p hi => ?_, h4⟩⟩) n act w (a wb k hm hkq s m0 act w H m')
  have hlt : i < q := by
    rcases Nat.lt_or_ge i q with h1 | h1
    · exact h1
    · have e1 : s i = none := H.h.dom i (by show h.length ≤ i; omega)
      rw [e1] at hi; cases hi
  exact h3 i p hlt hi
end
/-- The end of a loop, with the blocks that are kept. -/
noncomputable def stopRun (P : Program) (hk : Hook3) (orc : Orc) (fid : FuncId) (c : Code) (n q : Nat) (keep : List Nat) (t : List Value) (h : List AO) : Option (Exit × Option (List Value × List AO × Option Nat × List Int)) :=
  match loopN (bodyE P hk orc fid c) n ⟨t, h, (none, [])⟩ with
  | some (e, x) => some (e, keepS q keep x)
  | none => none
theorem stopR_ok {P : Program} (hng : NoNG P) {hk : Hook3} (hhk : HookOk3 P hk) {orc : Orc} {fid : FuncId} {c : Code} {n q : Nat} (keep : List Nat) {t t2 : List Value} {h h2 : List AO} {e : Exit} {lo : Option Nat} {cs : Cs}
    (hr : stopRun P hk orc fid c n q keep t h = some (e, some (t2.map (reV (keepF q keep) 6), h2.map (reO (keepF q keep)), lo, inter cs))) (hb : hopC t2 h2 = true) (hc : ∀ c ∈ cs, c.1 = c.2) : StopQ P c n q t h e t2 h2 (lo, []) := by
  unfold stopRun at hr
  split at hr
  · rename_i e1 x hx
    simp only [Option.some.injEq, Prod.mk.injEq] at hr
    obtain ⟨rfl, hr⟩ := hr
    obtain ⟨hm2, hk2⟩ := keepS_ok hr hb
    intro wb k hm hkq s m a w H m'
    obtain ⟨xt, xh, xm⟩ := x
    have st := stop_ok hng hhk hx wb k (by rw [show xm = (lo, cs) from hm2]; exact ⟨hm.1, hc⟩) s m a w H xm
    exact rounds_mono (fun e' a' w' hp => ⟨hp.1, let ⟨s', h1, h2⟩ := hp.2; let ⟨s2, h3, h4⟩ := hk2 wb k s' m' a' w' hkq h2; ⟨s2, fun i p hi hq => h3 i p hi (h1 i p hq), h4⟩⟩) n a w st
  · cases hr

def loB (q : Nat) (lo lo3 : Option Nat) : Bool :=
  match lo with
  | none => true
  | some i => Nat.ble q i || (match lo3 with | some j => Nat.ble j i | none => false)
theorem bndW {q : Nat} {lo lo3 : Option Nat} (h : loB q lo lo3 = true) : ∀ k, k ≤ q → Bnd k (lo3, []) → Bnd k (lo, []) := by
  intro k hk hm
  refine ⟨fun i hi => ?_, fun c hc => by cases hc⟩
  simp only at hi
  subst hi
  simp only [loB, Bool.or_eq_true] at h
  rcases h with h | h
  · have := Nat.le_of_ble_eq_true h
    omega
  · cases lo3 with
    | none => cases h
    | some j =>
      have h1 := Nat.le_of_ble_eq_true h
      have h2 := hm.1 j rfl
      omega
theorem no_cs {P : Int × Int → Prop} : ∀ c ∈ ([] : Cs), P c := fun _ h => by cases h

/-! Patterns: a number that is not known stands as a hole. -/
def holeOf : Value → Option (Nat × IntKind)
  | .tuple vs =>
    match vs.toList with
    | [.chan (some j), .int k _] => some (j, k)
    | _ => none
  | _ => none
def inst (ρ : Nat → Int) : Nat → Value → Value
  | 0, v => v
  | n + 1, p =>
    match holeOf p with
    | some (j, k) => .int k (ρ j)
    | none =>
      match p with
      | .agg a => .agg ⟨a.toList.map (inst ρ n)⟩
      | .tuple a => .tuple ⟨a.toList.map (inst ρ n)⟩
      | x => x
def instO (ρ : Nat → Int) (o : AO) : AO := ⟨o.live, o.es, o.cs.map (inst ρ 4)⟩
/-- A loop, from a state of a pattern on to its end. -/
structure LoopP where
  f : FuncId
  t : List Value
  h : List AO
  e : Exit
  t' : (Nat → Int) → List Value
  h' : (Nat → Int) → List AO
  lo : Option Nat
  cond : (Nat → Int) → Cs
def LoopP.at (e : LoopP) (ρ : Nat → Int) : LoopT := ⟨e.f, e.t.map (inst ρ 4), e.h.map (instO ρ), e.e, e.t' ρ, e.h' ρ, (e.lo, [])⟩
/-- A run that reads a package's variables, with loops that are told. -/
noncomputable def reckonPI (P : Program) (hk : Hook3) (orc : Orc) (lh : LoopHook) (L f : Nat) (h0 : List AO) (g : FuncId) (args : List Value) : Option (Value × List Int) :=
  match callA P ⟨exG P (aOp P) (drawE P) hk orc accQ lh L f, hk, fun _ _ => none, accQ⟩ g args h0 with
  | some (v, _, m) => if quietB h0.length m.1 then some (v, inter m.2) else none
  | none => none
theorem reckonP_ok {P : Program} (hng : NoNG P) {hk : Hook3} (hhk : HookOk3 P hk) {lh : LoopHook} (hll : LoopLow lh) (hlo : LoopsOk P lh) (orc : Orc) (L f : Nat) (h0 : List AO) {g : FuncId} {args : List Value} {v : Value} {cs : Cs} (ha : args.all flat = true) (hv : flat v = true) (h : reckonPI P hk orc lh L f h0 g args = some (v, inter cs))
    (he : ∀ c ∈ cs, c.1 = c.2) (w : World) (hL : Laid h0 w) : Calls P g ⟨args⟩ w fun e w' => e = .returned v ∧ Gr w w' := by
  unfold reckonPI at h
  split at h
  · rename_i v' h' m hr
    split at h
    · rename_i hq
      simp only [Option.some.injEq, Prod.mk.injEq] at h
      obtain ⟨rfl, h2⟩ := h
      have h3 := inter_inj h2
      refine (callA_ok (exG_ok accQ_eq hng (aOp_ok P hng) (drawE_ok P) (drawE_low P) hhk hll hlo L f _) hr (wb := w) (k := h0.length) (s := placeG h0 w) ⟨quietB_ok hq, by rw [h3]; exact he⟩ (LR.ofFlat ha) (HR.start hL)).mono ?_
      rintro e w' ⟨s', u, rfl, _, H, hvr⟩
      rw [hvr.eq_of_flat hv]
      exact ⟨rfl, H.grown.gr⟩
    · cases h
  · cases h
end Go.Proofs.YthhgfjnnconocaaGreatDoor.Ex
end
section
namespace Go.Proofs.YthhgfjnnconocaaGreatDoor.Ex
set_option maxRecDepth 20000

open Go Go.RowKit
set_option linter.unusedVariables false
def sameB (cs : Cs) : Bool := cs.all fun c => c.1 == c.2
theorem sameB_ok {cs : Cs} (h : sameB cs = true) : ∀ c ∈ cs, c.1 = c.2 := fun c hc => eq_of_beq (List.all_eq_true.1 h c hc)
/-- A call of flat arguments as an entry of a table: its pairs are closed. -/
theorem layL_mk2 {P : Program} (hng : NoNG P) {hk : Hook3} (hhk : HookOk3 P hk) {lh : LoopHook} (hll : LoopLow lh) (hlo : LoopsOk P lh) (orc : Orc) (e : LayCall) (ha : e.args.all flat = true)
    (hr : ((laysL P hk orc lh 100000 300 e.q e.f e.args).map fun r => (r.1, r.2.1, sameB r.2.2)) = some (e.v, e.new, true)) : LayOk P e := by
  intro wb k s h w hq H
  cases hx : laysL P hk orc lh 100000 300 e.q e.f e.args with
  | none => rw [hx] at hr; cases hr
  | some r =>
    obtain ⟨v, new, cs⟩ := r
    rw [hx] at hr
    simp only [Option.map_some, Option.some.injEq, Prod.mk.injEq] at hr
    obtain ⟨h1, h2, h3⟩ := hr
    subst h1 h2
    exact laysL_ok hng hhk hll hlo ha hx (sameB_ok h3) hq H
/-- A loop, from a state of a pattern on to its end. -/
structure LoopW where
  f : FuncId
  t : List Value
  h : List AO
  e : Exit
  t' : (Nat → Int) → List Value
  h' : (Nat → Int) → List AO
  lo : Option Nat
  cond : (Nat → Int) → Cs
def LoopW.at (e : LoopW) (ρ : Nat → Int) : LoopT := ⟨e.f, e.t.map (inst ρ 4), e.h.map (instO ρ), e.e, e.t' ρ, e.h' ρ, (e.lo, [])⟩
end Go.Proofs.YthhgfjnnconocaaGreatDoor.Ex
end
section
namespace Go.Proofs.YthhgfjnnconocaaGreatDoor.Ex
set_option maxRecDepth 20000

open Go Go.RowKit Go.ChangeShapes Go.WideShapes Go.WideMaps Go.WideElems Go.ChangeAt Go.Deep

theorem cells_of_ints {H : Type} {enc : TypeId × Value → H} {P : Program} {w : World} {base : Nat} {spare : Nat → Bool} {held : Bool} {fuel : Nat} {t e : TypeId} {len : Nat} {cs : List Value} {k : IntKind} {ns : List Int} {x : DataW H × List MemPlace}
    (ht : P.underlying t = some (.array len e)) (he : P.underlying e = some (.int k)) (hc : P.cellsOf e = 1) (hct : P.cellsOf t = len) (h : DataW.trod enc P w base spare held fuel t cs = some x) (hx : x.1 = .agg (ns.map fun n => .lit (.int k n))) : cs = ns.map (.int k) := by
  obtain ⟨xs, m, _, hxx, hlen, hn, hall⟩ := DataW.trod_array ht h
  rw [hct] at hlen
  simp only [hc] at hall
  have hm : xs.map (·.1) = ns.map fun n => .lit (.int k n) := by
    have h1 := congrArg Prod.fst hxx
    rw [hx] at h1
    injection h1 with h2
    exact h2.symm
  have hl : ns.length = len := by
    have := congrArg List.length hm
    simp at this
    omega
  apply List.ext_getElem?
  intro i
  by_cases hi : i < len
  · have hn0 : ∃ n, ns[i]? = some n := ⟨_, List.getElem?_eq_getElem (by omega)⟩
    obtain ⟨n, hn0⟩ := hn0
    obtain ⟨y, hy⟩ : ∃ y, xs[i]? = some y := ⟨_, List.getElem?_eq_getElem (by omega)⟩
    have hh := (hall i hi).trans hy
    obtain ⟨n', e1, rfl, _⟩ := DataW.trod_int he hh
    have h2 : (xs.map (·.1))[i]? = some (.lit (.int k n')) := by rw [List.getElem?_map, hy]; rfl
    rw [hm, List.getElem?_map, hn0] at h2
    simp at h2
    subst h2
    have h3 := congrArg (·[0]?) e1
    simp at h3
    rw [List.getElem?_map, hn0]
    simpa using h3
  · rw [List.getElem?_eq_none (by omega), List.getElem?_eq_none (by simp; omega)]
end Go.Proofs.YthhgfjnnconocaaGreatDoor.Ex
end
section
namespace Go.Proofs.YthhgfjnnconocaaGreatDoor
set_option maxRecDepth 20000

open Go.ChangeShapes Go.WideShapes Go.RowKit

inductive Kd where
  | i (k : IntKind)
  | b
  | s
def Kd.ok : Kd → Value → Prop
  | .i k, v => ∃ n, v = .int k n ∧ (Lit.int k n).wf = true
  | .b, v => ∃ x, v = .bool x
  | .s, v => ∃ x : ByteArray, v = .string x ∧ x.size ≤ maxLen
def okL : List Kd → List Value → Prop
  | [], [] => True
  | k :: ks, v :: vs => k.ok v ∧ okL ks vs
  | _, _ => False
theorem okL.nil {cs : List Value} (h : okL [] cs) : cs = [] := by cases cs with | nil => rfl | cons _ _ => exact h.elim
theorem okL.cons {k : Kd} {ks : List Kd} {cs : List Value} (h : okL (k :: ks) cs) : ∃ v vs, cs = v :: vs ∧ k.ok v ∧ okL ks vs := by
  cases cs with
  | nil => exact h.elim
  | cons v vs => exact ⟨v, vs, rfl, h.1, h.2⟩
theorem okL.length : ∀ {ks : List Kd} {cs : List Value}, okL ks cs → cs.length = ks.length
  | [], cs, h => by rw [h.nil]; rfl
  | k :: ks, cs, h => by
    obtain ⟨v, vs, rfl, _, h2⟩ := h.cons
    simp [okL.length h2]
theorem okL.append : ∀ {ks ls : List Kd} {cs ds : List Value}, okL ks cs → okL ls ds → okL (ks ++ ls) (cs ++ ds)
  | [], ls, cs, ds, h, g => by rw [h.nil]; exact g
  | k :: ks, ls, cs, ds, h, g => by
    obtain ⟨v, vs, rfl, h1, h2⟩ := h.cons
    exact ⟨h1, okL.append h2 g⟩
/-- The kinds of a struct's fields, one behind the other. -/
def kindsF (g : TypeId → Option (List Kd)) (cells : TypeId → Nat) : List Field → Nat → Option (List Kd)
  | [], _ => some []
  | f :: fs, off =>
    match g f.type with
    | some ks =>
      if f.offset = off ∧ cells f.type = ks.length then
        match kindsF g cells fs (off + ks.length) with
        | some ls => some (ks ++ ls)
        | none => none
      else none
    | none => none
def kindsT (P : Program) : Nat → TypeId → Option (List Kd)
  | 0, _ => none
  | f + 1, t =>
    match P.underlying t with
    | some .bool => some [.b]
    | some (.int k) => some [.i k]
    | some .string => some [.s]
    | some (.array n e) =>
      match kindsT P f e with
      | some ks => if P.cellsOf e = ks.length ∧ P.cellsOf t = n * ks.length then some (List.replicate n ks).flatten else none
      | none => none
    | some (.struct fs) =>
      match kindsF (kindsT P f) P.cellsOf fs.toList 0 with
      | some ks => if P.cellsOf t = ks.length then some ks else none
      | none => none
    | _ => none
theorem mapM_each {α β : Type} {g : α → Option β} : ∀ {l : List α} {xs : List β}, l.mapM g = some xs → ∀ a ∈ l, ∃ y, g a = some y
  | [], _, _, a, ha => by cases ha
  | a :: l, xs, h, b, hb => by
    simp only [List.mapM_cons] at h
    cases ha : g a with
    | none => rw [ha] at h; cases h
    | some y =>
      rw [ha] at h
      cases hl : l.mapM g with
      | none => rw [hl] at h; cases h
      | some ys =>
        rcases List.mem_cons.1 hb with e | e
        · rw [e]; exact ⟨y, ha⟩
        · exact mapM_each hl b e
theorem arr_ok {cs : List Value} {ks : List Kd} : ∀ (m j : Nat), (∀ i, j ≤ i → i < j + m → okL ks ((cs.drop (i * ks.length)).take ks.length)) → okL (List.replicate m ks).flatten ((cs.drop (j * ks.length)).take (m * ks.length))
  | 0, j, _ => by simp [okL]
  | m + 1, j, h => by
    have h1 := h j (Nat.le_refl _) (by omega)
    have h2 := arr_ok m (j + 1) fun i h3 h4 => h i (by omega) (by omega)
    have e : (cs.drop (j * ks.length)).take ((m + 1) * ks.length) = (cs.drop (j * ks.length)).take ks.length ++ (cs.drop ((j + 1) * ks.length)).take (m * ks.length) := by
      rw [show (m + 1) * ks.length = ks.length + m * ks.length by rw [Nat.add_mul]; omega, List.take_add, List.drop_drop, show j * ks.length + ks.length = (j + 1) * ks.length by rw [Nat.add_mul]; omega]
    rw [e, List.replicate_succ, List.flatten_cons]
    exact h1.append h2
theorem str_ok {g : TypeId → Option (List Kd)} {cells : TypeId → Nat} {cs : List Value} : ∀ (fs : List Field) (off : Nat) (ks : List Kd), kindsF g cells fs off = some ks →
    (∀ f ∈ fs, ∀ ls, g f.type = some ls → okL ls ((cs.drop f.offset).take (cells f.type))) → okL ks ((cs.drop off).take ks.length)
  | [], off, ks, h, _ => by simp [kindsF] at h; subst h; simp [okL]
  | f :: fs, off, ks, h, hf => by
    simp only [kindsF] at h
    split at h
    · rename_i k1 hk
      split at h
      · rename_i hc
        split at h
        · rename_i k2 h2
          cases h
          have a1 := hf f (by simp) k1 hk
          rw [hc.1, hc.2] at a1
          have a2 := str_ok fs _ _ h2 fun q hq => hf q (by simp [hq])
          rw [List.length_append, List.take_add, List.drop_drop]
          exact a1.append a2
        · cases h
      · cases h
    · cases h
section
variable {H : Type} {enc : TypeId × Value → H} {P : Program}
theorem plain_kinds : ∀ (f : Nat) {t : TypeId} {ks : List Kd}, kindsT P f t = some ks → ∀ {w : World} {base : Nat} {sp : Nat → Bool} {held : Bool} {n : Nat} {cs : List Value} {x : DataW H × List MemPlace}, DataW.trod enc P w base sp held n t cs = some x → okL ks cs
  | 0, t, ks, h => by simp [kindsT] at h
  | f + 1, t, ks, h => by
    rename_i w base sp held n cs x
    intro hx
    simp only [kindsT] at h
    split at h
    · cases h
      rename_i hu
      cases n with
      | zero => simp [DataW.trod] at hx
      | succ n =>
        simp only [DataW.trod, hu] at hx
        split at hx <;> simp_all [okL, Kd.ok]
    · cases h
      rename_i k hu
      obtain ⟨m, rfl, _, hw⟩ := DataW.trod_int hu hx
      exact ⟨⟨m, rfl, hw⟩, trivial⟩
    · cases h
      rename_i hu
      obtain ⟨m, rfl, _, hw⟩ := DataW.trod_string hu hx
      exact ⟨⟨m, rfl, hw⟩, trivial⟩
    · rename_i m e hu
      split at h
      · rename_i k1 hk
        split at h
        · rename_i hc
          cases h
          obtain ⟨xs, q, rfl, _, hlen, hn, hall⟩ := DataW.trod_array hu hx
          have := arr_ok (cs := cs) (ks := k1) m 0 fun i _ hi => by
            have h1 := hall i (by omega)
            rw [hc.1] at h1
            exact plain_kinds f hk (h1.trans (List.getElem?_eq_getElem (by omega)))
          rw [Nat.zero_mul, List.drop_zero, ← hc.2, ← hlen, List.take_length] at this
          exact this
        · cases h
      · cases h
    · rename_i fs hu
      split at h
      · rename_i k1 hk
        split at h
        · rename_i hc
          cases h
          cases n with
          | zero => simp [DataW.trod] at hx
          | succ n =>
            have hx2 : (if cs.length = P.cellsOf t then (fs.toList.mapM fun f => DataW.trod enc P w base sp held n f.type ((cs.drop f.offset).take (P.cellsOf f.type))).map fun xs => ((DataW.agg (xs.map (·.1)) : DataW H), xs.flatMap (·.2)) else none) = some x := by
              rw [← hx]; simp only [DataW.trod, hu]
            split at hx2
            · rename_i hlen
              cases hm : fs.toList.mapM fun f => DataW.trod enc P w base sp held n f.type ((cs.drop f.offset).take (P.cellsOf f.type)) with
              | none => rw [hm] at hx2; cases hx2
              | some xs =>
                have := str_ok (cs := cs) fs.toList 0 ks hk fun g hg ls hl => by
                  obtain ⟨y, hy⟩ := mapM_each hm g hg
                  exact plain_kinds f hl hy
                rw [List.drop_zero, ← hc, ← hlen, List.take_length] at this
                exact this
            · cases hx2
        · cases h
      · cases h
    · cases h
theorem kindsF_each {g : TypeId → Option (List Kd)} {cells : TypeId → Nat} : ∀ {fs : List Field} {off : Nat} {ks : List Kd}, kindsF g cells fs off = some ks → ∀ f ∈ fs, ∃ ls, g f.type = some ls
  | [], _, _, _, f, hf => by cases hf
  | f :: fs, off, ks, h, q, hq => by
    simp only [kindsF] at h
    split at h
    · rename_i k1 hk
      split at h
      · split at h
        · rename_i k2 h2
          rcases List.mem_cons.1 hq with e | e
          · rw [e]; exact ⟨k1, hk⟩
          · exact kindsF_each h2 q e
        · cases h
      · cases h
    · cases h
end
end Go.Proofs.YthhgfjnnconocaaGreatDoor
end
section
namespace Go.Proofs.YthhgfjnnconocaaGreatDoor
set_option maxRecDepth 20000

open Go.ChangeShapes Go.WideShapes Go.RowKit

def flatD {H : Type} : Nat → DataW H → List Value
  | 0, _ => []
  | _ + 1, .lit (.int k n) => [.int k n]
  | _ + 1, .lit (.bool b) => [.bool b]
  | _ + 1, .lit (.string s) => [.string ⟨s.toArray⟩]
  | f + 1, .agg l => l.flatMap (flatD f)
  | _ + 1, _ => []
theorem arr_flat {α : Type} {cs : List Value} {k : Nat} {F : α → List Value} : ∀ (xs : List α) (j : Nat), (∀ i y, xs[i]? = some y → (cs.drop ((j + i) * k)).take k = F y) → (cs.drop (j * k)).take (xs.length * k) = xs.flatMap F
  | [], j, h => by simp
  | a :: l, j, h => by
    have h1 := h 0 a rfl
    have h2 := arr_flat l (j + 1) fun i y hy => by
      have := h (i + 1) y (by simpa using hy)
      rw [show j + (i + 1) = j + 1 + i by omega] at this
      exact this
    rw [List.length_cons, show (l.length + 1) * k = k + l.length * k by rw [Nat.add_mul]; omega, List.take_add, List.drop_drop, show j * k + k = (j + 1) * k by rw [Nat.add_mul]; omega, h2]
    rw [Nat.add_zero] at h1
    rw [h1]
    rfl
theorem str_flat {α : Type} {g : TypeId → Option (List Kd)} {cells : TypeId → Nat} {cs : List Value} {tr : Field → Option α} {F : α → List Value} : ∀ (fs : List Field) (off : Nat) (ks : List Kd) (xs : List α), kindsF g cells fs off = some ks → fs.mapM tr = some xs →
    (∀ f ∈ fs, ∀ y, tr f = some y → (cs.drop f.offset).take (cells f.type) = F y) → (cs.drop off).take ks.length = xs.flatMap F
  | [], off, ks, xs, h, hx, _ => by
    simp [kindsF] at h
    simp at hx
    subst h hx
    simp
  | f :: fs, off, ks, xs, h, hx, hf => by
    simp only [List.mapM_cons] at hx
    cases ha : tr f with
    | none => rw [ha] at hx; cases hx
    | some y =>
      rw [ha] at hx
      cases hl : fs.mapM tr with
      | none => rw [hl] at hx; cases hx
      | some ys =>
        rw [hl] at hx
        cases hx
        simp only [kindsF] at h
        split at h
        · rename_i k1 hk
          split at h
          · rename_i hc
            split at h
            · rename_i k2 h2
              cases h
              have a1 := hf f (by simp) y ha
              rw [hc.1, hc.2] at a1
              have a2 := str_flat fs _ _ _ h2 hl fun q hq => hf q (by simp [hq])
              rw [List.length_append, List.take_add, List.drop_drop, a1, a2]
              rfl
            · cases h
          · cases h
        · cases h
theorem flatMap_map {α β γ : Type} (l : List α) (g : α → β) (F : β → List γ) : (l.map g).flatMap F = l.flatMap fun a => F (g a) := by
  induction l with
  | nil => rfl
  | cons a l ih => simp [ih]
variable {H : Type} {enc : TypeId × Value → H} {P : Program}
theorem plain_flat : ∀ (f : Nat) {t : TypeId} {ks : List Kd}, kindsT P f t = some ks → ∀ {w : World} {base : Nat} {sp : Nat → Bool} {held : Bool} {n : Nat} {cs : List Value} {x : DataW H × List MemPlace}, DataW.trod enc P w base sp held n t cs = some x → cs = flatD f x.1
  | 0, t, ks, h => by simp [kindsT] at h
  | f + 1, t, ks, h => by
    rename_i w base sp held n cs x
    intro hx
    have hk1 := plain_kinds (f + 1) h hx
    simp only [kindsT] at h
    cases n with
    | zero => simp [DataW.trod] at hx
    | succ n =>
      split at h
      · cases h
        rename_i hu
        obtain ⟨v, vs, rfl, ⟨y, rfl⟩, hn⟩ := hk1.cons
        obtain rfl := hn.nil
        simp only [DataW.trod, hu] at hx
        cases hx
        rfl
      · cases h
        rename_i k hu
        obtain ⟨v, vs, rfl, ⟨y, rfl, hw⟩, hn⟩ := hk1.cons
        obtain rfl := hn.nil
        simp only [DataW.trod, hu, hw, and_self, if_true] at hx
        cases hx
        rfl
      · cases h
        rename_i hu
        obtain ⟨v, vs, rfl, ⟨y, rfl, hw⟩, hn⟩ := hk1.cons
        obtain rfl := hn.nil
        simp only [DataW.trod, hu, hw, if_true] at hx
        cases hx
        rfl
      · rename_i m e hu
        split at h
        · rename_i k1 hk
          split at h
          · rename_i hc
            cases h
            obtain ⟨xs, q, _, hxx, hlen, hn, hall⟩ := DataW.trod_array hu hx
            have := arr_flat (cs := cs) (k := k1.length) (F := fun y : DataW H × List MemPlace => flatD f y.1) xs 0 fun i y hy => by
              have hi : i < m := by
                have := (List.getElem?_eq_some_iff.1 hy).1
                omega
              have h1 := (hall i hi).trans hy
              rw [hc.1] at h1
              rw [Nat.zero_add]
              exact plain_flat f hk h1
            rw [Nat.zero_mul, List.drop_zero, hn, ← hc.2, ← hlen, List.take_length] at this
            rw [hxx]
            simp only [flatD]
            rw [flatMap_map]
            exact this
          · cases h
        · cases h
      · rename_i fs hu
        split at h
        · rename_i k1 hk
          split at h
          · rename_i hc
            cases h
            have hx2 : (if cs.length = P.cellsOf t then (fs.toList.mapM fun f => DataW.trod enc P w base sp held n f.type ((cs.drop f.offset).take (P.cellsOf f.type))).map fun xs => ((DataW.agg (xs.map (·.1)) : DataW H), xs.flatMap (·.2)) else none) = some x := by
              rw [← hx]; simp only [DataW.trod, hu]
            split at hx2
            · rename_i hlen
              cases hm : fs.toList.mapM fun f => DataW.trod enc P w base sp held n f.type ((cs.drop f.offset).take (P.cellsOf f.type)) with
              | none => rw [hm] at hx2; cases hx2
              | some xs =>
                rw [hm] at hx2
                cases hx2
                have hfs := kindsF_each hk
                have := str_flat (cs := cs) (F := fun y : DataW H × List MemPlace => flatD f y.1) fs.toList 0 ks xs hk hm fun g hg y hy => by
                  obtain ⟨ls, hl⟩ := hfs g hg
                  exact plain_flat f hl hy
                rw [List.drop_zero, ← hc, ← hlen, List.take_length] at this
                simp only [flatD]
                rw [flatMap_map]
                exact this
            · cases hx2
          · cases h
        · cases h
      · cases h
end Go.Proofs.YthhgfjnnconocaaGreatDoor
end
section
namespace Go.Proofs.YthhgfjnnconocaaGreatDoor.Ex
set_option maxRecDepth 20000

open Go Go.RowKit Go.ChangeShapes Go.WideShapes Go.WideMaps Go.WideElems
def szCs : List Value := flatD (H := Unit) 4 Rows.laid_firewall_insns_sizes
def argNs : List Int := [-1, 2, 4, 2, -1, -1, -1, 0]
def h10 : List AO := [⟨true, some GM, szCs⟩, ⟨true, some GM, argNs.map (.int .i8)⟩, dead]
theorem gSz : Tryz.prog.globalNamed "firewall/insns.sizes" = some 0 := by kernel_rfl
theorem tSz : (Tryz.prog.globals[0]?).map (·.type) = some 207 := by kernel_rfl
theorem gArgs : Tryz.prog.globalNamed "firewall/helpers.args" = some 1 := by kernel_rfl
theorem tArgs : (Tryz.prog.globals[1]?).map (·.type) = some 238 := by kernel_rfl
theorem sz_flat {H : Type} : flatD (H := H) 4 Rows.laid_firewall_insns_sizes = szCs := rfl
def TabAt (w : World) : Prop := Laid h10 w
theorem heap_of_var {W : World} {nm : String} {g : Nat} {cs : Array Value} (hg : Tryz.prog.globalNamed nm = some g) (hv : W.var? Tryz.prog nm = some cs) : ∃ t fr, W.heap[g]? = some (.cells cs t fr) := by
  simp only [World.var?, hg, Option.bind_some] at hv
  split at hv
  · rename_i c t fr hh
    obtain rfl := Option.some.inj hv
    exact ⟨t, fr, hh⟩
  · cases hv
set_option maxRecDepth 100000 in
theorem tab_of_laid {W : World} (h : laidMetH Tryz.prog [("firewall/insns.sizes", Rows.laid_firewall_insns_sizes), ("firewall/helpers.args", Rows.laid_firewall_helpers_args)] W) : TabAt W := by
  rw [MakeChecks.laidMetH_plain _ _ _ (by kernel_rfl)] at h
  obtain ⟨ps, ⟨ga, ta, ca, fa, pa, qa, hga, hta, hva, hda, ⟨gb, tb, cb, fb, pb, qb, hgb, htb, hvb, hdb, _⟩, _⟩, _⟩ := h
  obtain rfl := Option.some.inj (gSz.symm.trans hga)
  obtain rfl := Option.some.inj (tSz.symm.trans hta)
  obtain rfl := Option.some.inj (gArgs.symm.trans hgb)
  obtain rfl := Option.some.inj (tArgs.symm.trans htb)
  have ka := plain_flat 4 (ks := (List.replicate 12 [Kd.i .u8, .i .u8]).flatten) (by kernel_rfl) hda
  have kb := cells_of_ints (ns := argNs) Tryz.underlying238 Tryz.underlying237 (by kernel_rfl) (by kernel_rfl) hdb rfl
  have ka' : ca = ⟨szCs⟩ := Array.toList_inj.1 (ka.trans sz_flat)
  have kb' : cb = ⟨argNs.map (.int .i8)⟩ := Array.toList_inj.1 kb
  subst ka' kb'
  have ha := heap_of_var gSz hva
  have hb := heap_of_var gArgs hvb
  intro g o ho hl
  match g, ho with
  | 0, ho => cases ho; exact ⟨rfl, rfl, laid_at ha⟩
  | 1, ho => cases ho; exact ⟨rfl, rfl, laid_at hb⟩
  | 2, ho => cases ho; cases hl
end Go.Proofs.YthhgfjnnconocaaGreatDoor.Ex
end
section
namespace Go.Proofs.YthhgfjnnconocaaGreatDoor.Ex
set_option maxRecDepth 20000

open Go Go.RowKit
set_option maxHeartbeats 0
set_option maxRecDepth 1000000
set_option linter.unusedVariables false
/-- Calls in drawn regions that write. -/
def mOrc : Orc := fun f t _ => if (Nat.beq f 8 && Nat.beq t 65) || ((Nat.beq f 51 && Nat.beq t 85) || (Nat.beq f 97 && Nat.beq t 61)) then some .nilFunc else none
def new10_0 : LayCall := ⟨9, [.agg ⟨[.slice none 0 0, .int .i64 2]⟩, .agg ⟨[.string ⟨#[112, 113]⟩, .int .u64 9, .slice none 0 0, .slice none 0 0]⟩, .slice none 0 0], 3, .tuple ⟨[.pointer (some ⟨40, 0, none⟩), .int .i64 0]⟩, [⟨true, none, [.slice none 0 0, .int .i64 2]⟩, ⟨true, none, [.string ⟨#[112, 113]⟩, .int .u64 9, .slice none 0 0, .slice none 0 0]⟩, ⟨true, none, [.string ⟨#[112, 113]⟩, .int .u64 9, .slice none 0 0, .slice none 0 0]⟩, ⟨true, none, [.int .u64 65536, .string ⟨#[0, 0, 3, 0, 0, 0, 0, 0, 2, 0, 3, 0, 0, 0, 0, 0]⟩, .bool false, .int .u64 65552, .string ⟨#[9, 0, 0, 0, 0, 0, 0, 0]⟩, .bool true]⟩, ⟨true, none, [.int .u64 131072, .string ⟨#[0, 0, 0, 0, 0, 0, 0, 0, 0, 0, 0, 0, 0, 0, 0, 0, 0, 0, 0, 0, 0, 0, 0, 0, 0, 0, 0, 0, 0, 0, 0, 0, 0, 0, 0, 0, 0, 0, 0, 0, 0, 0, 0, 0, 0, 0, 0, 0, 0, 0, 0, 0, 0, 0, 0, 0, 0, 0, 0, 0, 0, 0, 0, 0, 0, 0, 0, 0, 0, 0, 0, 0, 0, 0, 0, 0, 0, 0, 0, 0, 0, 0, 0, 0, 0, 0, 0, 0, 0, 0, 0, 0, 0, 0, 0, 0, 0, 0, 0, 0, 0, 0, 0, 0, 0, 0, 0, 0, 0, 0, 0, 0, 0, 0, 0, 0, 0, 0, 0, 0, 0, 0, 0, 0, 0, 0, 0, 0, 0, 0, 0, 0, 0, 0, 0, 0, 0, 0, 0, 0, 0, 0, 0, 0, 0, 0, 0, 0, 0, 0, 0, 0, 0, 0, 0, 0, 0, 0, 0, 0, 0, 0, 0, 0, 0, 0, 0, 0, 0, 0, 0, 0, 0, 0, 0, 0, 0, 0, 0, 0, 0, 0, 0, 0, 0, 0, 0, 0, 0, 0, 0, 0, 0, 0, 0, 0, 0, 0, 0, 0, 0, 0, 0, 0, 0, 0, 0, 0, 0, 0, 0, 0, 0, 0, 0, 0, 0, 0, 0, 0, 0, 0, 0, 0, 0, 0, 0, 0, 0, 0, 0, 0, 0, 0, 0, 0, 0, 0, 0, 0, 0, 0, 0, 0, 0, 0, 0, 0, 0, 0, 0, 0, 0, 0, 0, 0, 0, 0, 0, 0, 0, 0, 0, 0, 0, 0, 0, 0, 0, 0, 0, 0, 0, 0, 0, 0, 0, 0, 0, 0, 0, 0, 0, 0, 0, 0, 0, 0, 0, 0, 0, 0, 0, 0, 0, 0, 0, 0, 0, 0, 0, 0, 0, 0, 0, 0, 0, 0, 0, 0, 0, 0, 0, 0, 0, 0, 0, 0, 0, 0, 0, 0, 0, 0, 0, 0, 0, 0, 0, 0, 0, 0, 0, 0, 0, 0, 0, 0, 0, 0, 0, 0, 0, 0, 0, 0, 0, 0, 0, 0, 0, 0, 0, 0, 0, 0, 0, 0, 0, 0, 0, 0, 0, 0, 0, 0, 0, 0, 0, 0, 0, 0, 0, 0, 0, 0, 0, 0, 0, 0, 0, 0, 0, 0, 0, 0, 0, 0, 0, 0, 0, 0, 0, 0, 0, 0, 0, 0, 0, 0, 0, 0, 0, 0, 0, 0, 0, 0, 0, 0, 0, 0, 0, 0, 0, 0, 0, 0, 0, 0, 0, 0, 0, 0, 0, 0, 0, 0, 0, 0, 0, 0, 0, 0, 0, 0, 0, 0, 0, 0, 0, 0, 0, 0, 0, 0, 0, 0, 0, 0, 0, 0, 0, 0, 0, 0, 0, 0, 0, 0, 0, 0, 0, 0, 0, 0, 0, 0, 0, 0, 0, 0, 0, 0, 0, 0, 0, 0, 0, 0, 0, 0, 0, 0, 0, 0, 0, 0, 0, 0, 0, 0, 0, 0, 0, 0, 0, 0, 0, 0, 0, 0, 0, 0, 0, 0, 0, 0, 0, 0, 0, 0]⟩, .bool true]⟩, ⟨true, none, [.string ⟨#[112, 113]⟩, .int .u64 9, .slice none 0 0, .slice none 0 0]⟩, ⟨true, none, [.int .u64 196608, .string ⟨#[112, 113]⟩, .bool true]⟩, ⟨true, none, [.slice (some ⟨6, 0, none⟩) 2 2, .slice (some ⟨7, 0, none⟩) 1 1, .slice (some ⟨9, 0, none⟩) 1 1, .slice none 0 0]⟩, ⟨false, none, []⟩, ⟨false, none, []⟩, ⟨true, some 3, [.int .u64 65536, .string ⟨#[0, 0, 3, 0, 0, 0, 0, 0, 2, 0, 3, 0, 0, 0, 0, 0]⟩, .bool false, .int .u64 65552, .string ⟨#[9, 0, 0, 0, 0, 0, 0, 0]⟩, .bool true, .int .u64 131072, .string ⟨#[0, 0, 0, 0, 0, 0, 0, 0, 0, 0, 0, 0, 0, 0, 0, 0, 0, 0, 0, 0, 0, 0, 0, 0, 0, 0, 0, 0, 0, 0, 0, 0, 0, 0, 0, 0, 0, 0, 0, 0, 0, 0, 0, 0, 0, 0, 0, 0, 0, 0, 0, 0, 0, 0, 0, 0, 0, 0, 0, 0, 0, 0, 0, 0, 0, 0, 0, 0, 0, 0, 0, 0, 0, 0, 0, 0, 0, 0, 0, 0, 0, 0, 0, 0, 0, 0, 0, 0, 0, 0, 0, 0, 0, 0, 0, 0, 0, 0, 0, 0, 0, 0, 0, 0, 0, 0, 0, 0, 0, 0, 0, 0, 0, 0, 0, 0, 0, 0, 0, 0, 0, 0, 0, 0, 0, 0, 0, 0, 0, 0, 0, 0, 0, 0, 0, 0, 0, 0, 0, 0, 0, 0, 0, 0, 0, 0, 0, 0, 0, 0, 0, 0, 0, 0, 0, 0, 0, 0, 0, 0, 0, 0, 0, 0, 0, 0, 0, 0, 0, 0, 0, 0, 0, 0, 0, 0, 0, 0, 0, 0, 0, 0, 0, 0, 0, 0, 0, 0, 0, 0, 0, 0, 0, 0, 0, 0, 0, 0, 0, 0, 0, 0, 0, 0, 0, 0, 0, 0, 0, 0, 0, 0, 0, 0, 0, 0, 0, 0, 0, 0, 0, 0, 0, 0, 0, 0, 0, 0, 0, 0, 0, 0, 0, 0, 0, 0, 0, 0, 0, 0, 0, 0, 0, 0, 0, 0, 0, 0, 0, 0, 0, 0, 0, 0, 0, 0, 0, 0, 0, 0, 0, 0, 0, 0, 0, 0, 0, 0, 0, 0, 0, 0, 0, 0, 0, 0, 0, 0, 0, 0, 0, 0, 0, 0, 0, 0, 0, 0, 0, 0, 0, 0, 0, 0, 0, 0, 0, 0, 0, 0, 0, 0, 0, 0, 0, 0, 0, 0, 0, 0, 0, 0, 0, 0, 0, 0, 0, 0, 0, 0, 0, 0, 0, 0, 0, 0, 0, 0, 0, 0, 0, 0, 0, 0, 0, 0, 0, 0, 0, 0, 0, 0, 0, 0, 0, 0, 0, 0, 0, 0, 0, 0, 0, 0, 0, 0, 0, 0, 0, 0, 0, 0, 0, 0, 0, 0, 0, 0, 0, 0, 0, 0, 0, 0, 0, 0, 0, 0, 0, 0, 0, 0, 0, 0, 0, 0, 0, 0, 0, 0, 0, 0, 0, 0, 0, 0, 0, 0, 0, 0, 0, 0, 0, 0, 0, 0, 0, 0, 0, 0, 0, 0, 0, 0, 0, 0, 0, 0, 0, 0, 0, 0, 0, 0, 0, 0, 0, 0, 0, 0, 0, 0, 0, 0, 0, 0, 0, 0, 0, 0, 0, 0, 0, 0, 0, 0, 0, 0, 0, 0, 0, 0, 0, 0, 0, 0, 0, 0, 0, 0, 0, 0, 0, 0, 0, 0, 0, 0, 0, 0, 0, 0, 0, 0, 0, 0, 0, 0, 0, 0, 0, 0, 0, 0, 0, 0, 0, 0, 0, 0, 0, 0, 0, 0, 0, 0, 0, 0, 0, 0, 0, 0, 0, 0, 0, 0, 0, 0, 0, 0, 0, 0]⟩, .bool true, .int .u64 196608, .string ⟨#[112, 113]⟩, .bool true]⟩, ⟨true, none, [.int .u64 262144, .string ⟨#[0, 0, 0, 0, 0, 0, 0, 0, 0, 0, 0, 0, 0, 0, 0, 0, 0, 0, 0, 0, 0, 0, 0, 0, 0, 0, 0, 0, 0, 0, 0, 0, 0, 0, 0, 0, 0, 0, 0, 0, 0, 0, 0, 0, 0, 0, 0, 0, 0, 0, 0, 0, 0, 0, 0, 0, 0, 0, 0, 0, 0, 0, 0, 0, 0, 0, 0, 0, 0, 0, 0, 0, 0, 0, 0, 0, 0, 0, 0, 0, 0, 0, 0, 0, 0, 0, 0, 0, 0, 0, 0, 0, 0, 0, 0, 0, 0, 0, 0, 0, 0, 0, 0, 0, 0, 0, 0, 0, 0, 0, 0, 0, 0, 0, 0, 0, 0, 0, 0, 0, 0, 0, 0, 0, 0, 0, 0, 0]⟩, .bool true]⟩, ⟨true, none, [.slice (some ⟨13, 0, none⟩) 4 4, .slice (some ⟨14, 0, none⟩) 1 1, .slice none 0 0]⟩, ⟨false, none, []⟩, ⟨true, some 3, [.int .u64 65536, .string ⟨#[0, 0, 3, 0, 0, 0, 0, 0, 2, 0, 3, 0, 0, 0, 0, 0]⟩, .bool false, .int .u64 65552, .string ⟨#[9, 0, 0, 0, 0, 0, 0, 0]⟩, .bool true, .int .u64 131072, .string ⟨#[0, 0, 0, 0, 0, 0, 0, 0, 0, 0, 0, 0, 0, 0, 0, 0, 0, 0, 0, 0, 0, 0, 0, 0, 0, 0, 0, 0, 0, 0, 0, 0, 0, 0, 0, 0, 0, 0, 0, 0, 0, 0, 0, 0, 0, 0, 0, 0, 0, 0, 0, 0, 0, 0, 0, 0, 0, 0, 0, 0, 0, 0, 0, 0, 0, 0, 0, 0, 0, 0, 0, 0, 0, 0, 0, 0, 0, 0, 0, 0, 0, 0, 0, 0, 0, 0, 0, 0, 0, 0, 0, 0, 0, 0, 0, 0, 0, 0, 0, 0, 0, 0, 0, 0, 0, 0, 0, 0, 0, 0, 0, 0, 0, 0, 0, 0, 0, 0, 0, 0, 0, 0, 0, 0, 0, 0, 0, 0, 0, 0, 0, 0, 0, 0, 0, 0, 0, 0, 0, 0, 0, 0, 0, 0, 0, 0, 0, 0, 0, 0, 0, 0, 0, 0, 0, 0, 0, 0, 0, 0, 0, 0, 0, 0, 0, 0, 0, 0, 0, 0, 0, 0, 0, 0, 0, 0, 0, 0, 0, 0, 0, 0, 0, 0, 0, 0, 0, 0, 0, 0, 0, 0, 0, 0, 0, 0, 0, 0, 0, 0, 0, 0, 0, 0, 0, 0, 0, 0, 0, 0, 0, 0, 0, 0, 0, 0, 0, 0, 0, 0, 0, 0, 0, 0, 0, 0, 0, 0, 0, 0, 0, 0, 0, 0, 0, 0, 0, 0, 0, 0, 0, 0, 0, 0, 0, 0, 0, 0, 0, 0, 0, 0, 0, 0, 0, 0, 0, 0, 0, 0, 0, 0, 0, 0, 0, 0, 0, 0, 0, 0, 0, 0, 0, 0, 0, 0, 0, 0, 0, 0, 0, 0, 0, 0, 0, 0, 0, 0, 0, 0, 0, 0, 0, 0, 0, 0, 0, 0, 0, 0, 0, 0, 0, 0, 0, 0, 0, 0, 0, 0, 0, 0, 0, 0, 0, 0, 0, 0, 0, 0, 0, 0, 0, 0, 0, 0, 0, 0, 0, 0, 0, 0, 0, 0, 0, 0, 0, 0, 0, 0, 0, 0, 0, 0, 0, 0, 0, 0, 0, 0, 0, 0, 0, 0, 0, 0, 0, 0, 0, 0, 0, 0, 0, 0, 0, 0, 0, 0, 0, 0, 0, 0, 0, 0, 0, 0, 0, 0, 0, 0, 0, 0, 0, 0, 0, 0, 0, 0, 0, 0, 0, 0, 0, 0, 0, 0, 0, 0, 0, 0, 0, 0, 0, 0, 0, 0, 0, 0, 0, 0, 0, 0, 0, 0, 0, 0, 0, 0, 0, 0, 0, 0, 0, 0, 0, 0, 0, 0, 0, 0, 0, 0, 0, 0, 0, 0, 0, 0, 0, 0, 0, 0, 0, 0, 0, 0, 0, 0, 0, 0, 0, 0, 0, 0, 0, 0, 0, 0, 0, 0, 0, 0, 0, 0, 0, 0, 0, 0, 0, 0, 0, 0, 0, 0, 0, 0, 0, 0, 0, 0, 0, 0, 0, 0, 0, 0, 0, 0, 0, 0, 0, 0, 0, 0, 0, 0, 0, 0, 0, 0, 0, 0, 0, 0, 0, 0, 0, 0, 0, 0, 0, 0]⟩, .bool true, .int .u64 196608, .string ⟨#[112, 113]⟩, .bool true, .int .u64 262144, .string ⟨#[0, 0, 0, 0, 0, 0, 0, 0, 0, 0, 0, 0, 0, 0, 0, 0, 0, 0, 0, 0, 0, 0, 0, 0, 0, 0, 0, 0, 0, 0, 0, 0, 0, 0, 0, 0, 0, 0, 0, 0, 0, 0, 0, 0, 0, 0, 0, 0, 0, 0, 0, 0, 0, 0, 0, 0, 0, 0, 0, 0, 0, 0, 0, 0, 0, 0, 0, 0, 0, 0, 0, 0, 0, 0, 0, 0, 0, 0, 0, 0, 0, 0, 0, 0, 0, 0, 0, 0, 0, 0, 0, 0, 0, 0, 0, 0, 0, 0, 0, 0, 0, 0, 0, 0, 0, 0, 0, 0, 0, 0, 0, 0, 0, 0, 0, 0, 0, 0, 0, 0, 0, 0, 0, 0, 0, 0, 0, 0]⟩, .bool true]⟩, ⟨true, none, [.int .u64 65536, .slice (some ⟨21, 0, none⟩) 16 16, .bool false, .int .u64 65552, .slice (some ⟨24, 0, none⟩) 8 8, .bool true, .int .u64 131072, .slice (some ⟨27, 0, none⟩) 512 512, .bool true, .int .u64 196608, .slice (some ⟨30, 0, none⟩) 2 2, .bool true, .int .u64 262144, .slice (some ⟨33, 0, none⟩) 128 128, .bool true]⟩, ⟨true, none, [.bool true, .slice (some ⟨18, 0, none⟩) 5 5]⟩, ⟨true, none, [.int .u64 65536, .string ⟨#[0, 0, 3, 0, 0, 0, 0, 0, 2, 0, 3, 0, 0, 0, 0, 0]⟩, .bool false]⟩, ⟨true, some 1, [.int .u8 0, .int .u8 0, .int .u8 3, .int .u8 0, .int .u8 0, .int .u8 0, .int .u8 0, .int .u8 0, .int .u8 2, .int .u8 0, .int .u8 3, .int .u8 0, .int .u8 0, .int .u8 0, .int .u8 0, .int .u8 0]⟩, ⟨true, none, [.int .u64 65536, .slice (some ⟨21, 0, none⟩) 16 16, .bool false]⟩, ⟨true, none, [.int .u64 65552, .string ⟨#[9, 0, 0, 0, 0, 0, 0, 0]⟩, .bool true]⟩, ⟨true, some 1, [.int .u8 9, .int .u8 0, .int .u8 0, .int .u8 0, .int .u8 0, .int .u8 0, .int .u8 0, .int .u8 0]⟩, ⟨true, none, [.int .u64 65552, .slice (some ⟨24, 0, none⟩) 8 8, .bool true]⟩, ⟨true, none, [.int .u64 131072, .string ⟨#[0, 0, 0, 0, 0, 0, 0, 0, 0, 0, 0, 0, 0, 0, 0, 0, 0, 0, 0, 0, 0, 0, 0, 0, 0, 0, 0, 0, 0, 0, 0, 0, 0, 0, 0, 0, 0, 0, 0, 0, 0, 0, 0, 0, 0, 0, 0, 0, 0, 0, 0, 0, 0, 0, 0, 0, 0, 0, 0, 0, 0, 0, 0, 0, 0, 0, 0, 0, 0, 0, 0, 0, 0, 0, 0, 0, 0, 0, 0, 0, 0, 0, 0, 0, 0, 0, 0, 0, 0, 0, 0, 0, 0, 0, 0, 0, 0, 0, 0, 0, 0, 0, 0, 0, 0, 0, 0, 0, 0, 0, 0, 0, 0, 0, 0, 0, 0, 0, 0, 0, 0, 0, 0, 0, 0, 0, 0, 0, 0, 0, 0, 0, 0, 0, 0, 0, 0, 0, 0, 0, 0, 0, 0, 0, 0, 0, 0, 0, 0, 0, 0, 0, 0, 0, 0, 0, 0, 0, 0, 0, 0, 0, 0, 0, 0, 0, 0, 0, 0, 0, 0, 0, 0, 0, 0, 0, 0, 0, 0, 0, 0, 0, 0, 0, 0, 0, 0, 0, 0, 0, 0, 0, 0, 0, 0, 0, 0, 0, 0, 0, 0, 0, 0, 0, 0, 0, 0, 0, 0, 0, 0, 0, 0, 0, 0, 0, 0, 0, 0, 0, 0, 0, 0, 0, 0, 0, 0, 0, 0, 0, 0, 0, 0, 0, 0, 0, 0, 0, 0, 0, 0, 0, 0, 0, 0, 0, 0, 0, 0, 0, 0, 0, 0, 0, 0, 0, 0, 0, 0, 0, 0, 0, 0, 0, 0, 0, 0, 0, 0, 0, 0, 0, 0, 0, 0, 0, 0, 0, 0, 0, 0, 0, 0, 0, 0, 0, 0, 0, 0, 0, 0, 0, 0, 0, 0, 0, 0, 0, 0, 0, 0, 0, 0, 0, 0, 0, 0, 0, 0, 0, 0, 0, 0, 0, 0, 0, 0, 0, 0, 0, 0, 0, 0, 0, 0, 0, 0, 0, 0, 0, 0, 0, 0, 0, 0, 0, 0, 0, 0, 0, 0, 0, 0, 0, 0, 0, 0, 0, 0, 0, 0, 0, 0, 0, 0, 0, 0, 0, 0, 0, 0, 0, 0, 0, 0, 0, 0, 0, 0, 0, 0, 0, 0, 0, 0, 0, 0, 0, 0, 0, 0, 0, 0, 0, 0, 0, 0, 0, 0, 0, 0, 0, 0, 0, 0, 0, 0, 0, 0, 0, 0, 0, 0, 0, 0, 0, 0, 0, 0, 0, 0, 0, 0, 0, 0, 0, 0, 0, 0, 0, 0, 0, 0, 0, 0, 0, 0, 0, 0, 0, 0, 0, 0, 0, 0, 0, 0, 0, 0, 0, 0, 0, 0, 0, 0, 0, 0, 0, 0, 0, 0, 0, 0, 0, 0, 0, 0, 0, 0, 0, 0, 0, 0, 0, 0, 0, 0, 0, 0, 0, 0, 0, 0, 0, 0, 0, 0, 0, 0, 0, 0, 0, 0, 0, 0, 0, 0, 0, 0, 0, 0, 0, 0, 0, 0, 0, 0, 0, 0, 0, 0, 0, 0, 0, 0, 0, 0, 0, 0, 0, 0, 0]⟩, .bool true]⟩, ⟨true, some 1, [.int .u8 0, .int .u8 0, .int .u8 0, .int .u8 0, .int .u8 0, .int .u8 0, .int .u8 0, .int .u8 0, .int .u8 0, .int .u8 0, .int .u8 0, .int .u8 0, .int .u8 0, .int .u8 0, .int .u8 0, .int .u8 0, .int .u8 0, .int .u8 0, .int .u8 0, .int .u8 0, .int .u8 0, .int .u8 0, .int .u8 0, .int .u8 0, .int .u8 0, .int .u8 0, .int .u8 0, .int .u8 0, .int .u8 0, .int .u8 0, .int .u8 0, .int .u8 0, .int .u8 0, .int .u8 0, .int .u8 0, .int .u8 0, .int .u8 0, .int .u8 0, .int .u8 0, .int .u8 0, .int .u8 0, .int .u8 0, .int .u8 0, .int .u8 0, .int .u8 0, .int .u8 0, .int .u8 0, .int .u8 0, .int .u8 0, .int .u8 0, .int .u8 0, .int .u8 0, .int .u8 0, .int .u8 0, .int .u8 0, .int .u8 0, .int .u8 0, .int .u8 0, .int .u8 0, .int .u8 0, .int .u8 0, .int .u8 0, .int .u8 0, .int .u8 0, .int .u8 0, .int .u8 0, .int .u8 0, .int .u8 0, .int .u8 0, .int .u8 0, .int .u8 0, .int .u8 0, .int .u8 0, .int .u8 0, .int .u8 0, .int .u8 0, .int .u8 0, .int .u8 0, .int .u8 0, .int .u8 0, .int .u8 0, .int .u8 0, .int .u8 0, .int .u8 0, .int .u8 0, .int .u8 0, .int .u8 0, .int .u8 0, .int .u8 0, .int .u8 0, .int .u8 0, .int .u8 0, .int .u8 0, .int .u8 0, .int .u8 0, .int .u8 0, .int .u8 0, .int .u8 0, .int .u8 0, .int .u8 0, .int .u8 0, .int .u8 0, .int .u8 0, .int .u8 0, .int .u8 0, .int .u8 0, .int .u8 0, .int .u8 0, .int .u8 0, .int .u8 0, .int .u8 0, .int .u8 0, .int .u8 0, .int .u8 0, .int .u8 0, .int .u8 0, .int .u8 0, .int .u8 0, .int .u8 0, .int .u8 0, .int .u8 0, .int .u8 0, .int .u8 0, .int .u8 0, .int .u8 0, .int .u8 0, .int .u8 0, .int .u8 0, .int .u8 0, .int .u8 0, .int .u8 0, .int .u8 0, .int .u8 0, .int .u8 0, .int .u8 0, .int .u8 0, .int .u8 0, .int .u8 0, .int .u8 0, .int .u8 0, .int .u8 0, .int .u8 0, .int .u8 0, .int .u8 0, .int .u8 0, .int .u8 0, .int .u8 0, .int .u8 0, .int .u8 0, .int .u8 0, .int .u8 0, .int .u8 0, .int .u8 0, .int .u8 0, .int .u8 0, .int .u8 0, .int .u8 0, .int .u8 0, .int .u8 0, .int .u8 0, .int .u8 0, .int .u8 0, .int .u8 0, .int .u8 0, .int .u8 0, .int .u8 0, .int .u8 0, .int .u8 0, .int .u8 0, .int .u8 0, .int .u8 0, .int .u8 0, .int .u8 0, .int .u8 0, .int .u8 0, .int .u8 0, .int .u8 0, .int .u8 0, .int .u8 0, .int .u8 0, .int .u8 0, .int .u8 0, .int .u8 0, .int .u8 0, .int .u8 0, .int .u8 0, .int .u8 0, .int .u8 0, .int .u8 0, .int .u8 0, .int .u8 0, .int .u8 0, .int .u8 0, .int .u8 0, .int .u8 0, .int .u8 0, .int .u8 0, .int .u8 0, .int .u8 0, .int .u8 0, .int .u8 0, .int .u8 0, .int .u8 0, .int .u8 0, .int .u8 0, .int .u8 0, .int .u8 0, .int .u8 0, .int .u8 0, .int .u8 0, .int .u8 0, .int .u8 0, .int .u8 0, .int .u8 0, .int .u8 0, .int .u8 0, .int .u8 0, .int .u8 0, .int .u8 0, .int .u8 0, .int .u8 0, .int .u8 0, .int .u8 0, .int .u8 0, .int .u8 0, .int .u8 0, .int .u8 0, .int .u8 0, .int .u8 0, .int .u8 0, .int .u8 0, .int .u8 0, .int .u8 0, .int .u8 0, .int .u8 0, .int .u8 0, .int .u8 0, .int .u8 0, .int .u8 0, .int .u8 0, .int .u8 0, .int .u8 0, .int .u8 0, .int .u8 0, .int .u8 0, .int .u8 0, .int .u8 0, .int .u8 0, .int .u8 0, .int .u8 0, .int .u8 0, .int .u8 0, .int .u8 0, .int .u8 0, .int .u8 0, .int .u8 0, .int .u8 0, .int .u8 0, .int .u8 0, .int .u8 0, .int .u8 0, .int .u8 0, .int .u8 0, .int .u8 0, .int .u8 0, .int .u8 0, .int .u8 0, .int .u8 0, .int .u8 0, .int .u8 0, .int .u8 0, .int .u8 0, .int .u8 0, .int .u8 0, .int .u8 0, .int .u8 0, .int .u8 0, .int .u8 0, .int .u8 0, .int .u8 0, .int .u8 0, .int .u8 0, .int .u8 0, .int .u8 0, .int .u8 0, .int .u8 0, .int .u8 0, .int .u8 0, .int .u8 0, .int .u8 0, .int .u8 0, .int .u8 0, .int .u8 0, .int .u8 0, .int .u8 0, .int .u8 0, .int .u8 0, .int .u8 0, .int .u8 0, .int .u8 0, .int .u8 0, .int .u8 0, .int .u8 0, .int .u8 0, .int .u8 0, .int .u8 0, .int .u8 0, .int .u8 0, .int .u8 0, .int .u8 0, .int .u8 0, .int .u8 0, .int .u8 0, .int .u8 0, .int .u8 0, .int .u8 0, .int .u8 0, .int .u8 0, .int .u8 0, .int .u8 0, .int .u8 0, .int .u8 0, .int .u8 0, .int .u8 0, .int .u8 0, .int .u8 0, .int .u8 0, .int .u8 0, .int .u8 0, .int .u8 0, .int .u8 0, .int .u8 0, .int .u8 0, .int .u8 0, .int .u8 0, .int .u8 0, .int .u8 0, .int .u8 0, .int .u8 0, .int .u8 0, .int .u8 0, .int .u8 0, .int .u8 0, .int .u8 0, .int .u8 0, .int .u8 0, .int .u8 0, .int .u8 0, .int .u8 0, .int .u8 0, .int .u8 0, .int .u8 0, .int .u8 0, .int .u8 0, .int .u8 0, .int .u8 0, .int .u8 0, .int .u8 0, .int .u8 0, .int .u8 0, .int .u8 0, .int .u8 0, .int .u8 0, .int .u8 0, .int .u8 0, .int .u8 0, .int .u8 0, .int .u8 0, .int .u8 0, .int .u8 0, .int .u8 0, .int .u8 0, .int .u8 0, .int .u8 0, .int .u8 0, .int .u8 0, .int .u8 0, .int .u8 0, .int .u8 0, .int .u8 0, .int .u8 0, .int .u8 0, .int .u8 0, .int .u8 0, .int .u8 0, .int .u8 0, .int .u8 0, .int .u8 0, .int .u8 0, .int .u8 0, .int .u8 0, .int .u8 0, .int .u8 0, .int .u8 0, .int .u8 0, .int .u8 0, .int .u8 0, .int .u8 0, .int .u8 0, .int .u8 0, .int .u8 0, .int .u8 0, .int .u8 0, .int .u8 0, .int .u8 0, .int .u8 0, .int .u8 0, .int .u8 0, .int .u8 0, .int .u8 0, .int .u8 0, .int .u8 0, .int .u8 0, .int .u8 0, .int .u8 0, .int .u8 0, .int .u8 0, .int .u8 0, .int .u8 0, .int .u8 0, .int .u8 0, .int .u8 0, .int .u8 0, .int .u8 0, .int .u8 0, .int .u8 0, .int .u8 0, .int .u8 0, .int .u8 0, .int .u8 0, .int .u8 0, .int .u8 0, .int .u8 0, .int .u8 0, .int .u8 0, .int .u8 0, .int .u8 0, .int .u8 0, .int .u8 0, .int .u8 0, .int .u8 0, .int .u8 0, .int .u8 0, .int .u8 0, .int .u8 0, .int .u8 0, .int .u8 0, .int .u8 0, .int .u8 0, .int .u8 0, .int .u8 0, .int .u8 0, .int .u8 0, .int .u8 0, .int .u8 0, .int .u8 0, .int .u8 0, .int .u8 0, .int .u8 0, .int .u8 0, .int .u8 0, .int .u8 0, .int .u8 0, .int .u8 0, .int .u8 0, .int .u8 0, .int .u8 0, .int .u8 0, .int .u8 0, .int .u8 0, .int .u8 0, .int .u8 0, .int .u8 0, .int .u8 0, .int .u8 0, .int .u8 0, .int .u8 0, .int .u8 0, .int .u8 0, .int .u8 0, .int .u8 0, .int .u8 0, .int .u8 0, .int .u8 0, .int .u8 0, .int .u8 0, .int .u8 0, .int .u8 0, .int .u8 0, .int .u8 0, .int .u8 0, .int .u8 0, .int .u8 0, .int .u8 0, .int .u8 0, .int .u8 0, .int .u8 0, .int .u8 0, .int .u8 0, .int .u8 0, .int .u8 0, .int .u8 0, .int .u8 0, .int .u8 0, .int .u8 0, .int .u8 0, .int .u8 0, .int .u8 0, .int .u8 0, .int .u8 0, .int .u8 0, .int .u8 0]⟩, ⟨true, none, [.int .u64 131072, .slice (some ⟨27, 0, none⟩) 512 512, .bool true]⟩, ⟨true, none, [.int .u64 196608, .string ⟨#[112, 113]⟩, .bool true]⟩, ⟨true, some 1, [.int .u8 112, .int .u8 113]⟩, ⟨true, none, [.int .u64 196608, .slice (some ⟨30, 0, none⟩) 2 2, .bool true]⟩, ⟨true, none, [.int .u64 262144, .string ⟨#[0, 0, 0, 0, 0, 0, 0, 0, 0, 0, 0, 0, 0, 0, 0, 0, 0, 0, 0, 0, 0, 0, 0, 0, 0, 0, 0, 0, 0, 0, 0, 0, 0, 0, 0, 0, 0, 0, 0, 0, 0, 0, 0, 0, 0, 0, 0, 0, 0, 0, 0, 0, 0, 0, 0, 0, 0, 0, 0, 0, 0, 0, 0, 0, 0, 0, 0, 0, 0, 0, 0, 0, 0, 0, 0, 0, 0, 0, 0, 0, 0, 0, 0, 0, 0, 0, 0, 0, 0, 0, 0, 0, 0, 0, 0, 0, 0, 0, 0, 0, 0, 0, 0, 0, 0, 0, 0, 0, 0, 0, 0, 0, 0, 0, 0, 0, 0, 0, 0, 0, 0, 0, 0, 0, 0, 0, 0, 0]⟩, .bool true]⟩, ⟨true, some 1, [.int .u8 0, .int .u8 0, .int .u8 0, .int .u8 0, .int .u8 0, .int .u8 0, .int .u8 0, .int .u8 0, .int .u8 0, .int .u8 0, .int .u8 0, .int .u8 0, .int .u8 0, .int .u8 0, .int .u8 0, .int .u8 0, .int .u8 0, .int .u8 0, .int .u8 0, .int .u8 0, .int .u8 0, .int .u8 0, .int .u8 0, .int .u8 0, .int .u8 0, .int .u8 0, .int .u8 0, .int .u8 0, .int .u8 0, .int .u8 0, .int .u8 0, .int .u8 0, .int .u8 0, .int .u8 0, .int .u8 0, .int .u8 0, .int .u8 0, .int .u8 0, .int .u8 0, .int .u8 0, .int .u8 0, .int .u8 0, .int .u8 0, .int .u8 0, .int .u8 0, .int .u8 0, .int .u8 0, .int .u8 0, .int .u8 0, .int .u8 0, .int .u8 0, .int .u8 0, .int .u8 0, .int .u8 0, .int .u8 0, .int .u8 0, .int .u8 0, .int .u8 0, .int .u8 0, .int .u8 0, .int .u8 0, .int .u8 0, .int .u8 0, .int .u8 0, .int .u8 0, .int .u8 0, .int .u8 0, .int .u8 0, .int .u8 0, .int .u8 0, .int .u8 0, .int .u8 0, .int .u8 0, .int .u8 0, .int .u8 0, .int .u8 0, .int .u8 0, .int .u8 0, .int .u8 0, .int .u8 0, .int .u8 0, .int .u8 0, .int .u8 0, .int .u8 0, .int .u8 0, .int .u8 0, .int .u8 0, .int .u8 0, .int .u8 0, .int .u8 0, .int .u8 0, .int .u8 0, .int .u8 0, .int .u8 0, .int .u8 0, .int .u8 0, .int .u8 0, .int .u8 0, .int .u8 0, .int .u8 0, .int .u8 0, .int .u8 0, .int .u8 0, .int .u8 0, .int .u8 0, .int .u8 0, .int .u8 0, .int .u8 0, .int .u8 0, .int .u8 0, .int .u8 0, .int .u8 0, .int .u8 0, .int .u8 0, .int .u8 0, .int .u8 0, .int .u8 0, .int .u8 0, .int .u8 0, .int .u8 0, .int .u8 0, .int .u8 0, .int .u8 0, .int .u8 0, .int .u8 0, .int .u8 0, .int .u8 0, .int .u8 0]⟩, ⟨true, none, [.int .u64 262144, .slice (some ⟨33, 0, none⟩) 128 128, .bool true]⟩, ⟨true, none, [.int .u64 65536, .slice (some ⟨21, 0, none⟩) 16 16, .bool false]⟩, ⟨true, none, [.int .u64 65552, .slice (some ⟨24, 0, none⟩) 8 8, .bool true]⟩, ⟨true, none, [.int .u64 131072, .slice (some ⟨27, 0, none⟩) 512 512, .bool true]⟩, ⟨true, none, [.int .u64 196608, .slice (some ⟨30, 0, none⟩) 2 2, .bool true]⟩, ⟨true, none, [.bool true, .slice none 0 0, .slice none 0 0, .pointer (some ⟨19, 0, none⟩)]⟩, ⟨true, none, [.slice none 0 0, .int .i64 2, .pointer (some ⟨19, 0, none⟩), .pointer (some ⟨39, 0, none⟩), .slice none 0 0, .slice (some ⟨13, 0, none⟩) 4 4]⟩]⟩
theorem new10_0_ok : LayOk Tryz.prog new10_0 := layL_mk2 noNG (lift_ok (guard_ok repHook_ok)) noLoop_low (noLoop_ok _) noOrc new10_0 rfl (by kernel_rfl)
def new10_1 : LayCall := ⟨9, [.agg ⟨[.slice none 0 0, .int .i64 1]⟩, .agg ⟨[.string ⟨#[97]⟩, .int .u64 0, .slice none 0 0, .slice none 0 0]⟩, .slice none 0 0], 5, .tuple ⟨[.pointer (some ⟨42, 0, none⟩), .int .i64 0]⟩, [⟨true, none, [.slice none 0 0, .int .i64 1]⟩, ⟨true, none, [.string ⟨#[97]⟩, .int .u64 0, .slice none 0 0, .slice none 0 0]⟩, ⟨true, none, [.string ⟨#[97]⟩, .int .u64 0, .slice none 0 0, .slice none 0 0]⟩, ⟨true, none, [.int .u64 65536, .string ⟨#[0, 0, 3, 0, 0, 0, 0, 0, 1, 0, 3, 0, 0, 0, 0, 0]⟩, .bool false, .int .u64 65552, .string ⟨#[0, 0, 0, 0, 0, 0, 0, 0]⟩, .bool true]⟩, ⟨true, none, [.int .u64 131072, .string ⟨#[0, 0, 0, 0, 0, 0, 0, 0, 0, 0, 0, 0, 0, 0, 0, 0, 0, 0, 0, 0, 0, 0, 0, 0, 0, 0, 0, 0, 0, 0, 0, 0, 0, 0, 0, 0, 0, 0, 0, 0, 0, 0, 0, 0, 0, 0, 0, 0, 0, 0, 0, 0, 0, 0, 0, 0, 0, 0, 0, 0, 0, 0, 0, 0, 0, 0, 0, 0, 0, 0, 0, 0, 0, 0, 0, 0, 0, 0, 0, 0, 0, 0, 0, 0, 0, 0, 0, 0, 0, 0, 0, 0, 0, 0, 0, 0, 0, 0, 0, 0, 0, 0, 0, 0, 0, 0, 0, 0, 0, 0, 0, 0, 0, 0, 0, 0, 0, 0, 0, 0, 0, 0, 0, 0, 0, 0, 0, 0, 0, 0, 0, 0, 0, 0, 0, 0, 0, 0, 0, 0, 0, 0, 0, 0, 0, 0, 0, 0, 0, 0, 0, 0, 0, 0, 0, 0, 0, 0, 0, 0, 0, 0, 0, 0, 0, 0, 0, 0, 0, 0, 0, 0, 0, 0, 0, 0, 0, 0, 0, 0, 0, 0, 0, 0, 0, 0, 0, 0, 0, 0, 0, 0, 0, 0, 0, 0, 0, 0, 0, 0, 0, 0, 0, 0, 0, 0, 0, 0, 0, 0, 0, 0, 0, 0, 0, 0, 0, 0, 0, 0, 0, 0, 0, 0, 0, 0, 0, 0, 0, 0, 0, 0, 0, 0, 0, 0, 0, 0, 0, 0, 0, 0, 0, 0, 0, 0, 0, 0, 0, 0, 0, 0, 0, 0, 0, 0, 0, 0, 0, 0, 0, 0, 0, 0, 0, 0, 0, 0, 0, 0, 0, 0, 0, 0, 0, 0, 0, 0, 0, 0, 0, 0, 0, 0, 0, 0, 0, 0, 0, 0, 0, 0, 0, 0, 0, 0, 0, 0, 0, 0, 0, 0, 0, 0, 0, 0, 0, 0, 0, 0, 0, 0, 0, 0, 0, 0, 0, 0, 0, 0, 0, 0, 0, 0, 0, 0, 0, 0, 0, 0, 0, 0, 0, 0, 0, 0, 0, 0, 0, 0, 0, 0, 0, 0, 0, 0, 0, 0, 0, 0, 0, 0, 0, 0, 0, 0, 0, 0, 0, 0, 0, 0, 0, 0, 0, 0, 0, 0, 0, 0, 0, 0, 0, 0, 0, 0, 0, 0, 0, 0, 0, 0, 0, 0, 0, 0, 0, 0, 0, 0, 0, 0, 0, 0, 0, 0, 0, 0, 0, 0, 0, 0, 0, 0, 0, 0, 0, 0, 0, 0, 0, 0, 0, 0, 0, 0, 0, 0, 0, 0, 0, 0, 0, 0, 0, 0, 0, 0, 0, 0, 0, 0, 0, 0, 0, 0, 0, 0, 0, 0, 0, 0, 0, 0, 0, 0, 0, 0, 0, 0, 0, 0, 0, 0, 0, 0, 0, 0, 0, 0, 0, 0, 0, 0, 0, 0, 0, 0, 0, 0, 0, 0, 0, 0, 0, 0, 0, 0, 0, 0, 0, 0, 0, 0, 0, 0, 0, 0, 0, 0, 0, 0, 0, 0, 0, 0, 0, 0, 0, 0, 0, 0, 0, 0, 0, 0, 0, 0, 0, 0, 0, 0]⟩, .bool true]⟩, ⟨true, none, [.string ⟨#[97]⟩, .int .u64 0, .slice none 0 0, .slice none 0 0]⟩, ⟨true, none, [.int .u64 196608, .string ⟨#[97]⟩, .bool true]⟩, ⟨true, none, [.slice (some ⟨8, 0, none⟩) 2 2, .slice (some ⟨9, 0, none⟩) 1 1, .slice (some ⟨11, 0, none⟩) 1 1, .slice none 0 0]⟩, ⟨false, none, []⟩, ⟨false, none, []⟩, ⟨true, some 3, [.int .u64 65536, .string ⟨#[0, 0, 3, 0, 0, 0, 0, 0, 1, 0, 3, 0, 0, 0, 0, 0]⟩, .bool false, .int .u64 65552, .string ⟨#[0, 0, 0, 0, 0, 0, 0, 0]⟩, .bool true, .int .u64 131072, .string ⟨#[0, 0, 0, 0, 0, 0, 0, 0, 0, 0, 0, 0, 0, 0, 0, 0, 0, 0, 0, 0, 0, 0, 0, 0, 0, 0, 0, 0, 0, 0, 0, 0, 0, 0, 0, 0, 0, 0, 0, 0, 0, 0, 0, 0, 0, 0, 0, 0, 0, 0, 0, 0, 0, 0, 0, 0, 0, 0, 0, 0, 0, 0, 0, 0, 0, 0, 0, 0, 0, 0, 0, 0, 0, 0, 0, 0, 0, 0, 0, 0, 0, 0, 0, 0, 0, 0, 0, 0, 0, 0, 0, 0, 0, 0, 0, 0, 0, 0, 0, 0, 0, 0, 0, 0, 0, 0, 0, 0, 0, 0, 0, 0, 0, 0, 0, 0, 0, 0, 0, 0, 0, 0, 0, 0, 0, 0, 0, 0, 0, 0, 0, 0, 0, 0, 0, 0, 0, 0, 0, 0, 0, 0, 0, 0, 0, 0, 0, 0, 0, 0, 0, 0, 0, 0, 0, 0, 0, 0, 0, 0, 0, 0, 0, 0, 0, 0, 0, 0, 0, 0, 0, 0, 0, 0, 0, 0, 0, 0, 0, 0, 0, 0, 0, 0, 0, 0, 0, 0, 0, 0, 0, 0, 0, 0, 0, 0, 0, 0, 0, 0, 0, 0, 0, 0, 0, 0, 0, 0, 0, 0, 0, 0, 0, 0, 0, 0, 0, 0, 0, 0, 0, 0, 0, 0, 0, 0, 0, 0, 0, 0, 0, 0, 0, 0, 0, 0, 0, 0, 0, 0, 0, 0, 0, 0, 0, 0, 0, 0, 0, 0, 0, 0, 0, 0, 0, 0, 0, 0, 0, 0, 0, 0, 0, 0, 0, 0, 0, 0, 0, 0, 0, 0, 0, 0, 0, 0, 0, 0, 0, 0, 0, 0, 0, 0, 0, 0, 0, 0, 0, 0, 0, 0, 0, 0, 0, 0, 0, 0, 0, 0, 0, 0, 0, 0, 0, 0, 0, 0, 0, 0, 0, 0, 0, 0, 0, 0, 0, 0, 0, 0, 0, 0, 0, 0, 0, 0, 0, 0, 0, 0, 0, 0, 0, 0, 0, 0, 0, 0, 0, 0, 0, 0, 0, 0, 0, 0, 0, 0, 0, 0, 0, 0, 0, 0, 0, 0, 0, 0, 0, 0, 0, 0, 0, 0, 0, 0, 0, 0, 0, 0, 0, 0, 0, 0, 0, 0, 0, 0, 0, 0, 0, 0, 0, 0, 0, 0, 0, 0, 0, 0, 0, 0, 0, 0, 0, 0, 0, 0, 0, 0, 0, 0, 0, 0, 0, 0, 0, 0, 0, 0, 0, 0, 0, 0, 0, 0, 0, 0, 0, 0, 0, 0, 0, 0, 0, 0, 0, 0, 0, 0, 0, 0, 0, 0, 0, 0, 0, 0, 0, 0, 0, 0, 0, 0, 0, 0, 0, 0, 0, 0, 0, 0, 0, 0, 0, 0, 0, 0, 0, 0, 0, 0, 0, 0, 0, 0, 0, 0, 0, 0, 0, 0, 0, 0, 0, 0, 0, 0, 0, 0, 0, 0, 0, 0, 0, 0, 0, 0, 0, 0, 0, 0, 0, 0, 0, 0, 0, 0, 0, 0, 0, 0, 0, 0, 0, 0, 0, 0, 0, 0, 0, 0]⟩, .bool true, .int .u64 196608, .string ⟨#[97]⟩, .bool true]⟩, ⟨true, none, [.int .u64 262144, .string ⟨#[0, 0, 0, 0, 0, 0, 0, 0, 0, 0, 0, 0, 0, 0, 0, 0, 0, 0, 0, 0, 0, 0, 0, 0, 0, 0, 0, 0, 0, 0, 0, 0, 0, 0, 0, 0, 0, 0, 0, 0, 0, 0, 0, 0, 0, 0, 0, 0, 0, 0, 0, 0, 0, 0, 0, 0, 0, 0, 0, 0, 0, 0, 0, 0, 0, 0, 0, 0, 0, 0, 0, 0, 0, 0, 0, 0, 0, 0, 0, 0, 0, 0, 0, 0, 0, 0, 0, 0, 0, 0, 0, 0, 0, 0, 0, 0, 0, 0, 0, 0, 0, 0, 0, 0, 0, 0, 0, 0, 0, 0, 0, 0, 0, 0, 0, 0, 0, 0, 0, 0, 0, 0, 0, 0, 0, 0, 0, 0]⟩, .bool true]⟩, ⟨true, none, [.slice (some ⟨15, 0, none⟩) 4 4, .slice (some ⟨16, 0, none⟩) 1 1, .slice none 0 0]⟩, ⟨false, none, []⟩, ⟨true, some 3, [.int .u64 65536, .string ⟨#[0, 0, 3, 0, 0, 0, 0, 0, 1, 0, 3, 0, 0, 0, 0, 0]⟩, .bool false, .int .u64 65552, .string ⟨#[0, 0, 0, 0, 0, 0, 0, 0]⟩, .bool true, .int .u64 131072, .string ⟨#[0, 0, 0, 0, 0, 0, 0, 0, 0, 0, 0, 0, 0, 0, 0, 0, 0, 0, 0, 0, 0, 0, 0, 0, 0, 0, 0, 0, 0, 0, 0, 0, 0, 0, 0, 0, 0, 0, 0, 0, 0, 0, 0, 0, 0, 0, 0, 0, 0, 0, 0, 0, 0, 0, 0, 0, 0, 0, 0, 0, 0, 0, 0, 0, 0, 0, 0, 0, 0, 0, 0, 0, 0, 0, 0, 0, 0, 0, 0, 0, 0, 0, 0, 0, 0, 0, 0, 0, 0, 0, 0, 0, 0, 0, 0, 0, 0, 0, 0, 0, 0, 0, 0, 0, 0, 0, 0, 0, 0, 0, 0, 0, 0, 0, 0, 0, 0, 0, 0, 0, 0, 0, 0, 0, 0, 0, 0, 0, 0, 0, 0, 0, 0, 0, 0, 0, 0, 0, 0, 0, 0, 0, 0, 0, 0, 0, 0, 0, 0, 0, 0, 0, 0, 0, 0, 0, 0, 0, 0, 0, 0, 0, 0, 0, 0, 0, 0, 0, 0, 0, 0, 0, 0, 0, 0, 0, 0, 0, 0, 0, 0, 0, 0, 0, 0, 0, 0, 0, 0, 0, 0, 0, 0, 0, 0, 0, 0, 0, 0, 0, 0, 0, 0, 0, 0, 0, 0, 0, 0, 0, 0, 0, 0, 0, 0, 0, 0, 0, 0, 0, 0, 0, 0, 0, 0, 0, 0, 0, 0, 0, 0, 0, 0, 0, 0, 0, 0, 0, 0, 0, 0, 0, 0, 0, 0, 0, 0, 0, 0, 0, 0, 0, 0, 0, 0, 0, 0, 0, 0, 0, 0, 0, 0, 0, 0, 0, 0, 0, 0, 0, 0, 0, 0, 0, 0, 0, 0, 0, 0, 0, 0, 0, 0, 0, 0, 0, 0, 0, 0, 0, 0, 0, 0, 0, 0, 0, 0, 0, 0, 0, 0, 0, 0, 0, 0, 0, 0, 0, 0, 0, 0, 0, 0, 0, 0, 0, 0, 0, 0, 0, 0, 0, 0, 0, 0, 0, 0, 0, 0, 0, 0, 0, 0, 0, 0, 0, 0, 0, 0, 0, 0, 0, 0, 0, 0, 0, 0, 0, 0, 0, 0, 0, 0, 0, 0, 0, 0, 0, 0, 0, 0, 0, 0, 0, 0, 0, 0, 0, 0, 0, 0, 0, 0, 0, 0, 0, 0, 0, 0, 0, 0, 0, 0, 0, 0, 0, 0, 0, 0, 0, 0, 0, 0, 0, 0, 0, 0, 0, 0, 0, 0, 0, 0, 0, 0, 0, 0, 0, 0, 0, 0, 0, 0, 0, 0, 0, 0, 0, 0, 0, 0, 0, 0, 0, 0, 0, 0, 0, 0, 0, 0, 0, 0, 0, 0, 0, 0, 0, 0, 0, 0, 0, 0, 0, 0, 0, 0, 0, 0, 0, 0, 0, 0, 0, 0, 0, 0, 0, 0, 0, 0, 0, 0, 0, 0, 0, 0, 0, 0, 0, 0, 0, 0, 0, 0, 0, 0, 0, 0, 0, 0, 0, 0, 0, 0, 0, 0, 0, 0, 0, 0, 0, 0, 0, 0, 0, 0, 0, 0, 0, 0, 0, 0, 0, 0, 0, 0, 0, 0, 0, 0, 0]⟩, .bool true, .int .u64 196608, .string ⟨#[97]⟩, .bool true, .int .u64 262144, .string ⟨#[0, 0, 0, 0, 0, 0, 0, 0, 0, 0, 0, 0, 0, 0, 0, 0, 0, 0, 0, 0, 0, 0, 0, 0, 0, 0, 0, 0, 0, 0, 0, 0, 0, 0, 0, 0, 0, 0, 0, 0, 0, 0, 0, 0, 0, 0, 0, 0, 0, 0, 0, 0, 0, 0, 0, 0, 0, 0, 0, 0, 0, 0, 0, 0, 0, 0, 0, 0, 0, 0, 0, 0, 0, 0, 0, 0, 0, 0, 0, 0, 0, 0, 0, 0, 0, 0, 0, 0, 0, 0, 0, 0, 0, 0, 0, 0, 0, 0, 0, 0, 0, 0, 0, 0, 0, 0, 0, 0, 0, 0, 0, 0, 0, 0, 0, 0, 0, 0, 0, 0, 0, 0, 0, 0, 0, 0, 0, 0]⟩, .bool true]⟩, ⟨true, none, [.int .u64 65536, .slice (some ⟨23, 0, none⟩) 16 16, .bool false, .int .u64 65552, .slice (some ⟨26, 0, none⟩) 8 8, .bool true, .int .u64 131072, .slice (some ⟨29, 0, none⟩) 512 512, .bool true, .int .u64 196608, .slice (some ⟨32, 0, none⟩) 1 1, .bool true, .int .u64 262144, .slice (some ⟨35, 0, none⟩) 128 128, .bool true]⟩, ⟨true, none, [.bool true, .slice (some ⟨20, 0, none⟩) 5 5]⟩, ⟨true, none, [.int .u64 65536, .string ⟨#[0, 0, 3, 0, 0, 0, 0, 0, 1, 0, 3, 0, 0, 0, 0, 0]⟩, .bool false]⟩, ⟨true, some 1, [.int .u8 0, .int .u8 0, .int .u8 3, .int .u8 0, .int .u8 0, .int .u8 0, .int .u8 0, .int .u8 0, .int .u8 1, .int .u8 0, .int .u8 3, .int .u8 0, .int .u8 0, .int .u8 0, .int .u8 0, .int .u8 0]⟩, ⟨true, none, [.int .u64 65536, .slice (some ⟨23, 0, none⟩) 16 16, .bool false]⟩, ⟨true, none, [.int .u64 65552, .string ⟨#[0, 0, 0, 0, 0, 0, 0, 0]⟩, .bool true]⟩, ⟨true, some 1, [.int .u8 0, .int .u8 0, .int .u8 0, .int .u8 0, .int .u8 0, .int .u8 0, .int .u8 0, .int .u8 0]⟩, ⟨true, none, [.int .u64 65552, .slice (some ⟨26, 0, none⟩) 8 8, .bool true]⟩, ⟨true, none, [.int .u64 131072, .string ⟨#[0, 0, 0, 0, 0, 0, 0, 0, 0, 0, 0, 0, 0, 0, 0, 0, 0, 0, 0, 0, 0, 0, 0, 0, 0, 0, 0, 0, 0, 0, 0, 0, 0, 0, 0, 0, 0, 0, 0, 0, 0, 0, 0, 0, 0, 0, 0, 0, 0, 0, 0, 0, 0, 0, 0, 0, 0, 0, 0, 0, 0, 0, 0, 0, 0, 0, 0, 0, 0, 0, 0, 0, 0, 0, 0, 0, 0, 0, 0, 0, 0, 0, 0, 0, 0, 0, 0, 0, 0, 0, 0, 0, 0, 0, 0, 0, 0, 0, 0, 0, 0, 0, 0, 0, 0, 0, 0, 0, 0, 0, 0, 0, 0, 0, 0, 0, 0, 0, 0, 0, 0, 0, 0, 0, 0, 0, 0, 0, 0, 0, 0, 0, 0, 0, 0, 0, 0, 0, 0, 0, 0, 0, 0, 0, 0, 0, 0, 0, 0, 0, 0, 0, 0, 0, 0, 0, 0, 0, 0, 0, 0, 0, 0, 0, 0, 0, 0, 0, 0, 0, 0, 0, 0, 0, 0, 0, 0, 0, 0, 0, 0, 0, 0, 0, 0, 0, 0, 0, 0, 0, 0, 0, 0, 0, 0, 0, 0, 0, 0, 0, 0, 0, 0, 0, 0, 0, 0, 0, 0, 0, 0, 0, 0, 0, 0, 0, 0, 0, 0, 0, 0, 0, 0, 0, 0, 0, 0, 0, 0, 0, 0, 0, 0, 0, 0, 0, 0, 0, 0, 0, 0, 0, 0, 0, 0, 0, 0, 0, 0, 0, 0, 0, 0, 0, 0, 0, 0, 0, 0, 0, 0, 0, 0, 0, 0, 0, 0, 0, 0, 0, 0, 0, 0, 0, 0, 0, 0, 0, 0, 0, 0, 0, 0, 0, 0, 0, 0, 0, 0, 0, 0, 0, 0, 0, 0, 0, 0, 0, 0, 0, 0, 0, 0, 0, 0, 0, 0, 0, 0, 0, 0, 0, 0, 0, 0, 0, 0, 0, 0, 0, 0, 0, 0, 0, 0, 0, 0, 0, 0, 0, 0, 0, 0, 0, 0, 0, 0, 0, 0, 0, 0, 0, 0, 0, 0, 0, 0, 0, 0, 0, 0, 0, 0, 0, 0, 0, 0, 0, 0, 0, 0, 0, 0, 0, 0, 0, 0, 0, 0, 0, 0, 0, 0, 0, 0, 0, 0, 0, 0, 0, 0, 0, 0, 0, 0, 0, 0, 0, 0, 0, 0, 0, 0, 0, 0, 0, 0, 0, 0, 0, 0, 0, 0, 0, 0, 0, 0, 0, 0, 0, 0, 0, 0, 0, 0, 0, 0, 0, 0, 0, 0, 0, 0, 0, 0, 0, 0, 0, 0, 0, 0, 0, 0, 0, 0, 0, 0, 0, 0, 0, 0, 0, 0, 0, 0, 0, 0, 0, 0, 0, 0, 0, 0, 0, 0, 0, 0, 0, 0, 0, 0, 0, 0, 0, 0, 0, 0, 0, 0, 0, 0, 0, 0, 0, 0, 0, 0, 0, 0, 0, 0, 0, 0, 0, 0, 0, 0, 0, 0, 0, 0, 0, 0, 0, 0, 0, 0, 0, 0, 0, 0, 0, 0, 0, 0, 0, 0, 0, 0, 0, 0, 0]⟩, .bool true]⟩, ⟨true, some 1, [.int .u8 0, .int .u8 0, .int .u8 0, .int .u8 0, .int .u8 0, .int .u8 0, .int .u8 0, .int .u8 0, .int .u8 0, .int .u8 0, .int .u8 0, .int .u8 0, .int .u8 0, .int .u8 0, .int .u8 0, .int .u8 0, .int .u8 0, .int .u8 0, .int .u8 0, .int .u8 0, .int .u8 0, .int .u8 0, .int .u8 0, .int .u8 0, .int .u8 0, .int .u8 0, .int .u8 0, .int .u8 0, .int .u8 0, .int .u8 0, .int .u8 0, .int .u8 0, .int .u8 0, .int .u8 0, .int .u8 0, .int .u8 0, .int .u8 0, .int .u8 0, .int .u8 0, .int .u8 0, .int .u8 0, .int .u8 0, .int .u8 0, .int .u8 0, .int .u8 0, .int .u8 0, .int .u8 0, .int .u8 0, .int .u8 0, .int .u8 0, .int .u8 0, .int .u8 0, .int .u8 0, .int .u8 0, .int .u8 0, .int .u8 0, .int .u8 0, .int .u8 0, .int .u8 0, .int .u8 0, .int .u8 0, .int .u8 0, .int .u8 0, .int .u8 0, .int .u8 0, .int .u8 0, .int .u8 0, .int .u8 0, .int .u8 0, .int .u8 0, .int .u8 0, .int .u8 0, .int .u8 0, .int .u8 0, .int .u8 0, .int .u8 0, .int .u8 0, .int .u8 0, .int .u8 0, .int .u8 0, .int .u8 0, .int .u8 0, .int .u8 0, .int .u8 0, .int .u8 0, .int .u8 0, .int .u8 0, .int .u8 0, .int .u8 0, .int .u8 0, .int .u8 0, .int .u8 0, .int .u8 0, .int .u8 0, .int .u8 0, .int .u8 0, .int .u8 0, .int .u8 0, .int .u8 0, .int .u8 0, .int .u8 0, .int .u8 0, .int .u8 0, .int .u8 0, .int .u8 0, .int .u8 0, .int .u8 0, .int .u8 0, .int .u8 0, .int .u8 0, .int .u8 0, .int .u8 0, .int .u8 0, .int .u8 0, .int .u8 0, .int .u8 0, .int .u8 0, .int .u8 0, .int .u8 0, .int .u8 0, .int .u8 0, .int .u8 0, .int .u8 0, .int .u8 0, .int .u8 0, .int .u8 0, .int .u8 0, .int .u8 0, .int .u8 0, .int .u8 0, .int .u8 0, .int .u8 0, .int .u8 0, .int .u8 0, .int .u8 0, .int .u8 0, .int .u8 0, .int .u8 0, .int .u8 0, .int .u8 0, .int .u8 0, .int .u8 0, .int .u8 0, .int .u8 0, .int .u8 0, .int .u8 0, .int .u8 0, .int .u8 0, .int .u8 0, .int .u8 0, .int .u8 0, .int .u8 0, .int .u8 0, .int .u8 0, .int .u8 0, .int .u8 0, .int .u8 0, .int .u8 0, .int .u8 0, .int .u8 0, .int .u8 0, .int .u8 0, .int .u8 0, .int .u8 0, .int .u8 0, .int .u8 0, .int .u8 0, .int .u8 0, .int .u8 0, .int .u8 0, .int .u8 0, .int .u8 0, .int .u8 0, .int .u8 0, .int .u8 0, .int .u8 0, .int .u8 0, .int .u8 0, .int .u8 0, .int .u8 0, .int .u8 0, .int .u8 0, .int .u8 0, .int .u8 0, .int .u8 0, .int .u8 0, .int .u8 0, .int .u8 0, .int .u8 0, .int .u8 0, .int .u8 0, .int .u8 0, .int .u8 0, .int .u8 0, .int .u8 0, .int .u8 0, .int .u8 0, .int .u8 0, .int .u8 0, .int .u8 0, .int .u8 0, .int .u8 0, .int .u8 0, .int .u8 0, .int .u8 0, .int .u8 0, .int .u8 0, .int .u8 0, .int .u8 0, .int .u8 0, .int .u8 0, .int .u8 0, .int .u8 0, .int .u8 0, .int .u8 0, .int .u8 0, .int .u8 0, .int .u8 0, .int .u8 0, .int .u8 0, .int .u8 0, .int .u8 0, .int .u8 0, .int .u8 0, .int .u8 0, .int .u8 0, .int .u8 0, .int .u8 0, .int .u8 0, .int .u8 0, .int .u8 0, .int .u8 0, .int .u8 0, .int .u8 0, .int .u8 0, .int .u8 0, .int .u8 0, .int .u8 0, .int .u8 0, .int .u8 0, .int .u8 0, .int .u8 0, .int .u8 0, .int .u8 0, .int .u8 0, .int .u8 0, .int .u8 0, .int .u8 0, .int .u8 0, .int .u8 0, .int .u8 0, .int .u8 0, .int .u8 0, .int .u8 0, .int .u8 0, .int .u8 0, .int .u8 0, .int .u8 0, .int .u8 0, .int .u8 0, .int .u8 0, .int .u8 0, .int .u8 0, .int .u8 0, .int .u8 0, .int .u8 0, .int .u8 0, .int .u8 0, .int .u8 0, .int .u8 0, .int .u8 0, .int .u8 0, .int .u8 0, .int .u8 0, .int .u8 0, .int .u8 0, .int .u8 0, .int .u8 0, .int .u8 0, .int .u8 0, .int .u8 0, .int .u8 0, .int .u8 0, .int .u8 0, .int .u8 0, .int .u8 0, .int .u8 0, .int .u8 0, .int .u8 0, .int .u8 0, .int .u8 0, .int .u8 0, .int .u8 0, .int .u8 0, .int .u8 0, .int .u8 0, .int .u8 0, .int .u8 0, .int .u8 0, .int .u8 0, .int .u8 0, .int .u8 0, .int .u8 0, .int .u8 0, .int .u8 0, .int .u8 0, .int .u8 0, .int .u8 0, .int .u8 0, .int .u8 0, .int .u8 0, .int .u8 0, .int .u8 0, .int .u8 0, .int .u8 0, .int .u8 0, .int .u8 0, .int .u8 0, .int .u8 0, .int .u8 0, .int .u8 0, .int .u8 0, .int .u8 0, .int .u8 0, .int .u8 0, .int .u8 0, .int .u8 0, .int .u8 0, .int .u8 0, .int .u8 0, .int .u8 0, .int .u8 0, .int .u8 0, .int .u8 0, .int .u8 0, .int .u8 0, .int .u8 0, .int .u8 0, .int .u8 0, .int .u8 0, .int .u8 0, .int .u8 0, .int .u8 0, .int .u8 0, .int .u8 0, .int .u8 0, .int .u8 0, .int .u8 0, .int .u8 0, .int .u8 0, .int .u8 0, .int .u8 0, .int .u8 0, .int .u8 0, .int .u8 0, .int .u8 0, .int .u8 0, .int .u8 0, .int .u8 0, .int .u8 0, .int .u8 0, .int .u8 0, .int .u8 0, .int .u8 0, .int .u8 0, .int .u8 0, .int .u8 0, .int .u8 0, .int .u8 0, .int .u8 0, .int .u8 0, .int .u8 0, .int .u8 0, .int .u8 0, .int .u8 0, .int .u8 0, .int .u8 0, .int .u8 0, .int .u8 0, .int .u8 0, .int .u8 0, .int .u8 0, .int .u8 0, .int .u8 0, .int .u8 0, .int .u8 0, .int .u8 0, .int .u8 0, .int .u8 0, .int .u8 0, .int .u8 0, .int .u8 0, .int .u8 0, .int .u8 0, .int .u8 0, .int .u8 0, .int .u8 0, .int .u8 0, .int .u8 0, .int .u8 0, .int .u8 0, .int .u8 0, .int .u8 0, .int .u8 0, .int .u8 0, .int .u8 0, .int .u8 0, .int .u8 0, .int .u8 0, .int .u8 0, .int .u8 0, .int .u8 0, .int .u8 0, .int .u8 0, .int .u8 0, .int .u8 0, .int .u8 0, .int .u8 0, .int .u8 0, .int .u8 0, .int .u8 0, .int .u8 0, .int .u8 0, .int .u8 0, .int .u8 0, .int .u8 0, .int .u8 0, .int .u8 0, .int .u8 0, .int .u8 0, .int .u8 0, .int .u8 0, .int .u8 0, .int .u8 0, .int .u8 0, .int .u8 0, .int .u8 0, .int .u8 0, .int .u8 0, .int .u8 0, .int .u8 0, .int .u8 0, .int .u8 0, .int .u8 0, .int .u8 0, .int .u8 0, .int .u8 0, .int .u8 0, .int .u8 0, .int .u8 0, .int .u8 0, .int .u8 0, .int .u8 0, .int .u8 0, .int .u8 0, .int .u8 0, .int .u8 0, .int .u8 0, .int .u8 0, .int .u8 0, .int .u8 0, .int .u8 0, .int .u8 0, .int .u8 0, .int .u8 0, .int .u8 0, .int .u8 0, .int .u8 0, .int .u8 0, .int .u8 0, .int .u8 0, .int .u8 0, .int .u8 0, .int .u8 0, .int .u8 0, .int .u8 0, .int .u8 0, .int .u8 0, .int .u8 0, .int .u8 0, .int .u8 0, .int .u8 0, .int .u8 0, .int .u8 0, .int .u8 0, .int .u8 0, .int .u8 0, .int .u8 0, .int .u8 0, .int .u8 0, .int .u8 0, .int .u8 0, .int .u8 0, .int .u8 0, .int .u8 0, .int .u8 0, .int .u8 0, .int .u8 0, .int .u8 0, .int .u8 0, .int .u8 0, .int .u8 0, .int .u8 0, .int .u8 0, .int .u8 0, .int .u8 0, .int .u8 0, .int .u8 0, .int .u8 0, .int .u8 0, .int .u8 0, .int .u8 0]⟩, ⟨true, none, [.int .u64 131072, .slice (some ⟨29, 0, none⟩) 512 512, .bool true]⟩, ⟨true, none, [.int .u64 196608, .string ⟨#[97]⟩, .bool true]⟩, ⟨true, some 1, [.int .u8 97]⟩, ⟨true, none, [.int .u64 196608, .slice (some ⟨32, 0, none⟩) 1 1, .bool true]⟩, ⟨true, none, [.int .u64 262144, .string ⟨#[0, 0, 0, 0, 0, 0, 0, 0, 0, 0, 0, 0, 0, 0, 0, 0, 0, 0, 0, 0, 0, 0, 0, 0, 0, 0, 0, 0, 0, 0, 0, 0, 0, 0, 0, 0, 0, 0, 0, 0, 0, 0, 0, 0, 0, 0, 0, 0, 0, 0, 0, 0, 0, 0, 0, 0, 0, 0, 0, 0, 0, 0, 0, 0, 0, 0, 0, 0, 0, 0, 0, 0, 0, 0, 0, 0, 0, 0, 0, 0, 0, 0, 0, 0, 0, 0, 0, 0, 0, 0, 0, 0, 0, 0, 0, 0, 0, 0, 0, 0, 0, 0, 0, 0, 0, 0, 0, 0, 0, 0, 0, 0, 0, 0, 0, 0, 0, 0, 0, 0, 0, 0, 0, 0, 0, 0, 0, 0]⟩, .bool true]⟩, ⟨true, some 1, [.int .u8 0, .int .u8 0, .int .u8 0, .int .u8 0, .int .u8 0, .int .u8 0, .int .u8 0, .int .u8 0, .int .u8 0, .int .u8 0, .int .u8 0, .int .u8 0, .int .u8 0, .int .u8 0, .int .u8 0, .int .u8 0, .int .u8 0, .int .u8 0, .int .u8 0, .int .u8 0, .int .u8 0, .int .u8 0, .int .u8 0, .int .u8 0, .int .u8 0, .int .u8 0, .int .u8 0, .int .u8 0, .int .u8 0, .int .u8 0, .int .u8 0, .int .u8 0, .int .u8 0, .int .u8 0, .int .u8 0, .int .u8 0, .int .u8 0, .int .u8 0, .int .u8 0, .int .u8 0, .int .u8 0, .int .u8 0, .int .u8 0, .int .u8 0, .int .u8 0, .int .u8 0, .int .u8 0, .int .u8 0, .int .u8 0, .int .u8 0, .int .u8 0, .int .u8 0, .int .u8 0, .int .u8 0, .int .u8 0, .int .u8 0, .int .u8 0, .int .u8 0, .int .u8 0, .int .u8 0, .int .u8 0, .int .u8 0, .int .u8 0, .int .u8 0, .int .u8 0, .int .u8 0, .int .u8 0, .int .u8 0, .int .u8 0, .int .u8 0, .int .u8 0, .int .u8 0, .int .u8 0, .int .u8 0, .int .u8 0, .int .u8 0, .int .u8 0, .int .u8 0, .int .u8 0, .int .u8 0, .int .u8 0, .int .u8 0, .int .u8 0, .int .u8 0, .int .u8 0, .int .u8 0, .int .u8 0, .int .u8 0, .int .u8 0, .int .u8 0, .int .u8 0, .int .u8 0, .int .u8 0, .int .u8 0, .int .u8 0, .int .u8 0, .int .u8 0, .int .u8 0, .int .u8 0, .int .u8 0, .int .u8 0, .int .u8 0, .int .u8 0, .int .u8 0, .int .u8 0, .int .u8 0, .int .u8 0, .int .u8 0, .int .u8 0, .int .u8 0, .int .u8 0, .int .u8 0, .int .u8 0, .int .u8 0, .int .u8 0, .int .u8 0, .int .u8 0, .int .u8 0, .int .u8 0, .int .u8 0, .int .u8 0, .int .u8 0, .int .u8 0, .int .u8 0, .int .u8 0, .int .u8 0, .int .u8 0, .int .u8 0]⟩, ⟨true, none, [.int .u64 262144, .slice (some ⟨35, 0, none⟩) 128 128, .bool true]⟩, ⟨true, none, [.int .u64 65536, .slice (some ⟨23, 0, none⟩) 16 16, .bool false]⟩, ⟨true, none, [.int .u64 65552, .slice (some ⟨26, 0, none⟩) 8 8, .bool true]⟩, ⟨true, none, [.int .u64 131072, .slice (some ⟨29, 0, none⟩) 512 512, .bool true]⟩, ⟨true, none, [.int .u64 196608, .slice (some ⟨32, 0, none⟩) 1 1, .bool true]⟩, ⟨true, none, [.bool true, .slice none 0 0, .slice none 0 0, .pointer (some ⟨21, 0, none⟩)]⟩, ⟨true, none, [.slice none 0 0, .int .i64 1, .pointer (some ⟨21, 0, none⟩), .pointer (some ⟨41, 0, none⟩), .slice none 0 0, .slice (some ⟨15, 0, none⟩) 4 4]⟩]⟩
theorem new10_1_ok : LayOk Tryz.prog new10_1 := layL_mk2 noNG (lift_ok (guard_ok repHook_ok)) noLoop_low (noLoop_ok _) noOrc new10_1 rfl (by kernel_rfl)
def new10_2 : LayCall := ⟨9, [.agg ⟨[.slice none 0 0, .int .i64 1]⟩, .agg ⟨[.string ⟨#[97]⟩, .int .u64 0, .slice none 0 0, .slice none 0 0]⟩, .slice none 0 0], 43, .tuple ⟨[.pointer (some ⟨80, 0, none⟩), .int .i64 0]⟩, [⟨true, none, [.slice none 0 0, .int .i64 1]⟩, ⟨true, none, [.string ⟨#[97]⟩, .int .u64 0, .slice none 0 0, .slice none 0 0]⟩, ⟨true, none, [.string ⟨#[97]⟩, .int .u64 0, .slice none 0 0, .slice none 0 0]⟩, ⟨true, none, [.int .u64 65536, .string ⟨#[0, 0, 3, 0, 0, 0, 0, 0, 1, 0, 3, 0, 0, 0, 0, 0]⟩, .bool false, .int .u64 65552, .string ⟨#[0, 0, 0, 0, 0, 0, 0, 0]⟩, .bool true]⟩, ⟨true, none, [.int .u64 131072, .string ⟨#[0, 0, 0, 0, 0, 0, 0, 0, 0, 0, 0, 0, 0, 0, 0, 0, 0, 0, 0, 0, 0, 0, 0, 0, 0, 0, 0, 0, 0, 0, 0, 0, 0, 0, 0, 0, 0, 0, 0, 0, 0, 0, 0, 0, 0, 0, 0, 0, 0, 0, 0, 0, 0, 0, 0, 0, 0, 0, 0, 0, 0, 0, 0, 0, 0, 0, 0, 0, 0, 0, 0, 0, 0, 0, 0, 0, 0, 0, 0, 0, 0, 0, 0, 0, 0, 0, 0, 0, 0, 0, 0, 0, 0, 0, 0, 0, 0, 0, 0, 0, 0, 0, 0, 0, 0, 0, 0, 0, 0, 0, 0, 0, 0, 0, 0, 0, 0, 0, 0, 0, 0, 0, 0, 0, 0, 0, 0, 0, 0, 0, 0, 0, 0, 0, 0, 0, 0, 0, 0, 0, 0, 0, 0, 0, 0, 0, 0, 0, 0, 0, 0, 0, 0, 0, 0, 0, 0, 0, 0, 0, 0, 0, 0, 0, 0, 0, 0, 0, 0, 0, 0, 0, 0, 0, 0, 0, 0, 0, 0, 0, 0, 0, 0, 0, 0, 0, 0, 0, 0, 0, 0, 0, 0, 0, 0, 0, 0, 0, 0, 0, 0, 0, 0, 0, 0, 0, 0, 0, 0, 0, 0, 0, 0, 0, 0, 0, 0, 0, 0, 0, 0, 0, 0, 0, 0, 0, 0, 0, 0, 0, 0, 0, 0, 0, 0, 0, 0, 0, 0, 0, 0, 0, 0, 0, 0, 0, 0, 0, 0, 0, 0, 0, 0, 0, 0, 0, 0, 0, 0, 0, 0, 0, 0, 0, 0, 0, 0, 0, 0, 0, 0, 0, 0, 0, 0, 0, 0, 0, 0, 0, 0, 0, 0, 0, 0, 0, 0, 0, 0, 0, 0, 0, 0, 0, 0, 0, 0, 0, 0, 0, 0, 0, 0, 0, 0, 0, 0, 0, 0, 0, 0, 0, 0, 0, 0, 0, 0, 0, 0, 0, 0, 0, 0, 0, 0, 0, 0, 0, 0, 0, 0, 0, 0, 0, 0, 0, 0, 0, 0, 0, 0, 0, 0, 0, 0, 0, 0, 0, 0, 0, 0, 0, 0, 0, 0, 0, 0, 0, 0, 0, 0, 0, 0, 0, 0, 0, 0, 0, 0, 0, 0, 0, 0, 0, 0, 0, 0, 0, 0, 0, 0, 0, 0, 0, 0, 0, 0, 0, 0, 0, 0, 0, 0, 0, 0, 0, 0, 0, 0, 0, 0, 0, 0, 0, 0, 0, 0, 0, 0, 0, 0, 0, 0, 0, 0, 0, 0, 0, 0, 0, 0, 0, 0, 0, 0, 0, 0, 0, 0, 0, 0, 0, 0, 0, 0, 0, 0, 0, 0, 0, 0, 0, 0, 0, 0, 0, 0, 0, 0, 0, 0, 0, 0, 0, 0, 0, 0, 0, 0, 0, 0, 0, 0, 0, 0, 0, 0, 0, 0, 0, 0, 0, 0, 0, 0, 0, 0, 0, 0, 0, 0, 0, 0, 0, 0, 0, 0, 0, 0, 0, 0, 0, 0, 0, 0, 0, 0, 0, 0, 0, 0, 0, 0, 0, 0, 0, 0, 0, 0, 0, 0, 0]⟩, .bool true]⟩, ⟨true, none, [.string ⟨#[97]⟩, .int .u64 0, .slice none 0 0, .slice none 0 0]⟩, ⟨true, none, [.int .u64 196608, .string ⟨#[97]⟩, .bool true]⟩, ⟨true, none, [.slice (some ⟨46, 0, none⟩) 2 2, .slice (some ⟨47, 0, none⟩) 1 1, .slice (some ⟨49, 0, none⟩) 1 1, .slice none 0 0]⟩, ⟨false, none, []⟩, ⟨false, none, []⟩, ⟨true, some 3, [.int .u64 65536, .string ⟨#[0, 0, 3, 0, 0, 0, 0, 0, 1, 0, 3, 0, 0, 0, 0, 0]⟩, .bool false, .int .u64 65552, .string ⟨#[0, 0, 0, 0, 0, 0, 0, 0]⟩, .bool true, .int .u64 131072, .string ⟨#[0, 0, 0, 0, 0, 0, 0, 0, 0, 0, 0, 0, 0, 0, 0, 0, 0, 0, 0, 0, 0, 0, 0, 0, 0, 0, 0, 0, 0, 0, 0, 0, 0, 0, 0, 0, 0, 0, 0, 0, 0, 0, 0, 0, 0, 0, 0, 0, 0, 0, 0, 0, 0, 0, 0, 0, 0, 0, 0, 0, 0, 0, 0, 0, 0, 0, 0, 0, 0, 0, 0, 0, 0, 0, 0, 0, 0, 0, 0, 0, 0, 0, 0, 0, 0, 0, 0, 0, 0, 0, 0, 0, 0, 0, 0, 0, 0, 0, 0, 0, 0, 0, 0, 0, 0, 0, 0, 0, 0, 0, 0, 0, 0, 0, 0, 0, 0, 0, 0, 0, 0, 0, 0, 0, 0, 0, 0, 0, 0, 0, 0, 0, 0, 0, 0, 0, 0, 0, 0, 0, 0, 0, 0, 0, 0, 0, 0, 0, 0, 0, 0, 0, 0, 0, 0, 0, 0, 0, 0, 0, 0, 0, 0, 0, 0, 0, 0, 0, 0, 0, 0, 0, 0, 0, 0, 0, 0, 0, 0, 0, 0, 0, 0, 0, 0, 0, 0, 0, 0, 0, 0, 0, 0, 0, 0, 0, 0, 0, 0, 0, 0, 0, 0, 0, 0, 0, 0, 0, 0, 0, 0, 0, 0, 0, 0, 0, 0, 0, 0, 0, 0, 0, 0, 0, 0, 0, 0, 0, 0, 0, 0, 0, 0, 0, 0, 0, 0, 0, 0, 0, 0, 0, 0, 0, 0, 0, 0, 0, 0, 0, 0, 0, 0, 0, 0, 0, 0, 0, 0, 0, 0, 0, 0, 0, 0, 0, 0, 0, 0, 0, 0, 0, 0, 0, 0, 0, 0, 0, 0, 0, 0, 0, 0, 0, 0, 0, 0, 0, 0, 0, 0, 0, 0, 0, 0, 0, 0, 0, 0, 0, 0, 0, 0, 0, 0, 0, 0, 0, 0, 0, 0, 0, 0, 0, 0, 0, 0, 0, 0, 0, 0, 0, 0, 0, 0, 0, 0, 0, 0, 0, 0, 0, 0, 0, 0, 0, 0, 0, 0, 0, 0, 0, 0, 0, 0, 0, 0, 0, 0, 0, 0, 0, 0, 0, 0, 0, 0, 0, 0, 0, 0, 0, 0, 0, 0, 0, 0, 0, 0, 0, 0, 0, 0, 0, 0, 0, 0, 0, 0, 0, 0, 0, 0, 0, 0, 0, 0, 0, 0, 0, 0, 0, 0, 0, 0, 0, 0, 0, 0, 0, 0, 0, 0, 0, 0, 0, 0, 0, 0, 0, 0, 0, 0, 0, 0, 0, 0, 0, 0, 0, 0, 0, 0, 0, 0, 0, 0, 0, 0, 0, 0, 0, 0, 0, 0, 0, 0, 0, 0, 0, 0, 0, 0, 0, 0, 0, 0, 0, 0, 0, 0, 0, 0, 0, 0, 0, 0, 0, 0, 0, 0, 0, 0, 0, 0, 0, 0, 0, 0, 0, 0, 0, 0, 0, 0, 0, 0, 0, 0, 0, 0, 0, 0, 0, 0, 0, 0, 0, 0, 0, 0, 0, 0, 0, 0, 0, 0, 0, 0, 0, 0, 0, 0, 0, 0, 0, 0, 0, 0, 0, 0, 0]⟩, .bool true, .int .u64 196608, .string ⟨#[97]⟩, .bool true]⟩, ⟨true, none, [.int .u64 262144, .string ⟨#[0, 0, 0, 0, 0, 0, 0, 0, 0, 0, 0, 0, 0, 0, 0, 0, 0, 0, 0, 0, 0, 0, 0, 0, 0, 0, 0, 0, 0, 0, 0, 0, 0, 0, 0, 0, 0, 0, 0, 0, 0, 0, 0, 0, 0, 0, 0, 0, 0, 0, 0, 0, 0, 0, 0, 0, 0, 0, 0, 0, 0, 0, 0, 0, 0, 0, 0, 0, 0, 0, 0, 0, 0, 0, 0, 0, 0, 0, 0, 0, 0, 0, 0, 0, 0, 0, 0, 0, 0, 0, 0, 0, 0, 0, 0, 0, 0, 0, 0, 0, 0, 0, 0, 0, 0, 0, 0, 0, 0, 0, 0, 0, 0, 0, 0, 0, 0, 0, 0, 0, 0, 0, 0, 0, 0, 0, 0, 0]⟩, .bool true]⟩, ⟨true, none, [.slice (some ⟨53, 0, none⟩) 4 4, .slice (some ⟨54, 0, none⟩) 1 1, .slice none 0 0]⟩, ⟨false, none, []⟩, ⟨true, some 3, [.int .u64 65536, .string ⟨#[0, 0, 3, 0, 0, 0, 0, 0, 1, 0, 3, 0, 0, 0, 0, 0]⟩, .bool false, .int .u64 65552, .string ⟨#[0, 0, 0, 0, 0, 0, 0, 0]⟩, .bool true, .int .u64 131072, .string ⟨#[0, 0, 0, 0, 0, 0, 0, 0, 0, 0, 0, 0, 0, 0, 0, 0, 0, 0, 0, 0, 0, 0, 0, 0, 0, 0, 0, 0, 0, 0, 0, 0, 0, 0, 0, 0, 0, 0, 0, 0, 0, 0, 0, 0, 0, 0, 0, 0, 0, 0, 0, 0, 0, 0, 0, 0, 0, 0, 0, 0, 0, 0, 0, 0, 0, 0, 0, 0, 0, 0, 0, 0, 0, 0, 0, 0, 0, 0, 0, 0, 0, 0, 0, 0, 0, 0, 0, 0, 0, 0, 0, 0, 0, 0, 0, 0, 0, 0, 0, 0, 0, 0, 0, 0, 0, 0, 0, 0, 0, 0, 0, 0, 0, 0, 0, 0, 0, 0, 0, 0, 0, 0, 0, 0, 0, 0, 0, 0, 0, 0, 0, 0, 0, 0, 0, 0, 0, 0, 0, 0, 0, 0, 0, 0, 0, 0, 0, 0, 0, 0, 0, 0, 0, 0, 0, 0, 0, 0, 0, 0, 0, 0, 0, 0, 0, 0, 0, 0, 0, 0, 0, 0, 0, 0, 0, 0, 0, 0, 0, 0, 0, 0, 0, 0, 0, 0, 0, 0, 0, 0, 0, 0, 0, 0, 0, 0, 0, 0, 0, 0, 0, 0, 0, 0, 0, 0, 0, 0, 0, 0, 0, 0, 0, 0, 0, 0, 0, 0, 0, 0, 0, 0, 0, 0, 0, 0, 0, 0, 0, 0, 0, 0, 0, 0, 0, 0, 0, 0, 0, 0, 0, 0, 0, 0, 0, 0, 0, 0, 0, 0, 0, 0, 0, 0, 0, 0, 0, 0, 0, 0, 0, 0, 0, 0, 0, 0, 0, 0, 0, 0, 0, 0, 0, 0, 0, 0, 0, 0, 0, 0, 0, 0, 0, 0, 0, 0, 0, 0, 0, 0, 0, 0, 0, 0, 0, 0, 0, 0, 0, 0, 0, 0, 0, 0, 0, 0, 0, 0, 0, 0, 0, 0, 0, 0, 0, 0, 0, 0, 0, 0, 0, 0, 0, 0, 0, 0, 0, 0, 0, 0, 0, 0, 0, 0, 0, 0, 0, 0, 0, 0, 0, 0, 0, 0, 0, 0, 0, 0, 0, 0, 0, 0, 0, 0, 0, 0, 0, 0, 0, 0, 0, 0, 0, 0, 0, 0, 0, 0, 0, 0, 0, 0, 0, 0, 0, 0, 0, 0, 0, 0, 0, 0, 0, 0, 0, 0, 0, 0, 0, 0, 0, 0, 0, 0, 0, 0, 0, 0, 0, 0, 0, 0, 0, 0, 0, 0, 0, 0, 0, 0, 0, 0, 0, 0, 0, 0, 0, 0, 0, 0, 0, 0, 0, 0, 0, 0, 0, 0, 0, 0, 0, 0, 0, 0, 0, 0, 0, 0, 0, 0, 0, 0, 0, 0, 0, 0, 0, 0, 0, 0, 0, 0, 0, 0, 0, 0, 0, 0, 0, 0, 0, 0, 0, 0, 0, 0, 0, 0, 0, 0, 0, 0, 0, 0, 0, 0, 0, 0, 0, 0, 0, 0, 0, 0, 0, 0, 0, 0, 0, 0, 0, 0, 0, 0, 0, 0, 0, 0, 0, 0, 0, 0, 0, 0, 0, 0, 0, 0, 0, 0, 0, 0]⟩, .bool true, .int .u64 196608, .string ⟨#[97]⟩, .bool true, .int .u64 262144, .string ⟨#[0, 0, 0, 0, 0, 0, 0, 0, 0, 0, 0, 0, 0, 0, 0, 0, 0, 0, 0, 0, 0, 0, 0, 0, 0, 0, 0, 0, 0, 0, 0, 0, 0, 0, 0, 0, 0, 0, 0, 0, 0, 0, 0, 0, 0, 0, 0, 0, 0, 0, 0, 0, 0, 0, 0, 0, 0, 0, 0, 0, 0, 0, 0, 0, 0, 0, 0, 0, 0, 0, 0, 0, 0, 0, 0, 0, 0, 0, 0, 0, 0, 0, 0, 0, 0, 0, 0, 0, 0, 0, 0, 0, 0, 0, 0, 0, 0, 0, 0, 0, 0, 0, 0, 0, 0, 0, 0, 0, 0, 0, 0, 0, 0, 0, 0, 0, 0, 0, 0, 0, 0, 0, 0, 0, 0, 0, 0, 0]⟩, .bool true]⟩, ⟨true, none, [.int .u64 65536, .slice (some ⟨61, 0, none⟩) 16 16, .bool false, .int .u64 65552, .slice (some ⟨64, 0, none⟩) 8 8, .bool true, .int .u64 131072, .slice (some ⟨67, 0, none⟩) 512 512, .bool true, .int .u64 196608, .slice (some ⟨70, 0, none⟩) 1 1, .bool true, .int .u64 262144, .slice (some ⟨73, 0, none⟩) 128 128, .bool true]⟩, ⟨true, none, [.bool true, .slice (some ⟨58, 0, none⟩) 5 5]⟩, ⟨true, none, [.int .u64 65536, .string ⟨#[0, 0, 3, 0, 0, 0, 0, 0, 1, 0, 3, 0, 0, 0, 0, 0]⟩, .bool false]⟩, ⟨true, some 1, [.int .u8 0, .int .u8 0, .int .u8 3, .int .u8 0, .int .u8 0, .int .u8 0, .int .u8 0, .int .u8 0, .int .u8 1, .int .u8 0, .int .u8 3, .int .u8 0, .int .u8 0, .int .u8 0, .int .u8 0, .int .u8 0]⟩, ⟨true, none, [.int .u64 65536, .slice (some ⟨61, 0, none⟩) 16 16, .bool false]⟩, ⟨true, none, [.int .u64 65552, .string ⟨#[0, 0, 0, 0, 0, 0, 0, 0]⟩, .bool true]⟩, ⟨true, some 1, [.int .u8 0, .int .u8 0, .int .u8 0, .int .u8 0, .int .u8 0, .int .u8 0, .int .u8 0, .int .u8 0]⟩, ⟨true, none, [.int .u64 65552, .slice (some ⟨64, 0, none⟩) 8 8, .bool true]⟩, ⟨true, none, [.int .u64 131072, .string ⟨#[0, 0, 0, 0, 0, 0, 0, 0, 0, 0, 0, 0, 0, 0, 0, 0, 0, 0, 0, 0, 0, 0, 0, 0, 0, 0, 0, 0, 0, 0, 0, 0, 0, 0, 0, 0, 0, 0, 0, 0, 0, 0, 0, 0, 0, 0, 0, 0, 0, 0, 0, 0, 0, 0, 0, 0, 0, 0, 0, 0, 0, 0, 0, 0, 0, 0, 0, 0, 0, 0, 0, 0, 0, 0, 0, 0, 0, 0, 0, 0, 0, 0, 0, 0, 0, 0, 0, 0, 0, 0, 0, 0, 0, 0, 0, 0, 0, 0, 0, 0, 0, 0, 0, 0, 0, 0, 0, 0, 0, 0, 0, 0, 0, 0, 0, 0, 0, 0, 0, 0, 0, 0, 0, 0, 0, 0, 0, 0, 0, 0, 0, 0, 0, 0, 0, 0, 0, 0, 0, 0, 0, 0, 0, 0, 0, 0, 0, 0, 0, 0, 0, 0, 0, 0, 0, 0, 0, 0, 0, 0, 0, 0, 0, 0, 0, 0, 0, 0, 0, 0, 0, 0, 0, 0, 0, 0, 0, 0, 0, 0, 0, 0, 0, 0, 0, 0, 0, 0, 0, 0, 0, 0, 0, 0, 0, 0, 0, 0, 0, 0, 0, 0, 0, 0, 0, 0, 0, 0, 0, 0, 0, 0, 0, 0, 0, 0, 0, 0, 0, 0, 0, 0, 0, 0, 0, 0, 0, 0, 0, 0, 0, 0, 0, 0, 0, 0, 0, 0, 0, 0, 0, 0, 0, 0, 0, 0, 0, 0, 0, 0, 0, 0, 0, 0, 0, 0, 0, 0, 0, 0, 0, 0, 0, 0, 0, 0, 0, 0, 0, 0, 0, 0, 0, 0, 0, 0, 0, 0, 0, 0, 0, 0, 0, 0, 0, 0, 0, 0, 0, 0, 0, 0, 0, 0, 0, 0, 0, 0, 0, 0, 0, 0, 0, 0, 0, 0, 0, 0, 0, 0, 0, 0, 0, 0, 0, 0, 0, 0, 0, 0, 0, 0, 0, 0, 0, 0, 0, 0, 0, 0, 0, 0, 0, 0, 0, 0, 0, 0, 0, 0, 0, 0, 0, 0, 0, 0, 0, 0, 0, 0, 0, 0, 0, 0, 0, 0, 0, 0, 0, 0, 0, 0, 0, 0, 0, 0, 0, 0, 0, 0, 0, 0, 0, 0, 0, 0, 0, 0, 0, 0, 0, 0, 0, 0, 0, 0, 0, 0, 0, 0, 0, 0, 0, 0, 0, 0, 0, 0, 0, 0, 0, 0, 0, 0, 0, 0, 0, 0, 0, 0, 0, 0, 0, 0, 0, 0, 0, 0, 0, 0, 0, 0, 0, 0, 0, 0, 0, 0, 0, 0, 0, 0, 0, 0, 0, 0, 0, 0, 0, 0, 0, 0, 0, 0, 0, 0, 0, 0, 0, 0, 0, 0, 0, 0, 0, 0, 0, 0, 0, 0, 0, 0, 0, 0, 0, 0, 0, 0, 0, 0, 0, 0, 0, 0, 0, 0, 0, 0, 0, 0, 0, 0, 0, 0, 0, 0, 0, 0, 0, 0, 0, 0, 0, 0, 0, 0, 0, 0, 0, 0, 0, 0, 0, 0, 0, 0, 0, 0, 0, 0, 0, 0]⟩, .bool true]⟩, ⟨true, some 1, [.int .u8 0, .int .u8 0, .int .u8 0, .int .u8 0, .int .u8 0, .int .u8 0, .int .u8 0, .int .u8 0, .int .u8 0, .int .u8 0, .int .u8 0, .int .u8 0, .int .u8 0, .int .u8 0, .int .u8 0, .int .u8 0, .int .u8 0, .int .u8 0, .int .u8 0, .int .u8 0, .int .u8 0, .int .u8 0, .int .u8 0, .int .u8 0, .int .u8 0, .int .u8 0, .int .u8 0, .int .u8 0, .int .u8 0, .int .u8 0, .int .u8 0, .int .u8 0, .int .u8 0, .int .u8 0, .int .u8 0, .int .u8 0, .int .u8 0, .int .u8 0, .int .u8 0, .int .u8 0, .int .u8 0, .int .u8 0, .int .u8 0, .int .u8 0, .int .u8 0, .int .u8 0, .int .u8 0, .int .u8 0, .int .u8 0, .int .u8 0, .int .u8 0, .int .u8 0, .int .u8 0, .int .u8 0, .int .u8 0, .int .u8 0, .int .u8 0, .int .u8 0, .int .u8 0, .int .u8 0, .int .u8 0, .int .u8 0, .int .u8 0, .int .u8 0, .int .u8 0, .int .u8 0, .int .u8 0, .int .u8 0, .int .u8 0, .int .u8 0, .int .u8 0, .int .u8 0, .int .u8 0, .int .u8 0, .int .u8 0, .int .u8 0, .int .u8 0, .int .u8 0, .int .u8 0, .int .u8 0, .int .u8 0, .int .u8 0, .int .u8 0, .int .u8 0, .int .u8 0, .int .u8 0, .int .u8 0, .int .u8 0, .int .u8 0, .int .u8 0, .int .u8 0, .int .u8 0, .int .u8 0, .int .u8 0, .int .u8 0, .int .u8 0, .int .u8 0, .int .u8 0, .int .u8 0, .int .u8 0, .int .u8 0, .int .u8 0, .int .u8 0, .int .u8 0, .int .u8 0, .int .u8 0, .int .u8 0, .int .u8 0, .int .u8 0, .int .u8 0, .int .u8 0, .int .u8 0, .int .u8 0, .int .u8 0, .int .u8 0, .int .u8 0, .int .u8 0, .int .u8 0, .int .u8 0, .int .u8 0, .int .u8 0, .int .u8 0, .int .u8 0, .int .u8 0, .int .u8 0, .int .u8 0, .int .u8 0, .int .u8 0, .int .u8 0, .int .u8 0, .int .u8 0, .int .u8 0, .int .u8 0, .int .u8 0, .int .u8 0, .int .u8 0, .int .u8 0, .int .u8 0, .int .u8 0, .int .u8 0, .int .u8 0, .int .u8 0, .int .u8 0, .int .u8 0, .int .u8 0, .int .u8 0, .int .u8 0, .int .u8 0, .int .u8 0, .int .u8 0, .int .u8 0, .int .u8 0, .int .u8 0, .int .u8 0, .int .u8 0, .int .u8 0, .int .u8 0, .int .u8 0, .int .u8 0, .int .u8 0, .int .u8 0, .int .u8 0, .int .u8 0, .int .u8 0, .int .u8 0, .int .u8 0, .int .u8 0, .int .u8 0, .int .u8 0, .int .u8 0, .int .u8 0, .int .u8 0, .int .u8 0, .int .u8 0, .int .u8 0, .int .u8 0, .int .u8 0, .int .u8 0, .int .u8 0, .int .u8 0, .int .u8 0, .int .u8 0, .int .u8 0, .int .u8 0, .int .u8 0, .int .u8 0, .int .u8 0, .int .u8 0, .int .u8 0, .int .u8 0, .int .u8 0, .int .u8 0, .int .u8 0, .int .u8 0, .int .u8 0, .int .u8 0, .int .u8 0, .int .u8 0, .int .u8 0, .int .u8 0, .int .u8 0, .int .u8 0, .int .u8 0, .int .u8 0, .int .u8 0, .int .u8 0, .int .u8 0, .int .u8 0, .int .u8 0, .int .u8 0, .int .u8 0, .int .u8 0, .int .u8 0, .int .u8 0, .int .u8 0, .int .u8 0, .int .u8 0, .int .u8 0, .int .u8 0, .int .u8 0, .int .u8 0, .int .u8 0, .int .u8 0, .int .u8 0, .int .u8 0, .int .u8 0, .int .u8 0, .int .u8 0, .int .u8 0, .int .u8 0, .int .u8 0, .int .u8 0, .int .u8 0, .int .u8 0, .int .u8 0, .int .u8 0, .int .u8 0, .int .u8 0, .int .u8 0, .int .u8 0, .int .u8 0, .int .u8 0, .int .u8 0, .int .u8 0, .int .u8 0, .int .u8 0, .int .u8 0, .int .u8 0, .int .u8 0, .int .u8 0, .int .u8 0, .int .u8 0, .int .u8 0, .int .u8 0, .int .u8 0, .int .u8 0, .int .u8 0, .int .u8 0, .int .u8 0, .int .u8 0, .int .u8 0, .int .u8 0, .int .u8 0, .int .u8 0, .int .u8 0, .int .u8 0, .int .u8 0, .int .u8 0, .int .u8 0, .int .u8 0, .int .u8 0, .int .u8 0, .int .u8 0, .int .u8 0, .int .u8 0, .int .u8 0, .int .u8 0, .int .u8 0, .int .u8 0, .int .u8 0, .int .u8 0, .int .u8 0, .int .u8 0, .int .u8 0, .int .u8 0, .int .u8 0, .int .u8 0, .int .u8 0, .int .u8 0, .int .u8 0, .int .u8 0, .int .u8 0, .int .u8 0, .int .u8 0, .int .u8 0, .int .u8 0, .int .u8 0, .int .u8 0, .int .u8 0, .int .u8 0, .int .u8 0, .int .u8 0, .int .u8 0, .int .u8 0, .int .u8 0, .int .u8 0, .int .u8 0, .int .u8 0, .int .u8 0, .int .u8 0, .int .u8 0, .int .u8 0, .int .u8 0, .int .u8 0, .int .u8 0, .int .u8 0, .int .u8 0, .int .u8 0, .int .u8 0, .int .u8 0, .int .u8 0, .int .u8 0, .int .u8 0, .int .u8 0, .int .u8 0, .int .u8 0, .int .u8 0, .int .u8 0, .int .u8 0, .int .u8 0, .int .u8 0, .int .u8 0, .int .u8 0, .int .u8 0, .int .u8 0, .int .u8 0, .int .u8 0, .int .u8 0, .int .u8 0, .int .u8 0, .int .u8 0, .int .u8 0, .int .u8 0, .int .u8 0, .int .u8 0, .int .u8 0, .int .u8 0, .int .u8 0, .int .u8 0, .int .u8 0, .int .u8 0, .int .u8 0, .int .u8 0, .int .u8 0, .int .u8 0, .int .u8 0, .int .u8 0, .int .u8 0, .int .u8 0, .int .u8 0, .int .u8 0, .int .u8 0, .int .u8 0, .int .u8 0, .int .u8 0, .int .u8 0, .int .u8 0, .int .u8 0, .int .u8 0, .int .u8 0, .int .u8 0, .int .u8 0, .int .u8 0, .int .u8 0, .int .u8 0, .int .u8 0, .int .u8 0, .int .u8 0, .int .u8 0, .int .u8 0, .int .u8 0, .int .u8 0, .int .u8 0, .int .u8 0, .int .u8 0, .int .u8 0, .int .u8 0, .int .u8 0, .int .u8 0, .int .u8 0, .int .u8 0, .int .u8 0, .int .u8 0, .int .u8 0, .int .u8 0, .int .u8 0, .int .u8 0, .int .u8 0, .int .u8 0, .int .u8 0, .int .u8 0, .int .u8 0, .int .u8 0, .int .u8 0, .int .u8 0, .int .u8 0, .int .u8 0, .int .u8 0, .int .u8 0, .int .u8 0, .int .u8 0, .int .u8 0, .int .u8 0, .int .u8 0, .int .u8 0, .int .u8 0, .int .u8 0, .int .u8 0, .int .u8 0, .int .u8 0, .int .u8 0, .int .u8 0, .int .u8 0, .int .u8 0, .int .u8 0, .int .u8 0, .int .u8 0, .int .u8 0, .int .u8 0, .int .u8 0, .int .u8 0, .int .u8 0, .int .u8 0, .int .u8 0, .int .u8 0, .int .u8 0, .int .u8 0, .int .u8 0, .int .u8 0, .int .u8 0, .int .u8 0, .int .u8 0, .int .u8 0, .int .u8 0, .int .u8 0, .int .u8 0, .int .u8 0, .int .u8 0, .int .u8 0, .int .u8 0, .int .u8 0, .int .u8 0, .int .u8 0, .int .u8 0, .int .u8 0, .int .u8 0, .int .u8 0, .int .u8 0, .int .u8 0, .int .u8 0, .int .u8 0, .int .u8 0, .int .u8 0, .int .u8 0, .int .u8 0, .int .u8 0, .int .u8 0, .int .u8 0, .int .u8 0, .int .u8 0, .int .u8 0, .int .u8 0, .int .u8 0, .int .u8 0, .int .u8 0, .int .u8 0, .int .u8 0, .int .u8 0, .int .u8 0, .int .u8 0, .int .u8 0, .int .u8 0, .int .u8 0, .int .u8 0, .int .u8 0, .int .u8 0, .int .u8 0, .int .u8 0, .int .u8 0, .int .u8 0, .int .u8 0, .int .u8 0, .int .u8 0, .int .u8 0, .int .u8 0, .int .u8 0, .int .u8 0, .int .u8 0, .int .u8 0, .int .u8 0, .int .u8 0, .int .u8 0, .int .u8 0, .int .u8 0, .int .u8 0, .int .u8 0, .int .u8 0, .int .u8 0, .int .u8 0, .int .u8 0, .int .u8 0, .int .u8 0]⟩, ⟨true, none, [.int .u64 131072, .slice (some ⟨67, 0, none⟩) 512 512, .bool true]⟩, ⟨true, none, [.int .u64 196608, .string ⟨#[97]⟩, .bool true]⟩, ⟨true, some 1, [.int .u8 97]⟩, ⟨true, none, [.int .u64 196608, .slice (some ⟨70, 0, none⟩) 1 1, .bool true]⟩, ⟨true, none, [.int .u64 262144, .string ⟨#[0, 0, 0, 0, 0, 0, 0, 0, 0, 0, 0, 0, 0, 0, 0, 0, 0, 0, 0, 0, 0, 0, 0, 0, 0, 0, 0, 0, 0, 0, 0, 0, 0, 0, 0, 0, 0, 0, 0, 0, 0, 0, 0, 0, 0, 0, 0, 0, 0, 0, 0, 0, 0, 0, 0, 0, 0, 0, 0, 0, 0, 0, 0, 0, 0, 0, 0, 0, 0, 0, 0, 0, 0, 0, 0, 0, 0, 0, 0, 0, 0, 0, 0, 0, 0, 0, 0, 0, 0, 0, 0, 0, 0, 0, 0, 0, 0, 0, 0, 0, 0, 0, 0, 0, 0, 0, 0, 0, 0, 0, 0, 0, 0, 0, 0, 0, 0, 0, 0, 0, 0, 0, 0, 0, 0, 0, 0, 0]⟩, .bool true]⟩, ⟨true, some 1, [.int .u8 0, .int .u8 0, .int .u8 0, .int .u8 0, .int .u8 0, .int .u8 0, .int .u8 0, .int .u8 0, .int .u8 0, .int .u8 0, .int .u8 0, .int .u8 0, .int .u8 0, .int .u8 0, .int .u8 0, .int .u8 0, .int .u8 0, .int .u8 0, .int .u8 0, .int .u8 0, .int .u8 0, .int .u8 0, .int .u8 0, .int .u8 0, .int .u8 0, .int .u8 0, .int .u8 0, .int .u8 0, .int .u8 0, .int .u8 0, .int .u8 0, .int .u8 0, .int .u8 0, .int .u8 0, .int .u8 0, .int .u8 0, .int .u8 0, .int .u8 0, .int .u8 0, .int .u8 0, .int .u8 0, .int .u8 0, .int .u8 0, .int .u8 0, .int .u8 0, .int .u8 0, .int .u8 0, .int .u8 0, .int .u8 0, .int .u8 0, .int .u8 0, .int .u8 0, .int .u8 0, .int .u8 0, .int .u8 0, .int .u8 0, .int .u8 0, .int .u8 0, .int .u8 0, .int .u8 0, .int .u8 0, .int .u8 0, .int .u8 0, .int .u8 0, .int .u8 0, .int .u8 0, .int .u8 0, .int .u8 0, .int .u8 0, .int .u8 0, .int .u8 0, .int .u8 0, .int .u8 0, .int .u8 0, .int .u8 0, .int .u8 0, .int .u8 0, .int .u8 0, .int .u8 0, .int .u8 0, .int .u8 0, .int .u8 0, .int .u8 0, .int .u8 0, .int .u8 0, .int .u8 0, .int .u8 0, .int .u8 0, .int .u8 0, .int .u8 0, .int .u8 0, .int .u8 0, .int .u8 0, .int .u8 0, .int .u8 0, .int .u8 0, .int .u8 0, .int .u8 0, .int .u8 0, .int .u8 0, .int .u8 0, .int .u8 0, .int .u8 0, .int .u8 0, .int .u8 0, .int .u8 0, .int .u8 0, .int .u8 0, .int .u8 0, .int .u8 0, .int .u8 0, .int .u8 0, .int .u8 0, .int .u8 0, .int .u8 0, .int .u8 0, .int .u8 0, .int .u8 0, .int .u8 0, .int .u8 0, .int .u8 0, .int .u8 0, .int .u8 0, .int .u8 0, .int .u8 0, .int .u8 0, .int .u8 0, .int .u8 0]⟩, ⟨true, none, [.int .u64 262144, .slice (some ⟨73, 0, none⟩) 128 128, .bool true]⟩, ⟨true, none, [.int .u64 65536, .slice (some ⟨61, 0, none⟩) 16 16, .bool false]⟩, ⟨true, none, [.int .u64 65552, .slice (some ⟨64, 0, none⟩) 8 8, .bool true]⟩, ⟨true, none, [.int .u64 131072, .slice (some ⟨67, 0, none⟩) 512 512, .bool true]⟩, ⟨true, none, [.int .u64 196608, .slice (some ⟨70, 0, none⟩) 1 1, .bool true]⟩, ⟨true, none, [.bool true, .slice none 0 0, .slice none 0 0, .pointer (some ⟨59, 0, none⟩)]⟩, ⟨true, none, [.slice none 0 0, .int .i64 1, .pointer (some ⟨59, 0, none⟩), .pointer (some ⟨79, 0, none⟩), .slice none 0 0, .slice (some ⟨53, 0, none⟩) 4 4]⟩]⟩
theorem new10_2_ok : LayOk Tryz.prog new10_2 := layL_mk2 noNG (lift_ok (guard_ok repHook_ok)) noLoop_low (noLoop_ok _) noOrc new10_2 rfl (by kernel_rfl)
def new10Tab : List LayCall := [new10_0, new10_1, new10_2]
theorem new10Tab_ok : ∀ e ∈ new10Tab, e.args.all flat = true ∧ LayOk Tryz.prog e := by
  intro e he
  simp only [new10Tab, List.mem_cons, List.not_mem_nil, or_false] at he
  rcases he with rfl | rfl | rfl
  · exact ⟨rfl, new10_0_ok⟩
  · exact ⟨rfl, new10_1_ok⟩
  · exact ⟨rfl, new10_2_ok⟩
def new10Hook : Hook3 := layHook eqML new10Tab
theorem new10Hook_ok : HookOk3 Tryz.prog new10Hook := layHook_ok (fun _ _ h => eqML_ok h) new10Tab_ok
end Go.Proofs.YthhgfjnnconocaaGreatDoor.Ex
end
section
namespace Go.Proofs.YthhgfjnnconocaaGreatDoor.Ex
set_option maxRecDepth 20000

open Go Go.RowKit
set_option linter.unusedVariables false
/-- A proposition as a pair: it must hold. -/
noncomputable def prP (p : Prop) : Int × Int := (b2i (@decide p (Classical.propDecidable p)), 1)
theorem prP_of {p : Prop} (h : (prP p).1 = (prP p).2) : p := by
  have h1 : @decide p (Classical.propDecidable p) = true := b2i_inj (b := true) h
  exact @of_decide_eq_true p (Classical.propDecidable p) h1
theorem prP_ok {p : Prop} (h : p) : (prP p).1 = (prP p).2 := by
  have h1 : @decide p (Classical.propDecidable p) = true := @decide_eq_true p (Classical.propDecidable p) h
  unfold prP
  rw [h1]
  rfl
/-- How many loops stand in a piece of code. -/
def nIn (c : Code) : Nat := (loopsIn c).length
/-- The number of the first region in a piece of code. -/
def regC : Code → Option Nat
  | .region i _ _ => some i
  | .seq a b => match regC a with | some i => some i | none => regC b
  | .cond _ a b => match regC a with | some i => some i | none => regC b
  | .block _ c => regC c
  | .loop c => regC c
  | .scope c => regC c
  | _ => none
/-- Is a loop the one that is named: by how many loops stand in it; from 1000 on by its first region. -/
def isN (c : Code) (n : Nat) : Bool := bif Nat.ble 1000 n then (match regC c with | some i => Nat.beq i (n - 1000) | none => false) else Nat.beq (nIn c) n
theorem loopsIn_trans : ∀ {b c c' : Code}, c ∈ loopsIn b → c' ∈ loopsIn c → c' ∈ loopsIn b := by
  intro b
  induction b with
  | seq x y hx hy => intro c c' h h'; simp only [loopsIn, List.mem_append] at h ⊢; exact h.imp (hx · h') (hy · h')
  | cond g x y hx hy => intro c c' h h'; simp only [loopsIn, List.mem_append] at h ⊢; exact h.imp (hx · h') (hy · h')
  | block i x hx => intro c c' h h'; simp only [loopsIn] at h ⊢; exact hx h h'
  | loop x hx =>
    intro c c' h h'
    simp only [loopsIn, List.mem_cons] at h ⊢
    rcases h with rfl | h
    · exact .inr h'
    · exact .inr (hx h h')
  | scope x hx => intro c c' h h'; simp only [loopsIn] at h ⊢; exact hx h h'
  | _ => intro c c' h h'; simp [loopsIn] at h
/-- A loop, from a state on to its end: the one of its function in which so many loops stand. -/
structure LoopQ where
  f : FuncId
  n : Nat
  sel : St → Bool
  t : List Value
  h : List AO
  e : Exit
  t' : List Value
  h' : List AO
  m : Mk
noncomputable def loopQHook : List LoopQ → LoopHook
  | [] => fun _ _ _ => none
  | e :: l => fun fid c x =>
    if Nat.beq fid e.f && (isN c e.n && e.sel x) then some (e.e, ⟨e.t', e.h', low x.m (low (none, [prP (x.t = e.t), prP (x.h = e.h)]) e.m)⟩)
    else loopQHook l fid c x
def LoopQOk (P : Program) (e : LoopQ) : Prop := ∀ (fn : Func) (c : Code), P.funcs[e.f]? = some fn → fn.body = some c → ∀ c' ∈ loopsIn c, isN c' e.n = true →
  ∀ (wb : Wb) (k : Nat), Bnd k e.m → ∀ (s : Ren) (m m' : Mk) (a : Act) (w : World), SR wb k s ⟨e.t, e.h, m⟩ a w → (Code.loop c').wp P (Post wb k s ⟨e.t', e.h', m'⟩ e.e) a w
theorem loopQHook_low : ∀ (l : List LoopQ), LoopLow (loopQHook l)
  | [] => by intro f c x x' e h; cases h
  | q :: l => by
    intro f c x x' e h k hm
    unfold loopQHook at h
    split at h
    · cases h
      exact (bnd_low hm).1
    · exact loopQHook_low l f c x x' e h k hm
theorem loopQHook_ok {P : Program} : ∀ {l : List LoopQ}, (∀ e ∈ l, LoopQOk P e) → LoopsOk P (loopQHook l)
  | [], _ => by intro f fn c _ _ c' _ x x' e h; cases h
  | q :: l, hq => by
    intro f fn c hf hb c' hc x x' e h wb k s a w hm H
    unfold loopQHook at h
    split at h
    · rename_i hi
      cases h
      simp only [Bool.and_eq_true] at hi
      obtain ⟨h1, h2, h3⟩ := hi
      obtain rfl := Nat.eq_of_beq_eq_true h1
      obtain ⟨xt, xh, xm⟩ := x
      obtain ⟨hm1, hm2⟩ := bnd_low hm
      obtain ⟨hm3, hm4⟩ := bnd_low hm2
      have e1 : xt = q.t := prP_of (hm3.2 _ List.mem_cons_self)
      have e2 : xh = q.h := prP_of (hm3.2 _ (List.mem_cons_of_mem _ List.mem_cons_self))
      subst e1 e2
      exact hq q List.mem_cons_self fn c hf hb c' hc h2 wb k hm4 s xm _ a w H
    · exact loopQHook_ok (fun e he => hq e (List.mem_cons_of_mem _ he)) f fn c hf hb c' hc x x' e h wb k s a w hm H
/-- The loop of a function in which so many loops stand. -/
def loopsN (P : Program) (f : FuncId) (n : Nat) : List Code :=
  match P.funcs[f]? with
  | some fn =>
    match fn.body with
    | some c => (loopsIn c).filter fun c' => isN c' n
    | none => []
  | none => []
def theLoopN (P : Program) (f : FuncId) (n : Nat) : Code :=
  match loopsN P f n with
  | [c'] => c'
  | _ => .skip
def oneLoopN (P : Program) (f : FuncId) (n : Nat) : Bool :=
  match loopsN P f n with
  | [_] => true
  | _ => false
section
variable {P : Program}
theorem loopQ_ok {e : LoopQ} {N : Nat} (h1 : oneLoopN P e.f e.n = true) (hs : Stop P (theLoopN P e.f e.n) N e.t e.h e.e e.t' e.h' e.m) : LoopQOk P e := by
  intro fn c hf hb c' hc hn wb k hm s m m' a w H
  unfold oneLoopN at h1
  unfold theLoopN at hs
  have hmem : c' ∈ loopsN P e.f e.n := by
    unfold loopsN
    rw [hf]
    simp only [hb]
    exact List.mem_filter.2 ⟨hc, hn⟩
  split at h1
  · rename_i c0 hl
    rw [hl] at hmem hs
    rw [List.mem_singleton.1 hmem]
    exact wp_loop_rounds N (hs wb k hm s m a w H m')
  · cases h1
theorem loopV_of {lh : LoopHook} (hlo : LoopsOk P lh) {f : FuncId} {n : Nat} (h1 : oneLoopN P f n = true) : ∀ c' ∈ loopsIn (theLoopN P f n), LoopV P lh f c' := by
  unfold oneLoopN at h1
  unfold theLoopN
  split at h1
  · rename_i c0 hl
    intro c' hc
    have hmem : c0 ∈ loopsN P f n := by rw [hl]; exact List.mem_singleton.2 rfl
    unfold loopsN at hmem
    split at hmem
    · rename_i fn hf
      split at hmem
      · rename_i b hb
        exact hlo f fn b hf hb c' (loopsIn_trans (List.mem_filter.1 hmem).1 hc)
      · cases hmem
    · cases hmem
  · cases h1
noncomputable def bodyL (P : Program) (hk : Hook3) (orc : Orc) (lh : LoopHook) (fid : FuncId) (c : Code) : St → Option (Exit × St) := exG P (aOp P) (drawE P) hk orc accQ lh 100000 300 fid c
theorem bodyL_ok (hng : NoNG P) {hk : Hook3} (hhk : HookOk3 P hk) {lh : LoopHook} (hll : LoopLow lh) (hlo : LoopsOk P lh) (orc : Orc) (fid : FuncId) (c : Code) (hv : ∀ c' ∈ loopsIn c, LoopV P lh fid c') (wb : Wb) (k : Nat) (s : Ren) (x x' : St) (e : Exit) (a : Act) (w : World) (h : bodyL P hk orc lh fid c x = some (e, x')) (hm : Bnd k x'.m) (H : SR wb k s x a w) : c.wp P (Post wb k s x' e) a w :=
  exG_run accQ_eq hng (aOp_ok P hng) (drawE_ok P) (drawE_low P) hhk hll hlo 100000 300 wb k s fid c x x' e a w hv h hm H
theorem bodyL_low {hk : Hook3} (orc : Orc) {lh : LoopHook} (hll : LoopLow lh) (fid : FuncId) (c : Code) (k : Nat) (x x' : St) (e : Exit) (h : bodyL P hk orc lh fid c x = some (e, x')) (hm : Bnd k x'.m) : Bnd k x.m :=
  exG_low (drawE_low P) hll 100000 k 300 fid c x x' e h hm
theorem stopL_any {body : St → Option (Exit × St)} {c : Code}
    (hb : ∀ (wb : Wb) (k : Nat) (s : Ren) (x x' : St) (e : Exit) (a : Act) (w : World), body x = some (e, x') → Bnd k x'.m → SR wb k s x a w → c.wp P (Post wb k s x' e) a w)
    (hl : ∀ (k : Nat) (x x' : St) (e : Exit), body x = some (e, x') → Bnd k x'.m → Bnd k x.m) {n : Nat} {t t' : List Value} {h h' : List AO} {e : Exit} {mE : Mk} (hr : loopN body n ⟨t, h, (none, [])⟩ = some (e, ⟨t', h', mE⟩)) : Stop P c n t h e t' h' mE := by
  intro wb k hm s m a w H m'
  have h1 := loopN_ok hb wb k (hl k) n ⟨t, h, (none, [])⟩ ⟨t', h', mE⟩ e hr hm s a w ⟨H.t, H.d, H.h⟩
  have mono : ∀ (n : Nat) (a : Act) (w : World), Code.rounds P c (Post wb k s ⟨t', h', mE⟩ e) n a w → Code.rounds P c (Post wb k s ⟨t', h', m'⟩ e) n a w := by
    intro n
    induction n with
    | zero => intro a w h; exact h
    | succ n ih =>
      intro a w h0
      rw [rounds_succ] at h0 ⊢
      refine Code.wp_mono (fun e' a' w' hp => ?_) h0
      cases e' <;> first | exact ih _ _ hp | exact ⟨hp.1, let ⟨s', h1, h2⟩ := hp.2; ⟨s', h1, ⟨h2.t, h2.d, h2.h⟩⟩⟩
  exact mono n a w h1
end
end Go.Proofs.YthhgfjnnconocaaGreatDoor.Ex
end
section
namespace Go.Proofs.YthhgfjnnconocaaGreatDoor.Ex
set_option maxRecDepth 20000

open Go Go.RowKit
set_option linter.unusedVariables false
def unmask (β : Nat → Value) : Nat → List Bool → List Value → List Value
  | i, d :: ds, v :: vs => (bif d then β i else v) :: unmask β (i + 1) ds vs
  | _, _, vs => vs
theorem reV_scal {f : Nat → Nat} : ∀ (n : Nat) {v : Value}, scal v = true → reV f n v = v
  | 0, v, _ => rfl
  | n + 1, v, h => by
    cases v with
    | pointer a => cases a with
      | none => rfl
      | some a => simp [scal] at h
    | slice a l c => cases a with
      | none => rfl
      | some a => simp [scal] at h
    | map r => cases r with
      | none => rfl
      | some r => simp [scal] at h
    | func g a b =>
      cases g with
      | func g =>
        obtain ⟨a⟩ := a
        obtain ⟨b⟩ := b
        simp only [scal, Bool.and_eq_true, List.isEmpty_iff] at h
        obtain ⟨h1, h2⟩ := h
        subst h1 h2
        rfl
      | _ => simp [scal] at h
    | agg cs => simp [scal] at h
    | tuple cs => simp [scal] at h
    | iface t x => simp [scal] at h
    | _ => rfl
theorem map_id_all {g : Value → Value} {p : Value → Bool} (hg : ∀ v, p v = true → g v = v) : ∀ {l : List Value}, l.all p = true → l.map g = l
  | [], _ => rfl
  | x :: l, h => by
    simp only [List.all_cons, Bool.and_eq_true] at h
    rw [List.map_cons, hg x h.1, map_id_all hg h.2]
theorem reV_flat1 {f : Nat → Nat} : ∀ (n : Nat) {v : Value}, flat1 v = true → reV f n v = v
  | 0, v, _ => rfl
  | n + 1, v, h => by
    cases v with
    | agg cs =>
      obtain ⟨cs⟩ := cs
      show Value.agg ⟨cs.map (reV f n)⟩ = _
      rw [map_id_all (fun v hv => reV_scal n hv) (l := cs) h]
    | _ => exact reV_scal _ h
theorem reV_flat {f : Nat → Nat} : ∀ (n : Nat) {v : Value}, flat v = true → reV f n v = v
  | 0, v, _ => rfl
  | n + 1, v, h => by
    cases v with
    | tuple cs =>
      obtain ⟨cs⟩ := cs
      show Value.tuple ⟨cs.map (reV f n)⟩ = _
      rw [map_id_all (fun v hv => reV_flat1 n hv) (l := cs) h]
    | iface t x =>
      show Value.iface t (reV f n x) = _
      rw [reV_flat1 n (v := x) h]
    | _ => exact reV_flat1 _ h
theorem refF_flat1 {ok : Nat → Bool} (n : Nat) {v : Value} (h : flat1 v = true) : refF ok (n + 1) v = true := by
  cases v with
  | agg cs =>
    show cs.toList.all (refF ok n) = true
    exact List.all_eq_true.2 fun x hx => refF_scal n (List.all_eq_true.1 h x hx)
  | _ => exact refF_scal _ h
theorem refF_flat {ok : Nat → Bool} (n : Nat) {v : Value} (h : flat v = true) : refF ok (n + 2) v = true := by
  cases v with
  | tuple cs =>
    show cs.toList.all (refF ok (n + 1)) = true
    exact List.all_eq_true.2 fun x hx => refF_flat1 n (List.all_eq_true.1 h x hx)
  | iface t x => exact refF_flat1 n (v := x) h
  | _ => exact refF_flat1 _ h
section
variable {P : Program}
end
end Go.Proofs.YthhgfjnnconocaaGreatDoor.Ex
end
