/-
  Layer 13: the law MachineJumps: decoding in its code, as a hook.
-/
import Derived.Test.YtpkjgcfdemnohaaGreatDoorMj2
import Derived.Test.YtpkjgcfdemnohaaGreatDoorMj3
namespace Go.Proofs.YtpkjgcfdemnohaaGreatDoor.Ex
open Go Go.RowKit
set_option linter.unusedVariables false
set_option maxHeartbeats 0
set_option maxRecDepth 1000000
def atT (y : UInt8) (cc m n : Int) (g : Nat → UInt8) (at_ : Int) : Option Sc :=
  if at_ == 0 then some ⟨[.string ⟨⟨codeJ true y (g 2) (g 3) (g 4) (g 5) (g 6) (g 7) (g 8) (g 9) (g 12) (g 13) (g 14) (g 15) (g 16) (g 17) (g 18) (g 19)⟩⟩, .int .i64 0], .tuple ⟨[.agg ⟨xB 3 0 0 0 true false 1 0 0 0 m⟩, .int .i64 10, .int .i64 0]⟩, cAbs m 1 [g 2, g 3, g 4, g 5, g 6, g 7, g 8, g 9] 185⟩
  else if at_ == 10 then some ⟨[.string ⟨⟨codeJ true y (g 2) (g 3) (g 4) (g 5) (g 6) (g 7) (g 8) (g 9) (g 12) (g 13) (g 14) (g 15) (g 16) (g 17) (g 18) (g 19)⟩⟩, .int .i64 10], .tuple ⟨[.agg ⟨xB 3 0 0 0 true false 2 0 0 0 n⟩, .int .i64 10, .int .i64 0]⟩, cAbs n 2 [g 12, g 13, g 14, g 15, g 16, g 17, g 18, g 19] 186⟩
  else if at_ == 20 then some ⟨[.string ⟨⟨codeJ true y (g 2) (g 3) (g 4) (g 5) (g 6) (g 7) (g 8) (g 9) (g 12) (g 13) (g 14) (g 15) (g 16) (g 17) (g 18) (g 19)⟩⟩, .int .i64 20], .tuple ⟨[.agg ⟨xB 2 0 0 0 true false 0 0 0 0 1⟩, .int .i64 7, .int .i64 0]⟩, []⟩
  else if at_ == 27 then some ⟨[.string ⟨⟨codeJ true y (g 2) (g 3) (g 4) (g 5) (g 6) (g 7) (g 8) (g 9) (g 12) (g 13) (g 14) (g 15) (g 16) (g 17) (g 18) (g 19)⟩⟩, .int .i64 27], .tuple ⟨[.agg ⟨xB 4 7 0 0 true false 1 2 0 0 0⟩, .int .i64 3, .int .i64 0]⟩, []⟩
  else if at_ == 30 then some ⟨[.string ⟨⟨codeJ true y (g 2) (g 3) (g 4) (g 5) (g 6) (g 7) (g 8) (g 9) (g 12) (g 13) (g 14) (g 15) (g 16) (g 17) (g 18) (g 19)⟩⟩, .int .i64 30], .tuple ⟨[.agg ⟨xB 16 0 cc 0 false true 0 0 0 7 0⟩, .int .i64 2, .int .i64 0]⟩, []⟩
  else if at_ == 32 then some ⟨[.string ⟨⟨codeJ true y (g 2) (g 3) (g 4) (g 5) (g 6) (g 7) (g 8) (g 9) (g 12) (g 13) (g 14) (g 15) (g 16) (g 17) (g 18) (g 19)⟩⟩, .int .i64 32], .tuple ⟨[.agg ⟨xB 2 0 0 0 true false 0 0 0 0 0⟩, .int .i64 7, .int .i64 0]⟩, []⟩
  else if at_ == 39 then some ⟨[.string ⟨⟨codeJ true y (g 2) (g 3) (g 4) (g 5) (g 6) (g 7) (g 8) (g 9) (g 12) (g 13) (g 14) (g 15) (g 16) (g 17) (g 18) (g 19)⟩⟩, .int .i64 39], .tuple ⟨[.agg ⟨xB 19 0 0 0 false false 0 0 0 0 0⟩, .int .i64 1, .int .i64 0]⟩, []⟩
  else none
def selT (y : UInt8) (cc m n : Int) : List Value → Option Sc
  | [.string s, .int .i64 a] => atT y cc m n (fun i => s.data.toList.getD i 0) a
  | _ => none
theorem atT_ok (y : UInt8) (cc m n : Int) (h30 : ∀ b0 b1 b2 b3 b4 b5 b6 b7 c0 c1 c2 c3 c4 c5 c6 c7 : UInt8, ScOk Tryz.prog h14 109 ⟨[.string ⟨⟨codeJ true y b0 b1 b2 b3 b4 b5 b6 b7 c0 c1 c2 c3 c4 c5 c6 c7⟩⟩, .int .i64 30], .tuple ⟨[.agg ⟨xB 16 0 cc 0 false true 0 0 0 7 0⟩, .int .i64 2, .int .i64 0]⟩, []⟩) (g : Nat → UInt8) (a : Int) (c : Sc) (h : atT y cc m n g a = some c) : ScOk Tryz.prog h14 109 c := by
  unfold atT at h
  split at h
  · cases h
    exact decT0 (g 2) (g 3) (g 4) (g 5) (g 6) (g 7) (g 8) (g 9) (g 12) (g 13) (g 14) (g 15) (g 16) (g 17) (g 18) (g 19) y m
  split at h
  · cases h
    exact decT10 (g 2) (g 3) (g 4) (g 5) (g 6) (g 7) (g 8) (g 9) (g 12) (g 13) (g 14) (g 15) (g 16) (g 17) (g 18) (g 19) y n
  split at h
  · cases h
    exact decT20 (g 2) (g 3) (g 4) (g 5) (g 6) (g 7) (g 8) (g 9) (g 12) (g 13) (g 14) (g 15) (g 16) (g 17) (g 18) (g 19) y
  split at h
  · cases h
    exact decT27 (g 2) (g 3) (g 4) (g 5) (g 6) (g 7) (g 8) (g 9) (g 12) (g 13) (g 14) (g 15) (g 16) (g 17) (g 18) (g 19) y
  split at h
  · cases h
    exact h30 (g 2) (g 3) (g 4) (g 5) (g 6) (g 7) (g 8) (g 9) (g 12) (g 13) (g 14) (g 15) (g 16) (g 17) (g 18) (g 19)
  split at h
  · cases h
    exact decT32 (g 2) (g 3) (g 4) (g 5) (g 6) (g 7) (g 8) (g 9) (g 12) (g 13) (g 14) (g 15) (g 16) (g 17) (g 18) (g 19) y
  split at h
  · cases h
    exact decT39 (g 2) (g 3) (g 4) (g 5) (g 6) (g 7) (g 8) (g 9) (g 12) (g 13) (g 14) (g 15) (g 16) (g 17) (g 18) (g 19) y
  cases h
theorem selT_ok (y : UInt8) (cc m n : Int) (h30 : ∀ b0 b1 b2 b3 b4 b5 b6 b7 c0 c1 c2 c3 c4 c5 c6 c7 : UInt8, ScOk Tryz.prog h14 109 ⟨[.string ⟨⟨codeJ true y b0 b1 b2 b3 b4 b5 b6 b7 c0 c1 c2 c3 c4 c5 c6 c7⟩⟩, .int .i64 30], .tuple ⟨[.agg ⟨xB 16 0 cc 0 false true 0 0 0 7 0⟩, .int .i64 2, .int .i64 0]⟩, []⟩) : ∀ a c, selT y cc m n a = some c → ScOk Tryz.prog h14 109 c := by
  intro a c h
  unfold selT at h
  split at h
  · exact atT_ok y cc m n h30 _ _ c h
  · cases h
def hkDecT (y : UInt8) (cc m n : Int) : Hook := symHook h14 109 (selT y cc m n)
theorem hkDecT_ok (y : UInt8) (cc m n : Int) (h30 : ∀ b0 b1 b2 b3 b4 b5 b6 b7 c0 c1 c2 c3 c4 c5 c6 c7 : UInt8, ScOk Tryz.prog h14 109 ⟨[.string ⟨⟨codeJ true y b0 b1 b2 b3 b4 b5 b6 b7 c0 c1 c2 c3 c4 c5 c6 c7⟩⟩, .int .i64 30], .tuple ⟨[.agg ⟨xB 16 0 cc 0 false true 0 0 0 7 0⟩, .int .i64 2, .int .i64 0]⟩, []⟩) : HookOk Tryz.prog (hkDecT y cc m n) := symHook_ok rfl (selT_ok y cc m n h30)
def atF (y : UInt8) (cc m n : Int) (g : Nat → UInt8) (at_ : Int) : Option Sc :=
  if at_ == 0 then some ⟨[.string ⟨⟨codeJ false y (g 2) (g 3) (g 4) (g 5) (g 6) (g 7) (g 8) (g 9) (g 12) (g 13) (g 14) (g 15) (g 16) (g 17) (g 18) (g 19)⟩⟩, .int .i64 0], .tuple ⟨[.agg ⟨xB 3 0 0 0 true false 1 0 0 0 m⟩, .int .i64 10, .int .i64 0]⟩, cAbs m 1 [g 2, g 3, g 4, g 5, g 6, g 7, g 8, g 9] 185⟩
  else if at_ == 10 then some ⟨[.string ⟨⟨codeJ false y (g 2) (g 3) (g 4) (g 5) (g 6) (g 7) (g 8) (g 9) (g 12) (g 13) (g 14) (g 15) (g 16) (g 17) (g 18) (g 19)⟩⟩, .int .i64 10], .tuple ⟨[.agg ⟨xB 3 0 0 0 true false 2 0 0 0 n⟩, .int .i64 10, .int .i64 0]⟩, cAbs n 2 [g 12, g 13, g 14, g 15, g 16, g 17, g 18, g 19] 186⟩
  else if at_ == 20 then some ⟨[.string ⟨⟨codeJ false y (g 2) (g 3) (g 4) (g 5) (g 6) (g 7) (g 8) (g 9) (g 12) (g 13) (g 14) (g 15) (g 16) (g 17) (g 18) (g 19)⟩⟩, .int .i64 20], .tuple ⟨[.agg ⟨xB 2 0 0 0 true false 0 0 0 0 1⟩, .int .i64 7, .int .i64 0]⟩, []⟩
  else if at_ == 27 then some ⟨[.string ⟨⟨codeJ false y (g 2) (g 3) (g 4) (g 5) (g 6) (g 7) (g 8) (g 9) (g 12) (g 13) (g 14) (g 15) (g 16) (g 17) (g 18) (g 19)⟩⟩, .int .i64 27], .tuple ⟨[.agg ⟨xB 4 7 0 0 true false 1 2 0 0 0⟩, .int .i64 3, .int .i64 0]⟩, []⟩
  else if at_ == 30 then some ⟨[.string ⟨⟨codeJ false y (g 2) (g 3) (g 4) (g 5) (g 6) (g 7) (g 8) (g 9) (g 12) (g 13) (g 14) (g 15) (g 16) (g 17) (g 18) (g 19)⟩⟩, .int .i64 30], .tuple ⟨[.agg ⟨xB 16 0 cc 0 false false 0 0 0 7 0⟩, .int .i64 6, .int .i64 0]⟩, []⟩
  else if at_ == 36 then some ⟨[.string ⟨⟨codeJ false y (g 2) (g 3) (g 4) (g 5) (g 6) (g 7) (g 8) (g 9) (g 12) (g 13) (g 14) (g 15) (g 16) (g 17) (g 18) (g 19)⟩⟩, .int .i64 36], .tuple ⟨[.agg ⟨xB 2 0 0 0 true false 0 0 0 0 0⟩, .int .i64 7, .int .i64 0]⟩, []⟩
  else if at_ == 43 then some ⟨[.string ⟨⟨codeJ false y (g 2) (g 3) (g 4) (g 5) (g 6) (g 7) (g 8) (g 9) (g 12) (g 13) (g 14) (g 15) (g 16) (g 17) (g 18) (g 19)⟩⟩, .int .i64 43], .tuple ⟨[.agg ⟨xB 19 0 0 0 false false 0 0 0 0 0⟩, .int .i64 1, .int .i64 0]⟩, []⟩
  else none
def selF (y : UInt8) (cc m n : Int) : List Value → Option Sc
  | [.string s, .int .i64 a] => atF y cc m n (fun i => s.data.toList.getD i 0) a
  | _ => none
theorem atF_ok (y : UInt8) (cc m n : Int) (h30 : ∀ b0 b1 b2 b3 b4 b5 b6 b7 c0 c1 c2 c3 c4 c5 c6 c7 : UInt8, ScOk Tryz.prog h14 109 ⟨[.string ⟨⟨codeJ false y b0 b1 b2 b3 b4 b5 b6 b7 c0 c1 c2 c3 c4 c5 c6 c7⟩⟩, .int .i64 30], .tuple ⟨[.agg ⟨xB 16 0 cc 0 false false 0 0 0 7 0⟩, .int .i64 6, .int .i64 0]⟩, []⟩) (g : Nat → UInt8) (a : Int) (c : Sc) (h : atF y cc m n g a = some c) : ScOk Tryz.prog h14 109 c := by
  unfold atF at h
  split at h
  · cases h
    exact decF0 (g 2) (g 3) (g 4) (g 5) (g 6) (g 7) (g 8) (g 9) (g 12) (g 13) (g 14) (g 15) (g 16) (g 17) (g 18) (g 19) y m
  split at h
  · cases h
    exact decF10 (g 2) (g 3) (g 4) (g 5) (g 6) (g 7) (g 8) (g 9) (g 12) (g 13) (g 14) (g 15) (g 16) (g 17) (g 18) (g 19) y n
  split at h
  · cases h
    exact decF20 (g 2) (g 3) (g 4) (g 5) (g 6) (g 7) (g 8) (g 9) (g 12) (g 13) (g 14) (g 15) (g 16) (g 17) (g 18) (g 19) y
  split at h
  · cases h
    exact decF27 (g 2) (g 3) (g 4) (g 5) (g 6) (g 7) (g 8) (g 9) (g 12) (g 13) (g 14) (g 15) (g 16) (g 17) (g 18) (g 19) y
  split at h
  · cases h
    exact h30 (g 2) (g 3) (g 4) (g 5) (g 6) (g 7) (g 8) (g 9) (g 12) (g 13) (g 14) (g 15) (g 16) (g 17) (g 18) (g 19)
  split at h
  · cases h
    exact decF36 (g 2) (g 3) (g 4) (g 5) (g 6) (g 7) (g 8) (g 9) (g 12) (g 13) (g 14) (g 15) (g 16) (g 17) (g 18) (g 19) y
  split at h
  · cases h
    exact decF43 (g 2) (g 3) (g 4) (g 5) (g 6) (g 7) (g 8) (g 9) (g 12) (g 13) (g 14) (g 15) (g 16) (g 17) (g 18) (g 19) y
  cases h
theorem selF_ok (y : UInt8) (cc m n : Int) (h30 : ∀ b0 b1 b2 b3 b4 b5 b6 b7 c0 c1 c2 c3 c4 c5 c6 c7 : UInt8, ScOk Tryz.prog h14 109 ⟨[.string ⟨⟨codeJ false y b0 b1 b2 b3 b4 b5 b6 b7 c0 c1 c2 c3 c4 c5 c6 c7⟩⟩, .int .i64 30], .tuple ⟨[.agg ⟨xB 16 0 cc 0 false false 0 0 0 7 0⟩, .int .i64 6, .int .i64 0]⟩, []⟩) : ∀ a c, selF y cc m n a = some c → ScOk Tryz.prog h14 109 c := by
  intro a c h
  unfold selF at h
  split at h
  · exact atF_ok y cc m n h30 _ _ c h
  · cases h
def hkDecF (y : UInt8) (cc m n : Int) : Hook := symHook h14 109 (selF y cc m n)
theorem hkDecF_ok (y : UInt8) (cc m n : Int) (h30 : ∀ b0 b1 b2 b3 b4 b5 b6 b7 c0 c1 c2 c3 c4 c5 c6 c7 : UInt8, ScOk Tryz.prog h14 109 ⟨[.string ⟨⟨codeJ false y b0 b1 b2 b3 b4 b5 b6 b7 c0 c1 c2 c3 c4 c5 c6 c7⟩⟩, .int .i64 30], .tuple ⟨[.agg ⟨xB 16 0 cc 0 false false 0 0 0 7 0⟩, .int .i64 6, .int .i64 0]⟩, []⟩) : HookOk Tryz.prog (hkDecF y cc m n) := symHook_ok rfl (selF_ok y cc m n h30)
end Go.Proofs.YtpkjgcfdemnohaaGreatDoor.Ex
