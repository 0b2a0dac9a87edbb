/-
  The law MemoryOver: what its runs ask; two numbers compared.
-/
import Derived.Test.YtkdnjphgmifkmaaLaw07b
import Derived.Test.YtkdnjphgmifkmaaExI
import Derived.Test.YtkdnjphgmifkmaaMemo
namespace Go.Proofs.Ytkdnjphgmifkmaa.Ex
open Go Go.RowKit
set_option maxHeartbeats 0
set_option maxRecDepth 1000000
set_option linter.unusedVariables false
theorem noGuard (P : Program) : HookOk2 P (guardH noHook) := guard_ok (noHook_ok P)
def cmpS (x y : Int) : Int := bif decide (x < y) then -1 else bif decide (x > y) then 1 else 0
def cmpOrc (a b : Bool) : Orc := fun f t _ =>
  if Nat.beq f 49 then (if Nat.beq t 5 then some (.bool false) else none)
  else if Nat.beq f 36 then (if Nat.beq t 16 then some (.bool a) else if Nat.beq t 19 then some (.bool b) else none) else none
theorem cmp_any (x y : Int) (w : World) : Calls Try.prog 36 #[.int .u64 x, .int .u64 y] w fun e w' => e = .returned (.int .i64 (cmpS x y)) ∧ Gr w w' := by
  have n1 : (x != x) = false := by simp
  have n2 : (y != y) = false := by simp
  cases h1 : decide (x < y) with
  | true =>
    have e : cmpS x y = -1 := by simp [cmpS, h1]
    rw [e]
    refine reckonI_ok noNG (noGuard _) (cmpOrc true false) 100000 300 [] (cs := [(b2i (x != x), 0), (b2i (y != y), 0), (b2i (decide (x < y)), 1)]) rfl rfl (by kernel_rfl) ?_ w (Laid.nil w)
    intro c hc
    simp only [List.mem_cons, List.not_mem_nil, or_false] at hc
    rcases hc with rfl | rfl | rfl <;> simp only [n1, n2, h1, b2i]
  | false =>
    cases h2 : decide (x > y) with
    | true =>
      have e : cmpS x y = 1 := by simp [cmpS, h1, h2]
      rw [e]
      refine reckonI_ok noNG (noGuard _) (cmpOrc false true) 100000 300 [] (cs := [(b2i (x != x), 0), (b2i (y != y), 0), (b2i (decide (x < y)), 0), (b2i (decide (x > y)), 1)]) rfl rfl (by kernel_rfl) ?_ w (Laid.nil w)
      intro c hc
      simp only [List.mem_cons, List.not_mem_nil, or_false] at hc
      rcases hc with rfl | rfl | rfl | rfl <;> simp only [n1, n2, h1, h2, b2i]
    | false =>
      have e : cmpS x y = 0 := by simp [cmpS, h1, h2]
      rw [e]
      refine reckonI_ok noNG (noGuard _) (cmpOrc false false) 100000 300 [] (cs := [(b2i (x != x), 0), (b2i (y != y), 0), (b2i (decide (x < y)), 0), (b2i (decide (x > y)), 0)]) rfl rfl (by kernel_rfl) ?_ w (Laid.nil w)
      intro c hc
      simp only [List.mem_cons, List.not_mem_nil, or_false] at hc
      rcases hc with rfl | rfl | rfl | rfl <;> simp only [n1, n2, h1, h2, b2i]
def cmpHook : Hook := fun f args _ =>
  if Nat.beq f 36 then
    match args with
    | [.int .u64 x, .int .u64 y] => some (.int .i64 (cmpS x y), [])
    | _ => none
  else none
theorem cmpHook_ok : HookOk Try.prog cmpHook := by
  intro f args h v cs hv hc wb k s w H
  unfold cmpHook at hv
  split at hv
  · rename_i hf
    obtain rfl := Nat.eq_of_beq_eq_true hf
    split at hv
    · cases hv
      exact cmp_any _ _ w
    · cases hv
  · cases hv
def laidHook : Hook := fun f args _ => if Nat.beq f 16 && args.isEmpty then some (.bool true, []) else none
theorem laidHook_ok : HookOk Try.prog laidHook := by
  intro f args h v cs hv _ wb k s w _
  unfold laidHook at hv
  split at hv
  · rename_i hc
    cases hv
    simp only [Bool.and_eq_true] at hc
    obtain rfl := Nat.eq_of_beq_eq_true hc.1
    obtain rfl : args = [] := by simpa using hc.2
    exact laid_any w
  · cases hv
def moHook : Hook := orHook cmpHook laidHook
theorem moHook_ok : HookOk Try.prog moHook := orHook_ok cmpHook_ok laidHook_ok
/-- The block that a slice lies in. -/
def blkOf : List Value → Nat
  | .slice (some a) _ _ :: _ => a.block
  | _ => 0
/-- Whether a slice has one element alone. -/
def oneIn : List Value → Bool
  | .slice (some _) l _ :: _ => Nat.beq l 1
  | _ => false
/-- lt, gt: how the regions stand; p, q: the two tests of the law; ov: whether they overlap. -/
def moOrc (lt gt p q ov : Bool) : Orc := fun f t x =>
  if Nat.beq f 5 then
    (if Nat.beq t 28 || (Nat.beq t 29 || (Nat.beq t 41 || Nat.beq t 42)) then some .nilIface else if Nat.beq t 53 then some (.bool p) else if Nat.beq t 64 then some (.bool q) else none)
  else if Nat.beq f 17 then
    (if Nat.beq t 23 then some (.bool false) else if Nat.beq t 33 then some (.bool (oneIn x))
    else if Nat.beq t 88 then some (.bool (if Nat.beq (blkOf x) 6 || (Nat.beq (blkOf x) 7 || Nat.beq (blkOf x) 16) then ov else false)) else none)
  else if Nat.beq f 58 then
    (if Nat.beq t 33 then some (.bool (if Nat.beq (blkOf x) 7 then gt else if Nat.beq (blkOf x) 8 || Nat.beq (blkOf x) 17 then lt else true)) else none)
  else none
end Go.Proofs.Ytkdnjphgmifkmaa.Ex
