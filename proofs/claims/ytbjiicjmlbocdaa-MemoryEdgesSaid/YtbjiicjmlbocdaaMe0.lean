/-
  The law MemoryEdges: two numbers compared; the chapter's example.
-/
import Derived.Test.YtbjiicjmlbocdaaLaw07b
import Derived.Test.YtbjiicjmlbocdaaExI
import Derived.Test.YtbjiicjmlbocdaaMemo
import Derived.Test.YtbjiicjmlbocdaaNumsN
import Derived.Test.YtbjiicjmlbocdaaEx24
namespace Go.Proofs.Ytbjiicjmlbocdaa.Ex
open Go Go.RowKit
set_option maxHeartbeats 0
set_option maxRecDepth 1000000
set_option linter.unusedVariables false
theorem noGuard (P : Program) : HookOk2 P (guardH noHook) := guard_ok (noHook_ok P)
def cmpS (x y : Int) : Int := bif decide (x < y) then -1 else bif decide (x > y) then 1 else 0
def cmpOrc (a b : Bool) : Orc := fun f t _ =>
  if Nat.beq f 21 then (if Nat.beq t 5 then some (.bool false) else none)
  else if Nat.beq f 13 then (if Nat.beq t 16 then some (.bool a) else if Nat.beq t 19 then some (.bool b) else none) else none
theorem cmp_any (x y : Int) (w : World) : Calls Try.prog 13 #[.int .u64 x, .int .u64 y] w fun e w' => e = .returned (.int .i64 (cmpS x y)) ∧ Gr w w' := by
  have n1 : (x != x) = false := by simp
  have n2 : (y != y) = false := by simp
  cases h1 : decide (x < y) with
  | true =>
    have e : cmpS x y = -1 := by simp [cmpS, h1]
    rw [e]
    refine reckonI_ok noNG (noGuard _) (cmpOrc true false) 100000 300 [] (cs := [(b2i (x != x), 0), (b2i (y != y), 0), (b2i (decide (x < y)), 1)]) rfl rfl (by kernel_rfl) ?_ w (Laid.nil w)
    intro c hc
    simp only [List.mem_cons, List.not_mem_nil, or_false] at hc
    rcases hc with rfl | rfl | rfl <;> simp only [n1, n2, h1, b2i]
  | false =>
    cases h2 : decide (x > y) with
    | true =>
      have e : cmpS x y = 1 := by simp [cmpS, h1, h2]
      rw [e]
      refine reckonI_ok noNG (noGuard _) (cmpOrc false true) 100000 300 [] (cs := [(b2i (x != x), 0), (b2i (y != y), 0), (b2i (decide (x < y)), 0), (b2i (decide (x > y)), 1)]) rfl rfl (by kernel_rfl) ?_ w (Laid.nil w)
      intro c hc
      simp only [List.mem_cons, List.not_mem_nil, or_false] at hc
      rcases hc with rfl | rfl | rfl | rfl <;> simp only [n1, n2, h1, h2, b2i]
    | false =>
      have e : cmpS x y = 0 := by simp [cmpS, h1, h2]
      rw [e]
      refine reckonI_ok noNG (noGuard _) (cmpOrc false false) 100000 300 [] (cs := [(b2i (x != x), 0), (b2i (y != y), 0), (b2i (decide (x < y)), 0), (b2i (decide (x > y)), 0)]) rfl rfl (by kernel_rfl) ?_ w (Laid.nil w)
      intro c hc
      simp only [List.mem_cons, List.not_mem_nil, or_false] at hc
      rcases hc with rfl | rfl | rfl | rfl <;> simp only [n1, n2, h1, h2, b2i]
def cmpHook : Hook := fun f args _ =>
  if Nat.beq f 13 then
    match args with
    | [.int .u64 x, .int .u64 y] => some (.int .i64 (cmpS x y), [])
    | _ => none
  else none
theorem cmpHook_ok : HookOk Try.prog cmpHook := by
  intro f args h v cs hv hc wb k s w H
  unfold cmpHook at hv
  split at hv
  · rename_i hf
    obtain rfl := Nat.eq_of_beq_eq_true hf
    split at hv
    · cases hv
      exact cmp_any _ _ w
    · cases hv
  · cases hv
def laidHook : Hook := fun f args _ => if Nat.beq f 10 && args.isEmpty then some (.bool true, []) else none
theorem laidHook_ok : HookOk Try.prog laidHook := by
  intro f args h v cs hv _ wb k s w _
  unfold laidHook at hv
  split at hv
  · rename_i hc
    cases hv
    simp only [Bool.and_eq_true] at hc
    obtain rfl := Nat.eq_of_beq_eq_true hc.1
    obtain rfl : args = [] := by simpa using hc.2
    exact laid_any w
  · cases hv
def b1N (n : Int) : List UInt8 := bif n == 1 then [1] else bif n == 2 then [1, 0] else bif n == 4 then [1, 0, 0, 0] else [1, 0, 0, 0, 0, 0, 0, 0]
def meHk : Hook := fun f args _ =>
  if Nat.beq f 17 then
    match args with
    | [.string s] => some (.int .u64 (N (numS s)), [(b2i (decide (s.size ≤ 8)), 1)])
    | _ => none
  else none
theorem meHk_ok : HookOk Try.prog meHk := by
  intro f args h v cs hv hc wb k s w H
  unfold meHk at hv
  split at hv
  · rename_i hf
    obtain rfl := Nat.eq_of_beq_eq_true hf
    split at hv
    · cases hv
      rename_i b
      have h8 : b.size ≤ 8 := by
        have h0 := b2i_inj (b := true) (hc _ (List.mem_singleton.2 rfl))
        simpa using h0
      exact (num_any b w (Nat.le_trans h8 (by unfold maxLen; decide))).mono fun e w' ⟨he, hw⟩ => ⟨he, hw ▸ Gr.refl w⟩
    · cases hv
  · cases hv
def meTab : Tab := [1, 2, 4, 8].map fun n => ([.int .u64 1, .int .i64 n], .string ⟨⟨b1N n⟩⟩)
theorem meTab_ok : TabOk Try.prog [] 18 meTab :=
  ⟨fun w _ => reckon_ok noNG 100000 300 rfl rfl (by kernel_rfl) w, fun w _ => reckon_ok noNG 100000 300 rfl rfl (by kernel_rfl) w, fun w _ => reckon_ok noNG 100000 300 rfl rfl (by kernel_rfl) w, fun w _ => reckon_ok noNG 100000 300 rfl rfl (by kernel_rfl) w, trivial⟩
def meHook : Hook := orHook meHk (orHook (memoHook [] 18 meTab) (orHook cmpHook laidHook))
theorem meHook_ok : HookOk Try.prog meHook := orHook_ok meHk_ok (orHook_ok (memoHook_ok rfl meTab_ok) (orHook_ok cmpHook_ok laidHook_ok))
def meH3 : Hook3 := liftH (guardH meHook)
theorem meH3_ok : HookOk3 Try.prog meH3 := lift_ok (guard_ok meHook_ok)
def isOne : List Value → Nat → Bool
  | x, j => match x.getD j undef with | .string ⟨⟨[_]⟩⟩ => true | _ => false
/-- What is asked ahead of the loop. -/
def meE (m : Nat) (F : Int) : Orc := fun f t x =>
  if Nat.beq f 3 then
    match t with
    | 26 => some (.int .i64 m) | 29 => some (.int .u64 F) | 32 => some .nilIface | 33 => some .nilIface | 39 => some (.int .u64 (F + m))
    | _ => none
  else if Nat.beq f 4 then
    match t with
    | 23 => some (.bool false) | 33 => some (.bool false) | 88 => some (.bool false)
    | _ => none
  else if Nat.beq f 24 then (if Nat.beq t 33 then some (.bool true) else none)
  else if Nat.beq f 6 then (if Nat.beq t 22 then some .nilIface else none)
  else if Nat.beq f 5 then (if Nat.beq t 25 then some (.bool false) else none)
  else none
end Go.Proofs.Ytbjiicjmlbocdaa.Ex
