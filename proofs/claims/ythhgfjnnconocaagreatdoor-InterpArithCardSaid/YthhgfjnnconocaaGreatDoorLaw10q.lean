/-
  Layer 10: conditions and arithmetic of programs, told by their contracts.
-/
import Derived.Test.YthhgfjnnconocaaGreatDoorLaw10n
import Derived.Test.YthhgfjnnconocaaGreatDoorPackE
import Derived.Test.YthhgfjnnconocaaGreatDoorHoldsA
import Derived.Test.YthhgfjnnconocaaGreatDoorHoldsB
namespace Go.Proofs.YthhgfjnnconocaaGreatDoor.Ex
open Go Go.RowKit
theorem holds_any (x : Int) (wide : Bool) (a b : BitVec 64) (w : World) : Calls Tryz.prog 11 #[.int .u8 x, .bool wide, .int .u64 (N a), .int .u64 (N b)] w fun e w' => e = .returned (.bool (condS x wide a b)) ∧ Grown w w' := by
  cases wide
  · exact holds32 x a b w
  · exact holds64 x a b w
/-- A number that is of 64 bits. -/
def inU (a : Int) : Int × Int := (b2i (decide (0 ≤ a ∧ a < 18446744073709551616)), 1)
theorem inU_ok {a : Int} (h : (inU a).1 = (inU a).2) : ∃ v : BitVec 64, a = N v := by
  have h2 : decide (0 ≤ a ∧ a < 18446744073709551616) = true := b2i_inj (b := true) h
  obtain ⟨h0, h1⟩ := of_decide_eq_true h2
  exact ⟨BitVec.ofInt 64 a, (N_ofInt a h0 (by simpa using h1)).symm⟩
theorem inU_N (v : BitVec 64) : (inU (N v)).1 = 1 := by
  have h0 := N_nonneg v
  have h1 := N_lt v
  unfold inU
  rw [decide_eq_true ⟨h0, by simpa using h1⟩]
  rfl
def holdsHook : Hook := fun f args _ =>
  if Nat.beq f 11 then
    match args with
    | [.int .u8 x, .bool wide, .int .u64 a, .int .u64 b] => some (.bool (condS x wide (BitVec.ofInt 64 a) (BitVec.ofInt 64 b)), [inU a, inU b])
    | _ => none
  else none
theorem holdsHook_ok : HookOk Tryz.prog holdsHook := by
  intro f args h v cs hv hc wb k s w H
  unfold holdsHook at hv
  split at hv
  · rename_i hf
    obtain rfl := Nat.eq_of_beq_eq_true hf
    split at hv
    · rename_i x wide a b
      cases hv
      obtain ⟨va, rfl⟩ := inU_ok (hc (inU a) (by simp))
      obtain ⟨vb, rfl⟩ := inU_ok (hc (inU b) (by simp))
      rw [ofInt_N, ofInt_N]
      exact (holds_any x wide va vb w).mono fun e w' h => ⟨h.1, Gr.of_grown h.2⟩
    · cases hv
  · cases hv
def doHook : Hook := fun f args _ =>
  if Nat.beq f 10 then
    match args with
    | [.int .u8 x, .bool wide, .int .u64 a, .int .u64 b] => some (.int .u64 (N (aluS x wide (BitVec.ofInt 64 a) (BitVec.ofInt 64 b))), [inU a, inU b])
    | _ => none
  else none
theorem doHook_ok : HookOk Tryz.prog doHook := by
  intro f args h v cs hv hc wb k s w H
  unfold doHook at hv
  split at hv
  · rename_i hf
    obtain rfl := Nat.eq_of_beq_eq_true hf
    split at hv
    · rename_i x wide a b
      cases hv
      obtain ⟨va, rfl⟩ := inU_ok (hc (inU a) (by simp))
      obtain ⟨vb, rfl⟩ := inU_ok (hc (inU b) (by simp))
      rw [ofInt_N, ofInt_N]
      exact (do_any x wide va vb w).mono fun e w' h => ⟨h.1, Gr.of_grown h.2⟩
    · cases hv
  · cases hv
end Go.Proofs.YthhgfjnnconocaaGreatDoor.Ex
