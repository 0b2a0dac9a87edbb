/-
  Layer 12: conditions and arithmetic of programs, told by their contracts.
-/
import Derived.Test.YtbaiokfjoglmiaaDoorLaw12b
import Derived.Test.YtbaiokfjoglmiaaDoorHoldsA
import Derived.Test.YtbaiokfjoglmiaaDoorHoldsB
namespace Go.Proofs.YtbaiokfjoglmiaaDoor.Ex
open Go Go.RowKit
theorem holds_any (x : Int) (wide : Bool) (a b : BitVec 64) (w : World) : Calls Tryd.prog 27 #[.int .u8 x, .bool wide, .int .u64 (N a), .int .u64 (N b)] w fun e w' => e = .returned (.bool (condS x wide a b)) ∧ Grown w w' := by
  cases wide
  · exact holds32 x a b w
  · exact holds64 x a b w
/-- A number that is of 64 bits. -/
def inU (a : Int) : Int × Int := (b2i (decide (0 ≤ a ∧ a < 18446744073709551616)), 1)
theorem inU_ok {a : Int} (h : (inU a).1 = (inU a).2) : ∃ v : BitVec 64, a = N v := by
  have h2 : decide (0 ≤ a ∧ a < 18446744073709551616) = true := b2i_inj (b := true) h
  obtain ⟨h0, h1⟩ := of_decide_eq_true h2
  exact ⟨BitVec.ofInt 64 a, (N_ofInt a h0 (by simpa using h1)).symm⟩
theorem inU_N (v : BitVec 64) : (inU (N v)).1 = 1 := by
  have h0 := N_nonneg v
  have h1 := N_lt v
  unfold inU
  rw [decide_eq_true ⟨h0, by simpa using h1⟩]
  rfl
def holdsHook : Hook := fun f args _ =>
  if Nat.beq f 27 then
    match args with
    | [.int .u8 x, .bool wide, .int .u64 a, .int .u64 b] => some (.bool (condS x wide (BitVec.ofInt 64 a) (BitVec.ofInt 64 b)), [inU a, inU b])
    | _ => none
  else none
theorem holdsHook_ok : HookOk Tryd.prog holdsHook := by
  intro f args h v cs hv hc wb k s w H
  unfold holdsHook at hv
  split at hv
  · rename_i hf
    obtain rfl := Nat.eq_of_beq_eq_true hf
    split at hv
    · rename_i x wide a b
      cases hv
      obtain ⟨va, rfl⟩ := inU_ok (hc (inU a) (by simp))
      obtain ⟨vb, rfl⟩ := inU_ok (hc (inU b) (by simp))
      rw [ofInt_N, ofInt_N]
      exact (holds_any x wide va vb w).mono fun e w' h => ⟨h.1, Gr.of_grown h.2⟩
    · cases hv
  · cases hv
def doHook : Hook := fun f args _ =>
  if Nat.beq f 28 then
    match args with
    | [.int .u8 x, .bool wide, .int .u64 a, .int .u64 b] => some (.int .u64 (N (aluS x wide (BitVec.ofInt 64 a) (BitVec.ofInt 64 b))), [inU a, inU b])
    | _ => none
  else none
theorem doHook_ok : HookOk Tryd.prog doHook := by
  intro f args h v cs hv hc wb k s w H
  unfold doHook at hv
  split at hv
  · rename_i hf
    obtain rfl := Nat.eq_of_beq_eq_true hf
    split at hv
    · rename_i x wide a b
      cases hv
      obtain ⟨va, rfl⟩ := inU_ok (hc (inU a) (by simp))
      obtain ⟨vb, rfl⟩ := inU_ok (hc (inU b) (by simp))
      rw [ofInt_N, ofInt_N]
      exact (do_any x wide va vb w).mono fun e w' h => ⟨h.1, Gr.of_grown h.2⟩
    · cases hv
  · cases hv
/-- Comparing, as the machine does it: of numbers of a kind. -/
def subI (k : IntKind) (a b : Int) : Int := k.wrap (a - b)
def andI (k : IntKind) (a b : Int) : Int := k.wrap (BitVec.ofInt k.bits a &&& BitVec.ofInt k.bits b).toNat
def xorI (k : IntKind) (a b : Int) : Int := k.wrap (BitVec.ofInt k.bits a ^^^ BitVec.ofInt k.bits b).toNat
def negB (half : Int) (v : Int) : Bool := decide (v > half)
end Go.Proofs.YtbaiokfjoglmiaaDoor.Ex
