/-
  Layer 10: programs that reckon with two numbers, and hold them against each other: what their runs come to.
-/
import Derived.Test.YthhgfjnnconocaaGreatDoorLaw10q
namespace Go.Proofs.YthhgfjnnconocaaGreatDoor.Ex
open Go Go.RowKit
set_option maxHeartbeats 0
set_option maxRecDepth 1000000
set_option linter.unusedVariables false
def codes12 : List Int := [0, 16, 32, 48, 64, 80, 96, 112, 144, 160, 176, 192]
def codes11 : List Int := [16, 80, 32, 48, 160, 176, 96, 112, 192, 208, 64]
def op12 (x : Int) : Bool := codes12.contains x
def op11 (x : Int) : Bool := codes11.contains x
/-- The number that two halves are, as the interpreter puts it together. -/
def cst (hi lo : Int) : Int := IntKind.u64.wrap ((BitVec.ofInt IntKind.u64.bits (IntKind.u64.wrap (IntKind.u64.wrap (IntKind.u32.wrap hi) * 2 ^ min (Int.toNat 32) IntKind.u64.bits)) ||| BitVec.ofInt IntKind.u64.bits (IntKind.u64.wrap (IntKind.u32.wrap lo))).toNat : Int)
def pv (wide : Bool) (code la ha lb hb : Int) : Value := .tuple ⟨[.agg ⟨[.int .u64 (N (aluS 176 true (BitVec.ofInt 64 0) (BitVec.ofInt 64 (N (aluS code wide (BitVec.ofInt 64 (cst ha la)) (BitVec.ofInt 64 (cst hb lb))))))), .int .i64 5]⟩, .int .i64 0]⟩
def pvN (wide : Bool) (la ha : Int) : Value := .tuple ⟨[.agg ⟨[.int .u64 (N (aluS 176 true (BitVec.ofInt 64 0) (BitVec.ofInt 64 (N (aluS 128 wide (BitVec.ofInt 64 (cst ha la)) (BitVec.ofInt 64 0)))))), .int .i64 5]⟩, .int .i64 0]⟩
theorem inU_0 : (inU 0).1 = (inU 0).2 := by kernel_rfl
theorem inU_1 : (inU 1).1 = (inU 1).2 := by kernel_rfl
def qv (b : Bool) : Value := .tuple ⟨[.agg ⟨[.int .u64 (if b then 1 else 0), .int .i64 (if b then 5 else 6)]⟩, .int .i64 0]⟩
/-- Calls that write. -/
def jOrc : Orc := fun f t _ => if Nat.beq f 8 && Nat.beq t 65 then some .nilFunc else none
/-- Whether a condition holds is told. -/
def holdT (b : Bool) : Hook := fun f args h =>
  match holdsHook f args h with
  | some (.bool v, cs) => some (.bool b, cs ++ [(b2i v, b2i b)])
  | _ => none
theorem holdT_ok (b : Bool) : HookOk Tryz.prog (holdT b) := by
  intro f args h v cs hv hc wb k s w H
  unfold holdT at hv
  split at hv
  · rename_i u cs0 hu
    cases hv
    have h1 : u = b := b2i_inj (hc (b2i u, b2i b) (List.mem_append_right _ (List.mem_singleton.2 rfl)))
    subst h1
    exact holdsHook_ok f args h _ _ hu (fun c hm => hc c (List.mem_append_left _ hm)) wb k s w H
  · cases hv
def hkJ3 (b : Bool) : Hook3 := liftH (guardH (orHook doHook (orHook (holdT b) repHook)))
theorem hkJ3_ok (b : Bool) : HookOk3 Tryz.prog (hkJ3 b) := lift_ok (guard_ok (orHook_ok doHook_ok (orHook_ok (holdT_ok b) repHook_ok)))
def setR (i : Nat) (c : Int) (ρ : Nat → Int) : Nat → Int := fun j => bif Nat.beq j i then c else ρ j
theorem mem12 {P : Int → Prop} (x : Int) (h : op12 x = true) (h0 : P 0) (h1 : P 16) (h2 : P 32) (h3 : P 48) (h4 : P 64) (h5 : P 80) (h6 : P 96) (h7 : P 112) (h8 : P 144) (h9 : P 160) (h10 : P 176) (h11 : P 192) : P x := by
  have hm := List.contains_iff_mem.1 h
  simp only [codes12, List.mem_cons, List.not_mem_nil, or_false] at hm
  rcases hm with rfl | rfl | rfl | rfl | rfl | rfl | rfl | rfl | rfl | rfl | rfl | rfl
  · exact h0
  · exact h1
  · exact h2
  · exact h3
  · exact h4
  · exact h5
  · exact h6
  · exact h7
  · exact h8
  · exact h9
  · exact h10
  · exact h11
theorem mem11 {P : Int → Prop} (x : Int) (h : op11 x = true) (h0 : P 16) (h1 : P 80) (h2 : P 32) (h3 : P 48) (h4 : P 160) (h5 : P 176) (h6 : P 96) (h7 : P 112) (h8 : P 192) (h9 : P 208) (h10 : P 64) : P x := by
  have hm := List.contains_iff_mem.1 h
  simp only [codes11, List.mem_cons, List.not_mem_nil, or_false] at hm
  rcases hm with rfl | rfl | rfl | rfl | rfl | rfl | rfl | rfl | rfl | rfl | rfl
  · exact h0
  · exact h1
  · exact h2
  · exact h3
  · exact h4
  · exact h5
  · exact h6
  · exact h7
  · exact h8
  · exact h9
  · exact h10
end Go.Proofs.YthhgfjnnconocaaGreatDoor.Ex
