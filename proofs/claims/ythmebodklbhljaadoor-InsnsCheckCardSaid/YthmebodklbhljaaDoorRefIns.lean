/-
  Contracts of the document's answer for instructions: what an opcode is.
-/
import Derived.Test.YthmebodklbhljaaDoorIns3
namespace Go.Proofs.YthmebodklbhljaaDoor
open Go.RowKit
attribute [local go_sem] u8_wrap u8_and ofInt_N ofInt_Nw

def modS (op : B8) : Int := (N op).tmod 8
def arithS (op : B8) : Bool := (modS op == 4) || (modS op == 7)
def jumpS (op : B8) : Bool := (modS op == 5) || (modS op == 6)
def loadS (op : B8) : Bool := (((N op == 113) || (N op == 105)) || (N op == 97)) || (N op == 121)
def storeS (op : B8) : Bool := (((N op == 114) || (N op == 106)) || (N op == 98)) || (N op == 122)
def storeRS (op : B8) : Bool := (((N op == 115) || (N op == 107)) || (N op == 99)) || (N op == 123)
def specialS (op : B8) : Bool := jumpS op && (((wh op == 0) || (wh op == 128)) || (wh op == 144))
def rknownS (op : B8) (inner : Bool) : Bool :=
  if arithS op = true then decide (wh op ≤ 192) && !((wh op == 128) && rg op)
  else if specialS op = true then (modS op == 5) && !rg op
  else if jumpS op = true then decide (wh op ≤ 208)
  else (N op == 24) || (loadS op || (storeS op || (storeRS op || (inner && (N op == 194)))))
theorem rknown_eq : ∀ (op : B8) (inner : Bool), rknownS op inner = knownS op inner := by decide +kernel
theorem code_eq : ∀ op : B8, (N op).tdiv 16 * 16 = wh op := by decide +kernel
theorem reg_eq : ∀ op : B8, ((N (BitVec.ofInt 8 ((N op).tdiv 8))).tmod 2 == 1) = rg op := by decide +kernel

theorem arith_any (op : B8) (w : World) : Calls Tryd.prog 40 #[.int .u8 (N op)] w fun e w' => e = .returned (.bool (arithS op)) ∧ w' = w := by
  unfold arithS modS
  cases b1 : ((N op).tmod 8 == 4) <;> cases b2 : ((N op).tmod 8 == 7)
  all_goals
    go_enter Tryd.func40, Tryd.ntmps40
    go_wp2
    go_ret
    exact ⟨rfl, rfl⟩
theorem jump_any (op : B8) (w : World) : Calls Tryd.prog 42 #[.int .u8 (N op)] w fun e w' => e = .returned (.bool (jumpS op)) ∧ w' = w := by
  unfold jumpS modS
  cases b1 : ((N op).tmod 8 == 5) <;> cases b2 : ((N op).tmod 8 == 6)
  all_goals
    go_enter Tryd.func42, Tryd.ntmps42
    go_wp2
    go_ret
    exact ⟨rfl, rfl⟩
theorem code_any (op : B8) (w : World) : Calls Tryd.prog 47 #[.int .u8 (N op)] w fun e w' => e = .returned (.int .i64 (wh op)) ∧ w' = w := by
  have h0 := N_nonneg op
  have h1 := N_lt op
  rw [← code_eq op]
  have h2 : N op < 256 := by simpa using h1
  clear h1
  go_enter Tryd.func47, Tryd.ntmps47
  go_wp2
  go_ret
  exact ⟨by first | rfl | (rw [Int.tdiv_eq_ediv_of_nonneg h0]), rfl⟩
theorem reg_any (op : B8) (w : World) : Calls Tryd.prog 46 #[.int .u8 (N op)] w fun e w' => e = .returned (.bool (rg op)) ∧ w' = w := by
  rw [← reg_eq op]
  go_enter Tryd.func46, Tryd.ntmps46
  go_wp2
  go_ret
  exact ⟨rfl, rfl⟩
theorem load_any (op : B8) (w : World) : Calls Tryd.prog 41 #[.int .u8 (N op)] w fun e w' => e = .returned (.bool (loadS op)) ∧ w' = w := by
  unfold loadS
  cases b0 : (N op == 113) <;> cases b1 : (N op == 105) <;> cases b2 : (N op == 97) <;> cases b3 : (N op == 121)
  all_goals
    go_enter Tryd.func41, Tryd.ntmps41
    go_wp2
    go_ret
    exact ⟨rfl, rfl⟩
theorem store_any (op : B8) (w : World) : Calls Tryd.prog 44 #[.int .u8 (N op)] w fun e w' => e = .returned (.bool (storeS op)) ∧ w' = w := by
  unfold storeS
  cases b0 : (N op == 114) <;> cases b1 : (N op == 106) <;> cases b2 : (N op == 98) <;> cases b3 : (N op == 122)
  all_goals
    go_enter Tryd.func44, Tryd.ntmps44
    go_wp2
    go_ret
    exact ⟨rfl, rfl⟩
theorem storeR_any (op : B8) (w : World) : Calls Tryd.prog 45 #[.int .u8 (N op)] w fun e w' => e = .returned (.bool (storeRS op)) ∧ w' = w := by
  unfold storeRS
  cases b0 : (N op == 115) <;> cases b1 : (N op == 107) <;> cases b2 : (N op == 99) <;> cases b3 : (N op == 123)
  all_goals
    go_enter Tryd.func45, Tryd.ntmps45
    go_wp2
    go_ret
    exact ⟨rfl, rfl⟩
theorem special_any (op : B8) (w : World) : Calls Tryd.prog 43 #[.int .u8 (N op)] w fun e w' => e = .returned (.bool (specialS op)) ∧ w' = w := by
  unfold specialS
  cases b0 : jumpS op <;> cases b1 : (wh op == 0) <;> cases b2 : (wh op == 128) <;> cases b3 : (wh op == 144)
  all_goals
    have HJ := Lib.hid b0
    clear b0
    go_enter Tryd.func43, Tryd.ntmps43
    go_wp2_with (first | (go_at_call 42; refine (HJ.out ▸ jump_any op _).mono ?_; rintro e w' ⟨rfl, rfl⟩) | (go_at_call 47; refine (code_any _ _).mono ?_; rintro e w' ⟨rfl, rfl⟩))
    go_ret
    exact ⟨rfl, rfl⟩
end Go.Proofs.YthmebodklbhljaaDoor
