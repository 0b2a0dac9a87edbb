/-
  Contract of the document's answer for instructions: is it an opcode?
-/
import Derived.Test.YthmebodklbhljaaDoorRefIns
namespace Go.Proofs.YthmebodklbhljaaDoor
open Go.RowKit
attribute [local go_sem] u8_wrap u8_and ofInt_N ofInt_Nw

theorem rknown_arith (op : B8) (inner : Bool) (ha : arithS op = true) (w : World) : Calls Tryd.prog 39 #[.int .u8 (N op), .bool inner] w fun e w' => e = .returned (.bool (rknownS op inner)) ∧ w' = w := by
  unfold rknownS
  rw [if_pos ha]
  cases b1 : decide (wh op ≤ 192) <;> cases b2 : (wh op == 128) <;> cases b3 : rg op
  all_goals
    have HA := Lib.hid ha
    have HR := Lib.hid b3
    go_enter Tryd.func39, Tryd.ntmps39
    go_wp2_with (first | (go_at_call 40; refine (HA.out ▸ arith_any op _).mono ?_; rintro e w' ⟨rfl, rfl⟩) | (go_at_call 47; refine (code_any _ _).mono ?_; rintro e w' ⟨rfl, rfl⟩) | (go_at_call 46; refine (HR.out ▸ reg_any op _).mono ?_; rintro e w' ⟨rfl, rfl⟩))
    go_ret
    exact ⟨rfl, rfl⟩
theorem rknown_special (op : B8) (inner : Bool) (ha : arithS op = false) (hs : specialS op = true) (w : World) : Calls Tryd.prog 39 #[.int .u8 (N op), .bool inner] w fun e w' => e = .returned (.bool (rknownS op inner)) ∧ w' = w := by
  unfold rknownS modS
  rw [if_neg (by rw [ha]; decide), if_pos hs]
  cases b1 : ((N op).tmod 8 == 5) <;> cases b3 : rg op
  all_goals
    have HA := Lib.hid ha
    have HS := Lib.hid hs
    have HR := Lib.hid b3
    go_enter Tryd.func39, Tryd.ntmps39
    go_wp2_with (first | (go_at_call 40; refine (HA.out ▸ arith_any op _).mono ?_; rintro e w' ⟨rfl, rfl⟩) | (go_at_call 47; refine (code_any _ _).mono ?_; rintro e w' ⟨rfl, rfl⟩) | (go_at_call 46; refine (HR.out ▸ reg_any op _).mono ?_; rintro e w' ⟨rfl, rfl⟩) | (go_at_call 43; refine (HS.out ▸ special_any op _).mono ?_; rintro e w' ⟨rfl, rfl⟩) | (go_at_call 42; refine (HJ.out ▸ jump_any op _).mono ?_; rintro e w' ⟨rfl, rfl⟩) | (go_at_call 41; refine (HL.out ▸ load_any op _).mono ?_; rintro e w' ⟨rfl, rfl⟩) | (go_at_call 44; refine (HT.out ▸ store_any op _).mono ?_; rintro e w' ⟨rfl, rfl⟩) | (go_at_call 45; refine (HU.out ▸ storeR_any op _).mono ?_; rintro e w' ⟨rfl, rfl⟩))
    go_ret
    exact ⟨rfl, rfl⟩
theorem rknown_jump (op : B8) (inner : Bool) (ha : arithS op = false) (hs : specialS op = false) (hj : jumpS op = true) (w : World) : Calls Tryd.prog 39 #[.int .u8 (N op), .bool inner] w fun e w' => e = .returned (.bool (rknownS op inner)) ∧ w' = w := by
  unfold rknownS
  rw [if_neg (by rw [ha]; decide), if_neg (by rw [hs]; decide), if_pos hj]
  cases b1 : decide (wh op ≤ 208)
  all_goals
    have HA := Lib.hid ha
    have HS := Lib.hid hs
    have HJ := Lib.hid hj
    go_enter Tryd.func39, Tryd.ntmps39
    go_wp2_with (first | (go_at_call 40; refine (HA.out ▸ arith_any op _).mono ?_; rintro e w' ⟨rfl, rfl⟩) | (go_at_call 47; refine (code_any _ _).mono ?_; rintro e w' ⟨rfl, rfl⟩) | (go_at_call 46; refine (HR.out ▸ reg_any op _).mono ?_; rintro e w' ⟨rfl, rfl⟩) | (go_at_call 43; refine (HS.out ▸ special_any op _).mono ?_; rintro e w' ⟨rfl, rfl⟩) | (go_at_call 42; refine (HJ.out ▸ jump_any op _).mono ?_; rintro e w' ⟨rfl, rfl⟩) | (go_at_call 41; refine (HL.out ▸ load_any op _).mono ?_; rintro e w' ⟨rfl, rfl⟩) | (go_at_call 44; refine (HT.out ▸ store_any op _).mono ?_; rintro e w' ⟨rfl, rfl⟩) | (go_at_call 45; refine (HU.out ▸ storeR_any op _).mono ?_; rintro e w' ⟨rfl, rfl⟩))
    go_ret
    exact ⟨rfl, rfl⟩
theorem rknown_other (op : B8) (inner : Bool) (ha : arithS op = false) (hs : specialS op = false) (hj : jumpS op = false) (w : World) : Calls Tryd.prog 39 #[.int .u8 (N op), .bool inner] w fun e w' => e = .returned (.bool (rknownS op inner)) ∧ w' = w := by
  unfold rknownS
  rw [if_neg (by rw [ha]; decide), if_neg (by rw [hs]; decide), if_neg (by rw [hj]; decide)]
  cases b1 : (N op == 24)
  · skip
    cases b2 : loadS op
    · skip
      cases b3 : storeS op
      · skip
        cases b4 : storeRS op
        · skip
          cases inner <;> cases b5 : (N op == 194)
          all_goals
            have HA := Lib.hid ha
            have HS := Lib.hid hs
            have HJ := Lib.hid hj
            have HL := Lib.hid b2
            have HT := Lib.hid b3
            have HU := Lib.hid b4
            go_enter Tryd.func39, Tryd.ntmps39
            go_wp2_with (first | (go_at_call 40; refine (HA.out ▸ arith_any op _).mono ?_; rintro e w' ⟨rfl, rfl⟩) | (go_at_call 47; refine (code_any _ _).mono ?_; rintro e w' ⟨rfl, rfl⟩) | (go_at_call 46; refine (HR.out ▸ reg_any op _).mono ?_; rintro e w' ⟨rfl, rfl⟩) | (go_at_call 43; refine (HS.out ▸ special_any op _).mono ?_; rintro e w' ⟨rfl, rfl⟩) | (go_at_call 42; refine (HJ.out ▸ jump_any op _).mono ?_; rintro e w' ⟨rfl, rfl⟩) | (go_at_call 41; refine (HL.out ▸ load_any op _).mono ?_; rintro e w' ⟨rfl, rfl⟩) | (go_at_call 44; refine (HT.out ▸ store_any op _).mono ?_; rintro e w' ⟨rfl, rfl⟩) | (go_at_call 45; refine (HU.out ▸ storeR_any op _).mono ?_; rintro e w' ⟨rfl, rfl⟩))
            go_ret
            exact ⟨rfl, rfl⟩
        · skip
          have HA := Lib.hid ha
          have HS := Lib.hid hs
          have HJ := Lib.hid hj
          have HL := Lib.hid b2
          have HT := Lib.hid b3
          have HU := Lib.hid b4
          go_enter Tryd.func39, Tryd.ntmps39
          go_wp2_with (first | (go_at_call 40; refine (HA.out ▸ arith_any op _).mono ?_; rintro e w' ⟨rfl, rfl⟩) | (go_at_call 47; refine (code_any _ _).mono ?_; rintro e w' ⟨rfl, rfl⟩) | (go_at_call 46; refine (HR.out ▸ reg_any op _).mono ?_; rintro e w' ⟨rfl, rfl⟩) | (go_at_call 43; refine (HS.out ▸ special_any op _).mono ?_; rintro e w' ⟨rfl, rfl⟩) | (go_at_call 42; refine (HJ.out ▸ jump_any op _).mono ?_; rintro e w' ⟨rfl, rfl⟩) | (go_at_call 41; refine (HL.out ▸ load_any op _).mono ?_; rintro e w' ⟨rfl, rfl⟩) | (go_at_call 44; refine (HT.out ▸ store_any op _).mono ?_; rintro e w' ⟨rfl, rfl⟩) | (go_at_call 45; refine (HU.out ▸ storeR_any op _).mono ?_; rintro e w' ⟨rfl, rfl⟩))
          go_ret
          exact ⟨rfl, rfl⟩
      · skip
        have HA := Lib.hid ha
        have HS := Lib.hid hs
        have HJ := Lib.hid hj
        have HL := Lib.hid b2
        have HT := Lib.hid b3
        go_enter Tryd.func39, Tryd.ntmps39
        go_wp2_with (first | (go_at_call 40; refine (HA.out ▸ arith_any op _).mono ?_; rintro e w' ⟨rfl, rfl⟩) | (go_at_call 47; refine (code_any _ _).mono ?_; rintro e w' ⟨rfl, rfl⟩) | (go_at_call 46; refine (HR.out ▸ reg_any op _).mono ?_; rintro e w' ⟨rfl, rfl⟩) | (go_at_call 43; refine (HS.out ▸ special_any op _).mono ?_; rintro e w' ⟨rfl, rfl⟩) | (go_at_call 42; refine (HJ.out ▸ jump_any op _).mono ?_; rintro e w' ⟨rfl, rfl⟩) | (go_at_call 41; refine (HL.out ▸ load_any op _).mono ?_; rintro e w' ⟨rfl, rfl⟩) | (go_at_call 44; refine (HT.out ▸ store_any op _).mono ?_; rintro e w' ⟨rfl, rfl⟩) | (go_at_call 45; refine (HU.out ▸ storeR_any op _).mono ?_; rintro e w' ⟨rfl, rfl⟩))
        go_ret
        exact ⟨rfl, rfl⟩
    · skip
      have HA := Lib.hid ha
      have HS := Lib.hid hs
      have HJ := Lib.hid hj
      have HL := Lib.hid b2
      go_enter Tryd.func39, Tryd.ntmps39
      go_wp2_with (first | (go_at_call 40; refine (HA.out ▸ arith_any op _).mono ?_; rintro e w' ⟨rfl, rfl⟩) | (go_at_call 47; refine (code_any _ _).mono ?_; rintro e w' ⟨rfl, rfl⟩) | (go_at_call 46; refine (HR.out ▸ reg_any op _).mono ?_; rintro e w' ⟨rfl, rfl⟩) | (go_at_call 43; refine (HS.out ▸ special_any op _).mono ?_; rintro e w' ⟨rfl, rfl⟩) | (go_at_call 42; refine (HJ.out ▸ jump_any op _).mono ?_; rintro e w' ⟨rfl, rfl⟩) | (go_at_call 41; refine (HL.out ▸ load_any op _).mono ?_; rintro e w' ⟨rfl, rfl⟩) | (go_at_call 44; refine (HT.out ▸ store_any op _).mono ?_; rintro e w' ⟨rfl, rfl⟩) | (go_at_call 45; refine (HU.out ▸ storeR_any op _).mono ?_; rintro e w' ⟨rfl, rfl⟩))
      go_ret
      exact ⟨rfl, rfl⟩
  · skip
    have HA := Lib.hid ha
    have HS := Lib.hid hs
    have HJ := Lib.hid hj
    go_enter Tryd.func39, Tryd.ntmps39
    go_wp2_with (first | (go_at_call 40; refine (HA.out ▸ arith_any op _).mono ?_; rintro e w' ⟨rfl, rfl⟩) | (go_at_call 47; refine (code_any _ _).mono ?_; rintro e w' ⟨rfl, rfl⟩) | (go_at_call 46; refine (HR.out ▸ reg_any op _).mono ?_; rintro e w' ⟨rfl, rfl⟩) | (go_at_call 43; refine (HS.out ▸ special_any op _).mono ?_; rintro e w' ⟨rfl, rfl⟩) | (go_at_call 42; refine (HJ.out ▸ jump_any op _).mono ?_; rintro e w' ⟨rfl, rfl⟩) | (go_at_call 41; refine (HL.out ▸ load_any op _).mono ?_; rintro e w' ⟨rfl, rfl⟩) | (go_at_call 44; refine (HT.out ▸ store_any op _).mono ?_; rintro e w' ⟨rfl, rfl⟩) | (go_at_call 45; refine (HU.out ▸ storeR_any op _).mono ?_; rintro e w' ⟨rfl, rfl⟩))
    go_ret
    exact ⟨rfl, rfl⟩
theorem rknown_any (op : B8) (inner : Bool) (w : World) : Calls Tryd.prog 39 #[.int .u8 (N op), .bool inner] w fun e w' => e = .returned (.bool (knownS op inner)) ∧ w' = w := by
  rw [← rknown_eq op inner]
  cases ha : arithS op
  · cases hs : specialS op
    · cases hj : jumpS op
      · exact rknown_other op inner ha hs hj w
      · exact rknown_jump op inner ha hs hj w
    · exact rknown_special op inner ha hs w
  · exact rknown_arith op inner ha w
end Go.Proofs.YthmebodklbhljaaDoor
