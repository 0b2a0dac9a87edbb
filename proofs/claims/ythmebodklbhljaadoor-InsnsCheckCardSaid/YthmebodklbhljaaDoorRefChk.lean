/-
  Contract of the document's answer for instructions: is the instruction in form?
-/
import Derived.Test.YthmebodklbhljaaDoorRefKn
namespace Go.Proofs.YthmebodklbhljaaDoor
open Go.RowKit
attribute [local go_sem] u8_wrap u8_and ofInt_N ofInt_Nw

set_option maxRecDepth 8000 in
theorem rcheck_no (op : B8) (d s off imm : Int) (inner : Bool) (w : World) (hk : knownS op inner = false) :
    Calls Tryd.prog 17 #[.agg #[.int .u8 (N op), .int .u8 d, .int .u8 s, .int .i16 off, .int .i32 imm], .bool inner] w fun e w' => e = .returned (.int .i64 (checkS op d s off imm inner)) ∧ Grown w w' := by
  have HK := Lib.hid hk
  clear hk
  go_enter Tryd.func17, Tryd.ntmps17
  go_wp2_with (go_at_call 39; refine (HK.out ▸ rknown_any op inner _).mono ?_; rintro e w' ⟨rfl, rfl⟩)
  go_ret
  exact ⟨by unfold checkS; rw [HK.out]; rfl, by go_grown⟩
theorem ud : ∀ op : B8, arithS op = true → (usesS op).d = true ∧ (usesS op).s = rg op ∧ (usesS op).o = false ∧ (usesS op).i = (!rg op && (wh op != 128)) ∧ (usesS op).w = true := by decide +kernel
theorem un : ∀ (op : B8) (inner : Bool), knownS op inner = true → arithS op = true → rg op = true → (wh op != 128) = true := by decide +kernel
set_option maxRecDepth 8000 in
theorem rcheck_ar (op : B8) (d s off imm : Int) (inner : Bool) (w : World) (hk : knownS op inner = true) (ha : arithS op = true) (hr : rg op = true) (hx : (N op == 24) = false) (hl : loadS op = false) (hj : jumpS op = false) (hs : specialS op = false) (ht : storeS op = false) (hu : storeRS op = false) :
    Calls Tryd.prog 17 #[.agg #[.int .u8 (N op), .int .u8 d, .int .u8 s, .int .i16 off, .int .i32 imm], .bool inner] w fun e w' => e = .returned (.int .i64 (checkS op d s off imm inner)) ∧ Grown w w' := by
  have HK := Lib.hid hk
  have HA := Lib.hid ha
  have HR := Lib.hid hr
  have HL := Lib.hid hl
  have HJ := Lib.hid hj
  have HS := Lib.hid hs
  have HT := Lib.hid ht
  have HU := Lib.hid hu
  clear hk ha hr hl hj hs ht hu
  go_enter Tryd.func17, Tryd.ntmps17
  go_upto_region 5 with (first | (go_at_call 39; refine (HK.out ▸ rknown_any op inner _).mono ?_; rintro e w' ⟨rfl, rfl⟩) | (go_at_call 40; refine (HA.out ▸ arith_any op _).mono ?_; rintro e w' ⟨rfl, rfl⟩) | (go_at_call 47; refine (code_any _ _).mono ?_; rintro e w' ⟨rfl, rfl⟩) | (go_at_call 46; refine (HR.out ▸ reg_any op _).mono ?_; rintro e w' ⟨rfl, rfl⟩) | (go_at_call 43; refine (HS.out ▸ special_any op _).mono ?_; rintro e w' ⟨rfl, rfl⟩) | (go_at_call 42; refine (HJ.out ▸ jump_any op _).mono ?_; rintro e w' ⟨rfl, rfl⟩) | (go_at_call 41; refine (HL.out ▸ load_any op _).mono ?_; rintro e w' ⟨rfl, rfl⟩) | (go_at_call 44; refine (HT.out ▸ store_any op _).mono ?_; rintro e w' ⟨rfl, rfl⟩) | (go_at_call 45; refine (HU.out ▸ storeR_any op _).mono ?_; rintro e w' ⟨rfl, rfl⟩))
  have K : Keeps w [(w.heap.size, 0, .int .u8 (N op)), (w.heap.size, 1, .int .u8 d), (w.heap.size, 2, .int .u8 s), (w.heap.size, 3, .int .i16 off), (w.heap.size, 4, .int .i32 imm)] (w.alloc (.cells #[.int .u8 (N op), .int .u8 d, .int .u8 s, .int .i16 off, .int .i32 imm] 24)) := ⟨⟨⟨by simp [go_sem], by simp⟩, ⟨by simp [go_sem], by simp⟩, ⟨by simp [go_sem], by simp⟩, ⟨by simp [go_sem], by simp⟩, ⟨by simp [go_sem], by simp⟩, trivial⟩, by go_grown⟩
  generalize (w.alloc (.cells #[.int .u8 (N op), .int .u8 d, .int .u8 s, .int .i16 off, .int .i32 imm] 24)) = W at *
  generalize w.heap.size = A at *
  have c0 : W.cell? ⟨A, 1, none⟩ = some _ := K.1.get 1 _ rfl
  have c1 : W.cell? ⟨A, 2, none⟩ = some _ := K.1.get 2 _ rfl
  have c2 : W.cell? ⟨A, 3, none⟩ = some _ := K.1.get 3 _ rfl
  have c3 : W.cell? ⟨A, 4, none⟩ = some _ := K.1.get 4 _ rfl
  have hn : (wh op != 128) = true := un op inner HK.out HA.out HR.out
  have e11d : decide (11 ≤ d) = decide (10 < d) := rfl
  have e11s : decide (11 ≤ s) = decide (10 < s) := rfl
  cases b1 : decide (10 < d)
  rotate_left
  · skip
    go_wp2_with fail
    go_ret
    exact ⟨by unfold checkS badReg badField badMark badImm; rw [HK.out, e11d, e11s, (ud op HA.out).1, (ud op HA.out).2.1, (ud op HA.out).2.2.1, (ud op HA.out).2.2.2.1, (ud op HA.out).2.2.2.2, HR.out, hx]; simp [b1], K.2⟩
  cases b2 : decide (10 < s)
  rotate_left
  · skip
    go_wp2_with fail
    go_ret
    exact ⟨by unfold checkS badReg badField badMark badImm; rw [HK.out, e11d, e11s, (ud op HA.out).1, (ud op HA.out).2.1, (ud op HA.out).2.2.1, (ud op HA.out).2.2.2.1, (ud op HA.out).2.2.2.2, HR.out, hx]; simp [b1, b2], K.2⟩
  cases b3 : (d == 10)
  rotate_left
  · skip
    go_wp2_with fail
    go_ret
    exact ⟨by unfold checkS badReg badField badMark badImm; rw [HK.out, e11d, e11s, (ud op HA.out).1, (ud op HA.out).2.1, (ud op HA.out).2.2.1, (ud op HA.out).2.2.2.1, (ud op HA.out).2.2.2.2, HR.out, hx]; simp [b1, b2, b3], K.2⟩
  cases b4 : (off != 0)
  rotate_left
  · skip
    go_wp2_with (first | (go_at_call 40; refine (HA.out ▸ arith_any op _).mono ?_; rintro e w' ⟨rfl, rfl⟩) | (go_at_call 47; refine (code_any _ _).mono ?_; rintro e w' ⟨rfl, rfl⟩) | (go_at_call 46; refine (HR.out ▸ reg_any op _).mono ?_; rintro e w' ⟨rfl, rfl⟩) | (go_at_call 43; refine (HS.out ▸ special_any op _).mono ?_; rintro e w' ⟨rfl, rfl⟩) | (go_at_call 42; refine (HJ.out ▸ jump_any op _).mono ?_; rintro e w' ⟨rfl, rfl⟩) | (go_at_call 41; refine (HL.out ▸ load_any op _).mono ?_; rintro e w' ⟨rfl, rfl⟩) | (go_at_call 44; refine (HT.out ▸ store_any op _).mono ?_; rintro e w' ⟨rfl, rfl⟩) | (go_at_call 45; refine (HU.out ▸ storeR_any op _).mono ?_; rintro e w' ⟨rfl, rfl⟩))
    go_ret
    exact ⟨by unfold checkS badReg badField badMark badImm; rw [HK.out, e11d, e11s, (ud op HA.out).1, (ud op HA.out).2.1, (ud op HA.out).2.2.1, (ud op HA.out).2.2.2.1, (ud op HA.out).2.2.2.2, HR.out, hx]; simp [b1, b2, b3, b4], K.2⟩
  cases b5 : (imm != 0)
  rotate_left
  · skip
    go_wp2_with (first | (go_at_call 40; refine (HA.out ▸ arith_any op _).mono ?_; rintro e w' ⟨rfl, rfl⟩) | (go_at_call 47; refine (code_any _ _).mono ?_; rintro e w' ⟨rfl, rfl⟩) | (go_at_call 46; refine (HR.out ▸ reg_any op _).mono ?_; rintro e w' ⟨rfl, rfl⟩) | (go_at_call 43; refine (HS.out ▸ special_any op _).mono ?_; rintro e w' ⟨rfl, rfl⟩) | (go_at_call 42; refine (HJ.out ▸ jump_any op _).mono ?_; rintro e w' ⟨rfl, rfl⟩) | (go_at_call 41; refine (HL.out ▸ load_any op _).mono ?_; rintro e w' ⟨rfl, rfl⟩) | (go_at_call 44; refine (HT.out ▸ store_any op _).mono ?_; rintro e w' ⟨rfl, rfl⟩) | (go_at_call 45; refine (HU.out ▸ storeR_any op _).mono ?_; rintro e w' ⟨rfl, rfl⟩))
    go_ret
    exact ⟨by unfold checkS badReg badField badMark badImm; rw [HK.out, e11d, e11s, (ud op HA.out).1, (ud op HA.out).2.1, (ud op HA.out).2.2.1, (ud op HA.out).2.2.2.1, (ud op HA.out).2.2.2.2, HR.out, hx]; simp [b1, b2, b3, b4, b5], K.2⟩
  · skip
    go_wp2_with (first | (go_at_call 40; refine (HA.out ▸ arith_any op _).mono ?_; rintro e w' ⟨rfl, rfl⟩) | (go_at_call 47; refine (code_any _ _).mono ?_; rintro e w' ⟨rfl, rfl⟩) | (go_at_call 46; refine (HR.out ▸ reg_any op _).mono ?_; rintro e w' ⟨rfl, rfl⟩) | (go_at_call 43; refine (HS.out ▸ special_any op _).mono ?_; rintro e w' ⟨rfl, rfl⟩) | (go_at_call 42; refine (HJ.out ▸ jump_any op _).mono ?_; rintro e w' ⟨rfl, rfl⟩) | (go_at_call 41; refine (HL.out ▸ load_any op _).mono ?_; rintro e w' ⟨rfl, rfl⟩) | (go_at_call 44; refine (HT.out ▸ store_any op _).mono ?_; rintro e w' ⟨rfl, rfl⟩) | (go_at_call 45; refine (HU.out ▸ storeR_any op _).mono ?_; rintro e w' ⟨rfl, rfl⟩))
    go_ret
    exact ⟨by unfold checkS badReg badField badMark badImm; rw [HK.out, e11d, e11s, (ud op HA.out).1, (ud op HA.out).2.1, (ud op HA.out).2.2.1, (ud op HA.out).2.2.2.1, (ud op HA.out).2.2.2.2, HR.out, hx]; simp [b1, b2, b3, b4, b5], K.2⟩
end Go.Proofs.YthmebodklbhljaaDoor
