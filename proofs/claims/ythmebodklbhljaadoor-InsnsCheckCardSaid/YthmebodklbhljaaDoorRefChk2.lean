/-
  Contract of the document's answer for instructions, pattern by pattern of opcodes.
-/
import Derived.Test.YthmebodklbhljaaDoorRefChk
namespace Go.Proofs.YthmebodklbhljaaDoor
open Go.RowKit
attribute [local go_sem] u8_wrap u8_and ofInt_N ofInt_Nw
theorem ne_pos {x : Int} (h : 0 ≤ x) : (x != 0) = decide (0 < x) := by
  cases e : decide (0 < x)
  · have : x = 0 := by have := of_decide_eq_false e; omega
    subst this; rfl
  · have : 0 < x := of_decide_eq_true e
    simp; omega
theorem immS_other (op : B8) (imm : Int) (h4 : cls op ≠ 4) (h7 : cls op ≠ 7) : immS op imm = true := by
  unfold immS
  simp [h4, h7]
theorem ud_neg : ∀ (op : B8) (inner : Bool), knownS op inner = true → arithS op = true → loadS op = false → storeS op = false → storeRS op = false → jumpS op = false → specialS op = false → rg op = false → (N op == 24) = false → (wh op == 128) = true → (wh op != 128) = false → (usesS op).d = true ∧ (usesS op).s = false ∧ (usesS op).o = false ∧ (usesS op).i = false ∧ (usesS op).w = true := by decide +kernel
set_option maxRecDepth 8000 in
set_option maxHeartbeats 4000000 in
theorem rcheck_neg (op : B8) (d s off imm : Int) (inner : Bool) (w : World) (hd : 0 ≤ d) (hs0 : 0 ≤ s) (hk : knownS op inner = true) (ha : arithS op = true) (hl : loadS op = false) (ht : storeS op = false) (hu : storeRS op = false) (hj : jumpS op = false) (hs : specialS op = false) (hr : rg op = false) (hx : (N op == 24) = false) (hy0 : (wh op == 128) = true) (hy1 : (wh op != 128) = false) :
    Calls Tryd.prog 17 #[.agg #[.int .u8 (N op), .int .u8 d, .int .u8 s, .int .i16 off, .int .i32 imm], .bool inner] w fun e w' => e = .returned (.int .i64 (checkS op d s off imm inner)) ∧ Grown w w' := by
  have HV := Lib.hid (ud_neg op inner hk ha hl ht hu hj hs hr hx hy0 hy1)
  have HD : Hid ((d != 0) = decide (0 < d)) := Lib.hid (ne_pos hd)
  have HD2 : Hid ((s != 0) = decide (0 < s)) := Lib.hid (ne_pos hs0)
  clear hd hs0
  have HK := Lib.hid hk
  have HA := Lib.hid ha
  have HL := Lib.hid hl
  have HT := Lib.hid ht
  have HU := Lib.hid hu
  have HJ := Lib.hid hj
  have HS := Lib.hid hs
  have HR := Lib.hid hr
  clear hk ha hl ht hu hj hs hr
  go_enter Tryd.func17, Tryd.ntmps17
  go_upto_region 5 with (first | (go_at_call 39; refine (HK.out ▸ rknown_any op inner _).mono ?_; rintro e w' ⟨rfl, rfl⟩) | (go_at_call 40; refine (HA.out ▸ arith_any op _).mono ?_; rintro e w' ⟨rfl, rfl⟩) | (go_at_call 47; refine (code_any _ _).mono ?_; rintro e w' ⟨rfl, rfl⟩) | (go_at_call 46; refine (HR.out ▸ reg_any op _).mono ?_; rintro e w' ⟨rfl, rfl⟩) | (go_at_call 43; refine (HS.out ▸ special_any op _).mono ?_; rintro e w' ⟨rfl, rfl⟩) | (go_at_call 42; refine (HJ.out ▸ jump_any op _).mono ?_; rintro e w' ⟨rfl, rfl⟩) | (go_at_call 41; refine (HL.out ▸ load_any op _).mono ?_; rintro e w' ⟨rfl, rfl⟩) | (go_at_call 44; refine (HT.out ▸ store_any op _).mono ?_; rintro e w' ⟨rfl, rfl⟩) | (go_at_call 45; refine (HU.out ▸ storeR_any op _).mono ?_; rintro e w' ⟨rfl, rfl⟩))
  have K : Keeps w [(w.heap.size, 0, .int .u8 (N op)), (w.heap.size, 1, .int .u8 d), (w.heap.size, 2, .int .u8 s), (w.heap.size, 3, .int .i16 off), (w.heap.size, 4, .int .i32 imm)] (w.alloc (.cells #[.int .u8 (N op), .int .u8 d, .int .u8 s, .int .i16 off, .int .i32 imm] 24)) := ⟨⟨⟨by simp [go_sem], by simp⟩, ⟨by simp [go_sem], by simp⟩, ⟨by simp [go_sem], by simp⟩, ⟨by simp [go_sem], by simp⟩, ⟨by simp [go_sem], by simp⟩, trivial⟩, by go_grown⟩
  generalize (w.alloc (.cells #[.int .u8 (N op), .int .u8 d, .int .u8 s, .int .i16 off, .int .i32 imm] 24)) = W at *
  generalize w.heap.size = A at *
  have c0 : W.cell? ⟨A, 1, none⟩ = some _ := K.1.get 1 _ rfl
  have c1 : W.cell? ⟨A, 2, none⟩ = some _ := K.1.get 2 _ rfl
  have c2 : W.cell? ⟨A, 3, none⟩ = some _ := K.1.get 3 _ rfl
  have c3 : W.cell? ⟨A, 4, none⟩ = some _ := K.1.get 4 _ rfl
  have e11d : decide (11 ≤ d) = decide (10 < d) := rfl
  have e11s : decide (11 ≤ s) = decide (10 < s) := rfl
  cases b0 : decide (10 < d)
  rotate_left
  · skip
    go_wp2_with fail
    go_ret
    exact ⟨by unfold checkS badReg badField badMark badImm; rw [HK.out, e11d, e11s, HD.out, HD2.out, HV.out.1, HV.out.2.1, HV.out.2.2.1, HV.out.2.2.2.1, HV.out.2.2.2.2, hx]; simp [b0], K.2⟩
  cases b1 : decide (10 < s)
  rotate_left
  · skip
    go_wp2_with fail
    go_ret
    exact ⟨by unfold checkS badReg badField badMark badImm; rw [HK.out, e11d, e11s, HD.out, HD2.out, HV.out.1, HV.out.2.1, HV.out.2.2.1, HV.out.2.2.2.1, HV.out.2.2.2.2, hx]; simp [b0, b1], K.2⟩
  cases b2 : (d == 10)
  rotate_left
  · skip
    go_wp2_with fail
    go_ret
    exact ⟨by unfold checkS badReg badField badMark badImm; rw [HK.out, e11d, e11s, HD.out, HD2.out, HV.out.1, HV.out.2.1, HV.out.2.2.1, HV.out.2.2.2.1, HV.out.2.2.2.2, hx]; simp [b0, b1, b2], K.2⟩
  cases b3 : decide (0 < s)
  rotate_left
  · skip
    go_wp2_with (first | (go_at_call 40; refine (HA.out ▸ arith_any op _).mono ?_; rintro e w' ⟨rfl, rfl⟩) | (go_at_call 47; refine (code_any _ _).mono ?_; rintro e w' ⟨rfl, rfl⟩) | (go_at_call 46; refine (HR.out ▸ reg_any op _).mono ?_; rintro e w' ⟨rfl, rfl⟩) | (go_at_call 43; refine (HS.out ▸ special_any op _).mono ?_; rintro e w' ⟨rfl, rfl⟩) | (go_at_call 42; refine (HJ.out ▸ jump_any op _).mono ?_; rintro e w' ⟨rfl, rfl⟩) | (go_at_call 41; refine (HL.out ▸ load_any op _).mono ?_; rintro e w' ⟨rfl, rfl⟩) | (go_at_call 44; refine (HT.out ▸ store_any op _).mono ?_; rintro e w' ⟨rfl, rfl⟩) | (go_at_call 45; refine (HU.out ▸ storeR_any op _).mono ?_; rintro e w' ⟨rfl, rfl⟩))
    go_ret
    exact ⟨by unfold checkS badReg badField badMark badImm; rw [HK.out, e11d, e11s, HD.out, HD2.out, HV.out.1, HV.out.2.1, HV.out.2.2.1, HV.out.2.2.2.1, HV.out.2.2.2.2, hx]; simp [b0, b1, b2, b3], K.2⟩
  cases b4 : (off != 0)
  rotate_left
  · skip
    go_wp2_with (first | (go_at_call 40; refine (HA.out ▸ arith_any op _).mono ?_; rintro e w' ⟨rfl, rfl⟩) | (go_at_call 47; refine (code_any _ _).mono ?_; rintro e w' ⟨rfl, rfl⟩) | (go_at_call 46; refine (HR.out ▸ reg_any op _).mono ?_; rintro e w' ⟨rfl, rfl⟩) | (go_at_call 43; refine (HS.out ▸ special_any op _).mono ?_; rintro e w' ⟨rfl, rfl⟩) | (go_at_call 42; refine (HJ.out ▸ jump_any op _).mono ?_; rintro e w' ⟨rfl, rfl⟩) | (go_at_call 41; refine (HL.out ▸ load_any op _).mono ?_; rintro e w' ⟨rfl, rfl⟩) | (go_at_call 44; refine (HT.out ▸ store_any op _).mono ?_; rintro e w' ⟨rfl, rfl⟩) | (go_at_call 45; refine (HU.out ▸ storeR_any op _).mono ?_; rintro e w' ⟨rfl, rfl⟩))
    go_ret
    exact ⟨by unfold checkS badReg badField badMark badImm; rw [HK.out, e11d, e11s, HD.out, HD2.out, HV.out.1, HV.out.2.1, HV.out.2.2.1, HV.out.2.2.2.1, HV.out.2.2.2.2, hx]; simp [b0, b1, b2, b3, b4], K.2⟩
  cases b5 : (imm != 0)
  rotate_left
  · skip
    go_wp2_with (first | (go_at_call 40; refine (HA.out ▸ arith_any op _).mono ?_; rintro e w' ⟨rfl, rfl⟩) | (go_at_call 47; refine (code_any _ _).mono ?_; rintro e w' ⟨rfl, rfl⟩) | (go_at_call 46; refine (HR.out ▸ reg_any op _).mono ?_; rintro e w' ⟨rfl, rfl⟩) | (go_at_call 43; refine (HS.out ▸ special_any op _).mono ?_; rintro e w' ⟨rfl, rfl⟩) | (go_at_call 42; refine (HJ.out ▸ jump_any op _).mono ?_; rintro e w' ⟨rfl, rfl⟩) | (go_at_call 41; refine (HL.out ▸ load_any op _).mono ?_; rintro e w' ⟨rfl, rfl⟩) | (go_at_call 44; refine (HT.out ▸ store_any op _).mono ?_; rintro e w' ⟨rfl, rfl⟩) | (go_at_call 45; refine (HU.out ▸ storeR_any op _).mono ?_; rintro e w' ⟨rfl, rfl⟩))
    go_ret
    exact ⟨by unfold checkS badReg badField badMark badImm; rw [HK.out, e11d, e11s, HD.out, HD2.out, HV.out.1, HV.out.2.1, HV.out.2.2.1, HV.out.2.2.2.1, HV.out.2.2.2.2, hx]; simp [b0, b1, b2, b3, b4, b5], K.2⟩
  · skip
    go_wp2_with (first | (go_at_call 40; refine (HA.out ▸ arith_any op _).mono ?_; rintro e w' ⟨rfl, rfl⟩) | (go_at_call 47; refine (code_any _ _).mono ?_; rintro e w' ⟨rfl, rfl⟩) | (go_at_call 46; refine (HR.out ▸ reg_any op _).mono ?_; rintro e w' ⟨rfl, rfl⟩) | (go_at_call 43; refine (HS.out ▸ special_any op _).mono ?_; rintro e w' ⟨rfl, rfl⟩) | (go_at_call 42; refine (HJ.out ▸ jump_any op _).mono ?_; rintro e w' ⟨rfl, rfl⟩) | (go_at_call 41; refine (HL.out ▸ load_any op _).mono ?_; rintro e w' ⟨rfl, rfl⟩) | (go_at_call 44; refine (HT.out ▸ store_any op _).mono ?_; rintro e w' ⟨rfl, rfl⟩) | (go_at_call 45; refine (HU.out ▸ storeR_any op _).mono ?_; rintro e w' ⟨rfl, rfl⟩))
    go_ret
    exact ⟨by unfold checkS badReg badField badMark badImm; rw [HK.out, e11d, e11s, HD.out, HD2.out, HV.out.1, HV.out.2.1, HV.out.2.2.1, HV.out.2.2.2.1, HV.out.2.2.2.2, hx]; simp [b0, b1, b2, b3, b4, b5], K.2⟩
theorem ud_ldi : ∀ (op : B8) (inner : Bool), knownS op inner = true → arithS op = false → loadS op = false → storeS op = false → storeRS op = false → jumpS op = false → specialS op = false → (N op == 24) = true → (usesS op).d = true ∧ (usesS op).s = true ∧ (usesS op).o = false ∧ (usesS op).i = true ∧ (usesS op).w = true ∧ cls op ≠ 4 ∧ cls op ≠ 7 := by decide +kernel
set_option maxRecDepth 8000 in
set_option maxHeartbeats 4000000 in
theorem rcheck_ldi (op : B8) (d s off imm : Int) (inner : Bool) (w : World) (hd : 0 ≤ d) (hs0 : 0 ≤ s) (hk : knownS op inner = true) (ha : arithS op = false) (hl : loadS op = false) (ht : storeS op = false) (hu : storeRS op = false) (hj : jumpS op = false) (hs : specialS op = false) (hx : (N op == 24) = true) :
    Calls Tryd.prog 17 #[.agg #[.int .u8 (N op), .int .u8 d, .int .u8 s, .int .i16 off, .int .i32 imm], .bool inner] w fun e w' => e = .returned (.int .i64 (checkS op d s off imm inner)) ∧ Grown w w' := by
  have HV := Lib.hid (ud_ldi op inner hk ha hl ht hu hj hs hx)
  have HD : Hid ((d != 0) = decide (0 < d)) := Lib.hid (ne_pos hd)
  have HD2 : Hid ((s != 0) = decide (0 < s)) := Lib.hid (ne_pos hs0)
  clear hd hs0
  have HK := Lib.hid hk
  have HA := Lib.hid ha
  have HL := Lib.hid hl
  have HT := Lib.hid ht
  have HU := Lib.hid hu
  have HJ := Lib.hid hj
  have HS := Lib.hid hs
  clear hk ha hl ht hu hj hs
  go_enter Tryd.func17, Tryd.ntmps17
  go_upto_region 5 with (first | (go_at_call 39; refine (HK.out ▸ rknown_any op inner _).mono ?_; rintro e w' ⟨rfl, rfl⟩) | (go_at_call 40; refine (HA.out ▸ arith_any op _).mono ?_; rintro e w' ⟨rfl, rfl⟩) | (go_at_call 47; refine (code_any _ _).mono ?_; rintro e w' ⟨rfl, rfl⟩) | (go_at_call 46; refine (HR.out ▸ reg_any op _).mono ?_; rintro e w' ⟨rfl, rfl⟩) | (go_at_call 43; refine (HS.out ▸ special_any op _).mono ?_; rintro e w' ⟨rfl, rfl⟩) | (go_at_call 42; refine (HJ.out ▸ jump_any op _).mono ?_; rintro e w' ⟨rfl, rfl⟩) | (go_at_call 41; refine (HL.out ▸ load_any op _).mono ?_; rintro e w' ⟨rfl, rfl⟩) | (go_at_call 44; refine (HT.out ▸ store_any op _).mono ?_; rintro e w' ⟨rfl, rfl⟩) | (go_at_call 45; refine (HU.out ▸ storeR_any op _).mono ?_; rintro e w' ⟨rfl, rfl⟩))
  have K : Keeps w [(w.heap.size, 0, .int .u8 (N op)), (w.heap.size, 1, .int .u8 d), (w.heap.size, 2, .int .u8 s), (w.heap.size, 3, .int .i16 off), (w.heap.size, 4, .int .i32 imm)] (w.alloc (.cells #[.int .u8 (N op), .int .u8 d, .int .u8 s, .int .i16 off, .int .i32 imm] 24)) := ⟨⟨⟨by simp [go_sem], by simp⟩, ⟨by simp [go_sem], by simp⟩, ⟨by simp [go_sem], by simp⟩, ⟨by simp [go_sem], by simp⟩, ⟨by simp [go_sem], by simp⟩, trivial⟩, by go_grown⟩
  generalize (w.alloc (.cells #[.int .u8 (N op), .int .u8 d, .int .u8 s, .int .i16 off, .int .i32 imm] 24)) = W at *
  generalize w.heap.size = A at *
  have c0 : W.cell? ⟨A, 1, none⟩ = some _ := K.1.get 1 _ rfl
  have c1 : W.cell? ⟨A, 2, none⟩ = some _ := K.1.get 2 _ rfl
  have c2 : W.cell? ⟨A, 3, none⟩ = some _ := K.1.get 3 _ rfl
  have c3 : W.cell? ⟨A, 4, none⟩ = some _ := K.1.get 4 _ rfl
  have e11d : decide (11 ≤ d) = decide (10 < d) := rfl
  have e11s : decide (11 ≤ s) = decide (10 < s) := rfl
  cases b0 : decide (10 < d)
  rotate_left
  · skip
    go_wp2_with fail
    go_ret
    exact ⟨by unfold checkS badReg badField badMark badImm; rw [HK.out, e11d, e11s, HD.out, HD2.out, HV.out.1, HV.out.2.1, HV.out.2.2.1, HV.out.2.2.2.1, HV.out.2.2.2.2.1, hx]; simp [b0], K.2⟩
  cases b1 : decide (10 < s)
  rotate_left
  · skip
    go_wp2_with fail
    go_ret
    exact ⟨by unfold checkS badReg badField badMark badImm; rw [HK.out, e11d, e11s, HD.out, HD2.out, HV.out.1, HV.out.2.1, HV.out.2.2.1, HV.out.2.2.2.1, HV.out.2.2.2.2.1, hx]; simp [b0, b1], K.2⟩
  cases b2 : (d == 10)
  rotate_left
  · skip
    go_wp2_with fail
    go_ret
    exact ⟨by unfold checkS badReg badField badMark badImm; rw [HK.out, e11d, e11s, HD.out, HD2.out, HV.out.1, HV.out.2.1, HV.out.2.2.1, HV.out.2.2.2.1, HV.out.2.2.2.2.1, hx]; simp [b0, b1, b2], K.2⟩
  cases b3 : (off != 0)
  rotate_left
  · skip
    go_wp2_with (first | (go_at_call 40; refine (HA.out ▸ arith_any op _).mono ?_; rintro e w' ⟨rfl, rfl⟩) | (go_at_call 47; refine (code_any _ _).mono ?_; rintro e w' ⟨rfl, rfl⟩) | (go_at_call 46; refine (HR.out ▸ reg_any op _).mono ?_; rintro e w' ⟨rfl, rfl⟩) | (go_at_call 43; refine (HS.out ▸ special_any op _).mono ?_; rintro e w' ⟨rfl, rfl⟩) | (go_at_call 42; refine (HJ.out ▸ jump_any op _).mono ?_; rintro e w' ⟨rfl, rfl⟩) | (go_at_call 41; refine (HL.out ▸ load_any op _).mono ?_; rintro e w' ⟨rfl, rfl⟩) | (go_at_call 44; refine (HT.out ▸ store_any op _).mono ?_; rintro e w' ⟨rfl, rfl⟩) | (go_at_call 45; refine (HU.out ▸ storeR_any op _).mono ?_; rintro e w' ⟨rfl, rfl⟩))
    go_ret
    exact ⟨by unfold checkS badReg badField badMark badImm; rw [HK.out, e11d, e11s, HD.out, HD2.out, HV.out.1, HV.out.2.1, HV.out.2.2.1, HV.out.2.2.2.1, HV.out.2.2.2.2.1, hx]; simp [b0, b1, b2, b3], K.2⟩
  cases b4 : decide (1 < s)
  rotate_left
  · skip
    go_wp2_with (first | (go_at_call 40; refine (HA.out ▸ arith_any op _).mono ?_; rintro e w' ⟨rfl, rfl⟩) | (go_at_call 47; refine (code_any _ _).mono ?_; rintro e w' ⟨rfl, rfl⟩) | (go_at_call 46; refine (HR.out ▸ reg_any op _).mono ?_; rintro e w' ⟨rfl, rfl⟩) | (go_at_call 43; refine (HS.out ▸ special_any op _).mono ?_; rintro e w' ⟨rfl, rfl⟩) | (go_at_call 42; refine (HJ.out ▸ jump_any op _).mono ?_; rintro e w' ⟨rfl, rfl⟩) | (go_at_call 41; refine (HL.out ▸ load_any op _).mono ?_; rintro e w' ⟨rfl, rfl⟩) | (go_at_call 44; refine (HT.out ▸ store_any op _).mono ?_; rintro e w' ⟨rfl, rfl⟩) | (go_at_call 45; refine (HU.out ▸ storeR_any op _).mono ?_; rintro e w' ⟨rfl, rfl⟩))
    go_ret
    exact ⟨by unfold checkS badReg badField badMark badImm; rw [HK.out, e11d, e11s, HD.out, HD2.out, HV.out.1, HV.out.2.1, HV.out.2.2.1, HV.out.2.2.2.1, HV.out.2.2.2.2.1, hx]; simp [b0, b1, b2, b3, b4], K.2⟩
  · skip
    go_wp2_with (first | (go_at_call 40; refine (HA.out ▸ arith_any op _).mono ?_; rintro e w' ⟨rfl, rfl⟩) | (go_at_call 47; refine (code_any _ _).mono ?_; rintro e w' ⟨rfl, rfl⟩) | (go_at_call 46; refine (HR.out ▸ reg_any op _).mono ?_; rintro e w' ⟨rfl, rfl⟩) | (go_at_call 43; refine (HS.out ▸ special_any op _).mono ?_; rintro e w' ⟨rfl, rfl⟩) | (go_at_call 42; refine (HJ.out ▸ jump_any op _).mono ?_; rintro e w' ⟨rfl, rfl⟩) | (go_at_call 41; refine (HL.out ▸ load_any op _).mono ?_; rintro e w' ⟨rfl, rfl⟩) | (go_at_call 44; refine (HT.out ▸ store_any op _).mono ?_; rintro e w' ⟨rfl, rfl⟩) | (go_at_call 45; refine (HU.out ▸ storeR_any op _).mono ?_; rintro e w' ⟨rfl, rfl⟩))
    go_ret
    exact ⟨by unfold checkS badReg badField badMark badImm; rw [HK.out, e11d, e11s, HD.out, HD2.out, HV.out.1, HV.out.2.1, HV.out.2.2.1, HV.out.2.2.2.1, HV.out.2.2.2.2.1, hx]; simp [b0, b1, b2, b3, b4, immS_other op imm HV.out.2.2.2.2.2.1 HV.out.2.2.2.2.2.2], K.2⟩
theorem ud_load : ∀ (op : B8) (inner : Bool), knownS op inner = true → arithS op = false → loadS op = true → storeS op = false → storeRS op = false → jumpS op = false → specialS op = false → (N op == 24) = false → (usesS op).d = true ∧ (usesS op).s = true ∧ (usesS op).o = true ∧ (usesS op).i = false ∧ (usesS op).w = true := by decide +kernel
set_option maxRecDepth 8000 in
set_option maxHeartbeats 4000000 in
theorem rcheck_load (op : B8) (d s off imm : Int) (inner : Bool) (w : World) (hd : 0 ≤ d) (hs0 : 0 ≤ s) (hk : knownS op inner = true) (ha : arithS op = false) (hl : loadS op = true) (ht : storeS op = false) (hu : storeRS op = false) (hj : jumpS op = false) (hs : specialS op = false) (hx : (N op == 24) = false) :
    Calls Tryd.prog 17 #[.agg #[.int .u8 (N op), .int .u8 d, .int .u8 s, .int .i16 off, .int .i32 imm], .bool inner] w fun e w' => e = .returned (.int .i64 (checkS op d s off imm inner)) ∧ Grown w w' := by
  have HV := Lib.hid (ud_load op inner hk ha hl ht hu hj hs hx)
  have HD : Hid ((d != 0) = decide (0 < d)) := Lib.hid (ne_pos hd)
  have HD2 : Hid ((s != 0) = decide (0 < s)) := Lib.hid (ne_pos hs0)
  clear hd hs0
  have HK := Lib.hid hk
  have HA := Lib.hid ha
  have HL := Lib.hid hl
  have HT := Lib.hid ht
  have HU := Lib.hid hu
  have HJ := Lib.hid hj
  have HS := Lib.hid hs
  clear hk ha hl ht hu hj hs
  go_enter Tryd.func17, Tryd.ntmps17
  go_upto_region 5 with (first | (go_at_call 39; refine (HK.out ▸ rknown_any op inner _).mono ?_; rintro e w' ⟨rfl, rfl⟩) | (go_at_call 40; refine (HA.out ▸ arith_any op _).mono ?_; rintro e w' ⟨rfl, rfl⟩) | (go_at_call 47; refine (code_any _ _).mono ?_; rintro e w' ⟨rfl, rfl⟩) | (go_at_call 46; refine (HR.out ▸ reg_any op _).mono ?_; rintro e w' ⟨rfl, rfl⟩) | (go_at_call 43; refine (HS.out ▸ special_any op _).mono ?_; rintro e w' ⟨rfl, rfl⟩) | (go_at_call 42; refine (HJ.out ▸ jump_any op _).mono ?_; rintro e w' ⟨rfl, rfl⟩) | (go_at_call 41; refine (HL.out ▸ load_any op _).mono ?_; rintro e w' ⟨rfl, rfl⟩) | (go_at_call 44; refine (HT.out ▸ store_any op _).mono ?_; rintro e w' ⟨rfl, rfl⟩) | (go_at_call 45; refine (HU.out ▸ storeR_any op _).mono ?_; rintro e w' ⟨rfl, rfl⟩))
  have K : Keeps w [(w.heap.size, 0, .int .u8 (N op)), (w.heap.size, 1, .int .u8 d), (w.heap.size, 2, .int .u8 s), (w.heap.size, 3, .int .i16 off), (w.heap.size, 4, .int .i32 imm)] (w.alloc (.cells #[.int .u8 (N op), .int .u8 d, .int .u8 s, .int .i16 off, .int .i32 imm] 24)) := ⟨⟨⟨by simp [go_sem], by simp⟩, ⟨by simp [go_sem], by simp⟩, ⟨by simp [go_sem], by simp⟩, ⟨by simp [go_sem], by simp⟩, ⟨by simp [go_sem], by simp⟩, trivial⟩, by go_grown⟩
  generalize (w.alloc (.cells #[.int .u8 (N op), .int .u8 d, .int .u8 s, .int .i16 off, .int .i32 imm] 24)) = W at *
  generalize w.heap.size = A at *
  have c0 : W.cell? ⟨A, 1, none⟩ = some _ := K.1.get 1 _ rfl
  have c1 : W.cell? ⟨A, 2, none⟩ = some _ := K.1.get 2 _ rfl
  have c2 : W.cell? ⟨A, 3, none⟩ = some _ := K.1.get 3 _ rfl
  have c3 : W.cell? ⟨A, 4, none⟩ = some _ := K.1.get 4 _ rfl
  have e11d : decide (11 ≤ d) = decide (10 < d) := rfl
  have e11s : decide (11 ≤ s) = decide (10 < s) := rfl
  cases b0 : decide (10 < d)
  rotate_left
  · skip
    go_wp2_with fail
    go_ret
    exact ⟨by unfold checkS badReg badField badMark badImm; rw [HK.out, e11d, e11s, HD.out, HD2.out, HV.out.1, HV.out.2.1, HV.out.2.2.1, HV.out.2.2.2.1, HV.out.2.2.2.2, hx]; simp [b0], K.2⟩
  cases b1 : decide (10 < s)
  rotate_left
  · skip
    go_wp2_with fail
    go_ret
    exact ⟨by unfold checkS badReg badField badMark badImm; rw [HK.out, e11d, e11s, HD.out, HD2.out, HV.out.1, HV.out.2.1, HV.out.2.2.1, HV.out.2.2.2.1, HV.out.2.2.2.2, hx]; simp [b0, b1], K.2⟩
  cases b2 : (d == 10)
  rotate_left
  · skip
    go_wp2_with fail
    go_ret
    exact ⟨by unfold checkS badReg badField badMark badImm; rw [HK.out, e11d, e11s, HD.out, HD2.out, HV.out.1, HV.out.2.1, HV.out.2.2.1, HV.out.2.2.2.1, HV.out.2.2.2.2, hx]; simp [b0, b1, b2], K.2⟩
  cases b3 : (imm != 0)
  rotate_left
  · skip
    go_wp2_with (first | (go_at_call 40; refine (HA.out ▸ arith_any op _).mono ?_; rintro e w' ⟨rfl, rfl⟩) | (go_at_call 47; refine (code_any _ _).mono ?_; rintro e w' ⟨rfl, rfl⟩) | (go_at_call 46; refine (HR.out ▸ reg_any op _).mono ?_; rintro e w' ⟨rfl, rfl⟩) | (go_at_call 43; refine (HS.out ▸ special_any op _).mono ?_; rintro e w' ⟨rfl, rfl⟩) | (go_at_call 42; refine (HJ.out ▸ jump_any op _).mono ?_; rintro e w' ⟨rfl, rfl⟩) | (go_at_call 41; refine (HL.out ▸ load_any op _).mono ?_; rintro e w' ⟨rfl, rfl⟩) | (go_at_call 44; refine (HT.out ▸ store_any op _).mono ?_; rintro e w' ⟨rfl, rfl⟩) | (go_at_call 45; refine (HU.out ▸ storeR_any op _).mono ?_; rintro e w' ⟨rfl, rfl⟩))
    go_ret
    exact ⟨by unfold checkS badReg badField badMark badImm; rw [HK.out, e11d, e11s, HD.out, HD2.out, HV.out.1, HV.out.2.1, HV.out.2.2.1, HV.out.2.2.2.1, HV.out.2.2.2.2, hx]; simp [b0, b1, b2, b3], K.2⟩
  · skip
    go_wp2_with (first | (go_at_call 40; refine (HA.out ▸ arith_any op _).mono ?_; rintro e w' ⟨rfl, rfl⟩) | (go_at_call 47; refine (code_any _ _).mono ?_; rintro e w' ⟨rfl, rfl⟩) | (go_at_call 46; refine (HR.out ▸ reg_any op _).mono ?_; rintro e w' ⟨rfl, rfl⟩) | (go_at_call 43; refine (HS.out ▸ special_any op _).mono ?_; rintro e w' ⟨rfl, rfl⟩) | (go_at_call 42; refine (HJ.out ▸ jump_any op _).mono ?_; rintro e w' ⟨rfl, rfl⟩) | (go_at_call 41; refine (HL.out ▸ load_any op _).mono ?_; rintro e w' ⟨rfl, rfl⟩) | (go_at_call 44; refine (HT.out ▸ store_any op _).mono ?_; rintro e w' ⟨rfl, rfl⟩) | (go_at_call 45; refine (HU.out ▸ storeR_any op _).mono ?_; rintro e w' ⟨rfl, rfl⟩))
    go_ret
    exact ⟨by unfold checkS badReg badField badMark badImm; rw [HK.out, e11d, e11s, HD.out, HD2.out, HV.out.1, HV.out.2.1, HV.out.2.2.1, HV.out.2.2.2.1, HV.out.2.2.2.2, hx]; simp [b0, b1, b2, b3], K.2⟩
theorem ud_sto : ∀ (op : B8) (inner : Bool), knownS op inner = true → arithS op = false → loadS op = false → storeS op = true → storeRS op = false → jumpS op = false → specialS op = false → (N op == 24) = false → (usesS op).d = true ∧ (usesS op).s = false ∧ (usesS op).o = true ∧ (usesS op).i = true ∧ (usesS op).w = false ∧ cls op ≠ 4 ∧ cls op ≠ 7 := by decide +kernel
set_option maxRecDepth 8000 in
set_option maxHeartbeats 4000000 in
theorem rcheck_sto (op : B8) (d s off imm : Int) (inner : Bool) (w : World) (hd : 0 ≤ d) (hs0 : 0 ≤ s) (hk : knownS op inner = true) (ha : arithS op = false) (hl : loadS op = false) (ht : storeS op = true) (hu : storeRS op = false) (hj : jumpS op = false) (hs : specialS op = false) (hx : (N op == 24) = false) :
    Calls Tryd.prog 17 #[.agg #[.int .u8 (N op), .int .u8 d, .int .u8 s, .int .i16 off, .int .i32 imm], .bool inner] w fun e w' => e = .returned (.int .i64 (checkS op d s off imm inner)) ∧ Grown w w' := by
  have HV := Lib.hid (ud_sto op inner hk ha hl ht hu hj hs hx)
  have HD : Hid ((d != 0) = decide (0 < d)) := Lib.hid (ne_pos hd)
  have HD2 : Hid ((s != 0) = decide (0 < s)) := Lib.hid (ne_pos hs0)
  clear hd hs0
  have HK := Lib.hid hk
  have HA := Lib.hid ha
  have HL := Lib.hid hl
  have HT := Lib.hid ht
  have HU := Lib.hid hu
  have HJ := Lib.hid hj
  have HS := Lib.hid hs
  clear hk ha hl ht hu hj hs
  go_enter Tryd.func17, Tryd.ntmps17
  go_upto_region 5 with (first | (go_at_call 39; refine (HK.out ▸ rknown_any op inner _).mono ?_; rintro e w' ⟨rfl, rfl⟩) | (go_at_call 40; refine (HA.out ▸ arith_any op _).mono ?_; rintro e w' ⟨rfl, rfl⟩) | (go_at_call 47; refine (code_any _ _).mono ?_; rintro e w' ⟨rfl, rfl⟩) | (go_at_call 46; refine (HR.out ▸ reg_any op _).mono ?_; rintro e w' ⟨rfl, rfl⟩) | (go_at_call 43; refine (HS.out ▸ special_any op _).mono ?_; rintro e w' ⟨rfl, rfl⟩) | (go_at_call 42; refine (HJ.out ▸ jump_any op _).mono ?_; rintro e w' ⟨rfl, rfl⟩) | (go_at_call 41; refine (HL.out ▸ load_any op _).mono ?_; rintro e w' ⟨rfl, rfl⟩) | (go_at_call 44; refine (HT.out ▸ store_any op _).mono ?_; rintro e w' ⟨rfl, rfl⟩) | (go_at_call 45; refine (HU.out ▸ storeR_any op _).mono ?_; rintro e w' ⟨rfl, rfl⟩))
  have K : Keeps w [(w.heap.size, 0, .int .u8 (N op)), (w.heap.size, 1, .int .u8 d), (w.heap.size, 2, .int .u8 s), (w.heap.size, 3, .int .i16 off), (w.heap.size, 4, .int .i32 imm)] (w.alloc (.cells #[.int .u8 (N op), .int .u8 d, .int .u8 s, .int .i16 off, .int .i32 imm] 24)) := ⟨⟨⟨by simp [go_sem], by simp⟩, ⟨by simp [go_sem], by simp⟩, ⟨by simp [go_sem], by simp⟩, ⟨by simp [go_sem], by simp⟩, ⟨by simp [go_sem], by simp⟩, trivial⟩, by go_grown⟩
  generalize (w.alloc (.cells #[.int .u8 (N op), .int .u8 d, .int .u8 s, .int .i16 off, .int .i32 imm] 24)) = W at *
  generalize w.heap.size = A at *
  have c0 : W.cell? ⟨A, 1, none⟩ = some _ := K.1.get 1 _ rfl
  have c1 : W.cell? ⟨A, 2, none⟩ = some _ := K.1.get 2 _ rfl
  have c2 : W.cell? ⟨A, 3, none⟩ = some _ := K.1.get 3 _ rfl
  have c3 : W.cell? ⟨A, 4, none⟩ = some _ := K.1.get 4 _ rfl
  have e11d : decide (11 ≤ d) = decide (10 < d) := rfl
  have e11s : decide (11 ≤ s) = decide (10 < s) := rfl
  cases b0 : decide (10 < d)
  rotate_left
  · skip
    go_wp2_with fail
    go_ret
    exact ⟨by unfold checkS badReg badField badMark badImm; rw [HK.out, e11d, e11s, HD.out, HD2.out, HV.out.1, HV.out.2.1, HV.out.2.2.1, HV.out.2.2.2.1, HV.out.2.2.2.2.1, hx]; simp [b0], K.2⟩
  cases b1 : decide (10 < s)
  rotate_left
  · skip
    go_wp2_with fail
    go_ret
    exact ⟨by unfold checkS badReg badField badMark badImm; rw [HK.out, e11d, e11s, HD.out, HD2.out, HV.out.1, HV.out.2.1, HV.out.2.2.1, HV.out.2.2.2.1, HV.out.2.2.2.2.1, hx]; simp [b0, b1], K.2⟩
  cases b2 : decide (0 < s)
  rotate_left
  · skip
    go_wp2_with (first | (go_at_call 40; refine (HA.out ▸ arith_any op _).mono ?_; rintro e w' ⟨rfl, rfl⟩) | (go_at_call 47; refine (code_any _ _).mono ?_; rintro e w' ⟨rfl, rfl⟩) | (go_at_call 46; refine (HR.out ▸ reg_any op _).mono ?_; rintro e w' ⟨rfl, rfl⟩) | (go_at_call 43; refine (HS.out ▸ special_any op _).mono ?_; rintro e w' ⟨rfl, rfl⟩) | (go_at_call 42; refine (HJ.out ▸ jump_any op _).mono ?_; rintro e w' ⟨rfl, rfl⟩) | (go_at_call 41; refine (HL.out ▸ load_any op _).mono ?_; rintro e w' ⟨rfl, rfl⟩) | (go_at_call 44; refine (HT.out ▸ store_any op _).mono ?_; rintro e w' ⟨rfl, rfl⟩) | (go_at_call 45; refine (HU.out ▸ storeR_any op _).mono ?_; rintro e w' ⟨rfl, rfl⟩))
    go_ret
    exact ⟨by unfold checkS badReg badField badMark badImm; rw [HK.out, e11d, e11s, HD.out, HD2.out, HV.out.1, HV.out.2.1, HV.out.2.2.1, HV.out.2.2.2.1, HV.out.2.2.2.2.1, hx]; simp [b0, b1, b2], K.2⟩
  · skip
    go_wp2_with (first | (go_at_call 40; refine (HA.out ▸ arith_any op _).mono ?_; rintro e w' ⟨rfl, rfl⟩) | (go_at_call 47; refine (code_any _ _).mono ?_; rintro e w' ⟨rfl, rfl⟩) | (go_at_call 46; refine (HR.out ▸ reg_any op _).mono ?_; rintro e w' ⟨rfl, rfl⟩) | (go_at_call 43; refine (HS.out ▸ special_any op _).mono ?_; rintro e w' ⟨rfl, rfl⟩) | (go_at_call 42; refine (HJ.out ▸ jump_any op _).mono ?_; rintro e w' ⟨rfl, rfl⟩) | (go_at_call 41; refine (HL.out ▸ load_any op _).mono ?_; rintro e w' ⟨rfl, rfl⟩) | (go_at_call 44; refine (HT.out ▸ store_any op _).mono ?_; rintro e w' ⟨rfl, rfl⟩) | (go_at_call 45; refine (HU.out ▸ storeR_any op _).mono ?_; rintro e w' ⟨rfl, rfl⟩))
    go_ret
    exact ⟨by unfold checkS badReg badField badMark badImm; rw [HK.out, e11d, e11s, HD.out, HD2.out, HV.out.1, HV.out.2.1, HV.out.2.2.1, HV.out.2.2.2.1, HV.out.2.2.2.2.1, hx]; simp [b0, b1, b2, immS_other op imm HV.out.2.2.2.2.2.1 HV.out.2.2.2.2.2.2], K.2⟩
theorem ud_str : ∀ (op : B8) (inner : Bool), knownS op inner = true → arithS op = false → loadS op = false → storeS op = false → storeRS op = true → jumpS op = false → specialS op = false → (N op == 24) = false → (usesS op).d = true ∧ (usesS op).s = true ∧ (usesS op).o = true ∧ (usesS op).i = false ∧ (usesS op).w = false := by decide +kernel
set_option maxRecDepth 8000 in
set_option maxHeartbeats 4000000 in
theorem rcheck_str (op : B8) (d s off imm : Int) (inner : Bool) (w : World) (hd : 0 ≤ d) (hs0 : 0 ≤ s) (hk : knownS op inner = true) (ha : arithS op = false) (hl : loadS op = false) (ht : storeS op = false) (hu : storeRS op = true) (hj : jumpS op = false) (hs : specialS op = false) (hx : (N op == 24) = false) :
    Calls Tryd.prog 17 #[.agg #[.int .u8 (N op), .int .u8 d, .int .u8 s, .int .i16 off, .int .i32 imm], .bool inner] w fun e w' => e = .returned (.int .i64 (checkS op d s off imm inner)) ∧ Grown w w' := by
  have HV := Lib.hid (ud_str op inner hk ha hl ht hu hj hs hx)
  have HD : Hid ((d != 0) = decide (0 < d)) := Lib.hid (ne_pos hd)
  have HD2 : Hid ((s != 0) = decide (0 < s)) := Lib.hid (ne_pos hs0)
  clear hd hs0
  have HK := Lib.hid hk
  have HA := Lib.hid ha
  have HL := Lib.hid hl
  have HT := Lib.hid ht
  have HU := Lib.hid hu
  have HJ := Lib.hid hj
  have HS := Lib.hid hs
  clear hk ha hl ht hu hj hs
  go_enter Tryd.func17, Tryd.ntmps17
  go_upto_region 5 with (first | (go_at_call 39; refine (HK.out ▸ rknown_any op inner _).mono ?_; rintro e w' ⟨rfl, rfl⟩) | (go_at_call 40; refine (HA.out ▸ arith_any op _).mono ?_; rintro e w' ⟨rfl, rfl⟩) | (go_at_call 47; refine (code_any _ _).mono ?_; rintro e w' ⟨rfl, rfl⟩) | (go_at_call 46; refine (HR.out ▸ reg_any op _).mono ?_; rintro e w' ⟨rfl, rfl⟩) | (go_at_call 43; refine (HS.out ▸ special_any op _).mono ?_; rintro e w' ⟨rfl, rfl⟩) | (go_at_call 42; refine (HJ.out ▸ jump_any op _).mono ?_; rintro e w' ⟨rfl, rfl⟩) | (go_at_call 41; refine (HL.out ▸ load_any op _).mono ?_; rintro e w' ⟨rfl, rfl⟩) | (go_at_call 44; refine (HT.out ▸ store_any op _).mono ?_; rintro e w' ⟨rfl, rfl⟩) | (go_at_call 45; refine (HU.out ▸ storeR_any op _).mono ?_; rintro e w' ⟨rfl, rfl⟩))
  have K : Keeps w [(w.heap.size, 0, .int .u8 (N op)), (w.heap.size, 1, .int .u8 d), (w.heap.size, 2, .int .u8 s), (w.heap.size, 3, .int .i16 off), (w.heap.size, 4, .int .i32 imm)] (w.alloc (.cells #[.int .u8 (N op), .int .u8 d, .int .u8 s, .int .i16 off, .int .i32 imm] 24)) := ⟨⟨⟨by simp [go_sem], by simp⟩, ⟨by simp [go_sem], by simp⟩, ⟨by simp [go_sem], by simp⟩, ⟨by simp [go_sem], by simp⟩, ⟨by simp [go_sem], by simp⟩, trivial⟩, by go_grown⟩
  generalize (w.alloc (.cells #[.int .u8 (N op), .int .u8 d, .int .u8 s, .int .i16 off, .int .i32 imm] 24)) = W at *
  generalize w.heap.size = A at *
  have c0 : W.cell? ⟨A, 1, none⟩ = some _ := K.1.get 1 _ rfl
  have c1 : W.cell? ⟨A, 2, none⟩ = some _ := K.1.get 2 _ rfl
  have c2 : W.cell? ⟨A, 3, none⟩ = some _ := K.1.get 3 _ rfl
  have c3 : W.cell? ⟨A, 4, none⟩ = some _ := K.1.get 4 _ rfl
  have e11d : decide (11 ≤ d) = decide (10 < d) := rfl
  have e11s : decide (11 ≤ s) = decide (10 < s) := rfl
  cases b0 : decide (10 < d)
  rotate_left
  · skip
    go_wp2_with fail
    go_ret
    exact ⟨by unfold checkS badReg badField badMark badImm; rw [HK.out, e11d, e11s, HD.out, HD2.out, HV.out.1, HV.out.2.1, HV.out.2.2.1, HV.out.2.2.2.1, HV.out.2.2.2.2, hx]; simp [b0], K.2⟩
  cases b1 : decide (10 < s)
  rotate_left
  · skip
    go_wp2_with fail
    go_ret
    exact ⟨by unfold checkS badReg badField badMark badImm; rw [HK.out, e11d, e11s, HD.out, HD2.out, HV.out.1, HV.out.2.1, HV.out.2.2.1, HV.out.2.2.2.1, HV.out.2.2.2.2, hx]; simp [b0, b1], K.2⟩
  cases b2 : (imm != 0)
  rotate_left
  · skip
    go_wp2_with (first | (go_at_call 40; refine (HA.out ▸ arith_any op _).mono ?_; rintro e w' ⟨rfl, rfl⟩) | (go_at_call 47; refine (code_any _ _).mono ?_; rintro e w' ⟨rfl, rfl⟩) | (go_at_call 46; refine (HR.out ▸ reg_any op _).mono ?_; rintro e w' ⟨rfl, rfl⟩) | (go_at_call 43; refine (HS.out ▸ special_any op _).mono ?_; rintro e w' ⟨rfl, rfl⟩) | (go_at_call 42; refine (HJ.out ▸ jump_any op _).mono ?_; rintro e w' ⟨rfl, rfl⟩) | (go_at_call 41; refine (HL.out ▸ load_any op _).mono ?_; rintro e w' ⟨rfl, rfl⟩) | (go_at_call 44; refine (HT.out ▸ store_any op _).mono ?_; rintro e w' ⟨rfl, rfl⟩) | (go_at_call 45; refine (HU.out ▸ storeR_any op _).mono ?_; rintro e w' ⟨rfl, rfl⟩))
    go_ret
    exact ⟨by unfold checkS badReg badField badMark badImm; rw [HK.out, e11d, e11s, HD.out, HD2.out, HV.out.1, HV.out.2.1, HV.out.2.2.1, HV.out.2.2.2.1, HV.out.2.2.2.2, hx]; simp [b0, b1, b2], K.2⟩
  · skip
    go_wp2_with (first | (go_at_call 40; refine (HA.out ▸ arith_any op _).mono ?_; rintro e w' ⟨rfl, rfl⟩) | (go_at_call 47; refine (code_any _ _).mono ?_; rintro e w' ⟨rfl, rfl⟩) | (go_at_call 46; refine (HR.out ▸ reg_any op _).mono ?_; rintro e w' ⟨rfl, rfl⟩) | (go_at_call 43; refine (HS.out ▸ special_any op _).mono ?_; rintro e w' ⟨rfl, rfl⟩) | (go_at_call 42; refine (HJ.out ▸ jump_any op _).mono ?_; rintro e w' ⟨rfl, rfl⟩) | (go_at_call 41; refine (HL.out ▸ load_any op _).mono ?_; rintro e w' ⟨rfl, rfl⟩) | (go_at_call 44; refine (HT.out ▸ store_any op _).mono ?_; rintro e w' ⟨rfl, rfl⟩) | (go_at_call 45; refine (HU.out ▸ storeR_any op _).mono ?_; rintro e w' ⟨rfl, rfl⟩))
    go_ret
    exact ⟨by unfold checkS badReg badField badMark badImm; rw [HK.out, e11d, e11s, HD.out, HD2.out, HV.out.1, HV.out.2.1, HV.out.2.2.1, HV.out.2.2.2.1, HV.out.2.2.2.2, hx]; simp [b0, b1, b2], K.2⟩
theorem ud_ja : ∀ (op : B8) (inner : Bool), knownS op inner = true → arithS op = false → loadS op = false → storeS op = false → storeRS op = false → jumpS op = true → specialS op = true → (N op == 24) = false → (wh op == 0) = true → (wh op == 128) = false → (usesS op).d = false ∧ (usesS op).s = false ∧ (usesS op).o = true ∧ (usesS op).i = false ∧ (usesS op).w = false := by decide +kernel
set_option maxRecDepth 8000 in
set_option maxHeartbeats 4000000 in
theorem rcheck_ja (op : B8) (d s off imm : Int) (inner : Bool) (w : World) (hd : 0 ≤ d) (hs0 : 0 ≤ s) (hk : knownS op inner = true) (ha : arithS op = false) (hl : loadS op = false) (ht : storeS op = false) (hu : storeRS op = false) (hj : jumpS op = true) (hs : specialS op = true) (hx : (N op == 24) = false) (hy0 : (wh op == 0) = true) (hy1 : (wh op == 128) = false) :
    Calls Tryd.prog 17 #[.agg #[.int .u8 (N op), .int .u8 d, .int .u8 s, .int .i16 off, .int .i32 imm], .bool inner] w fun e w' => e = .returned (.int .i64 (checkS op d s off imm inner)) ∧ Grown w w' := by
  have HV := Lib.hid (ud_ja op inner hk ha hl ht hu hj hs hx hy0 hy1)
  have HD : Hid ((d != 0) = decide (0 < d)) := Lib.hid (ne_pos hd)
  have HD2 : Hid ((s != 0) = decide (0 < s)) := Lib.hid (ne_pos hs0)
  clear hd hs0
  have HK := Lib.hid hk
  have HA := Lib.hid ha
  have HL := Lib.hid hl
  have HT := Lib.hid ht
  have HU := Lib.hid hu
  have HJ := Lib.hid hj
  have HS := Lib.hid hs
  clear hk ha hl ht hu hj hs
  go_enter Tryd.func17, Tryd.ntmps17
  go_upto_region 5 with (first | (go_at_call 39; refine (HK.out ▸ rknown_any op inner _).mono ?_; rintro e w' ⟨rfl, rfl⟩) | (go_at_call 40; refine (HA.out ▸ arith_any op _).mono ?_; rintro e w' ⟨rfl, rfl⟩) | (go_at_call 47; refine (code_any _ _).mono ?_; rintro e w' ⟨rfl, rfl⟩) | (go_at_call 46; refine (HR.out ▸ reg_any op _).mono ?_; rintro e w' ⟨rfl, rfl⟩) | (go_at_call 43; refine (HS.out ▸ special_any op _).mono ?_; rintro e w' ⟨rfl, rfl⟩) | (go_at_call 42; refine (HJ.out ▸ jump_any op _).mono ?_; rintro e w' ⟨rfl, rfl⟩) | (go_at_call 41; refine (HL.out ▸ load_any op _).mono ?_; rintro e w' ⟨rfl, rfl⟩) | (go_at_call 44; refine (HT.out ▸ store_any op _).mono ?_; rintro e w' ⟨rfl, rfl⟩) | (go_at_call 45; refine (HU.out ▸ storeR_any op _).mono ?_; rintro e w' ⟨rfl, rfl⟩))
  have K : Keeps w [(w.heap.size, 0, .int .u8 (N op)), (w.heap.size, 1, .int .u8 d), (w.heap.size, 2, .int .u8 s), (w.heap.size, 3, .int .i16 off), (w.heap.size, 4, .int .i32 imm)] (w.alloc (.cells #[.int .u8 (N op), .int .u8 d, .int .u8 s, .int .i16 off, .int .i32 imm] 24)) := ⟨⟨⟨by simp [go_sem], by simp⟩, ⟨by simp [go_sem], by simp⟩, ⟨by simp [go_sem], by simp⟩, ⟨by simp [go_sem], by simp⟩, ⟨by simp [go_sem], by simp⟩, trivial⟩, by go_grown⟩
  generalize (w.alloc (.cells #[.int .u8 (N op), .int .u8 d, .int .u8 s, .int .i16 off, .int .i32 imm] 24)) = W at *
  generalize w.heap.size = A at *
  have c0 : W.cell? ⟨A, 1, none⟩ = some _ := K.1.get 1 _ rfl
  have c1 : W.cell? ⟨A, 2, none⟩ = some _ := K.1.get 2 _ rfl
  have c2 : W.cell? ⟨A, 3, none⟩ = some _ := K.1.get 3 _ rfl
  have c3 : W.cell? ⟨A, 4, none⟩ = some _ := K.1.get 4 _ rfl
  have e11d : decide (11 ≤ d) = decide (10 < d) := rfl
  have e11s : decide (11 ≤ s) = decide (10 < s) := rfl
  cases b0 : decide (10 < d)
  rotate_left
  · skip
    go_wp2_with fail
    go_ret
    exact ⟨by unfold checkS badReg badField badMark badImm; rw [HK.out, e11d, e11s, HD.out, HD2.out, HV.out.1, HV.out.2.1, HV.out.2.2.1, HV.out.2.2.2.1, HV.out.2.2.2.2, hx]; simp [b0], K.2⟩
  cases b1 : decide (10 < s)
  rotate_left
  · skip
    go_wp2_with fail
    go_ret
    exact ⟨by unfold checkS badReg badField badMark badImm; rw [HK.out, e11d, e11s, HD.out, HD2.out, HV.out.1, HV.out.2.1, HV.out.2.2.1, HV.out.2.2.2.1, HV.out.2.2.2.2, hx]; simp [b0, b1], K.2⟩
  cases b2 : decide (0 < d)
  rotate_left
  · skip
    go_wp2_with (first | (go_at_call 40; refine (HA.out ▸ arith_any op _).mono ?_; rintro e w' ⟨rfl, rfl⟩) | (go_at_call 47; refine (code_any _ _).mono ?_; rintro e w' ⟨rfl, rfl⟩) | (go_at_call 46; refine (HR.out ▸ reg_any op _).mono ?_; rintro e w' ⟨rfl, rfl⟩) | (go_at_call 43; refine (HS.out ▸ special_any op _).mono ?_; rintro e w' ⟨rfl, rfl⟩) | (go_at_call 42; refine (HJ.out ▸ jump_any op _).mono ?_; rintro e w' ⟨rfl, rfl⟩) | (go_at_call 41; refine (HL.out ▸ load_any op _).mono ?_; rintro e w' ⟨rfl, rfl⟩) | (go_at_call 44; refine (HT.out ▸ store_any op _).mono ?_; rintro e w' ⟨rfl, rfl⟩) | (go_at_call 45; refine (HU.out ▸ storeR_any op _).mono ?_; rintro e w' ⟨rfl, rfl⟩))
    go_ret
    exact ⟨by unfold checkS badReg badField badMark badImm; rw [HK.out, e11d, e11s, HD.out, HD2.out, HV.out.1, HV.out.2.1, HV.out.2.2.1, HV.out.2.2.2.1, HV.out.2.2.2.2, hx]; simp [b0, b1, b2], K.2⟩
  cases b3 : decide (0 < s)
  rotate_left
  · skip
    go_wp2_with (first | (go_at_call 40; refine (HA.out ▸ arith_any op _).mono ?_; rintro e w' ⟨rfl, rfl⟩) | (go_at_call 47; refine (code_any _ _).mono ?_; rintro e w' ⟨rfl, rfl⟩) | (go_at_call 46; refine (HR.out ▸ reg_any op _).mono ?_; rintro e w' ⟨rfl, rfl⟩) | (go_at_call 43; refine (HS.out ▸ special_any op _).mono ?_; rintro e w' ⟨rfl, rfl⟩) | (go_at_call 42; refine (HJ.out ▸ jump_any op _).mono ?_; rintro e w' ⟨rfl, rfl⟩) | (go_at_call 41; refine (HL.out ▸ load_any op _).mono ?_; rintro e w' ⟨rfl, rfl⟩) | (go_at_call 44; refine (HT.out ▸ store_any op _).mono ?_; rintro e w' ⟨rfl, rfl⟩) | (go_at_call 45; refine (HU.out ▸ storeR_any op _).mono ?_; rintro e w' ⟨rfl, rfl⟩))
    go_ret
    exact ⟨by unfold checkS badReg badField badMark badImm; rw [HK.out, e11d, e11s, HD.out, HD2.out, HV.out.1, HV.out.2.1, HV.out.2.2.1, HV.out.2.2.2.1, HV.out.2.2.2.2, hx]; simp [b0, b1, b2, b3], K.2⟩
  cases b4 : (imm != 0)
  rotate_left
  · skip
    go_wp2_with (first | (go_at_call 40; refine (HA.out ▸ arith_any op _).mono ?_; rintro e w' ⟨rfl, rfl⟩) | (go_at_call 47; refine (code_any _ _).mono ?_; rintro e w' ⟨rfl, rfl⟩) | (go_at_call 46; refine (HR.out ▸ reg_any op _).mono ?_; rintro e w' ⟨rfl, rfl⟩) | (go_at_call 43; refine (HS.out ▸ special_any op _).mono ?_; rintro e w' ⟨rfl, rfl⟩) | (go_at_call 42; refine (HJ.out ▸ jump_any op _).mono ?_; rintro e w' ⟨rfl, rfl⟩) | (go_at_call 41; refine (HL.out ▸ load_any op _).mono ?_; rintro e w' ⟨rfl, rfl⟩) | (go_at_call 44; refine (HT.out ▸ store_any op _).mono ?_; rintro e w' ⟨rfl, rfl⟩) | (go_at_call 45; refine (HU.out ▸ storeR_any op _).mono ?_; rintro e w' ⟨rfl, rfl⟩))
    go_ret
    exact ⟨by unfold checkS badReg badField badMark badImm; rw [HK.out, e11d, e11s, HD.out, HD2.out, HV.out.1, HV.out.2.1, HV.out.2.2.1, HV.out.2.2.2.1, HV.out.2.2.2.2, hx]; simp [b0, b1, b2, b3, b4], K.2⟩
  · skip
    go_wp2_with (first | (go_at_call 40; refine (HA.out ▸ arith_any op _).mono ?_; rintro e w' ⟨rfl, rfl⟩) | (go_at_call 47; refine (code_any _ _).mono ?_; rintro e w' ⟨rfl, rfl⟩) | (go_at_call 46; refine (HR.out ▸ reg_any op _).mono ?_; rintro e w' ⟨rfl, rfl⟩) | (go_at_call 43; refine (HS.out ▸ special_any op _).mono ?_; rintro e w' ⟨rfl, rfl⟩) | (go_at_call 42; refine (HJ.out ▸ jump_any op _).mono ?_; rintro e w' ⟨rfl, rfl⟩) | (go_at_call 41; refine (HL.out ▸ load_any op _).mono ?_; rintro e w' ⟨rfl, rfl⟩) | (go_at_call 44; refine (HT.out ▸ store_any op _).mono ?_; rintro e w' ⟨rfl, rfl⟩) | (go_at_call 45; refine (HU.out ▸ storeR_any op _).mono ?_; rintro e w' ⟨rfl, rfl⟩))
    go_ret
    exact ⟨by unfold checkS badReg badField badMark badImm; rw [HK.out, e11d, e11s, HD.out, HD2.out, HV.out.1, HV.out.2.1, HV.out.2.2.1, HV.out.2.2.2.1, HV.out.2.2.2.2, hx]; simp [b0, b1, b2, b3, b4], K.2⟩
theorem ud_call : ∀ (op : B8) (inner : Bool), knownS op inner = true → arithS op = false → loadS op = false → storeS op = false → storeRS op = false → jumpS op = true → specialS op = true → (N op == 24) = false → (wh op == 0) = false → (wh op == 128) = true → (usesS op).d = false ∧ (usesS op).s = false ∧ (usesS op).o = false ∧ (usesS op).i = true ∧ (usesS op).w = false ∧ cls op ≠ 4 ∧ cls op ≠ 7 := by decide +kernel
set_option maxRecDepth 8000 in
set_option maxHeartbeats 4000000 in
theorem rcheck_call (op : B8) (d s off imm : Int) (inner : Bool) (w : World) (hd : 0 ≤ d) (hs0 : 0 ≤ s) (hk : knownS op inner = true) (ha : arithS op = false) (hl : loadS op = false) (ht : storeS op = false) (hu : storeRS op = false) (hj : jumpS op = true) (hs : specialS op = true) (hx : (N op == 24) = false) (hy0 : (wh op == 0) = false) (hy1 : (wh op == 128) = true) :
    Calls Tryd.prog 17 #[.agg #[.int .u8 (N op), .int .u8 d, .int .u8 s, .int .i16 off, .int .i32 imm], .bool inner] w fun e w' => e = .returned (.int .i64 (checkS op d s off imm inner)) ∧ Grown w w' := by
  have HV := Lib.hid (ud_call op inner hk ha hl ht hu hj hs hx hy0 hy1)
  have HD : Hid ((d != 0) = decide (0 < d)) := Lib.hid (ne_pos hd)
  have HD2 : Hid ((s != 0) = decide (0 < s)) := Lib.hid (ne_pos hs0)
  clear hd hs0
  have HK := Lib.hid hk
  have HA := Lib.hid ha
  have HL := Lib.hid hl
  have HT := Lib.hid ht
  have HU := Lib.hid hu
  have HJ := Lib.hid hj
  have HS := Lib.hid hs
  clear hk ha hl ht hu hj hs
  go_enter Tryd.func17, Tryd.ntmps17
  go_upto_region 5 with (first | (go_at_call 39; refine (HK.out ▸ rknown_any op inner _).mono ?_; rintro e w' ⟨rfl, rfl⟩) | (go_at_call 40; refine (HA.out ▸ arith_any op _).mono ?_; rintro e w' ⟨rfl, rfl⟩) | (go_at_call 47; refine (code_any _ _).mono ?_; rintro e w' ⟨rfl, rfl⟩) | (go_at_call 46; refine (HR.out ▸ reg_any op _).mono ?_; rintro e w' ⟨rfl, rfl⟩) | (go_at_call 43; refine (HS.out ▸ special_any op _).mono ?_; rintro e w' ⟨rfl, rfl⟩) | (go_at_call 42; refine (HJ.out ▸ jump_any op _).mono ?_; rintro e w' ⟨rfl, rfl⟩) | (go_at_call 41; refine (HL.out ▸ load_any op _).mono ?_; rintro e w' ⟨rfl, rfl⟩) | (go_at_call 44; refine (HT.out ▸ store_any op _).mono ?_; rintro e w' ⟨rfl, rfl⟩) | (go_at_call 45; refine (HU.out ▸ storeR_any op _).mono ?_; rintro e w' ⟨rfl, rfl⟩))
  have K : Keeps w [(w.heap.size, 0, .int .u8 (N op)), (w.heap.size, 1, .int .u8 d), (w.heap.size, 2, .int .u8 s), (w.heap.size, 3, .int .i16 off), (w.heap.size, 4, .int .i32 imm)] (w.alloc (.cells #[.int .u8 (N op), .int .u8 d, .int .u8 s, .int .i16 off, .int .i32 imm] 24)) := ⟨⟨⟨by simp [go_sem], by simp⟩, ⟨by simp [go_sem], by simp⟩, ⟨by simp [go_sem], by simp⟩, ⟨by simp [go_sem], by simp⟩, ⟨by simp [go_sem], by simp⟩, trivial⟩, by go_grown⟩
  generalize (w.alloc (.cells #[.int .u8 (N op), .int .u8 d, .int .u8 s, .int .i16 off, .int .i32 imm] 24)) = W at *
  generalize w.heap.size = A at *
  have c0 : W.cell? ⟨A, 1, none⟩ = some _ := K.1.get 1 _ rfl
  have c1 : W.cell? ⟨A, 2, none⟩ = some _ := K.1.get 2 _ rfl
  have c2 : W.cell? ⟨A, 3, none⟩ = some _ := K.1.get 3 _ rfl
  have c3 : W.cell? ⟨A, 4, none⟩ = some _ := K.1.get 4 _ rfl
  have e11d : decide (11 ≤ d) = decide (10 < d) := rfl
  have e11s : decide (11 ≤ s) = decide (10 < s) := rfl
  cases b0 : decide (10 < d)
  rotate_left
  · skip
    go_wp2_with fail
    go_ret
    exact ⟨by unfold checkS badReg badField badMark badImm; rw [HK.out, e11d, e11s, HD.out, HD2.out, HV.out.1, HV.out.2.1, HV.out.2.2.1, HV.out.2.2.2.1, HV.out.2.2.2.2.1, hx]; simp [b0], K.2⟩
  cases b1 : decide (10 < s)
  rotate_left
  · skip
    go_wp2_with fail
    go_ret
    exact ⟨by unfold checkS badReg badField badMark badImm; rw [HK.out, e11d, e11s, HD.out, HD2.out, HV.out.1, HV.out.2.1, HV.out.2.2.1, HV.out.2.2.2.1, HV.out.2.2.2.2.1, hx]; simp [b0, b1], K.2⟩
  cases b2 : decide (0 < d)
  rotate_left
  · skip
    go_wp2_with (first | (go_at_call 40; refine (HA.out ▸ arith_any op _).mono ?_; rintro e w' ⟨rfl, rfl⟩) | (go_at_call 47; refine (code_any _ _).mono ?_; rintro e w' ⟨rfl, rfl⟩) | (go_at_call 46; refine (HR.out ▸ reg_any op _).mono ?_; rintro e w' ⟨rfl, rfl⟩) | (go_at_call 43; refine (HS.out ▸ special_any op _).mono ?_; rintro e w' ⟨rfl, rfl⟩) | (go_at_call 42; refine (HJ.out ▸ jump_any op _).mono ?_; rintro e w' ⟨rfl, rfl⟩) | (go_at_call 41; refine (HL.out ▸ load_any op _).mono ?_; rintro e w' ⟨rfl, rfl⟩) | (go_at_call 44; refine (HT.out ▸ store_any op _).mono ?_; rintro e w' ⟨rfl, rfl⟩) | (go_at_call 45; refine (HU.out ▸ storeR_any op _).mono ?_; rintro e w' ⟨rfl, rfl⟩))
    go_ret
    exact ⟨by unfold checkS badReg badField badMark badImm; rw [HK.out, e11d, e11s, HD.out, HD2.out, HV.out.1, HV.out.2.1, HV.out.2.2.1, HV.out.2.2.2.1, HV.out.2.2.2.2.1, hx]; simp [b0, b1, b2], K.2⟩
  cases b3 : decide (0 < s)
  rotate_left
  · skip
    go_wp2_with (first | (go_at_call 40; refine (HA.out ▸ arith_any op _).mono ?_; rintro e w' ⟨rfl, rfl⟩) | (go_at_call 47; refine (code_any _ _).mono ?_; rintro e w' ⟨rfl, rfl⟩) | (go_at_call 46; refine (HR.out ▸ reg_any op _).mono ?_; rintro e w' ⟨rfl, rfl⟩) | (go_at_call 43; refine (HS.out ▸ special_any op _).mono ?_; rintro e w' ⟨rfl, rfl⟩) | (go_at_call 42; refine (HJ.out ▸ jump_any op _).mono ?_; rintro e w' ⟨rfl, rfl⟩) | (go_at_call 41; refine (HL.out ▸ load_any op _).mono ?_; rintro e w' ⟨rfl, rfl⟩) | (go_at_call 44; refine (HT.out ▸ store_any op _).mono ?_; rintro e w' ⟨rfl, rfl⟩) | (go_at_call 45; refine (HU.out ▸ storeR_any op _).mono ?_; rintro e w' ⟨rfl, rfl⟩))
    go_ret
    exact ⟨by unfold checkS badReg badField badMark badImm; rw [HK.out, e11d, e11s, HD.out, HD2.out, HV.out.1, HV.out.2.1, HV.out.2.2.1, HV.out.2.2.2.1, HV.out.2.2.2.2.1, hx]; simp [b0, b1, b2, b3], K.2⟩
  cases b4 : (off != 0)
  rotate_left
  · skip
    go_wp2_with (first | (go_at_call 40; refine (HA.out ▸ arith_any op _).mono ?_; rintro e w' ⟨rfl, rfl⟩) | (go_at_call 47; refine (code_any _ _).mono ?_; rintro e w' ⟨rfl, rfl⟩) | (go_at_call 46; refine (HR.out ▸ reg_any op _).mono ?_; rintro e w' ⟨rfl, rfl⟩) | (go_at_call 43; refine (HS.out ▸ special_any op _).mono ?_; rintro e w' ⟨rfl, rfl⟩) | (go_at_call 42; refine (HJ.out ▸ jump_any op _).mono ?_; rintro e w' ⟨rfl, rfl⟩) | (go_at_call 41; refine (HL.out ▸ load_any op _).mono ?_; rintro e w' ⟨rfl, rfl⟩) | (go_at_call 44; refine (HT.out ▸ store_any op _).mono ?_; rintro e w' ⟨rfl, rfl⟩) | (go_at_call 45; refine (HU.out ▸ storeR_any op _).mono ?_; rintro e w' ⟨rfl, rfl⟩))
    go_ret
    exact ⟨by unfold checkS badReg badField badMark badImm; rw [HK.out, e11d, e11s, HD.out, HD2.out, HV.out.1, HV.out.2.1, HV.out.2.2.1, HV.out.2.2.2.1, HV.out.2.2.2.2.1, hx]; simp [b0, b1, b2, b3, b4], K.2⟩
  · skip
    go_wp2_with (first | (go_at_call 40; refine (HA.out ▸ arith_any op _).mono ?_; rintro e w' ⟨rfl, rfl⟩) | (go_at_call 47; refine (code_any _ _).mono ?_; rintro e w' ⟨rfl, rfl⟩) | (go_at_call 46; refine (HR.out ▸ reg_any op _).mono ?_; rintro e w' ⟨rfl, rfl⟩) | (go_at_call 43; refine (HS.out ▸ special_any op _).mono ?_; rintro e w' ⟨rfl, rfl⟩) | (go_at_call 42; refine (HJ.out ▸ jump_any op _).mono ?_; rintro e w' ⟨rfl, rfl⟩) | (go_at_call 41; refine (HL.out ▸ load_any op _).mono ?_; rintro e w' ⟨rfl, rfl⟩) | (go_at_call 44; refine (HT.out ▸ store_any op _).mono ?_; rintro e w' ⟨rfl, rfl⟩) | (go_at_call 45; refine (HU.out ▸ storeR_any op _).mono ?_; rintro e w' ⟨rfl, rfl⟩))
    go_ret
    exact ⟨by unfold checkS badReg badField badMark badImm; rw [HK.out, e11d, e11s, HD.out, HD2.out, HV.out.1, HV.out.2.1, HV.out.2.2.1, HV.out.2.2.2.1, HV.out.2.2.2.2.1, hx]; simp [b0, b1, b2, b3, b4, immS_other op imm HV.out.2.2.2.2.2.1 HV.out.2.2.2.2.2.2], K.2⟩
theorem ud_exit : ∀ (op : B8) (inner : Bool), knownS op inner = true → arithS op = false → loadS op = false → storeS op = false → storeRS op = false → jumpS op = true → specialS op = true → (N op == 24) = false → (wh op == 0) = false → (wh op == 128) = false → (usesS op).d = false ∧ (usesS op).s = false ∧ (usesS op).o = false ∧ (usesS op).i = false ∧ (usesS op).w = false := by decide +kernel
set_option maxRecDepth 8000 in
set_option maxHeartbeats 4000000 in
theorem rcheck_exit (op : B8) (d s off imm : Int) (inner : Bool) (w : World) (hd : 0 ≤ d) (hs0 : 0 ≤ s) (hk : knownS op inner = true) (ha : arithS op = false) (hl : loadS op = false) (ht : storeS op = false) (hu : storeRS op = false) (hj : jumpS op = true) (hs : specialS op = true) (hx : (N op == 24) = false) (hy0 : (wh op == 0) = false) (hy1 : (wh op == 128) = false) :
    Calls Tryd.prog 17 #[.agg #[.int .u8 (N op), .int .u8 d, .int .u8 s, .int .i16 off, .int .i32 imm], .bool inner] w fun e w' => e = .returned (.int .i64 (checkS op d s off imm inner)) ∧ Grown w w' := by
  have HV := Lib.hid (ud_exit op inner hk ha hl ht hu hj hs hx hy0 hy1)
  have HD : Hid ((d != 0) = decide (0 < d)) := Lib.hid (ne_pos hd)
  have HD2 : Hid ((s != 0) = decide (0 < s)) := Lib.hid (ne_pos hs0)
  clear hd hs0
  have HK := Lib.hid hk
  have HA := Lib.hid ha
  have HL := Lib.hid hl
  have HT := Lib.hid ht
  have HU := Lib.hid hu
  have HJ := Lib.hid hj
  have HS := Lib.hid hs
  clear hk ha hl ht hu hj hs
  go_enter Tryd.func17, Tryd.ntmps17
  go_upto_region 5 with (first | (go_at_call 39; refine (HK.out ▸ rknown_any op inner _).mono ?_; rintro e w' ⟨rfl, rfl⟩) | (go_at_call 40; refine (HA.out ▸ arith_any op _).mono ?_; rintro e w' ⟨rfl, rfl⟩) | (go_at_call 47; refine (code_any _ _).mono ?_; rintro e w' ⟨rfl, rfl⟩) | (go_at_call 46; refine (HR.out ▸ reg_any op _).mono ?_; rintro e w' ⟨rfl, rfl⟩) | (go_at_call 43; refine (HS.out ▸ special_any op _).mono ?_; rintro e w' ⟨rfl, rfl⟩) | (go_at_call 42; refine (HJ.out ▸ jump_any op _).mono ?_; rintro e w' ⟨rfl, rfl⟩) | (go_at_call 41; refine (HL.out ▸ load_any op _).mono ?_; rintro e w' ⟨rfl, rfl⟩) | (go_at_call 44; refine (HT.out ▸ store_any op _).mono ?_; rintro e w' ⟨rfl, rfl⟩) | (go_at_call 45; refine (HU.out ▸ storeR_any op _).mono ?_; rintro e w' ⟨rfl, rfl⟩))
  have K : Keeps w [(w.heap.size, 0, .int .u8 (N op)), (w.heap.size, 1, .int .u8 d), (w.heap.size, 2, .int .u8 s), (w.heap.size, 3, .int .i16 off), (w.heap.size, 4, .int .i32 imm)] (w.alloc (.cells #[.int .u8 (N op), .int .u8 d, .int .u8 s, .int .i16 off, .int .i32 imm] 24)) := ⟨⟨⟨by simp [go_sem], by simp⟩, ⟨by simp [go_sem], by simp⟩, ⟨by simp [go_sem], by simp⟩, ⟨by simp [go_sem], by simp⟩, ⟨by simp [go_sem], by simp⟩, trivial⟩, by go_grown⟩
  generalize (w.alloc (.cells #[.int .u8 (N op), .int .u8 d, .int .u8 s, .int .i16 off, .int .i32 imm] 24)) = W at *
  generalize w.heap.size = A at *
  have c0 : W.cell? ⟨A, 1, none⟩ = some _ := K.1.get 1 _ rfl
  have c1 : W.cell? ⟨A, 2, none⟩ = some _ := K.1.get 2 _ rfl
  have c2 : W.cell? ⟨A, 3, none⟩ = some _ := K.1.get 3 _ rfl
  have c3 : W.cell? ⟨A, 4, none⟩ = some _ := K.1.get 4 _ rfl
  have e11d : decide (11 ≤ d) = decide (10 < d) := rfl
  have e11s : decide (11 ≤ s) = decide (10 < s) := rfl
  cases b0 : decide (10 < d)
  rotate_left
  · skip
    go_wp2_with fail
    go_ret
    exact ⟨by unfold checkS badReg badField badMark badImm; rw [HK.out, e11d, e11s, HD.out, HD2.out, HV.out.1, HV.out.2.1, HV.out.2.2.1, HV.out.2.2.2.1, HV.out.2.2.2.2, hx]; simp [b0], K.2⟩
  cases b1 : decide (10 < s)
  rotate_left
  · skip
    go_wp2_with fail
    go_ret
    exact ⟨by unfold checkS badReg badField badMark badImm; rw [HK.out, e11d, e11s, HD.out, HD2.out, HV.out.1, HV.out.2.1, HV.out.2.2.1, HV.out.2.2.2.1, HV.out.2.2.2.2, hx]; simp [b0, b1], K.2⟩
  cases b2 : decide (0 < d)
  rotate_left
  · skip
    go_wp2_with (first | (go_at_call 40; refine (HA.out ▸ arith_any op _).mono ?_; rintro e w' ⟨rfl, rfl⟩) | (go_at_call 47; refine (code_any _ _).mono ?_; rintro e w' ⟨rfl, rfl⟩) | (go_at_call 46; refine (HR.out ▸ reg_any op _).mono ?_; rintro e w' ⟨rfl, rfl⟩) | (go_at_call 43; refine (HS.out ▸ special_any op _).mono ?_; rintro e w' ⟨rfl, rfl⟩) | (go_at_call 42; refine (HJ.out ▸ jump_any op _).mono ?_; rintro e w' ⟨rfl, rfl⟩) | (go_at_call 41; refine (HL.out ▸ load_any op _).mono ?_; rintro e w' ⟨rfl, rfl⟩) | (go_at_call 44; refine (HT.out ▸ store_any op _).mono ?_; rintro e w' ⟨rfl, rfl⟩) | (go_at_call 45; refine (HU.out ▸ storeR_any op _).mono ?_; rintro e w' ⟨rfl, rfl⟩))
    go_ret
    exact ⟨by unfold checkS badReg badField badMark badImm; rw [HK.out, e11d, e11s, HD.out, HD2.out, HV.out.1, HV.out.2.1, HV.out.2.2.1, HV.out.2.2.2.1, HV.out.2.2.2.2, hx]; simp [b0, b1, b2], K.2⟩
  cases b3 : decide (0 < s)
  rotate_left
  · skip
    go_wp2_with (first | (go_at_call 40; refine (HA.out ▸ arith_any op _).mono ?_; rintro e w' ⟨rfl, rfl⟩) | (go_at_call 47; refine (code_any _ _).mono ?_; rintro e w' ⟨rfl, rfl⟩) | (go_at_call 46; refine (HR.out ▸ reg_any op _).mono ?_; rintro e w' ⟨rfl, rfl⟩) | (go_at_call 43; refine (HS.out ▸ special_any op _).mono ?_; rintro e w' ⟨rfl, rfl⟩) | (go_at_call 42; refine (HJ.out ▸ jump_any op _).mono ?_; rintro e w' ⟨rfl, rfl⟩) | (go_at_call 41; refine (HL.out ▸ load_any op _).mono ?_; rintro e w' ⟨rfl, rfl⟩) | (go_at_call 44; refine (HT.out ▸ store_any op _).mono ?_; rintro e w' ⟨rfl, rfl⟩) | (go_at_call 45; refine (HU.out ▸ storeR_any op _).mono ?_; rintro e w' ⟨rfl, rfl⟩))
    go_ret
    exact ⟨by unfold checkS badReg badField badMark badImm; rw [HK.out, e11d, e11s, HD.out, HD2.out, HV.out.1, HV.out.2.1, HV.out.2.2.1, HV.out.2.2.2.1, HV.out.2.2.2.2, hx]; simp [b0, b1, b2, b3], K.2⟩
  cases b4 : (off != 0)
  rotate_left
  · skip
    go_wp2_with (first | (go_at_call 40; refine (HA.out ▸ arith_any op _).mono ?_; rintro e w' ⟨rfl, rfl⟩) | (go_at_call 47; refine (code_any _ _).mono ?_; rintro e w' ⟨rfl, rfl⟩) | (go_at_call 46; refine (HR.out ▸ reg_any op _).mono ?_; rintro e w' ⟨rfl, rfl⟩) | (go_at_call 43; refine (HS.out ▸ special_any op _).mono ?_; rintro e w' ⟨rfl, rfl⟩) | (go_at_call 42; refine (HJ.out ▸ jump_any op _).mono ?_; rintro e w' ⟨rfl, rfl⟩) | (go_at_call 41; refine (HL.out ▸ load_any op _).mono ?_; rintro e w' ⟨rfl, rfl⟩) | (go_at_call 44; refine (HT.out ▸ store_any op _).mono ?_; rintro e w' ⟨rfl, rfl⟩) | (go_at_call 45; refine (HU.out ▸ storeR_any op _).mono ?_; rintro e w' ⟨rfl, rfl⟩))
    go_ret
    exact ⟨by unfold checkS badReg badField badMark badImm; rw [HK.out, e11d, e11s, HD.out, HD2.out, HV.out.1, HV.out.2.1, HV.out.2.2.1, HV.out.2.2.2.1, HV.out.2.2.2.2, hx]; simp [b0, b1, b2, b3, b4], K.2⟩
  cases b5 : (imm != 0)
  rotate_left
  · skip
    go_wp2_with (first | (go_at_call 40; refine (HA.out ▸ arith_any op _).mono ?_; rintro e w' ⟨rfl, rfl⟩) | (go_at_call 47; refine (code_any _ _).mono ?_; rintro e w' ⟨rfl, rfl⟩) | (go_at_call 46; refine (HR.out ▸ reg_any op _).mono ?_; rintro e w' ⟨rfl, rfl⟩) | (go_at_call 43; refine (HS.out ▸ special_any op _).mono ?_; rintro e w' ⟨rfl, rfl⟩) | (go_at_call 42; refine (HJ.out ▸ jump_any op _).mono ?_; rintro e w' ⟨rfl, rfl⟩) | (go_at_call 41; refine (HL.out ▸ load_any op _).mono ?_; rintro e w' ⟨rfl, rfl⟩) | (go_at_call 44; refine (HT.out ▸ store_any op _).mono ?_; rintro e w' ⟨rfl, rfl⟩) | (go_at_call 45; refine (HU.out ▸ storeR_any op _).mono ?_; rintro e w' ⟨rfl, rfl⟩))
    go_ret
    exact ⟨by unfold checkS badReg badField badMark badImm; rw [HK.out, e11d, e11s, HD.out, HD2.out, HV.out.1, HV.out.2.1, HV.out.2.2.1, HV.out.2.2.2.1, HV.out.2.2.2.2, hx]; simp [b0, b1, b2, b3, b4, b5], K.2⟩
  · skip
    go_wp2_with (first | (go_at_call 40; refine (HA.out ▸ arith_any op _).mono ?_; rintro e w' ⟨rfl, rfl⟩) | (go_at_call 47; refine (code_any _ _).mono ?_; rintro e w' ⟨rfl, rfl⟩) | (go_at_call 46; refine (HR.out ▸ reg_any op _).mono ?_; rintro e w' ⟨rfl, rfl⟩) | (go_at_call 43; refine (HS.out ▸ special_any op _).mono ?_; rintro e w' ⟨rfl, rfl⟩) | (go_at_call 42; refine (HJ.out ▸ jump_any op _).mono ?_; rintro e w' ⟨rfl, rfl⟩) | (go_at_call 41; refine (HL.out ▸ load_any op _).mono ?_; rintro e w' ⟨rfl, rfl⟩) | (go_at_call 44; refine (HT.out ▸ store_any op _).mono ?_; rintro e w' ⟨rfl, rfl⟩) | (go_at_call 45; refine (HU.out ▸ storeR_any op _).mono ?_; rintro e w' ⟨rfl, rfl⟩))
    go_ret
    exact ⟨by unfold checkS badReg badField badMark badImm; rw [HK.out, e11d, e11s, HD.out, HD2.out, HV.out.1, HV.out.2.1, HV.out.2.2.1, HV.out.2.2.2.1, HV.out.2.2.2.2, hx]; simp [b0, b1, b2, b3, b4, b5], K.2⟩
theorem ud_cr : ∀ (op : B8) (inner : Bool), knownS op inner = true → arithS op = false → loadS op = false → storeS op = false → storeRS op = false → jumpS op = true → specialS op = false → rg op = true → (N op == 24) = false → (usesS op).d = true ∧ (usesS op).s = true ∧ (usesS op).o = true ∧ (usesS op).i = false ∧ (usesS op).w = false := by decide +kernel
set_option maxRecDepth 8000 in
set_option maxHeartbeats 4000000 in
theorem rcheck_cr (op : B8) (d s off imm : Int) (inner : Bool) (w : World) (hd : 0 ≤ d) (hs0 : 0 ≤ s) (hk : knownS op inner = true) (ha : arithS op = false) (hl : loadS op = false) (ht : storeS op = false) (hu : storeRS op = false) (hj : jumpS op = true) (hs : specialS op = false) (hr : rg op = true) (hx : (N op == 24) = false) :
    Calls Tryd.prog 17 #[.agg #[.int .u8 (N op), .int .u8 d, .int .u8 s, .int .i16 off, .int .i32 imm], .bool inner] w fun e w' => e = .returned (.int .i64 (checkS op d s off imm inner)) ∧ Grown w w' := by
  have HV := Lib.hid (ud_cr op inner hk ha hl ht hu hj hs hr hx)
  have HD : Hid ((d != 0) = decide (0 < d)) := Lib.hid (ne_pos hd)
  have HD2 : Hid ((s != 0) = decide (0 < s)) := Lib.hid (ne_pos hs0)
  clear hd hs0
  have HK := Lib.hid hk
  have HA := Lib.hid ha
  have HL := Lib.hid hl
  have HT := Lib.hid ht
  have HU := Lib.hid hu
  have HJ := Lib.hid hj
  have HS := Lib.hid hs
  have HR := Lib.hid hr
  clear hk ha hl ht hu hj hs hr
  go_enter Tryd.func17, Tryd.ntmps17
  go_upto_region 5 with (first | (go_at_call 39; refine (HK.out ▸ rknown_any op inner _).mono ?_; rintro e w' ⟨rfl, rfl⟩) | (go_at_call 40; refine (HA.out ▸ arith_any op _).mono ?_; rintro e w' ⟨rfl, rfl⟩) | (go_at_call 47; refine (code_any _ _).mono ?_; rintro e w' ⟨rfl, rfl⟩) | (go_at_call 46; refine (HR.out ▸ reg_any op _).mono ?_; rintro e w' ⟨rfl, rfl⟩) | (go_at_call 43; refine (HS.out ▸ special_any op _).mono ?_; rintro e w' ⟨rfl, rfl⟩) | (go_at_call 42; refine (HJ.out ▸ jump_any op _).mono ?_; rintro e w' ⟨rfl, rfl⟩) | (go_at_call 41; refine (HL.out ▸ load_any op _).mono ?_; rintro e w' ⟨rfl, rfl⟩) | (go_at_call 44; refine (HT.out ▸ store_any op _).mono ?_; rintro e w' ⟨rfl, rfl⟩) | (go_at_call 45; refine (HU.out ▸ storeR_any op _).mono ?_; rintro e w' ⟨rfl, rfl⟩))
  have K : Keeps w [(w.heap.size, 0, .int .u8 (N op)), (w.heap.size, 1, .int .u8 d), (w.heap.size, 2, .int .u8 s), (w.heap.size, 3, .int .i16 off), (w.heap.size, 4, .int .i32 imm)] (w.alloc (.cells #[.int .u8 (N op), .int .u8 d, .int .u8 s, .int .i16 off, .int .i32 imm] 24)) := ⟨⟨⟨by simp [go_sem], by simp⟩, ⟨by simp [go_sem], by simp⟩, ⟨by simp [go_sem], by simp⟩, ⟨by simp [go_sem], by simp⟩, ⟨by simp [go_sem], by simp⟩, trivial⟩, by go_grown⟩
  generalize (w.alloc (.cells #[.int .u8 (N op), .int .u8 d, .int .u8 s, .int .i16 off, .int .i32 imm] 24)) = W at *
  generalize w.heap.size = A at *
  have c0 : W.cell? ⟨A, 1, none⟩ = some _ := K.1.get 1 _ rfl
  have c1 : W.cell? ⟨A, 2, none⟩ = some _ := K.1.get 2 _ rfl
  have c2 : W.cell? ⟨A, 3, none⟩ = some _ := K.1.get 3 _ rfl
  have c3 : W.cell? ⟨A, 4, none⟩ = some _ := K.1.get 4 _ rfl
  have e11d : decide (11 ≤ d) = decide (10 < d) := rfl
  have e11s : decide (11 ≤ s) = decide (10 < s) := rfl
  cases b0 : decide (10 < d)
  rotate_left
  · skip
    go_wp2_with fail
    go_ret
    exact ⟨by unfold checkS badReg badField badMark badImm; rw [HK.out, e11d, e11s, HD.out, HD2.out, HV.out.1, HV.out.2.1, HV.out.2.2.1, HV.out.2.2.2.1, HV.out.2.2.2.2, hx]; simp [b0], K.2⟩
  cases b1 : decide (10 < s)
  rotate_left
  · skip
    go_wp2_with fail
    go_ret
    exact ⟨by unfold checkS badReg badField badMark badImm; rw [HK.out, e11d, e11s, HD.out, HD2.out, HV.out.1, HV.out.2.1, HV.out.2.2.1, HV.out.2.2.2.1, HV.out.2.2.2.2, hx]; simp [b0, b1], K.2⟩
  cases b2 : (imm != 0)
  rotate_left
  · skip
    go_wp2_with (first | (go_at_call 40; refine (HA.out ▸ arith_any op _).mono ?_; rintro e w' ⟨rfl, rfl⟩) | (go_at_call 47; refine (code_any _ _).mono ?_; rintro e w' ⟨rfl, rfl⟩) | (go_at_call 46; refine (HR.out ▸ reg_any op _).mono ?_; rintro e w' ⟨rfl, rfl⟩) | (go_at_call 43; refine (HS.out ▸ special_any op _).mono ?_; rintro e w' ⟨rfl, rfl⟩) | (go_at_call 42; refine (HJ.out ▸ jump_any op _).mono ?_; rintro e w' ⟨rfl, rfl⟩) | (go_at_call 41; refine (HL.out ▸ load_any op _).mono ?_; rintro e w' ⟨rfl, rfl⟩) | (go_at_call 44; refine (HT.out ▸ store_any op _).mono ?_; rintro e w' ⟨rfl, rfl⟩) | (go_at_call 45; refine (HU.out ▸ storeR_any op _).mono ?_; rintro e w' ⟨rfl, rfl⟩))
    go_ret
    exact ⟨by unfold checkS badReg badField badMark badImm; rw [HK.out, e11d, e11s, HD.out, HD2.out, HV.out.1, HV.out.2.1, HV.out.2.2.1, HV.out.2.2.2.1, HV.out.2.2.2.2, hx]; simp [b0, b1, b2], K.2⟩
  · skip
    go_wp2_with (first | (go_at_call 40; refine (HA.out ▸ arith_any op _).mono ?_; rintro e w' ⟨rfl, rfl⟩) | (go_at_call 47; refine (code_any _ _).mono ?_; rintro e w' ⟨rfl, rfl⟩) | (go_at_call 46; refine (HR.out ▸ reg_any op _).mono ?_; rintro e w' ⟨rfl, rfl⟩) | (go_at_call 43; refine (HS.out ▸ special_any op _).mono ?_; rintro e w' ⟨rfl, rfl⟩) | (go_at_call 42; refine (HJ.out ▸ jump_any op _).mono ?_; rintro e w' ⟨rfl, rfl⟩) | (go_at_call 41; refine (HL.out ▸ load_any op _).mono ?_; rintro e w' ⟨rfl, rfl⟩) | (go_at_call 44; refine (HT.out ▸ store_any op _).mono ?_; rintro e w' ⟨rfl, rfl⟩) | (go_at_call 45; refine (HU.out ▸ storeR_any op _).mono ?_; rintro e w' ⟨rfl, rfl⟩))
    go_ret
    exact ⟨by unfold checkS badReg badField badMark badImm; rw [HK.out, e11d, e11s, HD.out, HD2.out, HV.out.1, HV.out.2.1, HV.out.2.2.1, HV.out.2.2.2.1, HV.out.2.2.2.2, hx]; simp [b0, b1, b2], K.2⟩
theorem ud_cn : ∀ (op : B8) (inner : Bool), knownS op inner = true → arithS op = false → loadS op = false → storeS op = false → storeRS op = false → jumpS op = true → specialS op = false → rg op = false → (N op == 24) = false → (usesS op).d = true ∧ (usesS op).s = false ∧ (usesS op).o = true ∧ (usesS op).i = true ∧ (usesS op).w = false ∧ cls op ≠ 4 ∧ cls op ≠ 7 := by decide +kernel
set_option maxRecDepth 8000 in
set_option maxHeartbeats 4000000 in
theorem rcheck_cn (op : B8) (d s off imm : Int) (inner : Bool) (w : World) (hd : 0 ≤ d) (hs0 : 0 ≤ s) (hk : knownS op inner = true) (ha : arithS op = false) (hl : loadS op = false) (ht : storeS op = false) (hu : storeRS op = false) (hj : jumpS op = true) (hs : specialS op = false) (hr : rg op = false) (hx : (N op == 24) = false) :
    Calls Tryd.prog 17 #[.agg #[.int .u8 (N op), .int .u8 d, .int .u8 s, .int .i16 off, .int .i32 imm], .bool inner] w fun e w' => e = .returned (.int .i64 (checkS op d s off imm inner)) ∧ Grown w w' := by
  have HV := Lib.hid (ud_cn op inner hk ha hl ht hu hj hs hr hx)
  have HD : Hid ((d != 0) = decide (0 < d)) := Lib.hid (ne_pos hd)
  have HD2 : Hid ((s != 0) = decide (0 < s)) := Lib.hid (ne_pos hs0)
  clear hd hs0
  have HK := Lib.hid hk
  have HA := Lib.hid ha
  have HL := Lib.hid hl
  have HT := Lib.hid ht
  have HU := Lib.hid hu
  have HJ := Lib.hid hj
  have HS := Lib.hid hs
  have HR := Lib.hid hr
  clear hk ha hl ht hu hj hs hr
  go_enter Tryd.func17, Tryd.ntmps17
  go_upto_region 5 with (first | (go_at_call 39; refine (HK.out ▸ rknown_any op inner _).mono ?_; rintro e w' ⟨rfl, rfl⟩) | (go_at_call 40; refine (HA.out ▸ arith_any op _).mono ?_; rintro e w' ⟨rfl, rfl⟩) | (go_at_call 47; refine (code_any _ _).mono ?_; rintro e w' ⟨rfl, rfl⟩) | (go_at_call 46; refine (HR.out ▸ reg_any op _).mono ?_; rintro e w' ⟨rfl, rfl⟩) | (go_at_call 43; refine (HS.out ▸ special_any op _).mono ?_; rintro e w' ⟨rfl, rfl⟩) | (go_at_call 42; refine (HJ.out ▸ jump_any op _).mono ?_; rintro e w' ⟨rfl, rfl⟩) | (go_at_call 41; refine (HL.out ▸ load_any op _).mono ?_; rintro e w' ⟨rfl, rfl⟩) | (go_at_call 44; refine (HT.out ▸ store_any op _).mono ?_; rintro e w' ⟨rfl, rfl⟩) | (go_at_call 45; refine (HU.out ▸ storeR_any op _).mono ?_; rintro e w' ⟨rfl, rfl⟩))
  have K : Keeps w [(w.heap.size, 0, .int .u8 (N op)), (w.heap.size, 1, .int .u8 d), (w.heap.size, 2, .int .u8 s), (w.heap.size, 3, .int .i16 off), (w.heap.size, 4, .int .i32 imm)] (w.alloc (.cells #[.int .u8 (N op), .int .u8 d, .int .u8 s, .int .i16 off, .int .i32 imm] 24)) := ⟨⟨⟨by simp [go_sem], by simp⟩, ⟨by simp [go_sem], by simp⟩, ⟨by simp [go_sem], by simp⟩, ⟨by simp [go_sem], by simp⟩, ⟨by simp [go_sem], by simp⟩, trivial⟩, by go_grown⟩
  generalize (w.alloc (.cells #[.int .u8 (N op), .int .u8 d, .int .u8 s, .int .i16 off, .int .i32 imm] 24)) = W at *
  generalize w.heap.size = A at *
  have c0 : W.cell? ⟨A, 1, none⟩ = some _ := K.1.get 1 _ rfl
  have c1 : W.cell? ⟨A, 2, none⟩ = some _ := K.1.get 2 _ rfl
  have c2 : W.cell? ⟨A, 3, none⟩ = some _ := K.1.get 3 _ rfl
  have c3 : W.cell? ⟨A, 4, none⟩ = some _ := K.1.get 4 _ rfl
  have e11d : decide (11 ≤ d) = decide (10 < d) := rfl
  have e11s : decide (11 ≤ s) = decide (10 < s) := rfl
  cases b0 : decide (10 < d)
  rotate_left
  · skip
    go_wp2_with fail
    go_ret
    exact ⟨by unfold checkS badReg badField badMark badImm; rw [HK.out, e11d, e11s, HD.out, HD2.out, HV.out.1, HV.out.2.1, HV.out.2.2.1, HV.out.2.2.2.1, HV.out.2.2.2.2.1, hx]; simp [b0], K.2⟩
  cases b1 : decide (10 < s)
  rotate_left
  · skip
    go_wp2_with fail
    go_ret
    exact ⟨by unfold checkS badReg badField badMark badImm; rw [HK.out, e11d, e11s, HD.out, HD2.out, HV.out.1, HV.out.2.1, HV.out.2.2.1, HV.out.2.2.2.1, HV.out.2.2.2.2.1, hx]; simp [b0, b1], K.2⟩
  cases b2 : decide (0 < s)
  rotate_left
  · skip
    go_wp2_with (first | (go_at_call 40; refine (HA.out ▸ arith_any op _).mono ?_; rintro e w' ⟨rfl, rfl⟩) | (go_at_call 47; refine (code_any _ _).mono ?_; rintro e w' ⟨rfl, rfl⟩) | (go_at_call 46; refine (HR.out ▸ reg_any op _).mono ?_; rintro e w' ⟨rfl, rfl⟩) | (go_at_call 43; refine (HS.out ▸ special_any op _).mono ?_; rintro e w' ⟨rfl, rfl⟩) | (go_at_call 42; refine (HJ.out ▸ jump_any op _).mono ?_; rintro e w' ⟨rfl, rfl⟩) | (go_at_call 41; refine (HL.out ▸ load_any op _).mono ?_; rintro e w' ⟨rfl, rfl⟩) | (go_at_call 44; refine (HT.out ▸ store_any op _).mono ?_; rintro e w' ⟨rfl, rfl⟩) | (go_at_call 45; refine (HU.out ▸ storeR_any op _).mono ?_; rintro e w' ⟨rfl, rfl⟩))
    go_ret
    exact ⟨by unfold checkS badReg badField badMark badImm; rw [HK.out, e11d, e11s, HD.out, HD2.out, HV.out.1, HV.out.2.1, HV.out.2.2.1, HV.out.2.2.2.1, HV.out.2.2.2.2.1, hx]; simp [b0, b1, b2], K.2⟩
  · skip
    go_wp2_with (first | (go_at_call 40; refine (HA.out ▸ arith_any op _).mono ?_; rintro e w' ⟨rfl, rfl⟩) | (go_at_call 47; refine (code_any _ _).mono ?_; rintro e w' ⟨rfl, rfl⟩) | (go_at_call 46; refine (HR.out ▸ reg_any op _).mono ?_; rintro e w' ⟨rfl, rfl⟩) | (go_at_call 43; refine (HS.out ▸ special_any op _).mono ?_; rintro e w' ⟨rfl, rfl⟩) | (go_at_call 42; refine (HJ.out ▸ jump_any op _).mono ?_; rintro e w' ⟨rfl, rfl⟩) | (go_at_call 41; refine (HL.out ▸ load_any op _).mono ?_; rintro e w' ⟨rfl, rfl⟩) | (go_at_call 44; refine (HT.out ▸ store_any op _).mono ?_; rintro e w' ⟨rfl, rfl⟩) | (go_at_call 45; refine (HU.out ▸ storeR_any op _).mono ?_; rintro e w' ⟨rfl, rfl⟩))
    go_ret
    exact ⟨by unfold checkS badReg badField badMark badImm; rw [HK.out, e11d, e11s, HD.out, HD2.out, HV.out.1, HV.out.2.1, HV.out.2.2.1, HV.out.2.2.2.1, HV.out.2.2.2.2.1, hx]; simp [b0, b1, b2, immS_other op imm HV.out.2.2.2.2.2.1 HV.out.2.2.2.2.2.2], K.2⟩
theorem ud_nos : ∀ (op : B8) (inner : Bool), knownS op inner = true → arithS op = false → loadS op = false → storeS op = false → storeRS op = false → jumpS op = false → specialS op = false → (N op == 24) = false → (usesS op).d = false ∧ (usesS op).s = false ∧ (usesS op).o = false ∧ (usesS op).i = false ∧ (usesS op).w = false := by decide +kernel
set_option maxRecDepth 8000 in
set_option maxHeartbeats 4000000 in
theorem rcheck_nos (op : B8) (d s off imm : Int) (inner : Bool) (w : World) (hd : 0 ≤ d) (hs0 : 0 ≤ s) (hk : knownS op inner = true) (ha : arithS op = false) (hl : loadS op = false) (ht : storeS op = false) (hu : storeRS op = false) (hj : jumpS op = false) (hs : specialS op = false) (hx : (N op == 24) = false) :
    Calls Tryd.prog 17 #[.agg #[.int .u8 (N op), .int .u8 d, .int .u8 s, .int .i16 off, .int .i32 imm], .bool inner] w fun e w' => e = .returned (.int .i64 (checkS op d s off imm inner)) ∧ Grown w w' := by
  have HV := Lib.hid (ud_nos op inner hk ha hl ht hu hj hs hx)
  have HD : Hid ((d != 0) = decide (0 < d)) := Lib.hid (ne_pos hd)
  have HD2 : Hid ((s != 0) = decide (0 < s)) := Lib.hid (ne_pos hs0)
  clear hd hs0
  have HK := Lib.hid hk
  have HA := Lib.hid ha
  have HL := Lib.hid hl
  have HT := Lib.hid ht
  have HU := Lib.hid hu
  have HJ := Lib.hid hj
  have HS := Lib.hid hs
  clear hk ha hl ht hu hj hs
  go_enter Tryd.func17, Tryd.ntmps17
  go_upto_region 5 with (first | (go_at_call 39; refine (HK.out ▸ rknown_any op inner _).mono ?_; rintro e w' ⟨rfl, rfl⟩) | (go_at_call 40; refine (HA.out ▸ arith_any op _).mono ?_; rintro e w' ⟨rfl, rfl⟩) | (go_at_call 47; refine (code_any _ _).mono ?_; rintro e w' ⟨rfl, rfl⟩) | (go_at_call 46; refine (HR.out ▸ reg_any op _).mono ?_; rintro e w' ⟨rfl, rfl⟩) | (go_at_call 43; refine (HS.out ▸ special_any op _).mono ?_; rintro e w' ⟨rfl, rfl⟩) | (go_at_call 42; refine (HJ.out ▸ jump_any op _).mono ?_; rintro e w' ⟨rfl, rfl⟩) | (go_at_call 41; refine (HL.out ▸ load_any op _).mono ?_; rintro e w' ⟨rfl, rfl⟩) | (go_at_call 44; refine (HT.out ▸ store_any op _).mono ?_; rintro e w' ⟨rfl, rfl⟩) | (go_at_call 45; refine (HU.out ▸ storeR_any op _).mono ?_; rintro e w' ⟨rfl, rfl⟩))
  have K : Keeps w [(w.heap.size, 0, .int .u8 (N op)), (w.heap.size, 1, .int .u8 d), (w.heap.size, 2, .int .u8 s), (w.heap.size, 3, .int .i16 off), (w.heap.size, 4, .int .i32 imm)] (w.alloc (.cells #[.int .u8 (N op), .int .u8 d, .int .u8 s, .int .i16 off, .int .i32 imm] 24)) := ⟨⟨⟨by simp [go_sem], by simp⟩, ⟨by simp [go_sem], by simp⟩, ⟨by simp [go_sem], by simp⟩, ⟨by simp [go_sem], by simp⟩, ⟨by simp [go_sem], by simp⟩, trivial⟩, by go_grown⟩
  generalize (w.alloc (.cells #[.int .u8 (N op), .int .u8 d, .int .u8 s, .int .i16 off, .int .i32 imm] 24)) = W at *
  generalize w.heap.size = A at *
  have c0 : W.cell? ⟨A, 1, none⟩ = some _ := K.1.get 1 _ rfl
  have c1 : W.cell? ⟨A, 2, none⟩ = some _ := K.1.get 2 _ rfl
  have c2 : W.cell? ⟨A, 3, none⟩ = some _ := K.1.get 3 _ rfl
  have c3 : W.cell? ⟨A, 4, none⟩ = some _ := K.1.get 4 _ rfl
  have e11d : decide (11 ≤ d) = decide (10 < d) := rfl
  have e11s : decide (11 ≤ s) = decide (10 < s) := rfl
  cases b0 : decide (10 < d)
  rotate_left
  · skip
    go_wp2_with fail
    go_ret
    exact ⟨by unfold checkS badReg badField badMark badImm; rw [HK.out, e11d, e11s, HD.out, HD2.out, HV.out.1, HV.out.2.1, HV.out.2.2.1, HV.out.2.2.2.1, HV.out.2.2.2.2, hx]; simp [b0], K.2⟩
  cases b1 : decide (10 < s)
  rotate_left
  · skip
    go_wp2_with fail
    go_ret
    exact ⟨by unfold checkS badReg badField badMark badImm; rw [HK.out, e11d, e11s, HD.out, HD2.out, HV.out.1, HV.out.2.1, HV.out.2.2.1, HV.out.2.2.2.1, HV.out.2.2.2.2, hx]; simp [b0, b1], K.2⟩
  cases b2 : decide (0 < d)
  rotate_left
  · skip
    go_wp2_with (first | (go_at_call 40; refine (HA.out ▸ arith_any op _).mono ?_; rintro e w' ⟨rfl, rfl⟩) | (go_at_call 47; refine (code_any _ _).mono ?_; rintro e w' ⟨rfl, rfl⟩) | (go_at_call 46; refine (HR.out ▸ reg_any op _).mono ?_; rintro e w' ⟨rfl, rfl⟩) | (go_at_call 43; refine (HS.out ▸ special_any op _).mono ?_; rintro e w' ⟨rfl, rfl⟩) | (go_at_call 42; refine (HJ.out ▸ jump_any op _).mono ?_; rintro e w' ⟨rfl, rfl⟩) | (go_at_call 41; refine (HL.out ▸ load_any op _).mono ?_; rintro e w' ⟨rfl, rfl⟩) | (go_at_call 44; refine (HT.out ▸ store_any op _).mono ?_; rintro e w' ⟨rfl, rfl⟩) | (go_at_call 45; refine (HU.out ▸ storeR_any op _).mono ?_; rintro e w' ⟨rfl, rfl⟩))
    go_ret
    exact ⟨by unfold checkS badReg badField badMark badImm; rw [HK.out, e11d, e11s, HD.out, HD2.out, HV.out.1, HV.out.2.1, HV.out.2.2.1, HV.out.2.2.2.1, HV.out.2.2.2.2, hx]; simp [b0, b1, b2], K.2⟩
  cases b3 : decide (0 < s)
  rotate_left
  · skip
    go_wp2_with (first | (go_at_call 40; refine (HA.out ▸ arith_any op _).mono ?_; rintro e w' ⟨rfl, rfl⟩) | (go_at_call 47; refine (code_any _ _).mono ?_; rintro e w' ⟨rfl, rfl⟩) | (go_at_call 46; refine (HR.out ▸ reg_any op _).mono ?_; rintro e w' ⟨rfl, rfl⟩) | (go_at_call 43; refine (HS.out ▸ special_any op _).mono ?_; rintro e w' ⟨rfl, rfl⟩) | (go_at_call 42; refine (HJ.out ▸ jump_any op _).mono ?_; rintro e w' ⟨rfl, rfl⟩) | (go_at_call 41; refine (HL.out ▸ load_any op _).mono ?_; rintro e w' ⟨rfl, rfl⟩) | (go_at_call 44; refine (HT.out ▸ store_any op _).mono ?_; rintro e w' ⟨rfl, rfl⟩) | (go_at_call 45; refine (HU.out ▸ storeR_any op _).mono ?_; rintro e w' ⟨rfl, rfl⟩))
    go_ret
    exact ⟨by unfold checkS badReg badField badMark badImm; rw [HK.out, e11d, e11s, HD.out, HD2.out, HV.out.1, HV.out.2.1, HV.out.2.2.1, HV.out.2.2.2.1, HV.out.2.2.2.2, hx]; simp [b0, b1, b2, b3], K.2⟩
  cases b4 : (off != 0)
  rotate_left
  · skip
    go_wp2_with (first | (go_at_call 40; refine (HA.out ▸ arith_any op _).mono ?_; rintro e w' ⟨rfl, rfl⟩) | (go_at_call 47; refine (code_any _ _).mono ?_; rintro e w' ⟨rfl, rfl⟩) | (go_at_call 46; refine (HR.out ▸ reg_any op _).mono ?_; rintro e w' ⟨rfl, rfl⟩) | (go_at_call 43; refine (HS.out ▸ special_any op _).mono ?_; rintro e w' ⟨rfl, rfl⟩) | (go_at_call 42; refine (HJ.out ▸ jump_any op _).mono ?_; rintro e w' ⟨rfl, rfl⟩) | (go_at_call 41; refine (HL.out ▸ load_any op _).mono ?_; rintro e w' ⟨rfl, rfl⟩) | (go_at_call 44; refine (HT.out ▸ store_any op _).mono ?_; rintro e w' ⟨rfl, rfl⟩) | (go_at_call 45; refine (HU.out ▸ storeR_any op _).mono ?_; rintro e w' ⟨rfl, rfl⟩))
    go_ret
    exact ⟨by unfold checkS badReg badField badMark badImm; rw [HK.out, e11d, e11s, HD.out, HD2.out, HV.out.1, HV.out.2.1, HV.out.2.2.1, HV.out.2.2.2.1, HV.out.2.2.2.2, hx]; simp [b0, b1, b2, b3, b4], K.2⟩
  cases b5 : (imm != 0)
  rotate_left
  · skip
    go_wp2_with (first | (go_at_call 40; refine (HA.out ▸ arith_any op _).mono ?_; rintro e w' ⟨rfl, rfl⟩) | (go_at_call 47; refine (code_any _ _).mono ?_; rintro e w' ⟨rfl, rfl⟩) | (go_at_call 46; refine (HR.out ▸ reg_any op _).mono ?_; rintro e w' ⟨rfl, rfl⟩) | (go_at_call 43; refine (HS.out ▸ special_any op _).mono ?_; rintro e w' ⟨rfl, rfl⟩) | (go_at_call 42; refine (HJ.out ▸ jump_any op _).mono ?_; rintro e w' ⟨rfl, rfl⟩) | (go_at_call 41; refine (HL.out ▸ load_any op _).mono ?_; rintro e w' ⟨rfl, rfl⟩) | (go_at_call 44; refine (HT.out ▸ store_any op _).mono ?_; rintro e w' ⟨rfl, rfl⟩) | (go_at_call 45; refine (HU.out ▸ storeR_any op _).mono ?_; rintro e w' ⟨rfl, rfl⟩))
    go_ret
    exact ⟨by unfold checkS badReg badField badMark badImm; rw [HK.out, e11d, e11s, HD.out, HD2.out, HV.out.1, HV.out.2.1, HV.out.2.2.1, HV.out.2.2.2.1, HV.out.2.2.2.2, hx]; simp [b0, b1, b2, b3, b4, b5], K.2⟩
  · skip
    go_wp2_with (first | (go_at_call 40; refine (HA.out ▸ arith_any op _).mono ?_; rintro e w' ⟨rfl, rfl⟩) | (go_at_call 47; refine (code_any _ _).mono ?_; rintro e w' ⟨rfl, rfl⟩) | (go_at_call 46; refine (HR.out ▸ reg_any op _).mono ?_; rintro e w' ⟨rfl, rfl⟩) | (go_at_call 43; refine (HS.out ▸ special_any op _).mono ?_; rintro e w' ⟨rfl, rfl⟩) | (go_at_call 42; refine (HJ.out ▸ jump_any op _).mono ?_; rintro e w' ⟨rfl, rfl⟩) | (go_at_call 41; refine (HL.out ▸ load_any op _).mono ?_; rintro e w' ⟨rfl, rfl⟩) | (go_at_call 44; refine (HT.out ▸ store_any op _).mono ?_; rintro e w' ⟨rfl, rfl⟩) | (go_at_call 45; refine (HU.out ▸ storeR_any op _).mono ?_; rintro e w' ⟨rfl, rfl⟩))
    go_ret
    exact ⟨by unfold checkS badReg badField badMark badImm; rw [HK.out, e11d, e11s, HD.out, HD2.out, HV.out.1, HV.out.2.1, HV.out.2.2.1, HV.out.2.2.2.1, HV.out.2.2.2.2, hx]; simp [b0, b1, b2, b3, b4, b5], K.2⟩
end Go.Proofs.YthmebodklbhljaaDoor
