/-
  Contract of the document's answer for instructions: arithmetic by a number; the whole.
-/
import Derived.Test.YthmebodklbhljaaDoorRefChk2
namespace Go.Proofs.YthmebodklbhljaaDoor
open Go.RowKit
attribute [local go_sem] u8_wrap u8_and ofInt_N ofInt_Nw
theorem cls7_eq : ∀ op : B8, ((N op).tmod 8 == 7) = (cls op == 7) := by decide +kernel
theorem cls47 : ∀ op : B8, arithS op = true → (cls op = 4 ∨ cls op = 7) := by decide +kernel
theorem beq_of (x : Int) {a : Int} (h : x = a) : (x == a) = true := by rw [h]; simp
theorem immS_shift (op : B8) (imm : Int) (h : arithS op = true) (hw : (wh op == 96) = true ∨ (wh op == 112) = true ∨ (wh op == 192) = true) : immS op imm = (decide (0 ≤ imm) && (decide (imm ≤ 31) || (((N op).tmod 8 == 7) && decide (imm ≤ 63)))) := by
  unfold immS
  rw [if_neg (fun hh => hh (cls47 op h)), if_pos (by simpa using hw), cls7_eq]
theorem immS_div (op : B8) (imm : Int) (h : arithS op = true) (h1 : (wh op == 96) = false) (h2 : (wh op == 112) = false) (h3 : (wh op == 192) = false) (hw : (wh op == 48) = true ∨ (wh op == 144) = true) : immS op imm = !(imm == 0) := by
  unfold immS
  rw [if_neg (fun hh => hh (cls47 op h)), if_neg (by simp at h1 h2 h3; omega), if_pos (by simpa using hw)]
  rfl
theorem immS_none (op : B8) (imm : Int) (h : arithS op = true) (h1 : (wh op == 96) = false) (h2 : (wh op == 112) = false) (h3 : (wh op == 192) = false) (h4 : (wh op == 48) = false) (h5 : (wh op == 144) = false) : immS op imm = true := by
  unfold immS
  rw [if_neg (fun hh => hh (cls47 op h)), if_neg (by simp at h1 h2 h3; omega), if_neg (by simp at h4 h5; omega)]
theorem ud_an : ∀ (op : B8) (inner : Bool), knownS op inner = true → arithS op = true → loadS op = false → storeS op = false → storeRS op = false → jumpS op = false → specialS op = false → rg op = false → (N op == 24) = false → (wh op == 128) = false → (wh op != 128) = true → (usesS op).d = true ∧ (usesS op).s = false ∧ (usesS op).o = false ∧ (usesS op).i = true ∧ (usesS op).w = true := by decide +kernel
set_option maxRecDepth 8000 in
set_option maxHeartbeats 8000000 in
theorem rcheck_an (op : B8) (d s off imm : Int) (inner : Bool) (w : World) (hd : 0 ≤ d) (hs0 : 0 ≤ s) (hk : knownS op inner = true) (ha : arithS op = true) (hl : loadS op = false) (ht : storeS op = false) (hu : storeRS op = false) (hj : jumpS op = false) (hs : specialS op = false) (hr : rg op = false) (hx : (N op == 24) = false) (hy0 : (wh op == 128) = false) (hy1 : (wh op != 128) = true) :
    Calls Tryd.prog 17 #[.agg #[.int .u8 (N op), .int .u8 d, .int .u8 s, .int .i16 off, .int .i32 imm], .bool inner] w fun e w' => e = .returned (.int .i64 (checkS op d s off imm inner)) ∧ Grown w w' := by
  have HV := Lib.hid (ud_an op inner hk ha hl ht hu hj hs hr hx hy0 hy1)
  have HD : Hid ((d != 0) = decide (0 < d)) := Lib.hid (ne_pos hd)
  have HD2 : Hid ((s != 0) = decide (0 < s)) := Lib.hid (ne_pos hs0)
  clear hd hs0
  have HK := Lib.hid hk
  have HA := Lib.hid ha
  have HL := Lib.hid hl
  have HT := Lib.hid ht
  have HU := Lib.hid hu
  have HJ := Lib.hid hj
  have HS := Lib.hid hs
  have HR := Lib.hid hr
  clear hk ha hl ht hu hj hs hr
  go_enter Tryd.func17, Tryd.ntmps17
  go_upto_region 5 with (first | (go_at_call 39; refine (HK.out ▸ rknown_any op inner _).mono ?_; rintro e w' ⟨rfl, rfl⟩) | (go_at_call 40; refine (HA.out ▸ arith_any op _).mono ?_; rintro e w' ⟨rfl, rfl⟩) | (go_at_call 47; refine (code_any _ _).mono ?_; rintro e w' ⟨rfl, rfl⟩) | (go_at_call 46; refine (HR.out ▸ reg_any op _).mono ?_; rintro e w' ⟨rfl, rfl⟩) | (go_at_call 43; refine (HS.out ▸ special_any op _).mono ?_; rintro e w' ⟨rfl, rfl⟩) | (go_at_call 42; refine (HJ.out ▸ jump_any op _).mono ?_; rintro e w' ⟨rfl, rfl⟩) | (go_at_call 41; refine (HL.out ▸ load_any op _).mono ?_; rintro e w' ⟨rfl, rfl⟩) | (go_at_call 44; refine (HT.out ▸ store_any op _).mono ?_; rintro e w' ⟨rfl, rfl⟩) | (go_at_call 45; refine (HU.out ▸ storeR_any op _).mono ?_; rintro e w' ⟨rfl, rfl⟩))
  have K : Keeps w [(w.heap.size, 0, .int .u8 (N op)), (w.heap.size, 1, .int .u8 d), (w.heap.size, 2, .int .u8 s), (w.heap.size, 3, .int .i16 off), (w.heap.size, 4, .int .i32 imm)] (w.alloc (.cells #[.int .u8 (N op), .int .u8 d, .int .u8 s, .int .i16 off, .int .i32 imm] 24)) := ⟨⟨⟨by simp [go_sem], by simp⟩, ⟨by simp [go_sem], by simp⟩, ⟨by simp [go_sem], by simp⟩, ⟨by simp [go_sem], by simp⟩, ⟨by simp [go_sem], by simp⟩, trivial⟩, by go_grown⟩
  generalize (w.alloc (.cells #[.int .u8 (N op), .int .u8 d, .int .u8 s, .int .i16 off, .int .i32 imm] 24)) = W at *
  generalize w.heap.size = A at *
  have c0 : W.cell? ⟨A, 1, none⟩ = some _ := K.1.get 1 _ rfl
  have c1 : W.cell? ⟨A, 2, none⟩ = some _ := K.1.get 2 _ rfl
  have c2 : W.cell? ⟨A, 3, none⟩ = some _ := K.1.get 3 _ rfl
  have c3 : W.cell? ⟨A, 4, none⟩ = some _ := K.1.get 4 _ rfl
  have e11d : decide (11 ≤ d) = decide (10 < d) := rfl
  have e11s : decide (11 ≤ s) = decide (10 < s) := rfl
  cases b0 : decide (10 < d)
  rotate_left
  · skip
    go_wp2_with fail
    go_ret
    exact ⟨by unfold checkS badReg badField badMark badImm; rw [HK.out, e11d, e11s, HD.out, HD2.out, HV.out.1, HV.out.2.1, HV.out.2.2.1, HV.out.2.2.2.1, HV.out.2.2.2.2, hx]; simp [b0], K.2⟩
  cases b1 : decide (10 < s)
  rotate_left
  · skip
    go_wp2_with fail
    go_ret
    exact ⟨by unfold checkS badReg badField badMark badImm; rw [HK.out, e11d, e11s, HD.out, HD2.out, HV.out.1, HV.out.2.1, HV.out.2.2.1, HV.out.2.2.2.1, HV.out.2.2.2.2, hx]; simp [b0, b1], K.2⟩
  cases b2 : (d == 10)
  rotate_left
  · skip
    go_wp2_with fail
    go_ret
    exact ⟨by unfold checkS badReg badField badMark badImm; rw [HK.out, e11d, e11s, HD.out, HD2.out, HV.out.1, HV.out.2.1, HV.out.2.2.1, HV.out.2.2.2.1, HV.out.2.2.2.2, hx]; simp [b0, b1, b2], K.2⟩
  cases b3 : decide (0 < s)
  rotate_left
  · skip
    go_wp2_with (first | (go_at_call 40; refine (HA.out ▸ arith_any op _).mono ?_; rintro e w' ⟨rfl, rfl⟩) | (go_at_call 47; refine (code_any _ _).mono ?_; rintro e w' ⟨rfl, rfl⟩) | (go_at_call 46; refine (HR.out ▸ reg_any op _).mono ?_; rintro e w' ⟨rfl, rfl⟩) | (go_at_call 43; refine (HS.out ▸ special_any op _).mono ?_; rintro e w' ⟨rfl, rfl⟩) | (go_at_call 42; refine (HJ.out ▸ jump_any op _).mono ?_; rintro e w' ⟨rfl, rfl⟩) | (go_at_call 41; refine (HL.out ▸ load_any op _).mono ?_; rintro e w' ⟨rfl, rfl⟩) | (go_at_call 44; refine (HT.out ▸ store_any op _).mono ?_; rintro e w' ⟨rfl, rfl⟩) | (go_at_call 45; refine (HU.out ▸ storeR_any op _).mono ?_; rintro e w' ⟨rfl, rfl⟩))
    go_ret
    exact ⟨by unfold checkS badReg badField badMark badImm; rw [HK.out, e11d, e11s, HD.out, HD2.out, HV.out.1, HV.out.2.1, HV.out.2.2.1, HV.out.2.2.2.1, HV.out.2.2.2.2, hx]; simp [b0, b1, b2, b3], K.2⟩
  cases b4 : (off != 0)
  rotate_left
  · skip
    go_wp2_with (first | (go_at_call 40; refine (HA.out ▸ arith_any op _).mono ?_; rintro e w' ⟨rfl, rfl⟩) | (go_at_call 47; refine (code_any _ _).mono ?_; rintro e w' ⟨rfl, rfl⟩) | (go_at_call 46; refine (HR.out ▸ reg_any op _).mono ?_; rintro e w' ⟨rfl, rfl⟩) | (go_at_call 43; refine (HS.out ▸ special_any op _).mono ?_; rintro e w' ⟨rfl, rfl⟩) | (go_at_call 42; refine (HJ.out ▸ jump_any op _).mono ?_; rintro e w' ⟨rfl, rfl⟩) | (go_at_call 41; refine (HL.out ▸ load_any op _).mono ?_; rintro e w' ⟨rfl, rfl⟩) | (go_at_call 44; refine (HT.out ▸ store_any op _).mono ?_; rintro e w' ⟨rfl, rfl⟩) | (go_at_call 45; refine (HU.out ▸ storeR_any op _).mono ?_; rintro e w' ⟨rfl, rfl⟩))
    go_ret
    exact ⟨by unfold checkS badReg badField badMark badImm; rw [HK.out, e11d, e11s, HD.out, HD2.out, HV.out.1, HV.out.2.1, HV.out.2.2.1, HV.out.2.2.2.1, HV.out.2.2.2.2, hx]; simp [b0, b1, b2, b3, b4], K.2⟩
  have HIs := Lib.hid (immS_shift op imm HA.out)
  have HId := Lib.hid (immS_div op imm HA.out)
  have HIn := Lib.hid (immS_none op imm HA.out)
  cases m7 : ((N op).tmod 8 == 7)
  rotate_left
  · skip
    cases h96 : (wh op == 96)
    rotate_left
    · skip
      have h112 : (wh op == 112) = false := by rw [beq_iff_eq.1 h96]; rfl
      have h192 : (wh op == 192) = false := by rw [beq_iff_eq.1 h96]; rfl
      have h48 : (wh op == 48) = false := by rw [beq_iff_eq.1 h96]; rfl
      have h144 : (wh op == 144) = false := by rw [beq_iff_eq.1 h96]; rfl
      have HI := Lib.hid (HIs.out (.inl h96))
      cases q1 : decide (imm < 0)
      rotate_left
      · skip
        have HI2 : Hid (immS op imm = false) := by rw [show immS op imm = _ from HI.out]; have := of_decide_eq_true q1; exact Lib.hid (by simp; intro h; omega)
        go_wp2_with (first | (go_at_call 40; refine (HA.out ▸ arith_any op _).mono ?_; rintro e w' ⟨rfl, rfl⟩) | (go_at_call 47; refine (code_any _ _).mono ?_; rintro e w' ⟨rfl, rfl⟩) | (go_at_call 46; refine (HR.out ▸ reg_any op _).mono ?_; rintro e w' ⟨rfl, rfl⟩) | (go_at_call 43; refine (HS.out ▸ special_any op _).mono ?_; rintro e w' ⟨rfl, rfl⟩) | (go_at_call 42; refine (HJ.out ▸ jump_any op _).mono ?_; rintro e w' ⟨rfl, rfl⟩) | (go_at_call 41; refine (HL.out ▸ load_any op _).mono ?_; rintro e w' ⟨rfl, rfl⟩) | (go_at_call 44; refine (HT.out ▸ store_any op _).mono ?_; rintro e w' ⟨rfl, rfl⟩) | (go_at_call 45; refine (HU.out ▸ storeR_any op _).mono ?_; rintro e w' ⟨rfl, rfl⟩))
        go_ret
        exact ⟨by unfold checkS badReg badField badMark badImm; rw [HK.out, e11d, e11s, HD.out, HD2.out, HV.out.1, HV.out.2.1, HV.out.2.2.1, HV.out.2.2.2.1, HV.out.2.2.2.2, hx, HI2.out]; simp [b0, b1, b2, b3, b4], K.2⟩
      cases q2 : decide (63 < imm)
      rotate_left
      · skip
        have HI2 : Hid (immS op imm = false) := by rw [show immS op imm = _ from HI.out, m7]; have := of_decide_eq_true q2; exact Lib.hid (by simp; intro h; omega)
        go_wp2_with (first | (go_at_call 40; refine (HA.out ▸ arith_any op _).mono ?_; rintro e w' ⟨rfl, rfl⟩) | (go_at_call 47; refine (code_any _ _).mono ?_; rintro e w' ⟨rfl, rfl⟩) | (go_at_call 46; refine (HR.out ▸ reg_any op _).mono ?_; rintro e w' ⟨rfl, rfl⟩) | (go_at_call 43; refine (HS.out ▸ special_any op _).mono ?_; rintro e w' ⟨rfl, rfl⟩) | (go_at_call 42; refine (HJ.out ▸ jump_any op _).mono ?_; rintro e w' ⟨rfl, rfl⟩) | (go_at_call 41; refine (HL.out ▸ load_any op _).mono ?_; rintro e w' ⟨rfl, rfl⟩) | (go_at_call 44; refine (HT.out ▸ store_any op _).mono ?_; rintro e w' ⟨rfl, rfl⟩) | (go_at_call 45; refine (HU.out ▸ storeR_any op _).mono ?_; rintro e w' ⟨rfl, rfl⟩))
        go_ret
        exact ⟨by unfold checkS badReg badField badMark badImm; rw [HK.out, e11d, e11s, HD.out, HD2.out, HV.out.1, HV.out.2.1, HV.out.2.2.1, HV.out.2.2.2.1, HV.out.2.2.2.2, hx, HI2.out]; simp [b0, b1, b2, b3, b4], K.2⟩
      have HI2 : Hid (immS op imm = true) := by rw [show immS op imm = _ from HI.out, m7]; have h1 := of_decide_eq_false q1; have h2 := of_decide_eq_false q2; exact Lib.hid (by simp; omega)
      go_wp2_with (first | (go_at_call 40; refine (HA.out ▸ arith_any op _).mono ?_; rintro e w' ⟨rfl, rfl⟩) | (go_at_call 47; refine (code_any _ _).mono ?_; rintro e w' ⟨rfl, rfl⟩) | (go_at_call 46; refine (HR.out ▸ reg_any op _).mono ?_; rintro e w' ⟨rfl, rfl⟩) | (go_at_call 43; refine (HS.out ▸ special_any op _).mono ?_; rintro e w' ⟨rfl, rfl⟩) | (go_at_call 42; refine (HJ.out ▸ jump_any op _).mono ?_; rintro e w' ⟨rfl, rfl⟩) | (go_at_call 41; refine (HL.out ▸ load_any op _).mono ?_; rintro e w' ⟨rfl, rfl⟩) | (go_at_call 44; refine (HT.out ▸ store_any op _).mono ?_; rintro e w' ⟨rfl, rfl⟩) | (go_at_call 45; refine (HU.out ▸ storeR_any op _).mono ?_; rintro e w' ⟨rfl, rfl⟩))
      go_ret
      exact ⟨by unfold checkS badReg badField badMark badImm; rw [HK.out, e11d, e11s, HD.out, HD2.out, HV.out.1, HV.out.2.1, HV.out.2.2.1, HV.out.2.2.2.1, HV.out.2.2.2.2, hx, HI2.out]; simp [b0, b1, b2, b3, b4], K.2⟩
    cases h112 : (wh op == 112)
    rotate_left
    · skip
      have h192 : (wh op == 192) = false := by rw [beq_iff_eq.1 h112]; rfl
      have h48 : (wh op == 48) = false := by rw [beq_iff_eq.1 h112]; rfl
      have h144 : (wh op == 144) = false := by rw [beq_iff_eq.1 h112]; rfl
      have HI := Lib.hid (HIs.out (.inr (.inl h112)))
      cases q1 : decide (imm < 0)
      rotate_left
      · skip
        have HI2 : Hid (immS op imm = false) := by rw [show immS op imm = _ from HI.out]; have := of_decide_eq_true q1; exact Lib.hid (by simp; intro h; omega)
        go_wp2_with (first | (go_at_call 40; refine (HA.out ▸ arith_any op _).mono ?_; rintro e w' ⟨rfl, rfl⟩) | (go_at_call 47; refine (code_any _ _).mono ?_; rintro e w' ⟨rfl, rfl⟩) | (go_at_call 46; refine (HR.out ▸ reg_any op _).mono ?_; rintro e w' ⟨rfl, rfl⟩) | (go_at_call 43; refine (HS.out ▸ special_any op _).mono ?_; rintro e w' ⟨rfl, rfl⟩) | (go_at_call 42; refine (HJ.out ▸ jump_any op _).mono ?_; rintro e w' ⟨rfl, rfl⟩) | (go_at_call 41; refine (HL.out ▸ load_any op _).mono ?_; rintro e w' ⟨rfl, rfl⟩) | (go_at_call 44; refine (HT.out ▸ store_any op _).mono ?_; rintro e w' ⟨rfl, rfl⟩) | (go_at_call 45; refine (HU.out ▸ storeR_any op _).mono ?_; rintro e w' ⟨rfl, rfl⟩))
        go_ret
        exact ⟨by unfold checkS badReg badField badMark badImm; rw [HK.out, e11d, e11s, HD.out, HD2.out, HV.out.1, HV.out.2.1, HV.out.2.2.1, HV.out.2.2.2.1, HV.out.2.2.2.2, hx, HI2.out]; simp [b0, b1, b2, b3, b4], K.2⟩
      cases q2 : decide (63 < imm)
      rotate_left
      · skip
        have HI2 : Hid (immS op imm = false) := by rw [show immS op imm = _ from HI.out, m7]; have := of_decide_eq_true q2; exact Lib.hid (by simp; intro h; omega)
        go_wp2_with (first | (go_at_call 40; refine (HA.out ▸ arith_any op _).mono ?_; rintro e w' ⟨rfl, rfl⟩) | (go_at_call 47; refine (code_any _ _).mono ?_; rintro e w' ⟨rfl, rfl⟩) | (go_at_call 46; refine (HR.out ▸ reg_any op _).mono ?_; rintro e w' ⟨rfl, rfl⟩) | (go_at_call 43; refine (HS.out ▸ special_any op _).mono ?_; rintro e w' ⟨rfl, rfl⟩) | (go_at_call 42; refine (HJ.out ▸ jump_any op _).mono ?_; rintro e w' ⟨rfl, rfl⟩) | (go_at_call 41; refine (HL.out ▸ load_any op _).mono ?_; rintro e w' ⟨rfl, rfl⟩) | (go_at_call 44; refine (HT.out ▸ store_any op _).mono ?_; rintro e w' ⟨rfl, rfl⟩) | (go_at_call 45; refine (HU.out ▸ storeR_any op _).mono ?_; rintro e w' ⟨rfl, rfl⟩))
        go_ret
        exact ⟨by unfold checkS badReg badField badMark badImm; rw [HK.out, e11d, e11s, HD.out, HD2.out, HV.out.1, HV.out.2.1, HV.out.2.2.1, HV.out.2.2.2.1, HV.out.2.2.2.2, hx, HI2.out]; simp [b0, b1, b2, b3, b4], K.2⟩
      have HI2 : Hid (immS op imm = true) := by rw [show immS op imm = _ from HI.out, m7]; have h1 := of_decide_eq_false q1; have h2 := of_decide_eq_false q2; exact Lib.hid (by simp; omega)
      go_wp2_with (first | (go_at_call 40; refine (HA.out ▸ arith_any op _).mono ?_; rintro e w' ⟨rfl, rfl⟩) | (go_at_call 47; refine (code_any _ _).mono ?_; rintro e w' ⟨rfl, rfl⟩) | (go_at_call 46; refine (HR.out ▸ reg_any op _).mono ?_; rintro e w' ⟨rfl, rfl⟩) | (go_at_call 43; refine (HS.out ▸ special_any op _).mono ?_; rintro e w' ⟨rfl, rfl⟩) | (go_at_call 42; refine (HJ.out ▸ jump_any op _).mono ?_; rintro e w' ⟨rfl, rfl⟩) | (go_at_call 41; refine (HL.out ▸ load_any op _).mono ?_; rintro e w' ⟨rfl, rfl⟩) | (go_at_call 44; refine (HT.out ▸ store_any op _).mono ?_; rintro e w' ⟨rfl, rfl⟩) | (go_at_call 45; refine (HU.out ▸ storeR_any op _).mono ?_; rintro e w' ⟨rfl, rfl⟩))
      go_ret
      exact ⟨by unfold checkS badReg badField badMark badImm; rw [HK.out, e11d, e11s, HD.out, HD2.out, HV.out.1, HV.out.2.1, HV.out.2.2.1, HV.out.2.2.2.1, HV.out.2.2.2.2, hx, HI2.out]; simp [b0, b1, b2, b3, b4], K.2⟩
    cases h192 : (wh op == 192)
    rotate_left
    · skip
      have h48 : (wh op == 48) = false := by rw [beq_iff_eq.1 h192]; rfl
      have h144 : (wh op == 144) = false := by rw [beq_iff_eq.1 h192]; rfl
      have HI := Lib.hid (HIs.out (.inr (.inr h192)))
      cases q1 : decide (imm < 0)
      rotate_left
      · skip
        have HI2 : Hid (immS op imm = false) := by rw [show immS op imm = _ from HI.out]; have := of_decide_eq_true q1; exact Lib.hid (by simp; intro h; omega)
        go_wp2_with (first | (go_at_call 40; refine (HA.out ▸ arith_any op _).mono ?_; rintro e w' ⟨rfl, rfl⟩) | (go_at_call 47; refine (code_any _ _).mono ?_; rintro e w' ⟨rfl, rfl⟩) | (go_at_call 46; refine (HR.out ▸ reg_any op _).mono ?_; rintro e w' ⟨rfl, rfl⟩) | (go_at_call 43; refine (HS.out ▸ special_any op _).mono ?_; rintro e w' ⟨rfl, rfl⟩) | (go_at_call 42; refine (HJ.out ▸ jump_any op _).mono ?_; rintro e w' ⟨rfl, rfl⟩) | (go_at_call 41; refine (HL.out ▸ load_any op _).mono ?_; rintro e w' ⟨rfl, rfl⟩) | (go_at_call 44; refine (HT.out ▸ store_any op _).mono ?_; rintro e w' ⟨rfl, rfl⟩) | (go_at_call 45; refine (HU.out ▸ storeR_any op _).mono ?_; rintro e w' ⟨rfl, rfl⟩))
        go_ret
        exact ⟨by unfold checkS badReg badField badMark badImm; rw [HK.out, e11d, e11s, HD.out, HD2.out, HV.out.1, HV.out.2.1, HV.out.2.2.1, HV.out.2.2.2.1, HV.out.2.2.2.2, hx, HI2.out]; simp [b0, b1, b2, b3, b4], K.2⟩
      cases q2 : decide (63 < imm)
      rotate_left
      · skip
        have HI2 : Hid (immS op imm = false) := by rw [show immS op imm = _ from HI.out, m7]; have := of_decide_eq_true q2; exact Lib.hid (by simp; intro h; omega)
        go_wp2_with (first | (go_at_call 40; refine (HA.out ▸ arith_any op _).mono ?_; rintro e w' ⟨rfl, rfl⟩) | (go_at_call 47; refine (code_any _ _).mono ?_; rintro e w' ⟨rfl, rfl⟩) | (go_at_call 46; refine (HR.out ▸ reg_any op _).mono ?_; rintro e w' ⟨rfl, rfl⟩) | (go_at_call 43; refine (HS.out ▸ special_any op _).mono ?_; rintro e w' ⟨rfl, rfl⟩) | (go_at_call 42; refine (HJ.out ▸ jump_any op _).mono ?_; rintro e w' ⟨rfl, rfl⟩) | (go_at_call 41; refine (HL.out ▸ load_any op _).mono ?_; rintro e w' ⟨rfl, rfl⟩) | (go_at_call 44; refine (HT.out ▸ store_any op _).mono ?_; rintro e w' ⟨rfl, rfl⟩) | (go_at_call 45; refine (HU.out ▸ storeR_any op _).mono ?_; rintro e w' ⟨rfl, rfl⟩))
        go_ret
        exact ⟨by unfold checkS badReg badField badMark badImm; rw [HK.out, e11d, e11s, HD.out, HD2.out, HV.out.1, HV.out.2.1, HV.out.2.2.1, HV.out.2.2.2.1, HV.out.2.2.2.2, hx, HI2.out]; simp [b0, b1, b2, b3, b4], K.2⟩
      have HI2 : Hid (immS op imm = true) := by rw [show immS op imm = _ from HI.out, m7]; have h1 := of_decide_eq_false q1; have h2 := of_decide_eq_false q2; exact Lib.hid (by simp; omega)
      go_wp2_with (first | (go_at_call 40; refine (HA.out ▸ arith_any op _).mono ?_; rintro e w' ⟨rfl, rfl⟩) | (go_at_call 47; refine (code_any _ _).mono ?_; rintro e w' ⟨rfl, rfl⟩) | (go_at_call 46; refine (HR.out ▸ reg_any op _).mono ?_; rintro e w' ⟨rfl, rfl⟩) | (go_at_call 43; refine (HS.out ▸ special_any op _).mono ?_; rintro e w' ⟨rfl, rfl⟩) | (go_at_call 42; refine (HJ.out ▸ jump_any op _).mono ?_; rintro e w' ⟨rfl, rfl⟩) | (go_at_call 41; refine (HL.out ▸ load_any op _).mono ?_; rintro e w' ⟨rfl, rfl⟩) | (go_at_call 44; refine (HT.out ▸ store_any op _).mono ?_; rintro e w' ⟨rfl, rfl⟩) | (go_at_call 45; refine (HU.out ▸ storeR_any op _).mono ?_; rintro e w' ⟨rfl, rfl⟩))
      go_ret
      exact ⟨by unfold checkS badReg badField badMark badImm; rw [HK.out, e11d, e11s, HD.out, HD2.out, HV.out.1, HV.out.2.1, HV.out.2.2.1, HV.out.2.2.2.1, HV.out.2.2.2.2, hx, HI2.out]; simp [b0, b1, b2, b3, b4], K.2⟩
    cases h48 : (wh op == 48)
    rotate_left
    · skip
      have h144 : (wh op == 144) = false := by rw [beq_iff_eq.1 h48]; rfl
      have HI := Lib.hid (HId.out h96 h112 h192 (.inl h48))
      cases q1 : (imm == 0)
      · skip
        have HI2 : Hid (immS op imm = _) := Lib.hid (HI.out.trans (congrArg (! ·) q1))
        go_wp2_with (first | (go_at_call 40; refine (HA.out ▸ arith_any op _).mono ?_; rintro e w' ⟨rfl, rfl⟩) | (go_at_call 47; refine (code_any _ _).mono ?_; rintro e w' ⟨rfl, rfl⟩) | (go_at_call 46; refine (HR.out ▸ reg_any op _).mono ?_; rintro e w' ⟨rfl, rfl⟩) | (go_at_call 43; refine (HS.out ▸ special_any op _).mono ?_; rintro e w' ⟨rfl, rfl⟩) | (go_at_call 42; refine (HJ.out ▸ jump_any op _).mono ?_; rintro e w' ⟨rfl, rfl⟩) | (go_at_call 41; refine (HL.out ▸ load_any op _).mono ?_; rintro e w' ⟨rfl, rfl⟩) | (go_at_call 44; refine (HT.out ▸ store_any op _).mono ?_; rintro e w' ⟨rfl, rfl⟩) | (go_at_call 45; refine (HU.out ▸ storeR_any op _).mono ?_; rintro e w' ⟨rfl, rfl⟩))
        go_ret
        exact ⟨by unfold checkS badReg badField badMark badImm; rw [HK.out, e11d, e11s, HD.out, HD2.out, HV.out.1, HV.out.2.1, HV.out.2.2.1, HV.out.2.2.2.1, HV.out.2.2.2.2, hx, HI2.out]; simp [b0, b1, b2, b3, b4], K.2⟩
      · skip
        have HI2 : Hid (immS op imm = _) := Lib.hid (HI.out.trans (congrArg (! ·) q1))
        go_wp2_with (first | (go_at_call 40; refine (HA.out ▸ arith_any op _).mono ?_; rintro e w' ⟨rfl, rfl⟩) | (go_at_call 47; refine (code_any _ _).mono ?_; rintro e w' ⟨rfl, rfl⟩) | (go_at_call 46; refine (HR.out ▸ reg_any op _).mono ?_; rintro e w' ⟨rfl, rfl⟩) | (go_at_call 43; refine (HS.out ▸ special_any op _).mono ?_; rintro e w' ⟨rfl, rfl⟩) | (go_at_call 42; refine (HJ.out ▸ jump_any op _).mono ?_; rintro e w' ⟨rfl, rfl⟩) | (go_at_call 41; refine (HL.out ▸ load_any op _).mono ?_; rintro e w' ⟨rfl, rfl⟩) | (go_at_call 44; refine (HT.out ▸ store_any op _).mono ?_; rintro e w' ⟨rfl, rfl⟩) | (go_at_call 45; refine (HU.out ▸ storeR_any op _).mono ?_; rintro e w' ⟨rfl, rfl⟩))
        go_ret
        exact ⟨by unfold checkS badReg badField badMark badImm; rw [HK.out, e11d, e11s, HD.out, HD2.out, HV.out.1, HV.out.2.1, HV.out.2.2.1, HV.out.2.2.2.1, HV.out.2.2.2.2, hx, HI2.out]; simp [b0, b1, b2, b3, b4], K.2⟩
    cases h144 : (wh op == 144)
    rotate_left
    · skip
      have HI := Lib.hid (HId.out h96 h112 h192 (.inr h144))
      cases q1 : (imm == 0)
      · skip
        have HI2 : Hid (immS op imm = _) := Lib.hid (HI.out.trans (congrArg (! ·) q1))
        go_wp2_with (first | (go_at_call 40; refine (HA.out ▸ arith_any op _).mono ?_; rintro e w' ⟨rfl, rfl⟩) | (go_at_call 47; refine (code_any _ _).mono ?_; rintro e w' ⟨rfl, rfl⟩) | (go_at_call 46; refine (HR.out ▸ reg_any op _).mono ?_; rintro e w' ⟨rfl, rfl⟩) | (go_at_call 43; refine (HS.out ▸ special_any op _).mono ?_; rintro e w' ⟨rfl, rfl⟩) | (go_at_call 42; refine (HJ.out ▸ jump_any op _).mono ?_; rintro e w' ⟨rfl, rfl⟩) | (go_at_call 41; refine (HL.out ▸ load_any op _).mono ?_; rintro e w' ⟨rfl, rfl⟩) | (go_at_call 44; refine (HT.out ▸ store_any op _).mono ?_; rintro e w' ⟨rfl, rfl⟩) | (go_at_call 45; refine (HU.out ▸ storeR_any op _).mono ?_; rintro e w' ⟨rfl, rfl⟩))
        go_ret
        exact ⟨by unfold checkS badReg badField badMark badImm; rw [HK.out, e11d, e11s, HD.out, HD2.out, HV.out.1, HV.out.2.1, HV.out.2.2.1, HV.out.2.2.2.1, HV.out.2.2.2.2, hx, HI2.out]; simp [b0, b1, b2, b3, b4], K.2⟩
      · skip
        have HI2 : Hid (immS op imm = _) := Lib.hid (HI.out.trans (congrArg (! ·) q1))
        go_wp2_with (first | (go_at_call 40; refine (HA.out ▸ arith_any op _).mono ?_; rintro e w' ⟨rfl, rfl⟩) | (go_at_call 47; refine (code_any _ _).mono ?_; rintro e w' ⟨rfl, rfl⟩) | (go_at_call 46; refine (HR.out ▸ reg_any op _).mono ?_; rintro e w' ⟨rfl, rfl⟩) | (go_at_call 43; refine (HS.out ▸ special_any op _).mono ?_; rintro e w' ⟨rfl, rfl⟩) | (go_at_call 42; refine (HJ.out ▸ jump_any op _).mono ?_; rintro e w' ⟨rfl, rfl⟩) | (go_at_call 41; refine (HL.out ▸ load_any op _).mono ?_; rintro e w' ⟨rfl, rfl⟩) | (go_at_call 44; refine (HT.out ▸ store_any op _).mono ?_; rintro e w' ⟨rfl, rfl⟩) | (go_at_call 45; refine (HU.out ▸ storeR_any op _).mono ?_; rintro e w' ⟨rfl, rfl⟩))
        go_ret
        exact ⟨by unfold checkS badReg badField badMark badImm; rw [HK.out, e11d, e11s, HD.out, HD2.out, HV.out.1, HV.out.2.1, HV.out.2.2.1, HV.out.2.2.2.1, HV.out.2.2.2.2, hx, HI2.out]; simp [b0, b1, b2, b3, b4], K.2⟩
    have HI2 := Lib.hid (HIn.out h96 h112 h192 h48 h144)
    go_wp2_with (first | (go_at_call 40; refine (HA.out ▸ arith_any op _).mono ?_; rintro e w' ⟨rfl, rfl⟩) | (go_at_call 47; refine (code_any _ _).mono ?_; rintro e w' ⟨rfl, rfl⟩) | (go_at_call 46; refine (HR.out ▸ reg_any op _).mono ?_; rintro e w' ⟨rfl, rfl⟩) | (go_at_call 43; refine (HS.out ▸ special_any op _).mono ?_; rintro e w' ⟨rfl, rfl⟩) | (go_at_call 42; refine (HJ.out ▸ jump_any op _).mono ?_; rintro e w' ⟨rfl, rfl⟩) | (go_at_call 41; refine (HL.out ▸ load_any op _).mono ?_; rintro e w' ⟨rfl, rfl⟩) | (go_at_call 44; refine (HT.out ▸ store_any op _).mono ?_; rintro e w' ⟨rfl, rfl⟩) | (go_at_call 45; refine (HU.out ▸ storeR_any op _).mono ?_; rintro e w' ⟨rfl, rfl⟩))
    go_ret
    exact ⟨by unfold checkS badReg badField badMark badImm; rw [HK.out, e11d, e11s, HD.out, HD2.out, HV.out.1, HV.out.2.1, HV.out.2.2.1, HV.out.2.2.2.1, HV.out.2.2.2.2, hx, HI2.out]; simp [b0, b1, b2, b3, b4], K.2⟩
  · skip
    cases h96 : (wh op == 96)
    rotate_left
    · skip
      have h112 : (wh op == 112) = false := by rw [beq_iff_eq.1 h96]; rfl
      have h192 : (wh op == 192) = false := by rw [beq_iff_eq.1 h96]; rfl
      have h48 : (wh op == 48) = false := by rw [beq_iff_eq.1 h96]; rfl
      have h144 : (wh op == 144) = false := by rw [beq_iff_eq.1 h96]; rfl
      have HI := Lib.hid (HIs.out (.inl h96))
      cases q1 : decide (imm < 0)
      rotate_left
      · skip
        have HI2 : Hid (immS op imm = false) := by rw [show immS op imm = _ from HI.out]; have := of_decide_eq_true q1; exact Lib.hid (by simp; intro h; omega)
        go_wp2_with (first | (go_at_call 40; refine (HA.out ▸ arith_any op _).mono ?_; rintro e w' ⟨rfl, rfl⟩) | (go_at_call 47; refine (code_any _ _).mono ?_; rintro e w' ⟨rfl, rfl⟩) | (go_at_call 46; refine (HR.out ▸ reg_any op _).mono ?_; rintro e w' ⟨rfl, rfl⟩) | (go_at_call 43; refine (HS.out ▸ special_any op _).mono ?_; rintro e w' ⟨rfl, rfl⟩) | (go_at_call 42; refine (HJ.out ▸ jump_any op _).mono ?_; rintro e w' ⟨rfl, rfl⟩) | (go_at_call 41; refine (HL.out ▸ load_any op _).mono ?_; rintro e w' ⟨rfl, rfl⟩) | (go_at_call 44; refine (HT.out ▸ store_any op _).mono ?_; rintro e w' ⟨rfl, rfl⟩) | (go_at_call 45; refine (HU.out ▸ storeR_any op _).mono ?_; rintro e w' ⟨rfl, rfl⟩))
        go_ret
        exact ⟨by unfold checkS badReg badField badMark badImm; rw [HK.out, e11d, e11s, HD.out, HD2.out, HV.out.1, HV.out.2.1, HV.out.2.2.1, HV.out.2.2.2.1, HV.out.2.2.2.2, hx, HI2.out]; simp [b0, b1, b2, b3, b4], K.2⟩
      cases q2 : decide (31 < imm)
      rotate_left
      · skip
        have HI2 : Hid (immS op imm = false) := by rw [show immS op imm = _ from HI.out, m7]; have := of_decide_eq_true q2; exact Lib.hid (by simp; intro h; omega)
        go_wp2_with (first | (go_at_call 40; refine (HA.out ▸ arith_any op _).mono ?_; rintro e w' ⟨rfl, rfl⟩) | (go_at_call 47; refine (code_any _ _).mono ?_; rintro e w' ⟨rfl, rfl⟩) | (go_at_call 46; refine (HR.out ▸ reg_any op _).mono ?_; rintro e w' ⟨rfl, rfl⟩) | (go_at_call 43; refine (HS.out ▸ special_any op _).mono ?_; rintro e w' ⟨rfl, rfl⟩) | (go_at_call 42; refine (HJ.out ▸ jump_any op _).mono ?_; rintro e w' ⟨rfl, rfl⟩) | (go_at_call 41; refine (HL.out ▸ load_any op _).mono ?_; rintro e w' ⟨rfl, rfl⟩) | (go_at_call 44; refine (HT.out ▸ store_any op _).mono ?_; rintro e w' ⟨rfl, rfl⟩) | (go_at_call 45; refine (HU.out ▸ storeR_any op _).mono ?_; rintro e w' ⟨rfl, rfl⟩))
        go_ret
        exact ⟨by unfold checkS badReg badField badMark badImm; rw [HK.out, e11d, e11s, HD.out, HD2.out, HV.out.1, HV.out.2.1, HV.out.2.2.1, HV.out.2.2.2.1, HV.out.2.2.2.2, hx, HI2.out]; simp [b0, b1, b2, b3, b4], K.2⟩
      have HI2 : Hid (immS op imm = true) := by rw [show immS op imm = _ from HI.out, m7]; have h1 := of_decide_eq_false q1; have h2 := of_decide_eq_false q2; exact Lib.hid (by simp; omega)
      go_wp2_with (first | (go_at_call 40; refine (HA.out ▸ arith_any op _).mono ?_; rintro e w' ⟨rfl, rfl⟩) | (go_at_call 47; refine (code_any _ _).mono ?_; rintro e w' ⟨rfl, rfl⟩) | (go_at_call 46; refine (HR.out ▸ reg_any op _).mono ?_; rintro e w' ⟨rfl, rfl⟩) | (go_at_call 43; refine (HS.out ▸ special_any op _).mono ?_; rintro e w' ⟨rfl, rfl⟩) | (go_at_call 42; refine (HJ.out ▸ jump_any op _).mono ?_; rintro e w' ⟨rfl, rfl⟩) | (go_at_call 41; refine (HL.out ▸ load_any op _).mono ?_; rintro e w' ⟨rfl, rfl⟩) | (go_at_call 44; refine (HT.out ▸ store_any op _).mono ?_; rintro e w' ⟨rfl, rfl⟩) | (go_at_call 45; refine (HU.out ▸ storeR_any op _).mono ?_; rintro e w' ⟨rfl, rfl⟩))
      go_ret
      exact ⟨by unfold checkS badReg badField badMark badImm; rw [HK.out, e11d, e11s, HD.out, HD2.out, HV.out.1, HV.out.2.1, HV.out.2.2.1, HV.out.2.2.2.1, HV.out.2.2.2.2, hx, HI2.out]; simp [b0, b1, b2, b3, b4], K.2⟩
    cases h112 : (wh op == 112)
    rotate_left
    · skip
      have h192 : (wh op == 192) = false := by rw [beq_iff_eq.1 h112]; rfl
      have h48 : (wh op == 48) = false := by rw [beq_iff_eq.1 h112]; rfl
      have h144 : (wh op == 144) = false := by rw [beq_iff_eq.1 h112]; rfl
      have HI := Lib.hid (HIs.out (.inr (.inl h112)))
      cases q1 : decide (imm < 0)
      rotate_left
      · skip
        have HI2 : Hid (immS op imm = false) := by rw [show immS op imm = _ from HI.out]; have := of_decide_eq_true q1; exact Lib.hid (by simp; intro h; omega)
        go_wp2_with (first | (go_at_call 40; refine (HA.out ▸ arith_any op _).mono ?_; rintro e w' ⟨rfl, rfl⟩) | (go_at_call 47; refine (code_any _ _).mono ?_; rintro e w' ⟨rfl, rfl⟩) | (go_at_call 46; refine (HR.out ▸ reg_any op _).mono ?_; rintro e w' ⟨rfl, rfl⟩) | (go_at_call 43; refine (HS.out ▸ special_any op _).mono ?_; rintro e w' ⟨rfl, rfl⟩) | (go_at_call 42; refine (HJ.out ▸ jump_any op _).mono ?_; rintro e w' ⟨rfl, rfl⟩) | (go_at_call 41; refine (HL.out ▸ load_any op _).mono ?_; rintro e w' ⟨rfl, rfl⟩) | (go_at_call 44; refine (HT.out ▸ store_any op _).mono ?_; rintro e w' ⟨rfl, rfl⟩) | (go_at_call 45; refine (HU.out ▸ storeR_any op _).mono ?_; rintro e w' ⟨rfl, rfl⟩))
        go_ret
        exact ⟨by unfold checkS badReg badField badMark badImm; rw [HK.out, e11d, e11s, HD.out, HD2.out, HV.out.1, HV.out.2.1, HV.out.2.2.1, HV.out.2.2.2.1, HV.out.2.2.2.2, hx, HI2.out]; simp [b0, b1, b2, b3, b4], K.2⟩
      cases q2 : decide (31 < imm)
      rotate_left
      · skip
        have HI2 : Hid (immS op imm = false) := by rw [show immS op imm = _ from HI.out, m7]; have := of_decide_eq_true q2; exact Lib.hid (by simp; intro h; omega)
        go_wp2_with (first | (go_at_call 40; refine (HA.out ▸ arith_any op _).mono ?_; rintro e w' ⟨rfl, rfl⟩) | (go_at_call 47; refine (code_any _ _).mono ?_; rintro e w' ⟨rfl, rfl⟩) | (go_at_call 46; refine (HR.out ▸ reg_any op _).mono ?_; rintro e w' ⟨rfl, rfl⟩) | (go_at_call 43; refine (HS.out ▸ special_any op _).mono ?_; rintro e w' ⟨rfl, rfl⟩) | (go_at_call 42; refine (HJ.out ▸ jump_any op _).mono ?_; rintro e w' ⟨rfl, rfl⟩) | (go_at_call 41; refine (HL.out ▸ load_any op _).mono ?_; rintro e w' ⟨rfl, rfl⟩) | (go_at_call 44; refine (HT.out ▸ store_any op _).mono ?_; rintro e w' ⟨rfl, rfl⟩) | (go_at_call 45; refine (HU.out ▸ storeR_any op _).mono ?_; rintro e w' ⟨rfl, rfl⟩))
        go_ret
        exact ⟨by unfold checkS badReg badField badMark badImm; rw [HK.out, e11d, e11s, HD.out, HD2.out, HV.out.1, HV.out.2.1, HV.out.2.2.1, HV.out.2.2.2.1, HV.out.2.2.2.2, hx, HI2.out]; simp [b0, b1, b2, b3, b4], K.2⟩
      have HI2 : Hid (immS op imm = true) := by rw [show immS op imm = _ from HI.out, m7]; have h1 := of_decide_eq_false q1; have h2 := of_decide_eq_false q2; exact Lib.hid (by simp; omega)
      go_wp2_with (first | (go_at_call 40; refine (HA.out ▸ arith_any op _).mono ?_; rintro e w' ⟨rfl, rfl⟩) | (go_at_call 47; refine (code_any _ _).mono ?_; rintro e w' ⟨rfl, rfl⟩) | (go_at_call 46; refine (HR.out ▸ reg_any op _).mono ?_; rintro e w' ⟨rfl, rfl⟩) | (go_at_call 43; refine (HS.out ▸ special_any op _).mono ?_; rintro e w' ⟨rfl, rfl⟩) | (go_at_call 42; refine (HJ.out ▸ jump_any op _).mono ?_; rintro e w' ⟨rfl, rfl⟩) | (go_at_call 41; refine (HL.out ▸ load_any op _).mono ?_; rintro e w' ⟨rfl, rfl⟩) | (go_at_call 44; refine (HT.out ▸ store_any op _).mono ?_; rintro e w' ⟨rfl, rfl⟩) | (go_at_call 45; refine (HU.out ▸ storeR_any op _).mono ?_; rintro e w' ⟨rfl, rfl⟩))
      go_ret
      exact ⟨by unfold checkS badReg badField badMark badImm; rw [HK.out, e11d, e11s, HD.out, HD2.out, HV.out.1, HV.out.2.1, HV.out.2.2.1, HV.out.2.2.2.1, HV.out.2.2.2.2, hx, HI2.out]; simp [b0, b1, b2, b3, b4], K.2⟩
    cases h192 : (wh op == 192)
    rotate_left
    · skip
      have h48 : (wh op == 48) = false := by rw [beq_iff_eq.1 h192]; rfl
      have h144 : (wh op == 144) = false := by rw [beq_iff_eq.1 h192]; rfl
      have HI := Lib.hid (HIs.out (.inr (.inr h192)))
      cases q1 : decide (imm < 0)
      rotate_left
      · skip
        have HI2 : Hid (immS op imm = false) := by rw [show immS op imm = _ from HI.out]; have := of_decide_eq_true q1; exact Lib.hid (by simp; intro h; omega)
        go_wp2_with (first | (go_at_call 40; refine (HA.out ▸ arith_any op _).mono ?_; rintro e w' ⟨rfl, rfl⟩) | (go_at_call 47; refine (code_any _ _).mono ?_; rintro e w' ⟨rfl, rfl⟩) | (go_at_call 46; refine (HR.out ▸ reg_any op _).mono ?_; rintro e w' ⟨rfl, rfl⟩) | (go_at_call 43; refine (HS.out ▸ special_any op _).mono ?_; rintro e w' ⟨rfl, rfl⟩) | (go_at_call 42; refine (HJ.out ▸ jump_any op _).mono ?_; rintro e w' ⟨rfl, rfl⟩) | (go_at_call 41; refine (HL.out ▸ load_any op _).mono ?_; rintro e w' ⟨rfl, rfl⟩) | (go_at_call 44; refine (HT.out ▸ store_any op _).mono ?_; rintro e w' ⟨rfl, rfl⟩) | (go_at_call 45; refine (HU.out ▸ storeR_any op _).mono ?_; rintro e w' ⟨rfl, rfl⟩))
        go_ret
        exact ⟨by unfold checkS badReg badField badMark badImm; rw [HK.out, e11d, e11s, HD.out, HD2.out, HV.out.1, HV.out.2.1, HV.out.2.2.1, HV.out.2.2.2.1, HV.out.2.2.2.2, hx, HI2.out]; simp [b0, b1, b2, b3, b4], K.2⟩
      cases q2 : decide (31 < imm)
      rotate_left
      · skip
        have HI2 : Hid (immS op imm = false) := by rw [show immS op imm = _ from HI.out, m7]; have := of_decide_eq_true q2; exact Lib.hid (by simp; intro h; omega)
        go_wp2_with (first | (go_at_call 40; refine (HA.out ▸ arith_any op _).mono ?_; rintro e w' ⟨rfl, rfl⟩) | (go_at_call 47; refine (code_any _ _).mono ?_; rintro e w' ⟨rfl, rfl⟩) | (go_at_call 46; refine (HR.out ▸ reg_any op _).mono ?_; rintro e w' ⟨rfl, rfl⟩) | (go_at_call 43; refine (HS.out ▸ special_any op _).mono ?_; rintro e w' ⟨rfl, rfl⟩) | (go_at_call 42; refine (HJ.out ▸ jump_any op _).mono ?_; rintro e w' ⟨rfl, rfl⟩) | (go_at_call 41; refine (HL.out ▸ load_any op _).mono ?_; rintro e w' ⟨rfl, rfl⟩) | (go_at_call 44; refine (HT.out ▸ store_any op _).mono ?_; rintro e w' ⟨rfl, rfl⟩) | (go_at_call 45; refine (HU.out ▸ storeR_any op _).mono ?_; rintro e w' ⟨rfl, rfl⟩))
        go_ret
        exact ⟨by unfold checkS badReg badField badMark badImm; rw [HK.out, e11d, e11s, HD.out, HD2.out, HV.out.1, HV.out.2.1, HV.out.2.2.1, HV.out.2.2.2.1, HV.out.2.2.2.2, hx, HI2.out]; simp [b0, b1, b2, b3, b4], K.2⟩
      have HI2 : Hid (immS op imm = true) := by rw [show immS op imm = _ from HI.out, m7]; have h1 := of_decide_eq_false q1; have h2 := of_decide_eq_false q2; exact Lib.hid (by simp; omega)
      go_wp2_with (first | (go_at_call 40; refine (HA.out ▸ arith_any op _).mono ?_; rintro e w' ⟨rfl, rfl⟩) | (go_at_call 47; refine (code_any _ _).mono ?_; rintro e w' ⟨rfl, rfl⟩) | (go_at_call 46; refine (HR.out ▸ reg_any op _).mono ?_; rintro e w' ⟨rfl, rfl⟩) | (go_at_call 43; refine (HS.out ▸ special_any op _).mono ?_; rintro e w' ⟨rfl, rfl⟩) | (go_at_call 42; refine (HJ.out ▸ jump_any op _).mono ?_; rintro e w' ⟨rfl, rfl⟩) | (go_at_call 41; refine (HL.out ▸ load_any op _).mono ?_; rintro e w' ⟨rfl, rfl⟩) | (go_at_call 44; refine (HT.out ▸ store_any op _).mono ?_; rintro e w' ⟨rfl, rfl⟩) | (go_at_call 45; refine (HU.out ▸ storeR_any op _).mono ?_; rintro e w' ⟨rfl, rfl⟩))
      go_ret
      exact ⟨by unfold checkS badReg badField badMark badImm; rw [HK.out, e11d, e11s, HD.out, HD2.out, HV.out.1, HV.out.2.1, HV.out.2.2.1, HV.out.2.2.2.1, HV.out.2.2.2.2, hx, HI2.out]; simp [b0, b1, b2, b3, b4], K.2⟩
    cases h48 : (wh op == 48)
    rotate_left
    · skip
      have h144 : (wh op == 144) = false := by rw [beq_iff_eq.1 h48]; rfl
      have HI := Lib.hid (HId.out h96 h112 h192 (.inl h48))
      cases q1 : (imm == 0)
      · skip
        have HI2 : Hid (immS op imm = _) := Lib.hid (HI.out.trans (congrArg (! ·) q1))
        go_wp2_with (first | (go_at_call 40; refine (HA.out ▸ arith_any op _).mono ?_; rintro e w' ⟨rfl, rfl⟩) | (go_at_call 47; refine (code_any _ _).mono ?_; rintro e w' ⟨rfl, rfl⟩) | (go_at_call 46; refine (HR.out ▸ reg_any op _).mono ?_; rintro e w' ⟨rfl, rfl⟩) | (go_at_call 43; refine (HS.out ▸ special_any op _).mono ?_; rintro e w' ⟨rfl, rfl⟩) | (go_at_call 42; refine (HJ.out ▸ jump_any op _).mono ?_; rintro e w' ⟨rfl, rfl⟩) | (go_at_call 41; refine (HL.out ▸ load_any op _).mono ?_; rintro e w' ⟨rfl, rfl⟩) | (go_at_call 44; refine (HT.out ▸ store_any op _).mono ?_; rintro e w' ⟨rfl, rfl⟩) | (go_at_call 45; refine (HU.out ▸ storeR_any op _).mono ?_; rintro e w' ⟨rfl, rfl⟩))
        go_ret
        exact ⟨by unfold checkS badReg badField badMark badImm; rw [HK.out, e11d, e11s, HD.out, HD2.out, HV.out.1, HV.out.2.1, HV.out.2.2.1, HV.out.2.2.2.1, HV.out.2.2.2.2, hx, HI2.out]; simp [b0, b1, b2, b3, b4], K.2⟩
      · skip
        have HI2 : Hid (immS op imm = _) := Lib.hid (HI.out.trans (congrArg (! ·) q1))
        go_wp2_with (first | (go_at_call 40; refine (HA.out ▸ arith_any op _).mono ?_; rintro e w' ⟨rfl, rfl⟩) | (go_at_call 47; refine (code_any _ _).mono ?_; rintro e w' ⟨rfl, rfl⟩) | (go_at_call 46; refine (HR.out ▸ reg_any op _).mono ?_; rintro e w' ⟨rfl, rfl⟩) | (go_at_call 43; refine (HS.out ▸ special_any op _).mono ?_; rintro e w' ⟨rfl, rfl⟩) | (go_at_call 42; refine (HJ.out ▸ jump_any op _).mono ?_; rintro e w' ⟨rfl, rfl⟩) | (go_at_call 41; refine (HL.out ▸ load_any op _).mono ?_; rintro e w' ⟨rfl, rfl⟩) | (go_at_call 44; refine (HT.out ▸ store_any op _).mono ?_; rintro e w' ⟨rfl, rfl⟩) | (go_at_call 45; refine (HU.out ▸ storeR_any op _).mono ?_; rintro e w' ⟨rfl, rfl⟩))
        go_ret
        exact ⟨by unfold checkS badReg badField badMark badImm; rw [HK.out, e11d, e11s, HD.out, HD2.out, HV.out.1, HV.out.2.1, HV.out.2.2.1, HV.out.2.2.2.1, HV.out.2.2.2.2, hx, HI2.out]; simp [b0, b1, b2, b3, b4], K.2⟩
    cases h144 : (wh op == 144)
    rotate_left
    · skip
      have HI := Lib.hid (HId.out h96 h112 h192 (.inr h144))
      cases q1 : (imm == 0)
      · skip
        have HI2 : Hid (immS op imm = _) := Lib.hid (HI.out.trans (congrArg (! ·) q1))
        go_wp2_with (first | (go_at_call 40; refine (HA.out ▸ arith_any op _).mono ?_; rintro e w' ⟨rfl, rfl⟩) | (go_at_call 47; refine (code_any _ _).mono ?_; rintro e w' ⟨rfl, rfl⟩) | (go_at_call 46; refine (HR.out ▸ reg_any op _).mono ?_; rintro e w' ⟨rfl, rfl⟩) | (go_at_call 43; refine (HS.out ▸ special_any op _).mono ?_; rintro e w' ⟨rfl, rfl⟩) | (go_at_call 42; refine (HJ.out ▸ jump_any op _).mono ?_; rintro e w' ⟨rfl, rfl⟩) | (go_at_call 41; refine (HL.out ▸ load_any op _).mono ?_; rintro e w' ⟨rfl, rfl⟩) | (go_at_call 44; refine (HT.out ▸ store_any op _).mono ?_; rintro e w' ⟨rfl, rfl⟩) | (go_at_call 45; refine (HU.out ▸ storeR_any op _).mono ?_; rintro e w' ⟨rfl, rfl⟩))
        go_ret
        exact ⟨by unfold checkS badReg badField badMark badImm; rw [HK.out, e11d, e11s, HD.out, HD2.out, HV.out.1, HV.out.2.1, HV.out.2.2.1, HV.out.2.2.2.1, HV.out.2.2.2.2, hx, HI2.out]; simp [b0, b1, b2, b3, b4], K.2⟩
      · skip
        have HI2 : Hid (immS op imm = _) := Lib.hid (HI.out.trans (congrArg (! ·) q1))
        go_wp2_with (first | (go_at_call 40; refine (HA.out ▸ arith_any op _).mono ?_; rintro e w' ⟨rfl, rfl⟩) | (go_at_call 47; refine (code_any _ _).mono ?_; rintro e w' ⟨rfl, rfl⟩) | (go_at_call 46; refine (HR.out ▸ reg_any op _).mono ?_; rintro e w' ⟨rfl, rfl⟩) | (go_at_call 43; refine (HS.out ▸ special_any op _).mono ?_; rintro e w' ⟨rfl, rfl⟩) | (go_at_call 42; refine (HJ.out ▸ jump_any op _).mono ?_; rintro e w' ⟨rfl, rfl⟩) | (go_at_call 41; refine (HL.out ▸ load_any op _).mono ?_; rintro e w' ⟨rfl, rfl⟩) | (go_at_call 44; refine (HT.out ▸ store_any op _).mono ?_; rintro e w' ⟨rfl, rfl⟩) | (go_at_call 45; refine (HU.out ▸ storeR_any op _).mono ?_; rintro e w' ⟨rfl, rfl⟩))
        go_ret
        exact ⟨by unfold checkS badReg badField badMark badImm; rw [HK.out, e11d, e11s, HD.out, HD2.out, HV.out.1, HV.out.2.1, HV.out.2.2.1, HV.out.2.2.2.1, HV.out.2.2.2.2, hx, HI2.out]; simp [b0, b1, b2, b3, b4], K.2⟩
    have HI2 := Lib.hid (HIn.out h96 h112 h192 h48 h144)
    go_wp2_with (first | (go_at_call 40; refine (HA.out ▸ arith_any op _).mono ?_; rintro e w' ⟨rfl, rfl⟩) | (go_at_call 47; refine (code_any _ _).mono ?_; rintro e w' ⟨rfl, rfl⟩) | (go_at_call 46; refine (HR.out ▸ reg_any op _).mono ?_; rintro e w' ⟨rfl, rfl⟩) | (go_at_call 43; refine (HS.out ▸ special_any op _).mono ?_; rintro e w' ⟨rfl, rfl⟩) | (go_at_call 42; refine (HJ.out ▸ jump_any op _).mono ?_; rintro e w' ⟨rfl, rfl⟩) | (go_at_call 41; refine (HL.out ▸ load_any op _).mono ?_; rintro e w' ⟨rfl, rfl⟩) | (go_at_call 44; refine (HT.out ▸ store_any op _).mono ?_; rintro e w' ⟨rfl, rfl⟩) | (go_at_call 45; refine (HU.out ▸ storeR_any op _).mono ?_; rintro e w' ⟨rfl, rfl⟩))
    go_ret
    exact ⟨by unfold checkS badReg badField badMark badImm; rw [HK.out, e11d, e11s, HD.out, HD2.out, HV.out.1, HV.out.2.1, HV.out.2.2.1, HV.out.2.2.2.1, HV.out.2.2.2.2, hx, HI2.out]; simp [b0, b1, b2, b3, b4], K.2⟩
end Go.Proofs.YthmebodklbhljaaDoor
