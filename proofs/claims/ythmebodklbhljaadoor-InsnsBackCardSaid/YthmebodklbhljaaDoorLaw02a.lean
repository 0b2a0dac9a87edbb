/-
  The walk of the law InsnsInside.
-/
import Derived.Test.YthmebodklbhljaaDoorEnc
namespace Go.Proofs.YthmebodklbhljaaDoor
open Go.RowKit
attribute [local go_sem] u8_wrap u8_and ofInt_N ofInt_Nw

theorem held_callT {w0 : World} {l : List (Nat × Nat × Value)} {P : Program} {f : FuncId} {args : Array Value} {v : Value} {x : Held (Keeps w0 l)} (hT : TabAt w0)
    (h : ∀ z, TabAt z → Calls P f args z fun e w' => e = .returned v ∧ Grown z w') : Calls P f args x.w fun e w'' => e = .returned v ∧ ∃ y : Held (Keeps w0 l), w'' = y.w :=
  held_callK x (h x.w (hT.grown x.h.2))
theorem known_same (op : B8) (h : ¬ N op = 194) : knownS op false = knownS op true := by
  unfold knownS
  have k : (N op == 194) = false := by simpa using h
  rw [k]; rfl
theorem check_same (op : B8) (d s off imm : Int) (h : ¬ N op = 194) : checkS op d s off imm true = checkS op d s off imm false := by
  unfold checkS
  rw [known_same op h]
theorem fence_out (d s off imm : Int) : checkS 194#8 d s off imm false = 20 := by
  unfold checkS
  rw [if_pos (by decide)]
theorem fence_in (d s off imm : Int) : checkS 194#8 d s off imm true = if badReg 194#8 d s = true then 22 else if badField 194#8 d s off imm = true then 21 else 0 := by
  unfold checkS
  rw [if_neg (by decide)]
  have h1 : badMark 194#8 s = false := by unfold badMark; rw [show (N 194#8 == 24) = false by decide]; rfl
  have h2 : badImm 194#8 imm = false := by unfold badImm; rw [show (usesS 194#8).i = false by decide]; rfl
  rw [h1, h2]
  simp
theorem fence_in_bad (d s off imm : Int) (h : ¬ (d = 0 ∧ s = 0 ∧ off = 0 ∧ imm = 0)) : checkS 194#8 d s off imm true = 22 ∨ checkS 194#8 d s off imm true = 21 := by
  rw [fence_in]
  by_cases hr : badReg 194#8 d s = true
  · rw [if_pos hr]; exact .inl rfl
  · rw [if_neg hr]
    have hb : badField 194#8 d s off imm = true := by
      unfold badField
      rw [show (usesS 194#8).d = false by decide, show (usesS 194#8).s = false by decide, show (usesS 194#8).o = false by decide, show (usesS 194#8).i = false by decide]
      by_cases h0 : d = 0
      · by_cases h1 : s = 0
        · by_cases h2 : off = 0
          · by_cases h3 : imm = 0
            · exact absurd ⟨h0, h1, h2, h3⟩ h
            · simp [h3]
          · simp [h2]
        · simp [h1]
      · simp [h0]
    rw [if_pos hb]; exact .inr rfl

set_option maxRecDepth 100000 in
set_option maxHeartbeats 4000000 in
theorem inside_other (op : B8) (d s off imm : Int) (h : ¬ N op = 194) (w : World) (hT : TabAt w) :
    Calls Tryd.prog 6 #[.agg #[.int .u8 (N op), .int .u8 d, .int .u8 s, .int .i16 off, .int .i32 imm]] w fun e w' => e = .returned (.bool true) ∧ Grown w w' := by
  have HT := Lib.hid hT
  clear hT
  have e1 := check_same op d s off imm h
  have k1 : (N op != 194) = true := by simpa using h
  clear h
  cases b1 : (checkS op d s off imm false != 0)
  all_goals
    go_enter Tryd.func6, Tryd.ntmps6
    go_wp2_with fail
    have K : Keeps w [(w.heap.size, 0, .int .u8 (N op)), (w.heap.size, 1, .int .u8 d), (w.heap.size, 2, .int .u8 s), (w.heap.size, 3, .int .i16 off), (w.heap.size, 4, .int .i32 imm)] (w.alloc (.cells #[.int .u8 (N op), .int .u8 d, .int .u8 s, .int .i16 off, .int .i32 imm] 24)) := ⟨⟨⟨by simp [go_sem], by simp⟩, ⟨by simp [go_sem], by simp⟩, ⟨by simp [go_sem], by simp⟩, ⟨by simp [go_sem], by simp⟩, ⟨by simp [go_sem], by simp⟩, trivial⟩, by go_grown⟩
    generalize w.alloc (.cells #[.int .u8 (N op), .int .u8 d, .int .u8 s, .int .i16 off, .int .i32 imm] 24) = W1 at *
    generalize w.heap.size = A at *
    have q0 : ∀ z : Held (Keeps w [(A, 0, .int .u8 (N op)), (A, 1, .int .u8 d), (A, 2, .int .u8 s), (A, 3, .int .i16 off), (A, 4, .int .i32 imm)]), z.w.cell? ⟨A, 0, none⟩ = some _ := fun z => z.h.1.get 0 _ rfl
    have q1 : ∀ z : Held (Keeps w [(A, 0, .int .u8 (N op)), (A, 1, .int .u8 d), (A, 2, .int .u8 s), (A, 3, .int .i16 off), (A, 4, .int .i32 imm)]), z.w.cell? ⟨A, 1, none⟩ = some _ := fun z => z.h.1.get 1 _ rfl
    have q2 : ∀ z : Held (Keeps w [(A, 0, .int .u8 (N op)), (A, 1, .int .u8 d), (A, 2, .int .u8 s), (A, 3, .int .i16 off), (A, 4, .int .i32 imm)]), z.w.cell? ⟨A, 2, none⟩ = some _ := fun z => z.h.1.get 2 _ rfl
    have q3 : ∀ z : Held (Keeps w [(A, 0, .int .u8 (N op)), (A, 1, .int .u8 d), (A, 2, .int .u8 s), (A, 3, .int .i16 off), (A, 4, .int .i32 imm)]), z.w.cell? ⟨A, 3, none⟩ = some _ := fun z => z.h.1.get 3 _ rfl
    have q4 : ∀ z : Held (Keeps w [(A, 0, .int .u8 (N op)), (A, 1, .int .u8 d), (A, 2, .int .u8 s), (A, 3, .int .i16 off), (A, 4, .int .i32 imm)]), z.w.cell? ⟨A, 4, none⟩ = some _ := fun z => z.h.1.get 4 _ rfl
    refine wp_region_lex (Keeps w [(A, 0, .int .u8 (N op)), (A, 1, .int .u8 d), (A, 2, .int .u8 s), (A, 3, .int .i16 off), (A, 4, .int .i32 imm)]) (by kernel_rfl) (by kernel_rfl) K.drew (fun hNon => ?_)
    repeat (go_big_quiet_step ((go_at_call 16; exact held_callT HT.out (fun z hz => check_any _ _ _ _ _ _ z hz))))
    refine wpQuiet_nil ?_
    intro w5 K5
    clear hNon q0 q1 q2 q3 q4 K
    have c0 : w5.cell? ⟨A, 0, none⟩ = some _ := K5.1.get 0 _ rfl
    have c1 : w5.cell? ⟨A, 1, none⟩ = some _ := K5.1.get 1 _ rfl
    have c2 : w5.cell? ⟨A, 2, none⟩ = some _ := K5.1.get 2 _ rfl
    have c3 : w5.cell? ⟨A, 3, none⟩ = some _ := K5.1.get 3 _ rfl
    have c4 : w5.cell? ⟨A, 4, none⟩ = some _ := K5.1.get 4 _ rfl
    have HT5 := Lib.hid (HT.out.grown K5.2)
    go_wp2_with (go_at_call 20; refine (checks_any _ HT5.out).mono ?_; rintro e w6 ⟨rfl, hg⟩)
    go_ret
    exact ⟨rfl, Grown.trans' K5.2 hg⟩

set_option maxRecDepth 100000 in
set_option maxHeartbeats 4000000 in
theorem inside_bad (d s off imm : Int) (h : ¬ (d = 0 ∧ s = 0 ∧ off = 0 ∧ imm = 0)) (w : World) (hT : TabAt w) :
    Calls Tryd.prog 6 #[.agg #[.int .u8 194, .int .u8 d, .int .u8 s, .int .i16 off, .int .i32 imm]] w fun e w' => e = .returned (.bool true) ∧ Grown w w' := by
  have HT := Lib.hid hT
  clear hT
  have a0 := fence_out d s off imm
  have hb := fence_in_bad d s off imm h
  rcases hb with a1 | a1
  all_goals
    by_cases h0 : d = 0
    by_cases h1 : s = 0
    by_cases h2 : off = 0
    have h3 : ¬ imm = 0 := fun h3 => h ⟨h0, h1, h2, h3⟩
    have k : (imm == 0) = false := by simpa using h3
    rotate_left
    have k : (off == 0) = false := by simpa using h2
    rotate_left
    have k : (s == 0) = false := by simpa using h1
    rotate_left
    have k : (d == 0) = false := by simpa using h0
    rotate_left
  all_goals
    have H := Lib.hid h
    clear h
    try clear h0
    try clear h1
    try clear h2
    try clear h3
    go_enter Tryd.func6, Tryd.ntmps6
    go_wp2_with fail
    have K : Keeps w [(w.heap.size, 0, .int .u8 194), (w.heap.size, 1, .int .u8 d), (w.heap.size, 2, .int .u8 s), (w.heap.size, 3, .int .i16 off), (w.heap.size, 4, .int .i32 imm)] (w.alloc (.cells #[.int .u8 194, .int .u8 d, .int .u8 s, .int .i16 off, .int .i32 imm] 24)) := ⟨⟨⟨by simp [go_sem], by simp⟩, ⟨by simp [go_sem], by simp⟩, ⟨by simp [go_sem], by simp⟩, ⟨by simp [go_sem], by simp⟩, ⟨by simp [go_sem], by simp⟩, trivial⟩, by go_grown⟩
    generalize w.alloc (.cells #[.int .u8 194, .int .u8 d, .int .u8 s, .int .i16 off, .int .i32 imm] 24) = W1 at *
    generalize w.heap.size = A at *
    have q0 : ∀ z : Held (Keeps w [(A, 0, .int .u8 194), (A, 1, .int .u8 d), (A, 2, .int .u8 s), (A, 3, .int .i16 off), (A, 4, .int .i32 imm)]), z.w.cell? ⟨A, 0, none⟩ = some _ := fun z => z.h.1.get 0 _ rfl
    have q1 : ∀ z : Held (Keeps w [(A, 0, .int .u8 194), (A, 1, .int .u8 d), (A, 2, .int .u8 s), (A, 3, .int .i16 off), (A, 4, .int .i32 imm)]), z.w.cell? ⟨A, 1, none⟩ = some _ := fun z => z.h.1.get 1 _ rfl
    have q2 : ∀ z : Held (Keeps w [(A, 0, .int .u8 194), (A, 1, .int .u8 d), (A, 2, .int .u8 s), (A, 3, .int .i16 off), (A, 4, .int .i32 imm)]), z.w.cell? ⟨A, 2, none⟩ = some _ := fun z => z.h.1.get 2 _ rfl
    have q3 : ∀ z : Held (Keeps w [(A, 0, .int .u8 194), (A, 1, .int .u8 d), (A, 2, .int .u8 s), (A, 3, .int .i16 off), (A, 4, .int .i32 imm)]), z.w.cell? ⟨A, 3, none⟩ = some _ := fun z => z.h.1.get 3 _ rfl
    have q4 : ∀ z : Held (Keeps w [(A, 0, .int .u8 194), (A, 1, .int .u8 d), (A, 2, .int .u8 s), (A, 3, .int .i16 off), (A, 4, .int .i32 imm)]), z.w.cell? ⟨A, 4, none⟩ = some _ := fun z => z.h.1.get 4 _ rfl
    refine wp_region_lex (Keeps w [(A, 0, .int .u8 194), (A, 1, .int .u8 d), (A, 2, .int .u8 s), (A, 3, .int .i16 off), (A, 4, .int .i32 imm)]) (by kernel_rfl) (by kernel_rfl) K.drew (fun hNon => ?_)
    repeat (go_big_quiet_step ((go_at_call 16; exact held_callT HT.out (fun z hz => check_I _ _ _ _ _ _ z hz (by decide) (by decide)))))
    refine wpQuiet_nil ?_
    intro w5 K5
    clear hNon q0 q1 q2 q3 q4 K
    have c0 : w5.cell? ⟨A, 0, none⟩ = some _ := K5.1.get 0 _ rfl
    have c1 : w5.cell? ⟨A, 1, none⟩ = some _ := K5.1.get 1 _ rfl
    have c2 : w5.cell? ⟨A, 2, none⟩ = some _ := K5.1.get 2 _ rfl
    have c3 : w5.cell? ⟨A, 3, none⟩ = some _ := K5.1.get 3 _ rfl
    have c4 : w5.cell? ⟨A, 4, none⟩ = some _ := K5.1.get 4 _ rfl
    have HT5 := Lib.hid (HT.out.grown K5.2)
    go_wp2_with (go_at_call 20; refine (checks_any _ HT5.out).mono ?_; rintro e w6 ⟨rfl, hg⟩)
    go_ret
    exact ⟨rfl, Grown.trans' K5.2 hg⟩

set_option maxRecDepth 100000 in
set_option maxHeartbeats 4000000 in
theorem inside_zero (w : World) (hT : TabAt w) :
    Calls Tryd.prog 6 #[.agg #[.int .u8 194, .int .u8 0, .int .u8 0, .int .i16 0, .int .i32 0]] w fun e w' => e = .returned (.bool true) ∧ Grown w w' := by
  have HT := Lib.hid hT
  clear hT
  have a0 := fence_out 0 0 0 0
  have a1 : checkS 194#8 0 0 0 0 true = 0 := by decide
  go_enter Tryd.func6, Tryd.ntmps6
  go_wp2_with fail
  have K : Keeps w [(w.heap.size, 0, .int .u8 194), (w.heap.size, 1, .int .u8 0), (w.heap.size, 2, .int .u8 0), (w.heap.size, 3, .int .i16 0), (w.heap.size, 4, .int .i32 0)] (w.alloc (.cells #[.int .u8 194, .int .u8 0, .int .u8 0, .int .i16 0, .int .i32 0] 24)) := ⟨⟨⟨by simp [go_sem], by simp⟩, ⟨by simp [go_sem], by simp⟩, ⟨by simp [go_sem], by simp⟩, ⟨by simp [go_sem], by simp⟩, ⟨by simp [go_sem], by simp⟩, trivial⟩, by go_grown⟩
  generalize w.alloc (.cells #[.int .u8 194, .int .u8 0, .int .u8 0, .int .i16 0, .int .i32 0] 24) = W1 at *
  generalize w.heap.size = A at *
  have q0 : ∀ z : Held (Keeps w [(A, 0, .int .u8 194), (A, 1, .int .u8 0), (A, 2, .int .u8 0), (A, 3, .int .i16 0), (A, 4, .int .i32 0)]), z.w.cell? ⟨A, 0, none⟩ = some _ := fun z => z.h.1.get 0 _ rfl
  have q1 : ∀ z : Held (Keeps w [(A, 0, .int .u8 194), (A, 1, .int .u8 0), (A, 2, .int .u8 0), (A, 3, .int .i16 0), (A, 4, .int .i32 0)]), z.w.cell? ⟨A, 1, none⟩ = some _ := fun z => z.h.1.get 1 _ rfl
  have q2 : ∀ z : Held (Keeps w [(A, 0, .int .u8 194), (A, 1, .int .u8 0), (A, 2, .int .u8 0), (A, 3, .int .i16 0), (A, 4, .int .i32 0)]), z.w.cell? ⟨A, 2, none⟩ = some _ := fun z => z.h.1.get 2 _ rfl
  have q3 : ∀ z : Held (Keeps w [(A, 0, .int .u8 194), (A, 1, .int .u8 0), (A, 2, .int .u8 0), (A, 3, .int .i16 0), (A, 4, .int .i32 0)]), z.w.cell? ⟨A, 3, none⟩ = some _ := fun z => z.h.1.get 3 _ rfl
  have q4 : ∀ z : Held (Keeps w [(A, 0, .int .u8 194), (A, 1, .int .u8 0), (A, 2, .int .u8 0), (A, 3, .int .i16 0), (A, 4, .int .i32 0)]), z.w.cell? ⟨A, 4, none⟩ = some _ := fun z => z.h.1.get 4 _ rfl
  refine wp_region_lex (Keeps w [(A, 0, .int .u8 194), (A, 1, .int .u8 0), (A, 2, .int .u8 0), (A, 3, .int .i16 0), (A, 4, .int .i32 0)]) (by kernel_rfl) (by kernel_rfl) K.drew (fun hNon => ?_)
  repeat (go_big_quiet_step ((go_at_call 16; exact held_callT HT.out (fun z hz => check_I _ _ _ _ _ _ z hz (by decide) (by decide)))))
  refine wpQuiet_nil ?_
  intro w5 K5
  clear hNon q0 q1 q2 q3 q4 K
  have c0 : w5.cell? ⟨A, 0, none⟩ = some _ := K5.1.get 0 _ rfl
  have c1 : w5.cell? ⟨A, 1, none⟩ = some _ := K5.1.get 1 _ rfl
  have c2 : w5.cell? ⟨A, 2, none⟩ = some _ := K5.1.get 2 _ rfl
  have c3 : w5.cell? ⟨A, 3, none⟩ = some _ := K5.1.get 3 _ rfl
  have c4 : w5.cell? ⟨A, 4, none⟩ = some _ := K5.1.get 4 _ rfl
  have HT5 := Lib.hid (HT.out.grown K5.2)
  go_wp2_with (go_at_call 20; refine (checks_any _ HT5.out).mono ?_; rintro e w6 ⟨rfl, hg⟩)
  go_ret
  exact ⟨rfl, Grown.trans' K5.2 hg⟩

theorem insnsInside_walk (op : B8) (d s off imm : Int) (w : World) (hT : TabAt w) :
    Calls Tryd.prog 6 #[.agg #[.int .u8 (N op), .int .u8 d, .int .u8 s, .int .i16 off, .int .i32 imm]] w fun e w' => e = .returned (.bool true) ∧ Grown w w' := by
  by_cases h : N op = 194
  · rw [h]
    by_cases hz : d = 0 ∧ s = 0 ∧ off = 0 ∧ imm = 0
    · obtain ⟨rfl, rfl, rfl, rfl⟩ := hz
      exact inside_zero w hT
    · exact inside_bad d s off imm hz w hT
  · exact inside_other op d s off imm h w hT
end Go.Proofs.YthmebodklbhljaaDoor
