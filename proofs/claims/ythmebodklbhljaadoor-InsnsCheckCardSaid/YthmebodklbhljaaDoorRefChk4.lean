/-
  Contract of the document's answer for instructions: the whole; how many bytes.
-/
import Derived.Test.YthmebodklbhljaaDoorRefChk3
namespace Go.Proofs.YthmebodklbhljaaDoor
open Go.RowKit
attribute [local go_sem] u8_wrap u8_and ofInt_N ofInt_Nw
def pat_ar (op : B8) : Prop := arithS op = true ∧ rg op = true ∧ (N op == 24) = false ∧ loadS op = false ∧ jumpS op = false ∧ specialS op = false ∧ storeS op = false ∧ storeRS op = false
instance (op : B8) : Decidable (pat_ar op) := by unfold pat_ar; infer_instance
def pat_an (op : B8) : Prop := arithS op = true ∧ loadS op = false ∧ storeS op = false ∧ storeRS op = false ∧ jumpS op = false ∧ specialS op = false ∧ rg op = false ∧ (N op == 24) = false ∧ (wh op == 128) = false ∧ (wh op != 128) = true
instance (op : B8) : Decidable (pat_an op) := by unfold pat_an; infer_instance
def pat_neg (op : B8) : Prop := arithS op = true ∧ loadS op = false ∧ storeS op = false ∧ storeRS op = false ∧ jumpS op = false ∧ specialS op = false ∧ rg op = false ∧ (N op == 24) = false ∧ (wh op == 128) = true ∧ (wh op != 128) = false
instance (op : B8) : Decidable (pat_neg op) := by unfold pat_neg; infer_instance
def pat_ldi (op : B8) : Prop := arithS op = false ∧ loadS op = false ∧ storeS op = false ∧ storeRS op = false ∧ jumpS op = false ∧ specialS op = false ∧ (N op == 24) = true
instance (op : B8) : Decidable (pat_ldi op) := by unfold pat_ldi; infer_instance
def pat_load (op : B8) : Prop := arithS op = false ∧ loadS op = true ∧ storeS op = false ∧ storeRS op = false ∧ jumpS op = false ∧ specialS op = false ∧ (N op == 24) = false
instance (op : B8) : Decidable (pat_load op) := by unfold pat_load; infer_instance
def pat_sto (op : B8) : Prop := arithS op = false ∧ loadS op = false ∧ storeS op = true ∧ storeRS op = false ∧ jumpS op = false ∧ specialS op = false ∧ (N op == 24) = false
instance (op : B8) : Decidable (pat_sto op) := by unfold pat_sto; infer_instance
def pat_str (op : B8) : Prop := arithS op = false ∧ loadS op = false ∧ storeS op = false ∧ storeRS op = true ∧ jumpS op = false ∧ specialS op = false ∧ (N op == 24) = false
instance (op : B8) : Decidable (pat_str op) := by unfold pat_str; infer_instance
def pat_ja (op : B8) : Prop := arithS op = false ∧ loadS op = false ∧ storeS op = false ∧ storeRS op = false ∧ jumpS op = true ∧ specialS op = true ∧ (N op == 24) = false ∧ (wh op == 0) = true ∧ (wh op == 128) = false
instance (op : B8) : Decidable (pat_ja op) := by unfold pat_ja; infer_instance
def pat_call (op : B8) : Prop := arithS op = false ∧ loadS op = false ∧ storeS op = false ∧ storeRS op = false ∧ jumpS op = true ∧ specialS op = true ∧ (N op == 24) = false ∧ (wh op == 0) = false ∧ (wh op == 128) = true
instance (op : B8) : Decidable (pat_call op) := by unfold pat_call; infer_instance
def pat_exit (op : B8) : Prop := arithS op = false ∧ loadS op = false ∧ storeS op = false ∧ storeRS op = false ∧ jumpS op = true ∧ specialS op = true ∧ (N op == 24) = false ∧ (wh op == 0) = false ∧ (wh op == 128) = false
instance (op : B8) : Decidable (pat_exit op) := by unfold pat_exit; infer_instance
def pat_cr (op : B8) : Prop := arithS op = false ∧ loadS op = false ∧ storeS op = false ∧ storeRS op = false ∧ jumpS op = true ∧ specialS op = false ∧ rg op = true ∧ (N op == 24) = false
instance (op : B8) : Decidable (pat_cr op) := by unfold pat_cr; infer_instance
def pat_cn (op : B8) : Prop := arithS op = false ∧ loadS op = false ∧ storeS op = false ∧ storeRS op = false ∧ jumpS op = true ∧ specialS op = false ∧ rg op = false ∧ (N op == 24) = false
instance (op : B8) : Decidable (pat_cn op) := by unfold pat_cn; infer_instance
def pat_nos (op : B8) : Prop := arithS op = false ∧ loadS op = false ∧ storeS op = false ∧ storeRS op = false ∧ jumpS op = false ∧ specialS op = false ∧ (N op == 24) = false
instance (op : B8) : Decidable (pat_nos op) := by unfold pat_nos; infer_instance
theorem pats : ∀ (op : B8) (inner : Bool), knownS op inner = true → pat_ar op ∨ pat_an op ∨ pat_neg op ∨ pat_ldi op ∨ pat_load op ∨ pat_sto op ∨ pat_str op ∨ pat_ja op ∨ pat_call op ∨ pat_exit op ∨ pat_cr op ∨ pat_cn op ∨ pat_nos op := by decide +kernel
theorem rcheck_any (op : B8) (d s off imm : Int) (inner : Bool) (w : World) (hd : 0 ≤ d) (hs0 : 0 ≤ s) :
    Calls Tryd.prog 17 #[.agg #[.int .u8 (N op), .int .u8 d, .int .u8 s, .int .i16 off, .int .i32 imm], .bool inner] w fun e w' => e = .returned (.int .i64 (checkS op d s off imm inner)) ∧ Grown w w' := by
  cases hk : knownS op inner
  · exact rcheck_no op d s off imm inner w hk
  rcases pats op inner hk with h | h | h | h | h | h | h | h | h | h | h | h | h
  · obtain ⟨ha, hr, hx, hl, hj, hs, ht, hu⟩ := h
    exact rcheck_ar op d s off imm inner w hk ha hr hx hl hj hs ht hu
  · obtain ⟨ha, hl, ht, hu, hj, hs, hr, hx, hy0, hy1⟩ := h
    exact rcheck_an op d s off imm inner w hd hs0 hk ha hl ht hu hj hs hr hx hy0 hy1
  · obtain ⟨ha, hl, ht, hu, hj, hs, hr, hx, hy0, hy1⟩ := h
    exact rcheck_neg op d s off imm inner w hd hs0 hk ha hl ht hu hj hs hr hx hy0 hy1
  · obtain ⟨ha, hl, ht, hu, hj, hs, hx⟩ := h
    exact rcheck_ldi op d s off imm inner w hd hs0 hk ha hl ht hu hj hs hx
  · obtain ⟨ha, hl, ht, hu, hj, hs, hx⟩ := h
    exact rcheck_load op d s off imm inner w hd hs0 hk ha hl ht hu hj hs hx
  · obtain ⟨ha, hl, ht, hu, hj, hs, hx⟩ := h
    exact rcheck_sto op d s off imm inner w hd hs0 hk ha hl ht hu hj hs hx
  · obtain ⟨ha, hl, ht, hu, hj, hs, hx⟩ := h
    exact rcheck_str op d s off imm inner w hd hs0 hk ha hl ht hu hj hs hx
  · obtain ⟨ha, hl, ht, hu, hj, hs, hx, hy0, hy1⟩ := h
    exact rcheck_ja op d s off imm inner w hd hs0 hk ha hl ht hu hj hs hx hy0 hy1
  · obtain ⟨ha, hl, ht, hu, hj, hs, hx, hy0, hy1⟩ := h
    exact rcheck_call op d s off imm inner w hd hs0 hk ha hl ht hu hj hs hx hy0 hy1
  · obtain ⟨ha, hl, ht, hu, hj, hs, hx, hy0, hy1⟩ := h
    exact rcheck_exit op d s off imm inner w hd hs0 hk ha hl ht hu hj hs hx hy0 hy1
  · obtain ⟨ha, hl, ht, hu, hj, hs, hr, hx⟩ := h
    exact rcheck_cr op d s off imm inner w hd hs0 hk ha hl ht hu hj hs hr hx
  · obtain ⟨ha, hl, ht, hu, hj, hs, hr, hx⟩ := h
    exact rcheck_cn op d s off imm inner w hd hs0 hk ha hl ht hu hj hs hr hx
  · obtain ⟨ha, hl, ht, hu, hj, hs, hx⟩ := h
    exact rcheck_nos op d s off imm inner w hd hs0 hk ha hl ht hu hj hs hx
set_option maxRecDepth 100000 in
set_option maxHeartbeats 4000000 in
theorem rsize_any (op : B8) (w : World) : Calls Tryd.prog 19 #[.int .u8 (N op)] w fun e w' => e = .returned (.int .i64 (sizeS op)) ∧ Grown w w' := by
  go_enter Tryd.func19, Tryd.ntmps19
  go_wp2
  refine wp_loop_rounds 13 ?_
  rw [rounds_succ]
  cases q0 : ((113 : Int) == N op)
  rotate_left
  · skip
    go_wp2
    go_ret
    have e : N op = 113 := (beq_iff_eq.1 q0).symm
    exact ⟨by unfold sizeS; rw [e]; rfl, by go_grown⟩
  go_wp2
  rw [rounds_succ]
  cases q1 : ((105 : Int) == N op)
  rotate_left
  · skip
    go_wp2
    go_ret
    have e : N op = 105 := (beq_iff_eq.1 q1).symm
    exact ⟨by unfold sizeS; rw [e]; rfl, by go_grown⟩
  go_wp2
  rw [rounds_succ]
  cases q2 : ((97 : Int) == N op)
  rotate_left
  · skip
    go_wp2
    go_ret
    have e : N op = 97 := (beq_iff_eq.1 q2).symm
    exact ⟨by unfold sizeS; rw [e]; rfl, by go_grown⟩
  go_wp2
  rw [rounds_succ]
  cases q3 : ((121 : Int) == N op)
  rotate_left
  · skip
    go_wp2
    go_ret
    have e : N op = 121 := (beq_iff_eq.1 q3).symm
    exact ⟨by unfold sizeS; rw [e]; rfl, by go_grown⟩
  go_wp2
  rw [rounds_succ]
  cases q4 : ((114 : Int) == N op)
  rotate_left
  · skip
    go_wp2
    go_ret
    have e : N op = 114 := (beq_iff_eq.1 q4).symm
    exact ⟨by unfold sizeS; rw [e]; rfl, by go_grown⟩
  go_wp2
  rw [rounds_succ]
  cases q5 : ((106 : Int) == N op)
  rotate_left
  · skip
    go_wp2
    go_ret
    have e : N op = 106 := (beq_iff_eq.1 q5).symm
    exact ⟨by unfold sizeS; rw [e]; rfl, by go_grown⟩
  go_wp2
  rw [rounds_succ]
  cases q6 : ((98 : Int) == N op)
  rotate_left
  · skip
    go_wp2
    go_ret
    have e : N op = 98 := (beq_iff_eq.1 q6).symm
    exact ⟨by unfold sizeS; rw [e]; rfl, by go_grown⟩
  go_wp2
  rw [rounds_succ]
  cases q7 : ((122 : Int) == N op)
  rotate_left
  · skip
    go_wp2
    go_ret
    have e : N op = 122 := (beq_iff_eq.1 q7).symm
    exact ⟨by unfold sizeS; rw [e]; rfl, by go_grown⟩
  go_wp2
  rw [rounds_succ]
  cases q8 : ((115 : Int) == N op)
  rotate_left
  · skip
    go_wp2
    go_ret
    have e : N op = 115 := (beq_iff_eq.1 q8).symm
    exact ⟨by unfold sizeS; rw [e]; rfl, by go_grown⟩
  go_wp2
  rw [rounds_succ]
  cases q9 : ((107 : Int) == N op)
  rotate_left
  · skip
    go_wp2
    go_ret
    have e : N op = 107 := (beq_iff_eq.1 q9).symm
    exact ⟨by unfold sizeS; rw [e]; rfl, by go_grown⟩
  go_wp2
  rw [rounds_succ]
  cases q10 : ((99 : Int) == N op)
  rotate_left
  · skip
    go_wp2
    go_ret
    have e : N op = 99 := (beq_iff_eq.1 q10).symm
    exact ⟨by unfold sizeS; rw [e]; rfl, by go_grown⟩
  go_wp2
  rw [rounds_succ]
  cases q11 : ((123 : Int) == N op)
  rotate_left
  · skip
    go_wp2
    go_ret
    have e : N op = 123 := (beq_iff_eq.1 q11).symm
    exact ⟨by unfold sizeS; rw [e]; rfl, by go_grown⟩
  go_wp2
  rw [rounds_succ]
  go_wp2
  go_ret
  have n0 : ¬ N op = 113 := fun e => by rw [e] at q0; cases q0
  have n1 : ¬ N op = 105 := fun e => by rw [e] at q1; cases q1
  have n2 : ¬ N op = 97 := fun e => by rw [e] at q2; cases q2
  have n3 : ¬ N op = 121 := fun e => by rw [e] at q3; cases q3
  have n4 : ¬ N op = 114 := fun e => by rw [e] at q4; cases q4
  have n5 : ¬ N op = 106 := fun e => by rw [e] at q5; cases q5
  have n6 : ¬ N op = 98 := fun e => by rw [e] at q6; cases q6
  have n7 : ¬ N op = 122 := fun e => by rw [e] at q7; cases q7
  have n8 : ¬ N op = 115 := fun e => by rw [e] at q8; cases q8
  have n9 : ¬ N op = 107 := fun e => by rw [e] at q9; cases q9
  have n10 : ¬ N op = 99 := fun e => by rw [e] at q10; cases q10
  have n11 : ¬ N op = 123 := fun e => by rw [e] at q11; cases q11
  exact ⟨by unfold sizeS; rw [if_neg n0, if_neg n1, if_neg n2, if_neg n3, if_neg n4, if_neg n5, if_neg n6, if_neg n7, if_neg n8, if_neg n9, if_neg n10, if_neg n11]; rfl, by go_grown⟩
end Go.Proofs.YthmebodklbhljaaDoor
