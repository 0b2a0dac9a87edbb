/-
  Contracts of package insns: what an opcode is, which fields it uses, what is wrong with an instruction.
-/
import Derived.Test.YthmebodklbhljaaDoorBv
import Derived.Test.YthmebodklbhljaaDoorProg
import Derived.Test.YthmebodklbhljaaDoorGrown
import Derived.Handy
import Derived.Laws.Rows
import Derived.Lib.Hide
import Derived.LoopN
import Derived.Outline
namespace Go.Proofs.YthmebodklbhljaaDoor
open Go.RowKit
attribute [local go_sem] u8_wrap u8_and ofInt_N ofInt_Nw

abbrev B8 := BitVec 8
def cls (op : B8) : Int := N (op &&& 7#8)
def wh (op : B8) : Int := N (op &&& 240#8)
def rg (op : B8) : Bool := N (op &&& 8#8) != 0
def aloneS (x : Int) : Bool := x == 0 || x == 128 || x == 144
def sizeS (op : B8) : Int :=
  if N op = 113 then 1 else if N op = 105 then 2 else if N op = 97 then 4 else if N op = 121 then 8 else
  if N op = 114 then 1 else if N op = 106 then 2 else if N op = 98 then 4 else if N op = 122 then 8 else
  if N op = 115 then 1 else if N op = 107 then 2 else if N op = 99 then 4 else if N op = 123 then 8 else 0
def knownS (op : B8) (inner : Bool) : Bool :=
  if cls op = 4 ∨ cls op = 7 then decide (wh op ≤ 192) && !((wh op == 128) && rg op)
  else if cls op = 5 then decide (wh op ≤ 208) && !(aloneS (wh op) && rg op)
  else if cls op = 6 then decide (wh op ≤ 208) && !aloneS (wh op)
  else (N op == 24) || decide (0 < sizeS op) || ((N op == 194) && inner)

/-- The table, as it lies. -/
def tabCs : Array Value := #[.int .u8 113, .int .u8 1, .int .u8 105, .int .u8 2, .int .u8 97, .int .u8 4, .int .u8 121, .int .u8 8, .int .u8 114, .int .u8 1, .int .u8 106, .int .u8 2, .int .u8 98, .int .u8 4, .int .u8 122, .int .u8 8, .int .u8 115, .int .u8 1, .int .u8 107, .int .u8 2, .int .u8 99, .int .u8 4, .int .u8 123, .int .u8 8]
def TabAt (w : World) : Prop := ∃ t fr, w.heap[0]? = some (.cells tabCs t fr)
theorem TabAt.grown {w w' : World} (h : TabAt w) (g : Grown w w') : TabAt w' := by
  obtain ⟨t, fr, h⟩ := h
  have hb : 0 < w.heap.size := by
    rcases Nat.eq_zero_or_pos w.heap.size with h0 | h0
    · rw [Array.getElem?_eq_none (by omega)] at h; cases h
    · exact h0
  exact ⟨t, fr, (grown_block g hb).trans h⟩

theorem gcellI {a b : World} (h : Grown a b) : ∀ k o, k < a.heap.size → b.cell? ⟨k, o, none⟩ = a.cell? ⟨k, o, none⟩ := fun _ _ hk => grown_cell h hk
theorem gfrozI {a b : World} (h : Grown a b) : ∀ k o, b.frozen? ⟨k, o, none⟩ = a.frozen? ⟨k, o, none⟩ := fun _ _ => h.2.1 _
theorem frozI_alloc (w : World) (cs : Array Value) (T : TypeId) (a : Addr) : (w.alloc (.cells cs T)).frozen? a = w.frozen? a := (Grown.alloc (Grown.refl w) cs T).2.1 a
theorem frozI_new (w : World) (o : Nat) : w.frozen? ⟨w.heap.size, o, none⟩ = false := by simp [World.frozen?]
theorem alone_any (x : Int) (w : World) : Calls Tryd.prog 68 #[.int .u8 x] w fun e w' => e = .returned (.bool (aloneS x)) ∧ w' = w := by
  unfold aloneS
  cases h1 : (x == 0) <;> cases h2 : (x == 128) <;> cases h3 : (x == 144)
  all_goals
    go_enter Tryd.func68, Tryd.ntmps68
    go_wp2
    go_ret
    exact ⟨rfl, rfl⟩

set_option maxRecDepth 100000 in
set_option maxHeartbeats 2000000 in
theorem size_any (op : B8) (w : World) (hT : TabAt w) : Calls Tryd.prog 18 #[.int .u8 (N op)] w fun e w' => e = .returned (.int .i64 (sizeS op)) ∧ Grown w w' := by
  obtain ⟨t, fr, hT⟩ := hT
  have j0 : ∀ w, (Instr.index 66 (.agg tabCs) (.int .i64 0)).run Tryd.prog w = .ok (.agg #[.int .u8 113, .int .u8 1]) w := fun _ => by kernel_rfl
  have j1 : ∀ w, (Instr.index 66 (.agg tabCs) (.int .i64 1)).run Tryd.prog w = .ok (.agg #[.int .u8 105, .int .u8 2]) w := fun _ => by kernel_rfl
  have j2 : ∀ w, (Instr.index 66 (.agg tabCs) (.int .i64 2)).run Tryd.prog w = .ok (.agg #[.int .u8 97, .int .u8 4]) w := fun _ => by kernel_rfl
  have j3 : ∀ w, (Instr.index 66 (.agg tabCs) (.int .i64 3)).run Tryd.prog w = .ok (.agg #[.int .u8 121, .int .u8 8]) w := fun _ => by kernel_rfl
  have j4 : ∀ w, (Instr.index 66 (.agg tabCs) (.int .i64 4)).run Tryd.prog w = .ok (.agg #[.int .u8 114, .int .u8 1]) w := fun _ => by kernel_rfl
  have j5 : ∀ w, (Instr.index 66 (.agg tabCs) (.int .i64 5)).run Tryd.prog w = .ok (.agg #[.int .u8 106, .int .u8 2]) w := fun _ => by kernel_rfl
  have j6 : ∀ w, (Instr.index 66 (.agg tabCs) (.int .i64 6)).run Tryd.prog w = .ok (.agg #[.int .u8 98, .int .u8 4]) w := fun _ => by kernel_rfl
  have j7 : ∀ w, (Instr.index 66 (.agg tabCs) (.int .i64 7)).run Tryd.prog w = .ok (.agg #[.int .u8 122, .int .u8 8]) w := fun _ => by kernel_rfl
  have j8 : ∀ w, (Instr.index 66 (.agg tabCs) (.int .i64 8)).run Tryd.prog w = .ok (.agg #[.int .u8 115, .int .u8 1]) w := fun _ => by kernel_rfl
  have j9 : ∀ w, (Instr.index 66 (.agg tabCs) (.int .i64 9)).run Tryd.prog w = .ok (.agg #[.int .u8 107, .int .u8 2]) w := fun _ => by kernel_rfl
  have j10 : ∀ w, (Instr.index 66 (.agg tabCs) (.int .i64 10)).run Tryd.prog w = .ok (.agg #[.int .u8 99, .int .u8 4]) w := fun _ => by kernel_rfl
  have j11 : ∀ w, (Instr.index 66 (.agg tabCs) (.int .i64 11)).run Tryd.prog w = .ok (.agg #[.int .u8 123, .int .u8 8]) w := fun _ => by kernel_rfl
  go_enter Tryd.func18, Tryd.ntmps18
  go_wp2_with (refine wpList_load_row rfl _ _ rfl 0 rfl t tabCs fr _ hT rfl rfl (by kernel_rfl) ?_)
  refine wp_loop_rounds 13 ?_
  rw [rounds_succ]
  go_wp2
  · go_ret
    have e : N op = 113 := (beq_iff_eq.1 (by assumption : ((113 : Int) == N op) = true)).symm
    exact ⟨by unfold sizeS; rw [e]; rfl, by go_grown⟩
  rw [rounds_succ]
  go_wp2
  · go_ret
    have e : N op = 105 := (beq_iff_eq.1 (by assumption : ((105 : Int) == N op) = true)).symm
    exact ⟨by unfold sizeS; rw [e]; rfl, by go_grown⟩
  rw [rounds_succ]
  go_wp2
  · go_ret
    have e : N op = 97 := (beq_iff_eq.1 (by assumption : ((97 : Int) == N op) = true)).symm
    exact ⟨by unfold sizeS; rw [e]; rfl, by go_grown⟩
  rw [rounds_succ]
  go_wp2
  · go_ret
    have e : N op = 121 := (beq_iff_eq.1 (by assumption : ((121 : Int) == N op) = true)).symm
    exact ⟨by unfold sizeS; rw [e]; rfl, by go_grown⟩
  rw [rounds_succ]
  go_wp2
  · go_ret
    have e : N op = 114 := (beq_iff_eq.1 (by assumption : ((114 : Int) == N op) = true)).symm
    exact ⟨by unfold sizeS; rw [e]; rfl, by go_grown⟩
  rw [rounds_succ]
  go_wp2
  · go_ret
    have e : N op = 106 := (beq_iff_eq.1 (by assumption : ((106 : Int) == N op) = true)).symm
    exact ⟨by unfold sizeS; rw [e]; rfl, by go_grown⟩
  rw [rounds_succ]
  go_wp2
  · go_ret
    have e : N op = 98 := (beq_iff_eq.1 (by assumption : ((98 : Int) == N op) = true)).symm
    exact ⟨by unfold sizeS; rw [e]; rfl, by go_grown⟩
  rw [rounds_succ]
  go_wp2
  · go_ret
    have e : N op = 122 := (beq_iff_eq.1 (by assumption : ((122 : Int) == N op) = true)).symm
    exact ⟨by unfold sizeS; rw [e]; rfl, by go_grown⟩
  rw [rounds_succ]
  go_wp2
  · go_ret
    have e : N op = 115 := (beq_iff_eq.1 (by assumption : ((115 : Int) == N op) = true)).symm
    exact ⟨by unfold sizeS; rw [e]; rfl, by go_grown⟩
  rw [rounds_succ]
  go_wp2
  · go_ret
    have e : N op = 107 := (beq_iff_eq.1 (by assumption : ((107 : Int) == N op) = true)).symm
    exact ⟨by unfold sizeS; rw [e]; rfl, by go_grown⟩
  rw [rounds_succ]
  go_wp2
  · go_ret
    have e : N op = 99 := (beq_iff_eq.1 (by assumption : ((99 : Int) == N op) = true)).symm
    exact ⟨by unfold sizeS; rw [e]; rfl, by go_grown⟩
  rw [rounds_succ]
  go_wp2
  · go_ret
    have e : N op = 123 := (beq_iff_eq.1 (by assumption : ((123 : Int) == N op) = true)).symm
    exact ⟨by unfold sizeS; rw [e]; rfl, by go_grown⟩
  rw [rounds_succ]
  go_wp2
  go_ret
  have n0 : ¬ N op = 113 := by first | exact fun e => absurd (beq_iff_eq.2 e.symm) (by assumption : ¬ ((113 : Int) == N op) = true) | (intro e; have h := (by assumption : ((113 : Int) == N op) = false); rw [e] at h; cases h)
  have n1 : ¬ N op = 105 := by first | exact fun e => absurd (beq_iff_eq.2 e.symm) (by assumption : ¬ ((105 : Int) == N op) = true) | (intro e; have h := (by assumption : ((105 : Int) == N op) = false); rw [e] at h; cases h)
  have n2 : ¬ N op = 97 := by first | exact fun e => absurd (beq_iff_eq.2 e.symm) (by assumption : ¬ ((97 : Int) == N op) = true) | (intro e; have h := (by assumption : ((97 : Int) == N op) = false); rw [e] at h; cases h)
  have n3 : ¬ N op = 121 := by first | exact fun e => absurd (beq_iff_eq.2 e.symm) (by assumption : ¬ ((121 : Int) == N op) = true) | (intro e; have h := (by assumption : ((121 : Int) == N op) = false); rw [e] at h; cases h)
  have n4 : ¬ N op = 114 := by first | exact fun e => absurd (beq_iff_eq.2 e.symm) (by assumption : ¬ ((114 : Int) == N op) = true) | (intro e; have h := (by assumption : ((114 : Int) == N op) = false); rw [e] at h; cases h)
  have n5 : ¬ N op = 106 := by first | exact fun e => absurd (beq_iff_eq.2 e.symm) (by assumption : ¬ ((106 : Int) == N op) = true) | (intro e; have h := (by assumption : ((106 : Int) == N op) = false); rw [e] at h; cases h)
  have n6 : ¬ N op = 98 := by first | exact fun e => absurd (beq_iff_eq.2 e.symm) (by assumption : ¬ ((98 : Int) == N op) = true) | (intro e; have h := (by assumption : ((98 : Int) == N op) = false); rw [e] at h; cases h)
  have n7 : ¬ N op = 122 := by first | exact fun e => absurd (beq_iff_eq.2 e.symm) (by assumption : ¬ ((122 : Int) == N op) = true) | (intro e; have h := (by assumption : ((122 : Int) == N op) = false); rw [e] at h; cases h)
  have n8 : ¬ N op = 115 := by first | exact fun e => absurd (beq_iff_eq.2 e.symm) (by assumption : ¬ ((115 : Int) == N op) = true) | (intro e; have h := (by assumption : ((115 : Int) == N op) = false); rw [e] at h; cases h)
  have n9 : ¬ N op = 107 := by first | exact fun e => absurd (beq_iff_eq.2 e.symm) (by assumption : ¬ ((107 : Int) == N op) = true) | (intro e; have h := (by assumption : ((107 : Int) == N op) = false); rw [e] at h; cases h)
  have n10 : ¬ N op = 99 := by first | exact fun e => absurd (beq_iff_eq.2 e.symm) (by assumption : ¬ ((99 : Int) == N op) = true) | (intro e; have h := (by assumption : ((99 : Int) == N op) = false); rw [e] at h; cases h)
  have n11 : ¬ N op = 123 := by first | exact fun e => absurd (beq_iff_eq.2 e.symm) (by assumption : ¬ ((123 : Int) == N op) = true) | (intro e; have h := (by assumption : ((123 : Int) == N op) = false); rw [e] at h; cases h)
  exact ⟨by unfold sizeS; rw [if_neg n0, if_neg n1, if_neg n2, if_neg n3, if_neg n4, if_neg n5, if_neg n6, if_neg n7, if_neg n8, if_neg n9, if_neg n10, if_neg n11]; rfl, by go_grown⟩

theorem cls_all (op : B8) : N (op &&& 7#8) = 0 ∨ N (op &&& 7#8) = 1 ∨ N (op &&& 7#8) = 2 ∨ N (op &&& 7#8) = 3 ∨ N (op &&& 7#8) = 4 ∨ N (op &&& 7#8) = 5 ∨ N (op &&& 7#8) = 6 ∨ N (op &&& 7#8) = 7 := by
  have h : (op &&& 7#8).toNat ≤ 7 := by rw [BitVec.toNat_and]; exact Nat.and_le_right
  unfold N
  omega

theorem known_arith (op : B8) (inner : Bool) (w : World) (hc : N (op &&& 7#8) = 4 ∨ N (op &&& 7#8) = 7) : Calls Tryd.prog 36 #[.int .u8 (N op), .bool inner] w fun e w' => e = .returned (.bool (knownS op inner)) ∧ Grown w w' := by
  have e : knownS op inner = (decide (N (op &&& 240#8) ≤ 192) && !((N (op &&& 240#8) == 128) && (N (op &&& 8#8) != 0))) := by unfold knownS cls; rw [if_pos hc]; rfl
  rw [e]
  clear e
  cases b1 : decide (N (op &&& 240#8) ≤ 192) <;> cases b2 : (N (op &&& 240#8) == 128) <;> cases b3 : (N (op &&& 8#8) != 0) <;> rcases hc with fc | fc
  all_goals
    go_enter Tryd.func36, Tryd.ntmps36
    go_wp2
    go_ret
    exact ⟨rfl, Grown.refl _⟩
theorem known_jmp (op : B8) (inner : Bool) (w : World) (fc : N (op &&& 7#8) = 5) : Calls Tryd.prog 36 #[.int .u8 (N op), .bool inner] w fun e w' => e = .returned (.bool (knownS op inner)) ∧ Grown w w' := by
  have e : knownS op inner = (decide (N (op &&& 240#8) ≤ 208) && !(aloneS (N (op &&& 240#8)) && (N (op &&& 8#8) != 0))) := by unfold knownS cls; rw [fc]; rfl
  rw [e]
  clear e
  cases b1 : decide (N (op &&& 240#8) ≤ 208) <;> cases b2 : aloneS (N (op &&& 240#8)) <;> cases b3 : (N (op &&& 8#8) != 0)
  all_goals
    go_enter Tryd.func36, Tryd.ntmps36
    go_wp2_with (go_at_call 68; refine (alone_any _ _).mono ?_; rintro e w' ⟨rfl, rfl⟩)
    go_ret
    exact ⟨rfl, Grown.refl _⟩
theorem known_j32 (op : B8) (inner : Bool) (w : World) (fc : N (op &&& 7#8) = 6) : Calls Tryd.prog 36 #[.int .u8 (N op), .bool inner] w fun e w' => e = .returned (.bool (knownS op inner)) ∧ Grown w w' := by
  have e : knownS op inner = (decide (N (op &&& 240#8) ≤ 208) && !aloneS (N (op &&& 240#8))) := by unfold knownS cls; rw [fc]; rfl
  rw [e]
  clear e
  cases b1 : decide (N (op &&& 240#8) ≤ 208) <;> cases b2 : aloneS (N (op &&& 240#8))
  all_goals
    go_enter Tryd.func36, Tryd.ntmps36
    go_wp2_with (go_at_call 68; refine (alone_any _ _).mono ?_; rintro e w' ⟨rfl, rfl⟩)
    go_ret
    exact ⟨rfl, Grown.refl _⟩
set_option maxHeartbeats 1000000 in
theorem known_rest (op : B8) (inner : Bool) (w : World) (hT : TabAt w) (h4 : ¬ N (op &&& 7#8) = 4) (h5 : ¬ N (op &&& 7#8) = 5) (h6 : ¬ N (op &&& 7#8) = 6) (h7 : ¬ N (op &&& 7#8) = 7) : Calls Tryd.prog 36 #[.int .u8 (N op), .bool inner] w fun e w' => e = .returned (.bool (knownS op inner)) ∧ Grown w w' := by
  have e : knownS op inner = ((N op == 24) || decide (0 < sizeS op) || ((N op == 194) && inner)) := by unfold knownS cls; rw [if_neg (by omega), if_neg h5, if_neg h6]
  rw [e]
  clear e
  have HT := Lib.hid hT
  clear hT
  have k4 : (N (op &&& 7#8) == 4) = false := by simpa using h4
  have k5 : (N (op &&& 7#8) == 5) = false := by simpa using h5
  have k6 : (N (op &&& 7#8) == 6) = false := by simpa using h6
  have k7 : (N (op &&& 7#8) == 7) = false := by simpa using h7
  cases b1 : (N op == 24) <;> cases b2 : decide (0 < sizeS op) <;> cases b3 : (N op == 194) <;> cases inner
  all_goals
    go_enter Tryd.func36, Tryd.ntmps36
    go_wp2_with (go_at_call 18; refine (size_any _ _ HT.out).mono ?_; rintro e w' ⟨rfl, hg⟩)
    go_ret
    exact ⟨rfl, by first | exact Grown.refl _ | assumption⟩
theorem known_any (op : B8) (inner : Bool) (w : World) (hT : TabAt w) : Calls Tryd.prog 36 #[.int .u8 (N op), .bool inner] w fun e w' => e = .returned (.bool (knownS op inner)) ∧ Grown w w' := by
  by_cases h47 : N (op &&& 7#8) = 4 ∨ N (op &&& 7#8) = 7
  · exact known_arith op inner w h47
  by_cases h5 : N (op &&& 7#8) = 5
  · exact known_jmp op inner w h5
  by_cases h6 : N (op &&& 7#8) = 6
  · exact known_j32 op inner w h6
  · exact known_rest op inner w hT (by omega) h5 h6 (by omega)

/-! Which fields an instruction uses: dst, src, off, imm, and whether it writes. -/
structure Uses where
  d : Bool
  s : Bool
  o : Bool
  i : Bool
  w : Bool
def Uses.val (u : Uses) : Value := .agg #[.bool u.d, .bool u.s, .bool u.o, .bool u.i, .bool u.w]
def usesJ (x : Int) (r : Bool) : Uses := if x = 0 then ⟨false, false, true, false, false⟩ else if x = 128 then ⟨false, false, false, true, false⟩ else if x = 144 then ⟨false, false, false, false, false⟩ else ⟨true, r, true, !r, false⟩
def usesS (op : B8) : Uses :=
  if cls op = 4 ∨ cls op = 7 then ⟨true, rg op, false, !rg op && (wh op != 128), true⟩
  else if cls op = 5 ∨ cls op = 6 then usesJ (wh op) (rg op)
  else if cls op = 0 then ⟨true, true, false, true, true⟩
  else if cls op = 1 then ⟨true, true, true, false, true⟩
  else if cls op = 3 then ⟨true, true, true, false, false⟩
  else if N op = 194 then ⟨false, false, false, false, false⟩
  else ⟨true, false, true, true, false⟩
theorem usesJ_any (x : Int) (r : Bool) (w : World) : Calls Tryd.prog 69 #[.int .u8 x, .bool r] w fun e w' => e = .returned (usesJ x r).val ∧ Grown w w' := by
  unfold usesJ
  by_cases h0 : x = 0
  · subst h0
    go_enter Tryd.func69, Tryd.ntmps69
    go_wp2
    go_returns
    exact ⟨rfl, by go_grown⟩
  by_cases h1 : x = 128
  · subst h1
    go_enter Tryd.func69, Tryd.ntmps69
    go_wp2
    go_returns
    exact ⟨rfl, by go_grown⟩
  by_cases h2 : x = 144
  · subst h2
    go_enter Tryd.func69, Tryd.ntmps69
    go_wp2
    go_returns
    exact ⟨rfl, by go_grown⟩
  rw [if_neg h0, if_neg h1, if_neg h2]
  have k0 : (x == 0) = false := by simpa using h0
  have k1 : (x == 128) = false := by simpa using h1
  have k2 : (x == 144) = false := by simpa using h2
  cases r
  all_goals
    go_enter Tryd.func69, Tryd.ntmps69
    go_wp2
    go_returns
    exact ⟨rfl, by go_grown⟩
end Go.Proofs.YthmebodklbhljaaDoor
