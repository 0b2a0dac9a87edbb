/-
  The walk of the law InsnsFields.
-/
import Derived.Test.YthmebodklbhljaaDoorLaw02a
namespace Go.Proofs.YthmebodklbhljaaDoor
open Go.RowKit
attribute [local go_sem] u8_wrap u8_and ofInt_N ofInt_Nw

theorem check_zero {op : B8} {d s off imm : Int} {inner : Bool} (h : checkS op d s off imm inner = 0) : knownS op inner = true ∧ badReg op d s = false ∧ badField op d s off imm = false ∧ badMark op s = false ∧ badImm op imm = false := by
  unfold checkS at h
  cases h1 : knownS op inner
  · rw [h1] at h; simp at h
  · rw [h1] at h
    cases h2 : badReg op d s
    · rw [h2] at h
      cases h3 : badField op d s off imm
      · rw [h3] at h
        cases h4 : badMark op s
        · rw [h4] at h
          cases h5 : badImm op imm
          · exact ⟨rfl, rfl, rfl, rfl, rfl⟩
          · rw [h5] at h; simp at h
        · rw [h4] at h; simp at h
      · rw [h3] at h; simp at h
    · rw [h2] at h; simp at h
theorem check_of {op : B8} {d s off imm : Int} {inner : Bool} (h : knownS op inner = true) : checkS op d s off imm inner = if badReg op d s = true then 22 else if badField op d s off imm = true then 21 else if badMark op s = true then 21 else if badImm op imm = true then 23 else 0 := by
  unfold checkS; rw [h]; rfl
theorem fields_0 {op : B8} {d s off imm : Int} (h : checkS op d s off imm true = 0) (t : Int) : checkS op 0 s off imm true = 0 ∧ (checkS op t s off imm true = 0 ∨ checkS op t s off imm true = 22 ∨ (checkS op t s off imm true = 21 ∧ d < 2)) := by
  obtain ⟨h1, h2, h3, h4, h5⟩ := check_zero h
  rw [check_of h1, check_of h1, h4, h5]
  unfold badReg at h2
  obtain ⟨_, h2b⟩ := Bool.or_eq_false_iff.1 h2
  obtain ⟨s1, _⟩ := Bool.or_eq_false_iff.1 h2b
  unfold badField at h3
  obtain ⟨f1, f2⟩ := Bool.or_eq_false_iff.1 h3
  have r0 : badReg op 0 s = false := by unfold badReg; rw [s1]; simp
  have q0 : badField op 0 s off imm = false := by unfold badField; rw [f2]; simp
  refine ⟨by rw [r0, q0]; simp, ?_⟩
  cases r : badReg op t s
  · cases q : badField op t s off imm
    · left; simp
    · right; right
      unfold badField at q
      rw [f2] at q
      simp at q
      rw [q.1] at f1
      simp at f1
      exact ⟨by simp, by omega⟩
  · right; left; simp
theorem fields_1 {op : B8} {d s off imm : Int} (h : checkS op d s off imm true = 0) (t : Int) : checkS op d 0 off imm true = 0 ∧ (checkS op d t off imm true = 0 ∨ checkS op d t off imm true = 22 ∨ (checkS op d t off imm true = 21 ∧ s < 2)) := by
  obtain ⟨h1, h2, h3, h4, h5⟩ := check_zero h
  rw [check_of h1, check_of h1, h5]
  unfold badReg at h2
  obtain ⟨d1, h2b⟩ := Bool.or_eq_false_iff.1 h2
  obtain ⟨_, w1⟩ := Bool.or_eq_false_iff.1 h2b
  unfold badField at h3
  obtain ⟨f1, f2⟩ := Bool.or_eq_false_iff.1 h3
  obtain ⟨g1, g2⟩ := Bool.or_eq_false_iff.1 f2
  have r0 : badReg op d 0 = false := by unfold badReg; rw [d1, w1]; simp
  have q0 : badField op d 0 off imm = false := by unfold badField; rw [f1, g2]; simp
  have m0 : badMark op 0 = false := by unfold badMark; simp
  refine ⟨by rw [r0, q0, m0]; simp, ?_⟩
  cases r : badReg op d t
  · cases q : badField op d t off imm
    · cases m : badMark op t
      · left; simp
      · right; right
        unfold badMark at m h4
        simp at m h4
        exact ⟨by simp, by have := h4 m.1; omega⟩
    · right; right
      unfold badField at q
      rw [f1, g2] at q
      simp at q
      rw [q.1] at g1
      simp at g1
      exact ⟨by simp, by omega⟩
  · right; left; simp
theorem fields_2 {op : B8} {d s off imm : Int} (h : checkS op d s off imm true = 0) (t : Int) : checkS op d s 0 imm true = 0 ∧ (checkS op d s t imm true = 0 ∨ (checkS op d s t imm true = 21 ∧ off = 0)) := by
  obtain ⟨h1, h2, h3, h4, h5⟩ := check_zero h
  rw [check_of h1, check_of h1, h2, h4, h5]
  unfold badField at h3
  obtain ⟨f1, f2⟩ := Bool.or_eq_false_iff.1 h3
  obtain ⟨g1, g2⟩ := Bool.or_eq_false_iff.1 f2
  obtain ⟨i1, i2⟩ := Bool.or_eq_false_iff.1 g2
  have q0 : badField op d s 0 imm = false := by unfold badField; rw [f1, g1, i2]; simp
  refine ⟨by rw [q0]; simp, ?_⟩
  cases q : badField op d s t imm
  · left; simp
  · right
    unfold badField at q
    rw [f1, g1, i2] at q
    simp at q
    rw [q.1] at i1
    simp at i1
    exact ⟨by simp, i1⟩
theorem fields_3 {op : B8} {d s off imm : Int} (h : checkS op d s off imm true = 0) (t : Int) : (checkS op d s off 0 true = 0 ∨ checkS op d s off 0 true = 23) ∧ (checkS op d s off t true = 0 ∨ (checkS op d s off t true = 21 ∧ imm = 0) ∨ checkS op d s off t true = 23) := by
  obtain ⟨h1, h2, h3, h4, h5⟩ := check_zero h
  rw [check_of h1, check_of h1, h2, h4]
  unfold badField at h3
  obtain ⟨f1, f2⟩ := Bool.or_eq_false_iff.1 h3
  obtain ⟨g1, g2⟩ := Bool.or_eq_false_iff.1 f2
  obtain ⟨i1, i2⟩ := Bool.or_eq_false_iff.1 g2
  have q0 : badField op d s off 0 = false := by unfold badField; rw [f1, g1, i1]; simp
  refine ⟨?_, ?_⟩
  · rw [q0]
    cases m : badImm op 0
    · left; simp
    · right; simp
  · cases q : badField op d s off t
    · cases m : badImm op t
      · left; simp
      · right; right; simp
    · right; left
      unfold badField at q
      rw [f1, g1, i1] at q
      simp at q
      rw [q.1] at i2
      simp at i2
      exact ⟨by simp, i2⟩

/-- Two copies of an instruction, in blocks of their own. -/
def TwoIns (w0 : World) (op : B8) (d s off imm : Int) (A : Nat) (s7 s8 : Value) (w : World) : Prop :=
  ∃ B1 B2 : Nat, s7 = .pointer (some ⟨B1, 0, none⟩) ∧ s8 = .pointer (some ⟨B2, 0, none⟩) ∧ B1 ≠ B2 ∧ w0.heap.size ≤ B1 ∧ w0.heap.size ≤ B2 ∧ (∀ o, w.frozen? ⟨B1, o, none⟩ = false) ∧ (∀ o, w.frozen? ⟨B2, o, none⟩ = false) ∧ Keeps w0 [(A, 0, .int .u8 (N op)), (A, 1, .int .u8 d), (A, 2, .int .u8 s), (A, 3, .int .i16 off), (A, 4, .int .i32 imm), (B1, 0, .int .u8 (N op)), (B1, 1, .int .u8 d), (B1, 2, .int .u8 s), (B1, 3, .int .i16 off), (B1, 4, .int .i32 imm), (B2, 0, .int .u8 (N op)), (B2, 1, .int .u8 d), (B2, 2, .int .u8 s), (B2, 3, .int .i16 off), (B2, 4, .int .i32 imm)] w
theorem two_set {wr : World} {B1 B2 k : Nat} {v u : Value} (hne : B1 ≠ B2) {b o : Nat} {x : Value} (h : wr.cell? ⟨b, o, none⟩ = some x) :
    ((wr.setCell ⟨B1, k, none⟩ v).setCell ⟨B2, k, none⟩ u).cell? ⟨b, o, none⟩ = some (if b = B2 ∧ o = k then u else if b = B1 ∧ o = k then v else x) := by
  by_cases h2 : b = B2 ∧ o = k
  · obtain ⟨rfl, rfl⟩ := h2
    rw [if_pos ⟨rfl, rfl⟩]
    refine World.cell?_setCell_same _ _ _ (u := x) ?_
    rw [World.cell?_setCell_other _ _ _ _ (by intro e; cases e; exact hne rfl)]
    exact h
  · rw [if_neg h2, World.cell?_setCell_other _ _ _ _ (by intro e; cases e; exact h2 ⟨rfl, rfl⟩)]
    by_cases h1 : b = B1 ∧ o = k
    · obtain ⟨rfl, rfl⟩ := h1
      rw [if_pos ⟨rfl, rfl⟩]
      exact World.cell?_setCell_same _ _ _ h
    · rw [if_neg h1, World.cell?_setCell_other _ _ _ _ (by intro e; cases e; exact h1 ⟨rfl, rfl⟩)]
      exact h
theorem froz_ge {w : World} {b o : Nat} (h : w.heap.size ≤ b) : w.frozen? ⟨b, o, none⟩ = false := by simp [World.frozen?, Array.getElem?_eq_none h]

set_option maxRecDepth 100000 in
set_option maxHeartbeats 4000000 in
theorem fields_early (op : B8) (d s off imm wi tv : Int) (h : ¬ checkS op d s off imm true = 0 ∨ tv = 0) (w : World) (hT : TabAt w) :
    Calls Tryd.prog 7 #[.agg #[.int .u8 (N op), .int .u8 d, .int .u8 s, .int .i16 off, .int .i32 imm], .int .u8 wi, .int .i16 tv] w fun e w' => e = .returned (.bool true) ∧ Grown w w' := by
  have HT := Lib.hid hT
  clear hT
  rcases h with h | rfl
  · have b1 : (checkS op d s off imm true != 0) = true := by simpa using h
    clear h
    go_enter Tryd.func7, Tryd.ntmps7
    go_wp2_with (first | (go_at_call 16; refine (check_any _ _ _ _ _ _ _ (HT.out.grown (by go_grown))).mono ?_; rintro e w1 ⟨rfl, g1⟩) | (go_at_call 20; refine (checks_any _ (HT.out.grown (Grown.trans' (by go_grown) g1))).mono ?_; rintro e w6 ⟨rfl, hg⟩))
    go_ret
    exact ⟨rfl, Grown.trans' (Grown.trans' (by go_grown) g1) hg⟩
  · cases b1 : (checkS op d s off imm true != 0)
    all_goals
      go_enter Tryd.func7, Tryd.ntmps7
      go_wp2_with (first | (go_at_call 16; refine (check_any _ _ _ _ _ _ _ (HT.out.grown (by go_grown))).mono ?_; rintro e w1 ⟨rfl, g1⟩) | (go_at_call 20; refine (checks_any _ (HT.out.grown (Grown.trans' (by go_grown) g1))).mono ?_; rintro e w6 ⟨rfl, hg⟩))
      go_ret
      exact ⟨rfl, Grown.trans' (Grown.trans' (by go_grown) g1) hg⟩

set_option maxRecDepth 100000 in
set_option maxHeartbeats 8000000 in
theorem fields_late (op : B8) (d s off imm tv : Int) (wi : B8) (hc : checkS op d s off imm true = 0) (hto : ¬ tv = 0) (d0 : 0 ≤ d) (d1 : d ≤ 255) (s0 : 0 ≤ s) (s1 : s ≤ 255) (o0 : -32768 ≤ off) (o1 : off ≤ 32767) (i0 : -2147483648 ≤ imm) (i1 : imm ≤ 2147483647) (t0 : -32768 ≤ tv) (t1 : tv ≤ 32767) (w : World) (hT : TabAt w) :
    Calls Tryd.prog 7 #[.agg #[.int .u8 (N op), .int .u8 d, .int .u8 s, .int .i16 off, .int .i32 imm], .int .u8 (N wi), .int .i16 tv] w fun e w' => e = .returned (.bool true) ∧ Grown w w' := by
  have HT := Lib.hid hT
  have HC := Lib.hid hc
  clear hT
  have b2 : (tv == 0) = false := by simpa using hto
  clear hto
  go_enter Tryd.func7, Tryd.ntmps7
  go_upto_region 3 with (go_at_call 16; refine (check_any _ _ _ _ _ _ _ (HT.out.grown (by go_grown))).mono ?_; rintro e w1 ⟨rfl, g1⟩)
  have K : Keeps w [(w.heap.size, 0, .int .u8 (N op)), (w.heap.size, 1, .int .u8 d), (w.heap.size, 2, .int .u8 s), (w.heap.size, 3, .int .i16 off), (w.heap.size, 4, .int .i32 imm)] (w.alloc (.cells #[.int .u8 (N op), .int .u8 d, .int .u8 s, .int .i16 off, .int .i32 imm] 24)) := ⟨⟨⟨by simp [go_sem], by simp⟩, ⟨by simp [go_sem], by simp⟩, ⟨by simp [go_sem], by simp⟩, ⟨by simp [go_sem], by simp⟩, ⟨by simp [go_sem], by simp⟩, trivial⟩, by go_grown⟩
  replace K := K.grown g1
  have hsz : w.heap.size ≤ w1.heap.size := K.2.2.2
  clear g1
  have y0 : ∀ z : World, Gw3 w1 z → z.cell? ⟨w.heap.size, 0, none⟩ = some _ := fun z g => (K.grown g).1.get 0 _ rfl
  have y1 : ∀ z : World, Gw3 w1 z → z.cell? ⟨w.heap.size, 1, none⟩ = some _ := fun z g => (K.grown g).1.get 1 _ rfl
  have y2 : ∀ z : World, Gw3 w1 z → z.cell? ⟨w.heap.size, 2, none⟩ = some _ := fun z g => (K.grown g).1.get 2 _ rfl
  have y3 : ∀ z : World, Gw3 w1 z → z.cell? ⟨w.heap.size, 3, none⟩ = some _ := fun z g => (K.grown g).1.get 3 _ rfl
  have y4 : ∀ z : World, Gw3 w1 z → z.cell? ⟨w.heap.size, 4, none⟩ = some _ := fun z g => (K.grown g).1.get 4 _ rfl
  have hW : Gw3 w1 w1.drew := Gw3.drew (Grown.refl _)
  go_cut [7, 8] (fun s7 s8 wx => TwoIns w op d s off imm w.heap.size s7 s8 wx)
  case first =>
    go_region_held3 (fun z => Gw3 w1 z) ((repeat (first | with_reducible assumption | with_reducible refine Gw3.drew ?_ | with_reducible refine Gw3.alloc ?_ _ _ | exact Grown.refl _))) (fail)
    all_goals
      go_wp2_with fail
      go_meet
      case rel =>
        refine ⟨_, _, rfl, rfl, by first | omega | simp, by omega, by omega, ?_, ?_, ?_⟩
        · exact fun o => ((show Gw3 w1 _ by with_reducible assumption).2.1 _).trans (froz_ge (by omega))
        · exact fun o => ((show Gw3 w1 _ by with_reducible assumption).2.1 _).trans (froz_ge (by omega))
        · obtain ⟨⟨q0, q1, q2, q3, q4, _⟩, qg⟩ := K.grown (show Gw3 w1 _ by with_reducible assumption)
          exact ⟨⟨q0, q1, q2, q3, q4, ⟨by simp [go_sem], by first | (simp; done) | (simp; omega)⟩, ⟨by simp [go_sem], by first | (simp; done) | (simp; omega)⟩, ⟨by simp [go_sem], by first | (simp; done) | (simp; omega)⟩, ⟨by simp [go_sem], by first | (simp; done) | (simp; omega)⟩, ⟨by simp [go_sem], by first | (simp; done) | (simp; omega)⟩, ⟨by simp [go_sem], by first | (simp; done) | (simp; omega)⟩, ⟨by simp [go_sem], by first | (simp; done) | (simp; omega)⟩, ⟨by simp [go_sem], by first | (simp; done) | (simp; omega)⟩, ⟨by simp [go_sem], by first | (simp; done) | (simp; omega)⟩, ⟨by simp [go_sem], by first | (simp; done) | (simp; omega)⟩, trivial⟩, qg⟩
  case rest =>
    clear hW hsz K y0 y1 y2 y3 y4
    obtain ⟨B1, B2, rfl, rfl, hne, l1, l2, z1, z2, K⟩ := hcut
    have hne2 := hne.symm
    have hm : (N wi).tmod 4 = 0 ∨ (N wi).tmod 4 = 1 ∨ (N wi).tmod 4 = 2 ∨ (N wi).tmod 4 = 3 := by
      have := N_nonneg wi
      rw [Int.tmod_eq_emod_of_nonneg this]
      omega
    have v1 : IntKind.i64.wrap d = d := IntWalk.i64_in _ (by omega)
    have v2 : IntKind.i64.wrap s = s := IntWalk.i64_in _ (by omega)
    have v3 : IntKind.i64.wrap off = off := IntWalk.i64_in _ (by omega)
    have v4 : IntKind.i64.wrap imm = imm := IntWalk.i64_in _ (by omega)
    have v5 : IntKind.i32.wrap tv = tv := IntWalk.i32_in _ (by omega)
    have x1 := z1 1
    have x2 := z2 1
    have x3 := z1 2
    have x4 := z2 2
    have x5 := z1 3
    have x6 := z2 3
    have x7 := z1 4
    have x8 := z2 4
    clear z1 z2
    have c0 : wc.cell? ⟨w.heap.size, 0, none⟩ = some _ := K.1.get 0 _ rfl
    have c1 : wc.cell? ⟨w.heap.size, 1, none⟩ = some _ := K.1.get 1 _ rfl
    have c2 : wc.cell? ⟨w.heap.size, 2, none⟩ = some _ := K.1.get 2 _ rfl
    have c3 : wc.cell? ⟨w.heap.size, 3, none⟩ = some _ := K.1.get 3 _ rfl
    have c4 : wc.cell? ⟨w.heap.size, 4, none⟩ = some _ := K.1.get 4 _ rfl
    have c5 : wc.cell? ⟨B1, 0, none⟩ = some _ := K.1.get 5 _ rfl
    have c6 : wc.cell? ⟨B1, 1, none⟩ = some _ := K.1.get 6 _ rfl
    have c7 : wc.cell? ⟨B1, 2, none⟩ = some _ := K.1.get 7 _ rfl
    have c8 : wc.cell? ⟨B1, 3, none⟩ = some _ := K.1.get 8 _ rfl
    have c9 : wc.cell? ⟨B1, 4, none⟩ = some _ := K.1.get 9 _ rfl
    have c10 : wc.cell? ⟨B2, 0, none⟩ = some _ := K.1.get 10 _ rfl
    have c11 : wc.cell? ⟨B2, 1, none⟩ = some _ := K.1.get 11 _ rfl
    have c12 : wc.cell? ⟨B2, 2, none⟩ = some _ := K.1.get 12 _ rfl
    have c13 : wc.cell? ⟨B2, 3, none⟩ = some _ := K.1.get 13 _ rfl
    have c14 : wc.cell? ⟨B2, 4, none⟩ = some _ := K.1.get 14 _ rfl
    rcases hm with hm | hm | hm | hm
    · go_upto_region 17 with fail
      have K2 : Keeps w [(B1, 0, .int .u8 (N op)), (B1, 1, .int .u8 ((N (BitVec.ofInt 8 tv)).tmod 16)), (B1, 2, .int .u8 s), (B1, 3, .int .i16 off), (B1, 4, .int .i32 imm), (B2, 0, .int .u8 (N op)), (B2, 1, .int .u8 0), (B2, 2, .int .u8 s), (B2, 3, .int .i16 off), (B2, 4, .int .i32 imm)] ((wc.setCell ⟨B1, 1, none⟩ (.int .u8 ((N (BitVec.ofInt 8 tv)).tmod 16))).setCell ⟨B2, 1, none⟩ (.int .u8 0)) := ⟨⟨⟨(two_set hne c5).trans (by first | (simp; done) | (simp [hne]; done) | (simp [hne2]; done)), by simpa using block_lt_of_cell c5⟩, ⟨(two_set hne c6).trans (by first | (simp; done) | (simp [hne]; done) | (simp [hne2]; done)), by simpa using block_lt_of_cell c6⟩, ⟨(two_set hne c7).trans (by first | (simp; done) | (simp [hne]; done) | (simp [hne2]; done)), by simpa using block_lt_of_cell c7⟩, ⟨(two_set hne c8).trans (by first | (simp; done) | (simp [hne]; done) | (simp [hne2]; done)), by simpa using block_lt_of_cell c8⟩, ⟨(two_set hne c9).trans (by first | (simp; done) | (simp [hne]; done) | (simp [hne2]; done)), by simpa using block_lt_of_cell c9⟩, ⟨(two_set hne c10).trans (by first | (simp; done) | (simp [hne]; done) | (simp [hne2]; done)), by simpa using block_lt_of_cell c10⟩, ⟨(two_set hne c11).trans (by first | (simp; done) | (simp [hne]; done) | (simp [hne2]; done)), by simpa using block_lt_of_cell c11⟩, ⟨(two_set hne c12).trans (by first | (simp; done) | (simp [hne]; done) | (simp [hne2]; done)), by simpa using block_lt_of_cell c12⟩, ⟨(two_set hne c13).trans (by first | (simp; done) | (simp [hne]; done) | (simp [hne2]; done)), by simpa using block_lt_of_cell c13⟩, ⟨(two_set hne c14).trans (by first | (simp; done) | (simp [hne]; done) | (simp [hne2]; done)), by simpa using block_lt_of_cell c14⟩, trivial⟩, (K.2.setCell l1 _).setCell l2 _⟩
      clear K x1 x2 x3 x4 x5 x6 x7 x8 c0 c1 c2 c3 c4 c5 c6 c7 c8 c9 c10 c11 c12 c13 c14
      generalize (wc.setCell ⟨B1, 1, none⟩ (.int .u8 ((N (BitVec.ofInt 8 tv)).tmod 16))).setCell ⟨B2, 1, none⟩ (.int .u8 0) = W2 at *
      have q0 : ∀ z : Held (Keeps w [(B1, 0, .int .u8 (N op)), (B1, 1, .int .u8 ((N (BitVec.ofInt 8 tv)).tmod 16)), (B1, 2, .int .u8 s), (B1, 3, .int .i16 off), (B1, 4, .int .i32 imm), (B2, 0, .int .u8 (N op)), (B2, 1, .int .u8 0), (B2, 2, .int .u8 s), (B2, 3, .int .i16 off), (B2, 4, .int .i32 imm)]), z.w.cell? ⟨B1, 0, none⟩ = some _ := fun z => z.h.1.get 0 _ rfl
      have q1 : ∀ z : Held (Keeps w [(B1, 0, .int .u8 (N op)), (B1, 1, .int .u8 ((N (BitVec.ofInt 8 tv)).tmod 16)), (B1, 2, .int .u8 s), (B1, 3, .int .i16 off), (B1, 4, .int .i32 imm), (B2, 0, .int .u8 (N op)), (B2, 1, .int .u8 0), (B2, 2, .int .u8 s), (B2, 3, .int .i16 off), (B2, 4, .int .i32 imm)]), z.w.cell? ⟨B1, 1, none⟩ = some _ := fun z => z.h.1.get 1 _ rfl
      have q2 : ∀ z : Held (Keeps w [(B1, 0, .int .u8 (N op)), (B1, 1, .int .u8 ((N (BitVec.ofInt 8 tv)).tmod 16)), (B1, 2, .int .u8 s), (B1, 3, .int .i16 off), (B1, 4, .int .i32 imm), (B2, 0, .int .u8 (N op)), (B2, 1, .int .u8 0), (B2, 2, .int .u8 s), (B2, 3, .int .i16 off), (B2, 4, .int .i32 imm)]), z.w.cell? ⟨B1, 2, none⟩ = some _ := fun z => z.h.1.get 2 _ rfl
      have q3 : ∀ z : Held (Keeps w [(B1, 0, .int .u8 (N op)), (B1, 1, .int .u8 ((N (BitVec.ofInt 8 tv)).tmod 16)), (B1, 2, .int .u8 s), (B1, 3, .int .i16 off), (B1, 4, .int .i32 imm), (B2, 0, .int .u8 (N op)), (B2, 1, .int .u8 0), (B2, 2, .int .u8 s), (B2, 3, .int .i16 off), (B2, 4, .int .i32 imm)]), z.w.cell? ⟨B1, 3, none⟩ = some _ := fun z => z.h.1.get 3 _ rfl
      have q4 : ∀ z : Held (Keeps w [(B1, 0, .int .u8 (N op)), (B1, 1, .int .u8 ((N (BitVec.ofInt 8 tv)).tmod 16)), (B1, 2, .int .u8 s), (B1, 3, .int .i16 off), (B1, 4, .int .i32 imm), (B2, 0, .int .u8 (N op)), (B2, 1, .int .u8 0), (B2, 2, .int .u8 s), (B2, 3, .int .i16 off), (B2, 4, .int .i32 imm)]), z.w.cell? ⟨B1, 4, none⟩ = some _ := fun z => z.h.1.get 4 _ rfl
      have q5 : ∀ z : Held (Keeps w [(B1, 0, .int .u8 (N op)), (B1, 1, .int .u8 ((N (BitVec.ofInt 8 tv)).tmod 16)), (B1, 2, .int .u8 s), (B1, 3, .int .i16 off), (B1, 4, .int .i32 imm), (B2, 0, .int .u8 (N op)), (B2, 1, .int .u8 0), (B2, 2, .int .u8 s), (B2, 3, .int .i16 off), (B2, 4, .int .i32 imm)]), z.w.cell? ⟨B2, 0, none⟩ = some _ := fun z => z.h.1.get 5 _ rfl
      have q6 : ∀ z : Held (Keeps w [(B1, 0, .int .u8 (N op)), (B1, 1, .int .u8 ((N (BitVec.ofInt 8 tv)).tmod 16)), (B1, 2, .int .u8 s), (B1, 3, .int .i16 off), (B1, 4, .int .i32 imm), (B2, 0, .int .u8 (N op)), (B2, 1, .int .u8 0), (B2, 2, .int .u8 s), (B2, 3, .int .i16 off), (B2, 4, .int .i32 imm)]), z.w.cell? ⟨B2, 1, none⟩ = some _ := fun z => z.h.1.get 6 _ rfl
      have q7 : ∀ z : Held (Keeps w [(B1, 0, .int .u8 (N op)), (B1, 1, .int .u8 ((N (BitVec.ofInt 8 tv)).tmod 16)), (B1, 2, .int .u8 s), (B1, 3, .int .i16 off), (B1, 4, .int .i32 imm), (B2, 0, .int .u8 (N op)), (B2, 1, .int .u8 0), (B2, 2, .int .u8 s), (B2, 3, .int .i16 off), (B2, 4, .int .i32 imm)]), z.w.cell? ⟨B2, 2, none⟩ = some _ := fun z => z.h.1.get 7 _ rfl
      have q8 : ∀ z : Held (Keeps w [(B1, 0, .int .u8 (N op)), (B1, 1, .int .u8 ((N (BitVec.ofInt 8 tv)).tmod 16)), (B1, 2, .int .u8 s), (B1, 3, .int .i16 off), (B1, 4, .int .i32 imm), (B2, 0, .int .u8 (N op)), (B2, 1, .int .u8 0), (B2, 2, .int .u8 s), (B2, 3, .int .i16 off), (B2, 4, .int .i32 imm)]), z.w.cell? ⟨B2, 3, none⟩ = some _ := fun z => z.h.1.get 8 _ rfl
      have q9 : ∀ z : Held (Keeps w [(B1, 0, .int .u8 (N op)), (B1, 1, .int .u8 ((N (BitVec.ofInt 8 tv)).tmod 16)), (B1, 2, .int .u8 s), (B1, 3, .int .i16 off), (B1, 4, .int .i32 imm), (B2, 0, .int .u8 (N op)), (B2, 1, .int .u8 0), (B2, 2, .int .u8 s), (B2, 3, .int .i16 off), (B2, 4, .int .i32 imm)]), z.w.cell? ⟨B2, 4, none⟩ = some _ := fun z => z.h.1.get 9 _ rfl
      have hcc := HC.out
      clear hc hcc
      refine wp_region_lex (Keeps w [(B1, 0, .int .u8 (N op)), (B1, 1, .int .u8 ((N (BitVec.ofInt 8 tv)).tmod 16)), (B1, 2, .int .u8 s), (B1, 3, .int .i16 off), (B1, 4, .int .i32 imm), (B2, 0, .int .u8 (N op)), (B2, 1, .int .u8 0), (B2, 2, .int .u8 s), (B2, 3, .int .i16 off), (B2, 4, .int .i32 imm)]) (by kernel_rfl) (by kernel_rfl) K2.drew (fun hNon => ?_)
      repeat (go_big_quiet_step ((go_at_call 16; exact held_callT HT.out (fun z hz => check_any _ _ _ _ _ _ z hz))))
      refine wpQuiet_nil ?_
      intro w5 K5
      clear hNon K2 q0 q1 q2 q3 q4 q5 q6 q7 q8 q9
      have HT5 := Lib.hid (HT.out.grown K5.2)
      obtain ⟨f, e | e | ⟨e, hd⟩⟩ := fields_0 HC.out ((N (BitVec.ofInt 8 tv)).tmod 16)
      · go_wp2_with (go_at_call 20; refine (checks_any _ HT5.out).mono ?_; rintro e w6 ⟨rfl, hg⟩)
        go_ret
        exact ⟨rfl, Grown.trans' K5.2 hg⟩
      · go_wp2_with (go_at_call 20; refine (checks_any _ HT5.out).mono ?_; rintro e w6 ⟨rfl, hg⟩)
        go_ret
        exact ⟨rfl, Grown.trans' K5.2 hg⟩
      · have kd : decide (d < 2) = true := by simpa using hd
        clear hd
        go_wp2_with (go_at_call 20; refine (checks_any _ HT5.out).mono ?_; rintro e w6 ⟨rfl, hg⟩)
        go_ret
        exact ⟨rfl, Grown.trans' K5.2 hg⟩
    · go_upto_region 17 with fail
      have K2 : Keeps w [(B1, 0, .int .u8 (N op)), (B1, 1, .int .u8 d), (B1, 2, .int .u8 ((N (BitVec.ofInt 8 tv)).tmod 16)), (B1, 3, .int .i16 off), (B1, 4, .int .i32 imm), (B2, 0, .int .u8 (N op)), (B2, 1, .int .u8 d), (B2, 2, .int .u8 0), (B2, 3, .int .i16 off), (B2, 4, .int .i32 imm)] ((wc.setCell ⟨B1, 2, none⟩ (.int .u8 ((N (BitVec.ofInt 8 tv)).tmod 16))).setCell ⟨B2, 2, none⟩ (.int .u8 0)) := ⟨⟨⟨(two_set hne c5).trans (by first | (simp; done) | (simp [hne]; done) | (simp [hne2]; done)), by simpa using block_lt_of_cell c5⟩, ⟨(two_set hne c6).trans (by first | (simp; done) | (simp [hne]; done) | (simp [hne2]; done)), by simpa using block_lt_of_cell c6⟩, ⟨(two_set hne c7).trans (by first | (simp; done) | (simp [hne]; done) | (simp [hne2]; done)), by simpa using block_lt_of_cell c7⟩, ⟨(two_set hne c8).trans (by first | (simp; done) | (simp [hne]; done) | (simp [hne2]; done)), by simpa using block_lt_of_cell c8⟩, ⟨(two_set hne c9).trans (by first | (simp; done) | (simp [hne]; done) | (simp [hne2]; done)), by simpa using block_lt_of_cell c9⟩, ⟨(two_set hne c10).trans (by first | (simp; done) | (simp [hne]; done) | (simp [hne2]; done)), by simpa using block_lt_of_cell c10⟩, ⟨(two_set hne c11).trans (by first | (simp; done) | (simp [hne]; done) | (simp [hne2]; done)), by simpa using block_lt_of_cell c11⟩, ⟨(two_set hne c12).trans (by first | (simp; done) | (simp [hne]; done) | (simp [hne2]; done)), by simpa using block_lt_of_cell c12⟩, ⟨(two_set hne c13).trans (by first | (simp; done) | (simp [hne]; done) | (simp [hne2]; done)), by simpa using block_lt_of_cell c13⟩, ⟨(two_set hne c14).trans (by first | (simp; done) | (simp [hne]; done) | (simp [hne2]; done)), by simpa using block_lt_of_cell c14⟩, trivial⟩, (K.2.setCell l1 _).setCell l2 _⟩
      clear K x1 x2 x3 x4 x5 x6 x7 x8 c0 c1 c2 c3 c4 c5 c6 c7 c8 c9 c10 c11 c12 c13 c14
      generalize (wc.setCell ⟨B1, 2, none⟩ (.int .u8 ((N (BitVec.ofInt 8 tv)).tmod 16))).setCell ⟨B2, 2, none⟩ (.int .u8 0) = W2 at *
      have q0 : ∀ z : Held (Keeps w [(B1, 0, .int .u8 (N op)), (B1, 1, .int .u8 d), (B1, 2, .int .u8 ((N (BitVec.ofInt 8 tv)).tmod 16)), (B1, 3, .int .i16 off), (B1, 4, .int .i32 imm), (B2, 0, .int .u8 (N op)), (B2, 1, .int .u8 d), (B2, 2, .int .u8 0), (B2, 3, .int .i16 off), (B2, 4, .int .i32 imm)]), z.w.cell? ⟨B1, 0, none⟩ = some _ := fun z => z.h.1.get 0 _ rfl
      have q1 : ∀ z : Held (Keeps w [(B1, 0, .int .u8 (N op)), (B1, 1, .int .u8 d), (B1, 2, .int .u8 ((N (BitVec.ofInt 8 tv)).tmod 16)), (B1, 3, .int .i16 off), (B1, 4, .int .i32 imm), (B2, 0, .int .u8 (N op)), (B2, 1, .int .u8 d), (B2, 2, .int .u8 0), (B2, 3, .int .i16 off), (B2, 4, .int .i32 imm)]), z.w.cell? ⟨B1, 1, none⟩ = some _ := fun z => z.h.1.get 1 _ rfl
      have q2 : ∀ z : Held (Keeps w [(B1, 0, .int .u8 (N op)), (B1, 1, .int .u8 d), (B1, 2, .int .u8 ((N (BitVec.ofInt 8 tv)).tmod 16)), (B1, 3, .int .i16 off), (B1, 4, .int .i32 imm), (B2, 0, .int .u8 (N op)), (B2, 1, .int .u8 d), (B2, 2, .int .u8 0), (B2, 3, .int .i16 off), (B2, 4, .int .i32 imm)]), z.w.cell? ⟨B1, 2, none⟩ = some _ := fun z => z.h.1.get 2 _ rfl
      have q3 : ∀ z : Held (Keeps w [(B1, 0, .int .u8 (N op)), (B1, 1, .int .u8 d), (B1, 2, .int .u8 ((N (BitVec.ofInt 8 tv)).tmod 16)), (B1, 3, .int .i16 off), (B1, 4, .int .i32 imm), (B2, 0, .int .u8 (N op)), (B2, 1, .int .u8 d), (B2, 2, .int .u8 0), (B2, 3, .int .i16 off), (B2, 4, .int .i32 imm)]), z.w.cell? ⟨B1, 3, none⟩ = some _ := fun z => z.h.1.get 3 _ rfl
      have q4 : ∀ z : Held (Keeps w [(B1, 0, .int .u8 (N op)), (B1, 1, .int .u8 d), (B1, 2, .int .u8 ((N (BitVec.ofInt 8 tv)).tmod 16)), (B1, 3, .int .i16 off), (B1, 4, .int .i32 imm), (B2, 0, .int .u8 (N op)), (B2, 1, .int .u8 d), (B2, 2, .int .u8 0), (B2, 3, .int .i16 off), (B2, 4, .int .i32 imm)]), z.w.cell? ⟨B1, 4, none⟩ = some _ := fun z => z.h.1.get 4 _ rfl
      have q5 : ∀ z : Held (Keeps w [(B1, 0, .int .u8 (N op)), (B1, 1, .int .u8 d), (B1, 2, .int .u8 ((N (BitVec.ofInt 8 tv)).tmod 16)), (B1, 3, .int .i16 off), (B1, 4, .int .i32 imm), (B2, 0, .int .u8 (N op)), (B2, 1, .int .u8 d), (B2, 2, .int .u8 0), (B2, 3, .int .i16 off), (B2, 4, .int .i32 imm)]), z.w.cell? ⟨B2, 0, none⟩ = some _ := fun z => z.h.1.get 5 _ rfl
      have q6 : ∀ z : Held (Keeps w [(B1, 0, .int .u8 (N op)), (B1, 1, .int .u8 d), (B1, 2, .int .u8 ((N (BitVec.ofInt 8 tv)).tmod 16)), (B1, 3, .int .i16 off), (B1, 4, .int .i32 imm), (B2, 0, .int .u8 (N op)), (B2, 1, .int .u8 d), (B2, 2, .int .u8 0), (B2, 3, .int .i16 off), (B2, 4, .int .i32 imm)]), z.w.cell? ⟨B2, 1, none⟩ = some _ := fun z => z.h.1.get 6 _ rfl
      have q7 : ∀ z : Held (Keeps w [(B1, 0, .int .u8 (N op)), (B1, 1, .int .u8 d), (B1, 2, .int .u8 ((N (BitVec.ofInt 8 tv)).tmod 16)), (B1, 3, .int .i16 off), (B1, 4, .int .i32 imm), (B2, 0, .int .u8 (N op)), (B2, 1, .int .u8 d), (B2, 2, .int .u8 0), (B2, 3, .int .i16 off), (B2, 4, .int .i32 imm)]), z.w.cell? ⟨B2, 2, none⟩ = some _ := fun z => z.h.1.get 7 _ rfl
      have q8 : ∀ z : Held (Keeps w [(B1, 0, .int .u8 (N op)), (B1, 1, .int .u8 d), (B1, 2, .int .u8 ((N (BitVec.ofInt 8 tv)).tmod 16)), (B1, 3, .int .i16 off), (B1, 4, .int .i32 imm), (B2, 0, .int .u8 (N op)), (B2, 1, .int .u8 d), (B2, 2, .int .u8 0), (B2, 3, .int .i16 off), (B2, 4, .int .i32 imm)]), z.w.cell? ⟨B2, 3, none⟩ = some _ := fun z => z.h.1.get 8 _ rfl
      have q9 : ∀ z : Held (Keeps w [(B1, 0, .int .u8 (N op)), (B1, 1, .int .u8 d), (B1, 2, .int .u8 ((N (BitVec.ofInt 8 tv)).tmod 16)), (B1, 3, .int .i16 off), (B1, 4, .int .i32 imm), (B2, 0, .int .u8 (N op)), (B2, 1, .int .u8 d), (B2, 2, .int .u8 0), (B2, 3, .int .i16 off), (B2, 4, .int .i32 imm)]), z.w.cell? ⟨B2, 4, none⟩ = some _ := fun z => z.h.1.get 9 _ rfl
      have hcc := HC.out
      clear hc hcc
      refine wp_region_lex (Keeps w [(B1, 0, .int .u8 (N op)), (B1, 1, .int .u8 d), (B1, 2, .int .u8 ((N (BitVec.ofInt 8 tv)).tmod 16)), (B1, 3, .int .i16 off), (B1, 4, .int .i32 imm), (B2, 0, .int .u8 (N op)), (B2, 1, .int .u8 d), (B2, 2, .int .u8 0), (B2, 3, .int .i16 off), (B2, 4, .int .i32 imm)]) (by kernel_rfl) (by kernel_rfl) K2.drew (fun hNon => ?_)
      repeat (go_big_quiet_step ((go_at_call 16; exact held_callT HT.out (fun z hz => check_any _ _ _ _ _ _ z hz))))
      refine wpQuiet_nil ?_
      intro w5 K5
      clear hNon K2 q0 q1 q2 q3 q4 q5 q6 q7 q8 q9
      have HT5 := Lib.hid (HT.out.grown K5.2)
      obtain ⟨f, e | e | ⟨e, hd⟩⟩ := fields_1 HC.out ((N (BitVec.ofInt 8 tv)).tmod 16)
      · go_wp2_with (go_at_call 20; refine (checks_any _ HT5.out).mono ?_; rintro e w6 ⟨rfl, hg⟩)
        go_ret
        exact ⟨rfl, Grown.trans' K5.2 hg⟩
      · go_wp2_with (go_at_call 20; refine (checks_any _ HT5.out).mono ?_; rintro e w6 ⟨rfl, hg⟩)
        go_ret
        exact ⟨rfl, Grown.trans' K5.2 hg⟩
      · have kd : decide (s < 2) = true := by simpa using hd
        clear hd
        go_wp2_with (go_at_call 20; refine (checks_any _ HT5.out).mono ?_; rintro e w6 ⟨rfl, hg⟩)
        go_ret
        exact ⟨rfl, Grown.trans' K5.2 hg⟩
    · go_upto_region 17 with fail
      have K2 : Keeps w [(B1, 0, .int .u8 (N op)), (B1, 1, .int .u8 d), (B1, 2, .int .u8 s), (B1, 3, .int .i16 tv), (B1, 4, .int .i32 imm), (B2, 0, .int .u8 (N op)), (B2, 1, .int .u8 d), (B2, 2, .int .u8 s), (B2, 3, .int .i16 0), (B2, 4, .int .i32 imm)] ((wc.setCell ⟨B1, 3, none⟩ (.int .i16 tv)).setCell ⟨B2, 3, none⟩ (.int .i16 0)) := ⟨⟨⟨(two_set hne c5).trans (by first | (simp; done) | (simp [hne]; done) | (simp [hne2]; done)), by simpa using block_lt_of_cell c5⟩, ⟨(two_set hne c6).trans (by first | (simp; done) | (simp [hne]; done) | (simp [hne2]; done)), by simpa using block_lt_of_cell c6⟩, ⟨(two_set hne c7).trans (by first | (simp; done) | (simp [hne]; done) | (simp [hne2]; done)), by simpa using block_lt_of_cell c7⟩, ⟨(two_set hne c8).trans (by first | (simp; done) | (simp [hne]; done) | (simp [hne2]; done)), by simpa using block_lt_of_cell c8⟩, ⟨(two_set hne c9).trans (by first | (simp; done) | (simp [hne]; done) | (simp [hne2]; done)), by simpa using block_lt_of_cell c9⟩, ⟨(two_set hne c10).trans (by first | (simp; done) | (simp [hne]; done) | (simp [hne2]; done)), by simpa using block_lt_of_cell c10⟩, ⟨(two_set hne c11).trans (by first | (simp; done) | (simp [hne]; done) | (simp [hne2]; done)), by simpa using block_lt_of_cell c11⟩, ⟨(two_set hne c12).trans (by first | (simp; done) | (simp [hne]; done) | (simp [hne2]; done)), by simpa using block_lt_of_cell c12⟩, ⟨(two_set hne c13).trans (by first | (simp; done) | (simp [hne]; done) | (simp [hne2]; done)), by simpa using block_lt_of_cell c13⟩, ⟨(two_set hne c14).trans (by first | (simp; done) | (simp [hne]; done) | (simp [hne2]; done)), by simpa using block_lt_of_cell c14⟩, trivial⟩, (K.2.setCell l1 _).setCell l2 _⟩
      clear K x1 x2 x3 x4 x5 x6 x7 x8 c0 c1 c2 c3 c4 c5 c6 c7 c8 c9 c10 c11 c12 c13 c14
      generalize (wc.setCell ⟨B1, 3, none⟩ (.int .i16 tv)).setCell ⟨B2, 3, none⟩ (.int .i16 0) = W2 at *
      have q0 : ∀ z : Held (Keeps w [(B1, 0, .int .u8 (N op)), (B1, 1, .int .u8 d), (B1, 2, .int .u8 s), (B1, 3, .int .i16 tv), (B1, 4, .int .i32 imm), (B2, 0, .int .u8 (N op)), (B2, 1, .int .u8 d), (B2, 2, .int .u8 s), (B2, 3, .int .i16 0), (B2, 4, .int .i32 imm)]), z.w.cell? ⟨B1, 0, none⟩ = some _ := fun z => z.h.1.get 0 _ rfl
      have q1 : ∀ z : Held (Keeps w [(B1, 0, .int .u8 (N op)), (B1, 1, .int .u8 d), (B1, 2, .int .u8 s), (B1, 3, .int .i16 tv), (B1, 4, .int .i32 imm), (B2, 0, .int .u8 (N op)), (B2, 1, .int .u8 d), (B2, 2, .int .u8 s), (B2, 3, .int .i16 0), (B2, 4, .int .i32 imm)]), z.w.cell? ⟨B1, 1, none⟩ = some _ := fun z => z.h.1.get 1 _ rfl
      have q2 : ∀ z : Held (Keeps w [(B1, 0, .int .u8 (N op)), (B1, 1, .int .u8 d), (B1, 2, .int .u8 s), (B1, 3, .int .i16 tv), (B1, 4, .int .i32 imm), (B2, 0, .int .u8 (N op)), (B2, 1, .int .u8 d), (B2, 2, .int .u8 s), (B2, 3, .int .i16 0), (B2, 4, .int .i32 imm)]), z.w.cell? ⟨B1, 2, none⟩ = some _ := fun z => z.h.1.get 2 _ rfl
      have q3 : ∀ z : Held (Keeps w [(B1, 0, .int .u8 (N op)), (B1, 1, .int .u8 d), (B1, 2, .int .u8 s), (B1, 3, .int .i16 tv), (B1, 4, .int .i32 imm), (B2, 0, .int .u8 (N op)), (B2, 1, .int .u8 d), (B2, 2, .int .u8 s), (B2, 3, .int .i16 0), (B2, 4, .int .i32 imm)]), z.w.cell? ⟨B1, 3, none⟩ = some _ := fun z => z.h.1.get 3 _ rfl
      have q4 : ∀ z : Held (Keeps w [(B1, 0, .int .u8 (N op)), (B1, 1, .int .u8 d), (B1, 2, .int .u8 s), (B1, 3, .int .i16 tv), (B1, 4, .int .i32 imm), (B2, 0, .int .u8 (N op)), (B2, 1, .int .u8 d), (B2, 2, .int .u8 s), (B2, 3, .int .i16 0), (B2, 4, .int .i32 imm)]), z.w.cell? ⟨B1, 4, none⟩ = some _ := fun z => z.h.1.get 4 _ rfl
      have q5 : ∀ z : Held (Keeps w [(B1, 0, .int .u8 (N op)), (B1, 1, .int .u8 d), (B1, 2, .int .u8 s), (B1, 3, .int .i16 tv), (B1, 4, .int .i32 imm), (B2, 0, .int .u8 (N op)), (B2, 1, .int .u8 d), (B2, 2, .int .u8 s), (B2, 3, .int .i16 0), (B2, 4, .int .i32 imm)]), z.w.cell? ⟨B2, 0, none⟩ = some _ := fun z => z.h.1.get 5 _ rfl
      have q6 : ∀ z : Held (Keeps w [(B1, 0, .int .u8 (N op)), (B1, 1, .int .u8 d), (B1, 2, .int .u8 s), (B1, 3, .int .i16 tv), (B1, 4, .int .i32 imm), (B2, 0, .int .u8 (N op)), (B2, 1, .int .u8 d), (B2, 2, .int .u8 s), (B2, 3, .int .i16 0), (B2, 4, .int .i32 imm)]), z.w.cell? ⟨B2, 1, none⟩ = some _ := fun z => z.h.1.get 6 _ rfl
      have q7 : ∀ z : Held (Keeps w [(B1, 0, .int .u8 (N op)), (B1, 1, .int .u8 d), (B1, 2, .int .u8 s), (B1, 3, .int .i16 tv), (B1, 4, .int .i32 imm), (B2, 0, .int .u8 (N op)), (B2, 1, .int .u8 d), (B2, 2, .int .u8 s), (B2, 3, .int .i16 0), (B2, 4, .int .i32 imm)]), z.w.cell? ⟨B2, 2, none⟩ = some _ := fun z => z.h.1.get 7 _ rfl
      have q8 : ∀ z : Held (Keeps w [(B1, 0, .int .u8 (N op)), (B1, 1, .int .u8 d), (B1, 2, .int .u8 s), (B1, 3, .int .i16 tv), (B1, 4, .int .i32 imm), (B2, 0, .int .u8 (N op)), (B2, 1, .int .u8 d), (B2, 2, .int .u8 s), (B2, 3, .int .i16 0), (B2, 4, .int .i32 imm)]), z.w.cell? ⟨B2, 3, none⟩ = some _ := fun z => z.h.1.get 8 _ rfl
      have q9 : ∀ z : Held (Keeps w [(B1, 0, .int .u8 (N op)), (B1, 1, .int .u8 d), (B1, 2, .int .u8 s), (B1, 3, .int .i16 tv), (B1, 4, .int .i32 imm), (B2, 0, .int .u8 (N op)), (B2, 1, .int .u8 d), (B2, 2, .int .u8 s), (B2, 3, .int .i16 0), (B2, 4, .int .i32 imm)]), z.w.cell? ⟨B2, 4, none⟩ = some _ := fun z => z.h.1.get 9 _ rfl
      have hcc := HC.out
      clear hc hcc
      refine wp_region_lex (Keeps w [(B1, 0, .int .u8 (N op)), (B1, 1, .int .u8 d), (B1, 2, .int .u8 s), (B1, 3, .int .i16 tv), (B1, 4, .int .i32 imm), (B2, 0, .int .u8 (N op)), (B2, 1, .int .u8 d), (B2, 2, .int .u8 s), (B2, 3, .int .i16 0), (B2, 4, .int .i32 imm)]) (by kernel_rfl) (by kernel_rfl) K2.drew (fun hNon => ?_)
      repeat (go_big_quiet_step ((go_at_call 16; exact held_callT HT.out (fun z hz => check_any _ _ _ _ _ _ z hz))))
      refine wpQuiet_nil ?_
      intro w5 K5
      clear hNon K2 q0 q1 q2 q3 q4 q5 q6 q7 q8 q9
      have HT5 := Lib.hid (HT.out.grown K5.2)
      obtain ⟨f, e | ⟨e, hd⟩⟩ := fields_2 HC.out tv
      · go_wp2_with (go_at_call 20; refine (checks_any _ HT5.out).mono ?_; rintro e w6 ⟨rfl, hg⟩)
        go_ret
        exact ⟨rfl, Grown.trans' K5.2 hg⟩
      · have kd : (off == 0) = true := by simpa using hd
        clear hd
        go_wp2_with (go_at_call 20; refine (checks_any _ HT5.out).mono ?_; rintro e w6 ⟨rfl, hg⟩)
        go_ret
        exact ⟨rfl, Grown.trans' K5.2 hg⟩
    · go_upto_region 17 with fail
      have K2 : Keeps w [(B1, 0, .int .u8 (N op)), (B1, 1, .int .u8 d), (B1, 2, .int .u8 s), (B1, 3, .int .i16 off), (B1, 4, .int .i32 tv), (B2, 0, .int .u8 (N op)), (B2, 1, .int .u8 d), (B2, 2, .int .u8 s), (B2, 3, .int .i16 off), (B2, 4, .int .i32 0)] ((wc.setCell ⟨B1, 4, none⟩ (.int .i32 tv)).setCell ⟨B2, 4, none⟩ (.int .i32 0)) := ⟨⟨⟨(two_set hne c5).trans (by first | (simp; done) | (simp [hne]; done) | (simp [hne2]; done)), by simpa using block_lt_of_cell c5⟩, ⟨(two_set hne c6).trans (by first | (simp; done) | (simp [hne]; done) | (simp [hne2]; done)), by simpa using block_lt_of_cell c6⟩, ⟨(two_set hne c7).trans (by first | (simp; done) | (simp [hne]; done) | (simp [hne2]; done)), by simpa using block_lt_of_cell c7⟩, ⟨(two_set hne c8).trans (by first | (simp; done) | (simp [hne]; done) | (simp [hne2]; done)), by simpa using block_lt_of_cell c8⟩, ⟨(two_set hne c9).trans (by first | (simp; done) | (simp [hne]; done) | (simp [hne2]; done)), by simpa using block_lt_of_cell c9⟩, ⟨(two_set hne c10).trans (by first | (simp; done) | (simp [hne]; done) | (simp [hne2]; done)), by simpa using block_lt_of_cell c10⟩, ⟨(two_set hne c11).trans (by first | (simp; done) | (simp [hne]; done) | (simp [hne2]; done)), by simpa using block_lt_of_cell c11⟩, ⟨(two_set hne c12).trans (by first | (simp; done) | (simp [hne]; done) | (simp [hne2]; done)), by simpa using block_lt_of_cell c12⟩, ⟨(two_set hne c13).trans (by first | (simp; done) | (simp [hne]; done) | (simp [hne2]; done)), by simpa using block_lt_of_cell c13⟩, ⟨(two_set hne c14).trans (by first | (simp; done) | (simp [hne]; done) | (simp [hne2]; done)), by simpa using block_lt_of_cell c14⟩, trivial⟩, (K.2.setCell l1 _).setCell l2 _⟩
      clear K x1 x2 x3 x4 x5 x6 x7 x8 c0 c1 c2 c3 c4 c5 c6 c7 c8 c9 c10 c11 c12 c13 c14
      generalize (wc.setCell ⟨B1, 4, none⟩ (.int .i32 tv)).setCell ⟨B2, 4, none⟩ (.int .i32 0) = W2 at *
      have q0 : ∀ z : Held (Keeps w [(B1, 0, .int .u8 (N op)), (B1, 1, .int .u8 d), (B1, 2, .int .u8 s), (B1, 3, .int .i16 off), (B1, 4, .int .i32 tv), (B2, 0, .int .u8 (N op)), (B2, 1, .int .u8 d), (B2, 2, .int .u8 s), (B2, 3, .int .i16 off), (B2, 4, .int .i32 0)]), z.w.cell? ⟨B1, 0, none⟩ = some _ := fun z => z.h.1.get 0 _ rfl
      have q1 : ∀ z : Held (Keeps w [(B1, 0, .int .u8 (N op)), (B1, 1, .int .u8 d), (B1, 2, .int .u8 s), (B1, 3, .int .i16 off), (B1, 4, .int .i32 tv), (B2, 0, .int .u8 (N op)), (B2, 1, .int .u8 d), (B2, 2, .int .u8 s), (B2, 3, .int .i16 off), (B2, 4, .int .i32 0)]), z.w.cell? ⟨B1, 1, none⟩ = some _ := fun z => z.h.1.get 1 _ rfl
      have q2 : ∀ z : Held (Keeps w [(B1, 0, .int .u8 (N op)), (B1, 1, .int .u8 d), (B1, 2, .int .u8 s), (B1, 3, .int .i16 off), (B1, 4, .int .i32 tv), (B2, 0, .int .u8 (N op)), (B2, 1, .int .u8 d), (B2, 2, .int .u8 s), (B2, 3, .int .i16 off), (B2, 4, .int .i32 0)]), z.w.cell? ⟨B1, 2, none⟩ = some _ := fun z => z.h.1.get 2 _ rfl
      have q3 : ∀ z : Held (Keeps w [(B1, 0, .int .u8 (N op)), (B1, 1, .int .u8 d), (B1, 2, .int .u8 s), (B1, 3, .int .i16 off), (B1, 4, .int .i32 tv), (B2, 0, .int .u8 (N op)), (B2, 1, .int .u8 d), (B2, 2, .int .u8 s), (B2, 3, .int .i16 off), (B2, 4, .int .i32 0)]), z.w.cell? ⟨B1, 3, none⟩ = some _ := fun z => z.h.1.get 3 _ rfl
      have q4 : ∀ z : Held (Keeps w [(B1, 0, .int .u8 (N op)), (B1, 1, .int .u8 d), (B1, 2, .int .u8 s), (B1, 3, .int .i16 off), (B1, 4, .int .i32 tv), (B2, 0, .int .u8 (N op)), (B2, 1, .int .u8 d), (B2, 2, .int .u8 s), (B2, 3, .int .i16 off), (B2, 4, .int .i32 0)]), z.w.cell? ⟨B1, 4, none⟩ = some _ := fun z => z.h.1.get 4 _ rfl
      have q5 : ∀ z : Held (Keeps w [(B1, 0, .int .u8 (N op)), (B1, 1, .int .u8 d), (B1, 2, .int .u8 s), (B1, 3, .int .i16 off), (B1, 4, .int .i32 tv), (B2, 0, .int .u8 (N op)), (B2, 1, .int .u8 d), (B2, 2, .int .u8 s), (B2, 3, .int .i16 off), (B2, 4, .int .i32 0)]), z.w.cell? ⟨B2, 0, none⟩ = some _ := fun z => z.h.1.get 5 _ rfl
      have q6 : ∀ z : Held (Keeps w [(B1, 0, .int .u8 (N op)), (B1, 1, .int .u8 d), (B1, 2, .int .u8 s), (B1, 3, .int .i16 off), (B1, 4, .int .i32 tv), (B2, 0, .int .u8 (N op)), (B2, 1, .int .u8 d), (B2, 2, .int .u8 s), (B2, 3, .int .i16 off), (B2, 4, .int .i32 0)]), z.w.cell? ⟨B2, 1, none⟩ = some _ := fun z => z.h.1.get 6 _ rfl
      have q7 : ∀ z : Held (Keeps w [(B1, 0, .int .u8 (N op)), (B1, 1, .int .u8 d), (B1, 2, .int .u8 s), (B1, 3, .int .i16 off), (B1, 4, .int .i32 tv), (B2, 0, .int .u8 (N op)), (B2, 1, .int .u8 d), (B2, 2, .int .u8 s), (B2, 3, .int .i16 off), (B2, 4, .int .i32 0)]), z.w.cell? ⟨B2, 2, none⟩ = some _ := fun z => z.h.1.get 7 _ rfl
      have q8 : ∀ z : Held (Keeps w [(B1, 0, .int .u8 (N op)), (B1, 1, .int .u8 d), (B1, 2, .int .u8 s), (B1, 3, .int .i16 off), (B1, 4, .int .i32 tv), (B2, 0, .int .u8 (N op)), (B2, 1, .int .u8 d), (B2, 2, .int .u8 s), (B2, 3, .int .i16 off), (B2, 4, .int .i32 0)]), z.w.cell? ⟨B2, 3, none⟩ = some _ := fun z => z.h.1.get 8 _ rfl
      have q9 : ∀ z : Held (Keeps w [(B1, 0, .int .u8 (N op)), (B1, 1, .int .u8 d), (B1, 2, .int .u8 s), (B1, 3, .int .i16 off), (B1, 4, .int .i32 tv), (B2, 0, .int .u8 (N op)), (B2, 1, .int .u8 d), (B2, 2, .int .u8 s), (B2, 3, .int .i16 off), (B2, 4, .int .i32 0)]), z.w.cell? ⟨B2, 4, none⟩ = some _ := fun z => z.h.1.get 9 _ rfl
      have hcc := HC.out
      clear hc hcc
      refine wp_region_lex (Keeps w [(B1, 0, .int .u8 (N op)), (B1, 1, .int .u8 d), (B1, 2, .int .u8 s), (B1, 3, .int .i16 off), (B1, 4, .int .i32 tv), (B2, 0, .int .u8 (N op)), (B2, 1, .int .u8 d), (B2, 2, .int .u8 s), (B2, 3, .int .i16 off), (B2, 4, .int .i32 0)]) (by kernel_rfl) (by kernel_rfl) K2.drew (fun hNon => ?_)
      repeat (go_big_quiet_step ((go_at_call 16; exact held_callT HT.out (fun z hz => check_any _ _ _ _ _ _ z hz))))
      refine wpQuiet_nil ?_
      intro w5 K5
      clear hNon K2 q0 q1 q2 q3 q4 q5 q6 q7 q8 q9
      have HT5 := Lib.hid (HT.out.grown K5.2)
      obtain ⟨f | f, e | ⟨e, hd⟩ | e⟩ := fields_3 HC.out tv
      · go_wp2_with (go_at_call 20; refine (checks_any _ HT5.out).mono ?_; rintro e w6 ⟨rfl, hg⟩)
        go_ret
        exact ⟨rfl, Grown.trans' K5.2 hg⟩
      · have kd : (imm == 0) = true := by simpa using hd
        clear hd
        go_wp2_with (go_at_call 20; refine (checks_any _ HT5.out).mono ?_; rintro e w6 ⟨rfl, hg⟩)
        go_ret
        exact ⟨rfl, Grown.trans' K5.2 hg⟩
      · go_wp2_with (go_at_call 20; refine (checks_any _ HT5.out).mono ?_; rintro e w6 ⟨rfl, hg⟩)
        go_ret
        exact ⟨rfl, Grown.trans' K5.2 hg⟩
      · go_wp2_with (go_at_call 20; refine (checks_any _ HT5.out).mono ?_; rintro e w6 ⟨rfl, hg⟩)
        go_ret
        exact ⟨rfl, Grown.trans' K5.2 hg⟩
      · have kd : (imm == 0) = true := by simpa using hd
        clear hd
        go_wp2_with (go_at_call 20; refine (checks_any _ HT5.out).mono ?_; rintro e w6 ⟨rfl, hg⟩)
        go_ret
        exact ⟨rfl, Grown.trans' K5.2 hg⟩
      · go_wp2_with (go_at_call 20; refine (checks_any _ HT5.out).mono ?_; rintro e w6 ⟨rfl, hg⟩)
        go_ret
        exact ⟨rfl, Grown.trans' K5.2 hg⟩

theorem insnsFields_walk (op : B8) (d s off imm tv : Int) (wi : B8) (d0 : 0 ≤ d) (d1 : d ≤ 255) (s0 : 0 ≤ s) (s1 : s ≤ 255) (o0 : -32768 ≤ off) (o1 : off ≤ 32767) (i0 : -2147483648 ≤ imm) (i1 : imm ≤ 2147483647) (t0 : -32768 ≤ tv) (t1 : tv ≤ 32767) (w : World) (hT : TabAt w) :
    Calls Tryd.prog 7 #[.agg #[.int .u8 (N op), .int .u8 d, .int .u8 s, .int .i16 off, .int .i32 imm], .int .u8 (N wi), .int .i16 tv] w fun e w' => e = .returned (.bool true) ∧ Grown w w' := by
  by_cases h : checkS op d s off imm true = 0
  · by_cases h2 : tv = 0
    · exact fields_early op d s off imm _ tv (.inr h2) w hT
    · exact fields_late op d s off imm tv wi h h2 d0 d1 s0 s1 o0 o1 i0 i1 t0 t1 w hT
  · exact fields_early op d s off imm _ tv (.inl h) w hT
end Go.Proofs.YthmebodklbhljaaDoor
