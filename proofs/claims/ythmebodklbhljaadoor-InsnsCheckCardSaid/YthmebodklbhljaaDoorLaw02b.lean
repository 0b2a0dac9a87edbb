/-
  The walk of the law InsnsMany.
-/
import Derived.Test.YthmebodklbhljaaDoorLaw02a
namespace Go.Proofs.YthmebodklbhljaaDoor
open Go.RowKit
attribute [local go_sem] u8_wrap u8_and ofInt_N ofInt_Nw BitVec.ofInt_natCast

/-- How many of the first k bytes are so. -/
def cntK (p : B8 → Bool) : Nat → Nat
  | 0 => 0
  | k + 1 => cntK p k + (if p (BitVec.ofNat 8 k) = true then 1 else 0)
theorem cntK_le (p : B8 → Bool) : ∀ k, cntK p k ≤ k
  | 0 => Nat.le_refl _
  | k + 1 => by
    have := cntK_le p k
    rw [cntK]
    split <;> omega
theorem cntK_yes {p : B8 → Bool} {k : Nat} (h : p (BitVec.ofNat 8 k) = true) : cntK p (k + 1) = cntK p k + 1 := by rw [cntK, if_pos h]
theorem cntK_no {p : B8 → Bool} {k : Nat} (h : p (BitVec.ofNat 8 k) = false) : cntK p (k + 1) = cntK p k := by rw [cntK, if_neg (by rw [h]; decide)]; rfl
theorem check_ne (op : B8) (d s off imm : Int) (inner : Bool) : (checkS op d s off imm inner != 20) = knownS op inner := by
  unfold checkS
  cases h : knownS op inner
  · rfl
  · rw [if_neg (by decide)]
    split
    · rfl
    · split
      · rfl
      · split
        · rfl
        · split <;> rfl
theorem out_all : ((cntK (fun z => knownS z false) 256 : Nat) : Int) = 110 := by decide +kernel
theorem in_all : ((cntK (fun z => knownS z true) 256 : Nat) : Int) = 111 := by decide +kernel
theorem sized_all : ((cntK (fun z => decide (0 < sizeS z)) 256 : Nat) : Int) = 12 := by decide +kernel
theorem set_op {w wr : World} {x y d s off imm : Int} (K : Keeps w [(w.heap.size, 0, .int .u8 (x)), (w.heap.size, 1, .int .u8 d), (w.heap.size, 2, .int .u8 s), (w.heap.size, 3, .int .i16 off), (w.heap.size, 4, .int .i32 imm)] wr) : Keeps w [(w.heap.size, 0, .int .u8 (y)), (w.heap.size, 1, .int .u8 d), (w.heap.size, 2, .int .u8 s), (w.heap.size, 3, .int .i16 off), (w.heap.size, 4, .int .i32 imm)] (wr.setCell ⟨w.heap.size, 0, none⟩ (.int .u8 y)) := by
  obtain ⟨⟨⟨a0, s0⟩, ⟨a1, s1⟩, ⟨a2, s2⟩, ⟨a3, s3⟩, ⟨a4, s4⟩, _⟩, hg⟩ := K
  have oth : ∀ (k : Nat) (v : Value), ¬ k = 0 → wr.cell? ⟨w.heap.size, k, none⟩ = some v → (wr.setCell ⟨w.heap.size, 0, none⟩ (.int .u8 y)).cell? ⟨w.heap.size, k, none⟩ = some v := fun k v hk hv => by
    rw [World.cell?_setCell_other _ _ _ _ (by intro h; cases h; exact hk rfl)]
    exact hv
  exact ⟨⟨⟨World.cell?_setCell_same _ _ _ a0, by simpa using s0⟩, ⟨oth 1 _ (by omega) a1, by simpa using s1⟩, ⟨oth 2 _ (by omega) a2, by simpa using s2⟩, ⟨oth 3 _ (by omega) a3, by simpa using s3⟩, ⟨oth 4 _ (by omega) a4, by simpa using s4⟩, trivial⟩, hg.setCell (Nat.le_refl _) _⟩

set_option maxRecDepth 100000 in
set_option maxHeartbeats 4000000 in
theorem insnsMany_walk (op : B8) (d s off imm : Int) (w : World) (hT : TabAt w) :
    Calls Tryd.prog 8 #[.agg #[.int .u8 (N op), .int .u8 d, .int .u8 s, .int .i16 off, .int .i32 imm]] w fun e w' => e = .returned (.bool true) ∧ Grown w w' := by
  have HT := Lib.hid hT
  clear hT
  go_enter Tryd.func8, Tryd.ntmps8
  go_wp2_with fail
  go_loopw [3, 4, 5, 6] (fun o n z i wr => ∃ k : Nat, k ≤ 256 ∧ i = .int .i64 (k : Int) ∧ o = .int .i64 (cntK (fun z => knownS z false) k : Nat) ∧ n = .int .i64 (cntK (fun z => knownS z true) k : Nat) ∧ z = .int .i64 (cntK (fun z => decide (0 < sizeS z)) k : Nat) ∧ ∃ x : Int, Keeps w [(w.heap.size, 0, .int .u8 (x)), (w.heap.size, 1, .int .u8 d), (w.heap.size, 2, .int .u8 s), (w.heap.size, 3, .int .i16 off), (w.heap.size, 4, .int .i32 imm)] wr) (fun _ _ _ i _ => (256 - intOf i).toNat)
  case atStart => exact ⟨0, by omega, rfl, rfl, rfl, rfl, N op, ⟨⟨⟨by simp [go_sem], by simp⟩, ⟨by simp [go_sem], by simp⟩, ⟨by simp [go_sem], by simp⟩, ⟨by simp [go_sem], by simp⟩, ⟨by simp [go_sem], by simp⟩, trivial⟩, by go_grown⟩⟩
  case round =>
    obtain ⟨k, hk, rfl, rfl, rfl, rfl, x, K⟩ := hrel
    have b1 := cntK_le (fun z => knownS z false) k
    have b2 := cntK_le (fun z => knownS z true) k
    have b3 := cntK_le (fun z => decide (0 < sizeS z)) k
    by_cases hlt : k < 256
    · have c0 : wr.cell? ⟨w.heap.size, 0, none⟩ = some (.int .u8 x) := K.1.get 0 _ rfl
      have f0 : wr.frozen? ⟨w.heap.size, 0, none⟩ = false := (K.2.2.1 _).trans (frozI_new w 0)
      go_upto_region 6 with fail
      replace K := set_op (y := N (BitVec.ofNat 8 k)) K
      clear c0 f0
      generalize wr.setCell ⟨w.heap.size, 0, none⟩ (.int .u8 (N (BitVec.ofNat 8 k))) = W1 at *
      have c0 : W1.cell? ⟨w.heap.size, 0, none⟩ = some _ := K.1.get 0 _ rfl
      have c1 : W1.cell? ⟨w.heap.size, 1, none⟩ = some _ := K.1.get 1 _ rfl
      have c2 : W1.cell? ⟨w.heap.size, 2, none⟩ = some _ := K.1.get 2 _ rfl
      have c3 : W1.cell? ⟨w.heap.size, 3, none⟩ = some _ := K.1.get 3 _ rfl
      have c4 : W1.cell? ⟨w.heap.size, 4, none⟩ = some _ := K.1.get 4 _ rfl
      have n1 := check_ne (BitVec.ofNat 8 k) d s off imm false
      have n2 := check_ne (BitVec.ofNat 8 k) d s off imm true
      cases h1 : knownS (BitVec.ofNat 8 k) false <;> cases h2 : knownS (BitVec.ofNat 8 k) true <;> cases h3 : decide (0 < sizeS (BitVec.ofNat 8 k))
      all_goals
        rw [h1] at n1
        rw [h2] at n2
        have H1 := Lib.hid h1
        have H2 := Lib.hid h2
        have H3 := Lib.hid h3
        clear h1 h2
        go_wp2_with (first | (go_at_call 16; refine (check_any _ _ _ _ _ _ _ (HT.out.grown K.2)).mono ?_; rintro e wn ⟨rfl, g⟩; replace K := K.grown g; clear g c0 c1 c2 c3 c4; have c0 : wn.cell? ⟨w.heap.size, 0, none⟩ = some _ := K.1.get 0 _ rfl; have c1 : wn.cell? ⟨w.heap.size, 1, none⟩ = some _ := K.1.get 1 _ rfl; have c2 : wn.cell? ⟨w.heap.size, 2, none⟩ = some _ := K.1.get 2 _ rfl; have c3 : wn.cell? ⟨w.heap.size, 3, none⟩ = some _ := K.1.get 3 _ rfl; have c4 : wn.cell? ⟨w.heap.size, 4, none⟩ = some _ := K.1.get 4 _ rfl) | (go_at_call 18; refine (size_any _ _ (HT.out.grown K.2)).mono ?_; rintro e wn ⟨rfl, g⟩; replace K := K.grown g; clear g c0 c1 c2 c3 c4; have c0 : wn.cell? ⟨w.heap.size, 0, none⟩ = some _ := K.1.get 0 _ rfl; have c1 : wn.cell? ⟨w.heap.size, 1, none⟩ = some _ := K.1.get 1 _ rfl; have c2 : wn.cell? ⟨w.heap.size, 2, none⟩ = some _ := K.1.get 2 _ rfl; have c3 : wn.cell? ⟨w.heap.size, 3, none⟩ = some _ := K.1.get 3 _ rfl; have c4 : wn.cell? ⟨w.heap.size, 4, none⟩ = some _ := K.1.get 4 _ rfl))
        go_roundw
        case rel => exact ⟨k + 1, by omega, by go_num, by first | rw [cntK_yes H1.out]; go_num | rw [cntK_no H1.out], by first | rw [cntK_yes H2.out]; go_num | rw [cntK_no H2.out], by first | rw [cntK_yes H3.out]; go_num | rw [cntK_no H3.out], _, K⟩
        case measure => simp [intOf]; omega
    · obtain rfl : k = 256 := by omega
      have e1 := out_all
      have e2 := in_all
      have e3 := sized_all
      go_wp2_with (go_at_call 20; refine (checks_any _ (HT.out.grown K.2)).mono ?_; rintro e w6 ⟨rfl, hg⟩)
      go_ret
      exact ⟨rfl, Grown.trans' K.2 hg⟩
end Go.Proofs.YthmebodklbhljaaDoor
