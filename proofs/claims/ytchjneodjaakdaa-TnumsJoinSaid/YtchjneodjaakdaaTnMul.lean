/-
  The contract of tnums.Mul.
-/
import Derived.Test.YtchjneodjaakdaaTnBits
import Derived.Lib.Hide
namespace Go.Proofs.Ytchjneodjaakdaa
open Go.RowKit
attribute [local go_sem] u64_wrap BitVec.ofInt_add BitVec.ofInt_mul ofInt_sub' ofInt_N ofInt_Nw ofInt_pow ofInt_shl mul_shl1 u64_and u64_or u64_xor u64_andNot

set_option maxHeartbeats 1000000 in
theorem tn_addX (av am bv bm : W64) (w : World) : Calls Try.prog 14 #[.agg #[.int .u64 (N av), .int .u64 (N am)], .agg #[.int .u64 (N bv), .int .u64 (N bm)]] w fun e w' => e = .returned (.agg #[.int .u64 (N (tAdd av am bv bm).1), .int .u64 (N (tAdd av am bv bm).2)]) ∧
    w' = (((w.alloc (.cells #[.int .u64 (N av), .int .u64 (N am)] 25)).alloc (.cells #[.int .u64 (N bv), .int .u64 (N bm)] 25)).alloc (.cells #[.int .u64 (N (tAdd av am bv bm).1), .int .u64 (N (tAdd av am bv bm).2)] 25)).alloc (.cells #[.int .u64 (N (tAdd av am bv bm).1), .int .u64 (N (tAdd av am bv bm).2)] 25) := by
  go_enter Try.func14, Try.ntmps14
  go_wp2_with (go_at_call 51; refine (tn_ofX _ _ _).mono ?_; rintro e w' ⟨rfl, rfl⟩)
  go_returns
  exact ⟨rfl, rfl⟩

theorem tn_of0 (m : W64) (w : World) : Calls Try.prog 51 #[.int .u64 0, .int .u64 (N m)] w fun e w' => e = .returned (.agg #[.int .u64 (N (tOf 0#64 m).1), .int .u64 (N (tOf 0#64 m).2)]) ∧ w' = w.alloc (.cells #[.int .u64 (N (tOf 0#64 m).1), .int .u64 (N (tOf 0#64 m).2)] 25) := tn_ofX 0#64 m w
theorem tn_of0G (m : W64) (w : World) : Calls Try.prog 51 #[.int .u64 0, .int .u64 (N m)] w fun e w' => e = .returned (.agg #[.int .u64 (N (tOf 0#64 m).1), .int .u64 (N (tOf 0#64 m).2)]) ∧ Grown w w' := tn_of 0#64 m w
theorem tn_addS (av bv bm : W64) (w : World) : Calls Try.prog 14 #[.agg #[.int .u64 (N av), .int .u64 0], .agg #[.int .u64 (N bv), .int .u64 (N bm)]] w fun e w' => e = .returned (.agg #[.int .u64 (N (tAdd av 0#64 bv bm).1), .int .u64 (N (tAdd av 0#64 bv bm).2)]) ∧ Grown w w' := tn_add av 0#64 bv bm w
/-- What is added up of the first k bits. -/
def tMulL (av am bv bm : W64) : Nat → W64 × W64
  | 0 => (0#64, 0#64)
  | k + 1 =>
    if N (av &&& 1#64 <<< k) = 0 then
      if N (am &&& 1#64 <<< k) = 0 then tMulL av am bv bm k
      else tAdd (tMulL av am bv bm k).1 (tMulL av am bv bm k).2 (tOf 0#64 ((bv ||| bm) <<< k)).1 (tOf 0#64 ((bv ||| bm) <<< k)).2
    else tAdd (tMulL av am bv bm k).1 (tMulL av am bv bm k).2 (tOf 0#64 (bm <<< k)).1 (tOf 0#64 (bm <<< k)).2
def tMul (av am bv bm : W64) : W64 × W64 := tAdd (av * bv) 0#64 (tMulL av am bv bm 64).1 (tMulL av am bv bm 64).2

structure MulAt (w : World) (B : Nat) (av am bv bm : W64) (l : W64 × W64) (wr : World) : Prop where
  a0 : wr.cell? ⟨B, 0, none⟩ = some (.int .u64 (N av))
  a1 : wr.cell? ⟨B, 1, none⟩ = some (.int .u64 (N am))
  b0 : wr.cell? ⟨B + 1, 0, none⟩ = some (.int .u64 (N bv))
  b1 : wr.cell? ⟨B + 1, 1, none⟩ = some (.int .u64 (N bm))
  r0 : wr.cell? ⟨B + 1 + 1, 0, none⟩ = some (.int .u64 0)
  r1 : wr.cell? ⟨B + 1 + 1, 1, none⟩ = some (.int .u64 0)
  s0 : wr.cell? ⟨B + 1 + 1 + 1 + 1, 0, none⟩ = some (.int .u64 (N (av * bv)))
  s1 : wr.cell? ⟨B + 1 + 1 + 1 + 1, 1, none⟩ = some (.int .u64 0)
  l0 : wr.cell? ⟨B + 1 + 1 + 1 + 1 + 1, 0, none⟩ = some (.int .u64 (N l.1))
  l1 : wr.cell? ⟨B + 1 + 1 + 1 + 1 + 1, 1, none⟩ = some (.int .u64 (N l.2))
  fr : ∀ o, wr.frozen? ⟨B + 1 + 1, o, none⟩ = false
  fl : ∀ o, wr.frozen? ⟨B + 1 + 1 + 1 + 1 + 1, o, none⟩ = false
  sz : B + 1 + 1 + 1 + 1 + 1 < wr.heap.size
  gr : Grown w wr
  lo : w.heap.size ≤ B

theorem MulAt.drew {w : World} {B : Nat} {av am bv bm : W64} {l : W64 × W64} {wr : World} (h : MulAt w B av am bv bm l wr) : MulAt w B av am bv bm l wr.drew :=
  ⟨h.a0, h.a1, h.b0, h.b1, h.r0, h.r1, h.s0, h.s1, h.l0, h.l1, h.fr, h.fl, h.sz, h.gr, h.lo⟩
theorem MulAt.grown {w : World} {B : Nat} {av am bv bm : W64} {l : W64 × W64} {wr wx : World} (h : MulAt w B av am bv bm l wr) (g : Grown wr wx) : MulAt w B av am bv bm l wx := by
  have sz := h.sz
  exact ⟨grown_cellAt g (by show B < _; omega) h.a0, grown_cellAt g (by show B < _; omega) h.a1, grown_cellAt g (by show B + 1 < _; omega) h.b0, grown_cellAt g (by show B + 1 < _; omega) h.b1,
    grown_cellAt g (by show B + 1 + 1 < _; omega) h.r0, grown_cellAt g (by show B + 1 + 1 < _; omega) h.r1, grown_cellAt g (by show B + 1 + 1 + 1 + 1 < _; omega) h.s0, grown_cellAt g (by show B + 1 + 1 + 1 + 1 < _; omega) h.s1,
    grown_cellAt g sz h.l0, grown_cellAt g sz h.l1, fun o => (g.2.1 _).trans (h.fr o), fun o => (g.2.1 _).trans (h.fl o), Nat.lt_of_lt_of_le sz g.2.2, Grown.trans' h.gr g, h.lo⟩
theorem MulAt.store {w : World} {B : Nat} {av am bv bm : W64} {l : W64 × W64} {wr : World} (h : MulAt w B av am bv bm l wr) (m : W64 × W64) :
    MulAt w B av am bv bm m ((wr.setCell ⟨B + 1 + 1 + 1 + 1 + 1, 0, none⟩ (.int .u64 (N m.1))).setCell ⟨B + 1 + 1 + 1 + 1 + 1, 1, none⟩ (.int .u64 (N m.2))) := by
  have d0 : ∀ (b o : Nat) (v : Value), ¬ b = B + 1 + 1 + 1 + 1 + 1 → wr.cell? ⟨b, o, none⟩ = some v → ((wr.setCell ⟨B + 1 + 1 + 1 + 1 + 1, 0, none⟩ (.int .u64 (N m.1))).setCell ⟨B + 1 + 1 + 1 + 1 + 1, 1, none⟩ (.int .u64 (N m.2))).cell? ⟨b, o, none⟩ = some v := by
    intro b o v hb hv
    rw [World.cell?_setCell_other _ _ _ _ (by intro h; cases h; exact hb rfl), World.cell?_setCell_other _ _ _ _ (by intro h; cases h; exact hb rfl)]
    exact hv
  have e0 : ((wr.setCell ⟨B + 1 + 1 + 1 + 1 + 1, 0, none⟩ (.int .u64 (N m.1))).setCell ⟨B + 1 + 1 + 1 + 1 + 1, 1, none⟩ (.int .u64 (N m.2))).cell? ⟨B + 1 + 1 + 1 + 1 + 1, 0, none⟩ = some (.int .u64 (N m.1)) := by
    rw [World.cell?_setCell_other _ _ _ _ (by intro h; cases h)]
    exact World.cell?_setCell_same _ _ _ h.l0
  have e1 : ((wr.setCell ⟨B + 1 + 1 + 1 + 1 + 1, 0, none⟩ (.int .u64 (N m.1))).setCell ⟨B + 1 + 1 + 1 + 1 + 1, 1, none⟩ (.int .u64 (N m.2))).cell? ⟨B + 1 + 1 + 1 + 1 + 1, 1, none⟩ = some (.int .u64 (N m.2)) := by
    refine World.cell?_setCell_same _ _ _ (u := .int .u64 (N l.2)) ?_
    rw [World.cell?_setCell_other _ _ _ _ (by intro h; cases h)]
    exact h.l1
  have lo := h.lo
  exact ⟨d0 _ _ _ (by omega) h.a0, d0 _ _ _ (by omega) h.a1, d0 _ _ _ (by omega) h.b0, d0 _ _ _ (by omega) h.b1, d0 _ _ _ (by omega) h.r0, d0 _ _ _ (by omega) h.r1, d0 _ _ _ (by omega) h.s0, d0 _ _ _ (by omega) h.s1, e0, e1,
    fun o => by rw [World.frozen?_setCell, World.frozen?_setCell]; exact h.fr o, fun o => by rw [World.frozen?_setCell, World.frozen?_setCell]; exact h.fl o,
    by rw [World.size_setCell, World.size_setCell]; exact h.sz, (h.gr.setCell (by show _ ≤ B + 1 + 1 + 1 + 1 + 1; omega) _).setCell (by show _ ≤ B + 1 + 1 + 1 + 1 + 1; omega) _, h.lo⟩

set_option maxRecDepth 100000 in
set_option maxHeartbeats 2000000 in
theorem tn_mul (av am bv bm : W64) (w : World) : Calls Try.prog 16 #[.agg #[.int .u64 (N av), .int .u64 (N am)], .agg #[.int .u64 (N bv), .int .u64 (N bm)]] w fun e w' => e = .returned (.agg #[.int .u64 (N (tMul av am bv bm).1), .int .u64 (N (tMul av am bv bm).2)]) ∧ Grown w w' := by
  go_enter Try.func16, Try.ntmps16
  go_wp2
  have h0 : MulAt w w.heap.size av am bv bm (0#64, 0#64) ((((((w.alloc (.cells #[.int .u64 (N av), .int .u64 (N am)] 25)).alloc (.cells #[.int .u64 (N bv), .int .u64 (N bm)] 25)).alloc (.cells #[.int .u64 0, .int .u64 0] 25)).alloc (.cells #[.int .u64 (N (av * bv)), .int .u64 0] 25)).alloc (.cells #[.int .u64 (N (av * bv)), .int .u64 0] 25)).alloc (.cells #[.int .u64 0, .int .u64 0] 25)) := by
    refine ⟨?_, ?_, ?_, ?_, ?_, ?_, ?_, ?_, ?_, ?_, ?_, ?_, ?_, by go_grown, Nat.le_refl _⟩ <;> first | (simp [go_sem]; done) | (intro o; simp [go_sem]; done) | (simp [go_sem, N_ofNat]; done)
  generalize (((((w.alloc (.cells #[.int .u64 (N av), .int .u64 (N am)] 25)).alloc (.cells #[.int .u64 (N bv), .int .u64 (N bm)] 25)).alloc (.cells #[.int .u64 0, .int .u64 0] 25)).alloc (.cells #[.int .u64 (N (av * bv)), .int .u64 0] 25)).alloc (.cells #[.int .u64 (N (av * bv)), .int .u64 0] 25)).alloc (.cells #[.int .u64 0, .int .u64 0] 25) = W0 at *
  generalize w.heap.size = B at *
  go_loopw [16] (fun i wr => ∃ k : Nat, k ≤ 64 ∧ i = .int .i64 (k : Int) ∧ MulAt w B av am bv bm (tMulL av am bv bm k) wr) (fun i _ => (64 - intOf i).toNat)
  case atStart => exact ⟨0, by omega, rfl, h0⟩
  case round =>
    clear h0
    obtain ⟨k, hk, rfl, hm⟩ := hrel
    have hmd := hm.drew
    obtain ⟨a0, a1, b0, b1, r0, r1, s0, s1, l0, l1, fr, fl, sz, gr, lo⟩ := id hm
    clear gr
    have fr0 := fr 0
    have fr1 := fr 1
    have fl0 := fl 0
    have fl1 := fl 1
    clear fr fl
    by_cases hlt : k < 64
    · by_cases hA : N (av &&& 1#64 <<< k) = 0
      · by_cases hB : N (am &&& 1#64 <<< k) = 0
        · have e : tMulL av am bv bm (k + 1) = tMulL av am bv bm k := by rw [tMulL, if_pos hA, if_pos hB]
          have HE := Lib.hid e
          clear e
          go_wp2
          go_roundw
          case rel => exact ⟨k + 1, by omega, by go_num, by rw [HE.out]; exact hm⟩
          case measure => simp [intOf]; omega
        · have hB' : (N (am &&& 1#64 <<< k) != 0) = true := by simpa using hB
          have e : tMulL av am bv bm (k + 1) = tAdd (tMulL av am bv bm k).1 (tMulL av am bv bm k).2 (tOf 0#64 ((bv ||| bm) <<< k)).1 (tOf 0#64 ((bv ||| bm) <<< k)).2 := by rw [tMulL, if_pos hA, if_neg hB]
          have HE := Lib.hid e
          clear e hB
          go_wp2
          go_region_with (first | (go_at_call 51; refine (tn_of0G _ _).mono ?_; rintro e w' ⟨rfl, hg⟩; have hm2 := MulAt.grown (by assumption) hg; obtain ⟨a0, a1, b0, b1, r0, r1, s0, s1, l0, l1, fr, fl, sz, gr, lo⟩ := id hm2; have fr0 := fr 0; have fr1 := fr 1; have fl0 := fl 0; have fl1 := fl 1; clear fr fl gr hg) | (go_at_call 14; refine (tn_add _ _ _ _ _).mono ?_; rintro e w' ⟨rfl, hg⟩; have hm2 := MulAt.grown (by assumption) hg; obtain ⟨a0, a1, b0, b1, r0, r1, s0, s1, l0, l1, fr, fl, sz, gr, lo⟩ := id hm2; have fr0 := fr 0; have fr1 := fr 1; have fl0 := fl 0; have fl1 := fl 1; clear fr fl gr hg))
          all_goals
            go_wp2
            go_roundw
            case rel => exact ⟨k + 1, by omega, by go_num, by rw [HE.out]; exact (MulAt.store (by assumption) _)⟩
            case measure => simp [intOf]; omega
      · have hA' : (N (av &&& 1#64 <<< k) != 0) = true := by simpa using hA
        have e : tMulL av am bv bm (k + 1) = tAdd (tMulL av am bv bm k).1 (tMulL av am bv bm k).2 (tOf 0#64 (bm <<< k)).1 (tOf 0#64 (bm <<< k)).2 := by rw [tMulL, if_neg hA]
        have HE := Lib.hid e
        clear e hA
        go_wp2
        go_region_with (first | (go_at_call 51; refine (tn_of0G _ _).mono ?_; rintro e w' ⟨rfl, hg⟩; have hm2 := MulAt.grown (by assumption) hg; obtain ⟨a0, a1, b0, b1, r0, r1, s0, s1, l0, l1, fr, fl, sz, gr, lo⟩ := id hm2; have fr0 := fr 0; have fr1 := fr 1; have fl0 := fl 0; have fl1 := fl 1; clear fr fl gr hg) | (go_at_call 14; refine (tn_add _ _ _ _ _).mono ?_; rintro e w' ⟨rfl, hg⟩; have hm2 := MulAt.grown (by assumption) hg; obtain ⟨a0, a1, b0, b1, r0, r1, s0, s1, l0, l1, fr, fl, sz, gr, lo⟩ := id hm2; have fr0 := fr 0; have fr1 := fr 1; have fl0 := fl 0; have fl1 := fl 1; clear fr fl gr hg))
        all_goals
          go_wp2
          go_roundw
          case rel => exact ⟨k + 1, by omega, by go_num, by rw [HE.out]; exact (MulAt.store (by assumption) _)⟩
          case measure => simp [intOf]; omega
    · obtain rfl : k = 64 := by omega
      go_wp2_with (go_at_call 14; refine (tn_addS _ _ _ _).mono ?_; rintro e w' ⟨rfl, hg⟩; have hm2 := MulAt.grown (by assumption) hg; obtain ⟨a0, a1, b0, b1, r0, r1, s0, s1, l0, l1, fr, fl, sz, gr, lo⟩ := id hm2; have fr0 := fr 0; have fr1 := fr 1; have fl0 := fl 0; have fl1 := fl 1; clear fr fl gr hg)
      have x0 : ((w'.setCell ⟨B + 1 + 1, 0, none⟩ (.int .u64 (N (tAdd (av * bv) 0#64 (tMulL av am bv bm 64).1 (tMulL av am bv bm 64).2).1))).setCell ⟨B + 1 + 1, 1, none⟩ (.int .u64 (N (tAdd (av * bv) 0#64 (tMulL av am bv bm 64).1 (tMulL av am bv bm 64).2).2))).cell? ⟨B + 1 + 1, 0, none⟩ = some (.int .u64 (N (tAdd (av * bv) 0#64 (tMulL av am bv bm 64).1 (tMulL av am bv bm 64).2).1)) := by
        rw [World.cell?_setCell_other _ _ _ _ (by intro h; cases h)]
        exact World.cell?_setCell_same _ _ _ r0
      have x1 : ((w'.setCell ⟨B + 1 + 1, 0, none⟩ (.int .u64 (N (tAdd (av * bv) 0#64 (tMulL av am bv bm 64).1 (tMulL av am bv bm 64).2).1))).setCell ⟨B + 1 + 1, 1, none⟩ (.int .u64 (N (tAdd (av * bv) 0#64 (tMulL av am bv bm 64).1 (tMulL av am bv bm 64).2).2))).cell? ⟨B + 1 + 1, 1, none⟩ = some (.int .u64 (N (tAdd (av * bv) 0#64 (tMulL av am bv bm 64).1 (tMulL av am bv bm 64).2).2)) := by
        refine World.cell?_setCell_same _ _ _ (u := .int .u64 0) ?_
        rw [World.cell?_setCell_other _ _ _ _ (by intro h; cases h)]
        exact r1
      refine bodyPost_ret (v := .agg #[.int .u64 (N (tMul av am bv bm).1), .int .u64 (N (tMul av am bv bm).2)]) (by simp [results, Try.results16, go_sem, x0, x1]; exact ⟨rfl, rfl⟩) rfl ?_
      exact ⟨rfl, ((hm2.gr.setCell (by show _ ≤ B + 1 + 1; omega) _).setCell (by show _ ≤ B + 1 + 1; omega) _)⟩
end Go.Proofs.Ytchjneodjaakdaa
