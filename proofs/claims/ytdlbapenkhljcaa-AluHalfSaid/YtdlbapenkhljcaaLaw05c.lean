/-
  The walk of the law AluHalf.
-/
import Derived.Test.YtdlbapenkhljcaaLaw05
import Derived.Test.YtdlbapenkhljcaaGrown2
import Derived.Deep.RegionHeld3
namespace Go.Proofs.Ytdlbapenkhljcaa
open Go.RowKit

theorem half_low {w : Nat} (v : BitVec w) (x : BitVec 64) (h : x.toNat % 4294967296 = v.toNat % 4294967296) : x.setWidth 32 = v.setWidth 32 := by
  apply BitVec.eq_of_toNat_eq
  rw [BitVec.toNat_setWidth, BitVec.toNat_setWidth]
  exact h
/-- What is not wide hangs on the lowest 32 bits alone. -/
theorem half_same (x : Int) {a b a' b' : BitVec 64} (ha : a.setWidth 32 = a'.setWidth 32) (hb : b.setWidth 32 = b'.setWidth 32) : aluS x false a b = aluS x false a' b' := by
  show (aluW x (a.setWidth 32) (b.setWidth 32)).setWidth 64 = (aluW x (a'.setWidth 32) (b'.setWidth 32)).setWidth 64
  rw [ha, hb]
theorem half_lt (x : Int) (a b : BitVec 64) : N (aluS x false a b) < 4294967296 := by
  show N ((aluW x (a.setWidth 32) (b.setWidth 32)).setWidth 64) < 4294967296
  rw [N_set64]
  exact N_lt _

theorem low_rem (v : BitVec 64) : (v % 4294967296#64).setWidth 32 = v.setWidth 32 := by
  apply BitVec.eq_of_toNat_eq
  simp
theorem low_above_nat (cn vn : Nat) : (cn % 18446744073709551616 * 4294967296 % 18446744073709551616 + vn % 4294967296) % 18446744073709551616 % 4294967296 = vn % 4294967296 := by omega
theorem low_above (c : BitVec 32) (v : BitVec 64) : (c.setWidth 64 * 4294967296#64 + v % 4294967296#64).setWidth 32 = v.setWidth 32 := by
  apply BitVec.eq_of_toNat_eq
  rw [BitVec.toNat_setWidth, BitVec.toNat_setWidth, BitVec.toNat_add, BitVec.toNat_mul, BitVec.toNat_setWidth, BitVec.toNat_umod]
  exact low_above_nat c.toNat v.toNat
/-- 'Grown', not taken apart. -/
def Ga (a b : World) : Prop := Grown a b
theorem keepA {B : Nat} {x y z u : Value} {W1 wo wn : World} (hg : Ga wo wn) (h : wo.cell? ⟨B, 0, none⟩ = some x ∧ wo.cell? ⟨B, 1, none⟩ = some y ∧ wo.cell? ⟨B + 1, 0, none⟩ = some z ∧ wo.cell? ⟨B + 1, 1, none⟩ = some u ∧ B + 1 < wo.heap.size ∧ Ga W1 wo) :
    wn.cell? ⟨B, 0, none⟩ = some x ∧ wn.cell? ⟨B, 1, none⟩ = some y ∧ wn.cell? ⟨B + 1, 0, none⟩ = some z ∧ wn.cell? ⟨B + 1, 1, none⟩ = some u ∧ B + 1 < wn.heap.size ∧ Ga W1 wn := by
  obtain ⟨h1, h2, h3, h4, h5, h6⟩ := h
  have hb : B < wo.heap.size := by omega
  exact ⟨grown_cellAt hg hb h1, grown_cellAt hg hb h2, grown_cellAt hg h5 h3, grown_cellAt hg h5 h4, Nat.lt_of_lt_of_le h5 hg.2.2, Grown.trans' h6 hg⟩
theorem keepAEnd {B : Nat} {x y z u : Value} {W1 wo : World} (h : wo.cell? ⟨B, 0, none⟩ = some x ∧ wo.cell? ⟨B, 1, none⟩ = some y ∧ wo.cell? ⟨B + 1, 0, none⟩ = some z ∧ wo.cell? ⟨B + 1, 1, none⟩ = some u ∧ B + 1 < wo.heap.size ∧ Ga W1 wo) : Grown W1 wo := h.2.2.2.2.2

attribute [local go_sem] u64_wrap u8_wrap BitVec.ofInt_add BitVec.ofInt_mul ofInt_sub' ofInt_N ofInt_Nw ofInt_pow ofInt_shl mul_shl1 N_shr u64_and

set_option maxRecDepth 100000 in
set_option maxHeartbeats 1000000 in
theorem aluHalf_walk (x : Int) (a b : BitVec 64) (c d : BitVec 32) (w : World) :
    Calls Try.prog 10 #[.int .u8 x, .agg #[.int .u64 (N a), .int .u64 (N b)], .agg #[.int .u32 (N c), .int .u32 (N d)]] w fun e w' => e = .returned (.bool true) ∧ Grown w w' := by
  have ta : (N a).tmod 4294967296 = N (a % 4294967296#64) := N_tmod a 4294967296#64
  have tb : (N b).tmod 4294967296 = N (b % 4294967296#64) := N_tmod b 4294967296#64
  have e1 := half_same x (a := c.setWidth 64 * 4294967296#64 + a % 4294967296#64) (b := d.setWidth 64 * 4294967296#64 + b % 4294967296#64) (a' := a % 4294967296#64) (b' := b % 4294967296#64) (by rw [low_above, low_rem]) (by rw [low_above, low_rem])
  have e2 := half_same x (a := a) (b := b) (a' := a % 4294967296#64) (b' := b % 4294967296#64) (by rw [low_rem]) (by rw [low_rem])
  have lt : decide (N (aluS x false (a % 4294967296#64) (b % 4294967296#64)) < 4294967296) = true := by rw [decide_eq_true_iff]; exact half_lt _ _ _
  go_enter Try.func10, Try.ntmps10
  go_wp2_with fail
  have hg0 : Ga w ((w.alloc (.cells #[.int .u64 (N a), .int .u64 (N b)] 35)).alloc (.cells #[.int .u32 (N c), .int .u32 (N d)] 37)) := ((Grown.refl _).alloc _ _).alloc _ _
  have hsz : w.heap.size + 1 < ((w.alloc (.cells #[.int .u64 (N a), .int .u64 (N b)] 35)).alloc (.cells #[.int .u32 (N c), .int .u32 (N d)] 37)).heap.size := by simp
  have p0 : ((w.alloc (.cells #[.int .u64 (N a), .int .u64 (N b)] 35)).alloc (.cells #[.int .u32 (N c), .int .u32 (N d)] 37)).cell? ⟨w.heap.size, 0, none⟩ = some (.int .u64 (N a)) := by simp [go_sem]
  have p1 : ((w.alloc (.cells #[.int .u64 (N a), .int .u64 (N b)] 35)).alloc (.cells #[.int .u32 (N c), .int .u32 (N d)] 37)).cell? ⟨w.heap.size, 1, none⟩ = some (.int .u64 (N b)) := by simp [go_sem]
  have p2 : ((w.alloc (.cells #[.int .u64 (N a), .int .u64 (N b)] 35)).alloc (.cells #[.int .u32 (N c), .int .u32 (N d)] 37)).cell? ⟨w.heap.size + 1, 0, none⟩ = some (.int .u32 (N c)) := by simp [go_sem]
  have p3 : ((w.alloc (.cells #[.int .u64 (N a), .int .u64 (N b)] 35)).alloc (.cells #[.int .u32 (N c), .int .u32 (N d)] 37)).cell? ⟨w.heap.size + 1, 1, none⟩ = some (.int .u32 (N d)) := by simp [go_sem]
  generalize ((w.alloc (.cells #[.int .u64 (N a), .int .u64 (N b)] 35)).alloc (.cells #[.int .u32 (N c), .int .u32 (N d)] 37)) = W1 at *
  generalize w.heap.size = B at *
  go_region_held3 (fun w' => w'.cell? ⟨B, 0, none⟩ = some (.int .u64 (N a)) ∧ w'.cell? ⟨B, 1, none⟩ = some (.int .u64 (N b)) ∧ w'.cell? ⟨B + 1, 0, none⟩ = some (.int .u32 (N c)) ∧ w'.cell? ⟨B + 1, 1, none⟩ = some (.int .u32 (N d)) ∧ B + 1 < w'.heap.size ∧ Ga w w') (first | exact ⟨p0, p1, p2, p3, hsz, hg0⟩ | assumption | exact keepA (by assumption) (by assumption)) (first | (go_at_call 25; refine (do_any _ _ _ _ _).mono ?_; rintro e w' ⟨rfl, hg⟩; have hG : Ga _ _ := hg; clear hg) | (go_at_call 27; refine (reckoned_any _).mono ?_; rintro e w' ⟨rfl, hg⟩; have hG : Ga _ _ := hg; clear hg))
  go_wp2_with fail
  refine (do_any _ _ _ _ _).mono ?_
  rintro e w2 ⟨rfl, g1⟩
  have k2 := keepA (wo := W1.drew) (W1 := w) g1 ⟨p0, p1, p2, p3, hsz, hg0⟩
  clear g1 p0 p1 p2 p3 hsz hg0
  generalize aluS x false (a % 4294967296#64) (b % 4294967296#64) = R at *
  go_wp2_with fail
  refine (do_any _ _ _ _ _).mono ?_
  rintro e w3 ⟨rfl, g2⟩
  have k3 := keepA g2 k2
  clear g2 k2
  go_wp2_with fail
  refine (do_any _ _ _ _ _).mono ?_
  rintro e w4 ⟨rfl, g3⟩
  have k4 := keepA g3 k3
  clear g3 k3
  go_wp2_with fail
  refine (reckoned_any _).mono ?_
  rintro e w5 ⟨rfl, g4⟩
  go_wp2_with fail
  go_ret
  exact ⟨rfl, Grown.trans' (keepAEnd k4) g4⟩
end Go.Proofs.Ytdlbapenkhljcaa
