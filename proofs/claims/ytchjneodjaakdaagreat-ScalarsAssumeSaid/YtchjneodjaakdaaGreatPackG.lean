/-
  Lemmas for the laws of this seat, part G: Sc2, Sc3, AluRefMath, NumsRef, AluRef, Sp6.
-/
import Derived.Test.YtchjneodjaakdaaGreatPackF
import Derived.StillTailTactics
section
namespace Go.Proofs.YtchjneodjaakdaaGreat.Ex
open Go Go.RowKit
open Go.Proofs.YtchjneodjaakdaaGreat.Sc (firstV firstOk lastV lastOk)
theorem u64_uB (x : Int) : uB (IntKind.u64.wrap x) = true := by rw [u64_wrap]; exact uB_N _
theorem i64_zB (x : Int) : zB (IntKind.i64.wrap x) = true := by
  have e : IntKind.i64.wrap x = Z (BitVec.ofInt 64 x) := by
    rw [Z_ofInt]
    unfold wrap64
    by_cases h : x % 18446744073709551616 ≥ 9223372036854775808
    · rw [show IntKind.i64.wrap x = x % 18446744073709551616 - 18446744073709551616 from by
        show (if (true && decide (x % 18446744073709551616 ≥ 9223372036854775808)) = true then _ else _) = _
        rw [decide_eq_true h]; rfl]
      omega
    · rw [show IntKind.i64.wrap x = x % 18446744073709551616 from by
        show (if (true && decide (x % 18446744073709551616 ≥ 9223372036854775808)) = true then _ else _) = _
        rw [decide_eq_false h]; rfl]
      omega
  rw [e]
  exact zB_Z _
theorem rW_halves {s : SI} (h : sW s = true) : rW (halvesI s).1 = true ∧ rW (halvesI s).2 = true := by
  unfold sW at h
  simp only [Bool.and_eq_true] at h
  unfold halvesI rW
  have z : uB 0 = true := rfl
  split
  · simp only [h.1.1.1, h.1.1.2, z, Bool.and_self, and_self]
  · split
    · simp only [h.1.1.1, h.1.1.2, z, Bool.and_self, and_self]
    · simp only [h.1.1.1, h.1.1.2, u64_uB, Bool.and_self, and_self]
theorem rW_among (r : RI) (t : TI) : rW (amongI r t) = true := by
  unfold amongI rW
  split
  · simp only [firstI, lastI, uB_N, Bool.and_self]
  · rfl
theorem tW_known (p m : RI) : tW (knownI p m) = true := by
  unfold knownI
  split
  · split
    · exact tW_tN _
    · exact tW_tN _
  · exact tW_tN _
theorem sW_hull {p m : RI} (hp : rW p = true) (hm : rW m = true) : sW (hullI p m) = true := by
  unfold rW at hp hm
  simp only [Bool.and_eq_true] at hp hm
  unfold hullI sW
  split
  · split
    · simp only [hp.1, hm.2, i64_zB, Bool.and_self]
    · simp only [hm.1, hm.2, i64_zB, Bool.and_self]
  · simp only [hp.1, hp.2, i64_zB, Bool.and_self]
def nilN : NI := ⟨⟨0, 0⟩, ⟨0, 0, 0, 0⟩⟩
def tP (a : NI) : RI := amongI (halvesI (sTightI a.s)).1 a.t
def tM (a : NI) : RI := amongI (halvesI (sTightI a.s)).2 a.t
def tightK (a : NI) : Bool := sTightKI a.s && ((tP a).ok || (tM a).ok) && tBothKI a.t (knownI (tP a) (tM a))
def tightI (a : NI) : NI := if tightK a then ⟨tBothI a.t (knownI (tP a) (tM a)), hullI (tP a) (tM a)⟩ else nilN
def tightOrc (b14 b32 b36 b49 : Bool) : Orc := fun f t _ => if Nat.beq f 15 then (if Nat.beq t 14 then some (.bool b14) else if Nat.beq t 32 then some (.bool b32) else if Nat.beq t 36 then some (.bool b36) else if Nat.beq t 49 then some (.bool b49) else none) else none
set_option maxHeartbeats 0 in
set_option maxRecDepth 1000000 in
theorem tight_a_r (a : NI) (he : ([(b2i (sW a.s), 1), (b2i (sTightKI a.s), 0)] : Cs).map (·.1) = ([(b2i (sW a.s), 1), (b2i (sTightKI a.s), 0)] : Cs).map (·.2)) (w : World) : Calls Tryz.prog 15 #[VN a] w fun e w' => e = .returned (.tuple ⟨[VN nilN, .bool false]⟩) ∧ Gr w w' :=
  rk hk2_ok (tightOrc false true true true) (cs := ([(b2i (sW a.s), 1), (b2i (sTightKI a.s), 0)] : Cs)) rfl (by kernel_rfl) (by kernel_rfl) he w
theorem tight_a (a : NI) (h0 : sW a.s = true) (_h1 : (tW a.t && uB (halvesI (sTightI a.s)).1.lo && uB (halvesI (sTightI a.s)).1.hi) = true) (_h2 : (tW a.t && uB (halvesI (sTightI a.s)).2.lo && uB (halvesI (sTightI a.s)).2.hi) = true) (_h3 : (rW (tP a) && rW (tM a)) = true) (_h4 : (tW a.t && tW (knownI (tP a) (tM a))) = true) (k : sTightKI a.s = false) (w : World) : Calls Tryz.prog 15 #[VN a] w fun e w' => e = .returned (.tuple ⟨[VN nilN, .bool false]⟩) ∧ Gr w w' :=
  tight_a_r a (by rw [h0, k]; rfl) w
set_option maxHeartbeats 0 in
set_option maxRecDepth 1000000 in
theorem tight_b_r (a : NI) (he : ([(b2i (sW a.s), 1), (b2i (sTightKI a.s), 1), (b2i (tW a.t && uB (halvesI (sTightI a.s)).1.lo && uB (halvesI (sTightI a.s)).1.hi), 1), (b2i (tW a.t && uB (halvesI (sTightI a.s)).2.lo && uB (halvesI (sTightI a.s)).2.hi), 1), (b2i (tP a).ok, 0), (b2i (tM a).ok, 0)] : Cs).map (·.1) = ([(b2i (sW a.s), 1), (b2i (sTightKI a.s), 1), (b2i (tW a.t && uB (halvesI (sTightI a.s)).1.lo && uB (halvesI (sTightI a.s)).1.hi), 1), (b2i (tW a.t && uB (halvesI (sTightI a.s)).2.lo && uB (halvesI (sTightI a.s)).2.hi), 1), (b2i (tP a).ok, 0), (b2i (tM a).ok, 0)] : Cs).map (·.2)) (w : World) : Calls Tryz.prog 15 #[VN a] w fun e w' => e = .returned (.tuple ⟨[VN nilN, .bool false]⟩) ∧ Gr w w' :=
  rk hk2_ok (tightOrc true false false true) (cs := ([(b2i (sW a.s), 1), (b2i (sTightKI a.s), 1), (b2i (tW a.t && uB (halvesI (sTightI a.s)).1.lo && uB (halvesI (sTightI a.s)).1.hi), 1), (b2i (tW a.t && uB (halvesI (sTightI a.s)).2.lo && uB (halvesI (sTightI a.s)).2.hi), 1), (b2i (tP a).ok, 0), (b2i (tM a).ok, 0)] : Cs)) rfl (by kernel_rfl) (by kernel_rfl) he w
theorem tight_b (a : NI) (h0 : sW a.s = true) (h1 : (tW a.t && uB (halvesI (sTightI a.s)).1.lo && uB (halvesI (sTightI a.s)).1.hi) = true) (h2 : (tW a.t && uB (halvesI (sTightI a.s)).2.lo && uB (halvesI (sTightI a.s)).2.hi) = true) (_h3 : (rW (tP a) && rW (tM a)) = true) (_h4 : (tW a.t && tW (knownI (tP a) (tM a))) = true) (k : sTightKI a.s = true) (p : (tP a).ok = false) (m : (tM a).ok = false) (w : World) : Calls Tryz.prog 15 #[VN a] w fun e w' => e = .returned (.tuple ⟨[VN nilN, .bool false]⟩) ∧ Gr w w' :=
  tight_b_r a (by rw [h0, k, h1, h2, p, m]; rfl) w
set_option maxHeartbeats 0 in
set_option maxRecDepth 1000000 in
theorem tight_c0_r (a : NI) (he : ([(b2i (sW a.s), 1), (b2i (sTightKI a.s), 1), (b2i (tW a.t && uB (halvesI (sTightI a.s)).1.lo && uB (halvesI (sTightI a.s)).1.hi), 1), (b2i (tW a.t && uB (halvesI (sTightI a.s)).2.lo && uB (halvesI (sTightI a.s)).2.hi), 1), (b2i (tP a).ok, 1), (b2i (rW (tP a) && rW (tM a)), 1), (b2i (tW a.t && tW (knownI (tP a) (tM a))), 1), (b2i (tBothKI a.t (knownI (tP a) (tM a))), 0)] : Cs).map (·.1) = ([(b2i (sW a.s), 1), (b2i (sTightKI a.s), 1), (b2i (tW a.t && uB (halvesI (sTightI a.s)).1.lo && uB (halvesI (sTightI a.s)).1.hi), 1), (b2i (tW a.t && uB (halvesI (sTightI a.s)).2.lo && uB (halvesI (sTightI a.s)).2.hi), 1), (b2i (tP a).ok, 1), (b2i (rW (tP a) && rW (tM a)), 1), (b2i (tW a.t && tW (knownI (tP a) (tM a))), 1), (b2i (tBothKI a.t (knownI (tP a) (tM a))), 0)] : Cs).map (·.2)) (w : World) : Calls Tryz.prog 15 #[VN a] w fun e w' => e = .returned (.tuple ⟨[VN nilN, .bool false]⟩) ∧ Gr w w' :=
  rk hk2_ok (tightOrc true true true false) (cs := ([(b2i (sW a.s), 1), (b2i (sTightKI a.s), 1), (b2i (tW a.t && uB (halvesI (sTightI a.s)).1.lo && uB (halvesI (sTightI a.s)).1.hi), 1), (b2i (tW a.t && uB (halvesI (sTightI a.s)).2.lo && uB (halvesI (sTightI a.s)).2.hi), 1), (b2i (tP a).ok, 1), (b2i (rW (tP a) && rW (tM a)), 1), (b2i (tW a.t && tW (knownI (tP a) (tM a))), 1), (b2i (tBothKI a.t (knownI (tP a) (tM a))), 0)] : Cs)) rfl (by kernel_rfl) (by kernel_rfl) he w
theorem tight_c0 (a : NI) (h0 : sW a.s = true) (h1 : (tW a.t && uB (halvesI (sTightI a.s)).1.lo && uB (halvesI (sTightI a.s)).1.hi) = true) (h2 : (tW a.t && uB (halvesI (sTightI a.s)).2.lo && uB (halvesI (sTightI a.s)).2.hi) = true) (h3 : (rW (tP a) && rW (tM a)) = true) (h4 : (tW a.t && tW (knownI (tP a) (tM a))) = true) (k : sTightKI a.s = true) (p : (tP a).ok = true) (z : tBothKI a.t (knownI (tP a) (tM a)) = false) (w : World) : Calls Tryz.prog 15 #[VN a] w fun e w' => e = .returned (.tuple ⟨[VN nilN, .bool false]⟩) ∧ Gr w w' :=
  tight_c0_r a (by rw [h0, k, h1, h2, p, h3, h4, z]; rfl) w
set_option maxHeartbeats 0 in
set_option maxRecDepth 1000000 in
theorem tight_d0_r (a : NI) (he : ([(b2i (sW a.s), 1), (b2i (sTightKI a.s), 1), (b2i (tW a.t && uB (halvesI (sTightI a.s)).1.lo && uB (halvesI (sTightI a.s)).1.hi), 1), (b2i (tW a.t && uB (halvesI (sTightI a.s)).2.lo && uB (halvesI (sTightI a.s)).2.hi), 1), (b2i (tP a).ok, 0), (b2i (tM a).ok, 1), (b2i (rW (tP a) && rW (tM a)), 1), (b2i (tW a.t && tW (knownI (tP a) (tM a))), 1), (b2i (tBothKI a.t (knownI (tP a) (tM a))), 0)] : Cs).map (·.1) = ([(b2i (sW a.s), 1), (b2i (sTightKI a.s), 1), (b2i (tW a.t && uB (halvesI (sTightI a.s)).1.lo && uB (halvesI (sTightI a.s)).1.hi), 1), (b2i (tW a.t && uB (halvesI (sTightI a.s)).2.lo && uB (halvesI (sTightI a.s)).2.hi), 1), (b2i (tP a).ok, 0), (b2i (tM a).ok, 1), (b2i (rW (tP a) && rW (tM a)), 1), (b2i (tW a.t && tW (knownI (tP a) (tM a))), 1), (b2i (tBothKI a.t (knownI (tP a) (tM a))), 0)] : Cs).map (·.2)) (w : World) : Calls Tryz.prog 15 #[VN a] w fun e w' => e = .returned (.tuple ⟨[VN nilN, .bool false]⟩) ∧ Gr w w' :=
  rk hk2_ok (tightOrc true false true false) (cs := ([(b2i (sW a.s), 1), (b2i (sTightKI a.s), 1), (b2i (tW a.t && uB (halvesI (sTightI a.s)).1.lo && uB (halvesI (sTightI a.s)).1.hi), 1), (b2i (tW a.t && uB (halvesI (sTightI a.s)).2.lo && uB (halvesI (sTightI a.s)).2.hi), 1), (b2i (tP a).ok, 0), (b2i (tM a).ok, 1), (b2i (rW (tP a) && rW (tM a)), 1), (b2i (tW a.t && tW (knownI (tP a) (tM a))), 1), (b2i (tBothKI a.t (knownI (tP a) (tM a))), 0)] : Cs)) rfl (by kernel_rfl) (by kernel_rfl) he w
theorem tight_d0 (a : NI) (h0 : sW a.s = true) (h1 : (tW a.t && uB (halvesI (sTightI a.s)).1.lo && uB (halvesI (sTightI a.s)).1.hi) = true) (h2 : (tW a.t && uB (halvesI (sTightI a.s)).2.lo && uB (halvesI (sTightI a.s)).2.hi) = true) (h3 : (rW (tP a) && rW (tM a)) = true) (h4 : (tW a.t && tW (knownI (tP a) (tM a))) = true) (k : sTightKI a.s = true) (p : (tP a).ok = false) (m : (tM a).ok = true) (z : tBothKI a.t (knownI (tP a) (tM a)) = false) (w : World) : Calls Tryz.prog 15 #[VN a] w fun e w' => e = .returned (.tuple ⟨[VN nilN, .bool false]⟩) ∧ Gr w w' :=
  tight_d0_r a (by rw [h0, k, h1, h2, p, m, h3, h4, z]; rfl) w
set_option maxHeartbeats 0 in
set_option maxRecDepth 1000000 in
theorem tight_c1_r (a : NI) (he : ([(b2i (sW a.s), 1), (b2i (sTightKI a.s), 1), (b2i (tW a.t && uB (halvesI (sTightI a.s)).1.lo && uB (halvesI (sTightI a.s)).1.hi), 1), (b2i (tW a.t && uB (halvesI (sTightI a.s)).2.lo && uB (halvesI (sTightI a.s)).2.hi), 1), (b2i (tP a).ok, 1), (b2i (rW (tP a) && rW (tM a)), 1), (b2i (tW a.t && tW (knownI (tP a) (tM a))), 1), (b2i (tBothKI a.t (knownI (tP a) (tM a))), 1)] : Cs).map (·.1) = ([(b2i (sW a.s), 1), (b2i (sTightKI a.s), 1), (b2i (tW a.t && uB (halvesI (sTightI a.s)).1.lo && uB (halvesI (sTightI a.s)).1.hi), 1), (b2i (tW a.t && uB (halvesI (sTightI a.s)).2.lo && uB (halvesI (sTightI a.s)).2.hi), 1), (b2i (tP a).ok, 1), (b2i (rW (tP a) && rW (tM a)), 1), (b2i (tW a.t && tW (knownI (tP a) (tM a))), 1), (b2i (tBothKI a.t (knownI (tP a) (tM a))), 1)] : Cs).map (·.2)) (w : World) : Calls Tryz.prog 15 #[VN a] w fun e w' => e = .returned (.tuple ⟨[VN ⟨tBothI a.t (knownI (tP a) (tM a)), hullI (tP a) (tM a)⟩, .bool true]⟩) ∧ Gr w w' :=
  rk hk2_ok (tightOrc true true true true) (cs := ([(b2i (sW a.s), 1), (b2i (sTightKI a.s), 1), (b2i (tW a.t && uB (halvesI (sTightI a.s)).1.lo && uB (halvesI (sTightI a.s)).1.hi), 1), (b2i (tW a.t && uB (halvesI (sTightI a.s)).2.lo && uB (halvesI (sTightI a.s)).2.hi), 1), (b2i (tP a).ok, 1), (b2i (rW (tP a) && rW (tM a)), 1), (b2i (tW a.t && tW (knownI (tP a) (tM a))), 1), (b2i (tBothKI a.t (knownI (tP a) (tM a))), 1)] : Cs)) rfl (by kernel_rfl) (by kernel_rfl) he w
theorem tight_c1 (a : NI) (h0 : sW a.s = true) (h1 : (tW a.t && uB (halvesI (sTightI a.s)).1.lo && uB (halvesI (sTightI a.s)).1.hi) = true) (h2 : (tW a.t && uB (halvesI (sTightI a.s)).2.lo && uB (halvesI (sTightI a.s)).2.hi) = true) (h3 : (rW (tP a) && rW (tM a)) = true) (h4 : (tW a.t && tW (knownI (tP a) (tM a))) = true) (k : sTightKI a.s = true) (p : (tP a).ok = true) (z : tBothKI a.t (knownI (tP a) (tM a)) = true) (w : World) : Calls Tryz.prog 15 #[VN a] w fun e w' => e = .returned (.tuple ⟨[VN ⟨tBothI a.t (knownI (tP a) (tM a)), hullI (tP a) (tM a)⟩, .bool true]⟩) ∧ Gr w w' :=
  tight_c1_r a (by rw [h0, k, h1, h2, p, h3, h4, z]; rfl) w
set_option maxHeartbeats 0 in
set_option maxRecDepth 1000000 in
theorem tight_d1_r (a : NI) (he : ([(b2i (sW a.s), 1), (b2i (sTightKI a.s), 1), (b2i (tW a.t && uB (halvesI (sTightI a.s)).1.lo && uB (halvesI (sTightI a.s)).1.hi), 1), (b2i (tW a.t && uB (halvesI (sTightI a.s)).2.lo && uB (halvesI (sTightI a.s)).2.hi), 1), (b2i (tP a).ok, 0), (b2i (tM a).ok, 1), (b2i (rW (tP a) && rW (tM a)), 1), (b2i (tW a.t && tW (knownI (tP a) (tM a))), 1), (b2i (tBothKI a.t (knownI (tP a) (tM a))), 1)] : Cs).map (·.1) = ([(b2i (sW a.s), 1), (b2i (sTightKI a.s), 1), (b2i (tW a.t && uB (halvesI (sTightI a.s)).1.lo && uB (halvesI (sTightI a.s)).1.hi), 1), (b2i (tW a.t && uB (halvesI (sTightI a.s)).2.lo && uB (halvesI (sTightI a.s)).2.hi), 1), (b2i (tP a).ok, 0), (b2i (tM a).ok, 1), (b2i (rW (tP a) && rW (tM a)), 1), (b2i (tW a.t && tW (knownI (tP a) (tM a))), 1), (b2i (tBothKI a.t (knownI (tP a) (tM a))), 1)] : Cs).map (·.2)) (w : World) : Calls Tryz.prog 15 #[VN a] w fun e w' => e = .returned (.tuple ⟨[VN ⟨tBothI a.t (knownI (tP a) (tM a)), hullI (tP a) (tM a)⟩, .bool true]⟩) ∧ Gr w w' :=
  rk hk2_ok (tightOrc true false true true) (cs := ([(b2i (sW a.s), 1), (b2i (sTightKI a.s), 1), (b2i (tW a.t && uB (halvesI (sTightI a.s)).1.lo && uB (halvesI (sTightI a.s)).1.hi), 1), (b2i (tW a.t && uB (halvesI (sTightI a.s)).2.lo && uB (halvesI (sTightI a.s)).2.hi), 1), (b2i (tP a).ok, 0), (b2i (tM a).ok, 1), (b2i (rW (tP a) && rW (tM a)), 1), (b2i (tW a.t && tW (knownI (tP a) (tM a))), 1), (b2i (tBothKI a.t (knownI (tP a) (tM a))), 1)] : Cs)) rfl (by kernel_rfl) (by kernel_rfl) he w
theorem tight_d1 (a : NI) (h0 : sW a.s = true) (h1 : (tW a.t && uB (halvesI (sTightI a.s)).1.lo && uB (halvesI (sTightI a.s)).1.hi) = true) (h2 : (tW a.t && uB (halvesI (sTightI a.s)).2.lo && uB (halvesI (sTightI a.s)).2.hi) = true) (h3 : (rW (tP a) && rW (tM a)) = true) (h4 : (tW a.t && tW (knownI (tP a) (tM a))) = true) (k : sTightKI a.s = true) (p : (tP a).ok = false) (m : (tM a).ok = true) (z : tBothKI a.t (knownI (tP a) (tM a)) = true) (w : World) : Calls Tryz.prog 15 #[VN a] w fun e w' => e = .returned (.tuple ⟨[VN ⟨tBothI a.t (knownI (tP a) (tM a)), hullI (tP a) (tM a)⟩, .bool true]⟩) ∧ Gr w w' :=
  tight_d1_r a (by rw [h0, k, h1, h2, p, m, h3, h4, z]; rfl) w
theorem c_tight (a : NI) (hw : nW a = true) (w : World) : Calls Tryz.prog 15 #[VN a] w fun e w' => e = .returned (.tuple ⟨[VN (tightI a), .bool (tightK a)]⟩) ∧ Gr w w' := by
  unfold nW at hw
  simp only [Bool.and_eq_true] at hw
  have hs : sW (sTightI a.s) = true := sW_sN _
  obtain ⟨r1, r2⟩ := rW_halves hs
  have r1' := r1
  have r2' := r2
  unfold rW at r1 r2
  simp only [Bool.and_eq_true] at r1 r2
  have h1 : (tW a.t && uB (halvesI (sTightI a.s)).1.lo && uB (halvesI (sTightI a.s)).1.hi) = true := by rw [hw.1, r1.1, r1.2]; rfl
  have h2 : (tW a.t && uB (halvesI (sTightI a.s)).2.lo && uB (halvesI (sTightI a.s)).2.hi) = true := by rw [hw.1, r2.1, r2.2]; rfl
  have h3 : (rW (tP a) && rW (tM a)) = true := by unfold tP tM; rw [rW_among, rW_among]; rfl
  have h4 : (tW a.t && tW (knownI (tP a) (tM a))) = true := by rw [hw.1, tW_known]; rfl
  cases k : sTightKI a.s with
  | false => exact ret_eq (by simp only [tightI, tightK, k]; rfl) (tight_a a hw.2 h1 h2 h3 h4 k w)
  | true =>
    cases p : (tP a).ok with
    | true =>
      cases z : tBothKI a.t (knownI (tP a) (tM a)) with
      | true => exact ret_eq (by simp only [tightI, tightK, k, p, z]; rfl) (tight_c1 a hw.2 h1 h2 h3 h4 k p z w)
      | false => exact ret_eq (by simp only [tightI, tightK, k, p, z]; rfl) (tight_c0 a hw.2 h1 h2 h3 h4 k p z w)
    | false =>
      cases m : (tM a).ok with
      | false => exact ret_eq (by simp only [tightI, tightK, k, p, m]; rfl) (tight_b a hw.2 h1 h2 h3 h4 k p m w)
      | true =>
        cases z : tBothKI a.t (knownI (tP a) (tM a)) with
        | true => exact ret_eq (by simp only [tightI, tightK, k, p, m, z]; rfl) (tight_d1 a hw.2 h1 h2 h3 h4 k p m z w)
        | false => exact ret_eq (by simp only [tightI, tightK, k, p, m, z]; rfl) (tight_d0 a hw.2 h1 h2 h3 h4 k p m z w)
theorem nW_tight (a : NI) : nW (tightI a) = true := by
  unfold tightI
  split
  · unfold nW
    rw [sW_hull (by unfold tP; exact rW_among _ _) (by unfold tM; exact rW_among _ _)]
    simp only [tBothI, tW_tN, Bool.and_self]
  · rfl
def hk_tight : Hook := fun f args _ =>
  if Nat.beq f 15 then
    match args with
    | [.agg ⟨[.int .u64 a0, .int .u64 a1, .int .u64 a2, .int .u64 a3, .int .i64 a4, .int .i64 a5]⟩] => some (.tuple ⟨[VN (tightI (⟨⟨a0, a1⟩, ⟨a2, a3, a4, a5⟩⟩ : NI)), .bool (tightK (⟨⟨a0, a1⟩, ⟨a2, a3, a4, a5⟩⟩ : NI))]⟩, [(b2i (nW (⟨⟨a0, a1⟩, ⟨a2, a3, a4, a5⟩⟩ : NI)), 1)])
    | _ => none
  else none
theorem hk_tight_ok : HookOk Tryz.prog hk_tight := by
  intro f args h v cs hv hc wb k s w H
  unfold hk_tight at hv
  split at hv
  · rename_i hf
    obtain rfl := Nat.eq_of_beq_eq_true hf
    split at hv
    · rename_i a0 a1 a2 a3 a4 a5
      cases hv
      have hw := pair1 hc rfl
      exact c_tight (⟨⟨a0, a1⟩, ⟨a2, a3, a4, a5⟩⟩ : NI) hw w
    · cases hv
  · cases hv
def settledI (a : NI) : NI := if tightK a then tightI a else a
def settledOrc (b9 : Bool) : Orc := fun f t _ => if Nat.beq f 24 then (if Nat.beq t 9 then some (.bool b9) else none) else none
def hk3 : Hook := orHook hk_tight (hk2)
theorem hk3_ok : HookOk Tryz.prog hk3 := orHook_ok hk_tight_ok (hk2_ok)
set_option maxHeartbeats 0 in
set_option maxRecDepth 1000000 in
theorem settled_0_r (a : NI) (he : ([(b2i (nW a), 1), (b2i (tightK a), 0)] : Cs).map (·.1) = ([(b2i (nW a), 1), (b2i (tightK a), 0)] : Cs).map (·.2)) (w : World) : Calls Tryz.prog 24 #[VN a] w fun e w' => e = .returned (VN a) ∧ Gr w w' :=
  rk hk3_ok (settledOrc false) (cs := ([(b2i (nW a), 1), (b2i (tightK a), 0)] : Cs)) rfl (by kernel_rfl) (by kernel_rfl) he w
theorem settled_0 (a : NI) (hw : nW a = true) (k : tightK a = false) (w : World) : Calls Tryz.prog 24 #[VN a] w fun e w' => e = .returned (VN a) ∧ Gr w w' :=
  settled_0_r a (by rw [hw, k]; rfl) w
set_option maxHeartbeats 0 in
set_option maxRecDepth 1000000 in
theorem settled_1_r (a : NI) (he : ([(b2i (nW a), 1), (b2i (tightK a), 1)] : Cs).map (·.1) = ([(b2i (nW a), 1), (b2i (tightK a), 1)] : Cs).map (·.2)) (w : World) : Calls Tryz.prog 24 #[VN a] w fun e w' => e = .returned (VN (tightI a)) ∧ Gr w w' :=
  rk hk3_ok (settledOrc true) (cs := ([(b2i (nW a), 1), (b2i (tightK a), 1)] : Cs)) rfl (by kernel_rfl) (by kernel_rfl) he w
theorem settled_1 (a : NI) (hw : nW a = true) (k : tightK a = true) (w : World) : Calls Tryz.prog 24 #[VN a] w fun e w' => e = .returned (VN (tightI a)) ∧ Gr w w' :=
  settled_1_r a (by rw [hw, k]; rfl) w
theorem c_settled (a : NI) (hw : nW a = true) (w : World) : Calls Tryz.prog 24 #[VN a] w fun e w' => e = .returned (VN (settledI a)) ∧ Gr w w' := by
  cases k : tightK a with
  | true => exact ret_eq (by simp only [settledI, k]; rfl) (settled_1 a hw k w)
  | false => exact ret_eq (by simp only [settledI, k]; rfl) (settled_0 a hw k w)
theorem nW_settled {a : NI} (h : nW a = true) : nW (settledI a) = true := by
  unfold settledI
  split
  · exact nW_tight a
  · exact h
def hk_settled : Hook := fun f args _ =>
  if Nat.beq f 24 then
    match args with
    | [.agg ⟨[.int .u64 a0, .int .u64 a1, .int .u64 a2, .int .u64 a3, .int .i64 a4, .int .i64 a5]⟩] => some (VN (settledI (⟨⟨a0, a1⟩, ⟨a2, a3, a4, a5⟩⟩ : NI)), [(b2i (nW (⟨⟨a0, a1⟩, ⟨a2, a3, a4, a5⟩⟩ : NI)), 1)])
    | _ => none
  else none
theorem hk_settled_ok : HookOk Tryz.prog hk_settled := by
  intro f args h v cs hv hc wb k s w H
  unfold hk_settled at hv
  split at hv
  · rename_i hf
    obtain rfl := Nat.eq_of_beq_eq_true hf
    split at hv
    · rename_i a0 a1 a2 a3 a4 a5
      cases hv
      have hw := pair1 hc rfl
      exact c_settled (⟨⟨a0, a1⟩, ⟨a2, a3, a4, a5⟩⟩ : NI) hw w
    · cases hv
  · cases hv
def hasOrc (b9 : Bool) : Orc := fun f t _ => if Nat.beq f 20 then (if Nat.beq t 9 then some (.bool b9) else none) else none
set_option maxHeartbeats 0 in
set_option maxRecDepth 1000000 in
theorem has_0_r (a : NI) (v : Int) (he : ([(b2i (tW a.t && uB v), 1), (b2i (tHasI a.t v), 0)] : Cs).map (·.1) = ([(b2i (tW a.t && uB v), 1), (b2i (tHasI a.t v), 0)] : Cs).map (·.2)) (w : World) : Calls Tryz.prog 20 #[VN a, .int .u64 v] w fun e w' => e = .returned (.bool false) ∧ Gr w w' :=
  rk hkBase_ok (hasOrc false) (cs := ([(b2i (tW a.t && uB v), 1), (b2i (tHasI a.t v), 0)] : Cs)) rfl (by kernel_rfl) (by kernel_rfl) he w
theorem has_0 (a : NI) (v : Int) (h1 : (tW a.t && uB v) = true) (k : tHasI a.t v = false) (w : World) : Calls Tryz.prog 20 #[VN a, .int .u64 v] w fun e w' => e = .returned (.bool false) ∧ Gr w w' :=
  has_0_r a v (by rw [h1, k]; rfl) w
set_option maxHeartbeats 0 in
set_option maxRecDepth 1000000 in
theorem has_1_r (a : NI) (v : Int) (he : ([(b2i (tW a.t && uB v), 1), (b2i (tHasI a.t v), 1), (b2i (sW a.s && uB v), 1)] : Cs).map (·.1) = ([(b2i (tW a.t && uB v), 1), (b2i (tHasI a.t v), 1), (b2i (sW a.s && uB v), 1)] : Cs).map (·.2)) (w : World) : Calls Tryz.prog 20 #[VN a, .int .u64 v] w fun e w' => e = .returned (.bool (sHasI a.s v)) ∧ Gr w w' :=
  rk hkBase_ok (hasOrc true) (cs := ([(b2i (tW a.t && uB v), 1), (b2i (tHasI a.t v), 1), (b2i (sW a.s && uB v), 1)] : Cs)) rfl (by kernel_rfl) (by kernel_rfl) he w
theorem has_1 (a : NI) (v : Int) (h1 : (tW a.t && uB v) = true) (h2 : (sW a.s && uB v) = true) (k : tHasI a.t v = true) (w : World) : Calls Tryz.prog 20 #[VN a, .int .u64 v] w fun e w' => e = .returned (.bool (sHasI a.s v)) ∧ Gr w w' :=
  has_1_r a v (by rw [h1, k, h2]; rfl) w
def nHasI (a : NI) (v : Int) : Bool := tHasI a.t v && sHasI a.s v
theorem c_has (a : NI) (v : Int) (hw : (nW a && uB v) = true) (w : World) : Calls Tryz.prog 20 #[VN a, .int .u64 v] w fun e w' => e = .returned (.bool (nHasI a v)) ∧ Gr w w' := by
  unfold nW at hw
  simp only [Bool.and_eq_true] at hw
  have h1 : (tW a.t && uB v) = true := by rw [hw.1.1, hw.2]; rfl
  have h2 : (sW a.s && uB v) = true := by rw [hw.1.2, hw.2]; rfl
  cases k : tHasI a.t v with
  | true => exact ret_eq (by simp only [nHasI, k]; rfl) (has_1 a v h1 h2 k w)
  | false => exact ret_eq (by simp only [nHasI, k]; rfl) (has_0 a v h1 k w)
def hk_has : Hook := fun f args _ =>
  if Nat.beq f 20 then
    match args with
    | [.agg ⟨[.int .u64 a0, .int .u64 a1, .int .u64 a2, .int .u64 a3, .int .i64 a4, .int .i64 a5]⟩, .int .u64 b] => some (.bool (nHasI (⟨⟨a0, a1⟩, ⟨a2, a3, a4, a5⟩⟩ : NI) b), [(b2i (nW (⟨⟨a0, a1⟩, ⟨a2, a3, a4, a5⟩⟩ : NI) && uB b), 1)])
    | _ => none
  else none
theorem hk_has_ok : HookOk Tryz.prog hk_has := by
  intro f args h v cs hv hc wb k s w H
  unfold hk_has at hv
  split at hv
  · rename_i hf
    obtain rfl := Nat.eq_of_beq_eq_true hf
    split at hv
    · rename_i a0 a1 a2 a3 a4 a5 b
      cases hv
      have hw := pair1 hc rfl
      exact c_has (⟨⟨a0, a1⟩, ⟨a2, a3, a4, a5⟩⟩ : NI) b hw w
    · cases hv
  · cases hv
def inOrc (b10 : Bool) : Orc := fun f t _ => if Nat.beq f 19 then (if Nat.beq t 10 then some (.bool b10) else none) else none
set_option maxHeartbeats 0 in
set_option maxRecDepth 1000000 in
theorem in_0_r (a b : NI) (he : ([(b2i (tW a.t && tW b.t), 1), (b2i (tInI a.t b.t), 0)] : Cs).map (·.1) = ([(b2i (tW a.t && tW b.t), 1), (b2i (tInI a.t b.t), 0)] : Cs).map (·.2)) (w : World) : Calls Tryz.prog 19 #[VN a, VN b] w fun e w' => e = .returned (.bool false) ∧ Gr w w' :=
  rk hkBase_ok (inOrc false) (cs := ([(b2i (tW a.t && tW b.t), 1), (b2i (tInI a.t b.t), 0)] : Cs)) rfl (by kernel_rfl) (by kernel_rfl) he w
theorem in_0 (a b : NI) (h1 : (tW a.t && tW b.t) = true) (k : tInI a.t b.t = false) (w : World) : Calls Tryz.prog 19 #[VN a, VN b] w fun e w' => e = .returned (.bool false) ∧ Gr w w' :=
  in_0_r a b (by rw [h1, k]; rfl) w
set_option maxHeartbeats 0 in
set_option maxRecDepth 1000000 in
theorem in_1_r (a b : NI) (he : ([(b2i (tW a.t && tW b.t), 1), (b2i (tInI a.t b.t), 1), (b2i (sW a.s && sW b.s), 1)] : Cs).map (·.1) = ([(b2i (tW a.t && tW b.t), 1), (b2i (tInI a.t b.t), 1), (b2i (sW a.s && sW b.s), 1)] : Cs).map (·.2)) (w : World) : Calls Tryz.prog 19 #[VN a, VN b] w fun e w' => e = .returned (.bool (sInI a.s b.s)) ∧ Gr w w' :=
  rk hkBase_ok (inOrc true) (cs := ([(b2i (tW a.t && tW b.t), 1), (b2i (tInI a.t b.t), 1), (b2i (sW a.s && sW b.s), 1)] : Cs)) rfl (by kernel_rfl) (by kernel_rfl) he w
theorem in_1 (a b : NI) (h1 : (tW a.t && tW b.t) = true) (h2 : (sW a.s && sW b.s) = true) (k : tInI a.t b.t = true) (w : World) : Calls Tryz.prog 19 #[VN a, VN b] w fun e w' => e = .returned (.bool (sInI a.s b.s)) ∧ Gr w w' :=
  in_1_r a b (by rw [h1, k, h2]; rfl) w
def nInI (a b : NI) : Bool := tInI a.t b.t && sInI a.s b.s
theorem c_in (a b : NI) (hw : (nW a && nW b) = true) (w : World) : Calls Tryz.prog 19 #[VN a, VN b] w fun e w' => e = .returned (.bool (nInI a b)) ∧ Gr w w' := by
  unfold nW at hw
  simp only [Bool.and_eq_true] at hw
  have h1 : (tW a.t && tW b.t) = true := by rw [hw.1.1, hw.2.1]; rfl
  have h2 : (sW a.s && sW b.s) = true := by rw [hw.1.2, hw.2.2]; rfl
  cases k : tInI a.t b.t with
  | true => exact ret_eq (by simp only [nInI, k]; rfl) (in_1 a b h1 h2 k w)
  | false => exact ret_eq (by simp only [nInI, k]; rfl) (in_0 a b h1 k w)
def hk_in : Hook := fun f args _ =>
  if Nat.beq f 19 then
    match args with
    | [.agg ⟨[.int .u64 a0, .int .u64 a1, .int .u64 a2, .int .u64 a3, .int .i64 a4, .int .i64 a5]⟩, .agg ⟨[.int .u64 b0, .int .u64 b1, .int .u64 b2, .int .u64 b3, .int .i64 b4, .int .i64 b5]⟩] => some (.bool (nInI (⟨⟨a0, a1⟩, ⟨a2, a3, a4, a5⟩⟩ : NI) (⟨⟨b0, b1⟩, ⟨b2, b3, b4, b5⟩⟩ : NI)), [(b2i (nW (⟨⟨a0, a1⟩, ⟨a2, a3, a4, a5⟩⟩ : NI) && nW (⟨⟨b0, b1⟩, ⟨b2, b3, b4, b5⟩⟩ : NI)), 1)])
    | _ => none
  else none
theorem hk_in_ok : HookOk Tryz.prog hk_in := by
  intro f args h v cs hv hc wb k s w H
  unfold hk_in at hv
  split at hv
  · rename_i hf
    obtain rfl := Nat.eq_of_beq_eq_true hf
    split at hv
    · rename_i a0 a1 a2 a3 a4 a5 b0 b1 b2 b3 b4 b5
      cases hv
      have hw := pair1 hc rfl
      exact c_in (⟨⟨a0, a1⟩, ⟨a2, a3, a4, a5⟩⟩ : NI) (⟨⟨b0, b1⟩, ⟨b2, b3, b4, b5⟩⟩ : NI) hw w
    · cases hv
  · cases hv
def sUptoI (v : Int) : SI := if decide (v ≤ 9223372036854775807) then ⟨0, v, 0, IntKind.i64.wrap v⟩ else ⟨0, v, -9223372036854775808, 9223372036854775807⟩
def uptoOrc (b7 : Bool) : Orc := fun f t _ => if Nat.beq f 92 then (if Nat.beq t 7 then some (.bool b7) else none) else none
set_option maxHeartbeats 0 in
set_option maxRecDepth 1000000 in
theorem supto_0_r (v : Int) (he : ([(b2i (decide (v ≤ 9223372036854775807)), 0)] : Cs).map (·.1) = ([(b2i (decide (v ≤ 9223372036854775807)), 0)] : Cs).map (·.2)) (w : World) : Calls Tryz.prog 92 #[.int .u64 v] w fun e w' => e = .returned (VS ⟨0, v, -9223372036854775808, 9223372036854775807⟩) ∧ Gr w w' :=
  rk hkBase_ok (uptoOrc false) (cs := ([(b2i (decide (v ≤ 9223372036854775807)), 0)] : Cs)) rfl (by kernel_rfl) (by kernel_rfl) he w
theorem supto_0 (v : Int) (k : decide (v ≤ 9223372036854775807) = false) (w : World) : Calls Tryz.prog 92 #[.int .u64 v] w fun e w' => e = .returned (VS ⟨0, v, -9223372036854775808, 9223372036854775807⟩) ∧ Gr w w' :=
  supto_0_r v (by rw [k]; rfl) w
set_option maxHeartbeats 0 in
set_option maxRecDepth 1000000 in
theorem supto_1_r (v : Int) (he : ([(b2i (decide (v ≤ 9223372036854775807)), 1)] : Cs).map (·.1) = ([(b2i (decide (v ≤ 9223372036854775807)), 1)] : Cs).map (·.2)) (w : World) : Calls Tryz.prog 92 #[.int .u64 v] w fun e w' => e = .returned (VS ⟨0, v, 0, IntKind.i64.wrap v⟩) ∧ Gr w w' :=
  rk hkBase_ok (uptoOrc true) (cs := ([(b2i (decide (v ≤ 9223372036854775807)), 1)] : Cs)) rfl (by kernel_rfl) (by kernel_rfl) he w
theorem supto_1 (v : Int) (k : decide (v ≤ 9223372036854775807) = true) (w : World) : Calls Tryz.prog 92 #[.int .u64 v] w fun e w' => e = .returned (VS ⟨0, v, 0, IntKind.i64.wrap v⟩) ∧ Gr w w' :=
  supto_1_r v (by rw [k]; rfl) w
theorem c_supto (v : Int) (w : World) : Calls Tryz.prog 92 #[.int .u64 v] w fun e w' => e = .returned (VS (sUptoI v)) ∧ Gr w w' := by
  cases k : decide (v ≤ 9223372036854775807) with
  | true => exact ret_eq (by simp only [sUptoI, k]; rfl) (supto_1 v k w)
  | false => exact ret_eq (by simp only [sUptoI, k]; rfl) (supto_0 v k w)
def hk_supto : Hook := fun f args _ =>
  if Nat.beq f 92 then
    match args with
    | [.int .u64 a] => some (VS (sUptoI a), [])
    | _ => none
  else none
theorem hk_supto_ok : HookOk Tryz.prog hk_supto := by
  intro f args h v cs hv hc wb k s w H
  unfold hk_supto at hv
  split at hv
  · rename_i hf
    obtain rfl := Nat.eq_of_beq_eq_true hf
    split at hv
    · rename_i a
      cases hv
      exact c_supto a w
    · cases hv
  · cases hv
def hk4 : Hook := orHook hk_tight (orHook hk_settled (orHook hk_has (orHook hk_in (orHook hk_supto (hk2)))))
theorem hk4_ok : HookOk Tryz.prog hk4 := orHook_ok hk_tight_ok (orHook_ok hk_settled_ok (orHook_ok hk_has_ok (orHook_ok hk_in_ok (orHook_ok hk_supto_ok (hk2_ok)))))
def uptoI (v : Int) : NI := ⟨tRangeI 0 v, sUptoI v⟩
set_option maxHeartbeats 0 in
set_option maxRecDepth 1000000 in
theorem c_upto_r (v : Int) (he : ([(b2i (uB 0 && uB v), 1)] : Cs).map (·.1) = ([(b2i (uB 0 && uB v), 1)] : Cs).map (·.2)) (w : World) : Calls Tryz.prog 43 #[.int .u64 v] w fun e w' => e = .returned (VN (uptoI v)) ∧ Gr w w' :=
  rk hk4_ok noOrc (cs := ([(b2i (uB 0 && uB v), 1)] : Cs)) rfl (by kernel_rfl) (by kernel_rfl) he w
theorem c_upto (v : Int) (hw : uB v = true) (w : World) : Calls Tryz.prog 43 #[.int .u64 v] w fun e w' => e = .returned (VN (uptoI v)) ∧ Gr w w' :=
  c_upto_r v (by rw [hw]; rfl) w
theorem sW_upto {v : Int} (h : uB v = true) : sW (sUptoI v) = true := by
  unfold sUptoI sW
  have z : uB 0 = true := rfl
  have z1 : zB 0 = true := rfl
  split
  · simp only [h, z, z1, i64_zB, Bool.and_self]
  · rw [h, z]; rfl
theorem nW_upto {v : Int} (h : uB v = true) : nW (uptoI v) = true := by unfold nW uptoI; rw [sW_upto h]; simp only [tRange_tW, Bool.and_self]
def hk_upto : Hook := fun f args _ =>
  if Nat.beq f 43 then
    match args with
    | [.int .u64 a] => some (VN (uptoI a), [(b2i (uB a), 1)])
    | _ => none
  else none
theorem hk_upto_ok : HookOk Tryz.prog hk_upto := by
  intro f args h v cs hv hc wb k s w H
  unfold hk_upto at hv
  split at hv
  · rename_i hf
    obtain rfl := Nat.eq_of_beq_eq_true hf
    split at hv
    · rename_i a
      cases hv
      have hw := pair1 hc rfl
      exact c_upto a hw w
    · cases hv
  · cases hv
def lshI (a : NI) (n : Int) : NI := ⟨tLshI a.t n, sLshI a.s n⟩
set_option maxHeartbeats 0 in
set_option maxRecDepth 1000000 in
theorem lsh_1_r (a : NI) (n : Int) (he : ([(b2i (tW a.t && zB n), 1), (b2i (sW a.s && zB n), 1)] : Cs).map (·.1) = ([(b2i (tW a.t && zB n), 1), (b2i (sW a.s && zB n), 1)] : Cs).map (·.2)) (w : World) : Calls Tryz.prog 111 #[VN a, .int .i64 n] w fun e w' => e = .returned (VN (lshI a n)) ∧ Gr w w' :=
  rk hk4_ok noOrc (cs := ([(b2i (tW a.t && zB n), 1), (b2i (sW a.s && zB n), 1)] : Cs)) rfl (by kernel_rfl) (by kernel_rfl) he w
theorem lsh_1 (a : NI) (n : Int) (h1 : (tW a.t && zB n) = true) (h2 : (sW a.s && zB n) = true) (w : World) : Calls Tryz.prog 111 #[VN a, .int .i64 n] w fun e w' => e = .returned (VN (lshI a n)) ∧ Gr w w' :=
  lsh_1_r a n (by rw [h1, h2]; rfl) w
theorem c_lsh (a : NI) (n : Int) (hw : (nW a && zB n) = true) (w : World) : Calls Tryz.prog 111 #[VN a, .int .i64 n] w fun e w' => e = .returned (VN (lshI a n)) ∧ Gr w w' := by
  unfold nW at hw
  simp only [Bool.and_eq_true] at hw
  exact lsh_1 a n (by rw [hw.1.1, hw.2]; rfl) (by rw [hw.1.2, hw.2]; rfl) w
theorem nW_lsh (a : NI) (n : Int) : nW (lshI a n) = true := by unfold nW lshI; simp only [tLshI, sLshI, tW_tN, sW_sN, Bool.and_self]
def hk_lsh : Hook := fun f args _ =>
  if Nat.beq f 111 then
    match args with
    | [.agg ⟨[.int .u64 a0, .int .u64 a1, .int .u64 a2, .int .u64 a3, .int .i64 a4, .int .i64 a5]⟩, .int .i64 b] => some (VN (lshI (⟨⟨a0, a1⟩, ⟨a2, a3, a4, a5⟩⟩ : NI) b), [(b2i (nW (⟨⟨a0, a1⟩, ⟨a2, a3, a4, a5⟩⟩ : NI) && zB b), 1)])
    | _ => none
  else none
theorem hk_lsh_ok : HookOk Tryz.prog hk_lsh := by
  intro f args h v cs hv hc wb k s w H
  unfold hk_lsh at hv
  split at hv
  · rename_i hf
    obtain rfl := Nat.eq_of_beq_eq_true hf
    split at hv
    · rename_i a0 a1 a2 a3 a4 a5 b
      cases hv
      have hw := pair1 hc rfl
      exact c_lsh (⟨⟨a0, a1⟩, ⟨a2, a3, a4, a5⟩⟩ : NI) b hw w
    · cases hv
  · cases hv
def arshI (a : NI) (n : Int) : NI := ⟨tArshI a.t n, sArshI a.s n⟩
set_option maxHeartbeats 0 in
set_option maxRecDepth 1000000 in
theorem arsh_1_r (a : NI) (n : Int) (he : ([(b2i (tW a.t && zB n), 1), (b2i (sW a.s && zB n), 1)] : Cs).map (·.1) = ([(b2i (tW a.t && zB n), 1), (b2i (sW a.s && zB n), 1)] : Cs).map (·.2)) (w : World) : Calls Tryz.prog 72 #[VN a, .int .i64 n] w fun e w' => e = .returned (VN (arshI a n)) ∧ Gr w w' :=
  rk hk4_ok noOrc (cs := ([(b2i (tW a.t && zB n), 1), (b2i (sW a.s && zB n), 1)] : Cs)) rfl (by kernel_rfl) (by kernel_rfl) he w
theorem arsh_1 (a : NI) (n : Int) (h1 : (tW a.t && zB n) = true) (h2 : (sW a.s && zB n) = true) (w : World) : Calls Tryz.prog 72 #[VN a, .int .i64 n] w fun e w' => e = .returned (VN (arshI a n)) ∧ Gr w w' :=
  arsh_1_r a n (by rw [h1, h2]; rfl) w
theorem c_arsh (a : NI) (n : Int) (hw : (nW a && zB n) = true) (w : World) : Calls Tryz.prog 72 #[VN a, .int .i64 n] w fun e w' => e = .returned (VN (arshI a n)) ∧ Gr w w' := by
  unfold nW at hw
  simp only [Bool.and_eq_true] at hw
  exact arsh_1 a n (by rw [hw.1.1, hw.2]; rfl) (by rw [hw.1.2, hw.2]; rfl) w
theorem nW_arsh (a : NI) (n : Int) : nW (arshI a n) = true := by unfold nW arshI; simp only [tArshI, sArshI, tW_tN, sW_sN, Bool.and_self]
def hk_arsh : Hook := fun f args _ =>
  if Nat.beq f 72 then
    match args with
    | [.agg ⟨[.int .u64 a0, .int .u64 a1, .int .u64 a2, .int .u64 a3, .int .i64 a4, .int .i64 a5]⟩, .int .i64 b] => some (VN (arshI (⟨⟨a0, a1⟩, ⟨a2, a3, a4, a5⟩⟩ : NI) b), [(b2i (nW (⟨⟨a0, a1⟩, ⟨a2, a3, a4, a5⟩⟩ : NI) && zB b), 1)])
    | _ => none
  else none
theorem hk_arsh_ok : HookOk Tryz.prog hk_arsh := by
  intro f args h v cs hv hc wb k s w H
  unfold hk_arsh at hv
  split at hv
  · rename_i hf
    obtain rfl := Nat.eq_of_beq_eq_true hf
    split at hv
    · rename_i a0 a1 a2 a3 a4 a5 b
      cases hv
      have hw := pair1 hc rfl
      exact c_arsh (⟨⟨a0, a1⟩, ⟨a2, a3, a4, a5⟩⟩ : NI) b hw w
    · cases hv
  · cases hv
def hk5 : Hook := orHook hk_tight (orHook hk_settled (orHook hk_has (orHook hk_in (orHook hk_supto (orHook hk_upto (orHook hk_lsh (orHook hk_arsh (hk2))))))))
theorem hk5_ok : HookOk Tryz.prog hk5 := orHook_ok hk_tight_ok (orHook_ok hk_settled_ok (orHook_ok hk_has_ok (orHook_ok hk_in_ok (orHook_ok hk_supto_ok (orHook_ok hk_upto_ok (orHook_ok hk_lsh_ok (orHook_ok hk_arsh_ok (hk2_ok))))))))
def extI (a : NI) : NI := arshI (lshI a 32) 32
set_option maxHeartbeats 0 in
set_option maxRecDepth 1000000 in
theorem ext_1_r (a : NI) (he : ([(b2i (nW a && zB 32), 1), (b2i (nW (lshI a 32) && zB 32), 1)] : Cs).map (·.1) = ([(b2i (nW a && zB 32), 1), (b2i (nW (lshI a 32) && zB 32), 1)] : Cs).map (·.2)) (w : World) : Calls Tryz.prog 73 #[VN a] w fun e w' => e = .returned (VN (extI a)) ∧ Gr w w' :=
  rk hk5_ok noOrc (cs := ([(b2i (nW a && zB 32), 1), (b2i (nW (lshI a 32) && zB 32), 1)] : Cs)) rfl (by kernel_rfl) (by kernel_rfl) he w
theorem ext_1 (a : NI) (h1 : (nW a && zB 32) = true) (h2 : (nW (lshI a 32) && zB 32) = true) (w : World) : Calls Tryz.prog 73 #[VN a] w fun e w' => e = .returned (VN (extI a)) ∧ Gr w w' :=
  ext_1_r a (by rw [h1, h2]; rfl) w
theorem c_ext (a : NI) (hw : nW a = true) (w : World) : Calls Tryz.prog 73 #[VN a] w fun e w' => e = .returned (VN (extI a)) ∧ Gr w w' := ext_1 a (by rw [hw]; rfl) (by rw [nW_lsh]; rfl) w
theorem nW_ext (a : NI) : nW (extI a) = true := nW_arsh _ _
def hk_ext : Hook := fun f args _ =>
  if Nat.beq f 73 then
    match args with
    | [.agg ⟨[.int .u64 a0, .int .u64 a1, .int .u64 a2, .int .u64 a3, .int .i64 a4, .int .i64 a5]⟩] => some (VN (extI (⟨⟨a0, a1⟩, ⟨a2, a3, a4, a5⟩⟩ : NI)), [(b2i (nW (⟨⟨a0, a1⟩, ⟨a2, a3, a4, a5⟩⟩ : NI)), 1)])
    | _ => none
  else none
theorem hk_ext_ok : HookOk Tryz.prog hk_ext := by
  intro f args h v cs hv hc wb k s w H
  unfold hk_ext at hv
  split at hv
  · rename_i hf
    obtain rfl := Nat.eq_of_beq_eq_true hf
    split at hv
    · rename_i a0 a1 a2 a3 a4 a5
      cases hv
      have hw := pair1 hc rfl
      exact c_ext (⟨⟨a0, a1⟩, ⟨a2, a3, a4, a5⟩⟩ : NI) hw w
    · cases hv
  · cases hv
def lowI (a : NI) : NI := settledI ⟨tLowI a.t 32, sLowI a.s⟩
set_option maxHeartbeats 0 in
set_option maxRecDepth 1000000 in
theorem low_1_r (a : NI) (he : ([(b2i (tW a.t && zB 32), 1), (b2i (sW a.s), 1), (b2i (nW (⟨tLowI a.t 32, sLowI a.s⟩ : NI)), 1)] : Cs).map (·.1) = ([(b2i (tW a.t && zB 32), 1), (b2i (sW a.s), 1), (b2i (nW (⟨tLowI a.t 32, sLowI a.s⟩ : NI)), 1)] : Cs).map (·.2)) (w : World) : Calls Tryz.prog 26 #[VN a] w fun e w' => e = .returned (VN (lowI a)) ∧ Gr w w' :=
  rk hk5_ok noOrc (cs := ([(b2i (tW a.t && zB 32), 1), (b2i (sW a.s), 1), (b2i (nW (⟨tLowI a.t 32, sLowI a.s⟩ : NI)), 1)] : Cs)) rfl (by kernel_rfl) (by kernel_rfl) he w
theorem low_1 (a : NI) (h1 : (tW a.t && zB 32) = true) (h2 : sW a.s = true) (h3 : nW (⟨tLowI a.t 32, sLowI a.s⟩ : NI) = true) (w : World) : Calls Tryz.prog 26 #[VN a] w fun e w' => e = .returned (VN (lowI a)) ∧ Gr w w' :=
  low_1_r a (by rw [h1, h2, h3]; rfl) w
theorem nW_low0 (a : NI) : nW (⟨tLowI a.t 32, sLowI a.s⟩ : NI) = true := by unfold nW; simp only [tLowI, sLowI, tW_tN, sW_sN, Bool.and_self]
theorem c_low (a : NI) (hw : nW a = true) (w : World) : Calls Tryz.prog 26 #[VN a] w fun e w' => e = .returned (VN (lowI a)) ∧ Gr w w' := by
  unfold nW at hw
  simp only [Bool.and_eq_true] at hw
  exact low_1 a (by rw [hw.1]; rfl) hw.2 (nW_low0 a) w
theorem nW_lowI (a : NI) : nW (lowI a) = true := nW_settled (nW_low0 a)
def hk_low : Hook := fun f args _ =>
  if Nat.beq f 26 then
    match args with
    | [.agg ⟨[.int .u64 a0, .int .u64 a1, .int .u64 a2, .int .u64 a3, .int .i64 a4, .int .i64 a5]⟩] => some (VN (lowI (⟨⟨a0, a1⟩, ⟨a2, a3, a4, a5⟩⟩ : NI)), [(b2i (nW (⟨⟨a0, a1⟩, ⟨a2, a3, a4, a5⟩⟩ : NI)), 1)])
    | _ => none
  else none
theorem hk_low_ok : HookOk Tryz.prog hk_low := by
  intro f args h v cs hv hc wb k s w H
  unfold hk_low at hv
  split at hv
  · rename_i hf
    obtain rfl := Nat.eq_of_beq_eq_true hf
    split at hv
    · rename_i a0 a1 a2 a3 a4 a5
      cases hv
      have hw := pair1 hc rfl
      exact c_low (⟨⟨a0, a1⟩, ⟨a2, a3, a4, a5⟩⟩ : NI) hw w
    · cases hv
  · cases hv
def constI (v : Int) : NI := ⟨⟨v, 0⟩, sConstI v⟩
set_option maxHeartbeats 0 in
set_option maxRecDepth 1000000 in
theorem c_const_r (v : Int) (he : ([(b2i (uB v), 1)] : Cs).map (·.1) = ([(b2i (uB v), 1)] : Cs).map (·.2)) (w : World) : Calls Tryz.prog 17 #[.int .u64 v] w fun e w' => e = .returned (VN (constI v)) ∧ Gr w w' :=
  rk hk5_ok noOrc (cs := ([(b2i (uB v), 1)] : Cs)) rfl (by kernel_rfl) (by kernel_rfl) he w
theorem c_const (v : Int) (hw : uB v = true) (w : World) : Calls Tryz.prog 17 #[.int .u64 v] w fun e w' => e = .returned (VN (constI v)) ∧ Gr w w' :=
  c_const_r v (by rw [hw]; rfl) w
def hk_const : Hook := fun f args _ =>
  if Nat.beq f 17 then
    match args with
    | [.int .u64 a] => some (VN (constI a), [(b2i (uB a), 1)])
    | _ => none
  else none
theorem hk_const_ok : HookOk Tryz.prog hk_const := by
  intro f args h v cs hv hc wb k s w H
  unfold hk_const at hv
  split at hv
  · rename_i hf
    obtain rfl := Nat.eq_of_beq_eq_true hf
    split at hv
    · rename_i a
      cases hv
      have hw := pair1 hc rfl
      exact c_const a hw w
    · cases hv
  · cases hv
theorem nW_const {v : Int} (h : uB v = true) : nW (constI v) = true := by
  unfold nW constI tW
  simp only [h, sConstI, sW_sN, Bool.and_true]
  rfl
def hk6 : Hook := orHook hk_tight (orHook hk_settled (orHook hk_has (orHook hk_in (orHook hk_supto (orHook hk_upto (orHook hk_lsh (orHook hk_arsh (orHook hk_ext (orHook hk_low (orHook hk_const (hk2)))))))))))
theorem hk6_ok : HookOk Tryz.prog hk6 := orHook_ok hk_tight_ok (orHook_ok hk_settled_ok (orHook_ok hk_has_ok (orHook_ok hk_in_ok (orHook_ok hk_supto_ok (orHook_ok hk_upto_ok (orHook_ok hk_lsh_ok (orHook_ok hk_arsh_ok (orHook_ok hk_ext_ok (orHook_ok hk_low_ok (orHook_ok hk_const_ok (hk2_ok)))))))))))
end Go.Proofs.YtchjneodjaakdaaGreat.Ex
end
section
namespace Go.Proofs.YtchjneodjaakdaaGreat.Ex
open Go Go.RowKit
open Go.Proofs.YtchjneodjaakdaaGreat.Sc (firstV firstOk lastV lastOk)
def andI (x c : Int) : Int := IntKind.u64.wrap ((BitVec.ofInt IntKind.u64.bits x &&& BitVec.ofInt IntKind.u64.bits c).toNat : Int)
def cntI (x c : Int) : Int := IntKind.i64.wrap (andI x c)
def anyT : TI := ⟨0, 18446744073709551615⟩
def anyS : SI := ⟨0, 18446744073709551615, -9223372036854775808, 9223372036854775807⟩
def anyN : NI := ⟨anyT, anyS⟩
def movedI (op : Int) (a b : NI) : NI :=
  if oneK b then
    if op = 96 then lshI a (cntI (oneI b) 63) else if op = 112 then ⟨tRshI a.t (cntI (oneI b) 63), sRshI a.s (cntI (oneI b) 63)⟩ else arshI a (cntI (oneI b) 63)
  else if op = 112 then uptoI a.s.hi
  else if op = 192 then (if decide (a.s.slo ≥ 0) then uptoI a.s.hi else ⟨anyT, ⟨0, 18446744073709551615, a.s.slo, if -1 > a.s.shi then -1 else a.s.shi⟩⟩)
  else anyN
theorem uB_and (x c : Int) : uB (andI x c) = true := u64_uB _
theorem zB_cnt (x c : Int) : zB (cntI x c) = true := i64_zB _
theorem nW_any : nW anyN = true := rfl
def movedOrc (b15 b58 : Bool) : Orc := fun f t _ => if Nat.beq f 69 then (if Nat.beq t 15 then some (.bool b15) else if Nat.beq t 58 then some (.bool b58) else none) else none
set_option maxHeartbeats 0 in
set_option maxRecDepth 1000000 in
theorem moved_l1_r (a b : NI) (he : ([(b2i (oneK b), 1), (b2i (nW a && zB (cntI (oneI b) 63)), 1)] : Cs).map (·.1) = ([(b2i (oneK b), 1), (b2i (nW a && zB (cntI (oneI b) 63)), 1)] : Cs).map (·.2)) (w : World) : Calls Tryz.prog 69 #[.int .u8 96, VN a, VN b] w fun e w' => e = .returned (VN (lshI a (cntI (oneI b) 63))) ∧ Gr w w' :=
  rk hk6_ok (movedOrc true true) (cs := ([(b2i (oneK b), 1), (b2i (nW a && zB (cntI (oneI b) 63)), 1)] : Cs)) rfl (by kernel_rfl) (by kernel_rfl) he w
theorem moved_l1 (a b : NI) (h1 : (nW a && zB (cntI (oneI b) 63)) = true) (_h2 : (tW a.t && zB (cntI (oneI b) 63)) = true) (_h3 : (sW a.s && zB (cntI (oneI b) 63)) = true) (_h4 : uB a.s.hi = true) (k : oneK b = true) (w : World) : Calls Tryz.prog 69 #[.int .u8 96, VN a, VN b] w fun e w' => e = .returned (VN (lshI a (cntI (oneI b) 63))) ∧ Gr w w' :=
  moved_l1_r a b (by rw [k, h1]; rfl) w
set_option maxHeartbeats 0 in
set_option maxRecDepth 1000000 in
theorem moved_r1_r (a b : NI) (he : ([(b2i (oneK b), 1), (b2i (tW a.t && zB (cntI (oneI b) 63)), 1), (b2i (sW a.s && zB (cntI (oneI b) 63)), 1)] : Cs).map (·.1) = ([(b2i (oneK b), 1), (b2i (tW a.t && zB (cntI (oneI b) 63)), 1), (b2i (sW a.s && zB (cntI (oneI b) 63)), 1)] : Cs).map (·.2)) (w : World) : Calls Tryz.prog 69 #[.int .u8 112, VN a, VN b] w fun e w' => e = .returned (VN ⟨tRshI a.t (cntI (oneI b) 63), sRshI a.s (cntI (oneI b) 63)⟩) ∧ Gr w w' :=
  rk hk6_ok (movedOrc true true) (cs := ([(b2i (oneK b), 1), (b2i (tW a.t && zB (cntI (oneI b) 63)), 1), (b2i (sW a.s && zB (cntI (oneI b) 63)), 1)] : Cs)) rfl (by kernel_rfl) (by kernel_rfl) he w
theorem moved_r1 (a b : NI) (_h1 : (nW a && zB (cntI (oneI b) 63)) = true) (h2 : (tW a.t && zB (cntI (oneI b) 63)) = true) (h3 : (sW a.s && zB (cntI (oneI b) 63)) = true) (_h4 : uB a.s.hi = true) (k : oneK b = true) (w : World) : Calls Tryz.prog 69 #[.int .u8 112, VN a, VN b] w fun e w' => e = .returned (VN ⟨tRshI a.t (cntI (oneI b) 63), sRshI a.s (cntI (oneI b) 63)⟩) ∧ Gr w w' :=
  moved_r1_r a b (by rw [k, h2, h3]; rfl) w
set_option maxHeartbeats 0 in
set_option maxRecDepth 1000000 in
theorem moved_a1_r (a b : NI) (he : ([(b2i (oneK b), 1), (b2i (nW a && zB (cntI (oneI b) 63)), 1)] : Cs).map (·.1) = ([(b2i (oneK b), 1), (b2i (nW a && zB (cntI (oneI b) 63)), 1)] : Cs).map (·.2)) (w : World) : Calls Tryz.prog 69 #[.int .u8 192, VN a, VN b] w fun e w' => e = .returned (VN (arshI a (cntI (oneI b) 63))) ∧ Gr w w' :=
  rk hk6_ok (movedOrc true true) (cs := ([(b2i (oneK b), 1), (b2i (nW a && zB (cntI (oneI b) 63)), 1)] : Cs)) rfl (by kernel_rfl) (by kernel_rfl) he w
theorem moved_a1 (a b : NI) (h1 : (nW a && zB (cntI (oneI b) 63)) = true) (_h2 : (tW a.t && zB (cntI (oneI b) 63)) = true) (_h3 : (sW a.s && zB (cntI (oneI b) 63)) = true) (_h4 : uB a.s.hi = true) (k : oneK b = true) (w : World) : Calls Tryz.prog 69 #[.int .u8 192, VN a, VN b] w fun e w' => e = .returned (VN (arshI a (cntI (oneI b) 63))) ∧ Gr w w' :=
  moved_a1_r a b (by rw [k, h1]; rfl) w
set_option maxHeartbeats 0 in
set_option maxRecDepth 1000000 in
theorem moved_l0_r (a b : NI) (he : ([(b2i (oneK b), 0)] : Cs).map (·.1) = ([(b2i (oneK b), 0)] : Cs).map (·.2)) (w : World) : Calls Tryz.prog 69 #[.int .u8 96, VN a, VN b] w fun e w' => e = .returned (VN anyN) ∧ Gr w w' :=
  rk hk6_ok (movedOrc false true) (cs := ([(b2i (oneK b), 0)] : Cs)) rfl (by kernel_rfl) (by kernel_rfl) he w
theorem moved_l0 (a b : NI) (_h1 : (nW a && zB (cntI (oneI b) 63)) = true) (_h2 : (tW a.t && zB (cntI (oneI b) 63)) = true) (_h3 : (sW a.s && zB (cntI (oneI b) 63)) = true) (_h4 : uB a.s.hi = true) (k : oneK b = false) (w : World) : Calls Tryz.prog 69 #[.int .u8 96, VN a, VN b] w fun e w' => e = .returned (VN anyN) ∧ Gr w w' :=
  moved_l0_r a b (by rw [k]; rfl) w
set_option maxHeartbeats 0 in
set_option maxRecDepth 1000000 in
theorem moved_r0_r (a b : NI) (he : ([(b2i (oneK b), 0), (b2i (uB a.s.hi), 1)] : Cs).map (·.1) = ([(b2i (oneK b), 0), (b2i (uB a.s.hi), 1)] : Cs).map (·.2)) (w : World) : Calls Tryz.prog 69 #[.int .u8 112, VN a, VN b] w fun e w' => e = .returned (VN (uptoI a.s.hi)) ∧ Gr w w' :=
  rk hk6_ok (movedOrc false true) (cs := ([(b2i (oneK b), 0), (b2i (uB a.s.hi), 1)] : Cs)) rfl (by kernel_rfl) (by kernel_rfl) he w
theorem moved_r0 (a b : NI) (_h1 : (nW a && zB (cntI (oneI b) 63)) = true) (_h2 : (tW a.t && zB (cntI (oneI b) 63)) = true) (_h3 : (sW a.s && zB (cntI (oneI b) 63)) = true) (h4 : uB a.s.hi = true) (k : oneK b = false) (w : World) : Calls Tryz.prog 69 #[.int .u8 112, VN a, VN b] w fun e w' => e = .returned (VN (uptoI a.s.hi)) ∧ Gr w w' :=
  moved_r0_r a b (by rw [k, h4]; rfl) w
set_option maxHeartbeats 0 in
set_option maxRecDepth 1000000 in
theorem moved_a0t_r (a b : NI) (he : ([(b2i (oneK b), 0), (b2i (decide (a.s.slo ≥ 0)), 1), (b2i (uB a.s.hi), 1)] : Cs).map (·.1) = ([(b2i (oneK b), 0), (b2i (decide (a.s.slo ≥ 0)), 1), (b2i (uB a.s.hi), 1)] : Cs).map (·.2)) (w : World) : Calls Tryz.prog 69 #[.int .u8 192, VN a, VN b] w fun e w' => e = .returned (VN (uptoI a.s.hi)) ∧ Gr w w' :=
  rk hk6_ok (movedOrc false true) (cs := ([(b2i (oneK b), 0), (b2i (decide (a.s.slo ≥ 0)), 1), (b2i (uB a.s.hi), 1)] : Cs)) rfl (by kernel_rfl) (by kernel_rfl) he w
theorem moved_a0t (a b : NI) (_h1 : (nW a && zB (cntI (oneI b) 63)) = true) (_h2 : (tW a.t && zB (cntI (oneI b) 63)) = true) (_h3 : (sW a.s && zB (cntI (oneI b) 63)) = true) (h4 : uB a.s.hi = true) (k : oneK b = false) (z : decide (a.s.slo ≥ 0) = true) (w : World) : Calls Tryz.prog 69 #[.int .u8 192, VN a, VN b] w fun e w' => e = .returned (VN (uptoI a.s.hi)) ∧ Gr w w' :=
  moved_a0t_r a b (by rw [k, z, h4]; rfl) w
set_option maxHeartbeats 0 in
set_option maxRecDepth 1000000 in
theorem moved_a0f_r (a b : NI) (he : ([(b2i (oneK b), 0), (b2i (decide (a.s.slo ≥ 0)), 0)] : Cs).map (·.1) = ([(b2i (oneK b), 0), (b2i (decide (a.s.slo ≥ 0)), 0)] : Cs).map (·.2)) (w : World) : Calls Tryz.prog 69 #[.int .u8 192, VN a, VN b] w fun e w' => e = .returned (VN ⟨anyT, ⟨0, 18446744073709551615, a.s.slo, if -1 > a.s.shi then -1 else a.s.shi⟩⟩) ∧ Gr w w' :=
  rk hk6_ok (movedOrc false false) (cs := ([(b2i (oneK b), 0), (b2i (decide (a.s.slo ≥ 0)), 0)] : Cs)) rfl (by kernel_rfl) (by kernel_rfl) he w
theorem moved_a0f (a b : NI) (_h1 : (nW a && zB (cntI (oneI b) 63)) = true) (_h2 : (tW a.t && zB (cntI (oneI b) 63)) = true) (_h3 : (sW a.s && zB (cntI (oneI b) 63)) = true) (_h4 : uB a.s.hi = true) (k : oneK b = false) (z : decide (a.s.slo ≥ 0) = false) (w : World) : Calls Tryz.prog 69 #[.int .u8 192, VN a, VN b] w fun e w' => e = .returned (VN ⟨anyT, ⟨0, 18446744073709551615, a.s.slo, if -1 > a.s.shi then -1 else a.s.shi⟩⟩) ∧ Gr w w' :=
  moved_a0f_r a b (by rw [k, z]; rfl) w
theorem c_moved (op : Int) (a b : NI) (ho : op = 96 ∨ op = 112 ∨ op = 192) (hw : (nW a && nW b) = true) (w : World) : Calls Tryz.prog 69 #[.int .u8 op, VN a, VN b] w fun e w' => e = .returned (VN (movedI op a b)) ∧ Gr w w' := by
  simp only [Bool.and_eq_true] at hw
  have hn := hw.1
  unfold nW sW at hn
  simp only [Bool.and_eq_true] at hn
  have h1 : (nW a && zB (cntI (oneI b) 63)) = true := by rw [hw.1, zB_cnt]; rfl
  have h2 : (tW a.t && zB (cntI (oneI b) 63)) = true := by rw [hn.1, zB_cnt]; rfl
  have h3 : (sW a.s && zB (cntI (oneI b) 63)) = true := by rw [zB_cnt]; unfold sW; rw [hn.2.1.1.1, hn.2.1.1.2, hn.2.1.2, hn.2.2]; rfl
  have h4 := hn.2.1.1.2
  cases k : oneK b with
  | true =>
    rcases ho with rfl | rfl | rfl
    · exact ret_eq (by simp only [movedI, k]; rfl) (moved_l1 a b h1 h2 h3 h4 k w)
    · exact ret_eq (by simp only [movedI, k]; rfl) (moved_r1 a b h1 h2 h3 h4 k w)
    · exact ret_eq (by simp only [movedI, k]; rfl) (moved_a1 a b h1 h2 h3 h4 k w)
  | false =>
    rcases ho with rfl | rfl | rfl
    · exact ret_eq (by simp only [movedI, k]; rfl) (moved_l0 a b h1 h2 h3 h4 k w)
    · exact ret_eq (by simp only [movedI, k]; rfl) (moved_r0 a b h1 h2 h3 h4 k w)
    · cases z : decide (a.s.slo ≥ 0) with
      | true => exact ret_eq (by simp only [movedI, k, z]; rfl) (moved_a0t a b h1 h2 h3 h4 k z w)
      | false => exact ret_eq (by simp only [movedI, k, z]; rfl) (moved_a0f a b h1 h2 h3 h4 k z w)
theorem zB_max {x : Int} (h : zB x = true) : zB (if -1 > x then -1 else x) = true := by
  split
  · rfl
  · exact h
theorem nW_moved (op : Int) {a b : NI} (ha : nW a = true) : nW (movedI op a b) = true := by
  have ha' := ha
  unfold nW sW at ha
  simp only [Bool.and_eq_true] at ha
  unfold movedI
  split
  · split
    · exact nW_lsh _ _
    · split
      · unfold nW; simp only [tRshI, sRshI, tW_tN, sW_sN, Bool.and_self]
      · exact nW_arsh _ _
  · split
    · exact nW_upto ha.2.1.1.2
    · split
      · split
        · exact nW_upto ha.2.1.1.2
        · unfold nW sW
          simp only [ha.2.1.2, zB_max ha.2.2, Bool.and_true]
          rfl
      · rfl
def hk_moved : Hook := fun f args _ =>
  if Nat.beq f 69 then
    match args with
    | [.int .u8 a, .agg ⟨[.int .u64 b0, .int .u64 b1, .int .u64 b2, .int .u64 b3, .int .i64 b4, .int .i64 b5]⟩, .agg ⟨[.int .u64 c0, .int .u64 c1, .int .u64 c2, .int .u64 c3, .int .i64 c4, .int .i64 c5]⟩] =>
      some (VN (movedI a ⟨⟨b0, b1⟩, ⟨b2, b3, b4, b5⟩⟩ ⟨⟨c0, c1⟩, ⟨c2, c3, c4, c5⟩⟩), [(b2i ((a == 96 || a == 112 || a == 192) && (nW ⟨⟨b0, b1⟩, ⟨b2, b3, b4, b5⟩⟩ && nW ⟨⟨c0, c1⟩, ⟨c2, c3, c4, c5⟩⟩)), 1)])
    | _ => none
  else none
theorem hk_moved_ok : HookOk Tryz.prog hk_moved := by
  intro f args h v cs hv hc wb k s w H
  unfold hk_moved at hv
  split at hv
  · rename_i hf
    obtain rfl := Nat.eq_of_beq_eq_true hf
    split at hv
    · rename_i a b0 b1 b2 b3 b4 b5 c0 c1 c2 c3 c4 c5
      cases hv
      have hw := pair1 hc rfl
      rw [Bool.and_eq_true] at hw
      refine c_moved a _ _ ?_ hw.2 w
      have := hw.1
      simp only [Bool.or_eq_true, beq_iff_eq] at this
      omega
    · cases hv
  · cases hv
def hk7 : Hook := orHook hk_tight (orHook hk_settled (orHook hk_has (orHook hk_in (orHook hk_supto (orHook hk_upto (orHook hk_lsh (orHook hk_arsh (orHook hk_ext (orHook hk_low (orHook hk_const (orHook hk_moved (hk2))))))))))))
theorem hk7_ok : HookOk Tryz.prog hk7 := orHook_ok hk_tight_ok (orHook_ok hk_settled_ok (orHook_ok hk_has_ok (orHook_ok hk_in_ok (orHook_ok hk_supto_ok (orHook_ok hk_upto_ok (orHook_ok hk_lsh_ok (orHook_ok hk_arsh_ok (orHook_ok hk_ext_ok (orHook_ok hk_low_ok (orHook_ok hk_const_ok (orHook_ok hk_moved_ok (hk2_ok))))))))))))
def doI (op : Int) (a b : NI) : NI :=
  if op = 0 then ⟨tAddI a.t b.t, sAddI a.s b.s⟩
  else if op = 16 then ⟨tSubI a.t b.t, sSubI a.s b.s⟩
  else if op = 32 then ⟨tMulI a.t b.t, sMulI a.s b.s⟩
  else if op = 64 then ⟨tOrI a.t b.t, sOrI a.s b.s⟩
  else if op = 80 then ⟨tAndI a.t b.t, sAndI a.s b.s⟩
  else if op = 160 then ⟨tXorI a.t b.t, sXorI a.s b.s⟩
  else if op = 48 then ⟨anyT, sDivI a.s b.s⟩
  else if op = 144 then ⟨anyT, sModI a.s b.s⟩
  else if op = 128 then ⟨tSubI (constI 0).t a.t, sSubI (constI 0).s a.s⟩
  else if op = 176 then b
  else if op = 96 then movedI 96 a b
  else if op = 112 then movedI 112 a b
  else if op = 192 then movedI 192 a b
  else constI 0
set_option maxHeartbeats 0 in
set_option maxRecDepth 1000000 in
theorem do_0_r (a b : NI) (he : ([(b2i (tW a.t && tW b.t), 1), (b2i (sW a.s && sW b.s), 1)] : Cs).map (·.1) = ([(b2i (tW a.t && tW b.t), 1), (b2i (sW a.s && sW b.s), 1)] : Cs).map (·.2)) (w : World) : Calls Tryz.prog 25 #[.int .u8 0, VN a, VN b] w fun e w' => e = .returned (VN ⟨tAddI a.t b.t, sAddI a.s b.s⟩) ∧ Gr w w' :=
  rk hk7_ok noOrc (cs := ([(b2i (tW a.t && tW b.t), 1), (b2i (sW a.s && sW b.s), 1)] : Cs)) rfl (by kernel_rfl) (by kernel_rfl) he w
theorem do_0 (a b : NI) (h1 : (tW a.t && tW b.t) = true) (h2 : (sW a.s && sW b.s) = true) (_h5 : (nW a && nW b) = true) (_h6 : (nW (constI 0) && nW a) = true) (w : World) : Calls Tryz.prog 25 #[.int .u8 0, VN a, VN b] w fun e w' => e = .returned (VN ⟨tAddI a.t b.t, sAddI a.s b.s⟩) ∧ Gr w w' :=
  do_0_r a b (by rw [h1, h2]; rfl) w
set_option maxHeartbeats 0 in
set_option maxRecDepth 1000000 in
theorem do_16_r (a b : NI) (he : ([(b2i (tW a.t && tW b.t), 1), (b2i (sW a.s && sW b.s), 1)] : Cs).map (·.1) = ([(b2i (tW a.t && tW b.t), 1), (b2i (sW a.s && sW b.s), 1)] : Cs).map (·.2)) (w : World) : Calls Tryz.prog 25 #[.int .u8 16, VN a, VN b] w fun e w' => e = .returned (VN ⟨tSubI a.t b.t, sSubI a.s b.s⟩) ∧ Gr w w' :=
  rk hk7_ok noOrc (cs := ([(b2i (tW a.t && tW b.t), 1), (b2i (sW a.s && sW b.s), 1)] : Cs)) rfl (by kernel_rfl) (by kernel_rfl) he w
theorem do_16 (a b : NI) (h1 : (tW a.t && tW b.t) = true) (h2 : (sW a.s && sW b.s) = true) (_h5 : (nW a && nW b) = true) (_h6 : (nW (constI 0) && nW a) = true) (w : World) : Calls Tryz.prog 25 #[.int .u8 16, VN a, VN b] w fun e w' => e = .returned (VN ⟨tSubI a.t b.t, sSubI a.s b.s⟩) ∧ Gr w w' :=
  do_16_r a b (by rw [h1, h2]; rfl) w
set_option maxHeartbeats 0 in
set_option maxRecDepth 1000000 in
theorem do_32_r (a b : NI) (he : ([(b2i (tW a.t && tW b.t), 1), (b2i (sW a.s && sW b.s), 1)] : Cs).map (·.1) = ([(b2i (tW a.t && tW b.t), 1), (b2i (sW a.s && sW b.s), 1)] : Cs).map (·.2)) (w : World) : Calls Tryz.prog 25 #[.int .u8 32, VN a, VN b] w fun e w' => e = .returned (VN ⟨tMulI a.t b.t, sMulI a.s b.s⟩) ∧ Gr w w' :=
  rk hk7_ok noOrc (cs := ([(b2i (tW a.t && tW b.t), 1), (b2i (sW a.s && sW b.s), 1)] : Cs)) rfl (by kernel_rfl) (by kernel_rfl) he w
theorem do_32 (a b : NI) (h1 : (tW a.t && tW b.t) = true) (h2 : (sW a.s && sW b.s) = true) (_h5 : (nW a && nW b) = true) (_h6 : (nW (constI 0) && nW a) = true) (w : World) : Calls Tryz.prog 25 #[.int .u8 32, VN a, VN b] w fun e w' => e = .returned (VN ⟨tMulI a.t b.t, sMulI a.s b.s⟩) ∧ Gr w w' :=
  do_32_r a b (by rw [h1, h2]; rfl) w
set_option maxHeartbeats 0 in
set_option maxRecDepth 1000000 in
theorem do_64_r (a b : NI) (he : ([(b2i (tW a.t && tW b.t), 1), (b2i (sW a.s && sW b.s), 1)] : Cs).map (·.1) = ([(b2i (tW a.t && tW b.t), 1), (b2i (sW a.s && sW b.s), 1)] : Cs).map (·.2)) (w : World) : Calls Tryz.prog 25 #[.int .u8 64, VN a, VN b] w fun e w' => e = .returned (VN ⟨tOrI a.t b.t, sOrI a.s b.s⟩) ∧ Gr w w' :=
  rk hk7_ok noOrc (cs := ([(b2i (tW a.t && tW b.t), 1), (b2i (sW a.s && sW b.s), 1)] : Cs)) rfl (by kernel_rfl) (by kernel_rfl) he w
theorem do_64 (a b : NI) (h1 : (tW a.t && tW b.t) = true) (h2 : (sW a.s && sW b.s) = true) (_h5 : (nW a && nW b) = true) (_h6 : (nW (constI 0) && nW a) = true) (w : World) : Calls Tryz.prog 25 #[.int .u8 64, VN a, VN b] w fun e w' => e = .returned (VN ⟨tOrI a.t b.t, sOrI a.s b.s⟩) ∧ Gr w w' :=
  do_64_r a b (by rw [h1, h2]; rfl) w
set_option maxHeartbeats 0 in
set_option maxRecDepth 1000000 in
theorem do_80_r (a b : NI) (he : ([(b2i (tW a.t && tW b.t), 1), (b2i (sW a.s && sW b.s), 1)] : Cs).map (·.1) = ([(b2i (tW a.t && tW b.t), 1), (b2i (sW a.s && sW b.s), 1)] : Cs).map (·.2)) (w : World) : Calls Tryz.prog 25 #[.int .u8 80, VN a, VN b] w fun e w' => e = .returned (VN ⟨tAndI a.t b.t, sAndI a.s b.s⟩) ∧ Gr w w' :=
  rk hk7_ok noOrc (cs := ([(b2i (tW a.t && tW b.t), 1), (b2i (sW a.s && sW b.s), 1)] : Cs)) rfl (by kernel_rfl) (by kernel_rfl) he w
theorem do_80 (a b : NI) (h1 : (tW a.t && tW b.t) = true) (h2 : (sW a.s && sW b.s) = true) (_h5 : (nW a && nW b) = true) (_h6 : (nW (constI 0) && nW a) = true) (w : World) : Calls Tryz.prog 25 #[.int .u8 80, VN a, VN b] w fun e w' => e = .returned (VN ⟨tAndI a.t b.t, sAndI a.s b.s⟩) ∧ Gr w w' :=
  do_80_r a b (by rw [h1, h2]; rfl) w
set_option maxHeartbeats 0 in
set_option maxRecDepth 1000000 in
theorem do_160_r (a b : NI) (he : ([(b2i (tW a.t && tW b.t), 1), (b2i (sW a.s && sW b.s), 1)] : Cs).map (·.1) = ([(b2i (tW a.t && tW b.t), 1), (b2i (sW a.s && sW b.s), 1)] : Cs).map (·.2)) (w : World) : Calls Tryz.prog 25 #[.int .u8 160, VN a, VN b] w fun e w' => e = .returned (VN ⟨tXorI a.t b.t, sXorI a.s b.s⟩) ∧ Gr w w' :=
  rk hk7_ok noOrc (cs := ([(b2i (tW a.t && tW b.t), 1), (b2i (sW a.s && sW b.s), 1)] : Cs)) rfl (by kernel_rfl) (by kernel_rfl) he w
theorem do_160 (a b : NI) (h1 : (tW a.t && tW b.t) = true) (h2 : (sW a.s && sW b.s) = true) (_h5 : (nW a && nW b) = true) (_h6 : (nW (constI 0) && nW a) = true) (w : World) : Calls Tryz.prog 25 #[.int .u8 160, VN a, VN b] w fun e w' => e = .returned (VN ⟨tXorI a.t b.t, sXorI a.s b.s⟩) ∧ Gr w w' :=
  do_160_r a b (by rw [h1, h2]; rfl) w
set_option maxHeartbeats 0 in
set_option maxRecDepth 1000000 in
theorem do_48_r (a b : NI) (he : ([(b2i (sW a.s && sW b.s), 1)] : Cs).map (·.1) = ([(b2i (sW a.s && sW b.s), 1)] : Cs).map (·.2)) (w : World) : Calls Tryz.prog 25 #[.int .u8 48, VN a, VN b] w fun e w' => e = .returned (VN ⟨anyT, sDivI a.s b.s⟩) ∧ Gr w w' :=
  rk hk7_ok noOrc (cs := ([(b2i (sW a.s && sW b.s), 1)] : Cs)) rfl (by kernel_rfl) (by kernel_rfl) he w
theorem do_48 (a b : NI) (_h1 : (tW a.t && tW b.t) = true) (h2 : (sW a.s && sW b.s) = true) (_h5 : (nW a && nW b) = true) (_h6 : (nW (constI 0) && nW a) = true) (w : World) : Calls Tryz.prog 25 #[.int .u8 48, VN a, VN b] w fun e w' => e = .returned (VN ⟨anyT, sDivI a.s b.s⟩) ∧ Gr w w' :=
  do_48_r a b (by rw [h2]; rfl) w
set_option maxHeartbeats 0 in
set_option maxRecDepth 1000000 in
theorem do_144_r (a b : NI) (he : ([(b2i (sW a.s && sW b.s), 1)] : Cs).map (·.1) = ([(b2i (sW a.s && sW b.s), 1)] : Cs).map (·.2)) (w : World) : Calls Tryz.prog 25 #[.int .u8 144, VN a, VN b] w fun e w' => e = .returned (VN ⟨anyT, sModI a.s b.s⟩) ∧ Gr w w' :=
  rk hk7_ok noOrc (cs := ([(b2i (sW a.s && sW b.s), 1)] : Cs)) rfl (by kernel_rfl) (by kernel_rfl) he w
theorem do_144 (a b : NI) (_h1 : (tW a.t && tW b.t) = true) (h2 : (sW a.s && sW b.s) = true) (_h5 : (nW a && nW b) = true) (_h6 : (nW (constI 0) && nW a) = true) (w : World) : Calls Tryz.prog 25 #[.int .u8 144, VN a, VN b] w fun e w' => e = .returned (VN ⟨anyT, sModI a.s b.s⟩) ∧ Gr w w' :=
  do_144_r a b (by rw [h2]; rfl) w
theorem c_sub (a b : NI) (hw : (nW a && nW b) = true) (w : World) : Calls Tryz.prog 25 #[.int .u8 16, VN a, VN b] w fun e w' => e = .returned (VN ⟨tSubI a.t b.t, sSubI a.s b.s⟩) ∧ Gr w w' := by
  have h5 := hw
  unfold nW at hw
  simp only [Bool.and_eq_true] at hw
  exact do_16_r a b (by rw [hw.1.1, hw.2.1, hw.1.2, hw.2.2]; rfl) w
def hk_sub : Hook := fun f args _ =>
  if Nat.beq f 25 then
    match args with
    | [.int .u8 16, .agg ⟨[.int .u64 b0, .int .u64 b1, .int .u64 b2, .int .u64 b3, .int .i64 b4, .int .i64 b5]⟩, .agg ⟨[.int .u64 c0, .int .u64 c1, .int .u64 c2, .int .u64 c3, .int .i64 c4, .int .i64 c5]⟩] =>
      some (VN ⟨tSubI ⟨b0, b1⟩ ⟨c0, c1⟩, sSubI ⟨b2, b3, b4, b5⟩ ⟨c2, c3, c4, c5⟩⟩, [(b2i (nW ⟨⟨b0, b1⟩, ⟨b2, b3, b4, b5⟩⟩ && nW ⟨⟨c0, c1⟩, ⟨c2, c3, c4, c5⟩⟩), 1)])
    | _ => none
  else none
theorem hk_sub_ok : HookOk Tryz.prog hk_sub := by
  intro f args h v cs hv hc wb k s w H
  unfold hk_sub at hv
  split at hv
  · rename_i hf
    obtain rfl := Nat.eq_of_beq_eq_true hf
    split at hv
    · rename_i b0 b1 b2 b3 b4 b5 c0 c1 c2 c3 c4 c5
      cases hv
      have hw := pair1 hc rfl
      exact c_sub ⟨⟨b0, b1⟩, ⟨b2, b3, b4, b5⟩⟩ ⟨⟨c0, c1⟩, ⟨c2, c3, c4, c5⟩⟩ hw w
    · cases hv
  · cases hv
def hk7s : Hook := orHook hk_sub (hk7)
theorem hk7s_ok : HookOk Tryz.prog hk7s := orHook_ok hk_sub_ok (hk7_ok)
set_option maxHeartbeats 0 in
set_option maxRecDepth 1000000 in
theorem do_128_r (a b : NI) (he : ([(b2i (uB 0), 1), (b2i (nW (constI 0) && nW a), 1)] : Cs).map (·.1) = ([(b2i (uB 0), 1), (b2i (nW (constI 0) && nW a), 1)] : Cs).map (·.2)) (w : World) : Calls Tryz.prog 25 #[.int .u8 128, VN a, VN b] w fun e w' => e = .returned (VN ⟨tSubI (constI 0).t a.t, sSubI (constI 0).s a.s⟩) ∧ Gr w w' :=
  rk hk7s_ok noOrc (cs := ([(b2i (uB 0), 1), (b2i (nW (constI 0) && nW a), 1)] : Cs)) rfl (by kernel_rfl) (by kernel_rfl) he w
theorem do_128 (a b : NI) (_h1 : (tW a.t && tW b.t) = true) (_h2 : (sW a.s && sW b.s) = true) (_h5 : (nW a && nW b) = true) (h6 : (nW (constI 0) && nW a) = true) (w : World) : Calls Tryz.prog 25 #[.int .u8 128, VN a, VN b] w fun e w' => e = .returned (VN ⟨tSubI (constI 0).t a.t, sSubI (constI 0).s a.s⟩) ∧ Gr w w' :=
  do_128_r a b (by rw [h6]; rfl) w
set_option maxHeartbeats 0 in
set_option maxRecDepth 1000000 in
theorem do_176_r (a b : NI) (he : ([] : Cs).map (·.1) = ([] : Cs).map (·.2)) (w : World) : Calls Tryz.prog 25 #[.int .u8 176, VN a, VN b] w fun e w' => e = .returned (VN b) ∧ Gr w w' :=
  rk hk7_ok noOrc (cs := ([] : Cs)) rfl (by kernel_rfl) (by kernel_rfl) he w
theorem do_176 (a b : NI) (_h1 : (tW a.t && tW b.t) = true) (_h2 : (sW a.s && sW b.s) = true) (_h5 : (nW a && nW b) = true) (_h6 : (nW (constI 0) && nW a) = true) (w : World) : Calls Tryz.prog 25 #[.int .u8 176, VN a, VN b] w fun e w' => e = .returned (VN b) ∧ Gr w w' :=
  do_176_r a b (by rfl) w
set_option maxHeartbeats 0 in
set_option maxRecDepth 1000000 in
theorem do_96_r (a b : NI) (he : ([(b2i (((96 : Int) == 96 || (96 : Int) == 112 || (96 : Int) == 192) && (nW a && nW b)), 1)] : Cs).map (·.1) = ([(b2i (((96 : Int) == 96 || (96 : Int) == 112 || (96 : Int) == 192) && (nW a && nW b)), 1)] : Cs).map (·.2)) (w : World) : Calls Tryz.prog 25 #[.int .u8 96, VN a, VN b] w fun e w' => e = .returned (VN (movedI 96 a b)) ∧ Gr w w' :=
  rk hk7_ok noOrc (cs := ([(b2i (((96 : Int) == 96 || (96 : Int) == 112 || (96 : Int) == 192) && (nW a && nW b)), 1)] : Cs)) rfl (by kernel_rfl) (by kernel_rfl) he w
theorem do_96 (a b : NI) (_h1 : (tW a.t && tW b.t) = true) (_h2 : (sW a.s && sW b.s) = true) (h5 : (nW a && nW b) = true) (_h6 : (nW (constI 0) && nW a) = true) (w : World) : Calls Tryz.prog 25 #[.int .u8 96, VN a, VN b] w fun e w' => e = .returned (VN (movedI 96 a b)) ∧ Gr w w' :=
  do_96_r a b (by rw [h5]; rfl) w
set_option maxHeartbeats 0 in
set_option maxRecDepth 1000000 in
theorem do_112_r (a b : NI) (he : ([(b2i (((112 : Int) == 96 || (112 : Int) == 112 || (112 : Int) == 192) && (nW a && nW b)), 1)] : Cs).map (·.1) = ([(b2i (((112 : Int) == 96 || (112 : Int) == 112 || (112 : Int) == 192) && (nW a && nW b)), 1)] : Cs).map (·.2)) (w : World) : Calls Tryz.prog 25 #[.int .u8 112, VN a, VN b] w fun e w' => e = .returned (VN (movedI 112 a b)) ∧ Gr w w' :=
  rk hk7_ok noOrc (cs := ([(b2i (((112 : Int) == 96 || (112 : Int) == 112 || (112 : Int) == 192) && (nW a && nW b)), 1)] : Cs)) rfl (by kernel_rfl) (by kernel_rfl) he w
theorem do_112 (a b : NI) (_h1 : (tW a.t && tW b.t) = true) (_h2 : (sW a.s && sW b.s) = true) (h5 : (nW a && nW b) = true) (_h6 : (nW (constI 0) && nW a) = true) (w : World) : Calls Tryz.prog 25 #[.int .u8 112, VN a, VN b] w fun e w' => e = .returned (VN (movedI 112 a b)) ∧ Gr w w' :=
  do_112_r a b (by rw [h5]; rfl) w
set_option maxHeartbeats 0 in
set_option maxRecDepth 1000000 in
theorem do_192_r (a b : NI) (he : ([(b2i (((192 : Int) == 96 || (192 : Int) == 112 || (192 : Int) == 192) && (nW a && nW b)), 1)] : Cs).map (·.1) = ([(b2i (((192 : Int) == 96 || (192 : Int) == 112 || (192 : Int) == 192) && (nW a && nW b)), 1)] : Cs).map (·.2)) (w : World) : Calls Tryz.prog 25 #[.int .u8 192, VN a, VN b] w fun e w' => e = .returned (VN (movedI 192 a b)) ∧ Gr w w' :=
  rk hk7_ok noOrc (cs := ([(b2i (((192 : Int) == 96 || (192 : Int) == 112 || (192 : Int) == 192) && (nW a && nW b)), 1)] : Cs)) rfl (by kernel_rfl) (by kernel_rfl) he w
theorem do_192 (a b : NI) (_h1 : (tW a.t && tW b.t) = true) (_h2 : (sW a.s && sW b.s) = true) (h5 : (nW a && nW b) = true) (_h6 : (nW (constI 0) && nW a) = true) (w : World) : Calls Tryz.prog 25 #[.int .u8 192, VN a, VN b] w fun e w' => e = .returned (VN (movedI 192 a b)) ∧ Gr w w' :=
  do_192_r a b (by rw [h5]; rfl) w
def doOrc : Orc := fun f t _ => if Nat.beq f 25 && (Nat.beq t 9 || Nat.beq t 22 || Nat.beq t 35 || Nat.beq t 48 || Nat.beq t 61 || Nat.beq t 74 || Nat.beq t 87 || Nat.beq t 96 || Nat.beq t 105 || Nat.beq t 110 || Nat.beq t 113 || Nat.beq t 114 || Nat.beq t 115) then some (.bool false) else none
set_option maxHeartbeats 0 in
set_option maxRecDepth 1000000 in
theorem do_no_r (op : Int) (a b : NI) (he : ([(b2i (op == 0), 0), (b2i (op == 16), 0), (b2i (op == 32), 0), (b2i (op == 64), 0), (b2i (op == 80), 0), (b2i (op == 160), 0), (b2i (op == 48), 0), (b2i (op == 144), 0), (b2i (op == 128), 0), (b2i (op == 176), 0), (b2i (op == 96), 0), (b2i (op == 112), 0), (b2i (op == 192), 0), (b2i (uB 0), 1)] : Cs).map (·.1) = ([(b2i (op == 0), 0), (b2i (op == 16), 0), (b2i (op == 32), 0), (b2i (op == 64), 0), (b2i (op == 80), 0), (b2i (op == 160), 0), (b2i (op == 48), 0), (b2i (op == 144), 0), (b2i (op == 128), 0), (b2i (op == 176), 0), (b2i (op == 96), 0), (b2i (op == 112), 0), (b2i (op == 192), 0), (b2i (uB 0), 1)] : Cs).map (·.2)) (w : World) : Calls Tryz.prog 25 #[.int .u8 op, VN a, VN b] w fun e w' => e = .returned (VN (constI 0)) ∧ Gr w w' :=
  rk hk7_ok doOrc (cs := ([(b2i (op == 0), 0), (b2i (op == 16), 0), (b2i (op == 32), 0), (b2i (op == 64), 0), (b2i (op == 80), 0), (b2i (op == 160), 0), (b2i (op == 48), 0), (b2i (op == 144), 0), (b2i (op == 128), 0), (b2i (op == 176), 0), (b2i (op == 96), 0), (b2i (op == 112), 0), (b2i (op == 192), 0), (b2i (uB 0), 1)] : Cs)) rfl (by kernel_rfl) (by kernel_rfl) he w
theorem do_no (op : Int) (a b : NI) (k0 : (op == 0) = false) (k16 : (op == 16) = false) (k32 : (op == 32) = false) (k64 : (op == 64) = false) (k80 : (op == 80) = false) (k160 : (op == 160) = false) (k48 : (op == 48) = false) (k144 : (op == 144) = false) (k128 : (op == 128) = false) (k176 : (op == 176) = false) (k96 : (op == 96) = false) (k112 : (op == 112) = false) (k192 : (op == 192) = false) (w : World) : Calls Tryz.prog 25 #[.int .u8 op, VN a, VN b] w fun e w' => e = .returned (VN (constI 0)) ∧ Gr w w' :=
  do_no_r op a b (by rw [k0, k16, k32, k64, k80, k160, k48, k144, k128, k176, k96, k112, k192]; rfl) w
theorem c_do (op : Int) (a b : NI) (hw : (nW a && nW b) = true) (w : World) : Calls Tryz.prog 25 #[.int .u8 op, VN a, VN b] w fun e w' => e = .returned (VN (doI op a b)) ∧ Gr w w' := by
  have h5 := hw
  unfold nW at hw
  simp only [Bool.and_eq_true] at hw
  have h1 : (tW a.t && tW b.t) = true := by rw [hw.1.1, hw.2.1]; rfl
  have h2 : (sW a.s && sW b.s) = true := by rw [hw.1.2, hw.2.2]; rfl
  have h6 : (nW (constI 0) && nW a) = true := by rw [nW_const rfl]; unfold nW; rw [hw.1.1, hw.1.2]; rfl
  rcases alu_cases op with rfl | rfl | rfl | rfl | rfl | rfl | rfl | rfl | rfl | rfl | rfl | rfl | rfl | hn
  · exact ret_eq (by rfl) (do_0 a b h1 h2 h5 h6 w)
  · exact ret_eq (by rfl) (do_16 a b h1 h2 h5 h6 w)
  · exact ret_eq (by rfl) (do_32 a b h1 h2 h5 h6 w)
  · exact ret_eq (by rfl) (do_48 a b h1 h2 h5 h6 w)
  · exact ret_eq (by rfl) (do_144 a b h1 h2 h5 h6 w)
  · exact ret_eq (by rfl) (do_64 a b h1 h2 h5 h6 w)
  · exact ret_eq (by rfl) (do_80 a b h1 h2 h5 h6 w)
  · exact ret_eq (by rfl) (do_160 a b h1 h2 h5 h6 w)
  · exact ret_eq (by rfl) (do_96 a b h1 h2 h5 h6 w)
  · exact ret_eq (by rfl) (do_112 a b h1 h2 h5 h6 w)
  · exact ret_eq (by rfl) (do_192 a b h1 h2 h5 h6 w)
  · exact ret_eq (by rfl) (do_128 a b h1 h2 h5 h6 w)
  · exact ret_eq (by rfl) (do_176 a b h1 h2 h5 h6 w)
  · have ne : ∀ c : Int, ¬ op = c → (op == c) = false := fun c h => by rw [beq_eq_false_iff_ne]; exact h
    obtain ⟨n0, n16, n32, n48, n144, n64, n80, n160, n96, n112, n192, n128, n176⟩ := hn
    refine ret_eq ?_ (do_no op a b (ne 0 n0) (ne 16 n16) (ne 32 n32) (ne 64 n64) (ne 80 n80) (ne 160 n160) (ne 48 n48) (ne 144 n144) (ne 128 n128) (ne 176 n176) (ne 96 n96) (ne 112 n112) (ne 192 n192) w)
    simp only [doI, if_neg n0, if_neg n16, if_neg n32, if_neg n48, if_neg n144, if_neg n64, if_neg n80, if_neg n160, if_neg n96, if_neg n112, if_neg n192, if_neg n128, if_neg n176]
theorem nW_do (op : Int) {a b : NI} (ha : nW a = true) (hb : nW b = true) : nW (doI op a b) = true := by
  rcases alu_cases op with rfl | rfl | rfl | rfl | rfl | rfl | rfl | rfl | rfl | rfl | rfl | rfl | rfl | hn
  · show nW ⟨tAddI a.t b.t, sAddI a.s b.s⟩ = true; unfold nW; simp only [tAddI, sAddI, tW_tN, sW_sN, Bool.and_self]
  · show nW ⟨tSubI a.t b.t, sSubI a.s b.s⟩ = true; unfold nW; simp only [tSubI, sSubI, tW_tN, sW_sN, Bool.and_self]
  · show nW ⟨tMulI a.t b.t, sMulI a.s b.s⟩ = true; unfold nW; simp only [tMulI, sMulI, tW_tN, sW_sN, Bool.and_self]
  · show nW ⟨anyT, sDivI a.s b.s⟩ = true; unfold nW; simp only [sDivI, sW_sN, Bool.and_true]; rfl
  · show nW ⟨anyT, sModI a.s b.s⟩ = true; unfold nW; simp only [sModI, sW_sN, Bool.and_true]; rfl
  · show nW ⟨tOrI a.t b.t, sOrI a.s b.s⟩ = true; unfold nW; simp only [tOrI, sOrI, tW_tN, sW_sN, Bool.and_self]
  · show nW ⟨tAndI a.t b.t, sAndI a.s b.s⟩ = true; unfold nW; simp only [tAndI, sAndI, tW_tN, sW_sN, Bool.and_self]
  · show nW ⟨tXorI a.t b.t, sXorI a.s b.s⟩ = true; unfold nW; simp only [tXorI, sXorI, tW_tN, sW_sN, Bool.and_self]
  · exact nW_moved 96 ha
  · exact nW_moved 112 ha
  · exact nW_moved 192 ha
  · show nW ⟨tSubI (constI 0).t a.t, sSubI (constI 0).s a.s⟩ = true; unfold nW; simp only [tSubI, sSubI, tW_tN, sW_sN, Bool.and_self]
  · exact hb
  · obtain ⟨n0, n16, n32, n48, n144, n64, n80, n160, n96, n112, n192, n128, n176⟩ := hn
    simp only [doI, if_neg n0, if_neg n16, if_neg n32, if_neg n48, if_neg n144, if_neg n64, if_neg n80, if_neg n160, if_neg n96, if_neg n112, if_neg n192, if_neg n128, if_neg n176]
    exact nW_const rfl
def hk_do : Hook := fun f args _ =>
  if Nat.beq f 25 then
    match args with
    | [.int .u8 a, .agg ⟨[.int .u64 b0, .int .u64 b1, .int .u64 b2, .int .u64 b3, .int .i64 b4, .int .i64 b5]⟩, .agg ⟨[.int .u64 c0, .int .u64 c1, .int .u64 c2, .int .u64 c3, .int .i64 c4, .int .i64 c5]⟩] => some (VN (doI a (⟨⟨b0, b1⟩, ⟨b2, b3, b4, b5⟩⟩ : NI) (⟨⟨c0, c1⟩, ⟨c2, c3, c4, c5⟩⟩ : NI)), [(b2i (nW (⟨⟨b0, b1⟩, ⟨b2, b3, b4, b5⟩⟩ : NI) && nW (⟨⟨c0, c1⟩, ⟨c2, c3, c4, c5⟩⟩ : NI)), 1)])
    | _ => none
  else none
theorem hk_do_ok : HookOk Tryz.prog hk_do := by
  intro f args h v cs hv hc wb k s w H
  unfold hk_do at hv
  split at hv
  · rename_i hf
    obtain rfl := Nat.eq_of_beq_eq_true hf
    split at hv
    · rename_i a b0 b1 b2 b3 b4 b5 c0 c1 c2 c3 c4 c5
      cases hv
      have hw := pair1 hc rfl
      exact c_do a (⟨⟨b0, b1⟩, ⟨b2, b3, b4, b5⟩⟩ : NI) (⟨⟨c0, c1⟩, ⟨c2, c3, c4, c5⟩⟩ : NI) hw w
    · cases hv
  · cases hv
def hk8 : Hook := orHook hk_tight (orHook hk_settled (orHook hk_has (orHook hk_in (orHook hk_supto (orHook hk_upto (orHook hk_lsh (orHook hk_arsh (orHook hk_ext (orHook hk_low (orHook hk_const (orHook hk_moved (orHook hk_do (hk2)))))))))))))
theorem hk8_ok : HookOk Tryz.prog hk8 := orHook_ok hk_tight_ok (orHook_ok hk_settled_ok (orHook_ok hk_has_ok (orHook_ok hk_in_ok (orHook_ok hk_supto_ok (orHook_ok hk_upto_ok (orHook_ok hk_lsh_ok (orHook_ok hk_arsh_ok (orHook_ok hk_ext_ok (orHook_ok hk_low_ok (orHook_ok hk_const_ok (orHook_ok hk_moved_ok (orHook_ok hk_do_ok (hk2_ok)))))))))))))
def halfDoI (op : Int) (a b : NI) : NI :=
  if op = 192 then (if oneK b then arshI (extI a) (cntI (oneI b) 31) else anyN)
  else if op = 96 then (if oneK b then doI 96 a (constI (andI (oneI b) 31)) else doI 96 a b)
  else if op = 112 then (if oneK b then doI 112 a (constI (andI (oneI b) 31)) else doI 112 a b)
  else doI op a b
def halfOrc (b1 : Bool) : Orc := fun f t _ => if Nat.beq f 27 && Nat.beq t 13 then some (.bool b1) else none
def halfOrc0 : Orc := fun f t _ => if Nat.beq f 27 && (Nat.beq t 16 || Nat.beq t 28 || Nat.beq t 32 || Nat.beq t 35) then some (.bool false) else none
set_option maxHeartbeats 0 in
set_option maxRecDepth 1000000 in
theorem half_192t_r (a b : NI) (he : ([(b2i (oneK b), 1), (b2i (nW a), 1), (b2i (nW (extI a) && zB (cntI (oneI b) 31)), 1)] : Cs).map (·.1) = ([(b2i (oneK b), 1), (b2i (nW a), 1), (b2i (nW (extI a) && zB (cntI (oneI b) 31)), 1)] : Cs).map (·.2)) (w : World) : Calls Tryz.prog 27 #[.int .u8 192, VN a, VN b] w fun e w' => e = .returned (VN (arshI (extI a) (cntI (oneI b) 31))) ∧ Gr w w' :=
  rk hk8_ok (halfOrc true) (cs := ([(b2i (oneK b), 1), (b2i (nW a), 1), (b2i (nW (extI a) && zB (cntI (oneI b) 31)), 1)] : Cs)) rfl (by kernel_rfl) (by kernel_rfl) he w
theorem half_192t (a b : NI) (h1 : nW a = true) (h2 : (nW (extI a) && zB (cntI (oneI b) 31)) = true) (_h3 : (nW a && nW (constI (andI (oneI b) 31))) = true) (_h4 : (nW a && nW b) = true) (k : oneK b = true) (w : World) : Calls Tryz.prog 27 #[.int .u8 192, VN a, VN b] w fun e w' => e = .returned (VN (arshI (extI a) (cntI (oneI b) 31))) ∧ Gr w w' :=
  half_192t_r a b (by rw [k, h1, h2]; rfl) w
set_option maxHeartbeats 0 in
set_option maxRecDepth 1000000 in
theorem half_192f_r (a b : NI) (he : ([(b2i (oneK b), 0)] : Cs).map (·.1) = ([(b2i (oneK b), 0)] : Cs).map (·.2)) (w : World) : Calls Tryz.prog 27 #[.int .u8 192, VN a, VN b] w fun e w' => e = .returned (VN anyN) ∧ Gr w w' :=
  rk hk8_ok (halfOrc false) (cs := ([(b2i (oneK b), 0)] : Cs)) rfl (by kernel_rfl) (by kernel_rfl) he w
theorem half_192f (a b : NI) (_h1 : nW a = true) (_h2 : (nW (extI a) && zB (cntI (oneI b) 31)) = true) (_h3 : (nW a && nW (constI (andI (oneI b) 31))) = true) (_h4 : (nW a && nW b) = true) (k : oneK b = false) (w : World) : Calls Tryz.prog 27 #[.int .u8 192, VN a, VN b] w fun e w' => e = .returned (VN anyN) ∧ Gr w w' :=
  half_192f_r a b (by rw [k]; rfl) w
set_option maxHeartbeats 0 in
set_option maxRecDepth 1000000 in
theorem half_96t_r (a b : NI) (he : ([(b2i (oneK b), 1), (b2i (uB (andI (oneI b) 31)), 1), (b2i (nW a && nW (constI (andI (oneI b) 31))), 1)] : Cs).map (·.1) = ([(b2i (oneK b), 1), (b2i (uB (andI (oneI b) 31)), 1), (b2i (nW a && nW (constI (andI (oneI b) 31))), 1)] : Cs).map (·.2)) (w : World) : Calls Tryz.prog 27 #[.int .u8 96, VN a, VN b] w fun e w' => e = .returned (VN (doI 96 a (constI (andI (oneI b) 31)))) ∧ Gr w w' :=
  rk hk8_ok (halfOrc true) (cs := ([(b2i (oneK b), 1), (b2i (uB (andI (oneI b) 31)), 1), (b2i (nW a && nW (constI (andI (oneI b) 31))), 1)] : Cs)) rfl (by kernel_rfl) (by kernel_rfl) he w
theorem half_96t (a b : NI) (_h1 : nW a = true) (_h2 : (nW (extI a) && zB (cntI (oneI b) 31)) = true) (h3 : (nW a && nW (constI (andI (oneI b) 31))) = true) (_h4 : (nW a && nW b) = true) (k : oneK b = true) (w : World) : Calls Tryz.prog 27 #[.int .u8 96, VN a, VN b] w fun e w' => e = .returned (VN (doI 96 a (constI (andI (oneI b) 31)))) ∧ Gr w w' :=
  half_96t_r a b (by rw [k, uB_and, h3]; rfl) w
set_option maxHeartbeats 0 in
set_option maxRecDepth 1000000 in
theorem half_96f_r (a b : NI) (he : ([(b2i (oneK b), 0), (b2i (nW a && nW b), 1)] : Cs).map (·.1) = ([(b2i (oneK b), 0), (b2i (nW a && nW b), 1)] : Cs).map (·.2)) (w : World) : Calls Tryz.prog 27 #[.int .u8 96, VN a, VN b] w fun e w' => e = .returned (VN (doI 96 a b)) ∧ Gr w w' :=
  rk hk8_ok (halfOrc false) (cs := ([(b2i (oneK b), 0), (b2i (nW a && nW b), 1)] : Cs)) rfl (by kernel_rfl) (by kernel_rfl) he w
theorem half_96f (a b : NI) (_h1 : nW a = true) (_h2 : (nW (extI a) && zB (cntI (oneI b) 31)) = true) (_h3 : (nW a && nW (constI (andI (oneI b) 31))) = true) (h4 : (nW a && nW b) = true) (k : oneK b = false) (w : World) : Calls Tryz.prog 27 #[.int .u8 96, VN a, VN b] w fun e w' => e = .returned (VN (doI 96 a b)) ∧ Gr w w' :=
  half_96f_r a b (by rw [k, h4]; rfl) w
set_option maxHeartbeats 0 in
set_option maxRecDepth 1000000 in
theorem half_112t_r (a b : NI) (he : ([(b2i (oneK b), 1), (b2i (uB (andI (oneI b) 31)), 1), (b2i (nW a && nW (constI (andI (oneI b) 31))), 1)] : Cs).map (·.1) = ([(b2i (oneK b), 1), (b2i (uB (andI (oneI b) 31)), 1), (b2i (nW a && nW (constI (andI (oneI b) 31))), 1)] : Cs).map (·.2)) (w : World) : Calls Tryz.prog 27 #[.int .u8 112, VN a, VN b] w fun e w' => e = .returned (VN (doI 112 a (constI (andI (oneI b) 31)))) ∧ Gr w w' :=
  rk hk8_ok (halfOrc true) (cs := ([(b2i (oneK b), 1), (b2i (uB (andI (oneI b) 31)), 1), (b2i (nW a && nW (constI (andI (oneI b) 31))), 1)] : Cs)) rfl (by kernel_rfl) (by kernel_rfl) he w
theorem half_112t (a b : NI) (_h1 : nW a = true) (_h2 : (nW (extI a) && zB (cntI (oneI b) 31)) = true) (h3 : (nW a && nW (constI (andI (oneI b) 31))) = true) (_h4 : (nW a && nW b) = true) (k : oneK b = true) (w : World) : Calls Tryz.prog 27 #[.int .u8 112, VN a, VN b] w fun e w' => e = .returned (VN (doI 112 a (constI (andI (oneI b) 31)))) ∧ Gr w w' :=
  half_112t_r a b (by rw [k, uB_and, h3]; rfl) w
set_option maxHeartbeats 0 in
set_option maxRecDepth 1000000 in
theorem half_112f_r (a b : NI) (he : ([(b2i (oneK b), 0), (b2i (nW a && nW b), 1)] : Cs).map (·.1) = ([(b2i (oneK b), 0), (b2i (nW a && nW b), 1)] : Cs).map (·.2)) (w : World) : Calls Tryz.prog 27 #[.int .u8 112, VN a, VN b] w fun e w' => e = .returned (VN (doI 112 a b)) ∧ Gr w w' :=
  rk hk8_ok (halfOrc false) (cs := ([(b2i (oneK b), 0), (b2i (nW a && nW b), 1)] : Cs)) rfl (by kernel_rfl) (by kernel_rfl) he w
theorem half_112f (a b : NI) (_h1 : nW a = true) (_h2 : (nW (extI a) && zB (cntI (oneI b) 31)) = true) (_h3 : (nW a && nW (constI (andI (oneI b) 31))) = true) (h4 : (nW a && nW b) = true) (k : oneK b = false) (w : World) : Calls Tryz.prog 27 #[.int .u8 112, VN a, VN b] w fun e w' => e = .returned (VN (doI 112 a b)) ∧ Gr w w' :=
  half_112f_r a b (by rw [k, h4]; rfl) w
set_option maxHeartbeats 0 in
set_option maxRecDepth 1000000 in
theorem half_no_r (op : Int) (a b : NI) (he : ([(b2i (op == 192), 0), (b2i (op == 192), 0), (b2i (op == 96), 0), (b2i (op == 112), 0), (b2i (nW a && nW b), 1)] : Cs).map (·.1) = ([(b2i (op == 192), 0), (b2i (op == 192), 0), (b2i (op == 96), 0), (b2i (op == 112), 0), (b2i (nW a && nW b), 1)] : Cs).map (·.2)) (w : World) : Calls Tryz.prog 27 #[.int .u8 op, VN a, VN b] w fun e w' => e = .returned (VN (doI op a b)) ∧ Gr w w' :=
  rk hk8_ok halfOrc0 (cs := ([(b2i (op == 192), 0), (b2i (op == 192), 0), (b2i (op == 96), 0), (b2i (op == 112), 0), (b2i (nW a && nW b), 1)] : Cs)) rfl (by kernel_rfl) (by kernel_rfl) he w
theorem half_no (op : Int) (a b : NI) (_h1 : nW a = true) (_h2 : (nW (extI a) && zB (cntI (oneI b) 31)) = true) (_h3 : (nW a && nW (constI (andI (oneI b) 31))) = true) (h4 : (nW a && nW b) = true) (k192 : (op == 192) = false) (k96 : (op == 96) = false) (k112 : (op == 112) = false) (w : World) : Calls Tryz.prog 27 #[.int .u8 op, VN a, VN b] w fun e w' => e = .returned (VN (doI op a b)) ∧ Gr w w' :=
  half_no_r op a b (by rw [k192, k96, k112, h4]; rfl) w
theorem c_half (op : Int) (a b : NI) (hw : (nW a && nW b) = true) (w : World) : Calls Tryz.prog 27 #[.int .u8 op, VN a, VN b] w fun e w' => e = .returned (VN (halfDoI op a b)) ∧ Gr w w' := by
  have h4 := hw
  simp only [Bool.and_eq_true] at hw
  have h1 := hw.1
  have h2 : (nW (extI a) && zB (cntI (oneI b) 31)) = true := by rw [nW_ext, zB_cnt]; rfl
  have h3 : (nW a && nW (constI (andI (oneI b) 31))) = true := by rw [h1, nW_const (uB_and _ _)]; rfl
  have ne : ∀ c : Int, ¬ op = c → (op == c) = false := fun c h => by rw [beq_eq_false_iff_ne]; exact h
  by_cases e1 : op = 192
  · subst e1
    cases k : oneK b with
    | true => exact ret_eq (by simp only [halfDoI, k]; rfl) (half_192t a b h1 h2 h3 h4 k w)
    | false => exact ret_eq (by simp only [halfDoI, k]; rfl) (half_192f a b h1 h2 h3 h4 k w)
  · by_cases e2 : op = 96
    · subst e2
      cases k : oneK b with
      | true => exact ret_eq (by simp only [halfDoI, k]; rfl) (half_96t a b h1 h2 h3 h4 k w)
      | false => exact ret_eq (by simp only [halfDoI, k]; rfl) (half_96f a b h1 h2 h3 h4 k w)
    · by_cases e3 : op = 112
      · subst e3
        cases k : oneK b with
        | true => exact ret_eq (by simp only [halfDoI, k]; rfl) (half_112t a b h1 h2 h3 h4 k w)
        | false => exact ret_eq (by simp only [halfDoI, k]; rfl) (half_112f a b h1 h2 h3 h4 k w)
      · refine ret_eq ?_ (half_no op a b h1 h2 h3 h4 (ne _ e1) (ne _ e2) (ne _ e3) w)
        simp only [halfDoI, if_neg e1, if_neg e2, if_neg e3]
theorem nW_half (op : Int) {a b : NI} (ha : nW a = true) (hb : nW b = true) : nW (halfDoI op a b) = true := by
  unfold halfDoI
  split
  · split
    · exact nW_arsh _ _
    · exact nW_any
  · split
    · split
      · exact nW_do _ ha (nW_const (uB_and _ _))
      · exact nW_do _ ha hb
    · split
      · split
        · exact nW_do _ ha (nW_const (uB_and _ _))
        · exact nW_do _ ha hb
      · exact nW_do _ ha hb
def hk_half : Hook := fun f args _ =>
  if Nat.beq f 27 then
    match args with
    | [.int .u8 a, .agg ⟨[.int .u64 b0, .int .u64 b1, .int .u64 b2, .int .u64 b3, .int .i64 b4, .int .i64 b5]⟩, .agg ⟨[.int .u64 c0, .int .u64 c1, .int .u64 c2, .int .u64 c3, .int .i64 c4, .int .i64 c5]⟩] => some (VN (halfDoI a (⟨⟨b0, b1⟩, ⟨b2, b3, b4, b5⟩⟩ : NI) (⟨⟨c0, c1⟩, ⟨c2, c3, c4, c5⟩⟩ : NI)), [(b2i (nW (⟨⟨b0, b1⟩, ⟨b2, b3, b4, b5⟩⟩ : NI) && nW (⟨⟨c0, c1⟩, ⟨c2, c3, c4, c5⟩⟩ : NI)), 1)])
    | _ => none
  else none
theorem hk_half_ok : HookOk Tryz.prog hk_half := by
  intro f args h v cs hv hc wb k s w H
  unfold hk_half at hv
  split at hv
  · rename_i hf
    obtain rfl := Nat.eq_of_beq_eq_true hf
    split at hv
    · rename_i a b0 b1 b2 b3 b4 b5 c0 c1 c2 c3 c4 c5
      cases hv
      have hw := pair1 hc rfl
      exact c_half a (⟨⟨b0, b1⟩, ⟨b2, b3, b4, b5⟩⟩ : NI) (⟨⟨c0, c1⟩, ⟨c2, c3, c4, c5⟩⟩ : NI) hw w
    · cases hv
  · cases hv
def hk9 : Hook := orHook hk_tight (orHook hk_settled (orHook hk_has (orHook hk_in (orHook hk_supto (orHook hk_upto (orHook hk_lsh (orHook hk_arsh (orHook hk_ext (orHook hk_low (orHook hk_const (orHook hk_moved (orHook hk_do (orHook hk_half (hk2))))))))))))))
theorem hk9_ok : HookOk Tryz.prog hk9 := orHook_ok hk_tight_ok (orHook_ok hk_settled_ok (orHook_ok hk_has_ok (orHook_ok hk_in_ok (orHook_ok hk_supto_ok (orHook_ok hk_upto_ok (orHook_ok hk_lsh_ok (orHook_ok hk_arsh_ok (orHook_ok hk_ext_ok (orHook_ok hk_low_ok (orHook_ok hk_const_ok (orHook_ok hk_moved_ok (orHook_ok hk_do_ok (orHook_ok hk_half_ok (hk2_ok))))))))))))))
def DoOrc (b19 b24 b36 b41 : Bool) : Orc := fun f t _ => if Nat.beq f 10 then (if Nat.beq t 19 then some (.bool b19) else if Nat.beq t 24 then some (.bool b24) else if Nat.beq t 36 then some (.bool b36) else if Nat.beq t 41 then some (.bool b41) else none) else none
theorem uB_alu (op : Int) (wide : Bool) (x y : Int) : uB (aluI op wide x y) = true := by unfold aluI; exact uB_N _
def DoI (op : Int) (wide : Bool) (a b : NI) : NI :=
  if tightK a && tightK b then
    if oneK (tightI a) && oneK (tightI b) then constI (aluI op wide (oneI (tightI a)) (oneI (tightI b)))
    else if wide then settledI (doI op (tightI a) (tightI b))
    else lowI (halfDoI op (lowI (tightI a)) (lowI (tightI b)))
  else anyN
set_option maxHeartbeats 0 in
set_option maxRecDepth 1000000 in
theorem Do_k00_r (op : Int) (wide : Bool) (a b : NI) (he : ([(b2i (nW a), 1), (b2i (tightK a), 0), (b2i (nW b), 1), (b2i (tightK b), 0)] : Cs).map (·.1) = ([(b2i (nW a), 1), (b2i (tightK a), 0), (b2i (nW b), 1), (b2i (tightK b), 0)] : Cs).map (·.2)) (w : World) : Calls Tryz.prog 10 #[.int .u8 op, .bool wide, VN a, VN b] w fun e w' => e = .returned (VN anyN) ∧ Gr w w' :=
  rk hk9_ok (DoOrc false false true true) (cs := ([(b2i (nW a), 1), (b2i (tightK a), 0), (b2i (nW b), 1), (b2i (tightK b), 0)] : Cs)) rfl (by kernel_rfl) (by kernel_rfl) he w
theorem Do_k00 (op : Int) (wide : Bool) (a b : NI) (h1 : nW a = true) (h2 : nW b = true) (_h3 : (uB (oneI (tightI a)) && uB (oneI (tightI b))) = true) (_h4 : (nW (tightI a) && nW (tightI b)) = true) (_h5 : nW (doI op (tightI a) (tightI b)) = true) (_h6 : nW (tightI a) = true) (_h7 : nW (tightI b) = true) (_h8 : (nW (lowI (tightI a)) && nW (lowI (tightI b))) = true) (_h9 : nW (halfDoI op (lowI (tightI a)) (lowI (tightI b))) = true) (ka : tightK a = false) (kb : tightK b = false) (w : World) : Calls Tryz.prog 10 #[.int .u8 op, .bool wide, VN a, VN b] w fun e w' => e = .returned (VN anyN) ∧ Gr w w' :=
  Do_k00_r op wide a b (by rw [h1, ka, h2, kb]; rfl) w
set_option maxHeartbeats 0 in
set_option maxRecDepth 1000000 in
theorem Do_k01_r (op : Int) (wide : Bool) (a b : NI) (he : ([(b2i (nW a), 1), (b2i (tightK a), 0), (b2i (nW b), 1), (b2i (tightK b), 1)] : Cs).map (·.1) = ([(b2i (nW a), 1), (b2i (tightK a), 0), (b2i (nW b), 1), (b2i (tightK b), 1)] : Cs).map (·.2)) (w : World) : Calls Tryz.prog 10 #[.int .u8 op, .bool wide, VN a, VN b] w fun e w' => e = .returned (VN anyN) ∧ Gr w w' :=
  rk hk9_ok (DoOrc false true true true) (cs := ([(b2i (nW a), 1), (b2i (tightK a), 0), (b2i (nW b), 1), (b2i (tightK b), 1)] : Cs)) rfl (by kernel_rfl) (by kernel_rfl) he w
theorem Do_k01 (op : Int) (wide : Bool) (a b : NI) (h1 : nW a = true) (h2 : nW b = true) (_h3 : (uB (oneI (tightI a)) && uB (oneI (tightI b))) = true) (_h4 : (nW (tightI a) && nW (tightI b)) = true) (_h5 : nW (doI op (tightI a) (tightI b)) = true) (_h6 : nW (tightI a) = true) (_h7 : nW (tightI b) = true) (_h8 : (nW (lowI (tightI a)) && nW (lowI (tightI b))) = true) (_h9 : nW (halfDoI op (lowI (tightI a)) (lowI (tightI b))) = true) (ka : tightK a = false) (kb : tightK b = true) (w : World) : Calls Tryz.prog 10 #[.int .u8 op, .bool wide, VN a, VN b] w fun e w' => e = .returned (VN anyN) ∧ Gr w w' :=
  Do_k01_r op wide a b (by rw [h1, ka, h2, kb]; rfl) w
set_option maxHeartbeats 0 in
set_option maxRecDepth 1000000 in
theorem Do_k10_r (op : Int) (wide : Bool) (a b : NI) (he : ([(b2i (nW a), 1), (b2i (tightK a), 1), (b2i (nW b), 1), (b2i (tightK b), 0)] : Cs).map (·.1) = ([(b2i (nW a), 1), (b2i (tightK a), 1), (b2i (nW b), 1), (b2i (tightK b), 0)] : Cs).map (·.2)) (w : World) : Calls Tryz.prog 10 #[.int .u8 op, .bool wide, VN a, VN b] w fun e w' => e = .returned (VN anyN) ∧ Gr w w' :=
  rk hk9_ok (DoOrc true false true true) (cs := ([(b2i (nW a), 1), (b2i (tightK a), 1), (b2i (nW b), 1), (b2i (tightK b), 0)] : Cs)) rfl (by kernel_rfl) (by kernel_rfl) he w
theorem Do_k10 (op : Int) (wide : Bool) (a b : NI) (h1 : nW a = true) (h2 : nW b = true) (_h3 : (uB (oneI (tightI a)) && uB (oneI (tightI b))) = true) (_h4 : (nW (tightI a) && nW (tightI b)) = true) (_h5 : nW (doI op (tightI a) (tightI b)) = true) (_h6 : nW (tightI a) = true) (_h7 : nW (tightI b) = true) (_h8 : (nW (lowI (tightI a)) && nW (lowI (tightI b))) = true) (_h9 : nW (halfDoI op (lowI (tightI a)) (lowI (tightI b))) = true) (ka : tightK a = true) (kb : tightK b = false) (w : World) : Calls Tryz.prog 10 #[.int .u8 op, .bool wide, VN a, VN b] w fun e w' => e = .returned (VN anyN) ∧ Gr w w' :=
  Do_k10_r op wide a b (by rw [h1, ka, h2, kb]; rfl) w
set_option maxHeartbeats 0 in
set_option maxRecDepth 1000000 in
theorem Do_w00_r (op : Int) (a b : NI) (he : ([(b2i (nW a), 1), (b2i (tightK a), 1), (b2i (nW b), 1), (b2i (tightK b), 1), (b2i (oneK (tightI a)), 0), (b2i (oneK (tightI b)), 0), (b2i (nW (tightI a) && nW (tightI b)), 1), (b2i (nW (doI op (tightI a) (tightI b))), 1)] : Cs).map (·.1) = ([(b2i (nW a), 1), (b2i (tightK a), 1), (b2i (nW b), 1), (b2i (tightK b), 1), (b2i (oneK (tightI a)), 0), (b2i (oneK (tightI b)), 0), (b2i (nW (tightI a) && nW (tightI b)), 1), (b2i (nW (doI op (tightI a) (tightI b))), 1)] : Cs).map (·.2)) (w : World) : Calls Tryz.prog 10 #[.int .u8 op, .bool true, VN a, VN b] w fun e w' => e = .returned (VN (settledI (doI op (tightI a) (tightI b)))) ∧ Gr w w' :=
  rk hk9_ok (DoOrc true true false false) (cs := ([(b2i (nW a), 1), (b2i (tightK a), 1), (b2i (nW b), 1), (b2i (tightK b), 1), (b2i (oneK (tightI a)), 0), (b2i (oneK (tightI b)), 0), (b2i (nW (tightI a) && nW (tightI b)), 1), (b2i (nW (doI op (tightI a) (tightI b))), 1)] : Cs)) rfl (by kernel_rfl) (by kernel_rfl) he w
theorem Do_w00 (op : Int) (a b : NI) (h1 : nW a = true) (h2 : nW b = true) (_h3 : (uB (oneI (tightI a)) && uB (oneI (tightI b))) = true) (h4 : (nW (tightI a) && nW (tightI b)) = true) (h5 : nW (doI op (tightI a) (tightI b)) = true) (_h6 : nW (tightI a) = true) (_h7 : nW (tightI b) = true) (_h8 : (nW (lowI (tightI a)) && nW (lowI (tightI b))) = true) (_h9 : nW (halfDoI op (lowI (tightI a)) (lowI (tightI b))) = true) (ka : tightK a = true) (kb : tightK b = true) (oa : oneK (tightI a) = false) (ob : oneK (tightI b) = false) (w : World) : Calls Tryz.prog 10 #[.int .u8 op, .bool true, VN a, VN b] w fun e w' => e = .returned (VN (settledI (doI op (tightI a) (tightI b)))) ∧ Gr w w' :=
  Do_w00_r op a b (by rw [h1, ka, h2, kb, oa, ob, h4, h5]; rfl) w
set_option maxHeartbeats 0 in
set_option maxRecDepth 1000000 in
theorem Do_h00_r (op : Int) (a b : NI) (he : ([(b2i (nW a), 1), (b2i (tightK a), 1), (b2i (nW b), 1), (b2i (tightK b), 1), (b2i (oneK (tightI a)), 0), (b2i (oneK (tightI b)), 0), (b2i (nW (tightI a)), 1), (b2i (nW (tightI b)), 1), (b2i (nW (lowI (tightI a)) && nW (lowI (tightI b))), 1), (b2i (nW (halfDoI op (lowI (tightI a)) (lowI (tightI b)))), 1)] : Cs).map (·.1) = ([(b2i (nW a), 1), (b2i (tightK a), 1), (b2i (nW b), 1), (b2i (tightK b), 1), (b2i (oneK (tightI a)), 0), (b2i (oneK (tightI b)), 0), (b2i (nW (tightI a)), 1), (b2i (nW (tightI b)), 1), (b2i (nW (lowI (tightI a)) && nW (lowI (tightI b))), 1), (b2i (nW (halfDoI op (lowI (tightI a)) (lowI (tightI b)))), 1)] : Cs).map (·.2)) (w : World) : Calls Tryz.prog 10 #[.int .u8 op, .bool false, VN a, VN b] w fun e w' => e = .returned (VN (lowI (halfDoI op (lowI (tightI a)) (lowI (tightI b))))) ∧ Gr w w' :=
  rk hk9_ok (DoOrc true true false false) (cs := ([(b2i (nW a), 1), (b2i (tightK a), 1), (b2i (nW b), 1), (b2i (tightK b), 1), (b2i (oneK (tightI a)), 0), (b2i (oneK (tightI b)), 0), (b2i (nW (tightI a)), 1), (b2i (nW (tightI b)), 1), (b2i (nW (lowI (tightI a)) && nW (lowI (tightI b))), 1), (b2i (nW (halfDoI op (lowI (tightI a)) (lowI (tightI b)))), 1)] : Cs)) rfl (by kernel_rfl) (by kernel_rfl) he w
theorem Do_h00 (op : Int) (a b : NI) (h1 : nW a = true) (h2 : nW b = true) (_h3 : (uB (oneI (tightI a)) && uB (oneI (tightI b))) = true) (_h4 : (nW (tightI a) && nW (tightI b)) = true) (_h5 : nW (doI op (tightI a) (tightI b)) = true) (h6 : nW (tightI a) = true) (h7 : nW (tightI b) = true) (h8 : (nW (lowI (tightI a)) && nW (lowI (tightI b))) = true) (h9 : nW (halfDoI op (lowI (tightI a)) (lowI (tightI b))) = true) (ka : tightK a = true) (kb : tightK b = true) (oa : oneK (tightI a) = false) (ob : oneK (tightI b) = false) (w : World) : Calls Tryz.prog 10 #[.int .u8 op, .bool false, VN a, VN b] w fun e w' => e = .returned (VN (lowI (halfDoI op (lowI (tightI a)) (lowI (tightI b))))) ∧ Gr w w' :=
  Do_h00_r op a b (by rw [h1, ka, h2, kb, oa, ob, h6, h7, h8, h9]; rfl) w
set_option maxHeartbeats 0 in
set_option maxRecDepth 1000000 in
theorem Do_w01_r (op : Int) (a b : NI) (he : ([(b2i (nW a), 1), (b2i (tightK a), 1), (b2i (nW b), 1), (b2i (tightK b), 1), (b2i (oneK (tightI a)), 0), (b2i (oneK (tightI b)), 1), (b2i (nW (tightI a) && nW (tightI b)), 1), (b2i (nW (doI op (tightI a) (tightI b))), 1)] : Cs).map (·.1) = ([(b2i (nW a), 1), (b2i (tightK a), 1), (b2i (nW b), 1), (b2i (tightK b), 1), (b2i (oneK (tightI a)), 0), (b2i (oneK (tightI b)), 1), (b2i (nW (tightI a) && nW (tightI b)), 1), (b2i (nW (doI op (tightI a) (tightI b))), 1)] : Cs).map (·.2)) (w : World) : Calls Tryz.prog 10 #[.int .u8 op, .bool true, VN a, VN b] w fun e w' => e = .returned (VN (settledI (doI op (tightI a) (tightI b)))) ∧ Gr w w' :=
  rk hk9_ok (DoOrc true true false true) (cs := ([(b2i (nW a), 1), (b2i (tightK a), 1), (b2i (nW b), 1), (b2i (tightK b), 1), (b2i (oneK (tightI a)), 0), (b2i (oneK (tightI b)), 1), (b2i (nW (tightI a) && nW (tightI b)), 1), (b2i (nW (doI op (tightI a) (tightI b))), 1)] : Cs)) rfl (by kernel_rfl) (by kernel_rfl) he w
theorem Do_w01 (op : Int) (a b : NI) (h1 : nW a = true) (h2 : nW b = true) (_h3 : (uB (oneI (tightI a)) && uB (oneI (tightI b))) = true) (h4 : (nW (tightI a) && nW (tightI b)) = true) (h5 : nW (doI op (tightI a) (tightI b)) = true) (_h6 : nW (tightI a) = true) (_h7 : nW (tightI b) = true) (_h8 : (nW (lowI (tightI a)) && nW (lowI (tightI b))) = true) (_h9 : nW (halfDoI op (lowI (tightI a)) (lowI (tightI b))) = true) (ka : tightK a = true) (kb : tightK b = true) (oa : oneK (tightI a) = false) (ob : oneK (tightI b) = true) (w : World) : Calls Tryz.prog 10 #[.int .u8 op, .bool true, VN a, VN b] w fun e w' => e = .returned (VN (settledI (doI op (tightI a) (tightI b)))) ∧ Gr w w' :=
  Do_w01_r op a b (by rw [h1, ka, h2, kb, oa, ob, h4, h5]; rfl) w
set_option maxHeartbeats 0 in
set_option maxRecDepth 1000000 in
theorem Do_h01_r (op : Int) (a b : NI) (he : ([(b2i (nW a), 1), (b2i (tightK a), 1), (b2i (nW b), 1), (b2i (tightK b), 1), (b2i (oneK (tightI a)), 0), (b2i (oneK (tightI b)), 1), (b2i (nW (tightI a)), 1), (b2i (nW (tightI b)), 1), (b2i (nW (lowI (tightI a)) && nW (lowI (tightI b))), 1), (b2i (nW (halfDoI op (lowI (tightI a)) (lowI (tightI b)))), 1)] : Cs).map (·.1) = ([(b2i (nW a), 1), (b2i (tightK a), 1), (b2i (nW b), 1), (b2i (tightK b), 1), (b2i (oneK (tightI a)), 0), (b2i (oneK (tightI b)), 1), (b2i (nW (tightI a)), 1), (b2i (nW (tightI b)), 1), (b2i (nW (lowI (tightI a)) && nW (lowI (tightI b))), 1), (b2i (nW (halfDoI op (lowI (tightI a)) (lowI (tightI b)))), 1)] : Cs).map (·.2)) (w : World) : Calls Tryz.prog 10 #[.int .u8 op, .bool false, VN a, VN b] w fun e w' => e = .returned (VN (lowI (halfDoI op (lowI (tightI a)) (lowI (tightI b))))) ∧ Gr w w' :=
  rk hk9_ok (DoOrc true true false true) (cs := ([(b2i (nW a), 1), (b2i (tightK a), 1), (b2i (nW b), 1), (b2i (tightK b), 1), (b2i (oneK (tightI a)), 0), (b2i (oneK (tightI b)), 1), (b2i (nW (tightI a)), 1), (b2i (nW (tightI b)), 1), (b2i (nW (lowI (tightI a)) && nW (lowI (tightI b))), 1), (b2i (nW (halfDoI op (lowI (tightI a)) (lowI (tightI b)))), 1)] : Cs)) rfl (by kernel_rfl) (by kernel_rfl) he w
theorem Do_h01 (op : Int) (a b : NI) (h1 : nW a = true) (h2 : nW b = true) (_h3 : (uB (oneI (tightI a)) && uB (oneI (tightI b))) = true) (_h4 : (nW (tightI a) && nW (tightI b)) = true) (_h5 : nW (doI op (tightI a) (tightI b)) = true) (h6 : nW (tightI a) = true) (h7 : nW (tightI b) = true) (h8 : (nW (lowI (tightI a)) && nW (lowI (tightI b))) = true) (h9 : nW (halfDoI op (lowI (tightI a)) (lowI (tightI b))) = true) (ka : tightK a = true) (kb : tightK b = true) (oa : oneK (tightI a) = false) (ob : oneK (tightI b) = true) (w : World) : Calls Tryz.prog 10 #[.int .u8 op, .bool false, VN a, VN b] w fun e w' => e = .returned (VN (lowI (halfDoI op (lowI (tightI a)) (lowI (tightI b))))) ∧ Gr w w' :=
  Do_h01_r op a b (by rw [h1, ka, h2, kb, oa, ob, h6, h7, h8, h9]; rfl) w
set_option maxHeartbeats 0 in
set_option maxRecDepth 1000000 in
theorem Do_w10_r (op : Int) (a b : NI) (he : ([(b2i (nW a), 1), (b2i (tightK a), 1), (b2i (nW b), 1), (b2i (tightK b), 1), (b2i (oneK (tightI a)), 1), (b2i (oneK (tightI b)), 0), (b2i (nW (tightI a) && nW (tightI b)), 1), (b2i (nW (doI op (tightI a) (tightI b))), 1)] : Cs).map (·.1) = ([(b2i (nW a), 1), (b2i (tightK a), 1), (b2i (nW b), 1), (b2i (tightK b), 1), (b2i (oneK (tightI a)), 1), (b2i (oneK (tightI b)), 0), (b2i (nW (tightI a) && nW (tightI b)), 1), (b2i (nW (doI op (tightI a) (tightI b))), 1)] : Cs).map (·.2)) (w : World) : Calls Tryz.prog 10 #[.int .u8 op, .bool true, VN a, VN b] w fun e w' => e = .returned (VN (settledI (doI op (tightI a) (tightI b)))) ∧ Gr w w' :=
  rk hk9_ok (DoOrc true true true false) (cs := ([(b2i (nW a), 1), (b2i (tightK a), 1), (b2i (nW b), 1), (b2i (tightK b), 1), (b2i (oneK (tightI a)), 1), (b2i (oneK (tightI b)), 0), (b2i (nW (tightI a) && nW (tightI b)), 1), (b2i (nW (doI op (tightI a) (tightI b))), 1)] : Cs)) rfl (by kernel_rfl) (by kernel_rfl) he w
theorem Do_w10 (op : Int) (a b : NI) (h1 : nW a = true) (h2 : nW b = true) (_h3 : (uB (oneI (tightI a)) && uB (oneI (tightI b))) = true) (h4 : (nW (tightI a) && nW (tightI b)) = true) (h5 : nW (doI op (tightI a) (tightI b)) = true) (_h6 : nW (tightI a) = true) (_h7 : nW (tightI b) = true) (_h8 : (nW (lowI (tightI a)) && nW (lowI (tightI b))) = true) (_h9 : nW (halfDoI op (lowI (tightI a)) (lowI (tightI b))) = true) (ka : tightK a = true) (kb : tightK b = true) (oa : oneK (tightI a) = true) (ob : oneK (tightI b) = false) (w : World) : Calls Tryz.prog 10 #[.int .u8 op, .bool true, VN a, VN b] w fun e w' => e = .returned (VN (settledI (doI op (tightI a) (tightI b)))) ∧ Gr w w' :=
  Do_w10_r op a b (by rw [h1, ka, h2, kb, oa, ob, h4, h5]; rfl) w
set_option maxHeartbeats 0 in
set_option maxRecDepth 1000000 in
theorem Do_h10_r (op : Int) (a b : NI) (he : ([(b2i (nW a), 1), (b2i (tightK a), 1), (b2i (nW b), 1), (b2i (tightK b), 1), (b2i (oneK (tightI a)), 1), (b2i (oneK (tightI b)), 0), (b2i (nW (tightI a)), 1), (b2i (nW (tightI b)), 1), (b2i (nW (lowI (tightI a)) && nW (lowI (tightI b))), 1), (b2i (nW (halfDoI op (lowI (tightI a)) (lowI (tightI b)))), 1)] : Cs).map (·.1) = ([(b2i (nW a), 1), (b2i (tightK a), 1), (b2i (nW b), 1), (b2i (tightK b), 1), (b2i (oneK (tightI a)), 1), (b2i (oneK (tightI b)), 0), (b2i (nW (tightI a)), 1), (b2i (nW (tightI b)), 1), (b2i (nW (lowI (tightI a)) && nW (lowI (tightI b))), 1), (b2i (nW (halfDoI op (lowI (tightI a)) (lowI (tightI b)))), 1)] : Cs).map (·.2)) (w : World) : Calls Tryz.prog 10 #[.int .u8 op, .bool false, VN a, VN b] w fun e w' => e = .returned (VN (lowI (halfDoI op (lowI (tightI a)) (lowI (tightI b))))) ∧ Gr w w' :=
  rk hk9_ok (DoOrc true true true false) (cs := ([(b2i (nW a), 1), (b2i (tightK a), 1), (b2i (nW b), 1), (b2i (tightK b), 1), (b2i (oneK (tightI a)), 1), (b2i (oneK (tightI b)), 0), (b2i (nW (tightI a)), 1), (b2i (nW (tightI b)), 1), (b2i (nW (lowI (tightI a)) && nW (lowI (tightI b))), 1), (b2i (nW (halfDoI op (lowI (tightI a)) (lowI (tightI b)))), 1)] : Cs)) rfl (by kernel_rfl) (by kernel_rfl) he w
theorem Do_h10 (op : Int) (a b : NI) (h1 : nW a = true) (h2 : nW b = true) (_h3 : (uB (oneI (tightI a)) && uB (oneI (tightI b))) = true) (_h4 : (nW (tightI a) && nW (tightI b)) = true) (_h5 : nW (doI op (tightI a) (tightI b)) = true) (h6 : nW (tightI a) = true) (h7 : nW (tightI b) = true) (h8 : (nW (lowI (tightI a)) && nW (lowI (tightI b))) = true) (h9 : nW (halfDoI op (lowI (tightI a)) (lowI (tightI b))) = true) (ka : tightK a = true) (kb : tightK b = true) (oa : oneK (tightI a) = true) (ob : oneK (tightI b) = false) (w : World) : Calls Tryz.prog 10 #[.int .u8 op, .bool false, VN a, VN b] w fun e w' => e = .returned (VN (lowI (halfDoI op (lowI (tightI a)) (lowI (tightI b))))) ∧ Gr w w' :=
  Do_h10_r op a b (by rw [h1, ka, h2, kb, oa, ob, h6, h7, h8, h9]; rfl) w
set_option maxHeartbeats 0 in
set_option maxRecDepth 1000000 in
theorem Do_c_r (op : Int) (wide : Bool) (a b : NI) (he : ([(b2i (nW a), 1), (b2i (tightK a), 1), (b2i (nW b), 1), (b2i (tightK b), 1), (b2i (oneK (tightI a)), 1), (b2i (oneK (tightI b)), 1), (b2i (uB (oneI (tightI a)) && uB (oneI (tightI b))), 1), (b2i (uB (aluI op wide (oneI (tightI a)) (oneI (tightI b)))), 1)] : Cs).map (·.1) = ([(b2i (nW a), 1), (b2i (tightK a), 1), (b2i (nW b), 1), (b2i (tightK b), 1), (b2i (oneK (tightI a)), 1), (b2i (oneK (tightI b)), 1), (b2i (uB (oneI (tightI a)) && uB (oneI (tightI b))), 1), (b2i (uB (aluI op wide (oneI (tightI a)) (oneI (tightI b)))), 1)] : Cs).map (·.2)) (w : World) : Calls Tryz.prog 10 #[.int .u8 op, .bool wide, VN a, VN b] w fun e w' => e = .returned (VN (constI (aluI op wide (oneI (tightI a)) (oneI (tightI b))))) ∧ Gr w w' :=
  rk hk9_ok (DoOrc true true true true) (cs := ([(b2i (nW a), 1), (b2i (tightK a), 1), (b2i (nW b), 1), (b2i (tightK b), 1), (b2i (oneK (tightI a)), 1), (b2i (oneK (tightI b)), 1), (b2i (uB (oneI (tightI a)) && uB (oneI (tightI b))), 1), (b2i (uB (aluI op wide (oneI (tightI a)) (oneI (tightI b)))), 1)] : Cs)) rfl (by kernel_rfl) (by kernel_rfl) he w
theorem Do_c (op : Int) (wide : Bool) (a b : NI) (h1 : nW a = true) (h2 : nW b = true) (h3 : (uB (oneI (tightI a)) && uB (oneI (tightI b))) = true) (_h4 : (nW (tightI a) && nW (tightI b)) = true) (_h5 : nW (doI op (tightI a) (tightI b)) = true) (_h6 : nW (tightI a) = true) (_h7 : nW (tightI b) = true) (_h8 : (nW (lowI (tightI a)) && nW (lowI (tightI b))) = true) (_h9 : nW (halfDoI op (lowI (tightI a)) (lowI (tightI b))) = true) (ka : tightK a = true) (kb : tightK b = true) (oa : oneK (tightI a) = true) (ob : oneK (tightI b) = true) (w : World) : Calls Tryz.prog 10 #[.int .u8 op, .bool wide, VN a, VN b] w fun e w' => e = .returned (VN (constI (aluI op wide (oneI (tightI a)) (oneI (tightI b))))) ∧ Gr w w' :=
  Do_c_r op wide a b (by rw [h1, ka, h2, kb, oa, ob, h3, uB_alu]; rfl) w
theorem c_Do (op : Int) (wide : Bool) (a b : NI) (hw : (nW a && nW b) = true) (w : World) : Calls Tryz.prog 10 #[.int .u8 op, .bool wide, VN a, VN b] w fun e w' => e = .returned (VN (DoI op wide a b)) ∧ Gr w w' := by
  simp only [Bool.and_eq_true] at hw
  have h1 := hw.1
  have h2 := hw.2
  have h6 := nW_tight a
  have h7 := nW_tight b
  have one : ∀ n : NI, nW n = true → uB (oneI n) = true := fun n h => by
    unfold nW tW at h
    simp only [Bool.and_eq_true] at h
    unfold oneI
    split
    · rfl
    · exact h.1.1
  have h3 : (uB (oneI (tightI a)) && uB (oneI (tightI b))) = true := by rw [one _ h6, one _ h7]; rfl
  have h4 : (nW (tightI a) && nW (tightI b)) = true := by rw [h6, h7]; rfl
  have h5 : nW (doI op (tightI a) (tightI b)) = true := nW_do _ h6 h7
  have h8 : (nW (lowI (tightI a)) && nW (lowI (tightI b))) = true := by rw [nW_lowI, nW_lowI]; rfl
  have h9 : nW (halfDoI op (lowI (tightI a)) (lowI (tightI b))) = true := nW_half _ (nW_lowI _) (nW_lowI _)
  cases ka : tightK a <;> cases kb : tightK b
  · exact ret_eq (by simp only [DoI, ka, kb]; rfl) (Do_k00 op wide a b h1 h2 h3 h4 h5 h6 h7 h8 h9 ka kb w)
  · exact ret_eq (by simp only [DoI, ka, kb]; rfl) (Do_k01 op wide a b h1 h2 h3 h4 h5 h6 h7 h8 h9 ka kb w)
  · exact ret_eq (by simp only [DoI, ka, kb]; rfl) (Do_k10 op wide a b h1 h2 h3 h4 h5 h6 h7 h8 h9 ka kb w)
  · cases oa : oneK (tightI a) <;> cases ob : oneK (tightI b)
    · cases wide
      · exact ret_eq (by simp only [DoI, ka, kb, oa, ob]; rfl) (Do_h00 op a b h1 h2 h3 h4 h5 h6 h7 h8 h9 ka kb oa ob w)
      · exact ret_eq (by simp only [DoI, ka, kb, oa, ob]; rfl) (Do_w00 op a b h1 h2 h3 h4 h5 h6 h7 h8 h9 ka kb oa ob w)
    · cases wide
      · exact ret_eq (by simp only [DoI, ka, kb, oa, ob]; rfl) (Do_h01 op a b h1 h2 h3 h4 h5 h6 h7 h8 h9 ka kb oa ob w)
      · exact ret_eq (by simp only [DoI, ka, kb, oa, ob]; rfl) (Do_w01 op a b h1 h2 h3 h4 h5 h6 h7 h8 h9 ka kb oa ob w)
    · cases wide
      · exact ret_eq (by simp only [DoI, ka, kb, oa, ob]; rfl) (Do_h10 op a b h1 h2 h3 h4 h5 h6 h7 h8 h9 ka kb oa ob w)
      · exact ret_eq (by simp only [DoI, ka, kb, oa, ob]; rfl) (Do_w10 op a b h1 h2 h3 h4 h5 h6 h7 h8 h9 ka kb oa ob w)
    · exact ret_eq (by simp only [DoI, ka, kb, oa, ob]; rfl) (Do_c op wide a b h1 h2 h3 h4 h5 h6 h7 h8 h9 ka kb oa ob w)
theorem uB_one {n : NI} (h : nW n = true) : uB (oneI n) = true := by
  unfold nW tW at h
  simp only [Bool.and_eq_true] at h
  unfold oneI
  split
  · rfl
  · exact h.1.1
theorem nW_Do (op : Int) (wide : Bool) (a b : NI) : nW (DoI op wide a b) = true := by
  unfold DoI
  split
  · split
    · exact nW_const (by unfold aluI; exact uB_N _)
    · split
      · exact nW_settled (nW_do _ (nW_tight _) (nW_tight _))
      · exact nW_lowI _
  · rfl
def hk_Do : Hook := fun f args _ =>
  if Nat.beq f 10 then
    match args with
    | [.int .u8 a, .bool b, .agg ⟨[.int .u64 c0, .int .u64 c1, .int .u64 c2, .int .u64 c3, .int .i64 c4, .int .i64 c5]⟩, .agg ⟨[.int .u64 d0, .int .u64 d1, .int .u64 d2, .int .u64 d3, .int .i64 d4, .int .i64 d5]⟩] => some (VN (DoI a b (⟨⟨c0, c1⟩, ⟨c2, c3, c4, c5⟩⟩ : NI) (⟨⟨d0, d1⟩, ⟨d2, d3, d4, d5⟩⟩ : NI)), [(b2i (nW (⟨⟨c0, c1⟩, ⟨c2, c3, c4, c5⟩⟩ : NI) && nW (⟨⟨d0, d1⟩, ⟨d2, d3, d4, d5⟩⟩ : NI)), 1)])
    | _ => none
  else none
theorem hk_Do_ok : HookOk Tryz.prog hk_Do := by
  intro f args h v cs hv hc wb k s w H
  unfold hk_Do at hv
  split at hv
  · rename_i hf
    obtain rfl := Nat.eq_of_beq_eq_true hf
    split at hv
    · rename_i a b c0 c1 c2 c3 c4 c5 d0 d1 d2 d3 d4 d5
      cases hv
      have hw := pair1 hc rfl
      exact c_Do a b (⟨⟨c0, c1⟩, ⟨c2, c3, c4, c5⟩⟩ : NI) (⟨⟨d0, d1⟩, ⟨d2, d3, d4, d5⟩⟩ : NI) hw w
    · cases hv
  · cases hv
def hk10 : Hook := orHook hk_tight (orHook hk_settled (orHook hk_has (orHook hk_in (orHook hk_supto (orHook hk_upto (orHook hk_lsh (orHook hk_arsh (orHook hk_ext (orHook hk_low (orHook hk_const (orHook hk_moved (orHook hk_do (orHook hk_half (orHook hk_Do (hk2)))))))))))))))
theorem hk10_ok : HookOk Tryz.prog hk10 := orHook_ok hk_tight_ok (orHook_ok hk_settled_ok (orHook_ok hk_has_ok (orHook_ok hk_in_ok (orHook_ok hk_supto_ok (orHook_ok hk_upto_ok (orHook_ok hk_lsh_ok (orHook_ok hk_arsh_ok (orHook_ok hk_ext_ok (orHook_ok hk_low_ok (orHook_ok hk_const_ok (orHook_ok hk_moved_ok (orHook_ok hk_do_ok (orHook_ok hk_half_ok (orHook_ok hk_Do_ok (hk2_ok)))))))))))))))
end Go.Proofs.YtchjneodjaakdaaGreat.Ex
end
section
namespace Go.Proofs.YtchjneodjaakdaaGreat

theorem half_of {R : BitVec 64} {r : BitVec 32} (h : R.setWidth 32 = r) : lowS R 32 = r.setWidth 64 := by rw [low32, h]
theorem half_add (a b : BitVec 32) : (a.setWidth 64 + b.setWidth 64).setWidth 32 = a + b := by
  apply BitVec.eq_of_toNat_eq; simp
theorem half_sub (a b : BitVec 32) : (a.setWidth 64 - b.setWidth 64).setWidth 32 = a - b := by
  apply BitVec.eq_of_toNat_eq; simp [BitVec.toNat_sub]; omega
theorem half_neg (a : BitVec 32) : (0#64 - a.setWidth 64).setWidth 32 = -a := by
  apply BitVec.eq_of_toNat_eq; simp
theorem half_mul (a b : BitVec 32) : (a.setWidth 64 * b.setWidth 64).setWidth 32 = a * b := by
  apply BitVec.eq_of_toNat_eq
  have h1 := a.isLt
  have h2 := b.isLt
  simp only [BitVec.toNat_setWidth, BitVec.toNat_mul]
  rw [Nat.mod_eq_of_lt (a := a.toNat) (by omega), Nat.mod_eq_of_lt (a := b.toNat) (by omega)]
  exact Nat.mod_mod_of_dvd _ (by decide)
theorem half_div (a b : BitVec 32) : (a.setWidth 64 / b.setWidth 64).setWidth 32 = a / b := by
  apply BitVec.eq_of_toNat_eq
  have h1 := a.isLt
  have h2 := b.isLt
  have h3 : a.toNat / b.toNat ≤ a.toNat := Nat.div_le_self _ _
  simp only [BitVec.toNat_setWidth, BitVec.toNat_udiv]
  rw [Nat.mod_eq_of_lt (a := a.toNat) (by omega), Nat.mod_eq_of_lt (a := b.toNat) (by omega), Nat.mod_eq_of_lt (by omega)]
theorem half_mod (a b : BitVec 32) : (a.setWidth 64 % b.setWidth 64).setWidth 32 = a % b := by
  apply BitVec.eq_of_toNat_eq
  have h1 := a.isLt
  have h2 := b.isLt
  have h3 : a.toNat % b.toNat ≤ a.toNat := Nat.mod_le _ _
  simp only [BitVec.toNat_setWidth, BitVec.toNat_umod]
  rw [Nat.mod_eq_of_lt (a := a.toNat) (by omega), Nat.mod_eq_of_lt (a := b.toNat) (by omega), Nat.mod_eq_of_lt (by omega)]
theorem half_or (a b : BitVec 32) : (a.setWidth 64 ||| b.setWidth 64).setWidth 32 = a ||| b := by
  apply BitVec.eq_of_getLsbD_eq; intro i hi; simp [hi]
theorem half_and (a b : BitVec 32) : (a.setWidth 64 &&& b.setWidth 64).setWidth 32 = a &&& b := by
  apply BitVec.eq_of_getLsbD_eq; intro i hi; simp [hi]
theorem half_xor (a b : BitVec 32) : (a.setWidth 64 ^^^ b.setWidth 64).setWidth 32 = a ^^^ b := by
  apply BitVec.eq_of_getLsbD_eq; intro i hi; simp [hi]
theorem half_shl (a : BitVec 32) (m : Nat) : (a.setWidth 64 <<< m).setWidth 32 = a <<< m := by
  apply BitVec.eq_of_getLsbD_eq
  intro i hi
  rw [BitVec.getLsbD_setWidth, BitVec.getLsbD_shiftLeft, BitVec.getLsbD_shiftLeft, BitVec.getLsbD_setWidth]
  simp only [hi, show i < 64 by omega, show i - m < 64 by omega, decide_true, Bool.true_and]
theorem half_shr (a : BitVec 32) (m : Nat) : (a.setWidth 64 >>> m).setWidth 32 = a >>> m := by
  apply BitVec.eq_of_getLsbD_eq
  intro i hi
  rw [BitVec.getLsbD_setWidth, BitVec.getLsbD_ushiftRight, BitVec.getLsbD_ushiftRight, BitVec.getLsbD_setWidth]
  by_cases h : m + i < 64
  · simp only [hi, h, decide_true, Bool.true_and]
  · simp only [h, decide_false, Bool.false_and, Bool.and_false]
    exact (BitVec.getLsbD_of_ge a _ (by omega)).symm
theorem half_id (a : BitVec 32) : (a.setWidth 64).setWidth 32 = a := by
  apply BitVec.eq_of_toNat_eq; simp
theorem half_sar (a : BitVec 32) (m : Nat) (hm : m < 32) : (signS (a.setWidth 64 >>> m) (32 - (m : Int))).setWidth 32 = a.sshiftRight m := by
  apply BitVec.eq_of_getLsbD_eq
  intro i hi
  rw [BitVec.getLsbD_setWidth, sign_bit _ _ i (by omega) (by omega), BitVec.getLsbD_sshiftRight, BitVec.getLsbD_ushiftRight, BitVec.getLsbD_ushiftRight, BitVec.getLsbD_setWidth, BitVec.getLsbD_setWidth, BitVec.msb_eq_getLsbD_last]
  by_cases h : m + i < 32
  · have h' : (i : Int) < 32 - (m : Int) := by omega
    simp only [hi, h, h', if_true, show m + i < 64 by omega, show ¬ 32 ≤ i by omega, decide_true, decide_false, Bool.true_and, Bool.not_false]
  · have h' : ¬ (i : Int) < 32 - (m : Int) := by omega
    simp only [hi, h, h', if_false, show m + ((32 - (m : Int)).toNat - 1) = 31 by omega, show ¬ 32 ≤ i by omega, decide_true, decide_false, Bool.true_and, Bool.not_false]
    rfl
theorem wide_sar (a : BitVec 64) (m : Nat) (hm : m < 64) : signS (a >>> m) (64 - (m : Int)) = a.sshiftRight m := by
  apply BitVec.eq_of_getLsbD_eq
  intro i hi
  rw [sign_bit _ _ i (by omega) (by omega), BitVec.getLsbD_sshiftRight, BitVec.getLsbD_ushiftRight, BitVec.getLsbD_ushiftRight, BitVec.msb_eq_getLsbD_last]
  by_cases h : m + i < 64
  · have h' : (i : Int) < 64 - (m : Int) := by omega
    simp only [h, h', if_true, show ¬ 64 ≤ i by omega, decide_false, Bool.true_and, Bool.not_false]
  · have h' : ¬ (i : Int) < 64 - (m : Int) := by omega
    simp only [h, h', if_false, show m + ((64 - (m : Int)).toNat - 1) = 63 by omega, show ¬ 64 ≤ i by omega, decide_false, Bool.true_and, Bool.not_false]
theorem div_shl1 (a : BitVec 64) (m : Nat) (hm : m < 64) : a / (1#64 <<< m) = a >>> m := by
  have hp : 2 ^ m < 2 ^ 64 := Nat.pow_lt_pow_right (by decide) hm
  apply BitVec.eq_of_toNat_eq
  rw [BitVec.toNat_udiv, BitVec.toNat_ushiftRight, Nat.shiftRight_eq_div_pow, BitVec.toNat_shiftLeft]
  simp only [BitVec.toNat_ofNat, Nat.shiftLeft_eq]
  rw [Nat.mod_eq_of_lt (a := 1) (by decide), Nat.one_mul, Nat.mod_eq_of_lt hp]
theorem shl1_ne' (m : Nat) (hm : m < 64) : ¬ N (1#64 <<< m) = 0 := by
  have := shl1_ne m (by omega) (by omega)
  rwa [Int.toNat_natCast] at this
theorem N_set64 (a : BitVec 32) : N (a.setWidth 64) = N a := by
  unfold N; simp; omega
end Go.Proofs.YtchjneodjaakdaaGreat
end
section
namespace Go.Proofs.YtchjneodjaakdaaGreat
set_option maxRecDepth 20000
open Go.RowKit

attribute [local go_sem] u64_wrap u8_wrap BitVec.ofInt_add BitVec.ofInt_mul ofInt_sub' ofInt_N ofInt_Nw ofInt_Z wrap64_N mul_shl1 u64_and u64_or N_tmod N_emod

set_option maxHeartbeats 400000 in
theorem refPower_N (b : Int) (w : World) (h1 : -9223372036854775808 ≤ b) (h2 : b ≤ 64) :
    Calls Tryz.prog 29 #[.int .i64 b] w fun e w' => e = .returned (.int .u64 (N (1#64 <<< b.toNat))) ∧ w = w' := by
  go_enter Tryz.func29, Tryz.ntmps29
  go_wp2
  go_loop [3, 4] (fun v i => ∃ k : Nat, k ≤ b.toNat ∧ i = .int .i64 k ∧ v = .int .u64 (N (1#64 <<< k))) (fun _ i => 64 - (intOf i).toNat)
  case atStart => exact ⟨0, by omega, rfl, rfl⟩
  case round =>
    obtain ⟨k, hk, rfl, rfl⟩ := hrel
    by_cases hlt : (k : Int) < b
    · go_wp2
      go_round
      case rel => exact ⟨k + 1, by omega, by go_num, by rw [shl_succ]⟩
      case measure => simp [intOf]; omega
    · go_wp2
      go_ret
      exact ⟨ret64 (by rw [show k = b.toNat by omega]), rfl⟩

set_option maxHeartbeats 400000 in
theorem refLow_N (v : BitVec 64) (b : Int) (w : World) (h1 : -9223372036854775808 ≤ b) (h2 : b ≤ 9223372036854775807) :
    Calls Tryz.prog 28 #[.int .u64 (N v), .int .i64 b] w fun e w' => e = .returned (.int .u64 (N (lowS v b))) ∧ w = w' := by
  by_cases hb : 64 ≤ b
  · go_enter Tryz.func28, Tryz.ntmps28
    go_wp2_with fail
    go_ret
    exact ⟨ret64 (by unfold lowS; rw [if_neg (by omega), if_pos hb]), rfl⟩
  · by_cases h0 : b ≤ 0
    · go_enter Tryz.func28, Tryz.ntmps28
      go_wp2_with fail
      go_ret
      exact ⟨ret0 (by unfold lowS; rw [if_pos h0]), rfl⟩
    · have hne := shl1_ne b (by omega) (by omega)
      go_enter Tryz.func28, Tryz.ntmps28
      go_wp2_with (go_at_call 29; refine (refPower_N _ _ (by omega) (by omega)).mono ?_; rintro e w' ⟨rfl, rfl⟩)
      go_ret
      exact ⟨ret64 (low_of_mod v b (by omega) (by omega)), rfl⟩

set_option maxHeartbeats 400000 in
theorem refSign_N (v : BitVec 64) (b : Int) (w : World) (h1 : -9223372036854775808 ≤ b) (h2 : b ≤ 9223372036854775807) :
    Calls Tryz.prog 30 #[.int .u64 (N v), .int .i64 b] w fun e w' => e = .returned (.int .u64 (N (signS v b))) ∧ w = w' := by
  by_cases h0 : b ≤ 0
  · go_enter Tryz.func30, Tryz.ntmps30
    go_wp2_with (first | (go_at_call 29; refine (refPower_N _ _ (by omega) (by omega)).mono ?_; rintro e w' ⟨rfl, rfl⟩) | (go_at_call 28; refine (refLow_N _ _ _ (by omega) (by omega)).mono ?_; rintro e w' ⟨rfl, rfl⟩))
    go_ret
    exact ⟨ret64 (sign_le0 v b h0), rfl⟩
  · by_cases hb : 64 ≤ b
    · go_enter Tryz.func30, Tryz.ntmps30
      go_wp2_with (first | (go_at_call 29; refine (refPower_N _ _ (by omega) (by omega)).mono ?_; rintro e w' ⟨rfl, rfl⟩) | (go_at_call 28; refine (refLow_N _ _ _ (by omega) (by omega)).mono ?_; rintro e w' ⟨rfl, rfl⟩))
      go_ret
      exact ⟨ret64 (sign_ge64 v b hb), rfl⟩
    · go_enter Tryz.func30, Tryz.ntmps30
      go_wp2_with (first | (go_at_call 29; refine (refPower_N _ _ (by omega) (by omega)).mono ?_; rintro e w' ⟨rfl, rfl⟩) | (go_at_call 28; refine (refLow_N _ _ _ (by omega) (by omega)).mono ?_; rintro e w' ⟨rfl, rfl⟩))
      · rename_i h
        go_ret
        exact ⟨ret64 (sign_plain v b (by omega) (by omega) (by omega)), rfl⟩
      · rename_i h
        go_ret
        exact ⟨ret64 (sign_minus v b (by omega) (by omega) (by omega)), rfl⟩

end Go.Proofs.YtchjneodjaakdaaGreat
end
section
namespace Go.Proofs.YtchjneodjaakdaaGreat
set_option maxRecDepth 20000
open Go.RowKit

attribute [local go_sem] u64_wrap u32_wrap u8_wrap BitVec.ofInt_add BitVec.ofInt_mul ofInt_sub' BitVec.ofInt_neg ofInt_N ofInt_Z wrap64_N mul_shl1 u64_and u64_or u64_xor N_tdiv N_tmod low64

theorem N_lt64 (v : BitVec 64) : N v < 18446744073709551616 := N_lt v
theorem refLow_I (x b : Int) (w : World) (h0 : 0 ≤ x) (h3 : x < 18446744073709551616) (h1 : -9223372036854775808 ≤ b) (h2 : b ≤ 9223372036854775807) :
    Calls Tryz.prog 28 #[.int .u64 x, .int .i64 b] w fun e w' => e = .returned (.int .u64 (N (lowS (BitVec.ofInt 64 x) b))) ∧ w = w' := by
  have h := refLow_N (BitVec.ofInt 64 x) b w h1 h2
  rwa [N_ofInt x h0 (by simpa using h3)] at h

attribute [local go_sem] N_ofNat
set_option maxRecDepth 100000 in
set_option maxHeartbeats 4000000 in
theorem refDo_64 (x : Int) (a b : BitVec 64) (w : World) :
    Calls Tryz.prog 11 #[.int .u8 x, .bool true, .int .u64 (N a), .int .u64 (N b)] w fun e w' => e = .returned (.int .u64 (N (aluW x a b))) ∧ w = w' := by
  have hm := tmod64 b
  obtain ⟨m, hmd⟩ : ∃ m, m = b.toNat % 64 := ⟨_, rfl⟩
  rw [← hmd] at hm
  have hml : m < 64 := by omega
  rcases alu_cases x with h | h | h | h | h | h | h | h | h | h | h | h | h | h
  case inl =>
    subst h
    clear hmd
    go_enter Tryz.func11, Tryz.ntmps11
    go_wp2_with (first | (go_at_call 28; refine (refLow_I _ _ _ (by first | decide | exact N_nonneg _) (by first | decide | exact N_lt64 _) (by decide) (by decide)).mono ?_; rintro e w' ⟨rfl, rfl⟩) | (go_at_call 29; refine (refPower_N _ _ (by omega) (by omega)).mono ?_; rintro e w' ⟨rfl, rfl⟩) | (go_at_call 30; refine (refSign_N _ _ _ (by omega) (by omega)).mono ?_; rintro e w' ⟨rfl, rfl⟩))
    go_ret
    exact ⟨rfl, rfl⟩
  case inr.inl =>
    subst h
    clear hmd
    go_enter Tryz.func11, Tryz.ntmps11
    go_wp2_with (first | (go_at_call 28; refine (refLow_I _ _ _ (by first | decide | exact N_nonneg _) (by first | decide | exact N_lt64 _) (by decide) (by decide)).mono ?_; rintro e w' ⟨rfl, rfl⟩) | (go_at_call 29; refine (refPower_N _ _ (by omega) (by omega)).mono ?_; rintro e w' ⟨rfl, rfl⟩) | (go_at_call 30; refine (refSign_N _ _ _ (by omega) (by omega)).mono ?_; rintro e w' ⟨rfl, rfl⟩))
    go_ret
    exact ⟨rfl, rfl⟩
  case inr.inr.inl =>
    subst h
    clear hmd
    go_enter Tryz.func11, Tryz.ntmps11
    go_wp2_with (first | (go_at_call 28; refine (refLow_I _ _ _ (by first | decide | exact N_nonneg _) (by first | decide | exact N_lt64 _) (by decide) (by decide)).mono ?_; rintro e w' ⟨rfl, rfl⟩) | (go_at_call 29; refine (refPower_N _ _ (by omega) (by omega)).mono ?_; rintro e w' ⟨rfl, rfl⟩) | (go_at_call 30; refine (refSign_N _ _ _ (by omega) (by omega)).mono ?_; rintro e w' ⟨rfl, rfl⟩))
    go_ret
    exact ⟨rfl, rfl⟩
  case inr.inr.inr.inl =>
    subst h
    clear hmd
    by_cases hb : N b = 0
    · have hb' : b = 0#64 := N_inj (by rw [hb]; rfl)
      subst hb'
      clear hb
      rw [show aluW 48 a 0#64 = 0#64 by simp [aluW]]
      go_enter Tryz.func11, Tryz.ntmps11
      go_wp2_with (first | (go_at_call 28; refine (refLow_I _ _ _ (by first | decide | exact N_nonneg _) (by first | decide | exact N_lt64 _) (by decide) (by decide)).mono ?_; rintro e w' ⟨rfl, rfl⟩) | (go_at_call 29; refine (refPower_N _ _ (by omega) (by omega)).mono ?_; rintro e w' ⟨rfl, rfl⟩) | (go_at_call 30; refine (refSign_N _ _ _ (by omega) (by omega)).mono ?_; rintro e w' ⟨rfl, rfl⟩))
      go_ret
      exact ⟨rfl, rfl⟩
    · have hb0 : 0 < N b := by have := N_nonneg b; omega
      have hb1 : (N b == 0) = false := by simpa using hb
      go_enter Tryz.func11, Tryz.ntmps11
      go_wp2_with (first | (go_at_call 28; refine (refLow_I _ _ _ (by first | decide | exact N_nonneg _) (by first | decide | exact N_lt64 _) (by decide) (by decide)).mono ?_; rintro e w' ⟨rfl, rfl⟩) | (go_at_call 29; refine (refPower_N _ _ (by omega) (by omega)).mono ?_; rintro e w' ⟨rfl, rfl⟩) | (go_at_call 30; refine (refSign_N _ _ _ (by omega) (by omega)).mono ?_; rintro e w' ⟨rfl, rfl⟩))
      go_ret
      exact ⟨rfl, rfl⟩
  case inr.inr.inr.inr.inl =>
    subst h
    clear hmd
    by_cases hb : N b = 0
    · have hb' : b = 0#64 := N_inj (by rw [hb]; rfl)
      subst hb'
      clear hb
      rw [show aluW 144 a 0#64 = a by simp [aluW]]
      go_enter Tryz.func11, Tryz.ntmps11
      go_wp2_with (first | (go_at_call 28; refine (refLow_I _ _ _ (by first | decide | exact N_nonneg _) (by first | decide | exact N_lt64 _) (by decide) (by decide)).mono ?_; rintro e w' ⟨rfl, rfl⟩) | (go_at_call 29; refine (refPower_N _ _ (by omega) (by omega)).mono ?_; rintro e w' ⟨rfl, rfl⟩) | (go_at_call 30; refine (refSign_N _ _ _ (by omega) (by omega)).mono ?_; rintro e w' ⟨rfl, rfl⟩))
      go_ret
      exact ⟨rfl, rfl⟩
    · have hb0 : 0 < N b := by have := N_nonneg b; omega
      have hb1 : (N b == 0) = false := by simpa using hb
      go_enter Tryz.func11, Tryz.ntmps11
      go_wp2_with (first | (go_at_call 28; refine (refLow_I _ _ _ (by first | decide | exact N_nonneg _) (by first | decide | exact N_lt64 _) (by decide) (by decide)).mono ?_; rintro e w' ⟨rfl, rfl⟩) | (go_at_call 29; refine (refPower_N _ _ (by omega) (by omega)).mono ?_; rintro e w' ⟨rfl, rfl⟩) | (go_at_call 30; refine (refSign_N _ _ _ (by omega) (by omega)).mono ?_; rintro e w' ⟨rfl, rfl⟩))
      go_ret
      exact ⟨rfl, rfl⟩
  case inr.inr.inr.inr.inr.inl =>
    subst h
    clear hmd
    go_enter Tryz.func11, Tryz.ntmps11
    go_wp2_with (first | (go_at_call 28; refine (refLow_I _ _ _ (by first | decide | exact N_nonneg _) (by first | decide | exact N_lt64 _) (by decide) (by decide)).mono ?_; rintro e w' ⟨rfl, rfl⟩) | (go_at_call 29; refine (refPower_N _ _ (by omega) (by omega)).mono ?_; rintro e w' ⟨rfl, rfl⟩) | (go_at_call 30; refine (refSign_N _ _ _ (by omega) (by omega)).mono ?_; rintro e w' ⟨rfl, rfl⟩))
    go_ret
    exact ⟨rfl, rfl⟩
  case inr.inr.inr.inr.inr.inr.inl =>
    subst h
    clear hmd
    go_enter Tryz.func11, Tryz.ntmps11
    go_wp2_with (first | (go_at_call 28; refine (refLow_I _ _ _ (by first | decide | exact N_nonneg _) (by first | decide | exact N_lt64 _) (by decide) (by decide)).mono ?_; rintro e w' ⟨rfl, rfl⟩) | (go_at_call 29; refine (refPower_N _ _ (by omega) (by omega)).mono ?_; rintro e w' ⟨rfl, rfl⟩) | (go_at_call 30; refine (refSign_N _ _ _ (by omega) (by omega)).mono ?_; rintro e w' ⟨rfl, rfl⟩))
    go_ret
    exact ⟨rfl, rfl⟩
  case inr.inr.inr.inr.inr.inr.inr.inl =>
    subst h
    clear hmd
    go_enter Tryz.func11, Tryz.ntmps11
    go_wp2_with (first | (go_at_call 28; refine (refLow_I _ _ _ (by first | decide | exact N_nonneg _) (by first | decide | exact N_lt64 _) (by decide) (by decide)).mono ?_; rintro e w' ⟨rfl, rfl⟩) | (go_at_call 29; refine (refPower_N _ _ (by omega) (by omega)).mono ?_; rintro e w' ⟨rfl, rfl⟩) | (go_at_call 30; refine (refSign_N _ _ _ (by omega) (by omega)).mono ?_; rintro e w' ⟨rfl, rfl⟩))
    go_ret
    exact ⟨rfl, rfl⟩
  case inr.inr.inr.inr.inr.inr.inr.inr.inl =>
    subst h
    have e : aluW 96 a b = a <<< m := by rw [hmd]; rfl
    rw [e]
    clear e hmd
    go_enter Tryz.func11, Tryz.ntmps11
    go_wp2_with (first | (go_at_call 28; refine (refLow_I _ _ _ (by first | decide | exact N_nonneg _) (by first | decide | exact N_lt64 _) (by decide) (by decide)).mono ?_; rintro e w' ⟨rfl, rfl⟩) | (go_at_call 29; refine (refPower_N _ _ (by omega) (by omega)).mono ?_; rintro e w' ⟨rfl, rfl⟩) | (go_at_call 30; refine (refSign_N _ _ _ (by omega) (by omega)).mono ?_; rintro e w' ⟨rfl, rfl⟩))
    go_ret
    exact ⟨rfl, rfl⟩
  case inr.inr.inr.inr.inr.inr.inr.inr.inr.inl =>
    subst h
    have e : aluW 112 a b = a >>> m := by rw [hmd]; rfl
    rw [e]
    clear e hmd
    have hne := shl1_ne' m hml
    have hdv := div_shl1 a m hml
    go_enter Tryz.func11, Tryz.ntmps11
    go_wp2_with (first | (go_at_call 28; refine (refLow_I _ _ _ (by first | decide | exact N_nonneg _) (by first | decide | exact N_lt64 _) (by decide) (by decide)).mono ?_; rintro e w' ⟨rfl, rfl⟩) | (go_at_call 29; refine (refPower_N _ _ (by omega) (by omega)).mono ?_; rintro e w' ⟨rfl, rfl⟩) | (go_at_call 30; refine (refSign_N _ _ _ (by omega) (by omega)).mono ?_; rintro e w' ⟨rfl, rfl⟩))
    go_ret
    exact ⟨rfl, rfl⟩
  case inr.inr.inr.inr.inr.inr.inr.inr.inr.inr.inl =>
    subst h
    have e : aluW 192 a b = a.sshiftRight m := by rw [hmd]; rfl
    rw [e]
    clear e hmd
    have hne := shl1_ne' m hml
    have hdv := div_shl1 a m hml
    have hsr := wide_sar a m hml
    go_enter Tryz.func11, Tryz.ntmps11
    go_wp2_with (first | (go_at_call 28; refine (refLow_I _ _ _ (by first | decide | exact N_nonneg _) (by first | decide | exact N_lt64 _) (by decide) (by decide)).mono ?_; rintro e w' ⟨rfl, rfl⟩) | (go_at_call 29; refine (refPower_N _ _ (by omega) (by omega)).mono ?_; rintro e w' ⟨rfl, rfl⟩) | (go_at_call 30; refine (refSign_N _ _ _ (by omega) (by omega)).mono ?_; rintro e w' ⟨rfl, rfl⟩))
    go_ret
    exact ⟨rfl, rfl⟩
  case inr.inr.inr.inr.inr.inr.inr.inr.inr.inr.inr.inl =>
    subst h
    clear hmd
    go_enter Tryz.func11, Tryz.ntmps11
    go_wp2_with (first | (go_at_call 28; refine (refLow_I _ _ _ (by first | decide | exact N_nonneg _) (by first | decide | exact N_lt64 _) (by decide) (by decide)).mono ?_; rintro e w' ⟨rfl, rfl⟩) | (go_at_call 29; refine (refPower_N _ _ (by omega) (by omega)).mono ?_; rintro e w' ⟨rfl, rfl⟩) | (go_at_call 30; refine (refSign_N _ _ _ (by omega) (by omega)).mono ?_; rintro e w' ⟨rfl, rfl⟩))
    go_ret
    exact ⟨ret64 (by simp [aluW]), rfl⟩
  case inr.inr.inr.inr.inr.inr.inr.inr.inr.inr.inr.inr.inl =>
    subst h
    clear hmd
    go_enter Tryz.func11, Tryz.ntmps11
    go_wp2_with (first | (go_at_call 28; refine (refLow_I _ _ _ (by first | decide | exact N_nonneg _) (by first | decide | exact N_lt64 _) (by decide) (by decide)).mono ?_; rintro e w' ⟨rfl, rfl⟩) | (go_at_call 29; refine (refPower_N _ _ (by omega) (by omega)).mono ?_; rintro e w' ⟨rfl, rfl⟩) | (go_at_call 30; refine (refSign_N _ _ _ (by omega) (by omega)).mono ?_; rintro e w' ⟨rfl, rfl⟩))
    go_ret
    exact ⟨rfl, rfl⟩
  case inr.inr.inr.inr.inr.inr.inr.inr.inr.inr.inr.inr.inr =>
    rw [aluW_none h]
    obtain ⟨h1, h2, h3, h4, h5, h6, h7, h8, h9, h10, h11, h12, h13⟩ := noOp_beq h
    clear h hmd
    have hz : lowS 0#64 64 = 0#64 := by decide
    go_enter Tryz.func11, Tryz.ntmps11
    go_wp2_with (first | (go_at_call 28; refine (refLow_I _ _ _ (by first | decide | exact N_nonneg _) (by first | decide | exact N_lt64 _) (by decide) (by decide)).mono ?_; rintro e w' ⟨rfl, rfl⟩) | (go_at_call 29; refine (refPower_N _ _ (by omega) (by omega)).mono ?_; rintro e w' ⟨rfl, rfl⟩) | (go_at_call 30; refine (refSign_N _ _ _ (by omega) (by omega)).mono ?_; rintro e w' ⟨rfl, rfl⟩))
    go_ret
    exact ⟨rfl, rfl⟩

set_option maxRecDepth 100000 in
set_option maxHeartbeats 4000000 in
theorem refDo_32 (x : Int) (a0 b0 : BitVec 64) (w : World) :
    Calls Tryz.prog 11 #[.int .u8 x, .bool false, .int .u64 (N a0), .int .u64 (N b0)] w fun e w' => e = .returned (.int .u64 (N ((aluW x (a0.setWidth 32) (b0.setWidth 32)).setWidth 64))) ∧ w = w' := by
  have ha := low32 a0
  have hb := low32 b0
  generalize a0.setWidth 32 = a at *
  generalize b0.setWidth 32 = b at *
  have hm : (N (b.setWidth 64)).tmod 32 = ((b.toNat % 32 : Nat) : Int) := by rw [N_set64]; exact tmod32 b
  obtain ⟨m, hmd⟩ : ∃ m, m = b.toNat % 32 := ⟨_, rfl⟩
  rw [← hmd] at hm
  have hml : m < 32 := by omega
  rcases alu_cases x with h | h | h | h | h | h | h | h | h | h | h | h | h | h
  case inl =>
    subst h
    clear hmd
    go_enter Tryz.func11, Tryz.ntmps11
    go_wp2_with (first | (go_at_call 28; refine (refLow_I _ _ _ (by first | decide | exact N_nonneg _) (by first | decide | exact N_lt64 _) (by decide) (by decide)).mono ?_; rintro e w' ⟨rfl, rfl⟩) | (go_at_call 29; refine (refPower_N _ _ (by omega) (by omega)).mono ?_; rintro e w' ⟨rfl, rfl⟩) | (go_at_call 30; refine (refSign_N _ _ _ (by omega) (by omega)).mono ?_; rintro e w' ⟨rfl, rfl⟩))
    go_ret
    exact ⟨ret64 (half_of (half_add a b)), rfl⟩
  case inr.inl =>
    subst h
    clear hmd
    go_enter Tryz.func11, Tryz.ntmps11
    go_wp2_with (first | (go_at_call 28; refine (refLow_I _ _ _ (by first | decide | exact N_nonneg _) (by first | decide | exact N_lt64 _) (by decide) (by decide)).mono ?_; rintro e w' ⟨rfl, rfl⟩) | (go_at_call 29; refine (refPower_N _ _ (by omega) (by omega)).mono ?_; rintro e w' ⟨rfl, rfl⟩) | (go_at_call 30; refine (refSign_N _ _ _ (by omega) (by omega)).mono ?_; rintro e w' ⟨rfl, rfl⟩))
    go_ret
    exact ⟨ret64 (half_of (half_sub a b)), rfl⟩
  case inr.inr.inl =>
    subst h
    clear hmd
    go_enter Tryz.func11, Tryz.ntmps11
    go_wp2_with (first | (go_at_call 28; refine (refLow_I _ _ _ (by first | decide | exact N_nonneg _) (by first | decide | exact N_lt64 _) (by decide) (by decide)).mono ?_; rintro e w' ⟨rfl, rfl⟩) | (go_at_call 29; refine (refPower_N _ _ (by omega) (by omega)).mono ?_; rintro e w' ⟨rfl, rfl⟩) | (go_at_call 30; refine (refSign_N _ _ _ (by omega) (by omega)).mono ?_; rintro e w' ⟨rfl, rfl⟩))
    go_ret
    exact ⟨ret64 (half_of (half_mul a b)), rfl⟩
  case inr.inr.inr.inl =>
    subst h
    clear hmd
    by_cases hb0 : N (b.setWidth 64) = 0
    · have hb' : b = 0#32 := by rw [N_set64] at hb0; exact N_inj (by rw [hb0]; rfl)
      subst hb'
      clear hb0
      rw [show aluW 48 a 0#32 = 0#32 by simp [aluW]]
      go_enter Tryz.func11, Tryz.ntmps11
      go_wp2_with (first | (go_at_call 28; refine (refLow_I _ _ _ (by first | decide | exact N_nonneg _) (by first | decide | exact N_lt64 _) (by decide) (by decide)).mono ?_; rintro e w' ⟨rfl, rfl⟩) | (go_at_call 29; refine (refPower_N _ _ (by omega) (by omega)).mono ?_; rintro e w' ⟨rfl, rfl⟩) | (go_at_call 30; refine (refSign_N _ _ _ (by omega) (by omega)).mono ?_; rintro e w' ⟨rfl, rfl⟩))
      go_ret
      exact ⟨rfl, rfl⟩
    · have hb1 : 0 < N (b.setWidth 64) := by have := N_nonneg (b.setWidth 64); omega
      have hb2 : (N (b.setWidth 64) == 0) = false := by simpa using hb0
      go_enter Tryz.func11, Tryz.ntmps11
      go_wp2_with (first | (go_at_call 28; refine (refLow_I _ _ _ (by first | decide | exact N_nonneg _) (by first | decide | exact N_lt64 _) (by decide) (by decide)).mono ?_; rintro e w' ⟨rfl, rfl⟩) | (go_at_call 29; refine (refPower_N _ _ (by omega) (by omega)).mono ?_; rintro e w' ⟨rfl, rfl⟩) | (go_at_call 30; refine (refSign_N _ _ _ (by omega) (by omega)).mono ?_; rintro e w' ⟨rfl, rfl⟩))
      go_ret
      exact ⟨ret64 (half_of (half_div a b)), rfl⟩
  case inr.inr.inr.inr.inl =>
    subst h
    clear hmd
    by_cases hb0 : N (b.setWidth 64) = 0
    · have hb' : b = 0#32 := by rw [N_set64] at hb0; exact N_inj (by rw [hb0]; rfl)
      subst hb'
      clear hb0
      rw [show aluW 144 a 0#32 = a by simp [aluW]]
      go_enter Tryz.func11, Tryz.ntmps11
      go_wp2_with (first | (go_at_call 28; refine (refLow_I _ _ _ (by first | decide | exact N_nonneg _) (by first | decide | exact N_lt64 _) (by decide) (by decide)).mono ?_; rintro e w' ⟨rfl, rfl⟩) | (go_at_call 29; refine (refPower_N _ _ (by omega) (by omega)).mono ?_; rintro e w' ⟨rfl, rfl⟩) | (go_at_call 30; refine (refSign_N _ _ _ (by omega) (by omega)).mono ?_; rintro e w' ⟨rfl, rfl⟩))
      go_ret
      exact ⟨ret64 (half_of (half_id a)), rfl⟩
    · have hb1 : 0 < N (b.setWidth 64) := by have := N_nonneg (b.setWidth 64); omega
      have hb2 : (N (b.setWidth 64) == 0) = false := by simpa using hb0
      go_enter Tryz.func11, Tryz.ntmps11
      go_wp2_with (first | (go_at_call 28; refine (refLow_I _ _ _ (by first | decide | exact N_nonneg _) (by first | decide | exact N_lt64 _) (by decide) (by decide)).mono ?_; rintro e w' ⟨rfl, rfl⟩) | (go_at_call 29; refine (refPower_N _ _ (by omega) (by omega)).mono ?_; rintro e w' ⟨rfl, rfl⟩) | (go_at_call 30; refine (refSign_N _ _ _ (by omega) (by omega)).mono ?_; rintro e w' ⟨rfl, rfl⟩))
      go_ret
      exact ⟨ret64 (half_of (half_mod a b)), rfl⟩
  case inr.inr.inr.inr.inr.inl =>
    subst h
    clear hmd
    go_enter Tryz.func11, Tryz.ntmps11
    go_wp2_with (first | (go_at_call 28; refine (refLow_I _ _ _ (by first | decide | exact N_nonneg _) (by first | decide | exact N_lt64 _) (by decide) (by decide)).mono ?_; rintro e w' ⟨rfl, rfl⟩) | (go_at_call 29; refine (refPower_N _ _ (by omega) (by omega)).mono ?_; rintro e w' ⟨rfl, rfl⟩) | (go_at_call 30; refine (refSign_N _ _ _ (by omega) (by omega)).mono ?_; rintro e w' ⟨rfl, rfl⟩))
    go_ret
    exact ⟨ret64 (half_of (half_or a b)), rfl⟩
  case inr.inr.inr.inr.inr.inr.inl =>
    subst h
    clear hmd
    go_enter Tryz.func11, Tryz.ntmps11
    go_wp2_with (first | (go_at_call 28; refine (refLow_I _ _ _ (by first | decide | exact N_nonneg _) (by first | decide | exact N_lt64 _) (by decide) (by decide)).mono ?_; rintro e w' ⟨rfl, rfl⟩) | (go_at_call 29; refine (refPower_N _ _ (by omega) (by omega)).mono ?_; rintro e w' ⟨rfl, rfl⟩) | (go_at_call 30; refine (refSign_N _ _ _ (by omega) (by omega)).mono ?_; rintro e w' ⟨rfl, rfl⟩))
    go_ret
    exact ⟨ret64 (half_of (half_and a b)), rfl⟩
  case inr.inr.inr.inr.inr.inr.inr.inl =>
    subst h
    clear hmd
    go_enter Tryz.func11, Tryz.ntmps11
    go_wp2_with (first | (go_at_call 28; refine (refLow_I _ _ _ (by first | decide | exact N_nonneg _) (by first | decide | exact N_lt64 _) (by decide) (by decide)).mono ?_; rintro e w' ⟨rfl, rfl⟩) | (go_at_call 29; refine (refPower_N _ _ (by omega) (by omega)).mono ?_; rintro e w' ⟨rfl, rfl⟩) | (go_at_call 30; refine (refSign_N _ _ _ (by omega) (by omega)).mono ?_; rintro e w' ⟨rfl, rfl⟩))
    go_ret
    exact ⟨ret64 (half_of (half_xor a b)), rfl⟩
  case inr.inr.inr.inr.inr.inr.inr.inr.inl =>
    subst h
    have e : aluW 96 a b = a <<< m := by rw [hmd]; rfl
    rw [e]
    clear e hmd
    go_enter Tryz.func11, Tryz.ntmps11
    go_wp2_with (first | (go_at_call 28; refine (refLow_I _ _ _ (by first | decide | exact N_nonneg _) (by first | decide | exact N_lt64 _) (by decide) (by decide)).mono ?_; rintro e w' ⟨rfl, rfl⟩) | (go_at_call 29; refine (refPower_N _ _ (by omega) (by omega)).mono ?_; rintro e w' ⟨rfl, rfl⟩) | (go_at_call 30; refine (refSign_N _ _ _ (by omega) (by omega)).mono ?_; rintro e w' ⟨rfl, rfl⟩))
    go_ret
    exact ⟨ret64 (half_of (half_shl a m)), rfl⟩
  case inr.inr.inr.inr.inr.inr.inr.inr.inr.inl =>
    subst h
    have e : aluW 112 a b = a >>> m := by rw [hmd]; rfl
    rw [e]
    clear e hmd
    have hne := shl1_ne' m (by omega)
    have hdv := div_shl1 (a.setWidth 64) m (by omega)
    go_enter Tryz.func11, Tryz.ntmps11
    go_wp2_with (first | (go_at_call 28; refine (refLow_I _ _ _ (by first | decide | exact N_nonneg _) (by first | decide | exact N_lt64 _) (by decide) (by decide)).mono ?_; rintro e w' ⟨rfl, rfl⟩) | (go_at_call 29; refine (refPower_N _ _ (by omega) (by omega)).mono ?_; rintro e w' ⟨rfl, rfl⟩) | (go_at_call 30; refine (refSign_N _ _ _ (by omega) (by omega)).mono ?_; rintro e w' ⟨rfl, rfl⟩))
    go_ret
    exact ⟨ret64 (half_of (half_shr a m)), rfl⟩
  case inr.inr.inr.inr.inr.inr.inr.inr.inr.inr.inl =>
    subst h
    have e : aluW 192 a b = a.sshiftRight m := by rw [hmd]; rfl
    rw [e]
    clear e hmd
    have hne := shl1_ne' m (by omega)
    have hdv := div_shl1 (a.setWidth 64) m (by omega)
    go_enter Tryz.func11, Tryz.ntmps11
    go_wp2_with (first | (go_at_call 28; refine (refLow_I _ _ _ (by first | decide | exact N_nonneg _) (by first | decide | exact N_lt64 _) (by decide) (by decide)).mono ?_; rintro e w' ⟨rfl, rfl⟩) | (go_at_call 29; refine (refPower_N _ _ (by omega) (by omega)).mono ?_; rintro e w' ⟨rfl, rfl⟩) | (go_at_call 30; refine (refSign_N _ _ _ (by omega) (by omega)).mono ?_; rintro e w' ⟨rfl, rfl⟩))
    go_ret
    exact ⟨ret64 (half_of (half_sar a m hml)), rfl⟩
  case inr.inr.inr.inr.inr.inr.inr.inr.inr.inr.inr.inl =>
    subst h
    clear hmd
    go_enter Tryz.func11, Tryz.ntmps11
    go_wp2_with (first | (go_at_call 28; refine (refLow_I _ _ _ (by first | decide | exact N_nonneg _) (by first | decide | exact N_lt64 _) (by decide) (by decide)).mono ?_; rintro e w' ⟨rfl, rfl⟩) | (go_at_call 29; refine (refPower_N _ _ (by omega) (by omega)).mono ?_; rintro e w' ⟨rfl, rfl⟩) | (go_at_call 30; refine (refSign_N _ _ _ (by omega) (by omega)).mono ?_; rintro e w' ⟨rfl, rfl⟩))
    go_ret
    exact ⟨ret64 (half_of (half_neg a)), rfl⟩
  case inr.inr.inr.inr.inr.inr.inr.inr.inr.inr.inr.inr.inl =>
    subst h
    clear hmd
    go_enter Tryz.func11, Tryz.ntmps11
    go_wp2_with (first | (go_at_call 28; refine (refLow_I _ _ _ (by first | decide | exact N_nonneg _) (by first | decide | exact N_lt64 _) (by decide) (by decide)).mono ?_; rintro e w' ⟨rfl, rfl⟩) | (go_at_call 29; refine (refPower_N _ _ (by omega) (by omega)).mono ?_; rintro e w' ⟨rfl, rfl⟩) | (go_at_call 30; refine (refSign_N _ _ _ (by omega) (by omega)).mono ?_; rintro e w' ⟨rfl, rfl⟩))
    go_ret
    exact ⟨ret64 (half_of (half_id b)), rfl⟩
  case inr.inr.inr.inr.inr.inr.inr.inr.inr.inr.inr.inr.inr =>
    rw [aluW_none h]
    obtain ⟨h1, h2, h3, h4, h5, h6, h7, h8, h9, h10, h11, h12, h13⟩ := noOp_beq h
    clear h hmd
    have hz : lowS 0#64 32 = (0#32).setWidth 64 := by decide
    go_enter Tryz.func11, Tryz.ntmps11
    go_wp2_with (first | (go_at_call 28; refine (refLow_I _ _ _ (by first | decide | exact N_nonneg _) (by first | decide | exact N_lt64 _) (by decide) (by decide)).mono ?_; rintro e w' ⟨rfl, rfl⟩) | (go_at_call 29; refine (refPower_N _ _ (by omega) (by omega)).mono ?_; rintro e w' ⟨rfl, rfl⟩) | (go_at_call 30; refine (refSign_N _ _ _ (by omega) (by omega)).mono ?_; rintro e w' ⟨rfl, rfl⟩))
    go_ret
    exact ⟨rfl, rfl⟩

theorem refDo_any (x : Int) (wide : Bool) (a b : BitVec 64) (w : World) :
    Calls Tryz.prog 11 #[.int .u8 x, .bool wide, .int .u64 (N a), .int .u64 (N b)] w fun e w' => e = .returned (.int .u64 (N (aluS x wide a b))) ∧ w = w' := by
  cases wide
  · exact refDo_32 x a b w
  · exact refDo_64 x a b w
end Go.Proofs.YtchjneodjaakdaaGreat
end
section
namespace Go.Proofs.YtchjneodjaakdaaGreat
set_option maxRecDepth 20000
open Go.RowKit
open Spn (Sp umax umin smax smin okS tightS anyS settledS commonS minW maxW constS addR subR SHas SValid SIn)
attribute [local go_sem] u64_wrap BitVec.ofInt_add ofInt_N ofInt_Nw u64_and u64_or u64_xor wrap64_N ofInt_Z64 max_N min_N max_Z min_Z w_add w_sub

def upW (v b : BitVec 64) : BitVec 64 := umin (umin (BitVec.ofInt 64 (9223372036854775807 - N v)) b) 9223372036854775807#64
def madeS (v b0 b1 b2 b3 : BitVec 64) : Sp := ⟨BitVec.ofInt 64 (N v - N (umin v b0)), v + umin (~~~v) b1, v - downW v b2, v + upW v b3⟩
theorem upW_N (v b : BitVec 64) : N (upW v b) = min (min (N (BitVec.ofInt 64 (9223372036854775807 - N v))) (N b)) 9223372036854775807 := by unfold upW; rw [Spn.N_umin, Spn.N_umin, N_max]
end Go.Proofs.YtchjneodjaakdaaGreat
end
