/-
  Lemmas for the laws of this seat, part F: ScHook, TnMath, ScMath, ScLoop, NoNG, Sc1, Law15a.
-/
import Derived.Test.YtchjneodjaakdaaGreatPackE
import Derived.Lib.ItoaNum
import Derived.Test.YtchjneodjaakdaaGreatProg
section
namespace Go.Proofs.YtchjneodjaakdaaGreat.Ex
open Go Go.RowKit
open Go.Proofs.YtchjneodjaakdaaGreat.Spn (Sp okS tightS settledS commonS anyS constS addR subR mulR divR modR andR orR xorR lshR rshR arshR low32R)
structure TI where
  v : Int
  m : Int
structure SI where
  lo : Int
  hi : Int
  slo : Int
  shi : Int
structure NI where
  t : TI
  s : SI
abbrev B (x : Int) : BitVec 64 := BitVec.ofInt 64 x
def tB (t : TI) : BitVec 64 × BitVec 64 := (B t.v, B t.m)
def sB (s : SI) : Sp := ⟨B s.lo, B s.hi, B s.slo, B s.shi⟩
def tN (x : BitVec 64 × BitVec 64) : TI := ⟨N x.1, N x.2⟩
def sN (s : Sp) : SI := ⟨N s.lo, N s.hi, Z s.slo, Z s.shi⟩
theorem B_Z (v : BitVec 64) : B (Z v) = v := by
  apply BitVec.eq_of_toInt_eq
  unfold Z B
  rw [BitVec.ofInt_toInt]
theorem tB_tN (x : BitVec 64 × BitVec 64) : tB (tN x) = x := by
  unfold tB tN B; simp only [ofInt_N]
theorem sB_sN (s : Sp) : sB (sN s) = s := by
  have h1 := B_Z s.slo
  have h2 := B_Z s.shi
  unfold sB sN
  simp only [B, ofInt_N] at *
  rw [h1, h2]
def VT (t : TI) : Value := .agg ⟨[.int .u64 t.v, .int .u64 t.m]⟩
def VS (s : SI) : Value := .agg ⟨[.int .u64 s.lo, .int .u64 s.hi, .int .i64 s.slo, .int .i64 s.shi]⟩
def VN (n : NI) : Value := .agg ⟨[.int .u64 n.t.v, .int .u64 n.t.m, .int .u64 n.s.lo, .int .u64 n.s.hi, .int .i64 n.s.slo, .int .i64 n.s.shi]⟩
def uB (x : Int) : Bool := decide (0 ≤ x ∧ x < 18446744073709551616)
def zB (x : Int) : Bool := decide (-9223372036854775808 ≤ x ∧ x ≤ 9223372036854775807)
def tW (t : TI) : Bool := uB t.v && uB t.m
def sW (s : SI) : Bool := uB s.lo && uB s.hi && zB s.slo && zB s.shi
def nW (n : NI) : Bool := tW n.t && sW n.s
theorem uB_N (v : BitVec 64) : uB (N v) = true := decide_eq_true ⟨N_nonneg v, by simpa using N_lt v⟩
theorem zB_Z (v : BitVec 64) : zB (Z v) = true := by
  have := Spn.Z_range v
  exact decide_eq_true this
theorem tW_tN (x : BitVec 64 × BitVec 64) : tW (tN x) = true := by unfold tW tN; simp only [uB_N, Bool.and_self]
theorem sW_sN (s : Sp) : sW (sN s) = true := by unfold sW sN; simp only [uB_N, zB_Z, Bool.and_self]
theorem uB_eq {x : Int} (h : uB x = true) : ∃ v : BitVec 64, x = N v := by
  obtain ⟨h0, h1⟩ := of_decide_eq_true h
  exact ⟨B x, (N_ofInt x h0 (by simpa using h1)).symm⟩
theorem zB_eq {x : Int} (h : zB x = true) : ∃ v : BitVec 64, x = Z v := by
  obtain ⟨h0, h1⟩ := of_decide_eq_true h
  refine ⟨B x, ?_⟩
  rw [Z_ofInt]
  unfold wrap64
  omega
theorem tW_eq {t : TI} (h : tW t = true) : ∃ x, t = tN x := by
  unfold tW at h
  simp only [Bool.and_eq_true] at h
  obtain ⟨a, ha⟩ := uB_eq h.1
  obtain ⟨b, hb⟩ := uB_eq h.2
  exact ⟨(a, b), by cases t; simp only at ha hb; rw [ha, hb]; rfl⟩
theorem sW_eq {s : SI} (h : sW s = true) : ∃ x, s = sN x := by
  unfold sW at h
  simp only [Bool.and_eq_true] at h
  obtain ⟨a, ha⟩ := uB_eq h.1.1.1
  obtain ⟨b, hb⟩ := uB_eq h.1.1.2
  obtain ⟨c, hc⟩ := zB_eq h.1.2
  obtain ⟨d, hd⟩ := zB_eq h.2
  exact ⟨⟨a, b, c, d⟩, by cases s; simp only at ha hb hc hd; rw [ha, hb, hc, hd]; rfl⟩
theorem tW_eq2 {a b : Int} (h : tW ⟨a, b⟩ = true) : ∃ x y : BitVec 64, a = N x ∧ b = N y := by
  unfold tW at h
  simp only [Bool.and_eq_true] at h
  obtain ⟨x, hx⟩ := uB_eq h.1
  obtain ⟨y, hy⟩ := uB_eq h.2
  exact ⟨x, y, hx, hy⟩
theorem sW_eq4 {a b c d : Int} (h : sW ⟨a, b, c, d⟩ = true) : ∃ x y z u : BitVec 64, a = N x ∧ b = N y ∧ c = Z z ∧ d = Z u := by
  unfold sW at h
  simp only [Bool.and_eq_true] at h
  obtain ⟨x, hx⟩ := uB_eq h.1.1.1
  obtain ⟨y, hy⟩ := uB_eq h.1.1.2
  obtain ⟨z, hz⟩ := zB_eq h.1.2
  obtain ⟨u, hu⟩ := zB_eq h.2
  exact ⟨x, y, z, u, hx, hy, hz, hu⟩
theorem VT_tN (x : BitVec 64 × BitVec 64) : VT (tN x) = .agg #[.int .u64 (N x.1), .int .u64 (N x.2)] := rfl
theorem VS_sN (x : Sp) : VS (sN x) = .agg #[.int .u64 (N x.lo), .int .u64 (N x.hi), .int .i64 (Z x.slo), .int .i64 (Z x.shi)] := rfl
theorem pair1 {b : Bool} {cs : Cs} (h : ∀ p ∈ cs, p.1 = p.2) (hc : cs = [(b2i b, 1)]) : b = true := by
  subst hc
  exact b2i_inj (b := true) (h (b2i b, 1) (List.mem_singleton.2 rfl))
def tBothV (a b : BitVec 64 × BitVec 64) : BitVec 64 × BitVec 64 := if (N ((a.1 ^^^ b.1) &&& ~~~a.2 &&& ~~~b.2) == 0) = true then tOf (a.1 ||| b.1) (a.2 &&& b.2) else (0#64, 0#64)
def tBothK (a b : BitVec 64 × BitVec 64) : Bool := N ((a.1 ^^^ b.1) &&& ~~~a.2 &&& ~~~b.2) == 0
theorem tn_both2 (av am bv bm : BitVec 64) (w : World) : Calls Tryz.prog 38 #[.agg #[.int .u64 (N av), .int .u64 (N am)], .agg #[.int .u64 (N bv), .int .u64 (N bm)]] w fun e w' => e = .returned (.tuple #[.agg #[.int .u64 (N (tBothV (av, am) (bv, bm)).1), .int .u64 (N (tBothV (av, am) (bv, bm)).2)], .bool (tBothK (av, am) (bv, bm))]) ∧ Grown w w' := by
  refine (tn_both av am bv bm w).mono ?_
  rintro e w' ⟨rfl, hg⟩
  refine ⟨?_, hg⟩
  unfold tBothV tBothK
  by_cases h : (N ((av ^^^ bv) &&& ~~~am &&& ~~~bm) == 0) = true
  · simp only [h, if_true]
  · rw [if_neg h, if_neg h, Bool.not_eq_true _ |>.mp h]; rfl
def tAddI (a : TI) (b : TI) : TI := tN (tAdd (tB a).1 (tB a).2 (tB b).1 (tB b).2)
def hk_tnums_Add : Hook := fun f args _ =>
  if Nat.beq f 55 then
    match args with
    | [.agg ⟨[.int .u64 a0, .int .u64 a1]⟩, .agg ⟨[.int .u64 b0, .int .u64 b1]⟩] => some (VT (tAddI (⟨a0, a1⟩ : TI) (⟨b0, b1⟩ : TI)), [(b2i (tW (⟨a0, a1⟩ : TI) && tW (⟨b0, b1⟩ : TI)), 1)])
    | _ => none
  else none
theorem hk_tnums_Add_ok : HookOk Tryz.prog hk_tnums_Add := by
  intro f args h v cs hv hc wb k s w H
  unfold hk_tnums_Add at hv
  split at hv
  · rename_i hf
    obtain rfl := Nat.eq_of_beq_eq_true hf
    split at hv
    · rename_i a0 a1 b0 b1
      cases hv
      have hw := pair1 hc rfl
      simp only [Bool.and_eq_true] at hw
      obtain ⟨hwa, hwb⟩ := hw
      obtain ⟨av0, av1, rfl, rfl⟩ := tW_eq2 hwa
      obtain ⟨bv0, bv1, rfl, rfl⟩ := tW_eq2 hwb
      simp only [tAddI, tB, B, ofInt_N, VT_tN]
      exact (tn_add av0 av1 bv0 bv1 w).mono fun e w' h => ⟨h.1, Gr.of_grown h.2⟩
    · cases hv
  · cases hv
def tSubI (a : TI) (b : TI) : TI := tN (tSub (tB a).1 (tB a).2 (tB b).1 (tB b).2)
def hk_tnums_Sub : Hook := fun f args _ =>
  if Nat.beq f 57 then
    match args with
    | [.agg ⟨[.int .u64 a0, .int .u64 a1]⟩, .agg ⟨[.int .u64 b0, .int .u64 b1]⟩] => some (VT (tSubI (⟨a0, a1⟩ : TI) (⟨b0, b1⟩ : TI)), [(b2i (tW (⟨a0, a1⟩ : TI) && tW (⟨b0, b1⟩ : TI)), 1)])
    | _ => none
  else none
theorem hk_tnums_Sub_ok : HookOk Tryz.prog hk_tnums_Sub := by
  intro f args h v cs hv hc wb k s w H
  unfold hk_tnums_Sub at hv
  split at hv
  · rename_i hf
    obtain rfl := Nat.eq_of_beq_eq_true hf
    split at hv
    · rename_i a0 a1 b0 b1
      cases hv
      have hw := pair1 hc rfl
      simp only [Bool.and_eq_true] at hw
      obtain ⟨hwa, hwb⟩ := hw
      obtain ⟨av0, av1, rfl, rfl⟩ := tW_eq2 hwa
      obtain ⟨bv0, bv1, rfl, rfl⟩ := tW_eq2 hwb
      simp only [tSubI, tB, B, ofInt_N, VT_tN]
      exact (tn_sub av0 av1 bv0 bv1 w).mono fun e w' h => ⟨h.1, Gr.of_grown h.2⟩
    · cases hv
  · cases hv
def tMulI (a : TI) (b : TI) : TI := tN (tMul (tB a).1 (tB a).2 (tB b).1 (tB b).2)
def hk_tnums_Mul : Hook := fun f args _ =>
  if Nat.beq f 59 then
    match args with
    | [.agg ⟨[.int .u64 a0, .int .u64 a1]⟩, .agg ⟨[.int .u64 b0, .int .u64 b1]⟩] => some (VT (tMulI (⟨a0, a1⟩ : TI) (⟨b0, b1⟩ : TI)), [(b2i (tW (⟨a0, a1⟩ : TI) && tW (⟨b0, b1⟩ : TI)), 1)])
    | _ => none
  else none
theorem hk_tnums_Mul_ok : HookOk Tryz.prog hk_tnums_Mul := by
  intro f args h v cs hv hc wb k s w H
  unfold hk_tnums_Mul at hv
  split at hv
  · rename_i hf
    obtain rfl := Nat.eq_of_beq_eq_true hf
    split at hv
    · rename_i a0 a1 b0 b1
      cases hv
      have hw := pair1 hc rfl
      simp only [Bool.and_eq_true] at hw
      obtain ⟨hwa, hwb⟩ := hw
      obtain ⟨av0, av1, rfl, rfl⟩ := tW_eq2 hwa
      obtain ⟨bv0, bv1, rfl, rfl⟩ := tW_eq2 hwb
      simp only [tMulI, tB, B, ofInt_N, VT_tN]
      exact (tn_mul av0 av1 bv0 bv1 w).mono fun e w' h => ⟨h.1, Gr.of_grown h.2⟩
    · cases hv
  · cases hv
def tAndI (a : TI) (b : TI) : TI := tN (tAnd (tB a).1 (tB a).2 (tB b).1 (tB b).2)
def hk_tnums_And : Hook := fun f args _ =>
  if Nat.beq f 63 then
    match args with
    | [.agg ⟨[.int .u64 a0, .int .u64 a1]⟩, .agg ⟨[.int .u64 b0, .int .u64 b1]⟩] => some (VT (tAndI (⟨a0, a1⟩ : TI) (⟨b0, b1⟩ : TI)), [(b2i (tW (⟨a0, a1⟩ : TI) && tW (⟨b0, b1⟩ : TI)), 1)])
    | _ => none
  else none
theorem hk_tnums_And_ok : HookOk Tryz.prog hk_tnums_And := by
  intro f args h v cs hv hc wb k s w H
  unfold hk_tnums_And at hv
  split at hv
  · rename_i hf
    obtain rfl := Nat.eq_of_beq_eq_true hf
    split at hv
    · rename_i a0 a1 b0 b1
      cases hv
      have hw := pair1 hc rfl
      simp only [Bool.and_eq_true] at hw
      obtain ⟨hwa, hwb⟩ := hw
      obtain ⟨av0, av1, rfl, rfl⟩ := tW_eq2 hwa
      obtain ⟨bv0, bv1, rfl, rfl⟩ := tW_eq2 hwb
      simp only [tAndI, tB, B, ofInt_N, VT_tN]
      exact (tn_and av0 av1 bv0 bv1 w).mono fun e w' h => ⟨h.1, Gr.of_grown h.2⟩
    · cases hv
  · cases hv
def tOrI (a : TI) (b : TI) : TI := tN (tOr (tB a).1 (tB a).2 (tB b).1 (tB b).2)
def hk_tnums_Or : Hook := fun f args _ =>
  if Nat.beq f 61 then
    match args with
    | [.agg ⟨[.int .u64 a0, .int .u64 a1]⟩, .agg ⟨[.int .u64 b0, .int .u64 b1]⟩] => some (VT (tOrI (⟨a0, a1⟩ : TI) (⟨b0, b1⟩ : TI)), [(b2i (tW (⟨a0, a1⟩ : TI) && tW (⟨b0, b1⟩ : TI)), 1)])
    | _ => none
  else none
theorem hk_tnums_Or_ok : HookOk Tryz.prog hk_tnums_Or := by
  intro f args h v cs hv hc wb k s w H
  unfold hk_tnums_Or at hv
  split at hv
  · rename_i hf
    obtain rfl := Nat.eq_of_beq_eq_true hf
    split at hv
    · rename_i a0 a1 b0 b1
      cases hv
      have hw := pair1 hc rfl
      simp only [Bool.and_eq_true] at hw
      obtain ⟨hwa, hwb⟩ := hw
      obtain ⟨av0, av1, rfl, rfl⟩ := tW_eq2 hwa
      obtain ⟨bv0, bv1, rfl, rfl⟩ := tW_eq2 hwb
      simp only [tOrI, tB, B, ofInt_N, VT_tN]
      exact (tn_or av0 av1 bv0 bv1 w).mono fun e w' h => ⟨h.1, Gr.of_grown h.2⟩
    · cases hv
  · cases hv
def tXorI (a : TI) (b : TI) : TI := tN (tXor (tB a).1 (tB a).2 (tB b).1 (tB b).2)
def hk_tnums_Xor : Hook := fun f args _ =>
  if Nat.beq f 65 then
    match args with
    | [.agg ⟨[.int .u64 a0, .int .u64 a1]⟩, .agg ⟨[.int .u64 b0, .int .u64 b1]⟩] => some (VT (tXorI (⟨a0, a1⟩ : TI) (⟨b0, b1⟩ : TI)), [(b2i (tW (⟨a0, a1⟩ : TI) && tW (⟨b0, b1⟩ : TI)), 1)])
    | _ => none
  else none
theorem hk_tnums_Xor_ok : HookOk Tryz.prog hk_tnums_Xor := by
  intro f args h v cs hv hc wb k s w H
  unfold hk_tnums_Xor at hv
  split at hv
  · rename_i hf
    obtain rfl := Nat.eq_of_beq_eq_true hf
    split at hv
    · rename_i a0 a1 b0 b1
      cases hv
      have hw := pair1 hc rfl
      simp only [Bool.and_eq_true] at hw
      obtain ⟨hwa, hwb⟩ := hw
      obtain ⟨av0, av1, rfl, rfl⟩ := tW_eq2 hwa
      obtain ⟨bv0, bv1, rfl, rfl⟩ := tW_eq2 hwb
      simp only [tXorI, tB, B, ofInt_N, VT_tN]
      exact (tn_xor av0 av1 bv0 bv1 w).mono fun e w' h => ⟨h.1, Gr.of_grown h.2⟩
    · cases hv
  · cases hv
def tEitherI (a : TI) (b : TI) : TI := tN (tEither (tB a).1 (tB a).2 (tB b).1 (tB b).2)
def hk_tnums_Either : Hook := fun f args _ =>
  if Nat.beq f 91 then
    match args with
    | [.agg ⟨[.int .u64 a0, .int .u64 a1]⟩, .agg ⟨[.int .u64 b0, .int .u64 b1]⟩] => some (VT (tEitherI (⟨a0, a1⟩ : TI) (⟨b0, b1⟩ : TI)), [(b2i (tW (⟨a0, a1⟩ : TI) && tW (⟨b0, b1⟩ : TI)), 1)])
    | _ => none
  else none
theorem hk_tnums_Either_ok : HookOk Tryz.prog hk_tnums_Either := by
  intro f args h v cs hv hc wb k s w H
  unfold hk_tnums_Either at hv
  split at hv
  · rename_i hf
    obtain rfl := Nat.eq_of_beq_eq_true hf
    split at hv
    · rename_i a0 a1 b0 b1
      cases hv
      have hw := pair1 hc rfl
      simp only [Bool.and_eq_true] at hw
      obtain ⟨hwa, hwb⟩ := hw
      obtain ⟨av0, av1, rfl, rfl⟩ := tW_eq2 hwa
      obtain ⟨bv0, bv1, rfl, rfl⟩ := tW_eq2 hwb
      simp only [tEitherI, tB, B, ofInt_N, VT_tN]
      exact (tn_either av0 av1 bv0 bv1 w).mono fun e w' h => ⟨h.1, Gr.of_grown h.2⟩
    · cases hv
  · cases hv
def sAddI (a : SI) (b : SI) : SI := sN (addR (settledS (sB a)) (settledS (sB b)))
def hk_spans_Add : Hook := fun f args _ =>
  if Nat.beq f 56 then
    match args with
    | [.agg ⟨[.int .u64 a0, .int .u64 a1, .int .i64 a2, .int .i64 a3]⟩, .agg ⟨[.int .u64 b0, .int .u64 b1, .int .i64 b2, .int .i64 b3]⟩] => some (VS (sAddI (⟨a0, a1, a2, a3⟩ : SI) (⟨b0, b1, b2, b3⟩ : SI)), [(b2i (sW (⟨a0, a1, a2, a3⟩ : SI) && sW (⟨b0, b1, b2, b3⟩ : SI)), 1)])
    | _ => none
  else none
theorem hk_spans_Add_ok : HookOk Tryz.prog hk_spans_Add := by
  intro f args h v cs hv hc wb k s w H
  unfold hk_spans_Add at hv
  split at hv
  · rename_i hf
    obtain rfl := Nat.eq_of_beq_eq_true hf
    split at hv
    · rename_i a0 a1 a2 a3 b0 b1 b2 b3
      cases hv
      have hw := pair1 hc rfl
      simp only [Bool.and_eq_true] at hw
      obtain ⟨hwa, hwb⟩ := hw
      obtain ⟨av0, av1, av2, av3, rfl, rfl, rfl, rfl⟩ := sW_eq4 hwa
      obtain ⟨bv0, bv1, bv2, bv3, rfl, rfl, rfl, rfl⟩ := sW_eq4 hwb
      simp only [sAddI, sB, B, ofInt_N, ofInt_Z64, VS_sN]
      exact (sp_add av0 av1 av2 av3 bv0 bv1 bv2 bv3 w).mono fun e w' h => ⟨h.1, Gr.of_grown h.2⟩
    · cases hv
  · cases hv
def sSubI (a : SI) (b : SI) : SI := sN (subR (settledS (sB a)) (settledS (sB b)))
def hk_spans_Sub : Hook := fun f args _ =>
  if Nat.beq f 58 then
    match args with
    | [.agg ⟨[.int .u64 a0, .int .u64 a1, .int .i64 a2, .int .i64 a3]⟩, .agg ⟨[.int .u64 b0, .int .u64 b1, .int .i64 b2, .int .i64 b3]⟩] => some (VS (sSubI (⟨a0, a1, a2, a3⟩ : SI) (⟨b0, b1, b2, b3⟩ : SI)), [(b2i (sW (⟨a0, a1, a2, a3⟩ : SI) && sW (⟨b0, b1, b2, b3⟩ : SI)), 1)])
    | _ => none
  else none
theorem hk_spans_Sub_ok : HookOk Tryz.prog hk_spans_Sub := by
  intro f args h v cs hv hc wb k s w H
  unfold hk_spans_Sub at hv
  split at hv
  · rename_i hf
    obtain rfl := Nat.eq_of_beq_eq_true hf
    split at hv
    · rename_i a0 a1 a2 a3 b0 b1 b2 b3
      cases hv
      have hw := pair1 hc rfl
      simp only [Bool.and_eq_true] at hw
      obtain ⟨hwa, hwb⟩ := hw
      obtain ⟨av0, av1, av2, av3, rfl, rfl, rfl, rfl⟩ := sW_eq4 hwa
      obtain ⟨bv0, bv1, bv2, bv3, rfl, rfl, rfl, rfl⟩ := sW_eq4 hwb
      simp only [sSubI, sB, B, ofInt_N, ofInt_Z64, VS_sN]
      exact (sp_sub av0 av1 av2 av3 bv0 bv1 bv2 bv3 w).mono fun e w' h => ⟨h.1, Gr.of_grown h.2⟩
    · cases hv
  · cases hv
def sMulI (a : SI) (b : SI) : SI := sN (mulR (settledS (sB a)) (settledS (sB b)))
def hk_spans_Mul : Hook := fun f args _ =>
  if Nat.beq f 60 then
    match args with
    | [.agg ⟨[.int .u64 a0, .int .u64 a1, .int .i64 a2, .int .i64 a3]⟩, .agg ⟨[.int .u64 b0, .int .u64 b1, .int .i64 b2, .int .i64 b3]⟩] => some (VS (sMulI (⟨a0, a1, a2, a3⟩ : SI) (⟨b0, b1, b2, b3⟩ : SI)), [(b2i (sW (⟨a0, a1, a2, a3⟩ : SI) && sW (⟨b0, b1, b2, b3⟩ : SI)), 1)])
    | _ => none
  else none
theorem hk_spans_Mul_ok : HookOk Tryz.prog hk_spans_Mul := by
  intro f args h v cs hv hc wb k s w H
  unfold hk_spans_Mul at hv
  split at hv
  · rename_i hf
    obtain rfl := Nat.eq_of_beq_eq_true hf
    split at hv
    · rename_i a0 a1 a2 a3 b0 b1 b2 b3
      cases hv
      have hw := pair1 hc rfl
      simp only [Bool.and_eq_true] at hw
      obtain ⟨hwa, hwb⟩ := hw
      obtain ⟨av0, av1, av2, av3, rfl, rfl, rfl, rfl⟩ := sW_eq4 hwa
      obtain ⟨bv0, bv1, bv2, bv3, rfl, rfl, rfl, rfl⟩ := sW_eq4 hwb
      simp only [sMulI, sB, B, ofInt_N, ofInt_Z64, VS_sN]
      exact (sp_mul av0 av1 av2 av3 bv0 bv1 bv2 bv3 w).mono fun e w' h => ⟨h.1, Gr.of_grown h.2⟩
    · cases hv
  · cases hv
def sDivI (a : SI) (b : SI) : SI := sN (divR (settledS (sB a)) (settledS (sB b)))
def hk_spans_Div : Hook := fun f args _ =>
  if Nat.beq f 67 then
    match args with
    | [.agg ⟨[.int .u64 a0, .int .u64 a1, .int .i64 a2, .int .i64 a3]⟩, .agg ⟨[.int .u64 b0, .int .u64 b1, .int .i64 b2, .int .i64 b3]⟩] => some (VS (sDivI (⟨a0, a1, a2, a3⟩ : SI) (⟨b0, b1, b2, b3⟩ : SI)), [(b2i (sW (⟨a0, a1, a2, a3⟩ : SI) && sW (⟨b0, b1, b2, b3⟩ : SI)), 1)])
    | _ => none
  else none
theorem hk_spans_Div_ok : HookOk Tryz.prog hk_spans_Div := by
  intro f args h v cs hv hc wb k s w H
  unfold hk_spans_Div at hv
  split at hv
  · rename_i hf
    obtain rfl := Nat.eq_of_beq_eq_true hf
    split at hv
    · rename_i a0 a1 a2 a3 b0 b1 b2 b3
      cases hv
      have hw := pair1 hc rfl
      simp only [Bool.and_eq_true] at hw
      obtain ⟨hwa, hwb⟩ := hw
      obtain ⟨av0, av1, av2, av3, rfl, rfl, rfl, rfl⟩ := sW_eq4 hwa
      obtain ⟨bv0, bv1, bv2, bv3, rfl, rfl, rfl, rfl⟩ := sW_eq4 hwb
      simp only [sDivI, sB, B, ofInt_N, ofInt_Z64, VS_sN]
      exact (sp_div av0 av1 av2 av3 bv0 bv1 bv2 bv3 w).mono fun e w' h => ⟨h.1, Gr.of_grown h.2⟩
    · cases hv
  · cases hv
def sModI (a : SI) (b : SI) : SI := sN (modR (settledS (sB a)) (settledS (sB b)))
def hk_spans_Mod : Hook := fun f args _ =>
  if Nat.beq f 68 then
    match args with
    | [.agg ⟨[.int .u64 a0, .int .u64 a1, .int .i64 a2, .int .i64 a3]⟩, .agg ⟨[.int .u64 b0, .int .u64 b1, .int .i64 b2, .int .i64 b3]⟩] => some (VS (sModI (⟨a0, a1, a2, a3⟩ : SI) (⟨b0, b1, b2, b3⟩ : SI)), [(b2i (sW (⟨a0, a1, a2, a3⟩ : SI) && sW (⟨b0, b1, b2, b3⟩ : SI)), 1)])
    | _ => none
  else none
theorem hk_spans_Mod_ok : HookOk Tryz.prog hk_spans_Mod := by
  intro f args h v cs hv hc wb k s w H
  unfold hk_spans_Mod at hv
  split at hv
  · rename_i hf
    obtain rfl := Nat.eq_of_beq_eq_true hf
    split at hv
    · rename_i a0 a1 a2 a3 b0 b1 b2 b3
      cases hv
      have hw := pair1 hc rfl
      simp only [Bool.and_eq_true] at hw
      obtain ⟨hwa, hwb⟩ := hw
      obtain ⟨av0, av1, av2, av3, rfl, rfl, rfl, rfl⟩ := sW_eq4 hwa
      obtain ⟨bv0, bv1, bv2, bv3, rfl, rfl, rfl, rfl⟩ := sW_eq4 hwb
      simp only [sModI, sB, B, ofInt_N, ofInt_Z64, VS_sN]
      exact (sp_mod av0 av1 av2 av3 bv0 bv1 bv2 bv3 w).mono fun e w' h => ⟨h.1, Gr.of_grown h.2⟩
    · cases hv
  · cases hv
def sAndI (a : SI) (b : SI) : SI := sN (andR (settledS (sB a)) (settledS (sB b)))
def hk_spans_And : Hook := fun f args _ =>
  if Nat.beq f 64 then
    match args with
    | [.agg ⟨[.int .u64 a0, .int .u64 a1, .int .i64 a2, .int .i64 a3]⟩, .agg ⟨[.int .u64 b0, .int .u64 b1, .int .i64 b2, .int .i64 b3]⟩] => some (VS (sAndI (⟨a0, a1, a2, a3⟩ : SI) (⟨b0, b1, b2, b3⟩ : SI)), [(b2i (sW (⟨a0, a1, a2, a3⟩ : SI) && sW (⟨b0, b1, b2, b3⟩ : SI)), 1)])
    | _ => none
  else none
theorem hk_spans_And_ok : HookOk Tryz.prog hk_spans_And := by
  intro f args h v cs hv hc wb k s w H
  unfold hk_spans_And at hv
  split at hv
  · rename_i hf
    obtain rfl := Nat.eq_of_beq_eq_true hf
    split at hv
    · rename_i a0 a1 a2 a3 b0 b1 b2 b3
      cases hv
      have hw := pair1 hc rfl
      simp only [Bool.and_eq_true] at hw
      obtain ⟨hwa, hwb⟩ := hw
      obtain ⟨av0, av1, av2, av3, rfl, rfl, rfl, rfl⟩ := sW_eq4 hwa
      obtain ⟨bv0, bv1, bv2, bv3, rfl, rfl, rfl, rfl⟩ := sW_eq4 hwb
      simp only [sAndI, sB, B, ofInt_N, ofInt_Z64, VS_sN]
      exact (sp_and av0 av1 av2 av3 bv0 bv1 bv2 bv3 w).mono fun e w' h => ⟨h.1, Gr.of_grown h.2⟩
    · cases hv
  · cases hv
def sOrI (a : SI) (b : SI) : SI := sN (orR (settledS (sB a)) (settledS (sB b)))
def hk_spans_Or : Hook := fun f args _ =>
  if Nat.beq f 62 then
    match args with
    | [.agg ⟨[.int .u64 a0, .int .u64 a1, .int .i64 a2, .int .i64 a3]⟩, .agg ⟨[.int .u64 b0, .int .u64 b1, .int .i64 b2, .int .i64 b3]⟩] => some (VS (sOrI (⟨a0, a1, a2, a3⟩ : SI) (⟨b0, b1, b2, b3⟩ : SI)), [(b2i (sW (⟨a0, a1, a2, a3⟩ : SI) && sW (⟨b0, b1, b2, b3⟩ : SI)), 1)])
    | _ => none
  else none
theorem hk_spans_Or_ok : HookOk Tryz.prog hk_spans_Or := by
  intro f args h v cs hv hc wb k s w H
  unfold hk_spans_Or at hv
  split at hv
  · rename_i hf
    obtain rfl := Nat.eq_of_beq_eq_true hf
    split at hv
    · rename_i a0 a1 a2 a3 b0 b1 b2 b3
      cases hv
      have hw := pair1 hc rfl
      simp only [Bool.and_eq_true] at hw
      obtain ⟨hwa, hwb⟩ := hw
      obtain ⟨av0, av1, av2, av3, rfl, rfl, rfl, rfl⟩ := sW_eq4 hwa
      obtain ⟨bv0, bv1, bv2, bv3, rfl, rfl, rfl, rfl⟩ := sW_eq4 hwb
      simp only [sOrI, sB, B, ofInt_N, ofInt_Z64, VS_sN]
      exact (sp_or av0 av1 av2 av3 bv0 bv1 bv2 bv3 w).mono fun e w' h => ⟨h.1, Gr.of_grown h.2⟩
    · cases hv
  · cases hv
def sXorI (a : SI) (b : SI) : SI := sN (xorR (settledS (sB a)) (settledS (sB b)))
def hk_spans_Xor : Hook := fun f args _ =>
  if Nat.beq f 66 then
    match args with
    | [.agg ⟨[.int .u64 a0, .int .u64 a1, .int .i64 a2, .int .i64 a3]⟩, .agg ⟨[.int .u64 b0, .int .u64 b1, .int .i64 b2, .int .i64 b3]⟩] => some (VS (sXorI (⟨a0, a1, a2, a3⟩ : SI) (⟨b0, b1, b2, b3⟩ : SI)), [(b2i (sW (⟨a0, a1, a2, a3⟩ : SI) && sW (⟨b0, b1, b2, b3⟩ : SI)), 1)])
    | _ => none
  else none
theorem hk_spans_Xor_ok : HookOk Tryz.prog hk_spans_Xor := by
  intro f args h v cs hv hc wb k s w H
  unfold hk_spans_Xor at hv
  split at hv
  · rename_i hf
    obtain rfl := Nat.eq_of_beq_eq_true hf
    split at hv
    · rename_i a0 a1 a2 a3 b0 b1 b2 b3
      cases hv
      have hw := pair1 hc rfl
      simp only [Bool.and_eq_true] at hw
      obtain ⟨hwa, hwb⟩ := hw
      obtain ⟨av0, av1, av2, av3, rfl, rfl, rfl, rfl⟩ := sW_eq4 hwa
      obtain ⟨bv0, bv1, bv2, bv3, rfl, rfl, rfl, rfl⟩ := sW_eq4 hwb
      simp only [sXorI, sB, B, ofInt_N, ofInt_Z64, VS_sN]
      exact (sp_xor av0 av1 av2 av3 bv0 bv1 bv2 bv3 w).mono fun e w' h => ⟨h.1, Gr.of_grown h.2⟩
    · cases hv
  · cases hv
def tLshI (a : TI) (b : Int) : TI := tN (tLsh (tB a).1 (tB a).2 (B b &&& 63#64).toNat)
def hk_tnums_Lsh : Hook := fun f args _ =>
  if Nat.beq f 121 then
    match args with
    | [.agg ⟨[.int .u64 a0, .int .u64 a1]⟩, .int .i64 b0] => some (VT (tLshI (⟨a0, a1⟩ : TI) b0), [(b2i (tW (⟨a0, a1⟩ : TI) && zB b0), 1)])
    | _ => none
  else none
theorem hk_tnums_Lsh_ok : HookOk Tryz.prog hk_tnums_Lsh := by
  intro f args h v cs hv hc wb k s w H
  unfold hk_tnums_Lsh at hv
  split at hv
  · rename_i hf
    obtain rfl := Nat.eq_of_beq_eq_true hf
    split at hv
    · rename_i a0 a1 b0
      cases hv
      have hw := pair1 hc rfl
      simp only [Bool.and_eq_true] at hw
      obtain ⟨hwa, hwb⟩ := hw
      obtain ⟨av0, av1, rfl, rfl⟩ := tW_eq2 hwa
      simp only [tLshI, tB, B, ofInt_N, VT_tN]
      obtain ⟨m, e1, e2, e3⟩ := and63 b0
      rw [← e3]
      exact (tn_lsh _ _ b0 m e1 e2 w).mono fun e w' h => ⟨h.1, Gr.of_grown h.2⟩
    · cases hv
  · cases hv
def tRshI (a : TI) (b : Int) : TI := tN (tRsh (tB a).1 (tB a).2 (B b &&& 63#64).toNat)
def hk_tnums_Rsh : Hook := fun f args _ =>
  if Nat.beq f 112 then
    match args with
    | [.agg ⟨[.int .u64 a0, .int .u64 a1]⟩, .int .i64 b0] => some (VT (tRshI (⟨a0, a1⟩ : TI) b0), [(b2i (tW (⟨a0, a1⟩ : TI) && zB b0), 1)])
    | _ => none
  else none
theorem hk_tnums_Rsh_ok : HookOk Tryz.prog hk_tnums_Rsh := by
  intro f args h v cs hv hc wb k s w H
  unfold hk_tnums_Rsh at hv
  split at hv
  · rename_i hf
    obtain rfl := Nat.eq_of_beq_eq_true hf
    split at hv
    · rename_i a0 a1 b0
      cases hv
      have hw := pair1 hc rfl
      simp only [Bool.and_eq_true] at hw
      obtain ⟨hwa, hwb⟩ := hw
      obtain ⟨av0, av1, rfl, rfl⟩ := tW_eq2 hwa
      simp only [tRshI, tB, B, ofInt_N, VT_tN]
      obtain ⟨m, e1, e2, e3⟩ := and63 b0
      rw [← e3]
      exact (tn_rsh _ _ b0 m e1 e2 w).mono fun e w' h => ⟨h.1, Gr.of_grown h.2⟩
    · cases hv
  · cases hv
def tArshI (a : TI) (b : Int) : TI := tN (tArsh (tB a).1 (tB a).2 (B b &&& 63#64).toNat)
def hk_tnums_Arsh : Hook := fun f args _ =>
  if Nat.beq f 114 then
    match args with
    | [.agg ⟨[.int .u64 a0, .int .u64 a1]⟩, .int .i64 b0] => some (VT (tArshI (⟨a0, a1⟩ : TI) b0), [(b2i (tW (⟨a0, a1⟩ : TI) && zB b0), 1)])
    | _ => none
  else none
theorem hk_tnums_Arsh_ok : HookOk Tryz.prog hk_tnums_Arsh := by
  intro f args h v cs hv hc wb k s w H
  unfold hk_tnums_Arsh at hv
  split at hv
  · rename_i hf
    obtain rfl := Nat.eq_of_beq_eq_true hf
    split at hv
    · rename_i a0 a1 b0
      cases hv
      have hw := pair1 hc rfl
      simp only [Bool.and_eq_true] at hw
      obtain ⟨hwa, hwb⟩ := hw
      obtain ⟨av0, av1, rfl, rfl⟩ := tW_eq2 hwa
      simp only [tArshI, tB, B, ofInt_N, VT_tN]
      obtain ⟨m, e1, e2, e3⟩ := and63 b0
      rw [← e3]
      exact (tn_arsh _ _ b0 m e1 e2 w).mono fun e w' h => ⟨h.1, Gr.of_grown h.2⟩
    · cases hv
  · cases hv
def sLshI (a : SI) (b : Int) : SI := sN (lshR (settledS (sB a)) (b % 64).toNat)
def hk_spans_Lsh : Hook := fun f args _ =>
  if Nat.beq f 122 then
    match args with
    | [.agg ⟨[.int .u64 a0, .int .u64 a1, .int .i64 a2, .int .i64 a3]⟩, .int .i64 b0] => some (VS (sLshI (⟨a0, a1, a2, a3⟩ : SI) b0), [(b2i (sW (⟨a0, a1, a2, a3⟩ : SI) && zB b0), 1)])
    | _ => none
  else none
theorem hk_spans_Lsh_ok : HookOk Tryz.prog hk_spans_Lsh := by
  intro f args h v cs hv hc wb k s w H
  unfold hk_spans_Lsh at hv
  split at hv
  · rename_i hf
    obtain rfl := Nat.eq_of_beq_eq_true hf
    split at hv
    · rename_i a0 a1 a2 a3 b0
      cases hv
      have hw := pair1 hc rfl
      simp only [Bool.and_eq_true] at hw
      obtain ⟨hwa, hwb⟩ := hw
      obtain ⟨av0, av1, av2, av3, rfl, rfl, rfl, rfl⟩ := sW_eq4 hwa
      simp only [sLshI, sB, B, ofInt_N, ofInt_Z64, VS_sN]
      obtain ⟨z0, z1⟩ := of_decide_eq_true hwb
      exact (sp_lsh av0 av1 av2 av3 b0 z0 z1 w).mono fun e w' h => ⟨h.1, Gr.of_grown h.2⟩
    · cases hv
  · cases hv
def sRshI (a : SI) (b : Int) : SI := sN (rshR (settledS (sB a)) (b % 64).toNat)
def hk_spans_Rsh : Hook := fun f args _ =>
  if Nat.beq f 113 then
    match args with
    | [.agg ⟨[.int .u64 a0, .int .u64 a1, .int .i64 a2, .int .i64 a3]⟩, .int .i64 b0] => some (VS (sRshI (⟨a0, a1, a2, a3⟩ : SI) b0), [(b2i (sW (⟨a0, a1, a2, a3⟩ : SI) && zB b0), 1)])
    | _ => none
  else none
theorem hk_spans_Rsh_ok : HookOk Tryz.prog hk_spans_Rsh := by
  intro f args h v cs hv hc wb k s w H
  unfold hk_spans_Rsh at hv
  split at hv
  · rename_i hf
    obtain rfl := Nat.eq_of_beq_eq_true hf
    split at hv
    · rename_i a0 a1 a2 a3 b0
      cases hv
      have hw := pair1 hc rfl
      simp only [Bool.and_eq_true] at hw
      obtain ⟨hwa, hwb⟩ := hw
      obtain ⟨av0, av1, av2, av3, rfl, rfl, rfl, rfl⟩ := sW_eq4 hwa
      simp only [sRshI, sB, B, ofInt_N, ofInt_Z64, VS_sN]
      obtain ⟨z0, z1⟩ := of_decide_eq_true hwb
      exact (sp_rsh av0 av1 av2 av3 b0 z0 z1 w).mono fun e w' h => ⟨h.1, Gr.of_grown h.2⟩
    · cases hv
  · cases hv
def sArshI (a : SI) (b : Int) : SI := sN (arshR (settledS (sB a)) (b % 64).toNat)
def hk_spans_Arsh : Hook := fun f args _ =>
  if Nat.beq f 115 then
    match args with
    | [.agg ⟨[.int .u64 a0, .int .u64 a1, .int .i64 a2, .int .i64 a3]⟩, .int .i64 b0] => some (VS (sArshI (⟨a0, a1, a2, a3⟩ : SI) b0), [(b2i (sW (⟨a0, a1, a2, a3⟩ : SI) && zB b0), 1)])
    | _ => none
  else none
theorem hk_spans_Arsh_ok : HookOk Tryz.prog hk_spans_Arsh := by
  intro f args h v cs hv hc wb k s w H
  unfold hk_spans_Arsh at hv
  split at hv
  · rename_i hf
    obtain rfl := Nat.eq_of_beq_eq_true hf
    split at hv
    · rename_i a0 a1 a2 a3 b0
      cases hv
      have hw := pair1 hc rfl
      simp only [Bool.and_eq_true] at hw
      obtain ⟨hwa, hwb⟩ := hw
      obtain ⟨av0, av1, av2, av3, rfl, rfl, rfl, rfl⟩ := sW_eq4 hwa
      simp only [sArshI, sB, B, ofInt_N, ofInt_Z64, VS_sN]
      obtain ⟨z0, z1⟩ := of_decide_eq_true hwb
      exact (sp_arsh av0 av1 av2 av3 b0 z0 z1 w).mono fun e w' h => ⟨h.1, Gr.of_grown h.2⟩
    · cases hv
  · cases hv
def tLowI (a : TI) (b : Int) : TI := tN (tLow (tB a).1 (tB a).2 b)
def hk_tnums_Low : Hook := fun f args _ =>
  if Nat.beq f 70 then
    match args with
    | [.agg ⟨[.int .u64 a0, .int .u64 a1]⟩, .int .i64 b0] => some (VT (tLowI (⟨a0, a1⟩ : TI) b0), [(b2i (tW (⟨a0, a1⟩ : TI) && zB b0), 1)])
    | _ => none
  else none
theorem hk_tnums_Low_ok : HookOk Tryz.prog hk_tnums_Low := by
  intro f args h v cs hv hc wb k s w H
  unfold hk_tnums_Low at hv
  split at hv
  · rename_i hf
    obtain rfl := Nat.eq_of_beq_eq_true hf
    split at hv
    · rename_i a0 a1 b0
      cases hv
      have hw := pair1 hc rfl
      simp only [Bool.and_eq_true] at hw
      obtain ⟨hwa, hwb⟩ := hw
      obtain ⟨av0, av1, rfl, rfl⟩ := tW_eq2 hwa
      simp only [tLowI, tB, B, ofInt_N, VT_tN]
      obtain ⟨z0, z1⟩ := of_decide_eq_true hwb
      exact (tn_low av0 av1 b0 z0 z1 w).mono fun e w' h => ⟨h.1, Gr.of_grown h.2⟩
    · cases hv
  · cases hv
def sLowI (a : SI) : SI := sN (low32R (settledS (sB a)))
def hk_spans_Low32 : Hook := fun f args _ =>
  if Nat.beq f 71 then
    match args with
    | [.agg ⟨[.int .u64 a0, .int .u64 a1, .int .i64 a2, .int .i64 a3]⟩] => some (VS (sLowI (⟨a0, a1, a2, a3⟩ : SI)), [(b2i (sW (⟨a0, a1, a2, a3⟩ : SI)), 1)])
    | _ => none
  else none
theorem hk_spans_Low32_ok : HookOk Tryz.prog hk_spans_Low32 := by
  intro f args h v cs hv hc wb k s w H
  unfold hk_spans_Low32 at hv
  split at hv
  · rename_i hf
    obtain rfl := Nat.eq_of_beq_eq_true hf
    split at hv
    · rename_i a0 a1 a2 a3
      cases hv
      have hw := pair1 hc rfl
      have hwa := hw
      obtain ⟨av0, av1, av2, av3, rfl, rfl, rfl, rfl⟩ := sW_eq4 hwa
      simp only [sLowI, sB, B, ofInt_N, ofInt_Z64, VS_sN]
      exact (sp_low32 av0 av1 av2 av3 w).mono fun e w' h => ⟨h.1, Gr.of_grown h.2⟩
    · cases hv
  · cases hv
def tRangeI (a : Int) (b : Int) : TI := tN (tRange (B a) (B b))
def hk_tnums_Range : Hook := fun f args _ =>
  if Nat.beq f 90 then
    match args with
    | [.int .u64 a0, .int .u64 b0] => some (VT (tRangeI a0 b0), [(b2i (uB a0 && uB b0), 1)])
    | _ => none
  else none
theorem hk_tnums_Range_ok : HookOk Tryz.prog hk_tnums_Range := by
  intro f args h v cs hv hc wb k s w H
  unfold hk_tnums_Range at hv
  split at hv
  · rename_i hf
    obtain rfl := Nat.eq_of_beq_eq_true hf
    split at hv
    · rename_i a0 b0
      cases hv
      have hw := pair1 hc rfl
      simp only [Bool.and_eq_true] at hw
      obtain ⟨hwa, hwb⟩ := hw
      obtain ⟨av0, rfl⟩ := uB_eq hwa
      obtain ⟨bv0, rfl⟩ := uB_eq hwb
      simp only [tRangeI, B, ofInt_N, VT_tN]
      exact (tn_range av0 bv0 w).mono fun e w' h => ⟨h.1, Gr.of_grown h.2⟩
    · cases hv
  · cases hv
def sConstI (a : Int) : SI := sN (constS (B a))
def hk_spans_Const : Hook := fun f args _ =>
  if Nat.beq f 42 then
    match args with
    | [.int .u64 a0] => some (VS (sConstI a0), [(b2i (uB a0), 1)])
    | _ => none
  else none
theorem hk_spans_Const_ok : HookOk Tryz.prog hk_spans_Const := by
  intro f args h v cs hv hc wb k s w H
  unfold hk_spans_Const at hv
  split at hv
  · rename_i hf
    obtain rfl := Nat.eq_of_beq_eq_true hf
    split at hv
    · rename_i a0
      cases hv
      have hw := pair1 hc rfl
      have hwa := hw
      obtain ⟨av0, rfl⟩ := uB_eq hwa
      simp only [sConstI, B, ofInt_N, VS_sN]
      exact (sp_const av0 w).mono fun e w' h => ⟨h.1, Gr.of_grown h.2⟩
    · cases hv
  · cases hv
def tBothI (a : TI) (b : TI) : TI := tN (tBothV (tB a) (tB b))
def tBothKI (a : TI) (b : TI) : Bool := tBothK (tB a) (tB b)
def hk_tnums_Both : Hook := fun f args _ =>
  if Nat.beq f 38 then
    match args with
    | [.agg ⟨[.int .u64 a0, .int .u64 a1]⟩, .agg ⟨[.int .u64 b0, .int .u64 b1]⟩] => some (.tuple ⟨[VT (tBothI (⟨a0, a1⟩ : TI) (⟨b0, b1⟩ : TI)), .bool (tBothKI (⟨a0, a1⟩ : TI) (⟨b0, b1⟩ : TI))]⟩, [(b2i (tW (⟨a0, a1⟩ : TI) && tW (⟨b0, b1⟩ : TI)), 1)])
    | _ => none
  else none
theorem hk_tnums_Both_ok : HookOk Tryz.prog hk_tnums_Both := by
  intro f args h v cs hv hc wb k s w H
  unfold hk_tnums_Both at hv
  split at hv
  · rename_i hf
    obtain rfl := Nat.eq_of_beq_eq_true hf
    split at hv
    · rename_i a0 a1 b0 b1
      cases hv
      have hw := pair1 hc rfl
      simp only [Bool.and_eq_true] at hw
      obtain ⟨hwa, hwb⟩ := hw
      obtain ⟨av0, av1, rfl, rfl⟩ := tW_eq2 hwa
      obtain ⟨bv0, bv1, rfl, rfl⟩ := tW_eq2 hwb
      simp only [tBothI, tBothKI, tB, B, ofInt_N, VT_tN]
      exact (tn_both2 av0 av1 bv0 bv1 w).mono fun e w' h => ⟨h.1, Gr.of_grown h.2⟩
    · cases hv
  · cases hv
def sBothI (a : SI) (b : SI) : SI := sN (tightS (commonS (sB a) (sB b)))
def sBothKI (a : SI) (b : SI) : Bool := okS (commonS (sB a) (sB b))
def hk_spans_Both : Hook := fun f args _ =>
  if Nat.beq f 118 then
    match args with
    | [.agg ⟨[.int .u64 a0, .int .u64 a1, .int .i64 a2, .int .i64 a3]⟩, .agg ⟨[.int .u64 b0, .int .u64 b1, .int .i64 b2, .int .i64 b3]⟩] => some (.tuple ⟨[VS (sBothI (⟨a0, a1, a2, a3⟩ : SI) (⟨b0, b1, b2, b3⟩ : SI)), .bool (sBothKI (⟨a0, a1, a2, a3⟩ : SI) (⟨b0, b1, b2, b3⟩ : SI))]⟩, [(b2i (sW (⟨a0, a1, a2, a3⟩ : SI) && sW (⟨b0, b1, b2, b3⟩ : SI)), 1)])
    | _ => none
  else none
theorem hk_spans_Both_ok : HookOk Tryz.prog hk_spans_Both := by
  intro f args h v cs hv hc wb k s w H
  unfold hk_spans_Both at hv
  split at hv
  · rename_i hf
    obtain rfl := Nat.eq_of_beq_eq_true hf
    split at hv
    · rename_i a0 a1 a2 a3 b0 b1 b2 b3
      cases hv
      have hw := pair1 hc rfl
      simp only [Bool.and_eq_true] at hw
      obtain ⟨hwa, hwb⟩ := hw
      obtain ⟨av0, av1, av2, av3, rfl, rfl, rfl, rfl⟩ := sW_eq4 hwa
      obtain ⟨bv0, bv1, bv2, bv3, rfl, rfl, rfl, rfl⟩ := sW_eq4 hwb
      simp only [sBothI, sBothKI, sB, B, ofInt_N, ofInt_Z64, VS_sN]
      exact (sp_both av0 av1 av2 av3 bv0 bv1 bv2 bv3 w).mono fun e w' h => ⟨h.1, Gr.of_grown h.2⟩
    · cases hv
  · cases hv
def sTightI (a : SI) : SI := sN (tightS (sB a))
def sTightKI (a : SI) : Bool := okS (sB a)
def hk_spans_Tight : Hook := fun f args _ =>
  if Nat.beq f 35 then
    match args with
    | [.agg ⟨[.int .u64 a0, .int .u64 a1, .int .i64 a2, .int .i64 a3]⟩] => some (.tuple ⟨[VS (sTightI (⟨a0, a1, a2, a3⟩ : SI)), .bool (sTightKI (⟨a0, a1, a2, a3⟩ : SI))]⟩, [(b2i (sW (⟨a0, a1, a2, a3⟩ : SI)), 1)])
    | _ => none
  else none
theorem hk_spans_Tight_ok : HookOk Tryz.prog hk_spans_Tight := by
  intro f args h v cs hv hc wb k s w H
  unfold hk_spans_Tight at hv
  split at hv
  · rename_i hf
    obtain rfl := Nat.eq_of_beq_eq_true hf
    split at hv
    · rename_i a0 a1 a2 a3
      cases hv
      have hw := pair1 hc rfl
      have hwa := hw
      obtain ⟨av0, av1, av2, av3, rfl, rfl, rfl, rfl⟩ := sW_eq4 hwa
      simp only [sTightI, sTightKI, sB, B, ofInt_N, ofInt_Z64, VS_sN]
      exact (sp_tight av0 av1 av2 av3 w).mono fun e w' h => ⟨h.1, Gr.of_grown h.2⟩
    · cases hv
  · cases hv
def tInI (a : TI) (b : TI) : Bool := (N ((tB b).2 &&& ~~~(tB a).2) == 0) && (N ((tB b).1 &&& ~~~(tB a).2) == N (tB a).1)
def hk_tnums_In : Hook := fun f args _ =>
  if Nat.beq f 44 then
    match args with
    | [.agg ⟨[.int .u64 a0, .int .u64 a1]⟩, .agg ⟨[.int .u64 b0, .int .u64 b1]⟩] => some (.bool (tInI (⟨a0, a1⟩ : TI) (⟨b0, b1⟩ : TI)), [(b2i (tW (⟨a0, a1⟩ : TI) && tW (⟨b0, b1⟩ : TI)), 1)])
    | _ => none
  else none
theorem hk_tnums_In_ok : HookOk Tryz.prog hk_tnums_In := by
  intro f args h v cs hv hc wb k s w H
  unfold hk_tnums_In at hv
  split at hv
  · rename_i hf
    obtain rfl := Nat.eq_of_beq_eq_true hf
    split at hv
    · rename_i a0 a1 b0 b1
      cases hv
      have hw := pair1 hc rfl
      simp only [Bool.and_eq_true] at hw
      obtain ⟨hwa, hwb⟩ := hw
      obtain ⟨av0, av1, rfl, rfl⟩ := tW_eq2 hwa
      obtain ⟨bv0, bv1, rfl, rfl⟩ := tW_eq2 hwb
      simp only [tInI, tB, B, ofInt_N]
      exact (tn_in av0 av1 bv0 bv1 w).mono fun e w' h => ⟨h.1, Gr.of_grown h.2⟩
    · cases hv
  · cases hv
def sInI (a : SI) (b : SI) : Bool := inB (sB a) (sB b)
def hk_spans_In : Hook := fun f args _ =>
  if Nat.beq f 45 then
    match args with
    | [.agg ⟨[.int .u64 a0, .int .u64 a1, .int .i64 a2, .int .i64 a3]⟩, .agg ⟨[.int .u64 b0, .int .u64 b1, .int .i64 b2, .int .i64 b3]⟩] => some (.bool (sInI (⟨a0, a1, a2, a3⟩ : SI) (⟨b0, b1, b2, b3⟩ : SI)), [(b2i (sW (⟨a0, a1, a2, a3⟩ : SI) && sW (⟨b0, b1, b2, b3⟩ : SI)), 1)])
    | _ => none
  else none
theorem hk_spans_In_ok : HookOk Tryz.prog hk_spans_In := by
  intro f args h v cs hv hc wb k s w H
  unfold hk_spans_In at hv
  split at hv
  · rename_i hf
    obtain rfl := Nat.eq_of_beq_eq_true hf
    split at hv
    · rename_i a0 a1 a2 a3 b0 b1 b2 b3
      cases hv
      have hw := pair1 hc rfl
      simp only [Bool.and_eq_true] at hw
      obtain ⟨hwa, hwb⟩ := hw
      obtain ⟨av0, av1, av2, av3, rfl, rfl, rfl, rfl⟩ := sW_eq4 hwa
      obtain ⟨bv0, bv1, bv2, bv3, rfl, rfl, rfl, rfl⟩ := sW_eq4 hwb
      simp only [sInI, sB, B, ofInt_N, ofInt_Z64]
      exact (sp_in av0 av1 av2 av3 bv0 bv1 bv2 bv3 w).mono fun e w' h => ⟨h.1, Gr.of_grown h.2⟩
    · cases hv
  · cases hv
def tHasI (a : TI) (b : Int) : Bool := N (B b &&& ~~~(tB a).2) == N (tB a).1
def hk_tnums_Has : Hook := fun f args _ =>
  if Nat.beq f 46 then
    match args with
    | [.agg ⟨[.int .u64 a0, .int .u64 a1]⟩, .int .u64 b0] => some (.bool (tHasI (⟨a0, a1⟩ : TI) b0), [(b2i (tW (⟨a0, a1⟩ : TI) && uB b0), 1)])
    | _ => none
  else none
theorem hk_tnums_Has_ok : HookOk Tryz.prog hk_tnums_Has := by
  intro f args h v cs hv hc wb k s w H
  unfold hk_tnums_Has at hv
  split at hv
  · rename_i hf
    obtain rfl := Nat.eq_of_beq_eq_true hf
    split at hv
    · rename_i a0 a1 b0
      cases hv
      have hw := pair1 hc rfl
      simp only [Bool.and_eq_true] at hw
      obtain ⟨hwa, hwb⟩ := hw
      obtain ⟨av0, av1, rfl, rfl⟩ := tW_eq2 hwa
      obtain ⟨bv0, rfl⟩ := uB_eq hwb
      simp only [tHasI, tB, B, ofInt_N]
      exact (tn_has av0 av1 bv0 w).mono fun e w' h => ⟨h.1, Gr.of_grown h.2⟩
    · cases hv
  · cases hv
def sHasI (a : SI) (b : Int) : Bool := hasB (sB a) (B b)
def hk_spans_Has : Hook := fun f args _ =>
  if Nat.beq f 47 then
    match args with
    | [.agg ⟨[.int .u64 a0, .int .u64 a1, .int .i64 a2, .int .i64 a3]⟩, .int .u64 b0] => some (.bool (sHasI (⟨a0, a1, a2, a3⟩ : SI) b0), [(b2i (sW (⟨a0, a1, a2, a3⟩ : SI) && uB b0), 1)])
    | _ => none
  else none
theorem hk_spans_Has_ok : HookOk Tryz.prog hk_spans_Has := by
  intro f args h v cs hv hc wb k s w H
  unfold hk_spans_Has at hv
  split at hv
  · rename_i hf
    obtain rfl := Nat.eq_of_beq_eq_true hf
    split at hv
    · rename_i a0 a1 a2 a3 b0
      cases hv
      have hw := pair1 hc rfl
      simp only [Bool.and_eq_true] at hw
      obtain ⟨hwa, hwb⟩ := hw
      obtain ⟨av0, av1, av2, av3, rfl, rfl, rfl, rfl⟩ := sW_eq4 hwa
      obtain ⟨bv0, rfl⟩ := uB_eq hwb
      simp only [sHasI, sB, B, ofInt_N, ofInt_Z64]
      exact (sp_has av0 av1 av2 av3 bv0 w).mono fun e w' h => ⟨h.1, Gr.of_grown h.2⟩
    · cases hv
  · cases hv
def aluI (x : Int) (wide : Bool) (a b : Int) : Int := N (aluS x wide (B a) (B b))
def hk_alu : Hook := fun f args _ =>
  if Nat.beq f 23 then
    match args with
    | [.int .u8 x, .bool wide, .int .u64 a, .int .u64 b] => some (.int .u64 (aluI x wide a b), [(b2i (uB a && uB b), 1)])
    | _ => none
  else none
theorem hk_alu_ok : HookOk Tryz.prog hk_alu := by
  intro f args h v cs hv hc wb k s w H
  unfold hk_alu at hv
  split at hv
  · rename_i hf
    obtain rfl := Nat.eq_of_beq_eq_true hf
    split at hv
    · rename_i x wide a b
      cases hv
      have hw := pair1 hc rfl
      simp only [Bool.and_eq_true] at hw
      obtain ⟨va, rfl⟩ := uB_eq hw.1
      obtain ⟨vb, rfl⟩ := uB_eq hw.2
      simp only [aluI, B, ofInt_N]
      exact (do_any x wide va vb w).mono fun e w' h => ⟨h.1, Gr.of_grown h.2⟩
    · cases hv
  · cases hv
def hkBase : Hook := orHook hk_tnums_Add (orHook hk_tnums_Sub (orHook hk_tnums_Mul (orHook hk_tnums_And (orHook hk_tnums_Or (orHook hk_tnums_Xor (orHook hk_tnums_Either (orHook hk_spans_Add (orHook hk_spans_Sub (orHook hk_spans_Mul (orHook hk_spans_Div (orHook hk_spans_Mod (orHook hk_spans_And (orHook hk_spans_Or (orHook hk_spans_Xor (orHook hk_tnums_Lsh (orHook hk_tnums_Rsh (orHook hk_tnums_Arsh (orHook hk_spans_Lsh (orHook hk_spans_Rsh (orHook hk_spans_Arsh (orHook hk_tnums_Low (orHook hk_spans_Low32 (orHook hk_tnums_Range (orHook hk_spans_Const (orHook hk_tnums_Both (orHook hk_spans_Both (orHook hk_spans_Tight (orHook hk_tnums_In (orHook hk_spans_In (orHook hk_tnums_Has (orHook hk_spans_Has (hk_alu))))))))))))))))))))))))))))))))
theorem hkBase_ok : HookOk Tryz.prog hkBase := orHook_ok hk_tnums_Add_ok (orHook_ok hk_tnums_Sub_ok (orHook_ok hk_tnums_Mul_ok (orHook_ok hk_tnums_And_ok (orHook_ok hk_tnums_Or_ok (orHook_ok hk_tnums_Xor_ok (orHook_ok hk_tnums_Either_ok (orHook_ok hk_spans_Add_ok (orHook_ok hk_spans_Sub_ok (orHook_ok hk_spans_Mul_ok (orHook_ok hk_spans_Div_ok (orHook_ok hk_spans_Mod_ok (orHook_ok hk_spans_And_ok (orHook_ok hk_spans_Or_ok (orHook_ok hk_spans_Xor_ok (orHook_ok hk_tnums_Lsh_ok (orHook_ok hk_tnums_Rsh_ok (orHook_ok hk_tnums_Arsh_ok (orHook_ok hk_spans_Lsh_ok (orHook_ok hk_spans_Rsh_ok (orHook_ok hk_spans_Arsh_ok (orHook_ok hk_tnums_Low_ok (orHook_ok hk_spans_Low32_ok (orHook_ok hk_tnums_Range_ok (orHook_ok hk_spans_Const_ok (orHook_ok hk_tnums_Both_ok (orHook_ok hk_spans_Both_ok (orHook_ok hk_spans_Tight_ok (orHook_ok hk_tnums_In_ok (orHook_ok hk_spans_In_ok (orHook_ok hk_tnums_Has_ok (orHook_ok hk_spans_Has_ok (hk_alu_ok))))))))))))))))))))))))))))))))
end Go.Proofs.YtchjneodjaakdaaGreat.Ex
end
section
namespace Go.Proofs.YtchjneodjaakdaaGreat
open Go.RowKit

/-- x has the bits that are known: those that are off in m are as in v. -/
def hasT (v m x : W64) : Prop := x &&& ~~~m = v
def okT (v m : W64) : Prop := v &&& m = 0#64

theorem hasT_iff (v m x : W64) : hasT v m x ↔ ∀ i, i < 64 → (x.getLsbD i && !m.getLsbD i) = v.getLsbD i := by
  unfold hasT
  constructor
  · intro h i hi
    rw [← h]; simp [hi]
  · intro h
    apply BitVec.eq_of_getLsbD_eq
    intro i hi
    rw [← h i hi]; simp [hi]
theorem okT_iff (v m : W64) : okT v m ↔ ∀ i, i < 64 → (v.getLsbD i && m.getLsbD i) = false := by
  unfold okT
  constructor
  · intro h i hi
    rw [← BitVec.getLsbD_and, h]; simp
  · intro h
    apply BitVec.eq_of_getLsbD_eq
    intro i hi
    rw [BitVec.getLsbD_and, h i hi]; simp
/-- A number that is made: one of its numbers. -/
theorem has_one (v m y : W64) : hasT (v &&& ~~~m) m ((v &&& ~~~m) ||| (m &&& y)) := by
  rw [hasT_iff]; intro i hi
  simp only [BitVec.getLsbD_and, BitVec.getLsbD_or, BitVec.getLsbD_not, hi, decide_true, Bool.true_and]
  cases v.getLsbD i <;> cases m.getLsbD i <;> simp
theorem ok_made (v m : W64) : okT (v &&& ~~~m) m := by
  rw [okT_iff]; intro i hi
  simp [hi]
theorem ok_of (v m : W64) : okT (tOf v m).1 (tOf v m).2 := ok_made v m
theorem has_of {v m x : W64} (h : ∀ i, i < 64 → m.getLsbD i = false → x.getLsbD i = v.getLsbD i) : hasT (tOf v m).1 (tOf v m).2 x := by
  rw [hasT_iff]; intro i hi
  show _ = (v &&& ~~~m).getLsbD i
  simp only [BitVec.getLsbD_and, BitVec.getLsbD_not, hi, decide_true, Bool.true_and]
  show (x.getLsbD i && !m.getLsbD i) = _
  cases hm : m.getLsbD i
  · rw [h i hi hm]
  · simp

/-- 'a' has no bit that 'b' has not. -/
def sub1 (a b : W64) : Prop := a &&& b = a
theorem sub1_bit {a b : W64} (h : sub1 a b) (i : Nat) : a.getLsbD i = true → b.getLsbD i = true := by
  intro ha
  unfold sub1 at h
  rw [← h] at ha
  simp at ha
  exact ha.2
theorem sub1_of {a b : W64} (h : ∀ i, i < 64 → a.getLsbD i = true → b.getLsbD i = true) : sub1 a b := by
  apply BitVec.eq_of_getLsbD_eq
  intro i hi
  have := h i hi
  rw [BitVec.getLsbD_and]
  cases ha : a.getLsbD i
  · simp
  · simp [this ha]
theorem sub1_mod {a b : W64} (h : sub1 a b) (i : Nat) : a.toNat % 2 ^ i ≤ b.toNat % 2 ^ i := by
  have e : a.toNat = a.toNat &&& b.toNat := by rw [← BitVec.toNat_and, h]
  rw [e, Nat.and_mod_two_pow]
  exact Nat.and_le_right
theorem carry_le {a b a' b' : W64} (ha : sub1 a a') (hb : sub1 b b') (i : Nat) (h : BitVec.carry i a b false = true) : BitVec.carry i a' b' false = true := by
  unfold BitVec.carry at *
  have h1 := sub1_mod ha i
  have h2 := sub1_mod hb i
  simp at *
  omega
theorem add_between {l1 l2 h1 h2 x y : W64} (a1 : sub1 l1 x) (a2 : sub1 x h1) (b1 : sub1 l2 y) (b2 : sub1 y h2) {i : Nat} (hi : i < 64) (e1 : l1.getLsbD i = h1.getLsbD i) (e2 : l2.getLsbD i = h2.getLsbD i)
    (e : (l1 + l2).getLsbD i = (h1 + h2).getLsbD i) : (x + y).getLsbD i = (l1 + l2).getLsbD i := by
  have ex : x.getLsbD i = l1.getLsbD i := by
    have p := sub1_bit a1 i
    have q := sub1_bit a2 i
    rw [← e1] at q
    cases hx : x.getLsbD i <;> cases hl : l1.getLsbD i <;> simp_all
  have ey : y.getLsbD i = l2.getLsbD i := by
    have p := sub1_bit b1 i
    have q := sub1_bit b2 i
    rw [← e2] at q
    cases hx : y.getLsbD i <;> cases hl : l2.getLsbD i <;> simp_all
  rw [BitVec.getLsbD_add hi, BitVec.getLsbD_add hi, ← e1, ← e2] at e
  rw [BitVec.getLsbD_add hi, BitVec.getLsbD_add hi, ex, ey]
  have c1 := carry_le a1 b1 i
  have c2 := carry_le a2 b2 i
  cases p : BitVec.carry i l1 l2 false <;> cases q : BitVec.carry i x y false <;> cases r : BitVec.carry i h1 h2 false <;> simp_all
theorem sub1_has {v m x : W64} (h : hasT v m x) : sub1 v x ∧ sub1 x (v ||| m) := by
  rw [hasT_iff] at h
  constructor <;> (apply sub1_of; intro i hi; have := h i hi)
  · intro hv; rw [hv] at this; simp at this; exact this.1
  · intro hx; rw [hx] at this; simp [← this]
theorem plus_mask {v m : W64} (h : okT v m) : v + m = v ||| m := BitVec.add_eq_or_of_and_eq_zero v m h
theorem sub1_refl (a : W64) : sub1 a a := by unfold sub1; simp
theorem sub1_or (a b : W64) : sub1 a (a ||| b) := by
  apply sub1_of; intro i hi h; simp [h]
theorem sub1_not {a b : W64} (h : sub1 a b) : sub1 (~~~b) (~~~a) := by
  apply sub1_of; intro i hi hb
  have := sub1_bit h i
  simp only [BitVec.getLsbD_not, hi, decide_true, Bool.true_and, Bool.not_eq_true'] at hb ⊢
  cases ha : a.getLsbD i
  · rfl
  · rw [this ha] at hb; cases hb
theorem has_add {av am bv bm x y : W64} (ha : okT av am) (hb : okT bv bm) (hx : hasT av am x) (hy : hasT bv bm y) : hasT (tAdd av am bv bm).1 (tAdd av am bv bm).2 (x + y) := by
  unfold tAdd
  apply has_of
  intro i hi hm
  simp only [BitVec.getLsbD_or, BitVec.getLsbD_xor, Bool.or_eq_false_iff, bne_eq_false_iff_eq] at hm
  obtain ⟨⟨h1, h2⟩, h3⟩ := hm
  have e : av + bv + am + bm = (av ||| am) + (bv ||| bm) := by
    rw [← plus_mask ha, ← plus_mask hb]
    ac_rfl
  rw [e] at h1
  exact add_between (sub1_has hx).1 (sub1_has hx).2 (sub1_has hy).1 (sub1_has hy).2 hi (by simp [h2]) (by simp [h3]) h1
theorem sub_not (x y : W64) : x - y = ~~~(~~~x + y) := by
  apply BitVec.eq_of_toNat_eq
  have hx := x.isLt
  have hy := y.isLt
  rw [BitVec.toNat_sub, BitVec.toNat_not, BitVec.toNat_add, BitVec.toNat_not]
  omega
theorem has_sub {av am bv bm x y : W64} (ha : okT av am) (hb : okT bv bm) (hx : hasT av am x) (hy : hasT bv bm y) : hasT (tSub av am bv bm).1 (tSub av am bv bm).2 (x - y) := by
  unfold tSub
  apply has_of
  intro i hi hm
  simp only [BitVec.getLsbD_or, BitVec.getLsbD_xor, Bool.or_eq_false_iff, bne_eq_false_iff_eq] at hm
  obtain ⟨⟨h1, h2⟩, h3⟩ := hm
  have e1 : av - bv + am = ~~~(~~~(av ||| am) + bv) := by
    rw [← sub_not, ← plus_mask ha]
    rw [BitVec.sub_eq_add_neg, BitVec.sub_eq_add_neg]; ac_rfl
  have e2 : av - bv - bm = ~~~(~~~av + (bv ||| bm)) := by
    rw [← sub_not, ← plus_mask hb]
    rw [BitVec.sub_eq_add_neg, BitVec.sub_eq_add_neg, BitVec.sub_eq_add_neg, BitVec.neg_add, BitVec.sub_eq_add_neg]; ac_rfl
  rw [e1, e2] at h1
  simp only [BitVec.getLsbD_not, hi, decide_true, Bool.true_and] at h1
  have h1' : (~~~(av ||| am) + bv).getLsbD i = (~~~av + (bv ||| bm)).getLsbD i := by
    cases p : (~~~(av ||| am) + bv).getLsbD i <;> cases q : (~~~av + (bv ||| bm)).getLsbD i <;> simp_all
  have hax := sub1_has hx
  have hby := sub1_has hy
  have k1 := add_between (sub1_not hax.2) (sub1_not hax.1) hby.1 hby.2 hi (by simp [h2]) (by simp [h3]) h1'
  have k2 := add_between (sub1_not (sub1_or av am)) (sub1_refl (~~~av)) (sub1_refl bv) (sub1_or bv bm) hi (by simp [h2]) (by simp [h3]) h1'
  rw [sub_not x y, sub_not av bv, BitVec.getLsbD_not, BitVec.getLsbD_not, k1, k2]
theorem has_and {av am bv bm x y : W64} (hx : hasT av am x) (hy : hasT bv bm y) : hasT (tAnd av am bv bm).1 (tAnd av am bv bm).2 (x &&& y) := by
  rw [hasT_iff] at hx hy
  unfold tAnd
  apply has_of
  intro i hi hm
  have h1 := hx i hi
  have h2 := hy i hi
  simp only [BitVec.getLsbD_and, BitVec.getLsbD_or, BitVec.getLsbD_not, hi, decide_true, Bool.true_and] at hm ⊢
  revert h1 h2 hm
  cases x.getLsbD i <;> cases y.getLsbD i <;> cases av.getLsbD i <;> cases bv.getLsbD i <;> cases am.getLsbD i <;> cases bm.getLsbD i <;> simp
theorem has_or {av am bv bm x y : W64} (hx : hasT av am x) (hy : hasT bv bm y) : hasT (tOr av am bv bm).1 (tOr av am bv bm).2 (x ||| y) := by
  rw [hasT_iff] at hx hy
  unfold tOr
  apply has_of
  intro i hi hm
  have h1 := hx i hi
  have h2 := hy i hi
  simp only [BitVec.getLsbD_and, BitVec.getLsbD_or, BitVec.getLsbD_not, hi, decide_true, Bool.true_and] at hm ⊢
  revert h1 h2 hm
  cases x.getLsbD i <;> cases y.getLsbD i <;> cases av.getLsbD i <;> cases bv.getLsbD i <;> cases am.getLsbD i <;> cases bm.getLsbD i <;> simp
theorem has_xor {av am bv bm x y : W64} (hx : hasT av am x) (hy : hasT bv bm y) : hasT (tXor av am bv bm).1 (tXor av am bv bm).2 (x ^^^ y) := by
  rw [hasT_iff] at hx hy
  unfold tXor
  apply has_of
  intro i hi hm
  have h1 := hx i hi
  have h2 := hy i hi
  simp only [BitVec.getLsbD_or, BitVec.getLsbD_xor] at hm ⊢
  revert h1 h2 hm
  cases x.getLsbD i <;> cases y.getLsbD i <;> cases av.getLsbD i <;> cases bv.getLsbD i <;> cases am.getLsbD i <;> cases bm.getLsbD i <;> simp
theorem has_eitherL {av am bv bm x : W64} (hx : hasT av am x) : hasT (tEither av am bv bm).1 (tEither av am bv bm).2 x := by
  rw [hasT_iff] at hx
  unfold tEither
  apply has_of
  intro i hi hm
  have h1 := hx i hi
  simp only [BitVec.getLsbD_or, BitVec.getLsbD_xor] at hm
  revert h1 hm
  cases x.getLsbD i <;> cases av.getLsbD i <;> cases bv.getLsbD i <;> cases am.getLsbD i <;> cases bm.getLsbD i <;> simp
theorem has_eitherR {av am bv bm x : W64} (hx : hasT bv bm x) : hasT (tEither av am bv bm).1 (tEither av am bv bm).2 x := by
  rw [hasT_iff] at hx
  unfold tEither
  apply has_of
  intro i hi hm
  have h1 := hx i hi
  simp only [BitVec.getLsbD_or, BitVec.getLsbD_xor] at hm
  revert h1 hm
  cases x.getLsbD i <;> cases av.getLsbD i <;> cases bv.getLsbD i <;> cases am.getLsbD i <;> cases bm.getLsbD i <;> simp
/-- What both have. -/
theorem both_some {av am bv bm x : W64} (hx : hasT av am x) (hy : hasT bv bm x) : (av ^^^ bv) &&& ~~~am &&& ~~~bm = 0#64 ∧ hasT (tOf (av ||| bv) (am &&& bm)).1 (tOf (av ||| bv) (am &&& bm)).2 x := by
  rw [hasT_iff] at hx hy
  constructor
  · apply BitVec.eq_of_getLsbD_eq
    intro i hi
    have h1 := hx i hi
    have h2 := hy i hi
    simp only [BitVec.getLsbD_and, BitVec.getLsbD_xor, BitVec.getLsbD_not, hi, decide_true, Bool.true_and]
    revert h1 h2
    cases x.getLsbD i <;> cases av.getLsbD i <;> cases bv.getLsbD i <;> cases am.getLsbD i <;> cases bm.getLsbD i <;> simp
  · apply has_of
    intro i hi hm
    have h1 := hx i hi
    have h2 := hy i hi
    simp only [BitVec.getLsbD_and, BitVec.getLsbD_or] at hm ⊢
    revert h1 h2 hm
    cases x.getLsbD i <;> cases av.getLsbD i <;> cases bv.getLsbD i <;> cases am.getLsbD i <;> cases bm.getLsbD i <;> simp
theorem has_lsh {v m x : W64} (h : hasT v m x) (k : Nat) : hasT (tLsh v m k).1 (tLsh v m k).2 (x <<< k) := by
  rw [hasT_iff] at h
  unfold tLsh
  apply has_of
  intro i hi hm
  simp only [BitVec.getLsbD_shiftLeft, hi, decide_true, Bool.true_and] at hm ⊢
  by_cases hk : i < k
  · simp [hk]
  · have h1 := h (i - k) (by omega)
    simp only [hk, decide_false, Bool.not_false, Bool.true_and] at hm ⊢
    rw [hm] at h1
    simpa using h1
theorem has_rsh {v m x : W64} (h : hasT v m x) (k : Nat) : hasT (tRsh v m k).1 (tRsh v m k).2 (x >>> k) := by
  rw [hasT_iff] at h
  unfold tRsh
  apply has_of
  intro i hi hm
  simp only [BitVec.getLsbD_ushiftRight] at hm ⊢
  by_cases hk : k + i < 64
  · have h1 := h (k + i) hk
    rw [hm] at h1
    simpa using h1
  · rw [BitVec.getLsbD_of_ge _ _ (by omega), BitVec.getLsbD_of_ge _ _ (by omega)]
theorem has_arsh {v m x : W64} (h : hasT v m x) (k : Nat) : hasT (tArsh v m k).1 (tArsh v m k).2 (x.sshiftRight k) := by
  rw [hasT_iff] at h
  unfold tArsh
  apply has_of
  intro i hi hm
  have hn : ¬ 64 ≤ i := by omega
  simp only [BitVec.getLsbD_sshiftRight, hn, decide_false, Bool.not_false, Bool.true_and] at hm ⊢
  by_cases hk : k + i < 64
  · have h1 := h (k + i) hk
    simp only [hk, if_true] at hm ⊢
    rw [hm] at h1
    simpa using h1
  · simp only [hk, if_false] at hm ⊢
    have h1 := h 63 (by omega)
    rw [BitVec.msb_eq_getLsbD_last] at hm ⊢
    rw [BitVec.msb_eq_getLsbD_last]
    simp only [Nat.add_one_sub_one] at hm ⊢
    rw [hm] at h1
    simpa using h1
theorem has_low {v m x : W64} (h : hasT v m x) (l : W64) : hasT (tOf (v &&& l) (m &&& l)).1 (tOf (v &&& l) (m &&& l)).2 (x &&& l) := by
  rw [hasT_iff] at h
  apply has_of
  intro i hi hm
  have h1 := h i hi
  simp only [BitVec.getLsbD_and] at hm ⊢
  revert h1 hm
  cases x.getLsbD i <;> cases v.getLsbD i <;> cases m.getLsbD i <;> cases l.getLsbD i <;> simp

/-! Products. -/
theorem bit_set (a : W64) (k : Nat) (hk : k < 64) : N (a &&& 1#64 <<< k) = 0 ↔ a.getLsbD k = false := by
  have e : N (a &&& 1#64 <<< k) = 0 ↔ a &&& 1#64 <<< k = 0#64 := by
    rw [show (0 : Int) = N (0#64) from rfl, N_eq_iff]
  rw [e]
  have tp : 1#64 <<< k = BitVec.twoPow 64 k := by rw [BitVec.twoPow_eq]
  rw [tp]
  constructor
  · intro h
    have := congrArg (fun z : W64 => z.getLsbD k) h
    simpa [BitVec.getLsbD_twoPow, hk] using this
  · intro h
    apply BitVec.eq_of_getLsbD_eq
    intro i hi
    simp only [BitVec.getLsbD_and, BitVec.getLsbD_twoPow, BitVec.getLsbD_zero]
    by_cases hki : k = i
    · subst hki; simp [h]
    · simp [hki]
/-- The lowest k bits. -/
def lowK (a : W64) (k : Nat) : W64 := BitVec.ofNat 64 (a.toNat % 2 ^ k)
theorem lowK_succ (a : W64) (k : Nat) (hk : k < 64) : lowK a (k + 1) = lowK a k + (if a.getLsbD k then 1#64 <<< k else 0#64) := by
  unfold lowK
  apply BitVec.eq_of_toNat_eq
  have hp : 2 ^ k < 2 ^ 64 := Nat.pow_lt_pow_right (by decide) hk
  have e : a.toNat % 2 ^ (k + 1) = a.toNat % 2 ^ k + 2 ^ k * (a.toNat / 2 ^ k % 2) := by
    rw [Nat.pow_succ, Nat.mod_mul]
  have hb : a.getLsbD k = decide (a.toNat / 2 ^ k % 2 = 1) := by
    rw [BitVec.getLsbD, Nat.testBit_eq_decide_div_mod_eq]
  have h1 : (1#64 <<< k).toNat = 2 ^ k := by
    rw [BitVec.toNat_shiftLeft, Nat.shiftLeft_eq, show (1#64).toNat = 1 from rfl, Nat.one_mul, Nat.mod_eq_of_lt hp]
  rw [hb, e]
  rcases Nat.mod_two_eq_zero_or_one (a.toNat / 2 ^ k) with h | h
  · rw [h]; simp
  · rw [h]; simp [h1]
theorem lowK_all (a : W64) : lowK a 64 = a := by
  unfold lowK
  rw [Nat.mod_eq_of_lt a.isLt]; simp
theorem lowK_zero (a : W64) : lowK a 0 = 0#64 := by
  unfold lowK; simp [Nat.mod_one]
theorem has_zero_of {m z : W64} (h : sub1 z m) : hasT (tOf 0#64 m).1 (tOf 0#64 m).2 z := by
  apply has_of
  intro i hi hm
  have := sub1_bit h i
  cases hz : z.getLsbD i
  · simp
  · rw [this hz] at hm; cases hm
theorem sub1_shl {a b : W64} (h : sub1 a b) (k : Nat) : sub1 (a <<< k) (b <<< k) := by
  apply sub1_of; intro i hi ha
  simp only [BitVec.getLsbD_shiftLeft, hi, decide_true, Bool.true_and, Bool.and_eq_true] at ha ⊢
  exact ⟨ha.1, sub1_bit h _ ha.2⟩
theorem ok_mulL (av am bv bm : W64) : ∀ k, okT (tMulL av am bv bm k).1 (tMulL av am bv bm k).2
  | 0 => by show okT 0#64 0#64; unfold okT; simp
  | k + 1 => by
    have ih := ok_mulL av am bv bm k
    rw [tMulL]
    split
    · split
      · exact ih
      · exact ok_of _ _
    · exact ok_of _ _
theorem ok_sub {v m z : W64} (h : okT v m) (hz : sub1 z m) : okT v z := by
  rw [okT_iff] at *
  intro i hi
  have h1 := h i hi
  have h2 := sub1_bit hz i
  cases hv : v.getLsbD i <;> cases hx : z.getLsbD i <;> simp_all
theorem sub1_plus {v m z : W64} (h : okT v m) (hz : sub1 z m) : sub1 (v + z) (v ||| m) := by
  rw [plus_mask (ok_sub h hz)]
  apply sub1_of
  intro i hi hx
  have h2 := sub1_bit hz i
  simp only [BitVec.getLsbD_or, Bool.or_eq_true] at hx ⊢
  rcases hx with hx | hx
  · exact .inl hx
  · exact .inr (h2 hx)
theorem has_parts {v m x : W64} (h : hasT v m x) (ho : okT v m) : ∃ z, sub1 z m ∧ x = v + z := by
  refine ⟨x &&& m, ?_, ?_⟩
  · unfold sub1; rw [BitVec.and_assoc, BitVec.and_self]
  · have hs : sub1 (x &&& m) m := by unfold sub1; rw [BitVec.and_assoc, BitVec.and_self]
    rw [plus_mask (ok_sub ho hs)]
    rw [hasT_iff] at h
    apply BitVec.eq_of_getLsbD_eq
    intro i hi
    have := h i hi
    simp only [BitVec.getLsbD_or, BitVec.getLsbD_and]
    revert this
    cases x.getLsbD i <;> cases v.getLsbD i <;> cases m.getLsbD i <;> simp
theorem has_mulL {av am bv bm xa yb : W64} (ha : okT av am) (hb : okT bv bm) (hxa : sub1 xa am) (hyb : sub1 yb bm) : ∀ k, k ≤ 64 →
    hasT (tMulL av am bv bm k).1 (tMulL av am bv bm k).2 (lowK av k * yb + lowK xa k * (bv + yb))
  | 0, _ => by show hasT 0#64 0#64 _; rw [lowK_zero, lowK_zero]; unfold hasT; simp
  | k + 1, hk => by
    have ih := has_mulL ha hb hxa hyb k (by omega)
    have hok := ok_mulL av am bv bm k
    have hk' : k < 64 := by omega
    rw [tMulL, lowK_succ av k hk', lowK_succ xa k hk']
    have hdis : av.getLsbD k = true → xa.getLsbD k = false := fun h => by
      have h1 := (okT_iff av am).1 ha k hk'
      have h2 := sub1_bit hxa k
      cases hx : xa.getLsbD k
      · rfl
      · rw [h, h2 hx] at h1; cases h1
    split
    · rename_i hA
      have hA' := (bit_set av k hk').1 hA
      split
      · rename_i hB
        have hB' := (bit_set am k hk').1 hB
        have hx : xa.getLsbD k = false := by
          have h2 := sub1_bit hxa k
          cases hx : xa.getLsbD k
          · rfl
          · rw [h2 hx] at hB'; cases hB'
        rw [hA', hx]
        simpa using ih
      · rw [hA']
        have e : (lowK av k + if false = true then 1#64 <<< k else 0#64) * yb + (lowK xa k + if xa.getLsbD k = true then 1#64 <<< k else 0#64) * (bv + yb) = (lowK av k * yb + lowK xa k * (bv + yb)) + (if xa.getLsbD k = true then (bv + yb) <<< k else 0#64) := by
          simp only [Bool.false_eq_true, if_false, BitVec.add_zero]
          split
          · rw [BitVec.add_mul, BitVec.mul_comm (1#64 <<< k), mul_shl1]
            generalize lowK av k * yb = p
            generalize lowK xa k * (bv + yb) = q
            ac_rfl
          · simp
        rw [e]
        refine has_add hok (ok_of _ _) ih (has_zero_of ?_)
        split
        · exact sub1_shl (sub1_plus hb hyb) k
        · unfold sub1; simp
    · rename_i hA
      have hA' : av.getLsbD k = true := by
        cases h : av.getLsbD k
        · exact absurd ((bit_set av k hk').2 h) hA
        · rfl
      rw [hA', hdis hA']
      have e : (lowK av k + if true = true then 1#64 <<< k else 0#64) * yb + (lowK xa k + if false = true then 1#64 <<< k else 0#64) * (bv + yb) = (lowK av k * yb + lowK xa k * (bv + yb)) + yb <<< k := by
        simp only [Bool.false_eq_true, if_false, BitVec.add_zero, if_true]
        rw [BitVec.add_mul, BitVec.mul_comm (1#64 <<< k), mul_shl1]
        generalize lowK av k * yb = p
        generalize lowK xa k * (bv + yb) = q
        generalize yb <<< k = r
        ac_rfl
      rw [e]
      exact has_add hok (ok_of _ _) ih (has_zero_of (sub1_shl hyb k))
theorem has_mul {av am bv bm x y : W64} (ha : okT av am) (hb : okT bv bm) (hx : hasT av am x) (hy : hasT bv bm y) : hasT (tMul av am bv bm).1 (tMul av am bv bm).2 (x * y) := by
  obtain ⟨xa, h1, rfl⟩ := has_parts hx ha
  obtain ⟨yb, h2, rfl⟩ := has_parts hy hb
  have h := has_mulL ha hb h1 h2 64 (by omega)
  rw [lowK_all, lowK_all] at h
  have e : (av + xa) * (bv + yb) = av * bv + (av * yb + xa * (bv + yb)) := by
    rw [BitVec.add_mul, BitVec.mul_add (x := av)]
    generalize av * bv = p
    generalize av * yb = q
    ac_rfl
  rw [e]
  unfold tMul
  refine has_add ?_ (ok_mulL _ _ _ _ 64) ?_ h
  · unfold okT; exact BitVec.and_zero
  · unfold hasT; rw [BitVec.not_zero]; exact BitVec.and_allOnes

/-! Range. -/
theorem bitLen_lt (x : Nat) (h : x < 2 ^ 64) : x < 2 ^ Lib.bitLen x := by
  by_cases h0 : x = 0
  · subst h0; exact Nat.two_pow_pos _
  · exact (Lib.bitLenAux_bounds 64 x h h0).2.2
theorem ones_bit (n i : Nat) (hn : n ≤ 64) (hi : i < 64) : (1#64 <<< n - 1#64).getLsbD i = decide (i < n) := by
  have e : 1#64 <<< n - 1#64 = BitVec.ofNat 64 (2 ^ n - 1) := by
    apply BitVec.eq_of_toNat_eq
    rw [BitVec.toNat_sub, BitVec.toNat_shiftLeft, Nat.shiftLeft_eq, BitVec.toNat_ofNat]
    show (2 ^ 64 - 1 + 1 * 2 ^ n % 2 ^ 64) % 2 ^ 64 = _
    have hp := Nat.two_pow_pos n
    rw [Nat.one_mul]
    by_cases h : n = 64
    · subst h; decide
    · have hp2 : 2 ^ n < 2 ^ 64 := Nat.pow_lt_pow_right (by decide) (by omega)
      rw [Nat.mod_eq_of_lt hp2, BitVec.toNat_ofNat]
      generalize 2 ^ n = q at *
      omega
  rw [e, BitVec.getLsbD_ofNat, Nat.testBit_two_pow_sub_one]
  simp [hi]
theorem has_range {lo hi v : W64} (h1 : N lo ≤ N v) (h2 : N v ≤ N hi) : hasT (tRange lo hi).1 (tRange lo hi).2 v := by
  have hl : (lo.toNat ^^^ hi.toNat) < 2 ^ 64 := Nat.xor_lt_two_pow lo.isLt hi.isLt
  have hn : Lib.bitLen (lo.toNat ^^^ hi.toNat) ≤ 64 := Lib.bitLen_le _ 64 (by omega) hl
  have hb := bitLen_lt _ hl
  unfold tRange
  rw [Nat.min_eq_left hn]
  generalize Lib.bitLen (lo.toNat ^^^ hi.toNat) = n at *
  apply has_of
  intro i hi' hm
  rw [ones_bit n i hn hi', decide_eq_false_iff_not] at hm
  have e : lo.toNat / 2 ^ n = hi.toNat / 2 ^ n := by
    have h4 : (lo.toNat ^^^ hi.toNat) >>> n = 0 := by rw [Nat.shiftRight_eq_div_pow, Nat.div_eq_of_lt hb]
    rw [Nat.shiftRight_xor_distrib] at h4
    have h5 : lo.toNat >>> n = hi.toNat >>> n := by
      have h6 := congrArg (fun z => z ^^^ (hi.toNat >>> n)) h4
      simp only [Nat.xor_assoc, Nat.xor_self, Nat.xor_zero, Nat.zero_xor] at h6
      exact h6
    rw [Nat.shiftRight_eq_div_pow, Nat.shiftRight_eq_div_pow] at h5
    exact h5
  have hv : v.toNat / 2 ^ n = lo.toNat / 2 ^ n := by
    unfold N at h1 h2
    have a1 : lo.toNat / 2 ^ n ≤ v.toNat / 2 ^ n := Nat.div_le_div_right (by omega)
    have a2 : v.toNat / 2 ^ n ≤ hi.toNat / 2 ^ n := Nat.div_le_div_right (by omega)
    omega
  have t : ∀ z : W64, z.getLsbD i = (z.toNat / 2 ^ n).testBit (i - n) := fun z => by
    rw [BitVec.getLsbD, ← Nat.shiftRight_eq_div_pow, Nat.testBit_shiftRight]
    congr 1; omega
  rw [t v, t lo, hv]
end Go.Proofs.YtchjneodjaakdaaGreat
end
section
namespace Go.Proofs.YtchjneodjaakdaaGreat.Sc
open Go.Proofs.YtchjneodjaakdaaGreat
open Go.Proofs.YtchjneodjaakdaaGreat.Spn (Sp umax umin smax smin plusS minusS emptyS okS tightS anyS settledS commonS minW maxW constS uptoS halfW SHas SValid SIn two_forms N_umax N_umin Z_smax Z_smin tight_has tight_in tight_cases plus_in minus_in empty_iff N0 N1 Z0 Nm1 Zm1 any_has const_has Z_range)

abbrev Tm := BitVec 64 × BitVec 64
structure Nm where
  t : Tm
  s : Sp
def NHas (a : Nm) (v : W64) : Prop := hasT a.t.1 a.t.2 v ∧ SHas a.s v

/-! The first and the last number of a T, from one on, up to one. -/
def bitW (k : Nat) : W64 := 1#64 <<< k
def firstL (m lo : W64) : Nat → W64 → W64
  | 0, v => v
  | k + 1, v => firstL m lo k (if m.getLsbD k then (if N lo ≤ N (v &&& ~~~bitW k) then v &&& ~~~bitW k else v) else v)
def firstOk (t : Tm) (lo : W64) : Bool := !decide (N (t.1 ||| t.2) < N lo)
def firstV (t : Tm) (lo : W64) : W64 := if N (t.1 ||| t.2) < N lo then 0#64 else firstL t.2 lo 64 (t.1 ||| t.2)
def lastL (m hi : W64) : Nat → W64 → W64
  | 0, v => v
  | k + 1, v => lastL m hi k (if m.getLsbD k then (if N (v ||| bitW k) ≤ N hi then v ||| bitW k else v) else v)
def lastOk (t : Tm) (hi : W64) : Bool := !decide (N hi < N t.1)
def lastV (t : Tm) (hi : W64) : W64 := if N hi < N t.1 then 0#64 else lastL t.2 hi 64 t.1

theorem toNat_bitW {k : Nat} (hk : k < 64) : (bitW k).toNat = 2 ^ k := by
  unfold bitW
  rw [BitVec.toNat_shiftLeft, Nat.shiftLeft_eq, show (1#64).toNat = 1 from rfl, Nat.one_mul, Nat.mod_eq_of_lt (Nat.pow_lt_pow_right (by decide) hk)]
theorem bitW_two {k : Nat} : bitW k = BitVec.twoPow 64 k := by unfold bitW; rw [BitVec.twoPow_eq]
theorem bit_mod (v : W64) (k : Nat) : v.getLsbD k = decide (v.toNat / 2 ^ k % 2 = 1) := by
  rw [BitVec.getLsbD, Nat.testBit_eq_decide_div_mod_eq]
theorem clear_set {v : W64} {k : Nat} (hk : k < 64) (h : v.getLsbD k = true) : (v &&& ~~~bitW k).toNat + 2 ^ k = v.toNat := by
  have e : v = (v &&& ~~~bitW k) + bitW k := by
    rw [BitVec.add_eq_or_of_and_eq_zero]
    · apply BitVec.eq_of_getLsbD_eq
      intro i hi
      rw [bitW_two]
      simp only [BitVec.getLsbD_or, BitVec.getLsbD_and, BitVec.getLsbD_not, BitVec.getLsbD_twoPow, hi, decide_true, Bool.true_and]
      by_cases e : k = i
      · subst e; simp [h, hk]
      · simp [e]
    · apply BitVec.eq_of_getLsbD_eq
      intro i hi
      rw [bitW_two]
      simp only [BitVec.getLsbD_and, BitVec.getLsbD_not, BitVec.getLsbD_twoPow, BitVec.getLsbD_zero, hi, decide_true, Bool.true_and]
      by_cases e : k = i <;> simp [e]
  have h2 := congrArg BitVec.toNat e
  rw [BitVec.toNat_add, toNat_bitW hk] at h2
  have h3 : (v &&& ~~~bitW k).toNat ≤ v.toNat := by rw [BitVec.toNat_and]; exact Nat.and_le_left
  have h4 := v.isLt
  have h5 : 2 ^ k < 2 ^ 64 := Nat.pow_lt_pow_right (by decide) hk
  have h6 : 2 ^ k ≤ v.toNat := by
    rw [bit_mod] at h
    have h7 := of_decide_eq_true h
    refine Nat.le_of_not_lt fun hlt => ?_
    rw [Nat.div_eq_of_lt hlt] at h7
    cases h7
  generalize (v &&& ~~~bitW k).toNat = c at *
  generalize 2 ^ k = P at *
  by_cases hc : c + P < 2 ^ 64
  · rw [Nat.mod_eq_of_lt hc] at h2; omega
  · omega
theorem set_clear {v : W64} {k : Nat} (hk : k < 64) (h : v.getLsbD k = false) : (v ||| bitW k).toNat = v.toNat + 2 ^ k := by
  have h1 : (v ||| bitW k).getLsbD k = true := by rw [bitW_two]; simp [hk]
  have h2 := clear_set hk h1
  have h3 : (v ||| bitW k) &&& ~~~bitW k = v := by
    apply BitVec.eq_of_getLsbD_eq
    intro i hi
    rw [bitW_two]
    simp only [BitVec.getLsbD_or, BitVec.getLsbD_and, BitVec.getLsbD_not, BitVec.getLsbD_twoPow, hi, decide_true, Bool.true_and]
    by_cases e : k = i
    · subst e; simp [h]
    · simp [e]
  rw [h3] at h2
  exact h2.symm
/-- A number in three parts: above a bit, the bit, and below. -/
theorem parts3 (v : Nat) (k : Nat) : v = 2 ^ k * (2 * (v / 2 ^ (k + 1)) + v / 2 ^ k % 2) + v % 2 ^ k ∧ v / 2 ^ k = 2 * (v / 2 ^ (k + 1)) + v / 2 ^ k % 2 ∧ v % 2 ^ (k + 1) = v % 2 ^ k + 2 ^ k * (v / 2 ^ k % 2) ∧ v % 2 ^ k < 2 ^ k ∧ v / 2 ^ k % 2 < 2 := by
  have e : v / 2 ^ (k + 1) = v / 2 ^ k / 2 := by rw [Nat.pow_succ, Nat.div_div_eq_div_mul]
  have h1 : v / 2 ^ k = 2 * (v / 2 ^ (k + 1)) + v / 2 ^ k % 2 := by rw [e]; omega
  refine ⟨?_, h1, by rw [Nat.pow_succ, Nat.mod_mul], Nat.mod_lt _ (Nat.two_pow_pos k), Nat.mod_lt _ (by decide)⟩
  rw [← h1]
  exact (Nat.div_add_mod v (2 ^ k)).symm
theorem mul_cases {P a b r s : Nat} (hr : r < P) (hs : s < P) (ha : a < 2) (hb : b < 2) (h : r + P * a = s + P * b) : a = b ∧ r = s := by
  have h1 : a = 0 ∨ a = 1 := by omega
  have h2 : b = 0 ∨ b = 1 := by omega
  rcases h1 with rfl | rfl <;> rcases h2 with rfl | rfl <;> simp at h ⊢ <;> omega
theorem first_step {u x v lo : Nat} {k : Nat} {mk : Bool} (c : Nat) (hlo : lo ≤ x)
    (hu : mk = true → u / 2 ^ k % 2 = 1) (hx : mk = false → x / 2 ^ k % 2 = u / 2 ^ k % 2) (hs : x % 2 ^ k ≤ u % 2 ^ k) (hc : v / 2 ^ k % 2 = 1 → c + 2 ^ k = v)
    (i1 : lo ≤ v) (i2 : v / 2 ^ (k + 1) ≤ x / 2 ^ (k + 1)) (i3 : v % 2 ^ (k + 1) = u % 2 ^ (k + 1)) :
    lo ≤ (if mk then (if lo ≤ c then c else v) else v) ∧ (if mk then (if lo ≤ c then c else v) else v) / 2 ^ k ≤ x / 2 ^ k ∧ (if mk then (if lo ≤ c then c else v) else v) % 2 ^ k = u % 2 ^ k := by
  obtain ⟨v1, v2, v3, v4, v5⟩ := parts3 v k
  obtain ⟨u1, u2, u3, u4, u5⟩ := parts3 u k
  obtain ⟨x1, x2, x3, x4, x5⟩ := parts3 x k
  rw [v3, u3] at i3
  obtain ⟨e1, e2⟩ := mul_cases v4 u4 v5 u5 i3
  cases mk with
  | false =>
    simp only [Bool.false_eq_true, if_false]
    refine ⟨i1, ?_, e2⟩
    have := hx rfl
    omega
  | true =>
    have hb := hu rfl
    have hc' := hc (by omega)
    simp only [if_true]
    have hP : 0 < 2 ^ k := Nat.two_pow_pos k
    have cdiv : c / 2 ^ k = 2 * (v / 2 ^ (k + 1)) := by
      have : c = 2 ^ k * (2 * (v / 2 ^ (k + 1))) + v % 2 ^ k := by
        have h5 : v / 2 ^ k % 2 = 1 := by omega
        rw [h5] at v1
        rw [Nat.mul_add, Nat.mul_one] at v1
        omega
      rw [this, Nat.mul_add_div hP, Nat.div_eq_of_lt v4]; omega
    have cmod : c % 2 ^ k = v % 2 ^ k := by rw [← hc']; simp
    split
    · refine ⟨by assumption, ?_, by rw [cmod]; exact e2⟩
      rw [cdiv]; omega
    · rename_i hlc
      refine ⟨i1, ?_, e2⟩
      rcases Nat.lt_or_ge (v / 2 ^ (k + 1)) (x / 2 ^ (k + 1)) with h | h
      · omega
      · have hVX : v / 2 ^ (k + 1) = x / 2 ^ (k + 1) := by omega
        by_cases hxk : x / 2 ^ k % 2 = 1
        · omega
        · exfalso
          have hx0 : x / 2 ^ k % 2 = 0 := by omega
          have h5 : v / 2 ^ k % 2 = 1 := by omega
          rw [hx0, ← hVX, Nat.add_zero] at x1
          rw [h5, Nat.mul_add, Nat.mul_one] at v1
          generalize 2 ^ k * (2 * (v / 2 ^ (k + 1))) = A at *
          omega
theorem last_step {u x v hi : Nat} {k : Nat} {mk : Bool} (c : Nat) (hhi : x ≤ hi)
    (hu : mk = true → u / 2 ^ k % 2 = 0) (hx : mk = false → x / 2 ^ k % 2 = u / 2 ^ k % 2) (hs : u % 2 ^ k ≤ x % 2 ^ k) (hc : v / 2 ^ k % 2 = 0 → c = v + 2 ^ k)
    (i1 : v ≤ hi) (i2 : x / 2 ^ (k + 1) ≤ v / 2 ^ (k + 1)) (i3 : v % 2 ^ (k + 1) = u % 2 ^ (k + 1)) :
    (if mk then (if c ≤ hi then c else v) else v) ≤ hi ∧ x / 2 ^ k ≤ (if mk then (if c ≤ hi then c else v) else v) / 2 ^ k ∧ (if mk then (if c ≤ hi then c else v) else v) % 2 ^ k = u % 2 ^ k := by
  obtain ⟨v1, v2, v3, v4, v5⟩ := parts3 v k
  obtain ⟨u1, u2, u3, u4, u5⟩ := parts3 u k
  obtain ⟨x1, x2, x3, x4, x5⟩ := parts3 x k
  rw [v3, u3] at i3
  obtain ⟨e1, e2⟩ := mul_cases v4 u4 v5 u5 i3
  cases mk with
  | false =>
    simp only [Bool.false_eq_true, if_false]
    refine ⟨i1, ?_, e2⟩
    have := hx rfl
    omega
  | true =>
    have hb := hu rfl
    have hc' := hc (by omega)
    simp only [if_true]
    have hP : 0 < 2 ^ k := Nat.two_pow_pos k
    have cdiv : c / 2 ^ k = v / 2 ^ k + 1 := by rw [hc', Nat.add_div_right _ hP]
    have cmod : c % 2 ^ k = v % 2 ^ k := by rw [hc']; simp
    split
    · refine ⟨by assumption, ?_, by rw [cmod]; exact e2⟩
      rw [cdiv]; omega
    · rename_i hlc
      refine ⟨i1, ?_, e2⟩
      rcases Nat.lt_or_ge (x / 2 ^ (k + 1)) (v / 2 ^ (k + 1)) with h | h
      · omega
      · have hVX : v / 2 ^ (k + 1) = x / 2 ^ (k + 1) := by omega
        by_cases hxk : x / 2 ^ k % 2 = 0
        · omega
        · exfalso
          have hx1 : x / 2 ^ k % 2 = 1 := by omega
          have h5 : v / 2 ^ k % 2 = 0 := by omega
          rw [hx1, ← hVX, Nat.mul_add, Nat.mul_one] at x1
          rw [h5, Nat.add_zero] at v1
          generalize 2 ^ k * (2 * (v / 2 ^ (k + 1))) = A at *
          omega
theorem toNat_first (m lo v : W64) (k : Nat) : (if m.getLsbD k then (if N lo ≤ N (v &&& ~~~bitW k) then v &&& ~~~bitW k else v) else v).toNat = if m.getLsbD k then (if lo.toNat ≤ (v &&& ~~~bitW k).toNat then (v &&& ~~~bitW k).toNat else v.toNat) else v.toNat := by
  have e : (N lo ≤ N (v &&& ~~~bitW k)) ↔ lo.toNat ≤ (v &&& ~~~bitW k).toNat := by unfold N; omega
  split
  · by_cases h : lo.toNat ≤ (v &&& ~~~bitW k).toNat
    · rw [if_pos (e.2 h), if_pos h]
    · rw [if_neg (fun q => h (e.1 q)), if_neg h]
  · rfl
theorem toNat_last (m hi v : W64) (k : Nat) : (if m.getLsbD k then (if N (v ||| bitW k) ≤ N hi then v ||| bitW k else v) else v).toNat = if m.getLsbD k then (if (v ||| bitW k).toNat ≤ hi.toNat then (v ||| bitW k).toNat else v.toNat) else v.toNat := by
  have e : (N (v ||| bitW k) ≤ N hi) ↔ (v ||| bitW k).toNat ≤ hi.toNat := by unfold N; omega
  split
  · by_cases h : (v ||| bitW k).toNat ≤ hi.toNat
    · rw [if_pos (e.2 h), if_pos h]
    · rw [if_neg (fun q => h (e.1 q)), if_neg h]
  · rfl
theorem firstL_has {av m lo x : W64} (hx : hasT av m x) (hlo : lo.toNat ≤ x.toNat) : ∀ (k : Nat) (v : W64), k ≤ 64 → lo.toNat ≤ v.toNat → v.toNat / 2 ^ k ≤ x.toNat / 2 ^ k → v.toNat % 2 ^ k = (av ||| m).toNat % 2 ^ k →
    lo.toNat ≤ (firstL m lo k v).toNat ∧ (firstL m lo k v).toNat ≤ x.toNat
  | 0, v, _, i1, i2, _ => by simpa [firstL] using And.intro i1 i2
  | k + 1, v, hk, i1, i2, i3 => by
    unfold firstL
    have hb := hasT_iff av m x |>.1 hx k (by omega)
    have S := (sub1_has hx).2
    have st := first_step (u := (av ||| m).toNat) (x := x.toNat) (v := v.toNat) (lo := lo.toNat) (k := k) (mk := m.getLsbD k) (v &&& ~~~bitW k).toNat hlo
      (fun h => by
        have : (av ||| m).getLsbD k = true := by simp [h]
        rw [bit_mod] at this; exact of_decide_eq_true this)
      (fun h => by
        have e : x.getLsbD k = (av ||| m).getLsbD k := by rw [h] at hb; simp at hb; simp [h, hb]
        rw [bit_mod, bit_mod] at e
        have e2 := decide_eq_decide.1 e
        omega)
      (sub1_mod S k)
      (fun h => clear_set (by omega) (by rw [bit_mod]; exact decide_eq_true h)) i1 i2 i3
    rw [← toNat_first] at st
    exact firstL_has hx hlo k _ (by omega) st.1 st.2.1 st.2.2
theorem lastL_has {av m hi x : W64} (hx : hasT av m x) (hhi : x.toNat ≤ hi.toNat) : ∀ (k : Nat) (v : W64), k ≤ 64 → v.toNat ≤ hi.toNat → x.toNat / 2 ^ k ≤ v.toNat / 2 ^ k → v.toNat % 2 ^ k = av.toNat % 2 ^ k →
    (lastL m hi k v).toNat ≤ hi.toNat ∧ x.toNat ≤ (lastL m hi k v).toNat
  | 0, v, _, i1, i2, _ => by simpa [lastL] using And.intro i1 i2
  | k + 1, v, hk, i1, i2, i3 => by
    unfold lastL
    have hb := hasT_iff av m x |>.1 hx k (by omega)
    have S := (sub1_has hx).1
    have st := last_step (u := av.toNat) (x := x.toNat) (v := v.toNat) (hi := hi.toNat) (k := k) (mk := m.getLsbD k) (v ||| bitW k).toNat hhi
      (fun h => by
        have : av.getLsbD k = false := by rw [h] at hb; simpa using hb.symm
        rw [bit_mod] at this
        have := of_decide_eq_false this
        omega)
      (fun h => by
        have e : x.getLsbD k = av.getLsbD k := by rw [h] at hb; simpa using hb
        rw [bit_mod, bit_mod] at e
        have e2 := decide_eq_decide.1 e
        omega)
      (sub1_mod S k)
      (fun h => set_clear (by omega) (by rw [bit_mod]; exact decide_eq_false (by omega))) i1 i2 i3
    rw [← toNat_last] at st
    exact lastL_has hx hhi k _ (by omega) st.1 st.2.1 st.2.2
theorem firstL_ge {m lo : W64} : ∀ (k : Nat) (v : W64), N lo ≤ N v → N lo ≤ N (firstL m lo k v)
  | 0, _, h => h
  | k + 1, v, h => by
    unfold firstL
    apply firstL_ge k
    split
    · split <;> assumption
    · assumption
theorem lastL_le {m hi : W64} : ∀ (k : Nat) (v : W64), N v ≤ N hi → N (lastL m hi k v) ≤ N hi
  | 0, _, h => h
  | k + 1, v, h => by
    unfold lastL
    apply lastL_le k
    split
    · split <;> assumption
    · assumption
theorem first_ge {t : Tm} {lo : W64} (h : firstOk t lo = true) : N lo ≤ N (firstV t lo) := by
  unfold firstOk at h
  simp at h
  unfold firstV
  rw [if_neg (by omega)]
  exact firstL_ge 64 _ h
theorem last_le {t : Tm} {hi : W64} (h : lastOk t hi = true) : N (lastV t hi) ≤ N hi := by
  unfold lastOk at h
  simp at h
  unfold lastV
  rw [if_neg (by omega)]
  exact lastL_le 64 _ h
theorem first_has {t : Tm} {lo x : W64} (hx : hasT t.1 t.2 x) (h : N lo ≤ N x) : firstOk t lo = true ∧ N (firstV t lo) ≤ N x := by
  have hn : lo.toNat ≤ x.toNat := by unfold N at h; omega
  have hle : x.toNat ≤ (t.1 ||| t.2).toNat := by
    have := sub1_mod (sub1_has hx).2 64
    rwa [Nat.mod_eq_of_lt x.isLt, Nat.mod_eq_of_lt (t.1 ||| t.2).isLt] at this
  have hno : ¬ N (t.1 ||| t.2) < N lo := by unfold N; omega
  unfold firstOk firstV
  rw [if_neg hno]
  refine ⟨by simpa using hno, ?_⟩
  have := (firstL_has hx hn 64 (t.1 ||| t.2) (by omega) (by omega) (by rw [Nat.div_eq_of_lt x.isLt, Nat.div_eq_of_lt (t.1 ||| t.2).isLt]; omega) rfl).2
  unfold N; omega
theorem last_has {t : Tm} {hi x : W64} (hx : hasT t.1 t.2 x) (h : N x ≤ N hi) : lastOk t hi = true ∧ N x ≤ N (lastV t hi) := by
  have hn : x.toNat ≤ hi.toNat := by unfold N at h; omega
  have hle : t.1.toNat ≤ x.toNat := by
    have := sub1_mod (sub1_has hx).1 64
    rwa [Nat.mod_eq_of_lt x.isLt, Nat.mod_eq_of_lt t.1.isLt] at this
  have hno : ¬ N hi < N t.1 := by unfold N; omega
  unfold lastOk lastV
  rw [if_neg hno]
  refine ⟨by simpa using hno, ?_⟩
  have := (lastL_has hx hn 64 t.1 (by omega) (by omega) (by rw [Nat.div_eq_of_lt x.isLt, Nat.div_eq_of_lt t.1.isLt]; omega) rfl).2
  unfold N; omega
end Go.Proofs.YtchjneodjaakdaaGreat.Sc
end
section
namespace Go.Proofs.YtchjneodjaakdaaGreat
open Go.RowKit
open Sc (firstL firstOk firstV lastL lastOk lastV bitW)
attribute [local go_sem] u64_wrap BitVec.ofInt_add BitVec.ofInt_mul ofInt_sub' ofInt_N ofInt_Nw ofInt_pow ofInt_shl mul_shl1 u64_and u64_or u64_xor u64_andNot

theorem firstL_skip {m lo : W64} {b : Nat} (x : W64) : ∀ {k : Nat}, b ≤ k → m.toNat % 2 ^ k = m.toNat % 2 ^ b → firstL m lo k x = firstL m lo b x
  | 0, hb, _ => by
    obtain rfl : b = 0 := by omega
    rfl
  | k + 1, hb, h => by
    rcases Nat.eq_or_lt_of_le hb with rfl | hlt
    · rfl
    · obtain ⟨_, _, h3, _, h5⟩ := Sc.parts3 m.toNat k
      have h6 : m.toNat % 2 ^ b ≤ m.toNat % 2 ^ k := by
        have : m.toNat % 2 ^ k % 2 ^ b = m.toNat % 2 ^ b := Nat.mod_mod_of_dvd _ (Nat.pow_dvd_pow 2 (by omega))
        rw [← this]; exact Nat.mod_le _ _
      have h7 : 2 ^ k * (m.toNat / 2 ^ k % 2) = 0 := by omega
      have h8 : m.toNat / 2 ^ k % 2 = 0 := by
        rcases Nat.mul_eq_zero.1 h7 with h | h
        · have := Nat.two_pow_pos k; omega
        · exact h
      have h9 : m.getLsbD k = false := by rw [Sc.bit_mod, h8]; rfl
      rw [firstL, h9]
      exact firstL_skip x (by omega) (by rw [h7] at h3; omega)
theorem lastL_skip {m lo : W64} {b : Nat} (x : W64) : ∀ {k : Nat}, b ≤ k → m.toNat % 2 ^ k = m.toNat % 2 ^ b → lastL m lo k x = lastL m lo b x
  | 0, hb, _ => by
    obtain rfl : b = 0 := by omega
    rfl
  | k + 1, hb, h => by
    rcases Nat.eq_or_lt_of_le hb with rfl | hlt
    · rfl
    · obtain ⟨_, _, h3, _, h5⟩ := Sc.parts3 m.toNat k
      have h6 : m.toNat % 2 ^ b ≤ m.toNat % 2 ^ k := by
        have : m.toNat % 2 ^ k % 2 ^ b = m.toNat % 2 ^ b := Nat.mod_mod_of_dvd _ (Nat.pow_dvd_pow 2 (by omega))
        rw [← this]; exact Nat.mod_le _ _
      have h7 : 2 ^ k * (m.toNat / 2 ^ k % 2) = 0 := by omega
      have h8 : m.toNat / 2 ^ k % 2 = 0 := by
        rcases Nat.mul_eq_zero.1 h7 with h | h
        · have := Nat.two_pow_pos k; omega
        · exact h
      have h9 : m.getLsbD k = false := by rw [Sc.bit_mod, h8]; rfl
      rw [lastL, h9]
      exact lastL_skip x (by omega) (by rw [h7] at h3; omega)
theorem lowK_nat (m : W64) (k : Nat) : (lowK m k).toNat = m.toNat % 2 ^ k := by
  unfold lowK
  rw [BitVec.toNat_ofNat, Nat.mod_eq_of_lt (Nat.lt_of_le_of_lt (Nat.mod_le _ _) m.isLt)]
/-- The highest bit of what is left. -/
theorem top_bit (m : W64) (k : Nat) (hk : k ≤ 64) (h : ¬ lowK m k = 0#64) : ∃ j, j < k ∧ Lib.bitLen (lowK m k).toNat = j + 1 ∧ m.toNat % 2 ^ k = m.toNat % 2 ^ (j + 1) ∧ m.getLsbD j = true ∧ lowK m k &&& ~~~(1#64 <<< j) = lowK m j ∧ N (lowK m j) < N (lowK m k) := by
  have h0 : ¬ (lowK m k).toNat = 0 := fun e => h (BitVec.eq_of_toNat_eq (by rw [e]; rfl))
  obtain ⟨b1, b2, b3⟩ := Lib.bitLenAux_bounds 64 (lowK m k).toNat (lowK m k).isLt h0
  change 0 < Lib.bitLen (lowK m k).toNat at b1
  change 2 ^ (Lib.bitLen (lowK m k).toNat - 1) ≤ (lowK m k).toNat at b2
  change (lowK m k).toNat < 2 ^ Lib.bitLen (lowK m k).toNat at b3
  obtain ⟨j, hj⟩ : ∃ j, Lib.bitLen (lowK m k).toNat = j + 1 := ⟨_, (Nat.sub_add_cancel b1).symm⟩
  rw [hj] at b2 b3
  simp only [Nat.add_sub_cancel] at b2
  rw [lowK_nat] at b2 b3 h0
  have hlt : j < k := by
    have h1 := Nat.mod_lt m.toNat (Nat.two_pow_pos k)
    exact (Nat.pow_lt_pow_iff_right (by decide : 1 < 2)).1 (Nat.lt_of_le_of_lt b2 h1)
  have e1 : m.toNat % 2 ^ k = m.toNat % 2 ^ (j + 1) := by
    have : m.toNat % 2 ^ k % 2 ^ (j + 1) = m.toNat % 2 ^ (j + 1) := Nat.mod_mod_of_dvd _ (Nat.pow_dvd_pow 2 (by omega))
    rw [← this, Nat.mod_eq_of_lt b3]
  obtain ⟨_, _, h3, h4, h5⟩ := Sc.parts3 m.toNat j
  have e2 : m.toNat / 2 ^ j % 2 = 1 := by
    rcases (show m.toNat / 2 ^ j % 2 = 0 ∨ m.toNat / 2 ^ j % 2 = 1 by omega) with h | h
    · rw [h, Nat.mul_zero] at h3; omega
    · exact h
  rw [e2, Nat.mul_one] at h3
  have e3 : (lowK m k).getLsbD j = true := by
    rw [Sc.bit_mod, lowK_nat, e1]
    refine decide_eq_true ?_
    have : m.toNat % 2 ^ (j + 1) / 2 ^ j = 1 := by
      rw [h3, Nat.add_div_right _ (Nat.two_pow_pos j), Nat.div_eq_of_lt h4]
    rw [this]
  have e4 := Sc.clear_set (by omega) e3
  rw [lowK_nat] at e4
  have e5 : (lowK m k &&& ~~~(1#64 <<< j)) = lowK m j := by
    apply BitVec.eq_of_toNat_eq
    rw [lowK_nat]
    unfold Sc.bitW at e4
    omega
  refine ⟨j, hlt, hj, e1, by rw [Sc.bit_mod, e2]; rfl, e5, ?_⟩
  unfold N
  rw [lowK_nat, lowK_nat]
  have := Nat.two_pow_pos j
  omega
theorem N_zero_iff' (a : W64) : N a = 0 ↔ a = 0#64 := by
  rw [show (0 : Int) = N (0#64) from rfl, N_eq_iff]
set_option maxHeartbeats 1000000 in
theorem sc_first (av am lo : W64) (w : World) : Calls Tryz.prog 87 #[.agg #[.int .u64 (N av), .int .u64 (N am)], .int .u64 (N lo)] w fun e w' => e = .returned (.tuple #[.int .u64 (N (firstV (av, am) lo)), .bool (firstOk (av, am) lo)]) ∧ Grown w w' := by
  unfold firstV firstOk
  by_cases h : N (av ||| am) < N lo
  · rw [if_pos h]
    go_enter Tryz.func87, Tryz.ntmps87
    go_wp2
    go_returns
    exact ⟨by simp [h, show N (0#64) = 0 from rfl], by go_grown⟩
  · rw [if_neg h]
    go_enter Tryz.func87, Tryz.ntmps87
    go_wp2
    generalize hW : (w.alloc (.cells #[.int .u64 (N av), .int .u64 (N am)] 28)) = W0 at *
    have hg0 : Grown w W0 := by rw [← hW]; go_grown
    clear hW
    go_loopw [6, 7, 8] (fun v o b wr => ∃ (k : Nat) (x : W64), k ≤ 64 ∧ v = .int .u64 (N x) ∧ o = .int .u64 (N (lowK am k)) ∧ firstL am lo k x = firstL am lo 64 (av ||| am) ∧ Grown w wr) (fun _ o _ _ => (intOf o).toNat)
    case atStart => exact ⟨64, av ||| am, by omega, rfl, by rw [lowK_all], rfl, by first | assumption | exact Grown.drew hg0⟩
    case round =>
      obtain ⟨k, x, hk, rfl, rfl, hx, hg⟩ := hrel
      by_cases h0 : lowK am k = 0#64
      · have hz : N (lowK am k) = 0 := by rw [h0]; rfl
        have hm : am.toNat % 2 ^ k = am.toNat % 2 ^ 0 := by
          have := congrArg BitVec.toNat h0
          rw [lowK_nat] at this
          rw [this, Nat.pow_zero, Nat.mod_one]; rfl
        rw [firstL_skip x (Nat.zero_le k) hm] at hx
        change x = _ at hx
        rw [hz]
        go_wp2
        go_returns
        exact ⟨by simp [h, hx], by go_grown⟩
      · obtain ⟨j, hj, hl, hm, hb, ho, hlt⟩ := top_bit am k hk h0
        have hne : (N (lowK am k) != 0) = true := by
          rw [bne_iff_ne]
          exact fun e => h0 ((N_zero_iff' _).1 e)
        have HL : ∀ w : World, Calls Tryz.prog 109 #[.int .u64 (N (lowK am k))] w fun e w' => e = .returned (.int .i64 ((j : Int) + 1)) ∧ w' = w := by
          intro w
          refine (Tryz.bits_Len64 _ _ (N_nonneg _) (by have := N_lt (lowK am k); omega)).mono ?_
          rintro e w' ⟨rfl, rfl⟩
          refine ⟨?_, rfl⟩
          have : (N (lowK am k)).toNat = (lowK am k).toNat := by unfold N; simp
          rw [this, hl]; simp
        rw [firstL_skip x (by omega) hm] at hx
        rw [firstL, hb] at hx
        simp only [if_true] at hx
        unfold bitW at hx
        have hj64 : j < 64 := by omega
        by_cases hc : N lo ≤ N (x &&& ~~~(1#64 <<< j))
        · rw [if_pos hc] at hx
          have hd : decide (N (x &&& ~~~(1#64 <<< j)) ≥ N lo) = true := decide_eq_true hc
          go_wp2_with (go_at_call 109; refine (HL _).mono ?_; rintro e w' ⟨rfl, rfl⟩)
          go_roundw
          case rel => exact ⟨j, _, by omega, rfl, rfl, hx, by assumption⟩
          case measure => have n1 := N_nonneg (lowK am j); have n2 := N_nonneg (lowK am k); simp [intOf]; omega
        · rw [if_neg hc] at hx
          have hd : decide (N (x &&& ~~~(1#64 <<< j)) ≥ N lo) = false := decide_eq_false hc
          go_wp2_with (go_at_call 109; refine (HL _).mono ?_; rintro e w' ⟨rfl, rfl⟩)
          go_roundw
          case rel => exact ⟨j, _, by omega, rfl, rfl, hx, by assumption⟩
          case measure => have n1 := N_nonneg (lowK am j); have n2 := N_nonneg (lowK am k); simp [intOf]; omega
set_option maxHeartbeats 1000000 in
theorem sc_last (av am hi : W64) (w : World) : Calls Tryz.prog 88 #[.agg #[.int .u64 (N av), .int .u64 (N am)], .int .u64 (N hi)] w fun e w' => e = .returned (.tuple #[.int .u64 (N (lastV (av, am) hi)), .bool (lastOk (av, am) hi)]) ∧ Grown w w' := by
  unfold lastV lastOk
  by_cases h : N hi < N av
  · rw [if_pos h]
    go_enter Tryz.func88, Tryz.ntmps88
    go_wp2
    go_returns
    exact ⟨by simp [h, show N (0#64) = 0 from rfl], by go_grown⟩
  · rw [if_neg h]
    go_enter Tryz.func88, Tryz.ntmps88
    go_wp2
    generalize hW : (w.alloc (.cells #[.int .u64 (N av), .int .u64 (N am)] 28)) = W0 at *
    have hg0 : Grown w W0 := by rw [← hW]; go_grown
    clear hW
    go_loopw [6, 7, 8] (fun v o b wr => ∃ (k : Nat) (x : W64), k ≤ 64 ∧ v = .int .u64 (N x) ∧ o = .int .u64 (N (lowK am k)) ∧ lastL am hi k x = lastL am hi 64 av ∧ Grown w wr) (fun _ o _ _ => (intOf o).toNat)
    case atStart => exact ⟨64, av, by omega, rfl, by rw [lowK_all], rfl, by first | assumption | exact Grown.drew hg0⟩
    case round =>
      obtain ⟨k, x, hk, rfl, rfl, hx, hg⟩ := hrel
      by_cases h0 : lowK am k = 0#64
      · have hz : N (lowK am k) = 0 := by rw [h0]; rfl
        have hm : am.toNat % 2 ^ k = am.toNat % 2 ^ 0 := by
          have := congrArg BitVec.toNat h0
          rw [lowK_nat] at this
          rw [this, Nat.pow_zero, Nat.mod_one]; rfl
        rw [lastL_skip x (Nat.zero_le k) hm] at hx
        change x = _ at hx
        rw [hz]
        go_wp2
        go_returns
        exact ⟨by simp [h, hx], by go_grown⟩
      · obtain ⟨j, hj, hl, hm, hb, ho, hlt⟩ := top_bit am k hk h0
        have hne : (N (lowK am k) != 0) = true := by
          rw [bne_iff_ne]
          exact fun e => h0 ((N_zero_iff' _).1 e)
        have HL : ∀ w : World, Calls Tryz.prog 109 #[.int .u64 (N (lowK am k))] w fun e w' => e = .returned (.int .i64 ((j : Int) + 1)) ∧ w' = w := by
          intro w
          refine (Tryz.bits_Len64 _ _ (N_nonneg _) (by have := N_lt (lowK am k); omega)).mono ?_
          rintro e w' ⟨rfl, rfl⟩
          refine ⟨?_, rfl⟩
          have : (N (lowK am k)).toNat = (lowK am k).toNat := by unfold N; simp
          rw [this, hl]; simp
        rw [lastL_skip x (by omega) hm] at hx
        rw [lastL, hb] at hx
        simp only [if_true] at hx
        unfold bitW at hx
        have hj64 : j < 64 := by omega
        by_cases hc : N (x ||| 1#64 <<< j) ≤ N hi
        · rw [if_pos hc] at hx
          have hd : decide (N (x ||| 1#64 <<< j) ≤ N hi) = true := decide_eq_true hc
          go_wp2_with (go_at_call 109; refine (HL _).mono ?_; rintro e w' ⟨rfl, rfl⟩)
          go_roundw
          case rel => exact ⟨j, _, by omega, rfl, rfl, hx, by assumption⟩
          case measure => have n1 := N_nonneg (lowK am j); have n2 := N_nonneg (lowK am k); simp [intOf]; omega
        · rw [if_neg hc] at hx
          have hd : decide (N (x ||| 1#64 <<< j) ≤ N hi) = false := decide_eq_false hc
          go_wp2_with (go_at_call 109; refine (HL _).mono ?_; rintro e w' ⟨rfl, rfl⟩)
          go_roundw
          case rel => exact ⟨j, _, by omega, rfl, rfl, hx, by assumption⟩
          case measure => have n1 := N_nonneg (lowK am j); have n2 := N_nonneg (lowK am k); simp [intOf]; omega
end Go.Proofs.YtchjneodjaakdaaGreat
end
section
namespace Go.Proofs.YtchjneodjaakdaaGreat.Ex
open Go Go.RowKit
set_option maxRecDepth 1000000 in
theorem noNG : NoNG Tryz.prog := noNG_ok (by kernel_rfl)
end Go.Proofs.YtchjneodjaakdaaGreat.Ex
end
section
namespace Go.Proofs.YtchjneodjaakdaaGreat.Ex
open Go Go.RowKit
open Go.Proofs.YtchjneodjaakdaaGreat.Sc (firstV firstOk lastV lastOk)
structure RI where
  lo : Int
  hi : Int
  ok : Bool
def VR_ (r : RI) : Value := .agg ⟨[.int .u64 r.lo, .int .u64 r.hi, .bool r.ok]⟩
theorem rk {hk : Hook} (hhk : HookOk Tryz.prog hk) (orc : Orc) {g : FuncId} {args : List Value} {v : Value} {cs : Cs} (hf : (args.all flat && flat v) = true)
    (h : reckonGL Tryz.prog (guardH hk) orc 100000 300 [] g args = some (v, cs.map (·.1))) (h2 : reckonGR Tryz.prog (guardH hk) orc 100000 300 [] g args v = some (v, cs.map (·.2))) (he : cs.map (·.1) = cs.map (·.2)) (w : World) : Calls Tryz.prog g ⟨args⟩ w fun e w' => e = .returned v ∧ Gr w w' := by
  simp only [Bool.and_eq_true] at hf
  exact reckonS_ok noNG hhk orc 100000 300 [] hf.1 hf.2 h h2 he w (Laid.nil w)
theorem ret_eq {P : Program} {g : FuncId} {args : Array Value} {u v : Value} {w : World} (e : u = v) (h : Calls P g args w fun x w' => x = .returned v ∧ Gr w w') : Calls P g args w fun x w' => x = .returned u ∧ Gr w w' := e ▸ h
def oneI (a : NI) : Int := if a.t.m != 0 then 0 else a.t.v
def oneK (a : NI) : Bool := !(a.t.m != 0)
def oneOrc (b7 : Bool) : Orc := fun f t _ => if Nat.beq f 16 then (if Nat.beq t 7 then some (.bool b7) else none) else none
set_option maxHeartbeats 0 in
set_option maxRecDepth 1000000 in
theorem one_t (a : NI) (h : (a.t.m != 0) = true) (w : World) : Calls Tryz.prog 16 #[VN a] w fun e w' => e = .returned (.tuple ⟨[.int .u64 0, .bool false]⟩) ∧ Gr w w' :=
  rk hkBase_ok (oneOrc true) (cs := [(b2i (a.t.m != 0), 1)]) rfl (by kernel_rfl) (by kernel_rfl) (by rw [h]; rfl) w
set_option maxHeartbeats 0 in
set_option maxRecDepth 1000000 in
theorem one_f (a : NI) (h : (a.t.m != 0) = false) (w : World) : Calls Tryz.prog 16 #[VN a] w fun e w' => e = .returned (.tuple ⟨[.int .u64 a.t.v, .bool true]⟩) ∧ Gr w w' :=
  rk hkBase_ok (oneOrc false) (cs := [(b2i (a.t.m != 0), 0)]) rfl (by kernel_rfl) (by kernel_rfl) (by rw [h]; rfl) w
theorem c_one (a : NI) (w : World) : Calls Tryz.prog 16 #[VN a] w fun e w' => e = .returned (.tuple ⟨[.int .u64 (oneI a), .bool (oneK a)]⟩) ∧ Gr w w' := by
  cases h : (a.t.m != 0) with
  | true => exact ret_eq (by simp only [oneI, oneK, h]; rfl) (one_t a h w)
  | false => exact ret_eq (by simp only [oneI, oneK, h]; rfl) (one_f a h w)
def hk_one : Hook := fun f args _ =>
  if Nat.beq f 16 then
    match args with
    | [.agg ⟨[.int .u64 a0, .int .u64 a1, .int .u64 a2, .int .u64 a3, .int .i64 a4, .int .i64 a5]⟩] => some (.tuple ⟨[.int .u64 (oneI (⟨⟨a0, a1⟩, ⟨a2, a3, a4, a5⟩⟩ : NI)), .bool (oneK (⟨⟨a0, a1⟩, ⟨a2, a3, a4, a5⟩⟩ : NI))]⟩, [])
    | _ => none
  else none
theorem hk_one_ok : HookOk Tryz.prog hk_one := by
  intro f args h v cs hv hc wb k s w H
  unfold hk_one at hv
  split at hv
  · rename_i hf
    obtain rfl := Nat.eq_of_beq_eq_true hf
    split at hv
    · rename_i a0 a1 a2 a3 a4 a5
      cases hv
      exact c_one (⟨⟨a0, a1⟩, ⟨a2, a3, a4, a5⟩⟩ : NI) w
    · cases hv
  · cases hv
def firstI (t : TI) (l : Int) : Int := N (firstV (tB t) (B l))
def firstK (t : TI) (l : Int) : Bool := firstOk (tB t) (B l)
theorem c_first (t : TI) (l : Int) (hw : (tW t && uB l) = true) (w : World) : Calls Tryz.prog 87 #[VT t, .int .u64 l] w fun e w' => e = .returned (.tuple ⟨[.int .u64 (firstI t l), .bool (firstK t l)]⟩) ∧ Gr w w' := by
  simp only [Bool.and_eq_true] at hw
  obtain ⟨x, rfl⟩ := tW_eq hw.1
  obtain ⟨y, rfl⟩ := uB_eq hw.2
  simp only [firstI, firstK, tB_tN, B, ofInt_N]
  exact (sc_first x.1 x.2 y w).mono fun e w' h => ⟨h.1, Gr.of_grown h.2⟩
def hk_first : Hook := fun f args _ =>
  if Nat.beq f 87 then
    match args with
    | [.agg ⟨[.int .u64 a0, .int .u64 a1]⟩, .int .u64 b] => some (.tuple ⟨[.int .u64 (firstI (⟨a0, a1⟩ : TI) b), .bool (firstK (⟨a0, a1⟩ : TI) b)]⟩, [(b2i (tW (⟨a0, a1⟩ : TI) && uB b), 1)])
    | _ => none
  else none
theorem hk_first_ok : HookOk Tryz.prog hk_first := by
  intro f args h v cs hv hc wb k s w H
  unfold hk_first at hv
  split at hv
  · rename_i hf
    obtain rfl := Nat.eq_of_beq_eq_true hf
    split at hv
    · rename_i a0 a1 b
      cases hv
      have hw := pair1 hc rfl
      exact c_first (⟨a0, a1⟩ : TI) b hw w
    · cases hv
  · cases hv
def lastI (t : TI) (l : Int) : Int := N (lastV (tB t) (B l))
def lastK (t : TI) (l : Int) : Bool := lastOk (tB t) (B l)
theorem c_last (t : TI) (l : Int) (hw : (tW t && uB l) = true) (w : World) : Calls Tryz.prog 88 #[VT t, .int .u64 l] w fun e w' => e = .returned (.tuple ⟨[.int .u64 (lastI t l), .bool (lastK t l)]⟩) ∧ Gr w w' := by
  simp only [Bool.and_eq_true] at hw
  obtain ⟨x, rfl⟩ := tW_eq hw.1
  obtain ⟨y, rfl⟩ := uB_eq hw.2
  simp only [lastI, lastK, tB_tN, B, ofInt_N]
  exact (sc_last x.1 x.2 y w).mono fun e w' h => ⟨h.1, Gr.of_grown h.2⟩
def hk_last : Hook := fun f args _ =>
  if Nat.beq f 88 then
    match args with
    | [.agg ⟨[.int .u64 a0, .int .u64 a1]⟩, .int .u64 b] => some (.tuple ⟨[.int .u64 (lastI (⟨a0, a1⟩ : TI) b), .bool (lastK (⟨a0, a1⟩ : TI) b)]⟩, [(b2i (tW (⟨a0, a1⟩ : TI) && uB b), 1)])
    | _ => none
  else none
theorem hk_last_ok : HookOk Tryz.prog hk_last := by
  intro f args h v cs hv hc wb k s w H
  unfold hk_last at hv
  split at hv
  · rename_i hf
    obtain rfl := Nat.eq_of_beq_eq_true hf
    split at hv
    · rename_i a0 a1 b
      cases hv
      have hw := pair1 hc rfl
      exact c_last (⟨a0, a1⟩ : TI) b hw w
    · cases hv
  · cases hv
def halvesI (s : SI) : RI × RI :=
  if decide (s.slo ≥ 0) then (⟨s.lo, s.hi, true⟩, ⟨0, 0, false⟩)
  else if decide (s.shi < 0) then (⟨0, 0, false⟩, ⟨s.lo, s.hi, true⟩)
  else (⟨s.lo, IntKind.u64.wrap s.shi, true⟩, ⟨IntKind.u64.wrap s.slo, s.hi, true⟩)
def halvesOrc (b7 b17 : Bool) : Orc := fun f t _ => if Nat.beq f 36 then (if Nat.beq t 7 then some (.bool b7) else if Nat.beq t 17 then some (.bool b17) else none) else none
set_option maxHeartbeats 0 in
set_option maxRecDepth 1000000 in
theorem halves_1 (s : SI) (h : decide (s.slo ≥ 0) = true) (w : World) : Calls Tryz.prog 36 #[VS s] w fun e w' => e = .returned (.tuple ⟨[VR_ ⟨s.lo, s.hi, true⟩, VR_ ⟨0, 0, false⟩]⟩) ∧ Gr w w' :=
  rk hkBase_ok (halvesOrc true true) (cs := [(b2i (decide (s.slo ≥ 0)), 1)]) rfl (by kernel_rfl) (by kernel_rfl) (by rw [h]; rfl) w
set_option maxHeartbeats 0 in
set_option maxRecDepth 1000000 in
theorem halves_2 (s : SI) (h : decide (s.slo ≥ 0) = false) (h2 : decide (s.shi < 0) = true) (w : World) : Calls Tryz.prog 36 #[VS s] w fun e w' => e = .returned (.tuple ⟨[VR_ ⟨0, 0, false⟩, VR_ ⟨s.lo, s.hi, true⟩]⟩) ∧ Gr w w' :=
  rk hkBase_ok (halvesOrc false true) (cs := [(b2i (decide (s.slo ≥ 0)), 0), (b2i (decide (s.shi < 0)), 1)]) rfl (by kernel_rfl) (by kernel_rfl) (by rw [h, h2]; rfl) w
set_option maxHeartbeats 0 in
set_option maxRecDepth 1000000 in
theorem halves_3 (s : SI) (h : decide (s.slo ≥ 0) = false) (h2 : decide (s.shi < 0) = false) (w : World) : Calls Tryz.prog 36 #[VS s] w fun e w' => e = .returned (.tuple ⟨[VR_ ⟨s.lo, IntKind.u64.wrap s.shi, true⟩, VR_ ⟨IntKind.u64.wrap s.slo, s.hi, true⟩]⟩) ∧ Gr w w' :=
  rk hkBase_ok (halvesOrc false false) (cs := [(b2i (decide (s.slo ≥ 0)), 0), (b2i (decide (s.shi < 0)), 0)]) rfl (by kernel_rfl) (by kernel_rfl) (by rw [h, h2]; rfl) w
theorem c_halves (s : SI) (w : World) : Calls Tryz.prog 36 #[VS s] w fun e w' => e = .returned (.tuple ⟨[VR_ (halvesI s).1, VR_ (halvesI s).2]⟩) ∧ Gr w w' := by
  cases h : decide (s.slo ≥ 0) with
  | true => exact ret_eq (by simp only [halvesI, h]; rfl) (halves_1 s h w)
  | false =>
    cases h2 : decide (s.shi < 0) with
    | true => exact ret_eq (by simp only [halvesI, h, h2]; rfl) (halves_2 s h h2 w)
    | false => exact ret_eq (by simp only [halvesI, h, h2]; rfl) (halves_3 s h h2 w)
def hk_halves : Hook := fun f args _ =>
  if Nat.beq f 36 then
    match args with
    | [.agg ⟨[.int .u64 a0, .int .u64 a1, .int .i64 a2, .int .i64 a3]⟩] => some (.tuple ⟨[VR_ (halvesI (⟨a0, a1, a2, a3⟩ : SI)).1, VR_ (halvesI (⟨a0, a1, a2, a3⟩ : SI)).2]⟩, [])
    | _ => none
  else none
theorem hk_halves_ok : HookOk Tryz.prog hk_halves := by
  intro f args h v cs hv hc wb k s w H
  unfold hk_halves at hv
  split at hv
  · rename_i hf
    obtain rfl := Nat.eq_of_beq_eq_true hf
    split at hv
    · rename_i a0 a1 a2 a3
      cases hv
      exact c_halves (⟨a0, a1, a2, a3⟩ : SI) w
    · cases hv
  · cases hv
def hk1 : Hook := orHook hk_one (orHook hk_first (orHook hk_last (orHook hk_halves (hkBase))))
theorem hk1_ok : HookOk Tryz.prog hk1 := orHook_ok hk_one_ok (orHook_ok hk_first_ok (orHook_ok hk_last_ok (orHook_ok hk_halves_ok (hkBase_ok))))
def amongI (r : RI) (t : TI) : RI :=
  if r.ok && firstK t r.lo && lastK t r.hi && !decide (firstI t r.lo > lastI t r.hi) then ⟨firstI t r.lo, lastI t r.hi, true⟩ else ⟨0, 0, false⟩
def amongOrc (b15 b22 b37 : Bool) : Orc := fun f t _ => if Nat.beq f 37 then (if Nat.beq t 15 then some (.bool b15) else if Nat.beq t 22 then some (.bool b22) else if Nat.beq t 37 then some (.bool b37) else none) else none
set_option maxHeartbeats 0 in
set_option maxRecDepth 1000000 in
theorem among_n00 (l h : Int) (t : TI) (hw : (tW t && uB l) = true) (hw2 : (tW t && uB h) = true) (h1 : firstK t l = false) (h2 : lastK t h = false) (w : World) : Calls Tryz.prog 37 #[VR_ ⟨l, h, false⟩, VT t] w fun e w' => e = .returned (VR_ ⟨0, 0, false⟩) ∧ Gr w w' :=
  rk hk1_ok (amongOrc false false true) (cs := [(b2i (tW t && uB l), 1), (b2i (firstK t l), 0), (b2i (tW t && uB h), 1), (b2i (lastK t h), 0)]) rfl (by kernel_rfl) (by kernel_rfl) (by rw [hw, hw2, h1, h2]; rfl) w
set_option maxHeartbeats 0 in
set_option maxRecDepth 1000000 in
theorem among_o00 (l h : Int) (t : TI) (hw : (tW t && uB l) = true) (hw2 : (tW t && uB h) = true) (h1 : firstK t l = false) (h2 : lastK t h = false) (w : World) : Calls Tryz.prog 37 #[VR_ ⟨l, h, true⟩, VT t] w fun e w' => e = .returned (VR_ ⟨0, 0, false⟩) ∧ Gr w w' :=
  rk hk1_ok (amongOrc false false true) (cs := [(b2i (tW t && uB l), 1), (b2i (firstK t l), 0), (b2i (tW t && uB h), 1), (b2i (lastK t h), 0)]) rfl (by kernel_rfl) (by kernel_rfl) (by rw [hw, hw2, h1, h2]; rfl) w
set_option maxHeartbeats 0 in
set_option maxRecDepth 1000000 in
theorem among_n01 (l h : Int) (t : TI) (hw : (tW t && uB l) = true) (hw2 : (tW t && uB h) = true) (h1 : firstK t l = false) (h2 : lastK t h = true) (w : World) : Calls Tryz.prog 37 #[VR_ ⟨l, h, false⟩, VT t] w fun e w' => e = .returned (VR_ ⟨0, 0, false⟩) ∧ Gr w w' :=
  rk hk1_ok (amongOrc false true true) (cs := [(b2i (tW t && uB l), 1), (b2i (firstK t l), 0), (b2i (tW t && uB h), 1), (b2i (lastK t h), 1)]) rfl (by kernel_rfl) (by kernel_rfl) (by rw [hw, hw2, h1, h2]; rfl) w
set_option maxHeartbeats 0 in
set_option maxRecDepth 1000000 in
theorem among_o01 (l h : Int) (t : TI) (hw : (tW t && uB l) = true) (hw2 : (tW t && uB h) = true) (h1 : firstK t l = false) (h2 : lastK t h = true) (w : World) : Calls Tryz.prog 37 #[VR_ ⟨l, h, true⟩, VT t] w fun e w' => e = .returned (VR_ ⟨0, 0, false⟩) ∧ Gr w w' :=
  rk hk1_ok (amongOrc false true true) (cs := [(b2i (tW t && uB l), 1), (b2i (firstK t l), 0), (b2i (tW t && uB h), 1), (b2i (lastK t h), 1)]) rfl (by kernel_rfl) (by kernel_rfl) (by rw [hw, hw2, h1, h2]; rfl) w
set_option maxHeartbeats 0 in
set_option maxRecDepth 1000000 in
theorem among_n10 (l h : Int) (t : TI) (hw : (tW t && uB l) = true) (hw2 : (tW t && uB h) = true) (h1 : firstK t l = true) (h2 : lastK t h = false) (w : World) : Calls Tryz.prog 37 #[VR_ ⟨l, h, false⟩, VT t] w fun e w' => e = .returned (VR_ ⟨0, 0, false⟩) ∧ Gr w w' :=
  rk hk1_ok (amongOrc true false true) (cs := [(b2i (tW t && uB l), 1), (b2i (firstK t l), 1), (b2i (tW t && uB h), 1), (b2i (lastK t h), 0)]) rfl (by kernel_rfl) (by kernel_rfl) (by rw [hw, hw2, h1, h2]; rfl) w
set_option maxHeartbeats 0 in
set_option maxRecDepth 1000000 in
theorem among_o10 (l h : Int) (t : TI) (hw : (tW t && uB l) = true) (hw2 : (tW t && uB h) = true) (h1 : firstK t l = true) (h2 : lastK t h = false) (w : World) : Calls Tryz.prog 37 #[VR_ ⟨l, h, true⟩, VT t] w fun e w' => e = .returned (VR_ ⟨0, 0, false⟩) ∧ Gr w w' :=
  rk hk1_ok (amongOrc true false true) (cs := [(b2i (tW t && uB l), 1), (b2i (firstK t l), 1), (b2i (tW t && uB h), 1), (b2i (lastK t h), 0)]) rfl (by kernel_rfl) (by kernel_rfl) (by rw [hw, hw2, h1, h2]; rfl) w
set_option maxHeartbeats 0 in
set_option maxRecDepth 1000000 in
theorem among_n11 (l h : Int) (t : TI) (hw : (tW t && uB l) = true) (hw2 : (tW t && uB h) = true) (h1 : firstK t l = true) (h2 : lastK t h = true) (w : World) : Calls Tryz.prog 37 #[VR_ ⟨l, h, false⟩, VT t] w fun e w' => e = .returned (VR_ ⟨0, 0, false⟩) ∧ Gr w w' :=
  rk hk1_ok (amongOrc true true true) (cs := [(b2i (tW t && uB l), 1), (b2i (firstK t l), 1), (b2i (tW t && uB h), 1), (b2i (lastK t h), 1)]) rfl (by kernel_rfl) (by kernel_rfl) (by rw [hw, hw2, h1, h2]; rfl) w
set_option maxHeartbeats 0 in
set_option maxRecDepth 1000000 in
theorem among_o11t (l h : Int) (t : TI) (hw : (tW t && uB l) = true) (hw2 : (tW t && uB h) = true) (h1 : firstK t l = true) (h2 : lastK t h = true) (h3 : decide (firstI t l > lastI t h) = true) (w : World) : Calls Tryz.prog 37 #[VR_ ⟨l, h, true⟩, VT t] w fun e w' => e = .returned (VR_ ⟨0, 0, false⟩) ∧ Gr w w' :=
  rk hk1_ok (amongOrc true true true) (cs := [(b2i (tW t && uB l), 1), (b2i (firstK t l), 1), (b2i (tW t && uB h), 1), (b2i (lastK t h), 1), (b2i (decide (firstI t l > lastI t h)), 1)]) rfl (by kernel_rfl) (by kernel_rfl) (by rw [hw, hw2, h1, h2, h3]; rfl) w
set_option maxHeartbeats 0 in
set_option maxRecDepth 1000000 in
theorem among_o11f (l h : Int) (t : TI) (hw : (tW t && uB l) = true) (hw2 : (tW t && uB h) = true) (h1 : firstK t l = true) (h2 : lastK t h = true) (h3 : decide (firstI t l > lastI t h) = false) (w : World) : Calls Tryz.prog 37 #[VR_ ⟨l, h, true⟩, VT t] w fun e w' => e = .returned (VR_ ⟨firstI t l, lastI t h, true⟩) ∧ Gr w w' :=
  rk hk1_ok (amongOrc true true false) (cs := [(b2i (tW t && uB l), 1), (b2i (firstK t l), 1), (b2i (tW t && uB h), 1), (b2i (lastK t h), 1), (b2i (decide (firstI t l > lastI t h)), 0)]) rfl (by kernel_rfl) (by kernel_rfl) (by rw [hw, hw2, h1, h2, h3]; rfl) w
theorem c_among (r : RI) (t : TI) (hw : (tW t && uB r.lo && uB r.hi) = true) (w : World) : Calls Tryz.prog 37 #[VR_ r, VT t] w fun e w' => e = .returned (VR_ (amongI r t)) ∧ Gr w w' := by
  obtain ⟨l, h, ok⟩ := r
  simp only [Bool.and_eq_true] at hw
  have w1 : (tW t && uB l) = true := by rw [hw.1.1, hw.1.2]; rfl
  have w2 : (tW t && uB h) = true := by rw [hw.1.1, hw.2]; rfl
  cases h1 : firstK t l <;> cases h2 : lastK t h <;> cases ok
  · exact ret_eq (by simp only [amongI, h1, h2]; rfl) (among_n00 l h t w1 w2 h1 h2 w)
  · exact ret_eq (by simp only [amongI, h1, h2]; rfl) (among_o00 l h t w1 w2 h1 h2 w)
  · exact ret_eq (by simp only [amongI, h1, h2]; rfl) (among_n01 l h t w1 w2 h1 h2 w)
  · exact ret_eq (by simp only [amongI, h1, h2]; rfl) (among_o01 l h t w1 w2 h1 h2 w)
  · exact ret_eq (by simp only [amongI, h1, h2]; rfl) (among_n10 l h t w1 w2 h1 h2 w)
  · exact ret_eq (by simp only [amongI, h1, h2]; rfl) (among_o10 l h t w1 w2 h1 h2 w)
  · exact ret_eq (by simp only [amongI, h1, h2]; rfl) (among_n11 l h t w1 w2 h1 h2 w)
  · cases h3 : decide (firstI t l > lastI t h) with
    | true => exact ret_eq (by simp only [amongI, h1, h2, h3]; rfl) (among_o11t l h t w1 w2 h1 h2 h3 w)
    | false => exact ret_eq (by simp only [amongI, h1, h2, h3]; rfl) (among_o11f l h t w1 w2 h1 h2 h3 w)
def hk_among : Hook := fun f args _ =>
  if Nat.beq f 37 then
    match args with
    | [.agg ⟨[.int .u64 a0, .int .u64 a1, .bool a2]⟩, .agg ⟨[.int .u64 b0, .int .u64 b1]⟩] => some (VR_ (amongI (⟨a0, a1, a2⟩ : RI) (⟨b0, b1⟩ : TI)), [(b2i (tW (⟨b0, b1⟩ : TI) && uB (⟨a0, a1, a2⟩ : RI).lo && uB (⟨a0, a1, a2⟩ : RI).hi), 1)])
    | _ => none
  else none
theorem hk_among_ok : HookOk Tryz.prog hk_among := by
  intro f args h v cs hv hc wb k s w H
  unfold hk_among at hv
  split at hv
  · rename_i hf
    obtain rfl := Nat.eq_of_beq_eq_true hf
    split at hv
    · rename_i a0 a1 a2 b0 b1
      cases hv
      have hw := pair1 hc rfl
      exact c_among (⟨a0, a1, a2⟩ : RI) (⟨b0, b1⟩ : TI) hw w
    · cases hv
  · cases hv
def knownI (p m : RI) : TI := if m.ok then (if p.ok then tEitherI (tRangeI p.lo p.hi) (tRangeI m.lo m.hi) else tRangeI m.lo m.hi) else tRangeI p.lo p.hi
def rW (r : RI) : Bool := uB r.lo && uB r.hi
theorem tRange_tW (a b : Int) : tW (tRangeI a b) = true := tW_tN _
set_option maxHeartbeats 0 in
set_option maxRecDepth 1000000 in
theorem known_ff (a b c d : Int) (h1 : (uB a && uB b) = true) (h2 : (uB c && uB d) = true) (w : World) : Calls Tryz.prog 39 #[VR_ ⟨a, b, false⟩, VR_ ⟨c, d, false⟩] w fun e w' => e = .returned (VT (tRangeI a b)) ∧ Gr w w' :=
  rk hk1_ok noOrc (cs := [(b2i (uB a && uB b), 1), (b2i (uB c && uB d), 1)]) rfl (by kernel_rfl) (by kernel_rfl) (by rw [h1, h2]; rfl) w
set_option maxHeartbeats 0 in
set_option maxRecDepth 1000000 in
theorem known_ft (a b c d : Int) (h1 : (uB a && uB b) = true) (h2 : (uB c && uB d) = true) (w : World) : Calls Tryz.prog 39 #[VR_ ⟨a, b, false⟩, VR_ ⟨c, d, true⟩] w fun e w' => e = .returned (VT (tRangeI c d)) ∧ Gr w w' :=
  rk hk1_ok noOrc (cs := [(b2i (uB a && uB b), 1), (b2i (uB c && uB d), 1)]) rfl (by kernel_rfl) (by kernel_rfl) (by rw [h1, h2]; rfl) w
set_option maxHeartbeats 0 in
set_option maxRecDepth 1000000 in
theorem known_tf (a b c d : Int) (h1 : (uB a && uB b) = true) (h2 : (uB c && uB d) = true) (w : World) : Calls Tryz.prog 39 #[VR_ ⟨a, b, true⟩, VR_ ⟨c, d, false⟩] w fun e w' => e = .returned (VT (tRangeI a b)) ∧ Gr w w' :=
  rk hk1_ok noOrc (cs := [(b2i (uB a && uB b), 1), (b2i (uB c && uB d), 1)]) rfl (by kernel_rfl) (by kernel_rfl) (by rw [h1, h2]; rfl) w
set_option maxHeartbeats 0 in
set_option maxRecDepth 1000000 in
theorem known_tt (a b c d : Int) (h1 : (uB a && uB b) = true) (h2 : (uB c && uB d) = true) (w : World) : Calls Tryz.prog 39 #[VR_ ⟨a, b, true⟩, VR_ ⟨c, d, true⟩] w fun e w' => e = .returned (VT (tEitherI (tRangeI a b) (tRangeI c d))) ∧ Gr w w' :=
  rk hk1_ok noOrc (cs := [(b2i (uB a && uB b), 1), (b2i (uB c && uB d), 1), (b2i (tW (tRangeI a b) && tW (tRangeI c d)), 1)]) rfl (by kernel_rfl) (by kernel_rfl) (by simp only [h1, h2, tRange_tW, Bool.and_self]; rfl) w
theorem c_known (p m : RI) (hw : (rW p && rW m) = true) (w : World) : Calls Tryz.prog 39 #[VR_ p, VR_ m] w fun e w' => e = .returned (VT (knownI p m)) ∧ Gr w w' := by
  obtain ⟨a, b, p⟩ := p
  obtain ⟨c, d, m⟩ := m
  simp only [Bool.and_eq_true] at hw
  have w1 : (uB a && uB b) = true := hw.1
  have w2 : (uB c && uB d) = true := hw.2
  cases p <;> cases m
  · exact known_ff a b c d w1 w2 w
  · exact known_ft a b c d w1 w2 w
  · exact known_tf a b c d w1 w2 w
  · exact known_tt a b c d w1 w2 w
def hk_known : Hook := fun f args _ =>
  if Nat.beq f 39 then
    match args with
    | [.agg ⟨[.int .u64 a0, .int .u64 a1, .bool a2]⟩, .agg ⟨[.int .u64 b0, .int .u64 b1, .bool b2]⟩] => some (VT (knownI (⟨a0, a1, a2⟩ : RI) (⟨b0, b1, b2⟩ : RI)), [(b2i (rW (⟨a0, a1, a2⟩ : RI) && rW (⟨b0, b1, b2⟩ : RI)), 1)])
    | _ => none
  else none
theorem hk_known_ok : HookOk Tryz.prog hk_known := by
  intro f args h v cs hv hc wb k s w H
  unfold hk_known at hv
  split at hv
  · rename_i hf
    obtain rfl := Nat.eq_of_beq_eq_true hf
    split at hv
    · rename_i a0 a1 a2 b0 b1 b2
      cases hv
      have hw := pair1 hc rfl
      exact c_known (⟨a0, a1, a2⟩ : RI) (⟨b0, b1, b2⟩ : RI) hw w
    · cases hv
  · cases hv
def hullI (p m : RI) : SI :=
  if m.ok then (if p.ok then ⟨p.lo, m.hi, IntKind.i64.wrap m.lo, IntKind.i64.wrap p.hi⟩ else ⟨m.lo, m.hi, IntKind.i64.wrap m.lo, IntKind.i64.wrap m.hi⟩)
  else ⟨p.lo, p.hi, IntKind.i64.wrap p.lo, IntKind.i64.wrap p.hi⟩
set_option maxHeartbeats 0 in
set_option maxRecDepth 1000000 in
theorem c_hull (p m : RI) (w : World) : Calls Tryz.prog 40 #[VR_ p, VR_ m] w fun e w' => e = .returned (VS (hullI p m)) ∧ Gr w w' := by
  obtain ⟨a, b, p⟩ := p
  obtain ⟨c, d, m⟩ := m
  cases p <;> cases m
  all_goals exact rk hkBase_ok noOrc (cs := []) rfl (by kernel_rfl) (by kernel_rfl) rfl w
def hk_hull : Hook := fun f args _ =>
  if Nat.beq f 40 then
    match args with
    | [.agg ⟨[.int .u64 a0, .int .u64 a1, .bool a2]⟩, .agg ⟨[.int .u64 b0, .int .u64 b1, .bool b2]⟩] => some (VS (hullI (⟨a0, a1, a2⟩ : RI) (⟨b0, b1, b2⟩ : RI)), [])
    | _ => none
  else none
theorem hk_hull_ok : HookOk Tryz.prog hk_hull := by
  intro f args h v cs hv hc wb k s w H
  unfold hk_hull at hv
  split at hv
  · rename_i hf
    obtain rfl := Nat.eq_of_beq_eq_true hf
    split at hv
    · rename_i a0 a1 a2 b0 b1 b2
      cases hv
      exact c_hull (⟨a0, a1, a2⟩ : RI) (⟨b0, b1, b2⟩ : RI) w
    · cases hv
  · cases hv
def hk2 : Hook := orHook hk_one (orHook hk_first (orHook hk_last (orHook hk_halves (orHook hk_among (orHook hk_known (orHook hk_hull (hkBase)))))))
theorem hk2_ok : HookOk Tryz.prog hk2 := orHook_ok hk_one_ok (orHook_ok hk_first_ok (orHook_ok hk_last_ok (orHook_ok hk_halves_ok (orHook_ok hk_among_ok (orHook_ok hk_known_ok (orHook_ok hk_hull_ok (hkBase_ok)))))))
end Go.Proofs.YtchjneodjaakdaaGreat.Ex
end
section
namespace Go.Proofs.YtchjneodjaakdaaGreat
set_option maxRecDepth 20000
open Go.RowKit
attribute [local go_sem] u64_wrap BitVec.ofInt_add BitVec.ofInt_mul ofInt_sub' ofInt_N ofInt_Nw ofInt_pow ofInt_shl mul_shl1 N_shr u64_and u64_or u64_xor u64_andNot

theorem hasTB_iff (v m x : W64) : hasTB v m x = true ↔ hasT v m x := by unfold hasTB hasT; rw [N_beq, beq_iff_eq]
theorem bit01 (z : W64) (k : Nat) : (z.getLsbD k = false ∧ N (z >>> k &&& 1#64) = 0) ∨ (z.getLsbD k = true ∧ N (z >>> k &&& 1#64) = 1) := by
  have e : N (z >>> k &&& 1#64) = ((z.toNat >>> k % 2 : Nat) : Int) := by
    unfold N
    rw [BitVec.toNat_and, BitVec.toNat_ushiftRight, show (1#64).toNat = 1 from rfl, Nat.and_one_is_mod]
  have hb : z.getLsbD k = decide (z.toNat >>> k % 2 = 1) := by
    rw [BitVec.getLsbD, Nat.testBit_eq_decide_div_mod_eq, Nat.shiftRight_eq_div_pow]
  rw [e, hb]
  rcases Nat.mod_two_eq_zero_or_one (z.toNat >>> k) with h | h <;> rw [h] <;> simp
def goodBit (v m x : W64) (k : Nat) : Prop := (x.getLsbD k && !m.getLsbD k) = v.getLsbD k
def goodTo (v m x : W64) (k : Nat) : Prop := ∀ j, j < k → goodBit v m x j
theorem goodTo_succ {v m x : W64} {k : Nat} (h : goodTo v m x k) (hb : goodBit v m x k) : goodTo v m x (k + 1) := fun j hj => by
  rcases Nat.lt_or_ge j k with h1 | h1
  · exact h j h1
  · obtain rfl : j = k := by omega
    exact hb
theorem good_all {v m x : W64} (h : goodTo v m x 64) : hasTB v m x = true := (hasTB_iff v m x).2 ((hasT_iff v m x).2 h)
theorem bad_one {v m x : W64} {k : Nat} (hk : k < 64) (h : ¬ goodBit v m x k) : hasTB v m x = false := by
  cases hh : hasTB v m x
  · rfl
  · exact absurd ((hasT_iff v m x).1 ((hasTB_iff v m x).1 hh) k hk) h
theorem bool_eq {a b : Bool} (h : b = a) : Ending.returned (.bool a) = .returned (.bool b) := by rw [h]

set_option maxHeartbeats 1000000 in
theorem refHas_any (v m x : W64) (w : World) : Calls Tryz.prog 50 #[.int .u64 (N v), .int .u64 (N m), .int .u64 (N x)] w fun e w' => e = .returned (.bool (hasTB v m x)) ∧ Grown w w' := by
  go_enter Tryz.func50, Tryz.ntmps50
  go_wp2
  go_loopw [7] (fun i wr => ∃ k : Nat, k ≤ 64 ∧ i = .int .i64 (k : Int) ∧ Gw w wr ∧ goodTo v m x k) (fun i _ => (64 - intOf i).toNat)
  case atStart => exact ⟨0, by omega, rfl, Grown.refl _, fun j hj => by omega⟩
  case round =>
    obtain ⟨k, hk, rfl, hg, hgood⟩ := hrel
    by_cases hlt : k < 64
    · rcases bit01 m k with ⟨hm, fm⟩ | ⟨hm, fm⟩ <;> rcases bit01 v k with ⟨hv, fv⟩ | ⟨hv, fv⟩ <;> rcases bit01 x k with ⟨hx, fx⟩ | ⟨hx, fx⟩
      all_goals
        have HM := Lib.hid hm
        have HV := Lib.hid hv
        have HX := Lib.hid hx
        clear hm hv hx
        go_wp2
        refine wp_region_lex (Gw w) (by kernel_rfl) (by kernel_rfl) (Gw.drew hg) (fun hNon => ?_)
        repeat (go_big_quiet_step (fail))
        refine wpQuiet_nil ?_
        intro w5 hG
        clear hNon
        go_wp2
        first
          | (go_roundw
             case rel => exact ⟨k + 1, by omega, by go_num, hG, goodTo_succ hgood (by unfold goodBit; rw [HM.out, HV.out, HX.out]; decide)⟩
             case measure => simp [intOf]; omega)
          | (go_ret
             exact ⟨bool_eq (bad_one hlt (by unfold goodBit; rw [HM.out, HV.out, HX.out]; decide)), hG⟩)
    · obtain rfl : k = 64 := by omega
      go_wp2
      go_ret
      exact ⟨bool_eq (good_all hgood), hg⟩

end Go.Proofs.YtchjneodjaakdaaGreat
end
