/-
  Lemmas for the laws of this seat, part E: Sc3, Sp6, MadeHas, ScHas, ScHas2, ScHas3, Open, Law17a, Kd1, NumIn, Law17c, Law18a, PostGr.
-/
import Derived.Test.YtdlgebfaijlaoaaPackD
import Derived.StillTailTactics
import Derived.ProofKit
import Derived.WalkKit
import Derived.OpenShut
import Derived.WideKeyArgs
import Derived.ChangeSame
section
namespace Go.Proofs.Ytdlgebfaijlaoaa.Ex
open Go Go.RowKit
open Go.Proofs.Ytdlgebfaijlaoaa.Sc (firstV firstOk lastV lastOk)
def andI (x c : Int) : Int := IntKind.u64.wrap ((BitVec.ofInt IntKind.u64.bits x &&& BitVec.ofInt IntKind.u64.bits c).toNat : Int)
def cntI (x c : Int) : Int := IntKind.i64.wrap (andI x c)
def anyT : TI := ⟨0, 18446744073709551615⟩
def anyS : SI := ⟨0, 18446744073709551615, -9223372036854775808, 9223372036854775807⟩
def anyN : NI := ⟨anyT, anyS⟩
def movedI (op : Int) (a b : NI) : NI :=
  if oneK b then
    if op = 96 then lshI a (cntI (oneI b) 63) else if op = 112 then ⟨tRshI a.t (cntI (oneI b) 63), sRshI a.s (cntI (oneI b) 63)⟩ else arshI a (cntI (oneI b) 63)
  else if op = 112 then uptoI a.s.hi
  else if op = 192 then (if decide (a.s.slo ≥ 0) then uptoI a.s.hi else ⟨anyT, ⟨0, 18446744073709551615, a.s.slo, if -1 > a.s.shi then -1 else a.s.shi⟩⟩)
  else anyN
theorem uB_and (x c : Int) : uB (andI x c) = true := u64_uB _
theorem zB_cnt (x c : Int) : zB (cntI x c) = true := i64_zB _
theorem nW_any : nW anyN = true := rfl
def movedOrc (b15 b58 : Bool) : Orc := fun f t _ => if Nat.beq f 68 then (if Nat.beq t 15 then some (.bool b15) else if Nat.beq t 58 then some (.bool b58) else none) else none
set_option maxHeartbeats 0 in
set_option maxRecDepth 1000000 in
theorem moved_l1_r (a b : NI) (he : ([(b2i (oneK b), 1), (b2i (nW a && zB (cntI (oneI b) 63)), 1)] : Cs).map (·.1) = ([(b2i (oneK b), 1), (b2i (nW a && zB (cntI (oneI b) 63)), 1)] : Cs).map (·.2)) (w : World) : Calls Try.prog 68 #[.int .u8 96, VN a, VN b] w fun e w' => e = .returned (VN (lshI a (cntI (oneI b) 63))) ∧ Gr w w' :=
  rk hk6_ok (movedOrc true true) (cs := ([(b2i (oneK b), 1), (b2i (nW a && zB (cntI (oneI b) 63)), 1)] : Cs)) rfl (by kernel_rfl) (by kernel_rfl) he w
theorem moved_l1 (a b : NI) (h1 : (nW a && zB (cntI (oneI b) 63)) = true) (_h2 : (tW a.t && zB (cntI (oneI b) 63)) = true) (_h3 : (sW a.s && zB (cntI (oneI b) 63)) = true) (_h4 : uB a.s.hi = true) (k : oneK b = true) (w : World) : Calls Try.prog 68 #[.int .u8 96, VN a, VN b] w fun e w' => e = .returned (VN (lshI a (cntI (oneI b) 63))) ∧ Gr w w' :=
  moved_l1_r a b (by rw [k, h1]; rfl) w
set_option maxHeartbeats 0 in
set_option maxRecDepth 1000000 in
theorem moved_r1_r (a b : NI) (he : ([(b2i (oneK b), 1), (b2i (tW a.t && zB (cntI (oneI b) 63)), 1), (b2i (sW a.s && zB (cntI (oneI b) 63)), 1)] : Cs).map (·.1) = ([(b2i (oneK b), 1), (b2i (tW a.t && zB (cntI (oneI b) 63)), 1), (b2i (sW a.s && zB (cntI (oneI b) 63)), 1)] : Cs).map (·.2)) (w : World) : Calls Try.prog 68 #[.int .u8 112, VN a, VN b] w fun e w' => e = .returned (VN ⟨tRshI a.t (cntI (oneI b) 63), sRshI a.s (cntI (oneI b) 63)⟩) ∧ Gr w w' :=
  rk hk6_ok (movedOrc true true) (cs := ([(b2i (oneK b), 1), (b2i (tW a.t && zB (cntI (oneI b) 63)), 1), (b2i (sW a.s && zB (cntI (oneI b) 63)), 1)] : Cs)) rfl (by kernel_rfl) (by kernel_rfl) he w
theorem moved_r1 (a b : NI) (_h1 : (nW a && zB (cntI (oneI b) 63)) = true) (h2 : (tW a.t && zB (cntI (oneI b) 63)) = true) (h3 : (sW a.s && zB (cntI (oneI b) 63)) = true) (_h4 : uB a.s.hi = true) (k : oneK b = true) (w : World) : Calls Try.prog 68 #[.int .u8 112, VN a, VN b] w fun e w' => e = .returned (VN ⟨tRshI a.t (cntI (oneI b) 63), sRshI a.s (cntI (oneI b) 63)⟩) ∧ Gr w w' :=
  moved_r1_r a b (by rw [k, h2, h3]; rfl) w
set_option maxHeartbeats 0 in
set_option maxRecDepth 1000000 in
theorem moved_a1_r (a b : NI) (he : ([(b2i (oneK b), 1), (b2i (nW a && zB (cntI (oneI b) 63)), 1)] : Cs).map (·.1) = ([(b2i (oneK b), 1), (b2i (nW a && zB (cntI (oneI b) 63)), 1)] : Cs).map (·.2)) (w : World) : Calls Try.prog 68 #[.int .u8 192, VN a, VN b] w fun e w' => e = .returned (VN (arshI a (cntI (oneI b) 63))) ∧ Gr w w' :=
  rk hk6_ok (movedOrc true true) (cs := ([(b2i (oneK b), 1), (b2i (nW a && zB (cntI (oneI b) 63)), 1)] : Cs)) rfl (by kernel_rfl) (by kernel_rfl) he w
theorem moved_a1 (a b : NI) (h1 : (nW a && zB (cntI (oneI b) 63)) = true) (_h2 : (tW a.t && zB (cntI (oneI b) 63)) = true) (_h3 : (sW a.s && zB (cntI (oneI b) 63)) = true) (_h4 : uB a.s.hi = true) (k : oneK b = true) (w : World) : Calls Try.prog 68 #[.int .u8 192, VN a, VN b] w fun e w' => e = .returned (VN (arshI a (cntI (oneI b) 63))) ∧ Gr w w' :=
  moved_a1_r a b (by rw [k, h1]; rfl) w
set_option maxHeartbeats 0 in
set_option maxRecDepth 1000000 in
theorem moved_l0_r (a b : NI) (he : ([(b2i (oneK b), 0)] : Cs).map (·.1) = ([(b2i (oneK b), 0)] : Cs).map (·.2)) (w : World) : Calls Try.prog 68 #[.int .u8 96, VN a, VN b] w fun e w' => e = .returned (VN anyN) ∧ Gr w w' :=
  rk hk6_ok (movedOrc false true) (cs := ([(b2i (oneK b), 0)] : Cs)) rfl (by kernel_rfl) (by kernel_rfl) he w
theorem moved_l0 (a b : NI) (_h1 : (nW a && zB (cntI (oneI b) 63)) = true) (_h2 : (tW a.t && zB (cntI (oneI b) 63)) = true) (_h3 : (sW a.s && zB (cntI (oneI b) 63)) = true) (_h4 : uB a.s.hi = true) (k : oneK b = false) (w : World) : Calls Try.prog 68 #[.int .u8 96, VN a, VN b] w fun e w' => e = .returned (VN anyN) ∧ Gr w w' :=
  moved_l0_r a b (by rw [k]; rfl) w
set_option maxHeartbeats 0 in
set_option maxRecDepth 1000000 in
theorem moved_r0_r (a b : NI) (he : ([(b2i (oneK b), 0), (b2i (uB a.s.hi), 1)] : Cs).map (·.1) = ([(b2i (oneK b), 0), (b2i (uB a.s.hi), 1)] : Cs).map (·.2)) (w : World) : Calls Try.prog 68 #[.int .u8 112, VN a, VN b] w fun e w' => e = .returned (VN (uptoI a.s.hi)) ∧ Gr w w' :=
  rk hk6_ok (movedOrc false true) (cs := ([(b2i (oneK b), 0), (b2i (uB a.s.hi), 1)] : Cs)) rfl (by kernel_rfl) (by kernel_rfl) he w
theorem moved_r0 (a b : NI) (_h1 : (nW a && zB (cntI (oneI b) 63)) = true) (_h2 : (tW a.t && zB (cntI (oneI b) 63)) = true) (_h3 : (sW a.s && zB (cntI (oneI b) 63)) = true) (h4 : uB a.s.hi = true) (k : oneK b = false) (w : World) : Calls Try.prog 68 #[.int .u8 112, VN a, VN b] w fun e w' => e = .returned (VN (uptoI a.s.hi)) ∧ Gr w w' :=
  moved_r0_r a b (by rw [k, h4]; rfl) w
set_option maxHeartbeats 0 in
set_option maxRecDepth 1000000 in
theorem moved_a0t_r (a b : NI) (he : ([(b2i (oneK b), 0), (b2i (decide (a.s.slo ≥ 0)), 1), (b2i (uB a.s.hi), 1)] : Cs).map (·.1) = ([(b2i (oneK b), 0), (b2i (decide (a.s.slo ≥ 0)), 1), (b2i (uB a.s.hi), 1)] : Cs).map (·.2)) (w : World) : Calls Try.prog 68 #[.int .u8 192, VN a, VN b] w fun e w' => e = .returned (VN (uptoI a.s.hi)) ∧ Gr w w' :=
  rk hk6_ok (movedOrc false true) (cs := ([(b2i (oneK b), 0), (b2i (decide (a.s.slo ≥ 0)), 1), (b2i (uB a.s.hi), 1)] : Cs)) rfl (by kernel_rfl) (by kernel_rfl) he w
theorem moved_a0t (a b : NI) (_h1 : (nW a && zB (cntI (oneI b) 63)) = true) (_h2 : (tW a.t && zB (cntI (oneI b) 63)) = true) (_h3 : (sW a.s && zB (cntI (oneI b) 63)) = true) (h4 : uB a.s.hi = true) (k : oneK b = false) (z : decide (a.s.slo ≥ 0) = true) (w : World) : Calls Try.prog 68 #[.int .u8 192, VN a, VN b] w fun e w' => e = .returned (VN (uptoI a.s.hi)) ∧ Gr w w' :=
  moved_a0t_r a b (by rw [k, z, h4]; rfl) w
set_option maxHeartbeats 0 in
set_option maxRecDepth 1000000 in
theorem moved_a0f_r (a b : NI) (he : ([(b2i (oneK b), 0), (b2i (decide (a.s.slo ≥ 0)), 0)] : Cs).map (·.1) = ([(b2i (oneK b), 0), (b2i (decide (a.s.slo ≥ 0)), 0)] : Cs).map (·.2)) (w : World) : Calls Try.prog 68 #[.int .u8 192, VN a, VN b] w fun e w' => e = .returned (VN ⟨anyT, ⟨0, 18446744073709551615, a.s.slo, if -1 > a.s.shi then -1 else a.s.shi⟩⟩) ∧ Gr w w' :=
  rk hk6_ok (movedOrc false false) (cs := ([(b2i (oneK b), 0), (b2i (decide (a.s.slo ≥ 0)), 0)] : Cs)) rfl (by kernel_rfl) (by kernel_rfl) he w
theorem moved_a0f (a b : NI) (_h1 : (nW a && zB (cntI (oneI b) 63)) = true) (_h2 : (tW a.t && zB (cntI (oneI b) 63)) = true) (_h3 : (sW a.s && zB (cntI (oneI b) 63)) = true) (_h4 : uB a.s.hi = true) (k : oneK b = false) (z : decide (a.s.slo ≥ 0) = false) (w : World) : Calls Try.prog 68 #[.int .u8 192, VN a, VN b] w fun e w' => e = .returned (VN ⟨anyT, ⟨0, 18446744073709551615, a.s.slo, if -1 > a.s.shi then -1 else a.s.shi⟩⟩) ∧ Gr w w' :=
  moved_a0f_r a b (by rw [k, z]; rfl) w
theorem c_moved (op : Int) (a b : NI) (ho : op = 96 ∨ op = 112 ∨ op = 192) (hw : (nW a && nW b) = true) (w : World) : Calls Try.prog 68 #[.int .u8 op, VN a, VN b] w fun e w' => e = .returned (VN (movedI op a b)) ∧ Gr w w' := by
  simp only [Bool.and_eq_true] at hw
  have hn := hw.1
  unfold nW sW at hn
  simp only [Bool.and_eq_true] at hn
  have h1 : (nW a && zB (cntI (oneI b) 63)) = true := by rw [hw.1, zB_cnt]; rfl
  have h2 : (tW a.t && zB (cntI (oneI b) 63)) = true := by rw [hn.1, zB_cnt]; rfl
  have h3 : (sW a.s && zB (cntI (oneI b) 63)) = true := by rw [zB_cnt]; unfold sW; rw [hn.2.1.1.1, hn.2.1.1.2, hn.2.1.2, hn.2.2]; rfl
  have h4 := hn.2.1.1.2
  cases k : oneK b with
  | true =>
    rcases ho with rfl | rfl | rfl
    · exact ret_eq (by simp only [movedI, k]; rfl) (moved_l1 a b h1 h2 h3 h4 k w)
    · exact ret_eq (by simp only [movedI, k]; rfl) (moved_r1 a b h1 h2 h3 h4 k w)
    · exact ret_eq (by simp only [movedI, k]; rfl) (moved_a1 a b h1 h2 h3 h4 k w)
  | false =>
    rcases ho with rfl | rfl | rfl
    · exact ret_eq (by simp only [movedI, k]; rfl) (moved_l0 a b h1 h2 h3 h4 k w)
    · exact ret_eq (by simp only [movedI, k]; rfl) (moved_r0 a b h1 h2 h3 h4 k w)
    · cases z : decide (a.s.slo ≥ 0) with
      | true => exact ret_eq (by simp only [movedI, k, z]; rfl) (moved_a0t a b h1 h2 h3 h4 k z w)
      | false => exact ret_eq (by simp only [movedI, k, z]; rfl) (moved_a0f a b h1 h2 h3 h4 k z w)
theorem zB_max {x : Int} (h : zB x = true) : zB (if -1 > x then -1 else x) = true := by
  split
  · rfl
  · exact h
theorem nW_moved (op : Int) {a b : NI} (ha : nW a = true) : nW (movedI op a b) = true := by
  have ha' := ha
  unfold nW sW at ha
  simp only [Bool.and_eq_true] at ha
  unfold movedI
  split
  · split
    · exact nW_lsh _ _
    · split
      · unfold nW; simp only [tRshI, sRshI, tW_tN, sW_sN, Bool.and_self]
      · exact nW_arsh _ _
  · split
    · exact nW_upto ha.2.1.1.2
    · split
      · split
        · exact nW_upto ha.2.1.1.2
        · unfold nW sW
          simp only [ha.2.1.2, zB_max ha.2.2, Bool.and_true]
          rfl
      · rfl
def hk_moved : Hook := fun f args _ =>
  if Nat.beq f 68 then
    match args with
    | [.int .u8 a, .agg ⟨[.int .u64 b0, .int .u64 b1, .int .u64 b2, .int .u64 b3, .int .i64 b4, .int .i64 b5]⟩, .agg ⟨[.int .u64 c0, .int .u64 c1, .int .u64 c2, .int .u64 c3, .int .i64 c4, .int .i64 c5]⟩] =>
      some (VN (movedI a ⟨⟨b0, b1⟩, ⟨b2, b3, b4, b5⟩⟩ ⟨⟨c0, c1⟩, ⟨c2, c3, c4, c5⟩⟩), [(b2i ((a == 96 || a == 112 || a == 192) && (nW ⟨⟨b0, b1⟩, ⟨b2, b3, b4, b5⟩⟩ && nW ⟨⟨c0, c1⟩, ⟨c2, c3, c4, c5⟩⟩)), 1)])
    | _ => none
  else none
theorem hk_moved_ok : HookOk Try.prog hk_moved := by
  intro f args h v cs hv hc wb k s w H
  unfold hk_moved at hv
  split at hv
  · rename_i hf
    obtain rfl := Nat.eq_of_beq_eq_true hf
    split at hv
    · rename_i a b0 b1 b2 b3 b4 b5 c0 c1 c2 c3 c4 c5
      cases hv
      have hw := pair1 hc rfl
      rw [Bool.and_eq_true] at hw
      refine c_moved a _ _ ?_ hw.2 w
      have := hw.1
      simp only [Bool.or_eq_true, beq_iff_eq] at this
      omega
    · cases hv
  · cases hv
def hk7 : Hook := orHook hk_tight (orHook hk_settled (orHook hk_in (orHook hk_supto (orHook hk_upto (orHook hk_lsh (orHook hk_arsh (orHook hk_ext (orHook hk_low (orHook hk_const (orHook hk_moved (hk2)))))))))))
theorem hk7_ok : HookOk Try.prog hk7 := orHook_ok hk_tight_ok (orHook_ok hk_settled_ok (orHook_ok hk_in_ok (orHook_ok hk_supto_ok (orHook_ok hk_upto_ok (orHook_ok hk_lsh_ok (orHook_ok hk_arsh_ok (orHook_ok hk_ext_ok (orHook_ok hk_low_ok (orHook_ok hk_const_ok (orHook_ok hk_moved_ok (hk2_ok)))))))))))
def doI (op : Int) (a b : NI) : NI :=
  if op = 0 then ⟨tAddI a.t b.t, sAddI a.s b.s⟩
  else if op = 16 then ⟨tSubI a.t b.t, sSubI a.s b.s⟩
  else if op = 32 then ⟨tMulI a.t b.t, sMulI a.s b.s⟩
  else if op = 64 then ⟨tOrI a.t b.t, sOrI a.s b.s⟩
  else if op = 80 then ⟨tAndI a.t b.t, sAndI a.s b.s⟩
  else if op = 160 then ⟨tXorI a.t b.t, sXorI a.s b.s⟩
  else if op = 48 then ⟨anyT, sDivI a.s b.s⟩
  else if op = 144 then ⟨anyT, sModI a.s b.s⟩
  else if op = 128 then ⟨tSubI (constI 0).t a.t, sSubI (constI 0).s a.s⟩
  else if op = 176 then b
  else if op = 96 then movedI 96 a b
  else if op = 112 then movedI 112 a b
  else if op = 192 then movedI 192 a b
  else constI 0
set_option maxHeartbeats 0 in
set_option maxRecDepth 1000000 in
theorem do_0_r (a b : NI) (he : ([(b2i (tW a.t && tW b.t), 1), (b2i (sW a.s && sW b.s), 1)] : Cs).map (·.1) = ([(b2i (tW a.t && tW b.t), 1), (b2i (sW a.s && sW b.s), 1)] : Cs).map (·.2)) (w : World) : Calls Try.prog 33 #[.int .u8 0, VN a, VN b] w fun e w' => e = .returned (VN ⟨tAddI a.t b.t, sAddI a.s b.s⟩) ∧ Gr w w' :=
  rk hk7_ok noOrc (cs := ([(b2i (tW a.t && tW b.t), 1), (b2i (sW a.s && sW b.s), 1)] : Cs)) rfl (by kernel_rfl) (by kernel_rfl) he w
theorem do_0 (a b : NI) (h1 : (tW a.t && tW b.t) = true) (h2 : (sW a.s && sW b.s) = true) (_h5 : (nW a && nW b) = true) (_h6 : (nW (constI 0) && nW a) = true) (w : World) : Calls Try.prog 33 #[.int .u8 0, VN a, VN b] w fun e w' => e = .returned (VN ⟨tAddI a.t b.t, sAddI a.s b.s⟩) ∧ Gr w w' :=
  do_0_r a b (by rw [h1, h2]; rfl) w
set_option maxHeartbeats 0 in
set_option maxRecDepth 1000000 in
theorem do_16_r (a b : NI) (he : ([(b2i (tW a.t && tW b.t), 1), (b2i (sW a.s && sW b.s), 1)] : Cs).map (·.1) = ([(b2i (tW a.t && tW b.t), 1), (b2i (sW a.s && sW b.s), 1)] : Cs).map (·.2)) (w : World) : Calls Try.prog 33 #[.int .u8 16, VN a, VN b] w fun e w' => e = .returned (VN ⟨tSubI a.t b.t, sSubI a.s b.s⟩) ∧ Gr w w' :=
  rk hk7_ok noOrc (cs := ([(b2i (tW a.t && tW b.t), 1), (b2i (sW a.s && sW b.s), 1)] : Cs)) rfl (by kernel_rfl) (by kernel_rfl) he w
theorem do_16 (a b : NI) (h1 : (tW a.t && tW b.t) = true) (h2 : (sW a.s && sW b.s) = true) (_h5 : (nW a && nW b) = true) (_h6 : (nW (constI 0) && nW a) = true) (w : World) : Calls Try.prog 33 #[.int .u8 16, VN a, VN b] w fun e w' => e = .returned (VN ⟨tSubI a.t b.t, sSubI a.s b.s⟩) ∧ Gr w w' :=
  do_16_r a b (by rw [h1, h2]; rfl) w
set_option maxHeartbeats 0 in
set_option maxRecDepth 1000000 in
theorem do_32_r (a b : NI) (he : ([(b2i (tW a.t && tW b.t), 1), (b2i (sW a.s && sW b.s), 1)] : Cs).map (·.1) = ([(b2i (tW a.t && tW b.t), 1), (b2i (sW a.s && sW b.s), 1)] : Cs).map (·.2)) (w : World) : Calls Try.prog 33 #[.int .u8 32, VN a, VN b] w fun e w' => e = .returned (VN ⟨tMulI a.t b.t, sMulI a.s b.s⟩) ∧ Gr w w' :=
  rk hk7_ok noOrc (cs := ([(b2i (tW a.t && tW b.t), 1), (b2i (sW a.s && sW b.s), 1)] : Cs)) rfl (by kernel_rfl) (by kernel_rfl) he w
theorem do_32 (a b : NI) (h1 : (tW a.t && tW b.t) = true) (h2 : (sW a.s && sW b.s) = true) (_h5 : (nW a && nW b) = true) (_h6 : (nW (constI 0) && nW a) = true) (w : World) : Calls Try.prog 33 #[.int .u8 32, VN a, VN b] w fun e w' => e = .returned (VN ⟨tMulI a.t b.t, sMulI a.s b.s⟩) ∧ Gr w w' :=
  do_32_r a b (by rw [h1, h2]; rfl) w
set_option maxHeartbeats 0 in
set_option maxRecDepth 1000000 in
theorem do_64_r (a b : NI) (he : ([(b2i (tW a.t && tW b.t), 1), (b2i (sW a.s && sW b.s), 1)] : Cs).map (·.1) = ([(b2i (tW a.t && tW b.t), 1), (b2i (sW a.s && sW b.s), 1)] : Cs).map (·.2)) (w : World) : Calls Try.prog 33 #[.int .u8 64, VN a, VN b] w fun e w' => e = .returned (VN ⟨tOrI a.t b.t, sOrI a.s b.s⟩) ∧ Gr w w' :=
  rk hk7_ok noOrc (cs := ([(b2i (tW a.t && tW b.t), 1), (b2i (sW a.s && sW b.s), 1)] : Cs)) rfl (by kernel_rfl) (by kernel_rfl) he w
theorem do_64 (a b : NI) (h1 : (tW a.t && tW b.t) = true) (h2 : (sW a.s && sW b.s) = true) (_h5 : (nW a && nW b) = true) (_h6 : (nW (constI 0) && nW a) = true) (w : World) : Calls Try.prog 33 #[.int .u8 64, VN a, VN b] w fun e w' => e = .returned (VN ⟨tOrI a.t b.t, sOrI a.s b.s⟩) ∧ Gr w w' :=
  do_64_r a b (by rw [h1, h2]; rfl) w
set_option maxHeartbeats 0 in
set_option maxRecDepth 1000000 in
theorem do_80_r (a b : NI) (he : ([(b2i (tW a.t && tW b.t), 1), (b2i (sW a.s && sW b.s), 1)] : Cs).map (·.1) = ([(b2i (tW a.t && tW b.t), 1), (b2i (sW a.s && sW b.s), 1)] : Cs).map (·.2)) (w : World) : Calls Try.prog 33 #[.int .u8 80, VN a, VN b] w fun e w' => e = .returned (VN ⟨tAndI a.t b.t, sAndI a.s b.s⟩) ∧ Gr w w' :=
  rk hk7_ok noOrc (cs := ([(b2i (tW a.t && tW b.t), 1), (b2i (sW a.s && sW b.s), 1)] : Cs)) rfl (by kernel_rfl) (by kernel_rfl) he w
theorem do_80 (a b : NI) (h1 : (tW a.t && tW b.t) = true) (h2 : (sW a.s && sW b.s) = true) (_h5 : (nW a && nW b) = true) (_h6 : (nW (constI 0) && nW a) = true) (w : World) : Calls Try.prog 33 #[.int .u8 80, VN a, VN b] w fun e w' => e = .returned (VN ⟨tAndI a.t b.t, sAndI a.s b.s⟩) ∧ Gr w w' :=
  do_80_r a b (by rw [h1, h2]; rfl) w
set_option maxHeartbeats 0 in
set_option maxRecDepth 1000000 in
theorem do_160_r (a b : NI) (he : ([(b2i (tW a.t && tW b.t), 1), (b2i (sW a.s && sW b.s), 1)] : Cs).map (·.1) = ([(b2i (tW a.t && tW b.t), 1), (b2i (sW a.s && sW b.s), 1)] : Cs).map (·.2)) (w : World) : Calls Try.prog 33 #[.int .u8 160, VN a, VN b] w fun e w' => e = .returned (VN ⟨tXorI a.t b.t, sXorI a.s b.s⟩) ∧ Gr w w' :=
  rk hk7_ok noOrc (cs := ([(b2i (tW a.t && tW b.t), 1), (b2i (sW a.s && sW b.s), 1)] : Cs)) rfl (by kernel_rfl) (by kernel_rfl) he w
theorem do_160 (a b : NI) (h1 : (tW a.t && tW b.t) = true) (h2 : (sW a.s && sW b.s) = true) (_h5 : (nW a && nW b) = true) (_h6 : (nW (constI 0) && nW a) = true) (w : World) : Calls Try.prog 33 #[.int .u8 160, VN a, VN b] w fun e w' => e = .returned (VN ⟨tXorI a.t b.t, sXorI a.s b.s⟩) ∧ Gr w w' :=
  do_160_r a b (by rw [h1, h2]; rfl) w
set_option maxHeartbeats 0 in
set_option maxRecDepth 1000000 in
theorem do_48_r (a b : NI) (he : ([(b2i (sW a.s && sW b.s), 1)] : Cs).map (·.1) = ([(b2i (sW a.s && sW b.s), 1)] : Cs).map (·.2)) (w : World) : Calls Try.prog 33 #[.int .u8 48, VN a, VN b] w fun e w' => e = .returned (VN ⟨anyT, sDivI a.s b.s⟩) ∧ Gr w w' :=
  rk hk7_ok noOrc (cs := ([(b2i (sW a.s && sW b.s), 1)] : Cs)) rfl (by kernel_rfl) (by kernel_rfl) he w
theorem do_48 (a b : NI) (_h1 : (tW a.t && tW b.t) = true) (h2 : (sW a.s && sW b.s) = true) (_h5 : (nW a && nW b) = true) (_h6 : (nW (constI 0) && nW a) = true) (w : World) : Calls Try.prog 33 #[.int .u8 48, VN a, VN b] w fun e w' => e = .returned (VN ⟨anyT, sDivI a.s b.s⟩) ∧ Gr w w' :=
  do_48_r a b (by rw [h2]; rfl) w
set_option maxHeartbeats 0 in
set_option maxRecDepth 1000000 in
theorem do_144_r (a b : NI) (he : ([(b2i (sW a.s && sW b.s), 1)] : Cs).map (·.1) = ([(b2i (sW a.s && sW b.s), 1)] : Cs).map (·.2)) (w : World) : Calls Try.prog 33 #[.int .u8 144, VN a, VN b] w fun e w' => e = .returned (VN ⟨anyT, sModI a.s b.s⟩) ∧ Gr w w' :=
  rk hk7_ok noOrc (cs := ([(b2i (sW a.s && sW b.s), 1)] : Cs)) rfl (by kernel_rfl) (by kernel_rfl) he w
theorem do_144 (a b : NI) (_h1 : (tW a.t && tW b.t) = true) (h2 : (sW a.s && sW b.s) = true) (_h5 : (nW a && nW b) = true) (_h6 : (nW (constI 0) && nW a) = true) (w : World) : Calls Try.prog 33 #[.int .u8 144, VN a, VN b] w fun e w' => e = .returned (VN ⟨anyT, sModI a.s b.s⟩) ∧ Gr w w' :=
  do_144_r a b (by rw [h2]; rfl) w
theorem c_sub (a b : NI) (hw : (nW a && nW b) = true) (w : World) : Calls Try.prog 33 #[.int .u8 16, VN a, VN b] w fun e w' => e = .returned (VN ⟨tSubI a.t b.t, sSubI a.s b.s⟩) ∧ Gr w w' := by
  have h5 := hw
  unfold nW at hw
  simp only [Bool.and_eq_true] at hw
  exact do_16_r a b (by rw [hw.1.1, hw.2.1, hw.1.2, hw.2.2]; rfl) w
def hk_sub : Hook := fun f args _ =>
  if Nat.beq f 33 then
    match args with
    | [.int .u8 16, .agg ⟨[.int .u64 b0, .int .u64 b1, .int .u64 b2, .int .u64 b3, .int .i64 b4, .int .i64 b5]⟩, .agg ⟨[.int .u64 c0, .int .u64 c1, .int .u64 c2, .int .u64 c3, .int .i64 c4, .int .i64 c5]⟩] =>
      some (VN ⟨tSubI ⟨b0, b1⟩ ⟨c0, c1⟩, sSubI ⟨b2, b3, b4, b5⟩ ⟨c2, c3, c4, c5⟩⟩, [(b2i (nW ⟨⟨b0, b1⟩, ⟨b2, b3, b4, b5⟩⟩ && nW ⟨⟨c0, c1⟩, ⟨c2, c3, c4, c5⟩⟩), 1)])
    | _ => none
  else none
theorem hk_sub_ok : HookOk Try.prog hk_sub := by
  intro f args h v cs hv hc wb k s w H
  unfold hk_sub at hv
  split at hv
  · rename_i hf
    obtain rfl := Nat.eq_of_beq_eq_true hf
    split at hv
    · rename_i b0 b1 b2 b3 b4 b5 c0 c1 c2 c3 c4 c5
      cases hv
      have hw := pair1 hc rfl
      exact c_sub ⟨⟨b0, b1⟩, ⟨b2, b3, b4, b5⟩⟩ ⟨⟨c0, c1⟩, ⟨c2, c3, c4, c5⟩⟩ hw w
    · cases hv
  · cases hv
def hk7s : Hook := orHook hk_sub (hk7)
theorem hk7s_ok : HookOk Try.prog hk7s := orHook_ok hk_sub_ok (hk7_ok)
set_option maxHeartbeats 0 in
set_option maxRecDepth 1000000 in
theorem do_128_r (a b : NI) (he : ([(b2i (uB 0), 1), (b2i (nW (constI 0) && nW a), 1)] : Cs).map (·.1) = ([(b2i (uB 0), 1), (b2i (nW (constI 0) && nW a), 1)] : Cs).map (·.2)) (w : World) : Calls Try.prog 33 #[.int .u8 128, VN a, VN b] w fun e w' => e = .returned (VN ⟨tSubI (constI 0).t a.t, sSubI (constI 0).s a.s⟩) ∧ Gr w w' :=
  rk hk7s_ok noOrc (cs := ([(b2i (uB 0), 1), (b2i (nW (constI 0) && nW a), 1)] : Cs)) rfl (by kernel_rfl) (by kernel_rfl) he w
theorem do_128 (a b : NI) (_h1 : (tW a.t && tW b.t) = true) (_h2 : (sW a.s && sW b.s) = true) (_h5 : (nW a && nW b) = true) (h6 : (nW (constI 0) && nW a) = true) (w : World) : Calls Try.prog 33 #[.int .u8 128, VN a, VN b] w fun e w' => e = .returned (VN ⟨tSubI (constI 0).t a.t, sSubI (constI 0).s a.s⟩) ∧ Gr w w' :=
  do_128_r a b (by rw [h6]; rfl) w
set_option maxHeartbeats 0 in
set_option maxRecDepth 1000000 in
theorem do_176_r (a b : NI) (he : ([] : Cs).map (·.1) = ([] : Cs).map (·.2)) (w : World) : Calls Try.prog 33 #[.int .u8 176, VN a, VN b] w fun e w' => e = .returned (VN b) ∧ Gr w w' :=
  rk hk7_ok noOrc (cs := ([] : Cs)) rfl (by kernel_rfl) (by kernel_rfl) he w
theorem do_176 (a b : NI) (_h1 : (tW a.t && tW b.t) = true) (_h2 : (sW a.s && sW b.s) = true) (_h5 : (nW a && nW b) = true) (_h6 : (nW (constI 0) && nW a) = true) (w : World) : Calls Try.prog 33 #[.int .u8 176, VN a, VN b] w fun e w' => e = .returned (VN b) ∧ Gr w w' :=
  do_176_r a b (by rfl) w
set_option maxHeartbeats 0 in
set_option maxRecDepth 1000000 in
theorem do_96_r (a b : NI) (he : ([(b2i (((96 : Int) == 96 || (96 : Int) == 112 || (96 : Int) == 192) && (nW a && nW b)), 1)] : Cs).map (·.1) = ([(b2i (((96 : Int) == 96 || (96 : Int) == 112 || (96 : Int) == 192) && (nW a && nW b)), 1)] : Cs).map (·.2)) (w : World) : Calls Try.prog 33 #[.int .u8 96, VN a, VN b] w fun e w' => e = .returned (VN (movedI 96 a b)) ∧ Gr w w' :=
  rk hk7_ok noOrc (cs := ([(b2i (((96 : Int) == 96 || (96 : Int) == 112 || (96 : Int) == 192) && (nW a && nW b)), 1)] : Cs)) rfl (by kernel_rfl) (by kernel_rfl) he w
theorem do_96 (a b : NI) (_h1 : (tW a.t && tW b.t) = true) (_h2 : (sW a.s && sW b.s) = true) (h5 : (nW a && nW b) = true) (_h6 : (nW (constI 0) && nW a) = true) (w : World) : Calls Try.prog 33 #[.int .u8 96, VN a, VN b] w fun e w' => e = .returned (VN (movedI 96 a b)) ∧ Gr w w' :=
  do_96_r a b (by rw [h5]; rfl) w
set_option maxHeartbeats 0 in
set_option maxRecDepth 1000000 in
theorem do_112_r (a b : NI) (he : ([(b2i (((112 : Int) == 96 || (112 : Int) == 112 || (112 : Int) == 192) && (nW a && nW b)), 1)] : Cs).map (·.1) = ([(b2i (((112 : Int) == 96 || (112 : Int) == 112 || (112 : Int) == 192) && (nW a && nW b)), 1)] : Cs).map (·.2)) (w : World) : Calls Try.prog 33 #[.int .u8 112, VN a, VN b] w fun e w' => e = .returned (VN (movedI 112 a b)) ∧ Gr w w' :=
  rk hk7_ok noOrc (cs := ([(b2i (((112 : Int) == 96 || (112 : Int) == 112 || (112 : Int) == 192) && (nW a && nW b)), 1)] : Cs)) rfl (by kernel_rfl) (by kernel_rfl) he w
theorem do_112 (a b : NI) (_h1 : (tW a.t && tW b.t) = true) (_h2 : (sW a.s && sW b.s) = true) (h5 : (nW a && nW b) = true) (_h6 : (nW (constI 0) && nW a) = true) (w : World) : Calls Try.prog 33 #[.int .u8 112, VN a, VN b] w fun e w' => e = .returned (VN (movedI 112 a b)) ∧ Gr w w' :=
  do_112_r a b (by rw [h5]; rfl) w
set_option maxHeartbeats 0 in
set_option maxRecDepth 1000000 in
theorem do_192_r (a b : NI) (he : ([(b2i (((192 : Int) == 96 || (192 : Int) == 112 || (192 : Int) == 192) && (nW a && nW b)), 1)] : Cs).map (·.1) = ([(b2i (((192 : Int) == 96 || (192 : Int) == 112 || (192 : Int) == 192) && (nW a && nW b)), 1)] : Cs).map (·.2)) (w : World) : Calls Try.prog 33 #[.int .u8 192, VN a, VN b] w fun e w' => e = .returned (VN (movedI 192 a b)) ∧ Gr w w' :=
  rk hk7_ok noOrc (cs := ([(b2i (((192 : Int) == 96 || (192 : Int) == 112 || (192 : Int) == 192) && (nW a && nW b)), 1)] : Cs)) rfl (by kernel_rfl) (by kernel_rfl) he w
theorem do_192 (a b : NI) (_h1 : (tW a.t && tW b.t) = true) (_h2 : (sW a.s && sW b.s) = true) (h5 : (nW a && nW b) = true) (_h6 : (nW (constI 0) && nW a) = true) (w : World) : Calls Try.prog 33 #[.int .u8 192, VN a, VN b] w fun e w' => e = .returned (VN (movedI 192 a b)) ∧ Gr w w' :=
  do_192_r a b (by rw [h5]; rfl) w
def doOrc : Orc := fun f t _ => if Nat.beq f 33 && (Nat.beq t 9 || Nat.beq t 22 || Nat.beq t 35 || Nat.beq t 48 || Nat.beq t 61 || Nat.beq t 74 || Nat.beq t 87 || Nat.beq t 96 || Nat.beq t 105 || Nat.beq t 110 || Nat.beq t 113 || Nat.beq t 114 || Nat.beq t 115) then some (.bool false) else none
set_option maxHeartbeats 0 in
set_option maxRecDepth 1000000 in
theorem do_no_r (op : Int) (a b : NI) (he : ([(b2i (op == 0), 0), (b2i (op == 16), 0), (b2i (op == 32), 0), (b2i (op == 64), 0), (b2i (op == 80), 0), (b2i (op == 160), 0), (b2i (op == 48), 0), (b2i (op == 144), 0), (b2i (op == 128), 0), (b2i (op == 176), 0), (b2i (op == 96), 0), (b2i (op == 112), 0), (b2i (op == 192), 0), (b2i (uB 0), 1)] : Cs).map (·.1) = ([(b2i (op == 0), 0), (b2i (op == 16), 0), (b2i (op == 32), 0), (b2i (op == 64), 0), (b2i (op == 80), 0), (b2i (op == 160), 0), (b2i (op == 48), 0), (b2i (op == 144), 0), (b2i (op == 128), 0), (b2i (op == 176), 0), (b2i (op == 96), 0), (b2i (op == 112), 0), (b2i (op == 192), 0), (b2i (uB 0), 1)] : Cs).map (·.2)) (w : World) : Calls Try.prog 33 #[.int .u8 op, VN a, VN b] w fun e w' => e = .returned (VN (constI 0)) ∧ Gr w w' :=
  rk hk7_ok doOrc (cs := ([(b2i (op == 0), 0), (b2i (op == 16), 0), (b2i (op == 32), 0), (b2i (op == 64), 0), (b2i (op == 80), 0), (b2i (op == 160), 0), (b2i (op == 48), 0), (b2i (op == 144), 0), (b2i (op == 128), 0), (b2i (op == 176), 0), (b2i (op == 96), 0), (b2i (op == 112), 0), (b2i (op == 192), 0), (b2i (uB 0), 1)] : Cs)) rfl (by kernel_rfl) (by kernel_rfl) he w
theorem do_no (op : Int) (a b : NI) (k0 : (op == 0) = false) (k16 : (op == 16) = false) (k32 : (op == 32) = false) (k64 : (op == 64) = false) (k80 : (op == 80) = false) (k160 : (op == 160) = false) (k48 : (op == 48) = false) (k144 : (op == 144) = false) (k128 : (op == 128) = false) (k176 : (op == 176) = false) (k96 : (op == 96) = false) (k112 : (op == 112) = false) (k192 : (op == 192) = false) (w : World) : Calls Try.prog 33 #[.int .u8 op, VN a, VN b] w fun e w' => e = .returned (VN (constI 0)) ∧ Gr w w' :=
  do_no_r op a b (by rw [k0, k16, k32, k64, k80, k160, k48, k144, k128, k176, k96, k112, k192]; rfl) w
theorem c_do (op : Int) (a b : NI) (hw : (nW a && nW b) = true) (w : World) : Calls Try.prog 33 #[.int .u8 op, VN a, VN b] w fun e w' => e = .returned (VN (doI op a b)) ∧ Gr w w' := by
  have h5 := hw
  unfold nW at hw
  simp only [Bool.and_eq_true] at hw
  have h1 : (tW a.t && tW b.t) = true := by rw [hw.1.1, hw.2.1]; rfl
  have h2 : (sW a.s && sW b.s) = true := by rw [hw.1.2, hw.2.2]; rfl
  have h6 : (nW (constI 0) && nW a) = true := by rw [nW_const rfl]; unfold nW; rw [hw.1.1, hw.1.2]; rfl
  rcases alu_cases op with rfl | rfl | rfl | rfl | rfl | rfl | rfl | rfl | rfl | rfl | rfl | rfl | rfl | hn
  · exact ret_eq (by rfl) (do_0 a b h1 h2 h5 h6 w)
  · exact ret_eq (by rfl) (do_16 a b h1 h2 h5 h6 w)
  · exact ret_eq (by rfl) (do_32 a b h1 h2 h5 h6 w)
  · exact ret_eq (by rfl) (do_48 a b h1 h2 h5 h6 w)
  · exact ret_eq (by rfl) (do_144 a b h1 h2 h5 h6 w)
  · exact ret_eq (by rfl) (do_64 a b h1 h2 h5 h6 w)
  · exact ret_eq (by rfl) (do_80 a b h1 h2 h5 h6 w)
  · exact ret_eq (by rfl) (do_160 a b h1 h2 h5 h6 w)
  · exact ret_eq (by rfl) (do_96 a b h1 h2 h5 h6 w)
  · exact ret_eq (by rfl) (do_112 a b h1 h2 h5 h6 w)
  · exact ret_eq (by rfl) (do_192 a b h1 h2 h5 h6 w)
  · exact ret_eq (by rfl) (do_128 a b h1 h2 h5 h6 w)
  · exact ret_eq (by rfl) (do_176 a b h1 h2 h5 h6 w)
  · have ne : ∀ c : Int, ¬ op = c → (op == c) = false := fun c h => by rw [beq_eq_false_iff_ne]; exact h
    obtain ⟨n0, n16, n32, n48, n144, n64, n80, n160, n96, n112, n192, n128, n176⟩ := hn
    refine ret_eq ?_ (do_no op a b (ne 0 n0) (ne 16 n16) (ne 32 n32) (ne 64 n64) (ne 80 n80) (ne 160 n160) (ne 48 n48) (ne 144 n144) (ne 128 n128) (ne 176 n176) (ne 96 n96) (ne 112 n112) (ne 192 n192) w)
    simp only [doI, if_neg n0, if_neg n16, if_neg n32, if_neg n48, if_neg n144, if_neg n64, if_neg n80, if_neg n160, if_neg n96, if_neg n112, if_neg n192, if_neg n128, if_neg n176]
theorem nW_do (op : Int) {a b : NI} (ha : nW a = true) (hb : nW b = true) : nW (doI op a b) = true := by
  rcases alu_cases op with rfl | rfl | rfl | rfl | rfl | rfl | rfl | rfl | rfl | rfl | rfl | rfl | rfl | hn
  · show nW ⟨tAddI a.t b.t, sAddI a.s b.s⟩ = true; unfold nW; simp only [tAddI, sAddI, tW_tN, sW_sN, Bool.and_self]
  · show nW ⟨tSubI a.t b.t, sSubI a.s b.s⟩ = true; unfold nW; simp only [tSubI, sSubI, tW_tN, sW_sN, Bool.and_self]
  · show nW ⟨tMulI a.t b.t, sMulI a.s b.s⟩ = true; unfold nW; simp only [tMulI, sMulI, tW_tN, sW_sN, Bool.and_self]
  · show nW ⟨anyT, sDivI a.s b.s⟩ = true; unfold nW; simp only [sDivI, sW_sN, Bool.and_true]; rfl
  · show nW ⟨anyT, sModI a.s b.s⟩ = true; unfold nW; simp only [sModI, sW_sN, Bool.and_true]; rfl
  · show nW ⟨tOrI a.t b.t, sOrI a.s b.s⟩ = true; unfold nW; simp only [tOrI, sOrI, tW_tN, sW_sN, Bool.and_self]
  · show nW ⟨tAndI a.t b.t, sAndI a.s b.s⟩ = true; unfold nW; simp only [tAndI, sAndI, tW_tN, sW_sN, Bool.and_self]
  · show nW ⟨tXorI a.t b.t, sXorI a.s b.s⟩ = true; unfold nW; simp only [tXorI, sXorI, tW_tN, sW_sN, Bool.and_self]
  · exact nW_moved 96 ha
  · exact nW_moved 112 ha
  · exact nW_moved 192 ha
  · show nW ⟨tSubI (constI 0).t a.t, sSubI (constI 0).s a.s⟩ = true; unfold nW; simp only [tSubI, sSubI, tW_tN, sW_sN, Bool.and_self]
  · exact hb
  · obtain ⟨n0, n16, n32, n48, n144, n64, n80, n160, n96, n112, n192, n128, n176⟩ := hn
    simp only [doI, if_neg n0, if_neg n16, if_neg n32, if_neg n48, if_neg n144, if_neg n64, if_neg n80, if_neg n160, if_neg n96, if_neg n112, if_neg n192, if_neg n128, if_neg n176]
    exact nW_const rfl
def hk_do : Hook := fun f args _ =>
  if Nat.beq f 33 then
    match args with
    | [.int .u8 a, .agg ⟨[.int .u64 b0, .int .u64 b1, .int .u64 b2, .int .u64 b3, .int .i64 b4, .int .i64 b5]⟩, .agg ⟨[.int .u64 c0, .int .u64 c1, .int .u64 c2, .int .u64 c3, .int .i64 c4, .int .i64 c5]⟩] => some (VN (doI a (⟨⟨b0, b1⟩, ⟨b2, b3, b4, b5⟩⟩ : NI) (⟨⟨c0, c1⟩, ⟨c2, c3, c4, c5⟩⟩ : NI)), [(b2i (nW (⟨⟨b0, b1⟩, ⟨b2, b3, b4, b5⟩⟩ : NI) && nW (⟨⟨c0, c1⟩, ⟨c2, c3, c4, c5⟩⟩ : NI)), 1)])
    | _ => none
  else none
theorem hk_do_ok : HookOk Try.prog hk_do := by
  intro f args h v cs hv hc wb k s w H
  unfold hk_do at hv
  split at hv
  · rename_i hf
    obtain rfl := Nat.eq_of_beq_eq_true hf
    split at hv
    · rename_i a b0 b1 b2 b3 b4 b5 c0 c1 c2 c3 c4 c5
      cases hv
      have hw := pair1 hc rfl
      exact c_do a (⟨⟨b0, b1⟩, ⟨b2, b3, b4, b5⟩⟩ : NI) (⟨⟨c0, c1⟩, ⟨c2, c3, c4, c5⟩⟩ : NI) hw w
    · cases hv
  · cases hv
def hk8 : Hook := orHook hk_tight (orHook hk_settled (orHook hk_in (orHook hk_supto (orHook hk_upto (orHook hk_lsh (orHook hk_arsh (orHook hk_ext (orHook hk_low (orHook hk_const (orHook hk_moved (orHook hk_do (hk2))))))))))))
theorem hk8_ok : HookOk Try.prog hk8 := orHook_ok hk_tight_ok (orHook_ok hk_settled_ok (orHook_ok hk_in_ok (orHook_ok hk_supto_ok (orHook_ok hk_upto_ok (orHook_ok hk_lsh_ok (orHook_ok hk_arsh_ok (orHook_ok hk_ext_ok (orHook_ok hk_low_ok (orHook_ok hk_const_ok (orHook_ok hk_moved_ok (orHook_ok hk_do_ok (hk2_ok))))))))))))
def halfDoI (op : Int) (a b : NI) : NI :=
  if op = 192 then (if oneK b then arshI (extI a) (cntI (oneI b) 31) else anyN)
  else if op = 96 then (if oneK b then doI 96 a (constI (andI (oneI b) 31)) else doI 96 a b)
  else if op = 112 then (if oneK b then doI 112 a (constI (andI (oneI b) 31)) else doI 112 a b)
  else doI op a b
def halfOrc (b1 : Bool) : Orc := fun f t _ => if Nat.beq f 35 && Nat.beq t 13 then some (.bool b1) else none
def halfOrc0 : Orc := fun f t _ => if Nat.beq f 35 && (Nat.beq t 16 || Nat.beq t 28 || Nat.beq t 32 || Nat.beq t 35) then some (.bool false) else none
set_option maxHeartbeats 0 in
set_option maxRecDepth 1000000 in
theorem half_192t_r (a b : NI) (he : ([(b2i (oneK b), 1), (b2i (nW a), 1), (b2i (nW (extI a) && zB (cntI (oneI b) 31)), 1)] : Cs).map (·.1) = ([(b2i (oneK b), 1), (b2i (nW a), 1), (b2i (nW (extI a) && zB (cntI (oneI b) 31)), 1)] : Cs).map (·.2)) (w : World) : Calls Try.prog 35 #[.int .u8 192, VN a, VN b] w fun e w' => e = .returned (VN (arshI (extI a) (cntI (oneI b) 31))) ∧ Gr w w' :=
  rk hk8_ok (halfOrc true) (cs := ([(b2i (oneK b), 1), (b2i (nW a), 1), (b2i (nW (extI a) && zB (cntI (oneI b) 31)), 1)] : Cs)) rfl (by kernel_rfl) (by kernel_rfl) he w
theorem half_192t (a b : NI) (h1 : nW a = true) (h2 : (nW (extI a) && zB (cntI (oneI b) 31)) = true) (_h3 : (nW a && nW (constI (andI (oneI b) 31))) = true) (_h4 : (nW a && nW b) = true) (k : oneK b = true) (w : World) : Calls Try.prog 35 #[.int .u8 192, VN a, VN b] w fun e w' => e = .returned (VN (arshI (extI a) (cntI (oneI b) 31))) ∧ Gr w w' :=
  half_192t_r a b (by rw [k, h1, h2]; rfl) w
set_option maxHeartbeats 0 in
set_option maxRecDepth 1000000 in
theorem half_192f_r (a b : NI) (he : ([(b2i (oneK b), 0)] : Cs).map (·.1) = ([(b2i (oneK b), 0)] : Cs).map (·.2)) (w : World) : Calls Try.prog 35 #[.int .u8 192, VN a, VN b] w fun e w' => e = .returned (VN anyN) ∧ Gr w w' :=
  rk hk8_ok (halfOrc false) (cs := ([(b2i (oneK b), 0)] : Cs)) rfl (by kernel_rfl) (by kernel_rfl) he w
theorem half_192f (a b : NI) (_h1 : nW a = true) (_h2 : (nW (extI a) && zB (cntI (oneI b) 31)) = true) (_h3 : (nW a && nW (constI (andI (oneI b) 31))) = true) (_h4 : (nW a && nW b) = true) (k : oneK b = false) (w : World) : Calls Try.prog 35 #[.int .u8 192, VN a, VN b] w fun e w' => e = .returned (VN anyN) ∧ Gr w w' :=
  half_192f_r a b (by rw [k]; rfl) w
set_option maxHeartbeats 0 in
set_option maxRecDepth 1000000 in
theorem half_96t_r (a b : NI) (he : ([(b2i (oneK b), 1), (b2i (uB (andI (oneI b) 31)), 1), (b2i (nW a && nW (constI (andI (oneI b) 31))), 1)] : Cs).map (·.1) = ([(b2i (oneK b), 1), (b2i (uB (andI (oneI b) 31)), 1), (b2i (nW a && nW (constI (andI (oneI b) 31))), 1)] : Cs).map (·.2)) (w : World) : Calls Try.prog 35 #[.int .u8 96, VN a, VN b] w fun e w' => e = .returned (VN (doI 96 a (constI (andI (oneI b) 31)))) ∧ Gr w w' :=
  rk hk8_ok (halfOrc true) (cs := ([(b2i (oneK b), 1), (b2i (uB (andI (oneI b) 31)), 1), (b2i (nW a && nW (constI (andI (oneI b) 31))), 1)] : Cs)) rfl (by kernel_rfl) (by kernel_rfl) he w
theorem half_96t (a b : NI) (_h1 : nW a = true) (_h2 : (nW (extI a) && zB (cntI (oneI b) 31)) = true) (h3 : (nW a && nW (constI (andI (oneI b) 31))) = true) (_h4 : (nW a && nW b) = true) (k : oneK b = true) (w : World) : Calls Try.prog 35 #[.int .u8 96, VN a, VN b] w fun e w' => e = .returned (VN (doI 96 a (constI (andI (oneI b) 31)))) ∧ Gr w w' :=
  half_96t_r a b (by rw [k, uB_and, h3]; rfl) w
set_option maxHeartbeats 0 in
set_option maxRecDepth 1000000 in
theorem half_96f_r (a b : NI) (he : ([(b2i (oneK b), 0), (b2i (nW a && nW b), 1)] : Cs).map (·.1) = ([(b2i (oneK b), 0), (b2i (nW a && nW b), 1)] : Cs).map (·.2)) (w : World) : Calls Try.prog 35 #[.int .u8 96, VN a, VN b] w fun e w' => e = .returned (VN (doI 96 a b)) ∧ Gr w w' :=
  rk hk8_ok (halfOrc false) (cs := ([(b2i (oneK b), 0), (b2i (nW a && nW b), 1)] : Cs)) rfl (by kernel_rfl) (by kernel_rfl) he w
theorem half_96f (a b : NI) (_h1 : nW a = true) (_h2 : (nW (extI a) && zB (cntI (oneI b) 31)) = true) (_h3 : (nW a && nW (constI (andI (oneI b) 31))) = true) (h4 : (nW a && nW b) = true) (k : oneK b = false) (w : World) : Calls Try.prog 35 #[.int .u8 96, VN a, VN b] w fun e w' => e = .returned (VN (doI 96 a b)) ∧ Gr w w' :=
  half_96f_r a b (by rw [k, h4]; rfl) w
set_option maxHeartbeats 0 in
set_option maxRecDepth 1000000 in
theorem half_112t_r (a b : NI) (he : ([(b2i (oneK b), 1), (b2i (uB (andI (oneI b) 31)), 1), (b2i (nW a && nW (constI (andI (oneI b) 31))), 1)] : Cs).map (·.1) = ([(b2i (oneK b), 1), (b2i (uB (andI (oneI b) 31)), 1), (b2i (nW a && nW (constI (andI (oneI b) 31))), 1)] : Cs).map (·.2)) (w : World) : Calls Try.prog 35 #[.int .u8 112, VN a, VN b] w fun e w' => e = .returned (VN (doI 112 a (constI (andI (oneI b) 31)))) ∧ Gr w w' :=
  rk hk8_ok (halfOrc true) (cs := ([(b2i (oneK b), 1), (b2i (uB (andI (oneI b) 31)), 1), (b2i (nW a && nW (constI (andI (oneI b) 31))), 1)] : Cs)) rfl (by kernel_rfl) (by kernel_rfl) he w
theorem half_112t (a b : NI) (_h1 : nW a = true) (_h2 : (nW (extI a) && zB (cntI (oneI b) 31)) = true) (h3 : (nW a && nW (constI (andI (oneI b) 31))) = true) (_h4 : (nW a && nW b) = true) (k : oneK b = true) (w : World) : Calls Try.prog 35 #[.int .u8 112, VN a, VN b] w fun e w' => e = .returned (VN (doI 112 a (constI (andI (oneI b) 31)))) ∧ Gr w w' :=
  half_112t_r a b (by rw [k, uB_and, h3]; rfl) w
set_option maxHeartbeats 0 in
set_option maxRecDepth 1000000 in
theorem half_112f_r (a b : NI) (he : ([(b2i (oneK b), 0), (b2i (nW a && nW b), 1)] : Cs).map (·.1) = ([(b2i (oneK b), 0), (b2i (nW a && nW b), 1)] : Cs).map (·.2)) (w : World) : Calls Try.prog 35 #[.int .u8 112, VN a, VN b] w fun e w' => e = .returned (VN (doI 112 a b)) ∧ Gr w w' :=
  rk hk8_ok (halfOrc false) (cs := ([(b2i (oneK b), 0), (b2i (nW a && nW b), 1)] : Cs)) rfl (by kernel_rfl) (by kernel_rfl) he w
theorem half_112f (a b : NI) (_h1 : nW a = true) (_h2 : (nW (extI a) && zB (cntI (oneI b) 31)) = true) (_h3 : (nW a && nW (constI (andI (oneI b) 31))) = true) (h4 : (nW a && nW b) = true) (k : oneK b = false) (w : World) : Calls Try.prog 35 #[.int .u8 112, VN a, VN b] w fun e w' => e = .returned (VN (doI 112 a b)) ∧ Gr w w' :=
  half_112f_r a b (by rw [k, h4]; rfl) w
set_option maxHeartbeats 0 in
set_option maxRecDepth 1000000 in
theorem half_no_r (op : Int) (a b : NI) (he : ([(b2i (op == 192), 0), (b2i (op == 192), 0), (b2i (op == 96), 0), (b2i (op == 112), 0), (b2i (nW a && nW b), 1)] : Cs).map (·.1) = ([(b2i (op == 192), 0), (b2i (op == 192), 0), (b2i (op == 96), 0), (b2i (op == 112), 0), (b2i (nW a && nW b), 1)] : Cs).map (·.2)) (w : World) : Calls Try.prog 35 #[.int .u8 op, VN a, VN b] w fun e w' => e = .returned (VN (doI op a b)) ∧ Gr w w' :=
  rk hk8_ok halfOrc0 (cs := ([(b2i (op == 192), 0), (b2i (op == 192), 0), (b2i (op == 96), 0), (b2i (op == 112), 0), (b2i (nW a && nW b), 1)] : Cs)) rfl (by kernel_rfl) (by kernel_rfl) he w
theorem half_no (op : Int) (a b : NI) (_h1 : nW a = true) (_h2 : (nW (extI a) && zB (cntI (oneI b) 31)) = true) (_h3 : (nW a && nW (constI (andI (oneI b) 31))) = true) (h4 : (nW a && nW b) = true) (k192 : (op == 192) = false) (k96 : (op == 96) = false) (k112 : (op == 112) = false) (w : World) : Calls Try.prog 35 #[.int .u8 op, VN a, VN b] w fun e w' => e = .returned (VN (doI op a b)) ∧ Gr w w' :=
  half_no_r op a b (by rw [k192, k96, k112, h4]; rfl) w
theorem c_half (op : Int) (a b : NI) (hw : (nW a && nW b) = true) (w : World) : Calls Try.prog 35 #[.int .u8 op, VN a, VN b] w fun e w' => e = .returned (VN (halfDoI op a b)) ∧ Gr w w' := by
  have h4 := hw
  simp only [Bool.and_eq_true] at hw
  have h1 := hw.1
  have h2 : (nW (extI a) && zB (cntI (oneI b) 31)) = true := by rw [nW_ext, zB_cnt]; rfl
  have h3 : (nW a && nW (constI (andI (oneI b) 31))) = true := by rw [h1, nW_const (uB_and _ _)]; rfl
  have ne : ∀ c : Int, ¬ op = c → (op == c) = false := fun c h => by rw [beq_eq_false_iff_ne]; exact h
  by_cases e1 : op = 192
  · subst e1
    cases k : oneK b with
    | true => exact ret_eq (by simp only [halfDoI, k]; rfl) (half_192t a b h1 h2 h3 h4 k w)
    | false => exact ret_eq (by simp only [halfDoI, k]; rfl) (half_192f a b h1 h2 h3 h4 k w)
  · by_cases e2 : op = 96
    · subst e2
      cases k : oneK b with
      | true => exact ret_eq (by simp only [halfDoI, k]; rfl) (half_96t a b h1 h2 h3 h4 k w)
      | false => exact ret_eq (by simp only [halfDoI, k]; rfl) (half_96f a b h1 h2 h3 h4 k w)
    · by_cases e3 : op = 112
      · subst e3
        cases k : oneK b with
        | true => exact ret_eq (by simp only [halfDoI, k]; rfl) (half_112t a b h1 h2 h3 h4 k w)
        | false => exact ret_eq (by simp only [halfDoI, k]; rfl) (half_112f a b h1 h2 h3 h4 k w)
      · refine ret_eq ?_ (half_no op a b h1 h2 h3 h4 (ne _ e1) (ne _ e2) (ne _ e3) w)
        simp only [halfDoI, if_neg e1, if_neg e2, if_neg e3]
theorem nW_half (op : Int) {a b : NI} (ha : nW a = true) (hb : nW b = true) : nW (halfDoI op a b) = true := by
  unfold halfDoI
  split
  · split
    · exact nW_arsh _ _
    · exact nW_any
  · split
    · split
      · exact nW_do _ ha (nW_const (uB_and _ _))
      · exact nW_do _ ha hb
    · split
      · split
        · exact nW_do _ ha (nW_const (uB_and _ _))
        · exact nW_do _ ha hb
      · exact nW_do _ ha hb
def hk_half : Hook := fun f args _ =>
  if Nat.beq f 35 then
    match args with
    | [.int .u8 a, .agg ⟨[.int .u64 b0, .int .u64 b1, .int .u64 b2, .int .u64 b3, .int .i64 b4, .int .i64 b5]⟩, .agg ⟨[.int .u64 c0, .int .u64 c1, .int .u64 c2, .int .u64 c3, .int .i64 c4, .int .i64 c5]⟩] => some (VN (halfDoI a (⟨⟨b0, b1⟩, ⟨b2, b3, b4, b5⟩⟩ : NI) (⟨⟨c0, c1⟩, ⟨c2, c3, c4, c5⟩⟩ : NI)), [(b2i (nW (⟨⟨b0, b1⟩, ⟨b2, b3, b4, b5⟩⟩ : NI) && nW (⟨⟨c0, c1⟩, ⟨c2, c3, c4, c5⟩⟩ : NI)), 1)])
    | _ => none
  else none
theorem hk_half_ok : HookOk Try.prog hk_half := by
  intro f args h v cs hv hc wb k s w H
  unfold hk_half at hv
  split at hv
  · rename_i hf
    obtain rfl := Nat.eq_of_beq_eq_true hf
    split at hv
    · rename_i a b0 b1 b2 b3 b4 b5 c0 c1 c2 c3 c4 c5
      cases hv
      have hw := pair1 hc rfl
      exact c_half a (⟨⟨b0, b1⟩, ⟨b2, b3, b4, b5⟩⟩ : NI) (⟨⟨c0, c1⟩, ⟨c2, c3, c4, c5⟩⟩ : NI) hw w
    · cases hv
  · cases hv
def hk9 : Hook := orHook hk_tight (orHook hk_settled (orHook hk_in (orHook hk_supto (orHook hk_upto (orHook hk_lsh (orHook hk_arsh (orHook hk_ext (orHook hk_low (orHook hk_const (orHook hk_moved (orHook hk_do (orHook hk_half (hk2)))))))))))))
theorem hk9_ok : HookOk Try.prog hk9 := orHook_ok hk_tight_ok (orHook_ok hk_settled_ok (orHook_ok hk_in_ok (orHook_ok hk_supto_ok (orHook_ok hk_upto_ok (orHook_ok hk_lsh_ok (orHook_ok hk_arsh_ok (orHook_ok hk_ext_ok (orHook_ok hk_low_ok (orHook_ok hk_const_ok (orHook_ok hk_moved_ok (orHook_ok hk_do_ok (orHook_ok hk_half_ok (hk2_ok)))))))))))))
def DoOrc (b19 b24 b36 b41 : Bool) : Orc := fun f t _ => if Nat.beq f 17 then (if Nat.beq t 19 then some (.bool b19) else if Nat.beq t 24 then some (.bool b24) else if Nat.beq t 36 then some (.bool b36) else if Nat.beq t 41 then some (.bool b41) else none) else none
theorem uB_alu (op : Int) (wide : Bool) (x y : Int) : uB (aluI op wide x y) = true := by unfold aluI; exact uB_N _
def DoI (op : Int) (wide : Bool) (a b : NI) : NI :=
  if tightK a && tightK b then
    if oneK (tightI a) && oneK (tightI b) then constI (aluI op wide (oneI (tightI a)) (oneI (tightI b)))
    else if wide then settledI (doI op (tightI a) (tightI b))
    else lowI (halfDoI op (lowI (tightI a)) (lowI (tightI b)))
  else anyN
set_option maxHeartbeats 0 in
set_option maxRecDepth 1000000 in
theorem Do_k00_r (op : Int) (wide : Bool) (a b : NI) (he : ([(b2i (nW a), 1), (b2i (tightK a), 0), (b2i (nW b), 1), (b2i (tightK b), 0)] : Cs).map (·.1) = ([(b2i (nW a), 1), (b2i (tightK a), 0), (b2i (nW b), 1), (b2i (tightK b), 0)] : Cs).map (·.2)) (w : World) : Calls Try.prog 17 #[.int .u8 op, .bool wide, VN a, VN b] w fun e w' => e = .returned (VN anyN) ∧ Gr w w' :=
  rk hk9_ok (DoOrc false false true true) (cs := ([(b2i (nW a), 1), (b2i (tightK a), 0), (b2i (nW b), 1), (b2i (tightK b), 0)] : Cs)) rfl (by kernel_rfl) (by kernel_rfl) he w
theorem Do_k00 (op : Int) (wide : Bool) (a b : NI) (h1 : nW a = true) (h2 : nW b = true) (_h3 : (uB (oneI (tightI a)) && uB (oneI (tightI b))) = true) (_h4 : (nW (tightI a) && nW (tightI b)) = true) (_h5 : nW (doI op (tightI a) (tightI b)) = true) (_h6 : nW (tightI a) = true) (_h7 : nW (tightI b) = true) (_h8 : (nW (lowI (tightI a)) && nW (lowI (tightI b))) = true) (_h9 : nW (halfDoI op (lowI (tightI a)) (lowI (tightI b))) = true) (ka : tightK a = false) (kb : tightK b = false) (w : World) : Calls Try.prog 17 #[.int .u8 op, .bool wide, VN a, VN b] w fun e w' => e = .returned (VN anyN) ∧ Gr w w' :=
  Do_k00_r op wide a b (by rw [h1, ka, h2, kb]; rfl) w
set_option maxHeartbeats 0 in
set_option maxRecDepth 1000000 in
theorem Do_k01_r (op : Int) (wide : Bool) (a b : NI) (he : ([(b2i (nW a), 1), (b2i (tightK a), 0), (b2i (nW b), 1), (b2i (tightK b), 1)] : Cs).map (·.1) = ([(b2i (nW a), 1), (b2i (tightK a), 0), (b2i (nW b), 1), (b2i (tightK b), 1)] : Cs).map (·.2)) (w : World) : Calls Try.prog 17 #[.int .u8 op, .bool wide, VN a, VN b] w fun e w' => e = .returned (VN anyN) ∧ Gr w w' :=
  rk hk9_ok (DoOrc false true true true) (cs := ([(b2i (nW a), 1), (b2i (tightK a), 0), (b2i (nW b), 1), (b2i (tightK b), 1)] : Cs)) rfl (by kernel_rfl) (by kernel_rfl) he w
theorem Do_k01 (op : Int) (wide : Bool) (a b : NI) (h1 : nW a = true) (h2 : nW b = true) (_h3 : (uB (oneI (tightI a)) && uB (oneI (tightI b))) = true) (_h4 : (nW (tightI a) && nW (tightI b)) = true) (_h5 : nW (doI op (tightI a) (tightI b)) = true) (_h6 : nW (tightI a) = true) (_h7 : nW (tightI b) = true) (_h8 : (nW (lowI (tightI a)) && nW (lowI (tightI b))) = true) (_h9 : nW (halfDoI op (lowI (tightI a)) (lowI (tightI b))) = true) (ka : tightK a = false) (kb : tightK b = true) (w : World) : Calls Try.prog 17 #[.int .u8 op, .bool wide, VN a, VN b] w fun e w' => e = .returned (VN anyN) ∧ Gr w w' :=
  Do_k01_r op wide a b (by rw [h1, ka, h2, kb]; rfl) w
set_option maxHeartbeats 0 in
set_option maxRecDepth 1000000 in
theorem Do_k10_r (op : Int) (wide : Bool) (a b : NI) (he : ([(b2i (nW a), 1), (b2i (tightK a), 1), (b2i (nW b), 1), (b2i (tightK b), 0)] : Cs).map (·.1) = ([(b2i (nW a), 1), (b2i (tightK a), 1), (b2i (nW b), 1), (b2i (tightK b), 0)] : Cs).map (·.2)) (w : World) : Calls Try.prog 17 #[.int .u8 op, .bool wide, VN a, VN b] w fun e w' => e = .returned (VN anyN) ∧ Gr w w' :=
  rk hk9_ok (DoOrc true false true true) (cs := ([(b2i (nW a), 1), (b2i (tightK a), 1), (b2i (nW b), 1), (b2i (tightK b), 0)] : Cs)) rfl (by kernel_rfl) (by kernel_rfl) he w
theorem Do_k10 (op : Int) (wide : Bool) (a b : NI) (h1 : nW a = true) (h2 : nW b = true) (_h3 : (uB (oneI (tightI a)) && uB (oneI (tightI b))) = true) (_h4 : (nW (tightI a) && nW (tightI b)) = true) (_h5 : nW (doI op (tightI a) (tightI b)) = true) (_h6 : nW (tightI a) = true) (_h7 : nW (tightI b) = true) (_h8 : (nW (lowI (tightI a)) && nW (lowI (tightI b))) = true) (_h9 : nW (halfDoI op (lowI (tightI a)) (lowI (tightI b))) = true) (ka : tightK a = true) (kb : tightK b = false) (w : World) : Calls Try.prog 17 #[.int .u8 op, .bool wide, VN a, VN b] w fun e w' => e = .returned (VN anyN) ∧ Gr w w' :=
  Do_k10_r op wide a b (by rw [h1, ka, h2, kb]; rfl) w
set_option maxHeartbeats 0 in
set_option maxRecDepth 1000000 in
theorem Do_w00_r (op : Int) (a b : NI) (he : ([(b2i (nW a), 1), (b2i (tightK a), 1), (b2i (nW b), 1), (b2i (tightK b), 1), (b2i (oneK (tightI a)), 0), (b2i (oneK (tightI b)), 0), (b2i (nW (tightI a) && nW (tightI b)), 1), (b2i (nW (doI op (tightI a) (tightI b))), 1)] : Cs).map (·.1) = ([(b2i (nW a), 1), (b2i (tightK a), 1), (b2i (nW b), 1), (b2i (tightK b), 1), (b2i (oneK (tightI a)), 0), (b2i (oneK (tightI b)), 0), (b2i (nW (tightI a) && nW (tightI b)), 1), (b2i (nW (doI op (tightI a) (tightI b))), 1)] : Cs).map (·.2)) (w : World) : Calls Try.prog 17 #[.int .u8 op, .bool true, VN a, VN b] w fun e w' => e = .returned (VN (settledI (doI op (tightI a) (tightI b)))) ∧ Gr w w' :=
  rk hk9_ok (DoOrc true true false false) (cs := ([(b2i (nW a), 1), (b2i (tightK a), 1), (b2i (nW b), 1), (b2i (tightK b), 1), (b2i (oneK (tightI a)), 0), (b2i (oneK (tightI b)), 0), (b2i (nW (tightI a) && nW (tightI b)), 1), (b2i (nW (doI op (tightI a) (tightI b))), 1)] : Cs)) rfl (by kernel_rfl) (by kernel_rfl) he w
theorem Do_w00 (op : Int) (a b : NI) (h1 : nW a = true) (h2 : nW b = true) (_h3 : (uB (oneI (tightI a)) && uB (oneI (tightI b))) = true) (h4 : (nW (tightI a) && nW (tightI b)) = true) (h5 : nW (doI op (tightI a) (tightI b)) = true) (_h6 : nW (tightI a) = true) (_h7 : nW (tightI b) = true) (_h8 : (nW (lowI (tightI a)) && nW (lowI (tightI b))) = true) (_h9 : nW (halfDoI op (lowI (tightI a)) (lowI (tightI b))) = true) (ka : tightK a = true) (kb : tightK b = true) (oa : oneK (tightI a) = false) (ob : oneK (tightI b) = false) (w : World) : Calls Try.prog 17 #[.int .u8 op, .bool true, VN a, VN b] w fun e w' => e = .returned (VN (settledI (doI op (tightI a) (tightI b)))) ∧ Gr w w' :=
  Do_w00_r op a b (by rw [h1, ka, h2, kb, oa, ob, h4, h5]; rfl) w
set_option maxHeartbeats 0 in
set_option maxRecDepth 1000000 in
theorem Do_h00_r (op : Int) (a b : NI) (he : ([(b2i (nW a), 1), (b2i (tightK a), 1), (b2i (nW b), 1), (b2i (tightK b), 1), (b2i (oneK (tightI a)), 0), (b2i (oneK (tightI b)), 0), (b2i (nW (tightI a)), 1), (b2i (nW (tightI b)), 1), (b2i (nW (lowI (tightI a)) && nW (lowI (tightI b))), 1), (b2i (nW (halfDoI op (lowI (tightI a)) (lowI (tightI b)))), 1)] : Cs).map (·.1) = ([(b2i (nW a), 1), (b2i (tightK a), 1), (b2i (nW b), 1), (b2i (tightK b), 1), (b2i (oneK (tightI a)), 0), (b2i (oneK (tightI b)), 0), (b2i (nW (tightI a)), 1), (b2i (nW (tightI b)), 1), (b2i (nW (lowI (tightI a)) && nW (lowI (tightI b))), 1), (b2i (nW (halfDoI op (lowI (tightI a)) (lowI (tightI b)))), 1)] : Cs).map (·.2)) (w : World) : Calls Try.prog 17 #[.int .u8 op, .bool false, VN a, VN b] w fun e w' => e = .returned (VN (lowI (halfDoI op (lowI (tightI a)) (lowI (tightI b))))) ∧ Gr w w' :=
  rk hk9_ok (DoOrc true true false false) (cs := ([(b2i (nW a), 1), (b2i (tightK a), 1), (b2i (nW b), 1), (b2i (tightK b), 1), (b2i (oneK (tightI a)), 0), (b2i (oneK (tightI b)), 0), (b2i (nW (tightI a)), 1), (b2i (nW (tightI b)), 1), (b2i (nW (lowI (tightI a)) && nW (lowI (tightI b))), 1), (b2i (nW (halfDoI op (lowI (tightI a)) (lowI (tightI b)))), 1)] : Cs)) rfl (by kernel_rfl) (by kernel_rfl) he w
theorem Do_h00 (op : Int) (a b : NI) (h1 : nW a = true) (h2 : nW b = true) (_h3 : (uB (oneI (tightI a)) && uB (oneI (tightI b))) = true) (_h4 : (nW (tightI a) && nW (tightI b)) = true) (_h5 : nW (doI op (tightI a) (tightI b)) = true) (h6 : nW (tightI a) = true) (h7 : nW (tightI b) = true) (h8 : (nW (lowI (tightI a)) && nW (lowI (tightI b))) = true) (h9 : nW (halfDoI op (lowI (tightI a)) (lowI (tightI b))) = true) (ka : tightK a = true) (kb : tightK b = true) (oa : oneK (tightI a) = false) (ob : oneK (tightI b) = false) (w : World) : Calls Try.prog 17 #[.int .u8 op, .bool false, VN a, VN b] w fun e w' => e = .returned (VN (lowI (halfDoI op (lowI (tightI a)) (lowI (tightI b))))) ∧ Gr w w' :=
  Do_h00_r op a b (by rw [h1, ka, h2, kb, oa, ob, h6, h7, h8, h9]; rfl) w
set_option maxHeartbeats 0 in
set_option maxRecDepth 1000000 in
theorem Do_w01_r (op : Int) (a b : NI) (he : ([(b2i (nW a), 1), (b2i (tightK a), 1), (b2i (nW b), 1), (b2i (tightK b), 1), (b2i (oneK (tightI a)), 0), (b2i (oneK (tightI b)), 1), (b2i (nW (tightI a) && nW (tightI b)), 1), (b2i (nW (doI op (tightI a) (tightI b))), 1)] : Cs).map (·.1) = ([(b2i (nW a), 1), (b2i (tightK a), 1), (b2i (nW b), 1), (b2i (tightK b), 1), (b2i (oneK (tightI a)), 0), (b2i (oneK (tightI b)), 1), (b2i (nW (tightI a) && nW (tightI b)), 1), (b2i (nW (doI op (tightI a) (tightI b))), 1)] : Cs).map (·.2)) (w : World) : Calls Try.prog 17 #[.int .u8 op, .bool true, VN a, VN b] w fun e w' => e = .returned (VN (settledI (doI op (tightI a) (tightI b)))) ∧ Gr w w' :=
  rk hk9_ok (DoOrc true true false true) (cs := ([(b2i (nW a), 1), (b2i (tightK a), 1), (b2i (nW b), 1), (b2i (tightK b), 1), (b2i (oneK (tightI a)), 0), (b2i (oneK (tightI b)), 1), (b2i (nW (tightI a) && nW (tightI b)), 1), (b2i (nW (doI op (tightI a) (tightI b))), 1)] : Cs)) rfl (by kernel_rfl) (by kernel_rfl) he w
theorem Do_w01 (op : Int) (a b : NI) (h1 : nW a = true) (h2 : nW b = true) (_h3 : (uB (oneI (tightI a)) && uB (oneI (tightI b))) = true) (h4 : (nW (tightI a) && nW (tightI b)) = true) (h5 : nW (doI op (tightI a) (tightI b)) = true) (_h6 : nW (tightI a) = true) (_h7 : nW (tightI b) = true) (_h8 : (nW (lowI (tightI a)) && nW (lowI (tightI b))) = true) (_h9 : nW (halfDoI op (lowI (tightI a)) (lowI (tightI b))) = true) (ka : tightK a = true) (kb : tightK b = true) (oa : oneK (tightI a) = false) (ob : oneK (tightI b) = true) (w : World) : Calls Try.prog 17 #[.int .u8 op, .bool true, VN a, VN b] w fun e w' => e = .returned (VN (settledI (doI op (tightI a) (tightI b)))) ∧ Gr w w' :=
  Do_w01_r op a b (by rw [h1, ka, h2, kb, oa, ob, h4, h5]; rfl) w
set_option maxHeartbeats 0 in
set_option maxRecDepth 1000000 in
theorem Do_h01_r (op : Int) (a b : NI) (he : ([(b2i (nW a), 1), (b2i (tightK a), 1), (b2i (nW b), 1), (b2i (tightK b), 1), (b2i (oneK (tightI a)), 0), (b2i (oneK (tightI b)), 1), (b2i (nW (tightI a)), 1), (b2i (nW (tightI b)), 1), (b2i (nW (lowI (tightI a)) && nW (lowI (tightI b))), 1), (b2i (nW (halfDoI op (lowI (tightI a)) (lowI (tightI b)))), 1)] : Cs).map (·.1) = ([(b2i (nW a), 1), (b2i (tightK a), 1), (b2i (nW b), 1), (b2i (tightK b), 1), (b2i (oneK (tightI a)), 0), (b2i (oneK (tightI b)), 1), (b2i (nW (tightI a)), 1), (b2i (nW (tightI b)), 1), (b2i (nW (lowI (tightI a)) && nW (lowI (tightI b))), 1), (b2i (nW (halfDoI op (lowI (tightI a)) (lowI (tightI b)))), 1)] : Cs).map (·.2)) (w : World) : Calls Try.prog 17 #[.int .u8 op, .bool false, VN a, VN b] w fun e w' => e = .returned (VN (lowI (halfDoI op (lowI (tightI a)) (lowI (tightI b))))) ∧ Gr w w' :=
  rk hk9_ok (DoOrc true true false true) (cs := ([(b2i (nW a), 1), (b2i (tightK a), 1), (b2i (nW b), 1), (b2i (tightK b), 1), (b2i (oneK (tightI a)), 0), (b2i (oneK (tightI b)), 1), (b2i (nW (tightI a)), 1), (b2i (nW (tightI b)), 1), (b2i (nW (lowI (tightI a)) && nW (lowI (tightI b))), 1), (b2i (nW (halfDoI op (lowI (tightI a)) (lowI (tightI b)))), 1)] : Cs)) rfl (by kernel_rfl) (by kernel_rfl) he w
theorem Do_h01 (op : Int) (a b : NI) (h1 : nW a = true) (h2 : nW b = true) (_h3 : (uB (oneI (tightI a)) && uB (oneI (tightI b))) = true) (_h4 : (nW (tightI a) && nW (tightI b)) = true) (_h5 : nW (doI op (tightI a) (tightI b)) = true) (h6 : nW (tightI a) = true) (h7 : nW (tightI b) = true) (h8 : (nW (lowI (tightI a)) && nW (lowI (tightI b))) = true) (h9 : nW (halfDoI op (lowI (tightI a)) (lowI (tightI b))) = true) (ka : tightK a = true) (kb : tightK b = true) (oa : oneK (tightI a) = false) (ob : oneK (tightI b) = true) (w : World) : Calls Try.prog 17 #[.int .u8 op, .bool false, VN a, VN b] w fun e w' => e = .returned (VN (lowI (halfDoI op (lowI (tightI a)) (lowI (tightI b))))) ∧ Gr w w' :=
  Do_h01_r op a b (by rw [h1, ka, h2, kb, oa, ob, h6, h7, h8, h9]; rfl) w
set_option maxHeartbeats 0 in
set_option maxRecDepth 1000000 in
theorem Do_w10_r (op : Int) (a b : NI) (he : ([(b2i (nW a), 1), (b2i (tightK a), 1), (b2i (nW b), 1), (b2i (tightK b), 1), (b2i (oneK (tightI a)), 1), (b2i (oneK (tightI b)), 0), (b2i (nW (tightI a) && nW (tightI b)), 1), (b2i (nW (doI op (tightI a) (tightI b))), 1)] : Cs).map (·.1) = ([(b2i (nW a), 1), (b2i (tightK a), 1), (b2i (nW b), 1), (b2i (tightK b), 1), (b2i (oneK (tightI a)), 1), (b2i (oneK (tightI b)), 0), (b2i (nW (tightI a) && nW (tightI b)), 1), (b2i (nW (doI op (tightI a) (tightI b))), 1)] : Cs).map (·.2)) (w : World) : Calls Try.prog 17 #[.int .u8 op, .bool true, VN a, VN b] w fun e w' => e = .returned (VN (settledI (doI op (tightI a) (tightI b)))) ∧ Gr w w' :=
  rk hk9_ok (DoOrc true true true false) (cs := ([(b2i (nW a), 1), (b2i (tightK a), 1), (b2i (nW b), 1), (b2i (tightK b), 1), (b2i (oneK (tightI a)), 1), (b2i (oneK (tightI b)), 0), (b2i (nW (tightI a) && nW (tightI b)), 1), (b2i (nW (doI op (tightI a) (tightI b))), 1)] : Cs)) rfl (by kernel_rfl) (by kernel_rfl) he w
theorem Do_w10 (op : Int) (a b : NI) (h1 : nW a = true) (h2 : nW b = true) (_h3 : (uB (oneI (tightI a)) && uB (oneI (tightI b))) = true) (h4 : (nW (tightI a) && nW (tightI b)) = true) (h5 : nW (doI op (tightI a) (tightI b)) = true) (_h6 : nW (tightI a) = true) (_h7 : nW (tightI b) = true) (_h8 : (nW (lowI (tightI a)) && nW (lowI (tightI b))) = true) (_h9 : nW (halfDoI op (lowI (tightI a)) (lowI (tightI b))) = true) (ka : tightK a = true) (kb : tightK b = true) (oa : oneK (tightI a) = true) (ob : oneK (tightI b) = false) (w : World) : Calls Try.prog 17 #[.int .u8 op, .bool true, VN a, VN b] w fun e w' => e = .returned (VN (settledI (doI op (tightI a) (tightI b)))) ∧ Gr w w' :=
  Do_w10_r op a b (by rw [h1, ka, h2, kb, oa, ob, h4, h5]; rfl) w
set_option maxHeartbeats 0 in
set_option maxRecDepth 1000000 in
theorem Do_h10_r (op : Int) (a b : NI) (he : ([(b2i (nW a), 1), (b2i (tightK a), 1), (b2i (nW b), 1), (b2i (tightK b), 1), (b2i (oneK (tightI a)), 1), (b2i (oneK (tightI b)), 0), (b2i (nW (tightI a)), 1), (b2i (nW (tightI b)), 1), (b2i (nW (lowI (tightI a)) && nW (lowI (tightI b))), 1), (b2i (nW (halfDoI op (lowI (tightI a)) (lowI (tightI b)))), 1)] : Cs).map (·.1) = ([(b2i (nW a), 1), (b2i (tightK a), 1), (b2i (nW b), 1), (b2i (tightK b), 1), (b2i (oneK (tightI a)), 1), (b2i (oneK (tightI b)), 0), (b2i (nW (tightI a)), 1), (b2i (nW (tightI b)), 1), (b2i (nW (lowI (tightI a)) && nW (lowI (tightI b))), 1), (b2i (nW (halfDoI op (lowI (tightI a)) (lowI (tightI b)))), 1)] : Cs).map (·.2)) (w : World) : Calls Try.prog 17 #[.int .u8 op, .bool false, VN a, VN b] w fun e w' => e = .returned (VN (lowI (halfDoI op (lowI (tightI a)) (lowI (tightI b))))) ∧ Gr w w' :=
  rk hk9_ok (DoOrc true true true false) (cs := ([(b2i (nW a), 1), (b2i (tightK a), 1), (b2i (nW b), 1), (b2i (tightK b), 1), (b2i (oneK (tightI a)), 1), (b2i (oneK (tightI b)), 0), (b2i (nW (tightI a)), 1), (b2i (nW (tightI b)), 1), (b2i (nW (lowI (tightI a)) && nW (lowI (tightI b))), 1), (b2i (nW (halfDoI op (lowI (tightI a)) (lowI (tightI b)))), 1)] : Cs)) rfl (by kernel_rfl) (by kernel_rfl) he w
theorem Do_h10 (op : Int) (a b : NI) (h1 : nW a = true) (h2 : nW b = true) (_h3 : (uB (oneI (tightI a)) && uB (oneI (tightI b))) = true) (_h4 : (nW (tightI a) && nW (tightI b)) = true) (_h5 : nW (doI op (tightI a) (tightI b)) = true) (h6 : nW (tightI a) = true) (h7 : nW (tightI b) = true) (h8 : (nW (lowI (tightI a)) && nW (lowI (tightI b))) = true) (h9 : nW (halfDoI op (lowI (tightI a)) (lowI (tightI b))) = true) (ka : tightK a = true) (kb : tightK b = true) (oa : oneK (tightI a) = true) (ob : oneK (tightI b) = false) (w : World) : Calls Try.prog 17 #[.int .u8 op, .bool false, VN a, VN b] w fun e w' => e = .returned (VN (lowI (halfDoI op (lowI (tightI a)) (lowI (tightI b))))) ∧ Gr w w' :=
  Do_h10_r op a b (by rw [h1, ka, h2, kb, oa, ob, h6, h7, h8, h9]; rfl) w
set_option maxHeartbeats 0 in
set_option maxRecDepth 1000000 in
theorem Do_c_r (op : Int) (wide : Bool) (a b : NI) (he : ([(b2i (nW a), 1), (b2i (tightK a), 1), (b2i (nW b), 1), (b2i (tightK b), 1), (b2i (oneK (tightI a)), 1), (b2i (oneK (tightI b)), 1), (b2i (uB (oneI (tightI a)) && uB (oneI (tightI b))), 1), (b2i (uB (aluI op wide (oneI (tightI a)) (oneI (tightI b)))), 1)] : Cs).map (·.1) = ([(b2i (nW a), 1), (b2i (tightK a), 1), (b2i (nW b), 1), (b2i (tightK b), 1), (b2i (oneK (tightI a)), 1), (b2i (oneK (tightI b)), 1), (b2i (uB (oneI (tightI a)) && uB (oneI (tightI b))), 1), (b2i (uB (aluI op wide (oneI (tightI a)) (oneI (tightI b)))), 1)] : Cs).map (·.2)) (w : World) : Calls Try.prog 17 #[.int .u8 op, .bool wide, VN a, VN b] w fun e w' => e = .returned (VN (constI (aluI op wide (oneI (tightI a)) (oneI (tightI b))))) ∧ Gr w w' :=
  rk hk9_ok (DoOrc true true true true) (cs := ([(b2i (nW a), 1), (b2i (tightK a), 1), (b2i (nW b), 1), (b2i (tightK b), 1), (b2i (oneK (tightI a)), 1), (b2i (oneK (tightI b)), 1), (b2i (uB (oneI (tightI a)) && uB (oneI (tightI b))), 1), (b2i (uB (aluI op wide (oneI (tightI a)) (oneI (tightI b)))), 1)] : Cs)) rfl (by kernel_rfl) (by kernel_rfl) he w
theorem Do_c (op : Int) (wide : Bool) (a b : NI) (h1 : nW a = true) (h2 : nW b = true) (h3 : (uB (oneI (tightI a)) && uB (oneI (tightI b))) = true) (_h4 : (nW (tightI a) && nW (tightI b)) = true) (_h5 : nW (doI op (tightI a) (tightI b)) = true) (_h6 : nW (tightI a) = true) (_h7 : nW (tightI b) = true) (_h8 : (nW (lowI (tightI a)) && nW (lowI (tightI b))) = true) (_h9 : nW (halfDoI op (lowI (tightI a)) (lowI (tightI b))) = true) (ka : tightK a = true) (kb : tightK b = true) (oa : oneK (tightI a) = true) (ob : oneK (tightI b) = true) (w : World) : Calls Try.prog 17 #[.int .u8 op, .bool wide, VN a, VN b] w fun e w' => e = .returned (VN (constI (aluI op wide (oneI (tightI a)) (oneI (tightI b))))) ∧ Gr w w' :=
  Do_c_r op wide a b (by rw [h1, ka, h2, kb, oa, ob, h3, uB_alu]; rfl) w
theorem c_Do (op : Int) (wide : Bool) (a b : NI) (hw : (nW a && nW b) = true) (w : World) : Calls Try.prog 17 #[.int .u8 op, .bool wide, VN a, VN b] w fun e w' => e = .returned (VN (DoI op wide a b)) ∧ Gr w w' := by
  simp only [Bool.and_eq_true] at hw
  have h1 := hw.1
  have h2 := hw.2
  have h6 := nW_tight a
  have h7 := nW_tight b
  have one : ∀ n : NI, nW n = true → uB (oneI n) = true := fun n h => by
    unfold nW tW at h
    simp only [Bool.and_eq_true] at h
    unfold oneI
    split
    · rfl
    · exact h.1.1
  have h3 : (uB (oneI (tightI a)) && uB (oneI (tightI b))) = true := by rw [one _ h6, one _ h7]; rfl
  have h4 : (nW (tightI a) && nW (tightI b)) = true := by rw [h6, h7]; rfl
  have h5 : nW (doI op (tightI a) (tightI b)) = true := nW_do _ h6 h7
  have h8 : (nW (lowI (tightI a)) && nW (lowI (tightI b))) = true := by rw [nW_lowI, nW_lowI]; rfl
  have h9 : nW (halfDoI op (lowI (tightI a)) (lowI (tightI b))) = true := nW_half _ (nW_lowI _) (nW_lowI _)
  cases ka : tightK a <;> cases kb : tightK b
  · exact ret_eq (by simp only [DoI, ka, kb]; rfl) (Do_k00 op wide a b h1 h2 h3 h4 h5 h6 h7 h8 h9 ka kb w)
  · exact ret_eq (by simp only [DoI, ka, kb]; rfl) (Do_k01 op wide a b h1 h2 h3 h4 h5 h6 h7 h8 h9 ka kb w)
  · exact ret_eq (by simp only [DoI, ka, kb]; rfl) (Do_k10 op wide a b h1 h2 h3 h4 h5 h6 h7 h8 h9 ka kb w)
  · cases oa : oneK (tightI a) <;> cases ob : oneK (tightI b)
    · cases wide
      · exact ret_eq (by simp only [DoI, ka, kb, oa, ob]; rfl) (Do_h00 op a b h1 h2 h3 h4 h5 h6 h7 h8 h9 ka kb oa ob w)
      · exact ret_eq (by simp only [DoI, ka, kb, oa, ob]; rfl) (Do_w00 op a b h1 h2 h3 h4 h5 h6 h7 h8 h9 ka kb oa ob w)
    · cases wide
      · exact ret_eq (by simp only [DoI, ka, kb, oa, ob]; rfl) (Do_h01 op a b h1 h2 h3 h4 h5 h6 h7 h8 h9 ka kb oa ob w)
      · exact ret_eq (by simp only [DoI, ka, kb, oa, ob]; rfl) (Do_w01 op a b h1 h2 h3 h4 h5 h6 h7 h8 h9 ka kb oa ob w)
    · cases wide
      · exact ret_eq (by simp only [DoI, ka, kb, oa, ob]; rfl) (Do_h10 op a b h1 h2 h3 h4 h5 h6 h7 h8 h9 ka kb oa ob w)
      · exact ret_eq (by simp only [DoI, ka, kb, oa, ob]; rfl) (Do_w10 op a b h1 h2 h3 h4 h5 h6 h7 h8 h9 ka kb oa ob w)
    · exact ret_eq (by simp only [DoI, ka, kb, oa, ob]; rfl) (Do_c op wide a b h1 h2 h3 h4 h5 h6 h7 h8 h9 ka kb oa ob w)
theorem uB_one {n : NI} (h : nW n = true) : uB (oneI n) = true := by
  unfold nW tW at h
  simp only [Bool.and_eq_true] at h
  unfold oneI
  split
  · rfl
  · exact h.1.1
theorem nW_Do (op : Int) (wide : Bool) (a b : NI) : nW (DoI op wide a b) = true := by
  unfold DoI
  split
  · split
    · exact nW_const (by unfold aluI; exact uB_N _)
    · split
      · exact nW_settled (nW_do _ (nW_tight _) (nW_tight _))
      · exact nW_lowI _
  · rfl
def hk_Do : Hook := fun f args _ =>
  if Nat.beq f 17 then
    match args with
    | [.int .u8 a, .bool b, .agg ⟨[.int .u64 c0, .int .u64 c1, .int .u64 c2, .int .u64 c3, .int .i64 c4, .int .i64 c5]⟩, .agg ⟨[.int .u64 d0, .int .u64 d1, .int .u64 d2, .int .u64 d3, .int .i64 d4, .int .i64 d5]⟩] => some (VN (DoI a b (⟨⟨c0, c1⟩, ⟨c2, c3, c4, c5⟩⟩ : NI) (⟨⟨d0, d1⟩, ⟨d2, d3, d4, d5⟩⟩ : NI)), [(b2i (nW (⟨⟨c0, c1⟩, ⟨c2, c3, c4, c5⟩⟩ : NI) && nW (⟨⟨d0, d1⟩, ⟨d2, d3, d4, d5⟩⟩ : NI)), 1)])
    | _ => none
  else none
theorem hk_Do_ok : HookOk Try.prog hk_Do := by
  intro f args h v cs hv hc wb k s w H
  unfold hk_Do at hv
  split at hv
  · rename_i hf
    obtain rfl := Nat.eq_of_beq_eq_true hf
    split at hv
    · rename_i a b c0 c1 c2 c3 c4 c5 d0 d1 d2 d3 d4 d5
      cases hv
      have hw := pair1 hc rfl
      exact c_Do a b (⟨⟨c0, c1⟩, ⟨c2, c3, c4, c5⟩⟩ : NI) (⟨⟨d0, d1⟩, ⟨d2, d3, d4, d5⟩⟩ : NI) hw w
    · cases hv
  · cases hv
def hk10 : Hook := orHook hk_tight (orHook hk_settled (orHook hk_in (orHook hk_supto (orHook hk_upto (orHook hk_lsh (orHook hk_arsh (orHook hk_ext (orHook hk_low (orHook hk_const (orHook hk_moved (orHook hk_do (orHook hk_half (orHook hk_Do (hk2))))))))))))))
theorem hk10_ok : HookOk Try.prog hk10 := orHook_ok hk_tight_ok (orHook_ok hk_settled_ok (orHook_ok hk_in_ok (orHook_ok hk_supto_ok (orHook_ok hk_upto_ok (orHook_ok hk_lsh_ok (orHook_ok hk_arsh_ok (orHook_ok hk_ext_ok (orHook_ok hk_low_ok (orHook_ok hk_const_ok (orHook_ok hk_moved_ok (orHook_ok hk_do_ok (orHook_ok hk_half_ok (orHook_ok hk_Do_ok (hk2_ok))))))))))))))
end Go.Proofs.Ytdlgebfaijlaoaa.Ex
end
section
namespace Go.Proofs.Ytdlgebfaijlaoaa
set_option maxRecDepth 20000
open Go.RowKit
open Spn (Sp umax umin smax smin okS tightS anyS settledS commonS minW maxW constS addR subR SHas SValid SIn)
attribute [local go_sem] u64_wrap BitVec.ofInt_add ofInt_N ofInt_Nw u64_and u64_or u64_xor wrap64_N ofInt_Z64 max_N min_N max_Z min_Z w_add w_sub

def upW (v b : BitVec 64) : BitVec 64 := umin (umin (BitVec.ofInt 64 (9223372036854775807 - N v)) b) 9223372036854775807#64
def madeS (v b0 b1 b2 b3 : BitVec 64) : Sp := ⟨BitVec.ofInt 64 (N v - N (umin v b0)), v + umin (~~~v) b1, v - downW v b2, v + upW v b3⟩
theorem upW_N (v b : BitVec 64) : N (upW v b) = min (min (N (BitVec.ofInt 64 (9223372036854775807 - N v))) (N b)) 9223372036854775807 := by unfold upW; rw [Spn.N_umin, Spn.N_umin, N_max]
end Go.Proofs.Ytdlgebfaijlaoaa
end
section
namespace Go.Proofs.Ytdlgebfaijlaoaa
open Go.RowKit
open Spn (Sp umax umin smax smin okS tightS anyS settledS commonS minW maxW constS addR subR SHas SValid SIn)
attribute [local go_sem] u64_wrap BitVec.ofInt_add ofInt_N ofInt_Nw u64_and u64_or u64_xor wrap64_N ofInt_Z64 max_N min_N max_Z min_Z w_add w_sub

theorem made_has (v b0 b1 b2 b3 : BitVec 64) : SHas (madeS v b0 b1 b2 b3) v := by
  have hv := Spn.two_forms v
  have m0 : N (umin v b0) ≤ N v := by rw [Spn.N_umin]; exact Int.min_le_left _ _
  have m0' := N_nonneg (umin v b0)
  have nn : N (~~~v) = 18446744073709551615 - N v := by
    unfold N; rw [BitVec.toNat_not]; have := v.isLt; omega
  have m1 : N (umin (~~~v) b1) ≤ N (~~~v) := by rw [Spn.N_umin]; exact Int.min_le_left _ _
  have m1' := N_nonneg (umin (~~~v) b1)
  have e0 : N (BitVec.ofInt 64 (N v - N (umin v b0))) = N v - N (umin v b0) := N_ofInt _ (by omega) (by omega)
  have e1 := Spn.N_add v (umin (~~~v) b1)
  have r2 : N (v - 9223372036854775808#64) = Z v + 9223372036854775808 := by
    have h := Spn.N_sub v 9223372036854775808#64
    rw [show N (9223372036854775808#64) = 9223372036854775808 by decide] at h
    omega
  have r3 : N (BitVec.ofInt 64 (9223372036854775807 - N v)) = 9223372036854775807 - Z v := by
    rw [N_ofInt_mod]
    have : ((2 ^ 64 : Nat) : Int) = 18446744073709551616 := by decide
    rw [this]
    omega
  have d1 : N (downW v b2) ≤ N (v - 9223372036854775808#64) := by rw [downW_N]; exact Int.le_trans (Int.min_le_left _ _) (Int.min_le_left _ _)
  have d2 : N (downW v b2) ≤ 9223372036854775807 := by rw [downW_N]; exact Int.min_le_right _ _
  have d3 := N_nonneg (downW v b2)
  have u1 : N (upW v b3) ≤ N (BitVec.ofInt 64 (9223372036854775807 - N v)) := by rw [upW_N]; exact Int.le_trans (Int.min_le_left _ _) (Int.min_le_left _ _)
  have u2 : N (upW v b3) ≤ 9223372036854775807 := by rw [upW_N]; exact Int.min_le_right _ _
  have u3 := N_nonneg (upW v b3)
  have s2 := Spn.N_sub v (downW v b2)
  have s3 := Spn.N_add v (upW v b3)
  have f2 := Spn.two_forms (v - downW v b2)
  have f3 := Spn.two_forms (v + upW v b3)
  rw [r2] at d1
  rw [r3] at u1
  clear r2 r3
  refine ⟨?_, ?_, ?_, ?_⟩
  · show N (BitVec.ofInt 64 (N v - N (umin v b0))) ≤ N v
    omega
  · show N v ≤ N (v + umin (~~~v) b1)
    omega
  · show Z (v - downW v b2) ≤ Z v
    clear e0 e1 m0 m1 nn s3 f3 u1 u2 u3
    omega
  · show Z v ≤ Z (v + upW v b3)
    clear e0 e1 m0 m1 nn s2 f2 d1 d2 d3
    omega
theorem e_upto9 (w : World) : Calls Try.prog 74 #[.int .u64 9] w fun e w' => e = .returned (.agg #[.int .u64 0, .int .u64 9, .int .i64 0, .int .i64 9]) ∧ Grown w w' := by
  have h := sp_upto 9#64 (by decide) w
  have n0 : N (9#64) = 9 := by decide +kernel
  have q0 : N (uptoL 9#64).lo = 0 := by decide +kernel
  have q1 : N (uptoL 9#64).hi = 9 := by decide +kernel
  have q2 : Z (uptoL 9#64).slo = 0 := by decide +kernel
  have q3 : Z (uptoL 9#64).shi = 9 := by decide +kernel
  simp only [q0, q1, q2, q3] at h
  simp only [n0] at h
  exact h
theorem e_const1 (w : World) : Calls Try.prog 21 #[.int .u64 1] w fun e w' => e = .returned (.agg #[.int .u64 1, .int .u64 1, .int .i64 1, .int .i64 1]) ∧ Grown w w' := by
  have h := sp_const 1#64 w
  have n0 : N (1#64) = 1 := by decide +kernel
  have q0 : N (constS 1#64).lo = 1 := by decide +kernel
  have q1 : N (constS 1#64).hi = 1 := by decide +kernel
  have q2 : Z (constS 1#64).slo = 1 := by decide +kernel
  have q3 : Z (constS 1#64).shi = 1 := by decide +kernel
  simp only [q0, q1, q2, q3] at h
  simp only [n0] at h
  exact h
theorem e_const10 (w : World) : Calls Try.prog 21 #[.int .u64 10] w fun e w' => e = .returned (.agg #[.int .u64 10, .int .u64 10, .int .i64 10, .int .i64 10]) ∧ Grown w w' := by
  have h := sp_const 10#64 w
  have n0 : N (10#64) = 10 := by decide +kernel
  have q0 : N (constS 10#64).lo = 10 := by decide +kernel
  have q1 : N (constS 10#64).hi = 10 := by decide +kernel
  have q2 : Z (constS 10#64).slo = 10 := by decide +kernel
  have q3 : Z (constS 10#64).shi = 10 := by decide +kernel
  simp only [q0, q1, q2, q3] at h
  simp only [n0] at h
  exact h
theorem e_add (w : World) : Calls Try.prog 55 #[.agg #[.int .u64 0, .int .u64 9, .int .i64 0, .int .i64 9], .agg #[.int .u64 1, .int .u64 1, .int .i64 1, .int .i64 1]] w fun e w' => e = .returned (.agg #[.int .u64 1, .int .u64 10, .int .i64 1, .int .i64 10]) ∧ Grown w w' := by
  have h := sp_add 0#64 9#64 0#64 9#64 1#64 1#64 1#64 1#64 w
  have n0 : N (0#64) = 0 := by decide +kernel
  have n1 : N (1#64) = 1 := by decide +kernel
  have n2 : N (9#64) = 9 := by decide +kernel
  have z0 : Z (0#64) = 0 := by decide +kernel
  have z1 : Z (1#64) = 1 := by decide +kernel
  have z2 : Z (9#64) = 9 := by decide +kernel
  have q0 : N (addR (settledS (⟨0#64, 9#64, 0#64, 9#64⟩ : Sp)) (settledS (⟨1#64, 1#64, 1#64, 1#64⟩ : Sp))).lo = 1 := by decide +kernel
  have q1 : N (addR (settledS (⟨0#64, 9#64, 0#64, 9#64⟩ : Sp)) (settledS (⟨1#64, 1#64, 1#64, 1#64⟩ : Sp))).hi = 10 := by decide +kernel
  have q2 : Z (addR (settledS (⟨0#64, 9#64, 0#64, 9#64⟩ : Sp)) (settledS (⟨1#64, 1#64, 1#64, 1#64⟩ : Sp))).slo = 1 := by decide +kernel
  have q3 : Z (addR (settledS (⟨0#64, 9#64, 0#64, 9#64⟩ : Sp)) (settledS (⟨1#64, 1#64, 1#64, 1#64⟩ : Sp))).shi = 10 := by decide +kernel
  simp only [q0, q1, q2, q3] at h
  simp only [n0, n1, n2, z0, z1, z2] at h
  exact h
theorem e_sub (w : World) : Calls Try.prog 57 #[.agg #[.int .u64 0, .int .u64 9, .int .i64 0, .int .i64 9], .agg #[.int .u64 10, .int .u64 10, .int .i64 10, .int .i64 10]] w fun e w' => e = .returned (.agg #[.int .u64 18446744073709551606, .int .u64 18446744073709551615, .int .i64 (-10), .int .i64 (-1)]) ∧ Grown w w' := by
  have h := sp_sub 0#64 9#64 0#64 9#64 10#64 10#64 10#64 10#64 w
  have n0 : N (0#64) = 0 := by decide +kernel
  have n1 : N (9#64) = 9 := by decide +kernel
  have n2 : N (10#64) = 10 := by decide +kernel
  have z0 : Z (0#64) = 0 := by decide +kernel
  have z1 : Z (9#64) = 9 := by decide +kernel
  have z2 : Z (10#64) = 10 := by decide +kernel
  have q0 : N (subR (settledS (⟨0#64, 9#64, 0#64, 9#64⟩ : Sp)) (settledS (⟨10#64, 10#64, 10#64, 10#64⟩ : Sp))).lo = 18446744073709551606 := by decide +kernel
  have q1 : N (subR (settledS (⟨0#64, 9#64, 0#64, 9#64⟩ : Sp)) (settledS (⟨10#64, 10#64, 10#64, 10#64⟩ : Sp))).hi = 18446744073709551615 := by decide +kernel
  have q2 : Z (subR (settledS (⟨0#64, 9#64, 0#64, 9#64⟩ : Sp)) (settledS (⟨10#64, 10#64, 10#64, 10#64⟩ : Sp))).slo = -10 := by decide +kernel
  have q3 : Z (subR (settledS (⟨0#64, 9#64, 0#64, 9#64⟩ : Sp)) (settledS (⟨10#64, 10#64, 10#64, 10#64⟩ : Sp))).shi = -1 := by decide +kernel
  simp only [q0, q1, q2, q3] at h
  simp only [n0, n1, n2, z0, z1, z2] at h
  exact h
theorem e_any (w : World) : Calls Try.prog 29 #[] w fun e w' => e = .returned (.agg #[.int .u64 0, .int .u64 18446744073709551615, .int .i64 (-9223372036854775808), .int .i64 9223372036854775807]) ∧ Grown w w' := by
  have h := sp_any w
  have q0 : N (anyS).lo = 0 := by decide +kernel
  have q1 : N (anyS).hi = 18446744073709551615 := by decide +kernel
  have q2 : Z (anyS).slo = -9223372036854775808 := by decide +kernel
  have q3 : Z (anyS).shi = 9223372036854775807 := by decide +kernel
  simp only [q0, q1, q2, q3] at h
  exact h
end Go.Proofs.Ytdlgebfaijlaoaa
end
section
namespace Go.Proofs.Ytdlgebfaijlaoaa.Ex
open Go Go.RowKit
open Go.Proofs.Ytdlgebfaijlaoaa.Spn (Sp okS tightS settledS commonS constS SHas SIn SValid two_forms tight_has tight_in tight_cases plus_in minus_in empty_iff plusS minusS emptyS N0 N1 Z0 Nm1 Zm1 N_half)
open Go.Proofs.Ytdlgebfaijlaoaa.Sc (first_has last_has first_ge last_le firstV firstOk lastV lastOk)

def HasN (a : NI) (v : BitVec 64) : Prop := hasT (tB a.t).1 (tB a.t).2 v ∧ SHas (sB a.s) v
def InR (r : RI) (v : BitVec 64) : Prop := r.ok = true ∧ N (B r.lo) ≤ N v ∧ N v ≤ N (B r.hi)
/-- A run of numbers from 0 on, and one of those below 0; none is empty. -/
def PlusR (r : RI) : Prop := r.ok = true → N (B r.lo) ≤ N (B r.hi) ∧ N (B r.hi) < 9223372036854775808
def MinusR (r : RI) : Prop := r.ok = true → N (B r.lo) ≤ N (B r.hi) ∧ 9223372036854775808 ≤ N (B r.lo)
theorem BN (v : BitVec 64) : B (N v) = v := ofInt_N v
theorem BZ (v : BitVec 64) : B (Z v) = v := B_Z v
theorem B_u64 (x : Int) : B (IntKind.u64.wrap x) = B x := by rw [u64_wrap]; exact BN _
theorem B_i64 (x : Int) : B (IntKind.i64.wrap x) = B x := by
  have e : IntKind.i64.wrap x = Z (BitVec.ofInt 64 x) := by rw [Z_ofInt]; unfold wrap64; rw [IntKind.wrap_i64]
  rw [e]; exact BZ _
/-- The halves of what is drawn. -/
theorem tight_half {X : Sp} (h : okS X = true) : (0 ≤ Z (tightS X).slo → N (tightS X).hi < 9223372036854775808) ∧ (Z (tightS X).shi < 0 → 9223372036854775808 ≤ N (tightS X).lo) ∧
    (Z (tightS X).slo < 0 → 0 ≤ Z (tightS X).shi → N (tightS X).lo ≤ N (tightS X).shi ∧ N (tightS X).slo ≤ N (tightS X).hi) := by
  have ep := empty_iff (plusS X)
  have em := empty_iff (minusS X)
  have fp1 := two_forms (plusS X).1
  have fp2 := two_forms (plusS X).2
  have fm1 := two_forms (minusS X).1
  have fm2 := two_forms (minusS X).2
  have ip := @plus_in X
  have im := @minus_in X
  rcases tight_cases X with ⟨ho, h1, h2⟩ | ⟨ho, h1, h2, e⟩ | ⟨ho, h1, h2, e⟩ | ⟨ho, h1, h2, e⟩
  · rw [h] at ho; cases ho
  all_goals
    simp only [h1, h2, Bool.true_eq_false, Bool.false_eq_true, false_and, or_false, false_or, true_and] at ep em
    rw [e]
    dsimp only
    first
      | (have ip' := ip ep; have im' := im em; clear ip im; omega)
      | (have ip' := ip ep; clear ip im; omega)
      | (have im' := im em; clear ip im; omega)
theorem halves_has {X : Sp} {v : BitVec 64} (_hk : okS X = true) (h : SHas (tightS X) v) :
    (InR (halvesI (sN (tightS X))).1 v ∨ InR (halvesI (sN (tightS X))).2 v) := by
  have hv := two_forms v
  have f1 := two_forms (tightS X).slo
  have f2 := two_forms (tightS X).shi
  obtain ⟨h1, h2, h3, h4⟩ := h
  unfold halvesI sN
  simp only
  split
  · left; exact ⟨rfl, by rw [BN]; exact h1, by rw [BN]; exact h2⟩
  · rename_i n1
    simp only [decide_eq_true_eq] at n1
    split
    · right; exact ⟨rfl, by rw [BN]; exact h1, by rw [BN]; exact h2⟩
    · rename_i n2
      simp only [decide_eq_true_eq] at n2
      by_cases hz : 0 ≤ Z v
      · left
        refine ⟨rfl, by rw [BN]; exact h1, ?_⟩
        simp only [B_u64, BZ]
        omega
      · right
        refine ⟨rfl, ?_, by rw [BN]; exact h2⟩
        simp only [B_u64, BZ]
        omega
theorem halves_parts {X : Sp} (hk : okS X = true) : PlusR (halvesI (sN (tightS X))).1 ∧ MinusR (halvesI (sN (tightS X))).2 := by
  obtain ⟨t1, t2, t3⟩ := tight_half hk
  obtain ⟨⟨v1, v2⟩, _⟩ := tight_in hk
  have f1 := two_forms (tightS X).slo
  have f2 := two_forms (tightS X).shi
  unfold halvesI sN
  simp only
  split
  · rename_i n1
    simp only [decide_eq_true_eq] at n1
    exact ⟨(fun _ => by rw [BN, BN]; exact ⟨v1, t1 n1⟩), (fun h => by cases h)⟩
  · rename_i n1
    simp only [decide_eq_true_eq] at n1
    split
    · rename_i n2
      simp only [decide_eq_true_eq] at n2
      exact ⟨(fun h => by cases h), fun _ => by rw [BN, BN]; exact ⟨v1, t2 n2⟩⟩
    · rename_i n2
      simp only [decide_eq_true_eq] at n2
      have t3' := t3 (by omega) (by omega)
      exact ⟨(fun _ => by simp only [B_u64, BZ, BN]; omega), (fun _ => by simp only [B_u64, BZ, BN]; omega)⟩
theorem among_has {r : RI} {t : TI} {v : BitVec 64} (h : InR r v) (ht : hasT (tB t).1 (tB t).2 v) : InR (amongI r t) v := by
  obtain ⟨h0, h1, h2⟩ := h
  obtain ⟨f1, f2⟩ := first_has (t := tB t) ht h1
  obtain ⟨l1, l2⟩ := last_has (t := tB t) ht h2
  have e1 : firstK t r.lo = true := f1
  have e2 : lastK t r.hi = true := l1
  have e3 : decide (firstI t r.lo > lastI t r.hi) = false := by
    refine decide_eq_false ?_
    unfold firstI lastI
    omega
  unfold amongI
  rw [h0, e1, e2, e3]
  refine ⟨rfl, ?_, ?_⟩
  · show N (B (firstI t r.lo)) ≤ N v
    unfold firstI; rw [BN]; exact f2
  · show N v ≤ N (B (lastI t r.hi))
    unfold lastI; rw [BN]; exact l2
theorem among_in {r : RI} {t : TI} (h : (amongI r t).ok = true) : r.ok = true ∧ N (B r.lo) ≤ N (B (amongI r t).lo) ∧ N (B (amongI r t).lo) ≤ N (B (amongI r t).hi) ∧ N (B (amongI r t).hi) ≤ N (B r.hi) := by
  unfold amongI at h ⊢
  split at h
  · rename_i hc
    rw [if_pos hc]
    simp only [Bool.and_eq_true, Bool.not_eq_true', decide_eq_false_iff_not] at hc
    obtain ⟨⟨⟨h0, h1⟩, h2⟩, h3⟩ := hc
    refine ⟨h0, ?_, ?_, ?_⟩
    · show _ ≤ N (B (firstI t r.lo)); unfold firstI; rw [BN]; exact first_ge h1
    · show N (B (firstI t r.lo)) ≤ N (B (lastI t r.hi))
      unfold firstI lastI at h3 ⊢; rw [BN, BN]; omega
    · show N (B (lastI t r.hi)) ≤ _; unfold lastI; rw [BN]; exact last_le h2
  · cases h
theorem plus_among {r : RI} {t : TI} (h : PlusR r) : PlusR (amongI r t) := fun hk => by
  obtain ⟨h0, h1, h2, h3⟩ := among_in hk
  have := h h0
  exact ⟨h2, by omega⟩
theorem minus_among {r : RI} {t : TI} (h : MinusR r) : MinusR (amongI r t) := fun hk => by
  obtain ⟨h0, h1, h2, h3⟩ := among_in hk
  have := h h0
  exact ⟨h2, by omega⟩
theorem known_has {p m : RI} {v : BitVec 64} (h : InR p v ∨ InR m v) : hasT (tB (knownI p m)).1 (tB (knownI p m)).2 v := by
  unfold knownI
  cases hm : m.ok with
  | false =>
    simp only [Bool.false_eq_true, if_false]
    rcases h with h | h
    · rw [tRangeI, tB_tN]; exact has_range h.2.1 h.2.2
    · exact absurd (hm.symm.trans h.1) (by decide)
  | true =>
    simp only [if_true]
    cases hp : p.ok with
    | false =>
      simp only [Bool.false_eq_true, if_false]
      rcases h with h | h
      · exact absurd (hp.symm.trans h.1) (by decide)
      · rw [tRangeI, tB_tN]; exact has_range h.2.1 h.2.2
    | true =>
      simp only [if_true, tEitherI, tRangeI, tB_tN]
      rcases h with h | h
      · exact has_eitherL (has_range h.2.1 h.2.2)
      · exact has_eitherR (has_range h.2.1 h.2.2)
theorem hull_has {p m : RI} {v : BitVec 64} (hp : PlusR p) (hm : MinusR m) (h : InR p v ∨ InR m v) : SHas (sB (hullI p m)) v := by
  have hv := two_forms v
  have a1 := two_forms (B p.lo)
  have a2 := two_forms (B p.hi)
  have a3 := two_forms (B m.lo)
  have a4 := two_forms (B m.hi)
  unfold hullI
  cases km : m.ok with
  | false =>
    simp only [Bool.false_eq_true, if_false]
    rcases h with h | h
    · have := hp h.1
      obtain ⟨_, h1, h2⟩ := h
      unfold SHas sB
      simp only [B_i64]
      omega
    · exact absurd (km.symm.trans h.1) (by decide)
  | true =>
    have hm' := hm km
    simp only [if_true]
    cases kp : p.ok with
    | false =>
      simp only [Bool.false_eq_true, if_false]
      rcases h with h | h
      · exact absurd (kp.symm.trans h.1) (by decide)
      · obtain ⟨_, h1, h2⟩ := h
        unfold SHas sB
        simp only [B_i64]
        omega
    | true =>
      have hp' := hp kp
      simp only [if_true]
      unfold SHas sB
      simp only [B_i64]
      rcases h with ⟨_, h1, h2⟩ | ⟨_, h1, h2⟩ <;> omega
theorem both_has {a b : TI} {v : BitVec 64} (ha : hasT (tB a).1 (tB a).2 v) (hb : hasT (tB b).1 (tB b).2 v) : tBothKI a b = true ∧ hasT (tB (tBothI a b)).1 (tB (tBothI a b)).2 v := by
  obtain ⟨h1, h2⟩ := both_some ha hb
  have e : (N (((tB a).1 ^^^ (tB b).1) &&& ~~~(tB a).2 &&& ~~~(tB b).2) == 0) = true := by rw [h1]; rfl
  refine ⟨e, ?_⟩
  unfold tBothI
  rw [tB_tN]
  unfold tBothV
  rw [if_pos e]
  exact h2
theorem tight_has' {a : NI} {v : BitVec 64} (h : HasN a v) : tightK a = true ∧ HasN (tightI a) v := by
  obtain ⟨ht, hs⟩ := h
  obtain ⟨k1, k2⟩ := tight_has hs
  have e : sTightI a.s = sN (tightS (sB a.s)) := rfl
  have hh := halves_has k1 k2
  have hpm := halves_parts k1
  rw [← e] at hh hpm
  have hin : InR (tP a) v ∨ InR (tM a) v := hh.imp (fun x => among_has x ht) (fun x => among_has x ht)
  have hp : PlusR (tP a) := plus_among hpm.1
  have hm : MinusR (tM a) := minus_among hpm.2
  have hok : ((tP a).ok || (tM a).ok) = true := by
    rcases hin with h | h
    · rw [h.1]; rfl
    · rw [h.1]; simp
  obtain ⟨b1, b2⟩ := both_has ht (known_has hin)
  have hk : tightK a = true := by
    unfold tightK
    rw [show sTightKI a.s = true from k1, hok, b1]; rfl
  refine ⟨hk, ?_⟩
  unfold tightI
  rw [if_pos hk]
  exact ⟨b2, hull_has hp hm hin⟩
theorem tight_okT {a : NI} (h : tightK a = true) : okT (tB (tightI a).t).1 (tB (tightI a).t).2 := by
  have h' := h
  unfold tightK at h'
  simp only [Bool.and_eq_true] at h'
  have hb : (N (((tB a.t).1 ^^^ (tB (knownI (tP a) (tM a))).1) &&& ~~~(tB a.t).2 &&& ~~~(tB (knownI (tP a) (tM a))).2) == 0) = true := h'.2
  unfold tightI
  rw [if_pos h]
  show okT (tB (tBothI a.t (knownI (tP a) (tM a)))).1 _
  unfold tBothI
  rw [tB_tN]
  unfold tBothV
  rw [if_pos hb]
  exact ok_of _ _
theorem settled_has' {a : NI} {v : BitVec 64} (h : HasN a v) : HasN (settledI a) v := by
  unfold settledI
  split
  · exact (tight_has' h).2
  · exact h
theorem and_all (v : BitVec 64) : v &&& 18446744073709551615#64 = v := by rw [show (18446744073709551615#64 : BitVec 64) = BitVec.allOnes 64 from by decide, BitVec.and_allOnes]
theorem any_has' (v : BitVec 64) : HasN anyN v := by
  refine ⟨?_, ?_⟩
  · show v &&& ~~~(B 18446744073709551615) = B 0
    have e : ~~~(B 18446744073709551615) = 0#64 := by decide
    rw [e, show B 0 = 0#64 from rfl]; simp
  · exact Spn.any_has v
theorem const_has' (v : BitVec 64) : HasN (constI (N v)) v := by
  refine ⟨?_, ?_⟩
  · show v &&& ~~~(B 0) = B (N v)
    rw [BN, show B 0 = 0#64 from rfl]; simp [and_all]
  · show SHas (sB (sN (constS (B (N v))))) v
    rw [sB_sN, BN]; exact Spn.const_has v
theorem const_okT (x : Int) : okT (tB (constI x).t).1 (tB (constI x).t).2 := by
  show B x &&& B 0 = 0#64
  rw [show B 0 = 0#64 from rfl]; simp
theorem one_has {a : NI} {v : BitVec 64} (hk : oneK a = true) (hw : nW a = true) (h : HasN a v) : oneI a = N v := by
  unfold oneK at hk
  simp only [bne, Bool.not_not, beq_iff_eq] at hk
  unfold oneI
  rw [if_neg (by simp [bne, hk])]
  have h1 : v &&& ~~~(B a.t.m) = B a.t.v := h.1
  rw [hk, show B 0 = 0#64 from rfl] at h1
  have h2 : v = B a.t.v := by simpa [and_all] using h1
  unfold nW tW at hw
  simp only [Bool.and_eq_true] at hw
  obtain ⟨y, hy⟩ := uB_eq hw.1.1
  rw [h2, hy, BN]
end Go.Proofs.Ytdlgebfaijlaoaa.Ex
end
section
namespace Go.Proofs.Ytdlgebfaijlaoaa.Ex
open Go Go.RowKit
open Go.Proofs.Ytdlgebfaijlaoaa.Spn (Sp okS tightS settledS commonS constS SHas two_forms N0 N1 Z0 settled_has addR_has subR_has mulR_has divR_has modR_has andR_has orR_has xorR_has lshR_has rshR_has arshR_has low32R_has halfW N_half N_shr' Z_shr')

theorem half_set (z : BitVec 64) : z &&& halfW = (z.setWidth 32).setWidth 64 := by
  apply BitVec.eq_of_toNat_eq
  have h := N_half z
  unfold N at h
  rw [BitVec.toNat_setWidth, BitVec.toNat_setWidth]
  have := z.isLt
  omega
theorem upto_has' {h : Int} {z : BitVec 64} (hw : uB h = true) (hz : N z ≤ N (B h)) : HasN (uptoI h) z := by
  obtain ⟨y, rfl⟩ := uB_eq hw
  rw [BN y] at hz
  have fz := two_forms z
  have fy := two_forms y
  refine ⟨?_, ?_⟩
  · show hasT (tB (tRangeI 0 (N y))).1 (tB (tRangeI 0 (N y))).2 z
    rw [tRangeI, tB_tN, BN y]
    exact has_range (by rw [show B 0 = 0#64 from rfl, N0]; exact N_nonneg z) hz
  · show SHas (sB (sUptoI (N y))) z
    unfold sUptoI
    split
    · rename_i hc
      simp only [decide_eq_true_eq] at hc
      unfold SHas sB
      simp only [B_i64, BN y, show B 0 = 0#64 from rfl, N0, Z0]
      omega
    · unfold SHas sB
      simp only [BN y, show B 0 = 0#64 from rfl, N0, show Z (B (-9223372036854775808)) = -9223372036854775808 from by decide, show Z (B 9223372036854775807) = 9223372036854775807 from by decide]
      omega
theorem small_mod {c : BitVec 64} (h : c.toNat < 64) : (B (N c) &&& 63#64).toNat = c.toNat ∧ (N c % 64).toNat = c.toNat := by
  constructor
  · rw [BN, BitVec.toNat_and, show (63#64 : BitVec 64).toNat = 2 ^ 6 - 1 from rfl, Nat.and_two_pow_sub_one_eq_mod, Nat.mod_eq_of_lt h]
  · unfold N; omega
theorem lsh_has' {a : NI} {v c : BitVec 64} (hc : c.toNat < 64) (h : HasN a v) : HasN (lshI a (N c)) (v <<< c.toNat) := by
  obtain ⟨e1, e2⟩ := small_mod hc
  refine ⟨?_, ?_⟩
  · show hasT (tB (tLshI a.t (N c))).1 (tB (tLshI a.t (N c))).2 _
    rw [tLshI, tB_tN, e1]; exact has_lsh h.1 _
  · show SHas (sB (sLshI a.s (N c))) _
    rw [sLshI, sB_sN, e2]; exact lshR_has _ (settled_has h.2)
theorem rsh_has' {a : NI} {v c : BitVec 64} (hc : c.toNat < 64) (h : HasN a v) : HasN ⟨tRshI a.t (N c), sRshI a.s (N c)⟩ (v >>> c.toNat) := by
  obtain ⟨e1, e2⟩ := small_mod hc
  refine ⟨?_, ?_⟩
  · show hasT (tB (tRshI a.t (N c))).1 (tB (tRshI a.t (N c))).2 _
    rw [tRshI, tB_tN, e1]; exact has_rsh h.1 _
  · show SHas (sB (sRshI a.s (N c))) _
    rw [sRshI, sB_sN, e2]; exact rshR_has _ (settled_has h.2)
theorem arsh_has' {a : NI} {v c : BitVec 64} (hc : c.toNat < 64) (h : HasN a v) : HasN (arshI a (N c)) (v.sshiftRight c.toNat) := by
  obtain ⟨e1, e2⟩ := small_mod hc
  refine ⟨?_, ?_⟩
  · show hasT (tB (tArshI a.t (N c))).1 (tB (tArshI a.t (N c))).2 _
    rw [tArshI, tB_tN, e1]; exact has_arsh h.1 _
  · show SHas (sB (sArshI a.s (N c))) _
    rw [sArshI, sB_sN, e2]; exact arshR_has _ (settled_has h.2)
theorem low_has' {a : NI} {v : BitVec 64} (h : HasN a v) : HasN (lowI a) (v &&& halfW) := by
  refine settled_has' ⟨?_, ?_⟩
  · show hasT (tB (tLowI a.t 32)).1 (tB (tLowI a.t 32)).2 _
    rw [tLowI, tB_tN]
    unfold tLow
    rw [if_neg (by omega), if_neg (by omega), show (1#64 <<< (32 : Int).toNat - 1#64 : BitVec 64) = halfW from by decide]
    exact has_low h.1 halfW
  · show SHas (sB (sLowI a.s)) _
    rw [sLowI, sB_sN]; exact low32R_has (settled_has h.2)
theorem and_N (y m : BitVec 64) (n : Int) (hm : B n = m) : andI (N y) n = N (y &&& m) := by
  unfold andI
  show IntKind.u64.wrap (((B (N y) &&& B n).toNat : Nat) : Int) = _
  rw [hm, BN, u64_wrap, BitVec.ofInt_natCast, BitVec.ofNat_toNat, BitVec.setWidth_eq]
theorem cnt_N (y m : BitVec 64) (n : Int) (hm : B n = m) (hs : (y &&& m).toNat < 9223372036854775808) : cntI (N y) n = N (y &&& m) := by
  unfold cntI
  rw [and_N y m n hm, i64_wrap_N]
  have := two_forms (y &&& m)
  have h : N (y &&& m) < 9223372036854775808 := by unfold N; omega
  omega
theorem and63_lt (y : BitVec 64) : (y &&& 63#64).toNat = y.toNat % 64 := by
  rw [BitVec.toNat_and, show (63#64 : BitVec 64).toNat = 2 ^ 6 - 1 from rfl, Nat.and_two_pow_sub_one_eq_mod]
theorem and31_lt (y : BitVec 64) : (y &&& 31#64).toNat = y.toNat % 32 := by
  rw [BitVec.toNat_and, show (31#64 : BitVec 64).toNat = 2 ^ 5 - 1 from rfl, Nat.and_two_pow_sub_one_eq_mod]
theorem N_sshr_le {x : BitVec 64} (k : Nat) (h : 0 ≤ Z x) : N (x.sshiftRight k) ≤ N x := by
  have h1 := Z_shr' x k
  have h2 := two_forms x
  have h3 := two_forms (x.sshiftRight k)
  have hp : (0 : Int) < 2 ^ k := by exact_mod_cast Nat.two_pow_pos k
  have h4 : 0 ≤ Z x / 2 ^ k := Int.ediv_nonneg h (by omega)
  have h5 : Z x / 2 ^ k ≤ Z x := Int.ediv_le_self _ h
  omega
theorem moved_has {a b : NI} {x y : BitVec 64} (ha : HasN a x) (hb : HasN b y) (wa : nW a = true) (wb : nW b = true) :
    HasN (movedI 96 a b) (x <<< (y.toNat % 64)) ∧ HasN (movedI 112 a b) (x >>> (y.toNat % 64)) ∧ HasN (movedI 192 a b) (x.sshiftRight (y.toNat % 64)) := by
  have e63 : (y &&& 63#64).toNat = y.toNat % 64 := and63_lt y
  have wa' := wa
  unfold nW sW at wa'
  simp only [Bool.and_eq_true] at wa'
  obtain ⟨hh, ehh⟩ := uB_eq wa'.2.1.1.2
  cases k : oneK b with
  | true =>
    have e1 := one_has k wb hb
    have e2 : cntI (oneI b) 63 = N (y &&& 63#64) := by rw [e1]; exact cnt_N y _ 63 rfl (by rw [e63]; omega)
    have hlt : (y &&& 63#64).toNat < 64 := by rw [e63]; omega
    refine ⟨?_, ?_, ?_⟩
    · unfold movedI; rw [if_pos k, if_pos rfl, e2, ← e63]; exact lsh_has' hlt ha
    · unfold movedI; rw [if_pos k, if_neg (by decide), if_pos rfl, e2, ← e63]; exact rsh_has' hlt ha
    · unfold movedI; rw [if_pos k, if_neg (by decide), if_neg (by decide), e2, ← e63]; exact arsh_has' hlt ha
  | false =>
    have kn : ¬ oneK b = true := by rw [k]; decide
    have hx : N x ≤ N (B a.s.hi) := ha.2.2.1
    refine ⟨?_, ?_, ?_⟩
    · unfold movedI; rw [if_neg kn, if_neg (by decide), if_neg (by decide)]; exact any_has' _
    · unfold movedI; rw [if_neg kn, if_pos rfl]
      refine upto_has' wa'.2.1.1.2 (Int.le_trans ?_ hx)
      rw [N_shr']
      have hp : (0 : Int) < 2 ^ (y.toNat % 64) := by exact_mod_cast Nat.two_pow_pos _
      exact Int.ediv_le_self _ (N_nonneg x)
    · unfold movedI; rw [if_neg kn, if_neg (by decide), if_pos rfl]
      obtain ⟨z, ez⟩ := zB_eq wa'.2.1.2
      obtain ⟨u, eu⟩ := zB_eq wa'.2.2
      have hlo : Z (B a.s.slo) ≤ Z x := ha.2.2.2.1
      have hhi : Z x ≤ Z (B a.s.shi) := ha.2.2.2.2
      rw [ez, BZ] at hlo
      rw [eu, BZ] at hhi
      split
      · rename_i hc
        simp only [decide_eq_true_eq] at hc
        exact upto_has' wa'.2.1.1.2 (Int.le_trans (N_sshr_le _ (by omega)) hx)
      · rename_i hc
        simp only [decide_eq_true_eq] at hc
        have h1 := Z_shr' x (y.toNat % 64)
        have hp : (0 : Int) < 2 ^ (y.toNat % 64) := by exact_mod_cast Nat.two_pow_pos _
        have fs := two_forms (x.sshiftRight (y.toNat % 64))
        have fx := two_forms x
        refine ⟨(any_has' _).1, ?_⟩
        have g1 : Z z ≤ Z (x.sshiftRight (y.toNat % 64)) := by
          rw [h1]
          by_cases hn : 0 ≤ Z x
          · have := Int.ediv_nonneg hn (Int.le_of_lt hp); omega
          · have : Z x ≤ Z x / 2 ^ (y.toNat % 64) := by
              rw [Int.le_ediv_iff_mul_le hp]
              generalize (2 : Int) ^ (y.toNat % 64) = P at *
              have := Int.mul_le_mul_of_nonneg_right (show Z x ≤ 0 by omega) (show 0 ≤ P - 1 by omega)
              rw [Int.mul_sub, Int.mul_one, Int.zero_mul] at this
              omega
            omega
        have g2 : Z (x.sshiftRight (y.toNat % 64)) ≤ (if -1 > Z u then -1 else Z u) := by
          rw [h1]
          by_cases hn : 0 ≤ Z x
          · have := Int.ediv_le_self (2 ^ (y.toNat % 64)) hn
            split <;> omega
          · have : Z x / 2 ^ (y.toNat % 64) < 0 := Int.ediv_neg_of_neg_of_pos (by omega) hp
            split <;> omega
        unfold SHas sB
        simp only
        rw [ez, eu, BZ]
        have e : Z (B (if -1 > Z u then -1 else Z u)) = if -1 > Z u then -1 else Z u := by
          split
          · decide
          · rw [BZ]
        rw [e]
        refine ⟨by rw [show B 0 = 0#64 from rfl, N0]; omega, by rw [show N (B 18446744073709551615) = 18446744073709551615 from by decide]; omega, g1, g2⟩
end Go.Proofs.Ytdlgebfaijlaoaa.Ex
end
section
namespace Go.Proofs.Ytdlgebfaijlaoaa.Ex
open Go Go.RowKit
open Go.Proofs.Ytdlgebfaijlaoaa.Spn (Sp okS tightS settledS commonS constS SHas two_forms N0 N1 Z0 settled_has addR_has subR_has mulR_has divR_has modR_has andR_has orR_has xorR_has halfW N_half)

def OkN (a : NI) : Prop := okT (tB a.t).1 (tB a.t).2
theorem T_has {t : TI} {x : BitVec 64 × BitVec 64} (e : t = tN x) {v : BitVec 64} (h : hasT x.1 x.2 v) : hasT (tB t).1 (tB t).2 v := by rw [e, tB_tN]; exact h
theorem S_has {s : SI} {x : Sp} (e : s = sN x) {v : BitVec 64} (h : SHas x v) : SHas (sB s) v := by rw [e, sB_sN]; exact h
theorem anyT_has (v : BitVec 64) : hasT (tB anyT).1 (tB anyT).2 v := (any_has' v).1
theorem aluW_shift {x y : BitVec 64} : aluW 96 x y = x <<< (y.toNat % 64) ∧ aluW 112 x y = x >>> (y.toNat % 64) ∧ aluW 192 x y = x.sshiftRight (y.toNat % 64) := ⟨rfl, rfl, rfl⟩
theorem do_has {op : Int} {a b : NI} {x y : BitVec 64} (ha : HasN a x) (hb : HasN b y) (oa : OkN a) (ob : OkN b) (wa : nW a = true) (wb : nW b = true) : HasN (doI op a b) (aluW op x y) := by
  have sa := settled_has ha.2
  have sb := settled_has hb.2
  obtain ⟨m1, m2, m3⟩ := moved_has ha hb wa wb
  rcases alu_cases op with rfl | rfl | rfl | rfl | rfl | rfl | rfl | rfl | rfl | rfl | rfl | rfl | rfl | hn
  · exact ⟨T_has (t := tAddI a.t b.t) rfl (has_add oa ob ha.1 hb.1), S_has (s := sAddI a.s b.s) rfl (addR_has sa sb)⟩
  · exact ⟨T_has (t := tSubI a.t b.t) rfl (has_sub oa ob ha.1 hb.1), S_has (s := sSubI a.s b.s) rfl (subR_has sa sb)⟩
  · exact ⟨T_has (t := tMulI a.t b.t) rfl (has_mul oa ob ha.1 hb.1), S_has (s := sMulI a.s b.s) rfl (mulR_has sa sb)⟩
  · exact ⟨anyT_has _, S_has (s := sDivI a.s b.s) rfl (divR_has sa sb)⟩
  · refine ⟨anyT_has _, S_has (s := sModI a.s b.s) rfl ?_⟩
    have h := modR_has sa sb
    by_cases hy : y = 0#64
    · rw [if_pos hy] at h
      show SHas _ (x % y)
      rw [hy, BitVec.umod_zero]; exact h
    · rw [if_neg hy] at h; exact h
  · exact ⟨T_has (t := tOrI a.t b.t) rfl (has_or ha.1 hb.1), S_has (s := sOrI a.s b.s) rfl (orR_has sa sb)⟩
  · exact ⟨T_has (t := tAndI a.t b.t) rfl (has_and ha.1 hb.1), S_has (s := sAndI a.s b.s) rfl (andR_has sa sb)⟩
  · exact ⟨T_has (t := tXorI a.t b.t) rfl (has_xor ha.1 hb.1), S_has (s := sXorI a.s b.s) rfl (xorR_has sa sb)⟩
  · exact m1
  · exact m2
  · exact m3
  · have c0 : HasN (constI 0) 0#64 := const_has' 0#64
    have h : (0#64 - x) = aluW 128 x y := by show 0#64 - x = -x; simp
    rw [← h]
    exact ⟨T_has (t := tSubI (constI 0).t a.t) rfl (has_sub (const_okT 0) oa c0.1 ha.1), S_has (s := sSubI (constI 0).s a.s) rfl (subR_has (settled_has c0.2) sa)⟩
  · exact hb
  · rw [aluW_none hn]
    obtain ⟨n0, n16, n32, n48, n144, n64, n80, n160, n96, n112, n192, n128, n176⟩ := hn
    simp only [doI, if_neg n0, if_neg n16, if_neg n32, if_neg n48, if_neg n144, if_neg n64, if_neg n80, if_neg n160, if_neg n96, if_neg n112, if_neg n192, if_neg n128, if_neg n176]
    exact const_has' 0#64
/-! 32 bits within 64. -/
theorem ext_nat (x : BitVec 32) : (x.setWidth 64).toNat = x.toNat := by rw [BitVec.toNat_setWidth]; have := x.isLt; omega
theorem low_back (x : BitVec 32) : (x.setWidth 64).setWidth 32 = x := by
  apply BitVec.eq_of_toNat_eq
  rw [BitVec.toNat_setWidth, ext_nat]; have := x.isLt; omega
theorem alu_low {op : Int} (x y : BitVec 32) (h1 : ¬ op = 96) (h2 : ¬ op = 112) (h3 : ¬ op = 192) : (aluW op (x.setWidth 64) (y.setWidth 64)).setWidth 32 = aluW op x y := by
  have hx := x.isLt
  have hy := y.isLt
  rcases alu_cases op with rfl | rfl | rfl | rfl | rfl | rfl | rfl | rfl | rfl | rfl | rfl | rfl | rfl | hn
  · show (x.setWidth 64 + y.setWidth 64).setWidth 32 = x + y
    apply BitVec.eq_of_toNat_eq
    rw [BitVec.toNat_setWidth, BitVec.toNat_add, BitVec.toNat_add, ext_nat, ext_nat]; omega
  · show (x.setWidth 64 - y.setWidth 64).setWidth 32 = x - y
    apply BitVec.eq_of_toNat_eq
    rw [BitVec.toNat_setWidth, BitVec.toNat_sub, BitVec.toNat_sub, ext_nat, ext_nat]; omega
  · show (x.setWidth 64 * y.setWidth 64).setWidth 32 = x * y
    apply BitVec.eq_of_toNat_eq
    rw [BitVec.toNat_setWidth, BitVec.toNat_mul, BitVec.toNat_mul, ext_nat, ext_nat, Nat.mod_mod_of_dvd _ (Nat.pow_dvd_pow 2 (by decide))]
  · show (x.setWidth 64 / y.setWidth 64).setWidth 32 = x / y
    apply BitVec.eq_of_toNat_eq
    rw [BitVec.toNat_setWidth, BitVec.toNat_udiv, BitVec.toNat_udiv, ext_nat, ext_nat]
    exact Nat.mod_eq_of_lt (Nat.lt_of_le_of_lt (Nat.div_le_self x.toNat y.toNat) hx)
  · show (x.setWidth 64 % y.setWidth 64).setWidth 32 = x % y
    apply BitVec.eq_of_toNat_eq
    rw [BitVec.toNat_setWidth, BitVec.toNat_umod, BitVec.toNat_umod, ext_nat, ext_nat]
    have := Nat.mod_le x.toNat y.toNat
    omega
  · show (x.setWidth 64 ||| y.setWidth 64).setWidth 32 = x ||| y
    rw [BitVec.setWidth_or, low_back, low_back]
  · show (x.setWidth 64 &&& y.setWidth 64).setWidth 32 = x &&& y
    rw [BitVec.setWidth_and, low_back, low_back]
  · show (x.setWidth 64 ^^^ y.setWidth 64).setWidth 32 = x ^^^ y
    rw [BitVec.setWidth_xor, low_back, low_back]
  · exact absurd rfl h1
  · exact absurd rfl h2
  · exact absurd rfl h3
  · show (-(x.setWidth 64)).setWidth 32 = -x
    apply BitVec.eq_of_toNat_eq
    rw [BitVec.toNat_setWidth, BitVec.toNat_neg, BitVec.toNat_neg, ext_nat]; omega
  · exact low_back y
  · rw [aluW_none hn, aluW_none hn]; decide
theorem half_of (z : BitVec 32) : z.setWidth 64 &&& halfW = z.setWidth 64 := by rw [half_set, low_back]
theorem const_N (y : BitVec 64) : OkN (constI (N y)) := const_okT _
theorem ext_shift (x : BitVec 32) : ((x.setWidth 64) <<< 32).sshiftRight 32 = x.signExtend 64 := by
  apply BitVec.eq_of_getLsbD_eq
  intro i hi
  rw [BitVec.getLsbD_sshiftRight, BitVec.getLsbD_signExtend]
  have hm : ((x.setWidth 64) <<< 32).msb = x.msb := by
    rw [BitVec.msb_eq_getLsbD_last, BitVec.msb_eq_getLsbD_last]
    simp []
  by_cases h : i < 32
  · simp [hi, h, show 32 + i < 64 by omega, show ¬ 64 ≤ i by omega]
  · simp [hi, h, show ¬ 32 + i < 64 by omega, show ¬ 64 ≤ i by omega, hm]
theorem arsh_low (x : BitVec 32) (k : Nat) : ((x.signExtend 64).sshiftRight k).setWidth 32 = x.sshiftRight k := by
  apply BitVec.eq_of_getLsbD_eq
  intro i hi
  rw [BitVec.getLsbD_setWidth, BitVec.getLsbD_sshiftRight, BitVec.getLsbD_sshiftRight]
  have hm : (x.signExtend 64).msb = x.msb := by
    rw [BitVec.msb_eq_getLsbD_last, BitVec.getLsbD_signExtend]
    simp
  simp only [hi, decide_true, Bool.true_and, hm, show ¬ 64 ≤ i by omega, show ¬ 32 ≤ i by omega, decide_false, Bool.not_false]
  by_cases h : k + i < 32
  · rw [if_pos (by omega), if_pos h, BitVec.getLsbD_signExtend]
    simp [h, show k + i < 64 by omega]
  · rw [if_neg h]
    by_cases h2 : k + i < 64
    · rw [if_pos h2, BitVec.getLsbD_signExtend]
      simp [h, h2]
    · rw [if_neg h2]
theorem half_has {op : Int} {a b : NI} {x y : BitVec 32} (ha : HasN a (x.setWidth 64)) (hb : HasN b (y.setWidth 64)) (oa : OkN a) (ob : OkN b) (wa : nW a = true) (wb : nW b = true) :
    ∃ z, HasN (halfDoI op a b) z ∧ z &&& halfW = (aluW op x y).setWidth 64 := by
  have e31 : (y.setWidth 64 &&& 31#64).toNat = y.toNat % 32 := by rw [and31_lt, ext_nat]
  unfold halfDoI
  by_cases h3 : op = 192
  · subst h3
    rw [if_pos rfl]
    cases k : oneK b with
    | true =>
      have e1 := one_has k wb hb
      have e2 : cntI (oneI b) 31 = N (y.setWidth 64 &&& 31#64) := by rw [e1]; exact cnt_N _ _ 31 rfl (by rw [e31]; omega)
      simp only [if_true, e2]
      refine ⟨_, arsh_has' (c := y.setWidth 64 &&& 31#64) (by rw [e31]; omega) (show HasN (extI a) (x.signExtend 64) from ?_), ?_⟩
      · have h1 := arsh_has' (c := 32#64) (by decide) (lsh_has' (c := 32#64) (by decide) ha)
        rw [show (32#64 : BitVec 64).toNat = 32 from rfl, ext_shift] at h1
        exact h1
      · rw [half_set, arsh_low, e31]; rfl
    | false =>
      simp only [Bool.false_eq_true, if_false]
      exact ⟨(aluW 192 x y).setWidth 64, any_has' _, half_of _⟩
  · rw [if_neg h3]
    by_cases h1 : op = 96
    · subst h1
      rw [if_pos rfl]
      cases k : oneK b with
      | true =>
        have e1 := one_has k wb hb
        have e2 : andI (oneI b) 31 = N (y.setWidth 64 &&& 31#64) := by rw [e1]; exact and_N _ _ 31 rfl
        simp only [if_true, e2]
        refine ⟨_, do_has (op := 96) ha (const_has' (y.setWidth 64 &&& 31#64)) oa (const_N _) wa (nW_const (uB_N _)), ?_⟩
        rw [aluW_shift.1, e31, half_set]
        congr 1
        show ((x.setWidth 64) <<< (y.toNat % 32 % 64)).setWidth 32 = x <<< (y.toNat % 32)
        rw [Nat.mod_eq_of_lt (show y.toNat % 32 < 64 by omega)]
        apply BitVec.eq_of_getLsbD_eq
        intro i hi
        simp only [BitVec.getLsbD_setWidth, BitVec.getLsbD_shiftLeft, hi, decide_true, Bool.true_and, show i < 64 by omega]
        by_cases hk : i < y.toNat % 32
        · simp [hk]
        · simp [hk, show i - y.toNat % 32 < 64 by omega]
      | false =>
        simp only [Bool.false_eq_true, if_false]
        refine ⟨(aluW 96 x y).setWidth 64, ?_, half_of _⟩
        have : doI 96 a b = anyN := by
          show movedI 96 a b = anyN
          unfold movedI
          rw [if_neg (by rw [k]; decide), if_neg (by decide), if_neg (by decide)]
        rw [this]; exact any_has' _
    · rw [if_neg h1]
      by_cases h2 : op = 112
      · subst h2
        rw [if_pos rfl]
        cases k : oneK b with
        | true =>
          have e1 := one_has k wb hb
          have e2 : andI (oneI b) 31 = N (y.setWidth 64 &&& 31#64) := by rw [e1]; exact and_N _ _ 31 rfl
          simp only [if_true, e2]
          refine ⟨_, do_has (op := 112) ha (const_has' (y.setWidth 64 &&& 31#64)) oa (const_N _) wa (nW_const (uB_N _)), ?_⟩
          rw [aluW_shift.2.1, e31, half_set]
          congr 1
          show ((x.setWidth 64) >>> (y.toNat % 32 % 64)).setWidth 32 = x >>> (y.toNat % 32)
          rw [Nat.mod_eq_of_lt (show y.toNat % 32 < 64 by omega)]
          apply BitVec.eq_of_toNat_eq
          rw [BitVec.toNat_setWidth, BitVec.toNat_ushiftRight, BitVec.toNat_ushiftRight, ext_nat, Nat.shiftRight_eq_div_pow]
          exact Nat.mod_eq_of_lt (Nat.lt_of_le_of_lt (Nat.div_le_self x.toNat (2 ^ (y.toNat % 32))) x.isLt)
        | false =>
          simp only [Bool.false_eq_true, if_false]
          refine ⟨(aluW 112 x y).setWidth 64, ?_, half_of _⟩
          have : doI 112 a b = uptoI a.s.hi := by
            show movedI 112 a b = _
            unfold movedI
            rw [if_neg (by rw [k]; decide), if_pos rfl]
          rw [this]
          have wa' := wa
          unfold nW sW at wa'
          simp only [Bool.and_eq_true] at wa'
          refine upto_has' wa'.2.1.1.2 (Int.le_trans ?_ ha.2.2.1)
          unfold N
          rw [ext_nat, ext_nat]
          show (((x >>> (y.toNat % 32)).toNat : Nat) : Int) ≤ x.toNat
          rw [BitVec.toNat_ushiftRight, Nat.shiftRight_eq_div_pow]
          have := Nat.div_le_self x.toNat (2 ^ (y.toNat % 32))
          omega
      · rw [if_neg h2]
        exact ⟨_, do_has (op := op) ha hb oa ob wa wb, by rw [half_set, alu_low x y h1 h2 h3]⟩
theorem okT_low {a : NI} {v : BitVec 64} (h : HasN a v) : OkN (lowI a) := by
  unfold lowI settledI
  have hk : HasN ⟨tLowI a.t 32, sLowI a.s⟩ (v &&& halfW) := by
    refine ⟨?_, ?_⟩
    · show hasT (tB (tLowI a.t 32)).1 (tB (tLowI a.t 32)).2 _
      rw [tLowI, tB_tN]
      unfold tLow
      rw [if_neg (by omega), if_neg (by omega), show (1#64 <<< (32 : Int).toNat - 1#64 : BitVec 64) = halfW from by decide]
      exact has_low h.1 halfW
    · show SHas (sB (sLowI a.s)) _
      rw [sLowI, sB_sN]; exact Spn.low32R_has (settled_has h.2)
  rw [if_pos (tight_has' hk).1]
  exact tight_okT (tight_has' hk).1
theorem Do_has {op : Int} {wide : Bool} {a b : NI} {x y : BitVec 64} (ha : HasN a x) (hb : HasN b y) : HasN (DoI op wide a b) (aluS op wide x y) := by
  obtain ⟨ka, ta⟩ := tight_has' ha
  obtain ⟨kb, tb⟩ := tight_has' hb
  unfold DoI
  simp only [ka, kb, Bool.and_self, if_true]
  split
  · rename_i hc
    simp only [Bool.and_eq_true] at hc
    rw [one_has hc.1 (nW_tight a) ta, one_has hc.2 (nW_tight b) tb]
    unfold aluI
    rw [BN, BN]
    exact const_has' _
  · cases wide with
    | true =>
      rw [if_pos rfl]
      exact settled_has' (do_has ta tb (tight_okT ka) (tight_okT kb) (nW_tight a) (nW_tight b))
    | false =>
      rw [if_neg (by decide)]
      have la := low_has' ta
      have lb := low_has' tb
      rw [half_set] at la lb
      obtain ⟨z, hz, ez⟩ := half_has (op := op) la lb (okT_low ta) (okT_low tb) (nW_lowI _) (nW_lowI _)
      have := low_has' hz
      rw [ez] at this
      exact this
end Go.Proofs.Ytdlgebfaijlaoaa.Ex
end
section
namespace Go.Proofs.Ytdlgebfaijlaoaa
open Go.ChangeShapes Go.WideShapes Go.RowKit

inductive Kv where
  | i (k : IntKind)
  | b
  | s
  | l
def Kv.ok (W : World) : Kv → Value → Prop
  | .i k, v => ∃ n, v = .int k n ∧ (Lit.int k n).wf = true
  | .b, v => ∃ x, v = .bool x
  | .s, v => ∃ x : ByteArray, v = .string x ∧ (x.size : Int) ≤ IntKind.i64.max
  | .l, v => v = .slice none 0 0 ∨ ∃ b off len cap, v = .slice (some ⟨b, off, none⟩) len cap ∧ len ≤ cap ∧ (cap : Int) ≤ IntKind.i64.max ∧ b < W.heap.size
def okV (W : World) : List Kv → List Value → Prop
  | [], [] => True
  | k :: ks, v :: vs => k.ok W v ∧ okV W ks vs
  | _, _ => False
theorem okV.nil {W : World} {cs : List Value} (h : okV W [] cs) : cs = [] := by cases cs with | nil => rfl | cons _ _ => exact h.elim
theorem okV.cons {W : World} {k : Kv} {ks : List Kv} {cs : List Value} (h : okV W (k :: ks) cs) : ∃ v vs, cs = v :: vs ∧ k.ok W v ∧ okV W ks vs := by
  cases cs with
  | nil => exact h.elim
  | cons v vs => exact ⟨v, vs, rfl, h.1, h.2⟩
theorem okV.of_get {W : World} : ∀ {ks : List Kv} {cs : List Value}, cs.length = ks.length → (∀ (i : Nat) (k : Kv) (v : Value), ks[i]? = some k → cs[i]? = some v → k.ok W v) → okV W ks cs
  | [], [], _, _ => trivial
  | [], _ :: _, h, _ => by simp at h
  | _ :: _, [], h, _ => by simp at h
  | k :: ks, v :: vs, h, hg => ⟨hg 0 k v rfl rfl, okV.of_get (by simpa using h) fun i k' v' h1 h2 => hg (i + 1) k' v' (by simpa using h1) (by simpa using h2)⟩
def kvOf (P : Program) (u : TypeId) : Option Kv :=
  match P.underlying u with
  | some .bool => some .b
  | some (.int k) => some (.i k)
  | some .string => some .s
  | some (.slice _) => some .l
  | _ => none
def kvsL (P : Program) : List TypeId → Option (List Kv)
  | [] => some []
  | t :: ts =>
    match kvOf P t with
    | some k =>
      match kvsL P ts with
      | some ks => some (k :: ks)
      | none => none
    | none => none
def kvsT (P : Program) (t : TypeId) : Option (List Kv) :=
  match P.underlying t with
  | some (.struct _) | some (.array _ _) =>
    match P.cellTypes P.depth t with
    | some ts => if P.cellsOf t = ts.length then kvsL P ts else none
    | none => none
  | _ => none
section
variable {P : Program} {W : World} {base : Nat}
theorem wf_of_has {k : IntKind} {n : Int} (h : k.has n) : (Lit.int k n).wf = true := by
  obtain ⟨h1, h2⟩ := h
  simp [Lit.wf, h1, h2]
theorem kv_cell {u : TypeId} {k : Kv} (h : kvOf P u = some k) {v : Value} (hc : Cell.okWide P W .any base u v) : k.ok W v := by
  unfold kvOf at h
  split at h
  · rename_i hu
    cases h
    simp only [Cell.okWide, hu, Cell.ok] at hc
    cases v <;> first | exact ⟨_, rfl⟩ | exact hc.elim
  · rename_i k' hu
    cases h
    simp only [Cell.okWide, hu, Cell.ok] at hc
    cases v <;> first | exact hc.elim | skip
    rename_i k2 n
    obtain ⟨rfl, h2⟩ := hc
    exact ⟨n, rfl, wf_of_has h2⟩
  · rename_i hu
    cases h
    simp only [Cell.okWide, hu, Cell.ok] at hc
    cases v <;> first | exact hc.elim | exact ⟨_, rfl, hc⟩
  · rename_i e hu
    cases h
    simp only [Cell.okWide, hu, Cell.ok] at hc
    cases v <;> first | exact hc.elim | skip
    rename_i a l c
    cases a with
    | none =>
      left
      split at hc <;> simp_all
    | some a =>
      right
      obtain ⟨b, off, sp⟩ := a
      simp only [World.has] at hc
      obtain ⟨h1, h2, _, rfl, row, cells, hs, _⟩ := hc
      refine ⟨b, off, l, c, rfl, h1, h2, ?_⟩
      unfold World.shape? at hs
      split at hs
      · rename_i hh
        exact (Array.getElem?_eq_some_iff.1 hh).1
      · cases hs
  · cases h
theorem kvsL_get : ∀ {ts : List TypeId} {ks : List Kv}, kvsL P ts = some ks → ks.length = ts.length ∧ ∀ (i : Nat) (u : TypeId) (k : Kv), ts[i]? = some u → ks[i]? = some k → kvOf P u = some k
  | [], ks, h => by simp [kvsL] at h; subst h; exact ⟨rfl, fun i u k h => by simp at h⟩
  | t :: ts, ks, h => by
    simp only [kvsL] at h
    split at h
    · rename_i k hk
      split at h
      · rename_i ks' hks
        cases h
        obtain ⟨h1, h2⟩ := kvsL_get hks
        refine ⟨by simp [h1], fun i u k' hu hk' => ?_⟩
        cases i with
        | zero => simp at hu hk'; subst hu hk'; exact hk
        | succ i => exact h2 i u k' (by simpa using hu) (by simpa using hk')
      · cases h
    · cases h
theorem open_kv {t : TypeId} {ks : List Kv} (h : kvsT P t = some ks) {v : Value} (hv : Value.okWide P W .any base t v) : ∃ cs, v = .agg ⟨cs⟩ ∧ okV W ks cs := by
  unfold kvsT at h
  have key : ∀ {ts : List TypeId}, P.cellTypes P.depth t = some ts → P.cellsOf t = ts.length → kvsL P ts = some ks → (∃ cs, v = .agg cs ∧ cs.size = P.cellsOf t ∧ Row.okWide P W .any base t cs) → ∃ cs, v = .agg ⟨cs⟩ ∧ okV W ks cs := by
    rintro ts h1 h2 h3 ⟨⟨cs⟩, rfl, hn, us, hus, _, hc⟩
    rw [h1] at hus
    cases hus
    obtain ⟨g1, g2⟩ := kvsL_get h3
    refine ⟨cs, rfl, okV.of_get (by rw [g1, ← h2]; simpa using hn) fun i k x hk hx => ?_⟩
    obtain ⟨u, hu, hcu⟩ := hc i x (by simpa using hx)
    have hi : i < ts.length := by rw [← g1]; exact (List.getElem?_eq_some_iff.1 hk).1
    rw [Nat.mod_eq_of_lt hi] at hu
    exact kv_cell (g2 i u k hu hk) hcu
  split at h
  · rename_i hu
    split at h
    · rename_i ts hts
      split at h
      · rename_i hn
        exact key hts hn h (by simpa only [Value.okWide, hu] using hv)
      · cases h
    · cases h
  · rename_i hu
    split at h
    · rename_i ts hts
      split at h
      · rename_i hn
        exact key hts hn h (by simpa only [Value.okWide, hu] using hv)
      · cases h
    · cases h
  · cases h
theorem open_kv1 {t : TypeId} {k : Kv} (h : kvOf P t = some k) {v : Value} (hv : Value.okWide P W .any base t v) : k.ok W v := by
  refine kv_cell h (base := base) ?_
  unfold kvOf at h
  unfold Value.okWide at hv
  split at hv
  · rename_i hu; rw [hu] at h; cases h
  · rename_i hu; rw [hu] at h; cases h
  · exact hv
variable {H : Type} {enc : TypeId × Value → H}
theorem trodAll_stays (hl : laidOutB P = true) {W' : World} {sp' : Nat → Bool} : ∀ {ts : List TypeId} {vs : List Value} {ds : List (DataW H)} {ps : List MemPlace}, (ts.all fun t => P.readableRec t && decide (t < P.types.size)) = true →
    DataW.TrodAll enc P W base (fun _ => true) true ts vs ds ps → (∀ p ∈ ps, W.sameAt W' p) → (∀ p ∈ ps, sp' p.block = true) → DataW.TrodAll enc P W' base sp' true ts vs ds ps
  | [], vs, ds, ps, _, h, _, _ => by
    cases vs with
    | nil => cases ds with
      | nil => exact h
      | cons _ _ => exact h.elim
    | cons _ _ => exact h.elim
  | t :: ts, vs, ds, ps, hr, h, hs, hsp => by
    obtain ⟨v, vs', d, ds', p, q, rfl, rfl, rfl, h1, h2⟩ := trodAll_cons h
    simp only [List.all_cons, Bool.and_eq_true, decide_eq_true_eq] at hr
    exact ⟨p, q, Go.WideElems.Trod_stays hl hr.1.1 hr.1.2 h1 (fun x hx => hs x (List.mem_append_left _ hx)) (fun x hx => hsp x (List.mem_append_left _ hx)),
      trodAll_stays hl hr.2 h2 (fun x hx => hs x (List.mem_append_right _ hx)) (fun x hx => hsp x (List.mem_append_right _ hx)), rfl⟩
theorem sameAt_of_gr {W W' : World} (h : Ex.Gr W W') {p : MemPlace} (hp : p.block < W.heap.size) : W.sameAt W' p := by
  cases p with
  | cell b off => exact Ex.gr_cell h (a := ⟨b, off, none⟩) hp
  | map b => exact h.2.1 b hp
end
end Go.Proofs.Ytdlgebfaijlaoaa
end
section
namespace Go.Proofs.Ytdlgebfaijlaoaa.Ex
open Go Go.RowKit
open Go.Proofs.Ytdlgebfaijlaoaa.Sc (firstV firstOk lastV lastOk)
open Go.Proofs.Ytdlgebfaijlaoaa.Spn (Sp SHas umin N_umin two_forms)
def rT (t : TI) (v : Int) : Bool := hasTB (tB t).1 (tB t).2 (B v)
def rS (s : SI) (v : Int) : Bool := hasB (sB s) (B v)
def hk_r15 : Hook := fun f args _ =>
  if Nat.beq f 41 then
    match args with
    | [.int .u64 a, .int .u64 b, .int .u64 c] => some (.bool (rT ⟨a, b⟩ c), [(b2i (tW ⟨a, b⟩ && uB c), 1)])
    | _ => none
  else none
theorem hk_r15_ok : HookOk Try.prog hk_r15 := by
  intro f args h v cs hv hc wb k s w H
  unfold hk_r15 at hv
  split at hv
  · rename_i hf
    obtain rfl := Nat.eq_of_beq_eq_true hf
    split at hv
    · rename_i a b c
      cases hv
      have hw := pair1 hc rfl
      simp only [Bool.and_eq_true] at hw
      obtain ⟨x, y, rfl, rfl⟩ := tW_eq2 hw.1
      obtain ⟨z, rfl⟩ := uB_eq hw.2
      simp only [rT, tB, B, ofInt_N]
      exact (refHas_any x y z w).mono fun e w' h => ⟨h.1, Gr.of_grown h.2⟩
    · cases hv
  · cases hv
def hk_r16 : Hook := fun f args _ =>
  if Nat.beq f 42 then
    match args with
    | [.int .u64 a, .int .u64 b, .int .i64 c, .int .i64 d, .int .u64 v] => some (.bool (rS ⟨a, b, c, d⟩ v), [(b2i (sW ⟨a, b, c, d⟩ && uB v), 1)])
    | _ => none
  else none
theorem hk_r16_ok : HookOk Try.prog hk_r16 := by
  intro f args h v cs hv hc wb k s w H
  unfold hk_r16 at hv
  split at hv
  · rename_i hf
    obtain rfl := Nat.eq_of_beq_eq_true hf
    split at hv
    · rename_i a b c d v
      cases hv
      have hw := pair1 hc rfl
      simp only [Bool.and_eq_true] at hw
      obtain ⟨x, y, z, u, rfl, rfl, rfl, rfl⟩ := sW_eq4 hw.1
      obtain ⟨t, rfl⟩ := uB_eq hw.2
      simp only [rS, sB, B, ofInt_N, ofInt_Z64]
      exact (ref_has x y z u t w).mono fun e w' h => ⟨h.1, Gr.of_grown h.2⟩
    · cases hv
  · cases hv
def hkR : Hook := orHook hk_r15 (orHook hk_r16 (hkBase))
theorem hkR_ok : HookOk Try.prog hkR := orHook_ok hk_r15_ok (orHook_ok hk_r16_ok (hkBase_ok))
def rHasOrc (b : Bool) : Orc := fun f t _ => if Nat.beq f 25 && Nat.beq t 15 then some (.bool b) else none
set_option maxHeartbeats 0 in
set_option maxRecDepth 1000000 in
theorem rhas_0_r (a : NI) (v : Int) (he : ([(b2i (tW a.t && uB v), 1), (b2i (rT a.t v), 0)] : Cs).map (·.1) = ([(b2i (tW a.t && uB v), 1), (b2i (rT a.t v), 0)] : Cs).map (·.2)) (w : World) : Calls Try.prog 13 #[VN a, .int .u64 v] w fun e w' => e = .returned (.bool false) ∧ Gr w w' :=
  rk hkR_ok (rHasOrc false) (cs := ([(b2i (tW a.t && uB v), 1), (b2i (rT a.t v), 0)] : Cs)) rfl (by kernel_rfl) (by kernel_rfl) he w
theorem rhas_0 (a : NI) (v : Int) (h1 : (tW a.t && uB v) = true) (k : rT a.t v = false) (w : World) : Calls Try.prog 13 #[VN a, .int .u64 v] w fun e w' => e = .returned (.bool false) ∧ Gr w w' :=
  rhas_0_r a v (by rw [h1, k]; rfl) w
set_option maxHeartbeats 0 in
set_option maxRecDepth 1000000 in
theorem rhas_1_r (a : NI) (v : Int) (he : ([(b2i (tW a.t && uB v), 1), (b2i (rT a.t v), 1), (b2i (sW a.s && uB v), 1)] : Cs).map (·.1) = ([(b2i (tW a.t && uB v), 1), (b2i (rT a.t v), 1), (b2i (sW a.s && uB v), 1)] : Cs).map (·.2)) (w : World) : Calls Try.prog 13 #[VN a, .int .u64 v] w fun e w' => e = .returned (.bool (rS a.s v)) ∧ Gr w w' :=
  rk hkR_ok (rHasOrc true) (cs := ([(b2i (tW a.t && uB v), 1), (b2i (rT a.t v), 1), (b2i (sW a.s && uB v), 1)] : Cs)) rfl (by kernel_rfl) (by kernel_rfl) he w
theorem rhas_1 (a : NI) (v : Int) (h1 : (tW a.t && uB v) = true) (h2 : (sW a.s && uB v) = true) (k : rT a.t v = true) (w : World) : Calls Try.prog 13 #[VN a, .int .u64 v] w fun e w' => e = .returned (.bool (rS a.s v)) ∧ Gr w w' :=
  rhas_1_r a v (by rw [h1, k, h2]; rfl) w
def rHasI (a : NI) (v : Int) : Bool := rT a.t v && rS a.s v
theorem c_rhas (a : NI) (v : Int) (hw : (nW a && uB v) = true) (w : World) : Calls Try.prog 13 #[VN a, .int .u64 v] w fun e w' => e = .returned (.bool (rHasI a v)) ∧ Gr w w' := by
  unfold nW at hw
  simp only [Bool.and_eq_true] at hw
  have h1 : (tW a.t && uB v) = true := by rw [hw.1.1, hw.2]; rfl
  have h2 : (sW a.s && uB v) = true := by rw [hw.1.2, hw.2]; rfl
  cases k : rT a.t v with
  | true => exact ret_eq (by simp only [rHasI, k]; rfl) (rhas_1 a v h1 h2 k w)
  | false => exact ret_eq (by simp only [rHasI, k]; rfl) (rhas_0 a v h1 k w)
theorem rHas_iff (a : NI) (v : BitVec 64) : rHasI a (N v) = true ↔ HasN a v := by
  unfold rHasI rT rS HasN
  rw [Bool.and_eq_true, BN, hasTB_iff, hasB_iff]
theorem c_rhasT (a : NI) (v : Int) (hw : (nW a && (uB v && rHasI a v)) = true) (w : World) : Calls Try.prog 13 #[VN a, .int .u64 v] w fun e w' => e = .returned (.bool true) ∧ Gr w w' := by
  simp only [Bool.and_eq_true] at hw
  exact ret_eq (by rw [hw.2.2]) (c_rhas a v (by rw [hw.1, hw.2.1]; rfl) w)
def hk_rhas : Hook := fun f args _ =>
  if Nat.beq f 13 then
    match args with
    | [.agg ⟨[.int .u64 a0, .int .u64 a1, .int .u64 a2, .int .u64 a3, .int .i64 a4, .int .i64 a5]⟩, .int .u64 b] => some (.bool (rHasI (⟨⟨a0, a1⟩, ⟨a2, a3, a4, a5⟩⟩ : NI) b), [(b2i (nW (⟨⟨a0, a1⟩, ⟨a2, a3, a4, a5⟩⟩ : NI) && uB b), 1)])
    | _ => none
  else none
theorem hk_rhas_ok : HookOk Try.prog hk_rhas := by
  intro f args h v cs hv hc wb k s w H
  unfold hk_rhas at hv
  split at hv
  · rename_i hf
    obtain rfl := Nat.eq_of_beq_eq_true hf
    split at hv
    · rename_i a0 a1 a2 a3 a4 a5 b
      cases hv
      have hw := pair1 hc rfl
      exact c_rhas (⟨⟨a0, a1⟩, ⟨a2, a3, a4, a5⟩⟩ : NI) b hw w
    · cases hv
  · cases hv
def hk_rhasT : Hook := fun f args _ =>
  if Nat.beq f 13 then
    match args with
    | [.agg ⟨[.int .u64 a0, .int .u64 a1, .int .u64 a2, .int .u64 a3, .int .i64 a4, .int .i64 a5]⟩, .int .u64 b] => some (.bool true, [(b2i (nW (⟨⟨a0, a1⟩, ⟨a2, a3, a4, a5⟩⟩ : NI) && (uB b && rHasI (⟨⟨a0, a1⟩, ⟨a2, a3, a4, a5⟩⟩ : NI) b)), 1)])
    | _ => none
  else none
theorem hk_rhasT_ok : HookOk Try.prog hk_rhasT := by
  intro f args h v cs hv hc wb k s w H
  unfold hk_rhasT at hv
  split at hv
  · rename_i hf
    obtain rfl := Nat.eq_of_beq_eq_true hf
    split at hv
    · rename_i a0 a1 a2 a3 a4 a5 b
      cases hv
      have hw := pair1 hc rfl
      exact c_rhasT (⟨⟨a0, a1⟩, ⟨a2, a3, a4, a5⟩⟩ : NI) b hw w
    · cases hv
  · cases hv
def min2 (x y : Int) : Int := if y < x then y else x
def sub64 (x y : Int) : Int := IntKind.u64.wrap (x - y)
def madeI (v : Int) (by0 by1 by2 by3 by4 : Int) : NI :=
  ⟨⟨IntKind.u64.wrap (BitVec.ofInt IntKind.u64.bits v &&& ~~~BitVec.ofInt IntKind.u64.bits by0).toNat, by0⟩,
   ⟨sub64 v (min2 v by1), IntKind.u64.wrap (v + min2 (IntKind.u64.wrap (BitVec.ofInt IntKind.u64.bits 18446744073709551615 ^^^ BitVec.ofInt IntKind.u64.bits v).toNat) by2),
    IntKind.i64.wrap (IntKind.i64.wrap v - IntKind.i64.wrap (min2 (min2 (sub64 v 9223372036854775808) by3) 9223372036854775807)),
    IntKind.i64.wrap (IntKind.i64.wrap v + IntKind.i64.wrap (min2 (min2 (sub64 9223372036854775807 v) by4) 9223372036854775807))⟩⟩
set_option maxHeartbeats 0 in
set_option maxRecDepth 1000000 in
theorem c_made_r (v b0 b1 b2 b3 b4 : Int) (he : ([] : Cs).map (·.1) = ([] : Cs).map (·.2)) (w : World) : Calls Try.prog 10 #[.int .u64 v, .agg ⟨[.int .u64 b0, .int .u64 b1, .int .u64 b2, .int .u64 b3, .int .u64 b4]⟩] w fun e w' => e = .returned (VN (madeI v b0 b1 b2 b3 b4)) ∧ Gr w w' :=
  rk hkBase_ok noOrc (cs := ([] : Cs)) rfl (by kernel_rfl) (by kernel_rfl) he w
theorem c_made (v b0 b1 b2 b3 b4 : Int) (w : World) : Calls Try.prog 10 #[.int .u64 v, .agg ⟨[.int .u64 b0, .int .u64 b1, .int .u64 b2, .int .u64 b3, .int .u64 b4]⟩] w fun e w' => e = .returned (VN (madeI v b0 b1 b2 b3 b4)) ∧ Gr w w' :=
  c_made_r v b0 b1 b2 b3 b4 (by rfl) w
def hk_made : Hook := fun f args _ =>
  if Nat.beq f 10 then
    match args with
    | [.int .u64 v, .agg ⟨[.int .u64 b0, .int .u64 b1, .int .u64 b2, .int .u64 b3, .int .u64 b4]⟩] => some (VN (madeI v b0 b1 b2 b3 b4), [])
    | _ => none
  else none
theorem hk_made_ok : HookOk Try.prog hk_made := by
  intro f args h v cs hv hc wb k s w H
  unfold hk_made at hv
  split at hv
  · rename_i hf
    obtain rfl := Nat.eq_of_beq_eq_true hf
    split at hv
    · rename_i v b0 b1 b2 b3 b4
      cases hv
      exact c_made v b0 b1 b2 b3 b4 w
    · cases hv
  · cases hv
theorem nW_made {v b0 b1 b2 b3 b4 : Int} (h : uB b0 = true) : nW (madeI v b0 b1 b2 b3 b4) = true := by
  unfold nW tW sW madeI sub64
  simp only [u64_uB, i64_zB, h, Bool.and_self]
theorem min2_N (x y : BitVec 64) : min2 (N x) (N y) = N (umin x y) := by
  unfold min2 umin
  split <;> rfl
theorem made_has' (v b0 b1 b2 b3 b4 : BitVec 64) : HasN (madeI (N v) (N b0) (N b1) (N b2) (N b3) (N b4)) v ∧ OkN (madeI (N v) (N b0) (N b1) (N b2) (N b3) (N b4)) := by
  have e0 : tB (madeI (N v) (N b0) (N b1) (N b2) (N b3) (N b4)).t = (v &&& ~~~b0, b0) := by
    show (B (IntKind.u64.wrap ((B (N v) &&& ~~~B (N b0)).toNat : Int)), B (N b0)) = _
    rw [B_u64, BN, BN]
    show (BitVec.ofInt 64 ((v &&& ~~~b0).toNat : Int), b0) = _
    rw [BitVec.ofInt_natCast, BitVec.ofNat_toNat, BitVec.setWidth_eq]
  have e1 : sB (madeI (N v) (N b0) (N b1) (N b2) (N b3) (N b4)).s = madeS v b1 b2 b3 b4 := by
    unfold madeS downW upW
    show (⟨B (IntKind.u64.wrap (N v - min2 (N v) (N b1))), B (IntKind.u64.wrap (N v + min2 (IntKind.u64.wrap ((B 18446744073709551615 ^^^ B (N v)).toNat : Int)) (N b2))),
      B (IntKind.i64.wrap (IntKind.i64.wrap (N v) - IntKind.i64.wrap (min2 (min2 (IntKind.u64.wrap (N v - 9223372036854775808)) (N b3)) 9223372036854775807))),
      B (IntKind.i64.wrap (IntKind.i64.wrap (N v) + IntKind.i64.wrap (min2 (min2 (IntKind.u64.wrap (9223372036854775807 - N v)) (N b4)) 9223372036854775807)))⟩ : Sp) = _
    have x1 : IntKind.u64.wrap ((B 18446744073709551615 ^^^ B (N v)).toNat : Int) = N (~~~v) := by
      rw [BN v, u64_wrap, BitVec.ofInt_natCast, BitVec.ofNat_toNat, BitVec.setWidth_eq]
      rw [show B 18446744073709551615 = BitVec.allOnes 64 from by decide, BitVec.allOnes_xor]
    have x2 : IntKind.u64.wrap (N v - 9223372036854775808) = N (v - 9223372036854775808#64) := by
      rw [u64_wrap, ofInt_sub', ofInt_N]; rfl
    have x3 : IntKind.u64.wrap (9223372036854775807 - N v) = N (BitVec.ofInt 64 (9223372036854775807 - N v)) := u64_wrap _
    have x4 : (9223372036854775807 : Int) = N (9223372036854775807#64) := by decide
    rw [x1, x2, x3, B_u64, B_u64, B_i64, B_i64]
    have y1 : ∀ z : BitVec 64, min2 (N z) 9223372036854775807 = N (umin z 9223372036854775807#64) := fun z => by
      have h := min2_N z (9223372036854775807#64)
      rwa [← x4] at h
    rw [min2_N, min2_N, min2_N, min2_N, y1, y1]
    unfold B
    simp only [BitVec.ofInt_add, ofInt_sub', ofInt_N, i64_wrap_N, ofInt_Z64]
  refine ⟨⟨?_, ?_⟩, ?_⟩
  · rw [e0]; exact (rfl : v &&& ~~~b0 = v &&& ~~~b0)
  · rw [e1]; exact made_has v b1 b2 b3 b4
  · unfold OkN; rw [e0]; exact ok_made v b0
theorem wf_N {n : Int} (h : (Lit.int .u64 n).wf = true) : ∃ y : BitVec 64, n = N y := by
  have h1 := bounds_u64 h
  exact ⟨BitVec.ofInt 64 n, (N_ofInt n h1.1 (by have := h1.2; omega)).symm⟩
theorem wf_Z {n : Int} (h : (Lit.int .i64 n).wf = true) : ∃ y : BitVec 64, n = Z y := by
  have h1 := bounds_i64 h
  exact zB_eq (decide_eq_true ⟨h1.1, h1.2⟩)
def hkLT : Hook := orHook hk_made (orHook hk_rhasT (orHook hk_Do (hk9)))
theorem hkLT_ok : HookOk Try.prog hkLT := orHook_ok hk_made_ok (orHook_ok hk_rhasT_ok (orHook_ok hk_Do_ok (hk9_ok)))
def hkL : Hook := orHook hk_made (orHook hk_rhas (orHook hk_Do (orHook hk_in (hk9))))
theorem hkL_ok : HookOk Try.prog hkL := orHook_ok hk_made_ok (orHook_ok hk_rhas_ok (orHook_ok hk_Do_ok (orHook_ok hk_in_ok (hk9_ok))))
end Go.Proofs.Ytdlgebfaijlaoaa.Ex
end
section
namespace Go.Proofs.Ytdlgebfaijlaoaa.Ex
open Go Go.RowKit
open Go.Proofs.Ytdlgebfaijlaoaa.Sc (firstV firstOk lastV lastOk)
def oAt (F : Nat) (l : List (Nat × Bool)) : Orc := fun f t _ => if Nat.beq f F then (match l.find? (fun p => Nat.beq p.1 t) with | some p => some (.bool p.2) | none => none) else none
theorem csT {e : Bool} {l : Cs} (h : e = true) (r : l.map (·.1) = l.map (·.2)) : (((b2i e, 1) :: l : Cs)).map (·.1) = (((b2i e, 1) :: l : Cs)).map (·.2) := by
  subst h; exact congrArg (List.cons _) r
theorem csF {e : Bool} {l : Cs} (h : e = false) (r : l.map (·.1) = l.map (·.2)) : (((b2i e, 0) :: l : Cs)).map (·.1) = (((b2i e, 0) :: l : Cs)).map (·.2) := by
  subst h; exact congrArg (List.cons _) r
theorem csN : (([] : Cs)).map (·.1) = (([] : Cs)).map (·.2) := rfl
structure KI where
  kind : Int
  map : Int
  id : Int
  off : Int
  sure : Int
  n : NI
def VK (v : KI) : Value := .agg ⟨[.int .i64 v.kind, .int .i64 v.map, .int .i64 v.id, .int .i64 v.off, .int .i64 v.sure, .int .u64 v.n.t.v, .int .u64 v.n.t.m, .int .u64 v.n.s.lo, .int .u64 v.n.s.hi, .int .i64 v.n.s.slo, .int .i64 v.n.s.shi]⟩
def oAts (l : List (Nat × Nat × Bool)) : Orc := fun f t _ => match l.find? (fun p => Nat.beq p.1 f && Nat.beq p.2.1 t) with | some p => some (.bool p.2.2) | none => none
def max2 (x y : Int) : Int := if y > x then y else x
def kc (v : KI) : List Value := [.int .i64 v.kind, .int .i64 v.map, .int .i64 v.id, .int .i64 v.off, .int .i64 v.sure, .int .u64 v.n.t.v, .int .u64 v.n.t.m, .int .u64 v.n.s.lo, .int .u64 v.n.s.hi, .int .i64 v.n.s.slo, .int .i64 v.n.s.shi]
def nilK : KI := ⟨0, 0, 0, 0, 0, nilN⟩
def VKB (r : KI × Bool) : Value := .tuple ⟨[VK r.1, .bool r.2]⟩
def sumI (a b : Int) : Int := IntKind.i64.wrap (a + b)
def sumK (a b : Int) : Bool := decide (sumI a b > a) == decide (b > 0)
def nearK (x : Int) : Bool := decide (x > -65536) && decide (x < 65536)
def belK (n : NI) : Bool := tightK n && decide ((tightI n).s.hi < 65536)
set_option maxHeartbeats 0 in
set_option maxRecDepth 1000000 in
theorem sum_0 (a b : Int) (he : ([] : Cs).map (·.1) = ([] : Cs).map (·.2)) (w : World) : Calls Try.prog 36 #[.int .i64 a, .int .i64 b] w fun e w' => e = .returned (.tuple ⟨[.int .i64 (sumI a b), .bool (decide (sumI a b > a) == decide (b > 0))]⟩) ∧ Gr w w' :=
  rk hkBase_ok noOrc (cs := ([] : Cs)) rfl (by kernel_rfl) (by kernel_rfl) he w
theorem c_sum (a b : Int) (w : World) : Calls Try.prog 36 #[.int .i64 a, .int .i64 b] w fun e w' => e = .returned (.tuple ⟨[.int .i64 (sumI a b), .bool (sumK a b)]⟩) ∧ Gr w w' := by
  exact ret_eq (by simp only [sumK]) (sum_0 a b csN w)
def hk_sum : Hook := fun f args _ =>
  if Nat.beq f 36 then
    match args with
    | [.int .i64 a, .int .i64 b] => some (.tuple ⟨[.int .i64 (sumI a b), .bool (sumK a b)]⟩, [])
    | _ => none
  else none
theorem hk_sum_ok : HookOk Try.prog hk_sum := by
  intro f args h v cs hv hc wb k s w H
  unfold hk_sum at hv
  split at hv
  · rename_i hf
    obtain rfl := Nat.eq_of_beq_eq_true hf
    split at hv
    · rename_i a b
      cases hv
      exact c_sum a b w
    · cases hv
  · cases hv
set_option maxHeartbeats 0 in
set_option maxRecDepth 1000000 in
theorem near_0 (x : Int) (he : ([(b2i (decide (x > -65536)), 1)] : Cs).map (·.1) = ([(b2i (decide (x > -65536)), 1)] : Cs).map (·.2)) (w : World) : Calls Try.prog 37 #[.int .i64 x] w fun e w' => e = .returned (.bool (decide (x < 65536))) ∧ Gr w w' :=
  rk hkBase_ok (oAt 37 [(4, true)]) (cs := ([(b2i (decide (x > -65536)), 1)] : Cs)) rfl (by kernel_rfl) (by kernel_rfl) he w
set_option maxHeartbeats 0 in
set_option maxRecDepth 1000000 in
theorem near_1 (x : Int) (he : ([(b2i (decide (x > -65536)), 0)] : Cs).map (·.1) = ([(b2i (decide (x > -65536)), 0)] : Cs).map (·.2)) (w : World) : Calls Try.prog 37 #[.int .i64 x] w fun e w' => e = .returned (.bool false) ∧ Gr w w' :=
  rk hkBase_ok (oAt 37 [(4, false)]) (cs := ([(b2i (decide (x > -65536)), 0)] : Cs)) rfl (by kernel_rfl) (by kernel_rfl) he w
theorem c_near (x : Int) (w : World) : Calls Try.prog 37 #[.int .i64 x] w fun e w' => e = .returned (.bool (nearK x)) ∧ Gr w w' := by
  cases k0 : (decide (x > -65536)) with
  | true =>
    exact ret_eq (by simp only [nearK, k0, Bool.true_and]) (near_0 x (csT k0 csN) w)
  | false =>
    exact ret_eq (by simp only [nearK, k0, Bool.false_and]) (near_1 x (csF k0 csN) w)
def hk_near : Hook := fun f args _ =>
  if Nat.beq f 37 then
    match args with
    | [.int .i64 a] => some (.bool (nearK a), [])
    | _ => none
  else none
theorem hk_near_ok : HookOk Try.prog hk_near := by
  intro f args h v cs hv hc wb k s w H
  unfold hk_near at hv
  split at hv
  · rename_i hf
    obtain rfl := Nat.eq_of_beq_eq_true hf
    split at hv
    · rename_i a
      cases hv
      exact c_near a w
    · cases hv
  · cases hv
set_option maxHeartbeats 0 in
set_option maxRecDepth 1000000 in
theorem bel_0 (n : NI) (he : ([(b2i (nW n), 1), (b2i (tightK n), 1)] : Cs).map (·.1) = ([(b2i (nW n), 1), (b2i (tightK n), 1)] : Cs).map (·.2)) (w : World) : Calls Try.prog 19 #[VN n] w fun e w' => e = .returned (.tuple ⟨[VN (tightI n), .bool (decide ((tightI n).s.hi < 65536))]⟩) ∧ Gr w w' :=
  rk hk10_ok (oAt 19 [(9, true)]) (cs := ([(b2i (nW n), 1), (b2i (tightK n), 1)] : Cs)) rfl (by kernel_rfl) (by kernel_rfl) he w
set_option maxHeartbeats 0 in
set_option maxRecDepth 1000000 in
theorem bel_1 (n : NI) (he : ([(b2i (nW n), 1), (b2i (tightK n), 0)] : Cs).map (·.1) = ([(b2i (nW n), 1), (b2i (tightK n), 0)] : Cs).map (·.2)) (w : World) : Calls Try.prog 19 #[VN n] w fun e w' => e = .returned (.tuple ⟨[VN (tightI n), .bool false]⟩) ∧ Gr w w' :=
  rk hk10_ok (oAt 19 [(9, false)]) (cs := ([(b2i (nW n), 1), (b2i (tightK n), 0)] : Cs)) rfl (by kernel_rfl) (by kernel_rfl) he w
theorem c_bel (n : NI) (hw : (nW n) = true) (w : World) : Calls Try.prog 19 #[VN n] w fun e w' => e = .returned (.tuple ⟨[VN (tightI n), .bool (belK n)]⟩) ∧ Gr w w' := by
  cases k0 : (tightK n) with
  | true =>
    exact ret_eq (by simp only [belK, k0, Bool.true_and]) (bel_0 n (csT hw (csT k0 csN)) w)
  | false =>
    exact ret_eq (by simp only [belK, k0, Bool.false_and]) (bel_1 n (csT hw (csF k0 csN)) w)
def hk_bel : Hook := fun f args _ =>
  if Nat.beq f 19 then
    match args with
    | [.agg ⟨[.int .u64 a0, .int .u64 a1, .int .u64 a2, .int .u64 a3, .int .i64 a4, .int .i64 a5]⟩] => some (.tuple ⟨[VN (tightI (⟨⟨a0, a1⟩, ⟨a2, a3, a4, a5⟩⟩ : NI)), .bool (belK (⟨⟨a0, a1⟩, ⟨a2, a3, a4, a5⟩⟩ : NI))]⟩, [(b2i (nW (⟨⟨a0, a1⟩, ⟨a2, a3, a4, a5⟩⟩ : NI)), 1)])
    | _ => none
  else none
theorem hk_bel_ok : HookOk Try.prog hk_bel := by
  intro f args h v cs hv hc wb k s w H
  unfold hk_bel at hv
  split at hv
  · rename_i hf
    obtain rfl := Nat.eq_of_beq_eq_true hf
    split at hv
    · rename_i a0 a1 a2 a3 a4 a5
      cases hv
      have hw := pair1 hc rfl
      exact c_bel (⟨⟨a0, a1⟩, ⟨a2, a3, a4, a5⟩⟩ : NI) hw w
    · cases hv
  · cases hv
def addBI (v : KI) (c : Int) : KI × Bool :=
  if decide (c ≤ -65536) then (nilK, false) else if decide (c ≥ 65536) then (nilK, false)
  else if sumK v.off c then (if !(nearK (sumI v.off c)) then (nilK, false) else (⟨v.kind, v.map, v.id, sumI v.off c, v.sure, v.n⟩, true)) else (nilK, false)
def addKI (v : KI) (c : Int) : KI × Bool :=
  if v.kind == 2 then addBI v c else if v.kind == 3 then addBI v c else if v.kind == 5 then addBI v c else if v.kind == 7 then addBI v c else (nilK, false)
def hkk1 : Hook := orHook hk_sum (orHook hk_near (hkBase))
theorem hkk1_ok : HookOk Try.prog hkk1 := orHook_ok hk_sum_ok (orHook_ok hk_near_ok (hkBase_ok))
set_option maxHeartbeats 0 in
set_option maxRecDepth 1000000 in
theorem addK_0 (v : KI) (c : Int) (he : ([(b2i (v.kind == 2), 1), (b2i (decide (c ≤ -65536)), 1)] : Cs).map (·.1) = ([(b2i (v.kind == 2), 1), (b2i (decide (c ≤ -65536)), 1)] : Cs).map (·.2)) (w : World) : Calls Try.prog 18 #[VK v, .int .i64 c] w fun e w' => e = .returned (VKB (nilK, false)) ∧ Gr w w' :=
  rk hkk1_ok (oAt 18 [(12, true), (17, true)]) (cs := ([(b2i (v.kind == 2), 1), (b2i (decide (c ≤ -65536)), 1)] : Cs)) rfl (by kernel_rfl) (by kernel_rfl) he w
set_option maxHeartbeats 0 in
set_option maxRecDepth 1000000 in
theorem addK_1 (v : KI) (c : Int) (he : ([(b2i (v.kind == 2), 1), (b2i (decide (c ≤ -65536)), 0), (b2i (decide (c ≥ 65536)), 1)] : Cs).map (·.1) = ([(b2i (v.kind == 2), 1), (b2i (decide (c ≤ -65536)), 0), (b2i (decide (c ≥ 65536)), 1)] : Cs).map (·.2)) (w : World) : Calls Try.prog 18 #[VK v, .int .i64 c] w fun e w' => e = .returned (VKB (nilK, false)) ∧ Gr w w' :=
  rk hkk1_ok (oAt 18 [(12, true), (17, false), (20, true)]) (cs := ([(b2i (v.kind == 2), 1), (b2i (decide (c ≤ -65536)), 0), (b2i (decide (c ≥ 65536)), 1)] : Cs)) rfl (by kernel_rfl) (by kernel_rfl) he w
set_option maxHeartbeats 0 in
set_option maxRecDepth 1000000 in
theorem addK_2 (v : KI) (c : Int) (he : ([(b2i (v.kind == 2), 1), (b2i (decide (c ≤ -65536)), 0), (b2i (decide (c ≥ 65536)), 0), (b2i (sumK v.off c), 1), (b2i (!(nearK (sumI v.off c))), 1)] : Cs).map (·.1) = ([(b2i (v.kind == 2), 1), (b2i (decide (c ≤ -65536)), 0), (b2i (decide (c ≥ 65536)), 0), (b2i (sumK v.off c), 1), (b2i (!(nearK (sumI v.off c))), 1)] : Cs).map (·.2)) (w : World) : Calls Try.prog 18 #[VK v, .int .i64 c] w fun e w' => e = .returned (VKB (nilK, false)) ∧ Gr w w' :=
  rk hkk1_ok (oAt 18 [(12, true), (17, false), (20, false), (30, true), (35, true)]) (cs := ([(b2i (v.kind == 2), 1), (b2i (decide (c ≤ -65536)), 0), (b2i (decide (c ≥ 65536)), 0), (b2i (sumK v.off c), 1), (b2i (!(nearK (sumI v.off c))), 1)] : Cs)) rfl (by kernel_rfl) (by kernel_rfl) he w
set_option maxHeartbeats 0 in
set_option maxRecDepth 1000000 in
theorem addK_3 (v : KI) (c : Int) (he : ([(b2i (v.kind == 2), 1), (b2i (decide (c ≤ -65536)), 0), (b2i (decide (c ≥ 65536)), 0), (b2i (sumK v.off c), 1), (b2i (!(nearK (sumI v.off c))), 0)] : Cs).map (·.1) = ([(b2i (v.kind == 2), 1), (b2i (decide (c ≤ -65536)), 0), (b2i (decide (c ≥ 65536)), 0), (b2i (sumK v.off c), 1), (b2i (!(nearK (sumI v.off c))), 0)] : Cs).map (·.2)) (w : World) : Calls Try.prog 18 #[VK v, .int .i64 c] w fun e w' => e = .returned (VKB (⟨v.kind, v.map, v.id, sumI v.off c, v.sure, v.n⟩, true)) ∧ Gr w w' :=
  rk hkk1_ok (oAt 18 [(12, true), (17, false), (20, false), (30, true), (35, false)]) (cs := ([(b2i (v.kind == 2), 1), (b2i (decide (c ≤ -65536)), 0), (b2i (decide (c ≥ 65536)), 0), (b2i (sumK v.off c), 1), (b2i (!(nearK (sumI v.off c))), 0)] : Cs)) rfl (by kernel_rfl) (by kernel_rfl) he w
set_option maxHeartbeats 0 in
set_option maxRecDepth 1000000 in
theorem addK_4 (v : KI) (c : Int) (he : ([(b2i (v.kind == 2), 1), (b2i (decide (c ≤ -65536)), 0), (b2i (decide (c ≥ 65536)), 0), (b2i (sumK v.off c), 0)] : Cs).map (·.1) = ([(b2i (v.kind == 2), 1), (b2i (decide (c ≤ -65536)), 0), (b2i (decide (c ≥ 65536)), 0), (b2i (sumK v.off c), 0)] : Cs).map (·.2)) (w : World) : Calls Try.prog 18 #[VK v, .int .i64 c] w fun e w' => e = .returned (VKB (nilK, false)) ∧ Gr w w' :=
  rk hkk1_ok (oAt 18 [(12, true), (17, false), (20, false), (30, false)]) (cs := ([(b2i (v.kind == 2), 1), (b2i (decide (c ≤ -65536)), 0), (b2i (decide (c ≥ 65536)), 0), (b2i (sumK v.off c), 0)] : Cs)) rfl (by kernel_rfl) (by kernel_rfl) he w
set_option maxHeartbeats 0 in
set_option maxRecDepth 1000000 in
theorem addK_5 (v : KI) (c : Int) (he : ([(b2i (v.kind == 2), 0), (b2i (v.kind == 3), 1), (b2i (decide (c ≤ -65536)), 1)] : Cs).map (·.1) = ([(b2i (v.kind == 2), 0), (b2i (v.kind == 3), 1), (b2i (decide (c ≤ -65536)), 1)] : Cs).map (·.2)) (w : World) : Calls Try.prog 18 #[VK v, .int .i64 c] w fun e w' => e = .returned (VKB (nilK, false)) ∧ Gr w w' :=
  rk hkk1_ok (oAt 18 [(12, false), (13, true), (17, true)]) (cs := ([(b2i (v.kind == 2), 0), (b2i (v.kind == 3), 1), (b2i (decide (c ≤ -65536)), 1)] : Cs)) rfl (by kernel_rfl) (by kernel_rfl) he w
set_option maxHeartbeats 0 in
set_option maxRecDepth 1000000 in
theorem addK_6 (v : KI) (c : Int) (he : ([(b2i (v.kind == 2), 0), (b2i (v.kind == 3), 1), (b2i (decide (c ≤ -65536)), 0), (b2i (decide (c ≥ 65536)), 1)] : Cs).map (·.1) = ([(b2i (v.kind == 2), 0), (b2i (v.kind == 3), 1), (b2i (decide (c ≤ -65536)), 0), (b2i (decide (c ≥ 65536)), 1)] : Cs).map (·.2)) (w : World) : Calls Try.prog 18 #[VK v, .int .i64 c] w fun e w' => e = .returned (VKB (nilK, false)) ∧ Gr w w' :=
  rk hkk1_ok (oAt 18 [(12, false), (13, true), (17, false), (20, true)]) (cs := ([(b2i (v.kind == 2), 0), (b2i (v.kind == 3), 1), (b2i (decide (c ≤ -65536)), 0), (b2i (decide (c ≥ 65536)), 1)] : Cs)) rfl (by kernel_rfl) (by kernel_rfl) he w
set_option maxHeartbeats 0 in
set_option maxRecDepth 1000000 in
theorem addK_7 (v : KI) (c : Int) (he : ([(b2i (v.kind == 2), 0), (b2i (v.kind == 3), 1), (b2i (decide (c ≤ -65536)), 0), (b2i (decide (c ≥ 65536)), 0), (b2i (sumK v.off c), 1), (b2i (!(nearK (sumI v.off c))), 1)] : Cs).map (·.1) = ([(b2i (v.kind == 2), 0), (b2i (v.kind == 3), 1), (b2i (decide (c ≤ -65536)), 0), (b2i (decide (c ≥ 65536)), 0), (b2i (sumK v.off c), 1), (b2i (!(nearK (sumI v.off c))), 1)] : Cs).map (·.2)) (w : World) : Calls Try.prog 18 #[VK v, .int .i64 c] w fun e w' => e = .returned (VKB (nilK, false)) ∧ Gr w w' :=
  rk hkk1_ok (oAt 18 [(12, false), (13, true), (17, false), (20, false), (30, true), (35, true)]) (cs := ([(b2i (v.kind == 2), 0), (b2i (v.kind == 3), 1), (b2i (decide (c ≤ -65536)), 0), (b2i (decide (c ≥ 65536)), 0), (b2i (sumK v.off c), 1), (b2i (!(nearK (sumI v.off c))), 1)] : Cs)) rfl (by kernel_rfl) (by kernel_rfl) he w
set_option maxHeartbeats 0 in
set_option maxRecDepth 1000000 in
theorem addK_8 (v : KI) (c : Int) (he : ([(b2i (v.kind == 2), 0), (b2i (v.kind == 3), 1), (b2i (decide (c ≤ -65536)), 0), (b2i (decide (c ≥ 65536)), 0), (b2i (sumK v.off c), 1), (b2i (!(nearK (sumI v.off c))), 0)] : Cs).map (·.1) = ([(b2i (v.kind == 2), 0), (b2i (v.kind == 3), 1), (b2i (decide (c ≤ -65536)), 0), (b2i (decide (c ≥ 65536)), 0), (b2i (sumK v.off c), 1), (b2i (!(nearK (sumI v.off c))), 0)] : Cs).map (·.2)) (w : World) : Calls Try.prog 18 #[VK v, .int .i64 c] w fun e w' => e = .returned (VKB (⟨v.kind, v.map, v.id, sumI v.off c, v.sure, v.n⟩, true)) ∧ Gr w w' :=
  rk hkk1_ok (oAt 18 [(12, false), (13, true), (17, false), (20, false), (30, true), (35, false)]) (cs := ([(b2i (v.kind == 2), 0), (b2i (v.kind == 3), 1), (b2i (decide (c ≤ -65536)), 0), (b2i (decide (c ≥ 65536)), 0), (b2i (sumK v.off c), 1), (b2i (!(nearK (sumI v.off c))), 0)] : Cs)) rfl (by kernel_rfl) (by kernel_rfl) he w
set_option maxHeartbeats 0 in
set_option maxRecDepth 1000000 in
theorem addK_9 (v : KI) (c : Int) (he : ([(b2i (v.kind == 2), 0), (b2i (v.kind == 3), 1), (b2i (decide (c ≤ -65536)), 0), (b2i (decide (c ≥ 65536)), 0), (b2i (sumK v.off c), 0)] : Cs).map (·.1) = ([(b2i (v.kind == 2), 0), (b2i (v.kind == 3), 1), (b2i (decide (c ≤ -65536)), 0), (b2i (decide (c ≥ 65536)), 0), (b2i (sumK v.off c), 0)] : Cs).map (·.2)) (w : World) : Calls Try.prog 18 #[VK v, .int .i64 c] w fun e w' => e = .returned (VKB (nilK, false)) ∧ Gr w w' :=
  rk hkk1_ok (oAt 18 [(12, false), (13, true), (17, false), (20, false), (30, false)]) (cs := ([(b2i (v.kind == 2), 0), (b2i (v.kind == 3), 1), (b2i (decide (c ≤ -65536)), 0), (b2i (decide (c ≥ 65536)), 0), (b2i (sumK v.off c), 0)] : Cs)) rfl (by kernel_rfl) (by kernel_rfl) he w
set_option maxHeartbeats 0 in
set_option maxRecDepth 1000000 in
theorem addK_10 (v : KI) (c : Int) (he : ([(b2i (v.kind == 2), 0), (b2i (v.kind == 3), 0), (b2i (v.kind == 5), 1), (b2i (decide (c ≤ -65536)), 1)] : Cs).map (·.1) = ([(b2i (v.kind == 2), 0), (b2i (v.kind == 3), 0), (b2i (v.kind == 5), 1), (b2i (decide (c ≤ -65536)), 1)] : Cs).map (·.2)) (w : World) : Calls Try.prog 18 #[VK v, .int .i64 c] w fun e w' => e = .returned (VKB (nilK, false)) ∧ Gr w w' :=
  rk hkk1_ok (oAt 18 [(12, false), (13, false), (14, true), (17, true)]) (cs := ([(b2i (v.kind == 2), 0), (b2i (v.kind == 3), 0), (b2i (v.kind == 5), 1), (b2i (decide (c ≤ -65536)), 1)] : Cs)) rfl (by kernel_rfl) (by kernel_rfl) he w
set_option maxHeartbeats 0 in
set_option maxRecDepth 1000000 in
theorem addK_11 (v : KI) (c : Int) (he : ([(b2i (v.kind == 2), 0), (b2i (v.kind == 3), 0), (b2i (v.kind == 5), 1), (b2i (decide (c ≤ -65536)), 0), (b2i (decide (c ≥ 65536)), 1)] : Cs).map (·.1) = ([(b2i (v.kind == 2), 0), (b2i (v.kind == 3), 0), (b2i (v.kind == 5), 1), (b2i (decide (c ≤ -65536)), 0), (b2i (decide (c ≥ 65536)), 1)] : Cs).map (·.2)) (w : World) : Calls Try.prog 18 #[VK v, .int .i64 c] w fun e w' => e = .returned (VKB (nilK, false)) ∧ Gr w w' :=
  rk hkk1_ok (oAt 18 [(12, false), (13, false), (14, true), (17, false), (20, true)]) (cs := ([(b2i (v.kind == 2), 0), (b2i (v.kind == 3), 0), (b2i (v.kind == 5), 1), (b2i (decide (c ≤ -65536)), 0), (b2i (decide (c ≥ 65536)), 1)] : Cs)) rfl (by kernel_rfl) (by kernel_rfl) he w
set_option maxHeartbeats 0 in
set_option maxRecDepth 1000000 in
theorem addK_12 (v : KI) (c : Int) (he : ([(b2i (v.kind == 2), 0), (b2i (v.kind == 3), 0), (b2i (v.kind == 5), 1), (b2i (decide (c ≤ -65536)), 0), (b2i (decide (c ≥ 65536)), 0), (b2i (sumK v.off c), 1), (b2i (!(nearK (sumI v.off c))), 1)] : Cs).map (·.1) = ([(b2i (v.kind == 2), 0), (b2i (v.kind == 3), 0), (b2i (v.kind == 5), 1), (b2i (decide (c ≤ -65536)), 0), (b2i (decide (c ≥ 65536)), 0), (b2i (sumK v.off c), 1), (b2i (!(nearK (sumI v.off c))), 1)] : Cs).map (·.2)) (w : World) : Calls Try.prog 18 #[VK v, .int .i64 c] w fun e w' => e = .returned (VKB (nilK, false)) ∧ Gr w w' :=
  rk hkk1_ok (oAt 18 [(12, false), (13, false), (14, true), (17, false), (20, false), (30, true), (35, true)]) (cs := ([(b2i (v.kind == 2), 0), (b2i (v.kind == 3), 0), (b2i (v.kind == 5), 1), (b2i (decide (c ≤ -65536)), 0), (b2i (decide (c ≥ 65536)), 0), (b2i (sumK v.off c), 1), (b2i (!(nearK (sumI v.off c))), 1)] : Cs)) rfl (by kernel_rfl) (by kernel_rfl) he w
set_option maxHeartbeats 0 in
set_option maxRecDepth 1000000 in
theorem addK_13 (v : KI) (c : Int) (he : ([(b2i (v.kind == 2), 0), (b2i (v.kind == 3), 0), (b2i (v.kind == 5), 1), (b2i (decide (c ≤ -65536)), 0), (b2i (decide (c ≥ 65536)), 0), (b2i (sumK v.off c), 1), (b2i (!(nearK (sumI v.off c))), 0)] : Cs).map (·.1) = ([(b2i (v.kind == 2), 0), (b2i (v.kind == 3), 0), (b2i (v.kind == 5), 1), (b2i (decide (c ≤ -65536)), 0), (b2i (decide (c ≥ 65536)), 0), (b2i (sumK v.off c), 1), (b2i (!(nearK (sumI v.off c))), 0)] : Cs).map (·.2)) (w : World) : Calls Try.prog 18 #[VK v, .int .i64 c] w fun e w' => e = .returned (VKB (⟨v.kind, v.map, v.id, sumI v.off c, v.sure, v.n⟩, true)) ∧ Gr w w' :=
  rk hkk1_ok (oAt 18 [(12, false), (13, false), (14, true), (17, false), (20, false), (30, true), (35, false)]) (cs := ([(b2i (v.kind == 2), 0), (b2i (v.kind == 3), 0), (b2i (v.kind == 5), 1), (b2i (decide (c ≤ -65536)), 0), (b2i (decide (c ≥ 65536)), 0), (b2i (sumK v.off c), 1), (b2i (!(nearK (sumI v.off c))), 0)] : Cs)) rfl (by kernel_rfl) (by kernel_rfl) he w
set_option maxHeartbeats 0 in
set_option maxRecDepth 1000000 in
theorem addK_14 (v : KI) (c : Int) (he : ([(b2i (v.kind == 2), 0), (b2i (v.kind == 3), 0), (b2i (v.kind == 5), 1), (b2i (decide (c ≤ -65536)), 0), (b2i (decide (c ≥ 65536)), 0), (b2i (sumK v.off c), 0)] : Cs).map (·.1) = ([(b2i (v.kind == 2), 0), (b2i (v.kind == 3), 0), (b2i (v.kind == 5), 1), (b2i (decide (c ≤ -65536)), 0), (b2i (decide (c ≥ 65536)), 0), (b2i (sumK v.off c), 0)] : Cs).map (·.2)) (w : World) : Calls Try.prog 18 #[VK v, .int .i64 c] w fun e w' => e = .returned (VKB (nilK, false)) ∧ Gr w w' :=
  rk hkk1_ok (oAt 18 [(12, false), (13, false), (14, true), (17, false), (20, false), (30, false)]) (cs := ([(b2i (v.kind == 2), 0), (b2i (v.kind == 3), 0), (b2i (v.kind == 5), 1), (b2i (decide (c ≤ -65536)), 0), (b2i (decide (c ≥ 65536)), 0), (b2i (sumK v.off c), 0)] : Cs)) rfl (by kernel_rfl) (by kernel_rfl) he w
set_option maxHeartbeats 0 in
set_option maxRecDepth 1000000 in
theorem addK_15 (v : KI) (c : Int) (he : ([(b2i (v.kind == 2), 0), (b2i (v.kind == 3), 0), (b2i (v.kind == 5), 0), (b2i (v.kind == 7), 1), (b2i (decide (c ≤ -65536)), 1)] : Cs).map (·.1) = ([(b2i (v.kind == 2), 0), (b2i (v.kind == 3), 0), (b2i (v.kind == 5), 0), (b2i (v.kind == 7), 1), (b2i (decide (c ≤ -65536)), 1)] : Cs).map (·.2)) (w : World) : Calls Try.prog 18 #[VK v, .int .i64 c] w fun e w' => e = .returned (VKB (nilK, false)) ∧ Gr w w' :=
  rk hkk1_ok (oAt 18 [(12, false), (13, false), (14, false), (15, true), (17, true)]) (cs := ([(b2i (v.kind == 2), 0), (b2i (v.kind == 3), 0), (b2i (v.kind == 5), 0), (b2i (v.kind == 7), 1), (b2i (decide (c ≤ -65536)), 1)] : Cs)) rfl (by kernel_rfl) (by kernel_rfl) he w
set_option maxHeartbeats 0 in
set_option maxRecDepth 1000000 in
theorem addK_16 (v : KI) (c : Int) (he : ([(b2i (v.kind == 2), 0), (b2i (v.kind == 3), 0), (b2i (v.kind == 5), 0), (b2i (v.kind == 7), 1), (b2i (decide (c ≤ -65536)), 0), (b2i (decide (c ≥ 65536)), 1)] : Cs).map (·.1) = ([(b2i (v.kind == 2), 0), (b2i (v.kind == 3), 0), (b2i (v.kind == 5), 0), (b2i (v.kind == 7), 1), (b2i (decide (c ≤ -65536)), 0), (b2i (decide (c ≥ 65536)), 1)] : Cs).map (·.2)) (w : World) : Calls Try.prog 18 #[VK v, .int .i64 c] w fun e w' => e = .returned (VKB (nilK, false)) ∧ Gr w w' :=
  rk hkk1_ok (oAt 18 [(12, false), (13, false), (14, false), (15, true), (17, false), (20, true)]) (cs := ([(b2i (v.kind == 2), 0), (b2i (v.kind == 3), 0), (b2i (v.kind == 5), 0), (b2i (v.kind == 7), 1), (b2i (decide (c ≤ -65536)), 0), (b2i (decide (c ≥ 65536)), 1)] : Cs)) rfl (by kernel_rfl) (by kernel_rfl) he w
set_option maxHeartbeats 0 in
set_option maxRecDepth 1000000 in
theorem addK_17 (v : KI) (c : Int) (he : ([(b2i (v.kind == 2), 0), (b2i (v.kind == 3), 0), (b2i (v.kind == 5), 0), (b2i (v.kind == 7), 1), (b2i (decide (c ≤ -65536)), 0), (b2i (decide (c ≥ 65536)), 0), (b2i (sumK v.off c), 1), (b2i (!(nearK (sumI v.off c))), 1)] : Cs).map (·.1) = ([(b2i (v.kind == 2), 0), (b2i (v.kind == 3), 0), (b2i (v.kind == 5), 0), (b2i (v.kind == 7), 1), (b2i (decide (c ≤ -65536)), 0), (b2i (decide (c ≥ 65536)), 0), (b2i (sumK v.off c), 1), (b2i (!(nearK (sumI v.off c))), 1)] : Cs).map (·.2)) (w : World) : Calls Try.prog 18 #[VK v, .int .i64 c] w fun e w' => e = .returned (VKB (nilK, false)) ∧ Gr w w' :=
  rk hkk1_ok (oAt 18 [(12, false), (13, false), (14, false), (15, true), (17, false), (20, false), (30, true), (35, true)]) (cs := ([(b2i (v.kind == 2), 0), (b2i (v.kind == 3), 0), (b2i (v.kind == 5), 0), (b2i (v.kind == 7), 1), (b2i (decide (c ≤ -65536)), 0), (b2i (decide (c ≥ 65536)), 0), (b2i (sumK v.off c), 1), (b2i (!(nearK (sumI v.off c))), 1)] : Cs)) rfl (by kernel_rfl) (by kernel_rfl) he w
set_option maxHeartbeats 0 in
set_option maxRecDepth 1000000 in
theorem addK_18 (v : KI) (c : Int) (he : ([(b2i (v.kind == 2), 0), (b2i (v.kind == 3), 0), (b2i (v.kind == 5), 0), (b2i (v.kind == 7), 1), (b2i (decide (c ≤ -65536)), 0), (b2i (decide (c ≥ 65536)), 0), (b2i (sumK v.off c), 1), (b2i (!(nearK (sumI v.off c))), 0)] : Cs).map (·.1) = ([(b2i (v.kind == 2), 0), (b2i (v.kind == 3), 0), (b2i (v.kind == 5), 0), (b2i (v.kind == 7), 1), (b2i (decide (c ≤ -65536)), 0), (b2i (decide (c ≥ 65536)), 0), (b2i (sumK v.off c), 1), (b2i (!(nearK (sumI v.off c))), 0)] : Cs).map (·.2)) (w : World) : Calls Try.prog 18 #[VK v, .int .i64 c] w fun e w' => e = .returned (VKB (⟨v.kind, v.map, v.id, sumI v.off c, v.sure, v.n⟩, true)) ∧ Gr w w' :=
  rk hkk1_ok (oAt 18 [(12, false), (13, false), (14, false), (15, true), (17, false), (20, false), (30, true), (35, false)]) (cs := ([(b2i (v.kind == 2), 0), (b2i (v.kind == 3), 0), (b2i (v.kind == 5), 0), (b2i (v.kind == 7), 1), (b2i (decide (c ≤ -65536)), 0), (b2i (decide (c ≥ 65536)), 0), (b2i (sumK v.off c), 1), (b2i (!(nearK (sumI v.off c))), 0)] : Cs)) rfl (by kernel_rfl) (by kernel_rfl) he w
set_option maxHeartbeats 0 in
set_option maxRecDepth 1000000 in
theorem addK_19 (v : KI) (c : Int) (he : ([(b2i (v.kind == 2), 0), (b2i (v.kind == 3), 0), (b2i (v.kind == 5), 0), (b2i (v.kind == 7), 1), (b2i (decide (c ≤ -65536)), 0), (b2i (decide (c ≥ 65536)), 0), (b2i (sumK v.off c), 0)] : Cs).map (·.1) = ([(b2i (v.kind == 2), 0), (b2i (v.kind == 3), 0), (b2i (v.kind == 5), 0), (b2i (v.kind == 7), 1), (b2i (decide (c ≤ -65536)), 0), (b2i (decide (c ≥ 65536)), 0), (b2i (sumK v.off c), 0)] : Cs).map (·.2)) (w : World) : Calls Try.prog 18 #[VK v, .int .i64 c] w fun e w' => e = .returned (VKB (nilK, false)) ∧ Gr w w' :=
  rk hkk1_ok (oAt 18 [(12, false), (13, false), (14, false), (15, true), (17, false), (20, false), (30, false)]) (cs := ([(b2i (v.kind == 2), 0), (b2i (v.kind == 3), 0), (b2i (v.kind == 5), 0), (b2i (v.kind == 7), 1), (b2i (decide (c ≤ -65536)), 0), (b2i (decide (c ≥ 65536)), 0), (b2i (sumK v.off c), 0)] : Cs)) rfl (by kernel_rfl) (by kernel_rfl) he w
set_option maxHeartbeats 0 in
set_option maxRecDepth 1000000 in
theorem addK_20 (v : KI) (c : Int) (he : ([(b2i (v.kind == 2), 0), (b2i (v.kind == 3), 0), (b2i (v.kind == 5), 0), (b2i (v.kind == 7), 0)] : Cs).map (·.1) = ([(b2i (v.kind == 2), 0), (b2i (v.kind == 3), 0), (b2i (v.kind == 5), 0), (b2i (v.kind == 7), 0)] : Cs).map (·.2)) (w : World) : Calls Try.prog 18 #[VK v, .int .i64 c] w fun e w' => e = .returned (VKB (nilK, false)) ∧ Gr w w' :=
  rk hkk1_ok (oAt 18 [(12, false), (13, false), (14, false), (15, false)]) (cs := ([(b2i (v.kind == 2), 0), (b2i (v.kind == 3), 0), (b2i (v.kind == 5), 0), (b2i (v.kind == 7), 0)] : Cs)) rfl (by kernel_rfl) (by kernel_rfl) he w
theorem c_addK (v : KI) (c : Int) (w : World) : Calls Try.prog 18 #[VK v, .int .i64 c] w fun e w' => e = .returned (VKB (addKI v c)) ∧ Gr w w' := by
  cases k0 : (v.kind == 2) with
  | true =>
    cases k1 : (decide (c ≤ -65536)) with
    | true =>
      exact ret_eq (by simp only [addKI, addBI, k0, k1, ↓reduceIte]) (addK_0 v c (csT k0 (csT k1 csN)) w)
    | false =>
      cases k2 : (decide (c ≥ 65536)) with
      | true =>
        exact ret_eq (by simp only [addKI, addBI, k0, k1, k2, Bool.false_eq_true, ↓reduceIte]) (addK_1 v c (csT k0 (csF k1 (csT k2 csN))) w)
      | false =>
        cases k3 : (sumK v.off c) with
        | true =>
          cases k4 : (!(nearK (sumI v.off c))) with
          | true =>
            exact ret_eq (by simp only [addKI, addBI, k0, k1, k2, k3, k4, Bool.false_eq_true, ↓reduceIte]) (addK_2 v c (csT k0 (csF k1 (csF k2 (csT k3 (csT k4 csN))))) w)
          | false =>
            exact ret_eq (by simp only [addKI, addBI, k0, k1, k2, k3, k4, Bool.false_eq_true, ↓reduceIte]) (addK_3 v c (csT k0 (csF k1 (csF k2 (csT k3 (csF k4 csN))))) w)
        | false =>
          exact ret_eq (by simp only [addKI, addBI, k0, k1, k2, k3, Bool.false_eq_true, ↓reduceIte]) (addK_4 v c (csT k0 (csF k1 (csF k2 (csF k3 csN)))) w)
  | false =>
    cases k1 : (v.kind == 3) with
    | true =>
      cases k2 : (decide (c ≤ -65536)) with
      | true =>
        exact ret_eq (by simp only [addKI, addBI, k0, k1, k2, Bool.false_eq_true, ↓reduceIte]) (addK_5 v c (csF k0 (csT k1 (csT k2 csN))) w)
      | false =>
        cases k3 : (decide (c ≥ 65536)) with
        | true =>
          exact ret_eq (by simp only [addKI, addBI, k0, k1, k2, k3, Bool.false_eq_true, ↓reduceIte]) (addK_6 v c (csF k0 (csT k1 (csF k2 (csT k3 csN)))) w)
        | false =>
          cases k4 : (sumK v.off c) with
          | true =>
            cases k5 : (!(nearK (sumI v.off c))) with
            | true =>
              exact ret_eq (by simp only [addKI, addBI, k0, k1, k2, k3, k4, k5, Bool.false_eq_true, ↓reduceIte]) (addK_7 v c (csF k0 (csT k1 (csF k2 (csF k3 (csT k4 (csT k5 csN)))))) w)
            | false =>
              exact ret_eq (by simp only [addKI, addBI, k0, k1, k2, k3, k4, k5, Bool.false_eq_true, ↓reduceIte]) (addK_8 v c (csF k0 (csT k1 (csF k2 (csF k3 (csT k4 (csF k5 csN)))))) w)
          | false =>
            exact ret_eq (by simp only [addKI, addBI, k0, k1, k2, k3, k4, Bool.false_eq_true, ↓reduceIte]) (addK_9 v c (csF k0 (csT k1 (csF k2 (csF k3 (csF k4 csN))))) w)
    | false =>
      cases k2 : (v.kind == 5) with
      | true =>
        cases k3 : (decide (c ≤ -65536)) with
        | true =>
          exact ret_eq (by simp only [addKI, addBI, k0, k1, k2, k3, Bool.false_eq_true, ↓reduceIte]) (addK_10 v c (csF k0 (csF k1 (csT k2 (csT k3 csN)))) w)
        | false =>
          cases k4 : (decide (c ≥ 65536)) with
          | true =>
            exact ret_eq (by simp only [addKI, addBI, k0, k1, k2, k3, k4, Bool.false_eq_true, ↓reduceIte]) (addK_11 v c (csF k0 (csF k1 (csT k2 (csF k3 (csT k4 csN))))) w)
          | false =>
            cases k5 : (sumK v.off c) with
            | true =>
              cases k6 : (!(nearK (sumI v.off c))) with
              | true =>
                exact ret_eq (by simp only [addKI, addBI, k0, k1, k2, k3, k4, k5, k6, Bool.false_eq_true, ↓reduceIte]) (addK_12 v c (csF k0 (csF k1 (csT k2 (csF k3 (csF k4 (csT k5 (csT k6 csN))))))) w)
              | false =>
                exact ret_eq (by simp only [addKI, addBI, k0, k1, k2, k3, k4, k5, k6, Bool.false_eq_true, ↓reduceIte]) (addK_13 v c (csF k0 (csF k1 (csT k2 (csF k3 (csF k4 (csT k5 (csF k6 csN))))))) w)
            | false =>
              exact ret_eq (by simp only [addKI, addBI, k0, k1, k2, k3, k4, k5, Bool.false_eq_true, ↓reduceIte]) (addK_14 v c (csF k0 (csF k1 (csT k2 (csF k3 (csF k4 (csF k5 csN)))))) w)
      | false =>
        cases k3 : (v.kind == 7) with
        | true =>
          cases k4 : (decide (c ≤ -65536)) with
          | true =>
            exact ret_eq (by simp only [addKI, addBI, k0, k1, k2, k3, k4, Bool.false_eq_true, ↓reduceIte]) (addK_15 v c (csF k0 (csF k1 (csF k2 (csT k3 (csT k4 csN))))) w)
          | false =>
            cases k5 : (decide (c ≥ 65536)) with
            | true =>
              exact ret_eq (by simp only [addKI, addBI, k0, k1, k2, k3, k4, k5, Bool.false_eq_true, ↓reduceIte]) (addK_16 v c (csF k0 (csF k1 (csF k2 (csT k3 (csF k4 (csT k5 csN)))))) w)
            | false =>
              cases k6 : (sumK v.off c) with
              | true =>
                cases k7 : (!(nearK (sumI v.off c))) with
                | true =>
                  exact ret_eq (by simp only [addKI, addBI, k0, k1, k2, k3, k4, k5, k6, k7, Bool.false_eq_true, ↓reduceIte]) (addK_17 v c (csF k0 (csF k1 (csF k2 (csT k3 (csF k4 (csF k5 (csT k6 (csT k7 csN)))))))) w)
                | false =>
                  exact ret_eq (by simp only [addKI, addBI, k0, k1, k2, k3, k4, k5, k6, k7, Bool.false_eq_true, ↓reduceIte]) (addK_18 v c (csF k0 (csF k1 (csF k2 (csT k3 (csF k4 (csF k5 (csT k6 (csF k7 csN)))))))) w)
              | false =>
                exact ret_eq (by simp only [addKI, addBI, k0, k1, k2, k3, k4, k5, k6, Bool.false_eq_true, ↓reduceIte]) (addK_19 v c (csF k0 (csF k1 (csF k2 (csT k3 (csF k4 (csF k5 (csF k6 csN))))))) w)
        | false =>
          exact ret_eq (by simp only [addKI, k0, k1, k2, k3, Bool.false_eq_true, ↓reduceIte]) (addK_20 v c (csF k0 (csF k1 (csF k2 (csF k3 csN)))) w)
def hk_addK : Hook := fun f args _ =>
  if Nat.beq f 18 then
    match args with
    | [.agg ⟨[.int .i64 a0, .int .i64 a1, .int .i64 a2, .int .i64 a3, .int .i64 a4, .int .u64 a5, .int .u64 a6, .int .u64 a7, .int .u64 a8, .int .i64 a9, .int .i64 a10]⟩, .int .i64 b] => some (VKB (addKI (⟨a0, a1, a2, a3, a4, ⟨⟨a5, a6⟩, ⟨a7, a8, a9, a10⟩⟩⟩ : KI) b), [])
    | _ => none
  else none
theorem hk_addK_ok : HookOk Try.prog hk_addK := by
  intro f args h v cs hv hc wb k s w H
  unfold hk_addK at hv
  split at hv
  · rename_i hf
    obtain rfl := Nat.eq_of_beq_eq_true hf
    split at hv
    · rename_i a0 a1 a2 a3 a4 a5 a6 a7 a8 a9 a10 b
      cases hv
      exact c_addK (⟨a0, a1, a2, a3, a4, ⟨⟨a5, a6⟩, ⟨a7, a8, a9, a10⟩⟩⟩ : KI) b w
    · cases hv
  · cases hv
def addD (v : KI) (n : NI) : NI := DoI 0 true (tightI v.n) (tightI n)
def addI (v : KI) (n : NI) (id : Int) : KI × Bool :=
  if oneK n then addKI v (IntKind.i64.wrap (oneI n))
  else if v.kind != 5 then
    (if v.kind != 7 then (nilK, false)
     else if belK n then (if belK v.n then (if belK (addD v n) then (⟨v.kind, v.map, id, v.off, 0, tightI (addD v n)⟩, true) else (nilK, false)) else (nilK, false)) else (nilK, false))
  else if belK n then (if belK v.n then (if belK (addD v n) then (⟨v.kind, v.map, v.id, v.off, v.sure, tightI (addD v n)⟩, true) else (nilK, false)) else (nilK, false)) else (nilK, false)
theorem ne_f57 {x : Int} (h : (x != 5) = false) : (x == 7) = false := by
  have e : x = 5 := by simpa using h
  subst e; rfl
theorem ne_t7 {x : Int} (h : (x != 7) = false) : (x == 7) = true := by simpa using h
def hkk2 : Hook := orHook hk_bel (orHook hk_addK (orHook hk_sum (orHook hk_near (hk10))))
theorem hkk2_ok : HookOk Try.prog hkk2 := orHook_ok hk_bel_ok (orHook_ok hk_addK_ok (orHook_ok hk_sum_ok (orHook_ok hk_near_ok (hk10_ok))))
set_option maxHeartbeats 0 in
set_option maxRecDepth 1000000 in
theorem add_0 (v : KI) (n : NI) (id : Int) (he : ([(b2i (oneK n), 1)] : Cs).map (·.1) = ([(b2i (oneK n), 1)] : Cs).map (·.2)) (w : World) : Calls Try.prog 7 #[VK v, VN n, .int .i64 id] w fun e w' => e = .returned (VKB (addKI v (IntKind.i64.wrap (oneI n)))) ∧ Gr w w' :=
  rk hkk2_ok (oAt 7 [(17, true)]) (cs := ([(b2i (oneK n), 1)] : Cs)) rfl (by kernel_rfl) (by kernel_rfl) he w
set_option maxHeartbeats 0 in
set_option maxRecDepth 1000000 in
theorem add_1 (v : KI) (n : NI) (id : Int) (he : ([(b2i (oneK n), 0), (b2i (v.kind != 5), 1), (b2i (v.kind != 7), 1)] : Cs).map (·.1) = ([(b2i (oneK n), 0), (b2i (v.kind != 5), 1), (b2i (v.kind != 7), 1)] : Cs).map (·.2)) (w : World) : Calls Try.prog 7 #[VK v, VN n, .int .i64 id] w fun e w' => e = .returned (VKB (nilK, false)) ∧ Gr w w' :=
  rk hkk2_ok (oAt 7 [(17, false), (27, true), (31, true)]) (cs := ([(b2i (oneK n), 0), (b2i (v.kind != 5), 1), (b2i (v.kind != 7), 1)] : Cs)) rfl (by kernel_rfl) (by kernel_rfl) he w
set_option maxHeartbeats 0 in
set_option maxRecDepth 1000000 in
theorem add_2 (v : KI) (n : NI) (id : Int) (he : ([(b2i (oneK n), 0), (b2i (v.kind != 5), 1), (b2i (v.kind != 7), 0), (b2i (nW v.n), 1), (b2i (nW n), 1), (b2i (belK n), 1), (b2i (belK v.n), 1), (b2i (nW (tightI v.n) && nW (tightI n)), 1), (b2i (nW (addD v n)), 1), (b2i (belK (addD v n)), 1), (b2i (v.kind == 7), 1)] : Cs).map (·.1) = ([(b2i (oneK n), 0), (b2i (v.kind != 5), 1), (b2i (v.kind != 7), 0), (b2i (nW v.n), 1), (b2i (nW n), 1), (b2i (belK n), 1), (b2i (belK v.n), 1), (b2i (nW (tightI v.n) && nW (tightI n)), 1), (b2i (nW (addD v n)), 1), (b2i (belK (addD v n)), 1), (b2i (v.kind == 7), 1)] : Cs).map (·.2)) (w : World) : Calls Try.prog 7 #[VK v, VN n, .int .i64 id] w fun e w' => e = .returned (VKB (⟨v.kind, v.map, id, v.off, 0, tightI (addD v n)⟩, true)) ∧ Gr w w' :=
  rk hkk2_ok (oAt 7 [(17, false), (27, true), (31, false), (45, true), (48, true), (60, true), (65, true)]) (cs := ([(b2i (oneK n), 0), (b2i (v.kind != 5), 1), (b2i (v.kind != 7), 0), (b2i (nW v.n), 1), (b2i (nW n), 1), (b2i (belK n), 1), (b2i (belK v.n), 1), (b2i (nW (tightI v.n) && nW (tightI n)), 1), (b2i (nW (addD v n)), 1), (b2i (belK (addD v n)), 1), (b2i (v.kind == 7), 1)] : Cs)) rfl (by kernel_rfl) (by kernel_rfl) he w
set_option maxHeartbeats 0 in
set_option maxRecDepth 1000000 in
theorem add_3 (v : KI) (n : NI) (id : Int) (he : ([(b2i (oneK n), 0), (b2i (v.kind != 5), 1), (b2i (v.kind != 7), 0), (b2i (nW v.n), 1), (b2i (nW n), 1), (b2i (belK n), 1), (b2i (belK v.n), 1), (b2i (nW (tightI v.n) && nW (tightI n)), 1), (b2i (nW (addD v n)), 1), (b2i (belK (addD v n)), 0)] : Cs).map (·.1) = ([(b2i (oneK n), 0), (b2i (v.kind != 5), 1), (b2i (v.kind != 7), 0), (b2i (nW v.n), 1), (b2i (nW n), 1), (b2i (belK n), 1), (b2i (belK v.n), 1), (b2i (nW (tightI v.n) && nW (tightI n)), 1), (b2i (nW (addD v n)), 1), (b2i (belK (addD v n)), 0)] : Cs).map (·.2)) (w : World) : Calls Try.prog 7 #[VK v, VN n, .int .i64 id] w fun e w' => e = .returned (VKB (nilK, false)) ∧ Gr w w' :=
  rk hkk2_ok (oAt 7 [(17, false), (27, true), (31, false), (45, true), (48, true), (60, false)]) (cs := ([(b2i (oneK n), 0), (b2i (v.kind != 5), 1), (b2i (v.kind != 7), 0), (b2i (nW v.n), 1), (b2i (nW n), 1), (b2i (belK n), 1), (b2i (belK v.n), 1), (b2i (nW (tightI v.n) && nW (tightI n)), 1), (b2i (nW (addD v n)), 1), (b2i (belK (addD v n)), 0)] : Cs)) rfl (by kernel_rfl) (by kernel_rfl) he w
set_option maxHeartbeats 0 in
set_option maxRecDepth 1000000 in
theorem add_4 (v : KI) (n : NI) (id : Int) (he : ([(b2i (oneK n), 0), (b2i (v.kind != 5), 1), (b2i (v.kind != 7), 0), (b2i (nW v.n), 1), (b2i (nW n), 1), (b2i (belK n), 1), (b2i (belK v.n), 0)] : Cs).map (·.1) = ([(b2i (oneK n), 0), (b2i (v.kind != 5), 1), (b2i (v.kind != 7), 0), (b2i (nW v.n), 1), (b2i (nW n), 1), (b2i (belK n), 1), (b2i (belK v.n), 0)] : Cs).map (·.2)) (w : World) : Calls Try.prog 7 #[VK v, VN n, .int .i64 id] w fun e w' => e = .returned (VKB (nilK, false)) ∧ Gr w w' :=
  rk hkk2_ok (oAt 7 [(17, false), (27, true), (31, false), (45, true), (48, false)]) (cs := ([(b2i (oneK n), 0), (b2i (v.kind != 5), 1), (b2i (v.kind != 7), 0), (b2i (nW v.n), 1), (b2i (nW n), 1), (b2i (belK n), 1), (b2i (belK v.n), 0)] : Cs)) rfl (by kernel_rfl) (by kernel_rfl) he w
set_option maxHeartbeats 0 in
set_option maxRecDepth 1000000 in
theorem add_5 (v : KI) (n : NI) (id : Int) (he : ([(b2i (oneK n), 0), (b2i (v.kind != 5), 1), (b2i (v.kind != 7), 0), (b2i (nW v.n), 1), (b2i (nW n), 1), (b2i (belK n), 0)] : Cs).map (·.1) = ([(b2i (oneK n), 0), (b2i (v.kind != 5), 1), (b2i (v.kind != 7), 0), (b2i (nW v.n), 1), (b2i (nW n), 1), (b2i (belK n), 0)] : Cs).map (·.2)) (w : World) : Calls Try.prog 7 #[VK v, VN n, .int .i64 id] w fun e w' => e = .returned (VKB (nilK, false)) ∧ Gr w w' :=
  rk hkk2_ok (oAt 7 [(17, false), (27, true), (31, false), (45, false)]) (cs := ([(b2i (oneK n), 0), (b2i (v.kind != 5), 1), (b2i (v.kind != 7), 0), (b2i (nW v.n), 1), (b2i (nW n), 1), (b2i (belK n), 0)] : Cs)) rfl (by kernel_rfl) (by kernel_rfl) he w
set_option maxHeartbeats 0 in
set_option maxRecDepth 1000000 in
theorem add_6 (v : KI) (n : NI) (id : Int) (he : ([(b2i (oneK n), 0), (b2i (v.kind != 5), 0), (b2i (nW v.n), 1), (b2i (nW n), 1), (b2i (belK n), 1), (b2i (belK v.n), 1), (b2i (nW (tightI v.n) && nW (tightI n)), 1), (b2i (nW (addD v n)), 1), (b2i (belK (addD v n)), 1), (b2i (v.kind == 7), 0)] : Cs).map (·.1) = ([(b2i (oneK n), 0), (b2i (v.kind != 5), 0), (b2i (nW v.n), 1), (b2i (nW n), 1), (b2i (belK n), 1), (b2i (belK v.n), 1), (b2i (nW (tightI v.n) && nW (tightI n)), 1), (b2i (nW (addD v n)), 1), (b2i (belK (addD v n)), 1), (b2i (v.kind == 7), 0)] : Cs).map (·.2)) (w : World) : Calls Try.prog 7 #[VK v, VN n, .int .i64 id] w fun e w' => e = .returned (VKB (⟨v.kind, v.map, v.id, v.off, v.sure, tightI (addD v n)⟩, true)) ∧ Gr w w' :=
  rk hkk2_ok (oAt 7 [(17, false), (27, false), (45, true), (48, true), (60, true), (65, false)]) (cs := ([(b2i (oneK n), 0), (b2i (v.kind != 5), 0), (b2i (nW v.n), 1), (b2i (nW n), 1), (b2i (belK n), 1), (b2i (belK v.n), 1), (b2i (nW (tightI v.n) && nW (tightI n)), 1), (b2i (nW (addD v n)), 1), (b2i (belK (addD v n)), 1), (b2i (v.kind == 7), 0)] : Cs)) rfl (by kernel_rfl) (by kernel_rfl) he w
set_option maxHeartbeats 0 in
set_option maxRecDepth 1000000 in
theorem add_7 (v : KI) (n : NI) (id : Int) (he : ([(b2i (oneK n), 0), (b2i (v.kind != 5), 0), (b2i (nW v.n), 1), (b2i (nW n), 1), (b2i (belK n), 1), (b2i (belK v.n), 1), (b2i (nW (tightI v.n) && nW (tightI n)), 1), (b2i (nW (addD v n)), 1), (b2i (belK (addD v n)), 0)] : Cs).map (·.1) = ([(b2i (oneK n), 0), (b2i (v.kind != 5), 0), (b2i (nW v.n), 1), (b2i (nW n), 1), (b2i (belK n), 1), (b2i (belK v.n), 1), (b2i (nW (tightI v.n) && nW (tightI n)), 1), (b2i (nW (addD v n)), 1), (b2i (belK (addD v n)), 0)] : Cs).map (·.2)) (w : World) : Calls Try.prog 7 #[VK v, VN n, .int .i64 id] w fun e w' => e = .returned (VKB (nilK, false)) ∧ Gr w w' :=
  rk hkk2_ok (oAt 7 [(17, false), (27, false), (45, true), (48, true), (60, false)]) (cs := ([(b2i (oneK n), 0), (b2i (v.kind != 5), 0), (b2i (nW v.n), 1), (b2i (nW n), 1), (b2i (belK n), 1), (b2i (belK v.n), 1), (b2i (nW (tightI v.n) && nW (tightI n)), 1), (b2i (nW (addD v n)), 1), (b2i (belK (addD v n)), 0)] : Cs)) rfl (by kernel_rfl) (by kernel_rfl) he w
set_option maxHeartbeats 0 in
set_option maxRecDepth 1000000 in
theorem add_8 (v : KI) (n : NI) (id : Int) (he : ([(b2i (oneK n), 0), (b2i (v.kind != 5), 0), (b2i (nW v.n), 1), (b2i (nW n), 1), (b2i (belK n), 1), (b2i (belK v.n), 0)] : Cs).map (·.1) = ([(b2i (oneK n), 0), (b2i (v.kind != 5), 0), (b2i (nW v.n), 1), (b2i (nW n), 1), (b2i (belK n), 1), (b2i (belK v.n), 0)] : Cs).map (·.2)) (w : World) : Calls Try.prog 7 #[VK v, VN n, .int .i64 id] w fun e w' => e = .returned (VKB (nilK, false)) ∧ Gr w w' :=
  rk hkk2_ok (oAt 7 [(17, false), (27, false), (45, true), (48, false)]) (cs := ([(b2i (oneK n), 0), (b2i (v.kind != 5), 0), (b2i (nW v.n), 1), (b2i (nW n), 1), (b2i (belK n), 1), (b2i (belK v.n), 0)] : Cs)) rfl (by kernel_rfl) (by kernel_rfl) he w
set_option maxHeartbeats 0 in
set_option maxRecDepth 1000000 in
theorem add_9 (v : KI) (n : NI) (id : Int) (he : ([(b2i (oneK n), 0), (b2i (v.kind != 5), 0), (b2i (nW v.n), 1), (b2i (nW n), 1), (b2i (belK n), 0)] : Cs).map (·.1) = ([(b2i (oneK n), 0), (b2i (v.kind != 5), 0), (b2i (nW v.n), 1), (b2i (nW n), 1), (b2i (belK n), 0)] : Cs).map (·.2)) (w : World) : Calls Try.prog 7 #[VK v, VN n, .int .i64 id] w fun e w' => e = .returned (VKB (nilK, false)) ∧ Gr w w' :=
  rk hkk2_ok (oAt 7 [(17, false), (27, false), (45, false)]) (cs := ([(b2i (oneK n), 0), (b2i (v.kind != 5), 0), (b2i (nW v.n), 1), (b2i (nW n), 1), (b2i (belK n), 0)] : Cs)) rfl (by kernel_rfl) (by kernel_rfl) he w
theorem c_add (v : KI) (n : NI) (id : Int) (hw : (nW v.n && nW n) = true) (w : World) : Calls Try.prog 7 #[VK v, VN n, .int .i64 id] w fun e w' => e = .returned (VKB (addI v n id)) ∧ Gr w w' := by
  simp only [Bool.and_eq_true] at hw
  have hv := hw.1
  have hn := hw.2
  have hd : (nW (tightI v.n) && nW (tightI n)) = true := by rw [nW_tight, nW_tight]; rfl
  have hD : nW (addD v n) = true := nW_Do _ _ _ _
  cases k0 : (oneK n) with
  | true =>
    exact ret_eq (by simp only [addI, k0, ↓reduceIte]) (add_0 v n id (csT k0 csN) w)
  | false =>
    cases k1 : (v.kind != 5) with
    | true =>
      cases k2 : (v.kind != 7) with
      | true =>
        exact ret_eq (by simp only [addI, k0, k1, k2, Bool.false_eq_true, ↓reduceIte]) (add_1 v n id (csF k0 (csT k1 (csT k2 csN))) w)
      | false =>
        cases k3 : (belK n) with
        | true =>
          cases k4 : (belK v.n) with
          | true =>
            cases k5 : (belK (addD v n)) with
            | true =>
              exact ret_eq (by simp only [addI, k0, k1, k2, k3, k4, k5, Bool.false_eq_true, ↓reduceIte]) (add_2 v n id (csF k0 (csT k1 (csF k2 (csT hv (csT hn (csT k3 (csT k4 (csT hd (csT hD (csT k5 (csT (ne_t7 k2) csN))))))))))) w)
            | false =>
              exact ret_eq (by simp only [addI, k0, k1, k2, k3, k4, k5, Bool.false_eq_true, ↓reduceIte]) (add_3 v n id (csF k0 (csT k1 (csF k2 (csT hv (csT hn (csT k3 (csT k4 (csT hd (csT hD (csF k5 csN)))))))))) w)
          | false =>
            exact ret_eq (by simp only [addI, k0, k1, k2, k3, k4, Bool.false_eq_true, ↓reduceIte]) (add_4 v n id (csF k0 (csT k1 (csF k2 (csT hv (csT hn (csT k3 (csF k4 csN))))))) w)
        | false =>
          exact ret_eq (by simp only [addI, k0, k1, k2, k3, Bool.false_eq_true, ↓reduceIte]) (add_5 v n id (csF k0 (csT k1 (csF k2 (csT hv (csT hn (csF k3 csN)))))) w)
    | false =>
      cases k2 : (belK n) with
      | true =>
        cases k3 : (belK v.n) with
        | true =>
          cases k4 : (belK (addD v n)) with
          | true =>
            exact ret_eq (by simp only [addI, k0, k1, k2, k3, k4, Bool.false_eq_true, ↓reduceIte]) (add_6 v n id (csF k0 (csF k1 (csT hv (csT hn (csT k2 (csT k3 (csT hd (csT hD (csT k4 (csF (ne_f57 k1) csN)))))))))) w)
          | false =>
            exact ret_eq (by simp only [addI, k0, k1, k2, k3, k4, Bool.false_eq_true, ↓reduceIte]) (add_7 v n id (csF k0 (csF k1 (csT hv (csT hn (csT k2 (csT k3 (csT hd (csT hD (csF k4 csN))))))))) w)
        | false =>
          exact ret_eq (by simp only [addI, k0, k1, k2, k3, Bool.false_eq_true, ↓reduceIte]) (add_8 v n id (csF k0 (csF k1 (csT hv (csT hn (csT k2 (csF k3 csN)))))) w)
      | false =>
        exact ret_eq (by simp only [addI, k0, k1, k2, Bool.false_eq_true, ↓reduceIte]) (add_9 v n id (csF k0 (csF k1 (csT hv (csT hn (csF k2 csN))))) w)
def hk_add : Hook := fun f args _ =>
  if Nat.beq f 7 then
    match args with
    | [.agg ⟨[.int .i64 a0, .int .i64 a1, .int .i64 a2, .int .i64 a3, .int .i64 a4, .int .u64 a5, .int .u64 a6, .int .u64 a7, .int .u64 a8, .int .i64 a9, .int .i64 a10]⟩, .agg ⟨[.int .u64 b0, .int .u64 b1, .int .u64 b2, .int .u64 b3, .int .i64 b4, .int .i64 b5]⟩, .int .i64 c] => some (VKB (addI (⟨a0, a1, a2, a3, a4, ⟨⟨a5, a6⟩, ⟨a7, a8, a9, a10⟩⟩⟩ : KI) (⟨⟨b0, b1⟩, ⟨b2, b3, b4, b5⟩⟩ : NI) c), [(b2i (nW (⟨a0, a1, a2, a3, a4, ⟨⟨a5, a6⟩, ⟨a7, a8, a9, a10⟩⟩⟩ : KI).n && nW (⟨⟨b0, b1⟩, ⟨b2, b3, b4, b5⟩⟩ : NI)), 1)])
    | _ => none
  else none
theorem hk_add_ok : HookOk Try.prog hk_add := by
  intro f args h v cs hv hc wb k s w H
  unfold hk_add at hv
  split at hv
  · rename_i hf
    obtain rfl := Nat.eq_of_beq_eq_true hf
    split at hv
    · rename_i a0 a1 a2 a3 a4 a5 a6 a7 a8 a9 a10 b0 b1 b2 b3 b4 b5 c
      cases hv
      have hw := pair1 hc rfl
      exact c_add (⟨a0, a1, a2, a3, a4, ⟨⟨a5, a6⟩, ⟨a7, a8, a9, a10⟩⟩⟩ : KI) (⟨⟨b0, b1⟩, ⟨b2, b3, b4, b5⟩⟩ : NI) c hw w
    · cases hv
  · cases hv
def hkk3 : Hook := orHook hk_made (hkBase)
theorem hkk3_ok : HookOk Try.prog hkk3 := orHook_ok hk_made_ok (hkBase_ok)
set_option maxHeartbeats 0 in
set_option maxRecDepth 1000000 in
theorem atV_0 (a0 a1 a2 a3 a4 a5 b0 b1 b2 b3 b4 : Int) (he : ([] : Cs).map (·.1) = ([] : Cs).map (·.2)) (w : World) : Calls Try.prog 6 #[.agg ⟨[.int .i64 a0, .int .i64 a1, .int .i64 a2, .int .i64 a3, .int .i64 a4, .int .u32 a5, .int .u64 b0, .int .u64 b1, .int .u64 b2, .int .u64 b3, .int .u64 b4]⟩] w fun e w' => e = .returned (VK (⟨a0, a1, a2, a3, a4, madeI (IntKind.u64.wrap a5) b0 b1 b2 b3 b4⟩ : KI)) ∧ Gr w w' :=
  rk hkk3_ok noOrc (cs := ([] : Cs)) rfl (by kernel_rfl) (by kernel_rfl) he w
theorem c_atV (a0 a1 a2 a3 a4 a5 b0 b1 b2 b3 b4 : Int) (w : World) : Calls Try.prog 6 #[.agg ⟨[.int .i64 a0, .int .i64 a1, .int .i64 a2, .int .i64 a3, .int .i64 a4, .int .u32 a5, .int .u64 b0, .int .u64 b1, .int .u64 b2, .int .u64 b3, .int .u64 b4]⟩] w fun e w' => e = .returned (VK (⟨a0, a1, a2, a3, a4, madeI (IntKind.u64.wrap a5) b0 b1 b2 b3 b4⟩ : KI)) ∧ Gr w w' := by
  exact ret_eq rfl (atV_0 a0 a1 a2 a3 a4 a5 b0 b1 b2 b3 b4 csN w)
def hk_atV : Hook := fun f args _ =>
  if Nat.beq f 6 then
    match args with
    | [.agg ⟨[.int .i64 a0, .int .i64 a1, .int .i64 a2, .int .i64 a3, .int .i64 a4, .int .u32 a5, .int .u64 b0, .int .u64 b1, .int .u64 b2, .int .u64 b3, .int .u64 b4]⟩] => some (VK (⟨a0, a1, a2, a3, a4, madeI (IntKind.u64.wrap a5) b0 b1 b2 b3 b4⟩ : KI), [])
    | _ => none
  else none
theorem hk_atV_ok : HookOk Try.prog hk_atV := by
  intro f args h v cs hv hc wb k s w H
  unfold hk_atV at hv
  split at hv
  · rename_i hf
    obtain rfl := Nat.eq_of_beq_eq_true hf
    split at hv
    · rename_i a0 a1 a2 a3 a4 a5 b0 b1 b2 b3 b4
      cases hv
      exact c_atV a0 a1 a2 a3 a4 a5 b0 b1 b2 b3 b4 w
    · cases hv
  · cases hv
def nearL (x : Int) : Bool := decide (x > -200000) && decide (x < 200000)
set_option maxHeartbeats 0 in
set_option maxRecDepth 1000000 in
theorem nearL_0 (x : Int) (he : ([(b2i (decide (x > -200000)), 1)] : Cs).map (·.1) = ([(b2i (decide (x > -200000)), 1)] : Cs).map (·.2)) (w : World) : Calls Try.prog 9 #[.int .i64 x] w fun e w' => e = .returned (.bool (decide (x < 200000))) ∧ Gr w w' :=
  rk hkBase_ok (oAt 9 [(4, true)]) (cs := ([(b2i (decide (x > -200000)), 1)] : Cs)) rfl (by kernel_rfl) (by kernel_rfl) he w
set_option maxHeartbeats 0 in
set_option maxRecDepth 1000000 in
theorem nearL_1 (x : Int) (he : ([(b2i (decide (x > -200000)), 0)] : Cs).map (·.1) = ([(b2i (decide (x > -200000)), 0)] : Cs).map (·.2)) (w : World) : Calls Try.prog 9 #[.int .i64 x] w fun e w' => e = .returned (.bool false) ∧ Gr w w' :=
  rk hkBase_ok (oAt 9 [(4, false)]) (cs := ([(b2i (decide (x > -200000)), 0)] : Cs)) rfl (by kernel_rfl) (by kernel_rfl) he w
theorem c_nearL (x : Int) (w : World) : Calls Try.prog 9 #[.int .i64 x] w fun e w' => e = .returned (.bool (nearL x)) ∧ Gr w w' := by
  cases k0 : (decide (x > -200000)) with
  | true =>
    exact ret_eq (by simp only [nearL, k0, Bool.true_and]) (nearL_0 x (csT k0 csN) w)
  | false =>
    exact ret_eq (by simp only [nearL, k0, Bool.false_and]) (nearL_1 x (csF k0 csN) w)
def hk_nearL : Hook := fun f args _ =>
  if Nat.beq f 9 then
    match args with
    | [.int .i64 a] => some (.bool (nearL a), [])
    | _ => none
  else none
theorem hk_nearL_ok : HookOk Try.prog hk_nearL := by
  intro f args h v cs hv hc wb k s w H
  unfold hk_nearL at hv
  split at hv
  · rename_i hf
    obtain rfl := Nat.eq_of_beq_eq_true hf
    split at hv
    · rename_i a
      cases hv
      exact c_nearL a w
    · cases hv
  · cases hv
def hkk4 : Hook := orHook hk_bel (orHook hk_addK (orHook hk_sum (orHook hk_near (hk10))))
theorem hkk4_ok : HookOk Try.prog hkk4 := orHook_ok hk_bel_ok (orHook_ok hk_addK_ok (orHook_ok hk_sum_ok (orHook_ok hk_near_ok (hk10_ok))))
set_option maxHeartbeats 0 in
set_option maxRecDepth 1000000 in
theorem points_any (w : World) : Calls Try.prog 12 #[] w fun e w' => e = .returned (.bool true) ∧ Gr w w' :=
  reckonG_ok noNG hkk4_ok 100000 300 [] rfl rfl (by kernel_rfl) w (Laid.nil w)
def hk_points : Hook := memoHook [] 12 [([], .bool true)]
theorem hk_points_ok : HookOk Try.prog hk_points := memoHook_ok rfl ⟨fun w _ => points_any w, trivial⟩
def hkK : Hook := orHook hk_points (orHook hk_add (orHook hk_atV (orHook hk_made (orHook hk_rhas (orHook hk_in (orHook hk_Do (hk10)))))))
theorem hkK_ok : HookOk Try.prog hkK := orHook_ok hk_points_ok (orHook_ok hk_add_ok (orHook_ok hk_atV_ok (orHook_ok hk_made_ok (orHook_ok hk_rhas_ok (orHook_ok hk_in_ok (orHook_ok hk_Do_ok (hk10_ok)))))))
end Go.Proofs.Ytdlgebfaijlaoaa.Ex
end
section
namespace Go.Proofs.Ytdlgebfaijlaoaa.Ex
open Go Go.RowKit
open Go.Proofs.Ytdlgebfaijlaoaa.Spn (Sp SHas SIn constS two_forms)
theorem in_has {a b : NI} {v : BitVec 64} (h : nInI a b = true) (hb : HasN b v) : HasN a v := by
  unfold nInI tInI sInI at h
  simp only [Bool.and_eq_true] at h
  obtain ⟨⟨h1, h2⟩, h3⟩ := h
  have z1 : (tB b.t).2 &&& ~~~(tB a.t).2 = 0#64 := (N_zero_iff' _).1 (by simpa using h1)
  have z2 : (tB b.t).1 &&& ~~~(tB a.t).2 = (tB a.t).1 := (N_eq_iff _ _).1 (beq_iff_eq.1 h2)
  have z3 := (inB_iff _ _).1 h3
  obtain ⟨t, s⟩ := hb
  refine ⟨?_, ?_⟩
  · unfold hasT at t ⊢
    rw [← z2, ← t]
    apply BitVec.eq_of_getLsbD_eq
    intro i hi
    have q := congrArg (fun z : BitVec 64 => z.getLsbD i) z1
    simp only [BitVec.getLsbD_and, BitVec.getLsbD_not, hi, decide_true, Bool.true_and, BitVec.getLsbD_zero] at q ⊢
    revert q
    cases v.getLsbD i <;> cases (tB b.t).2.getLsbD i <;> cases (tB a.t).2.getLsbD i <;> decide
  · unfold SHas at s ⊢
    unfold SIn at z3
    omega
theorem const_in {a : NI} {v : BitVec 64} (h : HasN a v) : nInI a (constI (N v)) = true := by
  obtain ⟨t, s⟩ := h
  have e1 : tB (constI (N v)).t = (v, 0#64) := by
    show (B (N v), B 0) = _
    rw [BN v]; rfl
  have e2 : sB (constI (N v)).s = constS v := by
    show sB (sConstI (N v)) = _
    rw [sConstI, sB_sN, BN v]
  unfold nInI tInI sInI
  rw [e1, e2]
  simp only [Bool.and_eq_true]
  refine ⟨⟨?_, ?_⟩, ?_⟩
  · rw [BitVec.zero_and]; rfl
  · unfold hasT at t
    rw [t]; exact beq_self_eq_true _
  · rw [inB_iff]
    exact s
end Go.Proofs.Ytdlgebfaijlaoaa.Ex
end
section
namespace Go.Proofs.Ytdlgebfaijlaoaa.Ex
open Go Go.RowKit
open Go.Proofs.Ytdlgebfaijlaoaa.Sc (firstV firstOk lastV lastOk)
def hkX : Hook := hkL
theorem hkX_ok : HookOk Try.prog hkX := hkL_ok
def exCs (x y : Int) : Cs := [(b2i (uB x), 1), (b2i (uB y), 1), (b2i (nW (constI x) && nW (constI y)), 1), (b2i (oneK (DoI 0 true (constI x) (constI y))), 1), (b2i (uB x && uB y), 1), (b2i (oneI (DoI 0 true (constI x) (constI y)) != aluI 0 true x y), 0), (b2i (uB x), 1), (b2i (uB y), 1), (b2i (nW (constI x) && nW (constI y)), 1), (b2i (oneK (DoI 16 true (constI x) (constI y))), 1), (b2i (uB x && uB y), 1), (b2i (oneI (DoI 16 true (constI x) (constI y)) != aluI 16 true x y), 0), (b2i (uB x), 1), (b2i (uB y), 1), (b2i (nW (constI x) && nW (constI y)), 1), (b2i (oneK (DoI 32 true (constI x) (constI y))), 1), (b2i (uB x && uB y), 1), (b2i (oneI (DoI 32 true (constI x) (constI y)) != aluI 32 true x y), 0), (b2i (uB x), 1), (b2i (uB y), 1), (b2i (nW (constI x) && nW (constI y)), 1), (b2i (oneK (DoI 64 true (constI x) (constI y))), 1), (b2i (uB x && uB y), 1), (b2i (oneI (DoI 64 true (constI x) (constI y)) != aluI 64 true x y), 0), (b2i (uB x), 1), (b2i (uB y), 1), (b2i (nW (constI x) && nW (constI y)), 1), (b2i (oneK (DoI 80 true (constI x) (constI y))), 1), (b2i (uB x && uB y), 1), (b2i (oneI (DoI 80 true (constI x) (constI y)) != aluI 80 true x y), 0), (b2i (uB x), 1), (b2i (uB y), 1), (b2i (nW (constI x) && nW (constI y)), 1), (b2i (oneK (DoI 160 true (constI x) (constI y))), 1), (b2i (uB x && uB y), 1), (b2i (oneI (DoI 160 true (constI x) (constI y)) != aluI 160 true x y), 0), (b2i (uB x), 1), (b2i (uB y), 1), (b2i (nW (constI x) && nW (constI y)), 1), (b2i (oneK (DoI 176 true (constI x) (constI y))), 1), (b2i (uB x && uB y), 1), (b2i (oneI (DoI 176 true (constI x) (constI y)) != aluI 176 true x y), 0), (b2i (uB x), 1), (b2i (uB y), 1), (b2i (nW (constI x) && nW (constI y)), 1), (b2i (oneK (DoI 128 true (constI x) (constI y))), 1), (b2i (uB x && uB y), 1), (b2i (oneI (DoI 128 true (constI x) (constI y)) != aluI 128 true x y), 0)]
theorem oneK_const (x : Int) : oneK (constI x) = true := rfl
theorem oneI_const (x : Int) : oneI (constI x) = x := rfl
theorem oneK_tight {x : Int} (hk : tightK (constI x) = true) : oneK (tightI (constI x)) = true := by
  have hk' := hk
  unfold tightK at hk'
  simp only [Bool.and_eq_true] at hk'
  have hb : (N (((tB (constI x).t).1 ^^^ (tB (knownI (tP (constI x)) (tM (constI x)))).1) &&& ~~~(tB (constI x).t).2 &&& ~~~(tB (knownI (tP (constI x)) (tM (constI x)))).2) == 0) = true := hk'.2
  have e : (tightI (constI x)).t = tBothI (constI x).t (knownI (tP (constI x)) (tM (constI x))) := by
    unfold tightI; rw [if_pos hk]
  have e2 : (tightI (constI x)).t.m = 0 := by
    rw [e]
    unfold tBothI tBothV
    rw [if_pos hb]
    show N ((tB (constI x).t).2 &&& _) = 0
    rw [show (tB (constI x).t).2 = 0#64 from rfl, BitVec.zero_and]
    rfl
  unfold oneK
  rw [e2]; rfl
theorem Do_const (op : Int) (x y : BitVec 64) : DoI op true (constI (N x)) (constI (N y)) = constI (aluI op true (N x) (N y)) := by
  obtain ⟨ka, ta⟩ := tight_has' (const_has' x)
  obtain ⟨kb, tb⟩ := tight_has' (const_has' y)
  have oa := oneK_tight ka
  have ob := oneK_tight kb
  unfold DoI
  simp only [ka, kb, oa, ob, Bool.and_self, if_true]
  rw [one_has oa (nW_tight _) ta, one_has ob (nW_tight _) tb]
end Go.Proofs.Ytdlgebfaijlaoaa.Ex
end
section
namespace Go.Proofs.Ytdlgebfaijlaoaa.Ex
open Go Go.RowKit
open Go.Proofs.Ytdlgebfaijlaoaa.Sc (firstV firstOk lastV lastOk)
/-- The first argument of an In by numbers: whether all bits of its number are open. -/
def anyArg (x : List Value) : Option Bool :=
  match x with
  | .agg ⟨[_, _, _, _, _, _, .int _ m, _, _, _, _]⟩ :: _ => some (!(m == 0))
  | _ => none
def klOrc (b z : Bool) : Orc := fun f t x =>
  if Nat.beq f 14 then
    (if Nat.beq t 44 then (match anyArg x with | some true => some (.bool false) | _ => some (.bool b))
     else if Nat.beq t 52 then (match anyArg x with | some true => some (.bool false) | _ => some (.bool true))
     else none)
  else if Nat.beq f 5 then (if Nat.beq t 57 then some (.bool true) else if Nat.beq t 60 then some (.bool z) else if Nat.beq t 67 && !z then some (.bool true) else none)
  else none
def kl11Cs (s0 s1 n : Int) : Cs := [(b2i (uB (IntKind.u64.wrap n)), 1), (b2i (uB (IntKind.u64.wrap n)), 1), (b2i (nW anyN && nW (constI (IntKind.u64.wrap n))), 1), (b2i (uB (IntKind.u64.wrap n)), 1), (b2i (decide ((IntKind.i64.wrap (min2 s0 s1)) > (IntKind.i64.wrap (max2 s0 s1)))), 0), (b2i (nW anyN && nW (constI (IntKind.u64.wrap n))), 1), (b2i (!(nInI anyN (constI (IntKind.u64.wrap n)))), 0), (b2i (decide ((IntKind.i64.wrap (max2 s0 s1)) > (IntKind.i64.wrap (min2 s0 s1)))), 1), (b2i (nW (DoI 80 true anyN (constI (IntKind.u64.wrap n))) && nW (constI (IntKind.u64.wrap n))), 1), (b2i (nInI (DoI 80 true anyN (constI (IntKind.u64.wrap n))) (constI (IntKind.u64.wrap n))), 1), (b2i (n == 0), 1)]
set_option maxHeartbeats 0 in
set_option maxRecDepth 1000000 in
theorem kl11_run (s0 s1 n : Int) (he : (kl11Cs s0 s1 n).map (·.1) = (kl11Cs s0 s1 n).map (·.2)) (w : World) : Calls Try.prog 5 #[.agg ⟨[.int .u16 s0, .int .u16 s1]⟩, .int .u32 n] w fun e w' => e = .returned (.bool true) ∧ Gr w w' :=
  rk hkK_ok (klOrc true true) (cs := kl11Cs s0 s1 n) rfl (by kernel_rfl) (by kernel_rfl) he w
def kl10Cs (s0 s1 n : Int) : Cs := [(b2i (uB (IntKind.u64.wrap n)), 1), (b2i (uB (IntKind.u64.wrap n)), 1), (b2i (nW anyN && nW (constI (IntKind.u64.wrap n))), 1), (b2i (uB (IntKind.u64.wrap n)), 1), (b2i (decide ((IntKind.i64.wrap (min2 s0 s1)) > (IntKind.i64.wrap (max2 s0 s1)))), 0), (b2i (nW anyN && nW (constI (IntKind.u64.wrap n))), 1), (b2i (!(nInI anyN (constI (IntKind.u64.wrap n)))), 0), (b2i (decide ((IntKind.i64.wrap (max2 s0 s1)) > (IntKind.i64.wrap (min2 s0 s1)))), 1), (b2i (nW (DoI 80 true anyN (constI (IntKind.u64.wrap n))) && nW (constI (IntKind.u64.wrap n))), 1), (b2i (nInI (DoI 80 true anyN (constI (IntKind.u64.wrap n))) (constI (IntKind.u64.wrap n))), 1), (b2i (n == 0), 0), (b2i (nW (constI (IntKind.u64.wrap n)) && nW (DoI 80 true anyN (constI (IntKind.u64.wrap n)))), 1), (b2i (!(nInI (constI (IntKind.u64.wrap n)) (DoI 80 true anyN (constI (IntKind.u64.wrap n))))), 1)]
set_option maxHeartbeats 0 in
set_option maxRecDepth 1000000 in
theorem kl10_run (s0 s1 n : Int) (he : (kl10Cs s0 s1 n).map (·.1) = (kl10Cs s0 s1 n).map (·.2)) (w : World) : Calls Try.prog 5 #[.agg ⟨[.int .u16 s0, .int .u16 s1]⟩, .int .u32 n] w fun e w' => e = .returned (.bool true) ∧ Gr w w' :=
  rk hkK_ok (klOrc true false) (cs := kl10Cs s0 s1 n) rfl (by kernel_rfl) (by kernel_rfl) he w
def kl01Cs (s0 s1 n : Int) : Cs := [(b2i (uB (IntKind.u64.wrap n)), 1), (b2i (uB (IntKind.u64.wrap n)), 1), (b2i (nW anyN && nW (constI (IntKind.u64.wrap n))), 1), (b2i (uB (IntKind.u64.wrap n)), 1), (b2i (decide ((IntKind.i64.wrap (min2 s0 s1)) > (IntKind.i64.wrap (max2 s0 s1)))), 0), (b2i (nW anyN && nW (constI (IntKind.u64.wrap n))), 1), (b2i (!(nInI anyN (constI (IntKind.u64.wrap n)))), 0), (b2i (decide ((IntKind.i64.wrap (max2 s0 s1)) > (IntKind.i64.wrap (min2 s0 s1)))), 0), (b2i (nW (constI (IntKind.u64.wrap n)) && nW anyN), 1), (b2i (!(nInI (constI (IntKind.u64.wrap n)) anyN)), 1), (b2i (nW (DoI 80 true anyN (constI (IntKind.u64.wrap n))) && nW (constI (IntKind.u64.wrap n))), 1), (b2i (nInI (DoI 80 true anyN (constI (IntKind.u64.wrap n))) (constI (IntKind.u64.wrap n))), 1), (b2i (n == 0), 1)]
set_option maxHeartbeats 0 in
set_option maxRecDepth 1000000 in
theorem kl01_run (s0 s1 n : Int) (he : (kl01Cs s0 s1 n).map (·.1) = (kl01Cs s0 s1 n).map (·.2)) (w : World) : Calls Try.prog 5 #[.agg ⟨[.int .u16 s0, .int .u16 s1]⟩, .int .u32 n] w fun e w' => e = .returned (.bool true) ∧ Gr w w' :=
  rk hkK_ok (klOrc false true) (cs := kl01Cs s0 s1 n) rfl (by kernel_rfl) (by kernel_rfl) he w
def kl00Cs (s0 s1 n : Int) : Cs := [(b2i (uB (IntKind.u64.wrap n)), 1), (b2i (uB (IntKind.u64.wrap n)), 1), (b2i (nW anyN && nW (constI (IntKind.u64.wrap n))), 1), (b2i (uB (IntKind.u64.wrap n)), 1), (b2i (decide ((IntKind.i64.wrap (min2 s0 s1)) > (IntKind.i64.wrap (max2 s0 s1)))), 0), (b2i (nW anyN && nW (constI (IntKind.u64.wrap n))), 1), (b2i (!(nInI anyN (constI (IntKind.u64.wrap n)))), 0), (b2i (decide ((IntKind.i64.wrap (max2 s0 s1)) > (IntKind.i64.wrap (min2 s0 s1)))), 0), (b2i (nW (constI (IntKind.u64.wrap n)) && nW anyN), 1), (b2i (!(nInI (constI (IntKind.u64.wrap n)) anyN)), 1), (b2i (nW (DoI 80 true anyN (constI (IntKind.u64.wrap n))) && nW (constI (IntKind.u64.wrap n))), 1), (b2i (nInI (DoI 80 true anyN (constI (IntKind.u64.wrap n))) (constI (IntKind.u64.wrap n))), 1), (b2i (n == 0), 0), (b2i (nW (constI (IntKind.u64.wrap n)) && nW (DoI 80 true anyN (constI (IntKind.u64.wrap n)))), 1), (b2i (!(nInI (constI (IntKind.u64.wrap n)) (DoI 80 true anyN (constI (IntKind.u64.wrap n))))), 1)]
set_option maxHeartbeats 0 in
set_option maxRecDepth 1000000 in
theorem kl00_run (s0 s1 n : Int) (he : (kl00Cs s0 s1 n).map (·.1) = (kl00Cs s0 s1 n).map (·.2)) (w : World) : Calls Try.prog 5 #[.agg ⟨[.int .u16 s0, .int .u16 s1]⟩, .int .u32 n] w fun e w' => e = .returned (.bool true) ∧ Gr w w' :=
  rk hkK_ok (klOrc false false) (cs := kl00Cs s0 s1 n) rfl (by kernel_rfl) (by kernel_rfl) he w
theorem wrap_small {x : Int} (h : 0 ≤ x) (h2 : x < 65536) : IntKind.i64.wrap x = x := by
  have e : x % 18446744073709551616 = x := Int.emod_eq_of_lt h (by omega)
  have f : decide (x % 18446744073709551616 ≥ 9223372036854775808) = false := decide_eq_false (by omega)
  show (if (true && decide (x % 18446744073709551616 ≥ 9223372036854775808)) = true then x % 18446744073709551616 - 18446744073709551616 else x % 18446744073709551616) = x
  rw [f, e]; rfl
theorem wrap_32 {x : Int} (h : 0 ≤ x) (h2 : x < 4294967296) : IntKind.u64.wrap x = x := by
  have e : x % 18446744073709551616 = x := Int.emod_eq_of_lt h (by omega)
  show (if (false && decide (x % 18446744073709551616 ≥ 9223372036854775808)) = true then x % 18446744073709551616 - 18446744073709551616 else x % 18446744073709551616) = x
  rw [e]; rfl
theorem kl_law (s0 s1 n : Int) (w0 : (Lit.int .u16 s0).wf = true) (w1 : (Lit.int .u16 s1).wf = true) (w2 : (Lit.int .u32 n).wf = true) (w : World) : Calls Try.prog 5 #[.agg ⟨[.int .u16 s0, .int .u16 s1]⟩, .int .u32 n] w fun e w' => e = .returned (.bool true) ∧ Gr w w' := by
  have q0 := bounds_u16 w0
  have q1 := bounds_u16 w1
  have q2 := bounds_u32 w2
  have hn : IntKind.u64.wrap n = n := wrap_32 q2.1 (by have := q2.2; omega)
  obtain ⟨v, hv⟩ : ∃ v : BitVec 64, n = N v := uB_eq (decide_eq_true ⟨q2.1, by have := q2.2; omega⟩)
  have hlo : IntKind.i64.wrap (min2 s0 s1) = min2 s0 s1 := wrap_small (by unfold min2; split <;> omega) (by unfold min2; split <;> omega)
  have hhi : IntKind.i64.wrap (max2 s0 s1) = max2 s0 s1 := wrap_small (by unfold max2; split <;> omega) (by unfold max2; split <;> omega)
  have hle : min2 s0 s1 ≤ max2 s0 s1 := by unfold min2 max2; split <;> split <;> omega
  have f1 : uB (IntKind.u64.wrap n) = true := u64_uB _
  have f2 : (nW anyN && nW (constI (IntKind.u64.wrap n))) = true := by rw [nW_const f1]; rfl
  have f3 : decide (IntKind.i64.wrap (min2 s0 s1) > IntKind.i64.wrap (max2 s0 s1)) = false := by rw [hlo, hhi]; exact decide_eq_false (by omega)
  have f4 : (!(nInI anyN (constI (IntKind.u64.wrap n)))) = false := by rw [hn, hv, const_in (any_has' v)]; rfl
  have f5 : (nW (constI (IntKind.u64.wrap n)) && nW anyN) = true := by rw [nW_const f1]; rfl
  have alone : ∀ {x : BitVec 64}, HasN (constI (N v)) x → N x = N v := fun {x} h => by
    have e := one_has (oneK_const (N v)) (nW_const (uB_N v)) h
    rw [oneI_const] at e
    exact e.symm
  have f6 : (!(nInI (constI (IntKind.u64.wrap n)) anyN)) = true := by
    rw [hn, hv]
    cases h : nInI (constI (N v)) anyN with
    | false => rfl
    | true =>
      have a := alone (in_has h (any_has' 0#64))
      have b := alone (in_has h (any_has' 1#64))
      rw [← a] at b
      exact absurd b (by decide)
  have hd : ∀ x : BitVec 64, HasN (DoI 80 true anyN (constI (N v))) (x &&& v) := fun x => by
    have h := Do_has (op := 80) (wide := true) (any_has' x) (const_has' v)
    have e : aluS 80 true x v = x &&& v := rfl
    rwa [e] at h
  have f7 : (nW (DoI 80 true anyN (constI (IntKind.u64.wrap n))) && nW (constI (IntKind.u64.wrap n))) = true := by rw [nW_Do, nW_const f1]; rfl
  have f8 : nInI (DoI 80 true anyN (constI (IntKind.u64.wrap n))) (constI (IntKind.u64.wrap n)) = true := by
    rw [hn, hv]
    have h := hd v
    rw [BitVec.and_self] at h
    exact const_in h
  have f9 : (nW (constI (IntKind.u64.wrap n)) && nW (DoI 80 true anyN (constI (IntKind.u64.wrap n)))) = true := by rw [nW_Do, nW_const f1]; rfl
  cases hz : (n == 0) with
  | true =>
    cases hb : decide (IntKind.i64.wrap (max2 s0 s1) > IntKind.i64.wrap (min2 s0 s1)) with
    | true => exact kl11_run s0 s1 n (csT f1 (csT f1 (csT f2 (csT f1 (csF f3 (csT f2 (csF f4 (csT hb (csT f7 (csT f8 (csT hz csN))))))))))) w
    | false => exact kl01_run s0 s1 n (csT f1 (csT f1 (csT f2 (csT f1 (csF f3 (csT f2 (csF f4 (csF hb (csT f5 (csT f6 (csT f7 (csT f8 (csT hz csN))))))))))))) w
  | false =>
    have f10 : (!(nInI (constI (IntKind.u64.wrap n)) (DoI 80 true anyN (constI (IntKind.u64.wrap n))))) = true := by
      rw [hn, hv]
      cases h : nInI (constI (N v)) (DoI 80 true anyN (constI (N v))) with
      | false => rfl
      | true =>
        have g := hd 0#64
        rw [BitVec.zero_and] at g
        have a := alone (in_has h g)
        rw [hv, ← a] at hz
        exact absurd hz (by decide)
    cases hb : decide (IntKind.i64.wrap (max2 s0 s1) > IntKind.i64.wrap (min2 s0 s1)) with
    | true => exact kl10_run s0 s1 n (csT f1 (csT f1 (csT f2 (csT f1 (csF f3 (csT f2 (csF f4 (csT hb (csT f7 (csT f8 (csF hz (csT f9 (csT f10 csN))))))))))))) w
    | false => exact kl00_run s0 s1 n (csT f1 (csT f1 (csT f2 (csT f1 (csF f3 (csT f2 (csF f4 (csF hb (csT f5 (csT f6 (csT f7 (csT f8 (csF hz (csT f9 (csT f10 csN))))))))))))))) w
end Go.Proofs.Ytdlgebfaijlaoaa.Ex
end
section
namespace Go.Proofs.Ytdlgebfaijlaoaa.Ex
open Go Go.RowKit Go.WideShapes Go.ChangeShapes

theorem gr_frame {W W' : World} (h : Gr W W') (may : MemPlace → Prop) : W.keptBut W' may := by
  refine ⟨h.1.1, h.1.2, fun i hi => ?_⟩
  rw [h.2.1 i hi]
  split <;> simp_all
section
variable {H : Type} {enc : TypeId × Value → H} {P : Program}
theorem post_of_gr {f : Func} {s : ChangeSpec} {apart fresh handsOn again : Bool} {W W' : World} {args : Array Value} {v : Value} {ds gs : List (DataW H)} {before pa pv : List MemPlace}
    (hW : DataW.Whole enc P f.params.toList s.vars apart W args.toList ds gs before)
    (hres : ∀ (b : Nat) (sp : Nat → Bool) (hd : Bool), DataW.TrodAll enc P W' b sp hd f.resultTypes.toList (v.resultList f.resultTypes.size) (s.fn H (ds ++ gs)).results [])
    (hargs : ∀ sp : Nat → Bool, (∀ p ∈ before, sp p.block = true) → DataW.TrodAll enc P W' 0 sp true f.params.toList args.toList (s.fn H (ds ++ gs)).args pa)
    (hvars : ∀ sp : Nat → Bool, (∀ p ∈ before, sp p.block = true) → DataW.TrodVars enc P W' sp s.vars (s.fn H (ds ++ gs)).vars pv)
    (hps : before = pa ++ pv) (hg : Gr W W')
    (hok : ∀ (j : Nat) (t : TypeId) (r : Value), f.resultTypes[j]? = some t → (v.resultList f.resultTypes.size)[j]? = some r → Value.okWide P W' .any 0 t r) :
    s.post enc P f apart fresh handsOn again W args v W' := by
  have hlt : ∀ p ∈ before, p.block < W.heap.size := fun p hp => hW.lt p hp
  have hold : ∀ p ∈ before, (fun b => decide (b < W.heap.size)) p.block = true := fun p hp => by simpa using hlt p hp
  refine ⟨ds, gs, before, [], pa, pv, hW, hres _ _ _, hargs _ hold, hvars _ hold, World.keptBut_mono (fun p hp => ⟨hp, ?_⟩) (gr_frame hg (· ∈ before)), fun _ => ?_⟩
  · rw [hps, List.mem_append] at hp
    exact Or.inr hp
  · obtain ⟨_, _, _, _, _, hz, hn⟩ := hW
    refine ⟨hok, _, _, ([] ++ pa) ++ pv, ⟨[] ++ pa, pv, trodAll_append (hargs _ (fun _ _ => rfl)) (hres _ _ _), hvars _ (fun _ _ => rfl), rfl, ?_, ?_⟩, ?_⟩
    · intro b off hp
      have hin : MemPlace.cell b off ∈ before := by rw [hps]; simpa using hp
      rw [gr_frozen hg (hlt _ hin)]
      exact hz b off hin
    · intro ha
      have := hn ha
      rw [hps] at this
      simpa using this
    · intro p hp _
      rw [hps]
      simpa using hp
end
end Go.Proofs.Ytdlgebfaijlaoaa.Ex
end
