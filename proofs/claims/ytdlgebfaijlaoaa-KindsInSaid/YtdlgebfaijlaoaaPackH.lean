/-
  Lemmas for the laws of this seat, part H: Law17d, Law18g.
-/
import Derived.Test.YtdlgebfaijlaoaaPackE
section
namespace Go.Proofs.Ytdlgebfaijlaoaa.Ex
open Go Go.RowKit
open Go.Proofs.Ytdlgebfaijlaoaa.Sc (firstV firstOk lastV lastOk)
open Go.Proofs.Ytdlgebfaijlaoaa.Spn (Sp okS tightS SHas SIn SValid two_forms tight_has tight_in tight_cases plus_in minus_in empty_iff plusS minusS emptyS)
def stnCs (v a0 a1 a2 a3 a4 : Int) (n : Int) : Cs := [(b2i (nW (madeI v a0 a1 a2 a3 a4)), 1), (b2i (uB v), 1), (b2i (decide (n < 0)), 1), (b2i (decide (n ≥ 0)), 0), (b2i (tightK (madeI v a0 a1 a2 a3 a4)), 1), (b2i (nW (tightI (madeI v a0 a1 a2 a3 a4)) && uB v), 1), (b2i (rHasI (tightI (madeI v a0 a1 a2 a3 a4)) v), 1), (b2i (nW (madeI v a0 a1 a2 a3 a4) && nW (tightI (madeI v a0 a1 a2 a3 a4))), 1), (b2i (nInI (madeI v a0 a1 a2 a3 a4) (tightI (madeI v a0 a1 a2 a3 a4))), 1), (b2i (nW (madeI v a0 a1 a2 a3 a4) && uB v), 1), (b2i (nHasI (madeI v a0 a1 a2 a3 a4) v), 1), (b2i (oneI (constI v) == v), 1), (b2i (nW anyN && uB v), 1), (b2i (rHasI anyN v), 1), (b2i (nW anyN && uB v), 1), (b2i (rHasI anyN v), 1), (b2i (nW anyN && uB v), 1), (b2i ((v == v) == rHasI anyN v), 1)]
def stbCs (v a0 a1 a2 a3 a4 : Int) (n : Int) : Cs := [(b2i (nW (madeI v a0 a1 a2 a3 a4)), 1), (b2i (uB v), 1), (b2i (decide (n < 0)), 0), (b2i (decide (n ≥ 8)), 1), (b2i (decide (n ≥ 0)), 1), (b2i (decide (n < 8)), 0), (b2i (tightK (madeI v a0 a1 a2 a3 a4)), 1), (b2i (nW (tightI (madeI v a0 a1 a2 a3 a4)) && uB v), 1), (b2i (rHasI (tightI (madeI v a0 a1 a2 a3 a4)) v), 1), (b2i (nW (madeI v a0 a1 a2 a3 a4) && nW (tightI (madeI v a0 a1 a2 a3 a4))), 1), (b2i (nInI (madeI v a0 a1 a2 a3 a4) (tightI (madeI v a0 a1 a2 a3 a4))), 1), (b2i (nW (madeI v a0 a1 a2 a3 a4) && uB v), 1), (b2i (nHasI (madeI v a0 a1 a2 a3 a4) v), 1), (b2i (oneI (constI v) == v), 1), (b2i (nW anyN && uB v), 1), (b2i (rHasI anyN v), 1), (b2i (nW anyN && uB v), 1), (b2i (rHasI anyN v), 1), (b2i (nW anyN && uB v), 1), (b2i ((v == v) == rHasI anyN v), 1)]
def st0Cs (v a0 a1 a2 a3 a4 : Int) : Cs := [(b2i (nW (madeI v a0 a1 a2 a3 a4)), 1), (b2i (uB v), 1), (b2i (uB 0), 1), (b2i (tightK (madeI v a0 a1 a2 a3 a4)), 1), (b2i (nW (tightI (madeI v a0 a1 a2 a3 a4)) && uB v), 1), (b2i (rHasI (tightI (madeI v a0 a1 a2 a3 a4)) v), 1), (b2i (nW (madeI v a0 a1 a2 a3 a4) && nW (tightI (madeI v a0 a1 a2 a3 a4))), 1), (b2i (nInI (madeI v a0 a1 a2 a3 a4) (tightI (madeI v a0 a1 a2 a3 a4))), 1), (b2i (nW (madeI v a0 a1 a2 a3 a4) && uB v), 1), (b2i (nHasI (madeI v a0 a1 a2 a3 a4) v), 1), (b2i (oneI (constI v) == v), 1), (b2i (nW (uptoI 0) && uB (andI v 0)), 1), (b2i (rHasI (uptoI 0) (andI v 0)), 1), (b2i (nW anyN && uB v), 1), (b2i (rHasI anyN v), 1), (b2i (nW (uptoI 0) && uB v), 1), (b2i (((andI v 0) == v) == rHasI (uptoI 0) v), 1)]
def st1Cs (v a0 a1 a2 a3 a4 : Int) : Cs := [(b2i (nW (madeI v a0 a1 a2 a3 a4)), 1), (b2i (uB v), 1), (b2i (uB 255), 1), (b2i (tightK (madeI v a0 a1 a2 a3 a4)), 1), (b2i (nW (tightI (madeI v a0 a1 a2 a3 a4)) && uB v), 1), (b2i (rHasI (tightI (madeI v a0 a1 a2 a3 a4)) v), 1), (b2i (nW (madeI v a0 a1 a2 a3 a4) && nW (tightI (madeI v a0 a1 a2 a3 a4))), 1), (b2i (nInI (madeI v a0 a1 a2 a3 a4) (tightI (madeI v a0 a1 a2 a3 a4))), 1), (b2i (nW (madeI v a0 a1 a2 a3 a4) && uB v), 1), (b2i (nHasI (madeI v a0 a1 a2 a3 a4) v), 1), (b2i (oneI (constI v) == v), 1), (b2i (nW (uptoI 255) && uB (andI v 255)), 1), (b2i (rHasI (uptoI 255) (andI v 255)), 1), (b2i (nW anyN && uB v), 1), (b2i (rHasI anyN v), 1), (b2i (nW (uptoI 255) && uB v), 1), (b2i (((andI v 255) == v) == rHasI (uptoI 255) v), 1)]
def st2Cs (v a0 a1 a2 a3 a4 : Int) : Cs := [(b2i (nW (madeI v a0 a1 a2 a3 a4)), 1), (b2i (uB v), 1), (b2i (uB 65535), 1), (b2i (tightK (madeI v a0 a1 a2 a3 a4)), 1), (b2i (nW (tightI (madeI v a0 a1 a2 a3 a4)) && uB v), 1), (b2i (rHasI (tightI (madeI v a0 a1 a2 a3 a4)) v), 1), (b2i (nW (madeI v a0 a1 a2 a3 a4) && nW (tightI (madeI v a0 a1 a2 a3 a4))), 1), (b2i (nInI (madeI v a0 a1 a2 a3 a4) (tightI (madeI v a0 a1 a2 a3 a4))), 1), (b2i (nW (madeI v a0 a1 a2 a3 a4) && uB v), 1), (b2i (nHasI (madeI v a0 a1 a2 a3 a4) v), 1), (b2i (oneI (constI v) == v), 1), (b2i (nW (uptoI 65535) && uB (andI v 65535)), 1), (b2i (rHasI (uptoI 65535) (andI v 65535)), 1), (b2i (nW anyN && uB v), 1), (b2i (rHasI anyN v), 1), (b2i (nW (uptoI 65535) && uB v), 1), (b2i (((andI v 65535) == v) == rHasI (uptoI 65535) v), 1)]
def st3Cs (v a0 a1 a2 a3 a4 : Int) : Cs := [(b2i (nW (madeI v a0 a1 a2 a3 a4)), 1), (b2i (uB v), 1), (b2i (uB 16777215), 1), (b2i (tightK (madeI v a0 a1 a2 a3 a4)), 1), (b2i (nW (tightI (madeI v a0 a1 a2 a3 a4)) && uB v), 1), (b2i (rHasI (tightI (madeI v a0 a1 a2 a3 a4)) v), 1), (b2i (nW (madeI v a0 a1 a2 a3 a4) && nW (tightI (madeI v a0 a1 a2 a3 a4))), 1), (b2i (nInI (madeI v a0 a1 a2 a3 a4) (tightI (madeI v a0 a1 a2 a3 a4))), 1), (b2i (nW (madeI v a0 a1 a2 a3 a4) && uB v), 1), (b2i (nHasI (madeI v a0 a1 a2 a3 a4) v), 1), (b2i (oneI (constI v) == v), 1), (b2i (nW (uptoI 16777215) && uB (andI v 16777215)), 1), (b2i (rHasI (uptoI 16777215) (andI v 16777215)), 1), (b2i (nW anyN && uB v), 1), (b2i (rHasI anyN v), 1), (b2i (nW (uptoI 16777215) && uB v), 1), (b2i (((andI v 16777215) == v) == rHasI (uptoI 16777215) v), 1)]
def st4Cs (v a0 a1 a2 a3 a4 : Int) : Cs := [(b2i (nW (madeI v a0 a1 a2 a3 a4)), 1), (b2i (uB v), 1), (b2i (uB 4294967295), 1), (b2i (tightK (madeI v a0 a1 a2 a3 a4)), 1), (b2i (nW (tightI (madeI v a0 a1 a2 a3 a4)) && uB v), 1), (b2i (rHasI (tightI (madeI v a0 a1 a2 a3 a4)) v), 1), (b2i (nW (madeI v a0 a1 a2 a3 a4) && nW (tightI (madeI v a0 a1 a2 a3 a4))), 1), (b2i (nInI (madeI v a0 a1 a2 a3 a4) (tightI (madeI v a0 a1 a2 a3 a4))), 1), (b2i (nW (madeI v a0 a1 a2 a3 a4) && uB v), 1), (b2i (nHasI (madeI v a0 a1 a2 a3 a4) v), 1), (b2i (oneI (constI v) == v), 1), (b2i (nW (uptoI 4294967295) && uB (andI v 4294967295)), 1), (b2i (rHasI (uptoI 4294967295) (andI v 4294967295)), 1), (b2i (nW anyN && uB v), 1), (b2i (rHasI anyN v), 1), (b2i (nW (uptoI 4294967295) && uB v), 1), (b2i (((andI v 4294967295) == v) == rHasI (uptoI 4294967295) v), 1)]
def st5Cs (v a0 a1 a2 a3 a4 : Int) : Cs := [(b2i (nW (madeI v a0 a1 a2 a3 a4)), 1), (b2i (uB v), 1), (b2i (uB 1099511627775), 1), (b2i (tightK (madeI v a0 a1 a2 a3 a4)), 1), (b2i (nW (tightI (madeI v a0 a1 a2 a3 a4)) && uB v), 1), (b2i (rHasI (tightI (madeI v a0 a1 a2 a3 a4)) v), 1), (b2i (nW (madeI v a0 a1 a2 a3 a4) && nW (tightI (madeI v a0 a1 a2 a3 a4))), 1), (b2i (nInI (madeI v a0 a1 a2 a3 a4) (tightI (madeI v a0 a1 a2 a3 a4))), 1), (b2i (nW (madeI v a0 a1 a2 a3 a4) && uB v), 1), (b2i (nHasI (madeI v a0 a1 a2 a3 a4) v), 1), (b2i (oneI (constI v) == v), 1), (b2i (nW (uptoI 1099511627775) && uB (andI v 1099511627775)), 1), (b2i (rHasI (uptoI 1099511627775) (andI v 1099511627775)), 1), (b2i (nW anyN && uB v), 1), (b2i (rHasI anyN v), 1), (b2i (nW (uptoI 1099511627775) && uB v), 1), (b2i (((andI v 1099511627775) == v) == rHasI (uptoI 1099511627775) v), 1)]
def st6Cs (v a0 a1 a2 a3 a4 : Int) : Cs := [(b2i (nW (madeI v a0 a1 a2 a3 a4)), 1), (b2i (uB v), 1), (b2i (uB 281474976710655), 1), (b2i (tightK (madeI v a0 a1 a2 a3 a4)), 1), (b2i (nW (tightI (madeI v a0 a1 a2 a3 a4)) && uB v), 1), (b2i (rHasI (tightI (madeI v a0 a1 a2 a3 a4)) v), 1), (b2i (nW (madeI v a0 a1 a2 a3 a4) && nW (tightI (madeI v a0 a1 a2 a3 a4))), 1), (b2i (nInI (madeI v a0 a1 a2 a3 a4) (tightI (madeI v a0 a1 a2 a3 a4))), 1), (b2i (nW (madeI v a0 a1 a2 a3 a4) && uB v), 1), (b2i (nHasI (madeI v a0 a1 a2 a3 a4) v), 1), (b2i (oneI (constI v) == v), 1), (b2i (nW (uptoI 281474976710655) && uB (andI v 281474976710655)), 1), (b2i (rHasI (uptoI 281474976710655) (andI v 281474976710655)), 1), (b2i (nW anyN && uB v), 1), (b2i (rHasI anyN v), 1), (b2i (nW (uptoI 281474976710655) && uB v), 1), (b2i (((andI v 281474976710655) == v) == rHasI (uptoI 281474976710655) v), 1)]
def st7Cs (v a0 a1 a2 a3 a4 : Int) : Cs := [(b2i (nW (madeI v a0 a1 a2 a3 a4)), 1), (b2i (uB v), 1), (b2i (uB 72057594037927935), 1), (b2i (tightK (madeI v a0 a1 a2 a3 a4)), 1), (b2i (nW (tightI (madeI v a0 a1 a2 a3 a4)) && uB v), 1), (b2i (rHasI (tightI (madeI v a0 a1 a2 a3 a4)) v), 1), (b2i (nW (madeI v a0 a1 a2 a3 a4) && nW (tightI (madeI v a0 a1 a2 a3 a4))), 1), (b2i (nInI (madeI v a0 a1 a2 a3 a4) (tightI (madeI v a0 a1 a2 a3 a4))), 1), (b2i (nW (madeI v a0 a1 a2 a3 a4) && uB v), 1), (b2i (nHasI (madeI v a0 a1 a2 a3 a4) v), 1), (b2i (oneI (constI v) == v), 1), (b2i (nW (uptoI 72057594037927935) && uB (andI v 72057594037927935)), 1), (b2i (rHasI (uptoI 72057594037927935) (andI v 72057594037927935)), 1), (b2i (nW anyN && uB v), 1), (b2i (rHasI anyN v), 1), (b2i (nW (uptoI 72057594037927935) && uB v), 1), (b2i (((andI v 72057594037927935) == v) == rHasI (uptoI 72057594037927935) v), 1)]
theorem okT_known (p m : RI) : okT (tB (knownI p m)).1 (tB (knownI p m)).2 := by
  unfold knownI
  split
  · split
    · rw [tEitherI, tB_tN]; exact ok_of _ _
    · rw [tRangeI, tB_tN]; exact ok_of _ _
  · rw [tRangeI, tB_tN]; exact ok_of _ _
theorem both_in {a k : TI} (ha : okT (tB a).1 (tB a).2) (hk : okT (tB k).1 (tB k).2) (hb : tBothKI a k = true) : tInI a (tBothI a k) = true := by
  have hb' : (N (((tB a).1 ^^^ (tB k).1) &&& ~~~(tB a).2 &&& ~~~(tB k).2) == 0) = true := hb
  have hz : ((tB a).1 ^^^ (tB k).1) &&& ~~~(tB a).2 &&& ~~~(tB k).2 = 0#64 := (N_zero_iff' _).1 (by simpa using hb')
  unfold tInI tBothI
  rw [tB_tN]
  unfold tBothV
  rw [if_pos hb']
  rw [okT_iff] at ha hk
  have e1 : (tOf ((tB a).1 ||| (tB k).1) ((tB a).2 &&& (tB k).2)).2 &&& ~~~(tB a).2 = 0#64 := by
    apply BitVec.eq_of_getLsbD_eq
    intro i hi
    simp only [tOf, BitVec.getLsbD_and, BitVec.getLsbD_not, hi, decide_true, Bool.true_and, BitVec.getLsbD_zero]
    cases (tB a).2.getLsbD i <;> cases (tB k).2.getLsbD i <;> rfl
  have e2 : (tOf ((tB a).1 ||| (tB k).1) ((tB a).2 &&& (tB k).2)).1 &&& ~~~(tB a).2 = (tB a).1 := by
    apply BitVec.eq_of_getLsbD_eq
    intro i hi
    have q1 := ha i hi
    have q2 := hk i hi
    have q3 := congrArg (fun z : BitVec 64 => z.getLsbD i) hz
    simp only [BitVec.getLsbD_and, BitVec.getLsbD_xor, BitVec.getLsbD_not, hi, decide_true, Bool.true_and, BitVec.getLsbD_zero] at q3
    simp only [tOf, BitVec.getLsbD_and, BitVec.getLsbD_or, BitVec.getLsbD_not, hi, decide_true, Bool.true_and]
    revert q1 q2 q3
    cases (tB a).1.getLsbD i <;> cases (tB a).2.getLsbD i <;> cases (tB k).1.getLsbD i <;> cases (tB k).2.getLsbD i <;> decide
  rw [e1, e2]
  simp [show N (0#64) = 0 from rfl]
theorem halves_in {X : Sp} (hk : okS X = true) :
    ((halvesI (sN (tightS X))).1.ok = true → N (tightS X).lo ≤ N (B (halvesI (sN (tightS X))).1.lo) ∧ N (B (halvesI (sN (tightS X))).1.hi) ≤ N (tightS X).hi ∧ Z (tightS X).slo ≤ N (B (halvesI (sN (tightS X))).1.lo) ∧ N (B (halvesI (sN (tightS X))).1.hi) ≤ Z (tightS X).shi) ∧
    ((halvesI (sN (tightS X))).2.ok = true → N (tightS X).lo ≤ N (B (halvesI (sN (tightS X))).2.lo) ∧ N (B (halvesI (sN (tightS X))).2.hi) ≤ N (tightS X).hi ∧ Z (tightS X).slo ≤ N (B (halvesI (sN (tightS X))).2.lo) - 18446744073709551616 ∧ N (B (halvesI (sN (tightS X))).2.hi) - 18446744073709551616 ≤ Z (tightS X).shi) := by
  have ep := empty_iff (plusS X)
  have em := empty_iff (minusS X)
  have fp1 := two_forms (plusS X).1
  have fp2 := two_forms (plusS X).2
  have fm1 := two_forms (minusS X).1
  have fm2 := two_forms (minusS X).2
  have ip := @plus_in X
  have im := @minus_in X
  rcases tight_cases X with ⟨ho, h1, h2⟩ | ⟨ho, h1, h2, e⟩ | ⟨ho, h1, h2, e⟩ | ⟨ho, h1, h2, e⟩
  · rw [hk] at ho; cases ho
  all_goals
    simp only [h1, h2, Bool.true_eq_false, Bool.false_eq_true, false_and, or_false, false_or, true_and] at ep em
    rw [e]
    unfold halvesI sN
    simp only
    split
    · rename_i n1
      simp only [decide_eq_true_eq] at n1
      refine ⟨(fun _ => ?_), (fun h => by cases h)⟩
      simp only [BN]
      first
        | (have ip' := ip ep; have im' := im em; clear ip im; omega)
        | (have ip' := ip ep; clear ip im; omega)
        | (have im' := im em; clear ip im; omega)
    · rename_i n1
      simp only [decide_eq_true_eq] at n1
      split
      · rename_i n2
        simp only [decide_eq_true_eq] at n2
        refine ⟨(fun h => by cases h), (fun _ => ?_)⟩
        simp only [BN]
        first
          | (have ip' := ip ep; have im' := im em; clear ip im; omega)
          | (have ip' := ip ep; clear ip im; omega)
          | (have im' := im em; clear ip im; omega)
      · rename_i n2
        simp only [decide_eq_true_eq] at n2
        refine ⟨(fun _ => ?_), (fun _ => ?_)⟩ <;> simp only [B_u64, BZ, BN] <;>
        first
          | (have ip' := ip ep; have im' := im em; clear ip im; omega)
          | (have ip' := ip ep; clear ip im; omega)
          | (have im' := im em; clear ip im; omega)
theorem tight_sIn {a : NI} (hk : tightK a = true) : sInI a.s (tightI a).s = true := by
  have hk' := hk
  unfold tightK at hk'
  simp only [Bool.and_eq_true] at hk'
  have k1 : okS (sB a.s) = true := hk'.1.1
  have hok := hk'.1.2
  obtain ⟨_, i1, i2, i3, i4⟩ := tight_in k1
  have j1 : N (B a.s.lo) ≤ N (tightS (sB a.s)).lo := i1
  have j2 : N (tightS (sB a.s)).hi ≤ N (B a.s.hi) := i2
  have j3 : Z (B a.s.slo) ≤ Z (tightS (sB a.s)).slo := i3
  have j4 : Z (tightS (sB a.s)).shi ≤ Z (B a.s.shi) := i4
  clear i1 i2 i3 i4
  obtain ⟨g1, g2⟩ := halves_in k1
  have hpm := halves_parts k1
  have eS : sTightI a.s = sN (tightS (sB a.s)) := rfl
  rw [← eS] at g1 g2 hpm
  have hp : PlusR (tP a) := plus_among hpm.1
  have hm : MinusR (tM a) := minus_among hpm.2
  have ap : (tP a).ok = true → _ := fun h => among_in (r := (halvesI (sTightI a.s)).1) (t := a.t) h
  have am : (tM a).ok = true → _ := fun h => among_in (r := (halvesI (sTightI a.s)).2) (t := a.t) h
  have e : (tightI a).s = hullI (tP a) (tM a) := by unfold tightI; rw [if_pos hk]
  rw [e]
  show inB (sB a.s) (sB (hullI (tP a) (tM a))) = true
  rw [inB_iff]
  have z1 := two_forms (B (tP a).lo)
  have z2 := two_forms (B (tP a).hi)
  have z3 := two_forms (B (tM a).lo)
  have z4 := two_forms (B (tM a).hi)
  have eP : tP a = amongI (halvesI (sTightI a.s)).1 a.t := rfl
  have eM : tM a = amongI (halvesI (sTightI a.s)).2 a.t := rfl
  rw [← eP] at ap
  rw [← eM] at am
  generalize tP a = P at *
  generalize tM a = M at *
  unfold hullI
  cases km : M.ok with
  | false =>
    have kp : P.ok = true := by rw [km] at hok; simpa using hok
    obtain ⟨q0, q1, q2, q3⟩ := ap kp
    obtain ⟨r1, r2, r3, r4⟩ := g1 q0
    have hp' := hp kp
    simp only [Bool.false_eq_true, if_false]
    unfold SIn
    simp only [sB, B_i64]
    omega
  | true =>
    obtain ⟨s0, s1, s2, s3⟩ := am km
    obtain ⟨t1, t2, t3, t4⟩ := g2 s0
    have hm' := hm km
    simp only [if_true]
    cases kp : P.ok with
    | false =>
      simp only [Bool.false_eq_true, if_false]
      unfold SIn
      simp only [sB, B_i64]
      omega
    | true =>
      obtain ⟨q0, q1, q2, q3⟩ := ap kp
      obtain ⟨r1, r2, r3, r4⟩ := g1 q0
      have hp' := hp kp
      simp only [if_true]
      unfold SIn
      simp only [sB, B_i64]
      omega
theorem tight_nIn {a : NI} (ha : OkN a) (hk : tightK a = true) : nInI a (tightI a) = true := by
  unfold nInI
  rw [tight_sIn hk, Bool.and_true]
  have e : (tightI a).t = tBothI a.t (knownI (tP a) (tM a)) := by unfold tightI; rw [if_pos hk]
  rw [e]
  have hk' := hk
  unfold tightK at hk'
  simp only [Bool.and_eq_true] at hk'
  exact both_in ha (okT_known _ _) hk'.2
theorem nHas_iff (a : NI) (v : BitVec 64) : nHasI a (N v) = true ↔ HasN a v := by
  unfold nHasI tHasI sHasI HasN
  rw [Bool.and_eq_true, BN, hasB_iff]
  have : (N (v &&& ~~~(tB a.t).2) == N (tB a.t).1) = true ↔ hasT (tB a.t).1 (tB a.t).2 v := by
    unfold hasT
    rw [beq_iff_eq, N_eq_iff]
  rw [this]
theorem mask_low (v : BitVec 64) (k : Nat) (hk : k < 64) (M : Int) (hM : M = 2 ^ k - 1) : andI (N v) M = N v % 2 ^ k ∧ B M = BitVec.ofNat 64 (2 ^ k - 1) ∧ N (B M) = M ∧ uB M = true := by
  have hp : (1 : Int) ≤ 2 ^ k := by exact_mod_cast Nat.one_le_two_pow
  have hlt : (2 : Int) ^ k < 18446744073709551616 := by
    have h1 : 2 ^ k < 2 ^ 64 := Nat.pow_lt_pow_right (by decide) hk
    have h := Int.ofNat_lt.2 h1
    rw [Int.natCast_pow, Int.natCast_pow] at h
    exact h
  have e1 : B M = BitVec.ofNat 64 (2 ^ k - 1) := by
    rw [hM]
    have : ((2 : Int) ^ k - 1) = ((2 ^ k - 1 : Nat) : Int) := by
      have := Nat.one_le_two_pow (n := k)
      rw [Int.natCast_sub this]; simp
    rw [this]
    exact BitVec.ofInt_natCast 64 _
  have e2 : N (B M) = M := N_ofInt M (by omega) (by rw [hM]; show _ < (2 : Int) ^ 64; omega)
  refine ⟨?_, e1, e2, decide_eq_true (by omega)⟩
  rw [and_N v (B M) M rfl, e1]
  unfold N
  rw [BitVec.toNat_and, BitVec.toNat_ofNat, Nat.mod_eq_of_lt (show 2 ^ k - 1 < 2 ^ 64 by
    have : 2 ^ k < 2 ^ 64 := Nat.pow_lt_pow_right (by decide) hk
    omega), Nat.and_two_pow_sub_one_eq_mod]
  simp
theorem bytes_has (v : BitVec 64) (k : Nat) (hk : k < 64) (M : Int) (hM : M = 2 ^ k - 1) : rHasI (uptoI M) (andI (N v) M) = true ∧ ((andI (N v) M == N v) == rHasI (uptoI M) (N v)) = true := by
  obtain ⟨e1, e2, e3, e4⟩ := mask_low v k hk M hM
  have ea : andI (N v) M = N (v &&& B M) := and_N v (B M) M rfl
  have hp : (1 : Int) ≤ 2 ^ k := by exact_mod_cast Nat.one_le_two_pow
  have h0 : 0 ≤ N v % 2 ^ k := Int.emod_nonneg _ (by omega)
  have h1 : N v % 2 ^ k < 2 ^ k := Int.emod_lt_of_pos _ (by omega)
  refine ⟨?_, ?_⟩
  · rw [ea]
    refine (rHas_iff _ _).2 (upto_has' e4 ?_)
    rw [← ea, e1, e3]; omega
  · rw [beq_iff_eq, Bool.eq_iff_iff, rHas_iff, beq_iff_eq]
    constructor
    · intro h
      refine upto_has' e4 ?_
      rw [e3, ← h, e1]; omega
    · intro h
      have h2 : N v ≤ N (B M) := by
        have h3 := h.2.2.1
        have e5 : (sB (uptoI M).s).hi = B M := by
          show (sB (sUptoI M)).hi = B M
          unfold sUptoI
          split <;> rfl
        rw [e5] at h3; exact h3
      rw [e3] at h2
      rw [e1, Int.emod_eq_of_lt (N_nonneg v) (by omega)]
end Go.Proofs.Ytdlgebfaijlaoaa.Ex
end
section
namespace Go.Proofs.Ytdlgebfaijlaoaa.Ex
open Go Go.RowKit
open Go.Proofs.Ytdlgebfaijlaoaa.Sc (firstV firstOk lastV lastOk)
open Go.Proofs.Ytdlgebfaijlaoaa.Spn (Sp SHas SIn two_forms)
/-- Of the map that comes as the third argument: its block, if it has one. -/
def mapArg (x : List Value) : Option Nat :=
  match x with
  | _ :: _ :: .map (some r) :: _ => some r
  | _ => none
/-- D: the block of the call whose kinds are not the same; O: of the one whose offsets are not; f: which kind the first value is of, if that is known. -/
def kiOrc (D O : Nat) (f : Bool) (l : List (Nat × Bool)) : Orc := fun F t x =>
  if Nat.beq F 14 then
    (match mapArg x with
     | none => if Nat.beq t 31 || Nat.beq t 37 || Nat.beq t 44 || Nat.beq t 52 then some (.bool false) else none
     | some r =>
       if Nat.beq t 16 then (if Nat.beq r D then some (.bool true) else if f then none else some (.bool false))
       else if Nat.beq t 37 then some (.bool (Nat.beq r O))
       else if Nat.beq t 31 || Nat.beq t 44 || Nat.beq t 52 then some (.bool false)
       else if !f && (Nat.beq t 10 || Nat.beq t 20 || Nat.beq t 57 || Nat.beq t 61) then some (.bool false) else none)
  else if Nat.beq F 27 then (if Nat.beq t 14 then some (.map none) else if Nat.beq t 20 then some (.bool false) else none)
  else if Nat.beq F 4 then (match l.find? (fun p => Nat.beq p.1 t) with | some p => some (.bool p.2) | none => none)
  else none
set_option maxHeartbeats 0 in
set_option maxRecDepth 1000000 in
theorem ki0 (m i s o num p0 p1 p2 p3 p4 j d1 d2 d3 d4 num2 q0 q1 q2 q3 q4 : Int) (he : ([] : Cs).map (·.1) = ([] : Cs).map (·.2)) (w : World) : Calls Try.prog 4 #[.agg ⟨[.int .i64 0, .int .i64 m, .int .i64 i, .int .i64 o, .int .i64 s, .int .u32 num, .int .u64 p0, .int .u64 p1, .int .u64 p2, .int .u64 p3, .int .u64 p4]⟩, .agg ⟨[.int .i64 j, .int .i64 d1, .int .i64 d2, .int .i64 d3, .int .i64 d4, .int .u32 num2, .int .u64 q0, .int .u64 q1, .int .u64 q2, .int .u64 q3, .int .u64 q4]⟩] w fun e w' => e = .returned (.bool true) ∧ Gr w w' :=
  rk hkK_ok (kiOrc 0 0 true []) (cs := ([] : Cs)) rfl (by kernel_rfl) (by kernel_rfl) he w
set_option maxHeartbeats 0 in
set_option maxRecDepth 1000000 in
theorem ki11 (m i s o num p0 p1 p2 p3 p4 j d1 d2 d3 d4 num2 q0 q1 q2 q3 q4 : Int) (he : ([(b2i (nW (madeI (IntKind.u64.wrap num) p0 p1 p2 p3 p4) && nW (madeI (IntKind.u64.wrap num) p0 p1 p2 p3 p4)), 1), (b2i (!(nInI (madeI (IntKind.u64.wrap num) p0 p1 p2 p3 p4) (madeI (IntKind.u64.wrap num) p0 p1 p2 p3 p4))), 0), (b2i (1 != j), 1), (b2i (1 != j), 1)] : Cs).map (·.1) = ([(b2i (nW (madeI (IntKind.u64.wrap num) p0 p1 p2 p3 p4) && nW (madeI (IntKind.u64.wrap num) p0 p1 p2 p3 p4)), 1), (b2i (!(nInI (madeI (IntKind.u64.wrap num) p0 p1 p2 p3 p4) (madeI (IntKind.u64.wrap num) p0 p1 p2 p3 p4))), 0), (b2i (1 != j), 1), (b2i (1 != j), 1)] : Cs).map (·.2)) (w : World) : Calls Try.prog 4 #[.agg ⟨[.int .i64 1, .int .i64 m, .int .i64 i, .int .i64 o, .int .i64 s, .int .u32 num, .int .u64 p0, .int .u64 p1, .int .u64 p2, .int .u64 p3, .int .u64 p4]⟩, .agg ⟨[.int .i64 j, .int .i64 d1, .int .i64 d2, .int .i64 d3, .int .i64 d4, .int .u32 num2, .int .u64 q0, .int .u64 q1, .int .u64 q2, .int .u64 q3, .int .u64 q4]⟩] w fun e w' => e = .returned (.bool true) ∧ Gr w w' :=
  rk hkK_ok (kiOrc 5 0 true [(21, false), (36, true)]) (cs := ([(b2i (nW (madeI (IntKind.u64.wrap num) p0 p1 p2 p3 p4) && nW (madeI (IntKind.u64.wrap num) p0 p1 p2 p3 p4)), 1), (b2i (!(nInI (madeI (IntKind.u64.wrap num) p0 p1 p2 p3 p4) (madeI (IntKind.u64.wrap num) p0 p1 p2 p3 p4))), 0), (b2i (1 != j), 1), (b2i (1 != j), 1)] : Cs)) rfl (by kernel_rfl) (by kernel_rfl) he w
set_option maxHeartbeats 0 in
set_option maxRecDepth 1000000 in
theorem ki61 (m i s o num p0 p1 p2 p3 p4 j d1 d2 d3 d4 num2 q0 q1 q2 q3 q4 : Int) (he : ([(b2i (m != m), 0), (b2i (o != o), 0), (b2i (decide (s > s)), 0), (b2i (nW (madeI (IntKind.u64.wrap num) p0 p1 p2 p3 p4) && nW (madeI (IntKind.u64.wrap num) p0 p1 p2 p3 p4)), 1), (b2i (!(nInI (madeI (IntKind.u64.wrap num) p0 p1 p2 p3 p4) (madeI (IntKind.u64.wrap num) p0 p1 p2 p3 p4))), 0), (b2i (6 != j), 1), (b2i (6 != j), 1), (b2i (m != m), 0), (b2i (o != o), 0), (b2i (decide (s > s)), 0), (b2i (nW (madeI (IntKind.u64.wrap num) p0 p1 p2 p3 p4) && nW (madeI (IntKind.u64.wrap num) p0 p1 p2 p3 p4)), 1), (b2i (!(nInI (madeI (IntKind.u64.wrap num) p0 p1 p2 p3 p4) (madeI (IntKind.u64.wrap num) p0 p1 p2 p3 p4))), 0), (b2i (i == i), 1), (b2i (i == (IntKind.i64.wrap (BitVec.ofInt IntKind.i64.bits i ^^^ BitVec.ofInt IntKind.i64.bits 1).toNat)), 0), (b2i (m != m), 0), (b2i (o != o), 0), (b2i (decide (s > s)), 0), (b2i (nW (madeI (IntKind.u64.wrap num) p0 p1 p2 p3 p4) && nW (madeI (IntKind.u64.wrap num) p0 p1 p2 p3 p4)), 1), (b2i (!(nInI (madeI (IntKind.u64.wrap num) p0 p1 p2 p3 p4) (madeI (IntKind.u64.wrap num) p0 p1 p2 p3 p4))), 0), (b2i (m != m), 0), (b2i (o != o), 0), (b2i (decide (s > s)), 0), (b2i (nW (madeI (IntKind.u64.wrap num) p0 p1 p2 p3 p4) && nW (madeI (IntKind.u64.wrap num) p0 p1 p2 p3 p4)), 1), (b2i (!(nInI (madeI (IntKind.u64.wrap num) p0 p1 p2 p3 p4) (madeI (IntKind.u64.wrap num) p0 p1 p2 p3 p4))), 0), (b2i (m != m), 0), (b2i (o != (IntKind.i64.wrap (BitVec.ofInt IntKind.i64.bits o ^^^ BitVec.ofInt IntKind.i64.bits 1).toNat)), 1)] : Cs).map (·.1) = ([(b2i (m != m), 0), (b2i (o != o), 0), (b2i (decide (s > s)), 0), (b2i (nW (madeI (IntKind.u64.wrap num) p0 p1 p2 p3 p4) && nW (madeI (IntKind.u64.wrap num) p0 p1 p2 p3 p4)), 1), (b2i (!(nInI (madeI (IntKind.u64.wrap num) p0 p1 p2 p3 p4) (madeI (IntKind.u64.wrap num) p0 p1 p2 p3 p4))), 0), (b2i (6 != j), 1), (b2i (6 != j), 1), (b2i (m != m), 0), (b2i (o != o), 0), (b2i (decide (s > s)), 0), (b2i (nW (madeI (IntKind.u64.wrap num) p0 p1 p2 p3 p4) && nW (madeI (IntKind.u64.wrap num) p0 p1 p2 p3 p4)), 1), (b2i (!(nInI (madeI (IntKind.u64.wrap num) p0 p1 p2 p3 p4) (madeI (IntKind.u64.wrap num) p0 p1 p2 p3 p4))), 0), (b2i (i == i), 1), (b2i (i == (IntKind.i64.wrap (BitVec.ofInt IntKind.i64.bits i ^^^ BitVec.ofInt IntKind.i64.bits 1).toNat)), 0), (b2i (m != m), 0), (b2i (o != o), 0), (b2i (decide (s > s)), 0), (b2i (nW (madeI (IntKind.u64.wrap num) p0 p1 p2 p3 p4) && nW (madeI (IntKind.u64.wrap num) p0 p1 p2 p3 p4)), 1), (b2i (!(nInI (madeI (IntKind.u64.wrap num) p0 p1 p2 p3 p4) (madeI (IntKind.u64.wrap num) p0 p1 p2 p3 p4))), 0), (b2i (m != m), 0), (b2i (o != o), 0), (b2i (decide (s > s)), 0), (b2i (nW (madeI (IntKind.u64.wrap num) p0 p1 p2 p3 p4) && nW (madeI (IntKind.u64.wrap num) p0 p1 p2 p3 p4)), 1), (b2i (!(nInI (madeI (IntKind.u64.wrap num) p0 p1 p2 p3 p4) (madeI (IntKind.u64.wrap num) p0 p1 p2 p3 p4))), 0), (b2i (m != m), 0), (b2i (o != (IntKind.i64.wrap (BitVec.ofInt IntKind.i64.bits o ^^^ BitVec.ofInt IntKind.i64.bits 1).toNat)), 1)] : Cs).map (·.2)) (w : World) : Calls Try.prog 4 #[.agg ⟨[.int .i64 6, .int .i64 m, .int .i64 i, .int .i64 o, .int .i64 s, .int .u32 num, .int .u64 p0, .int .u64 p1, .int .u64 p2, .int .u64 p3, .int .u64 p4]⟩, .agg ⟨[.int .i64 j, .int .i64 d1, .int .i64 d2, .int .i64 d3, .int .i64 d4, .int .u32 num2, .int .u64 q0, .int .u64 q1, .int .u64 q2, .int .u64 q3, .int .u64 q4]⟩] w fun e w' => e = .returned (.bool true) ∧ Gr w w' :=
  rk hkK_ok (kiOrc 7 13 true [(36, true)]) (cs := ([(b2i (m != m), 0), (b2i (o != o), 0), (b2i (decide (s > s)), 0), (b2i (nW (madeI (IntKind.u64.wrap num) p0 p1 p2 p3 p4) && nW (madeI (IntKind.u64.wrap num) p0 p1 p2 p3 p4)), 1), (b2i (!(nInI (madeI (IntKind.u64.wrap num) p0 p1 p2 p3 p4) (madeI (IntKind.u64.wrap num) p0 p1 p2 p3 p4))), 0), (b2i (6 != j), 1), (b2i (6 != j), 1), (b2i (m != m), 0), (b2i (o != o), 0), (b2i (decide (s > s)), 0), (b2i (nW (madeI (IntKind.u64.wrap num) p0 p1 p2 p3 p4) && nW (madeI (IntKind.u64.wrap num) p0 p1 p2 p3 p4)), 1), (b2i (!(nInI (madeI (IntKind.u64.wrap num) p0 p1 p2 p3 p4) (madeI (IntKind.u64.wrap num) p0 p1 p2 p3 p4))), 0), (b2i (i == i), 1), (b2i (i == (IntKind.i64.wrap (BitVec.ofInt IntKind.i64.bits i ^^^ BitVec.ofInt IntKind.i64.bits 1).toNat)), 0), (b2i (m != m), 0), (b2i (o != o), 0), (b2i (decide (s > s)), 0), (b2i (nW (madeI (IntKind.u64.wrap num) p0 p1 p2 p3 p4) && nW (madeI (IntKind.u64.wrap num) p0 p1 p2 p3 p4)), 1), (b2i (!(nInI (madeI (IntKind.u64.wrap num) p0 p1 p2 p3 p4) (madeI (IntKind.u64.wrap num) p0 p1 p2 p3 p4))), 0), (b2i (m != m), 0), (b2i (o != o), 0), (b2i (decide (s > s)), 0), (b2i (nW (madeI (IntKind.u64.wrap num) p0 p1 p2 p3 p4) && nW (madeI (IntKind.u64.wrap num) p0 p1 p2 p3 p4)), 1), (b2i (!(nInI (madeI (IntKind.u64.wrap num) p0 p1 p2 p3 p4) (madeI (IntKind.u64.wrap num) p0 p1 p2 p3 p4))), 0), (b2i (m != m), 0), (b2i (o != (IntKind.i64.wrap (BitVec.ofInt IntKind.i64.bits o ^^^ BitVec.ofInt IntKind.i64.bits 1).toNat)), 1)] : Cs)) rfl (by kernel_rfl) (by kernel_rfl) he w
set_option maxHeartbeats 0 in
set_option maxRecDepth 1000000 in
theorem ki71 (m i s o num p0 p1 p2 p3 p4 j d1 d2 d3 d4 num2 q0 q1 q2 q3 q4 : Int) (he : ([(b2i (m != m), 0), (b2i (o != o), 0), (b2i (decide (s > s)), 0), (b2i (nW (madeI (IntKind.u64.wrap num) p0 p1 p2 p3 p4) && nW (madeI (IntKind.u64.wrap num) p0 p1 p2 p3 p4)), 1), (b2i (!(nInI (madeI (IntKind.u64.wrap num) p0 p1 p2 p3 p4) (madeI (IntKind.u64.wrap num) p0 p1 p2 p3 p4))), 0), (b2i (7 != j), 1), (b2i (7 != j), 1), (b2i (m != m), 0), (b2i (o != o), 0), (b2i (decide (s > s)), 0), (b2i (nW (madeI (IntKind.u64.wrap num) p0 p1 p2 p3 p4) && nW (madeI (IntKind.u64.wrap num) p0 p1 p2 p3 p4)), 1), (b2i (!(nInI (madeI (IntKind.u64.wrap num) p0 p1 p2 p3 p4) (madeI (IntKind.u64.wrap num) p0 p1 p2 p3 p4))), 0), (b2i (i == i), 1), (b2i (i == (IntKind.i64.wrap (BitVec.ofInt IntKind.i64.bits i ^^^ BitVec.ofInt IntKind.i64.bits 1).toNat)), 0), (b2i (m != m), 0), (b2i (o != o), 0), (b2i (decide (s > s)), 0), (b2i (nW (madeI (IntKind.u64.wrap num) p0 p1 p2 p3 p4) && nW (madeI (IntKind.u64.wrap num) p0 p1 p2 p3 p4)), 1), (b2i (!(nInI (madeI (IntKind.u64.wrap num) p0 p1 p2 p3 p4) (madeI (IntKind.u64.wrap num) p0 p1 p2 p3 p4))), 0), (b2i (m != m), 0), (b2i (o != o), 0), (b2i (decide (s > s)), 0), (b2i (nW (madeI (IntKind.u64.wrap num) p0 p1 p2 p3 p4) && nW (madeI (IntKind.u64.wrap num) p0 p1 p2 p3 p4)), 1), (b2i (!(nInI (madeI (IntKind.u64.wrap num) p0 p1 p2 p3 p4) (madeI (IntKind.u64.wrap num) p0 p1 p2 p3 p4))), 0), (b2i (m != m), 0), (b2i (o != (IntKind.i64.wrap (BitVec.ofInt IntKind.i64.bits o ^^^ BitVec.ofInt IntKind.i64.bits 1).toNat)), 1)] : Cs).map (·.1) = ([(b2i (m != m), 0), (b2i (o != o), 0), (b2i (decide (s > s)), 0), (b2i (nW (madeI (IntKind.u64.wrap num) p0 p1 p2 p3 p4) && nW (madeI (IntKind.u64.wrap num) p0 p1 p2 p3 p4)), 1), (b2i (!(nInI (madeI (IntKind.u64.wrap num) p0 p1 p2 p3 p4) (madeI (IntKind.u64.wrap num) p0 p1 p2 p3 p4))), 0), (b2i (7 != j), 1), (b2i (7 != j), 1), (b2i (m != m), 0), (b2i (o != o), 0), (b2i (decide (s > s)), 0), (b2i (nW (madeI (IntKind.u64.wrap num) p0 p1 p2 p3 p4) && nW (madeI (IntKind.u64.wrap num) p0 p1 p2 p3 p4)), 1), (b2i (!(nInI (madeI (IntKind.u64.wrap num) p0 p1 p2 p3 p4) (madeI (IntKind.u64.wrap num) p0 p1 p2 p3 p4))), 0), (b2i (i == i), 1), (b2i (i == (IntKind.i64.wrap (BitVec.ofInt IntKind.i64.bits i ^^^ BitVec.ofInt IntKind.i64.bits 1).toNat)), 0), (b2i (m != m), 0), (b2i (o != o), 0), (b2i (decide (s > s)), 0), (b2i (nW (madeI (IntKind.u64.wrap num) p0 p1 p2 p3 p4) && nW (madeI (IntKind.u64.wrap num) p0 p1 p2 p3 p4)), 1), (b2i (!(nInI (madeI (IntKind.u64.wrap num) p0 p1 p2 p3 p4) (madeI (IntKind.u64.wrap num) p0 p1 p2 p3 p4))), 0), (b2i (m != m), 0), (b2i (o != o), 0), (b2i (decide (s > s)), 0), (b2i (nW (madeI (IntKind.u64.wrap num) p0 p1 p2 p3 p4) && nW (madeI (IntKind.u64.wrap num) p0 p1 p2 p3 p4)), 1), (b2i (!(nInI (madeI (IntKind.u64.wrap num) p0 p1 p2 p3 p4) (madeI (IntKind.u64.wrap num) p0 p1 p2 p3 p4))), 0), (b2i (m != m), 0), (b2i (o != (IntKind.i64.wrap (BitVec.ofInt IntKind.i64.bits o ^^^ BitVec.ofInt IntKind.i64.bits 1).toNat)), 1)] : Cs).map (·.2)) (w : World) : Calls Try.prog 4 #[.agg ⟨[.int .i64 7, .int .i64 m, .int .i64 i, .int .i64 o, .int .i64 s, .int .u32 num, .int .u64 p0, .int .u64 p1, .int .u64 p2, .int .u64 p3, .int .u64 p4]⟩, .agg ⟨[.int .i64 j, .int .i64 d1, .int .i64 d2, .int .i64 d3, .int .i64 d4, .int .u32 num2, .int .u64 q0, .int .u64 q1, .int .u64 q2, .int .u64 q3, .int .u64 q4]⟩] w fun e w' => e = .returned (.bool true) ∧ Gr w w' :=
  rk hkK_ok (kiOrc 7 13 true [(36, true)]) (cs := ([(b2i (m != m), 0), (b2i (o != o), 0), (b2i (decide (s > s)), 0), (b2i (nW (madeI (IntKind.u64.wrap num) p0 p1 p2 p3 p4) && nW (madeI (IntKind.u64.wrap num) p0 p1 p2 p3 p4)), 1), (b2i (!(nInI (madeI (IntKind.u64.wrap num) p0 p1 p2 p3 p4) (madeI (IntKind.u64.wrap num) p0 p1 p2 p3 p4))), 0), (b2i (7 != j), 1), (b2i (7 != j), 1), (b2i (m != m), 0), (b2i (o != o), 0), (b2i (decide (s > s)), 0), (b2i (nW (madeI (IntKind.u64.wrap num) p0 p1 p2 p3 p4) && nW (madeI (IntKind.u64.wrap num) p0 p1 p2 p3 p4)), 1), (b2i (!(nInI (madeI (IntKind.u64.wrap num) p0 p1 p2 p3 p4) (madeI (IntKind.u64.wrap num) p0 p1 p2 p3 p4))), 0), (b2i (i == i), 1), (b2i (i == (IntKind.i64.wrap (BitVec.ofInt IntKind.i64.bits i ^^^ BitVec.ofInt IntKind.i64.bits 1).toNat)), 0), (b2i (m != m), 0), (b2i (o != o), 0), (b2i (decide (s > s)), 0), (b2i (nW (madeI (IntKind.u64.wrap num) p0 p1 p2 p3 p4) && nW (madeI (IntKind.u64.wrap num) p0 p1 p2 p3 p4)), 1), (b2i (!(nInI (madeI (IntKind.u64.wrap num) p0 p1 p2 p3 p4) (madeI (IntKind.u64.wrap num) p0 p1 p2 p3 p4))), 0), (b2i (m != m), 0), (b2i (o != o), 0), (b2i (decide (s > s)), 0), (b2i (nW (madeI (IntKind.u64.wrap num) p0 p1 p2 p3 p4) && nW (madeI (IntKind.u64.wrap num) p0 p1 p2 p3 p4)), 1), (b2i (!(nInI (madeI (IntKind.u64.wrap num) p0 p1 p2 p3 p4) (madeI (IntKind.u64.wrap num) p0 p1 p2 p3 p4))), 0), (b2i (m != m), 0), (b2i (o != (IntKind.i64.wrap (BitVec.ofInt IntKind.i64.bits o ^^^ BitVec.ofInt IntKind.i64.bits 1).toNat)), 1)] : Cs)) rfl (by kernel_rfl) (by kernel_rfl) he w
set_option maxHeartbeats 0 in
set_option maxRecDepth 1000000 in
theorem kik11 (k m i s o num p0 p1 p2 p3 p4 j d1 d2 d3 d4 num2 q0 q1 q2 q3 q4 : Int) (he : ([(b2i (k == 0), 0), (b2i (k != k), 0), (b2i (k == 1), 0), (b2i (m != m), 0), (b2i (o != o), 0), (b2i (decide (s > s)), 0), (b2i (nW (madeI (IntKind.u64.wrap num) p0 p1 p2 p3 p4) && nW (madeI (IntKind.u64.wrap num) p0 p1 p2 p3 p4)), 1), (b2i (!(nInI (madeI (IntKind.u64.wrap num) p0 p1 p2 p3 p4) (madeI (IntKind.u64.wrap num) p0 p1 p2 p3 p4))), 0), (b2i (k == 6), 0), (b2i (k == 7), 0), (b2i (k != 0), 1), (b2i (k != j), 1), (b2i (k == 0), 0), (b2i (k != j), 1), (b2i (k == 6), 0), (b2i (k == 7), 0), (b2i (decide (k ≤ 1)), 1)] : Cs).map (·.1) = ([(b2i (k == 0), 0), (b2i (k != k), 0), (b2i (k == 1), 0), (b2i (m != m), 0), (b2i (o != o), 0), (b2i (decide (s > s)), 0), (b2i (nW (madeI (IntKind.u64.wrap num) p0 p1 p2 p3 p4) && nW (madeI (IntKind.u64.wrap num) p0 p1 p2 p3 p4)), 1), (b2i (!(nInI (madeI (IntKind.u64.wrap num) p0 p1 p2 p3 p4) (madeI (IntKind.u64.wrap num) p0 p1 p2 p3 p4))), 0), (b2i (k == 6), 0), (b2i (k == 7), 0), (b2i (k != 0), 1), (b2i (k != j), 1), (b2i (k == 0), 0), (b2i (k != j), 1), (b2i (k == 6), 0), (b2i (k == 7), 0), (b2i (decide (k ≤ 1)), 1)] : Cs).map (·.2)) (w : World) : Calls Try.prog 4 #[.agg ⟨[.int .i64 k, .int .i64 m, .int .i64 i, .int .i64 o, .int .i64 s, .int .u32 num, .int .u64 p0, .int .u64 p1, .int .u64 p2, .int .u64 p3, .int .u64 p4]⟩, .agg ⟨[.int .i64 j, .int .i64 d1, .int .i64 d2, .int .i64 d3, .int .i64 d4, .int .u32 num2, .int .u64 q0, .int .u64 q1, .int .u64 q2, .int .u64 q3, .int .u64 q4]⟩] w fun e w' => e = .returned (.bool true) ∧ Gr w w' :=
  rk hkK_ok (kiOrc 5 8 false [(30, true), (36, true), (47, false), (51, false), (84, true)]) (cs := ([(b2i (k == 0), 0), (b2i (k != k), 0), (b2i (k == 1), 0), (b2i (m != m), 0), (b2i (o != o), 0), (b2i (decide (s > s)), 0), (b2i (nW (madeI (IntKind.u64.wrap num) p0 p1 p2 p3 p4) && nW (madeI (IntKind.u64.wrap num) p0 p1 p2 p3 p4)), 1), (b2i (!(nInI (madeI (IntKind.u64.wrap num) p0 p1 p2 p3 p4) (madeI (IntKind.u64.wrap num) p0 p1 p2 p3 p4))), 0), (b2i (k == 6), 0), (b2i (k == 7), 0), (b2i (k != 0), 1), (b2i (k != j), 1), (b2i (k == 0), 0), (b2i (k != j), 1), (b2i (k == 6), 0), (b2i (k == 7), 0), (b2i (decide (k ≤ 1)), 1)] : Cs)) rfl (by kernel_rfl) (by kernel_rfl) he w
set_option maxHeartbeats 0 in
set_option maxRecDepth 1000000 in
theorem kik10 (k m i s o num p0 p1 p2 p3 p4 j d1 d2 d3 d4 num2 q0 q1 q2 q3 q4 : Int) (he : ([(b2i (k == 0), 0), (b2i (k != k), 0), (b2i (k == 1), 0), (b2i (m != m), 0), (b2i (o != o), 0), (b2i (decide (s > s)), 0), (b2i (nW (madeI (IntKind.u64.wrap num) p0 p1 p2 p3 p4) && nW (madeI (IntKind.u64.wrap num) p0 p1 p2 p3 p4)), 1), (b2i (!(nInI (madeI (IntKind.u64.wrap num) p0 p1 p2 p3 p4) (madeI (IntKind.u64.wrap num) p0 p1 p2 p3 p4))), 0), (b2i (k == 6), 0), (b2i (k == 7), 0), (b2i (k != 0), 1), (b2i (k != j), 1), (b2i (k == 0), 0), (b2i (k != j), 1), (b2i (k == 6), 0), (b2i (k == 7), 0), (b2i (decide (k ≤ 1)), 0), (b2i (k == 0), 0), (b2i (k != k), 0), (b2i (k == 1), 0), (b2i (m != m), 0), (b2i (o != (IntKind.i64.wrap (BitVec.ofInt IntKind.i64.bits o ^^^ BitVec.ofInt IntKind.i64.bits 1).toNat)), 1)] : Cs).map (·.1) = ([(b2i (k == 0), 0), (b2i (k != k), 0), (b2i (k == 1), 0), (b2i (m != m), 0), (b2i (o != o), 0), (b2i (decide (s > s)), 0), (b2i (nW (madeI (IntKind.u64.wrap num) p0 p1 p2 p3 p4) && nW (madeI (IntKind.u64.wrap num) p0 p1 p2 p3 p4)), 1), (b2i (!(nInI (madeI (IntKind.u64.wrap num) p0 p1 p2 p3 p4) (madeI (IntKind.u64.wrap num) p0 p1 p2 p3 p4))), 0), (b2i (k == 6), 0), (b2i (k == 7), 0), (b2i (k != 0), 1), (b2i (k != j), 1), (b2i (k == 0), 0), (b2i (k != j), 1), (b2i (k == 6), 0), (b2i (k == 7), 0), (b2i (decide (k ≤ 1)), 0), (b2i (k == 0), 0), (b2i (k != k), 0), (b2i (k == 1), 0), (b2i (m != m), 0), (b2i (o != (IntKind.i64.wrap (BitVec.ofInt IntKind.i64.bits o ^^^ BitVec.ofInt IntKind.i64.bits 1).toNat)), 1)] : Cs).map (·.2)) (w : World) : Calls Try.prog 4 #[.agg ⟨[.int .i64 k, .int .i64 m, .int .i64 i, .int .i64 o, .int .i64 s, .int .u32 num, .int .u64 p0, .int .u64 p1, .int .u64 p2, .int .u64 p3, .int .u64 p4]⟩, .agg ⟨[.int .i64 j, .int .i64 d1, .int .i64 d2, .int .i64 d3, .int .i64 d4, .int .u32 num2, .int .u64 q0, .int .u64 q1, .int .u64 q2, .int .u64 q3, .int .u64 q4]⟩] w fun e w' => e = .returned (.bool true) ∧ Gr w w' :=
  rk hkK_ok (kiOrc 5 8 false [(30, true), (36, true), (47, false), (51, false), (84, false)]) (cs := ([(b2i (k == 0), 0), (b2i (k != k), 0), (b2i (k == 1), 0), (b2i (m != m), 0), (b2i (o != o), 0), (b2i (decide (s > s)), 0), (b2i (nW (madeI (IntKind.u64.wrap num) p0 p1 p2 p3 p4) && nW (madeI (IntKind.u64.wrap num) p0 p1 p2 p3 p4)), 1), (b2i (!(nInI (madeI (IntKind.u64.wrap num) p0 p1 p2 p3 p4) (madeI (IntKind.u64.wrap num) p0 p1 p2 p3 p4))), 0), (b2i (k == 6), 0), (b2i (k == 7), 0), (b2i (k != 0), 1), (b2i (k != j), 1), (b2i (k == 0), 0), (b2i (k != j), 1), (b2i (k == 6), 0), (b2i (k == 7), 0), (b2i (decide (k ≤ 1)), 0), (b2i (k == 0), 0), (b2i (k != k), 0), (b2i (k == 1), 0), (b2i (m != m), 0), (b2i (o != (IntKind.i64.wrap (BitVec.ofInt IntKind.i64.bits o ^^^ BitVec.ofInt IntKind.i64.bits 1).toNat)), 1)] : Cs)) rfl (by kernel_rfl) (by kernel_rfl) he w
set_option maxHeartbeats 0 in
set_option maxRecDepth 1000000 in
theorem ki10 (m i s o num p0 p1 p2 p3 p4 j d1 d2 d3 d4 num2 q0 q1 q2 q3 q4 : Int) (he : ([(b2i (nW (madeI (IntKind.u64.wrap num) p0 p1 p2 p3 p4) && nW (madeI (IntKind.u64.wrap num) p0 p1 p2 p3 p4)), 1), (b2i (!(nInI (madeI (IntKind.u64.wrap num) p0 p1 p2 p3 p4) (madeI (IntKind.u64.wrap num) p0 p1 p2 p3 p4))), 0), (b2i (1 != j), 0)] : Cs).map (·.1) = ([(b2i (nW (madeI (IntKind.u64.wrap num) p0 p1 p2 p3 p4) && nW (madeI (IntKind.u64.wrap num) p0 p1 p2 p3 p4)), 1), (b2i (!(nInI (madeI (IntKind.u64.wrap num) p0 p1 p2 p3 p4) (madeI (IntKind.u64.wrap num) p0 p1 p2 p3 p4))), 0), (b2i (1 != j), 0)] : Cs).map (·.2)) (w : World) : Calls Try.prog 4 #[.agg ⟨[.int .i64 1, .int .i64 m, .int .i64 i, .int .i64 o, .int .i64 s, .int .u32 num, .int .u64 p0, .int .u64 p1, .int .u64 p2, .int .u64 p3, .int .u64 p4]⟩, .agg ⟨[.int .i64 j, .int .i64 d1, .int .i64 d2, .int .i64 d3, .int .i64 d4, .int .u32 num2, .int .u64 q0, .int .u64 q1, .int .u64 q2, .int .u64 q3, .int .u64 q4]⟩] w fun e w' => e = .returned (.bool true) ∧ Gr w w' :=
  rk hkK_ok (kiOrc 0 0 true [(21, false), (36, false)]) (cs := ([(b2i (nW (madeI (IntKind.u64.wrap num) p0 p1 p2 p3 p4) && nW (madeI (IntKind.u64.wrap num) p0 p1 p2 p3 p4)), 1), (b2i (!(nInI (madeI (IntKind.u64.wrap num) p0 p1 p2 p3 p4) (madeI (IntKind.u64.wrap num) p0 p1 p2 p3 p4))), 0), (b2i (1 != j), 0)] : Cs)) rfl (by kernel_rfl) (by kernel_rfl) he w
set_option maxHeartbeats 0 in
set_option maxRecDepth 1000000 in
theorem ki60 (m i s o num p0 p1 p2 p3 p4 j d1 d2 d3 d4 num2 q0 q1 q2 q3 q4 : Int) (he : ([(b2i (m != m), 0), (b2i (o != o), 0), (b2i (decide (s > s)), 0), (b2i (nW (madeI (IntKind.u64.wrap num) p0 p1 p2 p3 p4) && nW (madeI (IntKind.u64.wrap num) p0 p1 p2 p3 p4)), 1), (b2i (!(nInI (madeI (IntKind.u64.wrap num) p0 p1 p2 p3 p4) (madeI (IntKind.u64.wrap num) p0 p1 p2 p3 p4))), 0), (b2i (6 != j), 0), (b2i (m != m), 0), (b2i (o != o), 0), (b2i (decide (s > s)), 0), (b2i (nW (madeI (IntKind.u64.wrap num) p0 p1 p2 p3 p4) && nW (madeI (IntKind.u64.wrap num) p0 p1 p2 p3 p4)), 1), (b2i (!(nInI (madeI (IntKind.u64.wrap num) p0 p1 p2 p3 p4) (madeI (IntKind.u64.wrap num) p0 p1 p2 p3 p4))), 0), (b2i (i == i), 1), (b2i (i == (IntKind.i64.wrap (BitVec.ofInt IntKind.i64.bits i ^^^ BitVec.ofInt IntKind.i64.bits 1).toNat)), 0), (b2i (m != m), 0), (b2i (o != o), 0), (b2i (decide (s > s)), 0), (b2i (nW (madeI (IntKind.u64.wrap num) p0 p1 p2 p3 p4) && nW (madeI (IntKind.u64.wrap num) p0 p1 p2 p3 p4)), 1), (b2i (!(nInI (madeI (IntKind.u64.wrap num) p0 p1 p2 p3 p4) (madeI (IntKind.u64.wrap num) p0 p1 p2 p3 p4))), 0), (b2i (m != m), 0), (b2i (o != o), 0), (b2i (decide (s > s)), 0), (b2i (nW (madeI (IntKind.u64.wrap num) p0 p1 p2 p3 p4) && nW (madeI (IntKind.u64.wrap num) p0 p1 p2 p3 p4)), 1), (b2i (!(nInI (madeI (IntKind.u64.wrap num) p0 p1 p2 p3 p4) (madeI (IntKind.u64.wrap num) p0 p1 p2 p3 p4))), 0), (b2i (m != m), 0), (b2i (o != (IntKind.i64.wrap (BitVec.ofInt IntKind.i64.bits o ^^^ BitVec.ofInt IntKind.i64.bits 1).toNat)), 1)] : Cs).map (·.1) = ([(b2i (m != m), 0), (b2i (o != o), 0), (b2i (decide (s > s)), 0), (b2i (nW (madeI (IntKind.u64.wrap num) p0 p1 p2 p3 p4) && nW (madeI (IntKind.u64.wrap num) p0 p1 p2 p3 p4)), 1), (b2i (!(nInI (madeI (IntKind.u64.wrap num) p0 p1 p2 p3 p4) (madeI (IntKind.u64.wrap num) p0 p1 p2 p3 p4))), 0), (b2i (6 != j), 0), (b2i (m != m), 0), (b2i (o != o), 0), (b2i (decide (s > s)), 0), (b2i (nW (madeI (IntKind.u64.wrap num) p0 p1 p2 p3 p4) && nW (madeI (IntKind.u64.wrap num) p0 p1 p2 p3 p4)), 1), (b2i (!(nInI (madeI (IntKind.u64.wrap num) p0 p1 p2 p3 p4) (madeI (IntKind.u64.wrap num) p0 p1 p2 p3 p4))), 0), (b2i (i == i), 1), (b2i (i == (IntKind.i64.wrap (BitVec.ofInt IntKind.i64.bits i ^^^ BitVec.ofInt IntKind.i64.bits 1).toNat)), 0), (b2i (m != m), 0), (b2i (o != o), 0), (b2i (decide (s > s)), 0), (b2i (nW (madeI (IntKind.u64.wrap num) p0 p1 p2 p3 p4) && nW (madeI (IntKind.u64.wrap num) p0 p1 p2 p3 p4)), 1), (b2i (!(nInI (madeI (IntKind.u64.wrap num) p0 p1 p2 p3 p4) (madeI (IntKind.u64.wrap num) p0 p1 p2 p3 p4))), 0), (b2i (m != m), 0), (b2i (o != o), 0), (b2i (decide (s > s)), 0), (b2i (nW (madeI (IntKind.u64.wrap num) p0 p1 p2 p3 p4) && nW (madeI (IntKind.u64.wrap num) p0 p1 p2 p3 p4)), 1), (b2i (!(nInI (madeI (IntKind.u64.wrap num) p0 p1 p2 p3 p4) (madeI (IntKind.u64.wrap num) p0 p1 p2 p3 p4))), 0), (b2i (m != m), 0), (b2i (o != (IntKind.i64.wrap (BitVec.ofInt IntKind.i64.bits o ^^^ BitVec.ofInt IntKind.i64.bits 1).toNat)), 1)] : Cs).map (·.2)) (w : World) : Calls Try.prog 4 #[.agg ⟨[.int .i64 6, .int .i64 m, .int .i64 i, .int .i64 o, .int .i64 s, .int .u32 num, .int .u64 p0, .int .u64 p1, .int .u64 p2, .int .u64 p3, .int .u64 p4]⟩, .agg ⟨[.int .i64 j, .int .i64 d1, .int .i64 d2, .int .i64 d3, .int .i64 d4, .int .u32 num2, .int .u64 q0, .int .u64 q1, .int .u64 q2, .int .u64 q3, .int .u64 q4]⟩] w fun e w' => e = .returned (.bool true) ∧ Gr w w' :=
  rk hkK_ok (kiOrc 0 12 true [(36, false)]) (cs := ([(b2i (m != m), 0), (b2i (o != o), 0), (b2i (decide (s > s)), 0), (b2i (nW (madeI (IntKind.u64.wrap num) p0 p1 p2 p3 p4) && nW (madeI (IntKind.u64.wrap num) p0 p1 p2 p3 p4)), 1), (b2i (!(nInI (madeI (IntKind.u64.wrap num) p0 p1 p2 p3 p4) (madeI (IntKind.u64.wrap num) p0 p1 p2 p3 p4))), 0), (b2i (6 != j), 0), (b2i (m != m), 0), (b2i (o != o), 0), (b2i (decide (s > s)), 0), (b2i (nW (madeI (IntKind.u64.wrap num) p0 p1 p2 p3 p4) && nW (madeI (IntKind.u64.wrap num) p0 p1 p2 p3 p4)), 1), (b2i (!(nInI (madeI (IntKind.u64.wrap num) p0 p1 p2 p3 p4) (madeI (IntKind.u64.wrap num) p0 p1 p2 p3 p4))), 0), (b2i (i == i), 1), (b2i (i == (IntKind.i64.wrap (BitVec.ofInt IntKind.i64.bits i ^^^ BitVec.ofInt IntKind.i64.bits 1).toNat)), 0), (b2i (m != m), 0), (b2i (o != o), 0), (b2i (decide (s > s)), 0), (b2i (nW (madeI (IntKind.u64.wrap num) p0 p1 p2 p3 p4) && nW (madeI (IntKind.u64.wrap num) p0 p1 p2 p3 p4)), 1), (b2i (!(nInI (madeI (IntKind.u64.wrap num) p0 p1 p2 p3 p4) (madeI (IntKind.u64.wrap num) p0 p1 p2 p3 p4))), 0), (b2i (m != m), 0), (b2i (o != o), 0), (b2i (decide (s > s)), 0), (b2i (nW (madeI (IntKind.u64.wrap num) p0 p1 p2 p3 p4) && nW (madeI (IntKind.u64.wrap num) p0 p1 p2 p3 p4)), 1), (b2i (!(nInI (madeI (IntKind.u64.wrap num) p0 p1 p2 p3 p4) (madeI (IntKind.u64.wrap num) p0 p1 p2 p3 p4))), 0), (b2i (m != m), 0), (b2i (o != (IntKind.i64.wrap (BitVec.ofInt IntKind.i64.bits o ^^^ BitVec.ofInt IntKind.i64.bits 1).toNat)), 1)] : Cs)) rfl (by kernel_rfl) (by kernel_rfl) he w
set_option maxHeartbeats 0 in
set_option maxRecDepth 1000000 in
theorem ki70 (m i s o num p0 p1 p2 p3 p4 j d1 d2 d3 d4 num2 q0 q1 q2 q3 q4 : Int) (he : ([(b2i (m != m), 0), (b2i (o != o), 0), (b2i (decide (s > s)), 0), (b2i (nW (madeI (IntKind.u64.wrap num) p0 p1 p2 p3 p4) && nW (madeI (IntKind.u64.wrap num) p0 p1 p2 p3 p4)), 1), (b2i (!(nInI (madeI (IntKind.u64.wrap num) p0 p1 p2 p3 p4) (madeI (IntKind.u64.wrap num) p0 p1 p2 p3 p4))), 0), (b2i (7 != j), 0), (b2i (m != m), 0), (b2i (o != o), 0), (b2i (decide (s > s)), 0), (b2i (nW (madeI (IntKind.u64.wrap num) p0 p1 p2 p3 p4) && nW (madeI (IntKind.u64.wrap num) p0 p1 p2 p3 p4)), 1), (b2i (!(nInI (madeI (IntKind.u64.wrap num) p0 p1 p2 p3 p4) (madeI (IntKind.u64.wrap num) p0 p1 p2 p3 p4))), 0), (b2i (i == i), 1), (b2i (i == (IntKind.i64.wrap (BitVec.ofInt IntKind.i64.bits i ^^^ BitVec.ofInt IntKind.i64.bits 1).toNat)), 0), (b2i (m != m), 0), (b2i (o != o), 0), (b2i (decide (s > s)), 0), (b2i (nW (madeI (IntKind.u64.wrap num) p0 p1 p2 p3 p4) && nW (madeI (IntKind.u64.wrap num) p0 p1 p2 p3 p4)), 1), (b2i (!(nInI (madeI (IntKind.u64.wrap num) p0 p1 p2 p3 p4) (madeI (IntKind.u64.wrap num) p0 p1 p2 p3 p4))), 0), (b2i (m != m), 0), (b2i (o != o), 0), (b2i (decide (s > s)), 0), (b2i (nW (madeI (IntKind.u64.wrap num) p0 p1 p2 p3 p4) && nW (madeI (IntKind.u64.wrap num) p0 p1 p2 p3 p4)), 1), (b2i (!(nInI (madeI (IntKind.u64.wrap num) p0 p1 p2 p3 p4) (madeI (IntKind.u64.wrap num) p0 p1 p2 p3 p4))), 0), (b2i (m != m), 0), (b2i (o != (IntKind.i64.wrap (BitVec.ofInt IntKind.i64.bits o ^^^ BitVec.ofInt IntKind.i64.bits 1).toNat)), 1)] : Cs).map (·.1) = ([(b2i (m != m), 0), (b2i (o != o), 0), (b2i (decide (s > s)), 0), (b2i (nW (madeI (IntKind.u64.wrap num) p0 p1 p2 p3 p4) && nW (madeI (IntKind.u64.wrap num) p0 p1 p2 p3 p4)), 1), (b2i (!(nInI (madeI (IntKind.u64.wrap num) p0 p1 p2 p3 p4) (madeI (IntKind.u64.wrap num) p0 p1 p2 p3 p4))), 0), (b2i (7 != j), 0), (b2i (m != m), 0), (b2i (o != o), 0), (b2i (decide (s > s)), 0), (b2i (nW (madeI (IntKind.u64.wrap num) p0 p1 p2 p3 p4) && nW (madeI (IntKind.u64.wrap num) p0 p1 p2 p3 p4)), 1), (b2i (!(nInI (madeI (IntKind.u64.wrap num) p0 p1 p2 p3 p4) (madeI (IntKind.u64.wrap num) p0 p1 p2 p3 p4))), 0), (b2i (i == i), 1), (b2i (i == (IntKind.i64.wrap (BitVec.ofInt IntKind.i64.bits i ^^^ BitVec.ofInt IntKind.i64.bits 1).toNat)), 0), (b2i (m != m), 0), (b2i (o != o), 0), (b2i (decide (s > s)), 0), (b2i (nW (madeI (IntKind.u64.wrap num) p0 p1 p2 p3 p4) && nW (madeI (IntKind.u64.wrap num) p0 p1 p2 p3 p4)), 1), (b2i (!(nInI (madeI (IntKind.u64.wrap num) p0 p1 p2 p3 p4) (madeI (IntKind.u64.wrap num) p0 p1 p2 p3 p4))), 0), (b2i (m != m), 0), (b2i (o != o), 0), (b2i (decide (s > s)), 0), (b2i (nW (madeI (IntKind.u64.wrap num) p0 p1 p2 p3 p4) && nW (madeI (IntKind.u64.wrap num) p0 p1 p2 p3 p4)), 1), (b2i (!(nInI (madeI (IntKind.u64.wrap num) p0 p1 p2 p3 p4) (madeI (IntKind.u64.wrap num) p0 p1 p2 p3 p4))), 0), (b2i (m != m), 0), (b2i (o != (IntKind.i64.wrap (BitVec.ofInt IntKind.i64.bits o ^^^ BitVec.ofInt IntKind.i64.bits 1).toNat)), 1)] : Cs).map (·.2)) (w : World) : Calls Try.prog 4 #[.agg ⟨[.int .i64 7, .int .i64 m, .int .i64 i, .int .i64 o, .int .i64 s, .int .u32 num, .int .u64 p0, .int .u64 p1, .int .u64 p2, .int .u64 p3, .int .u64 p4]⟩, .agg ⟨[.int .i64 j, .int .i64 d1, .int .i64 d2, .int .i64 d3, .int .i64 d4, .int .u32 num2, .int .u64 q0, .int .u64 q1, .int .u64 q2, .int .u64 q3, .int .u64 q4]⟩] w fun e w' => e = .returned (.bool true) ∧ Gr w w' :=
  rk hkK_ok (kiOrc 0 12 true [(36, false)]) (cs := ([(b2i (m != m), 0), (b2i (o != o), 0), (b2i (decide (s > s)), 0), (b2i (nW (madeI (IntKind.u64.wrap num) p0 p1 p2 p3 p4) && nW (madeI (IntKind.u64.wrap num) p0 p1 p2 p3 p4)), 1), (b2i (!(nInI (madeI (IntKind.u64.wrap num) p0 p1 p2 p3 p4) (madeI (IntKind.u64.wrap num) p0 p1 p2 p3 p4))), 0), (b2i (7 != j), 0), (b2i (m != m), 0), (b2i (o != o), 0), (b2i (decide (s > s)), 0), (b2i (nW (madeI (IntKind.u64.wrap num) p0 p1 p2 p3 p4) && nW (madeI (IntKind.u64.wrap num) p0 p1 p2 p3 p4)), 1), (b2i (!(nInI (madeI (IntKind.u64.wrap num) p0 p1 p2 p3 p4) (madeI (IntKind.u64.wrap num) p0 p1 p2 p3 p4))), 0), (b2i (i == i), 1), (b2i (i == (IntKind.i64.wrap (BitVec.ofInt IntKind.i64.bits i ^^^ BitVec.ofInt IntKind.i64.bits 1).toNat)), 0), (b2i (m != m), 0), (b2i (o != o), 0), (b2i (decide (s > s)), 0), (b2i (nW (madeI (IntKind.u64.wrap num) p0 p1 p2 p3 p4) && nW (madeI (IntKind.u64.wrap num) p0 p1 p2 p3 p4)), 1), (b2i (!(nInI (madeI (IntKind.u64.wrap num) p0 p1 p2 p3 p4) (madeI (IntKind.u64.wrap num) p0 p1 p2 p3 p4))), 0), (b2i (m != m), 0), (b2i (o != o), 0), (b2i (decide (s > s)), 0), (b2i (nW (madeI (IntKind.u64.wrap num) p0 p1 p2 p3 p4) && nW (madeI (IntKind.u64.wrap num) p0 p1 p2 p3 p4)), 1), (b2i (!(nInI (madeI (IntKind.u64.wrap num) p0 p1 p2 p3 p4) (madeI (IntKind.u64.wrap num) p0 p1 p2 p3 p4))), 0), (b2i (m != m), 0), (b2i (o != (IntKind.i64.wrap (BitVec.ofInt IntKind.i64.bits o ^^^ BitVec.ofInt IntKind.i64.bits 1).toNat)), 1)] : Cs)) rfl (by kernel_rfl) (by kernel_rfl) he w
set_option maxHeartbeats 0 in
set_option maxRecDepth 1000000 in
theorem kik01 (k m i s o num p0 p1 p2 p3 p4 j d1 d2 d3 d4 num2 q0 q1 q2 q3 q4 : Int) (he : ([(b2i (k == 0), 0), (b2i (k != k), 0), (b2i (k == 1), 0), (b2i (m != m), 0), (b2i (o != o), 0), (b2i (decide (s > s)), 0), (b2i (nW (madeI (IntKind.u64.wrap num) p0 p1 p2 p3 p4) && nW (madeI (IntKind.u64.wrap num) p0 p1 p2 p3 p4)), 1), (b2i (!(nInI (madeI (IntKind.u64.wrap num) p0 p1 p2 p3 p4) (madeI (IntKind.u64.wrap num) p0 p1 p2 p3 p4))), 0), (b2i (k == 6), 0), (b2i (k == 7), 0), (b2i (k != 0), 1), (b2i (k != j), 0), (b2i (k == 6), 0), (b2i (k == 7), 0), (b2i (decide (k ≤ 1)), 1)] : Cs).map (·.1) = ([(b2i (k == 0), 0), (b2i (k != k), 0), (b2i (k == 1), 0), (b2i (m != m), 0), (b2i (o != o), 0), (b2i (decide (s > s)), 0), (b2i (nW (madeI (IntKind.u64.wrap num) p0 p1 p2 p3 p4) && nW (madeI (IntKind.u64.wrap num) p0 p1 p2 p3 p4)), 1), (b2i (!(nInI (madeI (IntKind.u64.wrap num) p0 p1 p2 p3 p4) (madeI (IntKind.u64.wrap num) p0 p1 p2 p3 p4))), 0), (b2i (k == 6), 0), (b2i (k == 7), 0), (b2i (k != 0), 1), (b2i (k != j), 0), (b2i (k == 6), 0), (b2i (k == 7), 0), (b2i (decide (k ≤ 1)), 1)] : Cs).map (·.2)) (w : World) : Calls Try.prog 4 #[.agg ⟨[.int .i64 k, .int .i64 m, .int .i64 i, .int .i64 o, .int .i64 s, .int .u32 num, .int .u64 p0, .int .u64 p1, .int .u64 p2, .int .u64 p3, .int .u64 p4]⟩, .agg ⟨[.int .i64 j, .int .i64 d1, .int .i64 d2, .int .i64 d3, .int .i64 d4, .int .u32 num2, .int .u64 q0, .int .u64 q1, .int .u64 q2, .int .u64 q3, .int .u64 q4]⟩] w fun e w' => e = .returned (.bool true) ∧ Gr w w' :=
  rk hkK_ok (kiOrc 0 7 false [(30, true), (36, false), (47, false), (51, false), (84, true)]) (cs := ([(b2i (k == 0), 0), (b2i (k != k), 0), (b2i (k == 1), 0), (b2i (m != m), 0), (b2i (o != o), 0), (b2i (decide (s > s)), 0), (b2i (nW (madeI (IntKind.u64.wrap num) p0 p1 p2 p3 p4) && nW (madeI (IntKind.u64.wrap num) p0 p1 p2 p3 p4)), 1), (b2i (!(nInI (madeI (IntKind.u64.wrap num) p0 p1 p2 p3 p4) (madeI (IntKind.u64.wrap num) p0 p1 p2 p3 p4))), 0), (b2i (k == 6), 0), (b2i (k == 7), 0), (b2i (k != 0), 1), (b2i (k != j), 0), (b2i (k == 6), 0), (b2i (k == 7), 0), (b2i (decide (k ≤ 1)), 1)] : Cs)) rfl (by kernel_rfl) (by kernel_rfl) he w
set_option maxHeartbeats 0 in
set_option maxRecDepth 1000000 in
theorem kik00 (k m i s o num p0 p1 p2 p3 p4 j d1 d2 d3 d4 num2 q0 q1 q2 q3 q4 : Int) (he : ([(b2i (k == 0), 0), (b2i (k != k), 0), (b2i (k == 1), 0), (b2i (m != m), 0), (b2i (o != o), 0), (b2i (decide (s > s)), 0), (b2i (nW (madeI (IntKind.u64.wrap num) p0 p1 p2 p3 p4) && nW (madeI (IntKind.u64.wrap num) p0 p1 p2 p3 p4)), 1), (b2i (!(nInI (madeI (IntKind.u64.wrap num) p0 p1 p2 p3 p4) (madeI (IntKind.u64.wrap num) p0 p1 p2 p3 p4))), 0), (b2i (k == 6), 0), (b2i (k == 7), 0), (b2i (k != 0), 1), (b2i (k != j), 0), (b2i (k == 6), 0), (b2i (k == 7), 0), (b2i (decide (k ≤ 1)), 0), (b2i (k == 0), 0), (b2i (k != k), 0), (b2i (k == 1), 0), (b2i (m != m), 0), (b2i (o != (IntKind.i64.wrap (BitVec.ofInt IntKind.i64.bits o ^^^ BitVec.ofInt IntKind.i64.bits 1).toNat)), 1)] : Cs).map (·.1) = ([(b2i (k == 0), 0), (b2i (k != k), 0), (b2i (k == 1), 0), (b2i (m != m), 0), (b2i (o != o), 0), (b2i (decide (s > s)), 0), (b2i (nW (madeI (IntKind.u64.wrap num) p0 p1 p2 p3 p4) && nW (madeI (IntKind.u64.wrap num) p0 p1 p2 p3 p4)), 1), (b2i (!(nInI (madeI (IntKind.u64.wrap num) p0 p1 p2 p3 p4) (madeI (IntKind.u64.wrap num) p0 p1 p2 p3 p4))), 0), (b2i (k == 6), 0), (b2i (k == 7), 0), (b2i (k != 0), 1), (b2i (k != j), 0), (b2i (k == 6), 0), (b2i (k == 7), 0), (b2i (decide (k ≤ 1)), 0), (b2i (k == 0), 0), (b2i (k != k), 0), (b2i (k == 1), 0), (b2i (m != m), 0), (b2i (o != (IntKind.i64.wrap (BitVec.ofInt IntKind.i64.bits o ^^^ BitVec.ofInt IntKind.i64.bits 1).toNat)), 1)] : Cs).map (·.2)) (w : World) : Calls Try.prog 4 #[.agg ⟨[.int .i64 k, .int .i64 m, .int .i64 i, .int .i64 o, .int .i64 s, .int .u32 num, .int .u64 p0, .int .u64 p1, .int .u64 p2, .int .u64 p3, .int .u64 p4]⟩, .agg ⟨[.int .i64 j, .int .i64 d1, .int .i64 d2, .int .i64 d3, .int .i64 d4, .int .u32 num2, .int .u64 q0, .int .u64 q1, .int .u64 q2, .int .u64 q3, .int .u64 q4]⟩] w fun e w' => e = .returned (.bool true) ∧ Gr w w' :=
  rk hkK_ok (kiOrc 0 7 false [(30, true), (36, false), (47, false), (51, false), (84, false)]) (cs := ([(b2i (k == 0), 0), (b2i (k != k), 0), (b2i (k == 1), 0), (b2i (m != m), 0), (b2i (o != o), 0), (b2i (decide (s > s)), 0), (b2i (nW (madeI (IntKind.u64.wrap num) p0 p1 p2 p3 p4) && nW (madeI (IntKind.u64.wrap num) p0 p1 p2 p3 p4)), 1), (b2i (!(nInI (madeI (IntKind.u64.wrap num) p0 p1 p2 p3 p4) (madeI (IntKind.u64.wrap num) p0 p1 p2 p3 p4))), 0), (b2i (k == 6), 0), (b2i (k == 7), 0), (b2i (k != 0), 1), (b2i (k != j), 0), (b2i (k == 6), 0), (b2i (k == 7), 0), (b2i (decide (k ≤ 1)), 0), (b2i (k == 0), 0), (b2i (k != k), 0), (b2i (k == 1), 0), (b2i (m != m), 0), (b2i (o != (IntKind.i64.wrap (BitVec.ofInt IntKind.i64.bits o ^^^ BitVec.ofInt IntKind.i64.bits 1).toNat)), 1)] : Cs)) rfl (by kernel_rfl) (by kernel_rfl) he w
theorem in_self {v b0 b1 b2 b3 b4 : BitVec 64} : nInI (madeI (N v) (N b0) (N b1) (N b2) (N b3) (N b4)) (madeI (N v) (N b0) (N b1) (N b2) (N b3) (N b4)) = true := by
  have hk := (made_has' v b0 b1 b2 b3 b4).2
  generalize madeI (N v) (N b0) (N b1) (N b2) (N b3) (N b4) = a at *
  unfold OkN at hk
  rw [okT_iff] at hk
  unfold nInI tInI sInI
  have e1 : (tB a.t).2 &&& ~~~(tB a.t).2 = 0#64 := by
    apply BitVec.eq_of_getLsbD_eq
    intro i hi
    simp only [BitVec.getLsbD_and, BitVec.getLsbD_not, hi, decide_true, Bool.true_and, BitVec.getLsbD_zero]
    cases (tB a.t).2.getLsbD i <;> rfl
  have e2 : (tB a.t).1 &&& ~~~(tB a.t).2 = (tB a.t).1 := by
    apply BitVec.eq_of_getLsbD_eq
    intro i hi
    have q1 := hk i hi
    simp only [BitVec.getLsbD_and, BitVec.getLsbD_not, hi, decide_true, Bool.true_and]
    revert q1
    cases (tB a.t).1.getLsbD i <;> cases (tB a.t).2.getLsbD i <;> decide
  rw [e1, e2]
  have e3 : inB (sB a.s) (sB a.s) = true := by
    rw [inB_iff]
    unfold SIn
    omega
  rw [e3]
  simp [show N (0#64) = 0 from rfl]
theorem xor_ne (x : Int) : (x == IntKind.i64.wrap (BitVec.ofInt IntKind.i64.bits x ^^^ BitVec.ofInt IntKind.i64.bits 1).toNat) = false := by
  cases h : (x == IntKind.i64.wrap (BitVec.ofInt IntKind.i64.bits x ^^^ BitVec.ofInt IntKind.i64.bits 1).toNat) with
  | false => rfl
  | true =>
    have e := congrArg B (beq_iff_eq.1 h)
    rw [B_i64] at e
    have e2 : B (((BitVec.ofInt IntKind.i64.bits x ^^^ BitVec.ofInt IntKind.i64.bits 1).toNat : Int)) = B x ^^^ 1#64 := by
      show BitVec.ofInt 64 (((B x ^^^ 1#64).toNat : Int)) = _
      rw [BitVec.ofInt_natCast, BitVec.ofNat_toNat, BitVec.setWidth_eq]
    rw [e2] at e
    have e3 := congrArg (fun z : BitVec 64 => z.getLsbD 0) e
    simp at e3
theorem ki_law (k m i s o num p0 p1 p2 p3 p4 j d1 d2 d3 d4 num2 q0 q1 q2 q3 q4 : Int) (w_num : (Lit.int .u32 num).wf = true) (w_p0 : (Lit.int .u64 p0).wf = true) (w_p1 : (Lit.int .u64 p1).wf = true) (w_p2 : (Lit.int .u64 p2).wf = true) (w_p3 : (Lit.int .u64 p3).wf = true) (w_p4 : (Lit.int .u64 p4).wf = true) (w : World) : Calls Try.prog 4 #[.agg ⟨[.int .i64 k, .int .i64 m, .int .i64 i, .int .i64 o, .int .i64 s, .int .u32 num, .int .u64 p0, .int .u64 p1, .int .u64 p2, .int .u64 p3, .int .u64 p4]⟩, .agg ⟨[.int .i64 j, .int .i64 d1, .int .i64 d2, .int .i64 d3, .int .i64 d4, .int .u32 num2, .int .u64 q0, .int .u64 q1, .int .u64 q2, .int .u64 q3, .int .u64 q4]⟩] w fun e w' => e = .returned (.bool true) ∧ Gr w w' := by
  have q := bounds_u32 w_num
  obtain ⟨num, rfl⟩ : ∃ v : BitVec 64, num = N v := uB_eq (decide_eq_true ⟨q.1, by have := q.2; omega⟩)
  obtain ⟨p0, rfl⟩ := wf_N w_p0
  obtain ⟨p1, rfl⟩ := wf_N w_p1
  obtain ⟨p2, rfl⟩ := wf_N w_p2
  obtain ⟨p3, rfl⟩ := wf_N w_p3
  obtain ⟨p4, rfl⟩ := wf_N w_p4
  have h5 : IntKind.u64.wrap (N num) = N num := by rw [u64_wrap, ofInt_N]
  have wA : nW (madeI (IntKind.u64.wrap (N num)) (N p0) (N p1) (N p2) (N p3) (N p4)) = true := nW_made (uB_N p0)
  have fW : (nW (madeI (IntKind.u64.wrap (N num)) (N p0) (N p1) (N p2) (N p3) (N p4)) && nW (madeI (IntKind.u64.wrap (N num)) (N p0) (N p1) (N p2) (N p3) (N p4))) = true := by rw [wA]; rfl
  have fI : (!(nInI (madeI (IntKind.u64.wrap (N num)) (N p0) (N p1) (N p2) (N p3) (N p4)) (madeI (IntKind.u64.wrap (N num)) (N p0) (N p1) (N p2) (N p3) (N p4)))) = false := by rw [h5, in_self]; rfl
  have fm : (m != m) = false := by simp
  have fo : (o != o) = false := by simp
  have fs : decide (s > s) = false := by simp
  have fx : (o != (IntKind.i64.wrap (BitVec.ofInt IntKind.i64.bits o ^^^ BitVec.ofInt IntKind.i64.bits 1).toNat)) = true := by rw [bne, xor_ne]; rfl
  have fi : (i == i) = true := by simp
  have fix : (i == (IntKind.i64.wrap (BitVec.ofInt IntKind.i64.bits i ^^^ BitVec.ofInt IntKind.i64.bits 1).toNat)) = false := xor_ne i
  cases e0 : (k == 0) with
  | true =>
    obtain rfl : k = 0 := by simpa using e0
    exact ki0 m i s o (N num) (N p0) (N p1) (N p2) (N p3) (N p4) j d1 d2 d3 d4 num2 q0 q1 q2 q3 q4 csN w
  | false =>
    cases e1 : (k == 1) with
    | true =>
      obtain rfl : k = 1 := by simpa using e1
      cases kj : ((1 : Int) != j) with
      | true => exact ki11 m i s o (N num) (N p0) (N p1) (N p2) (N p3) (N p4) j d1 d2 d3 d4 num2 q0 q1 q2 q3 q4 (csT fW (csF fI (csT kj (csT kj csN)))) w
      | false => exact ki10 m i s o (N num) (N p0) (N p1) (N p2) (N p3) (N p4) j d1 d2 d3 d4 num2 q0 q1 q2 q3 q4 (csT fW (csF fI (csF kj csN))) w
    | false =>
      cases e6 : (k == 6) with
      | true =>
        obtain rfl : k = 6 := by simpa using e6
        cases kj : ((6 : Int) != j) with
        | true => exact ki61 m i s o (N num) (N p0) (N p1) (N p2) (N p3) (N p4) j d1 d2 d3 d4 num2 q0 q1 q2 q3 q4 (csF fm (csF fo (csF fs (csT fW (csF fI (csT kj (csT kj (csF fm (csF fo (csF fs (csT fW (csF fI (csT fi (csF fix (csF fm (csF fo (csF fs (csT fW (csF fI (csF fm (csF fo (csF fs (csT fW (csF fI (csF fm (csT fx csN)))))))))))))))))))))))))) w
        | false => exact ki60 m i s o (N num) (N p0) (N p1) (N p2) (N p3) (N p4) j d1 d2 d3 d4 num2 q0 q1 q2 q3 q4 (csF fm (csF fo (csF fs (csT fW (csF fI (csF kj (csF fm (csF fo (csF fs (csT fW (csF fI (csT fi (csF fix (csF fm (csF fo (csF fs (csT fW (csF fI (csF fm (csF fo (csF fs (csT fW (csF fI (csF fm (csT fx csN))))))))))))))))))))))))) w
      | false =>
        cases e7 : (k == 7) with
        | true =>
          obtain rfl : k = 7 := by simpa using e7
          cases kj : ((7 : Int) != j) with
          | true => exact ki71 m i s o (N num) (N p0) (N p1) (N p2) (N p3) (N p4) j d1 d2 d3 d4 num2 q0 q1 q2 q3 q4 (csF fm (csF fo (csF fs (csT fW (csF fI (csT kj (csT kj (csF fm (csF fo (csF fs (csT fW (csF fI (csT fi (csF fix (csF fm (csF fo (csF fs (csT fW (csF fI (csF fm (csF fo (csF fs (csT fW (csF fI (csF fm (csT fx csN)))))))))))))))))))))))))) w
          | false => exact ki70 m i s o (N num) (N p0) (N p1) (N p2) (N p3) (N p4) j d1 d2 d3 d4 num2 q0 q1 q2 q3 q4 (csF fm (csF fo (csF fs (csT fW (csF fI (csF kj (csF fm (csF fo (csF fs (csT fW (csF fI (csT fi (csF fix (csF fm (csF fo (csF fs (csT fW (csF fI (csF fm (csF fo (csF fs (csT fW (csF fI (csF fm (csT fx csN))))))))))))))))))))))))) w
        | false =>
          have kk : (k != k) = false := by simp
          have kn : (k != 0) = true := by rw [bne, e0]; rfl
          cases kj : (k != j) with
          | true =>
            cases kl : decide (k ≤ 1) with
            | true => exact kik11 k m i s o (N num) (N p0) (N p1) (N p2) (N p3) (N p4) j d1 d2 d3 d4 num2 q0 q1 q2 q3 q4 (csF e0 (csF kk (csF e1 (csF fm (csF fo (csF fs (csT fW (csF fI (csF e6 (csF e7 (csT kn (csT kj (csF e0 (csT kj (csF e6 (csF e7 (csT kl csN))))))))))))))))) w
            | false => exact kik10 k m i s o (N num) (N p0) (N p1) (N p2) (N p3) (N p4) j d1 d2 d3 d4 num2 q0 q1 q2 q3 q4 (csF e0 (csF kk (csF e1 (csF fm (csF fo (csF fs (csT fW (csF fI (csF e6 (csF e7 (csT kn (csT kj (csF e0 (csT kj (csF e6 (csF e7 (csF kl (csF e0 (csF kk (csF e1 (csF fm (csT fx csN)))))))))))))))))))))) w
          | false =>
            cases kl : decide (k ≤ 1) with
            | true => exact kik01 k m i s o (N num) (N p0) (N p1) (N p2) (N p3) (N p4) j d1 d2 d3 d4 num2 q0 q1 q2 q3 q4 (csF e0 (csF kk (csF e1 (csF fm (csF fo (csF fs (csT fW (csF fI (csF e6 (csF e7 (csT kn (csF kj (csF e6 (csF e7 (csT kl csN))))))))))))))) w
            | false => exact kik00 k m i s o (N num) (N p0) (N p1) (N p2) (N p3) (N p4) j d1 d2 d3 d4 num2 q0 q1 q2 q3 q4 (csF e0 (csF kk (csF e1 (csF fm (csF fo (csF fs (csT fW (csF fI (csF e6 (csF e7 (csT kn (csF kj (csF e6 (csF e7 (csF kl (csF e0 (csF kk (csF e1 (csF fm (csT fx csN)))))))))))))))))))) w
end Go.Proofs.Ytdlgebfaijlaoaa.Ex
end
