/-
  The law MemoryEdges, reckoned.
-/
import Derived.Test.YtbjiicjmlbocdaaMe5
import Derived.OpenShut
namespace Go.Proofs.Ytbjiicjmlbocdaa.Ex
open Go Go.RowKit
set_option maxHeartbeats 0
set_option maxRecDepth 1000000
set_option linter.unusedVariables false
noncomputable def nW (b : Int) : Int := wu ((BitVec.ofInt 64 (if IntKind.u64.signed = true then -1 else IntKind.u64.max) ^^^ BitVec.ofInt 64 b).toNat : Int)
theorem nW_eq {x : Int} (h1 : 0 ≤ x) (h2 : x < 18446744073709551616) : nW x = 18446744073709551615 - x := by
  have e : (BitVec.ofInt 64 (if IntKind.u64.signed = true then -1 else IntKind.u64.max) : BitVec 64) = BitVec.allOnes 64 := by decide
  unfold nW
  rw [e, BitVec.xor_comm, BitVec.xor_allOnes, BitVec.toNat_not, BitVec.toNat_ofInt, wr64']
  omega
noncomputable def meX (m : Nat) (F : Int) (fr : Bool) : List Value := [.int .u64 F, .string (zS2 m), .bool fr]
noncomputable def mePre (m : Nat) (F a b : Int) (fr : Bool) : Cs :=
  [(wi (1 + (wi a).tmod 40), m), (wu (wu b + 100), F), (b2i (decide (0 ≤ (m : Int)) && (decide ((m : Int) ≤ m) && decide ((m : Int) ≤ 1000000))), 1),
   (b2i ((List.replicate (m : Int).toNat (Value.int .u8 0)).all isU8 && decide (0 + (m : Int).toNat ≤ (List.replicate (m : Int).toNat (Value.int .u8 0)).length)), 1),
   (wu (F + wu m), F + m), (b2i ((((⟨⟨[120]⟩⟩ : ByteArray).size : Nat) : Int) == 0), 0), (b2i (decide (wu ((⟨⟨[120]⟩⟩ : ByteArray).size : Nat) > nW (F + m))), 0),
   (b2i ((((zS m).size : Nat) : Int) == 0), 0), (b2i (decide (wu ((zS m).size : Nat) > nW F)), 0), (b2i (decide (cmpS F (F + m) < 0)), 1), (b2i (decide (wu (F + m - F) < wu ((zS m).size : Nat))), 0),
   (b2i ((mwC (zL m)).all isU8 && decide (0 + (zS m).size ≤ (mwC (zL m)).length)), 1), (b2i ([Value.int .u8 120].all isU8 && decide (0 + 1 ≤ [Value.int .u8 120].length)), 1),
   (b2i !(eqD [.int .u64 F, .string (zS2 m), .bool fr] [.int .u64 F, .string (zS m), .bool fr]), 0),
   (b2i !(eqD [.int .u64 (F + m), .string ⟨⟨[u8Of (Value.int .u8 ((120 : UInt8).toNat : Int))]⟩⟩, .bool fr] [.int .u64 (F + m), .string ⟨⟨[120]⟩⟩, .bool fr]), 0)]
theorem me_run_t (m : Nat) (F a b : Int) (β : Nat → Value) (cs : List Value) (x2 : Int) : reckonPI Try.prog meH3 (meE m F) (loopQHook [⟨meF, 1, fun _ => true, meET m F a b (meWn true) true, meH m (zS m).size F true (mwC (zL m)) 120, .exit 0, meT m F a b (meWn true) true (m + 10) β, meH m m F true cs x2, (some 7, [])⟩]) 100000 300 []
    3 [.int .u8 a, .int .u32 b, .bool true] = some (.bool true, inter (mePre m F a b true ++ [prP (meET m F a b (meWn true) true = meET m F a b (meWn true) true), prP (meH m (zS m).size F true (mwC (zL m)) 120 = meH m (zS m).size F true (mwC (zL m)) 120)])) := by kernel_rfl
theorem me_run_f (m : Nat) (F a b : Int) (β : Nat → Value) (cs : List Value) (x2 : Int) : reckonPI Try.prog meH3 (meE m F) (loopQHook [⟨meF, 1, fun _ => true, meET m F a b (meWn false) false, meH m (zS m).size F false (mwC (zL m)) 120, .exit 0, meT m F a b (meWn false) false (m + 10) β, meH m m F false cs x2, (some 7, [])⟩]) 100000 300 []
    3 [.int .u8 a, .int .u32 b, .bool false] = some (.bool true, inter (mePre m F a b false ++ [prP (meET m F a b (meWn false) false = meET m F a b (meWn false) false), prP (meH m (zS m).size F false (mwC (zL m)) 120 = meH m (zS m).size F false (mwC (zL m)) 120)])) := by kernel_rfl
theorem zL_len (m : Nat) : (zL m).length = m := by
  unfold zL
  simp
theorem zS_len (m : Nat) : (zS m).size = m := by
  show (zL m).length = m
  exact zL_len m
theorem mwC_len (M : List UInt8) : (mwC M).length = M.length := by simp [mwC]
theorem mwC_u8 (M : List UInt8) : (mwC M).all isU8 = true := List.all_eq_true.2 fun v hv => by obtain ⟨c, _, rfl⟩ := List.mem_map.1 hv; rfl
theorem mwC_back (M : List UInt8) : (mwC M).map u8Of = M := by
  unfold mwC
  rw [List.map_map]
  conv => rhs; rw [← List.map_id M]
  apply List.map_congr_left
  intro c _
  simp [u8Of]
theorem zS2_eq (m : Nat) : zS2 m = zS m := by
  unfold zS2 zS
  rw [List.drop_zero, List.take_of_length_le (by rw [mwC_len, show (zL m).length = m from zL_len m]; exact Nat.le_of_eq (zL_len m).symm), mwC_back]
theorem mePre_ok {m : Nat} {F a b : Int} (fr : Bool) (hm1 : 1 ≤ m) (hm : m ≤ 40) (hF : 100 ≤ F) (hF2 : F ≤ 4294967395) (ha : wi (1 + (wi a).tmod 40) = m) (hb : wu (wu b + 100) = F) : AE (mePre m F a b fr) := by
  have zs := zS_len m
  have e1 : wu (m : Int) = m := wu_id (by omega) (by omega)
  have e2 : wu (F + m) = F + m := wu_id (by omega) (by omega)
  refine AE.cons ha (AE.cons hb (AE.cons (bt ?_) (AE.cons (bt ?_) (AE.cons (by rw [e1, e2]) (AE.cons rfl (AE.cons (b0 ?_) (AE.cons (bf ?_) (AE.cons (b0 ?_) (AE.cons (b1 ?_) (AE.cons (b0 ?_) (AE.cons (bt ?_) (AE.cons rfl (AE.cons (bf ?_) (AE.cons (bf ?_) AE.nil))))))))))))))
  · simp only [Bool.and_eq_true, decide_eq_true_eq]; omega
  · rw [List.length_replicate]
    simp only [Bool.and_eq_true, decide_eq_true_eq]
    refine ⟨List.all_eq_true.2 fun v hv => by rw [List.eq_of_mem_replicate hv]; rfl, by omega⟩
  · rw [nW_eq (by omega) (by omega), show wu (((⟨⟨[120]⟩⟩ : ByteArray).size : Nat) : Int) = 1 from rfl]; omega
  · rw [zs, beq_eq_false_iff_ne]; omega
  · rw [zs, nW_eq (by omega) (by omega), e1]; omega
  · unfold cmpS
    rw [decide_eq_true (show F < F + m from by omega)]
    show (-1 : Int) < 0
    decide
  · rw [zs, show F + m - F = (m : Int) from by omega]; omega
  · rw [mwC_u8, mwC_len, zL_len, zs]
    simp
  · rw [zS2_eq]
    simp [eqD, eqW]
  · simp [eqD, eqW, u8Of]
theorem memoryEdges_law (a b : Int) (fr : Bool) (w0 : (Lit.int .u8 a).wf = true) (w1 : (Lit.int .u32 b).wf = true) (w : World) :
    Calls Try.prog 3 #[.int .u8 a, .int .u32 b, .bool fr] w fun e w' => e = .returned (.bool true) ∧ Gr w w' := by
  simp [Lit.wf, IntKind.min, IntKind.max, IntKind.signed, IntKind.bits] at w0 w1
  obtain ⟨m, hm⟩ := Int.eq_ofNat_of_zero_le (show 0 ≤ 1 + a.tmod 40 from by have := Int.tmod_nonneg 40 w0.1; omega)
  have h1 := Int.tmod_nonneg 40 w0.1
  have h2 := Int.tmod_lt_of_pos a (show (0 : Int) < 40 by decide)
  have ha : wi (1 + (wi a).tmod 40) = m := by rw [wi_id (x := a) (by omega) (by omega), hm, wi_id (by omega) (by omega)]
  have hb : wu (wu b + 100) = b + 100 := by rw [wu_id (x := b) (by omega) (by omega), wu_id (by omega) (by omega)]
  have hcs : MeOk m (mwC (zL m)) := ⟨mwC_u8 _, by rw [mwC_len, zL_len]⟩
  obtain ⟨β, cs, x2, hl⟩ := me_loop (m := m) (F := b + 100) (by omega) (by omega) (by omega) (by omega) a b fr (mwC (zL m)) 120 hcs
  have hp := mePre_ok (m := m) (F := b + 100) (a := a) (b := b) fr (by omega) (by omega) (by omega) (by omega) ha hb
  have hq := AE.app hp (AE.cons (prP_ok (p := meET m (b + 100) a b (meWn fr) fr = meET m (b + 100) a b (meWn fr) fr) rfl) (AE.cons (prP_ok (p := meH m (zS m).size (b + 100) fr (mwC (zL m)) 120 = meH m (zS m).size (b + 100) fr (mwC (zL m)) 120) rfl) AE.nil))
  have hL : LoopsOk Try.prog (loopQHook [⟨meF, 1, fun _ => true, meET m (b + 100) a b (meWn fr) fr, meH m (zS m).size (b + 100) fr (mwC (zL m)) 120, .exit 0, meT m (b + 100) a b (meWn fr) fr (m + 10) β, meH m m (b + 100) fr cs x2, (some 7, [])⟩]) :=
    loopQHook_ok fun e he => by rw [List.mem_singleton.1 he]; exact hl _ (zS_len m)
  cases fr
  · exact reckonP_ok noNG meH3_ok (loopQHook_low _) hL (meE m (b + 100)) 100000 300 [] rfl rfl (me_run_f m (b + 100) a b β cs x2) hq w (Laid.nil w)
  · exact reckonP_ok noNG meH3_ok (loopQHook_low _) hL (meE m (b + 100)) 100000 300 [] rfl rfl (me_run_t m (b + 100) a b β cs x2) hq w (Laid.nil w)
end Go.Proofs.Ytbjiicjmlbocdaa.Ex
