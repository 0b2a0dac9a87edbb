/-
  The law MemoryWrite for inputs as they are handed in.
-/
import Derived.Test.YtkdnjphgmifkmaaMw3
import Derived.Test.YtkdnjphgmifkmaaMw5
import Derived.OpenShut
namespace Go.Proofs.Ytkdnjphgmifkmaa.Ex
open Go Go.RowKit
set_option maxHeartbeats 1000000
set_option linter.unusedVariables false
theorem ext_list (L : List UInt8) (i j : Nat) : ((⟨⟨L⟩⟩ : ByteArray).extract i j).data.toList = (L.drop i).take (j - i) := by
  rw [ByteArray.data_extract]
  simp
theorem ba_size (x : ByteArray) : x.size = x.data.toList.length := Array.length_toList.symm
theorem mw_holds (L : List UInt8) {b ad vv nn q n : Int} (h1 : 8 ≤ L.length) (h2 : L.length ≤ 300) (hb : 0 ≤ b) (hb2 : b < 4294967296) (ha : 0 ≤ ad) (hv : 0 ≤ vv) (hv2 : vv < 18446744073709551616)
    (hq : wi ((BitVec.ofInt 64 nn &&& BitVec.ofInt 64 3).toNat : Int) = q) (hn : 1 ≤ n) (hn8 : n ≤ 8) : ∀ c ∈ mwCs L b ad vv nn q n, c.1 = c.2 := by
  obtain ⟨t, ht, htn⟩ := mAt_eq (s := (L.length : Int)) (n := n) (ad := ad) hn hn8 (by omega) (by omega) ha
  obtain ⟨m, rfl⟩ := Int.eq_ofNat_of_zero_le (show 0 ≤ n by omega)
  have hwb : wu b = b := wu_id hb (by omega)
  have hE : mE L.length b = b + L.length := by unfold mE; rw [hwb, wu_id (x := (L.length : Int)) (by omega) (by omega), wu_id (by omega) (by omega)]
  have hA : mA L.length b m ad = b + t := by unfold mA; rw [hwb, ht, wu_id (x := (t : Int)) (by omega) (by omega), wu_id (by omega) (by omega)]
  have hO : mO (b + t) b = t := by unfold mO; rw [show b + (t : Int) - b = t from by omega, wu_id (by omega) (by omega), wi_id (by omega) (by omega)]
  have hu : wi ((t : Int) + m) = t + m := wi_id (by omega) (by omega)
  have h8 : wi (8 * (m : Int)) = 8 * m := wi_id (by omega) (by omega)
  have hu64 : u64B vv = true := by simp [u64B]; omega
  have hBs : (bytesS (BitVec.ofInt 64 vv) (m : Int)).size = m := bytesS_size _ _ (by omega)
  have hBl : (bytesS (BitVec.ofInt 64 vv) (m : Int)).data.toList.length = m := by rw [← ba_size, hBs]
  have hS : mSp L t vv m = mwC (L.take t ++ (bytesS (BitVec.ofInt 64 vv) m).data.toList ++ L.drop (t + m)) := by rw [mSp_eq, hBl]
  have hlen : ((L.take t ++ (bytesS (BitVec.ofInt 64 vv) m).data.toList ++ L.drop (t + m)).length : Int) = L.length := by
    simp only [List.length_append, List.length_take, List.length_drop, hBl]
    omega
  have hRd : mTx (mwC (L.take t ++ (bytesS (BitVec.ofInt 64 vv) m).data.toList ++ L.drop (t + m))) t (t + m) = bytesS (BitVec.ofInt 64 vv) m := by
    rw [mTx_eq, show ((t : Int) + m).toNat - (t : Int).toNat = m from by omega, show (t : Int).toNat = t from rfl, List.append_assoc,
      List.drop_append_of_le_length (by rw [List.length_take]; omega), List.drop_of_length_le (by rw [List.length_take]; omega), List.nil_append, List.take_append_of_le_length (by omega), List.take_of_length_le (by omega)]
  have hS1 : (mS1 L vv m t).data.toList = L.take t ++ (bytesS (BitVec.ofInt 64 vv) m).data.toList := by
    unfold mS1
    show ((⟨⟨L⟩⟩ : ByteArray).extract 0 (t : Int).toNat).data.toList ++ _ = _
    rw [ext_list]
    simp
  have hS2 : (mS2 L t m).data.toList = L.drop (t + m) := by
    unfold mS2
    rw [ext_list, hu, show ((t : Int) + m).toNat = t + m from by omega, show (⟨⟨L⟩⟩ : ByteArray).size = L.length from rfl, List.take_of_length_le (by rw [List.length_drop]; omega)]
  unfold mwCs
  rw [hE, hwb, hA, ht, hO, hu, h8, hS, hRd, mwK_eq, nW_eq hb (by omega), nW_eq (by omega) (by omega), mTx_all (by omega) hlen (by omega) (by omega), mTx_all (by omega) rfl (by omega) (by omega), mTx_all (by omega) rfl (by omega) (by omega), hS1, hS2, hq]
  have hws : wu (L.length : Int) = L.length := wu_id (by omega) (by omega)
  have z0 : ((L.length : Int) == 0) = false := by rw [beq_eq_false_iff_ne]; omega
  simp only [List.forall_mem_append, List.forall_mem_cons]
  refine ⟨⟨b0 (by omega), b0 (by omega), trivial, b0 ?_, bf z0, b0 (by omega), bf z0, b0 (by omega), b0 ?_, b0 ?_, fun _ h => by cases h⟩, clP_ok h1 h2, clP_ok h1 h2,
    ⟨b1 (by omega), b0 (by omega), fun _ h => by cases h⟩, fP_ok (o := t) (by omega) (by omega) (by omega) hn (by omega),
    ⟨slP_ok (by omega) (by omega) (by omega) (by omega), bt hu64, bt ?_, b1 (by omega), b0 (by omega), fun _ h => by cases h⟩, fP_ok (o := t) (by omega) (by omega) (by omega) hn (by omega),
    ⟨slP_ok (by omega) (by omega) (by omega) (by omega), cvP_ok (by omega) (by omega) (by omega), b1 (by omega), b0 (by omega), bf z0, b1 (by omega), b0 (by omega), fun _ h => by cases h⟩,
    txP_ok rfl hlen (by omega) (by omega),
    ⟨b0 (by omega), bf z0, b1 (by omega), b0 (by omega), fun _ h => by cases h⟩, txP_ok rfl rfl (by omega) (by omega),
    ⟨b0 (by omega), bf z0, b0 (by omega), fun _ h => by cases h⟩, txP_ok rfl rfl (by omega) (by omega),
    bt ?_, bt ?_, bt ?_, bt hu64, b1 ?_, bt ?_, b1 ?_, bt ?_, bt ?_, bt ?_, fun _ h => by cases h⟩
  · rw [wi_id (x := (L.length : Int) - m) (by omega) (by omega), wi_id (by omega) (by omega), wu_id (by omega) (by omega)]; omega
  · unfold cmpS
    rw [decide_eq_false (show ¬ (b + (L.length : Int) < b) from by omega), decide_eq_true (show b + (L.length : Int) > b from by omega)]
    decide
  · rw [show b + (L.length : Int) - b = L.length from by omega]; omega
  · rw [hBs, mwC_len]
    simp only [Bool.and_eq_true, decide_eq_true_eq]
    omega
  · rw [hu64]
    simp only [Bool.true_and, Bool.and_eq_true, decide_eq_true_eq]
    omega
  · rw [num_bytesS _ _ (by omega)]
    exact beq_self_eq_true _
  · simp only [Bool.and_eq_true, decide_eq_true_eq]
    omega
  · rw [hBs, ba_size, ext_list, List.length_take]
    omega
  · simp only [Bool.and_eq_true, decide_eq_true_eq]
    omega
  · rw [ba_size, ba_size, hS1, hS2, List.length_append, List.length_take, List.length_drop, hBl]
    omega
  · exact beq_self_eq_true _
  · exact beq_self_eq_true _
  · exact beq_self_eq_true _
theorem memoryWrite_law (D : ByteArray) (b kd ad vv nn : Int) (w0 : D.size ≤ maxLen) (w1 : (Lit.int .u32 b).wf = true) (w2 : (Lit.int .u8 kd).wf = true) (w3 : (Lit.int .u64 ad).wf = true) (w4 : (Lit.int .u64 vv).wf = true) (w5 : (Lit.int .i64 nn).wf = true) (w : World) :
    Calls Try.prog 4 #[.string D, .int .u32 b, .agg ⟨[.int .u8 kd, .int .u64 ad, .int .u64 vv, .int .i64 nn]⟩] w fun e w' => e = .returned (.bool true) ∧ Gr w w' := by
  obtain ⟨⟨L⟩⟩ := D
  simp [Lit.wf, IntKind.min, IntKind.max, IntKind.signed, IntKind.bits] at w1 w3 w4
  by_cases h1 : L.length < 8
  · refine reckonI_ok noNG (guard_ok mwHook_ok) (mwS true false) 100000 300 [] rfl rfl (mw_few L b kd ad vv nn) ?_ w (Laid.nil w)
    intro c hc
    simp only [List.mem_cons, List.not_mem_nil, or_false] at hc
    subst hc
    exact b1 (by omega)
  by_cases h2 : 300 < L.length
  · refine reckonI_ok noNG (guard_ok mwHook_ok) (mwS false true) 100000 300 [] rfl rfl (mw_many L b kd ad vv nn) ?_ w (Laid.nil w)
    intro c hc
    simp only [List.mem_cons, List.not_mem_nil, or_false] at hc
    rcases hc with rfl | rfl
    · exact b0 (by omega)
    · exact b1 (by omega)
  have hv : (BitVec.ofInt 64 nn &&& BitVec.ofInt 64 3).toNat < 4 := by
    have e : (BitVec.ofInt 64 3 : BitVec 64).toNat = 3 := by decide
    rw [BitVec.toNat_and, e]
    have := Nat.and_le_right (n := (BitVec.ofInt 64 nn).toNat) (m := 3)
    omega
  obtain ⟨k, hk⟩ : ∃ k, (BitVec.ofInt 64 nn &&& BitVec.ofInt 64 3).toNat = k := ⟨_, rfl⟩
  have hw : ∀ q : Int, q = k → wi ((BitVec.ofInt 64 nn &&& BitVec.ofInt 64 3).toNat : Int) = q := by
    intro q hq
    rw [hk, hq]
    exact wi_id (by omega) (by omega)
  rw [hk] at hv
  have hc : k = 0 ∨ k = 1 ∨ k = 2 ∨ k = 3 := by omega
  rcases hc with rfl | rfl | rfl | rfl
  · exact reckonI_ok noNG (guard_ok mwHook_ok) (mwOrc 0) 100000 300 [] rfl rfl (mw_1 L b kd ad vv nn) (mw_holds L (by omega) (by omega) (by omega) (by omega) (by omega) (by omega) (by omega) (hw 0 rfl) (by omega) (by omega)) w (Laid.nil w)
  · exact reckonI_ok noNG (guard_ok mwHook_ok) (mwOrc 1) 100000 300 [] rfl rfl (mw_2 L b kd ad vv nn) (mw_holds L (by omega) (by omega) (by omega) (by omega) (by omega) (by omega) (by omega) (hw 1 rfl) (by omega) (by omega)) w (Laid.nil w)
  · exact reckonI_ok noNG (guard_ok mwHook_ok) (mwOrc 2) 100000 300 [] rfl rfl (mw_4 L b kd ad vv nn) (mw_holds L (by omega) (by omega) (by omega) (by omega) (by omega) (by omega) (by omega) (hw 2 rfl) (by omega) (by omega)) w (Laid.nil w)
  · exact reckonI_ok noNG (guard_ok mwHook_ok) (mwOrc 3) 100000 300 [] rfl rfl (mw_8 L b kd ad vv nn) (mw_holds L (by omega) (by omega) (by omega) (by omega) (by omega) (by omega) (by omega) (hw 3 rfl) (by omega) (by omega)) w (Laid.nil w)
end Go.Proofs.Ytkdnjphgmifkmaa.Ex
