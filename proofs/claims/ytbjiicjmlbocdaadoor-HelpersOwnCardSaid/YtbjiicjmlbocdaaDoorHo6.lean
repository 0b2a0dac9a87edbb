/-
  The law HelpersOwn for numbers as they are handed in.
-/
import Derived.Test.YtbjiicjmlbocdaaDoorHo5
import Derived.OpenShut
namespace Go.Proofs.YtbjiicjmlbocdaaDoor.Ex
open Go Go.RowKit
set_option maxHeartbeats 0
set_option maxRecDepth 1000000
set_option linter.unusedVariables false
theorem ho6_walk {m : Nat} {z E a0 a1 a2 : Int} (hm : 1 ≤ m) (hm2 : m ≤ 200) (hz : 1 ≤ z) (hz2 : z ≤ 16) (hE1 : 327680 ≤ E) (hE2 : E ≤ 393215) (ha : (wi a0).tmod 201 = m) (hzz : wi (1 + (wi a2).tmod 16) = z) (hE : wu (327680 + wu a1) = E)
    (h1 : 262144 ≤ wu (262144 + (wu a2).tmod 128)) (h2 : wu (262144 + (wu a2).tmod 128) < 262272) (w : World) (hL : Laid h09 w) : Calls Tryd.prog 4 #[.int .u8 a0, .int .u16 a1, .int .u8 a2] w fun e w' => e = .returned (.bool true) ∧ Gr w w' := by
  obtain ⟨γ0, l0⟩ := ho6_0L hm hm2 hz hz2 E a0 a1 a2 (atQ (hoN6 m z E a0 a1 a2))
  obtain ⟨γ1, l1⟩ := ho6_1L hm hm2 hz hz2 E a0 a1 a2 (hoU 1 γ0)
  obtain ⟨γ2, l2⟩ := ho6_2L hm hm2 hz hz2 E a0 a1 a2 (hoU 2 γ1)
  obtain ⟨γ3, l3⟩ := ho6_3L hm hm2 hz hz2 E a0 a1 a2 (hoU 3 γ2)
  obtain ⟨γ4, l4⟩ := ho6_4L hm hm2 hz hz2 E a0 a1 a2 (hoU 4 γ3)
  have hl : LoopsOk Tryd.prog (loopQHook (ho6Ls m z E a0 a1 a2 γ0 γ1 γ2 γ3 γ4)) := loopQHook_ok fun e he => by
    simp only [ho6Ls, List.mem_cons, List.not_mem_nil, or_false] at he
    rcases he with rfl | rfl | rfl | rfl | rfl
    · exact l0
    · exact l1
    · exact l2
    · exact l3
    · exact l4
  exact reckonP_ok noNG ho3_ok (loopQHook_low _) hl (hoFi 6 m z E) 100000 300 h09 rfl rfl (ho6_run m z E a0 a1 a2 γ0 γ1 γ2 γ3 γ4) (AE.app (ho6Pre_ok hm hm2 hE1 hE2 ha hzz hE) (AE.app (ho6Eqs_ok m z E a0 a1 a2 γ0 γ1 γ2 γ3 γ4) (ho6Fin_ok hm hm2 hE1 hE2 h1 h2))) w hL
theorem ho5_walk {m : Nat} {z E a0 a1 a2 : Int} (hm : m = 0) (hm2 : m ≤ 200) (hz : 1 ≤ z) (hz2 : z ≤ 16) (hE1 : 327680 ≤ E) (hE2 : E ≤ 393215) (ha : (wi a0).tmod 201 = 0) (hzz : wi (1 + (wi a2).tmod 16) = z) (hE : wu (327680 + wu a1) = E)
    (h1 : 262144 ≤ wu (262144 + (wu a2).tmod 128)) (h2 : wu (262144 + (wu a2).tmod 128) < 262272) (w : World) (hL : Laid h09 w) : Calls Tryd.prog 4 #[.int .u8 a0, .int .u16 a1, .int .u8 a2] w fun e w' => e = .returned (.bool true) ∧ Gr w w' := by
  obtain ⟨γ0, l0⟩ := ho5_0L hm hm2 hz hz2 E a0 a1 a2 (atQ (hoN5 m z E a0 a1 a2))
  obtain ⟨γ1, l1⟩ := ho5_1L hm hm2 hz hz2 E a0 a1 a2 (hoU 1 γ0)
  obtain ⟨γ2, l2⟩ := ho5_2L hm hm2 hz hz2 E a0 a1 a2 (hoU 2 γ1)
  obtain ⟨γ3, l3⟩ := ho5_3L hm hm2 hz hz2 E a0 a1 a2 (hoU 3 γ2)
  obtain ⟨γ4, l4⟩ := ho5_4L hm hm2 hz hz2 E a0 a1 a2 (hoU 4 γ3)
  have hl : LoopsOk Tryd.prog (loopQHook (ho5Ls m z E a0 a1 a2 γ0 γ1 γ2 γ3 γ4)) := loopQHook_ok fun e he => by
    simp only [ho5Ls, List.mem_cons, List.not_mem_nil, or_false] at he
    rcases he with rfl | rfl | rfl | rfl | rfl
    · exact l0
    · exact l1
    · exact l2
    · exact l3
    · exact l4
  exact reckonP_ok noNG ho3_ok (loopQHook_low _) hl (hoFi 5 0 z E) 100000 300 h09 rfl rfl (ho5_run m z E a0 a1 a2 γ0 γ1 γ2 γ3 γ4) (AE.app (ho5Pre_ok hm hm2 hE1 hE2 ha hzz hE) (AE.app (ho5Eqs_ok m z E a0 a1 a2 γ0 γ1 γ2 γ3 γ4) (ho5Fin_ok hm hm2 hE1 hE2 h1 h2))) w hL
theorem helpersOwn_law (a0 a1 a2 : Int) (w0 : (Lit.int .u8 a0).wf = true) (w1 : (Lit.int .u16 a1).wf = true) (w2 : (Lit.int .u8 a2).wf = true) (w : World) (hT : TabAt w) :
    Calls Tryd.prog 4 #[.int .u8 a0, .int .u16 a1, .int .u8 a2] w fun e w' => e = .returned (.bool true) ∧ Gr w w' := by
  simp [Lit.wf, IntKind.min, IntKind.max, IntKind.signed, IntKind.bits] at w0 w1 w2
  have p1 := Int.tmod_nonneg 201 w0.1
  have p2 := Int.tmod_lt_of_pos a0 (show (0 : Int) < 201 by decide)
  have z1 := Int.tmod_nonneg 16 w2.1
  have z2 := Int.tmod_lt_of_pos a2 (show (0 : Int) < 16 by decide)
  have n1 := Int.tmod_nonneg 128 w2.1
  have n2 := Int.tmod_lt_of_pos a2 (show (0 : Int) < 128 by decide)
  have e0 : wi a0 = a0 := wi_id (by omega) (by omega)
  have e2 : wi a2 = a2 := wi_id (by omega) (by omega)
  have u2 : wu a2 = a2 := wu_id (by omega) (by omega)
  have hzz : wi (1 + (wi a2).tmod 16) = 1 + a2.tmod 16 := by rw [e2, wi_id (by omega) (by omega)]
  have hE : wu (327680 + wu a1) = 327680 + a1 := by rw [wu_id (x := a1) (by omega) (by omega), wu_id (by omega) (by omega)]
  have hn : wu (262144 + (wu a2).tmod 128) = 262144 + a2.tmod 128 := by rw [u2, wu_id (by omega) (by omega)]
  obtain ⟨m, hm⟩ := Int.eq_ofNat_of_zero_le p1
  by_cases h0 : m = 0
  · exact ho5_walk (m := 0) rfl (by omega) (by omega) (by omega) (by omega) (by omega) (by rw [e0, hm, h0]; rfl) hzz hE (by omega) (by omega) w (laid_of_tab hT)
  · exact ho6_walk (m := m) (by omega) (by omega) (by omega) (by omega) (by omega) (by omega) (by rw [e0, hm]) hzz hE (by omega) (by omega) w (laid_of_tab hT)
end Go.Proofs.YtbjiicjmlbocdaaDoor.Ex
