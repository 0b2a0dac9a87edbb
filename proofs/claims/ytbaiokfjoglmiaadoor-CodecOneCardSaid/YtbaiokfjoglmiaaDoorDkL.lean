/-
  Layer 11: the law CodecOne, reckoned.
-/
import Derived.Test.YtbaiokfjoglmiaaDoorDkK
import Derived.Test.YtbaiokfjoglmiaaDoorCdB
namespace Go.Proofs.YtbaiokfjoglmiaaDoor.Ex
open Go Go.RowKit
set_option linter.unusedVariables false
set_option linter.unusedSimpArgs false
set_option maxHeartbeats 0
set_option maxRecDepth 1000000
def hkL : Hook := orHook hkDec (orHook hk_valid (orHook (hkEn encB encE) codedHook))
theorem hkL_ok : HookOk Tryd.prog hkL := orHook_ok hkDec_ok (orHook_ok hk_valid_ok (orHook_ok hkEn_ok codedHook_ok))
def oOne (l : List (Nat × Value)) : Orc := fun f t _ => if Nat.beq f 6 then (l.find? (fun p => Nat.beq p.1 t)).map (·.2) else none
theorem b1 {e : Bool} (h : e = true) : b2i e = 1 := by rw [h]; rfl
theorem b0 {e : Bool} (h : e = false) : b2i e = 0 := by rw [h]; rfl
theorem lawL {hk : Hook} (hh : HookOk Tryd.prog hk) (orc : Orc) {g : FuncId} {args : List Value} {cs : Cs} (hf : args.all flat = true) (h : reckonGI Tryd.prog (guardH hk) orc 100000 300 h12 g args = some (.bool true, inter cs)) (he : AllD cs) (w : World) (hL : Laid h12 w) :
    Calls Tryd.prog g ⟨args⟩ w fun e w' => e = .returned (.bool true) ∧ Gr w w' := reckonI_ok noNG (guard_ok hh) orc 100000 300 h12 hf rfl h he w hL
def kO (s : ByteArray) (c : Int) : Int := Int.tmod (IntKind.i64.wrap c) (s.size : Int)
def c0 (s : ByteArray) (n : Int) : Cs := [(b2i (decide ((s.size : Int) > 60)), 0), (b2i ((s.size : Int) == 0), n)]
def c4 (s : ByteArray) : Cs := [(b2i (decide ((s.size : Int) = 0)), 0), (b2i (decide ((s.size : Int) ≤ 1000)), 1)]
def c3 (s : ByteArray) (K : Int) : Cs := c0 s 0 ++ (c4 s ++ [(b2i (dE s K != 0), 1), (b2i (dE s K == 110), 1), (b2i (dN s K == 0), 1), (b2i (eqD (dX s K).cells XX.z.cells), 1)])
def hO (s : ByteArray) (K : Int) : Int := IntKind.i64.wrap (K + dN s K)
def s2 (s : ByteArray) (K : Int) : ByteArray := s.extract 0 (hO s K).toNat
def c5 (s : ByteArray) (K : Int) : Cs := c0 s 0 ++ (c4 s ++ [(b2i (dE s K != 0), 0), (b2i (decide (dN s K < 1)), 0), (b2i (decide (dN s K > IntKind.i64.wrap ((s.size : Int) - K))), 0), (b2i (!(dX s K).may), 0),
  (b2i (decide (0 ≤ hO s K) && decide (hO s K ≤ (s.size : Int))), 1), (b2i (decide (((s2 s K).size : Int) ≤ 1000)), 1), (b2i (EncE.of encE (dX s K) == 0), 1),
  (b2i (decide (0 ≤ K) && (decide (K ≤ hO s K) && decide (hO s K ≤ (s.size : Int)))), 1), (b2i (EncB.of encB (dX s K) == (s.extract K.toNat (hO s K).toNat).data.toList), 1),
  (b2i (eqD (dX (s2 s K) K).cells (dX s K).cells), 1), (b2i (dN (s2 s K) K == dN s K), 1), (b2i (dE (s2 s K) K == 0), 1)])
theorem one_a (s : ByteArray) (c : Int) (h : (s.size : Int) > 60) (w : World) (hL : Laid h12 w) : Calls Tryd.prog 6 ⟨[.string s, .int .u8 c]⟩ w fun e w' => e = .returned (.bool true) ∧ Gr w w' :=
  lawL hkL_ok (oOne [(16, .bool true)]) (cs := [(b2i (decide ((s.size : Int) > 60)), 1)]) rfl (by kernel_rfl) (AllD.cons (b1 (decide_eq_true h)) AllD.nil) w hL
theorem one_b (s : ByteArray) (c : Int) (h : ¬ (s.size : Int) > 60) (h0 : ((s.size : Int) == 0) = true) (w : World) (hL : Laid h12 w) : Calls Tryd.prog 6 ⟨[.string s, .int .u8 c]⟩ w fun e w' => e = .returned (.bool true) ∧ Gr w w' :=
  lawL hkL_ok (oOne [(16, .bool false), (20, .bool true)]) (cs := c0 s 1) rfl (by kernel_rfl) (AllD.cons (b0 (decide_eq_false h)) (AllD.cons (b1 h0) AllD.nil)) w hL
theorem one_c (s : ByteArray) (c : Int) (he : AllD (c3 s (kO s c))) (w : World) (hL : Laid h12 w) : Calls Tryd.prog 6 ⟨[.string s, .int .u8 c]⟩ w fun e w' => e = .returned (.bool true) ∧ Gr w w' :=
  lawL hkL_ok (oOne [(16, .bool false), (20, .bool false), (27, .nilIface), (36, .bool true), (38, .bool true), (41, .bool true), (46, .bool true)]) (cs := c3 s (kO s c)) rfl (by kernel_rfl) he w hL
theorem one_d (s : ByteArray) (c : Int) (he : AllD (c5 s (kO s c))) (w : World) (hL : Laid h12 w) : Calls Tryd.prog 6 ⟨[.string s, .int .u8 c]⟩ w fun e w' => e = .returned (.bool true) ∧ Gr w w' :=
  lawL hkL_ok (oOne [(16, .bool false), (20, .bool false), (27, .nilIface), (36, .bool false), (52, .bool false), (59, .bool false), (64, .bool false), (76, .nilIface), (83, .bool true), (91, .nilIface), (92, .bool true), (97, .bool true), (102, .bool true), (106, .bool true)]) (cs := c5 s (kO s c)) rfl (by kernel_rfl) he w hL
theorem eqD_cells (x : XX) : eqD x.cells x.cells = true := by simp [XX.cells, xD, eqD, eqW]
theorem c0_ok {s : ByteArray} (h : ¬ (s.size : Int) > 60) (h0 : (s.size : Int) ≠ 0) : AllD (c0 s 0) := AllD.cons (b0 (decide_eq_false h)) (AllD.cons (b0 (beq_eq_false_iff_ne.2 h0)) AllD.nil)
theorem c4_ok {s : ByteArray} (h : ¬ (s.size : Int) > 60) (h0 : (s.size : Int) ≠ 0) : AllD (c4 s) := AllD.cons (b0 (decide_eq_false h0)) (AllD.cons (b1 (decide_eq_true (by omega))) AllD.nil)
theorem codecOne_walk (s : ByteArray) (c : Int) (hc : (Lit.int .u8 c).wf = true) (w : World) (hL : Laid h12 w) : Calls Tryd.prog 6 ⟨[.string s, .int .u8 c]⟩ w fun e w' => e = .returned (.bool true) ∧ Gr w w' := by
  by_cases h : (s.size : Int) > 60
  · exact one_a s c h w hL
  by_cases h0 : (s.size : Int) = 0
  · exact one_b s c h (by rw [h0]; rfl) w hL
  rcases Bool.eq_false_or_eq_true (okD s (kO s c)) with hk | hk
  · refine one_d s c ?_ w hL
    generalize kO s c = K at hk ⊢
    have O := one_ok hk
    generalize readB (bt s K) = x at O
    have hlo := O.lo
    have hhi := O.hi
    have hfit := O.fit
    have l1 := O.l1
    have l10 := O.l10
    have eH : hO s K = K + (x.by.length : Int) := by
      unfold hO
      rw [O.N, i64_idD _ (by omega) (by omega)]
    have eW : IntKind.i64.wrap ((s.size : Int) - K) = (s.size : Int) - K := i64_idD _ (by omega) (by omega)
    have e2 : s2 s K = s.extract 0 (K + (x.by.length : Int)).toNat := by unfold s2; rw [eH]
    have hsz : ((s2 s K).size : Int) ≤ 1000 := by
      rw [size_list, e2, ext_list, List.length_take, List.drop_zero, ← size_list]
      omega
    have hsz' : decide (((s2 s K).size : Int) ≤ 1000) = true := decide_eq_true hsz
    unfold c5
    refine ap (c0_ok h h0) (ap (c4_ok h h0) ?_)
    rw [hsz', e2, eH, O.X, O.N, O.E, O.X2, O.N2, O.E2, eW, by_of O.may, e_of O.may, O.may, O.bytes, eqD_cells]
    refine AllD.cons rfl (AllD.cons (b0 (decide_eq_false (by omega))) (AllD.cons (b0 (decide_eq_false (by omega))) (AllD.cons rfl (AllD.cons ?_ (AllD.cons rfl (AllD.cons rfl (AllD.cons ?_ (AllD.cons (b1 (by simp)) (AllD.cons rfl (AllD.cons (b1 (by simp)) (AllD.cons rfl AllD.nil)))))))))))
    · exact b1 (by rw [decide_eq_true (show 0 ≤ K + (x.by.length : Int) by omega), decide_eq_true hfit]; rfl)
    · exact b1 (by rw [decide_eq_true hlo, decide_eq_true (show K ≤ K + (x.by.length : Int) by omega), decide_eq_true hfit]; rfl)
  · refine one_c s c ?_ w hL
    generalize kO s c = K at hk ⊢
    unfold c3
    refine ap (c0_ok h h0) (ap (c4_ok h h0) ?_)
    rw [dX_no hk, dN_no hk, dE_no hk]
    exact AllD.cons rfl (AllD.cons rfl (AllD.cons rfl (AllD.cons (b1 (eqD_cells XX.z)) AllD.nil)))
end Go.Proofs.YtbaiokfjoglmiaaDoor.Ex
