/-
  Lemmas for the laws of this seat, part K: Sc5a, Sc5b, Sc5c, Sc5d, Sc5, Law17e, PostGr.
-/
import Derived.Test.YtchjneodjaakdaaGreatPackJ
import Derived.ChangeSame
section
namespace Go.Proofs.YtchjneodjaakdaaGreat.Ex
open Go Go.RowKit
open Go.Proofs.YtchjneodjaakdaaGreat.Sc (firstV firstOk lastV lastOk)
def condI (x : Int) (wide : Bool) (a b : Int) : Bool := condS x wide (B a) (B b)
theorem c_holds (x : Int) (wide : Bool) (a b : Int) (hw : (uB a && uB b) = true) (w : World) : Calls Tryz.prog 32 #[.int .u8 x, .bool wide, .int .u64 a, .int .u64 b] w fun e w' => e = .returned (.bool (condI x wide a b)) ∧ Gr w w' := by
  simp only [Bool.and_eq_true] at hw
  obtain ⟨va, rfl⟩ := uB_eq hw.1
  obtain ⟨vb, rfl⟩ := uB_eq hw.2
  simp only [condI, B, ofInt_N]
  cases wide
  · exact (holds32 x va vb w).mono fun e w' h => ⟨h.1, Gr.of_grown h.2⟩
  · exact (holds64 x va vb w).mono fun e w' h => ⟨h.1, Gr.of_grown h.2⟩
def hk_holds : Hook := fun f args _ =>
  if Nat.beq f 32 then
    match args with
    | [.int .u8 a, .bool b, .int .u64 c, .int .u64 d] => some (.bool (condI a b c d), [(b2i (uB c && uB d), 1)])
    | _ => none
  else none
theorem hk_holds_ok : HookOk Tryz.prog hk_holds := by
  intro f args h v cs hv hc wb k s w H
  unfold hk_holds at hv
  split at hv
  · rename_i hf
    obtain rfl := Nat.eq_of_beq_eq_true hf
    split at hv
    · rename_i a b c d
      cases hv
      have hw := pair1 hc rfl
      exact c_holds a b c d hw w
    · cases hv
  · cases hv
def hkn1 : Hook := orHook hk_cmp (orHook hk_hc (orHook hk_holds (hk9)))
theorem hkn1_ok : HookOk Tryz.prog hkn1 := orHook_ok hk_cmp_ok (orHook_ok hk_hc_ok (orHook_ok hk_holds_ok (hk9_ok)))
def isK (op : Int) : Bool := op == 16 || op == 80 || op == 64 || op == 32 || op == 48 || op == 96 || op == 112 || op == 160 || op == 176 || op == 192 || op == 208
def opp (op : Int) : Int := if op = 16 then 80 else if op = 80 then 16 else if op = 32 then 176 else if op = 48 then 160 else if op = 96 then 208 else if op = 112 then 192 else if op = 160 then 48 else if op = 176 then 32 else if op = 192 then 112 else if op = 208 then 96 else 255
def asK (o : Int) (wide : Bool) (a b : NI) : N3 := if wide then cmpI o a b else hcI o a b
def asY (op : Int) (wide holds : Bool) (a b : NI) : N3 :=
  if isK op then asK (if holds then op else opp op) wide (tightI a) (tightI b)
  else if condI op wide 0 0 == holds then (tightI a, tightI b, true) else nil3
def asI (op : Int) (wide holds : Bool) (a b : NI) : N3 := if tightK a then (if tightK b then asY op wide holds a b else nil3) else nil3
def u8B (x : Int) : Bool := decide (0 ≤ x ∧ x < 256)
set_option maxHeartbeats 0 in
set_option maxRecDepth 1000000 in
theorem as_n00 (op : Int) (wide holds : Bool) (a b : NI) (he : ([(b2i (nW a), 1), (b2i (tightK a), 0), (b2i (nW b), 1), (b2i (tightK b), 0)] : Cs).map (·.1) = ([(b2i (nW a), 1), (b2i (tightK a), 0), (b2i (nW b), 1), (b2i (tightK b), 0)] : Cs).map (·.2)) (w : World) : Calls Tryz.prog 14 #[.int .u8 op, .bool wide, .bool holds, VN a, VN b] w fun e w' => e = .returned (V3 nil3) ∧ Gr w w' :=
  rk hkn1_ok (oAt 14 [(21, false), (26, false)]) (cs := ([(b2i (nW a), 1), (b2i (tightK a), 0), (b2i (nW b), 1), (b2i (tightK b), 0)] : Cs)) rfl (by kernel_rfl) (by kernel_rfl) he w
set_option maxHeartbeats 0 in
set_option maxRecDepth 1000000 in
theorem as_n01 (op : Int) (wide holds : Bool) (a b : NI) (he : ([(b2i (nW a), 1), (b2i (tightK a), 0), (b2i (nW b), 1), (b2i (tightK b), 1)] : Cs).map (·.1) = ([(b2i (nW a), 1), (b2i (tightK a), 0), (b2i (nW b), 1), (b2i (tightK b), 1)] : Cs).map (·.2)) (w : World) : Calls Tryz.prog 14 #[.int .u8 op, .bool wide, .bool holds, VN a, VN b] w fun e w' => e = .returned (V3 nil3) ∧ Gr w w' :=
  rk hkn1_ok (oAt 14 [(21, false), (26, true)]) (cs := ([(b2i (nW a), 1), (b2i (tightK a), 0), (b2i (nW b), 1), (b2i (tightK b), 1)] : Cs)) rfl (by kernel_rfl) (by kernel_rfl) he w
set_option maxHeartbeats 0 in
set_option maxRecDepth 1000000 in
theorem as_n10 (op : Int) (wide holds : Bool) (a b : NI) (he : ([(b2i (nW a), 1), (b2i (tightK a), 1), (b2i (nW b), 1), (b2i (tightK b), 0)] : Cs).map (·.1) = ([(b2i (nW a), 1), (b2i (tightK a), 1), (b2i (nW b), 1), (b2i (tightK b), 0)] : Cs).map (·.2)) (w : World) : Calls Tryz.prog 14 #[.int .u8 op, .bool wide, .bool holds, VN a, VN b] w fun e w' => e = .returned (V3 nil3) ∧ Gr w w' :=
  rk hkn1_ok (oAt 14 [(21, true), (26, false)]) (cs := ([(b2i (nW a), 1), (b2i (tightK a), 1), (b2i (nW b), 1), (b2i (tightK b), 0)] : Cs)) rfl (by kernel_rfl) (by kernel_rfl) he w
set_option maxHeartbeats 0 in
set_option maxRecDepth 1000000 in
theorem as_16_00 (a b : NI) (he : ([(b2i (nW a), 1), (b2i (tightK a), 1), (b2i (nW b), 1), (b2i (tightK b), 1), (b2i (isC 80 && (nW (tightI a) && nW (tightI b))), 1)] : Cs).map (·.1) = ([(b2i (nW a), 1), (b2i (tightK a), 1), (b2i (nW b), 1), (b2i (tightK b), 1), (b2i (isC 80 && (nW (tightI a) && nW (tightI b))), 1)] : Cs).map (·.2)) (w : World) : Calls Tryz.prog 14 #[.int .u8 16, .bool false, .bool false, VN a, VN b] w fun e w' => e = .returned (V3 (hcI 80 (tightI a) (tightI b))) ∧ Gr w w' :=
  rk hkn1_ok (oAt 14 [(21, true), (26, true)]) (cs := ([(b2i (nW a), 1), (b2i (tightK a), 1), (b2i (nW b), 1), (b2i (tightK b), 1), (b2i (isC 80 && (nW (tightI a) && nW (tightI b))), 1)] : Cs)) rfl (by kernel_rfl) (by kernel_rfl) he w
set_option maxHeartbeats 0 in
set_option maxRecDepth 1000000 in
theorem as_16_01 (a b : NI) (he : ([(b2i (nW a), 1), (b2i (tightK a), 1), (b2i (nW b), 1), (b2i (tightK b), 1), (b2i (isC 16 && (nW (tightI a) && nW (tightI b))), 1)] : Cs).map (·.1) = ([(b2i (nW a), 1), (b2i (tightK a), 1), (b2i (nW b), 1), (b2i (tightK b), 1), (b2i (isC 16 && (nW (tightI a) && nW (tightI b))), 1)] : Cs).map (·.2)) (w : World) : Calls Tryz.prog 14 #[.int .u8 16, .bool false, .bool true, VN a, VN b] w fun e w' => e = .returned (V3 (hcI 16 (tightI a) (tightI b))) ∧ Gr w w' :=
  rk hkn1_ok (oAt 14 [(21, true), (26, true)]) (cs := ([(b2i (nW a), 1), (b2i (tightK a), 1), (b2i (nW b), 1), (b2i (tightK b), 1), (b2i (isC 16 && (nW (tightI a) && nW (tightI b))), 1)] : Cs)) rfl (by kernel_rfl) (by kernel_rfl) he w
set_option maxHeartbeats 0 in
set_option maxRecDepth 1000000 in
theorem as_16_10 (a b : NI) (he : ([(b2i (nW a), 1), (b2i (tightK a), 1), (b2i (nW b), 1), (b2i (tightK b), 1), (b2i (isC 80 && (nW (tightI a) && nW (tightI b))), 1)] : Cs).map (·.1) = ([(b2i (nW a), 1), (b2i (tightK a), 1), (b2i (nW b), 1), (b2i (tightK b), 1), (b2i (isC 80 && (nW (tightI a) && nW (tightI b))), 1)] : Cs).map (·.2)) (w : World) : Calls Tryz.prog 14 #[.int .u8 16, .bool true, .bool false, VN a, VN b] w fun e w' => e = .returned (V3 (cmpI 80 (tightI a) (tightI b))) ∧ Gr w w' :=
  rk hkn1_ok (oAt 14 [(21, true), (26, true)]) (cs := ([(b2i (nW a), 1), (b2i (tightK a), 1), (b2i (nW b), 1), (b2i (tightK b), 1), (b2i (isC 80 && (nW (tightI a) && nW (tightI b))), 1)] : Cs)) rfl (by kernel_rfl) (by kernel_rfl) he w
set_option maxHeartbeats 0 in
set_option maxRecDepth 1000000 in
theorem as_16_11 (a b : NI) (he : ([(b2i (nW a), 1), (b2i (tightK a), 1), (b2i (nW b), 1), (b2i (tightK b), 1), (b2i (isC 16 && (nW (tightI a) && nW (tightI b))), 1)] : Cs).map (·.1) = ([(b2i (nW a), 1), (b2i (tightK a), 1), (b2i (nW b), 1), (b2i (tightK b), 1), (b2i (isC 16 && (nW (tightI a) && nW (tightI b))), 1)] : Cs).map (·.2)) (w : World) : Calls Tryz.prog 14 #[.int .u8 16, .bool true, .bool true, VN a, VN b] w fun e w' => e = .returned (V3 (cmpI 16 (tightI a) (tightI b))) ∧ Gr w w' :=
  rk hkn1_ok (oAt 14 [(21, true), (26, true)]) (cs := ([(b2i (nW a), 1), (b2i (tightK a), 1), (b2i (nW b), 1), (b2i (tightK b), 1), (b2i (isC 16 && (nW (tightI a) && nW (tightI b))), 1)] : Cs)) rfl (by kernel_rfl) (by kernel_rfl) he w
set_option maxHeartbeats 0 in
set_option maxRecDepth 1000000 in
theorem as_80_00 (a b : NI) (he : ([(b2i (nW a), 1), (b2i (tightK a), 1), (b2i (nW b), 1), (b2i (tightK b), 1), (b2i (isC 16 && (nW (tightI a) && nW (tightI b))), 1)] : Cs).map (·.1) = ([(b2i (nW a), 1), (b2i (tightK a), 1), (b2i (nW b), 1), (b2i (tightK b), 1), (b2i (isC 16 && (nW (tightI a) && nW (tightI b))), 1)] : Cs).map (·.2)) (w : World) : Calls Tryz.prog 14 #[.int .u8 80, .bool false, .bool false, VN a, VN b] w fun e w' => e = .returned (V3 (hcI 16 (tightI a) (tightI b))) ∧ Gr w w' :=
  rk hkn1_ok (oAt 14 [(21, true), (26, true)]) (cs := ([(b2i (nW a), 1), (b2i (tightK a), 1), (b2i (nW b), 1), (b2i (tightK b), 1), (b2i (isC 16 && (nW (tightI a) && nW (tightI b))), 1)] : Cs)) rfl (by kernel_rfl) (by kernel_rfl) he w
set_option maxHeartbeats 0 in
set_option maxRecDepth 1000000 in
theorem as_80_01 (a b : NI) (he : ([(b2i (nW a), 1), (b2i (tightK a), 1), (b2i (nW b), 1), (b2i (tightK b), 1), (b2i (isC 80 && (nW (tightI a) && nW (tightI b))), 1)] : Cs).map (·.1) = ([(b2i (nW a), 1), (b2i (tightK a), 1), (b2i (nW b), 1), (b2i (tightK b), 1), (b2i (isC 80 && (nW (tightI a) && nW (tightI b))), 1)] : Cs).map (·.2)) (w : World) : Calls Tryz.prog 14 #[.int .u8 80, .bool false, .bool true, VN a, VN b] w fun e w' => e = .returned (V3 (hcI 80 (tightI a) (tightI b))) ∧ Gr w w' :=
  rk hkn1_ok (oAt 14 [(21, true), (26, true)]) (cs := ([(b2i (nW a), 1), (b2i (tightK a), 1), (b2i (nW b), 1), (b2i (tightK b), 1), (b2i (isC 80 && (nW (tightI a) && nW (tightI b))), 1)] : Cs)) rfl (by kernel_rfl) (by kernel_rfl) he w
set_option maxHeartbeats 0 in
set_option maxRecDepth 1000000 in
theorem as_80_10 (a b : NI) (he : ([(b2i (nW a), 1), (b2i (tightK a), 1), (b2i (nW b), 1), (b2i (tightK b), 1), (b2i (isC 16 && (nW (tightI a) && nW (tightI b))), 1)] : Cs).map (·.1) = ([(b2i (nW a), 1), (b2i (tightK a), 1), (b2i (nW b), 1), (b2i (tightK b), 1), (b2i (isC 16 && (nW (tightI a) && nW (tightI b))), 1)] : Cs).map (·.2)) (w : World) : Calls Tryz.prog 14 #[.int .u8 80, .bool true, .bool false, VN a, VN b] w fun e w' => e = .returned (V3 (cmpI 16 (tightI a) (tightI b))) ∧ Gr w w' :=
  rk hkn1_ok (oAt 14 [(21, true), (26, true)]) (cs := ([(b2i (nW a), 1), (b2i (tightK a), 1), (b2i (nW b), 1), (b2i (tightK b), 1), (b2i (isC 16 && (nW (tightI a) && nW (tightI b))), 1)] : Cs)) rfl (by kernel_rfl) (by kernel_rfl) he w
set_option maxHeartbeats 0 in
set_option maxRecDepth 1000000 in
theorem as_80_11 (a b : NI) (he : ([(b2i (nW a), 1), (b2i (tightK a), 1), (b2i (nW b), 1), (b2i (tightK b), 1), (b2i (isC 80 && (nW (tightI a) && nW (tightI b))), 1)] : Cs).map (·.1) = ([(b2i (nW a), 1), (b2i (tightK a), 1), (b2i (nW b), 1), (b2i (tightK b), 1), (b2i (isC 80 && (nW (tightI a) && nW (tightI b))), 1)] : Cs).map (·.2)) (w : World) : Calls Tryz.prog 14 #[.int .u8 80, .bool true, .bool true, VN a, VN b] w fun e w' => e = .returned (V3 (cmpI 80 (tightI a) (tightI b))) ∧ Gr w w' :=
  rk hkn1_ok (oAt 14 [(21, true), (26, true)]) (cs := ([(b2i (nW a), 1), (b2i (tightK a), 1), (b2i (nW b), 1), (b2i (tightK b), 1), (b2i (isC 80 && (nW (tightI a) && nW (tightI b))), 1)] : Cs)) rfl (by kernel_rfl) (by kernel_rfl) he w
set_option maxHeartbeats 0 in
set_option maxRecDepth 1000000 in
theorem as_64_00 (a b : NI) (he : ([(b2i (nW a), 1), (b2i (tightK a), 1), (b2i (nW b), 1), (b2i (tightK b), 1), (b2i (isC 255 && (nW (tightI a) && nW (tightI b))), 1)] : Cs).map (·.1) = ([(b2i (nW a), 1), (b2i (tightK a), 1), (b2i (nW b), 1), (b2i (tightK b), 1), (b2i (isC 255 && (nW (tightI a) && nW (tightI b))), 1)] : Cs).map (·.2)) (w : World) : Calls Tryz.prog 14 #[.int .u8 64, .bool false, .bool false, VN a, VN b] w fun e w' => e = .returned (V3 (hcI 255 (tightI a) (tightI b))) ∧ Gr w w' :=
  rk hkn1_ok (oAt 14 [(21, true), (26, true)]) (cs := ([(b2i (nW a), 1), (b2i (tightK a), 1), (b2i (nW b), 1), (b2i (tightK b), 1), (b2i (isC 255 && (nW (tightI a) && nW (tightI b))), 1)] : Cs)) rfl (by kernel_rfl) (by kernel_rfl) he w
set_option maxHeartbeats 0 in
set_option maxRecDepth 1000000 in
theorem as_64_01 (a b : NI) (he : ([(b2i (nW a), 1), (b2i (tightK a), 1), (b2i (nW b), 1), (b2i (tightK b), 1), (b2i (isC 64 && (nW (tightI a) && nW (tightI b))), 1)] : Cs).map (·.1) = ([(b2i (nW a), 1), (b2i (tightK a), 1), (b2i (nW b), 1), (b2i (tightK b), 1), (b2i (isC 64 && (nW (tightI a) && nW (tightI b))), 1)] : Cs).map (·.2)) (w : World) : Calls Tryz.prog 14 #[.int .u8 64, .bool false, .bool true, VN a, VN b] w fun e w' => e = .returned (V3 (hcI 64 (tightI a) (tightI b))) ∧ Gr w w' :=
  rk hkn1_ok (oAt 14 [(21, true), (26, true)]) (cs := ([(b2i (nW a), 1), (b2i (tightK a), 1), (b2i (nW b), 1), (b2i (tightK b), 1), (b2i (isC 64 && (nW (tightI a) && nW (tightI b))), 1)] : Cs)) rfl (by kernel_rfl) (by kernel_rfl) he w
set_option maxHeartbeats 0 in
set_option maxRecDepth 1000000 in
theorem as_64_10 (a b : NI) (he : ([(b2i (nW a), 1), (b2i (tightK a), 1), (b2i (nW b), 1), (b2i (tightK b), 1), (b2i (isC 255 && (nW (tightI a) && nW (tightI b))), 1)] : Cs).map (·.1) = ([(b2i (nW a), 1), (b2i (tightK a), 1), (b2i (nW b), 1), (b2i (tightK b), 1), (b2i (isC 255 && (nW (tightI a) && nW (tightI b))), 1)] : Cs).map (·.2)) (w : World) : Calls Tryz.prog 14 #[.int .u8 64, .bool true, .bool false, VN a, VN b] w fun e w' => e = .returned (V3 (cmpI 255 (tightI a) (tightI b))) ∧ Gr w w' :=
  rk hkn1_ok (oAt 14 [(21, true), (26, true)]) (cs := ([(b2i (nW a), 1), (b2i (tightK a), 1), (b2i (nW b), 1), (b2i (tightK b), 1), (b2i (isC 255 && (nW (tightI a) && nW (tightI b))), 1)] : Cs)) rfl (by kernel_rfl) (by kernel_rfl) he w
set_option maxHeartbeats 0 in
set_option maxRecDepth 1000000 in
theorem as_64_11 (a b : NI) (he : ([(b2i (nW a), 1), (b2i (tightK a), 1), (b2i (nW b), 1), (b2i (tightK b), 1), (b2i (isC 64 && (nW (tightI a) && nW (tightI b))), 1)] : Cs).map (·.1) = ([(b2i (nW a), 1), (b2i (tightK a), 1), (b2i (nW b), 1), (b2i (tightK b), 1), (b2i (isC 64 && (nW (tightI a) && nW (tightI b))), 1)] : Cs).map (·.2)) (w : World) : Calls Tryz.prog 14 #[.int .u8 64, .bool true, .bool true, VN a, VN b] w fun e w' => e = .returned (V3 (cmpI 64 (tightI a) (tightI b))) ∧ Gr w w' :=
  rk hkn1_ok (oAt 14 [(21, true), (26, true)]) (cs := ([(b2i (nW a), 1), (b2i (tightK a), 1), (b2i (nW b), 1), (b2i (tightK b), 1), (b2i (isC 64 && (nW (tightI a) && nW (tightI b))), 1)] : Cs)) rfl (by kernel_rfl) (by kernel_rfl) he w
set_option maxHeartbeats 0 in
set_option maxRecDepth 1000000 in
theorem as_32_00 (a b : NI) (he : ([(b2i (nW a), 1), (b2i (tightK a), 1), (b2i (nW b), 1), (b2i (tightK b), 1), (b2i (isC 176 && (nW (tightI a) && nW (tightI b))), 1)] : Cs).map (·.1) = ([(b2i (nW a), 1), (b2i (tightK a), 1), (b2i (nW b), 1), (b2i (tightK b), 1), (b2i (isC 176 && (nW (tightI a) && nW (tightI b))), 1)] : Cs).map (·.2)) (w : World) : Calls Tryz.prog 14 #[.int .u8 32, .bool false, .bool false, VN a, VN b] w fun e w' => e = .returned (V3 (hcI 176 (tightI a) (tightI b))) ∧ Gr w w' :=
  rk hkn1_ok (oAt 14 [(21, true), (26, true)]) (cs := ([(b2i (nW a), 1), (b2i (tightK a), 1), (b2i (nW b), 1), (b2i (tightK b), 1), (b2i (isC 176 && (nW (tightI a) && nW (tightI b))), 1)] : Cs)) rfl (by kernel_rfl) (by kernel_rfl) he w
set_option maxHeartbeats 0 in
set_option maxRecDepth 1000000 in
theorem as_32_01 (a b : NI) (he : ([(b2i (nW a), 1), (b2i (tightK a), 1), (b2i (nW b), 1), (b2i (tightK b), 1), (b2i (isC 32 && (nW (tightI a) && nW (tightI b))), 1)] : Cs).map (·.1) = ([(b2i (nW a), 1), (b2i (tightK a), 1), (b2i (nW b), 1), (b2i (tightK b), 1), (b2i (isC 32 && (nW (tightI a) && nW (tightI b))), 1)] : Cs).map (·.2)) (w : World) : Calls Tryz.prog 14 #[.int .u8 32, .bool false, .bool true, VN a, VN b] w fun e w' => e = .returned (V3 (hcI 32 (tightI a) (tightI b))) ∧ Gr w w' :=
  rk hkn1_ok (oAt 14 [(21, true), (26, true)]) (cs := ([(b2i (nW a), 1), (b2i (tightK a), 1), (b2i (nW b), 1), (b2i (tightK b), 1), (b2i (isC 32 && (nW (tightI a) && nW (tightI b))), 1)] : Cs)) rfl (by kernel_rfl) (by kernel_rfl) he w
set_option maxHeartbeats 0 in
set_option maxRecDepth 1000000 in
theorem as_32_10 (a b : NI) (he : ([(b2i (nW a), 1), (b2i (tightK a), 1), (b2i (nW b), 1), (b2i (tightK b), 1), (b2i (isC 176 && (nW (tightI a) && nW (tightI b))), 1)] : Cs).map (·.1) = ([(b2i (nW a), 1), (b2i (tightK a), 1), (b2i (nW b), 1), (b2i (tightK b), 1), (b2i (isC 176 && (nW (tightI a) && nW (tightI b))), 1)] : Cs).map (·.2)) (w : World) : Calls Tryz.prog 14 #[.int .u8 32, .bool true, .bool false, VN a, VN b] w fun e w' => e = .returned (V3 (cmpI 176 (tightI a) (tightI b))) ∧ Gr w w' :=
  rk hkn1_ok (oAt 14 [(21, true), (26, true)]) (cs := ([(b2i (nW a), 1), (b2i (tightK a), 1), (b2i (nW b), 1), (b2i (tightK b), 1), (b2i (isC 176 && (nW (tightI a) && nW (tightI b))), 1)] : Cs)) rfl (by kernel_rfl) (by kernel_rfl) he w
set_option maxHeartbeats 0 in
set_option maxRecDepth 1000000 in
theorem as_32_11 (a b : NI) (he : ([(b2i (nW a), 1), (b2i (tightK a), 1), (b2i (nW b), 1), (b2i (tightK b), 1), (b2i (isC 32 && (nW (tightI a) && nW (tightI b))), 1)] : Cs).map (·.1) = ([(b2i (nW a), 1), (b2i (tightK a), 1), (b2i (nW b), 1), (b2i (tightK b), 1), (b2i (isC 32 && (nW (tightI a) && nW (tightI b))), 1)] : Cs).map (·.2)) (w : World) : Calls Tryz.prog 14 #[.int .u8 32, .bool true, .bool true, VN a, VN b] w fun e w' => e = .returned (V3 (cmpI 32 (tightI a) (tightI b))) ∧ Gr w w' :=
  rk hkn1_ok (oAt 14 [(21, true), (26, true)]) (cs := ([(b2i (nW a), 1), (b2i (tightK a), 1), (b2i (nW b), 1), (b2i (tightK b), 1), (b2i (isC 32 && (nW (tightI a) && nW (tightI b))), 1)] : Cs)) rfl (by kernel_rfl) (by kernel_rfl) he w
set_option maxHeartbeats 0 in
set_option maxRecDepth 1000000 in
theorem as_48_00 (a b : NI) (he : ([(b2i (nW a), 1), (b2i (tightK a), 1), (b2i (nW b), 1), (b2i (tightK b), 1), (b2i (isC 160 && (nW (tightI a) && nW (tightI b))), 1)] : Cs).map (·.1) = ([(b2i (nW a), 1), (b2i (tightK a), 1), (b2i (nW b), 1), (b2i (tightK b), 1), (b2i (isC 160 && (nW (tightI a) && nW (tightI b))), 1)] : Cs).map (·.2)) (w : World) : Calls Tryz.prog 14 #[.int .u8 48, .bool false, .bool false, VN a, VN b] w fun e w' => e = .returned (V3 (hcI 160 (tightI a) (tightI b))) ∧ Gr w w' :=
  rk hkn1_ok (oAt 14 [(21, true), (26, true)]) (cs := ([(b2i (nW a), 1), (b2i (tightK a), 1), (b2i (nW b), 1), (b2i (tightK b), 1), (b2i (isC 160 && (nW (tightI a) && nW (tightI b))), 1)] : Cs)) rfl (by kernel_rfl) (by kernel_rfl) he w
set_option maxHeartbeats 0 in
set_option maxRecDepth 1000000 in
theorem as_48_01 (a b : NI) (he : ([(b2i (nW a), 1), (b2i (tightK a), 1), (b2i (nW b), 1), (b2i (tightK b), 1), (b2i (isC 48 && (nW (tightI a) && nW (tightI b))), 1)] : Cs).map (·.1) = ([(b2i (nW a), 1), (b2i (tightK a), 1), (b2i (nW b), 1), (b2i (tightK b), 1), (b2i (isC 48 && (nW (tightI a) && nW (tightI b))), 1)] : Cs).map (·.2)) (w : World) : Calls Tryz.prog 14 #[.int .u8 48, .bool false, .bool true, VN a, VN b] w fun e w' => e = .returned (V3 (hcI 48 (tightI a) (tightI b))) ∧ Gr w w' :=
  rk hkn1_ok (oAt 14 [(21, true), (26, true)]) (cs := ([(b2i (nW a), 1), (b2i (tightK a), 1), (b2i (nW b), 1), (b2i (tightK b), 1), (b2i (isC 48 && (nW (tightI a) && nW (tightI b))), 1)] : Cs)) rfl (by kernel_rfl) (by kernel_rfl) he w
set_option maxHeartbeats 0 in
set_option maxRecDepth 1000000 in
theorem as_48_10 (a b : NI) (he : ([(b2i (nW a), 1), (b2i (tightK a), 1), (b2i (nW b), 1), (b2i (tightK b), 1), (b2i (isC 160 && (nW (tightI a) && nW (tightI b))), 1)] : Cs).map (·.1) = ([(b2i (nW a), 1), (b2i (tightK a), 1), (b2i (nW b), 1), (b2i (tightK b), 1), (b2i (isC 160 && (nW (tightI a) && nW (tightI b))), 1)] : Cs).map (·.2)) (w : World) : Calls Tryz.prog 14 #[.int .u8 48, .bool true, .bool false, VN a, VN b] w fun e w' => e = .returned (V3 (cmpI 160 (tightI a) (tightI b))) ∧ Gr w w' :=
  rk hkn1_ok (oAt 14 [(21, true), (26, true)]) (cs := ([(b2i (nW a), 1), (b2i (tightK a), 1), (b2i (nW b), 1), (b2i (tightK b), 1), (b2i (isC 160 && (nW (tightI a) && nW (tightI b))), 1)] : Cs)) rfl (by kernel_rfl) (by kernel_rfl) he w
set_option maxHeartbeats 0 in
set_option maxRecDepth 1000000 in
theorem as_48_11 (a b : NI) (he : ([(b2i (nW a), 1), (b2i (tightK a), 1), (b2i (nW b), 1), (b2i (tightK b), 1), (b2i (isC 48 && (nW (tightI a) && nW (tightI b))), 1)] : Cs).map (·.1) = ([(b2i (nW a), 1), (b2i (tightK a), 1), (b2i (nW b), 1), (b2i (tightK b), 1), (b2i (isC 48 && (nW (tightI a) && nW (tightI b))), 1)] : Cs).map (·.2)) (w : World) : Calls Tryz.prog 14 #[.int .u8 48, .bool true, .bool true, VN a, VN b] w fun e w' => e = .returned (V3 (cmpI 48 (tightI a) (tightI b))) ∧ Gr w w' :=
  rk hkn1_ok (oAt 14 [(21, true), (26, true)]) (cs := ([(b2i (nW a), 1), (b2i (tightK a), 1), (b2i (nW b), 1), (b2i (tightK b), 1), (b2i (isC 48 && (nW (tightI a) && nW (tightI b))), 1)] : Cs)) rfl (by kernel_rfl) (by kernel_rfl) he w
set_option maxHeartbeats 0 in
set_option maxRecDepth 1000000 in
theorem as_96_00 (a b : NI) (he : ([(b2i (nW a), 1), (b2i (tightK a), 1), (b2i (nW b), 1), (b2i (tightK b), 1), (b2i (isC 208 && (nW (tightI a) && nW (tightI b))), 1)] : Cs).map (·.1) = ([(b2i (nW a), 1), (b2i (tightK a), 1), (b2i (nW b), 1), (b2i (tightK b), 1), (b2i (isC 208 && (nW (tightI a) && nW (tightI b))), 1)] : Cs).map (·.2)) (w : World) : Calls Tryz.prog 14 #[.int .u8 96, .bool false, .bool false, VN a, VN b] w fun e w' => e = .returned (V3 (hcI 208 (tightI a) (tightI b))) ∧ Gr w w' :=
  rk hkn1_ok (oAt 14 [(21, true), (26, true)]) (cs := ([(b2i (nW a), 1), (b2i (tightK a), 1), (b2i (nW b), 1), (b2i (tightK b), 1), (b2i (isC 208 && (nW (tightI a) && nW (tightI b))), 1)] : Cs)) rfl (by kernel_rfl) (by kernel_rfl) he w
set_option maxHeartbeats 0 in
set_option maxRecDepth 1000000 in
theorem as_96_01 (a b : NI) (he : ([(b2i (nW a), 1), (b2i (tightK a), 1), (b2i (nW b), 1), (b2i (tightK b), 1), (b2i (isC 96 && (nW (tightI a) && nW (tightI b))), 1)] : Cs).map (·.1) = ([(b2i (nW a), 1), (b2i (tightK a), 1), (b2i (nW b), 1), (b2i (tightK b), 1), (b2i (isC 96 && (nW (tightI a) && nW (tightI b))), 1)] : Cs).map (·.2)) (w : World) : Calls Tryz.prog 14 #[.int .u8 96, .bool false, .bool true, VN a, VN b] w fun e w' => e = .returned (V3 (hcI 96 (tightI a) (tightI b))) ∧ Gr w w' :=
  rk hkn1_ok (oAt 14 [(21, true), (26, true)]) (cs := ([(b2i (nW a), 1), (b2i (tightK a), 1), (b2i (nW b), 1), (b2i (tightK b), 1), (b2i (isC 96 && (nW (tightI a) && nW (tightI b))), 1)] : Cs)) rfl (by kernel_rfl) (by kernel_rfl) he w
set_option maxHeartbeats 0 in
set_option maxRecDepth 1000000 in
theorem as_96_10 (a b : NI) (he : ([(b2i (nW a), 1), (b2i (tightK a), 1), (b2i (nW b), 1), (b2i (tightK b), 1), (b2i (isC 208 && (nW (tightI a) && nW (tightI b))), 1)] : Cs).map (·.1) = ([(b2i (nW a), 1), (b2i (tightK a), 1), (b2i (nW b), 1), (b2i (tightK b), 1), (b2i (isC 208 && (nW (tightI a) && nW (tightI b))), 1)] : Cs).map (·.2)) (w : World) : Calls Tryz.prog 14 #[.int .u8 96, .bool true, .bool false, VN a, VN b] w fun e w' => e = .returned (V3 (cmpI 208 (tightI a) (tightI b))) ∧ Gr w w' :=
  rk hkn1_ok (oAt 14 [(21, true), (26, true)]) (cs := ([(b2i (nW a), 1), (b2i (tightK a), 1), (b2i (nW b), 1), (b2i (tightK b), 1), (b2i (isC 208 && (nW (tightI a) && nW (tightI b))), 1)] : Cs)) rfl (by kernel_rfl) (by kernel_rfl) he w
set_option maxHeartbeats 0 in
set_option maxRecDepth 1000000 in
theorem as_96_11 (a b : NI) (he : ([(b2i (nW a), 1), (b2i (tightK a), 1), (b2i (nW b), 1), (b2i (tightK b), 1), (b2i (isC 96 && (nW (tightI a) && nW (tightI b))), 1)] : Cs).map (·.1) = ([(b2i (nW a), 1), (b2i (tightK a), 1), (b2i (nW b), 1), (b2i (tightK b), 1), (b2i (isC 96 && (nW (tightI a) && nW (tightI b))), 1)] : Cs).map (·.2)) (w : World) : Calls Tryz.prog 14 #[.int .u8 96, .bool true, .bool true, VN a, VN b] w fun e w' => e = .returned (V3 (cmpI 96 (tightI a) (tightI b))) ∧ Gr w w' :=
  rk hkn1_ok (oAt 14 [(21, true), (26, true)]) (cs := ([(b2i (nW a), 1), (b2i (tightK a), 1), (b2i (nW b), 1), (b2i (tightK b), 1), (b2i (isC 96 && (nW (tightI a) && nW (tightI b))), 1)] : Cs)) rfl (by kernel_rfl) (by kernel_rfl) he w
set_option maxHeartbeats 0 in
set_option maxRecDepth 1000000 in
theorem as_112_00 (a b : NI) (he : ([(b2i (nW a), 1), (b2i (tightK a), 1), (b2i (nW b), 1), (b2i (tightK b), 1), (b2i (isC 192 && (nW (tightI a) && nW (tightI b))), 1)] : Cs).map (·.1) = ([(b2i (nW a), 1), (b2i (tightK a), 1), (b2i (nW b), 1), (b2i (tightK b), 1), (b2i (isC 192 && (nW (tightI a) && nW (tightI b))), 1)] : Cs).map (·.2)) (w : World) : Calls Tryz.prog 14 #[.int .u8 112, .bool false, .bool false, VN a, VN b] w fun e w' => e = .returned (V3 (hcI 192 (tightI a) (tightI b))) ∧ Gr w w' :=
  rk hkn1_ok (oAt 14 [(21, true), (26, true)]) (cs := ([(b2i (nW a), 1), (b2i (tightK a), 1), (b2i (nW b), 1), (b2i (tightK b), 1), (b2i (isC 192 && (nW (tightI a) && nW (tightI b))), 1)] : Cs)) rfl (by kernel_rfl) (by kernel_rfl) he w
set_option maxHeartbeats 0 in
set_option maxRecDepth 1000000 in
theorem as_112_01 (a b : NI) (he : ([(b2i (nW a), 1), (b2i (tightK a), 1), (b2i (nW b), 1), (b2i (tightK b), 1), (b2i (isC 112 && (nW (tightI a) && nW (tightI b))), 1)] : Cs).map (·.1) = ([(b2i (nW a), 1), (b2i (tightK a), 1), (b2i (nW b), 1), (b2i (tightK b), 1), (b2i (isC 112 && (nW (tightI a) && nW (tightI b))), 1)] : Cs).map (·.2)) (w : World) : Calls Tryz.prog 14 #[.int .u8 112, .bool false, .bool true, VN a, VN b] w fun e w' => e = .returned (V3 (hcI 112 (tightI a) (tightI b))) ∧ Gr w w' :=
  rk hkn1_ok (oAt 14 [(21, true), (26, true)]) (cs := ([(b2i (nW a), 1), (b2i (tightK a), 1), (b2i (nW b), 1), (b2i (tightK b), 1), (b2i (isC 112 && (nW (tightI a) && nW (tightI b))), 1)] : Cs)) rfl (by kernel_rfl) (by kernel_rfl) he w
set_option maxHeartbeats 0 in
set_option maxRecDepth 1000000 in
theorem as_112_10 (a b : NI) (he : ([(b2i (nW a), 1), (b2i (tightK a), 1), (b2i (nW b), 1), (b2i (tightK b), 1), (b2i (isC 192 && (nW (tightI a) && nW (tightI b))), 1)] : Cs).map (·.1) = ([(b2i (nW a), 1), (b2i (tightK a), 1), (b2i (nW b), 1), (b2i (tightK b), 1), (b2i (isC 192 && (nW (tightI a) && nW (tightI b))), 1)] : Cs).map (·.2)) (w : World) : Calls Tryz.prog 14 #[.int .u8 112, .bool true, .bool false, VN a, VN b] w fun e w' => e = .returned (V3 (cmpI 192 (tightI a) (tightI b))) ∧ Gr w w' :=
  rk hkn1_ok (oAt 14 [(21, true), (26, true)]) (cs := ([(b2i (nW a), 1), (b2i (tightK a), 1), (b2i (nW b), 1), (b2i (tightK b), 1), (b2i (isC 192 && (nW (tightI a) && nW (tightI b))), 1)] : Cs)) rfl (by kernel_rfl) (by kernel_rfl) he w
set_option maxHeartbeats 0 in
set_option maxRecDepth 1000000 in
theorem as_112_11 (a b : NI) (he : ([(b2i (nW a), 1), (b2i (tightK a), 1), (b2i (nW b), 1), (b2i (tightK b), 1), (b2i (isC 112 && (nW (tightI a) && nW (tightI b))), 1)] : Cs).map (·.1) = ([(b2i (nW a), 1), (b2i (tightK a), 1), (b2i (nW b), 1), (b2i (tightK b), 1), (b2i (isC 112 && (nW (tightI a) && nW (tightI b))), 1)] : Cs).map (·.2)) (w : World) : Calls Tryz.prog 14 #[.int .u8 112, .bool true, .bool true, VN a, VN b] w fun e w' => e = .returned (V3 (cmpI 112 (tightI a) (tightI b))) ∧ Gr w w' :=
  rk hkn1_ok (oAt 14 [(21, true), (26, true)]) (cs := ([(b2i (nW a), 1), (b2i (tightK a), 1), (b2i (nW b), 1), (b2i (tightK b), 1), (b2i (isC 112 && (nW (tightI a) && nW (tightI b))), 1)] : Cs)) rfl (by kernel_rfl) (by kernel_rfl) he w
set_option maxHeartbeats 0 in
set_option maxRecDepth 1000000 in
theorem as_160_00 (a b : NI) (he : ([(b2i (nW a), 1), (b2i (tightK a), 1), (b2i (nW b), 1), (b2i (tightK b), 1), (b2i (isC 48 && (nW (tightI a) && nW (tightI b))), 1)] : Cs).map (·.1) = ([(b2i (nW a), 1), (b2i (tightK a), 1), (b2i (nW b), 1), (b2i (tightK b), 1), (b2i (isC 48 && (nW (tightI a) && nW (tightI b))), 1)] : Cs).map (·.2)) (w : World) : Calls Tryz.prog 14 #[.int .u8 160, .bool false, .bool false, VN a, VN b] w fun e w' => e = .returned (V3 (hcI 48 (tightI a) (tightI b))) ∧ Gr w w' :=
  rk hkn1_ok (oAt 14 [(21, true), (26, true)]) (cs := ([(b2i (nW a), 1), (b2i (tightK a), 1), (b2i (nW b), 1), (b2i (tightK b), 1), (b2i (isC 48 && (nW (tightI a) && nW (tightI b))), 1)] : Cs)) rfl (by kernel_rfl) (by kernel_rfl) he w
set_option maxHeartbeats 0 in
set_option maxRecDepth 1000000 in
theorem as_160_01 (a b : NI) (he : ([(b2i (nW a), 1), (b2i (tightK a), 1), (b2i (nW b), 1), (b2i (tightK b), 1), (b2i (isC 160 && (nW (tightI a) && nW (tightI b))), 1)] : Cs).map (·.1) = ([(b2i (nW a), 1), (b2i (tightK a), 1), (b2i (nW b), 1), (b2i (tightK b), 1), (b2i (isC 160 && (nW (tightI a) && nW (tightI b))), 1)] : Cs).map (·.2)) (w : World) : Calls Tryz.prog 14 #[.int .u8 160, .bool false, .bool true, VN a, VN b] w fun e w' => e = .returned (V3 (hcI 160 (tightI a) (tightI b))) ∧ Gr w w' :=
  rk hkn1_ok (oAt 14 [(21, true), (26, true)]) (cs := ([(b2i (nW a), 1), (b2i (tightK a), 1), (b2i (nW b), 1), (b2i (tightK b), 1), (b2i (isC 160 && (nW (tightI a) && nW (tightI b))), 1)] : Cs)) rfl (by kernel_rfl) (by kernel_rfl) he w
set_option maxHeartbeats 0 in
set_option maxRecDepth 1000000 in
theorem as_160_10 (a b : NI) (he : ([(b2i (nW a), 1), (b2i (tightK a), 1), (b2i (nW b), 1), (b2i (tightK b), 1), (b2i (isC 48 && (nW (tightI a) && nW (tightI b))), 1)] : Cs).map (·.1) = ([(b2i (nW a), 1), (b2i (tightK a), 1), (b2i (nW b), 1), (b2i (tightK b), 1), (b2i (isC 48 && (nW (tightI a) && nW (tightI b))), 1)] : Cs).map (·.2)) (w : World) : Calls Tryz.prog 14 #[.int .u8 160, .bool true, .bool false, VN a, VN b] w fun e w' => e = .returned (V3 (cmpI 48 (tightI a) (tightI b))) ∧ Gr w w' :=
  rk hkn1_ok (oAt 14 [(21, true), (26, true)]) (cs := ([(b2i (nW a), 1), (b2i (tightK a), 1), (b2i (nW b), 1), (b2i (tightK b), 1), (b2i (isC 48 && (nW (tightI a) && nW (tightI b))), 1)] : Cs)) rfl (by kernel_rfl) (by kernel_rfl) he w
set_option maxHeartbeats 0 in
set_option maxRecDepth 1000000 in
theorem as_160_11 (a b : NI) (he : ([(b2i (nW a), 1), (b2i (tightK a), 1), (b2i (nW b), 1), (b2i (tightK b), 1), (b2i (isC 160 && (nW (tightI a) && nW (tightI b))), 1)] : Cs).map (·.1) = ([(b2i (nW a), 1), (b2i (tightK a), 1), (b2i (nW b), 1), (b2i (tightK b), 1), (b2i (isC 160 && (nW (tightI a) && nW (tightI b))), 1)] : Cs).map (·.2)) (w : World) : Calls Tryz.prog 14 #[.int .u8 160, .bool true, .bool true, VN a, VN b] w fun e w' => e = .returned (V3 (cmpI 160 (tightI a) (tightI b))) ∧ Gr w w' :=
  rk hkn1_ok (oAt 14 [(21, true), (26, true)]) (cs := ([(b2i (nW a), 1), (b2i (tightK a), 1), (b2i (nW b), 1), (b2i (tightK b), 1), (b2i (isC 160 && (nW (tightI a) && nW (tightI b))), 1)] : Cs)) rfl (by kernel_rfl) (by kernel_rfl) he w
set_option maxHeartbeats 0 in
set_option maxRecDepth 1000000 in
theorem as_176_00 (a b : NI) (he : ([(b2i (nW a), 1), (b2i (tightK a), 1), (b2i (nW b), 1), (b2i (tightK b), 1), (b2i (isC 32 && (nW (tightI a) && nW (tightI b))), 1)] : Cs).map (·.1) = ([(b2i (nW a), 1), (b2i (tightK a), 1), (b2i (nW b), 1), (b2i (tightK b), 1), (b2i (isC 32 && (nW (tightI a) && nW (tightI b))), 1)] : Cs).map (·.2)) (w : World) : Calls Tryz.prog 14 #[.int .u8 176, .bool false, .bool false, VN a, VN b] w fun e w' => e = .returned (V3 (hcI 32 (tightI a) (tightI b))) ∧ Gr w w' :=
  rk hkn1_ok (oAt 14 [(21, true), (26, true)]) (cs := ([(b2i (nW a), 1), (b2i (tightK a), 1), (b2i (nW b), 1), (b2i (tightK b), 1), (b2i (isC 32 && (nW (tightI a) && nW (tightI b))), 1)] : Cs)) rfl (by kernel_rfl) (by kernel_rfl) he w
set_option maxHeartbeats 0 in
set_option maxRecDepth 1000000 in
theorem as_176_01 (a b : NI) (he : ([(b2i (nW a), 1), (b2i (tightK a), 1), (b2i (nW b), 1), (b2i (tightK b), 1), (b2i (isC 176 && (nW (tightI a) && nW (tightI b))), 1)] : Cs).map (·.1) = ([(b2i (nW a), 1), (b2i (tightK a), 1), (b2i (nW b), 1), (b2i (tightK b), 1), (b2i (isC 176 && (nW (tightI a) && nW (tightI b))), 1)] : Cs).map (·.2)) (w : World) : Calls Tryz.prog 14 #[.int .u8 176, .bool false, .bool true, VN a, VN b] w fun e w' => e = .returned (V3 (hcI 176 (tightI a) (tightI b))) ∧ Gr w w' :=
  rk hkn1_ok (oAt 14 [(21, true), (26, true)]) (cs := ([(b2i (nW a), 1), (b2i (tightK a), 1), (b2i (nW b), 1), (b2i (tightK b), 1), (b2i (isC 176 && (nW (tightI a) && nW (tightI b))), 1)] : Cs)) rfl (by kernel_rfl) (by kernel_rfl) he w
set_option maxHeartbeats 0 in
set_option maxRecDepth 1000000 in
theorem as_176_10 (a b : NI) (he : ([(b2i (nW a), 1), (b2i (tightK a), 1), (b2i (nW b), 1), (b2i (tightK b), 1), (b2i (isC 32 && (nW (tightI a) && nW (tightI b))), 1)] : Cs).map (·.1) = ([(b2i (nW a), 1), (b2i (tightK a), 1), (b2i (nW b), 1), (b2i (tightK b), 1), (b2i (isC 32 && (nW (tightI a) && nW (tightI b))), 1)] : Cs).map (·.2)) (w : World) : Calls Tryz.prog 14 #[.int .u8 176, .bool true, .bool false, VN a, VN b] w fun e w' => e = .returned (V3 (cmpI 32 (tightI a) (tightI b))) ∧ Gr w w' :=
  rk hkn1_ok (oAt 14 [(21, true), (26, true)]) (cs := ([(b2i (nW a), 1), (b2i (tightK a), 1), (b2i (nW b), 1), (b2i (tightK b), 1), (b2i (isC 32 && (nW (tightI a) && nW (tightI b))), 1)] : Cs)) rfl (by kernel_rfl) (by kernel_rfl) he w
set_option maxHeartbeats 0 in
set_option maxRecDepth 1000000 in
theorem as_176_11 (a b : NI) (he : ([(b2i (nW a), 1), (b2i (tightK a), 1), (b2i (nW b), 1), (b2i (tightK b), 1), (b2i (isC 176 && (nW (tightI a) && nW (tightI b))), 1)] : Cs).map (·.1) = ([(b2i (nW a), 1), (b2i (tightK a), 1), (b2i (nW b), 1), (b2i (tightK b), 1), (b2i (isC 176 && (nW (tightI a) && nW (tightI b))), 1)] : Cs).map (·.2)) (w : World) : Calls Tryz.prog 14 #[.int .u8 176, .bool true, .bool true, VN a, VN b] w fun e w' => e = .returned (V3 (cmpI 176 (tightI a) (tightI b))) ∧ Gr w w' :=
  rk hkn1_ok (oAt 14 [(21, true), (26, true)]) (cs := ([(b2i (nW a), 1), (b2i (tightK a), 1), (b2i (nW b), 1), (b2i (tightK b), 1), (b2i (isC 176 && (nW (tightI a) && nW (tightI b))), 1)] : Cs)) rfl (by kernel_rfl) (by kernel_rfl) he w
set_option maxHeartbeats 0 in
set_option maxRecDepth 1000000 in
theorem as_192_00 (a b : NI) (he : ([(b2i (nW a), 1), (b2i (tightK a), 1), (b2i (nW b), 1), (b2i (tightK b), 1), (b2i (isC 112 && (nW (tightI a) && nW (tightI b))), 1)] : Cs).map (·.1) = ([(b2i (nW a), 1), (b2i (tightK a), 1), (b2i (nW b), 1), (b2i (tightK b), 1), (b2i (isC 112 && (nW (tightI a) && nW (tightI b))), 1)] : Cs).map (·.2)) (w : World) : Calls Tryz.prog 14 #[.int .u8 192, .bool false, .bool false, VN a, VN b] w fun e w' => e = .returned (V3 (hcI 112 (tightI a) (tightI b))) ∧ Gr w w' :=
  rk hkn1_ok (oAt 14 [(21, true), (26, true)]) (cs := ([(b2i (nW a), 1), (b2i (tightK a), 1), (b2i (nW b), 1), (b2i (tightK b), 1), (b2i (isC 112 && (nW (tightI a) && nW (tightI b))), 1)] : Cs)) rfl (by kernel_rfl) (by kernel_rfl) he w
set_option maxHeartbeats 0 in
set_option maxRecDepth 1000000 in
theorem as_192_01 (a b : NI) (he : ([(b2i (nW a), 1), (b2i (tightK a), 1), (b2i (nW b), 1), (b2i (tightK b), 1), (b2i (isC 192 && (nW (tightI a) && nW (tightI b))), 1)] : Cs).map (·.1) = ([(b2i (nW a), 1), (b2i (tightK a), 1), (b2i (nW b), 1), (b2i (tightK b), 1), (b2i (isC 192 && (nW (tightI a) && nW (tightI b))), 1)] : Cs).map (·.2)) (w : World) : Calls Tryz.prog 14 #[.int .u8 192, .bool false, .bool true, VN a, VN b] w fun e w' => e = .returned (V3 (hcI 192 (tightI a) (tightI b))) ∧ Gr w w' :=
  rk hkn1_ok (oAt 14 [(21, true), (26, true)]) (cs := ([(b2i (nW a), 1), (b2i (tightK a), 1), (b2i (nW b), 1), (b2i (tightK b), 1), (b2i (isC 192 && (nW (tightI a) && nW (tightI b))), 1)] : Cs)) rfl (by kernel_rfl) (by kernel_rfl) he w
set_option maxHeartbeats 0 in
set_option maxRecDepth 1000000 in
theorem as_192_10 (a b : NI) (he : ([(b2i (nW a), 1), (b2i (tightK a), 1), (b2i (nW b), 1), (b2i (tightK b), 1), (b2i (isC 112 && (nW (tightI a) && nW (tightI b))), 1)] : Cs).map (·.1) = ([(b2i (nW a), 1), (b2i (tightK a), 1), (b2i (nW b), 1), (b2i (tightK b), 1), (b2i (isC 112 && (nW (tightI a) && nW (tightI b))), 1)] : Cs).map (·.2)) (w : World) : Calls Tryz.prog 14 #[.int .u8 192, .bool true, .bool false, VN a, VN b] w fun e w' => e = .returned (V3 (cmpI 112 (tightI a) (tightI b))) ∧ Gr w w' :=
  rk hkn1_ok (oAt 14 [(21, true), (26, true)]) (cs := ([(b2i (nW a), 1), (b2i (tightK a), 1), (b2i (nW b), 1), (b2i (tightK b), 1), (b2i (isC 112 && (nW (tightI a) && nW (tightI b))), 1)] : Cs)) rfl (by kernel_rfl) (by kernel_rfl) he w
set_option maxHeartbeats 0 in
set_option maxRecDepth 1000000 in
theorem as_192_11 (a b : NI) (he : ([(b2i (nW a), 1), (b2i (tightK a), 1), (b2i (nW b), 1), (b2i (tightK b), 1), (b2i (isC 192 && (nW (tightI a) && nW (tightI b))), 1)] : Cs).map (·.1) = ([(b2i (nW a), 1), (b2i (tightK a), 1), (b2i (nW b), 1), (b2i (tightK b), 1), (b2i (isC 192 && (nW (tightI a) && nW (tightI b))), 1)] : Cs).map (·.2)) (w : World) : Calls Tryz.prog 14 #[.int .u8 192, .bool true, .bool true, VN a, VN b] w fun e w' => e = .returned (V3 (cmpI 192 (tightI a) (tightI b))) ∧ Gr w w' :=
  rk hkn1_ok (oAt 14 [(21, true), (26, true)]) (cs := ([(b2i (nW a), 1), (b2i (tightK a), 1), (b2i (nW b), 1), (b2i (tightK b), 1), (b2i (isC 192 && (nW (tightI a) && nW (tightI b))), 1)] : Cs)) rfl (by kernel_rfl) (by kernel_rfl) he w
set_option maxHeartbeats 0 in
set_option maxRecDepth 1000000 in
theorem as_208_00 (a b : NI) (he : ([(b2i (nW a), 1), (b2i (tightK a), 1), (b2i (nW b), 1), (b2i (tightK b), 1), (b2i (isC 96 && (nW (tightI a) && nW (tightI b))), 1)] : Cs).map (·.1) = ([(b2i (nW a), 1), (b2i (tightK a), 1), (b2i (nW b), 1), (b2i (tightK b), 1), (b2i (isC 96 && (nW (tightI a) && nW (tightI b))), 1)] : Cs).map (·.2)) (w : World) : Calls Tryz.prog 14 #[.int .u8 208, .bool false, .bool false, VN a, VN b] w fun e w' => e = .returned (V3 (hcI 96 (tightI a) (tightI b))) ∧ Gr w w' :=
  rk hkn1_ok (oAt 14 [(21, true), (26, true)]) (cs := ([(b2i (nW a), 1), (b2i (tightK a), 1), (b2i (nW b), 1), (b2i (tightK b), 1), (b2i (isC 96 && (nW (tightI a) && nW (tightI b))), 1)] : Cs)) rfl (by kernel_rfl) (by kernel_rfl) he w
set_option maxHeartbeats 0 in
set_option maxRecDepth 1000000 in
theorem as_208_01 (a b : NI) (he : ([(b2i (nW a), 1), (b2i (tightK a), 1), (b2i (nW b), 1), (b2i (tightK b), 1), (b2i (isC 208 && (nW (tightI a) && nW (tightI b))), 1)] : Cs).map (·.1) = ([(b2i (nW a), 1), (b2i (tightK a), 1), (b2i (nW b), 1), (b2i (tightK b), 1), (b2i (isC 208 && (nW (tightI a) && nW (tightI b))), 1)] : Cs).map (·.2)) (w : World) : Calls Tryz.prog 14 #[.int .u8 208, .bool false, .bool true, VN a, VN b] w fun e w' => e = .returned (V3 (hcI 208 (tightI a) (tightI b))) ∧ Gr w w' :=
  rk hkn1_ok (oAt 14 [(21, true), (26, true)]) (cs := ([(b2i (nW a), 1), (b2i (tightK a), 1), (b2i (nW b), 1), (b2i (tightK b), 1), (b2i (isC 208 && (nW (tightI a) && nW (tightI b))), 1)] : Cs)) rfl (by kernel_rfl) (by kernel_rfl) he w
set_option maxHeartbeats 0 in
set_option maxRecDepth 1000000 in
theorem as_208_10 (a b : NI) (he : ([(b2i (nW a), 1), (b2i (tightK a), 1), (b2i (nW b), 1), (b2i (tightK b), 1), (b2i (isC 96 && (nW (tightI a) && nW (tightI b))), 1)] : Cs).map (·.1) = ([(b2i (nW a), 1), (b2i (tightK a), 1), (b2i (nW b), 1), (b2i (tightK b), 1), (b2i (isC 96 && (nW (tightI a) && nW (tightI b))), 1)] : Cs).map (·.2)) (w : World) : Calls Tryz.prog 14 #[.int .u8 208, .bool true, .bool false, VN a, VN b] w fun e w' => e = .returned (V3 (cmpI 96 (tightI a) (tightI b))) ∧ Gr w w' :=
  rk hkn1_ok (oAt 14 [(21, true), (26, true)]) (cs := ([(b2i (nW a), 1), (b2i (tightK a), 1), (b2i (nW b), 1), (b2i (tightK b), 1), (b2i (isC 96 && (nW (tightI a) && nW (tightI b))), 1)] : Cs)) rfl (by kernel_rfl) (by kernel_rfl) he w
set_option maxHeartbeats 0 in
set_option maxRecDepth 1000000 in
theorem as_208_11 (a b : NI) (he : ([(b2i (nW a), 1), (b2i (tightK a), 1), (b2i (nW b), 1), (b2i (tightK b), 1), (b2i (isC 208 && (nW (tightI a) && nW (tightI b))), 1)] : Cs).map (·.1) = ([(b2i (nW a), 1), (b2i (tightK a), 1), (b2i (nW b), 1), (b2i (tightK b), 1), (b2i (isC 208 && (nW (tightI a) && nW (tightI b))), 1)] : Cs).map (·.2)) (w : World) : Calls Tryz.prog 14 #[.int .u8 208, .bool true, .bool true, VN a, VN b] w fun e w' => e = .returned (V3 (cmpI 208 (tightI a) (tightI b))) ∧ Gr w w' :=
  rk hkn1_ok (oAt 14 [(21, true), (26, true)]) (cs := ([(b2i (nW a), 1), (b2i (tightK a), 1), (b2i (nW b), 1), (b2i (tightK b), 1), (b2i (isC 208 && (nW (tightI a) && nW (tightI b))), 1)] : Cs)) rfl (by kernel_rfl) (by kernel_rfl) he w
def nk0 : List Int := [0, 1, 2, 3, 4, 5, 6, 7]
def nk1 : List Int := [8, 9, 10, 11, 12, 13, 14, 15]
def nk2 : List Int := [17, 18, 19, 20, 21, 22, 23, 24]
def nk3 : List Int := [25, 26, 27, 28, 29, 30, 31, 33]
def nk4 : List Int := [34, 35, 36, 37, 38, 39, 40, 41]
def nk5 : List Int := [42, 43, 44, 45, 46, 47, 49, 50]
def nk6 : List Int := [51, 52, 53, 54, 55, 56, 57, 58]
def nk7 : List Int := [59, 60, 61, 62, 63, 65, 66, 67]
def nk8 : List Int := [68, 69, 70, 71, 72, 73, 74, 75]
def nk9 : List Int := [76, 77, 78, 79, 81, 82, 83, 84]
def nk10 : List Int := [85, 86, 87, 88, 89, 90, 91, 92]
def nk11 : List Int := [93, 94, 95, 97, 98, 99, 100, 101]
def nk12 : List Int := [102, 103, 104, 105, 106, 107, 108, 109]
def nk13 : List Int := [110, 111, 113, 114, 115, 116, 117, 118]
def nk14 : List Int := [119, 120, 121, 122, 123, 124, 125, 126]
def nk15 : List Int := [127, 128, 129, 130, 131, 132, 133, 134]
def nk16 : List Int := [135, 136, 137, 138, 139, 140, 141, 142]
def nk17 : List Int := [143, 144, 145, 146, 147, 148, 149, 150]
def nk18 : List Int := [151, 152, 153, 154, 155, 156, 157, 158]
def nk19 : List Int := [159, 161, 162, 163, 164, 165, 166, 167]
def nk20 : List Int := [168, 169, 170, 171, 172, 173, 174, 175]
def nk21 : List Int := [177, 178, 179, 180, 181, 182, 183, 184]
def nk22 : List Int := [185, 186, 187, 188, 189, 190, 191, 193]
def nk23 : List Int := [194, 195, 196, 197, 198, 199, 200, 201]
def nk24 : List Int := [202, 203, 204, 205, 206, 207, 209, 210]
def nk25 : List Int := [211, 212, 213, 214, 215, 216, 217, 218]
def nk26 : List Int := [219, 220, 221, 222, 223, 224, 225, 226]
def nk27 : List Int := [227, 228, 229, 230, 231, 232, 233, 234]
def nk28 : List Int := [235, 236, 237, 238, 239, 240, 241, 242]
def nk29 : List Int := [243, 244, 245, 246, 247, 248, 249, 250]
def nk30 : List Int := [251, 252, 253, 254, 255]
def nonk : List Int := nk0 ++ (nk1 ++ (nk2 ++ (nk3 ++ (nk4 ++ (nk5 ++ (nk6 ++ (nk7 ++ (nk8 ++ (nk9 ++ (nk10 ++ (nk11 ++ (nk12 ++ (nk13 ++ (nk14 ++ (nk15 ++ (nk16 ++ (nk17 ++ (nk18 ++ (nk19 ++ (nk20 ++ (nk21 ++ (nk22 ++ (nk23 ++ (nk24 ++ (nk25 ++ (nk26 ++ (nk27 ++ (nk28 ++ (nk29 ++ (nk30))))))))))))))))))))))))))))))
def asO0 : Orc := oAt 14 [(21, true), (26, true), (49, false)]
def asC0 (wide holds : Bool) (a b : NI) (op : Int) : Cs := ([(b2i (nW a), 1), (b2i (tightK a), 1), (b2i (nW b), 1), (b2i (tightK b), 1), (b2i (uB 0 && uB 0), 1), (b2i (condI op wide 0 0 == holds), 0)] : Cs)
def asO1 : Orc := oAt 14 [(21, true), (26, true), (49, true)]
def asC1 (wide holds : Bool) (a b : NI) (op : Int) : Cs := ([(b2i (nW a), 1), (b2i (tightK a), 1), (b2i (nW b), 1), (b2i (tightK b), 1), (b2i (uB 0 && uB 0), 1), (b2i (condI op wide 0 0 == holds), 1)] : Cs)
end Go.Proofs.YtchjneodjaakdaaGreat.Ex
end
section
namespace Go.Proofs.YtchjneodjaakdaaGreat.Ex
open Go Go.RowKit
open Go.Proofs.YtchjneodjaakdaaGreat.Sc (firstV firstOk lastV lastOk)
set_option maxHeartbeats 0 in
set_option maxRecDepth 1000000 in
theorem as_u0_0l (wide holds : Bool) (a b : NI) : nk0.map (fun op => reckonGL Tryz.prog (guardH hkn1) asO0 100000 300 [] 14 [.int .u8 op, .bool wide, .bool holds, VN a, VN b]) = nk0.map (fun op => some ((V3 nil3), (asC0 wide holds a b op).map (·.1))) := by kernel_rfl
set_option maxHeartbeats 0 in
set_option maxRecDepth 1000000 in
theorem as_u0_0r (wide holds : Bool) (a b : NI) : nk0.map (fun op => reckonGR Tryz.prog (guardH hkn1) asO0 100000 300 [] 14 [.int .u8 op, .bool wide, .bool holds, VN a, VN b] (V3 nil3)) = nk0.map (fun op => some ((V3 nil3), (asC0 wide holds a b op).map (·.2))) := by kernel_rfl
set_option maxHeartbeats 0 in
set_option maxRecDepth 1000000 in
theorem as_u0_1l (wide holds : Bool) (a b : NI) : nk1.map (fun op => reckonGL Tryz.prog (guardH hkn1) asO0 100000 300 [] 14 [.int .u8 op, .bool wide, .bool holds, VN a, VN b]) = nk1.map (fun op => some ((V3 nil3), (asC0 wide holds a b op).map (·.1))) := by kernel_rfl
set_option maxHeartbeats 0 in
set_option maxRecDepth 1000000 in
theorem as_u0_1r (wide holds : Bool) (a b : NI) : nk1.map (fun op => reckonGR Tryz.prog (guardH hkn1) asO0 100000 300 [] 14 [.int .u8 op, .bool wide, .bool holds, VN a, VN b] (V3 nil3)) = nk1.map (fun op => some ((V3 nil3), (asC0 wide holds a b op).map (·.2))) := by kernel_rfl
set_option maxHeartbeats 0 in
set_option maxRecDepth 1000000 in
theorem as_u0_2l (wide holds : Bool) (a b : NI) : nk2.map (fun op => reckonGL Tryz.prog (guardH hkn1) asO0 100000 300 [] 14 [.int .u8 op, .bool wide, .bool holds, VN a, VN b]) = nk2.map (fun op => some ((V3 nil3), (asC0 wide holds a b op).map (·.1))) := by kernel_rfl
set_option maxHeartbeats 0 in
set_option maxRecDepth 1000000 in
theorem as_u0_2r (wide holds : Bool) (a b : NI) : nk2.map (fun op => reckonGR Tryz.prog (guardH hkn1) asO0 100000 300 [] 14 [.int .u8 op, .bool wide, .bool holds, VN a, VN b] (V3 nil3)) = nk2.map (fun op => some ((V3 nil3), (asC0 wide holds a b op).map (·.2))) := by kernel_rfl
set_option maxHeartbeats 0 in
set_option maxRecDepth 1000000 in
theorem as_u0_3l (wide holds : Bool) (a b : NI) : nk3.map (fun op => reckonGL Tryz.prog (guardH hkn1) asO0 100000 300 [] 14 [.int .u8 op, .bool wide, .bool holds, VN a, VN b]) = nk3.map (fun op => some ((V3 nil3), (asC0 wide holds a b op).map (·.1))) := by kernel_rfl
set_option maxHeartbeats 0 in
set_option maxRecDepth 1000000 in
theorem as_u0_3r (wide holds : Bool) (a b : NI) : nk3.map (fun op => reckonGR Tryz.prog (guardH hkn1) asO0 100000 300 [] 14 [.int .u8 op, .bool wide, .bool holds, VN a, VN b] (V3 nil3)) = nk3.map (fun op => some ((V3 nil3), (asC0 wide holds a b op).map (·.2))) := by kernel_rfl
set_option maxHeartbeats 0 in
set_option maxRecDepth 1000000 in
theorem as_u0_4l (wide holds : Bool) (a b : NI) : nk4.map (fun op => reckonGL Tryz.prog (guardH hkn1) asO0 100000 300 [] 14 [.int .u8 op, .bool wide, .bool holds, VN a, VN b]) = nk4.map (fun op => some ((V3 nil3), (asC0 wide holds a b op).map (·.1))) := by kernel_rfl
set_option maxHeartbeats 0 in
set_option maxRecDepth 1000000 in
theorem as_u0_4r (wide holds : Bool) (a b : NI) : nk4.map (fun op => reckonGR Tryz.prog (guardH hkn1) asO0 100000 300 [] 14 [.int .u8 op, .bool wide, .bool holds, VN a, VN b] (V3 nil3)) = nk4.map (fun op => some ((V3 nil3), (asC0 wide holds a b op).map (·.2))) := by kernel_rfl
set_option maxHeartbeats 0 in
set_option maxRecDepth 1000000 in
theorem as_u0_5l (wide holds : Bool) (a b : NI) : nk5.map (fun op => reckonGL Tryz.prog (guardH hkn1) asO0 100000 300 [] 14 [.int .u8 op, .bool wide, .bool holds, VN a, VN b]) = nk5.map (fun op => some ((V3 nil3), (asC0 wide holds a b op).map (·.1))) := by kernel_rfl
set_option maxHeartbeats 0 in
set_option maxRecDepth 1000000 in
theorem as_u0_5r (wide holds : Bool) (a b : NI) : nk5.map (fun op => reckonGR Tryz.prog (guardH hkn1) asO0 100000 300 [] 14 [.int .u8 op, .bool wide, .bool holds, VN a, VN b] (V3 nil3)) = nk5.map (fun op => some ((V3 nil3), (asC0 wide holds a b op).map (·.2))) := by kernel_rfl
set_option maxHeartbeats 0 in
set_option maxRecDepth 1000000 in
theorem as_u0_6l (wide holds : Bool) (a b : NI) : nk6.map (fun op => reckonGL Tryz.prog (guardH hkn1) asO0 100000 300 [] 14 [.int .u8 op, .bool wide, .bool holds, VN a, VN b]) = nk6.map (fun op => some ((V3 nil3), (asC0 wide holds a b op).map (·.1))) := by kernel_rfl
set_option maxHeartbeats 0 in
set_option maxRecDepth 1000000 in
theorem as_u0_6r (wide holds : Bool) (a b : NI) : nk6.map (fun op => reckonGR Tryz.prog (guardH hkn1) asO0 100000 300 [] 14 [.int .u8 op, .bool wide, .bool holds, VN a, VN b] (V3 nil3)) = nk6.map (fun op => some ((V3 nil3), (asC0 wide holds a b op).map (·.2))) := by kernel_rfl
set_option maxHeartbeats 0 in
set_option maxRecDepth 1000000 in
theorem as_u0_7l (wide holds : Bool) (a b : NI) : nk7.map (fun op => reckonGL Tryz.prog (guardH hkn1) asO0 100000 300 [] 14 [.int .u8 op, .bool wide, .bool holds, VN a, VN b]) = nk7.map (fun op => some ((V3 nil3), (asC0 wide holds a b op).map (·.1))) := by kernel_rfl
set_option maxHeartbeats 0 in
set_option maxRecDepth 1000000 in
theorem as_u0_7r (wide holds : Bool) (a b : NI) : nk7.map (fun op => reckonGR Tryz.prog (guardH hkn1) asO0 100000 300 [] 14 [.int .u8 op, .bool wide, .bool holds, VN a, VN b] (V3 nil3)) = nk7.map (fun op => some ((V3 nil3), (asC0 wide holds a b op).map (·.2))) := by kernel_rfl
set_option maxHeartbeats 0 in
set_option maxRecDepth 1000000 in
theorem as_u0_8l (wide holds : Bool) (a b : NI) : nk8.map (fun op => reckonGL Tryz.prog (guardH hkn1) asO0 100000 300 [] 14 [.int .u8 op, .bool wide, .bool holds, VN a, VN b]) = nk8.map (fun op => some ((V3 nil3), (asC0 wide holds a b op).map (·.1))) := by kernel_rfl
set_option maxHeartbeats 0 in
set_option maxRecDepth 1000000 in
theorem as_u0_8r (wide holds : Bool) (a b : NI) : nk8.map (fun op => reckonGR Tryz.prog (guardH hkn1) asO0 100000 300 [] 14 [.int .u8 op, .bool wide, .bool holds, VN a, VN b] (V3 nil3)) = nk8.map (fun op => some ((V3 nil3), (asC0 wide holds a b op).map (·.2))) := by kernel_rfl
set_option maxHeartbeats 0 in
set_option maxRecDepth 1000000 in
theorem as_u0_9l (wide holds : Bool) (a b : NI) : nk9.map (fun op => reckonGL Tryz.prog (guardH hkn1) asO0 100000 300 [] 14 [.int .u8 op, .bool wide, .bool holds, VN a, VN b]) = nk9.map (fun op => some ((V3 nil3), (asC0 wide holds a b op).map (·.1))) := by kernel_rfl
set_option maxHeartbeats 0 in
set_option maxRecDepth 1000000 in
theorem as_u0_9r (wide holds : Bool) (a b : NI) : nk9.map (fun op => reckonGR Tryz.prog (guardH hkn1) asO0 100000 300 [] 14 [.int .u8 op, .bool wide, .bool holds, VN a, VN b] (V3 nil3)) = nk9.map (fun op => some ((V3 nil3), (asC0 wide holds a b op).map (·.2))) := by kernel_rfl
set_option maxHeartbeats 0 in
set_option maxRecDepth 1000000 in
theorem as_u1_0l (wide holds : Bool) (a b : NI) : nk0.map (fun op => reckonGL Tryz.prog (guardH hkn1) asO1 100000 300 [] 14 [.int .u8 op, .bool wide, .bool holds, VN a, VN b]) = nk0.map (fun op => some ((V3 (tightI a, tightI b, true)), (asC1 wide holds a b op).map (·.1))) := by kernel_rfl
set_option maxHeartbeats 0 in
set_option maxRecDepth 1000000 in
theorem as_u1_0r (wide holds : Bool) (a b : NI) : nk0.map (fun op => reckonGR Tryz.prog (guardH hkn1) asO1 100000 300 [] 14 [.int .u8 op, .bool wide, .bool holds, VN a, VN b] (V3 (tightI a, tightI b, true))) = nk0.map (fun op => some ((V3 (tightI a, tightI b, true)), (asC1 wide holds a b op).map (·.2))) := by kernel_rfl
set_option maxHeartbeats 0 in
set_option maxRecDepth 1000000 in
theorem as_u1_1l (wide holds : Bool) (a b : NI) : nk1.map (fun op => reckonGL Tryz.prog (guardH hkn1) asO1 100000 300 [] 14 [.int .u8 op, .bool wide, .bool holds, VN a, VN b]) = nk1.map (fun op => some ((V3 (tightI a, tightI b, true)), (asC1 wide holds a b op).map (·.1))) := by kernel_rfl
set_option maxHeartbeats 0 in
set_option maxRecDepth 1000000 in
theorem as_u1_1r (wide holds : Bool) (a b : NI) : nk1.map (fun op => reckonGR Tryz.prog (guardH hkn1) asO1 100000 300 [] 14 [.int .u8 op, .bool wide, .bool holds, VN a, VN b] (V3 (tightI a, tightI b, true))) = nk1.map (fun op => some ((V3 (tightI a, tightI b, true)), (asC1 wide holds a b op).map (·.2))) := by kernel_rfl
set_option maxHeartbeats 0 in
set_option maxRecDepth 1000000 in
theorem as_u1_2l (wide holds : Bool) (a b : NI) : nk2.map (fun op => reckonGL Tryz.prog (guardH hkn1) asO1 100000 300 [] 14 [.int .u8 op, .bool wide, .bool holds, VN a, VN b]) = nk2.map (fun op => some ((V3 (tightI a, tightI b, true)), (asC1 wide holds a b op).map (·.1))) := by kernel_rfl
set_option maxHeartbeats 0 in
set_option maxRecDepth 1000000 in
theorem as_u1_2r (wide holds : Bool) (a b : NI) : nk2.map (fun op => reckonGR Tryz.prog (guardH hkn1) asO1 100000 300 [] 14 [.int .u8 op, .bool wide, .bool holds, VN a, VN b] (V3 (tightI a, tightI b, true))) = nk2.map (fun op => some ((V3 (tightI a, tightI b, true)), (asC1 wide holds a b op).map (·.2))) := by kernel_rfl
set_option maxHeartbeats 0 in
set_option maxRecDepth 1000000 in
theorem as_u1_3l (wide holds : Bool) (a b : NI) : nk3.map (fun op => reckonGL Tryz.prog (guardH hkn1) asO1 100000 300 [] 14 [.int .u8 op, .bool wide, .bool holds, VN a, VN b]) = nk3.map (fun op => some ((V3 (tightI a, tightI b, true)), (asC1 wide holds a b op).map (·.1))) := by kernel_rfl
set_option maxHeartbeats 0 in
set_option maxRecDepth 1000000 in
theorem as_u1_3r (wide holds : Bool) (a b : NI) : nk3.map (fun op => reckonGR Tryz.prog (guardH hkn1) asO1 100000 300 [] 14 [.int .u8 op, .bool wide, .bool holds, VN a, VN b] (V3 (tightI a, tightI b, true))) = nk3.map (fun op => some ((V3 (tightI a, tightI b, true)), (asC1 wide holds a b op).map (·.2))) := by kernel_rfl
set_option maxHeartbeats 0 in
set_option maxRecDepth 1000000 in
theorem as_u1_4l (wide holds : Bool) (a b : NI) : nk4.map (fun op => reckonGL Tryz.prog (guardH hkn1) asO1 100000 300 [] 14 [.int .u8 op, .bool wide, .bool holds, VN a, VN b]) = nk4.map (fun op => some ((V3 (tightI a, tightI b, true)), (asC1 wide holds a b op).map (·.1))) := by kernel_rfl
set_option maxHeartbeats 0 in
set_option maxRecDepth 1000000 in
theorem as_u1_4r (wide holds : Bool) (a b : NI) : nk4.map (fun op => reckonGR Tryz.prog (guardH hkn1) asO1 100000 300 [] 14 [.int .u8 op, .bool wide, .bool holds, VN a, VN b] (V3 (tightI a, tightI b, true))) = nk4.map (fun op => some ((V3 (tightI a, tightI b, true)), (asC1 wide holds a b op).map (·.2))) := by kernel_rfl
set_option maxHeartbeats 0 in
set_option maxRecDepth 1000000 in
theorem as_u1_5l (wide holds : Bool) (a b : NI) : nk5.map (fun op => reckonGL Tryz.prog (guardH hkn1) asO1 100000 300 [] 14 [.int .u8 op, .bool wide, .bool holds, VN a, VN b]) = nk5.map (fun op => some ((V3 (tightI a, tightI b, true)), (asC1 wide holds a b op).map (·.1))) := by kernel_rfl
set_option maxHeartbeats 0 in
set_option maxRecDepth 1000000 in
theorem as_u1_5r (wide holds : Bool) (a b : NI) : nk5.map (fun op => reckonGR Tryz.prog (guardH hkn1) asO1 100000 300 [] 14 [.int .u8 op, .bool wide, .bool holds, VN a, VN b] (V3 (tightI a, tightI b, true))) = nk5.map (fun op => some ((V3 (tightI a, tightI b, true)), (asC1 wide holds a b op).map (·.2))) := by kernel_rfl
set_option maxHeartbeats 0 in
set_option maxRecDepth 1000000 in
theorem as_u1_6l (wide holds : Bool) (a b : NI) : nk6.map (fun op => reckonGL Tryz.prog (guardH hkn1) asO1 100000 300 [] 14 [.int .u8 op, .bool wide, .bool holds, VN a, VN b]) = nk6.map (fun op => some ((V3 (tightI a, tightI b, true)), (asC1 wide holds a b op).map (·.1))) := by kernel_rfl
set_option maxHeartbeats 0 in
set_option maxRecDepth 1000000 in
theorem as_u1_6r (wide holds : Bool) (a b : NI) : nk6.map (fun op => reckonGR Tryz.prog (guardH hkn1) asO1 100000 300 [] 14 [.int .u8 op, .bool wide, .bool holds, VN a, VN b] (V3 (tightI a, tightI b, true))) = nk6.map (fun op => some ((V3 (tightI a, tightI b, true)), (asC1 wide holds a b op).map (·.2))) := by kernel_rfl
set_option maxHeartbeats 0 in
set_option maxRecDepth 1000000 in
theorem as_u1_7l (wide holds : Bool) (a b : NI) : nk7.map (fun op => reckonGL Tryz.prog (guardH hkn1) asO1 100000 300 [] 14 [.int .u8 op, .bool wide, .bool holds, VN a, VN b]) = nk7.map (fun op => some ((V3 (tightI a, tightI b, true)), (asC1 wide holds a b op).map (·.1))) := by kernel_rfl
set_option maxHeartbeats 0 in
set_option maxRecDepth 1000000 in
theorem as_u1_7r (wide holds : Bool) (a b : NI) : nk7.map (fun op => reckonGR Tryz.prog (guardH hkn1) asO1 100000 300 [] 14 [.int .u8 op, .bool wide, .bool holds, VN a, VN b] (V3 (tightI a, tightI b, true))) = nk7.map (fun op => some ((V3 (tightI a, tightI b, true)), (asC1 wide holds a b op).map (·.2))) := by kernel_rfl
set_option maxHeartbeats 0 in
set_option maxRecDepth 1000000 in
theorem as_u1_8l (wide holds : Bool) (a b : NI) : nk8.map (fun op => reckonGL Tryz.prog (guardH hkn1) asO1 100000 300 [] 14 [.int .u8 op, .bool wide, .bool holds, VN a, VN b]) = nk8.map (fun op => some ((V3 (tightI a, tightI b, true)), (asC1 wide holds a b op).map (·.1))) := by kernel_rfl
set_option maxHeartbeats 0 in
set_option maxRecDepth 1000000 in
theorem as_u1_8r (wide holds : Bool) (a b : NI) : nk8.map (fun op => reckonGR Tryz.prog (guardH hkn1) asO1 100000 300 [] 14 [.int .u8 op, .bool wide, .bool holds, VN a, VN b] (V3 (tightI a, tightI b, true))) = nk8.map (fun op => some ((V3 (tightI a, tightI b, true)), (asC1 wide holds a b op).map (·.2))) := by kernel_rfl
set_option maxHeartbeats 0 in
set_option maxRecDepth 1000000 in
theorem as_u1_9l (wide holds : Bool) (a b : NI) : nk9.map (fun op => reckonGL Tryz.prog (guardH hkn1) asO1 100000 300 [] 14 [.int .u8 op, .bool wide, .bool holds, VN a, VN b]) = nk9.map (fun op => some ((V3 (tightI a, tightI b, true)), (asC1 wide holds a b op).map (·.1))) := by kernel_rfl
set_option maxHeartbeats 0 in
set_option maxRecDepth 1000000 in
theorem as_u1_9r (wide holds : Bool) (a b : NI) : nk9.map (fun op => reckonGR Tryz.prog (guardH hkn1) asO1 100000 300 [] 14 [.int .u8 op, .bool wide, .bool holds, VN a, VN b] (V3 (tightI a, tightI b, true))) = nk9.map (fun op => some ((V3 (tightI a, tightI b, true)), (asC1 wide holds a b op).map (·.2))) := by kernel_rfl
end Go.Proofs.YtchjneodjaakdaaGreat.Ex
end
section
namespace Go.Proofs.YtchjneodjaakdaaGreat.Ex
open Go Go.RowKit
open Go.Proofs.YtchjneodjaakdaaGreat.Sc (firstV firstOk lastV lastOk)
set_option maxHeartbeats 0 in
set_option maxRecDepth 1000000 in
theorem as_u0_10l (wide holds : Bool) (a b : NI) : nk10.map (fun op => reckonGL Tryz.prog (guardH hkn1) asO0 100000 300 [] 14 [.int .u8 op, .bool wide, .bool holds, VN a, VN b]) = nk10.map (fun op => some ((V3 nil3), (asC0 wide holds a b op).map (·.1))) := by kernel_rfl
set_option maxHeartbeats 0 in
set_option maxRecDepth 1000000 in
theorem as_u0_10r (wide holds : Bool) (a b : NI) : nk10.map (fun op => reckonGR Tryz.prog (guardH hkn1) asO0 100000 300 [] 14 [.int .u8 op, .bool wide, .bool holds, VN a, VN b] (V3 nil3)) = nk10.map (fun op => some ((V3 nil3), (asC0 wide holds a b op).map (·.2))) := by kernel_rfl
set_option maxHeartbeats 0 in
set_option maxRecDepth 1000000 in
theorem as_u0_11l (wide holds : Bool) (a b : NI) : nk11.map (fun op => reckonGL Tryz.prog (guardH hkn1) asO0 100000 300 [] 14 [.int .u8 op, .bool wide, .bool holds, VN a, VN b]) = nk11.map (fun op => some ((V3 nil3), (asC0 wide holds a b op).map (·.1))) := by kernel_rfl
set_option maxHeartbeats 0 in
set_option maxRecDepth 1000000 in
theorem as_u0_11r (wide holds : Bool) (a b : NI) : nk11.map (fun op => reckonGR Tryz.prog (guardH hkn1) asO0 100000 300 [] 14 [.int .u8 op, .bool wide, .bool holds, VN a, VN b] (V3 nil3)) = nk11.map (fun op => some ((V3 nil3), (asC0 wide holds a b op).map (·.2))) := by kernel_rfl
set_option maxHeartbeats 0 in
set_option maxRecDepth 1000000 in
theorem as_u0_12l (wide holds : Bool) (a b : NI) : nk12.map (fun op => reckonGL Tryz.prog (guardH hkn1) asO0 100000 300 [] 14 [.int .u8 op, .bool wide, .bool holds, VN a, VN b]) = nk12.map (fun op => some ((V3 nil3), (asC0 wide holds a b op).map (·.1))) := by kernel_rfl
set_option maxHeartbeats 0 in
set_option maxRecDepth 1000000 in
theorem as_u0_12r (wide holds : Bool) (a b : NI) : nk12.map (fun op => reckonGR Tryz.prog (guardH hkn1) asO0 100000 300 [] 14 [.int .u8 op, .bool wide, .bool holds, VN a, VN b] (V3 nil3)) = nk12.map (fun op => some ((V3 nil3), (asC0 wide holds a b op).map (·.2))) := by kernel_rfl
set_option maxHeartbeats 0 in
set_option maxRecDepth 1000000 in
theorem as_u0_13l (wide holds : Bool) (a b : NI) : nk13.map (fun op => reckonGL Tryz.prog (guardH hkn1) asO0 100000 300 [] 14 [.int .u8 op, .bool wide, .bool holds, VN a, VN b]) = nk13.map (fun op => some ((V3 nil3), (asC0 wide holds a b op).map (·.1))) := by kernel_rfl
set_option maxHeartbeats 0 in
set_option maxRecDepth 1000000 in
theorem as_u0_13r (wide holds : Bool) (a b : NI) : nk13.map (fun op => reckonGR Tryz.prog (guardH hkn1) asO0 100000 300 [] 14 [.int .u8 op, .bool wide, .bool holds, VN a, VN b] (V3 nil3)) = nk13.map (fun op => some ((V3 nil3), (asC0 wide holds a b op).map (·.2))) := by kernel_rfl
set_option maxHeartbeats 0 in
set_option maxRecDepth 1000000 in
theorem as_u0_14l (wide holds : Bool) (a b : NI) : nk14.map (fun op => reckonGL Tryz.prog (guardH hkn1) asO0 100000 300 [] 14 [.int .u8 op, .bool wide, .bool holds, VN a, VN b]) = nk14.map (fun op => some ((V3 nil3), (asC0 wide holds a b op).map (·.1))) := by kernel_rfl
set_option maxHeartbeats 0 in
set_option maxRecDepth 1000000 in
theorem as_u0_14r (wide holds : Bool) (a b : NI) : nk14.map (fun op => reckonGR Tryz.prog (guardH hkn1) asO0 100000 300 [] 14 [.int .u8 op, .bool wide, .bool holds, VN a, VN b] (V3 nil3)) = nk14.map (fun op => some ((V3 nil3), (asC0 wide holds a b op).map (·.2))) := by kernel_rfl
set_option maxHeartbeats 0 in
set_option maxRecDepth 1000000 in
theorem as_u0_15l (wide holds : Bool) (a b : NI) : nk15.map (fun op => reckonGL Tryz.prog (guardH hkn1) asO0 100000 300 [] 14 [.int .u8 op, .bool wide, .bool holds, VN a, VN b]) = nk15.map (fun op => some ((V3 nil3), (asC0 wide holds a b op).map (·.1))) := by kernel_rfl
set_option maxHeartbeats 0 in
set_option maxRecDepth 1000000 in
theorem as_u0_15r (wide holds : Bool) (a b : NI) : nk15.map (fun op => reckonGR Tryz.prog (guardH hkn1) asO0 100000 300 [] 14 [.int .u8 op, .bool wide, .bool holds, VN a, VN b] (V3 nil3)) = nk15.map (fun op => some ((V3 nil3), (asC0 wide holds a b op).map (·.2))) := by kernel_rfl
set_option maxHeartbeats 0 in
set_option maxRecDepth 1000000 in
theorem as_u0_16l (wide holds : Bool) (a b : NI) : nk16.map (fun op => reckonGL Tryz.prog (guardH hkn1) asO0 100000 300 [] 14 [.int .u8 op, .bool wide, .bool holds, VN a, VN b]) = nk16.map (fun op => some ((V3 nil3), (asC0 wide holds a b op).map (·.1))) := by kernel_rfl
set_option maxHeartbeats 0 in
set_option maxRecDepth 1000000 in
theorem as_u0_16r (wide holds : Bool) (a b : NI) : nk16.map (fun op => reckonGR Tryz.prog (guardH hkn1) asO0 100000 300 [] 14 [.int .u8 op, .bool wide, .bool holds, VN a, VN b] (V3 nil3)) = nk16.map (fun op => some ((V3 nil3), (asC0 wide holds a b op).map (·.2))) := by kernel_rfl
set_option maxHeartbeats 0 in
set_option maxRecDepth 1000000 in
theorem as_u0_17l (wide holds : Bool) (a b : NI) : nk17.map (fun op => reckonGL Tryz.prog (guardH hkn1) asO0 100000 300 [] 14 [.int .u8 op, .bool wide, .bool holds, VN a, VN b]) = nk17.map (fun op => some ((V3 nil3), (asC0 wide holds a b op).map (·.1))) := by kernel_rfl
set_option maxHeartbeats 0 in
set_option maxRecDepth 1000000 in
theorem as_u0_17r (wide holds : Bool) (a b : NI) : nk17.map (fun op => reckonGR Tryz.prog (guardH hkn1) asO0 100000 300 [] 14 [.int .u8 op, .bool wide, .bool holds, VN a, VN b] (V3 nil3)) = nk17.map (fun op => some ((V3 nil3), (asC0 wide holds a b op).map (·.2))) := by kernel_rfl
set_option maxHeartbeats 0 in
set_option maxRecDepth 1000000 in
theorem as_u0_18l (wide holds : Bool) (a b : NI) : nk18.map (fun op => reckonGL Tryz.prog (guardH hkn1) asO0 100000 300 [] 14 [.int .u8 op, .bool wide, .bool holds, VN a, VN b]) = nk18.map (fun op => some ((V3 nil3), (asC0 wide holds a b op).map (·.1))) := by kernel_rfl
set_option maxHeartbeats 0 in
set_option maxRecDepth 1000000 in
theorem as_u0_18r (wide holds : Bool) (a b : NI) : nk18.map (fun op => reckonGR Tryz.prog (guardH hkn1) asO0 100000 300 [] 14 [.int .u8 op, .bool wide, .bool holds, VN a, VN b] (V3 nil3)) = nk18.map (fun op => some ((V3 nil3), (asC0 wide holds a b op).map (·.2))) := by kernel_rfl
set_option maxHeartbeats 0 in
set_option maxRecDepth 1000000 in
theorem as_u0_19l (wide holds : Bool) (a b : NI) : nk19.map (fun op => reckonGL Tryz.prog (guardH hkn1) asO0 100000 300 [] 14 [.int .u8 op, .bool wide, .bool holds, VN a, VN b]) = nk19.map (fun op => some ((V3 nil3), (asC0 wide holds a b op).map (·.1))) := by kernel_rfl
set_option maxHeartbeats 0 in
set_option maxRecDepth 1000000 in
theorem as_u0_19r (wide holds : Bool) (a b : NI) : nk19.map (fun op => reckonGR Tryz.prog (guardH hkn1) asO0 100000 300 [] 14 [.int .u8 op, .bool wide, .bool holds, VN a, VN b] (V3 nil3)) = nk19.map (fun op => some ((V3 nil3), (asC0 wide holds a b op).map (·.2))) := by kernel_rfl
set_option maxHeartbeats 0 in
set_option maxRecDepth 1000000 in
theorem as_u1_10l (wide holds : Bool) (a b : NI) : nk10.map (fun op => reckonGL Tryz.prog (guardH hkn1) asO1 100000 300 [] 14 [.int .u8 op, .bool wide, .bool holds, VN a, VN b]) = nk10.map (fun op => some ((V3 (tightI a, tightI b, true)), (asC1 wide holds a b op).map (·.1))) := by kernel_rfl
set_option maxHeartbeats 0 in
set_option maxRecDepth 1000000 in
theorem as_u1_10r (wide holds : Bool) (a b : NI) : nk10.map (fun op => reckonGR Tryz.prog (guardH hkn1) asO1 100000 300 [] 14 [.int .u8 op, .bool wide, .bool holds, VN a, VN b] (V3 (tightI a, tightI b, true))) = nk10.map (fun op => some ((V3 (tightI a, tightI b, true)), (asC1 wide holds a b op).map (·.2))) := by kernel_rfl
set_option maxHeartbeats 0 in
set_option maxRecDepth 1000000 in
theorem as_u1_11l (wide holds : Bool) (a b : NI) : nk11.map (fun op => reckonGL Tryz.prog (guardH hkn1) asO1 100000 300 [] 14 [.int .u8 op, .bool wide, .bool holds, VN a, VN b]) = nk11.map (fun op => some ((V3 (tightI a, tightI b, true)), (asC1 wide holds a b op).map (·.1))) := by kernel_rfl
set_option maxHeartbeats 0 in
set_option maxRecDepth 1000000 in
theorem as_u1_11r (wide holds : Bool) (a b : NI) : nk11.map (fun op => reckonGR Tryz.prog (guardH hkn1) asO1 100000 300 [] 14 [.int .u8 op, .bool wide, .bool holds, VN a, VN b] (V3 (tightI a, tightI b, true))) = nk11.map (fun op => some ((V3 (tightI a, tightI b, true)), (asC1 wide holds a b op).map (·.2))) := by kernel_rfl
set_option maxHeartbeats 0 in
set_option maxRecDepth 1000000 in
theorem as_u1_12l (wide holds : Bool) (a b : NI) : nk12.map (fun op => reckonGL Tryz.prog (guardH hkn1) asO1 100000 300 [] 14 [.int .u8 op, .bool wide, .bool holds, VN a, VN b]) = nk12.map (fun op => some ((V3 (tightI a, tightI b, true)), (asC1 wide holds a b op).map (·.1))) := by kernel_rfl
set_option maxHeartbeats 0 in
set_option maxRecDepth 1000000 in
theorem as_u1_12r (wide holds : Bool) (a b : NI) : nk12.map (fun op => reckonGR Tryz.prog (guardH hkn1) asO1 100000 300 [] 14 [.int .u8 op, .bool wide, .bool holds, VN a, VN b] (V3 (tightI a, tightI b, true))) = nk12.map (fun op => some ((V3 (tightI a, tightI b, true)), (asC1 wide holds a b op).map (·.2))) := by kernel_rfl
set_option maxHeartbeats 0 in
set_option maxRecDepth 1000000 in
theorem as_u1_13l (wide holds : Bool) (a b : NI) : nk13.map (fun op => reckonGL Tryz.prog (guardH hkn1) asO1 100000 300 [] 14 [.int .u8 op, .bool wide, .bool holds, VN a, VN b]) = nk13.map (fun op => some ((V3 (tightI a, tightI b, true)), (asC1 wide holds a b op).map (·.1))) := by kernel_rfl
set_option maxHeartbeats 0 in
set_option maxRecDepth 1000000 in
theorem as_u1_13r (wide holds : Bool) (a b : NI) : nk13.map (fun op => reckonGR Tryz.prog (guardH hkn1) asO1 100000 300 [] 14 [.int .u8 op, .bool wide, .bool holds, VN a, VN b] (V3 (tightI a, tightI b, true))) = nk13.map (fun op => some ((V3 (tightI a, tightI b, true)), (asC1 wide holds a b op).map (·.2))) := by kernel_rfl
set_option maxHeartbeats 0 in
set_option maxRecDepth 1000000 in
theorem as_u1_14l (wide holds : Bool) (a b : NI) : nk14.map (fun op => reckonGL Tryz.prog (guardH hkn1) asO1 100000 300 [] 14 [.int .u8 op, .bool wide, .bool holds, VN a, VN b]) = nk14.map (fun op => some ((V3 (tightI a, tightI b, true)), (asC1 wide holds a b op).map (·.1))) := by kernel_rfl
set_option maxHeartbeats 0 in
set_option maxRecDepth 1000000 in
theorem as_u1_14r (wide holds : Bool) (a b : NI) : nk14.map (fun op => reckonGR Tryz.prog (guardH hkn1) asO1 100000 300 [] 14 [.int .u8 op, .bool wide, .bool holds, VN a, VN b] (V3 (tightI a, tightI b, true))) = nk14.map (fun op => some ((V3 (tightI a, tightI b, true)), (asC1 wide holds a b op).map (·.2))) := by kernel_rfl
set_option maxHeartbeats 0 in
set_option maxRecDepth 1000000 in
theorem as_u1_15l (wide holds : Bool) (a b : NI) : nk15.map (fun op => reckonGL Tryz.prog (guardH hkn1) asO1 100000 300 [] 14 [.int .u8 op, .bool wide, .bool holds, VN a, VN b]) = nk15.map (fun op => some ((V3 (tightI a, tightI b, true)), (asC1 wide holds a b op).map (·.1))) := by kernel_rfl
set_option maxHeartbeats 0 in
set_option maxRecDepth 1000000 in
theorem as_u1_15r (wide holds : Bool) (a b : NI) : nk15.map (fun op => reckonGR Tryz.prog (guardH hkn1) asO1 100000 300 [] 14 [.int .u8 op, .bool wide, .bool holds, VN a, VN b] (V3 (tightI a, tightI b, true))) = nk15.map (fun op => some ((V3 (tightI a, tightI b, true)), (asC1 wide holds a b op).map (·.2))) := by kernel_rfl
set_option maxHeartbeats 0 in
set_option maxRecDepth 1000000 in
theorem as_u1_16l (wide holds : Bool) (a b : NI) : nk16.map (fun op => reckonGL Tryz.prog (guardH hkn1) asO1 100000 300 [] 14 [.int .u8 op, .bool wide, .bool holds, VN a, VN b]) = nk16.map (fun op => some ((V3 (tightI a, tightI b, true)), (asC1 wide holds a b op).map (·.1))) := by kernel_rfl
set_option maxHeartbeats 0 in
set_option maxRecDepth 1000000 in
theorem as_u1_16r (wide holds : Bool) (a b : NI) : nk16.map (fun op => reckonGR Tryz.prog (guardH hkn1) asO1 100000 300 [] 14 [.int .u8 op, .bool wide, .bool holds, VN a, VN b] (V3 (tightI a, tightI b, true))) = nk16.map (fun op => some ((V3 (tightI a, tightI b, true)), (asC1 wide holds a b op).map (·.2))) := by kernel_rfl
set_option maxHeartbeats 0 in
set_option maxRecDepth 1000000 in
theorem as_u1_17l (wide holds : Bool) (a b : NI) : nk17.map (fun op => reckonGL Tryz.prog (guardH hkn1) asO1 100000 300 [] 14 [.int .u8 op, .bool wide, .bool holds, VN a, VN b]) = nk17.map (fun op => some ((V3 (tightI a, tightI b, true)), (asC1 wide holds a b op).map (·.1))) := by kernel_rfl
set_option maxHeartbeats 0 in
set_option maxRecDepth 1000000 in
theorem as_u1_17r (wide holds : Bool) (a b : NI) : nk17.map (fun op => reckonGR Tryz.prog (guardH hkn1) asO1 100000 300 [] 14 [.int .u8 op, .bool wide, .bool holds, VN a, VN b] (V3 (tightI a, tightI b, true))) = nk17.map (fun op => some ((V3 (tightI a, tightI b, true)), (asC1 wide holds a b op).map (·.2))) := by kernel_rfl
set_option maxHeartbeats 0 in
set_option maxRecDepth 1000000 in
theorem as_u1_18l (wide holds : Bool) (a b : NI) : nk18.map (fun op => reckonGL Tryz.prog (guardH hkn1) asO1 100000 300 [] 14 [.int .u8 op, .bool wide, .bool holds, VN a, VN b]) = nk18.map (fun op => some ((V3 (tightI a, tightI b, true)), (asC1 wide holds a b op).map (·.1))) := by kernel_rfl
set_option maxHeartbeats 0 in
set_option maxRecDepth 1000000 in
theorem as_u1_18r (wide holds : Bool) (a b : NI) : nk18.map (fun op => reckonGR Tryz.prog (guardH hkn1) asO1 100000 300 [] 14 [.int .u8 op, .bool wide, .bool holds, VN a, VN b] (V3 (tightI a, tightI b, true))) = nk18.map (fun op => some ((V3 (tightI a, tightI b, true)), (asC1 wide holds a b op).map (·.2))) := by kernel_rfl
set_option maxHeartbeats 0 in
set_option maxRecDepth 1000000 in
theorem as_u1_19l (wide holds : Bool) (a b : NI) : nk19.map (fun op => reckonGL Tryz.prog (guardH hkn1) asO1 100000 300 [] 14 [.int .u8 op, .bool wide, .bool holds, VN a, VN b]) = nk19.map (fun op => some ((V3 (tightI a, tightI b, true)), (asC1 wide holds a b op).map (·.1))) := by kernel_rfl
set_option maxHeartbeats 0 in
set_option maxRecDepth 1000000 in
theorem as_u1_19r (wide holds : Bool) (a b : NI) : nk19.map (fun op => reckonGR Tryz.prog (guardH hkn1) asO1 100000 300 [] 14 [.int .u8 op, .bool wide, .bool holds, VN a, VN b] (V3 (tightI a, tightI b, true))) = nk19.map (fun op => some ((V3 (tightI a, tightI b, true)), (asC1 wide holds a b op).map (·.2))) := by kernel_rfl
end Go.Proofs.YtchjneodjaakdaaGreat.Ex
end
section
namespace Go.Proofs.YtchjneodjaakdaaGreat.Ex
open Go Go.RowKit
open Go.Proofs.YtchjneodjaakdaaGreat.Sc (firstV firstOk lastV lastOk)
set_option maxHeartbeats 0 in
set_option maxRecDepth 1000000 in
theorem as_u0_20l (wide holds : Bool) (a b : NI) : nk20.map (fun op => reckonGL Tryz.prog (guardH hkn1) asO0 100000 300 [] 14 [.int .u8 op, .bool wide, .bool holds, VN a, VN b]) = nk20.map (fun op => some ((V3 nil3), (asC0 wide holds a b op).map (·.1))) := by kernel_rfl
set_option maxHeartbeats 0 in
set_option maxRecDepth 1000000 in
theorem as_u0_20r (wide holds : Bool) (a b : NI) : nk20.map (fun op => reckonGR Tryz.prog (guardH hkn1) asO0 100000 300 [] 14 [.int .u8 op, .bool wide, .bool holds, VN a, VN b] (V3 nil3)) = nk20.map (fun op => some ((V3 nil3), (asC0 wide holds a b op).map (·.2))) := by kernel_rfl
set_option maxHeartbeats 0 in
set_option maxRecDepth 1000000 in
theorem as_u0_21l (wide holds : Bool) (a b : NI) : nk21.map (fun op => reckonGL Tryz.prog (guardH hkn1) asO0 100000 300 [] 14 [.int .u8 op, .bool wide, .bool holds, VN a, VN b]) = nk21.map (fun op => some ((V3 nil3), (asC0 wide holds a b op).map (·.1))) := by kernel_rfl
set_option maxHeartbeats 0 in
set_option maxRecDepth 1000000 in
theorem as_u0_21r (wide holds : Bool) (a b : NI) : nk21.map (fun op => reckonGR Tryz.prog (guardH hkn1) asO0 100000 300 [] 14 [.int .u8 op, .bool wide, .bool holds, VN a, VN b] (V3 nil3)) = nk21.map (fun op => some ((V3 nil3), (asC0 wide holds a b op).map (·.2))) := by kernel_rfl
set_option maxHeartbeats 0 in
set_option maxRecDepth 1000000 in
theorem as_u0_22l (wide holds : Bool) (a b : NI) : nk22.map (fun op => reckonGL Tryz.prog (guardH hkn1) asO0 100000 300 [] 14 [.int .u8 op, .bool wide, .bool holds, VN a, VN b]) = nk22.map (fun op => some ((V3 nil3), (asC0 wide holds a b op).map (·.1))) := by kernel_rfl
set_option maxHeartbeats 0 in
set_option maxRecDepth 1000000 in
theorem as_u0_22r (wide holds : Bool) (a b : NI) : nk22.map (fun op => reckonGR Tryz.prog (guardH hkn1) asO0 100000 300 [] 14 [.int .u8 op, .bool wide, .bool holds, VN a, VN b] (V3 nil3)) = nk22.map (fun op => some ((V3 nil3), (asC0 wide holds a b op).map (·.2))) := by kernel_rfl
set_option maxHeartbeats 0 in
set_option maxRecDepth 1000000 in
theorem as_u0_23l (wide holds : Bool) (a b : NI) : nk23.map (fun op => reckonGL Tryz.prog (guardH hkn1) asO0 100000 300 [] 14 [.int .u8 op, .bool wide, .bool holds, VN a, VN b]) = nk23.map (fun op => some ((V3 nil3), (asC0 wide holds a b op).map (·.1))) := by kernel_rfl
set_option maxHeartbeats 0 in
set_option maxRecDepth 1000000 in
theorem as_u0_23r (wide holds : Bool) (a b : NI) : nk23.map (fun op => reckonGR Tryz.prog (guardH hkn1) asO0 100000 300 [] 14 [.int .u8 op, .bool wide, .bool holds, VN a, VN b] (V3 nil3)) = nk23.map (fun op => some ((V3 nil3), (asC0 wide holds a b op).map (·.2))) := by kernel_rfl
set_option maxHeartbeats 0 in
set_option maxRecDepth 1000000 in
theorem as_u0_24l (wide holds : Bool) (a b : NI) : nk24.map (fun op => reckonGL Tryz.prog (guardH hkn1) asO0 100000 300 [] 14 [.int .u8 op, .bool wide, .bool holds, VN a, VN b]) = nk24.map (fun op => some ((V3 nil3), (asC0 wide holds a b op).map (·.1))) := by kernel_rfl
set_option maxHeartbeats 0 in
set_option maxRecDepth 1000000 in
theorem as_u0_24r (wide holds : Bool) (a b : NI) : nk24.map (fun op => reckonGR Tryz.prog (guardH hkn1) asO0 100000 300 [] 14 [.int .u8 op, .bool wide, .bool holds, VN a, VN b] (V3 nil3)) = nk24.map (fun op => some ((V3 nil3), (asC0 wide holds a b op).map (·.2))) := by kernel_rfl
set_option maxHeartbeats 0 in
set_option maxRecDepth 1000000 in
theorem as_u0_25l (wide holds : Bool) (a b : NI) : nk25.map (fun op => reckonGL Tryz.prog (guardH hkn1) asO0 100000 300 [] 14 [.int .u8 op, .bool wide, .bool holds, VN a, VN b]) = nk25.map (fun op => some ((V3 nil3), (asC0 wide holds a b op).map (·.1))) := by kernel_rfl
set_option maxHeartbeats 0 in
set_option maxRecDepth 1000000 in
theorem as_u0_25r (wide holds : Bool) (a b : NI) : nk25.map (fun op => reckonGR Tryz.prog (guardH hkn1) asO0 100000 300 [] 14 [.int .u8 op, .bool wide, .bool holds, VN a, VN b] (V3 nil3)) = nk25.map (fun op => some ((V3 nil3), (asC0 wide holds a b op).map (·.2))) := by kernel_rfl
set_option maxHeartbeats 0 in
set_option maxRecDepth 1000000 in
theorem as_u0_26l (wide holds : Bool) (a b : NI) : nk26.map (fun op => reckonGL Tryz.prog (guardH hkn1) asO0 100000 300 [] 14 [.int .u8 op, .bool wide, .bool holds, VN a, VN b]) = nk26.map (fun op => some ((V3 nil3), (asC0 wide holds a b op).map (·.1))) := by kernel_rfl
set_option maxHeartbeats 0 in
set_option maxRecDepth 1000000 in
theorem as_u0_26r (wide holds : Bool) (a b : NI) : nk26.map (fun op => reckonGR Tryz.prog (guardH hkn1) asO0 100000 300 [] 14 [.int .u8 op, .bool wide, .bool holds, VN a, VN b] (V3 nil3)) = nk26.map (fun op => some ((V3 nil3), (asC0 wide holds a b op).map (·.2))) := by kernel_rfl
set_option maxHeartbeats 0 in
set_option maxRecDepth 1000000 in
theorem as_u0_27l (wide holds : Bool) (a b : NI) : nk27.map (fun op => reckonGL Tryz.prog (guardH hkn1) asO0 100000 300 [] 14 [.int .u8 op, .bool wide, .bool holds, VN a, VN b]) = nk27.map (fun op => some ((V3 nil3), (asC0 wide holds a b op).map (·.1))) := by kernel_rfl
set_option maxHeartbeats 0 in
set_option maxRecDepth 1000000 in
theorem as_u0_27r (wide holds : Bool) (a b : NI) : nk27.map (fun op => reckonGR Tryz.prog (guardH hkn1) asO0 100000 300 [] 14 [.int .u8 op, .bool wide, .bool holds, VN a, VN b] (V3 nil3)) = nk27.map (fun op => some ((V3 nil3), (asC0 wide holds a b op).map (·.2))) := by kernel_rfl
set_option maxHeartbeats 0 in
set_option maxRecDepth 1000000 in
theorem as_u0_28l (wide holds : Bool) (a b : NI) : nk28.map (fun op => reckonGL Tryz.prog (guardH hkn1) asO0 100000 300 [] 14 [.int .u8 op, .bool wide, .bool holds, VN a, VN b]) = nk28.map (fun op => some ((V3 nil3), (asC0 wide holds a b op).map (·.1))) := by kernel_rfl
set_option maxHeartbeats 0 in
set_option maxRecDepth 1000000 in
theorem as_u0_28r (wide holds : Bool) (a b : NI) : nk28.map (fun op => reckonGR Tryz.prog (guardH hkn1) asO0 100000 300 [] 14 [.int .u8 op, .bool wide, .bool holds, VN a, VN b] (V3 nil3)) = nk28.map (fun op => some ((V3 nil3), (asC0 wide holds a b op).map (·.2))) := by kernel_rfl
set_option maxHeartbeats 0 in
set_option maxRecDepth 1000000 in
theorem as_u0_29l (wide holds : Bool) (a b : NI) : nk29.map (fun op => reckonGL Tryz.prog (guardH hkn1) asO0 100000 300 [] 14 [.int .u8 op, .bool wide, .bool holds, VN a, VN b]) = nk29.map (fun op => some ((V3 nil3), (asC0 wide holds a b op).map (·.1))) := by kernel_rfl
set_option maxHeartbeats 0 in
set_option maxRecDepth 1000000 in
theorem as_u0_29r (wide holds : Bool) (a b : NI) : nk29.map (fun op => reckonGR Tryz.prog (guardH hkn1) asO0 100000 300 [] 14 [.int .u8 op, .bool wide, .bool holds, VN a, VN b] (V3 nil3)) = nk29.map (fun op => some ((V3 nil3), (asC0 wide holds a b op).map (·.2))) := by kernel_rfl
set_option maxHeartbeats 0 in
set_option maxRecDepth 1000000 in
theorem as_u0_30l (wide holds : Bool) (a b : NI) : nk30.map (fun op => reckonGL Tryz.prog (guardH hkn1) asO0 100000 300 [] 14 [.int .u8 op, .bool wide, .bool holds, VN a, VN b]) = nk30.map (fun op => some ((V3 nil3), (asC0 wide holds a b op).map (·.1))) := by kernel_rfl
set_option maxHeartbeats 0 in
set_option maxRecDepth 1000000 in
theorem as_u0_30r (wide holds : Bool) (a b : NI) : nk30.map (fun op => reckonGR Tryz.prog (guardH hkn1) asO0 100000 300 [] 14 [.int .u8 op, .bool wide, .bool holds, VN a, VN b] (V3 nil3)) = nk30.map (fun op => some ((V3 nil3), (asC0 wide holds a b op).map (·.2))) := by kernel_rfl
set_option maxHeartbeats 0 in
set_option maxRecDepth 1000000 in
theorem as_u1_20l (wide holds : Bool) (a b : NI) : nk20.map (fun op => reckonGL Tryz.prog (guardH hkn1) asO1 100000 300 [] 14 [.int .u8 op, .bool wide, .bool holds, VN a, VN b]) = nk20.map (fun op => some ((V3 (tightI a, tightI b, true)), (asC1 wide holds a b op).map (·.1))) := by kernel_rfl
set_option maxHeartbeats 0 in
set_option maxRecDepth 1000000 in
theorem as_u1_20r (wide holds : Bool) (a b : NI) : nk20.map (fun op => reckonGR Tryz.prog (guardH hkn1) asO1 100000 300 [] 14 [.int .u8 op, .bool wide, .bool holds, VN a, VN b] (V3 (tightI a, tightI b, true))) = nk20.map (fun op => some ((V3 (tightI a, tightI b, true)), (asC1 wide holds a b op).map (·.2))) := by kernel_rfl
set_option maxHeartbeats 0 in
set_option maxRecDepth 1000000 in
theorem as_u1_21l (wide holds : Bool) (a b : NI) : nk21.map (fun op => reckonGL Tryz.prog (guardH hkn1) asO1 100000 300 [] 14 [.int .u8 op, .bool wide, .bool holds, VN a, VN b]) = nk21.map (fun op => some ((V3 (tightI a, tightI b, true)), (asC1 wide holds a b op).map (·.1))) := by kernel_rfl
set_option maxHeartbeats 0 in
set_option maxRecDepth 1000000 in
theorem as_u1_21r (wide holds : Bool) (a b : NI) : nk21.map (fun op => reckonGR Tryz.prog (guardH hkn1) asO1 100000 300 [] 14 [.int .u8 op, .bool wide, .bool holds, VN a, VN b] (V3 (tightI a, tightI b, true))) = nk21.map (fun op => some ((V3 (tightI a, tightI b, true)), (asC1 wide holds a b op).map (·.2))) := by kernel_rfl
set_option maxHeartbeats 0 in
set_option maxRecDepth 1000000 in
theorem as_u1_22l (wide holds : Bool) (a b : NI) : nk22.map (fun op => reckonGL Tryz.prog (guardH hkn1) asO1 100000 300 [] 14 [.int .u8 op, .bool wide, .bool holds, VN a, VN b]) = nk22.map (fun op => some ((V3 (tightI a, tightI b, true)), (asC1 wide holds a b op).map (·.1))) := by kernel_rfl
set_option maxHeartbeats 0 in
set_option maxRecDepth 1000000 in
theorem as_u1_22r (wide holds : Bool) (a b : NI) : nk22.map (fun op => reckonGR Tryz.prog (guardH hkn1) asO1 100000 300 [] 14 [.int .u8 op, .bool wide, .bool holds, VN a, VN b] (V3 (tightI a, tightI b, true))) = nk22.map (fun op => some ((V3 (tightI a, tightI b, true)), (asC1 wide holds a b op).map (·.2))) := by kernel_rfl
set_option maxHeartbeats 0 in
set_option maxRecDepth 1000000 in
theorem as_u1_23l (wide holds : Bool) (a b : NI) : nk23.map (fun op => reckonGL Tryz.prog (guardH hkn1) asO1 100000 300 [] 14 [.int .u8 op, .bool wide, .bool holds, VN a, VN b]) = nk23.map (fun op => some ((V3 (tightI a, tightI b, true)), (asC1 wide holds a b op).map (·.1))) := by kernel_rfl
set_option maxHeartbeats 0 in
set_option maxRecDepth 1000000 in
theorem as_u1_23r (wide holds : Bool) (a b : NI) : nk23.map (fun op => reckonGR Tryz.prog (guardH hkn1) asO1 100000 300 [] 14 [.int .u8 op, .bool wide, .bool holds, VN a, VN b] (V3 (tightI a, tightI b, true))) = nk23.map (fun op => some ((V3 (tightI a, tightI b, true)), (asC1 wide holds a b op).map (·.2))) := by kernel_rfl
set_option maxHeartbeats 0 in
set_option maxRecDepth 1000000 in
theorem as_u1_24l (wide holds : Bool) (a b : NI) : nk24.map (fun op => reckonGL Tryz.prog (guardH hkn1) asO1 100000 300 [] 14 [.int .u8 op, .bool wide, .bool holds, VN a, VN b]) = nk24.map (fun op => some ((V3 (tightI a, tightI b, true)), (asC1 wide holds a b op).map (·.1))) := by kernel_rfl
set_option maxHeartbeats 0 in
set_option maxRecDepth 1000000 in
theorem as_u1_24r (wide holds : Bool) (a b : NI) : nk24.map (fun op => reckonGR Tryz.prog (guardH hkn1) asO1 100000 300 [] 14 [.int .u8 op, .bool wide, .bool holds, VN a, VN b] (V3 (tightI a, tightI b, true))) = nk24.map (fun op => some ((V3 (tightI a, tightI b, true)), (asC1 wide holds a b op).map (·.2))) := by kernel_rfl
set_option maxHeartbeats 0 in
set_option maxRecDepth 1000000 in
theorem as_u1_25l (wide holds : Bool) (a b : NI) : nk25.map (fun op => reckonGL Tryz.prog (guardH hkn1) asO1 100000 300 [] 14 [.int .u8 op, .bool wide, .bool holds, VN a, VN b]) = nk25.map (fun op => some ((V3 (tightI a, tightI b, true)), (asC1 wide holds a b op).map (·.1))) := by kernel_rfl
set_option maxHeartbeats 0 in
set_option maxRecDepth 1000000 in
theorem as_u1_25r (wide holds : Bool) (a b : NI) : nk25.map (fun op => reckonGR Tryz.prog (guardH hkn1) asO1 100000 300 [] 14 [.int .u8 op, .bool wide, .bool holds, VN a, VN b] (V3 (tightI a, tightI b, true))) = nk25.map (fun op => some ((V3 (tightI a, tightI b, true)), (asC1 wide holds a b op).map (·.2))) := by kernel_rfl
set_option maxHeartbeats 0 in
set_option maxRecDepth 1000000 in
theorem as_u1_26l (wide holds : Bool) (a b : NI) : nk26.map (fun op => reckonGL Tryz.prog (guardH hkn1) asO1 100000 300 [] 14 [.int .u8 op, .bool wide, .bool holds, VN a, VN b]) = nk26.map (fun op => some ((V3 (tightI a, tightI b, true)), (asC1 wide holds a b op).map (·.1))) := by kernel_rfl
set_option maxHeartbeats 0 in
set_option maxRecDepth 1000000 in
theorem as_u1_26r (wide holds : Bool) (a b : NI) : nk26.map (fun op => reckonGR Tryz.prog (guardH hkn1) asO1 100000 300 [] 14 [.int .u8 op, .bool wide, .bool holds, VN a, VN b] (V3 (tightI a, tightI b, true))) = nk26.map (fun op => some ((V3 (tightI a, tightI b, true)), (asC1 wide holds a b op).map (·.2))) := by kernel_rfl
set_option maxHeartbeats 0 in
set_option maxRecDepth 1000000 in
theorem as_u1_27l (wide holds : Bool) (a b : NI) : nk27.map (fun op => reckonGL Tryz.prog (guardH hkn1) asO1 100000 300 [] 14 [.int .u8 op, .bool wide, .bool holds, VN a, VN b]) = nk27.map (fun op => some ((V3 (tightI a, tightI b, true)), (asC1 wide holds a b op).map (·.1))) := by kernel_rfl
set_option maxHeartbeats 0 in
set_option maxRecDepth 1000000 in
theorem as_u1_27r (wide holds : Bool) (a b : NI) : nk27.map (fun op => reckonGR Tryz.prog (guardH hkn1) asO1 100000 300 [] 14 [.int .u8 op, .bool wide, .bool holds, VN a, VN b] (V3 (tightI a, tightI b, true))) = nk27.map (fun op => some ((V3 (tightI a, tightI b, true)), (asC1 wide holds a b op).map (·.2))) := by kernel_rfl
set_option maxHeartbeats 0 in
set_option maxRecDepth 1000000 in
theorem as_u1_28l (wide holds : Bool) (a b : NI) : nk28.map (fun op => reckonGL Tryz.prog (guardH hkn1) asO1 100000 300 [] 14 [.int .u8 op, .bool wide, .bool holds, VN a, VN b]) = nk28.map (fun op => some ((V3 (tightI a, tightI b, true)), (asC1 wide holds a b op).map (·.1))) := by kernel_rfl
set_option maxHeartbeats 0 in
set_option maxRecDepth 1000000 in
theorem as_u1_28r (wide holds : Bool) (a b : NI) : nk28.map (fun op => reckonGR Tryz.prog (guardH hkn1) asO1 100000 300 [] 14 [.int .u8 op, .bool wide, .bool holds, VN a, VN b] (V3 (tightI a, tightI b, true))) = nk28.map (fun op => some ((V3 (tightI a, tightI b, true)), (asC1 wide holds a b op).map (·.2))) := by kernel_rfl
set_option maxHeartbeats 0 in
set_option maxRecDepth 1000000 in
theorem as_u1_29l (wide holds : Bool) (a b : NI) : nk29.map (fun op => reckonGL Tryz.prog (guardH hkn1) asO1 100000 300 [] 14 [.int .u8 op, .bool wide, .bool holds, VN a, VN b]) = nk29.map (fun op => some ((V3 (tightI a, tightI b, true)), (asC1 wide holds a b op).map (·.1))) := by kernel_rfl
set_option maxHeartbeats 0 in
set_option maxRecDepth 1000000 in
theorem as_u1_29r (wide holds : Bool) (a b : NI) : nk29.map (fun op => reckonGR Tryz.prog (guardH hkn1) asO1 100000 300 [] 14 [.int .u8 op, .bool wide, .bool holds, VN a, VN b] (V3 (tightI a, tightI b, true))) = nk29.map (fun op => some ((V3 (tightI a, tightI b, true)), (asC1 wide holds a b op).map (·.2))) := by kernel_rfl
set_option maxHeartbeats 0 in
set_option maxRecDepth 1000000 in
theorem as_u1_30l (wide holds : Bool) (a b : NI) : nk30.map (fun op => reckonGL Tryz.prog (guardH hkn1) asO1 100000 300 [] 14 [.int .u8 op, .bool wide, .bool holds, VN a, VN b]) = nk30.map (fun op => some ((V3 (tightI a, tightI b, true)), (asC1 wide holds a b op).map (·.1))) := by kernel_rfl
set_option maxHeartbeats 0 in
set_option maxRecDepth 1000000 in
theorem as_u1_30r (wide holds : Bool) (a b : NI) : nk30.map (fun op => reckonGR Tryz.prog (guardH hkn1) asO1 100000 300 [] 14 [.int .u8 op, .bool wide, .bool holds, VN a, VN b] (V3 (tightI a, tightI b, true))) = nk30.map (fun op => some ((V3 (tightI a, tightI b, true)), (asC1 wide holds a b op).map (·.2))) := by kernel_rfl
end Go.Proofs.YtchjneodjaakdaaGreat.Ex
end
section
namespace Go.Proofs.YtchjneodjaakdaaGreat.Ex
open Go Go.RowKit
open Go.Proofs.YtchjneodjaakdaaGreat.Sc (firstV firstOk lastV lastOk)
theorem as_u0 (op : Int) (hop : op ∈ nonk) (wide holds : Bool) (a b : NI) (he : (asC0 wide holds a b op).map (·.1) = (asC0 wide holds a b op).map (·.2)) (w : World) : Calls Tryz.prog 14 #[.int .u8 op, .bool wide, .bool holds, VN a, VN b] w fun e w' => e = .returned (V3 nil3) ∧ Gr w w' := by
  unfold nonk at hop
  rcases List.mem_append.1 hop with hm | hop
  · exact rk hkn1_ok asO0 (cs := asC0 wide holds a b op) rfl (List.map_inj_left.1 (as_u0_0l wide holds a b) op hm) (List.map_inj_left.1 (as_u0_0r wide holds a b) op hm) he w
  rcases List.mem_append.1 hop with hm | hop
  · exact rk hkn1_ok asO0 (cs := asC0 wide holds a b op) rfl (List.map_inj_left.1 (as_u0_1l wide holds a b) op hm) (List.map_inj_left.1 (as_u0_1r wide holds a b) op hm) he w
  rcases List.mem_append.1 hop with hm | hop
  · exact rk hkn1_ok asO0 (cs := asC0 wide holds a b op) rfl (List.map_inj_left.1 (as_u0_2l wide holds a b) op hm) (List.map_inj_left.1 (as_u0_2r wide holds a b) op hm) he w
  rcases List.mem_append.1 hop with hm | hop
  · exact rk hkn1_ok asO0 (cs := asC0 wide holds a b op) rfl (List.map_inj_left.1 (as_u0_3l wide holds a b) op hm) (List.map_inj_left.1 (as_u0_3r wide holds a b) op hm) he w
  rcases List.mem_append.1 hop with hm | hop
  · exact rk hkn1_ok asO0 (cs := asC0 wide holds a b op) rfl (List.map_inj_left.1 (as_u0_4l wide holds a b) op hm) (List.map_inj_left.1 (as_u0_4r wide holds a b) op hm) he w
  rcases List.mem_append.1 hop with hm | hop
  · exact rk hkn1_ok asO0 (cs := asC0 wide holds a b op) rfl (List.map_inj_left.1 (as_u0_5l wide holds a b) op hm) (List.map_inj_left.1 (as_u0_5r wide holds a b) op hm) he w
  rcases List.mem_append.1 hop with hm | hop
  · exact rk hkn1_ok asO0 (cs := asC0 wide holds a b op) rfl (List.map_inj_left.1 (as_u0_6l wide holds a b) op hm) (List.map_inj_left.1 (as_u0_6r wide holds a b) op hm) he w
  rcases List.mem_append.1 hop with hm | hop
  · exact rk hkn1_ok asO0 (cs := asC0 wide holds a b op) rfl (List.map_inj_left.1 (as_u0_7l wide holds a b) op hm) (List.map_inj_left.1 (as_u0_7r wide holds a b) op hm) he w
  rcases List.mem_append.1 hop with hm | hop
  · exact rk hkn1_ok asO0 (cs := asC0 wide holds a b op) rfl (List.map_inj_left.1 (as_u0_8l wide holds a b) op hm) (List.map_inj_left.1 (as_u0_8r wide holds a b) op hm) he w
  rcases List.mem_append.1 hop with hm | hop
  · exact rk hkn1_ok asO0 (cs := asC0 wide holds a b op) rfl (List.map_inj_left.1 (as_u0_9l wide holds a b) op hm) (List.map_inj_left.1 (as_u0_9r wide holds a b) op hm) he w
  rcases List.mem_append.1 hop with hm | hop
  · exact rk hkn1_ok asO0 (cs := asC0 wide holds a b op) rfl (List.map_inj_left.1 (as_u0_10l wide holds a b) op hm) (List.map_inj_left.1 (as_u0_10r wide holds a b) op hm) he w
  rcases List.mem_append.1 hop with hm | hop
  · exact rk hkn1_ok asO0 (cs := asC0 wide holds a b op) rfl (List.map_inj_left.1 (as_u0_11l wide holds a b) op hm) (List.map_inj_left.1 (as_u0_11r wide holds a b) op hm) he w
  rcases List.mem_append.1 hop with hm | hop
  · exact rk hkn1_ok asO0 (cs := asC0 wide holds a b op) rfl (List.map_inj_left.1 (as_u0_12l wide holds a b) op hm) (List.map_inj_left.1 (as_u0_12r wide holds a b) op hm) he w
  rcases List.mem_append.1 hop with hm | hop
  · exact rk hkn1_ok asO0 (cs := asC0 wide holds a b op) rfl (List.map_inj_left.1 (as_u0_13l wide holds a b) op hm) (List.map_inj_left.1 (as_u0_13r wide holds a b) op hm) he w
  rcases List.mem_append.1 hop with hm | hop
  · exact rk hkn1_ok asO0 (cs := asC0 wide holds a b op) rfl (List.map_inj_left.1 (as_u0_14l wide holds a b) op hm) (List.map_inj_left.1 (as_u0_14r wide holds a b) op hm) he w
  rcases List.mem_append.1 hop with hm | hop
  · exact rk hkn1_ok asO0 (cs := asC0 wide holds a b op) rfl (List.map_inj_left.1 (as_u0_15l wide holds a b) op hm) (List.map_inj_left.1 (as_u0_15r wide holds a b) op hm) he w
  rcases List.mem_append.1 hop with hm | hop
  · exact rk hkn1_ok asO0 (cs := asC0 wide holds a b op) rfl (List.map_inj_left.1 (as_u0_16l wide holds a b) op hm) (List.map_inj_left.1 (as_u0_16r wide holds a b) op hm) he w
  rcases List.mem_append.1 hop with hm | hop
  · exact rk hkn1_ok asO0 (cs := asC0 wide holds a b op) rfl (List.map_inj_left.1 (as_u0_17l wide holds a b) op hm) (List.map_inj_left.1 (as_u0_17r wide holds a b) op hm) he w
  rcases List.mem_append.1 hop with hm | hop
  · exact rk hkn1_ok asO0 (cs := asC0 wide holds a b op) rfl (List.map_inj_left.1 (as_u0_18l wide holds a b) op hm) (List.map_inj_left.1 (as_u0_18r wide holds a b) op hm) he w
  rcases List.mem_append.1 hop with hm | hop
  · exact rk hkn1_ok asO0 (cs := asC0 wide holds a b op) rfl (List.map_inj_left.1 (as_u0_19l wide holds a b) op hm) (List.map_inj_left.1 (as_u0_19r wide holds a b) op hm) he w
  rcases List.mem_append.1 hop with hm | hop
  · exact rk hkn1_ok asO0 (cs := asC0 wide holds a b op) rfl (List.map_inj_left.1 (as_u0_20l wide holds a b) op hm) (List.map_inj_left.1 (as_u0_20r wide holds a b) op hm) he w
  rcases List.mem_append.1 hop with hm | hop
  · exact rk hkn1_ok asO0 (cs := asC0 wide holds a b op) rfl (List.map_inj_left.1 (as_u0_21l wide holds a b) op hm) (List.map_inj_left.1 (as_u0_21r wide holds a b) op hm) he w
  rcases List.mem_append.1 hop with hm | hop
  · exact rk hkn1_ok asO0 (cs := asC0 wide holds a b op) rfl (List.map_inj_left.1 (as_u0_22l wide holds a b) op hm) (List.map_inj_left.1 (as_u0_22r wide holds a b) op hm) he w
  rcases List.mem_append.1 hop with hm | hop
  · exact rk hkn1_ok asO0 (cs := asC0 wide holds a b op) rfl (List.map_inj_left.1 (as_u0_23l wide holds a b) op hm) (List.map_inj_left.1 (as_u0_23r wide holds a b) op hm) he w
  rcases List.mem_append.1 hop with hm | hop
  · exact rk hkn1_ok asO0 (cs := asC0 wide holds a b op) rfl (List.map_inj_left.1 (as_u0_24l wide holds a b) op hm) (List.map_inj_left.1 (as_u0_24r wide holds a b) op hm) he w
  rcases List.mem_append.1 hop with hm | hop
  · exact rk hkn1_ok asO0 (cs := asC0 wide holds a b op) rfl (List.map_inj_left.1 (as_u0_25l wide holds a b) op hm) (List.map_inj_left.1 (as_u0_25r wide holds a b) op hm) he w
  rcases List.mem_append.1 hop with hm | hop
  · exact rk hkn1_ok asO0 (cs := asC0 wide holds a b op) rfl (List.map_inj_left.1 (as_u0_26l wide holds a b) op hm) (List.map_inj_left.1 (as_u0_26r wide holds a b) op hm) he w
  rcases List.mem_append.1 hop with hm | hop
  · exact rk hkn1_ok asO0 (cs := asC0 wide holds a b op) rfl (List.map_inj_left.1 (as_u0_27l wide holds a b) op hm) (List.map_inj_left.1 (as_u0_27r wide holds a b) op hm) he w
  rcases List.mem_append.1 hop with hm | hop
  · exact rk hkn1_ok asO0 (cs := asC0 wide holds a b op) rfl (List.map_inj_left.1 (as_u0_28l wide holds a b) op hm) (List.map_inj_left.1 (as_u0_28r wide holds a b) op hm) he w
  rcases List.mem_append.1 hop with hm | hop
  · exact rk hkn1_ok asO0 (cs := asC0 wide holds a b op) rfl (List.map_inj_left.1 (as_u0_29l wide holds a b) op hm) (List.map_inj_left.1 (as_u0_29r wide holds a b) op hm) he w
  · exact rk hkn1_ok asO0 (cs := asC0 wide holds a b op) rfl (List.map_inj_left.1 (as_u0_30l wide holds a b) op hop) (List.map_inj_left.1 (as_u0_30r wide holds a b) op hop) he w
theorem as_u1 (op : Int) (hop : op ∈ nonk) (wide holds : Bool) (a b : NI) (he : (asC1 wide holds a b op).map (·.1) = (asC1 wide holds a b op).map (·.2)) (w : World) : Calls Tryz.prog 14 #[.int .u8 op, .bool wide, .bool holds, VN a, VN b] w fun e w' => e = .returned (V3 (tightI a, tightI b, true)) ∧ Gr w w' := by
  unfold nonk at hop
  rcases List.mem_append.1 hop with hm | hop
  · exact rk hkn1_ok asO1 (cs := asC1 wide holds a b op) rfl (List.map_inj_left.1 (as_u1_0l wide holds a b) op hm) (List.map_inj_left.1 (as_u1_0r wide holds a b) op hm) he w
  rcases List.mem_append.1 hop with hm | hop
  · exact rk hkn1_ok asO1 (cs := asC1 wide holds a b op) rfl (List.map_inj_left.1 (as_u1_1l wide holds a b) op hm) (List.map_inj_left.1 (as_u1_1r wide holds a b) op hm) he w
  rcases List.mem_append.1 hop with hm | hop
  · exact rk hkn1_ok asO1 (cs := asC1 wide holds a b op) rfl (List.map_inj_left.1 (as_u1_2l wide holds a b) op hm) (List.map_inj_left.1 (as_u1_2r wide holds a b) op hm) he w
  rcases List.mem_append.1 hop with hm | hop
  · exact rk hkn1_ok asO1 (cs := asC1 wide holds a b op) rfl (List.map_inj_left.1 (as_u1_3l wide holds a b) op hm) (List.map_inj_left.1 (as_u1_3r wide holds a b) op hm) he w
  rcases List.mem_append.1 hop with hm | hop
  · exact rk hkn1_ok asO1 (cs := asC1 wide holds a b op) rfl (List.map_inj_left.1 (as_u1_4l wide holds a b) op hm) (List.map_inj_left.1 (as_u1_4r wide holds a b) op hm) he w
  rcases List.mem_append.1 hop with hm | hop
  · exact rk hkn1_ok asO1 (cs := asC1 wide holds a b op) rfl (List.map_inj_left.1 (as_u1_5l wide holds a b) op hm) (List.map_inj_left.1 (as_u1_5r wide holds a b) op hm) he w
  rcases List.mem_append.1 hop with hm | hop
  · exact rk hkn1_ok asO1 (cs := asC1 wide holds a b op) rfl (List.map_inj_left.1 (as_u1_6l wide holds a b) op hm) (List.map_inj_left.1 (as_u1_6r wide holds a b) op hm) he w
  rcases List.mem_append.1 hop with hm | hop
  · exact rk hkn1_ok asO1 (cs := asC1 wide holds a b op) rfl (List.map_inj_left.1 (as_u1_7l wide holds a b) op hm) (List.map_inj_left.1 (as_u1_7r wide holds a b) op hm) he w
  rcases List.mem_append.1 hop with hm | hop
  · exact rk hkn1_ok asO1 (cs := asC1 wide holds a b op) rfl (List.map_inj_left.1 (as_u1_8l wide holds a b) op hm) (List.map_inj_left.1 (as_u1_8r wide holds a b) op hm) he w
  rcases List.mem_append.1 hop with hm | hop
  · exact rk hkn1_ok asO1 (cs := asC1 wide holds a b op) rfl (List.map_inj_left.1 (as_u1_9l wide holds a b) op hm) (List.map_inj_left.1 (as_u1_9r wide holds a b) op hm) he w
  rcases List.mem_append.1 hop with hm | hop
  · exact rk hkn1_ok asO1 (cs := asC1 wide holds a b op) rfl (List.map_inj_left.1 (as_u1_10l wide holds a b) op hm) (List.map_inj_left.1 (as_u1_10r wide holds a b) op hm) he w
  rcases List.mem_append.1 hop with hm | hop
  · exact rk hkn1_ok asO1 (cs := asC1 wide holds a b op) rfl (List.map_inj_left.1 (as_u1_11l wide holds a b) op hm) (List.map_inj_left.1 (as_u1_11r wide holds a b) op hm) he w
  rcases List.mem_append.1 hop with hm | hop
  · exact rk hkn1_ok asO1 (cs := asC1 wide holds a b op) rfl (List.map_inj_left.1 (as_u1_12l wide holds a b) op hm) (List.map_inj_left.1 (as_u1_12r wide holds a b) op hm) he w
  rcases List.mem_append.1 hop with hm | hop
  · exact rk hkn1_ok asO1 (cs := asC1 wide holds a b op) rfl (List.map_inj_left.1 (as_u1_13l wide holds a b) op hm) (List.map_inj_left.1 (as_u1_13r wide holds a b) op hm) he w
  rcases List.mem_append.1 hop with hm | hop
  · exact rk hkn1_ok asO1 (cs := asC1 wide holds a b op) rfl (List.map_inj_left.1 (as_u1_14l wide holds a b) op hm) (List.map_inj_left.1 (as_u1_14r wide holds a b) op hm) he w
  rcases List.mem_append.1 hop with hm | hop
  · exact rk hkn1_ok asO1 (cs := asC1 wide holds a b op) rfl (List.map_inj_left.1 (as_u1_15l wide holds a b) op hm) (List.map_inj_left.1 (as_u1_15r wide holds a b) op hm) he w
  rcases List.mem_append.1 hop with hm | hop
  · exact rk hkn1_ok asO1 (cs := asC1 wide holds a b op) rfl (List.map_inj_left.1 (as_u1_16l wide holds a b) op hm) (List.map_inj_left.1 (as_u1_16r wide holds a b) op hm) he w
  rcases List.mem_append.1 hop with hm | hop
  · exact rk hkn1_ok asO1 (cs := asC1 wide holds a b op) rfl (List.map_inj_left.1 (as_u1_17l wide holds a b) op hm) (List.map_inj_left.1 (as_u1_17r wide holds a b) op hm) he w
  rcases List.mem_append.1 hop with hm | hop
  · exact rk hkn1_ok asO1 (cs := asC1 wide holds a b op) rfl (List.map_inj_left.1 (as_u1_18l wide holds a b) op hm) (List.map_inj_left.1 (as_u1_18r wide holds a b) op hm) he w
  rcases List.mem_append.1 hop with hm | hop
  · exact rk hkn1_ok asO1 (cs := asC1 wide holds a b op) rfl (List.map_inj_left.1 (as_u1_19l wide holds a b) op hm) (List.map_inj_left.1 (as_u1_19r wide holds a b) op hm) he w
  rcases List.mem_append.1 hop with hm | hop
  · exact rk hkn1_ok asO1 (cs := asC1 wide holds a b op) rfl (List.map_inj_left.1 (as_u1_20l wide holds a b) op hm) (List.map_inj_left.1 (as_u1_20r wide holds a b) op hm) he w
  rcases List.mem_append.1 hop with hm | hop
  · exact rk hkn1_ok asO1 (cs := asC1 wide holds a b op) rfl (List.map_inj_left.1 (as_u1_21l wide holds a b) op hm) (List.map_inj_left.1 (as_u1_21r wide holds a b) op hm) he w
  rcases List.mem_append.1 hop with hm | hop
  · exact rk hkn1_ok asO1 (cs := asC1 wide holds a b op) rfl (List.map_inj_left.1 (as_u1_22l wide holds a b) op hm) (List.map_inj_left.1 (as_u1_22r wide holds a b) op hm) he w
  rcases List.mem_append.1 hop with hm | hop
  · exact rk hkn1_ok asO1 (cs := asC1 wide holds a b op) rfl (List.map_inj_left.1 (as_u1_23l wide holds a b) op hm) (List.map_inj_left.1 (as_u1_23r wide holds a b) op hm) he w
  rcases List.mem_append.1 hop with hm | hop
  · exact rk hkn1_ok asO1 (cs := asC1 wide holds a b op) rfl (List.map_inj_left.1 (as_u1_24l wide holds a b) op hm) (List.map_inj_left.1 (as_u1_24r wide holds a b) op hm) he w
  rcases List.mem_append.1 hop with hm | hop
  · exact rk hkn1_ok asO1 (cs := asC1 wide holds a b op) rfl (List.map_inj_left.1 (as_u1_25l wide holds a b) op hm) (List.map_inj_left.1 (as_u1_25r wide holds a b) op hm) he w
  rcases List.mem_append.1 hop with hm | hop
  · exact rk hkn1_ok asO1 (cs := asC1 wide holds a b op) rfl (List.map_inj_left.1 (as_u1_26l wide holds a b) op hm) (List.map_inj_left.1 (as_u1_26r wide holds a b) op hm) he w
  rcases List.mem_append.1 hop with hm | hop
  · exact rk hkn1_ok asO1 (cs := asC1 wide holds a b op) rfl (List.map_inj_left.1 (as_u1_27l wide holds a b) op hm) (List.map_inj_left.1 (as_u1_27r wide holds a b) op hm) he w
  rcases List.mem_append.1 hop with hm | hop
  · exact rk hkn1_ok asO1 (cs := asC1 wide holds a b op) rfl (List.map_inj_left.1 (as_u1_28l wide holds a b) op hm) (List.map_inj_left.1 (as_u1_28r wide holds a b) op hm) he w
  rcases List.mem_append.1 hop with hm | hop
  · exact rk hkn1_ok asO1 (cs := asC1 wide holds a b op) rfl (List.map_inj_left.1 (as_u1_29l wide holds a b) op hm) (List.map_inj_left.1 (as_u1_29r wide holds a b) op hm) he w
  · exact rk hkn1_ok asO1 (cs := asC1 wide holds a b op) rfl (List.map_inj_left.1 (as_u1_30l wide holds a b) op hop) (List.map_inj_left.1 (as_u1_30r wide holds a b) op hop) he w
theorem op_all : (List.range 256).all (fun n => isK (n : Int) || nonk.contains (n : Int)) = true := by kernel_rfl
theorem nonk_no : nonk.all (fun x => !(isK x)) = true := by kernel_rfl
theorem op_cases {op : Int} (h : u8B op = true) : isK op = true ∨ (isK op = false ∧ op ∈ nonk) := by
  obtain ⟨h0, h1⟩ := of_decide_eq_true h
  obtain ⟨n, rfl⟩ := Int.eq_ofNat_of_zero_le h0
  have hn : n < 256 := by omega
  have := List.all_eq_true.1 op_all n (List.mem_range.2 hn)
  cases hk : isK (n : Int) with
  | true => exact .inl rfl
  | false =>
    rw [hk, Bool.false_or] at this
    exact .inr ⟨rfl, List.contains_iff_mem.1 this⟩
theorem asK_tt (c : Int) (a b : NI) : asK (if true = true then c else opp c) true a b = cmpI c a b := rfl
theorem asK_ft {c d : Int} (h : opp c = d) (a b : NI) : asK (if false = true then c else opp c) true a b = cmpI d a b := by subst h; rfl
theorem asK_tf (c : Int) (a b : NI) : asK (if true = true then c else opp c) false a b = hcI c a b := rfl
theorem asK_ff {c d : Int} (h : opp c = d) (a b : NI) : asK (if false = true then c else opp c) false a b = hcI d a b := by subst h; rfl
theorem isC_and {c : Int} {x : Bool} (h : isC c = true) (h2 : x = true) : (isC c && x) = true := by rw [h, h2]; rfl
set_option maxHeartbeats 0 in
theorem c_as (op : Int) (wide holds : Bool) (a b : NI) (hw : (u8B op && (nW a && nW b)) = true) (w : World) : Calls Tryz.prog 14 #[.int .u8 op, .bool wide, .bool holds, VN a, VN b] w fun e w' => e = .returned (V3 (asI op wide holds a b)) ∧ Gr w w' := by
  have hh : u8B op = true ∧ nW a = true ∧ nW b = true := by simpa only [Bool.and_eq_true] using hw
  obtain ⟨ho, ha, hb⟩ := hh
  have h2 : (nW (tightI a) && nW (tightI b)) = true := by rw [nW_tight, nW_tight]; rfl
  cases ka : tightK a with
  | false =>
    cases kb : tightK b with
    | false => exact ret_eq (by simp only [asI, ka, Bool.false_eq_true, ↓reduceIte]) (as_n00 op wide holds a b (csT ha (csF ka (csT hb (csF kb csN)))) w)
    | true => exact ret_eq (by simp only [asI, ka, Bool.false_eq_true, ↓reduceIte]) (as_n01 op wide holds a b (csT ha (csF ka (csT hb (csT kb csN)))) w)
  | true =>
    cases kb : tightK b with
    | false => exact ret_eq (by simp only [asI, ka, kb, Bool.false_eq_true, ↓reduceIte]) (as_n10 op wide holds a b (csT ha (csT ka (csT hb (csF kb csN)))) w)
    | true =>
      rcases op_cases ho with hk | ⟨hk, hm⟩
      · have hv : asI op wide holds a b = asK (if holds then op else opp op) wide (tightI a) (tightI b) := by
          unfold asI; rw [if_pos ka, if_pos kb]; unfold asY; rw [if_pos hk]
        rw [hv]
        unfold isK at hk
        simp only [Bool.or_eq_true, beq_iff_eq, or_assoc] at hk
        rcases hk with rfl | rfl | rfl | rfl | rfl | rfl | rfl | rfl | rfl | rfl | rfl
        · cases wide <;> cases holds
          · exact ret_eq (congrArg V3 (asK_ff (show opp 16 = 80 from rfl) (tightI a) (tightI b))) (as_16_00 a b (csT ha (csT ka (csT hb (csT kb (csT (isC_and (show isC 80 = true from rfl) h2) csN))))) w)
          · exact ret_eq (congrArg V3 (asK_tf 16 (tightI a) (tightI b))) (as_16_01 a b (csT ha (csT ka (csT hb (csT kb (csT (isC_and (show isC 16 = true from rfl) h2) csN))))) w)
          · exact ret_eq (congrArg V3 (asK_ft (show opp 16 = 80 from rfl) (tightI a) (tightI b))) (as_16_10 a b (csT ha (csT ka (csT hb (csT kb (csT (isC_and (show isC 80 = true from rfl) h2) csN))))) w)
          · exact ret_eq (congrArg V3 (asK_tt 16 (tightI a) (tightI b))) (as_16_11 a b (csT ha (csT ka (csT hb (csT kb (csT (isC_and (show isC 16 = true from rfl) h2) csN))))) w)
        · cases wide <;> cases holds
          · exact ret_eq (congrArg V3 (asK_ff (show opp 80 = 16 from rfl) (tightI a) (tightI b))) (as_80_00 a b (csT ha (csT ka (csT hb (csT kb (csT (isC_and (show isC 16 = true from rfl) h2) csN))))) w)
          · exact ret_eq (congrArg V3 (asK_tf 80 (tightI a) (tightI b))) (as_80_01 a b (csT ha (csT ka (csT hb (csT kb (csT (isC_and (show isC 80 = true from rfl) h2) csN))))) w)
          · exact ret_eq (congrArg V3 (asK_ft (show opp 80 = 16 from rfl) (tightI a) (tightI b))) (as_80_10 a b (csT ha (csT ka (csT hb (csT kb (csT (isC_and (show isC 16 = true from rfl) h2) csN))))) w)
          · exact ret_eq (congrArg V3 (asK_tt 80 (tightI a) (tightI b))) (as_80_11 a b (csT ha (csT ka (csT hb (csT kb (csT (isC_and (show isC 80 = true from rfl) h2) csN))))) w)
        · cases wide <;> cases holds
          · exact ret_eq (congrArg V3 (asK_ff (show opp 64 = 255 from rfl) (tightI a) (tightI b))) (as_64_00 a b (csT ha (csT ka (csT hb (csT kb (csT (isC_and (show isC 255 = true from rfl) h2) csN))))) w)
          · exact ret_eq (congrArg V3 (asK_tf 64 (tightI a) (tightI b))) (as_64_01 a b (csT ha (csT ka (csT hb (csT kb (csT (isC_and (show isC 64 = true from rfl) h2) csN))))) w)
          · exact ret_eq (congrArg V3 (asK_ft (show opp 64 = 255 from rfl) (tightI a) (tightI b))) (as_64_10 a b (csT ha (csT ka (csT hb (csT kb (csT (isC_and (show isC 255 = true from rfl) h2) csN))))) w)
          · exact ret_eq (congrArg V3 (asK_tt 64 (tightI a) (tightI b))) (as_64_11 a b (csT ha (csT ka (csT hb (csT kb (csT (isC_and (show isC 64 = true from rfl) h2) csN))))) w)
        · cases wide <;> cases holds
          · exact ret_eq (congrArg V3 (asK_ff (show opp 32 = 176 from rfl) (tightI a) (tightI b))) (as_32_00 a b (csT ha (csT ka (csT hb (csT kb (csT (isC_and (show isC 176 = true from rfl) h2) csN))))) w)
          · exact ret_eq (congrArg V3 (asK_tf 32 (tightI a) (tightI b))) (as_32_01 a b (csT ha (csT ka (csT hb (csT kb (csT (isC_and (show isC 32 = true from rfl) h2) csN))))) w)
          · exact ret_eq (congrArg V3 (asK_ft (show opp 32 = 176 from rfl) (tightI a) (tightI b))) (as_32_10 a b (csT ha (csT ka (csT hb (csT kb (csT (isC_and (show isC 176 = true from rfl) h2) csN))))) w)
          · exact ret_eq (congrArg V3 (asK_tt 32 (tightI a) (tightI b))) (as_32_11 a b (csT ha (csT ka (csT hb (csT kb (csT (isC_and (show isC 32 = true from rfl) h2) csN))))) w)
        · cases wide <;> cases holds
          · exact ret_eq (congrArg V3 (asK_ff (show opp 48 = 160 from rfl) (tightI a) (tightI b))) (as_48_00 a b (csT ha (csT ka (csT hb (csT kb (csT (isC_and (show isC 160 = true from rfl) h2) csN))))) w)
          · exact ret_eq (congrArg V3 (asK_tf 48 (tightI a) (tightI b))) (as_48_01 a b (csT ha (csT ka (csT hb (csT kb (csT (isC_and (show isC 48 = true from rfl) h2) csN))))) w)
          · exact ret_eq (congrArg V3 (asK_ft (show opp 48 = 160 from rfl) (tightI a) (tightI b))) (as_48_10 a b (csT ha (csT ka (csT hb (csT kb (csT (isC_and (show isC 160 = true from rfl) h2) csN))))) w)
          · exact ret_eq (congrArg V3 (asK_tt 48 (tightI a) (tightI b))) (as_48_11 a b (csT ha (csT ka (csT hb (csT kb (csT (isC_and (show isC 48 = true from rfl) h2) csN))))) w)
        · cases wide <;> cases holds
          · exact ret_eq (congrArg V3 (asK_ff (show opp 96 = 208 from rfl) (tightI a) (tightI b))) (as_96_00 a b (csT ha (csT ka (csT hb (csT kb (csT (isC_and (show isC 208 = true from rfl) h2) csN))))) w)
          · exact ret_eq (congrArg V3 (asK_tf 96 (tightI a) (tightI b))) (as_96_01 a b (csT ha (csT ka (csT hb (csT kb (csT (isC_and (show isC 96 = true from rfl) h2) csN))))) w)
          · exact ret_eq (congrArg V3 (asK_ft (show opp 96 = 208 from rfl) (tightI a) (tightI b))) (as_96_10 a b (csT ha (csT ka (csT hb (csT kb (csT (isC_and (show isC 208 = true from rfl) h2) csN))))) w)
          · exact ret_eq (congrArg V3 (asK_tt 96 (tightI a) (tightI b))) (as_96_11 a b (csT ha (csT ka (csT hb (csT kb (csT (isC_and (show isC 96 = true from rfl) h2) csN))))) w)
        · cases wide <;> cases holds
          · exact ret_eq (congrArg V3 (asK_ff (show opp 112 = 192 from rfl) (tightI a) (tightI b))) (as_112_00 a b (csT ha (csT ka (csT hb (csT kb (csT (isC_and (show isC 192 = true from rfl) h2) csN))))) w)
          · exact ret_eq (congrArg V3 (asK_tf 112 (tightI a) (tightI b))) (as_112_01 a b (csT ha (csT ka (csT hb (csT kb (csT (isC_and (show isC 112 = true from rfl) h2) csN))))) w)
          · exact ret_eq (congrArg V3 (asK_ft (show opp 112 = 192 from rfl) (tightI a) (tightI b))) (as_112_10 a b (csT ha (csT ka (csT hb (csT kb (csT (isC_and (show isC 192 = true from rfl) h2) csN))))) w)
          · exact ret_eq (congrArg V3 (asK_tt 112 (tightI a) (tightI b))) (as_112_11 a b (csT ha (csT ka (csT hb (csT kb (csT (isC_and (show isC 112 = true from rfl) h2) csN))))) w)
        · cases wide <;> cases holds
          · exact ret_eq (congrArg V3 (asK_ff (show opp 160 = 48 from rfl) (tightI a) (tightI b))) (as_160_00 a b (csT ha (csT ka (csT hb (csT kb (csT (isC_and (show isC 48 = true from rfl) h2) csN))))) w)
          · exact ret_eq (congrArg V3 (asK_tf 160 (tightI a) (tightI b))) (as_160_01 a b (csT ha (csT ka (csT hb (csT kb (csT (isC_and (show isC 160 = true from rfl) h2) csN))))) w)
          · exact ret_eq (congrArg V3 (asK_ft (show opp 160 = 48 from rfl) (tightI a) (tightI b))) (as_160_10 a b (csT ha (csT ka (csT hb (csT kb (csT (isC_and (show isC 48 = true from rfl) h2) csN))))) w)
          · exact ret_eq (congrArg V3 (asK_tt 160 (tightI a) (tightI b))) (as_160_11 a b (csT ha (csT ka (csT hb (csT kb (csT (isC_and (show isC 160 = true from rfl) h2) csN))))) w)
        · cases wide <;> cases holds
          · exact ret_eq (congrArg V3 (asK_ff (show opp 176 = 32 from rfl) (tightI a) (tightI b))) (as_176_00 a b (csT ha (csT ka (csT hb (csT kb (csT (isC_and (show isC 32 = true from rfl) h2) csN))))) w)
          · exact ret_eq (congrArg V3 (asK_tf 176 (tightI a) (tightI b))) (as_176_01 a b (csT ha (csT ka (csT hb (csT kb (csT (isC_and (show isC 176 = true from rfl) h2) csN))))) w)
          · exact ret_eq (congrArg V3 (asK_ft (show opp 176 = 32 from rfl) (tightI a) (tightI b))) (as_176_10 a b (csT ha (csT ka (csT hb (csT kb (csT (isC_and (show isC 32 = true from rfl) h2) csN))))) w)
          · exact ret_eq (congrArg V3 (asK_tt 176 (tightI a) (tightI b))) (as_176_11 a b (csT ha (csT ka (csT hb (csT kb (csT (isC_and (show isC 176 = true from rfl) h2) csN))))) w)
        · cases wide <;> cases holds
          · exact ret_eq (congrArg V3 (asK_ff (show opp 192 = 112 from rfl) (tightI a) (tightI b))) (as_192_00 a b (csT ha (csT ka (csT hb (csT kb (csT (isC_and (show isC 112 = true from rfl) h2) csN))))) w)
          · exact ret_eq (congrArg V3 (asK_tf 192 (tightI a) (tightI b))) (as_192_01 a b (csT ha (csT ka (csT hb (csT kb (csT (isC_and (show isC 192 = true from rfl) h2) csN))))) w)
          · exact ret_eq (congrArg V3 (asK_ft (show opp 192 = 112 from rfl) (tightI a) (tightI b))) (as_192_10 a b (csT ha (csT ka (csT hb (csT kb (csT (isC_and (show isC 112 = true from rfl) h2) csN))))) w)
          · exact ret_eq (congrArg V3 (asK_tt 192 (tightI a) (tightI b))) (as_192_11 a b (csT ha (csT ka (csT hb (csT kb (csT (isC_and (show isC 192 = true from rfl) h2) csN))))) w)
        · cases wide <;> cases holds
          · exact ret_eq (congrArg V3 (asK_ff (show opp 208 = 96 from rfl) (tightI a) (tightI b))) (as_208_00 a b (csT ha (csT ka (csT hb (csT kb (csT (isC_and (show isC 96 = true from rfl) h2) csN))))) w)
          · exact ret_eq (congrArg V3 (asK_tf 208 (tightI a) (tightI b))) (as_208_01 a b (csT ha (csT ka (csT hb (csT kb (csT (isC_and (show isC 208 = true from rfl) h2) csN))))) w)
          · exact ret_eq (congrArg V3 (asK_ft (show opp 208 = 96 from rfl) (tightI a) (tightI b))) (as_208_10 a b (csT ha (csT ka (csT hb (csT kb (csT (isC_and (show isC 96 = true from rfl) h2) csN))))) w)
          · exact ret_eq (congrArg V3 (asK_tt 208 (tightI a) (tightI b))) (as_208_11 a b (csT ha (csT ka (csT hb (csT kb (csT (isC_and (show isC 208 = true from rfl) h2) csN))))) w)
      · have hv : asI op wide holds a b = if condI op wide 0 0 == holds then (tightI a, tightI b, true) else nil3 := by
          unfold asI; rw [if_pos ka, if_pos kb]; unfold asY; rw [if_neg (by rw [hk]; exact Bool.false_ne_true)]
        rw [hv]
        cases k : (condI op wide 0 0 == holds) with
        | true =>
          rw [if_pos rfl]
          exact as_u1 op hm wide holds a b (csT ha (csT ka (csT hb (csT kb (csT (by rfl) (csT k csN)))))) w
        | false =>
          rw [if_neg Bool.false_ne_true]
          exact as_u0 op hm wide holds a b (csT ha (csT ka (csT hb (csT kb (csT (by rfl) (csF k csN)))))) w
def hk_as : Hook := fun f args _ =>
  if Nat.beq f 14 then
    match args with
    | [.int .u8 a, .bool b, .bool c, .agg ⟨[.int .u64 d0, .int .u64 d1, .int .u64 d2, .int .u64 d3, .int .i64 d4, .int .i64 d5]⟩, .agg ⟨[.int .u64 e0, .int .u64 e1, .int .u64 e2, .int .u64 e3, .int .i64 e4, .int .i64 e5]⟩] => some (V3 (asI a b c (⟨⟨d0, d1⟩, ⟨d2, d3, d4, d5⟩⟩ : NI) (⟨⟨e0, e1⟩, ⟨e2, e3, e4, e5⟩⟩ : NI)), [(b2i (u8B a && (nW (⟨⟨d0, d1⟩, ⟨d2, d3, d4, d5⟩⟩ : NI) && nW (⟨⟨e0, e1⟩, ⟨e2, e3, e4, e5⟩⟩ : NI))), 1)])
    | _ => none
  else none
theorem hk_as_ok : HookOk Tryz.prog hk_as := by
  intro f args h v cs hv hc wb k s w H
  unfold hk_as at hv
  split at hv
  · rename_i hf
    obtain rfl := Nat.eq_of_beq_eq_true hf
    split at hv
    · rename_i a b c d0 d1 d2 d3 d4 d5 e0 e1 e2 e3 e4 e5
      cases hv
      have hw := pair1 hc rfl
      exact c_as a b c (⟨⟨d0, d1⟩, ⟨d2, d3, d4, d5⟩⟩ : NI) (⟨⟨e0, e1⟩, ⟨e2, e3, e4, e5⟩⟩ : NI) hw w
    · cases hv
  · cases hv
end Go.Proofs.YtchjneodjaakdaaGreat.Ex
end
section
namespace Go.Proofs.YtchjneodjaakdaaGreat.Ex
open Go Go.RowKit
open Go.Proofs.YtchjneodjaakdaaGreat.Sc (firstV firstOk lastV lastOk)
def hkW : Hook := orHook hk_as (orHook hk_sums (hkL))
theorem hkW_ok : HookOk Tryz.prog hkW := orHook_ok hk_as_ok (orHook_ok hk_sums_ok (hkL_ok))
set_option maxHeartbeats 0 in
set_option maxRecDepth 1000000 in
theorem raw_run (a b : NI) (x y : Int) (he : ([(b2i (nW a && nW b), 1), (b2i (u8B x && (nW a && nW b)), 1), (b2i (nW a && nW b), 1), (b2i (u8B x && (nW a && nW b)), 1), (b2i (nW a), 1), (b2i (nW a && nW b), 1)] : Cs).map (·.1) = ([(b2i (nW a && nW b), 1), (b2i (u8B x && (nW a && nW b)), 1), (b2i (nW a && nW b), 1), (b2i (u8B x && (nW a && nW b)), 1), (b2i (nW a), 1), (b2i (nW a && nW b), 1)] : Cs).map (·.2)) (w : World) : Calls Tryz.prog 7 #[VN a, VN b, .agg ⟨[.int .u8 x, .int .u8 y]⟩] w fun e w' => e = .returned (.bool true) ∧ Gr w w' :=
  rk hkW_ok noOrc (cs := ([(b2i (nW a && nW b), 1), (b2i (u8B x && (nW a && nW b)), 1), (b2i (nW a && nW b), 1), (b2i (u8B x && (nW a && nW b)), 1), (b2i (nW a), 1), (b2i (nW a && nW b), 1)] : Cs)) rfl (by kernel_rfl) (by kernel_rfl) he w
theorem wf_u8B {x : Int} (h : (Lit.int .u8 x).wf = true) : u8B x = true := by
  unfold u8B
  have h1 := bounds_u8 h
  exact decide_eq_true ⟨h1.1, by have := h1.2; omega⟩
theorem raw_law (a0 a1 a2 a3 a4 a5 b0 b1 b2 b3 b4 b5 x y : Int) (wa0 : (Lit.int .u64 a0).wf = true) (wa1 : (Lit.int .u64 a1).wf = true) (wa2 : (Lit.int .u64 a2).wf = true) (wa3 : (Lit.int .u64 a3).wf = true) (wa4 : (Lit.int .i64 a4).wf = true) (wa5 : (Lit.int .i64 a5).wf = true) (wb0 : (Lit.int .u64 b0).wf = true) (wb1 : (Lit.int .u64 b1).wf = true) (wb2 : (Lit.int .u64 b2).wf = true) (wb3 : (Lit.int .u64 b3).wf = true) (wb4 : (Lit.int .i64 b4).wf = true) (wb5 : (Lit.int .i64 b5).wf = true) (wx : (Lit.int .u8 x).wf = true) (w : World) : Calls Tryz.prog 7 #[.agg ⟨[.int .u64 a0, .int .u64 a1, .int .u64 a2, .int .u64 a3, .int .i64 a4, .int .i64 a5]⟩, .agg ⟨[.int .u64 b0, .int .u64 b1, .int .u64 b2, .int .u64 b3, .int .i64 b4, .int .i64 b5]⟩, .agg ⟨[.int .u8 x, .int .u8 y]⟩] w fun e w' => e = .returned (.bool true) ∧ Gr w w' := by
  obtain ⟨a0, rfl⟩ := wf_N wa0
  obtain ⟨a1, rfl⟩ := wf_N wa1
  obtain ⟨a2, rfl⟩ := wf_N wa2
  obtain ⟨a3, rfl⟩ := wf_N wa3
  obtain ⟨a4, rfl⟩ := wf_Z wa4
  obtain ⟨a5, rfl⟩ := wf_Z wa5
  obtain ⟨b0, rfl⟩ := wf_N wb0
  obtain ⟨b1, rfl⟩ := wf_N wb1
  obtain ⟨b2, rfl⟩ := wf_N wb2
  obtain ⟨b3, rfl⟩ := wf_N wb3
  obtain ⟨b4, rfl⟩ := wf_Z wb4
  obtain ⟨b5, rfl⟩ := wf_Z wb5
  have ha : nW ⟨⟨N a0, N a1⟩, ⟨N a2, N a3, Z a4, Z a5⟩⟩ = true := by unfold nW tW sW; simp only [uB_N, zB_Z, Bool.and_self]
  have hb : nW ⟨⟨N b0, N b1⟩, ⟨N b2, N b3, Z b4, Z b5⟩⟩ = true := by unfold nW tW sW; simp only [uB_N, zB_Z, Bool.and_self]
  have h2 : (nW ⟨⟨N a0, N a1⟩, ⟨N a2, N a3, Z a4, Z a5⟩⟩ && nW ⟨⟨N b0, N b1⟩, ⟨N b2, N b3, Z b4, Z b5⟩⟩) = true := by rw [ha, hb]; rfl
  have h3 : (u8B x && (nW ⟨⟨N a0, N a1⟩, ⟨N a2, N a3, Z a4, Z a5⟩⟩ && nW ⟨⟨N b0, N b1⟩, ⟨N b2, N b3, Z b4, Z b5⟩⟩)) = true := by rw [h2, wf_u8B wx]; rfl
  exact raw_run ⟨⟨N a0, N a1⟩, ⟨N a2, N a3, Z a4, Z a5⟩⟩ ⟨⟨N b0, N b1⟩, ⟨N b2, N b3, Z b4, Z b5⟩⟩ x y (csT h2 (csT h3 (csT h2 (csT h3 (csT ha (csT h2 csN)))))) w
end Go.Proofs.YtchjneodjaakdaaGreat.Ex
end
section
namespace Go.Proofs.YtchjneodjaakdaaGreat.Ex
open Go Go.RowKit Go.WideShapes Go.ChangeShapes

theorem gr_frame {W W' : World} (h : Gr W W') (may : MemPlace → Prop) : W.keptBut W' may := by
  refine ⟨h.1.1, h.1.2, fun i hi => ?_⟩
  rw [h.2.1 i hi]
  split <;> simp_all
section
variable {H : Type} {enc : TypeId × Value → H} {P : Program}
theorem post_of_gr {f : Func} {s : ChangeSpec} {apart fresh handsOn again : Bool} {W W' : World} {args : Array Value} {v : Value} {ds gs : List (DataW H)} {before pa pv : List MemPlace}
    (hW : DataW.Whole enc P f.params.toList s.vars apart W args.toList ds gs before)
    (hres : ∀ (b : Nat) (sp : Nat → Bool) (hd : Bool), DataW.TrodAll enc P W' b sp hd f.resultTypes.toList (v.resultList f.resultTypes.size) (s.fn H (ds ++ gs)).results [])
    (hargs : ∀ sp : Nat → Bool, (∀ p ∈ before, sp p.block = true) → DataW.TrodAll enc P W' 0 sp true f.params.toList args.toList (s.fn H (ds ++ gs)).args pa)
    (hvars : ∀ sp : Nat → Bool, (∀ p ∈ before, sp p.block = true) → DataW.TrodVars enc P W' sp s.vars (s.fn H (ds ++ gs)).vars pv)
    (hps : before = pa ++ pv) (hg : Gr W W')
    (hok : ∀ (j : Nat) (t : TypeId) (r : Value), f.resultTypes[j]? = some t → (v.resultList f.resultTypes.size)[j]? = some r → Value.okWide P W' .any 0 t r) :
    s.post enc P f apart fresh handsOn again W args v W' := by
  have hlt : ∀ p ∈ before, p.block < W.heap.size := fun p hp => hW.lt p hp
  have hold : ∀ p ∈ before, (fun b => decide (b < W.heap.size)) p.block = true := fun p hp => by simpa using hlt p hp
  refine ⟨ds, gs, before, [], pa, pv, hW, hres _ _ _, hargs _ hold, hvars _ hold, World.keptBut_mono (fun p hp => ⟨hp, ?_⟩) (gr_frame hg (· ∈ before)), fun _ => ?_⟩
  · rw [hps, List.mem_append] at hp
    exact Or.inr hp
  · obtain ⟨_, _, _, _, _, hz, hn⟩ := hW
    refine ⟨hok, _, _, ([] ++ pa) ++ pv, ⟨[] ++ pa, pv, trodAll_append (hargs _ (fun _ _ => rfl)) (hres _ _ _), hvars _ (fun _ _ => rfl), rfl, ?_, ?_⟩, ?_⟩
    · intro b off hp
      have hin : MemPlace.cell b off ∈ before := by rw [hps]; simpa using hp
      rw [gr_frozen hg (hlt _ hin)]
      exact hz b off hin
    · intro ha
      have := hn ha
      rw [hps] at this
      simpa using this
    · intro p hp _
      rw [hps]
      simpa using hp
end
end Go.Proofs.YtchjneodjaakdaaGreat.Ex
end
