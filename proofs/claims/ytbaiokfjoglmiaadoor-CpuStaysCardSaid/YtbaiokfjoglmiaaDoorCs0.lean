/-
  Layer 12: parts of what an instruction does, told by their contracts.
-/
import Derived.Test.YtbaiokfjoglmiaaDoorCd2
import Derived.Test.YtbaiokfjoglmiaaDoorAlu
import Derived.Test.YtbaiokfjoglmiaaDoorDv2
namespace Go.Proofs.YtbaiokfjoglmiaaDoor.Ex
open Go Go.RowKit
set_option maxHeartbeats 0
set_option maxRecDepth 1000000
set_option linter.unusedVariables false
def inU (a : Int) : Int × Int := (b2i (decide (0 ≤ a ∧ a < 18446744073709551616)), 1)
theorem inU_ok {a : Int} (h : (inU a).1 = (inU a).2) : ∃ v : BitVec 64, a = N v := by
  have h2 : decide (0 ≤ a ∧ a < 18446744073709551616) = true := b2i_inj (b := true) h
  obtain ⟨h0, h1⟩ := of_decide_eq_true h2
  exact ⟨BitVec.ofInt 64 a, (N_ofInt a h0 (by simpa using h1)).symm⟩
def doHook : Hook := fun f args _ =>
  if Nat.beq f 28 then
    match args with
    | [.int .u8 x, .bool wide, .int .u64 a, .int .u64 b] => some (.int .u64 (N (aluS x wide (BitVec.ofInt 64 a) (BitVec.ofInt 64 b))), [inU a, inU b])
    | _ => none
  else none
theorem doHook_ok : HookOk Tryd.prog doHook := by
  intro f args h v cs hv hc wb k s w H
  unfold doHook at hv
  split at hv
  · rename_i hf
    obtain rfl := Nat.eq_of_beq_eq_true hf
    split at hv
    · rename_i x wide a b
      cases hv
      obtain ⟨va, rfl⟩ := inU_ok (hc (inU a) (by simp))
      obtain ⟨vb, rfl⟩ := inU_ok (hc (inU b) (by simp))
      rw [ofInt_N, ofInt_N]
      exact (do_any x wide va vb w).mono fun e w' h => ⟨h.1, Gr.of_grown h.2⟩
    · cases hv
  · cases hv
def lowS (wi : Bool) (v : Int) : Int := bif wi then v else IntKind.u64.wrap (IntKind.u32.wrap v)
theorem low_1 (k al co si : Int) (sh : Bool) (ds sr dp re im v : Int) : reckonGI Tryd.prog (guardH noHook) noOrc 100000 300 [] 89 [.agg ⟨(xA k al co si true sh ds sr dp re im)⟩, .int .u64 v] = some (.int .u64 v, inter []) := by kernel_rfl
theorem low_0 (k al co si : Int) (sh : Bool) (ds sr dp re im v : Int) : reckonGI Tryd.prog (guardH noHook) noOrc 100000 300 [] 89 [.agg ⟨(xA k al co si false sh ds sr dp re im)⟩, .int .u64 v] = some (.int .u64 (IntKind.u64.wrap (IntKind.u32.wrap v)), inter []) := by kernel_rfl
def lowHook : Hook := fun f args _ =>
  if Nat.beq f 89 then
    match args with
    | [.agg ⟨[.int .i64 p0, .int .i64 p1, .int .i64 p2, .int .i64 p3, .bool p4, .bool p5, .int .i64 p6, .int .i64 p7, .int .i32 p8, .int .i32 p9, .int .i64 p10]⟩, .int .u64 v] => some (.int .u64 (lowS p4 v), [])
    | _ => none
  else none
theorem lowHook_ok : HookOk Tryd.prog lowHook := by
  intro f args h v cs hv hc wb k s w H
  unfold lowHook at hv
  split at hv
  · rename_i hf
    obtain rfl := Nat.eq_of_beq_eq_true hf
    split at hv
    · rename_i p0 p1 p2 p3 p4 p5 p6 p7 p8 p9 p10 v
      cases hv
      cases p4 with
      | true => exact reckonI_ok noNG (noGuard _) noOrc 100000 300 [] rfl rfl (low_1 p0 p1 p2 p3 p5 p6 p7 p8 p9 p10 v) (fun c hc => by cases hc) w (Laid.nil w)
      | false => exact reckonI_ok noNG (noGuard _) noOrc 100000 300 [] rfl rfl (low_0 p0 p1 p2 p3 p5 p6 p7 p8 p9 p10 v) (fun c hc => by cases hc) w (Laid.nil w)
    · cases hv
  · cases hv
def shS (a : Int) : Int := bif a == 4 then 96 else bif a == 5 then 112 else 192
def shOrc2 (b c : Bool) : Orc := fun f t _ => if Nat.beq f 63 then (if Nat.beq t 5 then some (.bool b) else if Nat.beq t 7 then some (.bool c) else none) else none
theorem sh_4 (a : Int) : reckonGI Tryd.prog (guardH noHook) (shOrc2 true false) 100000 300 [] 63 [.int .i64 a] = some (.int .u8 96, inter [(b2i (a == 4), 1)]) := by kernel_rfl
theorem sh_5 (a : Int) : reckonGI Tryd.prog (guardH noHook) (shOrc2 false true) 100000 300 [] 63 [.int .i64 a] = some (.int .u8 112, inter [(b2i (a == 4), 0), (b2i (a == 5), 1)]) := by kernel_rfl
theorem sh_7 (a : Int) : reckonGI Tryd.prog (guardH noHook) (shOrc2 false false) 100000 300 [] 63 [.int .i64 a] = some (.int .u8 192, inter [(b2i (a == 4), 0), (b2i (a == 5), 0)]) := by kernel_rfl
theorem c_sh (a : Int) (w : World) : Calls Tryd.prog 63 #[.int .i64 a] w fun e w' => e = .returned (.int .u8 (shS a)) ∧ Gr w w' := by
  unfold shS
  cases h4 : a == 4 with
  | true => exact reckonI_ok noNG (noGuard _) _ 100000 300 [] rfl rfl (sh_4 a) (by rw [h4]; exact sameC rfl) w (Laid.nil w)
  | false =>
    cases h5 : a == 5 with
    | true => exact reckonI_ok noNG (noGuard _) _ 100000 300 [] rfl rfl (sh_5 a) (by rw [h4, h5]; exact sameC rfl) w (Laid.nil w)
    | false => exact reckonI_ok noNG (noGuard _) _ 100000 300 [] rfl rfl (sh_7 a) (by rw [h4, h5]; exact sameC rfl) w (Laid.nil w)
def shHook : Hook := fun f args _ =>
  if Nat.beq f 63 then
    match args with
    | [.int .i64 a] => some (.int .u8 (shS a), [])
    | _ => none
  else none
theorem shHook_ok : HookOk Tryd.prog shHook := by
  intro f args h v cs hv hc wb k s w H
  unfold shHook at hv
  split at hv
  · rename_i hf
    obtain rfl := Nat.eq_of_beq_eq_true hf
    split at hv
    · cases hv
      exact c_sh _ w
    · cases hv
  · cases hv
def exHook : Hook := orHook lowHook (orHook shHook (orHook doHook (orHook divHook hk_valid)))
theorem exHook_ok : HookOk Tryd.prog exHook := orHook_ok lowHook_ok (orHook_ok shHook_ok (orHook_ok doHook_ok (orHook_ok divHook_ok hk_valid_ok)))
/-- Marks: an element at an unknown place (Src, or Dst of what is only read); the tests of a division. -/
def exOrc (dv : Bool) : Orc := fun f t _ =>
  if Nat.beq f 21 then
    (if Nat.beq t 8 then some (.bool false)
    else if Nat.beq t 21 || (Nat.beq t 22 || (Nat.beq t 43 || (Nat.beq t 44 || (Nat.beq t 94 || (Nat.beq t 95 || (Nat.beq t 70 || Nat.beq t 71)))))) then some .nilIface else none)
  else if Nat.beq f 62 then
    (if Nat.beq t 34 then some (.bool dv) else if Nat.beq t 60 || Nat.beq t 63 then some .nilIface else none)
  else none
end Go.Proofs.YtbaiokfjoglmiaaDoor.Ex
