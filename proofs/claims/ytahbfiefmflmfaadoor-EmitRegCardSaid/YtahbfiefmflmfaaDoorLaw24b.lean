/-
  The law EmitReg, reckoned: each of the eleven registers, and all others at once.
-/
import Derived.Test.YtahbfiefmflmfaaDoorLaw24a
namespace Go.Proofs.YtahbfiefmflmfaaDoor.Ex
open Go Go.RowKit
def mHook : Hook := fun f args h => if args.isEmpty then movesHook f args h else none
def regOrc : Orc := fun f t _ => if (Nat.beq f 4 && Nat.beq t 5) || (Nat.beq f 5 && Nat.beq t 6) then some true else none
set_option maxRecDepth 1000000 in
theorem emitReg_few (n : Fin 11) (w : World) (hT : TabAt w) : Calls Tryd.prog 3 #[.int .u8 n.val] w fun e w' => e = .returned (.bool true) ∧ Gr w w' := by
  match n with
  | 0 => exact reckonG_ok noNG (hk := mHook) movesHook_ok 100000 300 h24 rfl rfl (by kernel_rfl) w hT
  | 1 => exact reckonG_ok noNG (hk := mHook) movesHook_ok 100000 300 h24 rfl rfl (by kernel_rfl) w hT
  | 2 => exact reckonG_ok noNG (hk := mHook) movesHook_ok 100000 300 h24 rfl rfl (by kernel_rfl) w hT
  | 3 => exact reckonG_ok noNG (hk := mHook) movesHook_ok 100000 300 h24 rfl rfl (by kernel_rfl) w hT
  | 4 => exact reckonG_ok noNG (hk := mHook) movesHook_ok 100000 300 h24 rfl rfl (by kernel_rfl) w hT
  | 5 => exact reckonG_ok noNG (hk := mHook) movesHook_ok 100000 300 h24 rfl rfl (by kernel_rfl) w hT
  | 6 => exact reckonG_ok noNG (hk := mHook) movesHook_ok 100000 300 h24 rfl rfl (by kernel_rfl) w hT
  | 7 => exact reckonG_ok noNG (hk := mHook) movesHook_ok 100000 300 h24 rfl rfl (by kernel_rfl) w hT
  | 8 => exact reckonG_ok noNG (hk := mHook) movesHook_ok 100000 300 h24 rfl rfl (by kernel_rfl) w hT
  | 9 => exact reckonG_ok noNG (hk := mHook) movesHook_ok 100000 300 h24 rfl rfl (by kernel_rfl) w hT
  | 10 => exact reckonG_ok noNG (hk := mHook) movesHook_ok 100000 300 h24 rfl rfl (by kernel_rfl) w hT
set_option maxRecDepth 1000000 in
theorem emitReg_more (r : Int) (h1 : 11 ≤ r) (h2 : r ≤ 255) (w : World) (hT : TabAt w) : Calls Tryd.prog 3 #[.int .u8 r] w fun e w' => e = .returned (.bool true) ∧ Gr w w' := by
  refine reckonS_ok noNG (hk := mHook) movesHook_ok regOrc 100000 300 h24 (ls := [b2i (decide (IntKind.i64.wrap r ≥ 11)), b2i (decide (r > 10))]) (rs := [1, 1]) rfl rfl (by kernel_rfl) (by kernel_rfl) ?_ w hT
  have e1 : IntKind.i64.wrap r = r := by
    simp [IntKind.wrap, IntKind.bits, IntKind.signed]
    omega
  rw [e1]
  simp [b2i, h1, show 10 < r by omega]
theorem emitReg_walk (r : Int) (hr : (Lit.int .u8 r).wf = true) (w : World) (hT : TabAt w) : Calls Tryd.prog 3 #[.int .u8 r] w fun e w' => e = .returned (.bool true) ∧ Gr w w' := by
  have hb : 0 ≤ r ∧ r ≤ 255 := by
    simp [Lit.wf, IntKind.min, IntKind.max, IntKind.signed, IntKind.bits] at hr
    omega
  by_cases h : 11 ≤ r
  · exact emitReg_more r h hb.2 w hT
  · have := emitReg_few ⟨r.toNat, by omega⟩ w hT
    simpa [Int.toNat_of_nonneg hb.1] using this
end Go.Proofs.YtahbfiefmflmfaaDoor.Ex
