/-
  Layer 12: what comparing does to a state, reckoned.
-/
import Derived.Test.YtbaiokfjoglmiaaDoorLaw12c
namespace Go.Proofs.YtbaiokfjoglmiaaDoor.Ex
open Go Go.RowKit
set_option maxHeartbeats 0 in
set_option maxRecDepth 1000000 in
theorem exCmpW (a r1 r2 b r4 r5 r6 r7 r8 r9 r10 r11 r12 r13 r14 r15 : Int) (z s c o : Bool) (pc : Int) (w : World) (hL : Laid h12 w) : Calls Tryd.prog 21 #[.agg ⟨[.int .i64 4, .int .i64 7, .int .i64 0, .int .i64 0, .bool true, .bool false, .int .i64 0, .int .i64 3, .int .i32 0, .int .i32 0, .int .i64 0]⟩, stA a r1 r2 b r4 r5 r6 r7 r8 r9 r10 r11 r12 r13 r14 r15 z s c o pc] w
    fun e w' => e = .returned (.tuple ⟨[stA a r1 r2 b r4 r5 r6 r7 r8 r9 r10 r11 r12 r13 r14 r15 ((subI .u64 a b) == 0) (negB 9223372036854775807 (subI .u64 a b)) (decide (a < b)) (negB 9223372036854775807 (andI .u64 (xorI .u64 a b) (xorI .u64 a (subI .u64 a b)))) pc, .int .i64 0]⟩) ∧ Gr w w' :=
  reckonG_ok noNG (noHook_ok _) 100000 300 h12 rfl rfl (by kernel_rfl) w hL
set_option maxHeartbeats 0 in
set_option maxRecDepth 1000000 in
theorem exCmpH (a r1 r2 b r4 r5 r6 r7 r8 r9 r10 r11 r12 r13 r14 r15 : Int) (z s c o : Bool) (pc : Int) (w : World) (hL : Laid h12 w) : Calls Tryd.prog 21 #[.agg ⟨[.int .i64 4, .int .i64 7, .int .i64 0, .int .i64 0, .bool false, .bool false, .int .i64 0, .int .i64 3, .int .i32 0, .int .i32 0, .int .i64 0]⟩, stA a r1 r2 b r4 r5 r6 r7 r8 r9 r10 r11 r12 r13 r14 r15 z s c o pc] w
    fun e w' => e = .returned (.tuple ⟨[stA a r1 r2 b r4 r5 r6 r7 r8 r9 r10 r11 r12 r13 r14 r15 ((subI .u32 (IntKind.u32.wrap a) (IntKind.u32.wrap b)) == 0) (negB 2147483647 (subI .u32 (IntKind.u32.wrap a) (IntKind.u32.wrap b))) (decide ((IntKind.u32.wrap a) < (IntKind.u32.wrap b))) (negB 2147483647 (andI .u32 (xorI .u32 (IntKind.u32.wrap a) (IntKind.u32.wrap b)) (xorI .u32 (IntKind.u32.wrap a) (subI .u32 (IntKind.u32.wrap a) (IntKind.u32.wrap b))))) pc, .int .i64 0]⟩) ∧ Gr w w' :=
  reckonG_ok noNG (noHook_ok _) 100000 300 h12 rfl rfl (by kernel_rfl) w hL
set_option maxHeartbeats 0 in
set_option maxRecDepth 1000000 in
theorem exTstW (a r1 r2 b r4 r5 r6 r7 r8 r9 r10 r11 r12 r13 r14 r15 : Int) (z s c o : Bool) (pc : Int) (w : World) (hL : Laid h12 w) : Calls Tryd.prog 21 #[.agg ⟨[.int .i64 6, .int .i64 0, .int .i64 0, .int .i64 0, .bool true, .bool false, .int .i64 0, .int .i64 3, .int .i32 0, .int .i32 0, .int .i64 0]⟩, stA a r1 r2 b r4 r5 r6 r7 r8 r9 r10 r11 r12 r13 r14 r15 z s c o pc] w
    fun e w' => e = .returned (.tuple ⟨[stA a r1 r2 b r4 r5 r6 r7 r8 r9 r10 r11 r12 r13 r14 r15 ((andI .u64 a b) == 0) (negB 9223372036854775807 (andI .u64 a b)) false false pc, .int .i64 0]⟩) ∧ Gr w w' :=
  reckonG_ok noNG (noHook_ok _) 100000 300 h12 rfl rfl (by kernel_rfl) w hL
set_option maxHeartbeats 0 in
set_option maxRecDepth 1000000 in
theorem exTstH (a r1 r2 b r4 r5 r6 r7 r8 r9 r10 r11 r12 r13 r14 r15 : Int) (z s c o : Bool) (pc : Int) (w : World) (hL : Laid h12 w) : Calls Tryd.prog 21 #[.agg ⟨[.int .i64 6, .int .i64 0, .int .i64 0, .int .i64 0, .bool false, .bool false, .int .i64 0, .int .i64 3, .int .i32 0, .int .i32 0, .int .i64 0]⟩, stA a r1 r2 b r4 r5 r6 r7 r8 r9 r10 r11 r12 r13 r14 r15 z s c o pc] w
    fun e w' => e = .returned (.tuple ⟨[stA a r1 r2 b r4 r5 r6 r7 r8 r9 r10 r11 r12 r13 r14 r15 ((andI .u32 (IntKind.u32.wrap a) (IntKind.u32.wrap b)) == 0) (negB 2147483647 (andI .u32 (IntKind.u32.wrap a) (IntKind.u32.wrap b))) false false pc, .int .i64 0]⟩) ∧ Gr w w' :=
  reckonG_ok noNG (noHook_ok _) 100000 300 h12 rfl rfl (by kernel_rfl) w hL
def xA (kind alu : Int) (wide : Bool) : Value := .agg ⟨[.int .i64 kind, .int .i64 alu, .int .i64 0, .int .i64 0, .bool wide, .bool false, .int .i64 0, .int .i64 3, .int .i32 0, .int .i32 0, .int .i64 0]⟩
/-- Comparing, told by its contract. -/
def execHook : Hook := fun f args h =>
  if Nat.beq f 21 then
    match args with
    | [x, .agg ⟨[.int .u64 a, .int .u64 r1, .int .u64 r2, .int .u64 b, .int .u64 r4, .int .u64 r5, .int .u64 r6, .int .u64 r7, .int .u64 r8, .int .u64 r9, .int .u64 r10, .int .u64 r11, .int .u64 r12, .int .u64 r13, .int .u64 r14, .int .u64 r15, .bool z, .bool s, .bool c, .bool o, .int .u64 pc]⟩] =>
      if hasG h12 h then
        if eqM x (xA 4 7 true) then some (.tuple ⟨[stA a r1 r2 b r4 r5 r6 r7 r8 r9 r10 r11 r12 r13 r14 r15 ((subI .u64 a b) == 0) (negB 9223372036854775807 (subI .u64 a b)) (decide (a < b)) (negB 9223372036854775807 (andI .u64 (xorI .u64 a b) (xorI .u64 a (subI .u64 a b)))) pc, .int .i64 0]⟩, [])
        else if eqM x (xA 4 7 false) then some (.tuple ⟨[stA a r1 r2 b r4 r5 r6 r7 r8 r9 r10 r11 r12 r13 r14 r15 ((subI .u32 (IntKind.u32.wrap a) (IntKind.u32.wrap b)) == 0) (negB 2147483647 (subI .u32 (IntKind.u32.wrap a) (IntKind.u32.wrap b))) (decide ((IntKind.u32.wrap a) < (IntKind.u32.wrap b))) (negB 2147483647 (andI .u32 (xorI .u32 (IntKind.u32.wrap a) (IntKind.u32.wrap b)) (xorI .u32 (IntKind.u32.wrap a) (subI .u32 (IntKind.u32.wrap a) (IntKind.u32.wrap b))))) pc, .int .i64 0]⟩, [])
        else if eqM x (xA 6 0 true) then some (.tuple ⟨[stA a r1 r2 b r4 r5 r6 r7 r8 r9 r10 r11 r12 r13 r14 r15 ((andI .u64 a b) == 0) (negB 9223372036854775807 (andI .u64 a b)) false false pc, .int .i64 0]⟩, [])
        else if eqM x (xA 6 0 false) then some (.tuple ⟨[stA a r1 r2 b r4 r5 r6 r7 r8 r9 r10 r11 r12 r13 r14 r15 ((andI .u32 (IntKind.u32.wrap a) (IntKind.u32.wrap b)) == 0) (negB 2147483647 (andI .u32 (IntKind.u32.wrap a) (IntKind.u32.wrap b))) false false pc, .int .i64 0]⟩, [])
        else none
      else none
    | _ => none
  else none
theorem execHook_ok : HookOk Tryd.prog execHook := by
  intro f args h v cs hv hc wb k s w H
  unfold execHook at hv
  split at hv
  · rename_i hf
    obtain rfl := Nat.eq_of_beq_eq_true hf
    split at hv
    · split at hv
      · rename_i hg
        have hL := H.laid hg rfl
        split at hv
        · rename_i he
          obtain rfl := eqM_ok he
          cases hv
          exact exCmpW _ _ _ _ _ _ _ _ _ _ _ _ _ _ _ _ _ _ _ _ _ w hL
        · split at hv
          · rename_i he
            obtain rfl := eqM_ok he
            cases hv
            exact exCmpH _ _ _ _ _ _ _ _ _ _ _ _ _ _ _ _ _ _ _ _ _ w hL
          · split at hv
            · rename_i he
              obtain rfl := eqM_ok he
              cases hv
              exact exTstW _ _ _ _ _ _ _ _ _ _ _ _ _ _ _ _ _ _ _ _ _ w hL
            · split at hv
              · rename_i he
                obtain rfl := eqM_ok he
                cases hv
                exact exTstH _ _ _ _ _ _ _ _ _ _ _ _ _ _ _ _ _ _ _ _ _ w hL
              · cases hv
      · cases hv
    · cases hv
  · cases hv
end Go.Proofs.YtbaiokfjoglmiaaDoor.Ex
