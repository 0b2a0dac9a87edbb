/-
  Layer 11: codec.Valid, kind by kind.
-/
import Derived.Test.YtokeopmmnpmfeaaDoorPackC
namespace Go.Proofs.YtokeopmmnpmfeaaDoor.Ex
set_option maxRecDepth 20000

open Go Go.RowKit
set_option linter.unusedVariables false
set_option linter.unusedSimpArgs false
set_option maxHeartbeats 0
set_option maxRecDepth 1000000
variable (al co si : Int) (wi sh : Bool) (ds sr dp re im : Int)
theorem c_u1 (w : World) : Calls Tryd.prog 42 #[.agg ⟨[.int .u16 7, .bool false, .int .u8 137, .int .u8 1, .int .u8 0, .int .u8 0]⟩, .agg ⟨(xA 1 al co si wi sh ds sr dp re im)⟩] w fun e w' => e = .returned (.agg ⟨(xA 1 0 0 0 wi false ds sr 0 0 0)⟩) ∧ Gr w w' := by
  cases wi <;> cases sh <;> exact lf hkZ_ok noOrc (cs := []) (by kernel_rfl) (by kernel_rfl) (by kernel_rfl) rfl w (Laid.nil w)
theorem c_u2 (w : World) : Calls Tryd.prog 42 #[.agg ⟨[.int .u16 2083, .bool false, .int .u8 199, .int .u8 3, .int .u8 0, .int .u8 4]⟩, .agg ⟨(xA 2 al co si wi sh ds sr dp re im)⟩] w fun e w' => e = .returned (.agg ⟨(xA 2 0 0 0 wi false ds 0 0 0 im)⟩) ∧ Gr w w' := by
  cases wi <;> cases sh <;> exact lf hkZ_ok noOrc (cs := []) (by kernel_rfl) (by kernel_rfl) (by kernel_rfl) rfl w (Laid.nil w)
theorem c_u3 (w : World) : Calls Tryd.prog 42 #[.agg ⟨[.int .u16 2083, .bool false, .int .u8 184, .int .u8 7, .int .u8 0, .int .u8 8]⟩, .agg ⟨(xA 3 al co si wi sh ds sr dp re im)⟩] w fun e w' => e = .returned (.agg ⟨(xA 3 0 0 0 wi false ds 0 0 0 im)⟩) ∧ Gr w w' := by
  cases wi <;> cases sh <;> exact lf hkZ_ok noOrc (cs := []) (by kernel_rfl) (by kernel_rfl) (by kernel_rfl) rfl w (Laid.nil w)
theorem c_u4 (w : World) : Calls Tryd.prog 42 #[.agg ⟨[.int .u16 15, .bool false, .int .u8 1, .int .u8 1, .int .u8 0, .int .u8 0]⟩, .agg ⟨(xA 4 al co si wi sh ds sr dp re im)⟩] w fun e w' => e = .returned (.agg ⟨(xA 4 al 0 0 wi false ds sr 0 0 0)⟩) ∧ Gr w w' := by
  cases wi <;> cases sh <;> exact lf hkZ_ok noOrc (cs := []) (by kernel_rfl) (by kernel_rfl) (by kernel_rfl) rfl w (Laid.nil w)
theorem c_u5 (w : World) : Calls Tryd.prog 42 #[.agg ⟨[.int .u16 43, .bool false, .int .u8 129, .int .u8 4, .int .u8 0, .int .u8 4]⟩, .agg ⟨(xA 5 al co si wi sh ds sr dp re im)⟩] w fun e w' => e = .returned (.agg ⟨(xA 5 al 0 0 wi false ds 0 0 0 im)⟩) ∧ Gr w w' := by
  cases wi <;> cases sh <;> exact lf hkZ_ok noOrc (cs := []) (by kernel_rfl) (by kernel_rfl) (by kernel_rfl) rfl w (Laid.nil w)
theorem c_u6 (w : World) : Calls Tryd.prog 42 #[.agg ⟨[.int .u16 7, .bool false, .int .u8 133, .int .u8 1, .int .u8 0, .int .u8 0]⟩, .agg ⟨(xA 6 al co si wi sh ds sr dp re im)⟩] w fun e w' => e = .returned (.agg ⟨(xA 6 0 0 0 wi false ds sr 0 0 0)⟩) ∧ Gr w w' := by
  cases wi <;> cases sh <;> exact lf hkZ_ok noOrc (cs := []) (by kernel_rfl) (by kernel_rfl) (by kernel_rfl) rfl w (Laid.nil w)
theorem c_u7 (w : World) : Calls Tryd.prog 42 #[.agg ⟨[.int .u16 3, .bool false, .int .u8 247, .int .u8 3, .int .u8 3, .int .u8 0]⟩, .agg ⟨(xA 7 al co si wi sh ds sr dp re im)⟩] w fun e w' => e = .returned (.agg ⟨(xA 7 0 0 0 wi false ds 0 0 0 0)⟩) ∧ Gr w w' := by
  cases wi <;> cases sh <;> exact lf hkZ_ok noOrc (cs := []) (by kernel_rfl) (by kernel_rfl) (by kernel_rfl) rfl w (Laid.nil w)
theorem c_u8 (w : World) : Calls Tryd.prog 42 #[.agg ⟨[.int .u16 3, .bool false, .int .u8 247, .int .u8 3, .int .u8 4, .int .u8 0]⟩, .agg ⟨(xA 8 al co si wi sh ds sr dp re im)⟩] w fun e w' => e = .returned (.agg ⟨(xA 8 0 0 0 wi false ds 0 0 0 0)⟩) ∧ Gr w w' := by
  cases wi <;> cases sh <;> exact lf hkZ_ok noOrc (cs := []) (by kernel_rfl) (by kernel_rfl) (by kernel_rfl) rfl w (Laid.nil w)
theorem c_u9 (w : World) : Calls Tryd.prog 42 #[.agg ⟨[.int .u16 3, .bool false, .int .u8 247, .int .u8 3, .int .u8 6, .int .u8 0]⟩, .agg ⟨(xA 9 al co si wi sh ds sr dp re im)⟩] w fun e w' => e = .returned (.agg ⟨(xA 9 0 0 0 wi false ds 0 0 0 0)⟩) ∧ Gr w w' := by
  cases wi <;> cases sh <;> exact lf hkZ_ok noOrc (cs := []) (by kernel_rfl) (by kernel_rfl) (by kernel_rfl) rfl w (Laid.nil w)
theorem c_u10 (w : World) : Calls Tryd.prog 42 #[.agg ⟨[.int .u16 7, .bool true, .int .u8 175, .int .u8 2, .int .u8 0, .int .u8 0]⟩, .agg ⟨(xA 10 al co si wi sh ds sr dp re im)⟩] w fun e w' => e = .returned (.agg ⟨(xA 10 0 0 0 wi false ds sr 0 0 0)⟩) ∧ Gr w w' := by
  cases wi <;> cases sh <;> exact lf hkZ_ok noOrc (cs := []) (by kernel_rfl) (by kernel_rfl) (by kernel_rfl) rfl w (Laid.nil w)
theorem c_u11 (w : World) : Calls Tryd.prog 42 #[.agg ⟨[.int .u16 51, .bool false, .int .u8 193, .int .u8 4, .int .u8 0, .int .u8 1]⟩, .agg ⟨(xA 11 al co si wi sh ds sr dp re im)⟩] w fun e w' => e = .returned (.agg ⟨(xA 11 al 0 0 wi false ds 0 0 0 im)⟩) ∧ Gr w w' := by
  cases wi <;> cases sh <;> exact lf hkZ_ok noOrc (cs := []) (by kernel_rfl) (by kernel_rfl) (by kernel_rfl) rfl w (Laid.nil w)
theorem c_u12 (w : World) : Calls Tryd.prog 42 #[.agg ⟨[.int .u16 19, .bool false, .int .u8 211, .int .u8 4, .int .u8 0, .int .u8 0]⟩, .agg ⟨(xA 12 al co si wi sh ds sr dp re im)⟩] w fun e w' => e = .returned (.agg ⟨(xA 12 al 0 0 wi false ds 0 0 0 0)⟩) ∧ Gr w w' := by
  cases wi <;> cases sh <;> exact lf hkZ_ok noOrc (cs := []) (by kernel_rfl) (by kernel_rfl) (by kernel_rfl) rfl w (Laid.nil w)
theorem c_u13 (w : World) : Calls Tryd.prog 42 #[.agg ⟨[.int .u16 199, .bool false, .int .u8 0, .int .u8 5, .int .u8 0, .int .u8 0]⟩, .agg ⟨(xA 13 al co si wi sh ds sr dp re im)⟩] w fun e w' => e = .returned (.agg ⟨(xA 13 0 0 si wi false ds sr dp 0 0)⟩) ∧ Gr w w' := by
  cases wi <;> cases sh <;> exact lf hkZ_ok noOrc (cs := []) (by kernel_rfl) (by kernel_rfl) (by kernel_rfl) rfl w (Laid.nil w)
theorem c_u14 (w : World) : Calls Tryd.prog 42 #[.agg ⟨[.int .u16 199, .bool false, .int .u8 0, .int .u8 6, .int .u8 0, .int .u8 0]⟩, .agg ⟨(xA 14 al co si wi sh ds sr dp re im)⟩] w fun e w' => e = .returned (.agg ⟨(xA 14 0 0 si wi false ds sr dp 0 0)⟩) ∧ Gr w w' := by
  cases wi <;> cases sh <;> exact lf hkZ_ok noOrc (cs := []) (by kernel_rfl) (by kernel_rfl) (by kernel_rfl) rfl w (Laid.nil w)
theorem c_u15 (w : World) : Calls Tryd.prog 42 #[.agg ⟨[.int .u16 1536, .bool false, .int .u8 0, .int .u8 8, .int .u8 0, .int .u8 0]⟩, .agg ⟨(xA 15 al co si wi sh ds sr dp re im)⟩] w fun e w' => e = .returned (.agg ⟨(xA 15 0 0 0 false sh 0 0 0 re 0)⟩) ∧ Gr w w' := by
  cases wi <;> cases sh <;> exact lf hkZ_ok noOrc (cs := []) (by kernel_rfl) (by kernel_rfl) (by kernel_rfl) rfl w (Laid.nil w)
theorem c_u16 (w : World) : Calls Tryd.prog 42 #[.agg ⟨[.int .u16 1792, .bool false, .int .u8 0, .int .u8 8, .int .u8 0, .int .u8 0]⟩, .agg ⟨(xA 16 al co si wi sh ds sr dp re im)⟩] w fun e w' => e = .returned (.agg ⟨(xA 16 0 co 0 false sh 0 0 0 re 0)⟩) ∧ Gr w w' := by
  cases wi <;> cases sh <;> exact lf hkZ_ok noOrc (cs := []) (by kernel_rfl) (by kernel_rfl) (by kernel_rfl) rfl w (Laid.nil w)
theorem c_u17 (w : World) : Calls Tryd.prog 42 #[.agg ⟨[.int .u16 2, .bool false, .int .u8 80, .int .u8 7, .int .u8 0, .int .u8 0]⟩, .agg ⟨(xA 17 al co si wi sh ds sr dp re im)⟩] w fun e w' => e = .returned (.agg ⟨(xA 17 0 0 0 false false ds 0 0 0 0)⟩) ∧ Gr w w' := by
  cases wi <;> cases sh <;> exact lf hkZ_ok noOrc (cs := []) (by kernel_rfl) (by kernel_rfl) (by kernel_rfl) rfl w (Laid.nil w)
theorem c_u18 (w : World) : Calls Tryd.prog 42 #[.agg ⟨[.int .u16 2, .bool false, .int .u8 88, .int .u8 7, .int .u8 0, .int .u8 0]⟩, .agg ⟨(xA 18 al co si wi sh ds sr dp re im)⟩] w fun e w' => e = .returned (.agg ⟨(xA 18 0 0 0 false false ds 0 0 0 0)⟩) ∧ Gr w w' := by
  cases wi <;> cases sh <;> exact lf hkZ_ok noOrc (cs := []) (by kernel_rfl) (by kernel_rfl) (by kernel_rfl) rfl w (Laid.nil w)
theorem c_u19 (w : World) : Calls Tryd.prog 42 #[.agg ⟨[.int .u16 0, .bool false, .int .u8 195, .int .u8 0, .int .u8 0, .int .u8 0]⟩, .agg ⟨(xA 19 al co si wi sh ds sr dp re im)⟩] w fun e w' => e = .returned (.agg ⟨(xA 19 0 0 0 false false 0 0 0 0 0)⟩) ∧ Gr w w' := by
  cases wi <;> cases sh <;> exact lf hkZ_ok noOrc (cs := []) (by kernel_rfl) (by kernel_rfl) (by kernel_rfl) rfl w (Laid.nil w)
theorem c_u20 (w : World) : Calls Tryd.prog 42 #[.agg ⟨[.int .u16 1024, .bool false, .int .u8 232, .int .u8 8, .int .u8 0, .int .u8 0]⟩, .agg ⟨(xA 20 al co si wi sh ds sr dp re im)⟩] w fun e w' => e = .returned (.agg ⟨(xA 20 0 0 0 false false 0 0 0 re 0)⟩) ∧ Gr w w' := by
  cases wi <;> cases sh <;> exact lf hkZ_ok noOrc (cs := []) (by kernel_rfl) (by kernel_rfl) (by kernel_rfl) rfl w (Laid.nil w)
theorem c_u21 (w : World) : Calls Tryd.prog 42 #[.agg ⟨[.int .u16 0, .bool true, .int .u8 174, .int .u8 0, .int .u8 232, .int .u8 0]⟩, .agg ⟨(xA 21 al co si wi sh ds sr dp re im)⟩] w fun e w' => e = .returned (.agg ⟨(xA 21 0 0 0 false false 0 0 0 0 0)⟩) ∧ Gr w w' := by
  cases wi <;> cases sh <;> exact lf hkZ_ok noOrc (cs := []) (by kernel_rfl) (by kernel_rfl) (by kernel_rfl) rfl w (Laid.nil w)
theorem kinds {k : Int} (h1 : decide (k < 1) = false) (h2 : decide (k > 21) = false) : k = 1 ∨ k = 2 ∨ k = 3 ∨ k = 4 ∨ k = 5 ∨ k = 6 ∨ k = 7 ∨ k = 8 ∨ k = 9 ∨ k = 10 ∨ k = 11 ∨ k = 12 ∨ k = 13 ∨ k = 14 ∨ k = 15 ∨ k = 16 ∨ k = 17 ∨ k = 18 ∨ k = 19 ∨ k = 20 ∨ k = 21 := by
  simp only [decide_eq_false_iff_not] at h1 h2
  omega
def usedV (k al co si : Int) (wi sh : Bool) (ds sr dp re im : Int) : Option (List Value) :=
  if k = 1 then some (xA 1 0 0 0 wi false ds sr 0 0 0) else if k = 2 then some (xA 2 0 0 0 wi false ds 0 0 0 im) else if k = 3 then some (xA 3 0 0 0 wi false ds 0 0 0 im) else if k = 4 then some (xA 4 al 0 0 wi false ds sr 0 0 0) else if k = 5 then some (xA 5 al 0 0 wi false ds 0 0 0 im) else if k = 6 then some (xA 6 0 0 0 wi false ds sr 0 0 0) else if k = 7 then some (xA 7 0 0 0 wi false ds 0 0 0 0) else if k = 8 then some (xA 8 0 0 0 wi false ds 0 0 0 0) else if k = 9 then some (xA 9 0 0 0 wi false ds 0 0 0 0) else if k = 10 then some (xA 10 0 0 0 wi false ds sr 0 0 0) else if k = 11 then some (xA 11 al 0 0 wi false ds 0 0 0 im) else if k = 12 then some (xA 12 al 0 0 wi false ds 0 0 0 0) else if k = 13 then some (xA 13 0 0 si wi false ds sr dp 0 0) else if k = 14 then some (xA 14 0 0 si wi false ds sr dp 0 0) else if k = 15 then some (xA 15 0 0 0 false sh 0 0 0 re 0) else if k = 16 then some (xA 16 0 co 0 false sh 0 0 0 re 0) else if k = 17 then some (xA 17 0 0 0 false false ds 0 0 0 0) else if k = 18 then some (xA 18 0 0 0 false false ds 0 0 0 0) else if k = 19 then some (xA 19 0 0 0 false false 0 0 0 0 0) else if k = 20 then some (xA 20 0 0 0 false false 0 0 0 re 0) else if k = 21 then some (xA 21 0 0 0 false false 0 0 0 0 0) else none
def formA (k : Int) : List Value :=
  if k = 1 then [.int .u16 7, .bool false, .int .u8 137, .int .u8 1, .int .u8 0, .int .u8 0] else if k = 2 then [.int .u16 2083, .bool false, .int .u8 199, .int .u8 3, .int .u8 0, .int .u8 4] else if k = 3 then [.int .u16 2083, .bool false, .int .u8 184, .int .u8 7, .int .u8 0, .int .u8 8] else if k = 4 then [.int .u16 15, .bool false, .int .u8 1, .int .u8 1, .int .u8 0, .int .u8 0] else if k = 5 then [.int .u16 43, .bool false, .int .u8 129, .int .u8 4, .int .u8 0, .int .u8 4] else if k = 6 then [.int .u16 7, .bool false, .int .u8 133, .int .u8 1, .int .u8 0, .int .u8 0] else if k = 7 then [.int .u16 3, .bool false, .int .u8 247, .int .u8 3, .int .u8 3, .int .u8 0] else if k = 8 then [.int .u16 3, .bool false, .int .u8 247, .int .u8 3, .int .u8 4, .int .u8 0] else if k = 9 then [.int .u16 3, .bool false, .int .u8 247, .int .u8 3, .int .u8 6, .int .u8 0] else if k = 10 then [.int .u16 7, .bool true, .int .u8 175, .int .u8 2, .int .u8 0, .int .u8 0] else if k = 11 then [.int .u16 51, .bool false, .int .u8 193, .int .u8 4, .int .u8 0, .int .u8 1] else if k = 12 then [.int .u16 19, .bool false, .int .u8 211, .int .u8 4, .int .u8 0, .int .u8 0] else if k = 13 then [.int .u16 199, .bool false, .int .u8 0, .int .u8 5, .int .u8 0, .int .u8 0] else if k = 14 then [.int .u16 199, .bool false, .int .u8 0, .int .u8 6, .int .u8 0, .int .u8 0] else if k = 15 then [.int .u16 1536, .bool false, .int .u8 0, .int .u8 8, .int .u8 0, .int .u8 0] else if k = 16 then [.int .u16 1792, .bool false, .int .u8 0, .int .u8 8, .int .u8 0, .int .u8 0] else if k = 17 then [.int .u16 2, .bool false, .int .u8 80, .int .u8 7, .int .u8 0, .int .u8 0] else if k = 18 then [.int .u16 2, .bool false, .int .u8 88, .int .u8 7, .int .u8 0, .int .u8 0] else if k = 19 then [.int .u16 0, .bool false, .int .u8 195, .int .u8 0, .int .u8 0, .int .u8 0] else if k = 20 then [.int .u16 1024, .bool false, .int .u8 232, .int .u8 8, .int .u8 0, .int .u8 0] else if k = 21 then [.int .u16 0, .bool true, .int .u8 174, .int .u8 0, .int .u8 232, .int .u8 0] else []
def hk_used : Hook := fun f args h =>
  if Nat.beq f 42 then
    match args with
    | [.agg ⟨fm⟩, .agg ⟨[.int .i64 k, .int .i64 al, .int .i64 co, .int .i64 si, .bool wi, .bool sh, .int .i64 ds, .int .i64 sr, .int .i32 dp, .int .i32 re, .int .i64 im]⟩] =>
      match usedV k al co si wi sh ds sr dp re im with
      | some b => if eqL fm (formA k) then some (.agg ⟨b⟩, []) else none
      | none => none
    | _ => none
  else none
theorem hk_used_ok : HookOk Tryd.prog hk_used := by
  intro f args h v cs hv hc wb k s w H
  unfold hk_used at hv
  split at hv
  · rename_i hf
    obtain rfl := Nat.eq_of_beq_eq_true hf
    split at hv
    · rename_i fm k al co si wi sh ds sr dp re im
      split at hv
      · rename_i b hb
        split at hv
        · rename_i he
          cases hv
          obtain rfl := eqL_ok he
          by_cases hr : 1 ≤ k ∧ k ≤ 21
          · rcases kinds (k := k) (by simp only [decide_eq_false_iff_not]; omega) (by simp only [decide_eq_false_iff_not]; omega) with rfl | rfl | rfl | rfl | rfl | rfl | rfl | rfl | rfl | rfl | rfl | rfl | rfl | rfl | rfl | rfl | rfl | rfl | rfl | rfl | rfl
            · obtain rfl := Option.some.inj hb; exact c_u1 al co si wi sh ds sr dp re im w
            · obtain rfl := Option.some.inj hb; exact c_u2 al co si wi sh ds sr dp re im w
            · obtain rfl := Option.some.inj hb; exact c_u3 al co si wi sh ds sr dp re im w
            · obtain rfl := Option.some.inj hb; exact c_u4 al co si wi sh ds sr dp re im w
            · obtain rfl := Option.some.inj hb; exact c_u5 al co si wi sh ds sr dp re im w
            · obtain rfl := Option.some.inj hb; exact c_u6 al co si wi sh ds sr dp re im w
            · obtain rfl := Option.some.inj hb; exact c_u7 al co si wi sh ds sr dp re im w
            · obtain rfl := Option.some.inj hb; exact c_u8 al co si wi sh ds sr dp re im w
            · obtain rfl := Option.some.inj hb; exact c_u9 al co si wi sh ds sr dp re im w
            · obtain rfl := Option.some.inj hb; exact c_u10 al co si wi sh ds sr dp re im w
            · obtain rfl := Option.some.inj hb; exact c_u11 al co si wi sh ds sr dp re im w
            · obtain rfl := Option.some.inj hb; exact c_u12 al co si wi sh ds sr dp re im w
            · obtain rfl := Option.some.inj hb; exact c_u13 al co si wi sh ds sr dp re im w
            · obtain rfl := Option.some.inj hb; exact c_u14 al co si wi sh ds sr dp re im w
            · obtain rfl := Option.some.inj hb; exact c_u15 al co si wi sh ds sr dp re im w
            · obtain rfl := Option.some.inj hb; exact c_u16 al co si wi sh ds sr dp re im w
            · obtain rfl := Option.some.inj hb; exact c_u17 al co si wi sh ds sr dp re im w
            · obtain rfl := Option.some.inj hb; exact c_u18 al co si wi sh ds sr dp re im w
            · obtain rfl := Option.some.inj hb; exact c_u19 al co si wi sh ds sr dp re im w
            · obtain rfl := Option.some.inj hb; exact c_u20 al co si wi sh ds sr dp re im w
            · obtain rfl := Option.some.inj hb; exact c_u21 al co si wi sh ds sr dp re im w
          · exfalso
            have nd : ∀ n : Int, 1 ≤ n → n ≤ 21 → ¬ k = n := fun n h1 h2 => by omega
            unfold usedV at hb
            rw [if_neg (nd 1 (by omega) (by omega)), if_neg (nd 2 (by omega) (by omega)), if_neg (nd 3 (by omega) (by omega)), if_neg (nd 4 (by omega) (by omega)), if_neg (nd 5 (by omega) (by omega)), if_neg (nd 6 (by omega) (by omega)), if_neg (nd 7 (by omega) (by omega)), if_neg (nd 8 (by omega) (by omega)), if_neg (nd 9 (by omega) (by omega)), if_neg (nd 10 (by omega) (by omega)), if_neg (nd 11 (by omega) (by omega)), if_neg (nd 12 (by omega) (by omega)), if_neg (nd 13 (by omega) (by omega)), if_neg (nd 14 (by omega) (by omega)), if_neg (nd 15 (by omega) (by omega)), if_neg (nd 16 (by omega) (by omega)), if_neg (nd 17 (by omega) (by omega)), if_neg (nd 18 (by omega) (by omega)), if_neg (nd 19 (by omega) (by omega)), if_neg (nd 20 (by omega) (by omega)), if_neg (nd 21 (by omega) (by omega))] at hb
            cases hb
        · cases hv
      · cases hv
    · cases hv
  · cases hv
def hkV2 : Hook := orHook hk_regs (orHook hk_cho (orHook hk_used (hkZ)))
theorem hkV2_ok : HookOk Tryd.prog hkV2 := orHook_ok hk_regs_ok (orHook_ok hk_cho_ok (orHook_ok hk_used_ok (hkZ_ok)))
def vP1 : Bool := eqD (xA 1 al co si wi sh ds sr dp re im) (xA 1 0 0 0 wi false ds sr 0 0 0) && ((regS ds && regS sr) && ((true) && (!sh || (re == IntKind.i32.wrap (IntKind.i8.wrap re)))))
theorem c_v1 (w : World) (hL : Laid h12 w) : Calls Tryd.prog 23 #[.agg ⟨(xA 1 al co si wi sh ds sr dp re im)⟩] w fun e w' => e = .returned (.bool (vP1 al co si wi sh ds sr dp re im)) ∧ Gr w w' :=
  treeOk hkV2_ok (.k 23 21 (eqD (xA 1 al co si wi sh ds sr dp re im) (xA 1 0 0 0 wi false ds sr 0 0 0)) (.k 23 25 (regS ds && regS sr) (.k 45 38 (!sh) (.r true) (.r (re == IntKind.i32.wrap (IntKind.i8.wrap re)))) (.r false)) (.r false)) (by simp only [DT.ev, vP1, shiftS] <;> cases (eqD (xA 1 al co si wi sh ds sr dp re im) (xA 1 0 0 0 wi false ds sr 0 0 0)) <;> cases (regS ds && regS sr) <;> cases ((re == IntKind.i32.wrap (IntKind.i8.wrap re))) <;> cases (sh) <;> rfl) hL
def vP2 : Bool := eqD (xA 2 al co si wi sh ds sr dp re im) (xA 2 0 0 0 wi false ds 0 0 0 im) && ((regS ds && regS sr) && ((wi) && (im == IntKind.i64.wrap (IntKind.i32.wrap im))))
theorem c_v2 (w : World) (hL : Laid h12 w) : Calls Tryd.prog 23 #[.agg ⟨(xA 2 al co si wi sh ds sr dp re im)⟩] w fun e w' => e = .returned (.bool (vP2 al co si wi sh ds sr dp re im)) ∧ Gr w w' :=
  treeOk hkV2_ok (.k 23 21 (eqD (xA 2 al co si wi sh ds sr dp re im) (xA 2 0 0 0 wi false ds 0 0 0 im)) (.k 23 25 (regS ds && regS sr) (.k 23 30 (wi) (.r (im == IntKind.i64.wrap (IntKind.i32.wrap im))) (.r false)) (.r false)) (.r false)) (by simp only [DT.ev, vP2, shiftS] <;> cases (eqD (xA 2 al co si wi sh ds sr dp re im) (xA 2 0 0 0 wi false ds 0 0 0 im)) <;> cases (regS ds && regS sr) <;> cases ((im == IntKind.i64.wrap (IntKind.i32.wrap im))) <;> cases (wi) <;> rfl) hL
def vP3 : Bool := eqD (xA 3 al co si wi sh ds sr dp re im) (xA 3 0 0 0 wi false ds 0 0 0 im) && ((regS ds && regS sr) && ((wi) && (!sh || (re == IntKind.i32.wrap (IntKind.i8.wrap re)))))
theorem c_v3 (w : World) (hL : Laid h12 w) : Calls Tryd.prog 23 #[.agg ⟨(xA 3 al co si wi sh ds sr dp re im)⟩] w fun e w' => e = .returned (.bool (vP3 al co si wi sh ds sr dp re im)) ∧ Gr w w' :=
  treeOk hkV2_ok (.k 23 21 (eqD (xA 3 al co si wi sh ds sr dp re im) (xA 3 0 0 0 wi false ds 0 0 0 im)) (.k 23 25 (regS ds && regS sr) (.k 23 30 (wi) (.k 45 38 (!sh) (.r true) (.r (re == IntKind.i32.wrap (IntKind.i8.wrap re)))) (.r false)) (.r false)) (.r false)) (by simp only [DT.ev, vP3, shiftS] <;> cases (eqD (xA 3 al co si wi sh ds sr dp re im) (xA 3 0 0 0 wi false ds 0 0 0 im)) <;> cases (regS ds && regS sr) <;> cases ((re == IntKind.i32.wrap (IntKind.i8.wrap re))) <;> cases (wi) <;> cases (sh) <;> rfl) hL
def vP4 : Bool := eqD (xA 4 al co si wi sh ds sr dp re im) (xA 4 al 0 0 wi false ds sr 0 0 0) && ((regS ds && regS sr) && ((aluOk al) && (!sh || (re == IntKind.i32.wrap (IntKind.i8.wrap re)))))
theorem c_v4 (w : World) (hL : Laid h12 w) : Calls Tryd.prog 23 #[.agg ⟨(xA 4 al co si wi sh ds sr dp re im)⟩] w fun e w' => e = .returned (.bool (vP4 al co si wi sh ds sr dp re im)) ∧ Gr w w' :=
  treeOk hkV2_ok (.k 23 21 (eqD (xA 4 al co si wi sh ds sr dp re im) (xA 4 al 0 0 wi false ds sr 0 0 0)) (.k 23 25 (regS ds && regS sr) (.k 23 30 (aluOk al) (.k 45 38 (!sh) (.r true) (.r (re == IntKind.i32.wrap (IntKind.i8.wrap re)))) (.r false)) (.r false)) (.r false)) (by simp only [DT.ev, vP4, shiftS] <;> cases (eqD (xA 4 al co si wi sh ds sr dp re im) (xA 4 al 0 0 wi false ds sr 0 0 0)) <;> cases (regS ds && regS sr) <;> cases (aluOk al) <;> cases ((re == IntKind.i32.wrap (IntKind.i8.wrap re))) <;> cases (sh) <;> rfl) hL
def vP5 : Bool := eqD (xA 5 al co si wi sh ds sr dp re im) (xA 5 al 0 0 wi false ds 0 0 0 im) && ((regS ds && regS sr) && ((aluOk al) && (im == IntKind.i64.wrap (IntKind.i32.wrap im))))
theorem c_v5 (w : World) (hL : Laid h12 w) : Calls Tryd.prog 23 #[.agg ⟨(xA 5 al co si wi sh ds sr dp re im)⟩] w fun e w' => e = .returned (.bool (vP5 al co si wi sh ds sr dp re im)) ∧ Gr w w' :=
  treeOk hkV2_ok (.k 23 21 (eqD (xA 5 al co si wi sh ds sr dp re im) (xA 5 al 0 0 wi false ds 0 0 0 im)) (.k 23 25 (regS ds && regS sr) (.k 23 30 (aluOk al) (.r (im == IntKind.i64.wrap (IntKind.i32.wrap im))) (.r false)) (.r false)) (.r false)) (by simp only [DT.ev, vP5, shiftS] <;> cases (eqD (xA 5 al co si wi sh ds sr dp re im) (xA 5 al 0 0 wi false ds 0 0 0 im)) <;> cases (regS ds && regS sr) <;> cases (aluOk al) <;> cases ((im == IntKind.i64.wrap (IntKind.i32.wrap im))) <;> rfl) hL
def vP6 : Bool := eqD (xA 6 al co si wi sh ds sr dp re im) (xA 6 0 0 0 wi false ds sr 0 0 0) && ((regS ds && regS sr) && ((true) && (!sh || (re == IntKind.i32.wrap (IntKind.i8.wrap re)))))
theorem c_v6 (w : World) (hL : Laid h12 w) : Calls Tryd.prog 23 #[.agg ⟨(xA 6 al co si wi sh ds sr dp re im)⟩] w fun e w' => e = .returned (.bool (vP6 al co si wi sh ds sr dp re im)) ∧ Gr w w' :=
  treeOk hkV2_ok (.k 23 21 (eqD (xA 6 al co si wi sh ds sr dp re im) (xA 6 0 0 0 wi false ds sr 0 0 0)) (.k 23 25 (regS ds && regS sr) (.k 45 38 (!sh) (.r true) (.r (re == IntKind.i32.wrap (IntKind.i8.wrap re)))) (.r false)) (.r false)) (by simp only [DT.ev, vP6, shiftS] <;> cases (eqD (xA 6 al co si wi sh ds sr dp re im) (xA 6 0 0 0 wi false ds sr 0 0 0)) <;> cases (regS ds && regS sr) <;> cases ((re == IntKind.i32.wrap (IntKind.i8.wrap re))) <;> cases (sh) <;> rfl) hL
def vP7 : Bool := eqD (xA 7 al co si wi sh ds sr dp re im) (xA 7 0 0 0 wi false ds 0 0 0 0) && ((regS ds && regS sr) && ((true) && (!sh || (re == IntKind.i32.wrap (IntKind.i8.wrap re)))))
theorem c_v7 (w : World) (hL : Laid h12 w) : Calls Tryd.prog 23 #[.agg ⟨(xA 7 al co si wi sh ds sr dp re im)⟩] w fun e w' => e = .returned (.bool (vP7 al co si wi sh ds sr dp re im)) ∧ Gr w w' :=
  treeOk hkV2_ok (.k 23 21 (eqD (xA 7 al co si wi sh ds sr dp re im) (xA 7 0 0 0 wi false ds 0 0 0 0)) (.k 23 25 (regS ds && regS sr) (.k 45 38 (!sh) (.r true) (.r (re == IntKind.i32.wrap (IntKind.i8.wrap re)))) (.r false)) (.r false)) (by simp only [DT.ev, vP7, shiftS] <;> cases (eqD (xA 7 al co si wi sh ds sr dp re im) (xA 7 0 0 0 wi false ds 0 0 0 0)) <;> cases (regS ds && regS sr) <;> cases ((re == IntKind.i32.wrap (IntKind.i8.wrap re))) <;> cases (sh) <;> rfl) hL
def vP8 : Bool := eqD (xA 8 al co si wi sh ds sr dp re im) (xA 8 0 0 0 wi false ds 0 0 0 0) && ((regS ds && regS sr) && ((true) && (!sh || (re == IntKind.i32.wrap (IntKind.i8.wrap re)))))
theorem c_v8 (w : World) (hL : Laid h12 w) : Calls Tryd.prog 23 #[.agg ⟨(xA 8 al co si wi sh ds sr dp re im)⟩] w fun e w' => e = .returned (.bool (vP8 al co si wi sh ds sr dp re im)) ∧ Gr w w' :=
  treeOk hkV2_ok (.k 23 21 (eqD (xA 8 al co si wi sh ds sr dp re im) (xA 8 0 0 0 wi false ds 0 0 0 0)) (.k 23 25 (regS ds && regS sr) (.k 45 38 (!sh) (.r true) (.r (re == IntKind.i32.wrap (IntKind.i8.wrap re)))) (.r false)) (.r false)) (by simp only [DT.ev, vP8, shiftS] <;> cases (eqD (xA 8 al co si wi sh ds sr dp re im) (xA 8 0 0 0 wi false ds 0 0 0 0)) <;> cases (regS ds && regS sr) <;> cases ((re == IntKind.i32.wrap (IntKind.i8.wrap re))) <;> cases (sh) <;> rfl) hL
def vP9 : Bool := eqD (xA 9 al co si wi sh ds sr dp re im) (xA 9 0 0 0 wi false ds 0 0 0 0) && ((regS ds && regS sr) && ((true) && (!sh || (re == IntKind.i32.wrap (IntKind.i8.wrap re)))))
theorem c_v9 (w : World) (hL : Laid h12 w) : Calls Tryd.prog 23 #[.agg ⟨(xA 9 al co si wi sh ds sr dp re im)⟩] w fun e w' => e = .returned (.bool (vP9 al co si wi sh ds sr dp re im)) ∧ Gr w w' :=
  treeOk hkV2_ok (.k 23 21 (eqD (xA 9 al co si wi sh ds sr dp re im) (xA 9 0 0 0 wi false ds 0 0 0 0)) (.k 23 25 (regS ds && regS sr) (.k 45 38 (!sh) (.r true) (.r (re == IntKind.i32.wrap (IntKind.i8.wrap re)))) (.r false)) (.r false)) (by simp only [DT.ev, vP9, shiftS] <;> cases (eqD (xA 9 al co si wi sh ds sr dp re im) (xA 9 0 0 0 wi false ds 0 0 0 0)) <;> cases (regS ds && regS sr) <;> cases ((re == IntKind.i32.wrap (IntKind.i8.wrap re))) <;> cases (sh) <;> rfl) hL
def vP10 : Bool := eqD (xA 10 al co si wi sh ds sr dp re im) (xA 10 0 0 0 wi false ds sr 0 0 0) && ((regS ds && regS sr) && ((true) && (!sh || (re == IntKind.i32.wrap (IntKind.i8.wrap re)))))
theorem c_v10 (w : World) (hL : Laid h12 w) : Calls Tryd.prog 23 #[.agg ⟨(xA 10 al co si wi sh ds sr dp re im)⟩] w fun e w' => e = .returned (.bool (vP10 al co si wi sh ds sr dp re im)) ∧ Gr w w' :=
  treeOk hkV2_ok (.k 23 21 (eqD (xA 10 al co si wi sh ds sr dp re im) (xA 10 0 0 0 wi false ds sr 0 0 0)) (.k 23 25 (regS ds && regS sr) (.k 45 38 (!sh) (.r true) (.r (re == IntKind.i32.wrap (IntKind.i8.wrap re)))) (.r false)) (.r false)) (by simp only [DT.ev, vP10, shiftS] <;> cases (eqD (xA 10 al co si wi sh ds sr dp re im) (xA 10 0 0 0 wi false ds sr 0 0 0)) <;> cases (regS ds && regS sr) <;> cases ((re == IntKind.i32.wrap (IntKind.i8.wrap re))) <;> cases (sh) <;> rfl) hL
def vP11 : Bool := eqD (xA 11 al co si wi sh ds sr dp re im) (xA 11 al 0 0 wi false ds 0 0 0 im) && ((regS ds && regS sr) && ((shOk al) && (shiftS wi im)))
theorem c_v11 (w : World) (hL : Laid h12 w) : Calls Tryd.prog 23 #[.agg ⟨(xA 11 al co si wi sh ds sr dp re im)⟩] w fun e w' => e = .returned (.bool (vP11 al co si wi sh ds sr dp re im)) ∧ Gr w w' :=
  treeOk hkV2_ok (.k 23 21 (eqD (xA 11 al co si wi sh ds sr dp re im) (xA 11 al 0 0 wi false ds 0 0 0 im)) (.k 23 25 (regS ds && regS sr) (.k 23 30 (shOk al) (.k 45 12 (decide (im ≥ 0)) (.k 45 16 (decide (im < 32)) (.r true) (.k 45 19 (wi) (.r (decide (im < 64))) (.r false))) (.r false)) (.r false)) (.r false)) (.r false)) (by simp only [DT.ev, vP11, shiftS] <;> cases (eqD (xA 11 al co si wi sh ds sr dp re im) (xA 11 al 0 0 wi false ds 0 0 0 im)) <;> cases (regS ds && regS sr) <;> cases (shOk al) <;> cases (decide (im ≥ 0)) <;> cases (decide (im < 32)) <;> cases ((decide (im < 64))) <;> cases (wi) <;> rfl) hL
def vP12 : Bool := eqD (xA 12 al co si wi sh ds sr dp re im) (xA 12 al 0 0 wi false ds 0 0 0 0) && ((regS ds && regS sr) && ((shOk al) && (!sh || (re == IntKind.i32.wrap (IntKind.i8.wrap re)))))
theorem c_v12 (w : World) (hL : Laid h12 w) : Calls Tryd.prog 23 #[.agg ⟨(xA 12 al co si wi sh ds sr dp re im)⟩] w fun e w' => e = .returned (.bool (vP12 al co si wi sh ds sr dp re im)) ∧ Gr w w' :=
  treeOk hkV2_ok (.k 23 21 (eqD (xA 12 al co si wi sh ds sr dp re im) (xA 12 al 0 0 wi false ds 0 0 0 0)) (.k 23 25 (regS ds && regS sr) (.k 23 30 (shOk al) (.k 45 38 (!sh) (.r true) (.r (re == IntKind.i32.wrap (IntKind.i8.wrap re)))) (.r false)) (.r false)) (.r false)) (by simp only [DT.ev, vP12, shiftS] <;> cases (eqD (xA 12 al co si wi sh ds sr dp re im) (xA 12 al 0 0 wi false ds 0 0 0 0)) <;> cases (regS ds && regS sr) <;> cases (shOk al) <;> cases ((re == IntKind.i32.wrap (IntKind.i8.wrap re))) <;> cases (sh) <;> rfl) hL
def vP13 : Bool := eqD (xA 13 al co si wi sh ds sr dp re im) (xA 13 0 0 si wi false ds sr dp 0 0) && ((regS ds && regS sr) && ((szOk si && (wi == (si == 8))) && (!sh || (re == IntKind.i32.wrap (IntKind.i8.wrap re)))))
theorem c_v13 (w : World) (hL : Laid h12 w) : Calls Tryd.prog 23 #[.agg ⟨(xA 13 al co si wi sh ds sr dp re im)⟩] w fun e w' => e = .returned (.bool (vP13 al co si wi sh ds sr dp re im)) ∧ Gr w w' :=
  treeOk hkV2_ok (.k 23 21 (eqD (xA 13 al co si wi sh ds sr dp re im) (xA 13 0 0 si wi false ds sr dp 0 0)) (.k 23 25 (regS ds && regS sr) (.k 23 30 (szOk si && (wi == (si == 8))) (.k 45 38 (!sh) (.r true) (.r (re == IntKind.i32.wrap (IntKind.i8.wrap re)))) (.r false)) (.r false)) (.r false)) (by simp only [DT.ev, vP13, shiftS] <;> cases (eqD (xA 13 al co si wi sh ds sr dp re im) (xA 13 0 0 si wi false ds sr dp 0 0)) <;> cases (regS ds && regS sr) <;> cases (szOk si && (wi == (si == 8))) <;> cases ((re == IntKind.i32.wrap (IntKind.i8.wrap re))) <;> cases (sh) <;> rfl) hL
def vP14 : Bool := eqD (xA 14 al co si wi sh ds sr dp re im) (xA 14 0 0 si wi false ds sr dp 0 0) && ((regS ds && regS sr) && ((szOk si && (wi == (si == 8))) && (!sh || (re == IntKind.i32.wrap (IntKind.i8.wrap re)))))
theorem c_v14 (w : World) (hL : Laid h12 w) : Calls Tryd.prog 23 #[.agg ⟨(xA 14 al co si wi sh ds sr dp re im)⟩] w fun e w' => e = .returned (.bool (vP14 al co si wi sh ds sr dp re im)) ∧ Gr w w' :=
  treeOk hkV2_ok (.k 23 21 (eqD (xA 14 al co si wi sh ds sr dp re im) (xA 14 0 0 si wi false ds sr dp 0 0)) (.k 23 25 (regS ds && regS sr) (.k 23 30 (szOk si && (wi == (si == 8))) (.k 45 38 (!sh) (.r true) (.r (re == IntKind.i32.wrap (IntKind.i8.wrap re)))) (.r false)) (.r false)) (.r false)) (by simp only [DT.ev, vP14, shiftS] <;> cases (eqD (xA 14 al co si wi sh ds sr dp re im) (xA 14 0 0 si wi false ds sr dp 0 0)) <;> cases (regS ds && regS sr) <;> cases (szOk si && (wi == (si == 8))) <;> cases ((re == IntKind.i32.wrap (IntKind.i8.wrap re))) <;> cases (sh) <;> rfl) hL
def vP15 : Bool := eqD (xA 15 al co si wi sh ds sr dp re im) (xA 15 0 0 0 false sh 0 0 0 re 0) && ((regS ds && regS sr) && ((true) && (!sh || (re == IntKind.i32.wrap (IntKind.i8.wrap re)))))
theorem c_v15 (w : World) (hL : Laid h12 w) : Calls Tryd.prog 23 #[.agg ⟨(xA 15 al co si wi sh ds sr dp re im)⟩] w fun e w' => e = .returned (.bool (vP15 al co si wi sh ds sr dp re im)) ∧ Gr w w' :=
  treeOk hkV2_ok (.k 23 21 (eqD (xA 15 al co si wi sh ds sr dp re im) (xA 15 0 0 0 false sh 0 0 0 re 0)) (.k 23 25 (regS ds && regS sr) (.k 45 38 (!sh) (.r true) (.r (re == IntKind.i32.wrap (IntKind.i8.wrap re)))) (.r false)) (.r false)) (by simp only [DT.ev, vP15, shiftS] <;> cases (eqD (xA 15 al co si wi sh ds sr dp re im) (xA 15 0 0 0 false sh 0 0 0 re 0)) <;> cases (regS ds && regS sr) <;> cases ((re == IntKind.i32.wrap (IntKind.i8.wrap re))) <;> cases (sh) <;> rfl) hL
def vP16 : Bool := eqD (xA 16 al co si wi sh ds sr dp re im) (xA 16 0 co 0 false sh 0 0 0 re 0) && ((regS ds && regS sr) && ((ccOk co) && (!sh || (re == IntKind.i32.wrap (IntKind.i8.wrap re)))))
theorem c_v16 (w : World) (hL : Laid h12 w) : Calls Tryd.prog 23 #[.agg ⟨(xA 16 al co si wi sh ds sr dp re im)⟩] w fun e w' => e = .returned (.bool (vP16 al co si wi sh ds sr dp re im)) ∧ Gr w w' :=
  treeOk hkV2_ok (.k 23 21 (eqD (xA 16 al co si wi sh ds sr dp re im) (xA 16 0 co 0 false sh 0 0 0 re 0)) (.k 23 25 (regS ds && regS sr) (.k 23 30 (ccOk co) (.k 45 38 (!sh) (.r true) (.r (re == IntKind.i32.wrap (IntKind.i8.wrap re)))) (.r false)) (.r false)) (.r false)) (by simp only [DT.ev, vP16, shiftS] <;> cases (eqD (xA 16 al co si wi sh ds sr dp re im) (xA 16 0 co 0 false sh 0 0 0 re 0)) <;> cases (regS ds && regS sr) <;> cases (ccOk co) <;> cases ((re == IntKind.i32.wrap (IntKind.i8.wrap re))) <;> cases (sh) <;> rfl) hL
def vP17 : Bool := eqD (xA 17 al co si wi sh ds sr dp re im) (xA 17 0 0 0 false false ds 0 0 0 0) && ((regS ds && regS sr) && ((true) && (!sh || (re == IntKind.i32.wrap (IntKind.i8.wrap re)))))
theorem c_v17 (w : World) (hL : Laid h12 w) : Calls Tryd.prog 23 #[.agg ⟨(xA 17 al co si wi sh ds sr dp re im)⟩] w fun e w' => e = .returned (.bool (vP17 al co si wi sh ds sr dp re im)) ∧ Gr w w' :=
  treeOk hkV2_ok (.k 23 21 (eqD (xA 17 al co si wi sh ds sr dp re im) (xA 17 0 0 0 false false ds 0 0 0 0)) (.k 23 25 (regS ds && regS sr) (.k 45 38 (!sh) (.r true) (.r (re == IntKind.i32.wrap (IntKind.i8.wrap re)))) (.r false)) (.r false)) (by simp only [DT.ev, vP17, shiftS] <;> cases (eqD (xA 17 al co si wi sh ds sr dp re im) (xA 17 0 0 0 false false ds 0 0 0 0)) <;> cases (regS ds && regS sr) <;> cases ((re == IntKind.i32.wrap (IntKind.i8.wrap re))) <;> cases (sh) <;> rfl) hL
def vP18 : Bool := eqD (xA 18 al co si wi sh ds sr dp re im) (xA 18 0 0 0 false false ds 0 0 0 0) && ((regS ds && regS sr) && ((true) && (!sh || (re == IntKind.i32.wrap (IntKind.i8.wrap re)))))
theorem c_v18 (w : World) (hL : Laid h12 w) : Calls Tryd.prog 23 #[.agg ⟨(xA 18 al co si wi sh ds sr dp re im)⟩] w fun e w' => e = .returned (.bool (vP18 al co si wi sh ds sr dp re im)) ∧ Gr w w' :=
  treeOk hkV2_ok (.k 23 21 (eqD (xA 18 al co si wi sh ds sr dp re im) (xA 18 0 0 0 false false ds 0 0 0 0)) (.k 23 25 (regS ds && regS sr) (.k 45 38 (!sh) (.r true) (.r (re == IntKind.i32.wrap (IntKind.i8.wrap re)))) (.r false)) (.r false)) (by simp only [DT.ev, vP18, shiftS] <;> cases (eqD (xA 18 al co si wi sh ds sr dp re im) (xA 18 0 0 0 false false ds 0 0 0 0)) <;> cases (regS ds && regS sr) <;> cases ((re == IntKind.i32.wrap (IntKind.i8.wrap re))) <;> cases (sh) <;> rfl) hL
def vP19 : Bool := eqD (xA 19 al co si wi sh ds sr dp re im) (xA 19 0 0 0 false false 0 0 0 0 0) && ((regS ds && regS sr) && ((true) && (!sh || (re == IntKind.i32.wrap (IntKind.i8.wrap re)))))
theorem c_v19 (w : World) (hL : Laid h12 w) : Calls Tryd.prog 23 #[.agg ⟨(xA 19 al co si wi sh ds sr dp re im)⟩] w fun e w' => e = .returned (.bool (vP19 al co si wi sh ds sr dp re im)) ∧ Gr w w' :=
  treeOk hkV2_ok (.k 23 21 (eqD (xA 19 al co si wi sh ds sr dp re im) (xA 19 0 0 0 false false 0 0 0 0 0)) (.k 23 25 (regS ds && regS sr) (.k 45 38 (!sh) (.r true) (.r (re == IntKind.i32.wrap (IntKind.i8.wrap re)))) (.r false)) (.r false)) (by simp only [DT.ev, vP19, shiftS] <;> cases (eqD (xA 19 al co si wi sh ds sr dp re im) (xA 19 0 0 0 false false 0 0 0 0 0)) <;> cases (regS ds && regS sr) <;> cases ((re == IntKind.i32.wrap (IntKind.i8.wrap re))) <;> cases (sh) <;> rfl) hL
def vP20 : Bool := eqD (xA 20 al co si wi sh ds sr dp re im) (xA 20 0 0 0 false false 0 0 0 re 0) && ((regS ds && regS sr) && ((true) && (!sh || (re == IntKind.i32.wrap (IntKind.i8.wrap re)))))
theorem c_v20 (w : World) (hL : Laid h12 w) : Calls Tryd.prog 23 #[.agg ⟨(xA 20 al co si wi sh ds sr dp re im)⟩] w fun e w' => e = .returned (.bool (vP20 al co si wi sh ds sr dp re im)) ∧ Gr w w' :=
  treeOk hkV2_ok (.k 23 21 (eqD (xA 20 al co si wi sh ds sr dp re im) (xA 20 0 0 0 false false 0 0 0 re 0)) (.k 23 25 (regS ds && regS sr) (.k 45 38 (!sh) (.r true) (.r (re == IntKind.i32.wrap (IntKind.i8.wrap re)))) (.r false)) (.r false)) (by simp only [DT.ev, vP20, shiftS] <;> cases (eqD (xA 20 al co si wi sh ds sr dp re im) (xA 20 0 0 0 false false 0 0 0 re 0)) <;> cases (regS ds && regS sr) <;> cases ((re == IntKind.i32.wrap (IntKind.i8.wrap re))) <;> cases (sh) <;> rfl) hL
def vP21 : Bool := eqD (xA 21 al co si wi sh ds sr dp re im) (xA 21 0 0 0 false false 0 0 0 0 0) && ((regS ds && regS sr) && ((true) && (!sh || (re == IntKind.i32.wrap (IntKind.i8.wrap re)))))
theorem c_v21 (w : World) (hL : Laid h12 w) : Calls Tryd.prog 23 #[.agg ⟨(xA 21 al co si wi sh ds sr dp re im)⟩] w fun e w' => e = .returned (.bool (vP21 al co si wi sh ds sr dp re im)) ∧ Gr w w' :=
  treeOk hkV2_ok (.k 23 21 (eqD (xA 21 al co si wi sh ds sr dp re im) (xA 21 0 0 0 false false 0 0 0 0 0)) (.k 23 25 (regS ds && regS sr) (.k 45 38 (!sh) (.r true) (.r (re == IntKind.i32.wrap (IntKind.i8.wrap re)))) (.r false)) (.r false)) (by simp only [DT.ev, vP21, shiftS] <;> cases (eqD (xA 21 al co si wi sh ds sr dp re im) (xA 21 0 0 0 false false 0 0 0 0 0)) <;> cases (regS ds && regS sr) <;> cases ((re == IntKind.i32.wrap (IntKind.i8.wrap re))) <;> cases (sh) <;> rfl) hL
theorem vx_0 (k : Int) (al co si : Int) (wi sh : Bool) (ds sr dp re im : Int) : Lf h12 23 [.agg ⟨(xA k al co si wi sh ds sr dp re im)⟩] (.bool false) [(b2i (decide (k < 1)), 1)] := lfk hkV2_ok (ocs [(23, 7, .bool true)] [])
theorem vx_1 (k : Int) (al co si : Int) (wi sh : Bool) (ds sr dp re im : Int) : Lf h12 23 [.agg ⟨(xA k al co si wi sh ds sr dp re im)⟩] (.bool false) [(b2i (decide (k < 1)), 0), (b2i (decide (k > 21)), 1)] := lfk hkV2_ok (ocs [(23, 7, .bool false), (23, 11, .bool true)] [])
def vP (k : Int) (al co si : Int) (wi sh : Bool) (ds sr dp re im : Int) : Bool :=
  if k = 1 then vP1 al co si wi sh ds sr dp re im else if k = 2 then vP2 al co si wi sh ds sr dp re im else if k = 3 then vP3 al co si wi sh ds sr dp re im else if k = 4 then vP4 al co si wi sh ds sr dp re im else if k = 5 then vP5 al co si wi sh ds sr dp re im else if k = 6 then vP6 al co si wi sh ds sr dp re im else if k = 7 then vP7 al co si wi sh ds sr dp re im else if k = 8 then vP8 al co si wi sh ds sr dp re im else if k = 9 then vP9 al co si wi sh ds sr dp re im else if k = 10 then vP10 al co si wi sh ds sr dp re im else if k = 11 then vP11 al co si wi sh ds sr dp re im else if k = 12 then vP12 al co si wi sh ds sr dp re im else if k = 13 then vP13 al co si wi sh ds sr dp re im else if k = 14 then vP14 al co si wi sh ds sr dp re im else if k = 15 then vP15 al co si wi sh ds sr dp re im else if k = 16 then vP16 al co si wi sh ds sr dp re im else if k = 17 then vP17 al co si wi sh ds sr dp re im else if k = 18 then vP18 al co si wi sh ds sr dp re im else if k = 19 then vP19 al co si wi sh ds sr dp re im else if k = 20 then vP20 al co si wi sh ds sr dp re im else if k = 21 then vP21 al co si wi sh ds sr dp re im else false
theorem c_valid (k : Int) (al co si : Int) (wi sh : Bool) (ds sr dp re im : Int) (w : World) (hL : Laid h12 w) : Calls Tryd.prog 23 #[.agg ⟨(xA k al co si wi sh ds sr dp re im)⟩] w fun e w' => e = .returned (.bool (vP k al co si wi sh ds sr dp re im)) ∧ Gr w w' := by
  cases h1 : decide (k < 1) with
  | true =>
    refine retZ ?_ (vx_0 k al co si wi sh ds sr dp re im (csT' h1 csN') w hL)
    simp only [decide_eq_true_eq] at h1
    simp only [vP, if_neg (show ¬ k = 1 by omega), if_neg (show ¬ k = 2 by omega), if_neg (show ¬ k = 3 by omega), if_neg (show ¬ k = 4 by omega), if_neg (show ¬ k = 5 by omega), if_neg (show ¬ k = 6 by omega), if_neg (show ¬ k = 7 by omega), if_neg (show ¬ k = 8 by omega), if_neg (show ¬ k = 9 by omega), if_neg (show ¬ k = 10 by omega), if_neg (show ¬ k = 11 by omega), if_neg (show ¬ k = 12 by omega), if_neg (show ¬ k = 13 by omega), if_neg (show ¬ k = 14 by omega), if_neg (show ¬ k = 15 by omega), if_neg (show ¬ k = 16 by omega), if_neg (show ¬ k = 17 by omega), if_neg (show ¬ k = 18 by omega), if_neg (show ¬ k = 19 by omega), if_neg (show ¬ k = 20 by omega), if_neg (show ¬ k = 21 by omega)]
  | false =>
    cases h2 : decide (k > 21) with
    | true =>
      refine retZ ?_ (vx_1 k al co si wi sh ds sr dp re im (csF' h1 (csT' h2 csN')) w hL)
      simp only [decide_eq_true_eq] at h2
      simp only [vP, if_neg (show ¬ k = 1 by omega), if_neg (show ¬ k = 2 by omega), if_neg (show ¬ k = 3 by omega), if_neg (show ¬ k = 4 by omega), if_neg (show ¬ k = 5 by omega), if_neg (show ¬ k = 6 by omega), if_neg (show ¬ k = 7 by omega), if_neg (show ¬ k = 8 by omega), if_neg (show ¬ k = 9 by omega), if_neg (show ¬ k = 10 by omega), if_neg (show ¬ k = 11 by omega), if_neg (show ¬ k = 12 by omega), if_neg (show ¬ k = 13 by omega), if_neg (show ¬ k = 14 by omega), if_neg (show ¬ k = 15 by omega), if_neg (show ¬ k = 16 by omega), if_neg (show ¬ k = 17 by omega), if_neg (show ¬ k = 18 by omega), if_neg (show ¬ k = 19 by omega), if_neg (show ¬ k = 20 by omega), if_neg (show ¬ k = 21 by omega)]
    | false =>
      rcases kinds h1 h2 with rfl | rfl | rfl | rfl | rfl | rfl | rfl | rfl | rfl | rfl | rfl | rfl | rfl | rfl | rfl | rfl | rfl | rfl | rfl | rfl | rfl
      · exact c_v1 al co si wi sh ds sr dp re im w hL
      · exact c_v2 al co si wi sh ds sr dp re im w hL
      · exact c_v3 al co si wi sh ds sr dp re im w hL
      · exact c_v4 al co si wi sh ds sr dp re im w hL
      · exact c_v5 al co si wi sh ds sr dp re im w hL
      · exact c_v6 al co si wi sh ds sr dp re im w hL
      · exact c_v7 al co si wi sh ds sr dp re im w hL
      · exact c_v8 al co si wi sh ds sr dp re im w hL
      · exact c_v9 al co si wi sh ds sr dp re im w hL
      · exact c_v10 al co si wi sh ds sr dp re im w hL
      · exact c_v11 al co si wi sh ds sr dp re im w hL
      · exact c_v12 al co si wi sh ds sr dp re im w hL
      · exact c_v13 al co si wi sh ds sr dp re im w hL
      · exact c_v14 al co si wi sh ds sr dp re im w hL
      · exact c_v15 al co si wi sh ds sr dp re im w hL
      · exact c_v16 al co si wi sh ds sr dp re im w hL
      · exact c_v17 al co si wi sh ds sr dp re im w hL
      · exact c_v18 al co si wi sh ds sr dp re im w hL
      · exact c_v19 al co si wi sh ds sr dp re im w hL
      · exact c_v20 al co si wi sh ds sr dp re im w hL
      · exact c_v21 al co si wi sh ds sr dp re im w hL
def hk_valid : Hook := fun f args h =>
  if Nat.beq f 23 && hasG h12 h then
    match args with
    | [.agg ⟨[.int .i64 p0, .int .i64 p1, .int .i64 p2, .int .i64 p3, .bool p4, .bool p5, .int .i64 p6, .int .i64 p7, .int .i32 p8, .int .i32 p9, .int .i64 p10]⟩] => some (.bool (vP p0 p1 p2 p3 p4 p5 p6 p7 p8 p9 p10), [])
    | _ => none
  else none
theorem hk_valid_ok : HookOk Tryd.prog hk_valid := by
  intro f args h v cs hv hc wb k s w H
  unfold hk_valid at hv
  split at hv
  · rename_i hf
    simp only [Bool.and_eq_true] at hf
    obtain rfl := Nat.eq_of_beq_eq_true hf.1
    split at hv
    · cases hv
      exact c_valid _ _ _ _ _ _ _ _ _ _ _ w (H.laid hf.2 rfl)
    · cases hv
  · cases hv
end Go.Proofs.YtokeopmmnpmfeaaDoor.Ex
