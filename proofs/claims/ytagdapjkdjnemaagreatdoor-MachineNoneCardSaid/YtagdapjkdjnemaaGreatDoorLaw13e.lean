/-
  Layer 13: the law MachineNone, reckoned.
-/
import Derived.Test.YtagdapjkdjnemaaGreatDoorLaw13d
namespace Go.Proofs.YtagdapjkdjnemaaGreatDoor.Ex
open Go Go.RowKit
def mnOrc (b : Bool) : Orc := fun f t _ => if Nat.beq f 3 && Nat.beq t 18 then some (.bool b) else none
set_option maxHeartbeats 0 in
set_option maxRecDepth 1000000 in
theorem mn_long (c : ByteArray) (k a cd sz : Int) (wd sh : Bool) (ds sr dp rl im most : Int) (h : decide ((c.size : Int) > 1000) = true) (w : World) (hL : Laid h13 w) :
    Calls Tryz.prog 3 #[.string c, .agg ⟨[.int .i64 k, .int .i64 a, .int .i64 cd, .int .i64 sz, .bool wd, .bool sh, .int .i64 ds, .int .i64 sr, .int .i32 dp, .int .i32 rl, .int .i64 im]⟩, .int .i64 most] w fun e w' => e = .returned (.bool true) ∧ Gr w w' := by
  refine reckonT_ok noNG runsHook_ok (mnOrc true) 100000 300 h13 (cs := [(b2i (decide ((c.size : Int) > 1000)), 1)]) rfl rfl (by kernel_rfl) ?_ w hL
  rw [h]; rfl
set_option maxHeartbeats 0 in
set_option maxRecDepth 1000000 in
theorem mn_short (c : ByteArray) (k a cd sz : Int) (wd sh : Bool) (ds sr dp rl im most : Int) (h : decide ((c.size : Int) > 1000) = false) (w : World) (hL : Laid h13 w) :
    Calls Tryz.prog 3 #[.string c, .agg ⟨[.int .i64 k, .int .i64 a, .int .i64 cd, .int .i64 sz, .bool wd, .bool sh, .int .i64 ds, .int .i64 sr, .int .i32 dp, .int .i32 rl, .int .i64 im]⟩, .int .i64 most] w fun e w' => e = .returned (.bool true) ∧ Gr w w' := by
  refine reckonT_ok noNG runsHook_ok (mnOrc false) 100000 300 h13 (cs := [(b2i (decide ((c.size : Int) > 1000)), 0)]) rfl rfl (by kernel_rfl) ?_ w hL
  rw [h]; rfl
theorem machineNone_walk (c : ByteArray) (k a cd sz : Int) (wd sh : Bool) (ds sr dp rl im most : Int) (w : World) (hL : Laid h13 w) :
    Calls Tryz.prog 3 #[.string c, .agg ⟨[.int .i64 k, .int .i64 a, .int .i64 cd, .int .i64 sz, .bool wd, .bool sh, .int .i64 ds, .int .i64 sr, .int .i32 dp, .int .i32 rl, .int .i64 im]⟩, .int .i64 most] w fun e w' => e = .returned (.bool true) ∧ Gr w w' := by
  cases h : decide ((c.size : Int) > 1000) with
  | true => exact mn_long c k a cd sz wd sh ds sr dp rl im most h w hL
  | false => exact mn_short c k a cd sz wd sh ds sr dp rl im most h w hL
end Go.Proofs.YtagdapjkdjnemaaGreatDoor.Ex
