/-
  DERIVED. GIVEN WITH THE SEED: THE PROGRAM's TIES (one call each: nine closed facts by the kernel) AND EACH ROW's TIE, after the 31st guide's Derived/Test/Toyas{Tie, Card}.lean. No idea stands in it: it is a product of the set-up. Laid BY PROGRAM, IN A SANDBOX (cutbox-door.mjs). By AI agents, Wed Nov 11 2026. No macro, syntax, notation, axiom, sorry.
-/
import Derived.Test.YtagdapjkdjnemaaGreatDoorRows
import Derived.LaidByTextLater
import Derived.SevenTiedAt
import Derived.LaidSub
import Derived.LaidOnce
namespace Go.Proofs.YtagdapjkdjnemaaGreatDoor
open Go
set_option maxRecDepth 100000
theorem seatTie1 : Tryz.prog.laidByTextLater [("firewall/codec.forms", Rows.laid_firewall_codec_forms), ("firewall/helpers.args", Rows.laid_firewall_helpers_args)] [.data, .data] true :=
  Program.laidByTextLater_by_one 40 8 133 (by kernel_rfl) (by kernel_rfl) (by kernel_rfl) (by kernel_rfl) (by kernel_rfl) (by kernel_rfl) (fun _ _ => by kernel_rfl)
theorem noOwnUnsafe : Tryz.pinned.checked.prog.headLifts.contains "ownunsafe" = false := by kernel_rfl
theorem tie : Tryz.prog.laidByTextLater [("firewall/codec.forms", Rows.laid_firewall_codec_forms), ("firewall/helpers.args", Rows.laid_firewall_helpers_args)] [.data, .data] true :=
  Program.laidByTextLater.sub seatTie1 ["firewall/codec.forms", "firewall/helpers.args"] (by kernel_rfl) (by kernel_rfl)
theorem machineNone_row_tie : Rows.machineNoneRow.laidByTextAt .later Tryz.pinned [.data, .data] true :=
  OpenClaim.laidByTextAt_later rfl rfl tie noOwnUnsafe
theorem machineNoneUpto_row_tie : Rows.machineNoneUptoRow.laidByTextAt .later Tryz.pinned [.data, .data] true :=
  OpenClaim.laidByTextAt_later rfl rfl tie noOwnUnsafe
end Go.Proofs.YtagdapjkdjnemaaGreatDoor
