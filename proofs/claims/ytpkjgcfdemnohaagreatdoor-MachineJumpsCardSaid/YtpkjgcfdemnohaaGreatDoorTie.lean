/-
  DERIVED. GIVEN WITH THE SEED: THE PROGRAM's TIES (one call each: nine closed facts by the kernel) AND EACH ROW's TIE, after the 31st guide's Derived/Test/Toyas{Tie, Card}.lean. No idea stands in it: it is a product of the set-up. Laid BY PROGRAM, IN A SANDBOX (cutbox-door.mjs). By AI agents, Wed Nov 11 2026. No macro, syntax, notation, axiom, sorry.
-/
import Derived.Test.YtpkjgcfdemnohaaGreatDoorRows
import Derived.LaidByTextLater
import Derived.SevenTiedAt
import Derived.LaidSub
import Derived.LaidOnce
namespace Go.Proofs.YtpkjgcfdemnohaaGreatDoor
open Go
set_option maxRecDepth 100000
theorem seatTie1 : Tryz.prog.laidByTextLater [("firewall/insns.sizes", Rows.laid_firewall_insns_sizes), ("firewall/codec.forms", Rows.laid_firewall_codec_forms), ("firewall/helpers.args", Rows.laid_firewall_helpers_args)] [.data, .data, .data] true :=
  Program.laidByTextLater_by_one 57 8 133 (by kernel_rfl) (by kernel_rfl) (by kernel_rfl) (by kernel_rfl) (by kernel_rfl) (by kernel_rfl) (fun _ _ => by kernel_rfl)
theorem noOwnUnsafe : Tryz.pinned.checked.prog.headLifts.contains "ownunsafe" = false := by kernel_rfl
theorem tie : Tryz.prog.laidByTextLater [("firewall/codec.forms", Rows.laid_firewall_codec_forms), ("firewall/helpers.args", Rows.laid_firewall_helpers_args)] [.data, .data] true :=
  Program.laidByTextLater.sub seatTie1 ["firewall/codec.forms", "firewall/helpers.args"] (by kernel_rfl) (by kernel_rfl)
theorem specNone_row_tie : Rows.specNoneRow.laidByTextAt .later Tryz.pinned [.data, .data] true :=
  OpenClaim.laidByTextAt_later rfl rfl tie noOwnUnsafe
theorem machineStack_row_tie : Rows.machineStackRow.laidByTextAt .later Tryz.pinned [.data, .data] true :=
  OpenClaim.laidByTextAt_later rfl rfl tie noOwnUnsafe
theorem machineJumps_row_tie : Rows.machineJumpsRow.laidByTextAt .later Tryz.pinned [.data, .data] true :=
  OpenClaim.laidByTextAt_later rfl rfl tie noOwnUnsafe
theorem tie2 : Tryz.prog.laidByTextLater [("firewall/insns.sizes", Rows.laid_firewall_insns_sizes)] [.data] true :=
  Program.laidByTextLater.sub seatTie1 ["firewall/insns.sizes"] (by kernel_rfl) (by kernel_rfl)
theorem stepsNone_row_tie : Rows.stepsNoneRow.laidByTextAt .later Tryz.pinned [.data] true :=
  OpenClaim.laidByTextAt_later rfl rfl tie2 noOwnUnsafe
theorem specNoneUpto_row_tie : Rows.specNoneUptoRow.laidByTextAt .later Tryz.pinned [.data, .data] true :=
  OpenClaim.laidByTextAt_later rfl rfl tie noOwnUnsafe
theorem stepsNoneUpto_row_tie : Rows.stepsNoneUptoRow.laidByTextAt .later Tryz.pinned [.data] true :=
  OpenClaim.laidByTextAt_later rfl rfl tie2 noOwnUnsafe
theorem machineStackUpto_row_tie : Rows.machineStackUptoRow.laidByTextAt .later Tryz.pinned [.data, .data] true :=
  OpenClaim.laidByTextAt_later rfl rfl tie noOwnUnsafe
theorem machineJumpsUpto_row_tie : Rows.machineJumpsUptoRow.laidByTextAt .later Tryz.pinned [.data, .data] true :=
  OpenClaim.laidByTextAt_later rfl rfl tie noOwnUnsafe
end Go.Proofs.YtpkjgcfdemnohaaGreatDoor
