/-
  DERIVED. GIVEN WITH THE SEED: THE PROGRAM's TIES (one call each: nine closed facts by the kernel) AND EACH ROW's TIE, after the 31st guide's Derived/Test/Toyas{Tie, Card}.lean. No idea stands in it: it is a product of the set-up. Laid BY PROGRAM, IN A SANDBOX (cutbox-door.mjs). By AI agents, Wed Nov 11 2026. No macro, syntax, notation, axiom, sorry.
-/
import Derived.Test.YtagdapjkdjnemaaDoorRows
import Derived.LaidByTextLater
import Derived.SevenTiedAt
import Derived.LaidSub
import Derived.LaidOnce
namespace Go.Proofs.YtagdapjkdjnemaaDoor
open Go
set_option maxRecDepth 100000
theorem seatTie1 : Tryd.prog.laidByTextLater [("firewall/insns.sizes", Rows.laid_firewall_insns_sizes), ("firewall/emit.registers", Rows.laid_firewall_emit_registers), ("firewall/emit.saved", Rows.laid_firewall_emit_saved), ("firewall/codec.forms", Rows.laid_firewall_codec_forms)] [.data, .data, .data, .data] true :=
  Program.laidByTextLater_by_one 62 8 133 (by kernel_rfl) (by kernel_rfl) (by kernel_rfl) (by kernel_rfl) (by kernel_rfl) (by kernel_rfl) (fun _ _ => by kernel_rfl)
theorem noOwnUnsafe : Tryd.pinned.checked.prog.headLifts.contains "ownunsafe" = false := by kernel_rfl
theorem tie : Tryd.prog.laidByTextLater [("firewall/insns.sizes", Rows.laid_firewall_insns_sizes), ("firewall/emit.registers", Rows.laid_firewall_emit_registers), ("firewall/emit.saved", Rows.laid_firewall_emit_saved)] [.data, .data, .data] true :=
  Program.laidByTextLater.sub seatTie1 ["firewall/insns.sizes", "firewall/emit.registers", "firewall/emit.saved"] (by kernel_rfl) (by kernel_rfl)
theorem emitPairs_row_tie : Rows.emitPairsRow.laidByTextAt .later Tryd.pinned [.data, .data, .data] true :=
  OpenClaim.laidByTextAt_later rfl rfl tie noOwnUnsafe
theorem tie2 : Tryd.prog.laidByTextLater [("firewall/insns.sizes", Rows.laid_firewall_insns_sizes), ("firewall/emit.registers", Rows.laid_firewall_emit_registers), ("firewall/emit.saved", Rows.laid_firewall_emit_saved), ("firewall/codec.forms", Rows.laid_firewall_codec_forms)] [.data, .data, .data, .data] true :=
  Program.laidByTextLater.sub seatTie1 ["firewall/insns.sizes", "firewall/emit.registers", "firewall/emit.saved", "firewall/codec.forms"] (by kernel_rfl) (by kernel_rfl)
theorem jitRefused_row_tie : Rows.jitRefusedRow.laidByTextAt .later Tryd.pinned [.data, .data, .data, .data] true :=
  OpenClaim.laidByTextAt_later rfl rfl tie2 noOwnUnsafe
theorem emitPairsUpto_row_tie : Rows.emitPairsUptoRow.laidByTextAt .later Tryd.pinned [.data, .data, .data] true :=
  OpenClaim.laidByTextAt_later rfl rfl tie noOwnUnsafe
theorem jitRefusedUpto_row_tie : Rows.jitRefusedUptoRow.laidByTextAt .later Tryd.pinned [.data, .data, .data, .data] true :=
  OpenClaim.laidByTextAt_later rfl rfl tie2 noOwnUnsafe
end Go.Proofs.YtagdapjkdjnemaaDoor
