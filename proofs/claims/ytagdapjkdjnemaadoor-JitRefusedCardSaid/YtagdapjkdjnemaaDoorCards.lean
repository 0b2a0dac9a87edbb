/-
  DERIVED. GIVEN WITH THE SEED: THE CARDS: each row of YtagdapjkdjnemaaDoorRows.lean that lists a variable, with what it lists TIED to the program's text (the seventh form; the later family's looks); each row that meets fmt, with fmt's text TOLD by the authors' own Lean function (tested against real Go, not proved from fmt's source: count such statements apart). THE CARD IS WHAT COUNTS. Prove the row's statement (the work); the ties are given (YtagdapjkdjnemaaDoorTie.lean); close each card by the builder's one call (the guide's Derived/Test/ToyasCard.lean, 'card_holds'). Laid BY PROGRAM, IN A SANDBOX (cutbox-door.mjs). By AI agents, Wed Nov 11 2026. No macro, syntax, notation, axiom, sorry.
-/
import Derived.Test.YtagdapjkdjnemaaDoorRows
import GoSem.ClaimSeven
namespace Go.Proofs.YtagdapjkdjnemaaDoor
namespace Rows

/-- THE TIED CARD OF 'firewalllaw24.EmitPairs'. -/
def emitPairsCard : Claim7 := { stood := { row := emitPairsRow, standIns := [], harness := (true, "e6356dda8322f167c7a3dbe0b3d1777b8f67bb129b6e3b89c13a5008e17eedfd"), looks := false }, kinds := [], alts := [], laidByText := true, laidKinds := [.data, .data, .data], laidTests := true, laidLooks := .later }
def EmitPairsCardSaid : Prop := Claim7.holds Tryd.pinned (.plain (OpenSpec.ofChange emitPairsSpec)) emitPairsCard

/-- THE TIED CARD OF 'firewalllaw25.JitRefused'. -/
def jitRefusedCard : Claim7 := { stood := { row := jitRefusedRow, standIns := [], harness := (true, "e6356dda8322f167c7a3dbe0b3d1777b8f67bb129b6e3b89c13a5008e17eedfd"), looks := false }, kinds := [], alts := [], laidByText := true, laidKinds := [.data, .data, .data, .data], laidTests := true, laidLooks := .later }
def JitRefusedCardSaid : Prop := Claim7.holds Tryd.pinned (.plain (OpenSpec.ofChange jitRefusedSpec)) jitRefusedCard

/-- THE SECOND FORM's CARD OF 'firewalllaw24.EmitPairs'. -/
def emitPairsUptoCard : Claim7 := { stood := { row := emitPairsUptoRow, standIns := [], harness := (true, "e6356dda8322f167c7a3dbe0b3d1777b8f67bb129b6e3b89c13a5008e17eedfd"), looks := false }, kinds := [], alts := [], laidByText := true, laidKinds := [.data, .data, .data], laidTests := true, laidLooks := .later }
def EmitPairsUptoCardSaid : Prop := Claim7.holds Tryd.pinned (.plain (OpenSpec.upto emitPairsSpec)) emitPairsUptoCard

/-- THE SECOND FORM's CARD OF 'firewalllaw25.JitRefused'. -/
def jitRefusedUptoCard : Claim7 := { stood := { row := jitRefusedUptoRow, standIns := [], harness := (true, "e6356dda8322f167c7a3dbe0b3d1777b8f67bb129b6e3b89c13a5008e17eedfd"), looks := false }, kinds := [], alts := [], laidByText := true, laidKinds := [.data, .data, .data, .data], laidTests := true, laidLooks := .later }
def JitRefusedUptoCardSaid : Prop := Claim7.holds Tryd.pinned (.plain (OpenSpec.upto jitRefusedSpec)) jitRefusedUptoCard
end Rows
end Go.Proofs.YtagdapjkdjnemaaDoor
