/-
  DERIVED. GIVEN WITH THE SEED: THE CARDS: each row of YthajaakoiclkbaaDoorRows.lean that lists a variable, with what it lists TIED to the program's text (the seventh form; the later family's looks); each row that meets fmt, with fmt's text TOLD by the authors' own Lean function (tested against real Go, not proved from fmt's source: count such statements apart). THE CARD IS WHAT COUNTS. Prove the row's statement (the work); the ties are given (YthajaakoiclkbaaDoorTie.lean); close each card by the builder's one call (the guide's Derived/Test/ToyasCard.lean, 'card_holds'). Laid BY PROGRAM, IN A SANDBOX (cutbox-door.mjs). By AI agents, Wed Nov 11 2026. No macro, syntax, notation, axiom, sorry.
-/
import Derived.Test.YthajaakoiclkbaaDoorRows
import GoSem.ClaimSeven
namespace Go.Proofs.YthajaakoiclkbaaDoor
namespace Rows

/-- THE TIED CARD OF 'firewalllaw09.HelpersLaid'. -/
def helpersLaidCard : Claim7 := { stood := { row := helpersLaidRow, standIns := [], harness := (true, "fac213e5e24f7744bb0d105d41b4c9a4a07a65703c4e8d4d5f178d6a37085228"), looks := true }, kinds := [], alts := [], laidByText := true, laidKinds := [.data], laidTests := true, laidLooks := .later }
def HelpersLaidCardSaid : Prop := Claim7.holds Tryd.pinned (.plain (OpenSpec.ofChange helpersLaidSpec)) helpersLaidCard

/-- THE SECOND FORM's CARD OF 'firewalllaw09.HelpersLaid'. -/
def helpersLaidUptoCard : Claim7 := { stood := { row := helpersLaidUptoRow, standIns := [], harness := (true, "fac213e5e24f7744bb0d105d41b4c9a4a07a65703c4e8d4d5f178d6a37085228"), looks := true }, kinds := [], alts := [], laidByText := true, laidKinds := [.data], laidTests := true, laidLooks := .later }
def HelpersLaidUptoCardSaid : Prop := Claim7.holds Tryd.pinned (.plain (OpenSpec.upto helpersLaidSpec)) helpersLaidUptoCard
end Rows
end Go.Proofs.YthajaakoiclkbaaDoor
