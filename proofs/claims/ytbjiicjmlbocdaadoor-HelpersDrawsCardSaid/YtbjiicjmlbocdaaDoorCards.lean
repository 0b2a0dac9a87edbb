/-
  DERIVED. GIVEN WITH THE SEED: THE CARDS: each row of YtbjiicjmlbocdaaDoorRows.lean that lists a variable, with what it lists TIED to the program's text (the seventh form; the later family's looks); each row that meets fmt, with fmt's text TOLD by the authors' own Lean function (tested against real Go, not proved from fmt's source: count such statements apart). THE CARD IS WHAT COUNTS. Prove the row's statement (the work); the ties are given (YtbjiicjmlbocdaaDoorTie.lean); close each card by the builder's one call (the guide's Derived/Test/ToyasCard.lean, 'card_holds'). Laid BY PROGRAM, IN A SANDBOX (cutbox-door.mjs). By AI agents, Wed Nov 11 2026. No macro, syntax, notation, axiom, sorry.
-/
import Derived.Test.YtbjiicjmlbocdaaDoorRows
import GoSem.ClaimSeven
namespace Go.Proofs.YtbjiicjmlbocdaaDoor
namespace Rows

/-- THE TIED CARD OF 'firewalllaw09.HelpersDraws'. -/
def helpersDrawsCard : Claim7 := { stood := { row := helpersDrawsRow, standIns := [], harness := (true, "76ad9f8ac79ae5450a6e3f020034634830bf060ef9203526e3d3b0c07cb38711"), looks := true }, kinds := [], alts := [], laidByText := true, laidKinds := [.data], laidTests := true, laidLooks := .later }
def HelpersDrawsCardSaid : Prop := Claim7.holds Tryd.pinned (.plain (OpenSpec.ofChange helpersDrawsSpec)) helpersDrawsCard

/-- THE TIED CARD OF 'firewalllaw09.HelpersOwn'. -/
def helpersOwnCard : Claim7 := { stood := { row := helpersOwnRow, standIns := [], harness := (true, "76ad9f8ac79ae5450a6e3f020034634830bf060ef9203526e3d3b0c07cb38711"), looks := true }, kinds := [], alts := [], laidByText := true, laidKinds := [.data], laidTests := true, laidLooks := .later }
def HelpersOwnCardSaid : Prop := Claim7.holds Tryd.pinned (.plain (OpenSpec.ofChange helpersOwnSpec)) helpersOwnCard

/-- THE SECOND FORM's CARD OF 'firewalllaw09.HelpersDraws'. -/
def helpersDrawsUptoCard : Claim7 := { stood := { row := helpersDrawsUptoRow, standIns := [], harness := (true, "76ad9f8ac79ae5450a6e3f020034634830bf060ef9203526e3d3b0c07cb38711"), looks := true }, kinds := [], alts := [], laidByText := true, laidKinds := [.data], laidTests := true, laidLooks := .later }
def HelpersDrawsUptoCardSaid : Prop := Claim7.holds Tryd.pinned (.plain (OpenSpec.upto helpersDrawsSpec)) helpersDrawsUptoCard

/-- THE SECOND FORM's CARD OF 'firewalllaw09.HelpersOwn'. -/
def helpersOwnUptoCard : Claim7 := { stood := { row := helpersOwnUptoRow, standIns := [], harness := (true, "76ad9f8ac79ae5450a6e3f020034634830bf060ef9203526e3d3b0c07cb38711"), looks := true }, kinds := [], alts := [], laidByText := true, laidKinds := [.data], laidTests := true, laidLooks := .later }
def HelpersOwnUptoCardSaid : Prop := Claim7.holds Tryd.pinned (.plain (OpenSpec.upto helpersOwnSpec)) helpersOwnUptoCard
end Rows
end Go.Proofs.YtbjiicjmlbocdaaDoor
