/-
  DERIVED. GIVEN WITH THE SEED: THE CARDS: each row of YthmebodklbhljaaDoorRows.lean that lists a variable, with what it lists TIED to the program's text (the seventh form; the later family's looks); each row that meets fmt, with fmt's text TOLD by the authors' own Lean function (tested against real Go, not proved from fmt's source: count such statements apart). THE CARD IS WHAT COUNTS. Prove the row's statement (the work); the ties are given (YthmebodklbhljaaDoorTie.lean); close each card by the builder's one call (the guide's Derived/Test/ToyasCard.lean, 'card_holds'). Laid BY PROGRAM, IN A SANDBOX (cutbox-door.mjs). By AI agents, Wed Nov 11 2026. No macro, syntax, notation, axiom, sorry.
-/
import Derived.Test.YthmebodklbhljaaDoorRows
import GoSem.ClaimSeven
namespace Go.Proofs.YthmebodklbhljaaDoor
namespace Rows

/-- THE TIED CARD OF 'firewalllaw02.InsnsCheck'. -/
def insnsCheckCard : Claim7 := { stood := { row := insnsCheckRow, standIns := [], harness := (true, "a5ac22ba9097e30f763a9235282a370b256ca0d04383e6c9581e27351246e452"), looks := false }, kinds := [], alts := [], laidByText := true, laidKinds := [.data], laidTests := true, laidLooks := .later }
def InsnsCheckCardSaid : Prop := Claim7.holds Tryd.pinned (.plain (OpenSpec.ofChange insnsCheckSpec)) insnsCheckCard

/-- THE TIED CARD OF 'firewalllaw02.InsnsBytes'. -/
def insnsBytesCard : Claim7 := { stood := { row := insnsBytesRow, standIns := [], harness := (true, "a5ac22ba9097e30f763a9235282a370b256ca0d04383e6c9581e27351246e452"), looks := false }, kinds := [], alts := [], laidByText := true, laidKinds := [.data], laidTests := true, laidLooks := .later }
def InsnsBytesCardSaid : Prop := Claim7.holds Tryd.pinned (.plain (OpenSpec.ofChange insnsBytesSpec)) insnsBytesCard

/-- THE TIED CARD OF 'firewalllaw02.InsnsBack'. -/
def insnsBackCard : Claim7 := { stood := { row := insnsBackRow, standIns := [], harness := (true, "a5ac22ba9097e30f763a9235282a370b256ca0d04383e6c9581e27351246e452"), looks := false }, kinds := [], alts := [], laidByText := true, laidKinds := [.data], laidTests := true, laidLooks := .later }
def InsnsBackCardSaid : Prop := Claim7.holds Tryd.pinned (.plain (OpenSpec.ofChange insnsBackSpec)) insnsBackCard

/-- THE TIED CARD OF 'firewalllaw02.InsnsInside'. -/
def insnsInsideCard : Claim7 := { stood := { row := insnsInsideRow, standIns := [], harness := (true, "a5ac22ba9097e30f763a9235282a370b256ca0d04383e6c9581e27351246e452"), looks := false }, kinds := [], alts := [], laidByText := true, laidKinds := [.data], laidTests := true, laidLooks := .later }
def InsnsInsideCardSaid : Prop := Claim7.holds Tryd.pinned (.plain (OpenSpec.ofChange insnsInsideSpec)) insnsInsideCard

/-- THE TIED CARD OF 'firewalllaw02.InsnsFields'. -/
def insnsFieldsCard : Claim7 := { stood := { row := insnsFieldsRow, standIns := [], harness := (true, "a5ac22ba9097e30f763a9235282a370b256ca0d04383e6c9581e27351246e452"), looks := false }, kinds := [], alts := [], laidByText := true, laidKinds := [.data], laidTests := true, laidLooks := .later }
def InsnsFieldsCardSaid : Prop := Claim7.holds Tryd.pinned (.plain (OpenSpec.ofChange insnsFieldsSpec)) insnsFieldsCard

/-- THE TIED CARD OF 'firewalllaw02.InsnsMany'. -/
def insnsManyCard : Claim7 := { stood := { row := insnsManyRow, standIns := [], harness := (true, "a5ac22ba9097e30f763a9235282a370b256ca0d04383e6c9581e27351246e452"), looks := false }, kinds := [], alts := [], laidByText := true, laidKinds := [.data], laidTests := true, laidLooks := .later }
def InsnsManyCardSaid : Prop := Claim7.holds Tryd.pinned (.plain (OpenSpec.ofChange insnsManySpec)) insnsManyCard

/-- THE TIED CARD OF 'firewalllaw04.ProgsCheck'. -/
def progsCheckCard : Claim7 := { stood := { row := progsCheckRow, standIns := [], harness := (true, "a5ac22ba9097e30f763a9235282a370b256ca0d04383e6c9581e27351246e452"), looks := false }, kinds := [], alts := [], laidByText := true, laidKinds := [.data], laidTests := true, laidLooks := .later }
def ProgsCheckCardSaid : Prop := Claim7.holds Tryd.pinned (.plain (OpenSpec.ofChange progsCheckSpec)) progsCheckCard

/-- THE TIED CARD OF 'firewalllaw04.ProgsText'. -/
def progsTextCard : Claim7 := { stood := { row := progsTextRow, standIns := [], harness := (true, "a5ac22ba9097e30f763a9235282a370b256ca0d04383e6c9581e27351246e452"), looks := false }, kinds := [], alts := [], laidByText := true, laidKinds := [.data], laidTests := true, laidLooks := .later }
def ProgsTextCardSaid : Prop := Claim7.holds Tryd.pinned (.plain (OpenSpec.ofChange progsTextSpec)) progsTextCard

/-- THE TIED CARD OF 'firewalllaw04.ProgsBytes'. -/
def progsBytesCard : Claim7 := { stood := { row := progsBytesRow, standIns := [], harness := (true, "a5ac22ba9097e30f763a9235282a370b256ca0d04383e6c9581e27351246e452"), looks := false }, kinds := [], alts := [], laidByText := true, laidKinds := [.data], laidTests := true, laidLooks := .later }
def ProgsBytesCardSaid : Prop := Claim7.holds Tryd.pinned (.plain (OpenSpec.ofChange progsBytesSpec)) progsBytesCard

/-- THE TIED CARD OF 'firewalllaw04.ProgsWay'. -/
def progsWayCard : Claim7 := { stood := { row := progsWayRow, standIns := [], harness := (true, "a5ac22ba9097e30f763a9235282a370b256ca0d04383e6c9581e27351246e452"), looks := false }, kinds := [], alts := [], laidByText := true, laidKinds := [.data], laidTests := true, laidLooks := .later }
def ProgsWayCardSaid : Prop := Claim7.holds Tryd.pinned (.plain (OpenSpec.ofChange progsWaySpec)) progsWayCard

/-- THE TIED CARD OF 'firewalllaw04.ProgsMore'. -/
def progsMoreCard : Claim7 := { stood := { row := progsMoreRow, standIns := [], harness := (true, "a5ac22ba9097e30f763a9235282a370b256ca0d04383e6c9581e27351246e452"), looks := false }, kinds := [], alts := [], laidByText := true, laidKinds := [.data], laidTests := true, laidLooks := .later }
def ProgsMoreCardSaid : Prop := Claim7.holds Tryd.pinned (.plain (OpenSpec.ofChange progsMoreSpec)) progsMoreCard

/-- THE TIED CARD OF 'firewalllaw04.ProgsBack'. -/
def progsBackCard : Claim7 := { stood := { row := progsBackRow, standIns := [], harness := (true, "a5ac22ba9097e30f763a9235282a370b256ca0d04383e6c9581e27351246e452"), looks := false }, kinds := [], alts := [], laidByText := true, laidKinds := [.data], laidTests := true, laidLooks := .later }
def ProgsBackCardSaid : Prop := Claim7.holds Tryd.pinned (.plain (OpenSpec.ofChange progsBackSpec)) progsBackCard

/-- THE TIED CARD OF 'firewalllaw04.ProgsStraight'. -/
def progsStraightCard : Claim7 := { stood := { row := progsStraightRow, standIns := [], harness := (true, "a5ac22ba9097e30f763a9235282a370b256ca0d04383e6c9581e27351246e452"), looks := false }, kinds := [], alts := [], laidByText := true, laidKinds := [.data], laidTests := true, laidLooks := .later }
def ProgsStraightCardSaid : Prop := Claim7.holds Tryd.pinned (.plain (OpenSpec.ofChange progsStraightSpec)) progsStraightCard

/-- THE SECOND FORM's CARD OF 'firewalllaw02.InsnsCheck'. -/
def insnsCheckUptoCard : Claim7 := { stood := { row := insnsCheckUptoRow, standIns := [], harness := (true, "a5ac22ba9097e30f763a9235282a370b256ca0d04383e6c9581e27351246e452"), looks := false }, kinds := [], alts := [], laidByText := true, laidKinds := [.data], laidTests := true, laidLooks := .later }
def InsnsCheckUptoCardSaid : Prop := Claim7.holds Tryd.pinned (.plain (OpenSpec.upto insnsCheckSpec)) insnsCheckUptoCard

/-- THE SECOND FORM's CARD OF 'firewalllaw02.InsnsBytes'. -/
def insnsBytesUptoCard : Claim7 := { stood := { row := insnsBytesUptoRow, standIns := [], harness := (true, "a5ac22ba9097e30f763a9235282a370b256ca0d04383e6c9581e27351246e452"), looks := false }, kinds := [], alts := [], laidByText := true, laidKinds := [.data], laidTests := true, laidLooks := .later }
def InsnsBytesUptoCardSaid : Prop := Claim7.holds Tryd.pinned (.plain (OpenSpec.upto insnsBytesSpec)) insnsBytesUptoCard

/-- THE SECOND FORM's CARD OF 'firewalllaw02.InsnsBack'. -/
def insnsBackUptoCard : Claim7 := { stood := { row := insnsBackUptoRow, standIns := [], harness := (true, "a5ac22ba9097e30f763a9235282a370b256ca0d04383e6c9581e27351246e452"), looks := false }, kinds := [], alts := [], laidByText := true, laidKinds := [.data], laidTests := true, laidLooks := .later }
def InsnsBackUptoCardSaid : Prop := Claim7.holds Tryd.pinned (.plain (OpenSpec.upto insnsBackSpec)) insnsBackUptoCard

/-- THE SECOND FORM's CARD OF 'firewalllaw02.InsnsInside'. -/
def insnsInsideUptoCard : Claim7 := { stood := { row := insnsInsideUptoRow, standIns := [], harness := (true, "a5ac22ba9097e30f763a9235282a370b256ca0d04383e6c9581e27351246e452"), looks := false }, kinds := [], alts := [], laidByText := true, laidKinds := [.data], laidTests := true, laidLooks := .later }
def InsnsInsideUptoCardSaid : Prop := Claim7.holds Tryd.pinned (.plain (OpenSpec.upto insnsInsideSpec)) insnsInsideUptoCard

/-- THE SECOND FORM's CARD OF 'firewalllaw02.InsnsFields'. -/
def insnsFieldsUptoCard : Claim7 := { stood := { row := insnsFieldsUptoRow, standIns := [], harness := (true, "a5ac22ba9097e30f763a9235282a370b256ca0d04383e6c9581e27351246e452"), looks := false }, kinds := [], alts := [], laidByText := true, laidKinds := [.data], laidTests := true, laidLooks := .later }
def InsnsFieldsUptoCardSaid : Prop := Claim7.holds Tryd.pinned (.plain (OpenSpec.upto insnsFieldsSpec)) insnsFieldsUptoCard

/-- THE SECOND FORM's CARD OF 'firewalllaw02.InsnsMany'. -/
def insnsManyUptoCard : Claim7 := { stood := { row := insnsManyUptoRow, standIns := [], harness := (true, "a5ac22ba9097e30f763a9235282a370b256ca0d04383e6c9581e27351246e452"), looks := false }, kinds := [], alts := [], laidByText := true, laidKinds := [.data], laidTests := true, laidLooks := .later }
def InsnsManyUptoCardSaid : Prop := Claim7.holds Tryd.pinned (.plain (OpenSpec.upto insnsManySpec)) insnsManyUptoCard

/-- THE SECOND FORM's CARD OF 'firewalllaw04.ProgsCheck'. -/
def progsCheckUptoCard : Claim7 := { stood := { row := progsCheckUptoRow, standIns := [], harness := (true, "a5ac22ba9097e30f763a9235282a370b256ca0d04383e6c9581e27351246e452"), looks := false }, kinds := [], alts := [], laidByText := true, laidKinds := [.data], laidTests := true, laidLooks := .later }
def ProgsCheckUptoCardSaid : Prop := Claim7.holds Tryd.pinned (.plain (OpenSpec.upto progsCheckSpec)) progsCheckUptoCard

/-- THE SECOND FORM's CARD OF 'firewalllaw04.ProgsText'. -/
def progsTextUptoCard : Claim7 := { stood := { row := progsTextUptoRow, standIns := [], harness := (true, "a5ac22ba9097e30f763a9235282a370b256ca0d04383e6c9581e27351246e452"), looks := false }, kinds := [], alts := [], laidByText := true, laidKinds := [.data], laidTests := true, laidLooks := .later }
def ProgsTextUptoCardSaid : Prop := Claim7.holds Tryd.pinned (.plain (OpenSpec.upto progsTextSpec)) progsTextUptoCard

/-- THE SECOND FORM's CARD OF 'firewalllaw04.ProgsBytes'. -/
def progsBytesUptoCard : Claim7 := { stood := { row := progsBytesUptoRow, standIns := [], harness := (true, "a5ac22ba9097e30f763a9235282a370b256ca0d04383e6c9581e27351246e452"), looks := false }, kinds := [], alts := [], laidByText := true, laidKinds := [.data], laidTests := true, laidLooks := .later }
def ProgsBytesUptoCardSaid : Prop := Claim7.holds Tryd.pinned (.plain (OpenSpec.upto progsBytesSpec)) progsBytesUptoCard

/-- THE SECOND FORM's CARD OF 'firewalllaw04.ProgsWay'. -/
def progsWayUptoCard : Claim7 := { stood := { row := progsWayUptoRow, standIns := [], harness := (true, "a5ac22ba9097e30f763a9235282a370b256ca0d04383e6c9581e27351246e452"), looks := false }, kinds := [], alts := [], laidByText := true, laidKinds := [.data], laidTests := true, laidLooks := .later }
def ProgsWayUptoCardSaid : Prop := Claim7.holds Tryd.pinned (.plain (OpenSpec.upto progsWaySpec)) progsWayUptoCard

/-- THE SECOND FORM's CARD OF 'firewalllaw04.ProgsMore'. -/
def progsMoreUptoCard : Claim7 := { stood := { row := progsMoreUptoRow, standIns := [], harness := (true, "a5ac22ba9097e30f763a9235282a370b256ca0d04383e6c9581e27351246e452"), looks := false }, kinds := [], alts := [], laidByText := true, laidKinds := [.data], laidTests := true, laidLooks := .later }
def ProgsMoreUptoCardSaid : Prop := Claim7.holds Tryd.pinned (.plain (OpenSpec.upto progsMoreSpec)) progsMoreUptoCard

/-- THE SECOND FORM's CARD OF 'firewalllaw04.ProgsBack'. -/
def progsBackUptoCard : Claim7 := { stood := { row := progsBackUptoRow, standIns := [], harness := (true, "a5ac22ba9097e30f763a9235282a370b256ca0d04383e6c9581e27351246e452"), looks := false }, kinds := [], alts := [], laidByText := true, laidKinds := [.data], laidTests := true, laidLooks := .later }
def ProgsBackUptoCardSaid : Prop := Claim7.holds Tryd.pinned (.plain (OpenSpec.upto progsBackSpec)) progsBackUptoCard

/-- THE SECOND FORM's CARD OF 'firewalllaw04.ProgsStraight'. -/
def progsStraightUptoCard : Claim7 := { stood := { row := progsStraightUptoRow, standIns := [], harness := (true, "a5ac22ba9097e30f763a9235282a370b256ca0d04383e6c9581e27351246e452"), looks := false }, kinds := [], alts := [], laidByText := true, laidKinds := [.data], laidTests := true, laidLooks := .later }
def ProgsStraightUptoCardSaid : Prop := Claim7.holds Tryd.pinned (.plain (OpenSpec.upto progsStraightSpec)) progsStraightUptoCard
end Rows
end Go.Proofs.YthmebodklbhljaaDoor
