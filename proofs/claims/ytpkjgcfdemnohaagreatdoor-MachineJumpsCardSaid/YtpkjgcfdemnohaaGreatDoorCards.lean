/-
  DERIVED. GIVEN WITH THE SEED: THE CARDS: each row of YtpkjgcfdemnohaaGreatDoorRows.lean that lists a variable, with what it lists TIED to the program's text (the seventh form; the later family's looks); each row that meets fmt, with fmt's text TOLD by the authors' own Lean function (tested against real Go, not proved from fmt's source: count such statements apart). THE CARD IS WHAT COUNTS. Prove the row's statement (the work); the ties are given (YtpkjgcfdemnohaaGreatDoorTie.lean); close each card by the builder's one call (the guide's Derived/Test/ToyasCard.lean, 'card_holds'). Laid BY PROGRAM, IN A SANDBOX (cutbox-door.mjs). By AI agents, Wed Nov 11 2026. No macro, syntax, notation, axiom, sorry.
-/
import Derived.Test.YtpkjgcfdemnohaaGreatDoorRows
import GoSem.ClaimSeven
namespace Go.Proofs.YtpkjgcfdemnohaaGreatDoor
namespace Rows

/-- THE TIED CARD OF 'firewalllaw14.SpecNone'. -/
def specNoneCard : Claim7 := { stood := { row := specNoneRow, standIns := [], harness := (true, "1205545b5aa6064ea420e4c5950c80f1c58cdc930257abf662b1fb8a94a4df52"), looks := true }, kinds := [], alts := [], laidByText := true, laidKinds := [.data, .data], laidTests := true, laidLooks := .later }
def SpecNoneCardSaid : Prop := Claim7.holds Tryz.pinned (.plain (OpenSpec.ofChange specNoneSpec)) specNoneCard

/-- THE TIED CARD OF 'firewalllaw21.StepsNone'. -/
def stepsNoneCard : Claim7 := { stood := { row := stepsNoneRow, standIns := [], harness := (true, "1205545b5aa6064ea420e4c5950c80f1c58cdc930257abf662b1fb8a94a4df52"), looks := true }, kinds := [], alts := [], laidByText := true, laidKinds := [.data], laidTests := true, laidLooks := .later }
def StepsNoneCardSaid : Prop := Claim7.holds Tryz.pinned (.plain (OpenSpec.ofChange stepsNoneSpec)) stepsNoneCard

/-- THE TIED CARD OF 'firewalllaw13.MachineStack'. -/
def machineStackCard : Claim7 := { stood := { row := machineStackRow, standIns := [], harness := (true, "1205545b5aa6064ea420e4c5950c80f1c58cdc930257abf662b1fb8a94a4df52"), looks := true }, kinds := [], alts := [], laidByText := true, laidKinds := [.data, .data], laidTests := true, laidLooks := .later }
def MachineStackCardSaid : Prop := Claim7.holds Tryz.pinned (.plain (OpenSpec.ofChange machineStackSpec)) machineStackCard

/-- THE TIED CARD OF 'firewalllaw13.MachineJumps'. -/
def machineJumpsCard : Claim7 := { stood := { row := machineJumpsRow, standIns := [], harness := (true, "1205545b5aa6064ea420e4c5950c80f1c58cdc930257abf662b1fb8a94a4df52"), looks := true }, kinds := [], alts := [], laidByText := true, laidKinds := [.data, .data], laidTests := true, laidLooks := .later }
def MachineJumpsCardSaid : Prop := Claim7.holds Tryz.pinned (.plain (OpenSpec.ofChange machineJumpsSpec)) machineJumpsCard

/-- THE SECOND FORM's CARD OF 'firewalllaw14.SpecNone'. -/
def specNoneUptoCard : Claim7 := { stood := { row := specNoneUptoRow, standIns := [], harness := (true, "1205545b5aa6064ea420e4c5950c80f1c58cdc930257abf662b1fb8a94a4df52"), looks := true }, kinds := [], alts := [], laidByText := true, laidKinds := [.data, .data], laidTests := true, laidLooks := .later }
def SpecNoneUptoCardSaid : Prop := Claim7.holds Tryz.pinned (.plain (OpenSpec.upto specNoneSpec)) specNoneUptoCard

/-- THE SECOND FORM's CARD OF 'firewalllaw21.StepsNone'. -/
def stepsNoneUptoCard : Claim7 := { stood := { row := stepsNoneUptoRow, standIns := [], harness := (true, "1205545b5aa6064ea420e4c5950c80f1c58cdc930257abf662b1fb8a94a4df52"), looks := true }, kinds := [], alts := [], laidByText := true, laidKinds := [.data], laidTests := true, laidLooks := .later }
def StepsNoneUptoCardSaid : Prop := Claim7.holds Tryz.pinned (.plain (OpenSpec.upto stepsNoneSpec)) stepsNoneUptoCard

/-- THE SECOND FORM's CARD OF 'firewalllaw13.MachineStack'. -/
def machineStackUptoCard : Claim7 := { stood := { row := machineStackUptoRow, standIns := [], harness := (true, "1205545b5aa6064ea420e4c5950c80f1c58cdc930257abf662b1fb8a94a4df52"), looks := true }, kinds := [], alts := [], laidByText := true, laidKinds := [.data, .data], laidTests := true, laidLooks := .later }
def MachineStackUptoCardSaid : Prop := Claim7.holds Tryz.pinned (.plain (OpenSpec.upto machineStackSpec)) machineStackUptoCard

/-- THE SECOND FORM's CARD OF 'firewalllaw13.MachineJumps'. -/
def machineJumpsUptoCard : Claim7 := { stood := { row := machineJumpsUptoRow, standIns := [], harness := (true, "1205545b5aa6064ea420e4c5950c80f1c58cdc930257abf662b1fb8a94a4df52"), looks := true }, kinds := [], alts := [], laidByText := true, laidKinds := [.data, .data], laidTests := true, laidLooks := .later }
def MachineJumpsUptoCardSaid : Prop := Claim7.holds Tryz.pinned (.plain (OpenSpec.upto machineJumpsSpec)) machineJumpsUptoCard
end Rows
end Go.Proofs.YtpkjgcfdemnohaaGreatDoor
