/-
  DERIVED. GIVEN WITH THE SEED: THE CARDS: each row of YthhgfjnnconocaaGreatDoorRows.lean that lists a variable, with what it lists TIED to the program's text (the seventh form; the later family's looks); each row that meets fmt, with fmt's text TOLD by the authors' own Lean function (tested against real Go, not proved from fmt's source: count such statements apart). THE CARD IS WHAT COUNTS. Prove the row's statement (the work); the ties are given (YthhgfjnnconocaaGreatDoorTie.lean); close each card by the builder's one call (the guide's Derived/Test/ToyasCard.lean, 'card_holds'). Laid BY PROGRAM, IN A SANDBOX (cutbox-door.mjs). By AI agents, Wed Nov 11 2026. No macro, syntax, notation, axiom, sorry.
-/
import Derived.Test.YthhgfjnnconocaaGreatDoorRows
import GoSem.ClaimSeven
namespace Go.Proofs.YthhgfjnnconocaaGreatDoor
namespace Rows

/-- THE TIED CARD OF 'firewalllaw10.InterpNone'. -/
def interpNoneCard : Claim7 := { stood := { row := interpNoneRow, standIns := [], harness := (true, "cddebb9db1a4d527a43973fa2dc00d8ce5cc78a4fb21a7c366b34ae2e9043a11"), looks := true }, kinds := [], alts := [], laidByText := true, laidKinds := [.data, .data], laidTests := true, laidLooks := .later }
def InterpNoneCardSaid : Prop := Claim7.holds Tryz.pinned (.plain (OpenSpec.ofChange interpNoneSpec)) interpNoneCard

/-- THE TIED CARD OF 'firewalllaw10.InterpArith'. -/
def interpArithCard : Claim7 := { stood := { row := interpArithRow, standIns := [], harness := (true, "cddebb9db1a4d527a43973fa2dc00d8ce5cc78a4fb21a7c366b34ae2e9043a11"), looks := true }, kinds := [], alts := [], laidByText := true, laidKinds := [.data, .data], laidTests := true, laidLooks := .later }
def InterpArithCardSaid : Prop := Claim7.holds Tryz.pinned (.plain (OpenSpec.ofChange interpArithSpec)) interpArithCard

/-- THE TIED CARD OF 'firewalllaw10.InterpStack'. -/
def interpStackCard : Claim7 := { stood := { row := interpStackRow, standIns := [], harness := (true, "cddebb9db1a4d527a43973fa2dc00d8ce5cc78a4fb21a7c366b34ae2e9043a11"), looks := true }, kinds := [], alts := [], laidByText := true, laidKinds := [.data, .data], laidTests := true, laidLooks := .later }
def InterpStackCardSaid : Prop := Claim7.holds Tryz.pinned (.plain (OpenSpec.ofChange interpStackSpec)) interpStackCard

/-- THE TIED CARD OF 'firewalllaw10.InterpLoop'. -/
def interpLoopCard : Claim7 := { stood := { row := interpLoopRow, standIns := [], harness := (true, "cddebb9db1a4d527a43973fa2dc00d8ce5cc78a4fb21a7c366b34ae2e9043a11"), looks := true }, kinds := [], alts := [], laidByText := true, laidKinds := [.data, .data], laidTests := true, laidLooks := .later }
def InterpLoopCardSaid : Prop := Claim7.holds Tryz.pinned (.plain (OpenSpec.ofChange interpLoopSpec)) interpLoopCard

/-- THE SECOND FORM's CARD OF 'firewalllaw10.InterpNone'. -/
def interpNoneUptoCard : Claim7 := { stood := { row := interpNoneUptoRow, standIns := [], harness := (true, "cddebb9db1a4d527a43973fa2dc00d8ce5cc78a4fb21a7c366b34ae2e9043a11"), looks := true }, kinds := [], alts := [], laidByText := true, laidKinds := [.data, .data], laidTests := true, laidLooks := .later }
def InterpNoneUptoCardSaid : Prop := Claim7.holds Tryz.pinned (.plain (OpenSpec.upto interpNoneSpec)) interpNoneUptoCard

/-- THE SECOND FORM's CARD OF 'firewalllaw10.InterpArith'. -/
def interpArithUptoCard : Claim7 := { stood := { row := interpArithUptoRow, standIns := [], harness := (true, "cddebb9db1a4d527a43973fa2dc00d8ce5cc78a4fb21a7c366b34ae2e9043a11"), looks := true }, kinds := [], alts := [], laidByText := true, laidKinds := [.data, .data], laidTests := true, laidLooks := .later }
def InterpArithUptoCardSaid : Prop := Claim7.holds Tryz.pinned (.plain (OpenSpec.upto interpArithSpec)) interpArithUptoCard

/-- THE SECOND FORM's CARD OF 'firewalllaw10.InterpStack'. -/
def interpStackUptoCard : Claim7 := { stood := { row := interpStackUptoRow, standIns := [], harness := (true, "cddebb9db1a4d527a43973fa2dc00d8ce5cc78a4fb21a7c366b34ae2e9043a11"), looks := true }, kinds := [], alts := [], laidByText := true, laidKinds := [.data, .data], laidTests := true, laidLooks := .later }
def InterpStackUptoCardSaid : Prop := Claim7.holds Tryz.pinned (.plain (OpenSpec.upto interpStackSpec)) interpStackUptoCard

/-- THE SECOND FORM's CARD OF 'firewalllaw10.InterpLoop'. -/
def interpLoopUptoCard : Claim7 := { stood := { row := interpLoopUptoRow, standIns := [], harness := (true, "cddebb9db1a4d527a43973fa2dc00d8ce5cc78a4fb21a7c366b34ae2e9043a11"), looks := true }, kinds := [], alts := [], laidByText := true, laidKinds := [.data, .data], laidTests := true, laidLooks := .later }
def InterpLoopUptoCardSaid : Prop := Claim7.holds Tryz.pinned (.plain (OpenSpec.upto interpLoopSpec)) interpLoopUptoCard
end Rows
end Go.Proofs.YthhgfjnnconocaaGreatDoor
