/-
  DERIVED. GIVEN WITH THE SEED: THE CARDS: each row of YtahbfiefmflmfaaDoorRows.lean that lists a variable, with what it lists TIED to the program's text (the seventh form; the later family's looks); each row that meets fmt, with fmt's text TOLD by the authors' own Lean function (tested against real Go, not proved from fmt's source: count such statements apart). THE CARD IS WHAT COUNTS. Prove the row's statement (the work); the ties are given (YtahbfiefmflmfaaDoorTie.lean); close each card by the builder's one call (the guide's Derived/Test/ToyasCard.lean, 'card_holds'). Laid BY PROGRAM, IN A SANDBOX (cutbox-door.mjs). By AI agents, Wed Nov 11 2026. No macro, syntax, notation, axiom, sorry.
-/
import Derived.Test.YtahbfiefmflmfaaDoorRows
import GoSem.ClaimSeven
namespace Go.Proofs.YtahbfiefmflmfaaDoor
namespace Rows

/-- THE TIED CARD OF 'firewalllaw24.EmitReg'. -/
def emitRegCard : Claim7 := { stood := { row := emitRegRow, standIns := [], harness := (true, "de13a9d4ce5c9e11d6443b9c26c90cfe22acb2fb28a367597d7bdd741644dcbf"), looks := false }, kinds := [], alts := [], laidByText := true, laidKinds := [.data, .data, .data], laidTests := true, laidLooks := .later }
def EmitRegCardSaid : Prop := Claim7.holds Tryd.pinned (.plain (OpenSpec.ofChange emitRegSpec)) emitRegCard

/-- THE SECOND FORM's CARD OF 'firewalllaw24.EmitReg'. -/
def emitRegUptoCard : Claim7 := { stood := { row := emitRegUptoRow, standIns := [], harness := (true, "de13a9d4ce5c9e11d6443b9c26c90cfe22acb2fb28a367597d7bdd741644dcbf"), looks := false }, kinds := [], alts := [], laidByText := true, laidKinds := [.data, .data, .data], laidTests := true, laidLooks := .later }
def EmitRegUptoCardSaid : Prop := Claim7.holds Tryd.pinned (.plain (OpenSpec.upto emitRegSpec)) emitRegUptoCard
end Rows
end Go.Proofs.YtahbfiefmflmfaaDoor
