/-
  NARROWER THAN 'FOR EVERY INPUT', by the rows' own cells (each row's printed sentence says how): InsnsCheck: laid · InsnsBytes: laid · InsnsBack: laid · InsnsInside: laid · InsnsFields: laid · InsnsMany: laid · ProgsCheck: laid · ProgsText: laid · ProgsBytes: laid · ProgsWay: laid · ProgsMore: laid · ProgsBack: laid · ProgsStraight: laid.
  DERIVED. THE GIVEN ROWS OF THIS SEAT. 13 by the template 'for every input the law returns true; each argument reads behind the call as it read before'; 0 by the template 'total and deterministic' (their statements: YthmebodklbhljaaDoorTotals.lean).
  GIVEN WITH THE SEED: the statements are not yours to turn. If you find one false, say at which input.
  Laid BY PROGRAM, IN A SANDBOX (cutbox-rows.mjs): the forced cells as the released guide's own fill.sh prints them over the translation c3fa1b39aa0ec5de… (all of the seat's roots in one cut). By AI agents, Wed Nov 11 2026. No macro, syntax, notation, axiom, sorry.
-/
import Derived.Test.YthmebodklbhljaaDoorChecked
import GoSem.Claim
import GoSem.ClaimJoined
import GoSem.ClaimMapViews
import Derived.JoinedTies
import Derived.KernelRfl
namespace Go.Proofs.YthmebodklbhljaaDoor
/- THE CELL 'sum', in the pinned program and in every row, IS THE sha256 OF THE DUMP (.gsa) THAT YthmebodklbhljaaDoorProg.lean LOADS. Nothing in Lean hashes anything: it is a label: what it is worth is what the hold of that sum in a sandbox is worth. -/
noncomputable def Tryd.pinned : Pinned := { name := "ythmebodklbhljaadoor", sum := "c3fa1b39aa0ec5de2c81ae7f38de7d7c9bc9eb7e206a141a88b2323204b051a1", checked := Tryd.checked }
namespace Rows
def none {H : Type} : Left H := { results := [], args := [] }

/- WHAT THE LISTED PACKAGE-LEVEL VARIABLES READ AS WHEN THE CALL BEGINS. Each datum BY PROGRAM (the guide's laid-datum.mjs) off the statement by which the dump's own 'gosem.cut.vars' lays the variable. In a bare row this is a premise. The card (YthmebodklbhljaaDoorCards.lean) ties it to the program's text. -/
def laid_firewall_insns_sizes {H : Type} : DataW H := .agg [.agg [.lit (.int .u8 113), .lit (.int .u8 1)], .agg [.lit (.int .u8 105), .lit (.int .u8 2)], .agg [.lit (.int .u8 97), .lit (.int .u8 4)], .agg [.lit (.int .u8 121), .lit (.int .u8 8)], .agg [.lit (.int .u8 114), .lit (.int .u8 1)], .agg [.lit (.int .u8 106), .lit (.int .u8 2)], .agg [.lit (.int .u8 98), .lit (.int .u8 4)], .agg [.lit (.int .u8 122), .lit (.int .u8 8)], .agg [.lit (.int .u8 115), .lit (.int .u8 1)], .agg [.lit (.int .u8 107), .lit (.int .u8 2)], .agg [.lit (.int .u8 99), .lit (.int .u8 4)], .agg [.lit (.int .u8 123), .lit (.int .u8 8)]]

/-- 'firewalllaw02.InsnsCheck': WHATEVER THE INPUT: true; the input reads as it did. -/
def insnsCheckSpec : ChangeSpec := { name := "insnsCheck", fn := fun _ => fun
  | [d] => { results := [.lit (.bool true)], args := [d] }
  | _ => none }
def insnsCheckRow : OpenClaim := { program := "ythmebodklbhljaadoor", sum := "c3fa1b39aa0ec5de2c81ae7f38de7d7c9bc9eb7e206a141a88b2323204b051a1", func := "firewall/firewalllaw02.InsnsCheck", spec := "insnsCheck", named := ["firewall/insns.sizes"], apart := false, laid := [("firewall/insns.sizes", laid_firewall_insns_sizes)] }
def InsnsCheckSaid : Prop := insnsCheckRow.holds Tryd.pinned (OpenSpec.ofChange insnsCheckSpec)

/-- ITS FALSE NEIGHBOUR: 'it returns false'. Refute it at one input. -/
def insnsCheckWrong : ChangeSpec := { name := "insnsCheck", fn := fun _ => fun
  | [d] => { results := [.lit (.bool false)], args := [d] }
  | _ => none }
def InsnsCheckWrongFalsely : Prop := insnsCheckRow.holds Tryd.pinned (OpenSpec.ofChange insnsCheckWrong)

/-- 'firewalllaw02.InsnsBytes': WHATEVER THE INPUT: true; the input reads as it did. -/
def insnsBytesSpec : ChangeSpec := { name := "insnsBytes", fn := fun _ => fun
  | [d1, d2] => { results := [.lit (.bool true)], args := [d1, d2] }
  | _ => none }
def insnsBytesRow : OpenClaim := { program := "ythmebodklbhljaadoor", sum := "c3fa1b39aa0ec5de2c81ae7f38de7d7c9bc9eb7e206a141a88b2323204b051a1", func := "firewall/firewalllaw02.InsnsBytes", spec := "insnsBytes", named := ["firewall/insns.sizes"], apart := false, laid := [("firewall/insns.sizes", laid_firewall_insns_sizes)] }
def InsnsBytesSaid : Prop := insnsBytesRow.holds Tryd.pinned (OpenSpec.ofChange insnsBytesSpec)

/-- ITS FALSE NEIGHBOUR: 'it returns false'. Refute it at one input. -/
def insnsBytesWrong : ChangeSpec := { name := "insnsBytes", fn := fun _ => fun
  | [d1, d2] => { results := [.lit (.bool false)], args := [d1, d2] }
  | _ => none }
def InsnsBytesWrongFalsely : Prop := insnsBytesRow.holds Tryd.pinned (OpenSpec.ofChange insnsBytesWrong)

/-- 'firewalllaw02.InsnsBack': WHATEVER THE INPUT: true; the input reads as it did. -/
def insnsBackSpec : ChangeSpec := { name := "insnsBack", fn := fun _ => fun
  | [d1, d2] => { results := [.lit (.bool true)], args := [d1, d2] }
  | _ => none }
def insnsBackRow : OpenClaim := { program := "ythmebodklbhljaadoor", sum := "c3fa1b39aa0ec5de2c81ae7f38de7d7c9bc9eb7e206a141a88b2323204b051a1", func := "firewall/firewalllaw02.InsnsBack", spec := "insnsBack", named := ["firewall/insns.sizes"], apart := false, laid := [("firewall/insns.sizes", laid_firewall_insns_sizes)] }
def InsnsBackSaid : Prop := insnsBackRow.holds Tryd.pinned (OpenSpec.ofChange insnsBackSpec)

/-- ITS FALSE NEIGHBOUR: 'it returns false'. Refute it at one input. -/
def insnsBackWrong : ChangeSpec := { name := "insnsBack", fn := fun _ => fun
  | [d1, d2] => { results := [.lit (.bool false)], args := [d1, d2] }
  | _ => none }
def InsnsBackWrongFalsely : Prop := insnsBackRow.holds Tryd.pinned (OpenSpec.ofChange insnsBackWrong)

/-- 'firewalllaw02.InsnsInside': WHATEVER THE INPUT: true; the input reads as it did. -/
def insnsInsideSpec : ChangeSpec := { name := "insnsInside", fn := fun _ => fun
  | [d] => { results := [.lit (.bool true)], args := [d] }
  | _ => none }
def insnsInsideRow : OpenClaim := { program := "ythmebodklbhljaadoor", sum := "c3fa1b39aa0ec5de2c81ae7f38de7d7c9bc9eb7e206a141a88b2323204b051a1", func := "firewall/firewalllaw02.InsnsInside", spec := "insnsInside", named := ["firewall/insns.sizes"], apart := false, laid := [("firewall/insns.sizes", laid_firewall_insns_sizes)] }
def InsnsInsideSaid : Prop := insnsInsideRow.holds Tryd.pinned (OpenSpec.ofChange insnsInsideSpec)

/-- ITS FALSE NEIGHBOUR: 'it returns false'. Refute it at one input. -/
def insnsInsideWrong : ChangeSpec := { name := "insnsInside", fn := fun _ => fun
  | [d] => { results := [.lit (.bool false)], args := [d] }
  | _ => none }
def InsnsInsideWrongFalsely : Prop := insnsInsideRow.holds Tryd.pinned (OpenSpec.ofChange insnsInsideWrong)

/-- 'firewalllaw02.InsnsFields': WHATEVER THE INPUT: true; the input reads as it did. -/
def insnsFieldsSpec : ChangeSpec := { name := "insnsFields", fn := fun _ => fun
  | [d1, d2, d3] => { results := [.lit (.bool true)], args := [d1, d2, d3] }
  | _ => none }
def insnsFieldsRow : OpenClaim := { program := "ythmebodklbhljaadoor", sum := "c3fa1b39aa0ec5de2c81ae7f38de7d7c9bc9eb7e206a141a88b2323204b051a1", func := "firewall/firewalllaw02.InsnsFields", spec := "insnsFields", named := ["firewall/insns.sizes"], apart := false, laid := [("firewall/insns.sizes", laid_firewall_insns_sizes)] }
def InsnsFieldsSaid : Prop := insnsFieldsRow.holds Tryd.pinned (OpenSpec.ofChange insnsFieldsSpec)

/-- ITS FALSE NEIGHBOUR: 'it returns false'. Refute it at one input. -/
def insnsFieldsWrong : ChangeSpec := { name := "insnsFields", fn := fun _ => fun
  | [d1, d2, d3] => { results := [.lit (.bool false)], args := [d1, d2, d3] }
  | _ => none }
def InsnsFieldsWrongFalsely : Prop := insnsFieldsRow.holds Tryd.pinned (OpenSpec.ofChange insnsFieldsWrong)

/-- 'firewalllaw02.InsnsMany': WHATEVER THE INPUT: true; the input reads as it did. -/
def insnsManySpec : ChangeSpec := { name := "insnsMany", fn := fun _ => fun
  | [d] => { results := [.lit (.bool true)], args := [d] }
  | _ => none }
def insnsManyRow : OpenClaim := { program := "ythmebodklbhljaadoor", sum := "c3fa1b39aa0ec5de2c81ae7f38de7d7c9bc9eb7e206a141a88b2323204b051a1", func := "firewall/firewalllaw02.InsnsMany", spec := "insnsMany", named := ["firewall/insns.sizes"], apart := false, laid := [("firewall/insns.sizes", laid_firewall_insns_sizes)] }
def InsnsManySaid : Prop := insnsManyRow.holds Tryd.pinned (OpenSpec.ofChange insnsManySpec)

/-- ITS FALSE NEIGHBOUR: 'it returns false'. Refute it at one input. -/
def insnsManyWrong : ChangeSpec := { name := "insnsMany", fn := fun _ => fun
  | [d] => { results := [.lit (.bool false)], args := [d] }
  | _ => none }
def InsnsManyWrongFalsely : Prop := insnsManyRow.holds Tryd.pinned (OpenSpec.ofChange insnsManyWrong)

/-- 'firewalllaw04.ProgsCheck': WHATEVER THE INPUT: true; the input reads as it did. -/
def progsCheckSpec : ChangeSpec := { name := "progsCheck", fn := fun _ => fun
  | [d1, d2] => { results := [.lit (.bool true)], args := [d1, d2] }
  | _ => none }
def progsCheckRow : OpenClaim := { program := "ythmebodklbhljaadoor", sum := "c3fa1b39aa0ec5de2c81ae7f38de7d7c9bc9eb7e206a141a88b2323204b051a1", func := "firewall/firewalllaw04.ProgsCheck", spec := "progsCheck", unfollowed := true, recurses := true, named := ["firewall/insns.sizes"], apart := false, laid := [("firewall/insns.sizes", laid_firewall_insns_sizes)] }
def ProgsCheckSaid : Prop := progsCheckRow.holds Tryd.pinned (OpenSpec.ofChange progsCheckSpec)

/-- ITS FALSE NEIGHBOUR: 'it returns false'. Refute it at one input. -/
def progsCheckWrong : ChangeSpec := { name := "progsCheck", fn := fun _ => fun
  | [d1, d2] => { results := [.lit (.bool false)], args := [d1, d2] }
  | _ => none }
def ProgsCheckWrongFalsely : Prop := progsCheckRow.holds Tryd.pinned (OpenSpec.ofChange progsCheckWrong)

/-- 'firewalllaw04.ProgsText': WHATEVER THE INPUT: true; the input reads as it did. -/
def progsTextSpec : ChangeSpec := { name := "progsText", fn := fun _ => fun
  | [d1, d2] => { results := [.lit (.bool true)], args := [d1, d2] }
  | _ => none }
def progsTextRow : OpenClaim := { program := "ythmebodklbhljaadoor", sum := "c3fa1b39aa0ec5de2c81ae7f38de7d7c9bc9eb7e206a141a88b2323204b051a1", func := "firewall/firewalllaw04.ProgsText", spec := "progsText", unfollowed := true, recurses := true, named := ["firewall/insns.sizes"], apart := false, laid := [("firewall/insns.sizes", laid_firewall_insns_sizes)] }
def ProgsTextSaid : Prop := progsTextRow.holds Tryd.pinned (OpenSpec.ofChange progsTextSpec)

/-- ITS FALSE NEIGHBOUR: 'it returns false'. Refute it at one input. -/
def progsTextWrong : ChangeSpec := { name := "progsText", fn := fun _ => fun
  | [d1, d2] => { results := [.lit (.bool false)], args := [d1, d2] }
  | _ => none }
def ProgsTextWrongFalsely : Prop := progsTextRow.holds Tryd.pinned (OpenSpec.ofChange progsTextWrong)

/-- 'firewalllaw04.ProgsBytes': WHATEVER THE INPUT: true; the input reads as it did. -/
def progsBytesSpec : ChangeSpec := { name := "progsBytes", fn := fun _ => fun
  | [d1, d2] => { results := [.lit (.bool true)], args := [d1, d2] }
  | _ => none }
def progsBytesRow : OpenClaim := { program := "ythmebodklbhljaadoor", sum := "c3fa1b39aa0ec5de2c81ae7f38de7d7c9bc9eb7e206a141a88b2323204b051a1", func := "firewall/firewalllaw04.ProgsBytes", spec := "progsBytes", unfollowed := true, recurses := true, named := ["firewall/insns.sizes"], apart := false, laid := [("firewall/insns.sizes", laid_firewall_insns_sizes)] }
def ProgsBytesSaid : Prop := progsBytesRow.holds Tryd.pinned (OpenSpec.ofChange progsBytesSpec)

/-- ITS FALSE NEIGHBOUR: 'it returns false'. Refute it at one input. -/
def progsBytesWrong : ChangeSpec := { name := "progsBytes", fn := fun _ => fun
  | [d1, d2] => { results := [.lit (.bool false)], args := [d1, d2] }
  | _ => none }
def ProgsBytesWrongFalsely : Prop := progsBytesRow.holds Tryd.pinned (OpenSpec.ofChange progsBytesWrong)

/-- 'firewalllaw04.ProgsWay': WHATEVER THE INPUT: true; the input reads as it did. -/
def progsWaySpec : ChangeSpec := { name := "progsWay", fn := fun _ => fun
  | [d1, d2] => { results := [.lit (.bool true)], args := [d1, d2] }
  | _ => none }
def progsWayRow : OpenClaim := { program := "ythmebodklbhljaadoor", sum := "c3fa1b39aa0ec5de2c81ae7f38de7d7c9bc9eb7e206a141a88b2323204b051a1", func := "firewall/firewalllaw04.ProgsWay", spec := "progsWay", unfollowed := true, recurses := true, named := ["firewall/insns.sizes"], apart := false, laid := [("firewall/insns.sizes", laid_firewall_insns_sizes)] }
def ProgsWaySaid : Prop := progsWayRow.holds Tryd.pinned (OpenSpec.ofChange progsWaySpec)

/-- ITS FALSE NEIGHBOUR: 'it returns false'. Refute it at one input. -/
def progsWayWrong : ChangeSpec := { name := "progsWay", fn := fun _ => fun
  | [d1, d2] => { results := [.lit (.bool false)], args := [d1, d2] }
  | _ => none }
def ProgsWayWrongFalsely : Prop := progsWayRow.holds Tryd.pinned (OpenSpec.ofChange progsWayWrong)

/-- 'firewalllaw04.ProgsMore': WHATEVER THE INPUT: true; the input reads as it did. -/
def progsMoreSpec : ChangeSpec := { name := "progsMore", fn := fun _ => fun
  | [d1, d2, d3] => { results := [.lit (.bool true)], args := [d1, d2, d3] }
  | _ => none }
def progsMoreRow : OpenClaim := { program := "ythmebodklbhljaadoor", sum := "c3fa1b39aa0ec5de2c81ae7f38de7d7c9bc9eb7e206a141a88b2323204b051a1", func := "firewall/firewalllaw04.ProgsMore", spec := "progsMore", unfollowed := true, recurses := true, named := ["firewall/insns.sizes"], apart := false, laid := [("firewall/insns.sizes", laid_firewall_insns_sizes)] }
def ProgsMoreSaid : Prop := progsMoreRow.holds Tryd.pinned (OpenSpec.ofChange progsMoreSpec)

/-- ITS FALSE NEIGHBOUR: 'it returns false'. Refute it at one input. -/
def progsMoreWrong : ChangeSpec := { name := "progsMore", fn := fun _ => fun
  | [d1, d2, d3] => { results := [.lit (.bool false)], args := [d1, d2, d3] }
  | _ => none }
def ProgsMoreWrongFalsely : Prop := progsMoreRow.holds Tryd.pinned (OpenSpec.ofChange progsMoreWrong)

/-- 'firewalllaw04.ProgsBack': WHATEVER THE INPUT: true; the input reads as it did. -/
def progsBackSpec : ChangeSpec := { name := "progsBack", fn := fun _ => fun
  | [d1, d2] => { results := [.lit (.bool true)], args := [d1, d2] }
  | _ => none }
def progsBackRow : OpenClaim := { program := "ythmebodklbhljaadoor", sum := "c3fa1b39aa0ec5de2c81ae7f38de7d7c9bc9eb7e206a141a88b2323204b051a1", func := "firewall/firewalllaw04.ProgsBack", spec := "progsBack", unfollowed := true, recurses := true, named := ["firewall/insns.sizes"], apart := false, laid := [("firewall/insns.sizes", laid_firewall_insns_sizes)] }
def ProgsBackSaid : Prop := progsBackRow.holds Tryd.pinned (OpenSpec.ofChange progsBackSpec)

/-- ITS FALSE NEIGHBOUR: 'it returns false'. Refute it at one input. -/
def progsBackWrong : ChangeSpec := { name := "progsBack", fn := fun _ => fun
  | [d1, d2] => { results := [.lit (.bool false)], args := [d1, d2] }
  | _ => none }
def ProgsBackWrongFalsely : Prop := progsBackRow.holds Tryd.pinned (OpenSpec.ofChange progsBackWrong)

/-- 'firewalllaw04.ProgsStraight': WHATEVER THE INPUT: true; the input reads as it did. -/
def progsStraightSpec : ChangeSpec := { name := "progsStraight", fn := fun _ => fun
  | [d] => { results := [.lit (.bool true)], args := [d] }
  | _ => none }
def progsStraightRow : OpenClaim := { program := "ythmebodklbhljaadoor", sum := "c3fa1b39aa0ec5de2c81ae7f38de7d7c9bc9eb7e206a141a88b2323204b051a1", func := "firewall/firewalllaw04.ProgsStraight", spec := "progsStraight", unfollowed := true, recurses := true, named := ["firewall/insns.sizes"], apart := false, laid := [("firewall/insns.sizes", laid_firewall_insns_sizes)] }
def ProgsStraightSaid : Prop := progsStraightRow.holds Tryd.pinned (OpenSpec.ofChange progsStraightSpec)

/-- ITS FALSE NEIGHBOUR: 'it returns false'. Refute it at one input. -/
def progsStraightWrong : ChangeSpec := { name := "progsStraight", fn := fun _ => fun
  | [d] => { results := [.lit (.bool false)], args := [d] }
  | _ => none }
def ProgsStraightWrongFalsely : Prop := progsStraightRow.holds Tryd.pinned (OpenSpec.ofChange progsStraightWrong)

/- THE SECOND FORM. 'bulk': how many values and letters a reading holds, each counted each time it is reached (what is shared counts as often as it is met; a slice's spare places count too). A statement '..UptoSaid' is the law's where the arguments, and the package variables that the reading takes, are together of bulk at most 1048576: NARROWER than '..Said'. Prove '..Said' where nothing that the law and all that it calls make is longer than what came in: it says more and counts as full. Else prove '..UptoSaid'. A law counts once. -/
mutual
def uptoBulk {H : Type} : DataW H → Nat
  | .lit (.string bytes) => bytes.length + 1
  | .lit _ => 1
  | .nil => 1
  | .ptr d => uptoBulk d + 1
  | .slice elems spare => uptoBulkAll elems + uptoBulkAll spare + 1
  | .agg parts => uptoBulkAll parts + 1
  | .iface _ d => uptoBulk d + 1
  | .map entries => uptoBulkEntries entries + 1
  | .held _ => 1
def uptoBulkAll {H : Type} : List (DataW H) → Nat
  | [] => 0
  | d :: r => uptoBulk d + uptoBulkAll r
def uptoBulkEntries {H : Type} : List (Lit × DataW H) → Nat
  | [] => 0
  | x :: r => uptoBulkEntry x + uptoBulkEntries r
def uptoBulkEntry {H : Type} : Lit × DataW H → Nat
  | (.string bytes, d) => bytes.length + uptoBulk d + 1
  | (_, d) => uptoBulk d + 1
 end
def uptoSmall : (H : Type) → List (DataW H) → Bool := fun _ ds => decide (uptoBulkAll ds ≤ 1048576)
def OpenSpec.upto (s : _root_.Go.ChangeSpec) : _root_.Go.OpenSpec := { _root_.Go.OpenSpec.ofChange s with cond := some uptoSmall }

/-- 'firewalllaw02.InsnsCheck', WHERE WHAT IT READS IS OF BULK AT MOST 1048576: true; the input reads as it did. -/
def insnsCheckUptoRow : OpenClaim := { program := "ythmebodklbhljaadoor", sum := "c3fa1b39aa0ec5de2c81ae7f38de7d7c9bc9eb7e206a141a88b2323204b051a1", func := "firewall/firewalllaw02.InsnsCheck", spec := "insnsCheck", named := ["firewall/insns.sizes"], apart := false, laid := [("firewall/insns.sizes", laid_firewall_insns_sizes)], narrowed := true }
def InsnsCheckUptoSaid : Prop := insnsCheckUptoRow.holds Tryd.pinned (OpenSpec.upto insnsCheckSpec)

/-- 'firewalllaw02.InsnsBytes', WHERE WHAT IT READS IS OF BULK AT MOST 1048576: true; the input reads as it did. -/
def insnsBytesUptoRow : OpenClaim := { program := "ythmebodklbhljaadoor", sum := "c3fa1b39aa0ec5de2c81ae7f38de7d7c9bc9eb7e206a141a88b2323204b051a1", func := "firewall/firewalllaw02.InsnsBytes", spec := "insnsBytes", named := ["firewall/insns.sizes"], apart := false, laid := [("firewall/insns.sizes", laid_firewall_insns_sizes)], narrowed := true }
def InsnsBytesUptoSaid : Prop := insnsBytesUptoRow.holds Tryd.pinned (OpenSpec.upto insnsBytesSpec)

/-- 'firewalllaw02.InsnsBack', WHERE WHAT IT READS IS OF BULK AT MOST 1048576: true; the input reads as it did. -/
def insnsBackUptoRow : OpenClaim := { program := "ythmebodklbhljaadoor", sum := "c3fa1b39aa0ec5de2c81ae7f38de7d7c9bc9eb7e206a141a88b2323204b051a1", func := "firewall/firewalllaw02.InsnsBack", spec := "insnsBack", named := ["firewall/insns.sizes"], apart := false, laid := [("firewall/insns.sizes", laid_firewall_insns_sizes)], narrowed := true }
def InsnsBackUptoSaid : Prop := insnsBackUptoRow.holds Tryd.pinned (OpenSpec.upto insnsBackSpec)

/-- 'firewalllaw02.InsnsInside', WHERE WHAT IT READS IS OF BULK AT MOST 1048576: true; the input reads as it did. -/
def insnsInsideUptoRow : OpenClaim := { program := "ythmebodklbhljaadoor", sum := "c3fa1b39aa0ec5de2c81ae7f38de7d7c9bc9eb7e206a141a88b2323204b051a1", func := "firewall/firewalllaw02.InsnsInside", spec := "insnsInside", named := ["firewall/insns.sizes"], apart := false, laid := [("firewall/insns.sizes", laid_firewall_insns_sizes)], narrowed := true }
def InsnsInsideUptoSaid : Prop := insnsInsideUptoRow.holds Tryd.pinned (OpenSpec.upto insnsInsideSpec)

/-- 'firewalllaw02.InsnsFields', WHERE WHAT IT READS IS OF BULK AT MOST 1048576: true; the input reads as it did. -/
def insnsFieldsUptoRow : OpenClaim := { program := "ythmebodklbhljaadoor", sum := "c3fa1b39aa0ec5de2c81ae7f38de7d7c9bc9eb7e206a141a88b2323204b051a1", func := "firewall/firewalllaw02.InsnsFields", spec := "insnsFields", named := ["firewall/insns.sizes"], apart := false, laid := [("firewall/insns.sizes", laid_firewall_insns_sizes)], narrowed := true }
def InsnsFieldsUptoSaid : Prop := insnsFieldsUptoRow.holds Tryd.pinned (OpenSpec.upto insnsFieldsSpec)

/-- 'firewalllaw02.InsnsMany', WHERE WHAT IT READS IS OF BULK AT MOST 1048576: true; the input reads as it did. -/
def insnsManyUptoRow : OpenClaim := { program := "ythmebodklbhljaadoor", sum := "c3fa1b39aa0ec5de2c81ae7f38de7d7c9bc9eb7e206a141a88b2323204b051a1", func := "firewall/firewalllaw02.InsnsMany", spec := "insnsMany", named := ["firewall/insns.sizes"], apart := false, laid := [("firewall/insns.sizes", laid_firewall_insns_sizes)], narrowed := true }
def InsnsManyUptoSaid : Prop := insnsManyUptoRow.holds Tryd.pinned (OpenSpec.upto insnsManySpec)

/-- 'firewalllaw04.ProgsCheck', WHERE WHAT IT READS IS OF BULK AT MOST 1048576: true; the input reads as it did. -/
def progsCheckUptoRow : OpenClaim := { program := "ythmebodklbhljaadoor", sum := "c3fa1b39aa0ec5de2c81ae7f38de7d7c9bc9eb7e206a141a88b2323204b051a1", func := "firewall/firewalllaw04.ProgsCheck", spec := "progsCheck", unfollowed := true, recurses := true, named := ["firewall/insns.sizes"], apart := false, laid := [("firewall/insns.sizes", laid_firewall_insns_sizes)], narrowed := true }
def ProgsCheckUptoSaid : Prop := progsCheckUptoRow.holds Tryd.pinned (OpenSpec.upto progsCheckSpec)

/-- 'firewalllaw04.ProgsText', WHERE WHAT IT READS IS OF BULK AT MOST 1048576: true; the input reads as it did. -/
def progsTextUptoRow : OpenClaim := { program := "ythmebodklbhljaadoor", sum := "c3fa1b39aa0ec5de2c81ae7f38de7d7c9bc9eb7e206a141a88b2323204b051a1", func := "firewall/firewalllaw04.ProgsText", spec := "progsText", unfollowed := true, recurses := true, named := ["firewall/insns.sizes"], apart := false, laid := [("firewall/insns.sizes", laid_firewall_insns_sizes)], narrowed := true }
def ProgsTextUptoSaid : Prop := progsTextUptoRow.holds Tryd.pinned (OpenSpec.upto progsTextSpec)

/-- 'firewalllaw04.ProgsBytes', WHERE WHAT IT READS IS OF BULK AT MOST 1048576: true; the input reads as it did. -/
def progsBytesUptoRow : OpenClaim := { program := "ythmebodklbhljaadoor", sum := "c3fa1b39aa0ec5de2c81ae7f38de7d7c9bc9eb7e206a141a88b2323204b051a1", func := "firewall/firewalllaw04.ProgsBytes", spec := "progsBytes", unfollowed := true, recurses := true, named := ["firewall/insns.sizes"], apart := false, laid := [("firewall/insns.sizes", laid_firewall_insns_sizes)], narrowed := true }
def ProgsBytesUptoSaid : Prop := progsBytesUptoRow.holds Tryd.pinned (OpenSpec.upto progsBytesSpec)

/-- 'firewalllaw04.ProgsWay', WHERE WHAT IT READS IS OF BULK AT MOST 1048576: true; the input reads as it did. -/
def progsWayUptoRow : OpenClaim := { program := "ythmebodklbhljaadoor", sum := "c3fa1b39aa0ec5de2c81ae7f38de7d7c9bc9eb7e206a141a88b2323204b051a1", func := "firewall/firewalllaw04.ProgsWay", spec := "progsWay", unfollowed := true, recurses := true, named := ["firewall/insns.sizes"], apart := false, laid := [("firewall/insns.sizes", laid_firewall_insns_sizes)], narrowed := true }
def ProgsWayUptoSaid : Prop := progsWayUptoRow.holds Tryd.pinned (OpenSpec.upto progsWaySpec)

/-- 'firewalllaw04.ProgsMore', WHERE WHAT IT READS IS OF BULK AT MOST 1048576: true; the input reads as it did. -/
def progsMoreUptoRow : OpenClaim := { program := "ythmebodklbhljaadoor", sum := "c3fa1b39aa0ec5de2c81ae7f38de7d7c9bc9eb7e206a141a88b2323204b051a1", func := "firewall/firewalllaw04.ProgsMore", spec := "progsMore", unfollowed := true, recurses := true, named := ["firewall/insns.sizes"], apart := false, laid := [("firewall/insns.sizes", laid_firewall_insns_sizes)], narrowed := true }
def ProgsMoreUptoSaid : Prop := progsMoreUptoRow.holds Tryd.pinned (OpenSpec.upto progsMoreSpec)

/-- 'firewalllaw04.ProgsBack', WHERE WHAT IT READS IS OF BULK AT MOST 1048576: true; the input reads as it did. -/
def progsBackUptoRow : OpenClaim := { program := "ythmebodklbhljaadoor", sum := "c3fa1b39aa0ec5de2c81ae7f38de7d7c9bc9eb7e206a141a88b2323204b051a1", func := "firewall/firewalllaw04.ProgsBack", spec := "progsBack", unfollowed := true, recurses := true, named := ["firewall/insns.sizes"], apart := false, laid := [("firewall/insns.sizes", laid_firewall_insns_sizes)], narrowed := true }
def ProgsBackUptoSaid : Prop := progsBackUptoRow.holds Tryd.pinned (OpenSpec.upto progsBackSpec)

/-- 'firewalllaw04.ProgsStraight', WHERE WHAT IT READS IS OF BULK AT MOST 1048576: true; the input reads as it did. -/
def progsStraightUptoRow : OpenClaim := { program := "ythmebodklbhljaadoor", sum := "c3fa1b39aa0ec5de2c81ae7f38de7d7c9bc9eb7e206a141a88b2323204b051a1", func := "firewall/firewalllaw04.ProgsStraight", spec := "progsStraight", unfollowed := true, recurses := true, named := ["firewall/insns.sizes"], apart := false, laid := [("firewall/insns.sizes", laid_firewall_insns_sizes)], narrowed := true }
def ProgsStraightUptoSaid : Prop := progsStraightUptoRow.holds Tryd.pinned (OpenSpec.upto progsStraightSpec)

end Rows
end Go.Proofs.YthmebodklbhljaaDoor
