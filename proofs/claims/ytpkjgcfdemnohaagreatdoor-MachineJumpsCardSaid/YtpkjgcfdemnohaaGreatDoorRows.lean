/-
  NARROWER THAN 'FOR EVERY INPUT', by the rows' own cells (each row's printed sentence says how): SpecNone: laid · StepsNone: laid · MachineStack: laid · MachineJumps: laid.
  DERIVED. THE GIVEN ROWS OF THIS SEAT. 4 by the template 'for every input the law returns true; each argument reads behind the call as it read before'; 0 by the template 'total and deterministic' (their statements: YtpkjgcfdemnohaaGreatDoorTotals.lean).
  GIVEN WITH THE SEED: the statements are not yours to turn. If you find one false, say at which input.
  Laid BY PROGRAM, IN A SANDBOX (cutbox-rows.mjs): the forced cells as the released guide's own fill.sh prints them over the translation 2a3aa41b11f36339… (all of the seat's roots in one cut). By AI agents, Wed Nov 11 2026. No macro, syntax, notation, axiom, sorry.
-/
import Derived.Test.YtpkjgcfdemnohaaGreatDoorChecked
import GoSem.Claim
import GoSem.ClaimJoined
import GoSem.ClaimMapViews
import Derived.JoinedTies
import Derived.KernelRfl
namespace Go.Proofs.YtpkjgcfdemnohaaGreatDoor
/- THE CELL 'sum', in the pinned program and in every row, IS THE sha256 OF THE DUMP (.gsa) THAT YtpkjgcfdemnohaaGreatDoorProg.lean LOADS. Nothing in Lean hashes anything: it is a label: what it is worth is what the hold of that sum in a sandbox is worth. -/
noncomputable def Tryz.pinned : Pinned := { name := "ytpkjgcfdemnohaagreatdoor", sum := "2a3aa41b11f363396c210b9ebdf2367085f1f0dc6c8c9901826b62e611a55e15", checked := Tryz.checked }
namespace Rows
def none {H : Type} : Left H := { results := [], args := [] }

/- WHAT THE LISTED PACKAGE-LEVEL VARIABLES READ AS WHEN THE CALL BEGINS. Each datum BY PROGRAM (the guide's laid-datum.mjs) off the statement by which the dump's own 'gosem.cut.vars' lays the variable. In a bare row this is a premise. The card (YtpkjgcfdemnohaaGreatDoorCards.lean) ties it to the program's text. -/
def laid_firewall_codec_forms {H : Type} : DataW H := .agg [.agg [.lit (.int .u16 0), .lit (.bool false), .lit (.int .u8 0), .lit (.int .u8 0), .lit (.int .u8 0), .lit (.int .u8 0)], .agg [.lit (.int .u16 7), .lit (.bool false), .lit (.int .u8 137), .lit (.int .u8 1), .lit (.int .u8 0), .lit (.int .u8 0)], .agg [.lit (.int .u16 2083), .lit (.bool false), .lit (.int .u8 199), .lit (.int .u8 3), .lit (.int .u8 0), .lit (.int .u8 4)], .agg [.lit (.int .u16 2083), .lit (.bool false), .lit (.int .u8 184), .lit (.int .u8 7), .lit (.int .u8 0), .lit (.int .u8 8)], .agg [.lit (.int .u16 15), .lit (.bool false), .lit (.int .u8 1), .lit (.int .u8 1), .lit (.int .u8 0), .lit (.int .u8 0)], .agg [.lit (.int .u16 43), .lit (.bool false), .lit (.int .u8 129), .lit (.int .u8 4), .lit (.int .u8 0), .lit (.int .u8 4)], .agg [.lit (.int .u16 7), .lit (.bool false), .lit (.int .u8 133), .lit (.int .u8 1), .lit (.int .u8 0), .lit (.int .u8 0)], .agg [.lit (.int .u16 3), .lit (.bool false), .lit (.int .u8 247), .lit (.int .u8 3), .lit (.int .u8 3), .lit (.int .u8 0)], .agg [.lit (.int .u16 3), .lit (.bool false), .lit (.int .u8 247), .lit (.int .u8 3), .lit (.int .u8 4), .lit (.int .u8 0)], .agg [.lit (.int .u16 3), .lit (.bool false), .lit (.int .u8 247), .lit (.int .u8 3), .lit (.int .u8 6), .lit (.int .u8 0)], .agg [.lit (.int .u16 7), .lit (.bool true), .lit (.int .u8 175), .lit (.int .u8 2), .lit (.int .u8 0), .lit (.int .u8 0)], .agg [.lit (.int .u16 51), .lit (.bool false), .lit (.int .u8 193), .lit (.int .u8 4), .lit (.int .u8 0), .lit (.int .u8 1)], .agg [.lit (.int .u16 19), .lit (.bool false), .lit (.int .u8 211), .lit (.int .u8 4), .lit (.int .u8 0), .lit (.int .u8 0)], .agg [.lit (.int .u16 199), .lit (.bool false), .lit (.int .u8 0), .lit (.int .u8 5), .lit (.int .u8 0), .lit (.int .u8 0)], .agg [.lit (.int .u16 199), .lit (.bool false), .lit (.int .u8 0), .lit (.int .u8 6), .lit (.int .u8 0), .lit (.int .u8 0)], .agg [.lit (.int .u16 1536), .lit (.bool false), .lit (.int .u8 0), .lit (.int .u8 8), .lit (.int .u8 0), .lit (.int .u8 0)], .agg [.lit (.int .u16 1792), .lit (.bool false), .lit (.int .u8 0), .lit (.int .u8 8), .lit (.int .u8 0), .lit (.int .u8 0)], .agg [.lit (.int .u16 2), .lit (.bool false), .lit (.int .u8 80), .lit (.int .u8 7), .lit (.int .u8 0), .lit (.int .u8 0)], .agg [.lit (.int .u16 2), .lit (.bool false), .lit (.int .u8 88), .lit (.int .u8 7), .lit (.int .u8 0), .lit (.int .u8 0)], .agg [.lit (.int .u16 0), .lit (.bool false), .lit (.int .u8 195), .lit (.int .u8 0), .lit (.int .u8 0), .lit (.int .u8 0)], .agg [.lit (.int .u16 1024), .lit (.bool false), .lit (.int .u8 232), .lit (.int .u8 8), .lit (.int .u8 0), .lit (.int .u8 0)], .agg [.lit (.int .u16 0), .lit (.bool true), .lit (.int .u8 174), .lit (.int .u8 0), .lit (.int .u8 232), .lit (.int .u8 0)]]
def laid_firewall_helpers_args {H : Type} : DataW H := .agg [.lit (.int .i8 (-1)), .lit (.int .i8 2), .lit (.int .i8 4), .lit (.int .i8 2), .lit (.int .i8 (-1)), .lit (.int .i8 (-1)), .lit (.int .i8 (-1)), .lit (.int .i8 0)]
def laid_firewall_insns_sizes {H : Type} : DataW H := .agg [.agg [.lit (.int .u8 113), .lit (.int .u8 1)], .agg [.lit (.int .u8 105), .lit (.int .u8 2)], .agg [.lit (.int .u8 97), .lit (.int .u8 4)], .agg [.lit (.int .u8 121), .lit (.int .u8 8)], .agg [.lit (.int .u8 114), .lit (.int .u8 1)], .agg [.lit (.int .u8 106), .lit (.int .u8 2)], .agg [.lit (.int .u8 98), .lit (.int .u8 4)], .agg [.lit (.int .u8 122), .lit (.int .u8 8)], .agg [.lit (.int .u8 115), .lit (.int .u8 1)], .agg [.lit (.int .u8 107), .lit (.int .u8 2)], .agg [.lit (.int .u8 99), .lit (.int .u8 4)], .agg [.lit (.int .u8 123), .lit (.int .u8 8)]]

/-- 'firewalllaw14.SpecNone': WHATEVER THE INPUT: true; the input reads as it did. -/
def specNoneSpec : ChangeSpec := { name := "specNone", fn := fun _ => fun
  | [d1, d2] => { results := [.lit (.bool true)], args := [d1, d2] }
  | _ => none }
def specNoneRow : OpenClaim := { program := "ytpkjgcfdemnohaagreatdoor", sum := "2a3aa41b11f363396c210b9ebdf2367085f1f0dc6c8c9901826b62e611a55e15", func := "firewall/firewalllaw14.SpecNone", spec := "specNone", inPlace := ["internal/abi.NoEscape", "internal/bytealg.MakeNoZero"], unfollowed := true, recurses := true, named := ["firewall/codec.forms", "firewall/helpers.args", "math/bits.divideError", "math/bits.overflowError"], apart := false, laid := [("firewall/codec.forms", laid_firewall_codec_forms), ("firewall/helpers.args", laid_firewall_helpers_args)] }
def SpecNoneSaid : Prop := specNoneRow.holds Tryz.pinned (OpenSpec.ofChange specNoneSpec)

/-- ITS FALSE NEIGHBOUR: 'it returns false'. Refute it at one input. -/
def specNoneWrong : ChangeSpec := { name := "specNone", fn := fun _ => fun
  | [d1, d2] => { results := [.lit (.bool false)], args := [d1, d2] }
  | _ => none }
def SpecNoneWrongFalsely : Prop := specNoneRow.holds Tryz.pinned (OpenSpec.ofChange specNoneWrong)

/-- 'firewalllaw21.StepsNone': WHATEVER THE INPUT: true; the input reads as it did. -/
def stepsNoneSpec : ChangeSpec := { name := "stepsNone", fn := fun _ => fun
  | [d1, d2] => { results := [.lit (.bool true)], args := [d1, d2] }
  | _ => none }
def stepsNoneRow : OpenClaim := { program := "ytpkjgcfdemnohaagreatdoor", sum := "2a3aa41b11f363396c210b9ebdf2367085f1f0dc6c8c9901826b62e611a55e15", func := "firewall/firewalllaw21.StepsNone", spec := "stepsNone", inPlace := ["math/bits.Add64", "math/bits.Sub64"], unfollowed := true, recurses := true, named := ["firewall/insns.sizes"], apart := false, laid := [("firewall/insns.sizes", laid_firewall_insns_sizes)] }
def StepsNoneSaid : Prop := stepsNoneRow.holds Tryz.pinned (OpenSpec.ofChange stepsNoneSpec)

/-- ITS FALSE NEIGHBOUR: 'it returns false'. Refute it at one input. -/
def stepsNoneWrong : ChangeSpec := { name := "stepsNone", fn := fun _ => fun
  | [d1, d2] => { results := [.lit (.bool false)], args := [d1, d2] }
  | _ => none }
def StepsNoneWrongFalsely : Prop := stepsNoneRow.holds Tryz.pinned (OpenSpec.ofChange stepsNoneWrong)

/-- 'firewalllaw13.MachineStack': WHATEVER THE INPUT: true; the input reads as it did. -/
def machineStackSpec : ChangeSpec := { name := "machineStack", fn := fun _ => fun
  | [d] => { results := [.lit (.bool true)], args := [d] }
  | _ => none }
def machineStackRow : OpenClaim := { program := "ytpkjgcfdemnohaagreatdoor", sum := "2a3aa41b11f363396c210b9ebdf2367085f1f0dc6c8c9901826b62e611a55e15", func := "firewall/firewalllaw13.MachineStack", spec := "machineStack", inPlace := ["internal/abi.NoEscape", "internal/bytealg.MakeNoZero"], unfollowed := true, recurses := true, named := ["firewall/codec.forms", "firewall/helpers.args", "math/bits.divideError", "math/bits.overflowError"], apart := false, laid := [("firewall/codec.forms", laid_firewall_codec_forms), ("firewall/helpers.args", laid_firewall_helpers_args)] }
def MachineStackSaid : Prop := machineStackRow.holds Tryz.pinned (OpenSpec.ofChange machineStackSpec)

/-- ITS FALSE NEIGHBOUR: 'it returns false'. Refute it at one input. -/
def machineStackWrong : ChangeSpec := { name := "machineStack", fn := fun _ => fun
  | [d] => { results := [.lit (.bool false)], args := [d] }
  | _ => none }
def MachineStackWrongFalsely : Prop := machineStackRow.holds Tryz.pinned (OpenSpec.ofChange machineStackWrong)

/-- 'firewalllaw13.MachineJumps': WHATEVER THE INPUT: true; the input reads as it did. -/
def machineJumpsSpec : ChangeSpec := { name := "machineJumps", fn := fun _ => fun
  | [d1, d2, d3] => { results := [.lit (.bool true)], args := [d1, d2, d3] }
  | _ => none }
def machineJumpsRow : OpenClaim := { program := "ytpkjgcfdemnohaagreatdoor", sum := "2a3aa41b11f363396c210b9ebdf2367085f1f0dc6c8c9901826b62e611a55e15", func := "firewall/firewalllaw13.MachineJumps", spec := "machineJumps", inPlace := ["internal/abi.NoEscape", "internal/bytealg.MakeNoZero"], unfollowed := true, recurses := true, named := ["firewall/codec.forms", "firewall/helpers.args", "math/bits.divideError", "math/bits.overflowError"], apart := false, laid := [("firewall/codec.forms", laid_firewall_codec_forms), ("firewall/helpers.args", laid_firewall_helpers_args)] }
def MachineJumpsSaid : Prop := machineJumpsRow.holds Tryz.pinned (OpenSpec.ofChange machineJumpsSpec)

/-- ITS FALSE NEIGHBOUR: 'it returns false'. Refute it at one input. -/
def machineJumpsWrong : ChangeSpec := { name := "machineJumps", fn := fun _ => fun
  | [d1, d2, d3] => { results := [.lit (.bool false)], args := [d1, d2, d3] }
  | _ => none }
def MachineJumpsWrongFalsely : Prop := machineJumpsRow.holds Tryz.pinned (OpenSpec.ofChange machineJumpsWrong)

/- THE SECOND FORM. 'bulk': how many values and letters a reading holds, each counted each time it is reached (what is shared counts as often as it is met; a slice's spare places count too). A statement '..UptoSaid' is the law's where the arguments, and the package variables that the reading takes, are together of bulk at most 1048576: NARROWER than '..Said'. Prove '..Said' where nothing that the law and all that it calls make is longer than what came in: it says more and counts as full. Else prove '..UptoSaid'. A law counts once. -/
mutual
def uptoBulk {H : Type} : DataW H → Nat
  | .lit (.string bytes) => bytes.length + 1
  | .lit _ => 1
  | .nil => 1
  | .ptr d => uptoBulk d + 1
  | .slice elems spare => uptoBulkAll elems + uptoBulkAll spare + 1
  | .agg parts => uptoBulkAll parts + 1
  | .iface _ d => uptoBulk d + 1
  | .map entries => uptoBulkEntries entries + 1
  | .held _ => 1
def uptoBulkAll {H : Type} : List (DataW H) → Nat
  | [] => 0
  | d :: r => uptoBulk d + uptoBulkAll r
def uptoBulkEntries {H : Type} : List (Lit × DataW H) → Nat
  | [] => 0
  | x :: r => uptoBulkEntry x + uptoBulkEntries r
def uptoBulkEntry {H : Type} : Lit × DataW H → Nat
  | (.string bytes, d) => bytes.length + uptoBulk d + 1
  | (_, d) => uptoBulk d + 1
 end
def uptoSmall : (H : Type) → List (DataW H) → Bool := fun _ ds => decide (uptoBulkAll ds ≤ 1048576)
def OpenSpec.upto (s : _root_.Go.ChangeSpec) : _root_.Go.OpenSpec := { _root_.Go.OpenSpec.ofChange s with cond := some uptoSmall }

/-- 'firewalllaw14.SpecNone', WHERE WHAT IT READS IS OF BULK AT MOST 1048576: true; the input reads as it did. -/
def specNoneUptoRow : OpenClaim := { program := "ytpkjgcfdemnohaagreatdoor", sum := "2a3aa41b11f363396c210b9ebdf2367085f1f0dc6c8c9901826b62e611a55e15", func := "firewall/firewalllaw14.SpecNone", spec := "specNone", inPlace := ["internal/abi.NoEscape", "internal/bytealg.MakeNoZero"], unfollowed := true, recurses := true, named := ["firewall/codec.forms", "firewall/helpers.args", "math/bits.divideError", "math/bits.overflowError"], apart := false, laid := [("firewall/codec.forms", laid_firewall_codec_forms), ("firewall/helpers.args", laid_firewall_helpers_args)], narrowed := true }
def SpecNoneUptoSaid : Prop := specNoneUptoRow.holds Tryz.pinned (OpenSpec.upto specNoneSpec)

/-- 'firewalllaw21.StepsNone', WHERE WHAT IT READS IS OF BULK AT MOST 1048576: true; the input reads as it did. -/
def stepsNoneUptoRow : OpenClaim := { program := "ytpkjgcfdemnohaagreatdoor", sum := "2a3aa41b11f363396c210b9ebdf2367085f1f0dc6c8c9901826b62e611a55e15", func := "firewall/firewalllaw21.StepsNone", spec := "stepsNone", inPlace := ["math/bits.Add64", "math/bits.Sub64"], unfollowed := true, recurses := true, named := ["firewall/insns.sizes"], apart := false, laid := [("firewall/insns.sizes", laid_firewall_insns_sizes)], narrowed := true }
def StepsNoneUptoSaid : Prop := stepsNoneUptoRow.holds Tryz.pinned (OpenSpec.upto stepsNoneSpec)

/-- 'firewalllaw13.MachineStack', WHERE WHAT IT READS IS OF BULK AT MOST 1048576: true; the input reads as it did. -/
def machineStackUptoRow : OpenClaim := { program := "ytpkjgcfdemnohaagreatdoor", sum := "2a3aa41b11f363396c210b9ebdf2367085f1f0dc6c8c9901826b62e611a55e15", func := "firewall/firewalllaw13.MachineStack", spec := "machineStack", inPlace := ["internal/abi.NoEscape", "internal/bytealg.MakeNoZero"], unfollowed := true, recurses := true, named := ["firewall/codec.forms", "firewall/helpers.args", "math/bits.divideError", "math/bits.overflowError"], apart := false, laid := [("firewall/codec.forms", laid_firewall_codec_forms), ("firewall/helpers.args", laid_firewall_helpers_args)], narrowed := true }
def MachineStackUptoSaid : Prop := machineStackUptoRow.holds Tryz.pinned (OpenSpec.upto machineStackSpec)

/-- 'firewalllaw13.MachineJumps', WHERE WHAT IT READS IS OF BULK AT MOST 1048576: true; the input reads as it did. -/
def machineJumpsUptoRow : OpenClaim := { program := "ytpkjgcfdemnohaagreatdoor", sum := "2a3aa41b11f363396c210b9ebdf2367085f1f0dc6c8c9901826b62e611a55e15", func := "firewall/firewalllaw13.MachineJumps", spec := "machineJumps", inPlace := ["internal/abi.NoEscape", "internal/bytealg.MakeNoZero"], unfollowed := true, recurses := true, named := ["firewall/codec.forms", "firewall/helpers.args", "math/bits.divideError", "math/bits.overflowError"], apart := false, laid := [("firewall/codec.forms", laid_firewall_codec_forms), ("firewall/helpers.args", laid_firewall_helpers_args)], narrowed := true }
def MachineJumpsUptoSaid : Prop := machineJumpsUptoRow.holds Tryz.pinned (OpenSpec.upto machineJumpsSpec)

end Rows
end Go.Proofs.YtpkjgcfdemnohaaGreatDoor
