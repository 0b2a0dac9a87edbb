/-
  NARROWER THAN 'FOR EVERY INPUT', by the rows' own cells (each row's printed sentence says how): CodecTell: laid · CodecBytes: laid · CodecBack: laid · CodecOne: laid · CodecUnused: laid · CpuExec: laid · CpuTaken: laid · CpuCompare: laid · CpuReckons: laid · CpuStays: laid.
  DERIVED. THE GIVEN ROWS OF THIS SEAT. 10 by the template 'for every input the law returns true; each argument reads behind the call as it read before'; 0 by the template 'total and deterministic' (their statements: YtbaiokfjoglmiaaDoorTotals.lean).
  GIVEN WITH THE SEED: the statements are not yours to turn. If you find one false, say at which input.
  Laid BY PROGRAM, IN A SANDBOX (cutbox-rows.mjs): the forced cells as the released guide's own fill.sh prints them over the translation d8f7b5bf46578b0c… (all of the seat's roots in one cut). By AI agents, Wed Nov 11 2026. No macro, syntax, notation, axiom, sorry.
-/
import Derived.Test.YtbaiokfjoglmiaaDoorChecked
import GoSem.Claim
import GoSem.ClaimJoined
import GoSem.ClaimMapViews
import Derived.JoinedTies
import Derived.KernelRfl
namespace Go.Proofs.YtbaiokfjoglmiaaDoor
/- THE CELL 'sum', in the pinned program and in every row, IS THE sha256 OF THE DUMP (.gsa) THAT YtbaiokfjoglmiaaDoorProg.lean LOADS. Nothing in Lean hashes anything: it is a label: what it is worth is what the hold of that sum in a sandbox is worth. -/
noncomputable def Tryd.pinned : Pinned := { name := "ytbaiokfjoglmiaadoor", sum := "d8f7b5bf46578b0c708bd63411eef05f87e92d5b27e9c9be59df0b279de471b0", checked := Tryd.checked }
namespace Rows
def none {H : Type} : Left H := { results := [], args := [] }

/- WHAT THE LISTED PACKAGE-LEVEL VARIABLES READ AS WHEN THE CALL BEGINS. Each datum BY PROGRAM (the guide's laid-datum.mjs) off the statement by which the dump's own 'gosem.cut.vars' lays the variable. In a bare row this is a premise. The card (YtbaiokfjoglmiaaDoorCards.lean) ties it to the program's text. -/
def laid_firewall_codec_forms {H : Type} : DataW H := .agg [.agg [.lit (.int .u16 0), .lit (.bool false), .lit (.int .u8 0), .lit (.int .u8 0), .lit (.int .u8 0), .lit (.int .u8 0)], .agg [.lit (.int .u16 7), .lit (.bool false), .lit (.int .u8 137), .lit (.int .u8 1), .lit (.int .u8 0), .lit (.int .u8 0)], .agg [.lit (.int .u16 2083), .lit (.bool false), .lit (.int .u8 199), .lit (.int .u8 3), .lit (.int .u8 0), .lit (.int .u8 4)], .agg [.lit (.int .u16 2083), .lit (.bool false), .lit (.int .u8 184), .lit (.int .u8 7), .lit (.int .u8 0), .lit (.int .u8 8)], .agg [.lit (.int .u16 15), .lit (.bool false), .lit (.int .u8 1), .lit (.int .u8 1), .lit (.int .u8 0), .lit (.int .u8 0)], .agg [.lit (.int .u16 43), .lit (.bool false), .lit (.int .u8 129), .lit (.int .u8 4), .lit (.int .u8 0), .lit (.int .u8 4)], .agg [.lit (.int .u16 7), .lit (.bool false), .lit (.int .u8 133), .lit (.int .u8 1), .lit (.int .u8 0), .lit (.int .u8 0)], .agg [.lit (.int .u16 3), .lit (.bool false), .lit (.int .u8 247), .lit (.int .u8 3), .lit (.int .u8 3), .lit (.int .u8 0)], .agg [.lit (.int .u16 3), .lit (.bool false), .lit (.int .u8 247), .lit (.int .u8 3), .lit (.int .u8 4), .lit (.int .u8 0)], .agg [.lit (.int .u16 3), .lit (.bool false), .lit (.int .u8 247), .lit (.int .u8 3), .lit (.int .u8 6), .lit (.int .u8 0)], .agg [.lit (.int .u16 7), .lit (.bool true), .lit (.int .u8 175), .lit (.int .u8 2), .lit (.int .u8 0), .lit (.int .u8 0)], .agg [.lit (.int .u16 51), .lit (.bool false), .lit (.int .u8 193), .lit (.int .u8 4), .lit (.int .u8 0), .lit (.int .u8 1)], .agg [.lit (.int .u16 19), .lit (.bool false), .lit (.int .u8 211), .lit (.int .u8 4), .lit (.int .u8 0), .lit (.int .u8 0)], .agg [.lit (.int .u16 199), .lit (.bool false), .lit (.int .u8 0), .lit (.int .u8 5), .lit (.int .u8 0), .lit (.int .u8 0)], .agg [.lit (.int .u16 199), .lit (.bool false), .lit (.int .u8 0), .lit (.int .u8 6), .lit (.int .u8 0), .lit (.int .u8 0)], .agg [.lit (.int .u16 1536), .lit (.bool false), .lit (.int .u8 0), .lit (.int .u8 8), .lit (.int .u8 0), .lit (.int .u8 0)], .agg [.lit (.int .u16 1792), .lit (.bool false), .lit (.int .u8 0), .lit (.int .u8 8), .lit (.int .u8 0), .lit (.int .u8 0)], .agg [.lit (.int .u16 2), .lit (.bool false), .lit (.int .u8 80), .lit (.int .u8 7), .lit (.int .u8 0), .lit (.int .u8 0)], .agg [.lit (.int .u16 2), .lit (.bool false), .lit (.int .u8 88), .lit (.int .u8 7), .lit (.int .u8 0), .lit (.int .u8 0)], .agg [.lit (.int .u16 0), .lit (.bool false), .lit (.int .u8 195), .lit (.int .u8 0), .lit (.int .u8 0), .lit (.int .u8 0)], .agg [.lit (.int .u16 1024), .lit (.bool false), .lit (.int .u8 232), .lit (.int .u8 8), .lit (.int .u8 0), .lit (.int .u8 0)], .agg [.lit (.int .u16 0), .lit (.bool true), .lit (.int .u8 174), .lit (.int .u8 0), .lit (.int .u8 232), .lit (.int .u8 0)]]

/-- 'firewalllaw11.CodecTell': WHATEVER THE INPUT: true; the input reads as it did. -/
def codecTellSpec : ChangeSpec := { name := "codecTell", fn := fun _ => fun
  | [d] => { results := [.lit (.bool true)], args := [d] }
  | _ => none }
def codecTellRow : OpenClaim := { program := "ytbaiokfjoglmiaadoor", sum := "d8f7b5bf46578b0c708bd63411eef05f87e92d5b27e9c9be59df0b279de471b0", func := "firewall/firewalllaw11.CodecTell", spec := "codecTell", named := ["firewall/codec.forms"], apart := false, laid := [("firewall/codec.forms", laid_firewall_codec_forms)] }
def CodecTellSaid : Prop := codecTellRow.holds Tryd.pinned (OpenSpec.ofChange codecTellSpec)

/-- ITS FALSE NEIGHBOUR: 'it returns false'. Refute it at one input. -/
def codecTellWrong : ChangeSpec := { name := "codecTell", fn := fun _ => fun
  | [d] => { results := [.lit (.bool false)], args := [d] }
  | _ => none }
def CodecTellWrongFalsely : Prop := codecTellRow.holds Tryd.pinned (OpenSpec.ofChange codecTellWrong)

/-- 'firewalllaw11.CodecBytes': WHATEVER THE INPUT: true; the input reads as it did. -/
def codecBytesSpec : ChangeSpec := { name := "codecBytes", fn := fun _ => fun
  | [d1, d2] => { results := [.lit (.bool true)], args := [d1, d2] }
  | _ => none }
def codecBytesRow : OpenClaim := { program := "ytbaiokfjoglmiaadoor", sum := "d8f7b5bf46578b0c708bd63411eef05f87e92d5b27e9c9be59df0b279de471b0", func := "firewall/firewalllaw11.CodecBytes", spec := "codecBytes", named := ["firewall/codec.forms"], apart := false, laid := [("firewall/codec.forms", laid_firewall_codec_forms)] }
def CodecBytesSaid : Prop := codecBytesRow.holds Tryd.pinned (OpenSpec.ofChange codecBytesSpec)

/-- ITS FALSE NEIGHBOUR: 'it returns false'. Refute it at one input. -/
def codecBytesWrong : ChangeSpec := { name := "codecBytes", fn := fun _ => fun
  | [d1, d2] => { results := [.lit (.bool false)], args := [d1, d2] }
  | _ => none }
def CodecBytesWrongFalsely : Prop := codecBytesRow.holds Tryd.pinned (OpenSpec.ofChange codecBytesWrong)

/-- 'firewalllaw11.CodecBack': WHATEVER THE INPUT: true; the input reads as it did. -/
def codecBackSpec : ChangeSpec := { name := "codecBack", fn := fun _ => fun
  | [d1, d2, d3] => { results := [.lit (.bool true)], args := [d1, d2, d3] }
  | _ => none }
def codecBackRow : OpenClaim := { program := "ytbaiokfjoglmiaadoor", sum := "d8f7b5bf46578b0c708bd63411eef05f87e92d5b27e9c9be59df0b279de471b0", func := "firewall/firewalllaw11.CodecBack", spec := "codecBack", named := ["firewall/codec.forms"], apart := false, laid := [("firewall/codec.forms", laid_firewall_codec_forms)] }
def CodecBackSaid : Prop := codecBackRow.holds Tryd.pinned (OpenSpec.ofChange codecBackSpec)

/-- ITS FALSE NEIGHBOUR: 'it returns false'. Refute it at one input. -/
def codecBackWrong : ChangeSpec := { name := "codecBack", fn := fun _ => fun
  | [d1, d2, d3] => { results := [.lit (.bool false)], args := [d1, d2, d3] }
  | _ => none }
def CodecBackWrongFalsely : Prop := codecBackRow.holds Tryd.pinned (OpenSpec.ofChange codecBackWrong)

/-- 'firewalllaw11.CodecOne': WHATEVER THE INPUT: true; the input reads as it did. -/
def codecOneSpec : ChangeSpec := { name := "codecOne", fn := fun _ => fun
  | [d1, d2] => { results := [.lit (.bool true)], args := [d1, d2] }
  | _ => none }
def codecOneRow : OpenClaim := { program := "ytbaiokfjoglmiaadoor", sum := "d8f7b5bf46578b0c708bd63411eef05f87e92d5b27e9c9be59df0b279de471b0", func := "firewall/firewalllaw11.CodecOne", spec := "codecOne", named := ["firewall/codec.forms"], apart := false, laid := [("firewall/codec.forms", laid_firewall_codec_forms)] }
def CodecOneSaid : Prop := codecOneRow.holds Tryd.pinned (OpenSpec.ofChange codecOneSpec)

/-- ITS FALSE NEIGHBOUR: 'it returns false'. Refute it at one input. -/
def codecOneWrong : ChangeSpec := { name := "codecOne", fn := fun _ => fun
  | [d1, d2] => { results := [.lit (.bool false)], args := [d1, d2] }
  | _ => none }
def CodecOneWrongFalsely : Prop := codecOneRow.holds Tryd.pinned (OpenSpec.ofChange codecOneWrong)

/-- 'firewalllaw11.CodecUnused': WHATEVER THE INPUT: true; the input reads as it did. -/
def codecUnusedSpec : ChangeSpec := { name := "codecUnused", fn := fun _ => fun
  | [d1, d2, d3] => { results := [.lit (.bool true)], args := [d1, d2, d3] }
  | _ => none }
def codecUnusedRow : OpenClaim := { program := "ytbaiokfjoglmiaadoor", sum := "d8f7b5bf46578b0c708bd63411eef05f87e92d5b27e9c9be59df0b279de471b0", func := "firewall/firewalllaw11.CodecUnused", spec := "codecUnused", named := ["firewall/codec.forms"], apart := false, laid := [("firewall/codec.forms", laid_firewall_codec_forms)] }
def CodecUnusedSaid : Prop := codecUnusedRow.holds Tryd.pinned (OpenSpec.ofChange codecUnusedSpec)

/-- ITS FALSE NEIGHBOUR: 'it returns false'. Refute it at one input. -/
def codecUnusedWrong : ChangeSpec := { name := "codecUnused", fn := fun _ => fun
  | [d1, d2, d3] => { results := [.lit (.bool false)], args := [d1, d2, d3] }
  | _ => none }
def CodecUnusedWrongFalsely : Prop := codecUnusedRow.holds Tryd.pinned (OpenSpec.ofChange codecUnusedWrong)

/-- 'firewalllaw12.CpuExec': WHATEVER THE INPUT: true; the input reads as it did. -/
def cpuExecSpec : ChangeSpec := { name := "cpuExec", fn := fun _ => fun
  | [d1, d2] => { results := [.lit (.bool true)], args := [d1, d2] }
  | _ => none }
def cpuExecRow : OpenClaim := { program := "ytbaiokfjoglmiaadoor", sum := "d8f7b5bf46578b0c708bd63411eef05f87e92d5b27e9c9be59df0b279de471b0", func := "firewall/firewalllaw12.CpuExec", spec := "cpuExec", named := ["firewall/codec.forms", "math/bits.divideError", "math/bits.overflowError"], apart := false, laid := [("firewall/codec.forms", laid_firewall_codec_forms)] }
def CpuExecSaid : Prop := cpuExecRow.holds Tryd.pinned (OpenSpec.ofChange cpuExecSpec)

/-- ITS FALSE NEIGHBOUR: 'it returns false'. Refute it at one input. -/
def cpuExecWrong : ChangeSpec := { name := "cpuExec", fn := fun _ => fun
  | [d1, d2] => { results := [.lit (.bool false)], args := [d1, d2] }
  | _ => none }
def CpuExecWrongFalsely : Prop := cpuExecRow.holds Tryd.pinned (OpenSpec.ofChange cpuExecWrong)

/-- 'firewalllaw12.CpuTaken': WHATEVER THE INPUT: true; the input reads as it did. -/
def cpuTakenSpec : ChangeSpec := { name := "cpuTaken", fn := fun _ => fun
  | [d1, d2] => { results := [.lit (.bool true)], args := [d1, d2] }
  | _ => none }
def cpuTakenRow : OpenClaim := { program := "ytbaiokfjoglmiaadoor", sum := "d8f7b5bf46578b0c708bd63411eef05f87e92d5b27e9c9be59df0b279de471b0", func := "firewall/firewalllaw12.CpuTaken", spec := "cpuTaken", recurses := true, named := ["firewall/codec.forms", "math/bits.divideError", "math/bits.overflowError"], apart := false, laid := [("firewall/codec.forms", laid_firewall_codec_forms)] }
def CpuTakenSaid : Prop := cpuTakenRow.holds Tryd.pinned (OpenSpec.ofChange cpuTakenSpec)

/-- ITS FALSE NEIGHBOUR: 'it returns false'. Refute it at one input. -/
def cpuTakenWrong : ChangeSpec := { name := "cpuTaken", fn := fun _ => fun
  | [d1, d2] => { results := [.lit (.bool false)], args := [d1, d2] }
  | _ => none }
def CpuTakenWrongFalsely : Prop := cpuTakenRow.holds Tryd.pinned (OpenSpec.ofChange cpuTakenWrong)

/-- 'firewalllaw12.CpuCompare': WHATEVER THE INPUT: true; the input reads as it did. -/
def cpuCompareSpec : ChangeSpec := { name := "cpuCompare", fn := fun _ => fun
  | [d1, d2, d3] => { results := [.lit (.bool true)], args := [d1, d2, d3] }
  | _ => none }
def cpuCompareRow : OpenClaim := { program := "ytbaiokfjoglmiaadoor", sum := "d8f7b5bf46578b0c708bd63411eef05f87e92d5b27e9c9be59df0b279de471b0", func := "firewall/firewalllaw12.CpuCompare", spec := "cpuCompare", recurses := true, named := ["firewall/codec.forms", "math/bits.divideError", "math/bits.overflowError"], apart := false, laid := [("firewall/codec.forms", laid_firewall_codec_forms)] }
def CpuCompareSaid : Prop := cpuCompareRow.holds Tryd.pinned (OpenSpec.ofChange cpuCompareSpec)

/-- ITS FALSE NEIGHBOUR: 'it returns false'. Refute it at one input. -/
def cpuCompareWrong : ChangeSpec := { name := "cpuCompare", fn := fun _ => fun
  | [d1, d2, d3] => { results := [.lit (.bool false)], args := [d1, d2, d3] }
  | _ => none }
def CpuCompareWrongFalsely : Prop := cpuCompareRow.holds Tryd.pinned (OpenSpec.ofChange cpuCompareWrong)

/-- 'firewalllaw12.CpuReckons': WHATEVER THE INPUT: true; the input reads as it did. -/
def cpuReckonsSpec : ChangeSpec := { name := "cpuReckons", fn := fun _ => fun
  | [d1, d2, d3] => { results := [.lit (.bool true)], args := [d1, d2, d3] }
  | _ => none }
def cpuReckonsRow : OpenClaim := { program := "ytbaiokfjoglmiaadoor", sum := "d8f7b5bf46578b0c708bd63411eef05f87e92d5b27e9c9be59df0b279de471b0", func := "firewall/firewalllaw12.CpuReckons", spec := "cpuReckons", named := ["firewall/codec.forms", "math/bits.divideError", "math/bits.overflowError"], apart := false, laid := [("firewall/codec.forms", laid_firewall_codec_forms)] }
def CpuReckonsSaid : Prop := cpuReckonsRow.holds Tryd.pinned (OpenSpec.ofChange cpuReckonsSpec)

/-- ITS FALSE NEIGHBOUR: 'it returns false'. Refute it at one input. -/
def cpuReckonsWrong : ChangeSpec := { name := "cpuReckons", fn := fun _ => fun
  | [d1, d2, d3] => { results := [.lit (.bool false)], args := [d1, d2, d3] }
  | _ => none }
def CpuReckonsWrongFalsely : Prop := cpuReckonsRow.holds Tryd.pinned (OpenSpec.ofChange cpuReckonsWrong)

/-- 'firewalllaw12.CpuStays': WHATEVER THE INPUT: true; the input reads as it did. -/
def cpuStaysSpec : ChangeSpec := { name := "cpuStays", fn := fun _ => fun
  | [d1, d2] => { results := [.lit (.bool true)], args := [d1, d2] }
  | _ => none }
def cpuStaysRow : OpenClaim := { program := "ytbaiokfjoglmiaadoor", sum := "d8f7b5bf46578b0c708bd63411eef05f87e92d5b27e9c9be59df0b279de471b0", func := "firewall/firewalllaw12.CpuStays", spec := "cpuStays", named := ["firewall/codec.forms", "math/bits.divideError", "math/bits.overflowError"], apart := false, laid := [("firewall/codec.forms", laid_firewall_codec_forms)] }
def CpuStaysSaid : Prop := cpuStaysRow.holds Tryd.pinned (OpenSpec.ofChange cpuStaysSpec)

/-- ITS FALSE NEIGHBOUR: 'it returns false'. Refute it at one input. -/
def cpuStaysWrong : ChangeSpec := { name := "cpuStays", fn := fun _ => fun
  | [d1, d2] => { results := [.lit (.bool false)], args := [d1, d2] }
  | _ => none }
def CpuStaysWrongFalsely : Prop := cpuStaysRow.holds Tryd.pinned (OpenSpec.ofChange cpuStaysWrong)

/- THE SECOND FORM. 'bulk': how many values and letters a reading holds, each counted each time it is reached (what is shared counts as often as it is met; a slice's spare places count too). A statement '..UptoSaid' is the law's where the arguments, and the package variables that the reading takes, are together of bulk at most 1048576: NARROWER than '..Said'. Prove '..Said' where nothing that the law and all that it calls make is longer than what came in: it says more and counts as full. Else prove '..UptoSaid'. A law counts once. -/
mutual
def uptoBulk {H : Type} : DataW H → Nat
  | .lit (.string bytes) => bytes.length + 1
  | .lit _ => 1
  | .nil => 1
  | .ptr d => uptoBulk d + 1
  | .slice elems spare => uptoBulkAll elems + uptoBulkAll spare + 1
  | .agg parts => uptoBulkAll parts + 1
  | .iface _ d => uptoBulk d + 1
  | .map entries => uptoBulkEntries entries + 1
  | .held _ => 1
def uptoBulkAll {H : Type} : List (DataW H) → Nat
  | [] => 0
  | d :: r => uptoBulk d + uptoBulkAll r
def uptoBulkEntries {H : Type} : List (Lit × DataW H) → Nat
  | [] => 0
  | x :: r => uptoBulkEntry x + uptoBulkEntries r
def uptoBulkEntry {H : Type} : Lit × DataW H → Nat
  | (.string bytes, d) => bytes.length + uptoBulk d + 1
  | (_, d) => uptoBulk d + 1
 end
def uptoSmall : (H : Type) → List (DataW H) → Bool := fun _ ds => decide (uptoBulkAll ds ≤ 1048576)
def OpenSpec.upto (s : _root_.Go.ChangeSpec) : _root_.Go.OpenSpec := { _root_.Go.OpenSpec.ofChange s with cond := some uptoSmall }

/-- 'firewalllaw11.CodecTell', WHERE WHAT IT READS IS OF BULK AT MOST 1048576: true; the input reads as it did. -/
def codecTellUptoRow : OpenClaim := { program := "ytbaiokfjoglmiaadoor", sum := "d8f7b5bf46578b0c708bd63411eef05f87e92d5b27e9c9be59df0b279de471b0", func := "firewall/firewalllaw11.CodecTell", spec := "codecTell", named := ["firewall/codec.forms"], apart := false, laid := [("firewall/codec.forms", laid_firewall_codec_forms)], narrowed := true }
def CodecTellUptoSaid : Prop := codecTellUptoRow.holds Tryd.pinned (OpenSpec.upto codecTellSpec)

/-- 'firewalllaw11.CodecBytes', WHERE WHAT IT READS IS OF BULK AT MOST 1048576: true; the input reads as it did. -/
def codecBytesUptoRow : OpenClaim := { program := "ytbaiokfjoglmiaadoor", sum := "d8f7b5bf46578b0c708bd63411eef05f87e92d5b27e9c9be59df0b279de471b0", func := "firewall/firewalllaw11.CodecBytes", spec := "codecBytes", named := ["firewall/codec.forms"], apart := false, laid := [("firewall/codec.forms", laid_firewall_codec_forms)], narrowed := true }
def CodecBytesUptoSaid : Prop := codecBytesUptoRow.holds Tryd.pinned (OpenSpec.upto codecBytesSpec)

/-- 'firewalllaw11.CodecBack', WHERE WHAT IT READS IS OF BULK AT MOST 1048576: true; the input reads as it did. -/
def codecBackUptoRow : OpenClaim := { program := "ytbaiokfjoglmiaadoor", sum := "d8f7b5bf46578b0c708bd63411eef05f87e92d5b27e9c9be59df0b279de471b0", func := "firewall/firewalllaw11.CodecBack", spec := "codecBack", named := ["firewall/codec.forms"], apart := false, laid := [("firewall/codec.forms", laid_firewall_codec_forms)], narrowed := true }
def CodecBackUptoSaid : Prop := codecBackUptoRow.holds Tryd.pinned (OpenSpec.upto codecBackSpec)

/-- 'firewalllaw11.CodecOne', WHERE WHAT IT READS IS OF BULK AT MOST 1048576: true; the input reads as it did. -/
def codecOneUptoRow : OpenClaim := { program := "ytbaiokfjoglmiaadoor", sum := "d8f7b5bf46578b0c708bd63411eef05f87e92d5b27e9c9be59df0b279de471b0", func := "firewall/firewalllaw11.CodecOne", spec := "codecOne", named := ["firewall/codec.forms"], apart := false, laid := [("firewall/codec.forms", laid_firewall_codec_forms)], narrowed := true }
def CodecOneUptoSaid : Prop := codecOneUptoRow.holds Tryd.pinned (OpenSpec.upto codecOneSpec)

/-- 'firewalllaw11.CodecUnused', WHERE WHAT IT READS IS OF BULK AT MOST 1048576: true; the input reads as it did. -/
def codecUnusedUptoRow : OpenClaim := { program := "ytbaiokfjoglmiaadoor", sum := "d8f7b5bf46578b0c708bd63411eef05f87e92d5b27e9c9be59df0b279de471b0", func := "firewall/firewalllaw11.CodecUnused", spec := "codecUnused", named := ["firewall/codec.forms"], apart := false, laid := [("firewall/codec.forms", laid_firewall_codec_forms)], narrowed := true }
def CodecUnusedUptoSaid : Prop := codecUnusedUptoRow.holds Tryd.pinned (OpenSpec.upto codecUnusedSpec)

/-- 'firewalllaw12.CpuExec', WHERE WHAT IT READS IS OF BULK AT MOST 1048576: true; the input reads as it did. -/
def cpuExecUptoRow : OpenClaim := { program := "ytbaiokfjoglmiaadoor", sum := "d8f7b5bf46578b0c708bd63411eef05f87e92d5b27e9c9be59df0b279de471b0", func := "firewall/firewalllaw12.CpuExec", spec := "cpuExec", named := ["firewall/codec.forms", "math/bits.divideError", "math/bits.overflowError"], apart := false, laid := [("firewall/codec.forms", laid_firewall_codec_forms)], narrowed := true }
def CpuExecUptoSaid : Prop := cpuExecUptoRow.holds Tryd.pinned (OpenSpec.upto cpuExecSpec)

/-- 'firewalllaw12.CpuTaken', WHERE WHAT IT READS IS OF BULK AT MOST 1048576: true; the input reads as it did. -/
def cpuTakenUptoRow : OpenClaim := { program := "ytbaiokfjoglmiaadoor", sum := "d8f7b5bf46578b0c708bd63411eef05f87e92d5b27e9c9be59df0b279de471b0", func := "firewall/firewalllaw12.CpuTaken", spec := "cpuTaken", recurses := true, named := ["firewall/codec.forms", "math/bits.divideError", "math/bits.overflowError"], apart := false, laid := [("firewall/codec.forms", laid_firewall_codec_forms)], narrowed := true }
def CpuTakenUptoSaid : Prop := cpuTakenUptoRow.holds Tryd.pinned (OpenSpec.upto cpuTakenSpec)

/-- 'firewalllaw12.CpuCompare', WHERE WHAT IT READS IS OF BULK AT MOST 1048576: true; the input reads as it did. -/
def cpuCompareUptoRow : OpenClaim := { program := "ytbaiokfjoglmiaadoor", sum := "d8f7b5bf46578b0c708bd63411eef05f87e92d5b27e9c9be59df0b279de471b0", func := "firewall/firewalllaw12.CpuCompare", spec := "cpuCompare", recurses := true, named := ["firewall/codec.forms", "math/bits.divideError", "math/bits.overflowError"], apart := false, laid := [("firewall/codec.forms", laid_firewall_codec_forms)], narrowed := true }
def CpuCompareUptoSaid : Prop := cpuCompareUptoRow.holds Tryd.pinned (OpenSpec.upto cpuCompareSpec)

/-- 'firewalllaw12.CpuReckons', WHERE WHAT IT READS IS OF BULK AT MOST 1048576: true; the input reads as it did. -/
def cpuReckonsUptoRow : OpenClaim := { program := "ytbaiokfjoglmiaadoor", sum := "d8f7b5bf46578b0c708bd63411eef05f87e92d5b27e9c9be59df0b279de471b0", func := "firewall/firewalllaw12.CpuReckons", spec := "cpuReckons", named := ["firewall/codec.forms", "math/bits.divideError", "math/bits.overflowError"], apart := false, laid := [("firewall/codec.forms", laid_firewall_codec_forms)], narrowed := true }
def CpuReckonsUptoSaid : Prop := cpuReckonsUptoRow.holds Tryd.pinned (OpenSpec.upto cpuReckonsSpec)

/-- 'firewalllaw12.CpuStays', WHERE WHAT IT READS IS OF BULK AT MOST 1048576: true; the input reads as it did. -/
def cpuStaysUptoRow : OpenClaim := { program := "ytbaiokfjoglmiaadoor", sum := "d8f7b5bf46578b0c708bd63411eef05f87e92d5b27e9c9be59df0b279de471b0", func := "firewall/firewalllaw12.CpuStays", spec := "cpuStays", named := ["firewall/codec.forms", "math/bits.divideError", "math/bits.overflowError"], apart := false, laid := [("firewall/codec.forms", laid_firewall_codec_forms)], narrowed := true }
def CpuStaysUptoSaid : Prop := cpuStaysUptoRow.holds Tryd.pinned (OpenSpec.upto cpuStaysSpec)

end Rows
end Go.Proofs.YtbaiokfjoglmiaaDoor
