/-
  NARROWER THAN 'FOR EVERY INPUT', by the rows' own cells (each row's printed sentence says how): InterpNone: laid · InterpArith: laid · InterpStack: laid · InterpLoop: laid.
  DERIVED. THE GIVEN ROWS OF THIS SEAT. 4 by the template 'for every input the law returns true; each argument reads behind the call as it read before'; 0 by the template 'total and deterministic' (their statements: YthhgfjnnconocaaGreatDoorTotals.lean).
  GIVEN WITH THE SEED: the statements are not yours to turn. If you find one false, say at which input.
  Laid BY PROGRAM, IN A SANDBOX (cutbox-rows.mjs): the forced cells as the released guide's own fill.sh prints them over the translation 5308bfcf5c30699e… (all of the seat's roots in one cut). By AI agents, Wed Nov 11 2026. No macro, syntax, notation, axiom, sorry.
-/
import Derived.Test.YthhgfjnnconocaaGreatDoorChecked
import GoSem.Claim
import GoSem.ClaimJoined
import GoSem.ClaimMapViews
import Derived.JoinedTies
import Derived.KernelRfl
namespace Go.Proofs.YthhgfjnnconocaaGreatDoor
/- THE CELL 'sum', in the pinned program and in every row, IS THE sha256 OF THE DUMP (.gsa) THAT YthhgfjnnconocaaGreatDoorProg.lean LOADS. Nothing in Lean hashes anything: it is a label: what it is worth is what the hold of that sum in a sandbox is worth. -/
noncomputable def Tryz.pinned : Pinned := { name := "ythhgfjnnconocaagreatdoor", sum := "5308bfcf5c30699ef92107b70fdd0722c682960827a8db3b1f7e0070f441d279", checked := Tryz.checked }
namespace Rows
def none {H : Type} : Left H := { results := [], args := [] }

/- WHAT THE LISTED PACKAGE-LEVEL VARIABLES READ AS WHEN THE CALL BEGINS. Each datum BY PROGRAM (the guide's laid-datum.mjs) off the statement by which the dump's own 'gosem.cut.vars' lays the variable. In a bare row this is a premise. The card (YthhgfjnnconocaaGreatDoorCards.lean) ties it to the program's text. -/
def laid_firewall_insns_sizes {H : Type} : DataW H := .agg [.agg [.lit (.int .u8 113), .lit (.int .u8 1)], .agg [.lit (.int .u8 105), .lit (.int .u8 2)], .agg [.lit (.int .u8 97), .lit (.int .u8 4)], .agg [.lit (.int .u8 121), .lit (.int .u8 8)], .agg [.lit (.int .u8 114), .lit (.int .u8 1)], .agg [.lit (.int .u8 106), .lit (.int .u8 2)], .agg [.lit (.int .u8 98), .lit (.int .u8 4)], .agg [.lit (.int .u8 122), .lit (.int .u8 8)], .agg [.lit (.int .u8 115), .lit (.int .u8 1)], .agg [.lit (.int .u8 107), .lit (.int .u8 2)], .agg [.lit (.int .u8 99), .lit (.int .u8 4)], .agg [.lit (.int .u8 123), .lit (.int .u8 8)]]
def laid_firewall_helpers_args {H : Type} : DataW H := .agg [.lit (.int .i8 (-1)), .lit (.int .i8 2), .lit (.int .i8 4), .lit (.int .i8 2), .lit (.int .i8 (-1)), .lit (.int .i8 (-1)), .lit (.int .i8 (-1)), .lit (.int .i8 0)]

/-- 'firewalllaw10.InterpNone': WHATEVER THE INPUT: true; the input reads as it did. -/
def interpNoneSpec : ChangeSpec := { name := "interpNone", fn := fun _ => fun
  | [d1, d2] => { results := [.lit (.bool true)], args := [d1, d2] }
  | _ => none }
def interpNoneRow : OpenClaim := { program := "ythhgfjnnconocaagreatdoor", sum := "5308bfcf5c30699ef92107b70fdd0722c682960827a8db3b1f7e0070f441d279", func := "firewall/firewalllaw10.InterpNone", spec := "interpNone", inPlace := ["internal/abi.NoEscape", "internal/bytealg.MakeNoZero"], unfollowed := true, recurses := true, named := ["firewall/insns.sizes", "firewall/helpers.args"], apart := false, laid := [("firewall/insns.sizes", laid_firewall_insns_sizes), ("firewall/helpers.args", laid_firewall_helpers_args)] }
def InterpNoneSaid : Prop := interpNoneRow.holds Tryz.pinned (OpenSpec.ofChange interpNoneSpec)

/-- ITS FALSE NEIGHBOUR: 'it returns false'. Refute it at one input. -/
def interpNoneWrong : ChangeSpec := { name := "interpNone", fn := fun _ => fun
  | [d1, d2] => { results := [.lit (.bool false)], args := [d1, d2] }
  | _ => none }
def InterpNoneWrongFalsely : Prop := interpNoneRow.holds Tryz.pinned (OpenSpec.ofChange interpNoneWrong)

/-- 'firewalllaw10.InterpArith': WHATEVER THE INPUT: true; the input reads as it did. -/
def interpArithSpec : ChangeSpec := { name := "interpArith", fn := fun _ => fun
  | [d1, d2, d3] => { results := [.lit (.bool true)], args := [d1, d2, d3] }
  | _ => none }
def interpArithRow : OpenClaim := { program := "ythhgfjnnconocaagreatdoor", sum := "5308bfcf5c30699ef92107b70fdd0722c682960827a8db3b1f7e0070f441d279", func := "firewall/firewalllaw10.InterpArith", spec := "interpArith", inPlace := ["internal/abi.NoEscape", "internal/bytealg.MakeNoZero"], unfollowed := true, recurses := true, named := ["firewall/insns.sizes", "firewall/helpers.args"], apart := false, laid := [("firewall/insns.sizes", laid_firewall_insns_sizes), ("firewall/helpers.args", laid_firewall_helpers_args)] }
def InterpArithSaid : Prop := interpArithRow.holds Tryz.pinned (OpenSpec.ofChange interpArithSpec)

/-- ITS FALSE NEIGHBOUR: 'it returns false'. Refute it at one input. -/
def interpArithWrong : ChangeSpec := { name := "interpArith", fn := fun _ => fun
  | [d1, d2, d3] => { results := [.lit (.bool false)], args := [d1, d2, d3] }
  | _ => none }
def InterpArithWrongFalsely : Prop := interpArithRow.holds Tryz.pinned (OpenSpec.ofChange interpArithWrong)

/-- 'firewalllaw10.InterpStack': WHATEVER THE INPUT: true; the input reads as it did. -/
def interpStackSpec : ChangeSpec := { name := "interpStack", fn := fun _ => fun
  | [d1, d2, d3] => { results := [.lit (.bool true)], args := [d1, d2, d3] }
  | _ => none }
def interpStackRow : OpenClaim := { program := "ythhgfjnnconocaagreatdoor", sum := "5308bfcf5c30699ef92107b70fdd0722c682960827a8db3b1f7e0070f441d279", func := "firewall/firewalllaw10.InterpStack", spec := "interpStack", inPlace := ["internal/abi.NoEscape", "internal/bytealg.MakeNoZero"], unfollowed := true, recurses := true, named := ["firewall/insns.sizes", "firewall/helpers.args"], apart := false, laid := [("firewall/insns.sizes", laid_firewall_insns_sizes), ("firewall/helpers.args", laid_firewall_helpers_args)] }
def InterpStackSaid : Prop := interpStackRow.holds Tryz.pinned (OpenSpec.ofChange interpStackSpec)

/-- ITS FALSE NEIGHBOUR: 'it returns false'. Refute it at one input. -/
def interpStackWrong : ChangeSpec := { name := "interpStack", fn := fun _ => fun
  | [d1, d2, d3] => { results := [.lit (.bool false)], args := [d1, d2, d3] }
  | _ => none }
def InterpStackWrongFalsely : Prop := interpStackRow.holds Tryz.pinned (OpenSpec.ofChange interpStackWrong)

/-- 'firewalllaw10.InterpLoop': WHATEVER THE INPUT: true; the input reads as it did. -/
def interpLoopSpec : ChangeSpec := { name := "interpLoop", fn := fun _ => fun
  | [d] => { results := [.lit (.bool true)], args := [d] }
  | _ => none }
def interpLoopRow : OpenClaim := { program := "ythhgfjnnconocaagreatdoor", sum := "5308bfcf5c30699ef92107b70fdd0722c682960827a8db3b1f7e0070f441d279", func := "firewall/firewalllaw10.InterpLoop", spec := "interpLoop", inPlace := ["internal/abi.NoEscape", "internal/bytealg.MakeNoZero"], unfollowed := true, recurses := true, named := ["firewall/insns.sizes", "firewall/helpers.args"], apart := false, laid := [("firewall/insns.sizes", laid_firewall_insns_sizes), ("firewall/helpers.args", laid_firewall_helpers_args)] }
def InterpLoopSaid : Prop := interpLoopRow.holds Tryz.pinned (OpenSpec.ofChange interpLoopSpec)

/-- ITS FALSE NEIGHBOUR: 'it returns false'. Refute it at one input. -/
def interpLoopWrong : ChangeSpec := { name := "interpLoop", fn := fun _ => fun
  | [d] => { results := [.lit (.bool false)], args := [d] }
  | _ => none }
def InterpLoopWrongFalsely : Prop := interpLoopRow.holds Tryz.pinned (OpenSpec.ofChange interpLoopWrong)

/- THE SECOND FORM. 'bulk': how many values and letters a reading holds, each counted each time it is reached (what is shared counts as often as it is met; a slice's spare places count too). A statement '..UptoSaid' is the law's where the arguments, and the package variables that the reading takes, are together of bulk at most 1048576: NARROWER than '..Said'. Prove '..Said' where nothing that the law and all that it calls make is longer than what came in: it says more and counts as full. Else prove '..UptoSaid'. A law counts once. -/
mutual
def uptoBulk {H : Type} : DataW H → Nat
  | .lit (.string bytes) => bytes.length + 1
  | .lit _ => 1
  | .nil => 1
  | .ptr d => uptoBulk d + 1
  | .slice elems spare => uptoBulkAll elems + uptoBulkAll spare + 1
  | .agg parts => uptoBulkAll parts + 1
  | .iface _ d => uptoBulk d + 1
  | .map entries => uptoBulkEntries entries + 1
  | .held _ => 1
def uptoBulkAll {H : Type} : List (DataW H) → Nat
  | [] => 0
  | d :: r => uptoBulk d + uptoBulkAll r
def uptoBulkEntries {H : Type} : List (Lit × DataW H) → Nat
  | [] => 0
  | x :: r => uptoBulkEntry x + uptoBulkEntries r
def uptoBulkEntry {H : Type} : Lit × DataW H → Nat
  | (.string bytes, d) => bytes.length + uptoBulk d + 1
  | (_, d) => uptoBulk d + 1
 end
def uptoSmall : (H : Type) → List (DataW H) → Bool := fun _ ds => decide (uptoBulkAll ds ≤ 1048576)
def OpenSpec.upto (s : _root_.Go.ChangeSpec) : _root_.Go.OpenSpec := { _root_.Go.OpenSpec.ofChange s with cond := some uptoSmall }

/-- 'firewalllaw10.InterpNone', WHERE WHAT IT READS IS OF BULK AT MOST 1048576: true; the input reads as it did. -/
def interpNoneUptoRow : OpenClaim := { program := "ythhgfjnnconocaagreatdoor", sum := "5308bfcf5c30699ef92107b70fdd0722c682960827a8db3b1f7e0070f441d279", func := "firewall/firewalllaw10.InterpNone", spec := "interpNone", inPlace := ["internal/abi.NoEscape", "internal/bytealg.MakeNoZero"], unfollowed := true, recurses := true, named := ["firewall/insns.sizes", "firewall/helpers.args"], apart := false, laid := [("firewall/insns.sizes", laid_firewall_insns_sizes), ("firewall/helpers.args", laid_firewall_helpers_args)], narrowed := true }
def InterpNoneUptoSaid : Prop := interpNoneUptoRow.holds Tryz.pinned (OpenSpec.upto interpNoneSpec)

/-- 'firewalllaw10.InterpArith', WHERE WHAT IT READS IS OF BULK AT MOST 1048576: true; the input reads as it did. -/
def interpArithUptoRow : OpenClaim := { program := "ythhgfjnnconocaagreatdoor", sum := "5308bfcf5c30699ef92107b70fdd0722c682960827a8db3b1f7e0070f441d279", func := "firewall/firewalllaw10.InterpArith", spec := "interpArith", inPlace := ["internal/abi.NoEscape", "internal/bytealg.MakeNoZero"], unfollowed := true, recurses := true, named := ["firewall/insns.sizes", "firewall/helpers.args"], apart := false, laid := [("firewall/insns.sizes", laid_firewall_insns_sizes), ("firewall/helpers.args", laid_firewall_helpers_args)], narrowed := true }
def InterpArithUptoSaid : Prop := interpArithUptoRow.holds Tryz.pinned (OpenSpec.upto interpArithSpec)

/-- 'firewalllaw10.InterpStack', WHERE WHAT IT READS IS OF BULK AT MOST 1048576: true; the input reads as it did. -/
def interpStackUptoRow : OpenClaim := { program := "ythhgfjnnconocaagreatdoor", sum := "5308bfcf5c30699ef92107b70fdd0722c682960827a8db3b1f7e0070f441d279", func := "firewall/firewalllaw10.InterpStack", spec := "interpStack", inPlace := ["internal/abi.NoEscape", "internal/bytealg.MakeNoZero"], unfollowed := true, recurses := true, named := ["firewall/insns.sizes", "firewall/helpers.args"], apart := false, laid := [("firewall/insns.sizes", laid_firewall_insns_sizes), ("firewall/helpers.args", laid_firewall_helpers_args)], narrowed := true }
def InterpStackUptoSaid : Prop := interpStackUptoRow.holds Tryz.pinned (OpenSpec.upto interpStackSpec)

/-- 'firewalllaw10.InterpLoop', WHERE WHAT IT READS IS OF BULK AT MOST 1048576: true; the input reads as it did. -/
def interpLoopUptoRow : OpenClaim := { program := "ythhgfjnnconocaagreatdoor", sum := "5308bfcf5c30699ef92107b70fdd0722c682960827a8db3b1f7e0070f441d279", func := "firewall/firewalllaw10.InterpLoop", spec := "interpLoop", inPlace := ["internal/abi.NoEscape", "internal/bytealg.MakeNoZero"], unfollowed := true, recurses := true, named := ["firewall/insns.sizes", "firewall/helpers.args"], apart := false, laid := [("firewall/insns.sizes", laid_firewall_insns_sizes), ("firewall/helpers.args", laid_firewall_helpers_args)], narrowed := true }
def InterpLoopUptoSaid : Prop := interpLoopUptoRow.holds Tryz.pinned (OpenSpec.upto interpLoopSpec)

end Rows
end Go.Proofs.YthhgfjnnconocaaGreatDoor
