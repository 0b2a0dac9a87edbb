/-
  NARROWER THAN 'FOR EVERY INPUT', by the rows' own cells (each row's printed sentence says how): HelpersDraws: laid · HelpersOwn: laid.
  DERIVED. THE GIVEN ROWS OF THIS SEAT. 2 by the template 'for every input the law returns true; each argument reads behind the call as it read before'; 0 by the template 'total and deterministic' (their statements: YtbjiicjmlbocdaaDoorTotals.lean).
  GIVEN WITH THE SEED: the statements are not yours to turn. If you find one false, say at which input.
  Laid BY PROGRAM, IN A SANDBOX (cutbox-rows.mjs): the forced cells as the released guide's own fill.sh prints them over the translation 95384b6354db4c5c… (all of the seat's roots in one cut). By AI agents, Wed Nov 11 2026. No macro, syntax, notation, axiom, sorry.
-/
import Derived.Test.YtbjiicjmlbocdaaDoorChecked
import GoSem.Claim
import GoSem.ClaimJoined
import GoSem.ClaimMapViews
import Derived.JoinedTies
import Derived.KernelRfl
namespace Go.Proofs.YtbjiicjmlbocdaaDoor
/- THE CELL 'sum', in the pinned program and in every row, IS THE sha256 OF THE DUMP (.gsa) THAT YtbjiicjmlbocdaaDoorProg.lean LOADS. Nothing in Lean hashes anything: it is a label: what it is worth is what the hold of that sum in a sandbox is worth. -/
noncomputable def Tryd.pinned : Pinned := { name := "ytbjiicjmlbocdaadoor", sum := "95384b6354db4c5c88ee49d5f85d90afc8bbaf76954c86f282a9d80a803228c5", checked := Tryd.checked }
namespace Rows
def none {H : Type} : Left H := { results := [], args := [] }

/- WHAT THE LISTED PACKAGE-LEVEL VARIABLES READ AS WHEN THE CALL BEGINS. Each datum BY PROGRAM (the guide's laid-datum.mjs) off the statement by which the dump's own 'gosem.cut.vars' lays the variable. In a bare row this is a premise. The card (YtbjiicjmlbocdaaDoorCards.lean) ties it to the program's text. -/
def laid_firewall_helpers_args {H : Type} : DataW H := .agg [.lit (.int .i8 (-1)), .lit (.int .i8 2), .lit (.int .i8 4), .lit (.int .i8 2), .lit (.int .i8 (-1)), .lit (.int .i8 (-1)), .lit (.int .i8 (-1)), .lit (.int .i8 0)]

/-- 'firewalllaw09.HelpersDraws': WHATEVER THE INPUT: true; the input reads as it did. -/
def helpersDrawsSpec : ChangeSpec := { name := "helpersDraws", fn := fun _ => fun
  | [d1, d2] => { results := [.lit (.bool true)], args := [d1, d2] }
  | _ => none }
def helpersDrawsRow : OpenClaim := { program := "ytbjiicjmlbocdaadoor", sum := "95384b6354db4c5c88ee49d5f85d90afc8bbaf76954c86f282a9d80a803228c5", func := "firewall/firewalllaw09.HelpersDraws", spec := "helpersDraws", inPlace := ["internal/abi.NoEscape", "internal/bytealg.MakeNoZero"], unfollowed := true, recurses := true, named := ["firewall/helpers.args"], apart := false, laid := [("firewall/helpers.args", laid_firewall_helpers_args)] }
def HelpersDrawsSaid : Prop := helpersDrawsRow.holds Tryd.pinned (OpenSpec.ofChange helpersDrawsSpec)

/-- ITS FALSE NEIGHBOUR: 'it returns false'. Refute it at one input. -/
def helpersDrawsWrong : ChangeSpec := { name := "helpersDraws", fn := fun _ => fun
  | [d1, d2] => { results := [.lit (.bool false)], args := [d1, d2] }
  | _ => none }
def HelpersDrawsWrongFalsely : Prop := helpersDrawsRow.holds Tryd.pinned (OpenSpec.ofChange helpersDrawsWrong)

/-- 'firewalllaw09.HelpersOwn': WHATEVER THE INPUT: true; the input reads as it did. -/
def helpersOwnSpec : ChangeSpec := { name := "helpersOwn", fn := fun _ => fun
  | [d1, d2, d3] => { results := [.lit (.bool true)], args := [d1, d2, d3] }
  | _ => none }
def helpersOwnRow : OpenClaim := { program := "ytbjiicjmlbocdaadoor", sum := "95384b6354db4c5c88ee49d5f85d90afc8bbaf76954c86f282a9d80a803228c5", func := "firewall/firewalllaw09.HelpersOwn", spec := "helpersOwn", inPlace := ["internal/abi.NoEscape", "internal/bytealg.MakeNoZero"], unfollowed := true, recurses := true, named := ["firewall/helpers.args"], apart := false, laid := [("firewall/helpers.args", laid_firewall_helpers_args)] }
def HelpersOwnSaid : Prop := helpersOwnRow.holds Tryd.pinned (OpenSpec.ofChange helpersOwnSpec)

/-- ITS FALSE NEIGHBOUR: 'it returns false'. Refute it at one input. -/
def helpersOwnWrong : ChangeSpec := { name := "helpersOwn", fn := fun _ => fun
  | [d1, d2, d3] => { results := [.lit (.bool false)], args := [d1, d2, d3] }
  | _ => none }
def HelpersOwnWrongFalsely : Prop := helpersOwnRow.holds Tryd.pinned (OpenSpec.ofChange helpersOwnWrong)

/- THE SECOND FORM. 'bulk': how many values and letters a reading holds, each counted each time it is reached (what is shared counts as often as it is met; a slice's spare places count too). A statement '..UptoSaid' is the law's where the arguments, and the package variables that the reading takes, are together of bulk at most 1048576: NARROWER than '..Said'. Prove '..Said' where nothing that the law and all that it calls make is longer than what came in: it says more and counts as full. Else prove '..UptoSaid'. A law counts once. -/
mutual
def uptoBulk {H : Type} : DataW H → Nat
  | .lit (.string bytes) => bytes.length + 1
  | .lit _ => 1
  | .nil => 1
  | .ptr d => uptoBulk d + 1
  | .slice elems spare => uptoBulkAll elems + uptoBulkAll spare + 1
  | .agg parts => uptoBulkAll parts + 1
  | .iface _ d => uptoBulk d + 1
  | .map entries => uptoBulkEntries entries + 1
  | .held _ => 1
def uptoBulkAll {H : Type} : List (DataW H) → Nat
  | [] => 0
  | d :: r => uptoBulk d + uptoBulkAll r
def uptoBulkEntries {H : Type} : List (Lit × DataW H) → Nat
  | [] => 0
  | x :: r => uptoBulkEntry x + uptoBulkEntries r
def uptoBulkEntry {H : Type} : Lit × DataW H → Nat
  | (.string bytes, d) => bytes.length + uptoBulk d + 1
  | (_, d) => uptoBulk d + 1
 end
def uptoSmall : (H : Type) → List (DataW H) → Bool := fun _ ds => decide (uptoBulkAll ds ≤ 1048576)
def OpenSpec.upto (s : _root_.Go.ChangeSpec) : _root_.Go.OpenSpec := { _root_.Go.OpenSpec.ofChange s with cond := some uptoSmall }

/-- 'firewalllaw09.HelpersDraws', WHERE WHAT IT READS IS OF BULK AT MOST 1048576: true; the input reads as it did. -/
def helpersDrawsUptoRow : OpenClaim := { program := "ytbjiicjmlbocdaadoor", sum := "95384b6354db4c5c88ee49d5f85d90afc8bbaf76954c86f282a9d80a803228c5", func := "firewall/firewalllaw09.HelpersDraws", spec := "helpersDraws", inPlace := ["internal/abi.NoEscape", "internal/bytealg.MakeNoZero"], unfollowed := true, recurses := true, named := ["firewall/helpers.args"], apart := false, laid := [("firewall/helpers.args", laid_firewall_helpers_args)], narrowed := true }
def HelpersDrawsUptoSaid : Prop := helpersDrawsUptoRow.holds Tryd.pinned (OpenSpec.upto helpersDrawsSpec)

/-- 'firewalllaw09.HelpersOwn', WHERE WHAT IT READS IS OF BULK AT MOST 1048576: true; the input reads as it did. -/
def helpersOwnUptoRow : OpenClaim := { program := "ytbjiicjmlbocdaadoor", sum := "95384b6354db4c5c88ee49d5f85d90afc8bbaf76954c86f282a9d80a803228c5", func := "firewall/firewalllaw09.HelpersOwn", spec := "helpersOwn", inPlace := ["internal/abi.NoEscape", "internal/bytealg.MakeNoZero"], unfollowed := true, recurses := true, named := ["firewall/helpers.args"], apart := false, laid := [("firewall/helpers.args", laid_firewall_helpers_args)], narrowed := true }
def HelpersOwnUptoSaid : Prop := helpersOwnUptoRow.holds Tryd.pinned (OpenSpec.upto helpersOwnSpec)

end Rows
end Go.Proofs.YtbjiicjmlbocdaaDoor
