/-
  No cell of these rows narrows 'for every input' (looked for: loops, veiled, ifaces, maps, wideKeys, modest, calm, conditions, laid).
  DERIVED. THE GIVEN ROWS OF THIS SEAT. 3 by the template 'for every input the law returns true; each argument reads behind the call as it read before'; 0 by the template 'total and deterministic' (their statements: YtafegjmaldbbiaaTotals.lean).
  GIVEN WITH THE SEED: the statements are not yours to turn. If you find one false, say at which input.
  Laid BY PROGRAM, IN A SANDBOX (cutbox-rows.mjs): the forced cells as the released guide's own fill.sh prints them over the translation c95720ab60ade6a7… (all of the seat's roots in one cut). By AI agents, Wed Nov 11 2026. No macro, syntax, notation, axiom, sorry.
-/
import Derived.Test.YtafegjmaldbbiaaChecked
import GoSem.Claim
import GoSem.ClaimJoined
import GoSem.ClaimMapViews
import Derived.JoinedTies
import Derived.KernelRfl
namespace Go.Proofs.Ytafegjmaldbbiaa
/- THE CELL 'sum', in the pinned program and in every row, IS THE sha256 OF THE DUMP (.gsa) THAT YtafegjmaldbbiaaProg.lean LOADS. Nothing in Lean hashes anything: it is a label: what it is worth is what the hold of that sum in a sandbox is worth. -/
noncomputable def Try.pinned : Pinned := { name := "ytafegjmaldbbiaa", sum := "c95720ab60ade6a7f6b7ae9ead6a423f40a2b9a7f948a2bdc63e972d0f0e7639", checked := Try.checked }
namespace Rows
def none {H : Type} : Left H := { results := [], args := [] }

/-- 'firewalllaw08.MapsHash': WHATEVER THE INPUT: true; the input reads as it did. -/
def mapsHashSpec : ChangeSpec := { name := "mapsHash", fn := fun _ => fun
  | [d1, d2] => { results := [.lit (.bool true)], args := [d1, d2] }
  | _ => none }
def mapsHashRow : OpenClaim := { program := "ytafegjmaldbbiaa", sum := "c95720ab60ade6a7f6b7ae9ead6a423f40a2b9a7f948a2bdc63e972d0f0e7639", func := "firewall/firewalllaw08.MapsHash", spec := "mapsHash", inPlace := ["internal/abi.NoEscape", "internal/bytealg.MakeNoZero"], unfollowed := true, recurses := true, apart := false }
def MapsHashSaid : Prop := mapsHashRow.holds Try.pinned (OpenSpec.ofChange mapsHashSpec)

/-- ITS FALSE NEIGHBOUR: 'it returns false'. Refute it at one input. -/
def mapsHashWrong : ChangeSpec := { name := "mapsHash", fn := fun _ => fun
  | [d1, d2] => { results := [.lit (.bool false)], args := [d1, d2] }
  | _ => none }
def MapsHashWrongFalsely : Prop := mapsHashRow.holds Try.pinned (OpenSpec.ofChange mapsHashWrong)

/-- 'firewalllaw08.MapsArray': WHATEVER THE INPUT: true; the input reads as it did. -/
def mapsArraySpec : ChangeSpec := { name := "mapsArray", fn := fun _ => fun
  | [d] => { results := [.lit (.bool true)], args := [d] }
  | _ => none }
def mapsArrayRow : OpenClaim := { program := "ytafegjmaldbbiaa", sum := "c95720ab60ade6a7f6b7ae9ead6a423f40a2b9a7f948a2bdc63e972d0f0e7639", func := "firewall/firewalllaw08.MapsArray", spec := "mapsArray", inPlace := ["internal/abi.NoEscape", "internal/bytealg.MakeNoZero"], unfollowed := true, recurses := true, apart := false }
def MapsArraySaid : Prop := mapsArrayRow.holds Try.pinned (OpenSpec.ofChange mapsArraySpec)

/-- ITS FALSE NEIGHBOUR: 'it returns false'. Refute it at one input. -/
def mapsArrayWrong : ChangeSpec := { name := "mapsArray", fn := fun _ => fun
  | [d] => { results := [.lit (.bool false)], args := [d] }
  | _ => none }
def MapsArrayWrongFalsely : Prop := mapsArrayRow.holds Try.pinned (OpenSpec.ofChange mapsArrayWrong)

/-- 'firewalllaw08.MapsKeep': WHATEVER THE INPUT: true; the input reads as it did. -/
def mapsKeepSpec : ChangeSpec := { name := "mapsKeep", fn := fun _ => fun
  | [d1, d2] => { results := [.lit (.bool true)], args := [d1, d2] }
  | _ => none }
def mapsKeepRow : OpenClaim := { program := "ytafegjmaldbbiaa", sum := "c95720ab60ade6a7f6b7ae9ead6a423f40a2b9a7f948a2bdc63e972d0f0e7639", func := "firewall/firewalllaw08.MapsKeep", spec := "mapsKeep", inPlace := ["internal/abi.NoEscape", "internal/bytealg.MakeNoZero"], unfollowed := true, recurses := true, apart := false }
def MapsKeepSaid : Prop := mapsKeepRow.holds Try.pinned (OpenSpec.ofChange mapsKeepSpec)

/-- ITS FALSE NEIGHBOUR: 'it returns false'. Refute it at one input. -/
def mapsKeepWrong : ChangeSpec := { name := "mapsKeep", fn := fun _ => fun
  | [d1, d2] => { results := [.lit (.bool false)], args := [d1, d2] }
  | _ => none }
def MapsKeepWrongFalsely : Prop := mapsKeepRow.holds Try.pinned (OpenSpec.ofChange mapsKeepWrong)

/- THE SECOND FORM. 'bulk': how many values and letters a reading holds, each counted each time it is reached (what is shared counts as often as it is met; a slice's spare places count too). A statement '..UptoSaid' is the law's where the arguments, and the package variables that the reading takes, are together of bulk at most 1048576: NARROWER than '..Said'. Prove '..Said' where nothing that the law and all that it calls make is longer than what came in: it says more and counts as full. Else prove '..UptoSaid'. A law counts once. -/
mutual
def uptoBulk {H : Type} : DataW H → Nat
  | .lit (.string bytes) => bytes.length + 1
  | .lit _ => 1
  | .nil => 1
  | .ptr d => uptoBulk d + 1
  | .slice elems spare => uptoBulkAll elems + uptoBulkAll spare + 1
  | .agg parts => uptoBulkAll parts + 1
  | .iface _ d => uptoBulk d + 1
  | .map entries => uptoBulkEntries entries + 1
  | .held _ => 1
def uptoBulkAll {H : Type} : List (DataW H) → Nat
  | [] => 0
  | d :: r => uptoBulk d + uptoBulkAll r
def uptoBulkEntries {H : Type} : List (Lit × DataW H) → Nat
  | [] => 0
  | x :: r => uptoBulkEntry x + uptoBulkEntries r
def uptoBulkEntry {H : Type} : Lit × DataW H → Nat
  | (.string bytes, d) => bytes.length + uptoBulk d + 1
  | (_, d) => uptoBulk d + 1
 end
def uptoSmall : (H : Type) → List (DataW H) → Bool := fun _ ds => decide (uptoBulkAll ds ≤ 1048576)
def OpenSpec.upto (s : _root_.Go.ChangeSpec) : _root_.Go.OpenSpec := { _root_.Go.OpenSpec.ofChange s with cond := some uptoSmall }

/-- 'firewalllaw08.MapsHash', WHERE WHAT IT READS IS OF BULK AT MOST 1048576: true; the input reads as it did. -/
def mapsHashUptoRow : OpenClaim := { program := "ytafegjmaldbbiaa", sum := "c95720ab60ade6a7f6b7ae9ead6a423f40a2b9a7f948a2bdc63e972d0f0e7639", func := "firewall/firewalllaw08.MapsHash", spec := "mapsHash", inPlace := ["internal/abi.NoEscape", "internal/bytealg.MakeNoZero"], unfollowed := true, recurses := true, apart := false, narrowed := true }
def MapsHashUptoSaid : Prop := mapsHashUptoRow.holds Try.pinned (OpenSpec.upto mapsHashSpec)

/-- 'firewalllaw08.MapsArray', WHERE WHAT IT READS IS OF BULK AT MOST 1048576: true; the input reads as it did. -/
def mapsArrayUptoRow : OpenClaim := { program := "ytafegjmaldbbiaa", sum := "c95720ab60ade6a7f6b7ae9ead6a423f40a2b9a7f948a2bdc63e972d0f0e7639", func := "firewall/firewalllaw08.MapsArray", spec := "mapsArray", inPlace := ["internal/abi.NoEscape", "internal/bytealg.MakeNoZero"], unfollowed := true, recurses := true, apart := false, narrowed := true }
def MapsArrayUptoSaid : Prop := mapsArrayUptoRow.holds Try.pinned (OpenSpec.upto mapsArraySpec)

/-- 'firewalllaw08.MapsKeep', WHERE WHAT IT READS IS OF BULK AT MOST 1048576: true; the input reads as it did. -/
def mapsKeepUptoRow : OpenClaim := { program := "ytafegjmaldbbiaa", sum := "c95720ab60ade6a7f6b7ae9ead6a423f40a2b9a7f948a2bdc63e972d0f0e7639", func := "firewall/firewalllaw08.MapsKeep", spec := "mapsKeep", inPlace := ["internal/abi.NoEscape", "internal/bytealg.MakeNoZero"], unfollowed := true, recurses := true, apart := false, narrowed := true }
def MapsKeepUptoSaid : Prop := mapsKeepUptoRow.holds Try.pinned (OpenSpec.upto mapsKeepSpec)

end Rows
end Go.Proofs.Ytafegjmaldbbiaa
