/-
  No cell of these rows narrows 'for every input' (looked for: loops, veiled, ifaces, maps, wideKeys, modest, calm, conditions, laid).
  DERIVED. THE GIVEN ROWS OF THIS SEAT. 6 by the template 'for every input the law returns true; each argument reads behind the call as it read before'; 0 by the template 'total and deterministic' (their statements: YtcpgbhmddfakgaaTotals.lean).
  GIVEN WITH THE SEED: the statements are not yours to turn. If you find one false, say at which input.
  Laid BY PROGRAM, IN A SANDBOX (cutbox-rows.mjs): the forced cells as the released guide's own fill.sh prints them over the translation 800371cd4ce23eba… (all of the seat's roots in one cut). By AI agents, Wed Nov 11 2026. No macro, syntax, notation, axiom, sorry.
-/
import Derived.Test.YtcpgbhmddfakgaaChecked
import GoSem.Claim
import GoSem.ClaimJoined
import GoSem.ClaimMapViews
import Derived.JoinedTies
import Derived.KernelRfl
namespace Go.Proofs.Ytcpgbhmddfakgaa
/- THE CELL 'sum', in the pinned program and in every row, IS THE sha256 OF THE DUMP (.gsa) THAT YtcpgbhmddfakgaaProg.lean LOADS. Nothing in Lean hashes anything: it is a label: what it is worth is what the hold of that sum in a sandbox is worth. -/
noncomputable def Try.pinned : Pinned := { name := "ytcpgbhmddfakgaa", sum := "800371cd4ce23eba6bef05a422049cdfcfcea3fec0c3435040b39bb1eea10035", checked := Try.checked }
namespace Rows
def none {H : Type} : Left H := { results := [], args := [] }

/-- 'firewalllaw07.MemoryPlay': WHATEVER THE INPUT: true; the input reads as it did. -/
def memoryPlaySpec : ChangeSpec := { name := "memoryPlay", fn := fun _ => fun
  | [d1, d2] => { results := [.lit (.bool true)], args := [d1, d2] }
  | _ => none }
def memoryPlayRow : OpenClaim := { program := "ytcpgbhmddfakgaa", sum := "800371cd4ce23eba6bef05a422049cdfcfcea3fec0c3435040b39bb1eea10035", func := "firewall/firewalllaw07.MemoryPlay", spec := "memoryPlay", unfollowed := true, recurses := true, apart := false }
def MemoryPlaySaid : Prop := memoryPlayRow.holds Try.pinned (OpenSpec.ofChange memoryPlaySpec)

/-- ITS FALSE NEIGHBOUR: 'it returns false'. Refute it at one input. -/
def memoryPlayWrong : ChangeSpec := { name := "memoryPlay", fn := fun _ => fun
  | [d1, d2] => { results := [.lit (.bool false)], args := [d1, d2] }
  | _ => none }
def MemoryPlayWrongFalsely : Prop := memoryPlayRow.holds Try.pinned (OpenSpec.ofChange memoryPlayWrong)

/-- 'firewalllaw07.MemoryNone': WHATEVER THE INPUT: true; the input reads as it did. -/
def memoryNoneSpec : ChangeSpec := { name := "memoryNone", fn := fun _ => fun
  | [d] => { results := [.lit (.bool true)], args := [d] }
  | _ => none }
def memoryNoneRow : OpenClaim := { program := "ytcpgbhmddfakgaa", sum := "800371cd4ce23eba6bef05a422049cdfcfcea3fec0c3435040b39bb1eea10035", func := "firewall/firewalllaw07.MemoryNone", spec := "memoryNone", unfollowed := true, recurses := true, apart := false }
def MemoryNoneSaid : Prop := memoryNoneRow.holds Try.pinned (OpenSpec.ofChange memoryNoneSpec)

/-- ITS FALSE NEIGHBOUR: 'it returns false'. Refute it at one input. -/
def memoryNoneWrong : ChangeSpec := { name := "memoryNone", fn := fun _ => fun
  | [d] => { results := [.lit (.bool false)], args := [d] }
  | _ => none }
def MemoryNoneWrongFalsely : Prop := memoryNoneRow.holds Try.pinned (OpenSpec.ofChange memoryNoneWrong)

/-- 'firewalllaw07.MemoryWrite': WHATEVER THE INPUT: true; the input reads as it did. -/
def memoryWriteSpec : ChangeSpec := { name := "memoryWrite", fn := fun _ => fun
  | [d1, d2, d3] => { results := [.lit (.bool true)], args := [d1, d2, d3] }
  | _ => none }
def memoryWriteRow : OpenClaim := { program := "ytcpgbhmddfakgaa", sum := "800371cd4ce23eba6bef05a422049cdfcfcea3fec0c3435040b39bb1eea10035", func := "firewall/firewalllaw07.MemoryWrite", spec := "memoryWrite", unfollowed := true, recurses := true, apart := false }
def MemoryWriteSaid : Prop := memoryWriteRow.holds Try.pinned (OpenSpec.ofChange memoryWriteSpec)

/-- ITS FALSE NEIGHBOUR: 'it returns false'. Refute it at one input. -/
def memoryWriteWrong : ChangeSpec := { name := "memoryWrite", fn := fun _ => fun
  | [d1, d2, d3] => { results := [.lit (.bool false)], args := [d1, d2, d3] }
  | _ => none }
def MemoryWriteWrongFalsely : Prop := memoryWriteRow.holds Try.pinned (OpenSpec.ofChange memoryWriteWrong)

/-- 'firewalllaw07.MemoryEdges': WHATEVER THE INPUT: true; the input reads as it did. -/
def memoryEdgesSpec : ChangeSpec := { name := "memoryEdges", fn := fun _ => fun
  | [d1, d2, d3] => { results := [.lit (.bool true)], args := [d1, d2, d3] }
  | _ => none }
def memoryEdgesRow : OpenClaim := { program := "ytcpgbhmddfakgaa", sum := "800371cd4ce23eba6bef05a422049cdfcfcea3fec0c3435040b39bb1eea10035", func := "firewall/firewalllaw07.MemoryEdges", spec := "memoryEdges", unfollowed := true, recurses := true, apart := false }
def MemoryEdgesSaid : Prop := memoryEdgesRow.holds Try.pinned (OpenSpec.ofChange memoryEdgesSpec)

/-- ITS FALSE NEIGHBOUR: 'it returns false'. Refute it at one input. -/
def memoryEdgesWrong : ChangeSpec := { name := "memoryEdges", fn := fun _ => fun
  | [d1, d2, d3] => { results := [.lit (.bool false)], args := [d1, d2, d3] }
  | _ => none }
def MemoryEdgesWrongFalsely : Prop := memoryEdgesRow.holds Try.pinned (OpenSpec.ofChange memoryEdgesWrong)

/-- 'firewalllaw07.MemoryOver': WHATEVER THE INPUT: true; the input reads as it did. -/
def memoryOverSpec : ChangeSpec := { name := "memoryOver", fn := fun _ => fun
  | [d1, d2] => { results := [.lit (.bool true)], args := [d1, d2] }
  | _ => none }
def memoryOverRow : OpenClaim := { program := "ytcpgbhmddfakgaa", sum := "800371cd4ce23eba6bef05a422049cdfcfcea3fec0c3435040b39bb1eea10035", func := "firewall/firewalllaw07.MemoryOver", spec := "memoryOver", unfollowed := true, recurses := true, apart := false }
def MemoryOverSaid : Prop := memoryOverRow.holds Try.pinned (OpenSpec.ofChange memoryOverSpec)

/-- ITS FALSE NEIGHBOUR: 'it returns false'. Refute it at one input. -/
def memoryOverWrong : ChangeSpec := { name := "memoryOver", fn := fun _ => fun
  | [d1, d2] => { results := [.lit (.bool false)], args := [d1, d2] }
  | _ => none }
def MemoryOverWrongFalsely : Prop := memoryOverRow.holds Try.pinned (OpenSpec.ofChange memoryOverWrong)

/-- 'firewalllaw08.MapsNone': WHATEVER THE INPUT: true; the input reads as it did. -/
def mapsNoneSpec : ChangeSpec := { name := "mapsNone", fn := fun _ => fun
  | [d1, d2] => { results := [.lit (.bool true)], args := [d1, d2] }
  | _ => none }
def mapsNoneRow : OpenClaim := { program := "ytcpgbhmddfakgaa", sum := "800371cd4ce23eba6bef05a422049cdfcfcea3fec0c3435040b39bb1eea10035", func := "firewall/firewalllaw08.MapsNone", spec := "mapsNone", inPlace := ["internal/abi.NoEscape", "internal/bytealg.MakeNoZero"], unfollowed := true, recurses := true, apart := false }
def MapsNoneSaid : Prop := mapsNoneRow.holds Try.pinned (OpenSpec.ofChange mapsNoneSpec)

/-- ITS FALSE NEIGHBOUR: 'it returns false'. Refute it at one input. -/
def mapsNoneWrong : ChangeSpec := { name := "mapsNone", fn := fun _ => fun
  | [d1, d2] => { results := [.lit (.bool false)], args := [d1, d2] }
  | _ => none }
def MapsNoneWrongFalsely : Prop := mapsNoneRow.holds Try.pinned (OpenSpec.ofChange mapsNoneWrong)

/- THE SECOND FORM. 'bulk': how many values and letters a reading holds, each counted each time it is reached (what is shared counts as often as it is met; a slice's spare places count too). A statement '..UptoSaid' is the law's where the arguments, and the package variables that the reading takes, are together of bulk at most 1048576: NARROWER than '..Said'. Prove '..Said' where nothing that the law and all that it calls make is longer than what came in: it says more and counts as full. Else prove '..UptoSaid'. A law counts once. -/
mutual
def uptoBulk {H : Type} : DataW H → Nat
  | .lit (.string bytes) => bytes.length + 1
  | .lit _ => 1
  | .nil => 1
  | .ptr d => uptoBulk d + 1
  | .slice elems spare => uptoBulkAll elems + uptoBulkAll spare + 1
  | .agg parts => uptoBulkAll parts + 1
  | .iface _ d => uptoBulk d + 1
  | .map entries => uptoBulkEntries entries + 1
  | .held _ => 1
def uptoBulkAll {H : Type} : List (DataW H) → Nat
  | [] => 0
  | d :: r => uptoBulk d + uptoBulkAll r
def uptoBulkEntries {H : Type} : List (Lit × DataW H) → Nat
  | [] => 0
  | x :: r => uptoBulkEntry x + uptoBulkEntries r
def uptoBulkEntry {H : Type} : Lit × DataW H → Nat
  | (.string bytes, d) => bytes.length + uptoBulk d + 1
  | (_, d) => uptoBulk d + 1
 end
def uptoSmall : (H : Type) → List (DataW H) → Bool := fun _ ds => decide (uptoBulkAll ds ≤ 1048576)
def OpenSpec.upto (s : _root_.Go.ChangeSpec) : _root_.Go.OpenSpec := { _root_.Go.OpenSpec.ofChange s with cond := some uptoSmall }

/-- 'firewalllaw07.MemoryPlay', WHERE WHAT IT READS IS OF BULK AT MOST 1048576: true; the input reads as it did. -/
def memoryPlayUptoRow : OpenClaim := { program := "ytcpgbhmddfakgaa", sum := "800371cd4ce23eba6bef05a422049cdfcfcea3fec0c3435040b39bb1eea10035", func := "firewall/firewalllaw07.MemoryPlay", spec := "memoryPlay", unfollowed := true, recurses := true, apart := false, narrowed := true }
def MemoryPlayUptoSaid : Prop := memoryPlayUptoRow.holds Try.pinned (OpenSpec.upto memoryPlaySpec)

/-- 'firewalllaw07.MemoryNone', WHERE WHAT IT READS IS OF BULK AT MOST 1048576: true; the input reads as it did. -/
def memoryNoneUptoRow : OpenClaim := { program := "ytcpgbhmddfakgaa", sum := "800371cd4ce23eba6bef05a422049cdfcfcea3fec0c3435040b39bb1eea10035", func := "firewall/firewalllaw07.MemoryNone", spec := "memoryNone", unfollowed := true, recurses := true, apart := false, narrowed := true }
def MemoryNoneUptoSaid : Prop := memoryNoneUptoRow.holds Try.pinned (OpenSpec.upto memoryNoneSpec)

/-- 'firewalllaw07.MemoryWrite', WHERE WHAT IT READS IS OF BULK AT MOST 1048576: true; the input reads as it did. -/
def memoryWriteUptoRow : OpenClaim := { program := "ytcpgbhmddfakgaa", sum := "800371cd4ce23eba6bef05a422049cdfcfcea3fec0c3435040b39bb1eea10035", func := "firewall/firewalllaw07.MemoryWrite", spec := "memoryWrite", unfollowed := true, recurses := true, apart := false, narrowed := true }
def MemoryWriteUptoSaid : Prop := memoryWriteUptoRow.holds Try.pinned (OpenSpec.upto memoryWriteSpec)

/-- 'firewalllaw07.MemoryEdges', WHERE WHAT IT READS IS OF BULK AT MOST 1048576: true; the input reads as it did. -/
def memoryEdgesUptoRow : OpenClaim := { program := "ytcpgbhmddfakgaa", sum := "800371cd4ce23eba6bef05a422049cdfcfcea3fec0c3435040b39bb1eea10035", func := "firewall/firewalllaw07.MemoryEdges", spec := "memoryEdges", unfollowed := true, recurses := true, apart := false, narrowed := true }
def MemoryEdgesUptoSaid : Prop := memoryEdgesUptoRow.holds Try.pinned (OpenSpec.upto memoryEdgesSpec)

/-- 'firewalllaw07.MemoryOver', WHERE WHAT IT READS IS OF BULK AT MOST 1048576: true; the input reads as it did. -/
def memoryOverUptoRow : OpenClaim := { program := "ytcpgbhmddfakgaa", sum := "800371cd4ce23eba6bef05a422049cdfcfcea3fec0c3435040b39bb1eea10035", func := "firewall/firewalllaw07.MemoryOver", spec := "memoryOver", unfollowed := true, recurses := true, apart := false, narrowed := true }
def MemoryOverUptoSaid : Prop := memoryOverUptoRow.holds Try.pinned (OpenSpec.upto memoryOverSpec)

/-- 'firewalllaw08.MapsNone', WHERE WHAT IT READS IS OF BULK AT MOST 1048576: true; the input reads as it did. -/
def mapsNoneUptoRow : OpenClaim := { program := "ytcpgbhmddfakgaa", sum := "800371cd4ce23eba6bef05a422049cdfcfcea3fec0c3435040b39bb1eea10035", func := "firewall/firewalllaw08.MapsNone", spec := "mapsNone", inPlace := ["internal/abi.NoEscape", "internal/bytealg.MakeNoZero"], unfollowed := true, recurses := true, apart := false, narrowed := true }
def MapsNoneUptoSaid : Prop := mapsNoneUptoRow.holds Try.pinned (OpenSpec.upto mapsNoneSpec)

end Rows
end Go.Proofs.Ytcpgbhmddfakgaa
