/-
  No cell of these rows narrows 'for every input' (looked for: loops, veiled, ifaces, maps, wideKeys, modest, calm, conditions, laid).
  DERIVED. THE GIVEN ROWS OF THIS SEAT. 3 by the template 'for every input the law returns true; each argument reads behind the call as it read before'; 0 by the template 'total and deterministic' (their statements: YtkdnjphgmifkmaaTotals.lean).
  GIVEN WITH THE SEED: the statements are not yours to turn. If you find one false, say at which input.
  Laid BY PROGRAM, IN A SANDBOX (cutbox-rows.mjs): the forced cells as the released guide's own fill.sh prints them over the translation 6c2e6189d81b5a74… (all of the seat's roots in one cut). By AI agents, Wed Nov 11 2026. No macro, syntax, notation, axiom, sorry.
-/
import Derived.Test.YtkdnjphgmifkmaaChecked
import GoSem.Claim
import GoSem.ClaimJoined
import GoSem.ClaimMapViews
import Derived.JoinedTies
import Derived.KernelRfl
namespace Go.Proofs.Ytkdnjphgmifkmaa
/- THE CELL 'sum', in the pinned program and in every row, IS THE sha256 OF THE DUMP (.gsa) THAT YtkdnjphgmifkmaaProg.lean LOADS. Nothing in Lean hashes anything: it is a label: what it is worth is what the hold of that sum in a sandbox is worth. -/
noncomputable def Try.pinned : Pinned := { name := "ytkdnjphgmifkmaa", sum := "6c2e6189d81b5a74a490771e23c67b80b936d9a0494d2734a8781684e19dac3e", checked := Try.checked }
namespace Rows
def none {H : Type} : Left H := { results := [], args := [] }

/-- 'firewalllaw08.MapsKeep': WHATEVER THE INPUT: true; the input reads as it did. -/
def mapsKeepSpec : ChangeSpec := { name := "mapsKeep", fn := fun _ => fun
  | [d1, d2] => { results := [.lit (.bool true)], args := [d1, d2] }
  | _ => none }
def mapsKeepRow : OpenClaim := { program := "ytkdnjphgmifkmaa", sum := "6c2e6189d81b5a74a490771e23c67b80b936d9a0494d2734a8781684e19dac3e", func := "firewall/firewalllaw08.MapsKeep", spec := "mapsKeep", inPlace := ["internal/abi.NoEscape", "internal/bytealg.MakeNoZero"], unfollowed := true, recurses := true, apart := false }
def MapsKeepSaid : Prop := mapsKeepRow.holds Try.pinned (OpenSpec.ofChange mapsKeepSpec)

/-- ITS FALSE NEIGHBOUR: 'it returns false'. Refute it at one input. -/
def mapsKeepWrong : ChangeSpec := { name := "mapsKeep", fn := fun _ => fun
  | [d1, d2] => { results := [.lit (.bool false)], args := [d1, d2] }
  | _ => none }
def MapsKeepWrongFalsely : Prop := mapsKeepRow.holds Try.pinned (OpenSpec.ofChange mapsKeepWrong)

/-- 'firewalllaw07.MemoryWrite': WHATEVER THE INPUT: true; the input reads as it did. -/
def memoryWriteSpec : ChangeSpec := { name := "memoryWrite", fn := fun _ => fun
  | [d1, d2, d3] => { results := [.lit (.bool true)], args := [d1, d2, d3] }
  | _ => none }
def memoryWriteRow : OpenClaim := { program := "ytkdnjphgmifkmaa", sum := "6c2e6189d81b5a74a490771e23c67b80b936d9a0494d2734a8781684e19dac3e", func := "firewall/firewalllaw07.MemoryWrite", spec := "memoryWrite", unfollowed := true, recurses := true, apart := false }
def MemoryWriteSaid : Prop := memoryWriteRow.holds Try.pinned (OpenSpec.ofChange memoryWriteSpec)

/-- ITS FALSE NEIGHBOUR: 'it returns false'. Refute it at one input. -/
def memoryWriteWrong : ChangeSpec := { name := "memoryWrite", fn := fun _ => fun
  | [d1, d2, d3] => { results := [.lit (.bool false)], args := [d1, d2, d3] }
  | _ => none }
def MemoryWriteWrongFalsely : Prop := memoryWriteRow.holds Try.pinned (OpenSpec.ofChange memoryWriteWrong)

/-- 'firewalllaw07.MemoryOver': WHATEVER THE INPUT: true; the input reads as it did. -/
def memoryOverSpec : ChangeSpec := { name := "memoryOver", fn := fun _ => fun
  | [d1, d2] => { results := [.lit (.bool true)], args := [d1, d2] }
  | _ => none }
def memoryOverRow : OpenClaim := { program := "ytkdnjphgmifkmaa", sum := "6c2e6189d81b5a74a490771e23c67b80b936d9a0494d2734a8781684e19dac3e", func := "firewall/firewalllaw07.MemoryOver", spec := "memoryOver", unfollowed := true, recurses := true, apart := false }
def MemoryOverSaid : Prop := memoryOverRow.holds Try.pinned (OpenSpec.ofChange memoryOverSpec)

/-- ITS FALSE NEIGHBOUR: 'it returns false'. Refute it at one input. -/
def memoryOverWrong : ChangeSpec := { name := "memoryOver", fn := fun _ => fun
  | [d1, d2] => { results := [.lit (.bool false)], args := [d1, d2] }
  | _ => none }
def MemoryOverWrongFalsely : Prop := memoryOverRow.holds Try.pinned (OpenSpec.ofChange memoryOverWrong)

/- THE SECOND FORM. 'bulk': how many values and letters a reading holds, each counted each time it is reached (what is shared counts as often as it is met; a slice's spare places count too). A statement '..UptoSaid' is the law's where the arguments, and the package variables that the reading takes, are together of bulk at most 1048576: NARROWER than '..Said'. Prove '..Said' where nothing that the law and all that it calls make is longer than what came in: it says more and counts as full. Else prove '..UptoSaid'. A law counts once. -/
mutual
def uptoBulk {H : Type} : DataW H → Nat
  | .lit (.string bytes) => bytes.length + 1
  | .lit _ => 1
  | .nil => 1
  | .ptr d => uptoBulk d + 1
  | .slice elems spare => uptoBulkAll elems + uptoBulkAll spare + 1
  | .agg parts => uptoBulkAll parts + 1
  | .iface _ d => uptoBulk d + 1
  | .map entries => uptoBulkEntries entries + 1
  | .held _ => 1
def uptoBulkAll {H : Type} : List (DataW H) → Nat
  | [] => 0
  | d :: r => uptoBulk d + uptoBulkAll r
def uptoBulkEntries {H : Type} : List (Lit × DataW H) → Nat
  | [] => 0
  | x :: r => uptoBulkEntry x + uptoBulkEntries r
def uptoBulkEntry {H : Type} : Lit × DataW H → Nat
  | (.string bytes, d) => bytes.length + uptoBulk d + 1
  | (_, d) => uptoBulk d + 1
 end
def uptoSmall : (H : Type) → List (DataW H) → Bool := fun _ ds => decide (uptoBulkAll ds ≤ 1048576)
def OpenSpec.upto (s : _root_.Go.ChangeSpec) : _root_.Go.OpenSpec := { _root_.Go.OpenSpec.ofChange s with cond := some uptoSmall }

/-- 'firewalllaw08.MapsKeep', WHERE WHAT IT READS IS OF BULK AT MOST 1048576: true; the input reads as it did. -/
def mapsKeepUptoRow : OpenClaim := { program := "ytkdnjphgmifkmaa", sum := "6c2e6189d81b5a74a490771e23c67b80b936d9a0494d2734a8781684e19dac3e", func := "firewall/firewalllaw08.MapsKeep", spec := "mapsKeep", inPlace := ["internal/abi.NoEscape", "internal/bytealg.MakeNoZero"], unfollowed := true, recurses := true, apart := false, narrowed := true }
def MapsKeepUptoSaid : Prop := mapsKeepUptoRow.holds Try.pinned (OpenSpec.upto mapsKeepSpec)

/-- 'firewalllaw07.MemoryWrite', WHERE WHAT IT READS IS OF BULK AT MOST 1048576: true; the input reads as it did. -/
def memoryWriteUptoRow : OpenClaim := { program := "ytkdnjphgmifkmaa", sum := "6c2e6189d81b5a74a490771e23c67b80b936d9a0494d2734a8781684e19dac3e", func := "firewall/firewalllaw07.MemoryWrite", spec := "memoryWrite", unfollowed := true, recurses := true, apart := false, narrowed := true }
def MemoryWriteUptoSaid : Prop := memoryWriteUptoRow.holds Try.pinned (OpenSpec.upto memoryWriteSpec)

/-- 'firewalllaw07.MemoryOver', WHERE WHAT IT READS IS OF BULK AT MOST 1048576: true; the input reads as it did. -/
def memoryOverUptoRow : OpenClaim := { program := "ytkdnjphgmifkmaa", sum := "6c2e6189d81b5a74a490771e23c67b80b936d9a0494d2734a8781684e19dac3e", func := "firewall/firewalllaw07.MemoryOver", spec := "memoryOver", unfollowed := true, recurses := true, apart := false, narrowed := true }
def MemoryOverUptoSaid : Prop := memoryOverUptoRow.holds Try.pinned (OpenSpec.upto memoryOverSpec)

end Rows
end Go.Proofs.Ytkdnjphgmifkmaa
