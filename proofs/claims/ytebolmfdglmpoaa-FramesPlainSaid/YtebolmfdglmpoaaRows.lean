/-
  No cell of these rows narrows 'for every input' (looked for: loops, veiled, ifaces, maps, wideKeys, modest, calm, conditions, laid).
  DERIVED. THE GIVEN ROWS OF THIS SEAT. 6 by the template 'for every input the law returns true; each argument reads behind the call as it read before'; 0 by the template 'total and deterministic' (their statements: YtebolmfdglmpoaaTotals.lean).
  GIVEN WITH THE SEED: the statements are not yours to turn. If you find one false, say at which input.
  Laid BY PROGRAM, IN A SANDBOX (cutbox-rows.mjs): the forced cells as the released guide's own fill.sh prints them over the translation 11262e56459bd3db… (all of the seat's roots in one cut). By AI agents, Wed Nov 11 2026. No macro, syntax, notation, axiom, sorry.
-/
import Derived.Test.YtebolmfdglmpoaaChecked
import GoSem.Claim
import GoSem.ClaimJoined
import GoSem.ClaimMapViews
import Derived.JoinedTies
import Derived.KernelRfl
namespace Go.Proofs.Ytebolmfdglmpoaa
/- THE CELL 'sum', in the pinned program and in every row, IS THE sha256 OF THE DUMP (.gsa) THAT YtebolmfdglmpoaaProg.lean LOADS. Nothing in Lean hashes anything: it is a label: what it is worth is what the hold of that sum in a sandbox is worth. -/
noncomputable def Try.pinned : Pinned := { name := "ytebolmfdglmpoaa", sum := "11262e56459bd3dba4e4e712742c9d3e9796ac91627e7e990147dba7a607edee", checked := Try.checked }
namespace Rows
def none {H : Type} : Left H := { results := [], args := [] }

/-- 'firewalllaw19.SlotsIn': WHATEVER THE INPUT: true; the input reads as it did. -/
def slotsInSpec : ChangeSpec := { name := "slotsIn", fn := fun _ => fun
  | [d1, d2] => { results := [.lit (.bool true)], args := [d1, d2] }
  | _ => none }
def slotsInRow : OpenClaim := { program := "ytebolmfdglmpoaa", sum := "11262e56459bd3dba4e4e712742c9d3e9796ac91627e7e990147dba7a607edee", func := "firewall/firewalllaw19.SlotsIn", spec := "slotsIn", apart := false }
def SlotsInSaid : Prop := slotsInRow.holds Try.pinned (OpenSpec.ofChange slotsInSpec)

/-- ITS FALSE NEIGHBOUR: 'it returns false'. Refute it at one input. -/
def slotsInWrong : ChangeSpec := { name := "slotsIn", fn := fun _ => fun
  | [d1, d2] => { results := [.lit (.bool false)], args := [d1, d2] }
  | _ => none }
def SlotsInWrongFalsely : Prop := slotsInRow.holds Try.pinned (OpenSpec.ofChange slotsInWrong)

/-- 'firewalllaw19.SlotsApart': WHATEVER THE INPUT: true; the input reads as it did. -/
def slotsApartSpec : ChangeSpec := { name := "slotsApart", fn := fun _ => fun
  | [d1, d2, d3] => { results := [.lit (.bool true)], args := [d1, d2, d3] }
  | _ => none }
def slotsApartRow : OpenClaim := { program := "ytebolmfdglmpoaa", sum := "11262e56459bd3dba4e4e712742c9d3e9796ac91627e7e990147dba7a607edee", func := "firewall/firewalllaw19.SlotsApart", spec := "slotsApart", apart := false }
def SlotsApartSaid : Prop := slotsApartRow.holds Try.pinned (OpenSpec.ofChange slotsApartSpec)

/-- ITS FALSE NEIGHBOUR: 'it returns false'. Refute it at one input. -/
def slotsApartWrong : ChangeSpec := { name := "slotsApart", fn := fun _ => fun
  | [d1, d2, d3] => { results := [.lit (.bool false)], args := [d1, d2, d3] }
  | _ => none }
def SlotsApartWrongFalsely : Prop := slotsApartRow.holds Try.pinned (OpenSpec.ofChange slotsApartWrong)

/-- 'firewalllaw20.FramesPlain': WHATEVER THE INPUT: true; the input reads as it did. -/
def framesPlainSpec : ChangeSpec := { name := "framesPlain", fn := fun _ => fun
  | [d1, d2, d3] => { results := [.lit (.bool true)], args := [d1, d2, d3] }
  | _ => none }
def framesPlainRow : OpenClaim := { program := "ytebolmfdglmpoaa", sum := "11262e56459bd3dba4e4e712742c9d3e9796ac91627e7e990147dba7a607edee", func := "firewall/firewalllaw20.FramesPlain", spec := "framesPlain", apart := false }
def FramesPlainSaid : Prop := framesPlainRow.holds Try.pinned (OpenSpec.ofChange framesPlainSpec)

/-- ITS FALSE NEIGHBOUR: 'it returns false'. Refute it at one input. -/
def framesPlainWrong : ChangeSpec := { name := "framesPlain", fn := fun _ => fun
  | [d1, d2, d3] => { results := [.lit (.bool false)], args := [d1, d2, d3] }
  | _ => none }
def FramesPlainWrongFalsely : Prop := framesPlainRow.holds Try.pinned (OpenSpec.ofChange framesPlainWrong)

/-- 'firewalllaw20.FramesSure': WHATEVER THE INPUT: true; the input reads as it did. -/
def framesSureSpec : ChangeSpec := { name := "framesSure", fn := fun _ => fun
  | [d1, d2, d3] => { results := [.lit (.bool true)], args := [d1, d2, d3] }
  | _ => none }
def framesSureRow : OpenClaim := { program := "ytebolmfdglmpoaa", sum := "11262e56459bd3dba4e4e712742c9d3e9796ac91627e7e990147dba7a607edee", func := "firewall/firewalllaw20.FramesSure", spec := "framesSure", unfollowed := true, recurses := true, apart := false }
def FramesSureSaid : Prop := framesSureRow.holds Try.pinned (OpenSpec.ofChange framesSureSpec)

/-- ITS FALSE NEIGHBOUR: 'it returns false'. Refute it at one input. -/
def framesSureWrong : ChangeSpec := { name := "framesSure", fn := fun _ => fun
  | [d1, d2, d3] => { results := [.lit (.bool false)], args := [d1, d2, d3] }
  | _ => none }
def FramesSureWrongFalsely : Prop := framesSureRow.holds Try.pinned (OpenSpec.ofChange framesSureWrong)

/-- 'firewalllaw20.FramesFound': WHATEVER THE INPUT: true; the input reads as it did. -/
def framesFoundSpec : ChangeSpec := { name := "framesFound", fn := fun _ => fun
  | [d1, d2, d3] => { results := [.lit (.bool true)], args := [d1, d2, d3] }
  | _ => none }
def framesFoundRow : OpenClaim := { program := "ytebolmfdglmpoaa", sum := "11262e56459bd3dba4e4e712742c9d3e9796ac91627e7e990147dba7a607edee", func := "firewall/firewalllaw20.FramesFound", spec := "framesFound", unfollowed := true, recurses := true, apart := false }
def FramesFoundSaid : Prop := framesFoundRow.holds Try.pinned (OpenSpec.ofChange framesFoundSpec)

/-- ITS FALSE NEIGHBOUR: 'it returns false'. Refute it at one input. -/
def framesFoundWrong : ChangeSpec := { name := "framesFound", fn := fun _ => fun
  | [d1, d2, d3] => { results := [.lit (.bool false)], args := [d1, d2, d3] }
  | _ => none }
def FramesFoundWrongFalsely : Prop := framesFoundRow.holds Try.pinned (OpenSpec.ofChange framesFoundWrong)

/-- 'firewalllaw20.FramesIn': WHATEVER THE INPUT: true; the input reads as it did. -/
def framesInSpec : ChangeSpec := { name := "framesIn", fn := fun _ => fun
  | [d1, d2] => { results := [.lit (.bool true)], args := [d1, d2] }
  | _ => none }
def framesInRow : OpenClaim := { program := "ytebolmfdglmpoaa", sum := "11262e56459bd3dba4e4e712742c9d3e9796ac91627e7e990147dba7a607edee", func := "firewall/firewalllaw20.FramesIn", spec := "framesIn", apart := false }
def FramesInSaid : Prop := framesInRow.holds Try.pinned (OpenSpec.ofChange framesInSpec)

/-- ITS FALSE NEIGHBOUR: 'it returns false'. Refute it at one input. -/
def framesInWrong : ChangeSpec := { name := "framesIn", fn := fun _ => fun
  | [d1, d2] => { results := [.lit (.bool false)], args := [d1, d2] }
  | _ => none }
def FramesInWrongFalsely : Prop := framesInRow.holds Try.pinned (OpenSpec.ofChange framesInWrong)

/- THE SECOND FORM. 'bulk': how many values and letters a reading holds, each counted each time it is reached (what is shared counts as often as it is met; a slice's spare places count too). A statement '..UptoSaid' is the law's where the arguments, and the package variables that the reading takes, are together of bulk at most 1048576: NARROWER than '..Said'. Prove '..Said' where nothing that the law and all that it calls make is longer than what came in: it says more and counts as full. Else prove '..UptoSaid'. A law counts once. -/
mutual
def uptoBulk {H : Type} : DataW H → Nat
  | .lit (.string bytes) => bytes.length + 1
  | .lit _ => 1
  | .nil => 1
  | .ptr d => uptoBulk d + 1
  | .slice elems spare => uptoBulkAll elems + uptoBulkAll spare + 1
  | .agg parts => uptoBulkAll parts + 1
  | .iface _ d => uptoBulk d + 1
  | .map entries => uptoBulkEntries entries + 1
  | .held _ => 1
def uptoBulkAll {H : Type} : List (DataW H) → Nat
  | [] => 0
  | d :: r => uptoBulk d + uptoBulkAll r
def uptoBulkEntries {H : Type} : List (Lit × DataW H) → Nat
  | [] => 0
  | x :: r => uptoBulkEntry x + uptoBulkEntries r
def uptoBulkEntry {H : Type} : Lit × DataW H → Nat
  | (.string bytes, d) => bytes.length + uptoBulk d + 1
  | (_, d) => uptoBulk d + 1
 end
def uptoSmall : (H : Type) → List (DataW H) → Bool := fun _ ds => decide (uptoBulkAll ds ≤ 1048576)
def OpenSpec.upto (s : _root_.Go.ChangeSpec) : _root_.Go.OpenSpec := { _root_.Go.OpenSpec.ofChange s with cond := some uptoSmall }

/-- 'firewalllaw19.SlotsIn', WHERE WHAT IT READS IS OF BULK AT MOST 1048576: true; the input reads as it did. -/
def slotsInUptoRow : OpenClaim := { program := "ytebolmfdglmpoaa", sum := "11262e56459bd3dba4e4e712742c9d3e9796ac91627e7e990147dba7a607edee", func := "firewall/firewalllaw19.SlotsIn", spec := "slotsIn", apart := false, narrowed := true }
def SlotsInUptoSaid : Prop := slotsInUptoRow.holds Try.pinned (OpenSpec.upto slotsInSpec)

/-- 'firewalllaw19.SlotsApart', WHERE WHAT IT READS IS OF BULK AT MOST 1048576: true; the input reads as it did. -/
def slotsApartUptoRow : OpenClaim := { program := "ytebolmfdglmpoaa", sum := "11262e56459bd3dba4e4e712742c9d3e9796ac91627e7e990147dba7a607edee", func := "firewall/firewalllaw19.SlotsApart", spec := "slotsApart", apart := false, narrowed := true }
def SlotsApartUptoSaid : Prop := slotsApartUptoRow.holds Try.pinned (OpenSpec.upto slotsApartSpec)

/-- 'firewalllaw20.FramesPlain', WHERE WHAT IT READS IS OF BULK AT MOST 1048576: true; the input reads as it did. -/
def framesPlainUptoRow : OpenClaim := { program := "ytebolmfdglmpoaa", sum := "11262e56459bd3dba4e4e712742c9d3e9796ac91627e7e990147dba7a607edee", func := "firewall/firewalllaw20.FramesPlain", spec := "framesPlain", apart := false, narrowed := true }
def FramesPlainUptoSaid : Prop := framesPlainUptoRow.holds Try.pinned (OpenSpec.upto framesPlainSpec)

/-- 'firewalllaw20.FramesSure', WHERE WHAT IT READS IS OF BULK AT MOST 1048576: true; the input reads as it did. -/
def framesSureUptoRow : OpenClaim := { program := "ytebolmfdglmpoaa", sum := "11262e56459bd3dba4e4e712742c9d3e9796ac91627e7e990147dba7a607edee", func := "firewall/firewalllaw20.FramesSure", spec := "framesSure", unfollowed := true, recurses := true, apart := false, narrowed := true }
def FramesSureUptoSaid : Prop := framesSureUptoRow.holds Try.pinned (OpenSpec.upto framesSureSpec)

/-- 'firewalllaw20.FramesFound', WHERE WHAT IT READS IS OF BULK AT MOST 1048576: true; the input reads as it did. -/
def framesFoundUptoRow : OpenClaim := { program := "ytebolmfdglmpoaa", sum := "11262e56459bd3dba4e4e712742c9d3e9796ac91627e7e990147dba7a607edee", func := "firewall/firewalllaw20.FramesFound", spec := "framesFound", unfollowed := true, recurses := true, apart := false, narrowed := true }
def FramesFoundUptoSaid : Prop := framesFoundUptoRow.holds Try.pinned (OpenSpec.upto framesFoundSpec)

/-- 'firewalllaw20.FramesIn', WHERE WHAT IT READS IS OF BULK AT MOST 1048576: true; the input reads as it did. -/
def framesInUptoRow : OpenClaim := { program := "ytebolmfdglmpoaa", sum := "11262e56459bd3dba4e4e712742c9d3e9796ac91627e7e990147dba7a607edee", func := "firewall/firewalllaw20.FramesIn", spec := "framesIn", apart := false, narrowed := true }
def FramesInUptoSaid : Prop := framesInUptoRow.holds Try.pinned (OpenSpec.upto framesInSpec)

end Rows
end Go.Proofs.Ytebolmfdglmpoaa
