/-
  No cell of these rows narrows 'for every input' (looked for: loops, veiled, ifaces, maps, wideKeys, modest, calm, conditions, laid).
  DERIVED. THE GIVEN ROWS OF THIS SEAT. 3 by the template 'for every input the law returns true; each argument reads behind the call as it read before'; 0 by the template 'total and deterministic' (their statements: YtdlgebfaijlaoaaTotals.lean).
  GIVEN WITH THE SEED: the statements are not yours to turn. If you find one false, say at which input.
  Laid BY PROGRAM, IN A SANDBOX (cutbox-rows.mjs): the forced cells as the released guide's own fill.sh prints them over the translation 236967d872f64a3e… (all of the seat's roots in one cut). By AI agents, Wed Nov 11 2026. No macro, syntax, notation, axiom, sorry.
-/
import Derived.Test.YtdlgebfaijlaoaaChecked
import GoSem.Claim
import GoSem.ClaimJoined
import GoSem.ClaimMapViews
import Derived.JoinedTies
import Derived.KernelRfl
namespace Go.Proofs.Ytdlgebfaijlaoaa
/- THE CELL 'sum', in the pinned program and in every row, IS THE sha256 OF THE DUMP (.gsa) THAT YtdlgebfaijlaoaaProg.lean LOADS. Nothing in Lean hashes anything: it is a label: what it is worth is what the hold of that sum in a sandbox is worth. -/
noncomputable def Try.pinned : Pinned := { name := "ytdlgebfaijlaoaa", sum := "236967d872f64a3edab62a8084cffe096d3b2eb0a30cd09ec07fa6431d5d675c", checked := Try.checked }
namespace Rows
def none {H : Type} : Left H := { results := [], args := [] }

/-- 'firewalllaw18.KindsAdd': WHATEVER THE INPUT: true; the input reads as it did. -/
def kindsAddSpec : ChangeSpec := { name := "kindsAdd", fn := fun _ => fun
  | [d1, d2, d3] => { results := [.lit (.bool true)], args := [d1, d2, d3] }
  | _ => none }
def kindsAddRow : OpenClaim := { program := "ytdlgebfaijlaoaa", sum := "236967d872f64a3edab62a8084cffe096d3b2eb0a30cd09ec07fa6431d5d675c", func := "firewall/firewalllaw18.KindsAdd", spec := "kindsAdd", inPlace := ["math/bits.Add64", "math/bits.Sub64"], recurses := true, apart := false }
def KindsAddSaid : Prop := kindsAddRow.holds Try.pinned (OpenSpec.ofChange kindsAddSpec)

/-- ITS FALSE NEIGHBOUR: 'it returns false'. Refute it at one input. -/
def kindsAddWrong : ChangeSpec := { name := "kindsAdd", fn := fun _ => fun
  | [d1, d2, d3] => { results := [.lit (.bool false)], args := [d1, d2, d3] }
  | _ => none }
def KindsAddWrongFalsely : Prop := kindsAddRow.holds Try.pinned (OpenSpec.ofChange kindsAddWrong)

/-- 'firewalllaw18.KindsIn': WHATEVER THE INPUT: true; the input reads as it did. -/
def kindsInSpec : ChangeSpec := { name := "kindsIn", fn := fun _ => fun
  | [d1, d2] => { results := [.lit (.bool true)], args := [d1, d2] }
  | _ => none }
def kindsInRow : OpenClaim := { program := "ytdlgebfaijlaoaa", sum := "236967d872f64a3edab62a8084cffe096d3b2eb0a30cd09ec07fa6431d5d675c", func := "firewall/firewalllaw18.KindsIn", spec := "kindsIn", inPlace := ["math/bits.Add64", "math/bits.Sub64"], recurses := true, apart := false }
def KindsInSaid : Prop := kindsInRow.holds Try.pinned (OpenSpec.ofChange kindsInSpec)

/-- ITS FALSE NEIGHBOUR: 'it returns false'. Refute it at one input. -/
def kindsInWrong : ChangeSpec := { name := "kindsIn", fn := fun _ => fun
  | [d1, d2] => { results := [.lit (.bool false)], args := [d1, d2] }
  | _ => none }
def KindsInWrongFalsely : Prop := kindsInRow.holds Try.pinned (OpenSpec.ofChange kindsInWrong)

/-- 'firewalllaw18.KindsLess': WHATEVER THE INPUT: true; the input reads as it did. -/
def kindsLessSpec : ChangeSpec := { name := "kindsLess", fn := fun _ => fun
  | [d1, d2] => { results := [.lit (.bool true)], args := [d1, d2] }
  | _ => none }
def kindsLessRow : OpenClaim := { program := "ytdlgebfaijlaoaa", sum := "236967d872f64a3edab62a8084cffe096d3b2eb0a30cd09ec07fa6431d5d675c", func := "firewall/firewalllaw18.KindsLess", spec := "kindsLess", inPlace := ["math/bits.Add64", "math/bits.Sub64"], recurses := true, apart := false }
def KindsLessSaid : Prop := kindsLessRow.holds Try.pinned (OpenSpec.ofChange kindsLessSpec)

/-- ITS FALSE NEIGHBOUR: 'it returns false'. Refute it at one input. -/
def kindsLessWrong : ChangeSpec := { name := "kindsLess", fn := fun _ => fun
  | [d1, d2] => { results := [.lit (.bool false)], args := [d1, d2] }
  | _ => none }
def KindsLessWrongFalsely : Prop := kindsLessRow.holds Try.pinned (OpenSpec.ofChange kindsLessWrong)

/- THE SECOND FORM. 'bulk': how many values and letters a reading holds, each counted each time it is reached (what is shared counts as often as it is met; a slice's spare places count too). A statement '..UptoSaid' is the law's where the arguments, and the package variables that the reading takes, are together of bulk at most 1048576: NARROWER than '..Said'. Prove '..Said' where nothing that the law and all that it calls make is longer than what came in: it says more and counts as full. Else prove '..UptoSaid'. A law counts once. -/
mutual
def uptoBulk {H : Type} : DataW H → Nat
  | .lit (.string bytes) => bytes.length + 1
  | .lit _ => 1
  | .nil => 1
  | .ptr d => uptoBulk d + 1
  | .slice elems spare => uptoBulkAll elems + uptoBulkAll spare + 1
  | .agg parts => uptoBulkAll parts + 1
  | .iface _ d => uptoBulk d + 1
  | .map entries => uptoBulkEntries entries + 1
  | .held _ => 1
def uptoBulkAll {H : Type} : List (DataW H) → Nat
  | [] => 0
  | d :: r => uptoBulk d + uptoBulkAll r
def uptoBulkEntries {H : Type} : List (Lit × DataW H) → Nat
  | [] => 0
  | x :: r => uptoBulkEntry x + uptoBulkEntries r
def uptoBulkEntry {H : Type} : Lit × DataW H → Nat
  | (.string bytes, d) => bytes.length + uptoBulk d + 1
  | (_, d) => uptoBulk d + 1
 end
def uptoSmall : (H : Type) → List (DataW H) → Bool := fun _ ds => decide (uptoBulkAll ds ≤ 1048576)
def OpenSpec.upto (s : _root_.Go.ChangeSpec) : _root_.Go.OpenSpec := { _root_.Go.OpenSpec.ofChange s with cond := some uptoSmall }

/-- 'firewalllaw18.KindsAdd', WHERE WHAT IT READS IS OF BULK AT MOST 1048576: true; the input reads as it did. -/
def kindsAddUptoRow : OpenClaim := { program := "ytdlgebfaijlaoaa", sum := "236967d872f64a3edab62a8084cffe096d3b2eb0a30cd09ec07fa6431d5d675c", func := "firewall/firewalllaw18.KindsAdd", spec := "kindsAdd", inPlace := ["math/bits.Add64", "math/bits.Sub64"], recurses := true, apart := false, narrowed := true }
def KindsAddUptoSaid : Prop := kindsAddUptoRow.holds Try.pinned (OpenSpec.upto kindsAddSpec)

/-- 'firewalllaw18.KindsIn', WHERE WHAT IT READS IS OF BULK AT MOST 1048576: true; the input reads as it did. -/
def kindsInUptoRow : OpenClaim := { program := "ytdlgebfaijlaoaa", sum := "236967d872f64a3edab62a8084cffe096d3b2eb0a30cd09ec07fa6431d5d675c", func := "firewall/firewalllaw18.KindsIn", spec := "kindsIn", inPlace := ["math/bits.Add64", "math/bits.Sub64"], recurses := true, apart := false, narrowed := true }
def KindsInUptoSaid : Prop := kindsInUptoRow.holds Try.pinned (OpenSpec.upto kindsInSpec)

/-- 'firewalllaw18.KindsLess', WHERE WHAT IT READS IS OF BULK AT MOST 1048576: true; the input reads as it did. -/
def kindsLessUptoRow : OpenClaim := { program := "ytdlgebfaijlaoaa", sum := "236967d872f64a3edab62a8084cffe096d3b2eb0a30cd09ec07fa6431d5d675c", func := "firewall/firewalllaw18.KindsLess", spec := "kindsLess", inPlace := ["math/bits.Add64", "math/bits.Sub64"], recurses := true, apart := false, narrowed := true }
def KindsLessUptoSaid : Prop := kindsLessUptoRow.holds Try.pinned (OpenSpec.upto kindsLessSpec)

end Rows
end Go.Proofs.Ytdlgebfaijlaoaa
