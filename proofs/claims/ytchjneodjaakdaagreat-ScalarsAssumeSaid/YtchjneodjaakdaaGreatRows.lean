/-
  No cell of these rows narrows 'for every input' (looked for: loops, veiled, ifaces, maps, wideKeys, modest, calm, conditions, laid).
  DERIVED. THE GIVEN ROWS OF THIS SEAT. 5 by the template 'for every input the law returns true; each argument reads behind the call as it read before'; 0 by the template 'total and deterministic' (their statements: YtchjneodjaakdaaGreatTotals.lean).
  GIVEN WITH THE SEED: the statements are not yours to turn. If you find one false, say at which input.
  Laid BY PROGRAM, IN A SANDBOX (cutbox-rows.mjs): the forced cells as the released guide's own fill.sh prints them over the translation e63f188e094d81b2… (all of the seat's roots in one cut). By AI agents, Wed Nov 11 2026. No macro, syntax, notation, axiom, sorry.
-/
import Derived.Test.YtchjneodjaakdaaGreatChecked
import GoSem.Claim
import GoSem.ClaimJoined
import GoSem.ClaimMapViews
import Derived.JoinedTies
import Derived.KernelRfl
namespace Go.Proofs.YtchjneodjaakdaaGreat
/- THE CELL 'sum', in the pinned program and in every row, IS THE sha256 OF THE DUMP (.gsa) THAT YtchjneodjaakdaaGreatProg.lean LOADS. Nothing in Lean hashes anything: it is a label: what it is worth is what the hold of that sum in a sandbox is worth. -/
noncomputable def Tryz.pinned : Pinned := { name := "ytchjneodjaakdaagreat", sum := "e63f188e094d81b24eb12d017af847d2010f437fbbd0d5b0235179976dd8fb8a", checked := Tryz.checked }
namespace Rows
def none {H : Type} : Left H := { results := [], args := [] }

/-- 'firewalllaw17.ScalarsDo': WHATEVER THE INPUT: true; the input reads as it did. -/
def scalarsDoSpec : ChangeSpec := { name := "scalarsDo", fn := fun _ => fun
  | [d1, d2, d3] => { results := [.lit (.bool true)], args := [d1, d2, d3] }
  | _ => none }
def scalarsDoRow : OpenClaim := { program := "ytchjneodjaakdaagreat", sum := "e63f188e094d81b24eb12d017af847d2010f437fbbd0d5b0235179976dd8fb8a", func := "firewall/firewalllaw17.ScalarsDo", spec := "scalarsDo", inPlace := ["math/bits.Add64", "math/bits.Sub64"], recurses := true, apart := false }
def ScalarsDoSaid : Prop := scalarsDoRow.holds Tryz.pinned (OpenSpec.ofChange scalarsDoSpec)

/-- ITS FALSE NEIGHBOUR: 'it returns false'. Refute it at one input. -/
def scalarsDoWrong : ChangeSpec := { name := "scalarsDo", fn := fun _ => fun
  | [d1, d2, d3] => { results := [.lit (.bool false)], args := [d1, d2, d3] }
  | _ => none }
def ScalarsDoWrongFalsely : Prop := scalarsDoRow.holds Tryz.pinned (OpenSpec.ofChange scalarsDoWrong)

/-- 'firewalllaw17.ScalarsAssume': WHATEVER THE INPUT: true; the input reads as it did. -/
def scalarsAssumeSpec : ChangeSpec := { name := "scalarsAssume", fn := fun _ => fun
  | [d1, d2, d3] => { results := [.lit (.bool true)], args := [d1, d2, d3] }
  | _ => none }
def scalarsAssumeRow : OpenClaim := { program := "ytchjneodjaakdaagreat", sum := "e63f188e094d81b24eb12d017af847d2010f437fbbd0d5b0235179976dd8fb8a", func := "firewall/firewalllaw17.ScalarsAssume", spec := "scalarsAssume", inPlace := ["math/bits.Add64", "math/bits.Sub64"], recurses := true, apart := false }
def ScalarsAssumeSaid : Prop := scalarsAssumeRow.holds Tryz.pinned (OpenSpec.ofChange scalarsAssumeSpec)

/-- ITS FALSE NEIGHBOUR: 'it returns false'. Refute it at one input. -/
def scalarsAssumeWrong : ChangeSpec := { name := "scalarsAssume", fn := fun _ => fun
  | [d1, d2, d3] => { results := [.lit (.bool false)], args := [d1, d2, d3] }
  | _ => none }
def ScalarsAssumeWrongFalsely : Prop := scalarsAssumeRow.holds Tryz.pinned (OpenSpec.ofChange scalarsAssumeWrong)

/-- 'firewalllaw17.ScalarsTight': WHATEVER THE INPUT: true; the input reads as it did. -/
def scalarsTightSpec : ChangeSpec := { name := "scalarsTight", fn := fun _ => fun
  | [d1, d2, d3] => { results := [.lit (.bool true)], args := [d1, d2, d3] }
  | _ => none }
def scalarsTightRow : OpenClaim := { program := "ytchjneodjaakdaagreat", sum := "e63f188e094d81b24eb12d017af847d2010f437fbbd0d5b0235179976dd8fb8a", func := "firewall/firewalllaw17.ScalarsTight", spec := "scalarsTight", inPlace := ["math/bits.Add64", "math/bits.Sub64"], recurses := true, apart := false }
def ScalarsTightSaid : Prop := scalarsTightRow.holds Tryz.pinned (OpenSpec.ofChange scalarsTightSpec)

/-- ITS FALSE NEIGHBOUR: 'it returns false'. Refute it at one input. -/
def scalarsTightWrong : ChangeSpec := { name := "scalarsTight", fn := fun _ => fun
  | [d1, d2, d3] => { results := [.lit (.bool false)], args := [d1, d2, d3] }
  | _ => none }
def ScalarsTightWrongFalsely : Prop := scalarsTightRow.holds Tryz.pinned (OpenSpec.ofChange scalarsTightWrong)

/-- 'firewalllaw17.ScalarsExact': WHATEVER THE INPUT: true; the input reads as it did. -/
def scalarsExactSpec : ChangeSpec := { name := "scalarsExact", fn := fun _ => fun
  | [d1, d2] => { results := [.lit (.bool true)], args := [d1, d2] }
  | _ => none }
def scalarsExactRow : OpenClaim := { program := "ytchjneodjaakdaagreat", sum := "e63f188e094d81b24eb12d017af847d2010f437fbbd0d5b0235179976dd8fb8a", func := "firewall/firewalllaw17.ScalarsExact", spec := "scalarsExact", inPlace := ["math/bits.Add64", "math/bits.Sub64"], recurses := true, apart := false }
def ScalarsExactSaid : Prop := scalarsExactRow.holds Tryz.pinned (OpenSpec.ofChange scalarsExactSpec)

/-- ITS FALSE NEIGHBOUR: 'it returns false'. Refute it at one input. -/
def scalarsExactWrong : ChangeSpec := { name := "scalarsExact", fn := fun _ => fun
  | [d1, d2] => { results := [.lit (.bool false)], args := [d1, d2] }
  | _ => none }
def ScalarsExactWrongFalsely : Prop := scalarsExactRow.holds Tryz.pinned (OpenSpec.ofChange scalarsExactWrong)

/-- 'firewalllaw17.ScalarsRaw': WHATEVER THE INPUT: true; the input reads as it did. -/
def scalarsRawSpec : ChangeSpec := { name := "scalarsRaw", fn := fun _ => fun
  | [d1, d2, d3] => { results := [.lit (.bool true)], args := [d1, d2, d3] }
  | _ => none }
def scalarsRawRow : OpenClaim := { program := "ytchjneodjaakdaagreat", sum := "e63f188e094d81b24eb12d017af847d2010f437fbbd0d5b0235179976dd8fb8a", func := "firewall/firewalllaw17.ScalarsRaw", spec := "scalarsRaw", inPlace := ["math/bits.Add64", "math/bits.Sub64"], recurses := true, apart := false }
def ScalarsRawSaid : Prop := scalarsRawRow.holds Tryz.pinned (OpenSpec.ofChange scalarsRawSpec)

/-- ITS FALSE NEIGHBOUR: 'it returns false'. Refute it at one input. -/
def scalarsRawWrong : ChangeSpec := { name := "scalarsRaw", fn := fun _ => fun
  | [d1, d2, d3] => { results := [.lit (.bool false)], args := [d1, d2, d3] }
  | _ => none }
def ScalarsRawWrongFalsely : Prop := scalarsRawRow.holds Tryz.pinned (OpenSpec.ofChange scalarsRawWrong)

/- THE SECOND FORM. 'bulk': how many values and letters a reading holds, each counted each time it is reached (what is shared counts as often as it is met; a slice's spare places count too). A statement '..UptoSaid' is the law's where the arguments, and the package variables that the reading takes, are together of bulk at most 1048576: NARROWER than '..Said'. Prove '..Said' where nothing that the law and all that it calls make is longer than what came in: it says more and counts as full. Else prove '..UptoSaid'. A law counts once. -/
mutual
def uptoBulk {H : Type} : DataW H → Nat
  | .lit (.string bytes) => bytes.length + 1
  | .lit _ => 1
  | .nil => 1
  | .ptr d => uptoBulk d + 1
  | .slice elems spare => uptoBulkAll elems + uptoBulkAll spare + 1
  | .agg parts => uptoBulkAll parts + 1
  | .iface _ d => uptoBulk d + 1
  | .map entries => uptoBulkEntries entries + 1
  | .held _ => 1
def uptoBulkAll {H : Type} : List (DataW H) → Nat
  | [] => 0
  | d :: r => uptoBulk d + uptoBulkAll r
def uptoBulkEntries {H : Type} : List (Lit × DataW H) → Nat
  | [] => 0
  | x :: r => uptoBulkEntry x + uptoBulkEntries r
def uptoBulkEntry {H : Type} : Lit × DataW H → Nat
  | (.string bytes, d) => bytes.length + uptoBulk d + 1
  | (_, d) => uptoBulk d + 1
 end
def uptoSmall : (H : Type) → List (DataW H) → Bool := fun _ ds => decide (uptoBulkAll ds ≤ 1048576)
def OpenSpec.upto (s : _root_.Go.ChangeSpec) : _root_.Go.OpenSpec := { _root_.Go.OpenSpec.ofChange s with cond := some uptoSmall }

/-- 'firewalllaw17.ScalarsDo', WHERE WHAT IT READS IS OF BULK AT MOST 1048576: true; the input reads as it did. -/
def scalarsDoUptoRow : OpenClaim := { program := "ytchjneodjaakdaagreat", sum := "e63f188e094d81b24eb12d017af847d2010f437fbbd0d5b0235179976dd8fb8a", func := "firewall/firewalllaw17.ScalarsDo", spec := "scalarsDo", inPlace := ["math/bits.Add64", "math/bits.Sub64"], recurses := true, apart := false, narrowed := true }
def ScalarsDoUptoSaid : Prop := scalarsDoUptoRow.holds Tryz.pinned (OpenSpec.upto scalarsDoSpec)

/-- 'firewalllaw17.ScalarsAssume', WHERE WHAT IT READS IS OF BULK AT MOST 1048576: true; the input reads as it did. -/
def scalarsAssumeUptoRow : OpenClaim := { program := "ytchjneodjaakdaagreat", sum := "e63f188e094d81b24eb12d017af847d2010f437fbbd0d5b0235179976dd8fb8a", func := "firewall/firewalllaw17.ScalarsAssume", spec := "scalarsAssume", inPlace := ["math/bits.Add64", "math/bits.Sub64"], recurses := true, apart := false, narrowed := true }
def ScalarsAssumeUptoSaid : Prop := scalarsAssumeUptoRow.holds Tryz.pinned (OpenSpec.upto scalarsAssumeSpec)

/-- 'firewalllaw17.ScalarsTight', WHERE WHAT IT READS IS OF BULK AT MOST 1048576: true; the input reads as it did. -/
def scalarsTightUptoRow : OpenClaim := { program := "ytchjneodjaakdaagreat", sum := "e63f188e094d81b24eb12d017af847d2010f437fbbd0d5b0235179976dd8fb8a", func := "firewall/firewalllaw17.ScalarsTight", spec := "scalarsTight", inPlace := ["math/bits.Add64", "math/bits.Sub64"], recurses := true, apart := false, narrowed := true }
def ScalarsTightUptoSaid : Prop := scalarsTightUptoRow.holds Tryz.pinned (OpenSpec.upto scalarsTightSpec)

/-- 'firewalllaw17.ScalarsExact', WHERE WHAT IT READS IS OF BULK AT MOST 1048576: true; the input reads as it did. -/
def scalarsExactUptoRow : OpenClaim := { program := "ytchjneodjaakdaagreat", sum := "e63f188e094d81b24eb12d017af847d2010f437fbbd0d5b0235179976dd8fb8a", func := "firewall/firewalllaw17.ScalarsExact", spec := "scalarsExact", inPlace := ["math/bits.Add64", "math/bits.Sub64"], recurses := true, apart := false, narrowed := true }
def ScalarsExactUptoSaid : Prop := scalarsExactUptoRow.holds Tryz.pinned (OpenSpec.upto scalarsExactSpec)

/-- 'firewalllaw17.ScalarsRaw', WHERE WHAT IT READS IS OF BULK AT MOST 1048576: true; the input reads as it did. -/
def scalarsRawUptoRow : OpenClaim := { program := "ytchjneodjaakdaagreat", sum := "e63f188e094d81b24eb12d017af847d2010f437fbbd0d5b0235179976dd8fb8a", func := "firewall/firewalllaw17.ScalarsRaw", spec := "scalarsRaw", inPlace := ["math/bits.Add64", "math/bits.Sub64"], recurses := true, apart := false, narrowed := true }
def ScalarsRawUptoSaid : Prop := scalarsRawUptoRow.holds Tryz.pinned (OpenSpec.upto scalarsRawSpec)

end Rows
end Go.Proofs.YtchjneodjaakdaaGreat
