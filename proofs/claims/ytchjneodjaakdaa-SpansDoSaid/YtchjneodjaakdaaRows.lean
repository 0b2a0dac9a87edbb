/-
  No cell of these rows narrows 'for every input' (looked for: loops, veiled, ifaces, maps, wideKeys, modest, calm, conditions, laid).
  DERIVED. THE GIVEN ROWS OF THIS SEAT. 7 by the template 'for every input the law returns true; each argument reads behind the call as it read before'; 0 by the template 'total and deterministic' (their statements: YtchjneodjaakdaaTotals.lean).
  GIVEN WITH THE SEED: the statements are not yours to turn. If you find one false, say at which input.
  Laid BY PROGRAM, IN A SANDBOX (cutbox-rows.mjs): the forced cells as the released guide's own fill.sh prints them over the translation 12edbe23790d720a… (all of the seat's roots in one cut). By AI agents, Wed Nov 11 2026. No macro, syntax, notation, axiom, sorry.
-/
import Derived.Test.YtchjneodjaakdaaChecked
import GoSem.Claim
import GoSem.ClaimJoined
import GoSem.ClaimMapViews
import Derived.JoinedTies
import Derived.KernelRfl
namespace Go.Proofs.Ytchjneodjaakdaa
/- THE CELL 'sum', in the pinned program and in every row, IS THE sha256 OF THE DUMP (.gsa) THAT YtchjneodjaakdaaProg.lean LOADS. Nothing in Lean hashes anything: it is a label: what it is worth is what the hold of that sum in a sandbox is worth. -/
noncomputable def Try.pinned : Pinned := { name := "ytchjneodjaakdaa", sum := "12edbe23790d720aaedcee55235a5ad6573d5b76abec9831f903078ecb375d15", checked := Try.checked }
namespace Rows
def none {H : Type} : Left H := { results := [], args := [] }

/-- 'firewalllaw15.TnumsDo': WHATEVER THE INPUT: true; the input reads as it did. -/
def tnumsDoSpec : ChangeSpec := { name := "tnumsDo", fn := fun _ => fun
  | [d1, d2, d3] => { results := [.lit (.bool true)], args := [d1, d2, d3] }
  | _ => none }
def tnumsDoRow : OpenClaim := { program := "ytchjneodjaakdaa", sum := "12edbe23790d720aaedcee55235a5ad6573d5b76abec9831f903078ecb375d15", func := "firewall/firewalllaw15.TnumsDo", spec := "tnumsDo", apart := false }
def TnumsDoSaid : Prop := tnumsDoRow.holds Try.pinned (OpenSpec.ofChange tnumsDoSpec)

/-- ITS FALSE NEIGHBOUR: 'it returns false'. Refute it at one input. -/
def tnumsDoWrong : ChangeSpec := { name := "tnumsDo", fn := fun _ => fun
  | [d1, d2, d3] => { results := [.lit (.bool false)], args := [d1, d2, d3] }
  | _ => none }
def TnumsDoWrongFalsely : Prop := tnumsDoRow.holds Try.pinned (OpenSpec.ofChange tnumsDoWrong)

/-- 'firewalllaw15.TnumsShift': WHATEVER THE INPUT: true; the input reads as it did. -/
def tnumsShiftSpec : ChangeSpec := { name := "tnumsShift", fn := fun _ => fun
  | [d1, d2, d3] => { results := [.lit (.bool true)], args := [d1, d2, d3] }
  | _ => none }
def tnumsShiftRow : OpenClaim := { program := "ytchjneodjaakdaa", sum := "12edbe23790d720aaedcee55235a5ad6573d5b76abec9831f903078ecb375d15", func := "firewall/firewalllaw15.TnumsShift", spec := "tnumsShift", apart := false }
def TnumsShiftSaid : Prop := tnumsShiftRow.holds Try.pinned (OpenSpec.ofChange tnumsShiftSpec)

/-- ITS FALSE NEIGHBOUR: 'it returns false'. Refute it at one input. -/
def tnumsShiftWrong : ChangeSpec := { name := "tnumsShift", fn := fun _ => fun
  | [d1, d2, d3] => { results := [.lit (.bool false)], args := [d1, d2, d3] }
  | _ => none }
def TnumsShiftWrongFalsely : Prop := tnumsShiftRow.holds Try.pinned (OpenSpec.ofChange tnumsShiftWrong)

/-- 'firewalllaw15.TnumsJoin': WHATEVER THE INPUT: true; the input reads as it did. -/
def tnumsJoinSpec : ChangeSpec := { name := "tnumsJoin", fn := fun _ => fun
  | [d1, d2, d3] => { results := [.lit (.bool true)], args := [d1, d2, d3] }
  | _ => none }
def tnumsJoinRow : OpenClaim := { program := "ytchjneodjaakdaa", sum := "12edbe23790d720aaedcee55235a5ad6573d5b76abec9831f903078ecb375d15", func := "firewall/firewalllaw15.TnumsJoin", spec := "tnumsJoin", apart := false }
def TnumsJoinSaid : Prop := tnumsJoinRow.holds Try.pinned (OpenSpec.ofChange tnumsJoinSpec)

/-- ITS FALSE NEIGHBOUR: 'it returns false'. Refute it at one input. -/
def tnumsJoinWrong : ChangeSpec := { name := "tnumsJoin", fn := fun _ => fun
  | [d1, d2, d3] => { results := [.lit (.bool false)], args := [d1, d2, d3] }
  | _ => none }
def TnumsJoinWrongFalsely : Prop := tnumsJoinRow.holds Try.pinned (OpenSpec.ofChange tnumsJoinWrong)

/-- 'firewalllaw15.TnumsRaw': WHATEVER THE INPUT: true; the input reads as it did. -/
def tnumsRawSpec : ChangeSpec := { name := "tnumsRaw", fn := fun _ => fun
  | [d1, d2, d3] => { results := [.lit (.bool true)], args := [d1, d2, d3] }
  | _ => none }
def tnumsRawRow : OpenClaim := { program := "ytchjneodjaakdaa", sum := "12edbe23790d720aaedcee55235a5ad6573d5b76abec9831f903078ecb375d15", func := "firewall/firewalllaw15.TnumsRaw", spec := "tnumsRaw", apart := false }
def TnumsRawSaid : Prop := tnumsRawRow.holds Try.pinned (OpenSpec.ofChange tnumsRawSpec)

/-- ITS FALSE NEIGHBOUR: 'it returns false'. Refute it at one input. -/
def tnumsRawWrong : ChangeSpec := { name := "tnumsRaw", fn := fun _ => fun
  | [d1, d2, d3] => { results := [.lit (.bool false)], args := [d1, d2, d3] }
  | _ => none }
def TnumsRawWrongFalsely : Prop := tnumsRawRow.holds Try.pinned (OpenSpec.ofChange tnumsRawWrong)

/-- 'firewalllaw16.SpansDo': WHATEVER THE INPUT: true; the input reads as it did. -/
def spansDoSpec : ChangeSpec := { name := "spansDo", fn := fun _ => fun
  | [d1, d2, d3] => { results := [.lit (.bool true)], args := [d1, d2, d3] }
  | _ => none }
def spansDoRow : OpenClaim := { program := "ytchjneodjaakdaa", sum := "12edbe23790d720aaedcee55235a5ad6573d5b76abec9831f903078ecb375d15", func := "firewall/firewalllaw16.SpansDo", spec := "spansDo", inPlace := ["math/bits.Add64", "math/bits.Sub64"], apart := false }
def SpansDoSaid : Prop := spansDoRow.holds Try.pinned (OpenSpec.ofChange spansDoSpec)

/-- ITS FALSE NEIGHBOUR: 'it returns false'. Refute it at one input. -/
def spansDoWrong : ChangeSpec := { name := "spansDo", fn := fun _ => fun
  | [d1, d2, d3] => { results := [.lit (.bool false)], args := [d1, d2, d3] }
  | _ => none }
def SpansDoWrongFalsely : Prop := spansDoRow.holds Try.pinned (OpenSpec.ofChange spansDoWrong)

/-- 'firewalllaw16.SpansTight': WHATEVER THE INPUT: true; the input reads as it did. -/
def spansTightSpec : ChangeSpec := { name := "spansTight", fn := fun _ => fun
  | [d1, d2, d3] => { results := [.lit (.bool true)], args := [d1, d2, d3] }
  | _ => none }
def spansTightRow : OpenClaim := { program := "ytchjneodjaakdaa", sum := "12edbe23790d720aaedcee55235a5ad6573d5b76abec9831f903078ecb375d15", func := "firewall/firewalllaw16.SpansTight", spec := "spansTight", inPlace := ["math/bits.Add64", "math/bits.Sub64"], apart := false }
def SpansTightSaid : Prop := spansTightRow.holds Try.pinned (OpenSpec.ofChange spansTightSpec)

/-- ITS FALSE NEIGHBOUR: 'it returns false'. Refute it at one input. -/
def spansTightWrong : ChangeSpec := { name := "spansTight", fn := fun _ => fun
  | [d1, d2, d3] => { results := [.lit (.bool false)], args := [d1, d2, d3] }
  | _ => none }
def SpansTightWrongFalsely : Prop := spansTightRow.holds Try.pinned (OpenSpec.ofChange spansTightWrong)

/-- 'firewalllaw16.SpansRaw': WHATEVER THE INPUT: true; the input reads as it did. -/
def spansRawSpec : ChangeSpec := { name := "spansRaw", fn := fun _ => fun
  | [d1, d2, d3] => { results := [.lit (.bool true)], args := [d1, d2, d3] }
  | _ => none }
def spansRawRow : OpenClaim := { program := "ytchjneodjaakdaa", sum := "12edbe23790d720aaedcee55235a5ad6573d5b76abec9831f903078ecb375d15", func := "firewall/firewalllaw16.SpansRaw", spec := "spansRaw", inPlace := ["math/bits.Add64", "math/bits.Sub64"], apart := false }
def SpansRawSaid : Prop := spansRawRow.holds Try.pinned (OpenSpec.ofChange spansRawSpec)

/-- ITS FALSE NEIGHBOUR: 'it returns false'. Refute it at one input. -/
def spansRawWrong : ChangeSpec := { name := "spansRaw", fn := fun _ => fun
  | [d1, d2, d3] => { results := [.lit (.bool false)], args := [d1, d2, d3] }
  | _ => none }
def SpansRawWrongFalsely : Prop := spansRawRow.holds Try.pinned (OpenSpec.ofChange spansRawWrong)

/- THE SECOND FORM. 'bulk': how many values and letters a reading holds, each counted each time it is reached (what is shared counts as often as it is met; a slice's spare places count too). A statement '..UptoSaid' is the law's where the arguments, and the package variables that the reading takes, are together of bulk at most 1048576: NARROWER than '..Said'. Prove '..Said' where nothing that the law and all that it calls make is longer than what came in: it says more and counts as full. Else prove '..UptoSaid'. A law counts once. -/
mutual
def uptoBulk {H : Type} : DataW H → Nat
  | .lit (.string bytes) => bytes.length + 1
  | .lit _ => 1
  | .nil => 1
  | .ptr d => uptoBulk d + 1
  | .slice elems spare => uptoBulkAll elems + uptoBulkAll spare + 1
  | .agg parts => uptoBulkAll parts + 1
  | .iface _ d => uptoBulk d + 1
  | .map entries => uptoBulkEntries entries + 1
  | .held _ => 1
def uptoBulkAll {H : Type} : List (DataW H) → Nat
  | [] => 0
  | d :: r => uptoBulk d + uptoBulkAll r
def uptoBulkEntries {H : Type} : List (Lit × DataW H) → Nat
  | [] => 0
  | x :: r => uptoBulkEntry x + uptoBulkEntries r
def uptoBulkEntry {H : Type} : Lit × DataW H → Nat
  | (.string bytes, d) => bytes.length + uptoBulk d + 1
  | (_, d) => uptoBulk d + 1
 end
def uptoSmall : (H : Type) → List (DataW H) → Bool := fun _ ds => decide (uptoBulkAll ds ≤ 1048576)
def OpenSpec.upto (s : _root_.Go.ChangeSpec) : _root_.Go.OpenSpec := { _root_.Go.OpenSpec.ofChange s with cond := some uptoSmall }

/-- 'firewalllaw15.TnumsDo', WHERE WHAT IT READS IS OF BULK AT MOST 1048576: true; the input reads as it did. -/
def tnumsDoUptoRow : OpenClaim := { program := "ytchjneodjaakdaa", sum := "12edbe23790d720aaedcee55235a5ad6573d5b76abec9831f903078ecb375d15", func := "firewall/firewalllaw15.TnumsDo", spec := "tnumsDo", apart := false, narrowed := true }
def TnumsDoUptoSaid : Prop := tnumsDoUptoRow.holds Try.pinned (OpenSpec.upto tnumsDoSpec)

/-- 'firewalllaw15.TnumsShift', WHERE WHAT IT READS IS OF BULK AT MOST 1048576: true; the input reads as it did. -/
def tnumsShiftUptoRow : OpenClaim := { program := "ytchjneodjaakdaa", sum := "12edbe23790d720aaedcee55235a5ad6573d5b76abec9831f903078ecb375d15", func := "firewall/firewalllaw15.TnumsShift", spec := "tnumsShift", apart := false, narrowed := true }
def TnumsShiftUptoSaid : Prop := tnumsShiftUptoRow.holds Try.pinned (OpenSpec.upto tnumsShiftSpec)

/-- 'firewalllaw15.TnumsJoin', WHERE WHAT IT READS IS OF BULK AT MOST 1048576: true; the input reads as it did. -/
def tnumsJoinUptoRow : OpenClaim := { program := "ytchjneodjaakdaa", sum := "12edbe23790d720aaedcee55235a5ad6573d5b76abec9831f903078ecb375d15", func := "firewall/firewalllaw15.TnumsJoin", spec := "tnumsJoin", apart := false, narrowed := true }
def TnumsJoinUptoSaid : Prop := tnumsJoinUptoRow.holds Try.pinned (OpenSpec.upto tnumsJoinSpec)

/-- 'firewalllaw15.TnumsRaw', WHERE WHAT IT READS IS OF BULK AT MOST 1048576: true; the input reads as it did. -/
def tnumsRawUptoRow : OpenClaim := { program := "ytchjneodjaakdaa", sum := "12edbe23790d720aaedcee55235a5ad6573d5b76abec9831f903078ecb375d15", func := "firewall/firewalllaw15.TnumsRaw", spec := "tnumsRaw", apart := false, narrowed := true }
def TnumsRawUptoSaid : Prop := tnumsRawUptoRow.holds Try.pinned (OpenSpec.upto tnumsRawSpec)

/-- 'firewalllaw16.SpansDo', WHERE WHAT IT READS IS OF BULK AT MOST 1048576: true; the input reads as it did. -/
def spansDoUptoRow : OpenClaim := { program := "ytchjneodjaakdaa", sum := "12edbe23790d720aaedcee55235a5ad6573d5b76abec9831f903078ecb375d15", func := "firewall/firewalllaw16.SpansDo", spec := "spansDo", inPlace := ["math/bits.Add64", "math/bits.Sub64"], apart := false, narrowed := true }
def SpansDoUptoSaid : Prop := spansDoUptoRow.holds Try.pinned (OpenSpec.upto spansDoSpec)

/-- 'firewalllaw16.SpansTight', WHERE WHAT IT READS IS OF BULK AT MOST 1048576: true; the input reads as it did. -/
def spansTightUptoRow : OpenClaim := { program := "ytchjneodjaakdaa", sum := "12edbe23790d720aaedcee55235a5ad6573d5b76abec9831f903078ecb375d15", func := "firewall/firewalllaw16.SpansTight", spec := "spansTight", inPlace := ["math/bits.Add64", "math/bits.Sub64"], apart := false, narrowed := true }
def SpansTightUptoSaid : Prop := spansTightUptoRow.holds Try.pinned (OpenSpec.upto spansTightSpec)

/-- 'firewalllaw16.SpansRaw', WHERE WHAT IT READS IS OF BULK AT MOST 1048576: true; the input reads as it did. -/
def spansRawUptoRow : OpenClaim := { program := "ytchjneodjaakdaa", sum := "12edbe23790d720aaedcee55235a5ad6573d5b76abec9831f903078ecb375d15", func := "firewall/firewalllaw16.SpansRaw", spec := "spansRaw", inPlace := ["math/bits.Add64", "math/bits.Sub64"], apart := false, narrowed := true }
def SpansRawUptoSaid : Prop := spansRawUptoRow.holds Try.pinned (OpenSpec.upto spansRawSpec)

end Rows
end Go.Proofs.Ytchjneodjaakdaa
