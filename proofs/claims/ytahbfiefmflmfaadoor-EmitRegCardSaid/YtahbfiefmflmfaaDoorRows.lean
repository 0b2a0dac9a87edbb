/-
  NARROWER THAN 'FOR EVERY INPUT', by the rows' own cells (each row's printed sentence says how): EmitReg: laid.
  DERIVED. THE GIVEN ROWS OF THIS SEAT. 1 by the template 'for every input the law returns true; each argument reads behind the call as it read before'; 0 by the template 'total and deterministic' (their statements: YtahbfiefmflmfaaDoorTotals.lean).
  GIVEN WITH THE SEED: the statements are not yours to turn. If you find one false, say at which input.
  Laid BY PROGRAM, IN A SANDBOX (cutbox-rows.mjs): the forced cells as the released guide's own fill.sh prints them over the translation f0a9dc45abe94fb6… (all of the seat's roots in one cut). By AI agents, Wed Nov 11 2026. No macro, syntax, notation, axiom, sorry.
-/
import Derived.Test.YtahbfiefmflmfaaDoorChecked
import GoSem.Claim
import GoSem.ClaimJoined
import GoSem.ClaimMapViews
import Derived.JoinedTies
import Derived.KernelRfl
namespace Go.Proofs.YtahbfiefmflmfaaDoor
/- THE CELL 'sum', in the pinned program and in every row, IS THE sha256 OF THE DUMP (.gsa) THAT YtahbfiefmflmfaaDoorProg.lean LOADS. Nothing in Lean hashes anything: it is a label: what it is worth is what the hold of that sum in a sandbox is worth. -/
noncomputable def Tryd.pinned : Pinned := { name := "ytahbfiefmflmfaadoor", sum := "f0a9dc45abe94fb66b7e86a64c0b9aaa82ccce2b9a0ff36cab978226e3cc448d", checked := Tryd.checked }
namespace Rows
def none {H : Type} : Left H := { results := [], args := [] }

/- WHAT THE LISTED PACKAGE-LEVEL VARIABLES READ AS WHEN THE CALL BEGINS. Each datum BY PROGRAM (the guide's laid-datum.mjs) off the statement by which the dump's own 'gosem.cut.vars' lays the variable. In a bare row this is a premise. The card (YtahbfiefmflmfaaDoorCards.lean) ties it to the program's text. -/
def laid_firewall_insns_sizes {H : Type} : DataW H := .agg [.agg [.lit (.int .u8 113), .lit (.int .u8 1)], .agg [.lit (.int .u8 105), .lit (.int .u8 2)], .agg [.lit (.int .u8 97), .lit (.int .u8 4)], .agg [.lit (.int .u8 121), .lit (.int .u8 8)], .agg [.lit (.int .u8 114), .lit (.int .u8 1)], .agg [.lit (.int .u8 106), .lit (.int .u8 2)], .agg [.lit (.int .u8 98), .lit (.int .u8 4)], .agg [.lit (.int .u8 122), .lit (.int .u8 8)], .agg [.lit (.int .u8 115), .lit (.int .u8 1)], .agg [.lit (.int .u8 107), .lit (.int .u8 2)], .agg [.lit (.int .u8 99), .lit (.int .u8 4)], .agg [.lit (.int .u8 123), .lit (.int .u8 8)]]
def laid_firewall_emit_registers {H : Type} : DataW H := .agg [.lit (.int .i64 0), .lit (.int .i64 7), .lit (.int .i64 6), .lit (.int .i64 2), .lit (.int .i64 1), .lit (.int .i64 8), .lit (.int .i64 3), .lit (.int .i64 13), .lit (.int .i64 14), .lit (.int .i64 15), .lit (.int .i64 5)]
def laid_firewall_emit_saved {H : Type} : DataW H := .agg [.lit (.int .i64 3), .lit (.int .i64 12), .lit (.int .i64 13), .lit (.int .i64 14), .lit (.int .i64 15), .lit (.int .i64 5)]

/-- 'firewalllaw24.EmitReg': WHATEVER THE INPUT: true; the input reads as it did. -/
def emitRegSpec : ChangeSpec := { name := "emitReg", fn := fun _ => fun
  | [d] => { results := [.lit (.bool true)], args := [d] }
  | _ => none }
def emitRegRow : OpenClaim := { program := "ytahbfiefmflmfaadoor", sum := "f0a9dc45abe94fb66b7e86a64c0b9aaa82ccce2b9a0ff36cab978226e3cc448d", func := "firewall/firewalllaw24.EmitReg", spec := "emitReg", unfollowed := true, recurses := true, named := ["firewall/emit.registers", "firewall/insns.sizes", "firewall/emit.saved"], apart := false, laid := [("firewall/insns.sizes", laid_firewall_insns_sizes), ("firewall/emit.registers", laid_firewall_emit_registers), ("firewall/emit.saved", laid_firewall_emit_saved)] }
def EmitRegSaid : Prop := emitRegRow.holds Tryd.pinned (OpenSpec.ofChange emitRegSpec)

/-- ITS FALSE NEIGHBOUR: 'it returns false'. Refute it at one input. -/
def emitRegWrong : ChangeSpec := { name := "emitReg", fn := fun _ => fun
  | [d] => { results := [.lit (.bool false)], args := [d] }
  | _ => none }
def EmitRegWrongFalsely : Prop := emitRegRow.holds Tryd.pinned (OpenSpec.ofChange emitRegWrong)

/- THE SECOND FORM. 'bulk': how many values and letters a reading holds, each counted each time it is reached (what is shared counts as often as it is met; a slice's spare places count too). A statement '..UptoSaid' is the law's where the arguments, and the package variables that the reading takes, are together of bulk at most 1048576: NARROWER than '..Said'. Prove '..Said' where nothing that the law and all that it calls make is longer than what came in: it says more and counts as full. Else prove '..UptoSaid'. A law counts once. -/
mutual
def uptoBulk {H : Type} : DataW H → Nat
  | .lit (.string bytes) => bytes.length + 1
  | .lit _ => 1
  | .nil => 1
  | .ptr d => uptoBulk d + 1
  | .slice elems spare => uptoBulkAll elems + uptoBulkAll spare + 1
  | .agg parts => uptoBulkAll parts + 1
  | .iface _ d => uptoBulk d + 1
  | .map entries => uptoBulkEntries entries + 1
  | .held _ => 1
def uptoBulkAll {H : Type} : List (DataW H) → Nat
  | [] => 0
  | d :: r => uptoBulk d + uptoBulkAll r
def uptoBulkEntries {H : Type} : List (Lit × DataW H) → Nat
  | [] => 0
  | x :: r => uptoBulkEntry x + uptoBulkEntries r
def uptoBulkEntry {H : Type} : Lit × DataW H → Nat
  | (.string bytes, d) => bytes.length + uptoBulk d + 1
  | (_, d) => uptoBulk d + 1
 end
def uptoSmall : (H : Type) → List (DataW H) → Bool := fun _ ds => decide (uptoBulkAll ds ≤ 1048576)
def OpenSpec.upto (s : _root_.Go.ChangeSpec) : _root_.Go.OpenSpec := { _root_.Go.OpenSpec.ofChange s with cond := some uptoSmall }

/-- 'firewalllaw24.EmitReg', WHERE WHAT IT READS IS OF BULK AT MOST 1048576: true; the input reads as it did. -/
def emitRegUptoRow : OpenClaim := { program := "ytahbfiefmflmfaadoor", sum := "f0a9dc45abe94fb66b7e86a64c0b9aaa82ccce2b9a0ff36cab978226e3cc448d", func := "firewall/firewalllaw24.EmitReg", spec := "emitReg", unfollowed := true, recurses := true, named := ["firewall/emit.registers", "firewall/insns.sizes", "firewall/emit.saved"], apart := false, laid := [("firewall/insns.sizes", laid_firewall_insns_sizes), ("firewall/emit.registers", laid_firewall_emit_registers), ("firewall/emit.saved", laid_firewall_emit_saved)], narrowed := true }
def EmitRegUptoSaid : Prop := emitRegUptoRow.holds Tryd.pinned (OpenSpec.upto emitRegSpec)

end Rows
end Go.Proofs.YtahbfiefmflmfaaDoor
