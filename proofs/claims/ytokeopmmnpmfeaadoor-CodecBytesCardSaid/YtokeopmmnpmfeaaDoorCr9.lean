/-
  Layer 11: the document's decoding, way by way.
-/
import Derived.Test.YtokeopmmnpmfeaaDoorPackE
namespace Go.Proofs.YtokeopmmnpmfeaaDoor.Ex
set_option maxRecDepth 20000

open Go Go.RowKit
set_option maxHeartbeats 0
set_option maxRecDepth 1000000
set_option linter.unusedVariables false
set_option linter.unusedSectionVars false
def exT (s : ByteArray) (a : Int) : ByteArray := s.extract a.toNat s.size
def bn (h : Bool) : Nat := bif h then 1 else 0
/-- What is read: whether 66 stands ahead, a prefix (2: it does; 0, 1: not, by which test), 0F. -/
def deX (b : Nat → Int) (h : Bool) (rx : Nat) (esc : Bool) : XX :=
  bif Nat.beq rx 2 then
    (bif esc then regR b (bn h + 2) (secR b (bn h + 2) (decide (IntKind.i64.wrap (b (bn h) - 64) ≥ 8))) (IntKind.i64.wrap (b (bn h) - 64)) else regR b (bn h + 1) (firR b (bn h + 1) h (decide (IntKind.i64.wrap (b (bn h) - 64) ≥ 8))) (IntKind.i64.wrap (b (bn h) - 64)))
  else (bif esc then regR b (bn h + 1) (secR b (bn h + 1) false) 0 else regR b (bn h) (firR b (bn h) h false) 0)
def deO (h : Bool) (rx : Nat) (esc : Bool) (e : Nat) : Orc := fun f t _ =>
  if Nat.beq f deF then
    match t with
    | 14 => some (.bool false)
    | 19 => some (.bool false)
    | 24 => some .nilIface
    | 27 => some (.bool h)
    | 34 => some (.bool (!(Nat.beq rx 0)))
    | 39 => some (.bool (Nat.beq rx 2))
    | 53 => some (.bool esc)
    | 76 => some (.bool (Nat.beq e 1))
    | 82 => some (.bool (Nat.beq e 2))
    | 88 => some .nilIface
    | 90 => some (.bool (Nat.beq e 3))
    | _ => none
  else none
def szE (E : List UInt8) : Int := (((⟨⟨E⟩⟩ : ByteArray).size : Nat) : Int)
def deEnd (t : ByteArray) (E : List UInt8) (n : Int) (e : Nat) : Cs :=
  (b2i (n != 0), b2i (Nat.beq e 1)) :: (bif Nat.beq e 1 then [] else (b2i (decide (szE E > (t.size : Int))), b2i (Nat.beq e 2)) :: (bif Nat.beq e 2 then [] else [(b2i (decide (0 ≤ szE E) && decide (szE E ≤ (t.size : Int))), 1), (b2i (!((t.extract 0 (szE E).toNat).data.toList == E)), b2i (Nat.beq e 3))]))
def two : Cs := [(1, 1), (1, 1)]
def dePre (s : ByteArray) (a : Int) (h : Bool) (rx : Nat) (esc : Bool) : Cs :=
  [(b2i (decide (a < 0)), 0), (b2i (decide (a ≥ (s.size : Int))), 0), (b2i (decide (0 ≤ a) && decide (a ≤ (s.size : Int))), 1)] ++ (two ++ ([(b2i (rbt (exT s a) 0 == 102), b2i h)] ++ (two ++ ([(b2i (decide (rbt (exT s a) (bn h) ≥ 64)), b2i (!(Nat.beq rx 0)))] ++ ((bif Nat.beq rx 0 then [] else two ++ [(b2i (decide (rbt (exT s a) (bn h) < 80)), b2i (Nat.beq rx 2))]) ++ ((bif Nat.beq rx 2 then two else []) ++ (two ++ ([(b2i (rbt (exT s a) (bif Nat.beq rx 2 then bn h + 1 else bn h) == 15), b2i esc)] ++ (two ++ (two ++ ([(1, 1)])))))))))))
def zRes : Value := .tuple ⟨[.agg ⟨XX.cells ⟨0, 0, 0, 0, false, false, 0, 0, 0, 0, 0⟩⟩, .int .i64 0, .int .i64 110]⟩
def deV (x : XX) (E : List UInt8) (e : Nat) : Value := bif Nat.beq e 0 then .tuple ⟨[.agg ⟨x.cells⟩, .int .i64 (szE E), .int .i64 0]⟩ else zRes
def deCs (eB : EncB) (eE : EncE) (s : ByteArray) (a : Int) (h : Bool) (rx : Nat) (esc : Bool) (e : Nat) : Cs := dePre s a h rx esc ++ deEnd (exT s a) (EncB.of eB (deX (rbt (exT s a)) h rx esc)) (EncE.of eE (deX (rbt (exT s a)) h rx esc)) e
def DeOk (eB : EncB) (eE : EncE) (h : Bool) (rx : Nat) (esc : Bool) (e : Nat) : Prop := ∀ (s : ByteArray) (a : Int), reckonPI Tryd.prog (de3 eB eE) (deO h rx esc e) noLoop 100000 300 [] deF [.string s, .int .i64 a] = some (deV (deX (rbt (exT s a)) h rx esc) (EncB.of eB (deX (rbt (exT s a)) h rx esc)) e, inter (deCs eB eE s a h rx esc e))
theorem de_0000 (eB : EncB) (eE : EncE) : DeOk eB eE false 0 false 0 := fun s a => by kernel_rfl
theorem de_0001 (eB : EncB) (eE : EncE) : DeOk eB eE false 0 false 1 := fun s a => by kernel_rfl
theorem de_0002 (eB : EncB) (eE : EncE) : DeOk eB eE false 0 false 2 := fun s a => by kernel_rfl
theorem de_0003 (eB : EncB) (eE : EncE) : DeOk eB eE false 0 false 3 := fun s a => by kernel_rfl
theorem de_0010 (eB : EncB) (eE : EncE) : DeOk eB eE false 0 true 0 := fun s a => by kernel_rfl
theorem de_0011 (eB : EncB) (eE : EncE) : DeOk eB eE false 0 true 1 := fun s a => by kernel_rfl
theorem de_0012 (eB : EncB) (eE : EncE) : DeOk eB eE false 0 true 2 := fun s a => by kernel_rfl
theorem de_0013 (eB : EncB) (eE : EncE) : DeOk eB eE false 0 true 3 := fun s a => by kernel_rfl
theorem de_0100 (eB : EncB) (eE : EncE) : DeOk eB eE false 1 false 0 := fun s a => by kernel_rfl
theorem de_0101 (eB : EncB) (eE : EncE) : DeOk eB eE false 1 false 1 := fun s a => by kernel_rfl
theorem de_0102 (eB : EncB) (eE : EncE) : DeOk eB eE false 1 false 2 := fun s a => by kernel_rfl
theorem de_0103 (eB : EncB) (eE : EncE) : DeOk eB eE false 1 false 3 := fun s a => by kernel_rfl
theorem de_0110 (eB : EncB) (eE : EncE) : DeOk eB eE false 1 true 0 := fun s a => by kernel_rfl
theorem de_0111 (eB : EncB) (eE : EncE) : DeOk eB eE false 1 true 1 := fun s a => by kernel_rfl
theorem de_0112 (eB : EncB) (eE : EncE) : DeOk eB eE false 1 true 2 := fun s a => by kernel_rfl
theorem de_0113 (eB : EncB) (eE : EncE) : DeOk eB eE false 1 true 3 := fun s a => by kernel_rfl
theorem de_0200 (eB : EncB) (eE : EncE) : DeOk eB eE false 2 false 0 := fun s a => by kernel_rfl
theorem de_0201 (eB : EncB) (eE : EncE) : DeOk eB eE false 2 false 1 := fun s a => by kernel_rfl
theorem de_0202 (eB : EncB) (eE : EncE) : DeOk eB eE false 2 false 2 := fun s a => by kernel_rfl
theorem de_0203 (eB : EncB) (eE : EncE) : DeOk eB eE false 2 false 3 := fun s a => by kernel_rfl
theorem de_0210 (eB : EncB) (eE : EncE) : DeOk eB eE false 2 true 0 := fun s a => by kernel_rfl
theorem de_0211 (eB : EncB) (eE : EncE) : DeOk eB eE false 2 true 1 := fun s a => by kernel_rfl
theorem de_0212 (eB : EncB) (eE : EncE) : DeOk eB eE false 2 true 2 := fun s a => by kernel_rfl
theorem de_0213 (eB : EncB) (eE : EncE) : DeOk eB eE false 2 true 3 := fun s a => by kernel_rfl
theorem de_1000 (eB : EncB) (eE : EncE) : DeOk eB eE true 0 false 0 := fun s a => by kernel_rfl
theorem de_1001 (eB : EncB) (eE : EncE) : DeOk eB eE true 0 false 1 := fun s a => by kernel_rfl
theorem de_1002 (eB : EncB) (eE : EncE) : DeOk eB eE true 0 false 2 := fun s a => by kernel_rfl
theorem de_1003 (eB : EncB) (eE : EncE) : DeOk eB eE true 0 false 3 := fun s a => by kernel_rfl
theorem de_1010 (eB : EncB) (eE : EncE) : DeOk eB eE true 0 true 0 := fun s a => by kernel_rfl
theorem de_1011 (eB : EncB) (eE : EncE) : DeOk eB eE true 0 true 1 := fun s a => by kernel_rfl
theorem de_1012 (eB : EncB) (eE : EncE) : DeOk eB eE true 0 true 2 := fun s a => by kernel_rfl
theorem de_1013 (eB : EncB) (eE : EncE) : DeOk eB eE true 0 true 3 := fun s a => by kernel_rfl
theorem de_1100 (eB : EncB) (eE : EncE) : DeOk eB eE true 1 false 0 := fun s a => by kernel_rfl
theorem de_1101 (eB : EncB) (eE : EncE) : DeOk eB eE true 1 false 1 := fun s a => by kernel_rfl
theorem de_1102 (eB : EncB) (eE : EncE) : DeOk eB eE true 1 false 2 := fun s a => by kernel_rfl
theorem de_1103 (eB : EncB) (eE : EncE) : DeOk eB eE true 1 false 3 := fun s a => by kernel_rfl
theorem de_1110 (eB : EncB) (eE : EncE) : DeOk eB eE true 1 true 0 := fun s a => by kernel_rfl
theorem de_1111 (eB : EncB) (eE : EncE) : DeOk eB eE true 1 true 1 := fun s a => by kernel_rfl
theorem de_1112 (eB : EncB) (eE : EncE) : DeOk eB eE true 1 true 2 := fun s a => by kernel_rfl
theorem de_1113 (eB : EncB) (eE : EncE) : DeOk eB eE true 1 true 3 := fun s a => by kernel_rfl
theorem de_1200 (eB : EncB) (eE : EncE) : DeOk eB eE true 2 false 0 := fun s a => by kernel_rfl
theorem de_1201 (eB : EncB) (eE : EncE) : DeOk eB eE true 2 false 1 := fun s a => by kernel_rfl
theorem de_1202 (eB : EncB) (eE : EncE) : DeOk eB eE true 2 false 2 := fun s a => by kernel_rfl
theorem de_1203 (eB : EncB) (eE : EncE) : DeOk eB eE true 2 false 3 := fun s a => by kernel_rfl
theorem de_1210 (eB : EncB) (eE : EncE) : DeOk eB eE true 2 true 0 := fun s a => by kernel_rfl
theorem de_1211 (eB : EncB) (eE : EncE) : DeOk eB eE true 2 true 1 := fun s a => by kernel_rfl
theorem de_1212 (eB : EncB) (eE : EncE) : DeOk eB eE true 2 true 2 := fun s a => by kernel_rfl
theorem de_1213 (eB : EncB) (eE : EncE) : DeOk eB eE true 2 true 3 := fun s a => by kernel_rfl
end Go.Proofs.YtokeopmmnpmfeaaDoor.Ex
