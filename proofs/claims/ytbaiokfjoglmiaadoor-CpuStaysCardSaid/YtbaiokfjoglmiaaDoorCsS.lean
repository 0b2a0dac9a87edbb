/-
  Layer 12: the law's instruction, of such fields as may be: told.
-/
import Derived.Test.YtbaiokfjoglmiaaDoorCs1
namespace Go.Proofs.YtbaiokfjoglmiaaDoor.Ex
open Go Go.RowKit
set_option maxHeartbeats 0
set_option maxRecDepth 1000000
set_option linter.unusedVariables false
def okK (k : Int) : Bool := k == 1 || (k == 2 || (k == 3 || (k == 4 || (k == 5 || (k == 6 || (k == 7 || (k == 8 || (k == 9 || (k == 10 || (k == 11 || (k == 12 || k == 21)))))))))))
def sDs (k ds : Int) : Int := bif k == 21 then 0 else andK .i64 ds 15
def sSr (k sr : Int) : Int := bif k == 1 || (k == 4 || (k == 6 || k == 10)) then andK .i64 sr 15 else 0
def ix6 (al : Int) : Int := Int.tmod (IntKind.i64.wrap (Int.tmod al 6 + 6)) 6
def ix3 (al : Int) : Int := Int.tmod (IntKind.i64.wrap (Int.tmod al 3 + 3)) 3
def sAl (k al : Int) : Int := bif k == 4 || k == 5 then ([0, 1, 4, 5, 6, 7] : List Int).getD (ix6 al).toNat 0 else bif k == 11 || k == 12 then ([4, 5, 7] : List Int).getD (ix3 al).toNat 0 else 0
def sWi (k : Int) (wi : Bool) : Bool := bif k == 2 || k == 3 then true else bif k == 21 then false else wi
def sIm (k : Int) (wi : Bool) (im : Int) : Int := bif k == 2 || k == 5 then IntKind.i64.wrap (IntKind.i32.wrap im) else bif k == 3 then im else bif k == 11 then (bif wi then andK .i64 im 63 else andK .i64 im 31) else 0
def setV (k al : Int) (wi : Bool) (ds sr im : Int) : Value := .agg ⟨xA k (sAl k al) 0 0 (sWi k wi) false (sDs k ds) (sSr k sr) 0 0 (sIm k wi im)⟩
def setC (k al : Int) : Cs := bif k == 4 || k == 5 then [(b2i (decide (0 ≤ ix6 al) && (decide (ix6 al < 6) && decide ((ix6 al).toNat < 6))), 1)] else bif k == 11 || k == 12 then [(b2i (decide (0 ≤ ix3 al) && (decide (ix3 al < 3) && decide ((ix3 al).toNat < 3))), 1)] else []
def setOrc (b : Bool) : Orc := fun f t _ =>
  if Nat.beq f 23 then
    (if Nat.beq t 37 || (Nat.beq t 47 || (Nat.beq t 80 || Nat.beq t 100)) then some .nilIface
    else if b && (Nat.beq t 22 || (Nat.beq t 23 || (Nat.beq t 24 || (Nat.beq t 28 || (Nat.beq t 40 || (Nat.beq t 55 || (Nat.beq t 63 || (Nat.beq t 69 || (Nat.beq t 70 || (Nat.beq t 71 || (Nat.beq t 73 || (Nat.beq t 93 || Nat.beq t 103)))))))))))) then some (.bool false) else none)
  else none
theorem st_1 (al co si : Int) (wi sh : Bool) (ds sr dp re im : Int) : reckonGI Tryd.prog (guardH noHook) (setOrc false) 100000 300 [] 23 [.agg ⟨xA 1 al co si wi sh ds sr dp re im⟩] = some (setV 1 al wi ds sr im, inter (setC 1 al)) := by kernel_rfl
theorem st_2 (al co si : Int) (wi sh : Bool) (ds sr dp re im : Int) : reckonGI Tryd.prog (guardH noHook) (setOrc false) 100000 300 [] 23 [.agg ⟨xA 2 al co si wi sh ds sr dp re im⟩] = some (setV 2 al wi ds sr im, inter (setC 2 al)) := by kernel_rfl
theorem st_3 (al co si : Int) (wi sh : Bool) (ds sr dp re im : Int) : reckonGI Tryd.prog (guardH noHook) (setOrc false) 100000 300 [] 23 [.agg ⟨xA 3 al co si wi sh ds sr dp re im⟩] = some (setV 3 al wi ds sr im, inter (setC 3 al)) := by kernel_rfl
theorem st_4 (al co si : Int) (wi sh : Bool) (ds sr dp re im : Int) : reckonGI Tryd.prog (guardH noHook) (setOrc false) 100000 300 [] 23 [.agg ⟨xA 4 al co si wi sh ds sr dp re im⟩] = some (setV 4 al wi ds sr im, inter (setC 4 al)) := by kernel_rfl
theorem st_5 (al co si : Int) (wi sh : Bool) (ds sr dp re im : Int) : reckonGI Tryd.prog (guardH noHook) (setOrc false) 100000 300 [] 23 [.agg ⟨xA 5 al co si wi sh ds sr dp re im⟩] = some (setV 5 al wi ds sr im, inter (setC 5 al)) := by kernel_rfl
theorem st_6 (al co si : Int) (wi sh : Bool) (ds sr dp re im : Int) : reckonGI Tryd.prog (guardH noHook) (setOrc false) 100000 300 [] 23 [.agg ⟨xA 6 al co si wi sh ds sr dp re im⟩] = some (setV 6 al wi ds sr im, inter (setC 6 al)) := by kernel_rfl
theorem st_7 (al co si : Int) (wi sh : Bool) (ds sr dp re im : Int) : reckonGI Tryd.prog (guardH noHook) (setOrc false) 100000 300 [] 23 [.agg ⟨xA 7 al co si wi sh ds sr dp re im⟩] = some (setV 7 al wi ds sr im, inter (setC 7 al)) := by kernel_rfl
theorem st_8 (al co si : Int) (wi sh : Bool) (ds sr dp re im : Int) : reckonGI Tryd.prog (guardH noHook) (setOrc false) 100000 300 [] 23 [.agg ⟨xA 8 al co si wi sh ds sr dp re im⟩] = some (setV 8 al wi ds sr im, inter (setC 8 al)) := by kernel_rfl
theorem st_9 (al co si : Int) (wi sh : Bool) (ds sr dp re im : Int) : reckonGI Tryd.prog (guardH noHook) (setOrc false) 100000 300 [] 23 [.agg ⟨xA 9 al co si wi sh ds sr dp re im⟩] = some (setV 9 al wi ds sr im, inter (setC 9 al)) := by kernel_rfl
theorem st_10 (al co si : Int) (wi sh : Bool) (ds sr dp re im : Int) : reckonGI Tryd.prog (guardH noHook) (setOrc false) 100000 300 [] 23 [.agg ⟨xA 10 al co si wi sh ds sr dp re im⟩] = some (setV 10 al wi ds sr im, inter (setC 10 al)) := by kernel_rfl
theorem st_11t (al co si : Int) (sh : Bool) (ds sr dp re im : Int) : reckonGI Tryd.prog (guardH noHook) (setOrc false) 100000 300 [] 23 [.agg ⟨xA 11 al co si true sh ds sr dp re im⟩] = some (setV 11 al true ds sr im, inter (setC 11 al)) := by kernel_rfl
theorem st_11f (al co si : Int) (sh : Bool) (ds sr dp re im : Int) : reckonGI Tryd.prog (guardH noHook) (setOrc false) 100000 300 [] 23 [.agg ⟨xA 11 al co si false sh ds sr dp re im⟩] = some (setV 11 al false ds sr im, inter (setC 11 al)) := by kernel_rfl
theorem st_12 (al co si : Int) (wi sh : Bool) (ds sr dp re im : Int) : reckonGI Tryd.prog (guardH noHook) (setOrc false) 100000 300 [] 23 [.agg ⟨xA 12 al co si wi sh ds sr dp re im⟩] = some (setV 12 al wi ds sr im, inter (setC 12 al)) := by kernel_rfl
theorem st_21 (al co si : Int) (wi sh : Bool) (ds sr dp re im : Int) : reckonGI Tryd.prog (guardH noHook) (setOrc false) 100000 300 [] 23 [.agg ⟨xA 21 al co si wi sh ds sr dp re im⟩] = some (setV 21 al wi ds sr im, inter (setC 21 al)) := by kernel_rfl
theorem st_x (k al co si : Int) (wi sh : Bool) (ds sr dp re im : Int) : reckonGI Tryd.prog (guardH noHook) (setOrc true) 100000 300 [] 23 [.agg ⟨xA k al co si wi sh ds sr dp re im⟩] = some (.agg ⟨xA k al co si wi sh ds sr dp re im⟩, inter [(b2i (k == 1), 0), (b2i (k == 6), 0), (b2i (k == 10), 0), (b2i (k == 4), 0), (b2i (k == 5), 0), (b2i (k == 2), 0), (b2i (k == 3), 0), (b2i (k == 7), 0), (b2i (k == 8), 0), (b2i (k == 9), 0), (b2i (k == 11), 0), (b2i (k == 12), 0), (b2i (k == 21), 0)]) := by kernel_rfl
end Go.Proofs.YtbaiokfjoglmiaaDoor.Ex
