/-
  The law HelpersDraws: the rounds that copy.
-/
import Derived.Test.YtbjiicjmlbocdaaDoorHdP
namespace Go.Proofs.YtbjiicjmlbocdaaDoor.Ex
open Go Go.RowKit
set_option maxHeartbeats 0
set_option maxRecDepth 1000000
set_option linter.unusedVariables false
set_option linter.unusedSectionVars false
theorem AE.prp {p : Prop} (h : p) {l : Cs} (hl : AE l) : AE (prP p :: l) := AE.pair (prP_ok h) hl
/-- What stands where nothing is told, at the inner loop's entry. -/
noncomputable def hdU (n c cp : Nat) (a i : Int) (β : Nat → Value) : Nat → Value := fun k =>
  bif Nat.beq k 44 then .int .i64 i else bif Nat.beq k 45 then .slice (some ⟨1, 0, none⟩) n c else bif Nat.beq k 46 then .int .i64 n else bif Nat.beq k 47 then .int .i64 (wi (n + 3)) else bif Nat.beq k 48 then .bool true else
  bif Nat.beq k 51 then .int .i64 i else bif Nat.beq k 52 then .int .u8 a else bif Nat.beq k 53 then .int .i64 (wi a) else bif Nat.beq k 54 then .bool true else bif Nat.beq k 55 then .pointer (some ⟨34, 0, none⟩) else bif Nat.beq k 56 then .pointer (some ⟨cp, 0, none⟩) else bif Nat.beq k 57 then .int .i64 i else β k
noncomputable def hdTk (cs : List Value) (o r : Nat) : List Value := List.take r (List.drop o cs)
noncomputable def hdQA (n c : Nat) (a i e : Int) (ps cs : List Value) (o r : Nat) (β γ : Nat → Value) : LoopQ := ⟨3, 0, fun _ => true, hdI n c a i i 49 (hdU n c 49 a i β), hdHA n c ps cs (hdTk cs o r) o r (sl 48 0 r), .exit 2, hdI n c a i e 49 γ, hdHL n c ps cs (hdTk cs o r) o r, (some 48, [])⟩
noncomputable def hdQB (n c : Nat) (a i e : Int) (ps cs : List Value) (β γ : Nat → Value) : LoopQ := ⟨3, 0, fun _ => true, hdI n c a i i 50 (hdU n c 50 a i β), hdHB n c ps cs, .exit 2, hdI n c a i e 50 γ, hdHB n c ps cs, (none, [])⟩
noncomputable def hdYA (ds : List Value) : List AO := hdY 35 ++ ([⟨true, some 1, ds⟩, hdW 35 (sl 51 0 0)] ++ hdGi)
noncomputable def hdYB : List AO := hdG ++ (hdY 37 ++ [hdW 37 (sl 49 0 0)])
def hdCc (k : Nat) : Bool := ((Nat.beq k 10 || Nat.beq k 11) || (Nat.beq k 49 || Nat.beq k 50)) || ((Nat.ble 97 k && Nat.ble k 128) || (Nat.beq k 14 || Nat.beq k 15))
noncomputable def clP (cs : List Value) (o r : Nat) : Cs := [(b2i (decide (0 < r) && (decide (o + r ≤ cs.length) && ((hdTk cs o r).all (fun x => x.oneCell') && roomB (Tryd.prog.types[30]'(by decide +kernel)) r))), 1), (1, 1), (b2i ((hdTk cs o r).all scal), 1)]
noncomputable def eqP (e : LoopQ) : Cs := [prP (e.t = e.t), prP (e.h = e.h)]
noncomputable def rcA (n : Nat) (a : Int) (ps cs : List Value) (o r : Nat) (i : Int) (e : LoopQ) : Cs := hdHd n i a true ++ (clP cs o r ++ (eqP e ++ (drA cs o r ++ (laL n ps cs o i ++ [(wi (i + 1), i + 1)]))))
noncomputable def rcL (n : Nat) (a : Int) (ps cs : List Value) (o : Nat) (i : Int) (e : LoopQ) : Cs := hdHd n i a true ++ (clP cs o 1 ++ (eqP e ++ (drL cs o ++ (laL n ps cs o i ++ [(wi (i + 1), i + 1)]))))
noncomputable def rcB (n : Nat) (a i : Int) (e : LoopQ) : Cs := hdHd n i a true ++ (eqP e ++ (laG n i ++ [(wi (i + 1), i + 1)]))
theorem hc_A (n c : Nat) (a : Int) (ps cs : List Value) (o r : Nat) (i e : Int) (β γ : Nat → Value) : (hopRunL Tryd.prog hd3 (hdO i 0 true true true true) (loopQHook [hdQA n c a i e ps cs o r β γ]) 3 (theLoopN Tryd.prog 3 1) 1 52 [] (hdT n c a i β) (hdC n c ps cs (sl 33 o r))).map (fun x => (maskR 52 hdDs x.1, x.2)) = some (hdT n c a (i + 1) fun k => bif hdCc k then .bool true else .bool (okR 52 (γ k)), hdC n c ps cs (sl 33 (o + 1) (r - 1)) ++ hdYA (hdTk cs o r), some 34, inter (rcA n a ps cs o r i (hdQA n c a i e ps cs o r β γ))) := by kernel_rfl
theorem hc_L (n c : Nat) (a : Int) (ps cs : List Value) (o r : Nat) (i e : Int) (β γ : Nat → Value) : (hopRunL Tryd.prog hd3 (hdO1 i 0 true true true true) (loopQHook [hdQA n c a i e ps cs o 1 β γ]) 3 (theLoopN Tryd.prog 3 1) 1 54 [] (hdT n c a i β) (hdC n c ps cs (sl 33 o 1))).map (fun x => (maskR 52 hdDs x.1, x.2)) = some (hdT n c a (i + 1) fun k => bif hdCc k then .bool true else .bool (okR 52 (γ k)), hdC n c ps cs (sl 53 0 0) ++ (hdYA (hdTk cs o 1) ++ hdG), some 33, inter (rcL n a ps cs o i (hdQA n c a i e ps cs o 1 β γ))) := by kernel_rfl
theorem hc_B (n c : Nat) (a : Int) (ps cs : List Value) (o r : Nat) (i e : Int) (β γ : Nat → Value) : (hopRunL Tryd.prog hd3 (hdO i 0 true false true true) (loopQHook [hdQB n c a i e ps cs β γ]) 3 (theLoopN Tryd.prog 3 1) 1 51 [] (hdT n c a i β) (hdC n c ps cs (sl 36 0 0) ++ hdG)).map (fun x => (maskR 51 hdDs x.1, x.2)) = some (hdT n c a (i + 1) fun k => bif hdCc k then .bool true else .bool (okR 51 (γ k)), hdC n c ps cs (sl 36 0 0) ++ hdYB, some 38, inter (rcB n a i (hdQB n c a i e ps cs β γ))) := by kernel_rfl
end Go.Proofs.YtbjiicjmlbocdaaDoor.Ex
