/-
  Layer 11: which machine instructions there are: parts of the program's answer and of the document's.
-/
import Derived.Test.YtbaiokfjoglmiaaDoorLaw12b
import Derived.Test.YtbaiokfjoglmiaaDoorPackC
namespace Go.Proofs.YtbaiokfjoglmiaaDoor.Ex
open Go Go.RowKit
set_option linter.unusedVariables false
set_option linter.unusedSimpArgs false
set_option maxHeartbeats 0
set_option maxRecDepth 1000000
theorem rkZ {hk : Hook} (hhk : HookOk Tryd.prog hk) (orc : Orc) (h0 : List AO) {g : FuncId} {args : List Value} {v : Value} {cs : Cs} (hf : (args.all flat && flat v) = true)
    (h : reckonGL Tryd.prog (guardH hk) orc 100000 300 h0 g args = some (v, cs.map (·.1))) (h2 : reckonGR Tryd.prog (guardH hk) orc 100000 300 h0 g args v = some (v, cs.map (·.2))) (he : cs.map (·.1) = cs.map (·.2)) (w : World) (hL : Laid h0 w) : Calls Tryd.prog g ⟨args⟩ w fun e w' => e = .returned v ∧ Gr w w' := by
  simp only [Bool.and_eq_true] at hf
  exact reckonS_ok noNG hhk orc 100000 300 h0 hf.1 hf.2 h h2 he w hL
theorem csT' {e : Bool} {l : Cs} (h : e = true) (r : l.map (·.1) = l.map (·.2)) : (((b2i e, 1) :: l : Cs)).map (·.1) = (((b2i e, 1) :: l : Cs)).map (·.2) := by
  subst h; exact congrArg (List.cons _) r
theorem csF' {e : Bool} {l : Cs} (h : e = false) (r : l.map (·.1) = l.map (·.2)) : (((b2i e, 0) :: l : Cs)).map (·.1) = (((b2i e, 0) :: l : Cs)).map (·.2) := by
  subst h; exact congrArg (List.cons _) r
theorem csI' {e n : Int} {l : Cs} (h : e = n) (r : l.map (·.1) = l.map (·.2)) : (((e, n) :: l : Cs)).map (·.1) = (((e, n) :: l : Cs)).map (·.2) := by
  subst h; exact congrArg (List.cons _) r
theorem csN' : (([] : Cs)).map (·.1) = (([] : Cs)).map (·.2) := rfl
theorem retZ {P : Program} {g : FuncId} {args : Array Value} {u v : Value} {w : World} (e : u = v) (h : Calls P g args w fun x w' => x = .returned v ∧ Gr w w') : Calls P g args w fun x w' => x = .returned u ∧ Gr w w' := e ▸ h
def Lf (h0 : List AO) (g : FuncId) (args : List Value) (v : Value) (cs : Cs) : Prop := cs.map (·.1) = cs.map (·.2) → ∀ (w : World), Laid h0 w → Calls Tryd.prog g ⟨args⟩ w fun e w' => e = .returned v ∧ Gr w w'
theorem lf {hk : Hook} (hhk : HookOk Tryd.prog hk) (orc : Orc) {h0 : List AO} {g : FuncId} {args : List Value} {v : Value} {cs : Cs} (hf : (args.all flat && flat v) = true)
    (h : reckonGL Tryd.prog (guardH hk) orc 100000 300 h0 g args = some (v, cs.map (·.1))) (h2 : reckonGR Tryd.prog (guardH hk) orc 100000 300 h0 g args v = some (v, cs.map (·.2))) : Lf h0 g args v cs := fun he w hL => rkZ hhk orc h0 hf h h2 he w hL
def xA (k al co si : Int) (wi sh : Bool) (ds sr dp re im : Int) : List Value := [.int .i64 k, .int .i64 al, .int .i64 co, .int .i64 si, .bool wi, .bool sh, .int .i64 ds, .int .i64 sr, .int .i32 dp, .int .i32 re, .int .i64 im]
def ocs (l : List (Nat × Nat × Value)) (rounds : List Bool) : Orc := fun f t (x : List Value) =>
  match l.find? (fun p => Nat.beq p.1 f && Nat.beq p.2.1 t) with
  | some p => some p.2.2
  | none => if Nat.beq f 47 && Nat.beq t 17 then (match (x[5]? : Option Value) with | some (Value.int _ i) => (rounds[i.toNat]?).map Value.bool | _ => none) else none
def hkZ : Hook := fun _ _ _ => none
theorem hkZ_ok : HookOk Tryd.prog hkZ := by
  intro f args h v cs hv
  cases hv
def regS (n : Int) : Bool := decide (n ≥ 0) && decide (n < 16)
def aluOk (a : Int) : Bool := a == 0 || (a == 1 || (a == 4 || (a == 5 || (a == 6 || (a == 7)))))
def shOk (a : Int) : Bool := a == 4 || (a == 5 || (a == 7))
def ccR (a : Int) : Bool := a == 2 || (a == 3 || (a == 4 || (a == 5 || (a == 6 || (a == 7 || (a == 12 || (a == 13 || (a == 14 || (a == 15)))))))))
def szOk (a : Int) : Bool := a == 1 || (a == 2 || (a == 4 || (a == 8)))
def szR (a : Int) : Bool := 1 == a || (2 == a || (4 == a || 8 == a))
theorem szR_eq (a : Int) : szR a = szOk a := by
  unfold szR szOk
  simp only [BEq.comm (b := a)]
def ccOk (c : Int) : Bool := (decide (c ≥ 2) && decide (c ≤ 7)) || (decide (c ≥ 12) && decide (c ≤ 15))
def wordS (n : Int) : Bool := decide (n ≥ -2147483648) && decide (n ≤ 2147483647)
def shiftS (wi : Bool) (im : Int) : Bool := decide (im ≥ 0) && (decide (im < 32) || (wi && decide (im < 64)))
def relS (sh : Bool) (re : Int) : Bool := !sh || (decide (re ≥ -128) && decide (re ≤ 127))
theorem eqz (a c : Int) : (c == a) = (a == c) := BEq.comm
theorem ralu_0 (a : Int) : Lf [] 44 [.int .i64 a] (.bool true) [(b2i (0 == a), 1)] := lf hkZ_ok (ocs [] [true]) (by kernel_rfl) (by kernel_rfl) (by kernel_rfl)
theorem ralu_1 (a : Int) : Lf [] 44 [.int .i64 a] (.bool true) [(b2i (0 == a), 0), (b2i (1 == a), 1)] := lf hkZ_ok (ocs [] [false, true]) (by kernel_rfl) (by kernel_rfl) (by kernel_rfl)
theorem ralu_2 (a : Int) : Lf [] 44 [.int .i64 a] (.bool true) [(b2i (0 == a), 0), (b2i (1 == a), 0), (b2i (4 == a), 1)] := lf hkZ_ok (ocs [] [false, false, true]) (by kernel_rfl) (by kernel_rfl) (by kernel_rfl)
theorem ralu_3 (a : Int) : Lf [] 44 [.int .i64 a] (.bool true) [(b2i (0 == a), 0), (b2i (1 == a), 0), (b2i (4 == a), 0), (b2i (5 == a), 1)] := lf hkZ_ok (ocs [] [false, false, false, true]) (by kernel_rfl) (by kernel_rfl) (by kernel_rfl)
theorem ralu_4 (a : Int) : Lf [] 44 [.int .i64 a] (.bool true) [(b2i (0 == a), 0), (b2i (1 == a), 0), (b2i (4 == a), 0), (b2i (5 == a), 0), (b2i (6 == a), 1)] := lf hkZ_ok (ocs [] [false, false, false, false, true]) (by kernel_rfl) (by kernel_rfl) (by kernel_rfl)
theorem ralu_5 (a : Int) : Lf [] 44 [.int .i64 a] (.bool true) [(b2i (0 == a), 0), (b2i (1 == a), 0), (b2i (4 == a), 0), (b2i (5 == a), 0), (b2i (6 == a), 0), (b2i (7 == a), 1)] := lf hkZ_ok (ocs [] [false, false, false, false, false, true]) (by kernel_rfl) (by kernel_rfl) (by kernel_rfl)
theorem ralu_6 (a : Int) : Lf [] 44 [.int .i64 a] (.bool false) [(b2i (0 == a), 0), (b2i (1 == a), 0), (b2i (4 == a), 0), (b2i (5 == a), 0), (b2i (6 == a), 0), (b2i (7 == a), 0)] := lf hkZ_ok (ocs [] [false, false, false, false, false, false]) (by kernel_rfl) (by kernel_rfl) (by kernel_rfl)
theorem c_ralu (a : Int) (w : World) : Calls Tryd.prog 44 #[.int .i64 a] w fun e w' => e = .returned (.bool (aluOk a)) ∧ Gr w w' := by
  rcases Bool.eq_false_or_eq_true (0 == a) with k0 | k0
  · exact retZ (by first | rfl | ((simp only [aluOk, ← eqz a]) <;> (try simp only [k0]) <;> (try rfl) <;> (try simp))) (ralu_0 a (csT' k0 csN') w (Laid.nil w))
  · rcases Bool.eq_false_or_eq_true (1 == a) with k1 | k1
    · exact retZ (by first | rfl | ((simp only [aluOk, ← eqz a]) <;> (try simp only [k0]) <;> (try simp only [k1]) <;> (try rfl) <;> (try simp))) (ralu_1 a (csF' k0 (csT' k1 csN')) w (Laid.nil w))
    · rcases Bool.eq_false_or_eq_true (4 == a) with k2 | k2
      · exact retZ (by first | rfl | ((simp only [aluOk, ← eqz a]) <;> (try simp only [k0]) <;> (try simp only [k1]) <;> (try simp only [k2]) <;> (try rfl) <;> (try simp))) (ralu_2 a (csF' k0 (csF' k1 (csT' k2 csN'))) w (Laid.nil w))
      · rcases Bool.eq_false_or_eq_true (5 == a) with k3 | k3
        · exact retZ (by first | rfl | ((simp only [aluOk, ← eqz a]) <;> (try simp only [k0]) <;> (try simp only [k1]) <;> (try simp only [k2]) <;> (try simp only [k3]) <;> (try rfl) <;> (try simp))) (ralu_3 a (csF' k0 (csF' k1 (csF' k2 (csT' k3 csN')))) w (Laid.nil w))
        · rcases Bool.eq_false_or_eq_true (6 == a) with k4 | k4
          · exact retZ (by first | rfl | ((simp only [aluOk, ← eqz a]) <;> (try simp only [k0]) <;> (try simp only [k1]) <;> (try simp only [k2]) <;> (try simp only [k3]) <;> (try simp only [k4]) <;> (try rfl) <;> (try simp))) (ralu_4 a (csF' k0 (csF' k1 (csF' k2 (csF' k3 (csT' k4 csN'))))) w (Laid.nil w))
          · rcases Bool.eq_false_or_eq_true (7 == a) with k5 | k5
            · exact retZ (by first | rfl | ((simp only [aluOk, ← eqz a]) <;> (try simp only [k0]) <;> (try simp only [k1]) <;> (try simp only [k2]) <;> (try simp only [k3]) <;> (try simp only [k4]) <;> (try simp only [k5]) <;> (try rfl) <;> (try simp))) (ralu_5 a (csF' k0 (csF' k1 (csF' k2 (csF' k3 (csF' k4 (csT' k5 csN')))))) w (Laid.nil w))
            · exact retZ (by first | rfl | ((simp only [aluOk, ← eqz a]) <;> (try simp only [k0]) <;> (try simp only [k1]) <;> (try simp only [k2]) <;> (try simp only [k3]) <;> (try simp only [k4]) <;> (try simp only [k5]) <;> (try rfl) <;> (try simp))) (ralu_6 a (csF' k0 (csF' k1 (csF' k2 (csF' k3 (csF' k4 (csF' k5 csN')))))) w (Laid.nil w))
def hk_ralu : Hook := fun f args h =>
  if Nat.beq f 44 then
    match args with
    | [.int .i64 p] => some (.bool (aluOk p), [])
    | _ => none
  else none
theorem hk_ralu_ok : HookOk Tryd.prog hk_ralu := by
  intro f args h v cs hv hc wb k s w H
  unfold hk_ralu at hv
  split at hv
  · rename_i hf
    obtain rfl := Nat.eq_of_beq_eq_true hf
    split at hv
    · cases hv
      exact c_ralu _ w
    · cases hv
  · cases hv
theorem rshift_0 (a : Int) : Lf [] 46 [.int .i64 a] (.bool true) [(b2i (4 == a), 1)] := lf hkZ_ok (ocs [] [true]) (by kernel_rfl) (by kernel_rfl) (by kernel_rfl)
theorem rshift_1 (a : Int) : Lf [] 46 [.int .i64 a] (.bool true) [(b2i (4 == a), 0), (b2i (5 == a), 1)] := lf hkZ_ok (ocs [] [false, true]) (by kernel_rfl) (by kernel_rfl) (by kernel_rfl)
theorem rshift_2 (a : Int) : Lf [] 46 [.int .i64 a] (.bool true) [(b2i (4 == a), 0), (b2i (5 == a), 0), (b2i (7 == a), 1)] := lf hkZ_ok (ocs [] [false, false, true]) (by kernel_rfl) (by kernel_rfl) (by kernel_rfl)
theorem rshift_3 (a : Int) : Lf [] 46 [.int .i64 a] (.bool false) [(b2i (4 == a), 0), (b2i (5 == a), 0), (b2i (7 == a), 0)] := lf hkZ_ok (ocs [] [false, false, false]) (by kernel_rfl) (by kernel_rfl) (by kernel_rfl)
theorem c_rshift (a : Int) (w : World) : Calls Tryd.prog 46 #[.int .i64 a] w fun e w' => e = .returned (.bool (shOk a)) ∧ Gr w w' := by
  rcases Bool.eq_false_or_eq_true (4 == a) with k0 | k0
  · exact retZ (by first | rfl | ((simp only [shOk, ← eqz a]) <;> (try simp only [k0]) <;> (try rfl) <;> (try simp))) (rshift_0 a (csT' k0 csN') w (Laid.nil w))
  · rcases Bool.eq_false_or_eq_true (5 == a) with k1 | k1
    · exact retZ (by first | rfl | ((simp only [shOk, ← eqz a]) <;> (try simp only [k0]) <;> (try simp only [k1]) <;> (try rfl) <;> (try simp))) (rshift_1 a (csF' k0 (csT' k1 csN')) w (Laid.nil w))
    · rcases Bool.eq_false_or_eq_true (7 == a) with k2 | k2
      · exact retZ (by first | rfl | ((simp only [shOk, ← eqz a]) <;> (try simp only [k0]) <;> (try simp only [k1]) <;> (try simp only [k2]) <;> (try rfl) <;> (try simp))) (rshift_2 a (csF' k0 (csF' k1 (csT' k2 csN'))) w (Laid.nil w))
      · exact retZ (by first | rfl | ((simp only [shOk, ← eqz a]) <;> (try simp only [k0]) <;> (try simp only [k1]) <;> (try simp only [k2]) <;> (try rfl) <;> (try simp))) (rshift_3 a (csF' k0 (csF' k1 (csF' k2 csN'))) w (Laid.nil w))
def hk_rshift : Hook := fun f args h =>
  if Nat.beq f 46 then
    match args with
    | [.int .i64 p] => some (.bool (shOk p), [])
    | _ => none
  else none
theorem hk_rshift_ok : HookOk Tryd.prog hk_rshift := by
  intro f args h v cs hv hc wb k s w H
  unfold hk_rshift at hv
  split at hv
  · rename_i hf
    obtain rfl := Nat.eq_of_beq_eq_true hf
    split at hv
    · cases hv
      exact c_rshift _ w
    · cases hv
  · cases hv
theorem rcond_0 (a : Int) : Lf [] 48 [.int .i64 a] (.bool true) [(b2i (2 == a), 1)] := lf hkZ_ok (ocs [] [true]) (by kernel_rfl) (by kernel_rfl) (by kernel_rfl)
theorem rcond_1 (a : Int) : Lf [] 48 [.int .i64 a] (.bool true) [(b2i (2 == a), 0), (b2i (3 == a), 1)] := lf hkZ_ok (ocs [] [false, true]) (by kernel_rfl) (by kernel_rfl) (by kernel_rfl)
theorem rcond_2 (a : Int) : Lf [] 48 [.int .i64 a] (.bool true) [(b2i (2 == a), 0), (b2i (3 == a), 0), (b2i (4 == a), 1)] := lf hkZ_ok (ocs [] [false, false, true]) (by kernel_rfl) (by kernel_rfl) (by kernel_rfl)
theorem rcond_3 (a : Int) : Lf [] 48 [.int .i64 a] (.bool true) [(b2i (2 == a), 0), (b2i (3 == a), 0), (b2i (4 == a), 0), (b2i (5 == a), 1)] := lf hkZ_ok (ocs [] [false, false, false, true]) (by kernel_rfl) (by kernel_rfl) (by kernel_rfl)
theorem rcond_4 (a : Int) : Lf [] 48 [.int .i64 a] (.bool true) [(b2i (2 == a), 0), (b2i (3 == a), 0), (b2i (4 == a), 0), (b2i (5 == a), 0), (b2i (6 == a), 1)] := lf hkZ_ok (ocs [] [false, false, false, false, true]) (by kernel_rfl) (by kernel_rfl) (by kernel_rfl)
theorem rcond_5 (a : Int) : Lf [] 48 [.int .i64 a] (.bool true) [(b2i (2 == a), 0), (b2i (3 == a), 0), (b2i (4 == a), 0), (b2i (5 == a), 0), (b2i (6 == a), 0), (b2i (7 == a), 1)] := lf hkZ_ok (ocs [] [false, false, false, false, false, true]) (by kernel_rfl) (by kernel_rfl) (by kernel_rfl)
theorem rcond_6 (a : Int) : Lf [] 48 [.int .i64 a] (.bool true) [(b2i (2 == a), 0), (b2i (3 == a), 0), (b2i (4 == a), 0), (b2i (5 == a), 0), (b2i (6 == a), 0), (b2i (7 == a), 0), (b2i (12 == a), 1)] := lf hkZ_ok (ocs [] [false, false, false, false, false, false, true]) (by kernel_rfl) (by kernel_rfl) (by kernel_rfl)
theorem rcond_7 (a : Int) : Lf [] 48 [.int .i64 a] (.bool true) [(b2i (2 == a), 0), (b2i (3 == a), 0), (b2i (4 == a), 0), (b2i (5 == a), 0), (b2i (6 == a), 0), (b2i (7 == a), 0), (b2i (12 == a), 0), (b2i (13 == a), 1)] := lf hkZ_ok (ocs [] [false, false, false, false, false, false, false, true]) (by kernel_rfl) (by kernel_rfl) (by kernel_rfl)
theorem rcond_8 (a : Int) : Lf [] 48 [.int .i64 a] (.bool true) [(b2i (2 == a), 0), (b2i (3 == a), 0), (b2i (4 == a), 0), (b2i (5 == a), 0), (b2i (6 == a), 0), (b2i (7 == a), 0), (b2i (12 == a), 0), (b2i (13 == a), 0), (b2i (14 == a), 1)] := lf hkZ_ok (ocs [] [false, false, false, false, false, false, false, false, true]) (by kernel_rfl) (by kernel_rfl) (by kernel_rfl)
theorem rcond_9 (a : Int) : Lf [] 48 [.int .i64 a] (.bool true) [(b2i (2 == a), 0), (b2i (3 == a), 0), (b2i (4 == a), 0), (b2i (5 == a), 0), (b2i (6 == a), 0), (b2i (7 == a), 0), (b2i (12 == a), 0), (b2i (13 == a), 0), (b2i (14 == a), 0), (b2i (15 == a), 1)] := lf hkZ_ok (ocs [] [false, false, false, false, false, false, false, false, false, true]) (by kernel_rfl) (by kernel_rfl) (by kernel_rfl)
theorem rcond_10 (a : Int) : Lf [] 48 [.int .i64 a] (.bool false) [(b2i (2 == a), 0), (b2i (3 == a), 0), (b2i (4 == a), 0), (b2i (5 == a), 0), (b2i (6 == a), 0), (b2i (7 == a), 0), (b2i (12 == a), 0), (b2i (13 == a), 0), (b2i (14 == a), 0), (b2i (15 == a), 0)] := lf hkZ_ok (ocs [] [false, false, false, false, false, false, false, false, false, false]) (by kernel_rfl) (by kernel_rfl) (by kernel_rfl)
theorem c_rcond (a : Int) (w : World) : Calls Tryd.prog 48 #[.int .i64 a] w fun e w' => e = .returned (.bool (ccR a)) ∧ Gr w w' := by
  rcases Bool.eq_false_or_eq_true (2 == a) with k0 | k0
  · exact retZ (by first | rfl | ((simp only [ccR, ← eqz a]) <;> (try simp only [k0]) <;> (try rfl) <;> (try simp))) (rcond_0 a (csT' k0 csN') w (Laid.nil w))
  · rcases Bool.eq_false_or_eq_true (3 == a) with k1 | k1
    · exact retZ (by first | rfl | ((simp only [ccR, ← eqz a]) <;> (try simp only [k0]) <;> (try simp only [k1]) <;> (try rfl) <;> (try simp))) (rcond_1 a (csF' k0 (csT' k1 csN')) w (Laid.nil w))
    · rcases Bool.eq_false_or_eq_true (4 == a) with k2 | k2
      · exact retZ (by first | rfl | ((simp only [ccR, ← eqz a]) <;> (try simp only [k0]) <;> (try simp only [k1]) <;> (try simp only [k2]) <;> (try rfl) <;> (try simp))) (rcond_2 a (csF' k0 (csF' k1 (csT' k2 csN'))) w (Laid.nil w))
      · rcases Bool.eq_false_or_eq_true (5 == a) with k3 | k3
        · exact retZ (by first | rfl | ((simp only [ccR, ← eqz a]) <;> (try simp only [k0]) <;> (try simp only [k1]) <;> (try simp only [k2]) <;> (try simp only [k3]) <;> (try rfl) <;> (try simp))) (rcond_3 a (csF' k0 (csF' k1 (csF' k2 (csT' k3 csN')))) w (Laid.nil w))
        · rcases Bool.eq_false_or_eq_true (6 == a) with k4 | k4
          · exact retZ (by first | rfl | ((simp only [ccR, ← eqz a]) <;> (try simp only [k0]) <;> (try simp only [k1]) <;> (try simp only [k2]) <;> (try simp only [k3]) <;> (try simp only [k4]) <;> (try rfl) <;> (try simp))) (rcond_4 a (csF' k0 (csF' k1 (csF' k2 (csF' k3 (csT' k4 csN'))))) w (Laid.nil w))
          · rcases Bool.eq_false_or_eq_true (7 == a) with k5 | k5
            · exact retZ (by first | rfl | ((simp only [ccR, ← eqz a]) <;> (try simp only [k0]) <;> (try simp only [k1]) <;> (try simp only [k2]) <;> (try simp only [k3]) <;> (try simp only [k4]) <;> (try simp only [k5]) <;> (try rfl) <;> (try simp))) (rcond_5 a (csF' k0 (csF' k1 (csF' k2 (csF' k3 (csF' k4 (csT' k5 csN')))))) w (Laid.nil w))
            · rcases Bool.eq_false_or_eq_true (12 == a) with k6 | k6
              · exact retZ (by first | rfl | ((simp only [ccR, ← eqz a]) <;> (try simp only [k6]) <;> (try simp only [k0]) <;> (try simp only [k1]) <;> (try simp only [k2]) <;> (try simp only [k3]) <;> (try simp only [k4]) <;> (try simp only [k5]) <;> (try rfl) <;> (try simp))) (rcond_6 a (csF' k0 (csF' k1 (csF' k2 (csF' k3 (csF' k4 (csF' k5 (csT' k6 csN'))))))) w (Laid.nil w))
              · rcases Bool.eq_false_or_eq_true (13 == a) with k7 | k7
                · exact retZ (by first | rfl | ((simp only [ccR, ← eqz a]) <;> (try simp only [k6]) <;> (try simp only [k7]) <;> (try simp only [k0]) <;> (try simp only [k1]) <;> (try simp only [k2]) <;> (try simp only [k3]) <;> (try simp only [k4]) <;> (try simp only [k5]) <;> (try rfl) <;> (try simp))) (rcond_7 a (csF' k0 (csF' k1 (csF' k2 (csF' k3 (csF' k4 (csF' k5 (csF' k6 (csT' k7 csN')))))))) w (Laid.nil w))
                · rcases Bool.eq_false_or_eq_true (14 == a) with k8 | k8
                  · exact retZ (by first | rfl | ((simp only [ccR, ← eqz a]) <;> (try simp only [k6]) <;> (try simp only [k7]) <;> (try simp only [k8]) <;> (try simp only [k0]) <;> (try simp only [k1]) <;> (try simp only [k2]) <;> (try simp only [k3]) <;> (try simp only [k4]) <;> (try simp only [k5]) <;> (try rfl) <;> (try simp))) (rcond_8 a (csF' k0 (csF' k1 (csF' k2 (csF' k3 (csF' k4 (csF' k5 (csF' k6 (csF' k7 (csT' k8 csN'))))))))) w (Laid.nil w))
                  · rcases Bool.eq_false_or_eq_true (15 == a) with k9 | k9
                    · exact retZ (by first | rfl | ((simp only [ccR, ← eqz a]) <;> (try simp only [k6]) <;> (try simp only [k7]) <;> (try simp only [k8]) <;> (try simp only [k9]) <;> (try simp only [k0]) <;> (try simp only [k1]) <;> (try simp only [k2]) <;> (try simp only [k3]) <;> (try simp only [k4]) <;> (try simp only [k5]) <;> (try rfl) <;> (try simp))) (rcond_9 a (csF' k0 (csF' k1 (csF' k2 (csF' k3 (csF' k4 (csF' k5 (csF' k6 (csF' k7 (csF' k8 (csT' k9 csN')))))))))) w (Laid.nil w))
                    · exact retZ (by first | rfl | ((simp only [ccR, ← eqz a]) <;> (try simp only [k6]) <;> (try simp only [k7]) <;> (try simp only [k8]) <;> (try simp only [k9]) <;> (try simp only [k0]) <;> (try simp only [k1]) <;> (try simp only [k2]) <;> (try simp only [k3]) <;> (try simp only [k4]) <;> (try simp only [k5]) <;> (try rfl) <;> (try simp))) (rcond_10 a (csF' k0 (csF' k1 (csF' k2 (csF' k3 (csF' k4 (csF' k5 (csF' k6 (csF' k7 (csF' k8 (csF' k9 csN')))))))))) w (Laid.nil w))
def hk_rcond : Hook := fun f args h =>
  if Nat.beq f 48 then
    match args with
    | [.int .i64 p] => some (.bool (ccR p), [])
    | _ => none
  else none
theorem hk_rcond_ok : HookOk Tryd.prog hk_rcond := by
  intro f args h v cs hv hc wb k s w H
  unfold hk_rcond at hv
  split at hv
  · rename_i hf
    obtain rfl := Nat.eq_of_beq_eq_true hf
    split at hv
    · cases hv
      exact c_rcond _ w
    · cases hv
  · cases hv
theorem rword_0 (a : Int) : Lf [] 45 [.int .i64 a] (.bool (decide (a ≤ 2147483647))) [(b2i (decide (a ≥ -2147483648)), 1)] := lf hkZ_ok (ocs [(45, 5, .bool true)] []) (by kernel_rfl) (by kernel_rfl) (by kernel_rfl)
theorem rword_1 (a : Int) : Lf [] 45 [.int .i64 a] (.bool false) [(b2i (decide (a ≥ -2147483648)), 0)] := lf hkZ_ok (ocs [(45, 5, .bool false)] []) (by kernel_rfl) (by kernel_rfl) (by kernel_rfl)
theorem c_rword (a : Int) (w : World) : Calls Tryd.prog 45 #[.int .i64 a] w fun e w' => e = .returned (.bool (wordS a)) ∧ Gr w w' := by
  rcases Bool.eq_false_or_eq_true (decide (a ≥ -2147483648)) with k0 | k0
  · exact retZ (by first | rfl | ((simp only [wordS]) <;> (try simp only [k0]) <;> (try rfl) <;> (try simp))) (rword_0 a (csT' k0 csN') w (Laid.nil w))
  · exact retZ (by first | rfl | ((simp only [wordS]) <;> (try simp only [k0]) <;> (try rfl) <;> (try simp))) (rword_1 a (csF' k0 csN') w (Laid.nil w))
def hk_rword : Hook := fun f args h =>
  if Nat.beq f 45 then
    match args with
    | [.int .i64 p] => some (.bool (wordS p), [])
    | _ => none
  else none
theorem hk_rword_ok : HookOk Tryd.prog hk_rword := by
  intro f args h v cs hv hc wb k s w H
  unfold hk_rword at hv
  split at hv
  · rename_i hf
    obtain rfl := Nat.eq_of_beq_eq_true hf
    split at hv
    · cases hv
      exact c_rword _ w
    · cases hv
  · cases hv
theorem rreg_0 (a : Int) : Lf [] 49 [.int .i64 a] (.bool (decide (a < 16))) [(b2i (decide (a ≥ 0)), 1)] := lf hkZ_ok (ocs [(49, 5, .bool true)] []) (by kernel_rfl) (by kernel_rfl) (by kernel_rfl)
theorem rreg_1 (a : Int) : Lf [] 49 [.int .i64 a] (.bool false) [(b2i (decide (a ≥ 0)), 0)] := lf hkZ_ok (ocs [(49, 5, .bool false)] []) (by kernel_rfl) (by kernel_rfl) (by kernel_rfl)
theorem c_rreg (a : Int) (w : World) : Calls Tryd.prog 49 #[.int .i64 a] w fun e w' => e = .returned (.bool (regS a)) ∧ Gr w w' := by
  rcases Bool.eq_false_or_eq_true (decide (a ≥ 0)) with k0 | k0
  · exact retZ (by first | rfl | ((simp only [regS]) <;> (try simp only [k0]) <;> (try rfl) <;> (try simp))) (rreg_0 a (csT' k0 csN') w (Laid.nil w))
  · exact retZ (by first | rfl | ((simp only [regS]) <;> (try simp only [k0]) <;> (try rfl) <;> (try simp))) (rreg_1 a (csF' k0 csN') w (Laid.nil w))
def hk_rreg : Hook := fun f args h =>
  if Nat.beq f 49 then
    match args with
    | [.int .i64 p] => some (.bool (regS p), [])
    | _ => none
  else none
theorem hk_rreg_ok : HookOk Tryd.prog hk_rreg := by
  intro f args h v cs hv hc wb k s w H
  unfold hk_rreg at hv
  split at hv
  · rename_i hf
    obtain rfl := Nat.eq_of_beq_eq_true hf
    split at hv
    · cases hv
      exact c_rreg _ w
    · cases hv
  · cases hv
theorem regs_0 (k : Int) (al co si : Int) (wi sh : Bool) (ds sr dp re im : Int) : Lf [] 41 [.agg ⟨(xA k al co si wi sh ds sr dp re im)⟩] (.bool (decide (sr < 16))) [(b2i (decide (ds ≥ 0)), 1), (b2i (decide (ds < 16)), 1), (b2i (decide (sr ≥ 0)), 1)] := lf hkZ_ok (ocs [(41, 6, .bool true), (41, 11, .bool true), (41, 16, .bool true)] []) (by kernel_rfl) (by kernel_rfl) (by kernel_rfl)
theorem regs_1 (k : Int) (al co si : Int) (wi sh : Bool) (ds sr dp re im : Int) : Lf [] 41 [.agg ⟨(xA k al co si wi sh ds sr dp re im)⟩] (.bool false) [(b2i (decide (ds ≥ 0)), 1), (b2i (decide (ds < 16)), 1), (b2i (decide (sr ≥ 0)), 0)] := lf hkZ_ok (ocs [(41, 6, .bool true), (41, 11, .bool true), (41, 16, .bool false)] []) (by kernel_rfl) (by kernel_rfl) (by kernel_rfl)
theorem regs_2 (k : Int) (al co si : Int) (wi sh : Bool) (ds sr dp re im : Int) : Lf [] 41 [.agg ⟨(xA k al co si wi sh ds sr dp re im)⟩] (.bool false) [(b2i (decide (ds ≥ 0)), 1), (b2i (decide (ds < 16)), 0)] := lf hkZ_ok (ocs [(41, 6, .bool true), (41, 11, .bool false)] []) (by kernel_rfl) (by kernel_rfl) (by kernel_rfl)
theorem regs_3 (k : Int) (al co si : Int) (wi sh : Bool) (ds sr dp re im : Int) : Lf [] 41 [.agg ⟨(xA k al co si wi sh ds sr dp re im)⟩] (.bool false) [(b2i (decide (ds ≥ 0)), 0)] := lf hkZ_ok (ocs [(41, 6, .bool false)] []) (by kernel_rfl) (by kernel_rfl) (by kernel_rfl)
theorem c_regs (k : Int) (al co si : Int) (wi sh : Bool) (ds sr dp re im : Int) (w : World) : Calls Tryd.prog 41 #[.agg ⟨(xA k al co si wi sh ds sr dp re im)⟩] w fun e w' => e = .returned (.bool (regS ds && regS sr)) ∧ Gr w w' := by
  rcases Bool.eq_false_or_eq_true (decide (ds ≥ 0)) with k0 | k0
  · rcases Bool.eq_false_or_eq_true (decide (ds < 16)) with k1 | k1
    · rcases Bool.eq_false_or_eq_true (decide (sr ≥ 0)) with k2 | k2
      · exact retZ (by first | rfl | ((simp only [regS]) <;> (try simp only [k1]) <;> (try simp only [k0]) <;> (try simp only [k2]) <;> (try rfl) <;> (try simp))) (regs_0 k al co si wi sh ds sr dp re im (csT' k0 (csT' k1 (csT' k2 csN'))) w (Laid.nil w))
      · exact retZ (by first | rfl | ((simp only [regS]) <;> (try simp only [k1]) <;> (try simp only [k0]) <;> (try simp only [k2]) <;> (try rfl) <;> (try simp))) (regs_1 k al co si wi sh ds sr dp re im (csT' k0 (csT' k1 (csF' k2 csN'))) w (Laid.nil w))
    · exact retZ (by first | rfl | ((simp only [regS]) <;> (try simp only [k1]) <;> (try simp only [k0]) <;> (try rfl) <;> (try simp))) (regs_2 k al co si wi sh ds sr dp re im (csT' k0 (csF' k1 csN')) w (Laid.nil w))
  · exact retZ (by first | rfl | ((simp only [regS]) <;> (try simp only [k0]) <;> (try rfl) <;> (try simp))) (regs_3 k al co si wi sh ds sr dp re im (csF' k0 csN') w (Laid.nil w))
def hk_regs : Hook := fun f args h =>
  if Nat.beq f 41 then
    match args with
    | [.agg ⟨[.int .i64 p0, .int .i64 p1, .int .i64 p2, .int .i64 p3, .bool p4, .bool p5, .int .i64 p6, .int .i64 p7, .int .i32 p8, .int .i32 p9, .int .i64 p10]⟩] => some (.bool (regS p6 && regS p7), [])
    | _ => none
  else none
theorem hk_regs_ok : HookOk Tryd.prog hk_regs := by
  intro f args h v cs hv hc wb k s w H
  unfold hk_regs at hv
  split at hv
  · rename_i hf
    obtain rfl := Nat.eq_of_beq_eq_true hf
    split at hv
    · cases hv
      exact c_regs _ _ _ _ _ _ _ _ _ _ _ w
    · cases hv
  · cases hv
theorem cho4_0 (al co si : Int) (wi sh : Bool) (ds sr dp re im : Int) : Lf [] 42 [.agg ⟨[.int .u16 15, .bool false, .int .u8 1, .int .u8 1, .int .u8 0, .int .u8 0]⟩, .agg ⟨(xA 4 al co si wi sh ds sr dp re im)⟩] (.bool true) [(b2i (al == 0), 1)] := lf hkZ_ok (ocs [(42, 12, .bool true)] []) (by kernel_rfl) (by kernel_rfl) (by kernel_rfl)
theorem cho4_1 (al co si : Int) (wi sh : Bool) (ds sr dp re im : Int) : Lf [] 42 [.agg ⟨[.int .u16 15, .bool false, .int .u8 1, .int .u8 1, .int .u8 0, .int .u8 0]⟩, .agg ⟨(xA 4 al co si wi sh ds sr dp re im)⟩] (.bool true) [(b2i (al == 0), 0), (b2i (al == 1), 1)] := lf hkZ_ok (ocs [(42, 12, .bool false), (42, 13, .bool true)] []) (by kernel_rfl) (by kernel_rfl) (by kernel_rfl)
theorem cho4_2 (al co si : Int) (wi sh : Bool) (ds sr dp re im : Int) : Lf [] 42 [.agg ⟨[.int .u16 15, .bool false, .int .u8 1, .int .u8 1, .int .u8 0, .int .u8 0]⟩, .agg ⟨(xA 4 al co si wi sh ds sr dp re im)⟩] (.bool true) [(b2i (al == 0), 0), (b2i (al == 1), 0), (b2i (al == 4), 1)] := lf hkZ_ok (ocs [(42, 12, .bool false), (42, 13, .bool false), (42, 14, .bool true)] []) (by kernel_rfl) (by kernel_rfl) (by kernel_rfl)
theorem cho4_3 (al co si : Int) (wi sh : Bool) (ds sr dp re im : Int) : Lf [] 42 [.agg ⟨[.int .u16 15, .bool false, .int .u8 1, .int .u8 1, .int .u8 0, .int .u8 0]⟩, .agg ⟨(xA 4 al co si wi sh ds sr dp re im)⟩] (.bool true) [(b2i (al == 0), 0), (b2i (al == 1), 0), (b2i (al == 4), 0), (b2i (al == 5), 1)] := lf hkZ_ok (ocs [(42, 12, .bool false), (42, 13, .bool false), (42, 14, .bool false), (42, 15, .bool true)] []) (by kernel_rfl) (by kernel_rfl) (by kernel_rfl)
theorem cho4_4 (al co si : Int) (wi sh : Bool) (ds sr dp re im : Int) : Lf [] 42 [.agg ⟨[.int .u16 15, .bool false, .int .u8 1, .int .u8 1, .int .u8 0, .int .u8 0]⟩, .agg ⟨(xA 4 al co si wi sh ds sr dp re im)⟩] (.bool true) [(b2i (al == 0), 0), (b2i (al == 1), 0), (b2i (al == 4), 0), (b2i (al == 5), 0), (b2i (al == 6), 1)] := lf hkZ_ok (ocs [(42, 12, .bool false), (42, 13, .bool false), (42, 14, .bool false), (42, 15, .bool false), (42, 16, .bool true)] []) (by kernel_rfl) (by kernel_rfl) (by kernel_rfl)
theorem cho4_5 (al co si : Int) (wi sh : Bool) (ds sr dp re im : Int) : Lf [] 42 [.agg ⟨[.int .u16 15, .bool false, .int .u8 1, .int .u8 1, .int .u8 0, .int .u8 0]⟩, .agg ⟨(xA 4 al co si wi sh ds sr dp re im)⟩] (.bool true) [(b2i (al == 0), 0), (b2i (al == 1), 0), (b2i (al == 4), 0), (b2i (al == 5), 0), (b2i (al == 6), 0), (b2i (al == 7), 1)] := lf hkZ_ok (ocs [(42, 12, .bool false), (42, 13, .bool false), (42, 14, .bool false), (42, 15, .bool false), (42, 16, .bool false), (42, 17, .bool true)] []) (by kernel_rfl) (by kernel_rfl) (by kernel_rfl)
theorem cho4_6 (al co si : Int) (wi sh : Bool) (ds sr dp re im : Int) : Lf [] 42 [.agg ⟨[.int .u16 15, .bool false, .int .u8 1, .int .u8 1, .int .u8 0, .int .u8 0]⟩, .agg ⟨(xA 4 al co si wi sh ds sr dp re im)⟩] (.bool false) [(b2i (al == 0), 0), (b2i (al == 1), 0), (b2i (al == 4), 0), (b2i (al == 5), 0), (b2i (al == 6), 0), (b2i (al == 7), 0)] := lf hkZ_ok (ocs [(42, 12, .bool false), (42, 13, .bool false), (42, 14, .bool false), (42, 15, .bool false), (42, 16, .bool false), (42, 17, .bool false)] []) (by kernel_rfl) (by kernel_rfl) (by kernel_rfl)
theorem c_cho4 (al co si : Int) (wi sh : Bool) (ds sr dp re im : Int) (w : World) : Calls Tryd.prog 42 #[.agg ⟨[.int .u16 15, .bool false, .int .u8 1, .int .u8 1, .int .u8 0, .int .u8 0]⟩, .agg ⟨(xA 4 al co si wi sh ds sr dp re im)⟩] w fun e w' => e = .returned (.bool (aluOk al)) ∧ Gr w w' := by
  rcases Bool.eq_false_or_eq_true (al == 0) with k0 | k0
  · exact retZ (by first | rfl | ((simp only [aluOk]) <;> (try simp only [k0]) <;> (try rfl) <;> (try simp))) (cho4_0 al co si wi sh ds sr dp re im (csT' k0 csN') w (Laid.nil w))
  · rcases Bool.eq_false_or_eq_true (al == 1) with k1 | k1
    · exact retZ (by first | rfl | ((simp only [aluOk]) <;> (try simp only [k0]) <;> (try simp only [k1]) <;> (try rfl) <;> (try simp))) (cho4_1 al co si wi sh ds sr dp re im (csF' k0 (csT' k1 csN')) w (Laid.nil w))
    · rcases Bool.eq_false_or_eq_true (al == 4) with k2 | k2
      · exact retZ (by first | rfl | ((simp only [aluOk]) <;> (try simp only [k0]) <;> (try simp only [k1]) <;> (try simp only [k2]) <;> (try rfl) <;> (try simp))) (cho4_2 al co si wi sh ds sr dp re im (csF' k0 (csF' k1 (csT' k2 csN'))) w (Laid.nil w))
      · rcases Bool.eq_false_or_eq_true (al == 5) with k3 | k3
        · exact retZ (by first | rfl | ((simp only [aluOk]) <;> (try simp only [k0]) <;> (try simp only [k1]) <;> (try simp only [k2]) <;> (try simp only [k3]) <;> (try rfl) <;> (try simp))) (cho4_3 al co si wi sh ds sr dp re im (csF' k0 (csF' k1 (csF' k2 (csT' k3 csN')))) w (Laid.nil w))
        · rcases Bool.eq_false_or_eq_true (al == 6) with k4 | k4
          · exact retZ (by first | rfl | ((simp only [aluOk]) <;> (try simp only [k0]) <;> (try simp only [k1]) <;> (try simp only [k2]) <;> (try simp only [k3]) <;> (try simp only [k4]) <;> (try rfl) <;> (try simp))) (cho4_4 al co si wi sh ds sr dp re im (csF' k0 (csF' k1 (csF' k2 (csF' k3 (csT' k4 csN'))))) w (Laid.nil w))
          · rcases Bool.eq_false_or_eq_true (al == 7) with k5 | k5
            · exact retZ (by first | rfl | ((simp only [aluOk]) <;> (try simp only [k0]) <;> (try simp only [k1]) <;> (try simp only [k2]) <;> (try simp only [k3]) <;> (try simp only [k4]) <;> (try simp only [k5]) <;> (try rfl) <;> (try simp))) (cho4_5 al co si wi sh ds sr dp re im (csF' k0 (csF' k1 (csF' k2 (csF' k3 (csF' k4 (csT' k5 csN')))))) w (Laid.nil w))
            · exact retZ (by first | rfl | ((simp only [aluOk]) <;> (try simp only [k0]) <;> (try simp only [k1]) <;> (try simp only [k2]) <;> (try simp only [k3]) <;> (try simp only [k4]) <;> (try simp only [k5]) <;> (try rfl) <;> (try simp))) (cho4_6 al co si wi sh ds sr dp re im (csF' k0 (csF' k1 (csF' k2 (csF' k3 (csF' k4 (csF' k5 csN')))))) w (Laid.nil w))
theorem cho5_0 (al co si : Int) (wi sh : Bool) (ds sr dp re im : Int) : Lf [] 42 [.agg ⟨[.int .u16 43, .bool false, .int .u8 129, .int .u8 4, .int .u8 0, .int .u8 4]⟩, .agg ⟨(xA 5 al co si wi sh ds sr dp re im)⟩] (.bool true) [(b2i (al == 0), 1)] := lf hkZ_ok (ocs [(42, 12, .bool true)] []) (by kernel_rfl) (by kernel_rfl) (by kernel_rfl)
theorem cho5_1 (al co si : Int) (wi sh : Bool) (ds sr dp re im : Int) : Lf [] 42 [.agg ⟨[.int .u16 43, .bool false, .int .u8 129, .int .u8 4, .int .u8 0, .int .u8 4]⟩, .agg ⟨(xA 5 al co si wi sh ds sr dp re im)⟩] (.bool true) [(b2i (al == 0), 0), (b2i (al == 1), 1)] := lf hkZ_ok (ocs [(42, 12, .bool false), (42, 13, .bool true)] []) (by kernel_rfl) (by kernel_rfl) (by kernel_rfl)
theorem cho5_2 (al co si : Int) (wi sh : Bool) (ds sr dp re im : Int) : Lf [] 42 [.agg ⟨[.int .u16 43, .bool false, .int .u8 129, .int .u8 4, .int .u8 0, .int .u8 4]⟩, .agg ⟨(xA 5 al co si wi sh ds sr dp re im)⟩] (.bool true) [(b2i (al == 0), 0), (b2i (al == 1), 0), (b2i (al == 4), 1)] := lf hkZ_ok (ocs [(42, 12, .bool false), (42, 13, .bool false), (42, 14, .bool true)] []) (by kernel_rfl) (by kernel_rfl) (by kernel_rfl)
theorem cho5_3 (al co si : Int) (wi sh : Bool) (ds sr dp re im : Int) : Lf [] 42 [.agg ⟨[.int .u16 43, .bool false, .int .u8 129, .int .u8 4, .int .u8 0, .int .u8 4]⟩, .agg ⟨(xA 5 al co si wi sh ds sr dp re im)⟩] (.bool true) [(b2i (al == 0), 0), (b2i (al == 1), 0), (b2i (al == 4), 0), (b2i (al == 5), 1)] := lf hkZ_ok (ocs [(42, 12, .bool false), (42, 13, .bool false), (42, 14, .bool false), (42, 15, .bool true)] []) (by kernel_rfl) (by kernel_rfl) (by kernel_rfl)
theorem cho5_4 (al co si : Int) (wi sh : Bool) (ds sr dp re im : Int) : Lf [] 42 [.agg ⟨[.int .u16 43, .bool false, .int .u8 129, .int .u8 4, .int .u8 0, .int .u8 4]⟩, .agg ⟨(xA 5 al co si wi sh ds sr dp re im)⟩] (.bool true) [(b2i (al == 0), 0), (b2i (al == 1), 0), (b2i (al == 4), 0), (b2i (al == 5), 0), (b2i (al == 6), 1)] := lf hkZ_ok (ocs [(42, 12, .bool false), (42, 13, .bool false), (42, 14, .bool false), (42, 15, .bool false), (42, 16, .bool true)] []) (by kernel_rfl) (by kernel_rfl) (by kernel_rfl)
theorem cho5_5 (al co si : Int) (wi sh : Bool) (ds sr dp re im : Int) : Lf [] 42 [.agg ⟨[.int .u16 43, .bool false, .int .u8 129, .int .u8 4, .int .u8 0, .int .u8 4]⟩, .agg ⟨(xA 5 al co si wi sh ds sr dp re im)⟩] (.bool true) [(b2i (al == 0), 0), (b2i (al == 1), 0), (b2i (al == 4), 0), (b2i (al == 5), 0), (b2i (al == 6), 0), (b2i (al == 7), 1)] := lf hkZ_ok (ocs [(42, 12, .bool false), (42, 13, .bool false), (42, 14, .bool false), (42, 15, .bool false), (42, 16, .bool false), (42, 17, .bool true)] []) (by kernel_rfl) (by kernel_rfl) (by kernel_rfl)
theorem cho5_6 (al co si : Int) (wi sh : Bool) (ds sr dp re im : Int) : Lf [] 42 [.agg ⟨[.int .u16 43, .bool false, .int .u8 129, .int .u8 4, .int .u8 0, .int .u8 4]⟩, .agg ⟨(xA 5 al co si wi sh ds sr dp re im)⟩] (.bool false) [(b2i (al == 0), 0), (b2i (al == 1), 0), (b2i (al == 4), 0), (b2i (al == 5), 0), (b2i (al == 6), 0), (b2i (al == 7), 0)] := lf hkZ_ok (ocs [(42, 12, .bool false), (42, 13, .bool false), (42, 14, .bool false), (42, 15, .bool false), (42, 16, .bool false), (42, 17, .bool false)] []) (by kernel_rfl) (by kernel_rfl) (by kernel_rfl)
theorem c_cho5 (al co si : Int) (wi sh : Bool) (ds sr dp re im : Int) (w : World) : Calls Tryd.prog 42 #[.agg ⟨[.int .u16 43, .bool false, .int .u8 129, .int .u8 4, .int .u8 0, .int .u8 4]⟩, .agg ⟨(xA 5 al co si wi sh ds sr dp re im)⟩] w fun e w' => e = .returned (.bool (aluOk al)) ∧ Gr w w' := by
  rcases Bool.eq_false_or_eq_true (al == 0) with k0 | k0
  · exact retZ (by first | rfl | ((simp only [aluOk]) <;> (try simp only [k0]) <;> (try rfl) <;> (try simp))) (cho5_0 al co si wi sh ds sr dp re im (csT' k0 csN') w (Laid.nil w))
  · rcases Bool.eq_false_or_eq_true (al == 1) with k1 | k1
    · exact retZ (by first | rfl | ((simp only [aluOk]) <;> (try simp only [k0]) <;> (try simp only [k1]) <;> (try rfl) <;> (try simp))) (cho5_1 al co si wi sh ds sr dp re im (csF' k0 (csT' k1 csN')) w (Laid.nil w))
    · rcases Bool.eq_false_or_eq_true (al == 4) with k2 | k2
      · exact retZ (by first | rfl | ((simp only [aluOk]) <;> (try simp only [k0]) <;> (try simp only [k1]) <;> (try simp only [k2]) <;> (try rfl) <;> (try simp))) (cho5_2 al co si wi sh ds sr dp re im (csF' k0 (csF' k1 (csT' k2 csN'))) w (Laid.nil w))
      · rcases Bool.eq_false_or_eq_true (al == 5) with k3 | k3
        · exact retZ (by first | rfl | ((simp only [aluOk]) <;> (try simp only [k0]) <;> (try simp only [k1]) <;> (try simp only [k2]) <;> (try simp only [k3]) <;> (try rfl) <;> (try simp))) (cho5_3 al co si wi sh ds sr dp re im (csF' k0 (csF' k1 (csF' k2 (csT' k3 csN')))) w (Laid.nil w))
        · rcases Bool.eq_false_or_eq_true (al == 6) with k4 | k4
          · exact retZ (by first | rfl | ((simp only [aluOk]) <;> (try simp only [k0]) <;> (try simp only [k1]) <;> (try simp only [k2]) <;> (try simp only [k3]) <;> (try simp only [k4]) <;> (try rfl) <;> (try simp))) (cho5_4 al co si wi sh ds sr dp re im (csF' k0 (csF' k1 (csF' k2 (csF' k3 (csT' k4 csN'))))) w (Laid.nil w))
          · rcases Bool.eq_false_or_eq_true (al == 7) with k5 | k5
            · exact retZ (by first | rfl | ((simp only [aluOk]) <;> (try simp only [k0]) <;> (try simp only [k1]) <;> (try simp only [k2]) <;> (try simp only [k3]) <;> (try simp only [k4]) <;> (try simp only [k5]) <;> (try rfl) <;> (try simp))) (cho5_5 al co si wi sh ds sr dp re im (csF' k0 (csF' k1 (csF' k2 (csF' k3 (csF' k4 (csT' k5 csN')))))) w (Laid.nil w))
            · exact retZ (by first | rfl | ((simp only [aluOk]) <;> (try simp only [k0]) <;> (try simp only [k1]) <;> (try simp only [k2]) <;> (try simp only [k3]) <;> (try simp only [k4]) <;> (try simp only [k5]) <;> (try rfl) <;> (try simp))) (cho5_6 al co si wi sh ds sr dp re im (csF' k0 (csF' k1 (csF' k2 (csF' k3 (csF' k4 (csF' k5 csN')))))) w (Laid.nil w))
theorem cho11_0 (al co si : Int) (wi sh : Bool) (ds sr dp re im : Int) : Lf [] 42 [.agg ⟨[.int .u16 51, .bool false, .int .u8 193, .int .u8 4, .int .u8 0, .int .u8 1]⟩, .agg ⟨(xA 11 al co si wi sh ds sr dp re im)⟩] (.bool true) [(b2i (al == 4), 1)] := lf hkZ_ok (ocs [(42, 24, .bool true)] []) (by kernel_rfl) (by kernel_rfl) (by kernel_rfl)
theorem cho11_1 (al co si : Int) (wi sh : Bool) (ds sr dp re im : Int) : Lf [] 42 [.agg ⟨[.int .u16 51, .bool false, .int .u8 193, .int .u8 4, .int .u8 0, .int .u8 1]⟩, .agg ⟨(xA 11 al co si wi sh ds sr dp re im)⟩] (.bool true) [(b2i (al == 4), 0), (b2i (al == 5), 1)] := lf hkZ_ok (ocs [(42, 24, .bool false), (42, 29, .bool true)] []) (by kernel_rfl) (by kernel_rfl) (by kernel_rfl)
theorem cho11_2 (al co si : Int) (wi sh : Bool) (ds sr dp re im : Int) : Lf [] 42 [.agg ⟨[.int .u16 51, .bool false, .int .u8 193, .int .u8 4, .int .u8 0, .int .u8 1]⟩, .agg ⟨(xA 11 al co si wi sh ds sr dp re im)⟩] (.bool (al == 7)) [(b2i (al == 4), 0), (b2i (al == 5), 0)] := lf hkZ_ok (ocs [(42, 24, .bool false), (42, 29, .bool false)] []) (by kernel_rfl) (by kernel_rfl) (by kernel_rfl)
theorem c_cho11 (al co si : Int) (wi sh : Bool) (ds sr dp re im : Int) (w : World) : Calls Tryd.prog 42 #[.agg ⟨[.int .u16 51, .bool false, .int .u8 193, .int .u8 4, .int .u8 0, .int .u8 1]⟩, .agg ⟨(xA 11 al co si wi sh ds sr dp re im)⟩] w fun e w' => e = .returned (.bool (shOk al)) ∧ Gr w w' := by
  rcases Bool.eq_false_or_eq_true (al == 4) with k0 | k0
  · exact retZ (by first | rfl | ((simp only [shOk]) <;> (try simp only [k0]) <;> (try rfl) <;> (try simp))) (cho11_0 al co si wi sh ds sr dp re im (csT' k0 csN') w (Laid.nil w))
  · rcases Bool.eq_false_or_eq_true (al == 5) with k1 | k1
    · exact retZ (by first | rfl | ((simp only [shOk]) <;> (try simp only [k0]) <;> (try simp only [k1]) <;> (try rfl) <;> (try simp))) (cho11_1 al co si wi sh ds sr dp re im (csF' k0 (csT' k1 csN')) w (Laid.nil w))
    · exact retZ (by first | rfl | ((simp only [shOk]) <;> (try simp only [k0]) <;> (try simp only [k1]) <;> (try rfl) <;> (try simp))) (cho11_2 al co si wi sh ds sr dp re im (csF' k0 (csF' k1 csN')) w (Laid.nil w))
theorem cho12_0 (al co si : Int) (wi sh : Bool) (ds sr dp re im : Int) : Lf [] 42 [.agg ⟨[.int .u16 19, .bool false, .int .u8 211, .int .u8 4, .int .u8 0, .int .u8 0]⟩, .agg ⟨(xA 12 al co si wi sh ds sr dp re im)⟩] (.bool true) [(b2i (al == 4), 1)] := lf hkZ_ok (ocs [(42, 24, .bool true)] []) (by kernel_rfl) (by kernel_rfl) (by kernel_rfl)
theorem cho12_1 (al co si : Int) (wi sh : Bool) (ds sr dp re im : Int) : Lf [] 42 [.agg ⟨[.int .u16 19, .bool false, .int .u8 211, .int .u8 4, .int .u8 0, .int .u8 0]⟩, .agg ⟨(xA 12 al co si wi sh ds sr dp re im)⟩] (.bool true) [(b2i (al == 4), 0), (b2i (al == 5), 1)] := lf hkZ_ok (ocs [(42, 24, .bool false), (42, 29, .bool true)] []) (by kernel_rfl) (by kernel_rfl) (by kernel_rfl)
theorem cho12_2 (al co si : Int) (wi sh : Bool) (ds sr dp re im : Int) : Lf [] 42 [.agg ⟨[.int .u16 19, .bool false, .int .u8 211, .int .u8 4, .int .u8 0, .int .u8 0]⟩, .agg ⟨(xA 12 al co si wi sh ds sr dp re im)⟩] (.bool (al == 7)) [(b2i (al == 4), 0), (b2i (al == 5), 0)] := lf hkZ_ok (ocs [(42, 24, .bool false), (42, 29, .bool false)] []) (by kernel_rfl) (by kernel_rfl) (by kernel_rfl)
theorem c_cho12 (al co si : Int) (wi sh : Bool) (ds sr dp re im : Int) (w : World) : Calls Tryd.prog 42 #[.agg ⟨[.int .u16 19, .bool false, .int .u8 211, .int .u8 4, .int .u8 0, .int .u8 0]⟩, .agg ⟨(xA 12 al co si wi sh ds sr dp re im)⟩] w fun e w' => e = .returned (.bool (shOk al)) ∧ Gr w w' := by
  rcases Bool.eq_false_or_eq_true (al == 4) with k0 | k0
  · exact retZ (by first | rfl | ((simp only [shOk]) <;> (try simp only [k0]) <;> (try rfl) <;> (try simp))) (cho12_0 al co si wi sh ds sr dp re im (csT' k0 csN') w (Laid.nil w))
  · rcases Bool.eq_false_or_eq_true (al == 5) with k1 | k1
    · exact retZ (by first | rfl | ((simp only [shOk]) <;> (try simp only [k0]) <;> (try simp only [k1]) <;> (try rfl) <;> (try simp))) (cho12_1 al co si wi sh ds sr dp re im (csF' k0 (csT' k1 csN')) w (Laid.nil w))
    · exact retZ (by first | rfl | ((simp only [shOk]) <;> (try simp only [k0]) <;> (try simp only [k1]) <;> (try rfl) <;> (try simp))) (cho12_2 al co si wi sh ds sr dp re im (csF' k0 (csF' k1 csN')) w (Laid.nil w))
theorem cho16_0 (al co si : Int) (wi sh : Bool) (ds sr dp re im : Int) : Lf [] 42 [.agg ⟨[.int .u16 1792, .bool false, .int .u8 0, .int .u8 8, .int .u8 0, .int .u8 0]⟩, .agg ⟨(xA 16 al co si wi sh ds sr dp re im)⟩] (.bool true) [(b2i (decide (co ≥ 2)), 1), (b2i (decide (co ≤ 7)), 1)] := lf hkZ_ok (ocs [(42, 40, .bool true), (42, 45, .bool true)] []) (by kernel_rfl) (by kernel_rfl) (by kernel_rfl)
theorem cho16_1 (al co si : Int) (wi sh : Bool) (ds sr dp re im : Int) : Lf [] 42 [.agg ⟨[.int .u16 1792, .bool false, .int .u8 0, .int .u8 8, .int .u8 0, .int .u8 0]⟩, .agg ⟨(xA 16 al co si wi sh ds sr dp re im)⟩] (.bool (decide (co ≤ 15))) [(b2i (decide (co ≥ 2)), 1), (b2i (decide (co ≤ 7)), 0), (b2i (decide (co ≥ 12)), 1)] := lf hkZ_ok (ocs [(42, 40, .bool true), (42, 45, .bool false), (42, 49, .bool true)] []) (by kernel_rfl) (by kernel_rfl) (by kernel_rfl)
theorem cho16_2 (al co si : Int) (wi sh : Bool) (ds sr dp re im : Int) : Lf [] 42 [.agg ⟨[.int .u16 1792, .bool false, .int .u8 0, .int .u8 8, .int .u8 0, .int .u8 0]⟩, .agg ⟨(xA 16 al co si wi sh ds sr dp re im)⟩] (.bool false) [(b2i (decide (co ≥ 2)), 1), (b2i (decide (co ≤ 7)), 0), (b2i (decide (co ≥ 12)), 0)] := lf hkZ_ok (ocs [(42, 40, .bool true), (42, 45, .bool false), (42, 49, .bool false)] []) (by kernel_rfl) (by kernel_rfl) (by kernel_rfl)
theorem cho16_3 (al co si : Int) (wi sh : Bool) (ds sr dp re im : Int) : Lf [] 42 [.agg ⟨[.int .u16 1792, .bool false, .int .u8 0, .int .u8 8, .int .u8 0, .int .u8 0]⟩, .agg ⟨(xA 16 al co si wi sh ds sr dp re im)⟩] (.bool (decide (co ≤ 15))) [(b2i (decide (co ≥ 2)), 0), (b2i (decide (co ≥ 12)), 1)] := lf hkZ_ok (ocs [(42, 40, .bool false), (42, 49, .bool true)] []) (by kernel_rfl) (by kernel_rfl) (by kernel_rfl)
theorem cho16_4 (al co si : Int) (wi sh : Bool) (ds sr dp re im : Int) : Lf [] 42 [.agg ⟨[.int .u16 1792, .bool false, .int .u8 0, .int .u8 8, .int .u8 0, .int .u8 0]⟩, .agg ⟨(xA 16 al co si wi sh ds sr dp re im)⟩] (.bool false) [(b2i (decide (co ≥ 2)), 0), (b2i (decide (co ≥ 12)), 0)] := lf hkZ_ok (ocs [(42, 40, .bool false), (42, 49, .bool false)] []) (by kernel_rfl) (by kernel_rfl) (by kernel_rfl)
theorem c_cho16 (al co si : Int) (wi sh : Bool) (ds sr dp re im : Int) (w : World) : Calls Tryd.prog 42 #[.agg ⟨[.int .u16 1792, .bool false, .int .u8 0, .int .u8 8, .int .u8 0, .int .u8 0]⟩, .agg ⟨(xA 16 al co si wi sh ds sr dp re im)⟩] w fun e w' => e = .returned (.bool (ccOk co)) ∧ Gr w w' := by
  rcases Bool.eq_false_or_eq_true (decide (co ≥ 2)) with k0 | k0
  · rcases Bool.eq_false_or_eq_true (decide (co ≤ 7)) with k1 | k1
    · exact retZ (by first | rfl | ((simp only [ccOk]) <;> (try simp only [k0]) <;> (try simp only [k1]) <;> (try rfl) <;> (try simp))) (cho16_0 al co si wi sh ds sr dp re im (csT' k0 (csT' k1 csN')) w (Laid.nil w))
    · rcases Bool.eq_false_or_eq_true (decide (co ≥ 12)) with k2 | k2
      · exact retZ (by first | rfl | ((simp only [ccOk]) <;> (try simp only [k2]) <;> (try simp only [k0]) <;> (try simp only [k1]) <;> (try rfl) <;> (try simp))) (cho16_1 al co si wi sh ds sr dp re im (csT' k0 (csF' k1 (csT' k2 csN'))) w (Laid.nil w))
      · exact retZ (by first | rfl | ((simp only [ccOk]) <;> (try simp only [k2]) <;> (try simp only [k0]) <;> (try simp only [k1]) <;> (try rfl) <;> (try simp))) (cho16_2 al co si wi sh ds sr dp re im (csT' k0 (csF' k1 (csF' k2 csN'))) w (Laid.nil w))
  · rcases Bool.eq_false_or_eq_true (decide (co ≥ 12)) with k1 | k1
    · exact retZ (by first | rfl | ((simp only [ccOk]) <;> (try simp only [k1]) <;> (try simp only [k0]) <;> (try rfl) <;> (try simp))) (cho16_3 al co si wi sh ds sr dp re im (csF' k0 (csT' k1 csN')) w (Laid.nil w))
    · exact retZ (by first | rfl | ((simp only [ccOk]) <;> (try simp only [k1]) <;> (try simp only [k0]) <;> (try rfl) <;> (try simp))) (cho16_4 al co si wi sh ds sr dp re im (csF' k0 (csF' k1 csN')) w (Laid.nil w))
theorem cho13_0 (al co si : Int) (wi sh : Bool) (ds sr dp re im : Int) : Lf [] 42 [.agg ⟨[.int .u16 199, .bool false, .int .u8 0, .int .u8 5, .int .u8 0, .int .u8 0]⟩, .agg ⟨(xA 13 al co si wi sh ds sr dp re im)⟩] (.bool (wi == (si == 8))) [(b2i (si == 1), 1)] := lf hkZ_ok (ocs [(42, 61, .bool true)] []) (by kernel_rfl) (by kernel_rfl) (by kernel_rfl)
theorem cho13_1 (al co si : Int) (wi sh : Bool) (ds sr dp re im : Int) : Lf [] 42 [.agg ⟨[.int .u16 199, .bool false, .int .u8 0, .int .u8 5, .int .u8 0, .int .u8 0]⟩, .agg ⟨(xA 13 al co si wi sh ds sr dp re im)⟩] (.bool (wi == (si == 8))) [(b2i (si == 1), 0), (b2i (si == 2), 1)] := lf hkZ_ok (ocs [(42, 61, .bool false), (42, 66, .bool true)] []) (by kernel_rfl) (by kernel_rfl) (by kernel_rfl)
theorem cho13_2 (al co si : Int) (wi sh : Bool) (ds sr dp re im : Int) : Lf [] 42 [.agg ⟨[.int .u16 199, .bool false, .int .u8 0, .int .u8 5, .int .u8 0, .int .u8 0]⟩, .agg ⟨(xA 13 al co si wi sh ds sr dp re im)⟩] (.bool (wi == (si == 8))) [(b2i (si == 1), 0), (b2i (si == 2), 0), (b2i (si == 4), 1)] := lf hkZ_ok (ocs [(42, 61, .bool false), (42, 66, .bool false), (42, 71, .bool true)] []) (by kernel_rfl) (by kernel_rfl) (by kernel_rfl)
theorem cho13_3 (al co si : Int) (wi sh : Bool) (ds sr dp re im : Int) : Lf [] 42 [.agg ⟨[.int .u16 199, .bool false, .int .u8 0, .int .u8 5, .int .u8 0, .int .u8 0]⟩, .agg ⟨(xA 13 al co si wi sh ds sr dp re im)⟩] (.bool (wi == (si == 8))) [(b2i (si == 1), 0), (b2i (si == 2), 0), (b2i (si == 4), 0), (b2i (si == 8), 1)] := lf hkZ_ok (ocs [(42, 61, .bool false), (42, 66, .bool false), (42, 71, .bool false), (42, 76, .bool true)] []) (by kernel_rfl) (by kernel_rfl) (by kernel_rfl)
theorem cho13_4 (al co si : Int) (wi sh : Bool) (ds sr dp re im : Int) : Lf [] 42 [.agg ⟨[.int .u16 199, .bool false, .int .u8 0, .int .u8 5, .int .u8 0, .int .u8 0]⟩, .agg ⟨(xA 13 al co si wi sh ds sr dp re im)⟩] (.bool false) [(b2i (si == 1), 0), (b2i (si == 2), 0), (b2i (si == 4), 0), (b2i (si == 8), 0)] := lf hkZ_ok (ocs [(42, 61, .bool false), (42, 66, .bool false), (42, 71, .bool false), (42, 76, .bool false)] []) (by kernel_rfl) (by kernel_rfl) (by kernel_rfl)
theorem c_cho13 (al co si : Int) (wi sh : Bool) (ds sr dp re im : Int) (w : World) : Calls Tryd.prog 42 #[.agg ⟨[.int .u16 199, .bool false, .int .u8 0, .int .u8 5, .int .u8 0, .int .u8 0]⟩, .agg ⟨(xA 13 al co si wi sh ds sr dp re im)⟩] w fun e w' => e = .returned (.bool (szOk si && (wi == (si == 8)))) ∧ Gr w w' := by
  rcases Bool.eq_false_or_eq_true (si == 1) with k0 | k0
  · exact retZ (by first | rfl | ((simp only [szOk]) <;> (try simp only [k0]) <;> (try rfl) <;> (try simp))) (cho13_0 al co si wi sh ds sr dp re im (csT' k0 csN') w (Laid.nil w))
  · rcases Bool.eq_false_or_eq_true (si == 2) with k1 | k1
    · exact retZ (by first | rfl | ((simp only [szOk]) <;> (try simp only [k0]) <;> (try simp only [k1]) <;> (try rfl) <;> (try simp))) (cho13_1 al co si wi sh ds sr dp re im (csF' k0 (csT' k1 csN')) w (Laid.nil w))
    · rcases Bool.eq_false_or_eq_true (si == 4) with k2 | k2
      · exact retZ (by first | rfl | ((simp only [szOk]) <;> (try simp only [k0]) <;> (try simp only [k1]) <;> (try simp only [k2]) <;> (try rfl) <;> (try simp))) (cho13_2 al co si wi sh ds sr dp re im (csF' k0 (csF' k1 (csT' k2 csN'))) w (Laid.nil w))
      · rcases Bool.eq_false_or_eq_true (si == 8) with k3 | k3
        · exact retZ (by first | rfl | ((simp only [szOk]) <;> (try simp only [k0]) <;> (try simp only [k1]) <;> (try simp only [k2]) <;> (try simp only [k3]) <;> (try rfl) <;> (try simp))) (cho13_3 al co si wi sh ds sr dp re im (csF' k0 (csF' k1 (csF' k2 (csT' k3 csN')))) w (Laid.nil w))
        · exact retZ (by first | rfl | ((simp only [szOk]) <;> (try simp only [k0]) <;> (try simp only [k1]) <;> (try simp only [k2]) <;> (try simp only [k3]) <;> (try rfl) <;> (try simp))) (cho13_4 al co si wi sh ds sr dp re im (csF' k0 (csF' k1 (csF' k2 (csF' k3 csN')))) w (Laid.nil w))
theorem cho14_0 (al co si : Int) (wi sh : Bool) (ds sr dp re im : Int) : Lf [] 42 [.agg ⟨[.int .u16 199, .bool false, .int .u8 0, .int .u8 6, .int .u8 0, .int .u8 0]⟩, .agg ⟨(xA 14 al co si wi sh ds sr dp re im)⟩] (.bool (wi == (si == 8))) [(b2i (si == 1), 1)] := lf hkZ_ok (ocs [(42, 61, .bool true)] []) (by kernel_rfl) (by kernel_rfl) (by kernel_rfl)
theorem cho14_1 (al co si : Int) (wi sh : Bool) (ds sr dp re im : Int) : Lf [] 42 [.agg ⟨[.int .u16 199, .bool false, .int .u8 0, .int .u8 6, .int .u8 0, .int .u8 0]⟩, .agg ⟨(xA 14 al co si wi sh ds sr dp re im)⟩] (.bool (wi == (si == 8))) [(b2i (si == 1), 0), (b2i (si == 2), 1)] := lf hkZ_ok (ocs [(42, 61, .bool false), (42, 66, .bool true)] []) (by kernel_rfl) (by kernel_rfl) (by kernel_rfl)
theorem cho14_2 (al co si : Int) (wi sh : Bool) (ds sr dp re im : Int) : Lf [] 42 [.agg ⟨[.int .u16 199, .bool false, .int .u8 0, .int .u8 6, .int .u8 0, .int .u8 0]⟩, .agg ⟨(xA 14 al co si wi sh ds sr dp re im)⟩] (.bool (wi == (si == 8))) [(b2i (si == 1), 0), (b2i (si == 2), 0), (b2i (si == 4), 1)] := lf hkZ_ok (ocs [(42, 61, .bool false), (42, 66, .bool false), (42, 71, .bool true)] []) (by kernel_rfl) (by kernel_rfl) (by kernel_rfl)
theorem cho14_3 (al co si : Int) (wi sh : Bool) (ds sr dp re im : Int) : Lf [] 42 [.agg ⟨[.int .u16 199, .bool false, .int .u8 0, .int .u8 6, .int .u8 0, .int .u8 0]⟩, .agg ⟨(xA 14 al co si wi sh ds sr dp re im)⟩] (.bool (wi == (si == 8))) [(b2i (si == 1), 0), (b2i (si == 2), 0), (b2i (si == 4), 0), (b2i (si == 8), 1)] := lf hkZ_ok (ocs [(42, 61, .bool false), (42, 66, .bool false), (42, 71, .bool false), (42, 76, .bool true)] []) (by kernel_rfl) (by kernel_rfl) (by kernel_rfl)
theorem cho14_4 (al co si : Int) (wi sh : Bool) (ds sr dp re im : Int) : Lf [] 42 [.agg ⟨[.int .u16 199, .bool false, .int .u8 0, .int .u8 6, .int .u8 0, .int .u8 0]⟩, .agg ⟨(xA 14 al co si wi sh ds sr dp re im)⟩] (.bool false) [(b2i (si == 1), 0), (b2i (si == 2), 0), (b2i (si == 4), 0), (b2i (si == 8), 0)] := lf hkZ_ok (ocs [(42, 61, .bool false), (42, 66, .bool false), (42, 71, .bool false), (42, 76, .bool false)] []) (by kernel_rfl) (by kernel_rfl) (by kernel_rfl)
theorem c_cho14 (al co si : Int) (wi sh : Bool) (ds sr dp re im : Int) (w : World) : Calls Tryd.prog 42 #[.agg ⟨[.int .u16 199, .bool false, .int .u8 0, .int .u8 6, .int .u8 0, .int .u8 0]⟩, .agg ⟨(xA 14 al co si wi sh ds sr dp re im)⟩] w fun e w' => e = .returned (.bool (szOk si && (wi == (si == 8)))) ∧ Gr w w' := by
  rcases Bool.eq_false_or_eq_true (si == 1) with k0 | k0
  · exact retZ (by first | rfl | ((simp only [szOk]) <;> (try simp only [k0]) <;> (try rfl) <;> (try simp))) (cho14_0 al co si wi sh ds sr dp re im (csT' k0 csN') w (Laid.nil w))
  · rcases Bool.eq_false_or_eq_true (si == 2) with k1 | k1
    · exact retZ (by first | rfl | ((simp only [szOk]) <;> (try simp only [k0]) <;> (try simp only [k1]) <;> (try rfl) <;> (try simp))) (cho14_1 al co si wi sh ds sr dp re im (csF' k0 (csT' k1 csN')) w (Laid.nil w))
    · rcases Bool.eq_false_or_eq_true (si == 4) with k2 | k2
      · exact retZ (by first | rfl | ((simp only [szOk]) <;> (try simp only [k0]) <;> (try simp only [k1]) <;> (try simp only [k2]) <;> (try rfl) <;> (try simp))) (cho14_2 al co si wi sh ds sr dp re im (csF' k0 (csF' k1 (csT' k2 csN'))) w (Laid.nil w))
      · rcases Bool.eq_false_or_eq_true (si == 8) with k3 | k3
        · exact retZ (by first | rfl | ((simp only [szOk]) <;> (try simp only [k0]) <;> (try simp only [k1]) <;> (try simp only [k2]) <;> (try simp only [k3]) <;> (try rfl) <;> (try simp))) (cho14_3 al co si wi sh ds sr dp re im (csF' k0 (csF' k1 (csF' k2 (csT' k3 csN')))) w (Laid.nil w))
        · exact retZ (by first | rfl | ((simp only [szOk]) <;> (try simp only [k0]) <;> (try simp only [k1]) <;> (try simp only [k2]) <;> (try simp only [k3]) <;> (try rfl) <;> (try simp))) (cho14_4 al co si wi sh ds sr dp re im (csF' k0 (csF' k1 (csF' k2 (csF' k3 csN')))) w (Laid.nil w))
def choV (k al co si : Int) (wi : Bool) : Option Bool :=
  if k = 4 then some (aluOk al) else if k = 5 then some (aluOk al) else if k = 11 then some (shOk al) else if k = 12 then some (shOk al) else if k = 16 then some (ccOk co) else if k = 13 then some (szOk si && (wi == (si == 8))) else if k = 14 then some (szOk si && (wi == (si == 8))) else none
def formOf (k : Int) : List Value :=
  if k = 4 then [.int .u16 15, .bool false, .int .u8 1, .int .u8 1, .int .u8 0, .int .u8 0] else if k = 5 then [.int .u16 43, .bool false, .int .u8 129, .int .u8 4, .int .u8 0, .int .u8 4] else if k = 11 then [.int .u16 51, .bool false, .int .u8 193, .int .u8 4, .int .u8 0, .int .u8 1] else if k = 12 then [.int .u16 19, .bool false, .int .u8 211, .int .u8 4, .int .u8 0, .int .u8 0] else if k = 13 then [.int .u16 199, .bool false, .int .u8 0, .int .u8 5, .int .u8 0, .int .u8 0] else if k = 14 then [.int .u16 199, .bool false, .int .u8 0, .int .u8 6, .int .u8 0, .int .u8 0] else if k = 16 then [.int .u16 1792, .bool false, .int .u8 0, .int .u8 8, .int .u8 0, .int .u8 0] else []
def hk_cho : Hook := fun f args h =>
  if Nat.beq f 42 then
    match args with
    | [.agg ⟨fm⟩, .agg ⟨[.int .i64 k, .int .i64 al, .int .i64 co, .int .i64 si, .bool wi, .bool sh, .int .i64 ds, .int .i64 sr, .int .i32 dp, .int .i32 re, .int .i64 im]⟩] =>
      match choV k al co si wi with
      | some b => if eqL fm (formOf k) then some (.bool b, []) else none
      | none => none
    | _ => none
  else none
theorem hk_cho_ok : HookOk Tryd.prog hk_cho := by
  intro f args h v cs hv hc wb k s w H
  unfold hk_cho at hv
  split at hv
  · rename_i hf
    obtain rfl := Nat.eq_of_beq_eq_true hf
    split at hv
    · rename_i fm k al co si wi sh ds sr dp re im
      split at hv
      · rename_i b hb
        split at hv
        · rename_i he
          cases hv
          obtain rfl := eqL_ok he
          unfold choV at hb
          split at hb
          · rename_i hk; subst hk; cases hb; exact c_cho4 al co si wi sh ds sr dp re im w
          split at hb
          · rename_i hk; subst hk; cases hb; exact c_cho5 al co si wi sh ds sr dp re im w
          split at hb
          · rename_i hk; subst hk; cases hb; exact c_cho11 al co si wi sh ds sr dp re im w
          split at hb
          · rename_i hk; subst hk; cases hb; exact c_cho12 al co si wi sh ds sr dp re im w
          split at hb
          · rename_i hk; subst hk; cases hb; exact c_cho16 al co si wi sh ds sr dp re im w
          split at hb
          · rename_i hk; subst hk; cases hb; exact c_cho13 al co si wi sh ds sr dp re im w
          split at hb
          · rename_i hk; subst hk; cases hb; exact c_cho14 al co si wi sh ds sr dp re im w
          · cases hb
        · cases hv
      · cases hv
    · cases hv
  · cases hv
def hkV1 : Hook := orHook hk_regs (orHook hk_cho (hkZ))
theorem hkV1_ok : HookOk Tryd.prog hkV1 := orHook_ok hk_regs_ok (orHook_ok hk_cho_ok (hkZ_ok))
def hkR1 : Hook := orHook hk_ralu (orHook hk_rshift (orHook hk_rcond (orHook hk_rword (orHook hk_rreg (hkZ)))))
theorem hkR1_ok : HookOk Tryd.prog hkR1 := orHook_ok hk_ralu_ok (orHook_ok hk_rshift_ok (orHook_ok hk_rcond_ok (orHook_ok hk_rword_ok (orHook_ok hk_rreg_ok (hkZ_ok)))))
end Go.Proofs.YtbaiokfjoglmiaaDoor.Ex
