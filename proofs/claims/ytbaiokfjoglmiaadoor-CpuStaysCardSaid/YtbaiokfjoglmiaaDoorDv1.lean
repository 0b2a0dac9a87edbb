/-
  How two numbers are divided by a third one, reckoned: the ways through its two loops.
-/
import Derived.Test.YtbaiokfjoglmiaaDoorDv0
namespace Go.Proofs.YtbaiokfjoglmiaaDoor.Ex
open Go Go.RowKit
set_option maxHeartbeats 0
set_option maxRecDepth 1000000
set_option linter.unusedVariables false
abbrev Wr (x : Int) : Int := IntKind.u64.wrap x
theorem sameC {cs : Cs} (h : (cs.all fun c => c.1 == c.2) = true) : ∀ c ∈ cs, c.1 = c.2 := fun c hc => eq_of_beq (List.all_eq_true.1 h c hc)
def undB (x : List Value) (t : Nat) : Bool :=
  match x[t]? with
  | some (.int _ _) => false
  | some (.bool _) => false
  | _ => true
/-- A way through a loop: the two tests, whether it breaks, the two tests again. -/
structure Wy where
  a1 : Bool
  b1 : Bool
  k1 : Bool
  a2 : Bool
  b2 : Bool
def dvOrc (p r : Wy) : Orc := fun f t x =>
  if Nat.beq f 93 then
    (if Nat.beq t 20 || (Nat.beq t 24 || Nat.beq t 27) then some (.bool false)
    else if Nat.beq t 61 || (Nat.beq t 96 || (Nat.beq t 39 || (Nat.beq t 46 || (Nat.beq t 50 || (Nat.beq t 54 || Nat.beq t 134))))) then some .nilIface
    else if Nat.beq t 68 then some (.bool (if undB x 80 then p.a1 else p.a2))
    else if Nat.beq t 77 then some (.bool (if undB x 80 then p.b1 else p.b2))
    else if Nat.beq t 85 then some (.bool (if undB x 85 then p.k1 else true))
    else if Nat.beq t 103 then some (.bool (if undB x 115 then r.a1 else r.a2))
    else if Nat.beq t 112 then some (.bool (if undB x 115 then r.b1 else r.b2))
    else if Nat.beq t 120 then some (.bool (if undB x 120 then r.k1 else true))
    else none)
  else none
def dvOrc0 : Orc := fun f t _ =>
  if Nat.beq f 93 then (if Nat.beq t 20 || Nat.beq t 24 then some (.bool false) else if Nat.beq t 27 then some (.bool true) else if Nat.beq t 30 || Nat.beq t 33 then some .nilIface else none) else none
def dS (y : Int) : Int := Wr (lzS y)
def dY (y : Int) : Int := Wr (y * 2 ^ min (dS y).toNat 64)
def d1 (y : Int) : Int := (dY y).fdiv (2 ^ min (Int.toNat 32) 64)
def d0 (y : Int) : Int := Wr ((BitVec.ofInt 64 (dY y) &&& BitVec.ofInt 64 4294967295).toNat : Int)
def dU (hi lo y : Int) : Int := Wr ((BitVec.ofInt 64 (Wr (hi * 2 ^ min (dS y).toNat 64)) ||| BitVec.ofInt 64 (lo.fdiv (2 ^ min (Wr (64 - dS y)).toNat 64))).toNat : Int)
def dV (lo y : Int) : Int := Wr (lo * 2 ^ min (dS y).toNat 64)
def u1 (lo y : Int) : Int := (dV lo y).fdiv (2 ^ min (Int.toNat 32) 64)
def u0 (lo y : Int) : Int := Wr ((BitVec.ofInt 64 (dV lo y) &&& BitVec.ofInt 64 4294967295).toNat : Int)
/-- The tests of a loop, from a quotient and what is left. -/
def tA (q : Int) : Bool := decide (q ≥ 4294967296)
def tB (q r n0 u : Int) : Bool := decide (Wr (q * n0) > Wr (Wr (4294967296 * r) + u))
def lpC' (p : Wy) (A1 B1 K1 A2 B2 T : Bool) : Cs :=
  (b2i A1, b2i p.a1) :: ((bif p.a1 then [] else [(b2i B1, b2i p.b1)]) ++
    (bif p.a1 || p.b1 then (b2i K1, b2i p.k1) :: (bif p.k1 then [] else (b2i A2, b2i p.a2) :: ((bif p.a2 then [] else [(b2i B2, b2i p.b2)]) ++ (bif p.a2 || p.b2 then [(b2i T, 1)] else []))) else []))
def lpC (p : Wy) (q r n0 u n1 : Int) : Cs := lpC' p (tA q) (tB q r n0 u) (tA (Wr (r + n1))) (tA (Wr (q - 1))) (tB (Wr (q - 1)) (Wr (r + n1)) n0 u) (tA (Wr (Wr (r + n1) + n1)))
def lpQ (p : Wy) (q : Int) : Int := bif p.a1 || p.b1 then (bif p.k1 then Wr (q - 1) else bif p.a2 || p.b2 then Wr (Wr (q - 1) - 1) else Wr (q - 1)) else q
def dQ1 (hi lo y : Int) : Int := Wr ((dU hi lo y).tdiv (d1 y))
def dR1 (hi lo y : Int) : Int := Wr (dU hi lo y - Wr (dQ1 hi lo y * d1 y))
def d21 (p : Wy) (hi lo y : Int) : Int := Wr (Wr (Wr (dU hi lo y * 4294967296) + u1 lo y) - Wr (lpQ p (dQ1 hi lo y) * dY y))
def dQ0 (p : Wy) (hi lo y : Int) : Int := Wr ((d21 p hi lo y).tdiv (d1 y))
def dR0 (p : Wy) (hi lo y : Int) : Int := Wr (d21 p hi lo y - Wr (dQ0 p hi lo y * d1 y))
def dvV (p r : Wy) (hi lo y : Int) : Value := .tuple ⟨[.int .u64 (Wr (Wr (lpQ p (dQ1 hi lo y) * 4294967296) + lpQ r (dQ0 p hi lo y))),
  .int .u64 ((Wr (Wr (Wr (d21 p hi lo y * 4294967296) + u0 lo y) - Wr (lpQ r (dQ0 p hi lo y) * dY y))).fdiv (2 ^ min (dS y).toNat 64))]⟩
def dvC (p r : Wy) (hi lo y : Int) : Cs :=
  [(b2i (y == 0), 0), (b2i (decide (y ≤ hi)), 0), (b2i (hi == 0), 0), (b2i (decide (0 < y ∧ y < 18446744073709551616)), 1), (b2i (decide (dS y < 0)), 0), (b2i (decide (dS y < 0)), 0), (b2i (decide (Wr (64 - dS y) < 0)), 0), (b2i (decide (dS y < 0)), 0), (b2i (decide (d1 y = 0)), 0)] ++
  (lpC p (dQ1 hi lo y) (dR1 hi lo y) (d0 y) (u1 lo y) (d1 y) ++ ([(b2i (decide (d1 y = 0)), 0)] ++ (lpC r (dQ0 p hi lo y) (dR0 p hi lo y) (d0 y) (u0 lo y) (d1 y) ++ [(b2i (decide (dS y < 0)), 0)])))
def norm (A1 B1 K1 A2 B2 : Bool) : Wy := ⟨A1, !A1 && B1, (A1 || B1) && K1, (A1 || B1) && (!K1 && A2), (A1 || B1) && (!K1 && (!A2 && B2))⟩
def wys : List Wy := [⟨false, false, false, false, false⟩, ⟨true, false, true, false, false⟩, ⟨true, false, false, false, false⟩, ⟨true, false, false, true, false⟩, ⟨true, false, false, false, true⟩, ⟨false, true, true, false, false⟩, ⟨false, true, false, false, false⟩, ⟨false, true, false, true, false⟩, ⟨false, true, false, false, true⟩]
theorem norm_mem (A1 B1 K1 A2 B2 : Bool) : norm A1 B1 K1 A2 B2 ∈ wys := by
  cases A1 <;> cases B1 <;> cases K1 <;> cases A2 <;> cases B2 <;> simp [norm, wys]
theorem lpC_ok (A1 B1 K1 A2 B2 : Bool) : ∀ c ∈ lpC' (norm A1 B1 K1 A2 B2) A1 B1 K1 A2 B2 true, c.1 = c.2 := by
  cases A1 <;> cases B1 <;> cases K1 <;> cases A2 <;> cases B2 <;> exact sameC rfl
theorem dv_0 (hi lo y : Int) : wys.map (fun r => reckonGI Tryd.prog (guardH lzHook) (dvOrc ⟨false, false, false, false, false⟩ r) 100000 300 [] 93 [.int .u64 hi, .int .u64 lo, .int .u64 y]) = wys.map (fun r => some (dvV ⟨false, false, false, false, false⟩ r hi lo y, inter (dvC ⟨false, false, false, false, false⟩ r hi lo y))) := by kernel_rfl
theorem dv_1 (hi lo y : Int) : wys.map (fun r => reckonGI Tryd.prog (guardH lzHook) (dvOrc ⟨true, false, true, false, false⟩ r) 100000 300 [] 93 [.int .u64 hi, .int .u64 lo, .int .u64 y]) = wys.map (fun r => some (dvV ⟨true, false, true, false, false⟩ r hi lo y, inter (dvC ⟨true, false, true, false, false⟩ r hi lo y))) := by kernel_rfl
theorem dv_2 (hi lo y : Int) : wys.map (fun r => reckonGI Tryd.prog (guardH lzHook) (dvOrc ⟨true, false, false, false, false⟩ r) 100000 300 [] 93 [.int .u64 hi, .int .u64 lo, .int .u64 y]) = wys.map (fun r => some (dvV ⟨true, false, false, false, false⟩ r hi lo y, inter (dvC ⟨true, false, false, false, false⟩ r hi lo y))) := by kernel_rfl
theorem dv_3 (hi lo y : Int) : wys.map (fun r => reckonGI Tryd.prog (guardH lzHook) (dvOrc ⟨true, false, false, true, false⟩ r) 100000 300 [] 93 [.int .u64 hi, .int .u64 lo, .int .u64 y]) = wys.map (fun r => some (dvV ⟨true, false, false, true, false⟩ r hi lo y, inter (dvC ⟨true, false, false, true, false⟩ r hi lo y))) := by kernel_rfl
theorem dv_4 (hi lo y : Int) : wys.map (fun r => reckonGI Tryd.prog (guardH lzHook) (dvOrc ⟨true, false, false, false, true⟩ r) 100000 300 [] 93 [.int .u64 hi, .int .u64 lo, .int .u64 y]) = wys.map (fun r => some (dvV ⟨true, false, false, false, true⟩ r hi lo y, inter (dvC ⟨true, false, false, false, true⟩ r hi lo y))) := by kernel_rfl
theorem dv_5 (hi lo y : Int) : wys.map (fun r => reckonGI Tryd.prog (guardH lzHook) (dvOrc ⟨false, true, true, false, false⟩ r) 100000 300 [] 93 [.int .u64 hi, .int .u64 lo, .int .u64 y]) = wys.map (fun r => some (dvV ⟨false, true, true, false, false⟩ r hi lo y, inter (dvC ⟨false, true, true, false, false⟩ r hi lo y))) := by kernel_rfl
theorem dv_6 (hi lo y : Int) : wys.map (fun r => reckonGI Tryd.prog (guardH lzHook) (dvOrc ⟨false, true, false, false, false⟩ r) 100000 300 [] 93 [.int .u64 hi, .int .u64 lo, .int .u64 y]) = wys.map (fun r => some (dvV ⟨false, true, false, false, false⟩ r hi lo y, inter (dvC ⟨false, true, false, false, false⟩ r hi lo y))) := by kernel_rfl
theorem dv_7 (hi lo y : Int) : wys.map (fun r => reckonGI Tryd.prog (guardH lzHook) (dvOrc ⟨false, true, false, true, false⟩ r) 100000 300 [] 93 [.int .u64 hi, .int .u64 lo, .int .u64 y]) = wys.map (fun r => some (dvV ⟨false, true, false, true, false⟩ r hi lo y, inter (dvC ⟨false, true, false, true, false⟩ r hi lo y))) := by kernel_rfl
theorem dv_8 (hi lo y : Int) : wys.map (fun r => reckonGI Tryd.prog (guardH lzHook) (dvOrc ⟨false, true, false, false, true⟩ r) 100000 300 [] 93 [.int .u64 hi, .int .u64 lo, .int .u64 y]) = wys.map (fun r => some (dvV ⟨false, true, false, false, true⟩ r hi lo y, inter (dvC ⟨false, true, false, false, true⟩ r hi lo y))) := by kernel_rfl
theorem dv_all (hi lo y : Int) : ∀ p ∈ wys, ∀ r ∈ wys, reckonGI Tryd.prog (guardH lzHook) (dvOrc p r) 100000 300 [] 93 [.int .u64 hi, .int .u64 lo, .int .u64 y] = some (dvV p r hi lo y, inter (dvC p r hi lo y)) := by
  intro p hp r hr
  simp only [wys, List.mem_cons, List.not_mem_nil, or_false] at hp
  rcases hp with rfl | rfl | rfl | rfl | rfl | rfl | rfl | rfl | rfl
  · exact List.map_inj_left.1 (dv_0 hi lo y) r hr
  · exact List.map_inj_left.1 (dv_1 hi lo y) r hr
  · exact List.map_inj_left.1 (dv_2 hi lo y) r hr
  · exact List.map_inj_left.1 (dv_3 hi lo y) r hr
  · exact List.map_inj_left.1 (dv_4 hi lo y) r hr
  · exact List.map_inj_left.1 (dv_5 hi lo y) r hr
  · exact List.map_inj_left.1 (dv_6 hi lo y) r hr
  · exact List.map_inj_left.1 (dv_7 hi lo y) r hr
  · exact List.map_inj_left.1 (dv_8 hi lo y) r hr
theorem dv_lo (lo y : Int) : reckonGI Tryd.prog (guardH lzHook) dvOrc0 100000 300 [] 93 [.int .u64 0, .int .u64 lo, .int .u64 y] = some (.tuple ⟨[.int .u64 (Wr (lo.tdiv y)), .int .u64 (lo.tmod y)]⟩, inter [(b2i (y == 0), 0), (b2i (decide (y ≤ 0)), 0), (1, 1), (b2i (decide (y = 0)), 0), (b2i (decide (y = 0)), 0)]) := by kernel_rfl
end Go.Proofs.YtbaiokfjoglmiaaDoor.Ex
