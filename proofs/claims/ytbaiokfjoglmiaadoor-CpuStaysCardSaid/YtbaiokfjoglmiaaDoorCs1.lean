/-
  Layer 12: what the instructions make of a state: told.
-/
import Derived.Test.YtbaiokfjoglmiaaDoorCs0
namespace Go.Proofs.YtbaiokfjoglmiaaDoor.Ex
open Go Go.RowKit
set_option maxHeartbeats 0
set_option maxRecDepth 1000000
set_option linter.unusedVariables false
def orK (k : IntKind) (a b : Int) : Int := k.wrap (BitVec.ofInt k.bits a ||| BitVec.ofInt k.bits b).toNat
def andK (k : IntKind) (a b : Int) : Int := k.wrap (BitVec.ofInt k.bits a &&& BitVec.ofInt k.bits b).toNat
def xorK (k : IntKind) (a b : Int) : Int := k.wrap (BitVec.ofInt k.bits a ^^^ BitVec.ofInt k.bits b).toNat
/-- The number in a register. -/
def rg (rs : List Int) (i : Int) : Int := rs.getD (0 + i.toNat * 1) 0
def kdS (wi : Bool) : IntKind := bif wi then .u64 else .u32
def cutS (wi : Bool) (a : Int) : Int := bif wi then a else IntKind.u32.wrap a
def halfS (wi : Bool) : Int := bif wi then 9223372036854775807 else 2147483647
/-- What comes of two numbers of a width. -/
def opS (wi : Bool) (al a b : Int) : Int :=
  bif al == 0 then (kdS wi).wrap (a + b) else bif al == 5 || al == 7 then (kdS wi).wrap (a - b) else bif al == 1 then orK (kdS wi) a b else bif al == 4 then andK (kdS wi) a b else bif al == 6 then xorK (kdS wi) a b else 0
def zS (wi : Bool) (al a b : Int) : Bool := opS wi al a b == 0
def sS (wi : Bool) (al a b : Int) : Bool := decide (opS wi al a b > halfS wi)
def cS (wi : Bool) (al a b : Int) : Bool := bif al == 0 then decide (opS wi al a b < a) else bif al == 5 || al == 7 then decide (a < b) else false
def oS (wi : Bool) (al a b : Int) : Bool :=
  bif al == 0 then decide (andK (kdS wi) (xorK (kdS wi) a (opS wi al a b)) (xorK (kdS wi) b (opS wi al a b)) > halfS wi)
  else bif al == 5 || al == 7 then decide (andK (kdS wi) (xorK (kdS wi) a b) (xorK (kdS wi) a (opS wi al a b)) > halfS wi) else false
/-- An instruction: kind, operation, width, registers, number; and what the registers have. -/
structure In where
  k : Int
  al : Int
  wi : Bool
  ds : Int
  sr : Int
  im : Int
  rs : List Int
def In.a (x : In) : Int := rg x.rs x.ds
def In.b (x : In) : Int := bif x.k == 5 then Wr x.im else rg x.rs x.sr
/-- What kinds with flags reckon with. -/
def In.fa (x : In) : Int := bif x.k == 7 then 0 else x.a
def In.fb (x : In) : Int := bif x.k == 7 then x.a else x.b
def In.fo (x : In) : Int := bif x.k == 6 then 4 else bif x.k == 7 then 5 else x.al
def In.ff (x : In) : Bool := x.k == 4 || (x.k == 5 || (x.k == 6 || x.k == 7))
def In.res (x : In) : Int := bif x.wi then opS true x.fo x.fa x.fb else IntKind.u64.wrap (opS false x.fo (IntKind.u32.wrap x.fa) (IntKind.u32.wrap x.fb))
def In.z (x : In) (z : Bool) : Bool := bif x.ff then zS x.wi x.fo (cutS x.wi x.fa) (cutS x.wi x.fb) else z
def In.s (x : In) (s : Bool) : Bool := bif x.ff then sS x.wi x.fo (cutS x.wi x.fa) (cutS x.wi x.fb) else s
def In.c (x : In) (c : Bool) : Bool := bif x.ff then cS x.wi x.fo (cutS x.wi x.fa) (cutS x.wi x.fb) else c
def In.o (x : In) (o : Bool) : Bool := bif x.ff then oS x.wi x.fo (cutS x.wi x.fa) (cutS x.wi x.fb) else o
/-- Whether Dst is written, and what is laid there. -/
def In.wr (x : In) : Bool := x.k == 1 || (x.k == 2 || (x.k == 3 || (x.k == 7 || (x.k == 10 || (x.k == 11 || (x.k == 12 || ((x.k == 4 || x.k == 5) && !(x.al == 7))))))))
def In.v (x : In) : Int := lowS x.wi (bif x.ff then x.res else bif x.k == 1 then x.b else bif x.k == 2 || x.k == 3 then Wr x.im else bif x.k == 10 then Wr (x.a * x.b)
  else bif x.k == 11 then N (aluS (shS x.al) x.wi (BitVec.ofInt 64 x.a) (BitVec.ofInt 64 (Wr x.im))) else N (aluS (shS x.al) x.wi (BitVec.ofInt 64 x.a) (BitVec.ofInt 64 (x.rs.getD 1 0))))
def shr32 (x : Int) : Int := Int.fdiv x (2 ^ min (Int.toNat 32) 64)
def mulHi (a b : Int) : Int :=
  let t := Wr (Wr (shr32 a * andK .u64 b 4294967295) + shr32 (Wr (andK .u64 a 4294967295 * andK .u64 b 4294967295)))
  Wr (Wr (Wr (shr32 a * shr32 b) + shr32 t) + shr32 (Wr (andK .u64 t 4294967295 + Wr (andK .u64 a 4294967295 * shr32 b))))
def In.mn (x : In) : Int := Wr (lowS false (x.rs.getD 0 0) * lowS false x.a)
def In.mh (x : In) : Int := bif x.wi then mulHi (x.rs.getD 0 0) x.a else shr32 x.mn
def In.ml (x : In) : Int := bif x.wi then Wr (x.rs.getD 0 0 * x.a) else lowS false x.mn
def In.dh (x : In) : Int := lowS x.wi (x.rs.getD 2 0)
def In.dl (x : In) : Int := lowS x.wi (x.rs.getD 0 0)
def In.dy (x : In) : Int := lowS x.wi x.a
def In.da (x : In) : Int := orK .u64 (Wr (x.dh * 2 ^ min (Int.toNat 32) 64)) x.dl
def In.dq (x : In) : Int := bif x.wi then dvA x.dh x.dl x.dy else Wr (x.da.tdiv x.dy)
def In.dr (x : In) : Int := bif x.wi then dvB x.dh x.dl x.dy else x.da.tmod x.dy
/-- What a register has behind it. -/
def In.r (x : In) (i : Nat) (ri : Int) : Int :=
  bif x.k == 8 then (bif Nat.beq i 0 then x.ml else bif Nat.beq i 2 then x.mh else ri)
  else bif x.k == 9 then (bif Nat.beq i 0 then x.dq else bif Nat.beq i 2 then x.dr else ri)
  else bif x.wr && Nat.beq x.ds.toNat i then x.v else ri
/-- Whether there is a quotient. -/
def In.dv (x : In) : Bool := decide (x.dy ≤ x.dh)
def rsL (r0 r1 r2 r3 r4 r5 r6 r7 r8 r9 r10 r11 r12 r13 r14 r15 : Int) : List Int := [r0, r1, r2, r3, r4, r5, r6, r7, r8, r9, r10, r11, r12, r13, r14, r15]
def In.st (x : In) (r0 r1 r2 r3 r4 r5 r6 r7 r8 r9 r10 r11 r12 r13 r14 r15 : Int) (z s c o : Bool) (pc : Int) : Value := .agg ⟨[.int .u64 (x.r 0 r0), .int .u64 (x.r 1 r1), .int .u64 (x.r 2 r2), .int .u64 (x.r 3 r3), .int .u64 (x.r 4 r4), .int .u64 (x.r 5 r5), .int .u64 (x.r 6 r6), .int .u64 (x.r 7 r7), .int .u64 (x.r 8 r8), .int .u64 (x.r 9 r9), .int .u64 (x.r 10 r10), .int .u64 (x.r 11 r11), .int .u64 (x.r 12 r12), .int .u64 (x.r 13 r13), .int .u64 (x.r 14 r14), .int .u64 (x.r 15 r15), .bool (x.z z), .bool (x.s s), .bool (x.c c), .bool (x.o o), .int .u64 pc]⟩
def dsL : List Int := [0, 1, 2, 3, 4, 5, 6, 7, 8, 9, 10, 11, 12, 13, 14, 15]
theorem dsL_mem {d : Int} (h1 : 0 ≤ d) (h2 : d < 16) : d ∈ dsL := by
  simp only [dsL, List.mem_cons, List.not_mem_nil, or_false]
  omega
/-- What a run of the machine asks. -/
def exV (x : In) : Cs := [(b2i (!vP x.k x.al 0 0 x.wi false x.ds x.sr 0 0 x.im), 0)]
def exS (x : In) : Cs := [(b2i (decide (0 ≤ x.sr) && decide (x.sr < 16)), 1), (b2i (decide (0 + x.sr.toNat * 1 < 16)), 1)]
def exU (x : In) (b : Int) : Cs := [inU x.a, inU b]
def exD (x : In) : Cs := (b2i (decide (x.dy ≤ x.dh)), 0) :: (bif x.wi then [(b2i (decide (0 ≤ x.dh ∧ x.dh < x.dy ∧ x.dy < 18446744073709551616)), 1)] else [(b2i (decide (x.dy = 0)), 0), (b2i (decide (x.dy = 0)), 0)])
def exC (x : In) : Cs := exV x ++ (bif x.k == 1 || (x.k == 4 || (x.k == 6 || x.k == 10)) then exS x else bif x.k == 11 then exU x (Wr x.im) else bif x.k == 12 then exU x (x.rs.getD 1 0) else bif x.k == 9 then exD x else [])
def exArg (x : In) (r0 r1 r2 r3 r4 r5 r6 r7 r8 r9 r10 r11 r12 r13 r14 r15 : Int) (z s c o : Bool) (pc : Int) : List Value := [.agg ⟨xA x.k x.al 0 0 x.wi false x.ds x.sr 0 0 x.im⟩, stA r0 r1 r2 r3 r4 r5 r6 r7 r8 r9 r10 r11 r12 r13 r14 r15 z s c o pc]
noncomputable def exRun (dv : Bool) (x : In) (r0 r1 r2 r3 r4 r5 r6 r7 r8 r9 r10 r11 r12 r13 r14 r15 : Int) (z s c o : Bool) (pc : Int) : Option (Value × List Int) := reckonGI Tryd.prog (guardH exHook) (exOrc dv) 100000 300 h12 21 (exArg x r0 r1 r2 r3 r4 r5 r6 r7 r8 r9 r10 r11 r12 r13 r14 r15 z s c o pc)
def exAns (x : In) (r0 r1 r2 r3 r4 r5 r6 r7 r8 r9 r10 r11 r12 r13 r14 r15 : Int) (z s c o : Bool) (pc : Int) : Option (Value × List Int) := some (.tuple ⟨[x.st r0 r1 r2 r3 r4 r5 r6 r7 r8 r9 r10 r11 r12 r13 r14 r15 z s c o pc, .int .i64 0]⟩, inter (exC x))
end Go.Proofs.YtbaiokfjoglmiaaDoor.Ex
