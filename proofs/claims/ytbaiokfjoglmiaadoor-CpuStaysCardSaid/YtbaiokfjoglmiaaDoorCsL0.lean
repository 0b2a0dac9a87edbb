/-
  Layer 12: the law CpuStays: what its runs ask.
-/
import Derived.Test.YtbaiokfjoglmiaaDoorCsS
namespace Go.Proofs.YtbaiokfjoglmiaaDoor.Ex
open Go Go.RowKit
set_option maxHeartbeats 0
set_option maxRecDepth 1000000
set_option linter.unusedVariables false
def inB (a : Int) : Bool := decide (0 ≤ a ∧ a < 18446744073709551616)
def In.ok (x : In) : Bool := vP x.k x.al 0 0 x.wi false x.ds x.sr 0 0 x.im && (okK x.k && (!(x.k == 9 && x.dv) && x.rs.all inB))
def setHook : Hook := fun f args _ =>
  if Nat.beq f 23 then
    match args with
    | [.agg ⟨[.int .i64 k, .int .i64 al, .int .i64 co, .int .i64 si, .bool wi, .bool sh, .int .i64 ds, .int .i64 sr, .int .i32 dp, .int .i32 re, .int .i64 im]⟩] => some (setV k al wi ds sr im, (b2i (okK k), 1) :: [])
    | _ => none
  else none
def okHook : Hook := fun f args h =>
  if Nat.beq f 21 && hasG h12 h then
    match args with
    | [.agg ⟨[.int .i64 k, .int .i64 al, .int .i64 co, .int .i64 si, .bool wi, .bool sh, .int .i64 ds, .int .i64 sr, .int .i32 dp, .int .i32 re, .int .i64 im]⟩, .agg ⟨[.int .u64 r0, .int .u64 r1, .int .u64 r2, .int .u64 r3, .int .u64 r4, .int .u64 r5, .int .u64 r6, .int .u64 r7, .int .u64 r8, .int .u64 r9, .int .u64 r10, .int .u64 r11, .int .u64 r12, .int .u64 r13, .int .u64 r14, .int .u64 r15, .bool z, .bool s, .bool c, .bool o, .int .u64 pc]⟩] => some (.tuple ⟨[In.st (⟨k, al, wi, ds, sr, im, rsL r0 r1 r2 r3 r4 r5 r6 r7 r8 r9 r10 r11 r12 r13 r14 r15⟩ : In) r0 r1 r2 r3 r4 r5 r6 r7 r8 r9 r10 r11 r12 r13 r14 r15 z s c o pc, .int .i64 0]⟩, [(co, 0), (si, 0), (b2i sh, 0), (dp, 0), (re, 0), (b2i (In.ok (⟨k, al, wi, ds, sr, im, rsL r0 r1 r2 r3 r4 r5 r6 r7 r8 r9 r10 r11 r12 r13 r14 r15⟩ : In)), 1)])
    | _ => none
  else none
def dsA : List Int := [0, 1, 2, 3, 4, 5, 6, 7]
def dsB : List Int := [8, 9, 10, 11, 12, 13, 14, 15]
def laHook : Hook := orHook setHook (orHook okHook doneHook)
/-- A way through the law. -/
structure Cl where
  p8 : Bool
  p9 : Bool
  f4 : Bool
  f5 : Bool
  f6 : Bool
  f7 : Bool
  b1 : Bool
  b2 : Bool
  b3 : Bool
  b4 : Bool
  g21 : Bool
  g7 : Bool
  W : Bool
def Cl.pair (c : Cl) : Bool := c.p8 || c.p9
def Cl.cmp (c : Cl) : Bool := c.f6 || (c.g21 || (c.g7 && (c.f4 || c.f5)))
def laOrc (c : Cl) (d : Int) : Orc := fun f t _ =>
  if Nat.beq f 12 then
    match t with
    | 40 => some (.bool c.p8) | 44 => some (.bool c.p9) | 52 => some (.int .i64 d) | 182 => some (.int .i64 d) | 80 => some (.bool false)
    | 84 => some (.bool c.f4) | 88 => some (.bool c.f5) | 93 => some (.bool c.f6) | 98 => some (.bool c.f7)
    | 104 => some (.bool c.b1) | 110 => some (.bool c.b2) | 117 => some (.bool c.b3) | 124 => some (.bool c.b4)
    | 128 => some (.bool c.f6) | 132 => some (.bool c.g21) | 137 => some (.bool c.g7) | 141 => some (.bool c.f4) | 145 => some (.bool c.f5)
    | 153 => some (.bool false) | 169 => some (.bool false) | 173 => some (.bool c.W) | 194 => some (.bool c.W)
    | 187 => some (.bool true) | 200 => some (.bool true) | 205 => some (.bool true)
    | _ => none
  else none
def rdC (c : Cl) (d : Int) (y : In) (i : Nat) (ri : Int) : Cs := (y.ds, d) :: (bif (Nat.beq i d.toNat && !c.pair) || (c.pair && (Nat.beq i 0 || Nat.beq i 2)) then [] else [(b2i (y.r i ri != ri), 0)])
def when (b : Bool) (l : Cs) : Cs := bif b then l else []
def laC1 (c : Cl) (k0 : Int) (y : In) : Cs := [(b2i (okK k0), 1), (0, 0), (0, 0), (0, 0), (0, 0), (0, 0), (b2i y.ok, 1), (b2i (y.k == 8), b2i c.p8)] ++ when (!c.p8) [(b2i (y.k == 9), b2i c.p9)]
def laC2 (c : Cl) (d : Int) (y : In) (r0 r1 r2 r3 r4 r5 r6 r7 r8 r9 r10 r11 r12 r13 r14 r15 : Int) : Cs := rdC c d y 0 r0 ++ (rdC c d y 1 r1 ++ (rdC c d y 2 r2 ++ (rdC c d y 3 r3 ++ (rdC c d y 4 r4 ++ (rdC c d y 5 r5 ++ (rdC c d y 6 r6 ++ (rdC c d y 7 r7 ++ (rdC c d y 8 r8 ++ (rdC c d y 9 r9 ++ (rdC c d y 10 r10 ++ (rdC c d y 11 r11 ++ (rdC c d y 12 r12 ++ (rdC c d y 13 r13 ++ (rdC c d y 14 r14 ++ (rdC c d y 15 r15)))))))))))))))
def laC3 (c : Cl) (y : In) : Cs := (b2i (y.k == 4), b2i c.f4) :: (when (!c.f4) ((b2i (y.k == 5), b2i c.f5) :: when (!c.f5) ((b2i (y.k == 6), b2i c.f6) :: when (!c.f6) [(b2i (y.k == 7), b2i c.f7)])))
def laC4 (cl : Cl) (y : In) (z s c o : Bool) : Cs := (b2i (y.z z == z), b2i cl.b1) :: (when cl.b1 ((b2i (y.s s == s), b2i cl.b2) :: when cl.b2 ((b2i (y.c c == c), b2i cl.b3) :: when cl.b3 [(b2i (y.o o == o), b2i cl.b4)])))
def laC5 (c : Cl) (y : In) : Cs := (b2i (y.k == 6), b2i c.f6) :: (when (!c.f6) ((b2i (y.k == 21), b2i c.g21) :: when (!c.g21) ((b2i (y.al == 7), b2i c.g7) :: when c.g7 ((b2i (y.k == 4), b2i c.f4) :: when (!c.f4) [(b2i (y.k == 5), b2i c.f5)]))))
def laC6 (c : Cl) (y : In) (r0 r1 r2 r3 r4 r5 r6 r7 r8 r9 r10 r11 r12 r13 r14 r15 : Int) (pc : Int) : Cs := (b2i (pc != pc), 0) :: when c.cmp [(b2i (!eqD [.int .u64 (y.r 0 r0), .int .u64 (y.r 1 r1), .int .u64 (y.r 2 r2), .int .u64 (y.r 3 r3), .int .u64 (y.r 4 r4), .int .u64 (y.r 5 r5), .int .u64 (y.r 6 r6), .int .u64 (y.r 7 r7), .int .u64 (y.r 8 r8), .int .u64 (y.r 9 r9), .int .u64 (y.r 10 r10), .int .u64 (y.r 11 r11), .int .u64 (y.r 12 r12), .int .u64 (y.r 13 r13), .int .u64 (y.r 14 r14), .int .u64 (y.r 15 r15)] [.int .u64 r0, .int .u64 r1, .int .u64 r2, .int .u64 r3, .int .u64 r4, .int .u64 r5, .int .u64 r6, .int .u64 r7, .int .u64 r8, .int .u64 r9, .int .u64 r10, .int .u64 r11, .int .u64 r12, .int .u64 r13, .int .u64 r14, .int .u64 r15]), 0)]
def laC7 (c : Cl) (d : Int) (y : In) (r0 r1 r2 r3 r4 r5 r6 r7 r8 r9 r10 r11 r12 r13 r14 r15 : Int) : Cs := (b2i y.wi, b2i c.W) :: (when (!c.W && (!c.cmp && !c.pair)) [(y.ds, d), (b2i (decide (y.r d.toNat ((rsL r0 r1 r2 r3 r4 r5 r6 r7 r8 r9 r10 r11 r12 r13 r14 r15).getD d.toNat 0) < 4294967296)), 1)] ++ when c.pair ((b2i y.wi, b2i c.W) :: when (!c.W) [(b2i (decide (y.r 0 r0 < 4294967296)), 1), (b2i (decide (y.r 2 r2 < 4294967296)), 1)]))
def laC (cl : Cl) (d : Int) (k0 : Int) (y : In) (r0 r1 r2 r3 r4 r5 r6 r7 r8 r9 r10 r11 r12 r13 r14 r15 : Int) (z s c o : Bool) (pc : Int) : Cs :=
  laC1 cl k0 y ++ (laC2 cl d y r0 r1 r2 r3 r4 r5 r6 r7 r8 r9 r10 r11 r12 r13 r14 r15 ++ (laC3 cl y ++ (laC4 cl y z s c o ++ (laC5 cl y ++ (laC6 cl y r0 r1 r2 r3 r4 r5 r6 r7 r8 r9 r10 r11 r12 r13 r14 r15 pc ++ laC7 cl d y r0 r1 r2 r3 r4 r5 r6 r7 r8 r9 r10 r11 r12 r13 r14 r15)))))
def seI (k al : Int) (wi : Bool) (ds sr im r0 r1 r2 r3 r4 r5 r6 r7 r8 r9 r10 r11 r12 r13 r14 r15 : Int) : In := ⟨k, sAl k al, sWi k wi, sDs k ds, sSr k sr, sIm k wi im, rsL r0 r1 r2 r3 r4 r5 r6 r7 r8 r9 r10 r11 r12 r13 r14 r15⟩
def laAns (cl : Cl) (d : Int) (k al : Int) (wi : Bool) (ds sr im r0 r1 r2 r3 r4 r5 r6 r7 r8 r9 r10 r11 r12 r13 r14 r15 : Int) (z s c o : Bool) (pc : Int) : Option (Value × List Int) := some (.bool true, inter (laC cl d k (seI k al wi ds sr im r0 r1 r2 r3 r4 r5 r6 r7 r8 r9 r10 r11 r12 r13 r14 r15) r0 r1 r2 r3 r4 r5 r6 r7 r8 r9 r10 r11 r12 r13 r14 r15 z s c o pc))
end Go.Proofs.YtbaiokfjoglmiaaDoor.Ex
