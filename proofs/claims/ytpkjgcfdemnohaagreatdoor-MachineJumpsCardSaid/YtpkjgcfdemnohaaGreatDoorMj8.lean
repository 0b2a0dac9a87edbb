/-
  Layer 13: the law MachineJumps: what its runs ask of other calls.
-/
import Derived.Test.YtpkjgcfdemnohaaGreatDoorMj8t
import Derived.Test.YtpkjgcfdemnohaaGreatDoorMk4
import Derived.Test.YtpkjgcfdemnohaaGreatDoorPackC
namespace Go.Proofs.YtpkjgcfdemnohaaGreatDoor.Ex
open Go Go.RowKit
set_option linter.unusedVariables false
set_option maxHeartbeats 0
set_option maxRecDepth 1000000
def subJ (a b : Int) : Int := IntKind.u64.wrap (a - b)
def andJ (a b : Int) : Int := IntKind.u64.wrap (BitVec.ofInt 64 a &&& BitVec.ofInt 64 b).toNat
def xorJ (a b : Int) : Int := IntKind.u64.wrap (BitVec.ofInt 64 a ^^^ BitVec.ofInt 64 b).toNat
def negJ (r : Int) : Bool := decide (r > 9223372036854775807)
def takenJ (cc : Int) (z s q o : Bool) : Bool :=
  if cc == 2 then q else if cc == 3 then !q else if cc == 4 then z else if cc == 5 then !z else if cc == 6 then q || z else if cc == 7 then !(q || z)
  else if cc == 12 then s != o else if cc == 13 then !(s != o) else if cc == 14 then z || (s != o) else if cc == 15 then !(z || (s != o)) else false
theorem tkJ_2 (r0 r1 r2 r3 r4 r5 r6 r7 r8 r9 r10 r11 r12 r13 r14 r15 pc : Int) (z s q o : Bool) : ScOk Tryz.prog h14 18 ⟨[.int .i64 2, .agg ⟨[.int .u64 r0, .int .u64 r1, .int .u64 r2, .int .u64 r3, .int .u64 r4, .int .u64 r5, .int .u64 r6, .int .u64 r7, .int .u64 r8, .int .u64 r9, .int .u64 r10, .int .u64 r11, .int .u64 r12, .int .u64 r13, .int .u64 r14, .int .u64 r15, .bool z, .bool s, .bool q, .bool o, .int .u64 pc]⟩], .bool (takenJ 2 z s q o), []⟩ := by
  cases z <;> cases s <;> cases q <;> cases o <;> exact lf14 hkN_ok noOrc (by kernel_rfl) (by kernel_rfl) (by kernel_rfl)
theorem tkJ_3 (r0 r1 r2 r3 r4 r5 r6 r7 r8 r9 r10 r11 r12 r13 r14 r15 pc : Int) (z s q o : Bool) : ScOk Tryz.prog h14 18 ⟨[.int .i64 3, .agg ⟨[.int .u64 r0, .int .u64 r1, .int .u64 r2, .int .u64 r3, .int .u64 r4, .int .u64 r5, .int .u64 r6, .int .u64 r7, .int .u64 r8, .int .u64 r9, .int .u64 r10, .int .u64 r11, .int .u64 r12, .int .u64 r13, .int .u64 r14, .int .u64 r15, .bool z, .bool s, .bool q, .bool o, .int .u64 pc]⟩], .bool (takenJ 3 z s q o), []⟩ := by
  cases z <;> cases s <;> cases q <;> cases o <;> exact lf14 hkN_ok noOrc (by kernel_rfl) (by kernel_rfl) (by kernel_rfl)
theorem tkJ_4 (r0 r1 r2 r3 r4 r5 r6 r7 r8 r9 r10 r11 r12 r13 r14 r15 pc : Int) (z s q o : Bool) : ScOk Tryz.prog h14 18 ⟨[.int .i64 4, .agg ⟨[.int .u64 r0, .int .u64 r1, .int .u64 r2, .int .u64 r3, .int .u64 r4, .int .u64 r5, .int .u64 r6, .int .u64 r7, .int .u64 r8, .int .u64 r9, .int .u64 r10, .int .u64 r11, .int .u64 r12, .int .u64 r13, .int .u64 r14, .int .u64 r15, .bool z, .bool s, .bool q, .bool o, .int .u64 pc]⟩], .bool (takenJ 4 z s q o), []⟩ := by
  cases z <;> cases s <;> cases q <;> cases o <;> exact lf14 hkN_ok noOrc (by kernel_rfl) (by kernel_rfl) (by kernel_rfl)
theorem tkJ_5 (r0 r1 r2 r3 r4 r5 r6 r7 r8 r9 r10 r11 r12 r13 r14 r15 pc : Int) (z s q o : Bool) : ScOk Tryz.prog h14 18 ⟨[.int .i64 5, .agg ⟨[.int .u64 r0, .int .u64 r1, .int .u64 r2, .int .u64 r3, .int .u64 r4, .int .u64 r5, .int .u64 r6, .int .u64 r7, .int .u64 r8, .int .u64 r9, .int .u64 r10, .int .u64 r11, .int .u64 r12, .int .u64 r13, .int .u64 r14, .int .u64 r15, .bool z, .bool s, .bool q, .bool o, .int .u64 pc]⟩], .bool (takenJ 5 z s q o), []⟩ := by
  cases z <;> cases s <;> cases q <;> cases o <;> exact lf14 hkN_ok noOrc (by kernel_rfl) (by kernel_rfl) (by kernel_rfl)
theorem tkJ_6 (r0 r1 r2 r3 r4 r5 r6 r7 r8 r9 r10 r11 r12 r13 r14 r15 pc : Int) (z s q o : Bool) : ScOk Tryz.prog h14 18 ⟨[.int .i64 6, .agg ⟨[.int .u64 r0, .int .u64 r1, .int .u64 r2, .int .u64 r3, .int .u64 r4, .int .u64 r5, .int .u64 r6, .int .u64 r7, .int .u64 r8, .int .u64 r9, .int .u64 r10, .int .u64 r11, .int .u64 r12, .int .u64 r13, .int .u64 r14, .int .u64 r15, .bool z, .bool s, .bool q, .bool o, .int .u64 pc]⟩], .bool (takenJ 6 z s q o), []⟩ := by
  cases z <;> cases s <;> cases q <;> cases o <;> exact lf14 hkN_ok noOrc (by kernel_rfl) (by kernel_rfl) (by kernel_rfl)
theorem tkJ_7 (r0 r1 r2 r3 r4 r5 r6 r7 r8 r9 r10 r11 r12 r13 r14 r15 pc : Int) (z s q o : Bool) : ScOk Tryz.prog h14 18 ⟨[.int .i64 7, .agg ⟨[.int .u64 r0, .int .u64 r1, .int .u64 r2, .int .u64 r3, .int .u64 r4, .int .u64 r5, .int .u64 r6, .int .u64 r7, .int .u64 r8, .int .u64 r9, .int .u64 r10, .int .u64 r11, .int .u64 r12, .int .u64 r13, .int .u64 r14, .int .u64 r15, .bool z, .bool s, .bool q, .bool o, .int .u64 pc]⟩], .bool (takenJ 7 z s q o), []⟩ := by
  cases z <;> cases s <;> cases q <;> cases o <;> exact lf14 hkN_ok noOrc (by kernel_rfl) (by kernel_rfl) (by kernel_rfl)
theorem tkJ_12 (r0 r1 r2 r3 r4 r5 r6 r7 r8 r9 r10 r11 r12 r13 r14 r15 pc : Int) (z s q o : Bool) : ScOk Tryz.prog h14 18 ⟨[.int .i64 12, .agg ⟨[.int .u64 r0, .int .u64 r1, .int .u64 r2, .int .u64 r3, .int .u64 r4, .int .u64 r5, .int .u64 r6, .int .u64 r7, .int .u64 r8, .int .u64 r9, .int .u64 r10, .int .u64 r11, .int .u64 r12, .int .u64 r13, .int .u64 r14, .int .u64 r15, .bool z, .bool s, .bool q, .bool o, .int .u64 pc]⟩], .bool (takenJ 12 z s q o), []⟩ := by
  cases z <;> cases s <;> cases q <;> cases o <;> exact lf14 hkN_ok noOrc (by kernel_rfl) (by kernel_rfl) (by kernel_rfl)
theorem tkJ_13 (r0 r1 r2 r3 r4 r5 r6 r7 r8 r9 r10 r11 r12 r13 r14 r15 pc : Int) (z s q o : Bool) : ScOk Tryz.prog h14 18 ⟨[.int .i64 13, .agg ⟨[.int .u64 r0, .int .u64 r1, .int .u64 r2, .int .u64 r3, .int .u64 r4, .int .u64 r5, .int .u64 r6, .int .u64 r7, .int .u64 r8, .int .u64 r9, .int .u64 r10, .int .u64 r11, .int .u64 r12, .int .u64 r13, .int .u64 r14, .int .u64 r15, .bool z, .bool s, .bool q, .bool o, .int .u64 pc]⟩], .bool (takenJ 13 z s q o), []⟩ := by
  cases z <;> cases s <;> cases q <;> cases o <;> exact lf14 hkN_ok noOrc (by kernel_rfl) (by kernel_rfl) (by kernel_rfl)
theorem tkJ_14 (r0 r1 r2 r3 r4 r5 r6 r7 r8 r9 r10 r11 r12 r13 r14 r15 pc : Int) (z s q o : Bool) : ScOk Tryz.prog h14 18 ⟨[.int .i64 14, .agg ⟨[.int .u64 r0, .int .u64 r1, .int .u64 r2, .int .u64 r3, .int .u64 r4, .int .u64 r5, .int .u64 r6, .int .u64 r7, .int .u64 r8, .int .u64 r9, .int .u64 r10, .int .u64 r11, .int .u64 r12, .int .u64 r13, .int .u64 r14, .int .u64 r15, .bool z, .bool s, .bool q, .bool o, .int .u64 pc]⟩], .bool (takenJ 14 z s q o), []⟩ := by
  cases z <;> cases s <;> cases q <;> cases o <;> exact lf14 hkN_ok noOrc (by kernel_rfl) (by kernel_rfl) (by kernel_rfl)
theorem tkJ_15 (r0 r1 r2 r3 r4 r5 r6 r7 r8 r9 r10 r11 r12 r13 r14 r15 pc : Int) (z s q o : Bool) : ScOk Tryz.prog h14 18 ⟨[.int .i64 15, .agg ⟨[.int .u64 r0, .int .u64 r1, .int .u64 r2, .int .u64 r3, .int .u64 r4, .int .u64 r5, .int .u64 r6, .int .u64 r7, .int .u64 r8, .int .u64 r9, .int .u64 r10, .int .u64 r11, .int .u64 r12, .int .u64 r13, .int .u64 r14, .int .u64 r15, .bool z, .bool s, .bool q, .bool o, .int .u64 pc]⟩], .bool (takenJ 15 z s q o), []⟩ := by
  cases z <;> cases s <;> cases q <;> cases o <;> exact lf14 hkN_ok noOrc (by kernel_rfl) (by kernel_rfl) (by kernel_rfl)
def ccJ (c : Int) : Bool := c == 2 || (c == 3 || (c == 4 || (c == 5 || (c == 6 || (c == 7 || (c == 12 || (c == 13 || (c == 14 || c == 15))))))))
/-- Whether a condition holds, as it is said to. -/
def hkTk (tk : Bool) : Hook := fun f args h =>
  if Nat.beq f 18 then
    match args with
    | [.int .i64 c, .agg ⟨[.int .u64 r0, .int .u64 r1, .int .u64 r2, .int .u64 r3, .int .u64 r4, .int .u64 r5, .int .u64 r6, .int .u64 r7, .int .u64 r8, .int .u64 r9, .int .u64 r10, .int .u64 r11, .int .u64 r12, .int .u64 r13, .int .u64 r14, .int .u64 r15, .bool z, .bool s, .bool q, .bool o, .int .u64 pc]⟩] => if ccJ c && hasG h14 h then some (.bool tk, [(b2i (takenJ c z s q o), b2i tk)]) else none
    | _ => none
  else none
theorem hkTk_ok (tk : Bool) : HookOk Tryz.prog (hkTk tk) := by
  intro f args h v cs hv hc wb k s w H
  unfold hkTk at hv
  split at hv
  · rename_i hf
    obtain rfl := Nat.eq_of_beq_eq_true hf
    split at hv
    · split at hv
      · rename_i hl
        cases hv
        simp only [Bool.and_eq_true] at hl
        have hL := H.laid hl.2 (show _ = true from rfl)
        have ht := b2i_inj (hc _ (List.mem_singleton.2 rfl))
        rw [← ht]
        have hcc := hl.1
        simp only [ccJ, Bool.or_eq_true, beq_iff_eq] at hcc
        rcases hcc with rfl | rfl | rfl | rfl | rfl | rfl | rfl | rfl | rfl | rfl
        · exact tkJ_2 _ _ _ _ _ _ _ _ _ _ _ _ _ _ _ _ _ _ _ _ _ (fun p hp => by cases hp) w hL
        · exact tkJ_3 _ _ _ _ _ _ _ _ _ _ _ _ _ _ _ _ _ _ _ _ _ (fun p hp => by cases hp) w hL
        · exact tkJ_4 _ _ _ _ _ _ _ _ _ _ _ _ _ _ _ _ _ _ _ _ _ (fun p hp => by cases hp) w hL
        · exact tkJ_5 _ _ _ _ _ _ _ _ _ _ _ _ _ _ _ _ _ _ _ _ _ (fun p hp => by cases hp) w hL
        · exact tkJ_6 _ _ _ _ _ _ _ _ _ _ _ _ _ _ _ _ _ _ _ _ _ (fun p hp => by cases hp) w hL
        · exact tkJ_7 _ _ _ _ _ _ _ _ _ _ _ _ _ _ _ _ _ _ _ _ _ (fun p hp => by cases hp) w hL
        · exact tkJ_12 _ _ _ _ _ _ _ _ _ _ _ _ _ _ _ _ _ _ _ _ _ (fun p hp => by cases hp) w hL
        · exact tkJ_13 _ _ _ _ _ _ _ _ _ _ _ _ _ _ _ _ _ _ _ _ _ (fun p hp => by cases hp) w hL
        · exact tkJ_14 _ _ _ _ _ _ _ _ _ _ _ _ _ _ _ _ _ _ _ _ _ (fun p hp => by cases hp) w hL
        · exact tkJ_15 _ _ _ _ _ _ _ _ _ _ _ _ _ _ _ _ _ _ _ _ _ (fun p hp => by cases hp) w hL
      · cases hv
    · cases hv
  · cases hv
def AllEq (cs : Cs) : Prop := ∀ c ∈ cs, c.1 = c.2
theorem AllEq.app {a b : Cs} (ha : AllEq a) (hb : AllEq b) : AllEq (a ++ b) := fun c hc => (List.mem_append.1 hc).elim (ha c) (hb c)
theorem AllEq.cons {p : Int × Int} {b : Cs} (ha : p.1 = p.2) (hb : AllEq b) : AllEq (p :: b) := fun c hc => by
  rcases List.mem_cons.1 hc with rfl | h
  · exact ha
  · exact hb c h
theorem AllEq.nil : AllEq [] := fun c hc => by cases hc
def jOrcL (k n0 n1 : Int) : Orc := fun f t x =>
  if Nat.beq f 6 && (Nat.beq t 20 || Nat.beq t 33) then some (.int .u8 k)
  else if Nat.beq f 17 && Nat.beq t 30 then
    (match x with
    | .agg ⟨.int _ k :: _ :: _ :: _ :: _ :: _ :: .int _ d :: _⟩ :: _ => if k == 3 then (if d == 1 then some (.int .u64 n0) else some (.int .u64 n1)) else none
    | _ => none)
  else none
def mJ (n : Int) : Int := IntKind.i64.wrap n
def bJ (n : Int) (i : Nat) : UInt8 := (byW (IntKind.u64.wrap (mJ n)) 8).getD i 0
def strJ (sh : Bool) (y : UInt8) (n0 n1 : Int) : List UInt8 := codeJ sh y (bJ n0 0) (bJ n0 1) (bJ n0 2) (bJ n0 3) (bJ n0 4) (bJ n0 5) (bJ n0 6) (bJ n0 7) (bJ n1 0) (bJ n1 1) (bJ n1 2) (bJ n1 3) (bJ n1 4) (bJ n1 5) (bJ n1 6) (bJ n1 7)
def encP (d n : Int) : Cs := [(3, 3), (0, 0), (0, 0), (0, 0), (1, 1), (0, 0), (d, d), (0, 0), (0, 0), (0, 0), (mJ n, mJ n), (b2i (eqD (xB 3 0 0 0 true false d 0 0 0 (mJ n)) (xB 3 0 0 0 true false d 0 0 0 (mJ n))), 1)]
def decP (sh : Bool) (y : UInt8) (n0 n1 at_ : Int) : Cs := [(b2i (strJ sh y n0 n1 == strJ sh y n0 n1), 1), (at_, at_)]
def vlP (d n : Int) : Cs := [(b2i (eqD (xB 3 0 0 0 true false d 0 0 0 (mJ n)) (xB 3 0 0 0 true false d 0 0 0 (mJ n))), 1)]
def zJ (n0 n1 : Int) : Bool := subJ n0 n1 == 0
def sJ (n0 n1 : Int) : Bool := negJ (subJ n0 n1)
def qJ (n0 n1 : Int) : Bool := decide (n0 < n1)
def oJ (n0 n1 : Int) : Bool := negJ (andJ (xorJ n0 n1) (xorJ n0 (subJ n0 n1)))
def tkP (cc n0 n1 : Int) (tk : Bool) : Cs := [(b2i (takenJ cc (zJ n0 n1) (sJ n0 n1) (qJ n0 n1) (oJ n0 n1)), b2i tk)]
def absP (sh : Bool) (y : UInt8) (n0 n1 at_ d n : Int) (op : UInt8) : Cs := decP sh y n0 n1 at_ ++ (cAbs (mJ n) d (byW (IntKind.u64.wrap (mJ n)) 8) op ++ [(IntKind.u64.wrap (mJ n), n)])
theorem encP_ok (d n : Int) : AllEq (encP d n) := by
  intro c hc
  simp only [encP, eqD_xB, List.mem_cons, List.not_mem_nil, or_false] at hc
  rcases hc with rfl | rfl | rfl | rfl | rfl | rfl | rfl | rfl | rfl | rfl | rfl | rfl <;> rfl
theorem decP_ok (sh : Bool) (y : UInt8) (n0 n1 at_ : Int) : AllEq (decP sh y n0 n1 at_) := by
  intro c hc
  simp only [decP, beq_self_eq_true, List.mem_cons, List.not_mem_nil, or_false] at hc
  rcases hc with rfl | rfl <;> rfl
theorem vlP_ok (d n : Int) : AllEq (vlP d n) := by
  intro c hc
  simp only [vlP, eqD_xB, List.mem_cons, List.not_mem_nil, or_false] at hc
  rcases hc with rfl
  rfl
theorem tkP_ok {cc n0 n1 : Int} {tk : Bool} (h : takenJ cc (zJ n0 n1) (sJ n0 n1) (qJ n0 n1) (oJ n0 n1) = tk) : AllEq (tkP cc n0 n1 tk) := by
  intro c hc
  simp only [tkP, h, List.mem_cons, List.not_mem_nil, or_false] at hc
  rcases hc with rfl
  rfl
theorem absP_ok (sh : Bool) (y : UInt8) (n0 n1 at_ d n : Int) (op : UInt8) (h0 : 0 ≤ n) (h1 : n < 18446744073709551616) : AllEq (absP sh y n0 n1 at_ d n op) :=
  AllEq.app (decP_ok sh y n0 n1 at_) (AllEq.app (cAbs_ok n h0 h1 d op) (AllEq.cons (wrap_two n h0 h1) AllEq.nil))
def onesP : Nat → Cs
  | 0 => []
  | n + 1 => (1, 1) :: onesP n
theorem onesP_ok : ∀ n, AllEq (onesP n)
  | 0 => AllEq.nil
  | n + 1 => AllEq.cons rfl (onesP_ok n)
def jcsT (k cc : Int) (y : UInt8) (tk : Bool) (c n0 n1 : Int) : Cs := [(Int.tmod c 10, k), (Int.tmod c 10, k), (1, 1), (1, 1)] ++ (encP 1 n0 ++ (encP 2 n1 ++ (absP true y n0 n1 0 1 n0 185 ++ (absP true y n0 n1 10 2 n1 186 ++ ((decP true y n0 n1 20 ++ onesP 0) ++ ((decP true y n0 n1 27 ++ onesP 0) ++ ((decP true y n0 n1 30 ++ onesP 0) ++ (tkP cc n0 n1 tk ++ ((bif tk then [] else (decP true y n0 n1 32 ++ onesP 0)) ++ ((decP true y n0 n1 39 ++ onesP 0) ++ (onesP 0 ++ tkP cc n0 n1 tk)))))))))))
theorem jcsT_ok (k cc : Int) (y : UInt8) (tk : Bool) (c n0 n1 : Int) (hk : Int.tmod c 10 = k) (h0 : 0 ≤ n0) (h1 : n0 < 18446744073709551616) (g0 : 0 ≤ n1) (g1 : n1 < 18446744073709551616) (ht : takenJ cc (zJ n0 n1) (sJ n0 n1) (qJ n0 n1) (oJ n0 n1) = tk) : AllEq (jcsT k cc y tk c n0 n1) := by
  have hd := decP_ok true y n0 n1
  have h2 : AllEq (bif tk then [] else (decP true y n0 n1 32 ++ onesP 0)) := by
    cases tk
    · exact (hd _).app (onesP_ok 0)
    · exact AllEq.nil
  exact AllEq.app (AllEq.cons hk (AllEq.cons hk (AllEq.cons rfl (AllEq.cons rfl AllEq.nil)))) ((encP_ok 1 n0).app ((encP_ok 2 n1).app ((absP_ok true y n0 n1 0 1 n0 185 h0 h1).app ((absP_ok true y n0 n1 10 2 n1 186 g0 g1).app (((hd 20).app (onesP_ok 0)).app (((hd 27).app (onesP_ok 0)).app (((hd 30).app (onesP_ok 0)).app ((tkP_ok ht).app (h2.app (((hd 39).app (onesP_ok 0)).app ((onesP_ok 0).app (tkP_ok ht))))))))))))
def jhkT (tk : Bool) (y : UInt8) (cc n0 n1 : Int) : Hook := orHook (hkTk tk) (orHook hkVE (orHook (hkDecT y cc (mJ n0) (mJ n1)) (orHook runsHook (orHook repHook hkNum))))
def jcsF (k cc : Int) (y : UInt8) (tk : Bool) (c n0 n1 : Int) : Cs := [(Int.tmod c 10, k), (Int.tmod c 10, k), (1, 1), (1, 1)] ++ (encP 1 n0 ++ (encP 2 n1 ++ (absP false y n0 n1 0 1 n0 185 ++ (absP false y n0 n1 10 2 n1 186 ++ ((decP false y n0 n1 20 ++ onesP 0) ++ ((decP false y n0 n1 27 ++ onesP 0) ++ ((decP false y n0 n1 30 ++ onesP 0) ++ (tkP cc n0 n1 tk ++ ((bif tk then [] else (decP false y n0 n1 36 ++ onesP 0)) ++ ((decP false y n0 n1 43 ++ onesP 0) ++ (onesP 0 ++ tkP cc n0 n1 tk)))))))))))
theorem jcsF_ok (k cc : Int) (y : UInt8) (tk : Bool) (c n0 n1 : Int) (hk : Int.tmod c 10 = k) (h0 : 0 ≤ n0) (h1 : n0 < 18446744073709551616) (g0 : 0 ≤ n1) (g1 : n1 < 18446744073709551616) (ht : takenJ cc (zJ n0 n1) (sJ n0 n1) (qJ n0 n1) (oJ n0 n1) = tk) : AllEq (jcsF k cc y tk c n0 n1) := by
  have hd := decP_ok false y n0 n1
  have h2 : AllEq (bif tk then [] else (decP false y n0 n1 36 ++ onesP 0)) := by
    cases tk
    · exact (hd _).app (onesP_ok 0)
    · exact AllEq.nil
  exact AllEq.app (AllEq.cons hk (AllEq.cons hk (AllEq.cons rfl (AllEq.cons rfl AllEq.nil)))) ((encP_ok 1 n0).app ((encP_ok 2 n1).app ((absP_ok false y n0 n1 0 1 n0 185 h0 h1).app ((absP_ok false y n0 n1 10 2 n1 186 g0 g1).app (((hd 20).app (onesP_ok 0)).app (((hd 27).app (onesP_ok 0)).app (((hd 30).app (onesP_ok 0)).app ((tkP_ok ht).app (h2.app (((hd 43).app (onesP_ok 0)).app ((onesP_ok 0).app (tkP_ok ht))))))))))))
def jhkF (tk : Bool) (y : UInt8) (cc n0 n1 : Int) : Hook := orHook (hkTk tk) (orHook hkVE (orHook (hkDecF y cc (mJ n0) (mJ n1)) (orHook runsHook (orHook repHook hkNum))))
end Go.Proofs.YtpkjgcfdemnohaaGreatDoor.Ex
