/-
  The law MemoryOver, reckoned: five ways in which two regions stand.
-/
import Derived.Test.YtkdnjphgmifkmaaMo0
namespace Go.Proofs.Ytkdnjphgmifkmaa.Ex
open Go Go.RowKit
set_option maxHeartbeats 0
set_option maxRecDepth 1000000
set_option linter.unusedVariables false
def moL (m : Int) : Int := IntKind.i64.wrap (1 + Int.tmod (IntKind.i64.wrap m) 20)
def moB (p : Int) : Int := IntKind.u64.wrap (1000 + IntKind.u64.wrap (Int.tmod p 50))
def moC (m : Int) : List Value := List.replicate (moL m).toNat (Value.int .u8 0)
def moT (m : Int) : ByteArray := ⟨⟨(((moC m).drop 0).take (moL m).toNat).map u8Of⟩⟩
def moS (m : Int) : Int := ((moT m).size : Int)
def moU (m : Int) : Int := IntKind.u64.wrap (moS m)
def notB (x : Int) : Int := IntKind.u64.wrap (((BitVec.ofInt 64 18446744073709551615 ^^^ BitVec.ofInt 64 x).toNat : Nat) : Int)
def moP (m : Int) : Int := IntKind.u64.wrap (0 - moU m)
def moQ (m : Int) : Int := IntKind.u64.wrap (moP m - 1)
/-- What making a region's bytes asks. -/
def moMk (m : Int) : Cs := [(b2i (decide (0 ≤ moL m) && (decide (moL m ≤ moL m) && decide (moL m ≤ 1000000))), 1), (b2i ((moC m).all flat), 1), (b2i ((moC m).all isU8 && decide (0 + (moL m).toNat ≤ (moC m).length)), 1)]
/-- What a region alone is asked: whether it has bytes, and whether it ends too far. -/
def moR (m b : Int) (far : Bool) : Cs := [(b2i (moS m == 0), 0), (b2i (decide (moU m > notB b)), b2i far)]
/-- Whether a region reaches the next one. -/
def moO (lo hi m : Int) (ov : Bool) : Cs := [(b2i (decide (IntKind.u64.wrap (hi - lo) < moU m)), b2i ov)]
def moCmp (x y : Int) (b : Bool) : Cs := [(b2i (decide (cmpS x y < 0)), b2i b)]
def moCs (lt gt p q ov : Bool) (m0 m1 p0 p1 : Int) : Cs :=
  moMk m0 ++ moMk m1 ++ [(b2i (decide (moB p0 < IntKind.u64.wrap (moB p1 + moU m1))), b2i p)] ++
  (bif p then [(b2i (decide (moB p1 < IntKind.u64.wrap (moB p0 + moU m0))), b2i q)] else []) ++
  moR m0 (moB p0) false ++ moR m1 (moB p1) false ++ moCmp (moB p1) (moB p0) gt ++ (bif gt then moO (moB p1) (moB p0) m1 ov else moO (moB p0) (moB p1) m0 ov) ++
  moR m1 (moB p1) false ++ moR m0 (moB p0) false ++ moCmp (moB p0) (moB p1) lt ++ (bif lt then moO (moB p0) (moB p1) m0 ov else moO (moB p1) (moB p0) m1 ov) ++
  moR m0 (moP m0) true ++ moR m0 (moQ m0) false ++ moR m0 (moB p0) false ++ moCmp (moB p0) (moQ m0) true ++ moO (moB p0) (moQ m0) m0 false
def MoRun (lt gt p q ov : Bool) : Prop := ∀ m0 m1 p0 p1 : Int, (∀ c ∈ moCs lt gt p q ov m0 m1 p0 p1, c.1 = c.2) → ∀ w : World,
  Calls Try.prog 5 #[.agg ⟨[.int .u8 m0, .int .u8 m1]⟩, .agg ⟨[.int .u8 p0, .int .u8 p1]⟩] w fun e w' => e = .returned (.bool true) ∧ Gr w w'
theorem mo_mk {lt gt p q ov : Bool} (h : ∀ m0 m1 p0 p1 : Int, reckonGI Try.prog (guardH moHook) (moOrc lt gt p q ov) 100000 300 [] 5 [.agg ⟨[.int .u8 m0, .int .u8 m1]⟩, .agg ⟨[.int .u8 p0, .int .u8 p1]⟩] = some (.bool true, inter (moCs lt gt p q ov m0 m1 p0 p1))) : MoRun lt gt p q ov :=
  fun m0 m1 p0 p1 he w => reckonI_ok noNG (guard_ok moHook_ok) (moOrc lt gt p q ov) 100000 300 [] rfl rfl (h m0 m1 p0 p1) he w (Laid.nil w)
theorem mo_ln : MoRun true false true false false := mo_mk fun m0 m1 p0 p1 => by kernel_rfl
theorem mo_lo : MoRun true false true true true := mo_mk fun m0 m1 p0 p1 => by kernel_rfl
theorem mo_eq : MoRun false false true true true := mo_mk fun m0 m1 p0 p1 => by kernel_rfl
theorem mo_go : MoRun false true true true true := mo_mk fun m0 m1 p0 p1 => by kernel_rfl
theorem mo_gn : MoRun false true false false false := mo_mk fun m0 m1 p0 p1 => by kernel_rfl
theorem wr64 (x : Int) : IntKind.u64.wrap x = x % 18446744073709551616 := by simp [IntKind.wrap, IntKind.signed, IntKind.bits]
theorem wri64 {x : Int} (h1 : 0 ≤ x) (h2 : x < 9223372036854775808) : IntKind.i64.wrap x = x := by
  have e : x % 2 ^ 64 = x := by omega
  simp only [IntKind.wrap, IntKind.signed, IntKind.bits, e]
  rw [if_neg]
  simp only [Bool.true_and, decide_eq_true_eq]
  omega
theorem notB_eq {x : Int} (h1 : 0 ≤ x) (h2 : x < 18446744073709551616) : notB x = 18446744073709551615 - x := by
  have e : (BitVec.ofInt 64 18446744073709551615 : BitVec 64) = BitVec.allOnes 64 := by decide
  unfold notB
  rw [e, BitVec.xor_comm, BitVec.xor_allOnes, BitVec.toNat_not, BitVec.toNat_ofInt, wr64]
  omega
theorem moL_eq {m : Int} (h1 : 0 ≤ m) (h2 : m < 256) : moL m = 1 + m % 20 := by
  unfold moL
  rw [wri64 h1 (by omega), Int.tmod_eq_emod_of_nonneg h1, wri64 (by omega) (by omega)]
theorem moB_eq {p : Int} (h1 : 0 ≤ p) (h2 : p < 256) : moB p = 1000 + p % 50 := by
  unfold moB
  rw [Int.tmod_eq_emod_of_nonneg h1, wr64, wr64]
  omega
theorem moS_eq {m : Int} (h1 : 0 ≤ m) (h2 : m < 256) : moS m = moL m := by
  have h := moL_eq h1 h2
  have e : (moT m).size = (moL m).toNat := by
    show ((((moC m).drop 0).take (moL m).toNat).map u8Of).toArray.size = _
    simp [moC]
  unfold moS
  rw [e]
  omega
theorem moU_eq {m : Int} (h1 : 0 ≤ m) (h2 : m < 256) : moU m = moL m := by
  have h := moL_eq h1 h2
  unfold moU
  rw [moS_eq h1 h2, wr64]
  omega
theorem moMk_ok {m : Int} (h1 : 0 ≤ m) (h2 : m < 256) : ∀ c ∈ moMk m, c.1 = c.2 := by
  have h := moL_eq h1 h2
  have e1 : decide (0 ≤ moL m) = true := decide_eq_true (by omega)
  have e2 : decide (moL m ≤ 1000000) = true := decide_eq_true (by omega)
  have e3 : (moC m).all flat = true := List.all_eq_true.2 fun x hx => by rw [List.eq_of_mem_replicate hx]; rfl
  have e4 : (moC m).all isU8 = true := List.all_eq_true.2 fun x hx => by rw [List.eq_of_mem_replicate hx]; rfl
  have e5 : decide (0 + (moL m).toNat ≤ (moC m).length) = true := decide_eq_true (by simp [moC])
  have e6 : decide (moL m ≤ moL m) = true := decide_eq_true (Int.le_refl _)
  intro c hc
  simp only [moMk, List.mem_cons, List.not_mem_nil, or_false] at hc
  rcases hc with rfl | rfl | rfl
  · simp only [e1, e2, e6]; rfl
  · simp only [e3]; rfl
  · simp only [e4, e5]; rfl
theorem moR_ok {m b : Int} {far : Bool} (h1 : 0 ≤ m) (h2 : m < 256) (h3 : 0 ≤ b) (h4 : b < 18446744073709551616) (hf : decide (moL m > 18446744073709551615 - b) = far) : ∀ c ∈ moR m b far, c.1 = c.2 := by
  have h := moL_eq h1 h2
  have e1 : (moS m == 0) = false := by rw [moS_eq h1 h2]; exact beq_eq_false_iff_ne.2 (by omega)
  intro c hc
  simp only [moR, List.mem_cons, List.not_mem_nil, or_false] at hc
  rcases hc with rfl | rfl
  · simp only [e1]; rfl
  · simp only [moU_eq h1 h2, notB_eq h3 h4, hf]
theorem moO_ok {lo hi m : Int} {ov : Bool} (h1 : 0 ≤ m) (h2 : m < 256) (h3 : lo ≤ hi) (h4 : hi - lo < 18446744073709551616) (hf : decide (hi - lo < moL m) = ov) : ∀ c ∈ moO lo hi m ov, c.1 = c.2 := by
  have e : IntKind.u64.wrap (hi - lo) = hi - lo := by rw [wr64]; omega
  intro c hc
  simp only [moO, List.mem_cons, List.not_mem_nil, or_false] at hc
  subst hc
  simp only [moU_eq h1 h2, e, hf]
theorem moCmp_ok {x y : Int} {b : Bool} (hf : decide (x < y) = b) : ∀ c ∈ moCmp x y b, c.1 = c.2 := by
  have e : decide (cmpS x y < 0) = b := by
    subst hf
    by_cases h : x < y
    · simp [cmpS, h]
    · by_cases h' : x > y <;> simp [cmpS, h, h']
  intro c hc
  simp only [moCmp, List.mem_cons, List.not_mem_nil, or_false] at hc
  subst hc
  simp only [e]
theorem allC {a b : Cs} (h1 : ∀ c ∈ a, c.1 = c.2) (h2 : ∀ c ∈ b, c.1 = c.2) : ∀ c ∈ a ++ b, c.1 = c.2 := fun c hc => (List.mem_append.1 hc).elim (h1 c) (h2 c)
theorem oneC {x y : Bool} (h : x = y) : ∀ c ∈ ([(b2i x, b2i y)] : Cs), c.1 = c.2 := by
  intro c hc
  obtain rfl := List.mem_singleton.1 hc
  simp only [h]
theorem mo_cs {m0 m1 p0 p1 : Int} {lt gt p q ov : Bool} (a1 : 0 ≤ m0) (a2 : m0 < 256) (b1 : 0 ≤ m1) (b2 : m1 < 256) (c1 : 0 ≤ p0) (c2 : p0 < 256) (d1 : 0 ≤ p1) (d2 : p1 < 256)
    (hlt : decide (moB p0 < moB p1) = lt) (hgt : decide (moB p1 < moB p0) = gt) (hp : decide (moB p0 < moB p1 + moL m1) = p) (hq : p = true → decide (moB p1 < moB p0 + moL m0) = q)
    (o1 : gt = false → decide (moB p1 - moB p0 < moL m0) = ov) (o2 : lt = false → decide (moB p0 - moB p1 < moL m1) = ov) : ∀ c ∈ moCs lt gt p q ov m0 m1 p0 p1, c.1 = c.2 := by
  have hA := moB_eq c1 c2
  have hB := moB_eq d1 d2
  have hL := moL_eq a1 a2
  have hM := moL_eq b1 b2
  have eP : moP m0 = 18446744073709551616 - moL m0 := by
    unfold moP
    rw [moU_eq a1 a2, wr64]
    omega
  have eQ : moQ m0 = 18446744073709551615 - moL m0 := by
    unfold moQ
    rw [eP, wr64]
    omega
  have ea : moR m0 (moB p0) false = moR m0 (moB p0) false := rfl
  have rA := moR_ok (b := moB p0) (far := false) a1 a2 (by omega) (by omega) (decide_eq_false (by omega))
  have rB := moR_ok (b := moB p1) (far := false) b1 b2 (by omega) (by omega) (decide_eq_false (by omega))
  have rP := moR_ok (b := moP m0) (far := true) a1 a2 (by omega) (by omega) (decide_eq_true (by omega))
  have rQ := moR_ok (b := moQ m0) (far := false) a1 a2 (by omega) (by omega) (decide_eq_false (by omega))
  have w1 : IntKind.u64.wrap (moB p1 + moU m1) = moB p1 + moL m1 := by rw [moU_eq b1 b2, wr64]; omega
  have w2 : IntKind.u64.wrap (moB p0 + moU m0) = moB p0 + moL m0 := by rw [moU_eq a1 a2, wr64]; omega
  unfold moCs
  rw [w1, w2]
  refine allC (allC (allC (allC (allC (allC (allC (allC (allC (allC (allC (allC (allC (allC (allC (allC (moMk_ok a1 a2) (moMk_ok b1 b2)) (oneC hp)) ?_) rA) rB) (moCmp_ok hgt)) ?_) rB) rA) (moCmp_ok hlt)) ?_) rP) rQ) rA) (moCmp_ok (decide_eq_true (by omega)))) (moO_ok a1 a2 (by omega) (by omega) (decide_eq_false (by omega)))
  · cases p with
    | true => exact oneC (hq rfl)
    | false => exact fun c hc => by cases hc
  · cases gt with
    | true =>
      have := of_decide_eq_true hgt
      have hl : lt = false := by rw [← hlt]; exact decide_eq_false (by omega)
      exact moO_ok b1 b2 (by omega) (by omega) (o2 hl)
    | false =>
      have := of_decide_eq_false hgt
      exact moO_ok a1 a2 (by omega) (by omega) (o1 rfl)
  · cases lt with
    | true =>
      have := of_decide_eq_true hlt
      have hg : gt = false := by rw [← hgt]; exact decide_eq_false (by omega)
      exact moO_ok a1 a2 (by omega) (by omega) (o1 hg)
    | false =>
      have := of_decide_eq_false hlt
      exact moO_ok b1 b2 (by omega) (by omega) (o2 rfl)
theorem memoryOver_walk (m0 m1 p0 p1 : Int) (a1 : 0 ≤ m0) (a2 : m0 < 256) (b1 : 0 ≤ m1) (b2 : m1 < 256) (c1 : 0 ≤ p0) (c2 : p0 < 256) (d1 : 0 ≤ p1) (d2 : p1 < 256) (w : World) :
    Calls Try.prog 5 #[.agg ⟨[.int .u8 m0, .int .u8 m1]⟩, .agg ⟨[.int .u8 p0, .int .u8 p1]⟩] w fun e w' => e = .returned (.bool true) ∧ Gr w w' := by
  have hA := moB_eq c1 c2
  have hB := moB_eq d1 d2
  have hL := moL_eq a1 a2
  have hM := moL_eq b1 b2
  by_cases h1 : moB p0 < moB p1
  · by_cases h2 : moB p1 < moB p0 + moL m0
    · exact mo_lo m0 m1 p0 p1 (mo_cs a1 a2 b1 b2 c1 c2 d1 d2 (decide_eq_true h1) (decide_eq_false (by omega)) (decide_eq_true (by omega)) (fun _ => decide_eq_true h2) (fun _ => decide_eq_true (by omega)) (fun h => by cases h)) w
    · exact mo_ln m0 m1 p0 p1 (mo_cs a1 a2 b1 b2 c1 c2 d1 d2 (decide_eq_true h1) (decide_eq_false (by omega)) (decide_eq_true (by omega)) (fun _ => decide_eq_false h2) (fun _ => decide_eq_false (by omega)) (fun h => by cases h)) w
  · by_cases h3 : moB p1 < moB p0
    · by_cases h2 : moB p0 < moB p1 + moL m1
      · exact mo_go m0 m1 p0 p1 (mo_cs a1 a2 b1 b2 c1 c2 d1 d2 (decide_eq_false h1) (decide_eq_true h3) (decide_eq_true h2) (fun _ => decide_eq_true (by omega)) (fun h => by cases h) (fun _ => decide_eq_true (by omega))) w
      · exact mo_gn m0 m1 p0 p1 (mo_cs a1 a2 b1 b2 c1 c2 d1 d2 (decide_eq_false h1) (decide_eq_true h3) (decide_eq_false h2) (fun h => by cases h) (fun h => by cases h) (fun _ => decide_eq_false (by omega))) w
    · exact mo_eq m0 m1 p0 p1 (mo_cs a1 a2 b1 b2 c1 c2 d1 d2 (decide_eq_false h1) (decide_eq_false h3) (decide_eq_true (by omega)) (fun _ => decide_eq_true (by omega)) (fun _ => decide_eq_true (by omega)) (fun _ => decide_eq_true (by omega))) w
end Go.Proofs.Ytkdnjphgmifkmaa.Ex
