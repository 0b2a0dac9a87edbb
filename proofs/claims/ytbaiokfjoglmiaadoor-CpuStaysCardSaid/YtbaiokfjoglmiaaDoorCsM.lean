/-
  Layer 12: what the law asks of a state behind an instruction: true.
-/
import Derived.Test.YtbaiokfjoglmiaaDoorCsY
namespace Go.Proofs.YtbaiokfjoglmiaaDoor.Ex
open Go Go.RowKit
set_option maxHeartbeats 0
set_option maxRecDepth 1000000
set_option linter.unusedVariables false
theorem cons_ok {x y : Int} {l : Cs} (h : x = y) (hl : ∀ c ∈ l, c.1 = c.2) : ∀ c ∈ (x, y) :: l, c.1 = c.2 := fun c hc => (List.mem_cons.1 hc).elim (fun e => by subst e; exact h) (hl c)
theorem consB {x y : Bool} {l : Cs} (h : x = y) (hl : ∀ c ∈ l, c.1 = c.2) : ∀ c ∈ (b2i x, b2i y) :: l, c.1 = c.2 := cons_ok (congrArg b2i h) hl
theorem when_ok {b : Bool} {l : Cs} (h : b = true → ∀ c ∈ l, c.1 = c.2) : ∀ c ∈ when b l, c.1 = c.2 := by
  cases b with
  | true => exact h rfl
  | false => exact cs_nil
theorem and_in (a n : Int) (m : Nat) (hn : n = (m : Int)) (hm : m < 9223372036854775808) : 0 ≤ andK .i64 a n ∧ andK .i64 a n ≤ n := by
  subst hn
  have h : (BitVec.ofInt 64 a &&& BitVec.ofInt 64 (m : Int)).toNat ≤ m := by
    rw [BitVec.toNat_and]
    refine Nat.le_trans Nat.and_le_right ?_
    rw [BitVec.toNat_ofInt]
    omega
  unfold andK
  show 0 ≤ IntKind.i64.wrap (((BitVec.ofInt 64 a &&& BitVec.ofInt 64 (m : Int)).toNat : Nat) : Int) ∧ IntKind.i64.wrap (((BitVec.ofInt 64 a &&& BitVec.ofInt 64 (m : Int)).toNat : Nat) : Int) ≤ (m : Int)
  generalize (BitVec.ofInt 64 a &&& BitVec.ofInt 64 (m : Int)).toNat = q at h
  have e : IntKind.i64.wrap (q : Int) = if (q : Int) % 18446744073709551616 ≥ 9223372036854775808 then (q : Int) % 18446744073709551616 - 18446744073709551616 else (q : Int) % 18446744073709551616 := by
    simp [IntKind.wrap, IntKind.signed, IntKind.bits]
  rw [e]
  split <;> omega
theorem sDs_in (k ds : Int) : 0 ≤ sDs k ds ∧ sDs k ds < 16 := by
  unfold sDs
  cases k == 21 with
  | true => exact ⟨Int.le_refl 0, (by decide : (0 : Int) < 16)⟩
  | false => have := and_in ds 15 15 rfl (by decide); exact ⟨this.1, by show andK .i64 ds 15 < 16; omega⟩
theorem sSr_in (k sr : Int) : 0 ≤ sSr k sr ∧ sSr k sr < 16 := by
  unfold sSr
  cases (k == 1 || (k == 4 || (k == 6 || k == 10))) with
  | false => exact ⟨Int.le_refl 0, (by decide : (0 : Int) < 16)⟩
  | true => have := and_in sr 15 15 rfl (by decide); exact ⟨this.1, by show andK .i64 sr 15 < 16; omega⟩
theorem regS_of {n : Int} (h : 0 ≤ n ∧ n < 16) : regS n = true := by
  simp only [regS, Bool.and_eq_true, decide_eq_true_eq]
  exact ⟨h.1, h.2⟩
theorem al6 (al : Int) : aluOk (([0, 1, 4, 5, 6, 7] : List Int).getD (ix6 al).toNat 0) = true := by
  obtain ⟨h1, h2⟩ := ix6_in al
  rcases (show ix6 al = 0 ∨ ix6 al = 1 ∨ ix6 al = 2 ∨ ix6 al = 3 ∨ ix6 al = 4 ∨ ix6 al = 5 by omega) with e | e | e | e | e | e <;> rw [e] <;> rfl
theorem al3 (al : Int) : shOk (([4, 5, 7] : List Int).getD (ix3 al).toNat 0) = true := by
  obtain ⟨h1, h2⟩ := ix3_in al
  rcases (show ix3 al = 0 ∨ ix3 al = 1 ∨ ix3 al = 2 by omega) with e | e | e <;> rw [e] <;> rfl
theorem word_of (im : Int) : (IntKind.i64.wrap (IntKind.i32.wrap im) == IntKind.i64.wrap (IntKind.i32.wrap (IntKind.i64.wrap (IntKind.i32.wrap im)))) = true := by
  have w32 : ∀ x : Int, IntKind.i32.wrap x = if x % 4294967296 ≥ 2147483648 then x % 4294967296 - 4294967296 else x % 4294967296 := fun x => by
    simp [IntKind.wrap, IntKind.signed, IntKind.bits]
  have w64 : ∀ x : Int, -2147483648 ≤ x → x < 2147483648 → IntKind.i64.wrap x = x := fun x h1 h2 => by
    have e : IntKind.i64.wrap x = if x % 18446744073709551616 ≥ 9223372036854775808 then x % 18446744073709551616 - 18446744073709551616 else x % 18446744073709551616 := by
      simp [IntKind.wrap, IntKind.signed, IntKind.bits]
    rw [e]
    split <;> omega
  have h : -2147483648 ≤ IntKind.i32.wrap im ∧ IntKind.i32.wrap im < 2147483648 := by rw [w32]; split <;> omega
  have e1 : IntKind.i32.wrap (IntKind.i32.wrap im) = IntKind.i32.wrap im := by
    have := w32 (IntKind.i32.wrap im)
    rw [this]
    split <;> omega
  rw [w64 _ h.1 h.2, e1, w64 _ h.1 h.2]
  exact beq_self_eq_true _
theorem eqX (k al co si : Int) (wi sh : Bool) (ds sr dp re im : Int) : eqD (xA k al co si wi sh ds sr dp re im) (xA k al co si wi sh ds sr dp re im) = true := by
  simp [eqD, eqW, xA]
theorem shf (wi : Bool) (im : Int) : shiftS (sWi 11 wi) (sIm 11 wi im) = true := by
  cases wi with
  | true =>
    have h := and_in im 63 63 rfl (by decide)
    show shiftS true (andK .i64 im 63) = true
    unfold shiftS
    rw [decide_eq_true (show andK .i64 im 63 ≥ 0 from h.1), decide_eq_true (show andK .i64 im 63 < 64 by omega)]
    simp
  | false =>
    have h := and_in im 31 31 rfl (by decide)
    show shiftS false (andK .i64 im 31) = true
    unfold shiftS
    rw [decide_eq_true (show andK .i64 im 31 ≥ 0 from h.1), decide_eq_true (show andK .i64 im 31 < 32 by omega)]
    rfl
/-- What the law puts an instruction to may be. -/
theorem set_ok (k al : Int) (wi : Bool) (ds sr im : Int) (h : okK k = true) : vP k (sAl k al) 0 0 (sWi k wi) false (sDs k ds) (sSr k sr) 0 0 (sIm k wi im) = true := by
  have hd := regS_of (sDs_in k ds)
  have hs := regS_of (sSr_in k sr)
  rcases okK_cases h with rfl | rfl | rfl | rfl | rfl | rfl | rfl | rfl | rfl | rfl | rfl | rfl | rfl
  · show vP1 (sAl 1 al) 0 0 (sWi 1 wi) false (sDs 1 ds) (sSr 1 sr) 0 0 (sIm 1 wi im) = true
    unfold vP1
    rw [Bool.and_eq_true, Bool.and_eq_true, Bool.and_eq_true, Bool.and_eq_true]
    exact ⟨eqX _ _ _ _ _ _ _ _ _ _ _, ⟨hd, hs⟩, ⟨rfl, rfl⟩⟩
  · show vP2 (sAl 2 al) 0 0 (sWi 2 wi) false (sDs 2 ds) (sSr 2 sr) 0 0 (sIm 2 wi im) = true
    unfold vP2
    rw [Bool.and_eq_true, Bool.and_eq_true, Bool.and_eq_true, Bool.and_eq_true]
    exact ⟨eqX _ _ _ _ _ _ _ _ _ _ _, ⟨hd, hs⟩, ⟨rfl, word_of im⟩⟩
  · show vP3 (sAl 3 al) 0 0 (sWi 3 wi) false (sDs 3 ds) (sSr 3 sr) 0 0 (sIm 3 wi im) = true
    unfold vP3
    rw [Bool.and_eq_true, Bool.and_eq_true, Bool.and_eq_true, Bool.and_eq_true]
    exact ⟨eqX _ _ _ _ _ _ _ _ _ _ _, ⟨hd, hs⟩, ⟨rfl, rfl⟩⟩
  · show vP4 (sAl 4 al) 0 0 (sWi 4 wi) false (sDs 4 ds) (sSr 4 sr) 0 0 (sIm 4 wi im) = true
    unfold vP4
    rw [Bool.and_eq_true, Bool.and_eq_true, Bool.and_eq_true, Bool.and_eq_true]
    exact ⟨eqX _ _ _ _ _ _ _ _ _ _ _, ⟨hd, hs⟩, ⟨al6 al, rfl⟩⟩
  · show vP5 (sAl 5 al) 0 0 (sWi 5 wi) false (sDs 5 ds) (sSr 5 sr) 0 0 (sIm 5 wi im) = true
    unfold vP5
    rw [Bool.and_eq_true, Bool.and_eq_true, Bool.and_eq_true, Bool.and_eq_true]
    exact ⟨eqX _ _ _ _ _ _ _ _ _ _ _, ⟨hd, hs⟩, ⟨al6 al, word_of im⟩⟩
  · show vP6 (sAl 6 al) 0 0 (sWi 6 wi) false (sDs 6 ds) (sSr 6 sr) 0 0 (sIm 6 wi im) = true
    unfold vP6
    rw [Bool.and_eq_true, Bool.and_eq_true, Bool.and_eq_true, Bool.and_eq_true]
    exact ⟨eqX _ _ _ _ _ _ _ _ _ _ _, ⟨hd, hs⟩, ⟨rfl, rfl⟩⟩
  · show vP7 (sAl 7 al) 0 0 (sWi 7 wi) false (sDs 7 ds) (sSr 7 sr) 0 0 (sIm 7 wi im) = true
    unfold vP7
    rw [Bool.and_eq_true, Bool.and_eq_true, Bool.and_eq_true, Bool.and_eq_true]
    exact ⟨eqX _ _ _ _ _ _ _ _ _ _ _, ⟨hd, hs⟩, ⟨rfl, rfl⟩⟩
  · show vP8 (sAl 8 al) 0 0 (sWi 8 wi) false (sDs 8 ds) (sSr 8 sr) 0 0 (sIm 8 wi im) = true
    unfold vP8
    rw [Bool.and_eq_true, Bool.and_eq_true, Bool.and_eq_true, Bool.and_eq_true]
    exact ⟨eqX _ _ _ _ _ _ _ _ _ _ _, ⟨hd, hs⟩, ⟨rfl, rfl⟩⟩
  · show vP9 (sAl 9 al) 0 0 (sWi 9 wi) false (sDs 9 ds) (sSr 9 sr) 0 0 (sIm 9 wi im) = true
    unfold vP9
    rw [Bool.and_eq_true, Bool.and_eq_true, Bool.and_eq_true, Bool.and_eq_true]
    exact ⟨eqX _ _ _ _ _ _ _ _ _ _ _, ⟨hd, hs⟩, ⟨rfl, rfl⟩⟩
  · show vP10 (sAl 10 al) 0 0 (sWi 10 wi) false (sDs 10 ds) (sSr 10 sr) 0 0 (sIm 10 wi im) = true
    unfold vP10
    rw [Bool.and_eq_true, Bool.and_eq_true, Bool.and_eq_true, Bool.and_eq_true]
    exact ⟨eqX _ _ _ _ _ _ _ _ _ _ _, ⟨hd, hs⟩, ⟨rfl, rfl⟩⟩
  · show vP11 (sAl 11 al) 0 0 (sWi 11 wi) false (sDs 11 ds) (sSr 11 sr) 0 0 (sIm 11 wi im) = true
    unfold vP11
    rw [Bool.and_eq_true, Bool.and_eq_true, Bool.and_eq_true, Bool.and_eq_true]
    exact ⟨eqX _ _ _ _ _ _ _ _ _ _ _, ⟨hd, hs⟩, ⟨al3 al, shf wi im⟩⟩
  · show vP12 (sAl 12 al) 0 0 (sWi 12 wi) false (sDs 12 ds) (sSr 12 sr) 0 0 (sIm 12 wi im) = true
    unfold vP12
    rw [Bool.and_eq_true, Bool.and_eq_true, Bool.and_eq_true, Bool.and_eq_true]
    exact ⟨eqX _ _ _ _ _ _ _ _ _ _ _, ⟨hd, hs⟩, ⟨al3 al, rfl⟩⟩
  · show vP21 (sAl 21 al) 0 0 (sWi 21 wi) false (sDs 21 ds) (sSr 21 sr) 0 0 (sIm 21 wi im) = true
    unfold vP21
    rw [Bool.and_eq_true, Bool.and_eq_true, Bool.and_eq_true, Bool.and_eq_true]
    exact ⟨eqX _ _ _ _ _ _ _ _ _ _ _, ⟨hd, hs⟩, ⟨rfl, rfl⟩⟩
theorem r_same {y : In} {i : Nat} {ri : Int} {pr : Bool} {d : Int} (hp : (y.k == 8 || y.k == 9) = pr) (hd : y.ds = d) (h : ((Nat.beq i d.toNat && !pr) || (pr && (Nat.beq i 0 || Nat.beq i 2))) = false) : y.r i ri = ri := by
  subst hd
  unfold In.r
  cases h8 : y.k == 8 with
  | true =>
    rw [h8] at hp
    subst hp
    simp only [Bool.true_or, Bool.not_true, Bool.and_false, Bool.true_and, Bool.false_or, Bool.or_eq_false_iff] at h
    simp only [h.1, h.2, cond_true, cond_false]
  | false =>
    cases h9 : y.k == 9 with
    | true =>
      rw [h8, h9] at hp
      subst hp
      simp only [Bool.false_or, Bool.not_true, Bool.and_false, Bool.true_and, Bool.or_eq_false_iff] at h
      simp only [h.1, h.2, cond_true, cond_false]
    | false =>
      rw [h8, h9] at hp
      subst hp
      simp only [Bool.or_false, Bool.not_false, Bool.and_true, Bool.false_and] at h
      have e : Nat.beq y.ds.toNat i = false := by
        cases hh : Nat.beq y.ds.toNat i with
        | false => rfl
        | true =>
          have := Nat.eq_of_beq_eq_true hh
          rw [this, Nat.beq_refl] at h
          cases h
      simp only [e, Bool.and_false, cond_false]
theorem r_all {y : In} (h8 : (y.k == 8) = false) (h9 : (y.k == 9) = false) (hw : y.wr = false) (i : Nat) (ri : Int) : y.r i ri = ri := by
  unfold In.r
  simp only [h8, h9, hw, cond_false, Bool.false_and]
theorem ok_cons {c : Cl} {d : Int} {y : In} {i : Nat} {ri : Int} (hd : y.ds = d) (hp : (y.k == 8 || y.k == 9) = c.pair) : ∀ p ∈ rdC c d y i ri, p.1 = p.2 := by
  refine cons_ok hd ?_
  cases hn : ((Nat.beq i d.toNat && !c.pair) || (c.pair && (Nat.beq i 0 || Nat.beq i 2))) with
  | true => exact cs_nil
  | false =>
    refine consB (y := false) ?_ cs_nil
    rw [r_same hp hd hn]
    simp
theorem eqD_64 : ∀ l : List Int, eqD (l.map fun n => Value.int .u64 n) (l.map fun n => Value.int .u64 n) = true
  | [] => rfl
  | n :: l => by simp [eqD, eqW, eqD_64 l]
theorem laC_ok {cl : Cl} {d k : Int} {y : In} {r0 r1 r2 r3 r4 r5 r6 r7 r8 r9 r10 r11 r12 r13 r14 r15 : Int} {z s c o : Bool} {pc : Int} (hk : okK k = true) (hy : y.ok = true) (hd : y.ds = d)
    (h8 : (y.k == 8) = cl.p8) (h9 : (y.k == 9) = cl.p9) (h4 : (y.k == 4) = cl.f4) (h5 : (y.k == 5) = cl.f5) (h6 : (y.k == 6) = cl.f6) (h7 : (y.k == 7) = cl.f7)
    (hb1 : (y.z z == z) = cl.b1) (hb2 : cl.b1 = true → (y.s s == s) = cl.b2) (hb3 : cl.b1 = true → cl.b2 = true → (y.c c == c) = cl.b3) (hb4 : cl.b1 = true → cl.b2 = true → cl.b3 = true → (y.o o == o) = cl.b4)
    (h21 : (y.k == 21) = cl.g21) (ha7 : cl.f6 = false → cl.g21 = false → (y.al == 7) = cl.g7) (hW : y.wi = cl.W)
    (hcmp : cl.cmp = true → y.wr = false ∧ cl.pair = false)
    (hlow : cl.W = false → cl.cmp = false → cl.pair = false → y.r d.toNat ((rsL r0 r1 r2 r3 r4 r5 r6 r7 r8 r9 r10 r11 r12 r13 r14 r15).getD d.toNat 0) < 4294967296)
    (hpl : cl.W = false → cl.pair = true → y.r 0 r0 < 4294967296 ∧ y.r 2 r2 < 4294967296) : ∀ p ∈ laC cl d k y r0 r1 r2 r3 r4 r5 r6 r7 r8 r9 r10 r11 r12 r13 r14 r15 z s c o pc, p.1 = p.2 := by
  have hp : (y.k == 8 || y.k == 9) = cl.pair := by rw [h8, h9]; rfl
  have hr : ∀ (i : Nat) (ri : Int), ∀ p ∈ rdC cl d y i ri, p.1 = p.2 := fun i ri => ok_cons hd hp
  refine allC (allC (consB (y := true) hk (cons_ok rfl (cons_ok rfl (cons_ok rfl (cons_ok rfl (cons_ok rfl (consB (y := true) hy (consB h8 cs_nil)))))))) (when_ok fun _ => consB h9 cs_nil)) (allC ?_ (allC ?_ (allC ?_ (allC ?_ (allC ?_ ?_)))))
  · exact allC (hr 0 r0) (allC (hr 1 r1) (allC (hr 2 r2) (allC (hr 3 r3) (allC (hr 4 r4) (allC (hr 5 r5) (allC (hr 6 r6) (allC (hr 7 r7) (allC (hr 8 r8) (allC (hr 9 r9) (allC (hr 10 r10) (allC (hr 11 r11) (allC (hr 12 r12) (allC (hr 13 r13) (allC (hr 14 r14) (hr 15 r15)))))))))))))))
  · exact consB h4 (when_ok fun _ => consB h5 (when_ok fun _ => consB h6 (when_ok fun _ => consB h7 cs_nil)))
  · exact consB hb1 (when_ok fun e1 => consB (hb2 e1) (when_ok fun e2 => consB (hb3 e1 e2) (when_ok fun e3 => consB (hb4 e1 e2 e3) cs_nil)))
  · refine consB h6 (when_ok fun e6 => consB h21 (when_ok fun e21 => consB (ha7 (by simpa using e6) (by simpa using e21)) (when_ok fun _ => consB h4 (when_ok fun _ => consB h5 cs_nil))))
  · refine consB (y := false) (by simp) (when_ok fun e => consB (y := false) ?_ cs_nil)
    obtain ⟨hw, hpr⟩ := hcmp e
    rw [hpr, Bool.or_eq_false_iff] at hp
    have ra := fun i ri => r_all hp.1 hp.2 hw i ri
    simp only [ra]
    rw [show eqD [.int .u64 r0, .int .u64 r1, .int .u64 r2, .int .u64 r3, .int .u64 r4, .int .u64 r5, .int .u64 r6, .int .u64 r7, .int .u64 r8, .int .u64 r9, .int .u64 r10, .int .u64 r11, .int .u64 r12, .int .u64 r13, .int .u64 r14, .int .u64 r15] [.int .u64 r0, .int .u64 r1, .int .u64 r2, .int .u64 r3, .int .u64 r4, .int .u64 r5, .int .u64 r6, .int .u64 r7, .int .u64 r8, .int .u64 r9, .int .u64 r10, .int .u64 r11, .int .u64 r12, .int .u64 r13, .int .u64 r14, .int .u64 r15] = true from eqD_64 (rsL r0 r1 r2 r3 r4 r5 r6 r7 r8 r9 r10 r11 r12 r13 r14 r15)]
    rfl
  · refine consB hW (allC (when_ok fun e => ?_) (when_ok fun e => consB hW (when_ok fun eW => ?_)))
    · simp only [Bool.and_eq_true, Bool.not_eq_true'] at e
      exact cons_ok hd (consB (y := true) (decide_eq_true (hlow e.1 e.2.1 e.2.2)) cs_nil)
    · obtain ⟨p1, p2⟩ := hpl (by simpa using eW) e
      exact consB (y := true) (decide_eq_true p1) (consB (y := true) (decide_eq_true p2) cs_nil)
theorem low32 (v : Int) : lowS false v < 4294967296 := by
  show IntKind.u64.wrap (IntKind.u32.wrap v) < 4294967296
  simp [IntKind.wrap, IntKind.signed, IntKind.bits]
  omega
theorem shr_lt {x : Int} (h1 : 0 ≤ x) (h2 : x < 18446744073709551616) : shr32 x < 4294967296 := by
  have e : shr32 x = x / 4294967296 := fd x 32 (by decide)
  rw [e]
  omega
theorem or_low {h l : Int} (h1 : 0 ≤ h) (h2 : h < 4294967296) (h3 : 0 ≤ l) (h4 : l < 4294967296) : orK .u64 (Wr (h * 2 ^ min (Int.toNat 32) 64)) l = h * 4294967296 + l := by
  obtain ⟨a, rfl⟩ := Int.eq_ofNat_of_zero_le h1
  obtain ⟨b, rfl⟩ := Int.eq_ofNat_of_zero_le h3
  have e : (a : Int) * 2 ^ min (Int.toNat 32) 64 = ((a * 4294967296 : Nat) : Int) := by simp
  rw [e, wr_id (by omega) (by omega)]
  unfold orK
  show IntKind.u64.wrap (((BitVec.ofInt 64 ((a * 4294967296 : Nat) : Int) ||| BitVec.ofInt 64 (b : Int)).toNat : Nat) : Int) = _
  have e2 : (BitVec.ofInt 64 ((a * 4294967296 : Nat) : Int) ||| BitVec.ofInt 64 (b : Int)).toNat = a * 4294967296 + b := by
    rw [BitVec.toNat_or, BitVec.toNat_ofInt, BitVec.toNat_ofInt]
    have x1 : (((a * 4294967296 : Nat) : Int) % ((2 ^ 64 : Nat) : Int)).toNat = a <<< 32 := by
      rw [Nat.shiftLeft_eq]
      omega
    have x2 : ((b : Int) % ((2 ^ 64 : Nat) : Int)).toNat = b := by omega
    rw [x1, x2, ← Nat.shiftLeft_add_eq_or_of_lt (by omega), Nat.shiftLeft_eq]
  rw [e2]
  have := wr_id (x := ((a * 4294967296 + b : Nat) : Int)) (by omega) (by omega)
  show Wr _ = _
  rw [this]
  omega
theorem div_low {x : In} (hw : x.wi = false) (hd : x.dv = false) : x.dq < 4294967296 ∧ x.dr < 4294967296 := by
  have l : ∀ v : Int, 0 ≤ lowS false v := fun v => (wr_in _).1
  have h0 : 0 ≤ x.dh ∧ x.dh < 4294967296 := by unfold In.dh; rw [hw]; exact ⟨l _, low32 _⟩
  have h1 : 0 ≤ x.dl ∧ x.dl < 4294967296 := by unfold In.dl; rw [hw]; exact ⟨l _, low32 _⟩
  have h2 : 0 ≤ x.dy ∧ x.dy < 4294967296 := by unfold In.dy; rw [hw]; exact ⟨l _, low32 _⟩
  have h3 : ¬ x.dy ≤ x.dh := of_decide_eq_false hd
  have e : x.da = x.dh * 4294967296 + x.dl := or_low h0.1 h0.2 h1.1 h1.2
  have a0 : 0 ≤ x.da := by omega
  have q1 : x.da / x.dy < 4294967296 := by
    refine Int.ediv_lt_of_lt_mul (by omega) ?_
    have : x.dh * 4294967296 + 4294967296 ≤ x.dy * 4294967296 := by omega
    rw [Int.mul_comm] at *
    omega
  have q0 : 0 ≤ x.da / x.dy := Int.ediv_nonneg a0 h2.1
  have r1 := Int.emod_lt_of_pos x.da (show 0 < x.dy by omega)
  unfold In.dq In.dr
  rw [hw]
  show Wr (x.da.tdiv x.dy) < 4294967296 ∧ x.da.tmod x.dy < 4294967296
  rw [Int.tdiv_eq_ediv_of_nonneg a0, Int.tmod_eq_emod_of_nonneg a0, wr_id q0 (by omega)]
  omega
theorem mul_low {x : In} (hw : x.wi = false) : x.ml < 4294967296 ∧ x.mh < 4294967296 := by
  have m := wr_in (lowS false (x.rs.getD 0 0) * lowS false x.a)
  unfold In.ml In.mh
  rw [hw]
  exact ⟨low32 _, shr_lt m.1 m.2⟩
theorem pair_low {y : In} {a b : Int} (hp : (y.k == 8 || y.k == 9) = true) (hw : y.wi = false) (hd : (y.k == 9 && y.dv) = false) : y.r 0 a < 4294967296 ∧ y.r 2 b < 4294967296 := by
  unfold In.r
  cases h8 : y.k == 8 with
  | true => exact mul_low hw
  | false =>
    rw [h8, Bool.false_or] at hp
    rw [hp, Bool.true_and] at hd
    rw [hp]
    exact div_low hw hd
theorem one_low {y : In} {i : Nat} {a : Int} (h8 : (y.k == 8) = false) (h9 : (y.k == 9) = false) (hwr : y.wr = true) (hw : y.wi = false) (hi : y.ds.toNat = i) : y.r i a < 4294967296 := by
  subst hi
  unfold In.r
  simp only [h8, h9, hwr, cond_false, Bool.true_and, Nat.beq_refl, cond_true]
  unfold In.v
  rw [hw]
  exact low32 _
end Go.Proofs.YtbaiokfjoglmiaaDoor.Ex
