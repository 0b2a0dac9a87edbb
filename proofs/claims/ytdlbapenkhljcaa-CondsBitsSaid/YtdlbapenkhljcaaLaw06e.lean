/-
  The walk of the law CondsBits.
-/
import Derived.Test.YtdlbapenkhljcaaLaw06b
namespace Go.Proofs.Ytdlbapenkhljcaa
open Go.RowKit

/-- Is a bit below k set in both? -/
def anyB (a b : BitVec 64) : Nat → Bool
  | 0 => false
  | k + 1 => anyB a b k || (a.getLsbD k && b.getLsbD k)
/-- The same, of the lowest 32. -/
def lowB (a b : BitVec 64) : Nat → Bool
  | 0 => false
  | k + 1 => lowB a b k || (a.getLsbD k && b.getLsbD k && decide (k < 32))
theorem anyB_true (a b : BitVec 64) (k : Nat) : anyB a b k = true ↔ ∃ j, j < k ∧ a.getLsbD j = true ∧ b.getLsbD j = true := by
  induction k with
  | zero => simp [anyB]
  | succ k ih =>
    unfold anyB
    rw [Bool.or_eq_true, ih, Bool.and_eq_true]
    constructor
    · rintro (⟨j, h1, h2⟩ | h)
      · exact ⟨j, by omega, h2⟩
      · exact ⟨k, by omega, h⟩
    · rintro ⟨j, h1, h2⟩
      by_cases h : j = k
      · subst h; exact .inr h2
      · exact .inl ⟨j, by omega, h2⟩
theorem lowB_true (a b : BitVec 64) (k : Nat) : lowB a b k = true ↔ ∃ j, j < k ∧ j < 32 ∧ a.getLsbD j = true ∧ b.getLsbD j = true := by
  induction k with
  | zero => simp [lowB]
  | succ k ih =>
    unfold lowB
    rw [Bool.or_eq_true, ih, Bool.and_eq_true, Bool.and_eq_true, decide_eq_true_iff]
    constructor
    · rintro (⟨j, h1, h2⟩ | ⟨h, h'⟩)
      · exact ⟨j, by omega, h2⟩
      · exact ⟨k, by omega, h', h⟩
    · rintro ⟨j, h1, h0, h2⟩
      by_cases h : j = k
      · subst h; exact .inr ⟨h2, h0⟩
      · exact .inl ⟨j, by omega, h0, h2⟩
theorem tO_bit (wide : Bool) (a b : BitVec 64) (n : Nat) (hn : n = if wide then 64 else 32) : tO wide a b = true ↔ ∃ j, j < n ∧ a.getLsbD j = true ∧ b.getLsbD j = true := by
  have hl : ∀ (v : BitVec 64) (j : Nat), (lowS v (bitsI wide)).getLsbD j = (decide (j < n) && v.getLsbD j) := by
    intro v j
    cases wide
    · have e : lowS v (bitsI false) = v &&& 4294967295#64 := rfl
      rw [e, BitVec.getLsbD_and]
      have e2 : (4294967295#64 : BitVec 64) = (4294967295#32).setWidth 64 := by decide
      have e3 : (4294967295#32 : BitVec 32) = BitVec.allOnes 32 := by decide
      rw [e2, e3, BitVec.getLsbD_setWidth, BitVec.getLsbD_allOnes, hn]
      by_cases h : j < 64
      · simp [h, Bool.and_comm]
      · rw [BitVec.getLsbD_of_ge v j (by omega)]; simp
    · have e : lowS v (bitsI true) = v := rfl
      rw [e, hn]
      by_cases h : j < 64
      · simp [h]
      · rw [BitVec.getLsbD_of_ge v j (by omega)]; simp
  unfold tO
  rw [Bool.not_eq_true', beq_eq_false_iff_ne]
  constructor
  · intro h
    by_cases hx : ∃ j, j < n ∧ a.getLsbD j = true ∧ b.getLsbD j = true
    · exact hx
    · exfalso; apply h
      apply BitVec.eq_of_getLsbD_eq
      intro i _
      rw [BitVec.getLsbD_and, hl, hl, BitVec.getLsbD_zero]
      by_cases h1 : i < n
      · cases h2 : a.getLsbD i
        · simp
        · cases h3 : b.getLsbD i
          · simp
          · exact (hx ⟨i, h1, h2, h3⟩).elim
      · simp [h1]
  · rintro ⟨j, h1, h2, h3⟩ he
    have := congrArg (fun v : BitVec 64 => v.getLsbD j) he
    rw [BitVec.getLsbD_and, hl, hl, h2, h3] at this
    simp [h1] at this
theorem set_any (a b : BitVec 64) : condS 64 true a b = anyB a b 64 := by
  show tO true a b = _
  rw [Bool.eq_iff_iff, tO_bit true a b 64 rfl, anyB_true]
theorem set_low (a b : BitVec 64) : condS 64 false a b = lowB a b 64 := by
  show tO false a b = _
  rw [Bool.eq_iff_iff, tO_bit false a b 32 rfl, lowB_true]
  constructor
  · rintro ⟨j, h, h'⟩; exact ⟨j, by omega, h, h'⟩
  · rintro ⟨j, _, h, h'⟩; exact ⟨j, h, h'⟩
theorem one_bit (m j : Nat) (hm : m < 64) : (1#64 <<< m).getLsbD j = decide (j = m) := by
  rw [BitVec.getLsbD_shiftLeft]
  by_cases h : j = m
  · subst h; simp; omega
  · by_cases h2 : j < m
    · simp [h, h2]
    · have h3 : j - m ≠ 0 := by omega
      simp [h, h2, BitVec.getLsbD_one, h3]
theorem set_one_t (a : BitVec 64) (m : Nat) (hm : m < 64) : condS 64 true a (1#64 <<< m) = a.getLsbD m := by
  show tO true a _ = _
  rw [Bool.eq_iff_iff, tO_bit true a _ 64 rfl]
  constructor
  · rintro ⟨j, h1, h2, h3⟩
    rw [one_bit m j hm, decide_eq_true_iff] at h3
    subst h3; exact h2
  · intro h; exact ⟨m, hm, h, by rw [one_bit m m hm]; simp⟩
theorem set_one_f (a : BitVec 64) (m : Nat) (hm : m < 64) : condS 64 false a (1#64 <<< m) = (a.getLsbD m && decide (m < 32)) := by
  show tO false a _ = _
  rw [Bool.eq_iff_iff, tO_bit false a _ 32 rfl, Bool.and_eq_true, decide_eq_true_iff]
  constructor
  · rintro ⟨j, h1, h2, h3⟩
    rw [one_bit m j hm, decide_eq_true_iff] at h3
    subst h3; exact ⟨h2, h1⟩
  · rintro ⟨h, h'⟩; exact ⟨m, h', h, by rw [one_bit m m hm]; simp⟩
theorem bit_mod (a : BitVec 64) (k : Nat) : (N (a >>> k)).tmod 2 = if a.getLsbD k then 1 else 0 := by
  unfold N
  rw [BitVec.toNat_ushiftRight, Nat.shiftRight_eq_div_pow, BitVec.getLsbD, Nat.testBit_eq_decide_div_mod_eq]
  generalize a.toNat / 2 ^ k = q
  rw [Int.tmod_eq_emod_of_nonneg (by omega)]
  by_cases hh : q % 2 = 1
  · simp only [hh, decide_true, if_true]; omega
  · simp only [hh, decide_false]; simp; omega
theorem div_bit (a : BitVec 64) (m : Nat) (hm : m < 64) : N (a / (1#64 <<< m)) = N (a >>> m) := by
  congr 1
  apply BitVec.eq_of_toNat_eq
  rw [BitVec.toNat_udiv, BitVec.toNat_ushiftRight, BitVec.toNat_shiftLeft, Nat.shiftRight_eq_div_pow, Nat.shiftLeft_eq]
  have : 2 ^ m < 2 ^ 64 := Nat.pow_lt_pow_right (by decide) hm
  simp [Nat.mod_eq_of_lt this]
theorem one_ne (m : Nat) (hm : m < 64) : ¬ N (1#64 <<< m) = 0 := by
  have h1 : 2 ^ m < 2 ^ 64 := Nat.pow_lt_pow_right (by decide) hm
  have h2 : 0 < 2 ^ m := Nat.two_pow_pos m
  unfold N
  intro h
  have h' : (1#64 <<< m).toNat = 0 := by exact_mod_cast h
  rw [BitVec.toNat_shiftLeft, Nat.shiftLeft_eq, show (1#64).toNat = 1 from rfl, Nat.one_mul, Nat.mod_eq_of_lt h1] at h'
  omega

attribute [local go_sem] u64_wrap u8_wrap BitVec.ofInt_add BitVec.ofInt_mul ofInt_sub' ofInt_N ofInt_Nw ofInt_pow ofInt_shl mul_shl1 N_tdiv N_shr u64_and
theorem keepG {W1 wo wn : World} (hg : Gr wo wn) (h : True ∧ Gr W1 wo) : True ∧ Gr W1 wn := ⟨trivial, Grown.trans' h.2 hg⟩

theorem keepGEnd {W1 wo : World} (h : True ∧ Gr W1 wo) : Grown W1 wo := h.2

set_option maxRecDepth 100000 in
set_option maxHeartbeats 2000000 in
theorem condsBits_walk (a b : BitVec 64) (bit : BitVec 8) (w : World) :
    Calls Try.prog 15 #[.int .u64 (N a), .int .u64 (N b), .int .u8 (N bit)] w fun e w' => e = .returned (.bool true) ∧ Grown w w' := by
  obtain ⟨m, hm, hlt⟩ : ∃ m : Nat, (N bit).tmod 64 = (m : Int) ∧ m < 64 := ⟨bit.toNat % 64, by unfold N; rw [Int.tmod_eq_emod_of_nonneg (by omega)]; omega, by omega⟩
  have hne := one_ne m hlt
  have c1 := set_one_t a m hlt
  have c2 := set_one_f a m hlt
  have d1 := div_bit a m hlt
  have d2 := bit_mod a m
  have k0 : True ∧ Gr w w := ⟨trivial, Grown.refl w⟩
  have e32 : decide ((m : Int) < 32) = decide (m < 32) := by rw [decide_eq_decide]; omega
  go_enter Try.func15, Try.ntmps15
  go_wp2_with fail
  generalize a.getLsbD m = bm at *
  generalize decide (m < 32) = sm at *
  have h0 : Gr w w.drew := Grown.refl w
  cases bm
  case' false =>
    refine wp_region_held_drew (S := fun w' => Gr w w') (by kernel_rfl) (by first | assumption | exact h0) (fun hHeld => ?_)
    refine wpAnyH_take (i := 0) (oi := { dst := some 15, op := Op.move (Operand.tmp 0), type := 22, pos := "outright.go:42", after := #[], guard := none }) (v := ?v0) rfl (by kernel_rfl) (by kernel_rfl) (by kernel_rfl) (fun _ _ _ h => h) (Or.inl ⟨by rfl, ?hy0⟩) hHeld ?rest0
    case hy0 => (intro w9 hSw; go_simp; try with_reducible rfl)
    try simp only [Act.put, List.setIfInBounds_toArray, List.set_cons_zero, List.set_cons_succ]
    refine wpAnyH_take (i := 1) (oi := { dst := some 16, op := Op.move (Operand.tmp 7), type := 22, pos := "outright.go:42", after := #[], guard := none }) (v := ?v1) rfl (by kernel_rfl) (by kernel_rfl) (by kernel_rfl) (fun _ _ _ h => h) (Or.inl ⟨by rfl, ?hy1⟩) hHeld ?rest1
    case hy1 => (intro w9 hSw; go_simp; try with_reducible rfl)
    try simp only [Act.put, List.setIfInBounds_toArray, List.set_cons_zero, List.set_cons_succ]
    refine wpAnyH_take (i := 3) (oi := { dst := some 18, op := Op.move (Operand.tmp 0), type := 22, pos := "outright.go:42", after := #[], guard := none }) (v := ?v3) rfl (by kernel_rfl) (by kernel_rfl) (by kernel_rfl) (fun _ _ _ h => h) (Or.inl ⟨by rfl, ?hy3⟩) hHeld ?rest3
    case hy3 => (intro w9 hSw; go_simp; try with_reducible rfl)
    try simp only [Act.put, List.setIfInBounds_toArray, List.set_cons_zero, List.set_cons_succ]
    refine wpAnyH_take (i := 4) (oi := { dst := some 19, op := Op.move (Operand.tmp 7), type := 22, pos := "outright.go:42", after := #[], guard := none }) (v := ?v4) rfl (by kernel_rfl) (by kernel_rfl) (by kernel_rfl) (fun _ _ _ h => h) (Or.inl ⟨by rfl, ?hy4⟩) hHeld ?rest4
    case hy4 => (intro w9 hSw; go_simp; try with_reducible rfl)
    try simp only [Act.put, List.setIfInBounds_toArray, List.set_cons_zero, List.set_cons_succ]
    refine wpAnyH_take (i := 5) (oi := { dst := some 20, op := Op.binOp BinOp.quo 22 (Operand.tmp 18) (Operand.tmp 19) 22, type := 22, pos := "outright.go:42", after := #[{ on := 3, ground := Ground.data }, { on := 4, ground := Ground.data }], guard := none }) (v := ?v5) rfl (by kernel_rfl) (by kernel_rfl) (by kernel_rfl) (fun _ _ _ h => h) (Or.inl ⟨by rfl, ?hy5⟩) hHeld ?rest5
    case hy5 => (intro w9 hSw; go_simp; try with_reducible rfl)
    try simp only [Act.put, List.setIfInBounds_toArray, List.set_cons_zero, List.set_cons_succ]
    refine wpAnyH_take (i := 6) (oi := { dst := some 21, op := Op.binOp BinOp.rem 22 (Operand.tmp 20) (Operand.const (Value.int IntKind.u64 2)) 22, type := 22, pos := "outright.go:42", after := #[{ on := 5, ground := Ground.data }], guard := none }) (v := ?v6) rfl (by kernel_rfl) (by kernel_rfl) (by kernel_rfl) (fun _ _ _ h => h) (Or.inl ⟨by rfl, ?hy6⟩) hHeld ?rest6
    case hy6 => (intro w9 hSw; go_simp; try with_reducible rfl)
    try simp only [Act.put, List.setIfInBounds_toArray, List.set_cons_zero, List.set_cons_succ]
    refine wpAnyH_take (i := 7) (oi := { dst := some 22, op := Op.binOp BinOp.eql 22 (Operand.tmp 21) (Operand.const (Value.int IntKind.u64 1)) 22, type := 4, pos := "outright.go:42", after := #[{ on := 6, ground := Ground.data }], guard := none }) (v := ?v7) rfl (by kernel_rfl) (by kernel_rfl) (by kernel_rfl) (fun _ _ _ h => h) (Or.inl ⟨by rfl, ?hy7⟩) hHeld ?rest7
    case hy7 => (intro w9 hSw; go_simp; try with_reducible rfl)
    try simp only [Act.put, List.setIfInBounds_toArray, List.set_cons_zero, List.set_cons_succ]
    refine wpAnyH_ready (rs := [2]) (by kernel_rfl) (by simp) ?_
    refine AllReadyH.cons (o := { dst := some 17, op := Op.call { callee := Callee.value (Operand.func 28), args := #[Operand.const (Value.int IntKind.u8 64), Operand.const (Value.bool true), Operand.tmp 15, Operand.tmp 16], argTypes := #[5, 4, 22, 22] }, type := 4, pos := "outright.go:42", after := #[{ on := 0, ground := Ground.data }, { on := 1, ground := Ground.data }], guard := none }) rfl (fun K hK => ?_) AllReadyH.nil
    go_simp
    refine (holds_any _ _ _ _ _).mono ?_
    rintro e w1 ⟨rfl, hg⟩
    refine hK.out _ _ (Grown.trans' hHeld hg) (fun hHeld2 => ?_)
    clear hK K hHeld hg
    have hHeld := hHeld2
    clear hHeld2
    try simp only [Act.put, List.setIfInBounds_toArray, List.set_cons_zero, List.set_cons_succ]
    refine wpAnyH_take (i := 8) (oi := { dst := some 23, op := Op.binOp BinOp.neq 4 (Operand.tmp 17) (Operand.tmp 22) 4, type := 4, pos := "outright.go:42", after := #[{ on := 2, ground := Ground.data }, { on := 7, ground := Ground.data }], guard := none }) (v := ?v8) rfl (by kernel_rfl) (by kernel_rfl) (by kernel_rfl) (fun _ _ _ h => h) (Or.inl ⟨by rfl, ?hy8⟩) hHeld ?rest8
    case hy8 => (intro w9 hSw; go_simp; try with_reducible rfl)
    try simp only [Act.put, List.setIfInBounds_toArray, List.set_cons_zero, List.set_cons_succ]
    refine wpAnyH_take (i := 9) (oi := { dst := some 24, op := Op.move (Operand.tmp 23), type := 4, pos := "outright.go:42", after := #[{ on := 8, ground := Ground.data }, { on := 2, ground := Ground.chain }], guard := none }) (v := ?v9) rfl (by kernel_rfl) (by kernel_rfl) (by kernel_rfl) (fun _ _ _ h => h) (Or.inl ⟨by rfl, ?hy9⟩) hHeld ?rest9
    case hy9 => (intro w9 hSw; go_simp; try with_reducible rfl)
    try simp only [Act.put, List.setIfInBounds_toArray, List.set_cons_zero, List.set_cons_succ]
    refine wpAnyH_take (i := 10) (oi := { dst := some 25, op := Op.move (Operand.tmp 0), type := 22, pos := "outright.go:42", after := #[{ on := 9, ground := Ground.guard }], guard := some (9, false) }) (v := ?v10) rfl (by kernel_rfl) (by kernel_rfl) (by kernel_rfl) (fun _ _ _ h => h) (Or.inl ⟨by rfl, ?hy10⟩) hHeld ?rest10
    case hy10 => (intro w9 hSw; go_simp; try with_reducible rfl)
    try simp only [Act.put, List.setIfInBounds_toArray, List.set_cons_zero, List.set_cons_succ]
    refine wpAnyH_take (i := 11) (oi := { dst := some 26, op := Op.move (Operand.tmp 7), type := 22, pos := "outright.go:42", after := #[{ on := 9, ground := Ground.guard }], guard := some (9, false) }) (v := ?v11) rfl (by kernel_rfl) (by kernel_rfl) (by kernel_rfl) (fun _ _ _ h => h) (Or.inl ⟨by rfl, ?hy11⟩) hHeld ?rest11
    case hy11 => (intro w9 hSw; go_simp; try with_reducible rfl)
    try simp only [Act.put, List.setIfInBounds_toArray, List.set_cons_zero, List.set_cons_succ]
    refine wpAnyH_take (i := 13) (oi := { dst := some 28, op := Op.move (Operand.tmp 0), type := 22, pos := "outright.go:42", after := #[{ on := 9, ground := Ground.guard }], guard := some (9, false) }) (v := ?v13) rfl (by kernel_rfl) (by kernel_rfl) (by kernel_rfl) (fun _ _ _ h => h) (Or.inl ⟨by rfl, ?hy13⟩) hHeld ?rest13
    case hy13 => (intro w9 hSw; go_simp; try with_reducible rfl)
    try simp only [Act.put, List.setIfInBounds_toArray, List.set_cons_zero, List.set_cons_succ]
    refine wpAnyH_take (i := 14) (oi := { dst := some 29, op := Op.move (Operand.tmp 7), type := 22, pos := "outright.go:42", after := #[{ on := 9, ground := Ground.guard }], guard := some (9, false) }) (v := ?v14) rfl (by kernel_rfl) (by kernel_rfl) (by kernel_rfl) (fun _ _ _ h => h) (Or.inl ⟨by rfl, ?hy14⟩) hHeld ?rest14
    case hy14 => (intro w9 hSw; go_simp; try with_reducible rfl)
    try simp only [Act.put, List.setIfInBounds_toArray, List.set_cons_zero, List.set_cons_succ]
    refine wpAnyH_take (i := 15) (oi := { dst := some 30, op := Op.binOp BinOp.quo 22 (Operand.tmp 28) (Operand.tmp 29) 22, type := 22, pos := "outright.go:42", after := #[{ on := 13, ground := Ground.data }, { on := 14, ground := Ground.data }, { on := 9, ground := Ground.guard }], guard := some (9, false) }) (v := ?v15) rfl (by kernel_rfl) (by kernel_rfl) (by kernel_rfl) (fun _ _ _ h => h) (Or.inl ⟨by rfl, ?hy15⟩) hHeld ?rest15
    case hy15 => (intro w9 hSw; go_simp; try with_reducible rfl)
    try simp only [Act.put, List.setIfInBounds_toArray, List.set_cons_zero, List.set_cons_succ]
    refine wpAnyH_take (i := 16) (oi := { dst := some 31, op := Op.binOp BinOp.rem 22 (Operand.tmp 30) (Operand.const (Value.int IntKind.u64 2)) 22, type := 22, pos := "outright.go:42", after := #[{ on := 15, ground := Ground.data }, { on := 9, ground := Ground.guard }], guard := some (9, false) }) (v := ?v16) rfl (by kernel_rfl) (by kernel_rfl) (by kernel_rfl) (fun _ _ _ h => h) (Or.inl ⟨by rfl, ?hy16⟩) hHeld ?rest16
    case hy16 => (intro w9 hSw; go_simp; try with_reducible rfl)
    try simp only [Act.put, List.setIfInBounds_toArray, List.set_cons_zero, List.set_cons_succ]
    refine wpAnyH_take (i := 17) (oi := { dst := some 32, op := Op.binOp BinOp.eql 22 (Operand.tmp 31) (Operand.const (Value.int IntKind.u64 1)) 22, type := 4, pos := "outright.go:42", after := #[{ on := 16, ground := Ground.data }, { on := 9, ground := Ground.guard }], guard := some (9, false) }) (v := ?v17) rfl (by kernel_rfl) (by kernel_rfl) (by kernel_rfl) (fun _ _ _ h => h) (Or.inl ⟨by rfl, ?hy17⟩) hHeld ?rest17
    case hy17 => (intro w9 hSw; go_simp; try with_reducible rfl)
    try simp only [Act.put, List.setIfInBounds_toArray, List.set_cons_zero, List.set_cons_succ]
    refine wpAnyH_ready (rs := [12]) (by kernel_rfl) (by simp) ?_
    refine AllReadyH.cons (o := { dst := some 27, op := Op.call { callee := Callee.value (Operand.func 28), args := #[Operand.const (Value.int IntKind.u8 64), Operand.const (Value.bool false), Operand.tmp 25, Operand.tmp 26], argTypes := #[5, 4, 22, 22] }, type := 4, pos := "outright.go:42", after := #[{ on := 10, ground := Ground.data }, { on := 11, ground := Ground.data }, { on := 9, ground := Ground.chain }, { on := 9, ground := Ground.guard }], guard := some (9, false) }) rfl (fun K hK => ?_) AllReadyH.nil
    go_simp
    refine (holds_any _ _ _ _ _).mono ?_
    rintro e w1 ⟨rfl, hg⟩
    refine hK.out _ _ (Grown.trans' hHeld hg) (fun hHeld2 => ?_)
    clear hK K hHeld hg
    have hHeld := hHeld2
    clear hHeld2
    try simp only [Act.put, List.setIfInBounds_toArray, List.set_cons_zero, List.set_cons_succ]
    refine wpAnyH_take (i := 18) (oi := { dst := some 33, op := Op.move (Operand.tmp 32), type := 4, pos := "outright.go:42", after := #[{ on := 17, ground := Ground.data }, { on := 12, ground := Ground.chain }, { on := 9, ground := Ground.guard }], guard := some (9, false) }) (v := ?v18) rfl (by kernel_rfl) (by kernel_rfl) (by kernel_rfl) (fun _ _ _ h => h) (Or.inl ⟨by rfl, ?hy18⟩) hHeld ?rest18
    case hy18 => (intro w9 hSw; go_simp; try with_reducible rfl)
    try simp only [Act.put, List.setIfInBounds_toArray, List.set_cons_zero, List.set_cons_succ]
    refine wpAnyH_take (i := 19) (oi := { dst := some 34, op := Op.move (Operand.tmp 2), type := 5, pos := "outright.go:42", after := #[{ on := 18, ground := Ground.guard }], guard := some (18, true) }) (v := undef) rfl (by kernel_rfl) (by kernel_rfl) (by kernel_rfl) (fun _ _ _ h => h) (Or.inr ⟨by rfl, rfl⟩) hHeld ?_
    try simp only [Act.put, List.setIfInBounds_toArray, List.set_cons_zero, List.set_cons_succ]
    refine wpAnyH_take (i := 20) (oi := { dst := some 35, op := Op.binOp BinOp.rem 5 (Operand.tmp 34) (Operand.const (Value.int IntKind.u8 64)) 5, type := 5, pos := "outright.go:42", after := #[{ on := 19, ground := Ground.data }, { on := 18, ground := Ground.guard }], guard := some (18, true) }) (v := undef) rfl (by kernel_rfl) (by kernel_rfl) (by kernel_rfl) (fun _ _ _ h => h) (Or.inr ⟨by rfl, rfl⟩) hHeld ?_
    try simp only [Act.put, List.setIfInBounds_toArray, List.set_cons_zero, List.set_cons_succ]
    refine wpAnyH_take (i := 21) (oi := { dst := some 36, op := Op.binOp BinOp.lss 5 (Operand.tmp 35) (Operand.const (Value.int IntKind.u8 32)) 5, type := 4, pos := "outright.go:42", after := #[{ on := 20, ground := Ground.data }, { on := 18, ground := Ground.guard }], guard := some (18, true) }) (v := undef) rfl (by kernel_rfl) (by kernel_rfl) (by kernel_rfl) (fun _ _ _ h => h) (Or.inr ⟨by rfl, rfl⟩) hHeld ?_
    try simp only [Act.put, List.setIfInBounds_toArray, List.set_cons_zero, List.set_cons_succ]
    refine wpAnyH_take (i := 22) (oi := { dst := some 37, op := Op.pick (Operand.tmp 33) (Operand.tmp 36) (Operand.const (Value.bool false)), type := 4, pos := "outright.go:42", after := #[{ on := 18, ground := Ground.data }, { on := 21, ground := Ground.data }, { on := 9, ground := Ground.guard }], guard := some (9, false) }) (v := ?v22) rfl (by kernel_rfl) (by kernel_rfl) (by kernel_rfl) (fun _ _ _ h => h) (Or.inl ⟨by rfl, ?hy22⟩) hHeld ?rest22
    case hy22 => (intro w9 hSw; go_simp; try with_reducible rfl)
    try simp only [Act.put, List.setIfInBounds_toArray, List.set_cons_zero, List.set_cons_succ]
    refine wpAnyH_take (i := 23) (oi := { dst := some 38, op := Op.binOp BinOp.neq 4 (Operand.tmp 27) (Operand.tmp 37) 4, type := 4, pos := "outright.go:42", after := #[{ on := 12, ground := Ground.data }, { on := 22, ground := Ground.data }, { on := 9, ground := Ground.guard }], guard := some (9, false) }) (v := ?v23) rfl (by kernel_rfl) (by kernel_rfl) (by kernel_rfl) (fun _ _ _ h => h) (Or.inl ⟨by rfl, ?hy23⟩) hHeld ?rest23
    case hy23 => (intro w9 hSw; go_simp; try with_reducible rfl)
    try simp only [Act.put, List.setIfInBounds_toArray, List.set_cons_zero, List.set_cons_succ]
    refine wpAnyH_take (i := 24) (oi := { dst := some 39, op := Op.pick (Operand.tmp 24) (Operand.const (Value.bool true)) (Operand.tmp 38), type := 4, pos := "outright.go:42", after := #[{ on := 9, ground := Ground.data }, { on := 23, ground := Ground.data }], guard := none }) (v := ?v24) rfl (by kernel_rfl) (by kernel_rfl) (by kernel_rfl) (fun _ _ _ h => h) (Or.inl ⟨by rfl, ?hy24⟩) hHeld ?rest24
    case hy24 => (intro w9 hSw; go_simp; try with_reducible rfl)
    try simp only [Act.put, List.setIfInBounds_toArray, List.set_cons_zero, List.set_cons_succ]
    refine wpAnyH_done (by kernel_rfl) ?_ _
    have hEnd : True ∧ Gr w _ := ⟨trivial, hHeld⟩
  case' true =>
    first | (go_region_held3 (fun w' => True ∧ Gr w w') (first | exact k0 | assumption | exact keepG (by assumption) (by assumption)) (first | (go_at_call 28; refine (holds_any _ _ _ _ _).mono ?_; rintro e w' ⟨rfl, hg⟩; have hG : Gr _ _ := hg; clear hg))) | fail "no"
  all_goals
    go_wp2_with fail
    go_loopw [8, 9, 10] (fun x y i wr => ∃ k : Nat, k ≤ 64 ∧ x = .bool (anyB a b k) ∧ y = .bool (lowB a b k) ∧ i = .int .i64 (k : Int) ∧ Grown w wr) (fun _ _ i _ => (64 - intOf i).toNat)
    case atStart => exact ⟨0, by omega, rfl, rfl, rfl, keepGEnd (by assumption)⟩
    case round =>
      obtain ⟨k, hk, rfl, rfl, rfl, hgr⟩ := hrel
      rcases Nat.lt_or_ge k 64 with hk2 | hk2
      · have h64 : decide ((k : Int) < 64) = true := by rw [decide_eq_true_iff]; omega
        have hA := bit_mod a k
        have hB := bit_mod b k
        have q32 : decide ((k : Int) < 32) = decide (k < 32) := by rw [decide_eq_decide]; omega
        have rA : anyB a b (k + 1) = (anyB a b k || (a.getLsbD k && b.getLsbD k)) := rfl
        have rL : lowB a b (k + 1) = (lowB a b k || (a.getLsbD k && b.getLsbD k && decide (k < 32))) := rfl
        clear c1 c2 d1 d2
        generalize a.getLsbD k = ba at *
        generalize b.getLsbD k = bb at *
        generalize decide (k < 32) = kb at *
        generalize anyB a b k = ca at *
        generalize lowB a b k = cl at *
        cases ba <;> cases bb <;> cases ca <;> cases cl
        all_goals
          go_wp2_with fail
          try cases kb
          all_goals
            go_wp2_with fail
            go_roundw
            case rel => first | (exact ⟨k + 1, by omega, by rw [rA]; rfl, by rw [rL]; rfl, by simp, hgr⟩) | (refine ⟨k + 1, by omega, ?_⟩; simp [rA, rL])
            case measure => simp [intOf]; omega
      · have hk3 : k = 64 := by omega
        subst hk3
        have s1 := set_any a b
        have s2 := set_low a b
        clear c1 c2 d1 d2
        generalize anyB a b 64 = ca at *
        generalize lowB a b 64 = cl at *
        go_wp2_with (first | (go_at_call 28; refine (holds_any _ _ _ _ _).mono ?_; rintro e w' ⟨rfl, hg⟩) | (go_at_call 30; refine (held_any _).mono ?_; rintro e w' ⟨rfl, hg⟩))
        go_ret
        exact ⟨rfl, by repeat (first | assumption | refine Grown.trans' ?_ (by assumption))⟩
end Go.Proofs.Ytdlbapenkhljcaa
