/-
  How many zeros lead a number: reckoned.
-/
import Derived.Test.YtbaiokfjoglmiaaDoorPackC
namespace Go.Proofs.YtbaiokfjoglmiaaDoor.Ex
open Go Go.RowKit
set_option maxHeartbeats 0
set_option maxRecDepth 1000000
set_option linter.unusedVariables false
theorem noGuard (P : Program) : HookOk2 P (guardH noHook) := guard_ok (noHook_ok P)
def lenT : ByteArray := ⟨(([0, 1] : List UInt8) ++ (List.replicate 2 2 ++ (List.replicate 4 3 ++ (List.replicate 8 4 ++ (List.replicate 16 5 ++ (List.replicate 32 6 ++ (List.replicate 64 7 ++ List.replicate 128 8))))))).toArray⟩
def lnOrc (b1 b2 b3 : Bool) : Orc := fun f t _ =>
  if Nat.beq f 110 then (if Nat.beq t 4 then some (.bool b1) else if Nat.beq t 8 then some (.bool b2) else if Nat.beq t 14 then some (.bool b3) else if Nat.beq t 22 then some .nilIface else none)
  else none
def ln1 (b1 : Bool) (x : Int) : Int := bif b1 then x.fdiv (2 ^ min (Int.toNat 32) 64) else x
def ln2 (b1 b2 : Bool) (x : Int) : Int := bif b2 then (ln1 b1 x).fdiv (2 ^ min (Int.toNat 16) 64) else ln1 b1 x
def ln3 (b1 b2 b3 : Bool) (x : Int) : Int := bif b3 then (ln2 b1 b2 x).fdiv (2 ^ min (Int.toNat 8) 64) else ln2 b1 b2 x
def lnN (b1 b2 b3 : Bool) : Int := (bif b1 then 32 else 0) + (bif b2 then 16 else 0) + (bif b3 then 8 else 0)
def lzV (b1 b2 b3 : Bool) (x : Int) : Int := IntKind.i64.wrap (64 - IntKind.i64.wrap (lnN b1 b2 b3 + IntKind.i64.wrap (byteI lenT (IntKind.u8.wrap (ln3 b1 b2 b3 x)))))
def lzC (b1 b2 b3 : Bool) (x : Int) : Cs := [(b2i (decide (x ≥ 4294967296)), b2i b1), (b2i (decide (ln1 b1 x ≥ 65536)), b2i b2), (b2i (decide (ln2 b1 b2 x ≥ 256)), b2i b3), (b2i (decide (0 ≤ IntKind.u8.wrap (ln3 b1 b2 b3 x)) && decide (IntKind.u8.wrap (ln3 b1 b2 b3 x) < (lenT.size : Int))), 1)]
theorem lz_fff (x : Int) : reckonGI Tryd.prog (guardH noHook) (lnOrc false false false) 100000 300 [] 109 [.int .u64 x] = some (.int .i64 (lzV false false false x), inter (lzC false false false x)) := by kernel_rfl
theorem lz_fft (x : Int) : reckonGI Tryd.prog (guardH noHook) (lnOrc false false true) 100000 300 [] 109 [.int .u64 x] = some (.int .i64 (lzV false false true x), inter (lzC false false true x)) := by kernel_rfl
theorem lz_ftf (x : Int) : reckonGI Tryd.prog (guardH noHook) (lnOrc false true false) 100000 300 [] 109 [.int .u64 x] = some (.int .i64 (lzV false true false x), inter (lzC false true false x)) := by kernel_rfl
theorem lz_ftt (x : Int) : reckonGI Tryd.prog (guardH noHook) (lnOrc false true true) 100000 300 [] 109 [.int .u64 x] = some (.int .i64 (lzV false true true x), inter (lzC false true true x)) := by kernel_rfl
theorem lz_tff (x : Int) : reckonGI Tryd.prog (guardH noHook) (lnOrc true false false) 100000 300 [] 109 [.int .u64 x] = some (.int .i64 (lzV true false false x), inter (lzC true false false x)) := by kernel_rfl
theorem lz_tft (x : Int) : reckonGI Tryd.prog (guardH noHook) (lnOrc true false true) 100000 300 [] 109 [.int .u64 x] = some (.int .i64 (lzV true false true x), inter (lzC true false true x)) := by kernel_rfl
theorem lz_ttf (x : Int) : reckonGI Tryd.prog (guardH noHook) (lnOrc true true false) 100000 300 [] 109 [.int .u64 x] = some (.int .i64 (lzV true true false x), inter (lzC true true false x)) := by kernel_rfl
theorem lz_ttt (x : Int) : reckonGI Tryd.prog (guardH noHook) (lnOrc true true true) 100000 300 [] 109 [.int .u64 x] = some (.int .i64 (lzV true true true x), inter (lzC true true true x)) := by kernel_rfl
def lzS (x : Int) : Int := lzV (decide (x ≥ 4294967296)) (decide (ln1 (decide (x ≥ 4294967296)) x ≥ 65536)) (decide (ln2 (decide (x ≥ 4294967296)) (decide (ln1 (decide (x ≥ 4294967296)) x ≥ 65536)) x ≥ 256)) x
theorem lenT_all : (List.range 256).all (fun i => Nat.beq i 0 || (Nat.ble 1 (byteI lenT (i : Int)).toNat && (Nat.ble (byteI lenT (i : Int)).toNat 8 && (Nat.ble (2 ^ ((byteI lenT (i : Int)).toNat - 1)) i && Nat.blt i (2 ^ (byteI lenT (i : Int)).toNat))))) = true := by kernel_rfl
theorem byteI_nn (b : ByteArray) (i : Int) : 0 ≤ byteI b i := by
  unfold byteI
  first | exact Int.natCast_nonneg _ | (split <;> first | exact Int.natCast_nonneg _ | omega) | omega
theorem lenT_at {i : Int} (h1 : 1 ≤ i) (h2 : i < 256) : ∃ t : Nat, byteI lenT i = (t : Int) ∧ 1 ≤ t ∧ t ≤ 8 ∧ (2 : Int) ^ (t - 1) ≤ i ∧ i < (2 : Int) ^ t := by
  obtain ⟨n, rfl⟩ := Int.eq_ofNat_of_zero_le (show 0 ≤ i by omega)
  have h := List.all_eq_true.1 lenT_all n (List.mem_range.2 (by omega))
  simp only [Bool.or_eq_true, Bool.and_eq_true] at h
  obtain ⟨t, ht⟩ := Int.eq_ofNat_of_zero_le (byteI_nn lenT (n : Int))
  rcases h with h | ⟨a, b, c, d⟩
  · have := Nat.eq_of_beq_eq_true h
    omega
  · rw [ht, Int.toNat_natCast] at a b c d
    have a := Nat.le_of_ble_eq_true a
    have b := Nat.le_of_ble_eq_true b
    have c := Nat.le_of_ble_eq_true c
    have d := Nat.le_of_ble_eq_true d
    refine ⟨t, ht, a, b, by exact_mod_cast c, by exact_mod_cast d⟩
theorem fd (x : Int) (k : Nat) (h : k ≤ 64) : x.fdiv (2 ^ min (Int.toNat (k : Int)) 64) = x / 2 ^ k := by
  rw [Int.toNat_natCast, Nat.min_eq_left h, Int.fdiv_eq_ediv_of_nonneg _ (Int.le_of_lt (Int.pow_pos (by decide)))]
theorem wi {x : Int} (h1 : -1000 ≤ x) (h2 : x < 1000) : IntKind.i64.wrap x = x := by
  have e : IntKind.i64.wrap x = if x % 18446744073709551616 ≥ 9223372036854775808 then x % 18446744073709551616 - 18446744073709551616 else x % 18446744073709551616 := by
    simp [IntKind.wrap, IntKind.signed, IntKind.bits]
  rw [e]
  split <;> omega
theorem wu8 (x : Int) : IntKind.u8.wrap x = x % 256 := by simp [IntKind.wrap, IntKind.signed, IntKind.bits]
/-- One leaf: what it comes to, and that the number, moved so far, has its highest bit set. -/
theorem lz_leaf {x n i : Int} (hi1 : 1 ≤ i) (hi2 : i < 256) (hn : n = 0 ∨ n = 8 ∨ n = 16 ∨ n = 24 ∨ n = 32 ∨ n = 40 ∨ n = 48 ∨ n = 56) (h1 : i * 2 ^ n.toNat ≤ x) (h2 : x < (i + 1) * 2 ^ n.toNat) :
    ∃ m : Nat, IntKind.i64.wrap (64 - IntKind.i64.wrap (n + IntKind.i64.wrap (byteI lenT (IntKind.u8.wrap i)))) = (m : Int) ∧ m < 64 ∧ 9223372036854775808 ≤ x * 2 ^ m ∧ x * 2 ^ m < 18446744073709551616 := by
  have e8 : IntKind.u8.wrap i = i := by rw [wu8]; omega
  obtain ⟨t, ht, t1, t8, b1, b2⟩ := lenT_at hi1 hi2
  rw [e8, ht, wi (x := (t : Int)) (by omega) (by omega), wi (x := n + (t : Int)) (by omega) (by omega), wi (by omega) (by omega)]
  refine ⟨(64 - n - t).toNat, by omega, by omega, ?_⟩
  rcases (show t = 1 ∨ t = 2 ∨ t = 3 ∨ t = 4 ∨ t = 5 ∨ t = 6 ∨ t = 7 ∨ t = 8 by omega) with rfl | rfl | rfl | rfl | rfl | rfl | rfl | rfl <;>
    rcases hn with rfl | rfl | rfl | rfl | rfl | rfl | rfl | rfl <;>
      (simp at h1 h2 b1 b2 ⊢; omega)
theorem lzS_norm {x : Int} (h1 : 0 < x) (h2 : x < 18446744073709551616) : ∃ m : Nat, lzS x = (m : Int) ∧ m < 64 ∧ 9223372036854775808 ≤ x * 2 ^ m ∧ x * 2 ^ m < 18446744073709551616 := by
  have f32 : ∀ z : Int, z.fdiv (2 ^ min (Int.toNat 32) 64) = z / 4294967296 := fun z => fd z 32 (by decide)
  have f16 : ∀ z : Int, z.fdiv (2 ^ min (Int.toNat 16) 64) = z / 65536 := fun z => fd z 16 (by decide)
  have f8 : ∀ z : Int, z.fdiv (2 ^ min (Int.toNat 8) 64) = z / 256 := fun z => fd z 8 (by decide)
  unfold lzS lzV
  cases k1 : decide (x ≥ 4294967296) <;> cases k2 : decide (ln1 _ x ≥ 65536) <;> cases k3 : decide (ln2 _ _ x ≥ 256) <;>
    (simp only [ln1, ln2, ln3, cond_true, cond_false, f32, f16, f8, decide_eq_true_eq, decide_eq_false_iff_not] at k1 k2 k3 ⊢
     refine lz_leaf (by omega) (by omega) (by decide) ?_ ?_ <;> (simp [lnN] <;> omega))
theorem c_lz (x : Int) (h1 : 0 < x) (h2 : x < 18446744073709551616) (w : World) : Calls Tryd.prog 109 #[.int .u64 x] w fun e w' => e = .returned (.int .i64 (lzS x)) ∧ Gr w w' := by
  have f32 : ∀ z : Int, z.fdiv (2 ^ min (Int.toNat 32) 64) = z / 4294967296 := fun z => fd z 32 (by decide)
  have f16 : ∀ z : Int, z.fdiv (2 ^ min (Int.toNat 16) 64) = z / 65536 := fun z => fd z 16 (by decide)
  have f8 : ∀ z : Int, z.fdiv (2 ^ min (Int.toNat 8) 64) = z / 256 := fun z => fd z 8 (by decide)
  have sz : (lenT.size : Int) = 256 := by kernel_rfl
  have hc : ∀ c ∈ lzC (decide (x ≥ 4294967296)) (decide (ln1 (decide (x ≥ 4294967296)) x ≥ 65536)) (decide (ln2 (decide (x ≥ 4294967296)) (decide (ln1 (decide (x ≥ 4294967296)) x ≥ 65536)) x ≥ 256)) x, c.1 = c.2 := by
    intro c hc
    simp only [lzC, List.mem_cons, List.not_mem_nil, or_false] at hc
    rcases hc with rfl | rfl | rfl | rfl
    · rfl
    · rfl
    · rfl
    · have : (decide (0 ≤ IntKind.u8.wrap (ln3 (decide (x ≥ 4294967296)) (decide (ln1 (decide (x ≥ 4294967296)) x ≥ 65536)) (decide (ln2 (decide (x ≥ 4294967296)) (decide (ln1 (decide (x ≥ 4294967296)) x ≥ 65536)) x ≥ 256)) x)) && decide (IntKind.u8.wrap (ln3 (decide (x ≥ 4294967296)) (decide (ln1 (decide (x ≥ 4294967296)) x ≥ 65536)) (decide (ln2 (decide (x ≥ 4294967296)) (decide (ln1 (decide (x ≥ 4294967296)) x ≥ 65536)) x ≥ 256)) x) < (lenT.size : Int))) = true := by
        rw [sz, wu8]
        simp only [Bool.and_eq_true, decide_eq_true_eq]
        omega
      simp only [this]
      rfl
  unfold lzS
  revert hc
  cases decide (x ≥ 4294967296) <;> (generalize decide (ln1 _ x ≥ 65536) = b2; cases b2) <;> (generalize decide (ln2 _ _ x ≥ 256) = b3; cases b3) <;> intro hc
  · exact reckonI_ok noNG (noGuard _) (lnOrc false false false) 100000 300 [] rfl rfl (lz_fff x) hc w (Laid.nil w)
  · exact reckonI_ok noNG (noGuard _) (lnOrc false false true) 100000 300 [] rfl rfl (lz_fft x) hc w (Laid.nil w)
  · exact reckonI_ok noNG (noGuard _) (lnOrc false true false) 100000 300 [] rfl rfl (lz_ftf x) hc w (Laid.nil w)
  · exact reckonI_ok noNG (noGuard _) (lnOrc false true true) 100000 300 [] rfl rfl (lz_ftt x) hc w (Laid.nil w)
  · exact reckonI_ok noNG (noGuard _) (lnOrc true false false) 100000 300 [] rfl rfl (lz_tff x) hc w (Laid.nil w)
  · exact reckonI_ok noNG (noGuard _) (lnOrc true false true) 100000 300 [] rfl rfl (lz_tft x) hc w (Laid.nil w)
  · exact reckonI_ok noNG (noGuard _) (lnOrc true true false) 100000 300 [] rfl rfl (lz_ttf x) hc w (Laid.nil w)
  · exact reckonI_ok noNG (noGuard _) (lnOrc true true true) 100000 300 [] rfl rfl (lz_ttt x) hc w (Laid.nil w)
def lzHook : Hook := fun f args _ =>
  if Nat.beq f 109 then
    match args with
    | [.int .u64 x] => some (.int .i64 (lzS x), [(b2i (decide (0 < x ∧ x < 18446744073709551616)), 1)])
    | _ => none
  else none
theorem lzHook_ok : HookOk Tryd.prog lzHook := by
  intro f args h v cs hv hc wb k s w H
  unfold lzHook at hv
  split at hv
  · rename_i hf
    obtain rfl := Nat.eq_of_beq_eq_true hf
    split at hv
    · rename_i x
      cases hv
      have h0 : decide (0 < x ∧ x < 18446744073709551616) = true := b2i_inj (b := true) (hc _ (List.mem_singleton.2 rfl))
      obtain ⟨h1, h2⟩ := of_decide_eq_true h0
      exact c_lz x h1 h2 w
    · cases hv
  · cases hv
end Go.Proofs.YtbaiokfjoglmiaaDoor.Ex
