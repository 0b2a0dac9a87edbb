/-
  The law MapsNone, reckoned, path by path.
-/
import Derived.Test.YtcpgbhmddfakgaaLaw08a
import Derived.Test.YtcpgbhmddfakgaaEx14
namespace Go.Proofs.Ytcpgbhmddfakgaa.Ex
open Go Go.RowKit
def nHook : Hook := orHook keptHook repHook
theorem nHook_ok : HookOk Try.prog nHook := orHook_ok keptHook_ok repHook_ok
def repB (n : Int) : Bool := decide (0 ≤ IntKind.i64.wrap n) && decide (IntKind.i64.wrap n ≤ 100000) && decide ((⟨#[0]⟩ : ByteArray).size ≤ 100000)
def lenB (n : Int) : Bool := (0 : Int) != (((⟨(Lib.repeatL [0] (IntKind.i64.wrap n).toNat).toArray⟩ : ByteArray).size : Nat) : Int)
theorem prod_in {V M : Int} (h5 : 1 ≤ V) (h6 : V ≤ 64) (h7 : 1 ≤ M) (h8 : M ≤ 16) : 1 ≤ V * M ∧ V * M ≤ 1024 := by
  obtain ⟨v, rfl⟩ := Int.eq_ofNat_of_zero_le (show 0 ≤ V by omega)
  obtain ⟨m, rfl⟩ := Int.eq_ofNat_of_zero_le (show 0 ≤ M by omega)
  have a := Nat.mul_le_mul (show v ≤ 64 by omega) (show m ≤ 16 by omega)
  have b := Nat.mul_le_mul (show 1 ≤ v by omega) (show 1 ≤ m by omega)
  have e : ((v : Int) * (m : Int)) = ((v * m : Nat) : Int) := by simp
  rw [e]
  omega
theorem wrap_in {n : Int} (h : 1 ≤ n) (h2 : n ≤ 1024) : IntKind.i64.wrap n = n := by
  simp [IntKind.wrap, IntKind.bits, IntKind.signed]
  omega
theorem rep_in {n : Int} (h : 1 ≤ n ∧ n ≤ 1024) : repB n = true := by
  unfold repB
  rw [wrap_in h.1 h.2]
  simp only [Bool.and_eq_true, decide_eq_true_eq]
  exact ⟨⟨by omega, by omega⟩, by decide⟩
theorem len_in {n : Int} (h : 1 ≤ n ∧ n ≤ 1024) : lenB n = true := by
  unfold lenB
  rw [wrap_in h.1 h.2]
  have : (⟨(Lib.repeatL [0] n.toNat).toArray⟩ : ByteArray).size = n.toNat := by
    show (Lib.repeatL [0] n.toNat).toArray.size = _
    simp [Lib.repeatL_length]
  rw [this]
  simp only [bne_iff_ne, ne_eq]
  omega
/-- One path: what each test comes to there. -/
def pOrc (k1 k2 y4 y1 y8 v1 v64 m1 m16 gk gv ps : Bool) : Orc := fun f t _ =>
  if Nat.beq f 26 then
    match t with
    | 20 => some (.bool !k1) | 24 => some (.bool !k2) | 29 => some (.bool k1) | 33 => some (.bool !y4) | 39 => some (.bool y1) | 44 => some (.bool y8) | 49 => some (.bool v1) | 54 => some (.bool v64) | 59 => some (.bool m1) | 64 => some (.bool m16)
    | _ => none
  else if Nat.beq f 65 then
    match t with
    | 6 => some (.bool k1) | 9 => some (.bool !y4) | 11 => some (.bool k2) | 14 => some (.bool y1) | 18 => some (.bool y8) | 22 => some (.bool !v1) | 26 => some (.bool !v64) | 31 => some (.bool !m1) | 36 => some (.bool !m16)
    | _ => none
  else if Nat.beq f 24 then
    match t with
    | 18 => some (.bool gk) | 26 => some (.bool gv)
    | _ => none
  else if Nat.beq f 51 then
    match t with
    | 40 => some (.bool true)
    | _ => none
  else if Nat.beq f 53 then
    match t with
    | 6 => some (.bool ps) | 11 => some (.bool false)
    | _ => none
  else none
theorem bool_of {p : Prop} [Decidable p] {b : Bool} (h : b = true ↔ p) : b = decide p := by
  rw [Bool.eq_iff_iff, h]; simp
set_option maxRecDepth 1000000 in
set_option maxHeartbeats 0 in
theorem mapsNone_keyLong (k mp K Y V M : Int) (key val : ByteArray) (h1 : (key.size : Int) > 100) (w : World) : Calls Try.prog 8 #[.agg #[.int .u8 k, .int .i64 mp, .string key, .string val], .agg #[.int .i64 K, .int .i64 Y, .int .i64 V, .int .i64 M]] w fun e w' => e = .returned (.bool true) ∧ Gr w w' := by
  refine reckonS_ok noNG (hk := nHook) nHook_ok (pOrc true false true false false false false false false true false true) 100000 300 [] (ls := [b2i (decide ((key.size : Int) > 100))]) (rs := [1]) rfl rfl (by kernel_rfl) (by kernel_rfl) ?_ w (Laid.nil w)
  have f0 : (decide ((key.size : Int) > 100)) = true := by rw [Bool.eq_iff_iff]; simp; omega
  simp only [f0, b2i]
set_option maxRecDepth 1000000 in
set_option maxHeartbeats 0 in
theorem mapsNone_valLong (k mp K Y V M : Int) (key val : ByteArray) (h1 : ¬ (key.size : Int) > 100) (h2 : (val.size : Int) > 100) (w : World) : Calls Try.prog 8 #[.agg #[.int .u8 k, .int .i64 mp, .string key, .string val], .agg #[.int .i64 K, .int .i64 Y, .int .i64 V, .int .i64 M]] w fun e w' => e = .returned (.bool true) ∧ Gr w w' := by
  refine reckonS_ok noNG (hk := nHook) nHook_ok (pOrc true false true false false false false false false false true true) 100000 300 [] (ls := [b2i (decide ((key.size : Int) > 100)), b2i (decide ((val.size : Int) > 100))]) (rs := [0, 1]) rfl rfl (by kernel_rfl) (by kernel_rfl) ?_ w (Laid.nil w)
  have f0 : (decide ((key.size : Int) > 100)) = false := by rw [Bool.eq_iff_iff]; simp; omega
  have f1 : (decide ((val.size : Int) > 100)) = true := by rw [Bool.eq_iff_iff]; simp; omega
  simp only [f0, f1, b2i]
set_option maxRecDepth 1000000 in
set_option maxHeartbeats 0 in
theorem mapsNone_kind_p (k mp K Y V M : Int) (key val : ByteArray) (h0 : 0 ≤ mp) (h1 : ¬ (key.size : Int) > 100) (h2 : ¬ (val.size : Int) > 100) (h3 : K ≠ 1) (h4 : K ≠ 2) (w : World) : Calls Try.prog 8 #[.agg #[.int .u8 k, .int .i64 mp, .string key, .string val], .agg #[.int .i64 K, .int .i64 Y, .int .i64 V, .int .i64 M]] w fun e w' => e = .returned (.bool true) ∧ Gr w w' := by
  refine reckonS_ok noNG (hk := nHook) nHook_ok (pOrc false false true false false false false false false false false true) 100000 300 [] (ls := [b2i (decide ((key.size : Int) > 100)), b2i (decide ((val.size : Int) > 100)), b2i (K != 1), b2i (K != 2), b2i (K == 1), b2i (K == 2), b2i (K == 1), b2i (K == 2), b2i (decide (mp ≥ 0)), b2i (decide (mp < 0)), b2i (decide (mp ≥ 0)), b2i (decide (mp < 0)), b2i (decide (mp ≥ 0)), b2i (decide (mp < 0)), b2i (decide (mp ≥ 0)), b2i (decide (mp < 0)), b2i (K == 1), b2i (K == 2), b2i (K == 1), b2i (K == 2), b2i (decide (mp ≥ 0)), b2i (decide (mp < 0)), b2i (decide (mp ≥ 0)), b2i (decide (mp < 0)), b2i (decide (mp ≥ 0)), b2i (decide (mp < 0)), b2i (decide (mp ≥ 0)), b2i (decide (mp < 0))]) (rs := [0, 0, 1, 1, 0, 0, 0, 0, 1, 0, 1, 0, 1, 0, 1, 0, 0, 0, 0, 0, 1, 0, 1, 0, 1, 0, 1, 0]) rfl rfl (by kernel_rfl) (by kernel_rfl) ?_ w (Laid.nil w)
  have f0 : (decide ((key.size : Int) > 100)) = false := by rw [Bool.eq_iff_iff]; simp; omega
  have f1 : (decide ((val.size : Int) > 100)) = false := by rw [Bool.eq_iff_iff]; simp; omega
  have f2 : (K != 1) = true := by rw [Bool.eq_iff_iff]; simp; omega
  have f3 : (K != 2) = true := by rw [Bool.eq_iff_iff]; simp; omega
  have f4 : (K == 1) = false := by rw [Bool.eq_iff_iff]; simp; omega
  have f5 : (K == 2) = false := by rw [Bool.eq_iff_iff]; simp; omega
  have f6 : (decide (mp ≥ 0)) = true := by rw [Bool.eq_iff_iff]; simp; omega
  have f7 : (decide (mp < 0)) = false := by rw [Bool.eq_iff_iff]; simp; omega
  simp only [f0, f1, f2, f3, f4, f5, f6, f7, b2i]
set_option maxRecDepth 1000000 in
set_option maxHeartbeats 0 in
theorem mapsNone_kind_n (k mp K Y V M : Int) (key val : ByteArray) (h0 : mp < 0) (h1 : ¬ (key.size : Int) > 100) (h2 : ¬ (val.size : Int) > 100) (h3 : K ≠ 1) (h4 : K ≠ 2) (w : World) : Calls Try.prog 8 #[.agg #[.int .u8 k, .int .i64 mp, .string key, .string val], .agg #[.int .i64 K, .int .i64 Y, .int .i64 V, .int .i64 M]] w fun e w' => e = .returned (.bool true) ∧ Gr w w' := by
  refine reckonS_ok noNG (hk := nHook) nHook_ok (pOrc false false true false false false false false false false false false) 100000 300 [] (ls := [b2i (decide ((key.size : Int) > 100)), b2i (decide ((val.size : Int) > 100)), b2i (K != 1), b2i (K != 2), b2i (K == 1), b2i (K == 2), b2i (K == 1), b2i (K == 2), b2i (decide (mp ≥ 0)), b2i (decide (mp ≥ 0)), b2i (decide (mp ≥ 0)), b2i (decide (mp ≥ 0)), b2i (K == 1), b2i (K == 2), b2i (K == 1), b2i (K == 2), b2i (decide (mp ≥ 0)), b2i (decide (mp ≥ 0)), b2i (decide (mp ≥ 0)), b2i (decide (mp ≥ 0))]) (rs := [0, 0, 1, 1, 0, 0, 0, 0, 0, 0, 0, 0, 0, 0, 0, 0, 0, 0, 0, 0]) rfl rfl (by kernel_rfl) (by kernel_rfl) ?_ w (Laid.nil w)
  have f0 : (decide ((key.size : Int) > 100)) = false := by rw [Bool.eq_iff_iff]; simp; omega
  have f1 : (decide ((val.size : Int) > 100)) = false := by rw [Bool.eq_iff_iff]; simp; omega
  have f2 : (K != 1) = true := by rw [Bool.eq_iff_iff]; simp; omega
  have f3 : (K != 2) = true := by rw [Bool.eq_iff_iff]; simp; omega
  have f4 : (K == 1) = false := by rw [Bool.eq_iff_iff]; simp; omega
  have f5 : (K == 2) = false := by rw [Bool.eq_iff_iff]; simp; omega
  have f6 : (decide (mp ≥ 0)) = false := by rw [Bool.eq_iff_iff]; simp; omega
  simp only [f0, f1, f2, f3, f4, f5, f6, b2i]
set_option maxRecDepth 1000000 in
set_option maxHeartbeats 0 in
theorem mapsNone_keyArr_p (k mp K Y V M : Int) (key val : ByteArray) (h0 : 0 ≤ mp) (h1 : ¬ (key.size : Int) > 100) (h2 : ¬ (val.size : Int) > 100) (h3 : K = 1) (h4 : Y ≠ 4) (w : World) : Calls Try.prog 8 #[.agg #[.int .u8 k, .int .i64 mp, .string key, .string val], .agg #[.int .i64 K, .int .i64 Y, .int .i64 V, .int .i64 M]] w fun e w' => e = .returned (.bool true) ∧ Gr w w' := by
  refine reckonS_ok noNG (hk := nHook) nHook_ok (pOrc true false false false false false false false false false false true) 100000 300 [] (ls := [b2i (decide ((key.size : Int) > 100)), b2i (decide ((val.size : Int) > 100)), b2i (K != 1), b2i (K == 1), b2i (Y != 4), b2i (K == 1), b2i (Y != 4), b2i (K == 1), b2i (Y != 4), b2i (decide (mp ≥ 0)), b2i (decide (mp < 0)), b2i (decide (mp ≥ 0)), b2i (decide (mp < 0)), b2i (decide (mp ≥ 0)), b2i (decide (mp < 0)), b2i (decide (mp ≥ 0)), b2i (decide (mp < 0)), b2i (K == 1), b2i (Y != 4), b2i (K == 1), b2i (Y != 4), b2i (decide (mp ≥ 0)), b2i (decide (mp < 0)), b2i (decide (mp ≥ 0)), b2i (decide (mp < 0)), b2i (decide (mp ≥ 0)), b2i (decide (mp < 0)), b2i (decide (mp ≥ 0)), b2i (decide (mp < 0))]) (rs := [0, 0, 0, 1, 1, 1, 1, 1, 1, 1, 0, 1, 0, 1, 0, 1, 0, 1, 1, 1, 1, 1, 0, 1, 0, 1, 0, 1, 0]) rfl rfl (by kernel_rfl) (by kernel_rfl) ?_ w (Laid.nil w)
  have f0 : (decide ((key.size : Int) > 100)) = false := by rw [Bool.eq_iff_iff]; simp; omega
  have f1 : (decide ((val.size : Int) > 100)) = false := by rw [Bool.eq_iff_iff]; simp; omega
  have f2 : (K != 1) = false := by rw [Bool.eq_iff_iff]; simp; omega
  have f3 : (K == 1) = true := by rw [Bool.eq_iff_iff]; simp; omega
  have f4 : (Y != 4) = true := by rw [Bool.eq_iff_iff]; simp; omega
  have f5 : (decide (mp ≥ 0)) = true := by rw [Bool.eq_iff_iff]; simp; omega
  have f6 : (decide (mp < 0)) = false := by rw [Bool.eq_iff_iff]; simp; omega
  simp only [f0, f1, f2, f3, f4, f5, f6, b2i]
set_option maxRecDepth 1000000 in
set_option maxHeartbeats 0 in
theorem mapsNone_keyArr_n (k mp K Y V M : Int) (key val : ByteArray) (h0 : mp < 0) (h1 : ¬ (key.size : Int) > 100) (h2 : ¬ (val.size : Int) > 100) (h3 : K = 1) (h4 : Y ≠ 4) (w : World) : Calls Try.prog 8 #[.agg #[.int .u8 k, .int .i64 mp, .string key, .string val], .agg #[.int .i64 K, .int .i64 Y, .int .i64 V, .int .i64 M]] w fun e w' => e = .returned (.bool true) ∧ Gr w w' := by
  refine reckonS_ok noNG (hk := nHook) nHook_ok (pOrc true false false false false false false false false false false false) 100000 300 [] (ls := [b2i (decide ((key.size : Int) > 100)), b2i (decide ((val.size : Int) > 100)), b2i (K != 1), b2i (K == 1), b2i (Y != 4), b2i (K == 1), b2i (Y != 4), b2i (K == 1), b2i (Y != 4), b2i (decide (mp ≥ 0)), b2i (decide (mp ≥ 0)), b2i (decide (mp ≥ 0)), b2i (decide (mp ≥ 0)), b2i (K == 1), b2i (Y != 4), b2i (K == 1), b2i (Y != 4), b2i (decide (mp ≥ 0)), b2i (decide (mp ≥ 0)), b2i (decide (mp ≥ 0)), b2i (decide (mp ≥ 0))]) (rs := [0, 0, 0, 1, 1, 1, 1, 1, 1, 0, 0, 0, 0, 1, 1, 1, 1, 0, 0, 0, 0]) rfl rfl (by kernel_rfl) (by kernel_rfl) ?_ w (Laid.nil w)
  have f0 : (decide ((key.size : Int) > 100)) = false := by rw [Bool.eq_iff_iff]; simp; omega
  have f1 : (decide ((val.size : Int) > 100)) = false := by rw [Bool.eq_iff_iff]; simp; omega
  have f2 : (K != 1) = false := by rw [Bool.eq_iff_iff]; simp; omega
  have f3 : (K == 1) = true := by rw [Bool.eq_iff_iff]; simp; omega
  have f4 : (Y != 4) = true := by rw [Bool.eq_iff_iff]; simp; omega
  have f5 : (decide (mp ≥ 0)) = false := by rw [Bool.eq_iff_iff]; simp; omega
  simp only [f0, f1, f2, f3, f4, f5, b2i]
set_option maxRecDepth 1000000 in
set_option maxHeartbeats 0 in
theorem mapsNone_arr_v1_p (k mp K Y V M : Int) (key val : ByteArray) (h0 : 0 ≤ mp) (h1 : ¬ (key.size : Int) > 100) (h2 : ¬ (val.size : Int) > 100) (h3 : K = 1) (h4 : Y = 4) (h5 : V < 1) (w : World) : Calls Try.prog 8 #[.agg #[.int .u8 k, .int .i64 mp, .string key, .string val], .agg #[.int .i64 K, .int .i64 Y, .int .i64 V, .int .i64 M]] w fun e w' => e = .returned (.bool true) ∧ Gr w w' := by
  refine reckonS_ok noNG (hk := nHook) nHook_ok (pOrc true false true false false true false false false false false true) 100000 300 [] (ls := [b2i (decide ((key.size : Int) > 100)), b2i (decide ((val.size : Int) > 100)), b2i (K != 1), b2i (K == 1), b2i (Y != 4), b2i (decide (Y < 1)), b2i (decide (Y > 8)), b2i (decide (V < 1)), b2i (K == 1), b2i (Y != 4), b2i (decide (V ≥ 1)), b2i (K == 1), b2i (Y != 4), b2i (decide (V ≥ 1)), b2i (decide (mp ≥ 0)), b2i (decide (mp < 0)), b2i (decide (mp ≥ 0)), b2i (decide (mp < 0)), b2i (decide (mp ≥ 0)), b2i (decide (mp < 0)), b2i (decide (mp ≥ 0)), b2i (decide (mp < 0)), b2i (K == 1), b2i (Y != 4), b2i (decide (V ≥ 1)), b2i (K == 1), b2i (Y != 4), b2i (decide (V ≥ 1)), b2i (decide (mp ≥ 0)), b2i (decide (mp < 0)), b2i (decide (mp ≥ 0)), b2i (decide (mp < 0)), b2i (decide (mp ≥ 0)), b2i (decide (mp < 0)), b2i (decide (mp ≥ 0)), b2i (decide (mp < 0))]) (rs := [0, 0, 0, 1, 0, 0, 0, 1, 1, 0, 0, 1, 0, 0, 1, 0, 1, 0, 1, 0, 1, 0, 1, 0, 0, 1, 0, 0, 1, 0, 1, 0, 1, 0, 1, 0]) rfl rfl (by kernel_rfl) (by kernel_rfl) ?_ w (Laid.nil w)
  have f0 : (decide ((key.size : Int) > 100)) = false := by rw [Bool.eq_iff_iff]; simp; omega
  have f1 : (decide ((val.size : Int) > 100)) = false := by rw [Bool.eq_iff_iff]; simp; omega
  have f2 : (K != 1) = false := by rw [Bool.eq_iff_iff]; simp; omega
  have f3 : (K == 1) = true := by rw [Bool.eq_iff_iff]; simp; omega
  have f4 : (Y != 4) = false := by rw [Bool.eq_iff_iff]; simp; omega
  have f5 : (decide (Y < 1)) = false := by rw [Bool.eq_iff_iff]; simp; omega
  have f6 : (decide (Y > 8)) = false := by rw [Bool.eq_iff_iff]; simp; omega
  have f7 : (decide (V < 1)) = true := by rw [Bool.eq_iff_iff]; simp; omega
  have f8 : (decide (V ≥ 1)) = false := by rw [Bool.eq_iff_iff]; simp; omega
  have f9 : (decide (mp ≥ 0)) = true := by rw [Bool.eq_iff_iff]; simp; omega
  have f10 : (decide (mp < 0)) = false := by rw [Bool.eq_iff_iff]; simp; omega
  simp only [f0, f1, f2, f3, f4, f5, f6, f7, f8, f9, f10, b2i]
set_option maxRecDepth 1000000 in
set_option maxHeartbeats 0 in
theorem mapsNone_arr_v1_n (k mp K Y V M : Int) (key val : ByteArray) (h0 : mp < 0) (h1 : ¬ (key.size : Int) > 100) (h2 : ¬ (val.size : Int) > 100) (h3 : K = 1) (h4 : Y = 4) (h5 : V < 1) (w : World) : Calls Try.prog 8 #[.agg #[.int .u8 k, .int .i64 mp, .string key, .string val], .agg #[.int .i64 K, .int .i64 Y, .int .i64 V, .int .i64 M]] w fun e w' => e = .returned (.bool true) ∧ Gr w w' := by
  refine reckonS_ok noNG (hk := nHook) nHook_ok (pOrc true false true false false true false false false false false false) 100000 300 [] (ls := [b2i (decide ((key.size : Int) > 100)), b2i (decide ((val.size : Int) > 100)), b2i (K != 1), b2i (K == 1), b2i (Y != 4), b2i (decide (Y < 1)), b2i (decide (Y > 8)), b2i (decide (V < 1)), b2i (K == 1), b2i (Y != 4), b2i (decide (V ≥ 1)), b2i (K == 1), b2i (Y != 4), b2i (decide (V ≥ 1)), b2i (decide (mp ≥ 0)), b2i (decide (mp ≥ 0)), b2i (decide (mp ≥ 0)), b2i (decide (mp ≥ 0)), b2i (K == 1), b2i (Y != 4), b2i (decide (V ≥ 1)), b2i (K == 1), b2i (Y != 4), b2i (decide (V ≥ 1)), b2i (decide (mp ≥ 0)), b2i (decide (mp ≥ 0)), b2i (decide (mp ≥ 0)), b2i (decide (mp ≥ 0))]) (rs := [0, 0, 0, 1, 0, 0, 0, 1, 1, 0, 0, 1, 0, 0, 0, 0, 0, 0, 1, 0, 0, 1, 0, 0, 0, 0, 0, 0]) rfl rfl (by kernel_rfl) (by kernel_rfl) ?_ w (Laid.nil w)
  have f0 : (decide ((key.size : Int) > 100)) = false := by rw [Bool.eq_iff_iff]; simp; omega
  have f1 : (decide ((val.size : Int) > 100)) = false := by rw [Bool.eq_iff_iff]; simp; omega
  have f2 : (K != 1) = false := by rw [Bool.eq_iff_iff]; simp; omega
  have f3 : (K == 1) = true := by rw [Bool.eq_iff_iff]; simp; omega
  have f4 : (Y != 4) = false := by rw [Bool.eq_iff_iff]; simp; omega
  have f5 : (decide (Y < 1)) = false := by rw [Bool.eq_iff_iff]; simp; omega
  have f6 : (decide (Y > 8)) = false := by rw [Bool.eq_iff_iff]; simp; omega
  have f7 : (decide (V < 1)) = true := by rw [Bool.eq_iff_iff]; simp; omega
  have f8 : (decide (V ≥ 1)) = false := by rw [Bool.eq_iff_iff]; simp; omega
  have f9 : (decide (mp ≥ 0)) = false := by rw [Bool.eq_iff_iff]; simp; omega
  simp only [f0, f1, f2, f3, f4, f5, f6, f7, f8, f9, b2i]
set_option maxRecDepth 1000000 in
set_option maxHeartbeats 0 in
theorem mapsNone_arr_v64_p (k mp K Y V M : Int) (key val : ByteArray) (h0 : 0 ≤ mp) (h1 : ¬ (key.size : Int) > 100) (h2 : ¬ (val.size : Int) > 100) (h3 : K = 1) (h4 : Y = 4) (h5 : 1 ≤ V) (h6 : V > 64) (w : World) : Calls Try.prog 8 #[.agg #[.int .u8 k, .int .i64 mp, .string key, .string val], .agg #[.int .i64 K, .int .i64 Y, .int .i64 V, .int .i64 M]] w fun e w' => e = .returned (.bool true) ∧ Gr w w' := by
  refine reckonS_ok noNG (hk := nHook) nHook_ok (pOrc true false true false false false true false false false false true) 100000 300 [] (ls := [b2i (decide ((key.size : Int) > 100)), b2i (decide ((val.size : Int) > 100)), b2i (K != 1), b2i (K == 1), b2i (Y != 4), b2i (decide (Y < 1)), b2i (decide (Y > 8)), b2i (decide (V < 1)), b2i (decide (V > 64)), b2i (K == 1), b2i (Y != 4), b2i (decide (V ≥ 1)), b2i (decide (V ≤ 64)), b2i (K == 1), b2i (Y != 4), b2i (decide (V ≥ 1)), b2i (decide (V ≤ 64)), b2i (decide (mp ≥ 0)), b2i (decide (mp < 0)), b2i (decide (mp ≥ 0)), b2i (decide (mp < 0)), b2i (decide (mp ≥ 0)), b2i (decide (mp < 0)), b2i (decide (mp ≥ 0)), b2i (decide (mp < 0)), b2i (K == 1), b2i (Y != 4), b2i (decide (V ≥ 1)), b2i (decide (V ≤ 64)), b2i (K == 1), b2i (Y != 4), b2i (decide (V ≥ 1)), b2i (decide (V ≤ 64)), b2i (decide (mp ≥ 0)), b2i (decide (mp < 0)), b2i (decide (mp ≥ 0)), b2i (decide (mp < 0)), b2i (decide (mp ≥ 0)), b2i (decide (mp < 0)), b2i (decide (mp ≥ 0)), b2i (decide (mp < 0))]) (rs := [0, 0, 0, 1, 0, 0, 0, 0, 1, 1, 0, 1, 0, 1, 0, 1, 0, 1, 0, 1, 0, 1, 0, 1, 0, 1, 0, 1, 0, 1, 0, 1, 0, 1, 0, 1, 0, 1, 0, 1, 0]) rfl rfl (by kernel_rfl) (by kernel_rfl) ?_ w (Laid.nil w)
  have f0 : (decide ((key.size : Int) > 100)) = false := by rw [Bool.eq_iff_iff]; simp; omega
  have f1 : (decide ((val.size : Int) > 100)) = false := by rw [Bool.eq_iff_iff]; simp; omega
  have f2 : (K != 1) = false := by rw [Bool.eq_iff_iff]; simp; omega
  have f3 : (K == 1) = true := by rw [Bool.eq_iff_iff]; simp; omega
  have f4 : (Y != 4) = false := by rw [Bool.eq_iff_iff]; simp; omega
  have f5 : (decide (Y < 1)) = false := by rw [Bool.eq_iff_iff]; simp; omega
  have f6 : (decide (Y > 8)) = false := by rw [Bool.eq_iff_iff]; simp; omega
  have f7 : (decide (V < 1)) = false := by rw [Bool.eq_iff_iff]; simp; omega
  have f8 : (decide (V > 64)) = true := by rw [Bool.eq_iff_iff]; simp; omega
  have f9 : (decide (V ≥ 1)) = true := by rw [Bool.eq_iff_iff]; simp; omega
  have f10 : (decide (V ≤ 64)) = false := by rw [Bool.eq_iff_iff]; simp; omega
  have f11 : (decide (mp ≥ 0)) = true := by rw [Bool.eq_iff_iff]; simp; omega
  have f12 : (decide (mp < 0)) = false := by rw [Bool.eq_iff_iff]; simp; omega
  simp only [f0, f1, f2, f3, f4, f5, f6, f7, f8, f9, f10, f11, f12, b2i]
set_option maxRecDepth 1000000 in
set_option maxHeartbeats 0 in
theorem mapsNone_arr_v64_n (k mp K Y V M : Int) (key val : ByteArray) (h0 : mp < 0) (h1 : ¬ (key.size : Int) > 100) (h2 : ¬ (val.size : Int) > 100) (h3 : K = 1) (h4 : Y = 4) (h5 : 1 ≤ V) (h6 : V > 64) (w : World) : Calls Try.prog 8 #[.agg #[.int .u8 k, .int .i64 mp, .string key, .string val], .agg #[.int .i64 K, .int .i64 Y, .int .i64 V, .int .i64 M]] w fun e w' => e = .returned (.bool true) ∧ Gr w w' := by
  refine reckonS_ok noNG (hk := nHook) nHook_ok (pOrc true false true false false false true false false false false false) 100000 300 [] (ls := [b2i (decide ((key.size : Int) > 100)), b2i (decide ((val.size : Int) > 100)), b2i (K != 1), b2i (K == 1), b2i (Y != 4), b2i (decide (Y < 1)), b2i (decide (Y > 8)), b2i (decide (V < 1)), b2i (decide (V > 64)), b2i (K == 1), b2i (Y != 4), b2i (decide (V ≥ 1)), b2i (decide (V ≤ 64)), b2i (K == 1), b2i (Y != 4), b2i (decide (V ≥ 1)), b2i (decide (V ≤ 64)), b2i (decide (mp ≥ 0)), b2i (decide (mp ≥ 0)), b2i (decide (mp ≥ 0)), b2i (decide (mp ≥ 0)), b2i (K == 1), b2i (Y != 4), b2i (decide (V ≥ 1)), b2i (decide (V ≤ 64)), b2i (K == 1), b2i (Y != 4), b2i (decide (V ≥ 1)), b2i (decide (V ≤ 64)), b2i (decide (mp ≥ 0)), b2i (decide (mp ≥ 0)), b2i (decide (mp ≥ 0)), b2i (decide (mp ≥ 0))]) (rs := [0, 0, 0, 1, 0, 0, 0, 0, 1, 1, 0, 1, 0, 1, 0, 1, 0, 0, 0, 0, 0, 1, 0, 1, 0, 1, 0, 1, 0, 0, 0, 0, 0]) rfl rfl (by kernel_rfl) (by kernel_rfl) ?_ w (Laid.nil w)
  have f0 : (decide ((key.size : Int) > 100)) = false := by rw [Bool.eq_iff_iff]; simp; omega
  have f1 : (decide ((val.size : Int) > 100)) = false := by rw [Bool.eq_iff_iff]; simp; omega
  have f2 : (K != 1) = false := by rw [Bool.eq_iff_iff]; simp; omega
  have f3 : (K == 1) = true := by rw [Bool.eq_iff_iff]; simp; omega
  have f4 : (Y != 4) = false := by rw [Bool.eq_iff_iff]; simp; omega
  have f5 : (decide (Y < 1)) = false := by rw [Bool.eq_iff_iff]; simp; omega
  have f6 : (decide (Y > 8)) = false := by rw [Bool.eq_iff_iff]; simp; omega
  have f7 : (decide (V < 1)) = false := by rw [Bool.eq_iff_iff]; simp; omega
  have f8 : (decide (V > 64)) = true := by rw [Bool.eq_iff_iff]; simp; omega
  have f9 : (decide (V ≥ 1)) = true := by rw [Bool.eq_iff_iff]; simp; omega
  have f10 : (decide (V ≤ 64)) = false := by rw [Bool.eq_iff_iff]; simp; omega
  have f11 : (decide (mp ≥ 0)) = false := by rw [Bool.eq_iff_iff]; simp; omega
  simp only [f0, f1, f2, f3, f4, f5, f6, f7, f8, f9, f10, f11, b2i]
set_option maxRecDepth 1000000 in
set_option maxHeartbeats 0 in
theorem mapsNone_arr_m1_p (k mp K Y V M : Int) (key val : ByteArray) (h0 : 0 ≤ mp) (h1 : ¬ (key.size : Int) > 100) (h2 : ¬ (val.size : Int) > 100) (h3 : K = 1) (h4 : Y = 4) (h5 : 1 ≤ V) (h6 : V ≤ 64) (h7 : M < 1) (w : World) : Calls Try.prog 8 #[.agg #[.int .u8 k, .int .i64 mp, .string key, .string val], .agg #[.int .i64 K, .int .i64 Y, .int .i64 V, .int .i64 M]] w fun e w' => e = .returned (.bool true) ∧ Gr w w' := by
  refine reckonS_ok noNG (hk := nHook) nHook_ok (pOrc true false true false false false false true false false false true) 100000 300 [] (ls := [b2i (decide ((key.size : Int) > 100)), b2i (decide ((val.size : Int) > 100)), b2i (K != 1), b2i (K == 1), b2i (Y != 4), b2i (decide (Y < 1)), b2i (decide (Y > 8)), b2i (decide (V < 1)), b2i (decide (V > 64)), b2i (decide (M < 1)), b2i (K == 1), b2i (Y != 4), b2i (decide (V ≥ 1)), b2i (decide (V ≤ 64)), b2i (decide (M ≥ 1)), b2i (K == 1), b2i (Y != 4), b2i (decide (V ≥ 1)), b2i (decide (V ≤ 64)), b2i (decide (M ≥ 1)), b2i (decide (mp ≥ 0)), b2i (decide (mp < 0)), b2i (decide (mp ≥ 0)), b2i (decide (mp < 0)), b2i (decide (mp ≥ 0)), b2i (decide (mp < 0)), b2i (decide (mp ≥ 0)), b2i (decide (mp < 0)), b2i (K == 1), b2i (Y != 4), b2i (decide (V ≥ 1)), b2i (decide (V ≤ 64)), b2i (decide (M ≥ 1)), b2i (K == 1), b2i (Y != 4), b2i (decide (V ≥ 1)), b2i (decide (V ≤ 64)), b2i (decide (M ≥ 1)), b2i (decide (mp ≥ 0)), b2i (decide (mp < 0)), b2i (decide (mp ≥ 0)), b2i (decide (mp < 0)), b2i (decide (mp ≥ 0)), b2i (decide (mp < 0)), b2i (decide (mp ≥ 0)), b2i (decide (mp < 0))]) (rs := [0, 0, 0, 1, 0, 0, 0, 0, 0, 1, 1, 0, 1, 1, 0, 1, 0, 1, 1, 0, 1, 0, 1, 0, 1, 0, 1, 0, 1, 0, 1, 1, 0, 1, 0, 1, 1, 0, 1, 0, 1, 0, 1, 0, 1, 0]) rfl rfl (by kernel_rfl) (by kernel_rfl) ?_ w (Laid.nil w)
  have f0 : (decide ((key.size : Int) > 100)) = false := by rw [Bool.eq_iff_iff]; simp; omega
  have f1 : (decide ((val.size : Int) > 100)) = false := by rw [Bool.eq_iff_iff]; simp; omega
  have f2 : (K != 1) = false := by rw [Bool.eq_iff_iff]; simp; omega
  have f3 : (K == 1) = true := by rw [Bool.eq_iff_iff]; simp; omega
  have f4 : (Y != 4) = false := by rw [Bool.eq_iff_iff]; simp; omega
  have f5 : (decide (Y < 1)) = false := by rw [Bool.eq_iff_iff]; simp; omega
  have f6 : (decide (Y > 8)) = false := by rw [Bool.eq_iff_iff]; simp; omega
  have f7 : (decide (V < 1)) = false := by rw [Bool.eq_iff_iff]; simp; omega
  have f8 : (decide (V > 64)) = false := by rw [Bool.eq_iff_iff]; simp; omega
  have f9 : (decide (M < 1)) = true := by rw [Bool.eq_iff_iff]; simp; omega
  have f10 : (decide (V ≥ 1)) = true := by rw [Bool.eq_iff_iff]; simp; omega
  have f11 : (decide (V ≤ 64)) = true := by rw [Bool.eq_iff_iff]; simp; omega
  have f12 : (decide (M ≥ 1)) = false := by rw [Bool.eq_iff_iff]; simp; omega
  have f13 : (decide (mp ≥ 0)) = true := by rw [Bool.eq_iff_iff]; simp; omega
  have f14 : (decide (mp < 0)) = false := by rw [Bool.eq_iff_iff]; simp; omega
  simp only [f0, f1, f2, f3, f4, f5, f6, f7, f8, f9, f10, f11, f12, f13, f14, b2i]
set_option maxRecDepth 1000000 in
set_option maxHeartbeats 0 in
theorem mapsNone_arr_m1_n (k mp K Y V M : Int) (key val : ByteArray) (h0 : mp < 0) (h1 : ¬ (key.size : Int) > 100) (h2 : ¬ (val.size : Int) > 100) (h3 : K = 1) (h4 : Y = 4) (h5 : 1 ≤ V) (h6 : V ≤ 64) (h7 : M < 1) (w : World) : Calls Try.prog 8 #[.agg #[.int .u8 k, .int .i64 mp, .string key, .string val], .agg #[.int .i64 K, .int .i64 Y, .int .i64 V, .int .i64 M]] w fun e w' => e = .returned (.bool true) ∧ Gr w w' := by
  refine reckonS_ok noNG (hk := nHook) nHook_ok (pOrc true false true false false false false true false false false false) 100000 300 [] (ls := [b2i (decide ((key.size : Int) > 100)), b2i (decide ((val.size : Int) > 100)), b2i (K != 1), b2i (K == 1), b2i (Y != 4), b2i (decide (Y < 1)), b2i (decide (Y > 8)), b2i (decide (V < 1)), b2i (decide (V > 64)), b2i (decide (M < 1)), b2i (K == 1), b2i (Y != 4), b2i (decide (V ≥ 1)), b2i (decide (V ≤ 64)), b2i (decide (M ≥ 1)), b2i (K == 1), b2i (Y != 4), b2i (decide (V ≥ 1)), b2i (decide (V ≤ 64)), b2i (decide (M ≥ 1)), b2i (decide (mp ≥ 0)), b2i (decide (mp ≥ 0)), b2i (decide (mp ≥ 0)), b2i (decide (mp ≥ 0)), b2i (K == 1), b2i (Y != 4), b2i (decide (V ≥ 1)), b2i (decide (V ≤ 64)), b2i (decide (M ≥ 1)), b2i (K == 1), b2i (Y != 4), b2i (decide (V ≥ 1)), b2i (decide (V ≤ 64)), b2i (decide (M ≥ 1)), b2i (decide (mp ≥ 0)), b2i (decide (mp ≥ 0)), b2i (decide (mp ≥ 0)), b2i (decide (mp ≥ 0))]) (rs := [0, 0, 0, 1, 0, 0, 0, 0, 0, 1, 1, 0, 1, 1, 0, 1, 0, 1, 1, 0, 0, 0, 0, 0, 1, 0, 1, 1, 0, 1, 0, 1, 1, 0, 0, 0, 0, 0]) rfl rfl (by kernel_rfl) (by kernel_rfl) ?_ w (Laid.nil w)
  have f0 : (decide ((key.size : Int) > 100)) = false := by rw [Bool.eq_iff_iff]; simp; omega
  have f1 : (decide ((val.size : Int) > 100)) = false := by rw [Bool.eq_iff_iff]; simp; omega
  have f2 : (K != 1) = false := by rw [Bool.eq_iff_iff]; simp; omega
  have f3 : (K == 1) = true := by rw [Bool.eq_iff_iff]; simp; omega
  have f4 : (Y != 4) = false := by rw [Bool.eq_iff_iff]; simp; omega
  have f5 : (decide (Y < 1)) = false := by rw [Bool.eq_iff_iff]; simp; omega
  have f6 : (decide (Y > 8)) = false := by rw [Bool.eq_iff_iff]; simp; omega
  have f7 : (decide (V < 1)) = false := by rw [Bool.eq_iff_iff]; simp; omega
  have f8 : (decide (V > 64)) = false := by rw [Bool.eq_iff_iff]; simp; omega
  have f9 : (decide (M < 1)) = true := by rw [Bool.eq_iff_iff]; simp; omega
  have f10 : (decide (V ≥ 1)) = true := by rw [Bool.eq_iff_iff]; simp; omega
  have f11 : (decide (V ≤ 64)) = true := by rw [Bool.eq_iff_iff]; simp; omega
  have f12 : (decide (M ≥ 1)) = false := by rw [Bool.eq_iff_iff]; simp; omega
  have f13 : (decide (mp ≥ 0)) = false := by rw [Bool.eq_iff_iff]; simp; omega
  simp only [f0, f1, f2, f3, f4, f5, f6, f7, f8, f9, f10, f11, f12, f13, b2i]
set_option maxRecDepth 1000000 in
set_option maxHeartbeats 0 in
theorem mapsNone_arr_m16_p (k mp K Y V M : Int) (key val : ByteArray) (h0 : 0 ≤ mp) (h1 : ¬ (key.size : Int) > 100) (h2 : ¬ (val.size : Int) > 100) (h3 : K = 1) (h4 : Y = 4) (h5 : 1 ≤ V) (h6 : V ≤ 64) (h7 : 1 ≤ M) (h8 : M > 16) (w : World) : Calls Try.prog 8 #[.agg #[.int .u8 k, .int .i64 mp, .string key, .string val], .agg #[.int .i64 K, .int .i64 Y, .int .i64 V, .int .i64 M]] w fun e w' => e = .returned (.bool true) ∧ Gr w w' := by
  refine reckonS_ok noNG (hk := nHook) nHook_ok (pOrc true false true false false false false false true false false true) 100000 300 [] (ls := [b2i (decide ((key.size : Int) > 100)), b2i (decide ((val.size : Int) > 100)), b2i (K != 1), b2i (K == 1), b2i (Y != 4), b2i (decide (Y < 1)), b2i (decide (Y > 8)), b2i (decide (V < 1)), b2i (decide (V > 64)), b2i (decide (M < 1)), b2i (decide (M > 16)), b2i (K == 1), b2i (Y != 4), b2i (decide (V ≥ 1)), b2i (decide (V ≤ 64)), b2i (decide (M ≥ 1)), b2i (decide (M ≤ 16)), b2i (K == 1), b2i (Y != 4), b2i (decide (V ≥ 1)), b2i (decide (V ≤ 64)), b2i (decide (M ≥ 1)), b2i (decide (M ≤ 16)), b2i (decide (mp ≥ 0)), b2i (decide (mp < 0)), b2i (decide (mp ≥ 0)), b2i (decide (mp < 0)), b2i (decide (mp ≥ 0)), b2i (decide (mp < 0)), b2i (decide (mp ≥ 0)), b2i (decide (mp < 0)), b2i (K == 1), b2i (Y != 4), b2i (decide (V ≥ 1)), b2i (decide (V ≤ 64)), b2i (decide (M ≥ 1)), b2i (decide (M ≤ 16)), b2i (K == 1), b2i (Y != 4), b2i (decide (V ≥ 1)), b2i (decide (V ≤ 64)), b2i (decide (M ≥ 1)), b2i (decide (M ≤ 16)), b2i (decide (mp ≥ 0)), b2i (decide (mp < 0)), b2i (decide (mp ≥ 0)), b2i (decide (mp < 0)), b2i (decide (mp ≥ 0)), b2i (decide (mp < 0)), b2i (decide (mp ≥ 0)), b2i (decide (mp < 0))]) (rs := [0, 0, 0, 1, 0, 0, 0, 0, 0, 0, 1, 1, 0, 1, 1, 1, 0, 1, 0, 1, 1, 1, 0, 1, 0, 1, 0, 1, 0, 1, 0, 1, 0, 1, 1, 1, 0, 1, 0, 1, 1, 1, 0, 1, 0, 1, 0, 1, 0, 1, 0]) rfl rfl (by kernel_rfl) (by kernel_rfl) ?_ w (Laid.nil w)
  have f0 : (decide ((key.size : Int) > 100)) = false := by rw [Bool.eq_iff_iff]; simp; omega
  have f1 : (decide ((val.size : Int) > 100)) = false := by rw [Bool.eq_iff_iff]; simp; omega
  have f2 : (K != 1) = false := by rw [Bool.eq_iff_iff]; simp; omega
  have f3 : (K == 1) = true := by rw [Bool.eq_iff_iff]; simp; omega
  have f4 : (Y != 4) = false := by rw [Bool.eq_iff_iff]; simp; omega
  have f5 : (decide (Y < 1)) = false := by rw [Bool.eq_iff_iff]; simp; omega
  have f6 : (decide (Y > 8)) = false := by rw [Bool.eq_iff_iff]; simp; omega
  have f7 : (decide (V < 1)) = false := by rw [Bool.eq_iff_iff]; simp; omega
  have f8 : (decide (V > 64)) = false := by rw [Bool.eq_iff_iff]; simp; omega
  have f9 : (decide (M < 1)) = false := by rw [Bool.eq_iff_iff]; simp; omega
  have f10 : (decide (M > 16)) = true := by rw [Bool.eq_iff_iff]; simp; omega
  have f11 : (decide (V ≥ 1)) = true := by rw [Bool.eq_iff_iff]; simp; omega
  have f12 : (decide (V ≤ 64)) = true := by rw [Bool.eq_iff_iff]; simp; omega
  have f13 : (decide (M ≥ 1)) = true := by rw [Bool.eq_iff_iff]; simp; omega
  have f14 : (decide (M ≤ 16)) = false := by rw [Bool.eq_iff_iff]; simp; omega
  have f15 : (decide (mp ≥ 0)) = true := by rw [Bool.eq_iff_iff]; simp; omega
  have f16 : (decide (mp < 0)) = false := by rw [Bool.eq_iff_iff]; simp; omega
  simp only [f0, f1, f2, f3, f4, f5, f6, f7, f8, f9, f10, f11, f12, f13, f14, f15, f16, b2i]
set_option maxRecDepth 1000000 in
set_option maxHeartbeats 0 in
theorem mapsNone_arr_m16_n (k mp K Y V M : Int) (key val : ByteArray) (h0 : mp < 0) (h1 : ¬ (key.size : Int) > 100) (h2 : ¬ (val.size : Int) > 100) (h3 : K = 1) (h4 : Y = 4) (h5 : 1 ≤ V) (h6 : V ≤ 64) (h7 : 1 ≤ M) (h8 : M > 16) (w : World) : Calls Try.prog 8 #[.agg #[.int .u8 k, .int .i64 mp, .string key, .string val], .agg #[.int .i64 K, .int .i64 Y, .int .i64 V, .int .i64 M]] w fun e w' => e = .returned (.bool true) ∧ Gr w w' := by
  refine reckonS_ok noNG (hk := nHook) nHook_ok (pOrc true false true false false false false false true false false false) 100000 300 [] (ls := [b2i (decide ((key.size : Int) > 100)), b2i (decide ((val.size : Int) > 100)), b2i (K != 1), b2i (K == 1), b2i (Y != 4), b2i (decide (Y < 1)), b2i (decide (Y > 8)), b2i (decide (V < 1)), b2i (decide (V > 64)), b2i (decide (M < 1)), b2i (decide (M > 16)), b2i (K == 1), b2i (Y != 4), b2i (decide (V ≥ 1)), b2i (decide (V ≤ 64)), b2i (decide (M ≥ 1)), b2i (decide (M ≤ 16)), b2i (K == 1), b2i (Y != 4), b2i (decide (V ≥ 1)), b2i (decide (V ≤ 64)), b2i (decide (M ≥ 1)), b2i (decide (M ≤ 16)), b2i (decide (mp ≥ 0)), b2i (decide (mp ≥ 0)), b2i (decide (mp ≥ 0)), b2i (decide (mp ≥ 0)), b2i (K == 1), b2i (Y != 4), b2i (decide (V ≥ 1)), b2i (decide (V ≤ 64)), b2i (decide (M ≥ 1)), b2i (decide (M ≤ 16)), b2i (K == 1), b2i (Y != 4), b2i (decide (V ≥ 1)), b2i (decide (V ≤ 64)), b2i (decide (M ≥ 1)), b2i (decide (M ≤ 16)), b2i (decide (mp ≥ 0)), b2i (decide (mp ≥ 0)), b2i (decide (mp ≥ 0)), b2i (decide (mp ≥ 0))]) (rs := [0, 0, 0, 1, 0, 0, 0, 0, 0, 0, 1, 1, 0, 1, 1, 1, 0, 1, 0, 1, 1, 1, 0, 0, 0, 0, 0, 1, 0, 1, 1, 1, 0, 1, 0, 1, 1, 1, 0, 0, 0, 0, 0]) rfl rfl (by kernel_rfl) (by kernel_rfl) ?_ w (Laid.nil w)
  have f0 : (decide ((key.size : Int) > 100)) = false := by rw [Bool.eq_iff_iff]; simp; omega
  have f1 : (decide ((val.size : Int) > 100)) = false := by rw [Bool.eq_iff_iff]; simp; omega
  have f2 : (K != 1) = false := by rw [Bool.eq_iff_iff]; simp; omega
  have f3 : (K == 1) = true := by rw [Bool.eq_iff_iff]; simp; omega
  have f4 : (Y != 4) = false := by rw [Bool.eq_iff_iff]; simp; omega
  have f5 : (decide (Y < 1)) = false := by rw [Bool.eq_iff_iff]; simp; omega
  have f6 : (decide (Y > 8)) = false := by rw [Bool.eq_iff_iff]; simp; omega
  have f7 : (decide (V < 1)) = false := by rw [Bool.eq_iff_iff]; simp; omega
  have f8 : (decide (V > 64)) = false := by rw [Bool.eq_iff_iff]; simp; omega
  have f9 : (decide (M < 1)) = false := by rw [Bool.eq_iff_iff]; simp; omega
  have f10 : (decide (M > 16)) = true := by rw [Bool.eq_iff_iff]; simp; omega
  have f11 : (decide (V ≥ 1)) = true := by rw [Bool.eq_iff_iff]; simp; omega
  have f12 : (decide (V ≤ 64)) = true := by rw [Bool.eq_iff_iff]; simp; omega
  have f13 : (decide (M ≥ 1)) = true := by rw [Bool.eq_iff_iff]; simp; omega
  have f14 : (decide (M ≤ 16)) = false := by rw [Bool.eq_iff_iff]; simp; omega
  have f15 : (decide (mp ≥ 0)) = false := by rw [Bool.eq_iff_iff]; simp; omega
  simp only [f0, f1, f2, f3, f4, f5, f6, f7, f8, f9, f10, f11, f12, f13, f14, f15, b2i]
set_option maxRecDepth 1000000 in
set_option maxHeartbeats 0 in
theorem mapsNone_arr_fit_p (k mp K Y V M : Int) (key val : ByteArray) (h0 : 0 ≤ mp) (h1 : ¬ (key.size : Int) > 100) (h2 : ¬ (val.size : Int) > 100) (h3 : K = 1) (h4 : Y = 4) (h5 : 1 ≤ V) (h6 : V ≤ 64) (h7 : 1 ≤ M) (h8 : M ≤ 16) (w : World) : Calls Try.prog 8 #[.agg #[.int .u8 k, .int .i64 mp, .string key, .string val], .agg #[.int .i64 K, .int .i64 Y, .int .i64 V, .int .i64 M]] w fun e w' => e = .returned (.bool true) ∧ Gr w w' := by
  refine reckonS_ok noNG (hk := nHook) nHook_ok (pOrc true false true false false false false false false false false true) 100000 300 [] (ls := [b2i (decide ((key.size : Int) > 100)), b2i (decide ((val.size : Int) > 100)), b2i (K != 1), b2i (K == 1), b2i (Y != 4), b2i (decide (Y < 1)), b2i (decide (Y > 8)), b2i (decide (V < 1)), b2i (decide (V > 64)), b2i (decide (M < 1)), b2i (decide (M > 16)), b2i (K == 1), b2i (Y != 4), b2i (decide (V ≥ 1)), b2i (decide (V ≤ 64)), b2i (decide (M ≥ 1)), b2i (decide (M ≤ 16)), b2i (K == 1), b2i (Y != 4), b2i (decide (V ≥ 1)), b2i (decide (V ≤ 64)), b2i (decide (M ≥ 1)), b2i (decide (M ≤ 16)), b2i (K == 1), b2i (Y != 4), b2i (decide (V ≥ 1)), b2i (decide (V ≤ 64)), b2i (decide (M ≥ 1)), b2i (decide (M ≤ 16)), b2i (repB (V * M)), b2i (lenB (V * M)), b2i (decide (mp ≥ 0)), b2i (decide (mp < 0)), b2i (decide (mp ≥ 0)), b2i (decide (mp < 0)), b2i (decide (mp ≥ 0)), b2i (decide (mp < 0)), b2i (decide (mp ≥ 0)), b2i (decide (mp < 0)), b2i (K == 1), b2i (Y != 4), b2i (decide (V ≥ 1)), b2i (decide (V ≤ 64)), b2i (decide (M ≥ 1)), b2i (decide (M ≤ 16)), b2i (K == 1), b2i (Y != 4), b2i (decide (V ≥ 1)), b2i (decide (V ≤ 64)), b2i (decide (M ≥ 1)), b2i (decide (M ≤ 16)), b2i (K == 1), b2i (Y != 4), b2i (decide (V ≥ 1)), b2i (decide (V ≤ 64)), b2i (decide (M ≥ 1)), b2i (decide (M ≤ 16)), b2i (repB (V * M)), b2i (lenB (V * M)), b2i (decide (mp ≥ 0)), b2i (decide (mp < 0)), b2i (decide (mp ≥ 0)), b2i (decide (mp < 0)), b2i (decide (mp ≥ 0)), b2i (decide (mp < 0)), b2i (decide (mp ≥ 0)), b2i (decide (mp < 0))]) (rs := [0, 0, 0, 1, 0, 0, 0, 0, 0, 0, 0, 1, 0, 1, 1, 1, 1, 1, 0, 1, 1, 1, 1, 1, 0, 1, 1, 1, 1, 1, 1, 1, 0, 1, 0, 1, 0, 1, 0, 1, 0, 1, 1, 1, 1, 1, 0, 1, 1, 1, 1, 1, 0, 1, 1, 1, 1, 1, 1, 1, 0, 1, 0, 1, 0, 1, 0]) rfl rfl (by kernel_rfl) (by kernel_rfl) ?_ w (Laid.nil w)
  have f0 : (decide ((key.size : Int) > 100)) = false := by rw [Bool.eq_iff_iff]; simp; omega
  have f1 : (decide ((val.size : Int) > 100)) = false := by rw [Bool.eq_iff_iff]; simp; omega
  have f2 : (K != 1) = false := by rw [Bool.eq_iff_iff]; simp; omega
  have f3 : (K == 1) = true := by rw [Bool.eq_iff_iff]; simp; omega
  have f4 : (Y != 4) = false := by rw [Bool.eq_iff_iff]; simp; omega
  have f5 : (decide (Y < 1)) = false := by rw [Bool.eq_iff_iff]; simp; omega
  have f6 : (decide (Y > 8)) = false := by rw [Bool.eq_iff_iff]; simp; omega
  have f7 : (decide (V < 1)) = false := by rw [Bool.eq_iff_iff]; simp; omega
  have f8 : (decide (V > 64)) = false := by rw [Bool.eq_iff_iff]; simp; omega
  have f9 : (decide (M < 1)) = false := by rw [Bool.eq_iff_iff]; simp; omega
  have f10 : (decide (M > 16)) = false := by rw [Bool.eq_iff_iff]; simp; omega
  have f11 : (decide (V ≥ 1)) = true := by rw [Bool.eq_iff_iff]; simp; omega
  have f12 : (decide (V ≤ 64)) = true := by rw [Bool.eq_iff_iff]; simp; omega
  have f13 : (decide (M ≥ 1)) = true := by rw [Bool.eq_iff_iff]; simp; omega
  have f14 : (decide (M ≤ 16)) = true := by rw [Bool.eq_iff_iff]; simp; omega
  have f15 : (repB (V * M)) = true := rep_in (prod_in h5 h6 h7 h8)
  have f16 : (lenB (V * M)) = true := len_in (prod_in h5 h6 h7 h8)
  have f17 : (decide (mp ≥ 0)) = true := by rw [Bool.eq_iff_iff]; simp; omega
  have f18 : (decide (mp < 0)) = false := by rw [Bool.eq_iff_iff]; simp; omega
  simp only [f0, f1, f2, f3, f4, f5, f6, f7, f8, f9, f10, f11, f12, f13, f14, f15, f16, f17, f18, b2i]
set_option maxRecDepth 1000000 in
set_option maxHeartbeats 0 in
theorem mapsNone_arr_fit_n (k mp K Y V M : Int) (key val : ByteArray) (h0 : mp < 0) (h1 : ¬ (key.size : Int) > 100) (h2 : ¬ (val.size : Int) > 100) (h3 : K = 1) (h4 : Y = 4) (h5 : 1 ≤ V) (h6 : V ≤ 64) (h7 : 1 ≤ M) (h8 : M ≤ 16) (w : World) : Calls Try.prog 8 #[.agg #[.int .u8 k, .int .i64 mp, .string key, .string val], .agg #[.int .i64 K, .int .i64 Y, .int .i64 V, .int .i64 M]] w fun e w' => e = .returned (.bool true) ∧ Gr w w' := by
  refine reckonS_ok noNG (hk := nHook) nHook_ok (pOrc true false true false false false false false false false false false) 100000 300 [] (ls := [b2i (decide ((key.size : Int) > 100)), b2i (decide ((val.size : Int) > 100)), b2i (K != 1), b2i (K == 1), b2i (Y != 4), b2i (decide (Y < 1)), b2i (decide (Y > 8)), b2i (decide (V < 1)), b2i (decide (V > 64)), b2i (decide (M < 1)), b2i (decide (M > 16)), b2i (K == 1), b2i (Y != 4), b2i (decide (V ≥ 1)), b2i (decide (V ≤ 64)), b2i (decide (M ≥ 1)), b2i (decide (M ≤ 16)), b2i (K == 1), b2i (Y != 4), b2i (decide (V ≥ 1)), b2i (decide (V ≤ 64)), b2i (decide (M ≥ 1)), b2i (decide (M ≤ 16)), b2i (K == 1), b2i (Y != 4), b2i (decide (V ≥ 1)), b2i (decide (V ≤ 64)), b2i (decide (M ≥ 1)), b2i (decide (M ≤ 16)), b2i (repB (V * M)), b2i (lenB (V * M)), b2i (decide (mp ≥ 0)), b2i (decide (mp ≥ 0)), b2i (decide (mp ≥ 0)), b2i (decide (mp ≥ 0)), b2i (K == 1), b2i (Y != 4), b2i (decide (V ≥ 1)), b2i (decide (V ≤ 64)), b2i (decide (M ≥ 1)), b2i (decide (M ≤ 16)), b2i (K == 1), b2i (Y != 4), b2i (decide (V ≥ 1)), b2i (decide (V ≤ 64)), b2i (decide (M ≥ 1)), b2i (decide (M ≤ 16)), b2i (K == 1), b2i (Y != 4), b2i (decide (V ≥ 1)), b2i (decide (V ≤ 64)), b2i (decide (M ≥ 1)), b2i (decide (M ≤ 16)), b2i (repB (V * M)), b2i (lenB (V * M)), b2i (decide (mp ≥ 0)), b2i (decide (mp ≥ 0)), b2i (decide (mp ≥ 0)), b2i (decide (mp ≥ 0))]) (rs := [0, 0, 0, 1, 0, 0, 0, 0, 0, 0, 0, 1, 0, 1, 1, 1, 1, 1, 0, 1, 1, 1, 1, 1, 0, 1, 1, 1, 1, 1, 1, 0, 0, 0, 0, 1, 0, 1, 1, 1, 1, 1, 0, 1, 1, 1, 1, 1, 0, 1, 1, 1, 1, 1, 1, 0, 0, 0, 0]) rfl rfl (by kernel_rfl) (by kernel_rfl) ?_ w (Laid.nil w)
  have f0 : (decide ((key.size : Int) > 100)) = false := by rw [Bool.eq_iff_iff]; simp; omega
  have f1 : (decide ((val.size : Int) > 100)) = false := by rw [Bool.eq_iff_iff]; simp; omega
  have f2 : (K != 1) = false := by rw [Bool.eq_iff_iff]; simp; omega
  have f3 : (K == 1) = true := by rw [Bool.eq_iff_iff]; simp; omega
  have f4 : (Y != 4) = false := by rw [Bool.eq_iff_iff]; simp; omega
  have f5 : (decide (Y < 1)) = false := by rw [Bool.eq_iff_iff]; simp; omega
  have f6 : (decide (Y > 8)) = false := by rw [Bool.eq_iff_iff]; simp; omega
  have f7 : (decide (V < 1)) = false := by rw [Bool.eq_iff_iff]; simp; omega
  have f8 : (decide (V > 64)) = false := by rw [Bool.eq_iff_iff]; simp; omega
  have f9 : (decide (M < 1)) = false := by rw [Bool.eq_iff_iff]; simp; omega
  have f10 : (decide (M > 16)) = false := by rw [Bool.eq_iff_iff]; simp; omega
  have f11 : (decide (V ≥ 1)) = true := by rw [Bool.eq_iff_iff]; simp; omega
  have f12 : (decide (V ≤ 64)) = true := by rw [Bool.eq_iff_iff]; simp; omega
  have f13 : (decide (M ≥ 1)) = true := by rw [Bool.eq_iff_iff]; simp; omega
  have f14 : (decide (M ≤ 16)) = true := by rw [Bool.eq_iff_iff]; simp; omega
  have f15 : (repB (V * M)) = true := rep_in (prod_in h5 h6 h7 h8)
  have f16 : (lenB (V * M)) = true := len_in (prod_in h5 h6 h7 h8)
  have f17 : (decide (mp ≥ 0)) = false := by rw [Bool.eq_iff_iff]; simp; omega
  simp only [f0, f1, f2, f3, f4, f5, f6, f7, f8, f9, f10, f11, f12, f13, f14, f15, f16, f17, b2i]
set_option maxRecDepth 1000000 in
set_option maxHeartbeats 0 in
theorem mapsNone_hash_y1_p (k mp K Y V M : Int) (key val : ByteArray) (h0 : 0 ≤ mp) (h1 : ¬ (key.size : Int) > 100) (h2 : ¬ (val.size : Int) > 100) (h3 : K = 2) (h4 : Y < 1) (w : World) : Calls Try.prog 8 #[.agg #[.int .u8 k, .int .i64 mp, .string key, .string val], .agg #[.int .i64 K, .int .i64 Y, .int .i64 V, .int .i64 M]] w fun e w' => e = .returned (.bool true) ∧ Gr w w' := by
  refine reckonS_ok noNG (hk := nHook) nHook_ok (pOrc false true false true false false false false false false false true) 100000 300 [] (ls := [b2i (decide ((key.size : Int) > 100)), b2i (decide ((val.size : Int) > 100)), b2i (K != 1), b2i (K != 2), b2i (K == 1), b2i (decide (Y < 1)), b2i (K == 1), b2i (K == 2), b2i (decide (Y < 1)), b2i (K == 1), b2i (K == 2), b2i (decide (Y < 1)), b2i (decide (mp ≥ 0)), b2i (decide (mp < 0)), b2i (decide (mp ≥ 0)), b2i (decide (mp < 0)), b2i (decide (mp ≥ 0)), b2i (decide (mp < 0)), b2i (decide (mp ≥ 0)), b2i (decide (mp < 0)), b2i (K == 1), b2i (K == 2), b2i (decide (Y < 1)), b2i (K == 1), b2i (K == 2), b2i (decide (Y < 1)), b2i (decide (mp ≥ 0)), b2i (decide (mp < 0)), b2i (decide (mp ≥ 0)), b2i (decide (mp < 0)), b2i (decide (mp ≥ 0)), b2i (decide (mp < 0)), b2i (decide (mp ≥ 0)), b2i (decide (mp < 0))]) (rs := [0, 0, 1, 0, 0, 1, 0, 1, 1, 0, 1, 1, 1, 0, 1, 0, 1, 0, 1, 0, 0, 1, 1, 0, 1, 1, 1, 0, 1, 0, 1, 0, 1, 0]) rfl rfl (by kernel_rfl) (by kernel_rfl) ?_ w (Laid.nil w)
  have f0 : (decide ((key.size : Int) > 100)) = false := by rw [Bool.eq_iff_iff]; simp; omega
  have f1 : (decide ((val.size : Int) > 100)) = false := by rw [Bool.eq_iff_iff]; simp; omega
  have f2 : (K != 1) = true := by rw [Bool.eq_iff_iff]; simp; omega
  have f3 : (K != 2) = false := by rw [Bool.eq_iff_iff]; simp; omega
  have f4 : (K == 1) = false := by rw [Bool.eq_iff_iff]; simp; omega
  have f5 : (decide (Y < 1)) = true := by rw [Bool.eq_iff_iff]; simp; omega
  have f6 : (K == 2) = true := by rw [Bool.eq_iff_iff]; simp; omega
  have f7 : (decide (mp ≥ 0)) = true := by rw [Bool.eq_iff_iff]; simp; omega
  have f8 : (decide (mp < 0)) = false := by rw [Bool.eq_iff_iff]; simp; omega
  simp only [f0, f1, f2, f3, f4, f5, f6, f7, f8, b2i]
set_option maxRecDepth 1000000 in
set_option maxHeartbeats 0 in
theorem mapsNone_hash_y1_n (k mp K Y V M : Int) (key val : ByteArray) (h0 : mp < 0) (h1 : ¬ (key.size : Int) > 100) (h2 : ¬ (val.size : Int) > 100) (h3 : K = 2) (h4 : Y < 1) (w : World) : Calls Try.prog 8 #[.agg #[.int .u8 k, .int .i64 mp, .string key, .string val], .agg #[.int .i64 K, .int .i64 Y, .int .i64 V, .int .i64 M]] w fun e w' => e = .returned (.bool true) ∧ Gr w w' := by
  refine reckonS_ok noNG (hk := nHook) nHook_ok (pOrc false true false true false false false false false false false false) 100000 300 [] (ls := [b2i (decide ((key.size : Int) > 100)), b2i (decide ((val.size : Int) > 100)), b2i (K != 1), b2i (K != 2), b2i (K == 1), b2i (decide (Y < 1)), b2i (K == 1), b2i (K == 2), b2i (decide (Y < 1)), b2i (K == 1), b2i (K == 2), b2i (decide (Y < 1)), b2i (decide (mp ≥ 0)), b2i (decide (mp ≥ 0)), b2i (decide (mp ≥ 0)), b2i (decide (mp ≥ 0)), b2i (K == 1), b2i (K == 2), b2i (decide (Y < 1)), b2i (K == 1), b2i (K == 2), b2i (decide (Y < 1)), b2i (decide (mp ≥ 0)), b2i (decide (mp ≥ 0)), b2i (decide (mp ≥ 0)), b2i (decide (mp ≥ 0))]) (rs := [0, 0, 1, 0, 0, 1, 0, 1, 1, 0, 1, 1, 0, 0, 0, 0, 0, 1, 1, 0, 1, 1, 0, 0, 0, 0]) rfl rfl (by kernel_rfl) (by kernel_rfl) ?_ w (Laid.nil w)
  have f0 : (decide ((key.size : Int) > 100)) = false := by rw [Bool.eq_iff_iff]; simp; omega
  have f1 : (decide ((val.size : Int) > 100)) = false := by rw [Bool.eq_iff_iff]; simp; omega
  have f2 : (K != 1) = true := by rw [Bool.eq_iff_iff]; simp; omega
  have f3 : (K != 2) = false := by rw [Bool.eq_iff_iff]; simp; omega
  have f4 : (K == 1) = false := by rw [Bool.eq_iff_iff]; simp; omega
  have f5 : (decide (Y < 1)) = true := by rw [Bool.eq_iff_iff]; simp; omega
  have f6 : (K == 2) = true := by rw [Bool.eq_iff_iff]; simp; omega
  have f7 : (decide (mp ≥ 0)) = false := by rw [Bool.eq_iff_iff]; simp; omega
  simp only [f0, f1, f2, f3, f4, f5, f6, f7, b2i]
set_option maxRecDepth 1000000 in
set_option maxHeartbeats 0 in
theorem mapsNone_hash_y8_p (k mp K Y V M : Int) (key val : ByteArray) (h0 : 0 ≤ mp) (h1 : ¬ (key.size : Int) > 100) (h2 : ¬ (val.size : Int) > 100) (h3 : K = 2) (h4 : Y > 8) (w : World) : Calls Try.prog 8 #[.agg #[.int .u8 k, .int .i64 mp, .string key, .string val], .agg #[.int .i64 K, .int .i64 Y, .int .i64 V, .int .i64 M]] w fun e w' => e = .returned (.bool true) ∧ Gr w w' := by
  refine reckonS_ok noNG (hk := nHook) nHook_ok (pOrc false true false false true false false false false false false true) 100000 300 [] (ls := [b2i (decide ((key.size : Int) > 100)), b2i (decide ((val.size : Int) > 100)), b2i (K != 1), b2i (K != 2), b2i (K == 1), b2i (decide (Y < 1)), b2i (decide (Y > 8)), b2i (K == 1), b2i (K == 2), b2i (decide (Y < 1)), b2i (decide (Y > 8)), b2i (K == 1), b2i (K == 2), b2i (decide (Y < 1)), b2i (decide (Y > 8)), b2i (decide (mp ≥ 0)), b2i (decide (mp < 0)), b2i (decide (mp ≥ 0)), b2i (decide (mp < 0)), b2i (decide (mp ≥ 0)), b2i (decide (mp < 0)), b2i (decide (mp ≥ 0)), b2i (decide (mp < 0)), b2i (K == 1), b2i (K == 2), b2i (decide (Y < 1)), b2i (decide (Y > 8)), b2i (K == 1), b2i (K == 2), b2i (decide (Y < 1)), b2i (decide (Y > 8)), b2i (decide (mp ≥ 0)), b2i (decide (mp < 0)), b2i (decide (mp ≥ 0)), b2i (decide (mp < 0)), b2i (decide (mp ≥ 0)), b2i (decide (mp < 0)), b2i (decide (mp ≥ 0)), b2i (decide (mp < 0))]) (rs := [0, 0, 1, 0, 0, 0, 1, 0, 1, 0, 1, 0, 1, 0, 1, 1, 0, 1, 0, 1, 0, 1, 0, 0, 1, 0, 1, 0, 1, 0, 1, 1, 0, 1, 0, 1, 0, 1, 0]) rfl rfl (by kernel_rfl) (by kernel_rfl) ?_ w (Laid.nil w)
  have f0 : (decide ((key.size : Int) > 100)) = false := by rw [Bool.eq_iff_iff]; simp; omega
  have f1 : (decide ((val.size : Int) > 100)) = false := by rw [Bool.eq_iff_iff]; simp; omega
  have f2 : (K != 1) = true := by rw [Bool.eq_iff_iff]; simp; omega
  have f3 : (K != 2) = false := by rw [Bool.eq_iff_iff]; simp; omega
  have f4 : (K == 1) = false := by rw [Bool.eq_iff_iff]; simp; omega
  have f5 : (decide (Y < 1)) = false := by rw [Bool.eq_iff_iff]; simp; omega
  have f6 : (decide (Y > 8)) = true := by rw [Bool.eq_iff_iff]; simp; omega
  have f7 : (K == 2) = true := by rw [Bool.eq_iff_iff]; simp; omega
  have f8 : (decide (mp ≥ 0)) = true := by rw [Bool.eq_iff_iff]; simp; omega
  have f9 : (decide (mp < 0)) = false := by rw [Bool.eq_iff_iff]; simp; omega
  simp only [f0, f1, f2, f3, f4, f5, f6, f7, f8, f9, b2i]
set_option maxRecDepth 1000000 in
set_option maxHeartbeats 0 in
theorem mapsNone_hash_y8_n (k mp K Y V M : Int) (key val : ByteArray) (h0 : mp < 0) (h1 : ¬ (key.size : Int) > 100) (h2 : ¬ (val.size : Int) > 100) (h3 : K = 2) (h4 : Y > 8) (w : World) : Calls Try.prog 8 #[.agg #[.int .u8 k, .int .i64 mp, .string key, .string val], .agg #[.int .i64 K, .int .i64 Y, .int .i64 V, .int .i64 M]] w fun e w' => e = .returned (.bool true) ∧ Gr w w' := by
  refine reckonS_ok noNG (hk := nHook) nHook_ok (pOrc false true false false true false false false false false false false) 100000 300 [] (ls := [b2i (decide ((key.size : Int) > 100)), b2i (decide ((val.size : Int) > 100)), b2i (K != 1), b2i (K != 2), b2i (K == 1), b2i (decide (Y < 1)), b2i (decide (Y > 8)), b2i (K == 1), b2i (K == 2), b2i (decide (Y < 1)), b2i (decide (Y > 8)), b2i (K == 1), b2i (K == 2), b2i (decide (Y < 1)), b2i (decide (Y > 8)), b2i (decide (mp ≥ 0)), b2i (decide (mp ≥ 0)), b2i (decide (mp ≥ 0)), b2i (decide (mp ≥ 0)), b2i (K == 1), b2i (K == 2), b2i (decide (Y < 1)), b2i (decide (Y > 8)), b2i (K == 1), b2i (K == 2), b2i (decide (Y < 1)), b2i (decide (Y > 8)), b2i (decide (mp ≥ 0)), b2i (decide (mp ≥ 0)), b2i (decide (mp ≥ 0)), b2i (decide (mp ≥ 0))]) (rs := [0, 0, 1, 0, 0, 0, 1, 0, 1, 0, 1, 0, 1, 0, 1, 0, 0, 0, 0, 0, 1, 0, 1, 0, 1, 0, 1, 0, 0, 0, 0]) rfl rfl (by kernel_rfl) (by kernel_rfl) ?_ w (Laid.nil w)
  have f0 : (decide ((key.size : Int) > 100)) = false := by rw [Bool.eq_iff_iff]; simp; omega
  have f1 : (decide ((val.size : Int) > 100)) = false := by rw [Bool.eq_iff_iff]; simp; omega
  have f2 : (K != 1) = true := by rw [Bool.eq_iff_iff]; simp; omega
  have f3 : (K != 2) = false := by rw [Bool.eq_iff_iff]; simp; omega
  have f4 : (K == 1) = false := by rw [Bool.eq_iff_iff]; simp; omega
  have f5 : (decide (Y < 1)) = false := by rw [Bool.eq_iff_iff]; simp; omega
  have f6 : (decide (Y > 8)) = true := by rw [Bool.eq_iff_iff]; simp; omega
  have f7 : (K == 2) = true := by rw [Bool.eq_iff_iff]; simp; omega
  have f8 : (decide (mp ≥ 0)) = false := by rw [Bool.eq_iff_iff]; simp; omega
  simp only [f0, f1, f2, f3, f4, f5, f6, f7, f8, b2i]
set_option maxRecDepth 1000000 in
set_option maxHeartbeats 0 in
theorem mapsNone_hash_v1_p (k mp K Y V M : Int) (key val : ByteArray) (h0 : 0 ≤ mp) (h1 : ¬ (key.size : Int) > 100) (h2 : ¬ (val.size : Int) > 100) (h3 : K = 2) (h4 : 1 ≤ Y) (h9 : Y ≤ 8) (h5 : V < 1) (w : World) : Calls Try.prog 8 #[.agg #[.int .u8 k, .int .i64 mp, .string key, .string val], .agg #[.int .i64 K, .int .i64 Y, .int .i64 V, .int .i64 M]] w fun e w' => e = .returned (.bool true) ∧ Gr w w' := by
  refine reckonS_ok noNG (hk := nHook) nHook_ok (pOrc false true true false false true false false false false false true) 100000 300 [] (ls := [b2i (decide ((key.size : Int) > 100)), b2i (decide ((val.size : Int) > 100)), b2i (K != 1), b2i (K != 2), b2i (K == 1), b2i (decide (Y < 1)), b2i (decide (Y > 8)), b2i (decide (V < 1)), b2i (K == 1), b2i (K == 2), b2i (decide (Y < 1)), b2i (decide (Y > 8)), b2i (decide (V ≥ 1)), b2i (K == 1), b2i (K == 2), b2i (decide (Y < 1)), b2i (decide (Y > 8)), b2i (decide (V ≥ 1)), b2i (decide (mp ≥ 0)), b2i (decide (mp < 0)), b2i (decide (mp ≥ 0)), b2i (decide (mp < 0)), b2i (decide (mp ≥ 0)), b2i (decide (mp < 0)), b2i (decide (mp ≥ 0)), b2i (decide (mp < 0)), b2i (K == 1), b2i (K == 2), b2i (decide (Y < 1)), b2i (decide (Y > 8)), b2i (decide (V ≥ 1)), b2i (K == 1), b2i (K == 2), b2i (decide (Y < 1)), b2i (decide (Y > 8)), b2i (decide (V ≥ 1)), b2i (decide (mp ≥ 0)), b2i (decide (mp < 0)), b2i (decide (mp ≥ 0)), b2i (decide (mp < 0)), b2i (decide (mp ≥ 0)), b2i (decide (mp < 0)), b2i (decide (mp ≥ 0)), b2i (decide (mp < 0))]) (rs := [0, 0, 1, 0, 0, 0, 0, 1, 0, 1, 0, 0, 0, 0, 1, 0, 0, 0, 1, 0, 1, 0, 1, 0, 1, 0, 0, 1, 0, 0, 0, 0, 1, 0, 0, 0, 1, 0, 1, 0, 1, 0, 1, 0]) rfl rfl (by kernel_rfl) (by kernel_rfl) ?_ w (Laid.nil w)
  have f0 : (decide ((key.size : Int) > 100)) = false := by rw [Bool.eq_iff_iff]; simp; omega
  have f1 : (decide ((val.size : Int) > 100)) = false := by rw [Bool.eq_iff_iff]; simp; omega
  have f2 : (K != 1) = true := by rw [Bool.eq_iff_iff]; simp; omega
  have f3 : (K != 2) = false := by rw [Bool.eq_iff_iff]; simp; omega
  have f4 : (K == 1) = false := by rw [Bool.eq_iff_iff]; simp; omega
  have f5 : (decide (Y < 1)) = false := by rw [Bool.eq_iff_iff]; simp; omega
  have f6 : (decide (Y > 8)) = false := by rw [Bool.eq_iff_iff]; simp; omega
  have f7 : (decide (V < 1)) = true := by rw [Bool.eq_iff_iff]; simp; omega
  have f8 : (K == 2) = true := by rw [Bool.eq_iff_iff]; simp; omega
  have f9 : (decide (V ≥ 1)) = false := by rw [Bool.eq_iff_iff]; simp; omega
  have f10 : (decide (mp ≥ 0)) = true := by rw [Bool.eq_iff_iff]; simp; omega
  have f11 : (decide (mp < 0)) = false := by rw [Bool.eq_iff_iff]; simp; omega
  simp only [f0, f1, f2, f3, f4, f5, f6, f7, f8, f9, f10, f11, b2i]
set_option maxRecDepth 1000000 in
set_option maxHeartbeats 0 in
theorem mapsNone_hash_v1_n (k mp K Y V M : Int) (key val : ByteArray) (h0 : mp < 0) (h1 : ¬ (key.size : Int) > 100) (h2 : ¬ (val.size : Int) > 100) (h3 : K = 2) (h4 : 1 ≤ Y) (h9 : Y ≤ 8) (h5 : V < 1) (w : World) : Calls Try.prog 8 #[.agg #[.int .u8 k, .int .i64 mp, .string key, .string val], .agg #[.int .i64 K, .int .i64 Y, .int .i64 V, .int .i64 M]] w fun e w' => e = .returned (.bool true) ∧ Gr w w' := by
  refine reckonS_ok noNG (hk := nHook) nHook_ok (pOrc false true true false false true false false false false false false) 100000 300 [] (ls := [b2i (decide ((key.size : Int) > 100)), b2i (decide ((val.size : Int) > 100)), b2i (K != 1), b2i (K != 2), b2i (K == 1), b2i (decide (Y < 1)), b2i (decide (Y > 8)), b2i (decide (V < 1)), b2i (K == 1), b2i (K == 2), b2i (decide (Y < 1)), b2i (decide (Y > 8)), b2i (decide (V ≥ 1)), b2i (K == 1), b2i (K == 2), b2i (decide (Y < 1)), b2i (decide (Y > 8)), b2i (decide (V ≥ 1)), b2i (decide (mp ≥ 0)), b2i (decide (mp ≥ 0)), b2i (decide (mp ≥ 0)), b2i (decide (mp ≥ 0)), b2i (K == 1), b2i (K == 2), b2i (decide (Y < 1)), b2i (decide (Y > 8)), b2i (decide (V ≥ 1)), b2i (K == 1), b2i (K == 2), b2i (decide (Y < 1)), b2i (decide (Y > 8)), b2i (decide (V ≥ 1)), b2i (decide (mp ≥ 0)), b2i (decide (mp ≥ 0)), b2i (decide (mp ≥ 0)), b2i (decide (mp ≥ 0))]) (rs := [0, 0, 1, 0, 0, 0, 0, 1, 0, 1, 0, 0, 0, 0, 1, 0, 0, 0, 0, 0, 0, 0, 0, 1, 0, 0, 0, 0, 1, 0, 0, 0, 0, 0, 0, 0]) rfl rfl (by kernel_rfl) (by kernel_rfl) ?_ w (Laid.nil w)
  have f0 : (decide ((key.size : Int) > 100)) = false := by rw [Bool.eq_iff_iff]; simp; omega
  have f1 : (decide ((val.size : Int) > 100)) = false := by rw [Bool.eq_iff_iff]; simp; omega
  have f2 : (K != 1) = true := by rw [Bool.eq_iff_iff]; simp; omega
  have f3 : (K != 2) = false := by rw [Bool.eq_iff_iff]; simp; omega
  have f4 : (K == 1) = false := by rw [Bool.eq_iff_iff]; simp; omega
  have f5 : (decide (Y < 1)) = false := by rw [Bool.eq_iff_iff]; simp; omega
  have f6 : (decide (Y > 8)) = false := by rw [Bool.eq_iff_iff]; simp; omega
  have f7 : (decide (V < 1)) = true := by rw [Bool.eq_iff_iff]; simp; omega
  have f8 : (K == 2) = true := by rw [Bool.eq_iff_iff]; simp; omega
  have f9 : (decide (V ≥ 1)) = false := by rw [Bool.eq_iff_iff]; simp; omega
  have f10 : (decide (mp ≥ 0)) = false := by rw [Bool.eq_iff_iff]; simp; omega
  simp only [f0, f1, f2, f3, f4, f5, f6, f7, f8, f9, f10, b2i]
set_option maxRecDepth 1000000 in
set_option maxHeartbeats 0 in
theorem mapsNone_hash_v64_p (k mp K Y V M : Int) (key val : ByteArray) (h0 : 0 ≤ mp) (h1 : ¬ (key.size : Int) > 100) (h2 : ¬ (val.size : Int) > 100) (h3 : K = 2) (h4 : 1 ≤ Y) (h9 : Y ≤ 8) (h5 : 1 ≤ V) (h6 : V > 64) (w : World) : Calls Try.prog 8 #[.agg #[.int .u8 k, .int .i64 mp, .string key, .string val], .agg #[.int .i64 K, .int .i64 Y, .int .i64 V, .int .i64 M]] w fun e w' => e = .returned (.bool true) ∧ Gr w w' := by
  refine reckonS_ok noNG (hk := nHook) nHook_ok (pOrc false true true false false false true false false false false true) 100000 300 [] (ls := [b2i (decide ((key.size : Int) > 100)), b2i (decide ((val.size : Int) > 100)), b2i (K != 1), b2i (K != 2), b2i (K == 1), b2i (decide (Y < 1)), b2i (decide (Y > 8)), b2i (decide (V < 1)), b2i (decide (V > 64)), b2i (K == 1), b2i (K == 2), b2i (decide (Y < 1)), b2i (decide (Y > 8)), b2i (decide (V ≥ 1)), b2i (decide (V ≤ 64)), b2i (K == 1), b2i (K == 2), b2i (decide (Y < 1)), b2i (decide (Y > 8)), b2i (decide (V ≥ 1)), b2i (decide (V ≤ 64)), b2i (decide (mp ≥ 0)), b2i (decide (mp < 0)), b2i (decide (mp ≥ 0)), b2i (decide (mp < 0)), b2i (decide (mp ≥ 0)), b2i (decide (mp < 0)), b2i (decide (mp ≥ 0)), b2i (decide (mp < 0)), b2i (K == 1), b2i (K == 2), b2i (decide (Y < 1)), b2i (decide (Y > 8)), b2i (decide (V ≥ 1)), b2i (decide (V ≤ 64)), b2i (K == 1), b2i (K == 2), b2i (decide (Y < 1)), b2i (decide (Y > 8)), b2i (decide (V ≥ 1)), b2i (decide (V ≤ 64)), b2i (decide (mp ≥ 0)), b2i (decide (mp < 0)), b2i (decide (mp ≥ 0)), b2i (decide (mp < 0)), b2i (decide (mp ≥ 0)), b2i (decide (mp < 0)), b2i (decide (mp ≥ 0)), b2i (decide (mp < 0))]) (rs := [0, 0, 1, 0, 0, 0, 0, 0, 1, 0, 1, 0, 0, 1, 0, 0, 1, 0, 0, 1, 0, 1, 0, 1, 0, 1, 0, 1, 0, 0, 1, 0, 0, 1, 0, 0, 1, 0, 0, 1, 0, 1, 0, 1, 0, 1, 0, 1, 0]) rfl rfl (by kernel_rfl) (by kernel_rfl) ?_ w (Laid.nil w)
  have f0 : (decide ((key.size : Int) > 100)) = false := by rw [Bool.eq_iff_iff]; simp; omega
  have f1 : (decide ((val.size : Int) > 100)) = false := by rw [Bool.eq_iff_iff]; simp; omega
  have f2 : (K != 1) = true := by rw [Bool.eq_iff_iff]; simp; omega
  have f3 : (K != 2) = false := by rw [Bool.eq_iff_iff]; simp; omega
  have f4 : (K == 1) = false := by rw [Bool.eq_iff_iff]; simp; omega
  have f5 : (decide (Y < 1)) = false := by rw [Bool.eq_iff_iff]; simp; omega
  have f6 : (decide (Y > 8)) = false := by rw [Bool.eq_iff_iff]; simp; omega
  have f7 : (decide (V < 1)) = false := by rw [Bool.eq_iff_iff]; simp; omega
  have f8 : (decide (V > 64)) = true := by rw [Bool.eq_iff_iff]; simp; omega
  have f9 : (K == 2) = true := by rw [Bool.eq_iff_iff]; simp; omega
  have f10 : (decide (V ≥ 1)) = true := by rw [Bool.eq_iff_iff]; simp; omega
  have f11 : (decide (V ≤ 64)) = false := by rw [Bool.eq_iff_iff]; simp; omega
  have f12 : (decide (mp ≥ 0)) = true := by rw [Bool.eq_iff_iff]; simp; omega
  have f13 : (decide (mp < 0)) = false := by rw [Bool.eq_iff_iff]; simp; omega
  simp only [f0, f1, f2, f3, f4, f5, f6, f7, f8, f9, f10, f11, f12, f13, b2i]
set_option maxRecDepth 1000000 in
set_option maxHeartbeats 0 in
theorem mapsNone_hash_v64_n (k mp K Y V M : Int) (key val : ByteArray) (h0 : mp < 0) (h1 : ¬ (key.size : Int) > 100) (h2 : ¬ (val.size : Int) > 100) (h3 : K = 2) (h4 : 1 ≤ Y) (h9 : Y ≤ 8) (h5 : 1 ≤ V) (h6 : V > 64) (w : World) : Calls Try.prog 8 #[.agg #[.int .u8 k, .int .i64 mp, .string key, .string val], .agg #[.int .i64 K, .int .i64 Y, .int .i64 V, .int .i64 M]] w fun e w' => e = .returned (.bool true) ∧ Gr w w' := by
  refine reckonS_ok noNG (hk := nHook) nHook_ok (pOrc false true true false false false true false false false false false) 100000 300 [] (ls := [b2i (decide ((key.size : Int) > 100)), b2i (decide ((val.size : Int) > 100)), b2i (K != 1), b2i (K != 2), b2i (K == 1), b2i (decide (Y < 1)), b2i (decide (Y > 8)), b2i (decide (V < 1)), b2i (decide (V > 64)), b2i (K == 1), b2i (K == 2), b2i (decide (Y < 1)), b2i (decide (Y > 8)), b2i (decide (V ≥ 1)), b2i (decide (V ≤ 64)), b2i (K == 1), b2i (K == 2), b2i (decide (Y < 1)), b2i (decide (Y > 8)), b2i (decide (V ≥ 1)), b2i (decide (V ≤ 64)), b2i (decide (mp ≥ 0)), b2i (decide (mp ≥ 0)), b2i (decide (mp ≥ 0)), b2i (decide (mp ≥ 0)), b2i (K == 1), b2i (K == 2), b2i (decide (Y < 1)), b2i (decide (Y > 8)), b2i (decide (V ≥ 1)), b2i (decide (V ≤ 64)), b2i (K == 1), b2i (K == 2), b2i (decide (Y < 1)), b2i (decide (Y > 8)), b2i (decide (V ≥ 1)), b2i (decide (V ≤ 64)), b2i (decide (mp ≥ 0)), b2i (decide (mp ≥ 0)), b2i (decide (mp ≥ 0)), b2i (decide (mp ≥ 0))]) (rs := [0, 0, 1, 0, 0, 0, 0, 0, 1, 0, 1, 0, 0, 1, 0, 0, 1, 0, 0, 1, 0, 0, 0, 0, 0, 0, 1, 0, 0, 1, 0, 0, 1, 0, 0, 1, 0, 0, 0, 0, 0]) rfl rfl (by kernel_rfl) (by kernel_rfl) ?_ w (Laid.nil w)
  have f0 : (decide ((key.size : Int) > 100)) = false := by rw [Bool.eq_iff_iff]; simp; omega
  have f1 : (decide ((val.size : Int) > 100)) = false := by rw [Bool.eq_iff_iff]; simp; omega
  have f2 : (K != 1) = true := by rw [Bool.eq_iff_iff]; simp; omega
  have f3 : (K != 2) = false := by rw [Bool.eq_iff_iff]; simp; omega
  have f4 : (K == 1) = false := by rw [Bool.eq_iff_iff]; simp; omega
  have f5 : (decide (Y < 1)) = false := by rw [Bool.eq_iff_iff]; simp; omega
  have f6 : (decide (Y > 8)) = false := by rw [Bool.eq_iff_iff]; simp; omega
  have f7 : (decide (V < 1)) = false := by rw [Bool.eq_iff_iff]; simp; omega
  have f8 : (decide (V > 64)) = true := by rw [Bool.eq_iff_iff]; simp; omega
  have f9 : (K == 2) = true := by rw [Bool.eq_iff_iff]; simp; omega
  have f10 : (decide (V ≥ 1)) = true := by rw [Bool.eq_iff_iff]; simp; omega
  have f11 : (decide (V ≤ 64)) = false := by rw [Bool.eq_iff_iff]; simp; omega
  have f12 : (decide (mp ≥ 0)) = false := by rw [Bool.eq_iff_iff]; simp; omega
  simp only [f0, f1, f2, f3, f4, f5, f6, f7, f8, f9, f10, f11, f12, b2i]
set_option maxRecDepth 1000000 in
set_option maxHeartbeats 0 in
theorem mapsNone_hash_m1_p (k mp K Y V M : Int) (key val : ByteArray) (h0 : 0 ≤ mp) (h1 : ¬ (key.size : Int) > 100) (h2 : ¬ (val.size : Int) > 100) (h3 : K = 2) (h4 : 1 ≤ Y) (h9 : Y ≤ 8) (h5 : 1 ≤ V) (h6 : V ≤ 64) (h7 : M < 1) (w : World) : Calls Try.prog 8 #[.agg #[.int .u8 k, .int .i64 mp, .string key, .string val], .agg #[.int .i64 K, .int .i64 Y, .int .i64 V, .int .i64 M]] w fun e w' => e = .returned (.bool true) ∧ Gr w w' := by
  refine reckonS_ok noNG (hk := nHook) nHook_ok (pOrc false true true false false false false true false false false true) 100000 300 [] (ls := [b2i (decide ((key.size : Int) > 100)), b2i (decide ((val.size : Int) > 100)), b2i (K != 1), b2i (K != 2), b2i (K == 1), b2i (decide (Y < 1)), b2i (decide (Y > 8)), b2i (decide (V < 1)), b2i (decide (V > 64)), b2i (decide (M < 1)), b2i (K == 1), b2i (K == 2), b2i (decide (Y < 1)), b2i (decide (Y > 8)), b2i (decide (V ≥ 1)), b2i (decide (V ≤ 64)), b2i (decide (M ≥ 1)), b2i (K == 1), b2i (K == 2), b2i (decide (Y < 1)), b2i (decide (Y > 8)), b2i (decide (V ≥ 1)), b2i (decide (V ≤ 64)), b2i (decide (M ≥ 1)), b2i (decide (mp ≥ 0)), b2i (decide (mp < 0)), b2i (decide (mp ≥ 0)), b2i (decide (mp < 0)), b2i (decide (mp ≥ 0)), b2i (decide (mp < 0)), b2i (decide (mp ≥ 0)), b2i (decide (mp < 0)), b2i (K == 1), b2i (K == 2), b2i (decide (Y < 1)), b2i (decide (Y > 8)), b2i (decide (V ≥ 1)), b2i (decide (V ≤ 64)), b2i (decide (M ≥ 1)), b2i (K == 1), b2i (K == 2), b2i (decide (Y < 1)), b2i (decide (Y > 8)), b2i (decide (V ≥ 1)), b2i (decide (V ≤ 64)), b2i (decide (M ≥ 1)), b2i (decide (mp ≥ 0)), b2i (decide (mp < 0)), b2i (decide (mp ≥ 0)), b2i (decide (mp < 0)), b2i (decide (mp ≥ 0)), b2i (decide (mp < 0)), b2i (decide (mp ≥ 0)), b2i (decide (mp < 0))]) (rs := [0, 0, 1, 0, 0, 0, 0, 0, 0, 1, 0, 1, 0, 0, 1, 1, 0, 0, 1, 0, 0, 1, 1, 0, 1, 0, 1, 0, 1, 0, 1, 0, 0, 1, 0, 0, 1, 1, 0, 0, 1, 0, 0, 1, 1, 0, 1, 0, 1, 0, 1, 0, 1, 0]) rfl rfl (by kernel_rfl) (by kernel_rfl) ?_ w (Laid.nil w)
  have f0 : (decide ((key.size : Int) > 100)) = false := by rw [Bool.eq_iff_iff]; simp; omega
  have f1 : (decide ((val.size : Int) > 100)) = false := by rw [Bool.eq_iff_iff]; simp; omega
  have f2 : (K != 1) = true := by rw [Bool.eq_iff_iff]; simp; omega
  have f3 : (K != 2) = false := by rw [Bool.eq_iff_iff]; simp; omega
  have f4 : (K == 1) = false := by rw [Bool.eq_iff_iff]; simp; omega
  have f5 : (decide (Y < 1)) = false := by rw [Bool.eq_iff_iff]; simp; omega
  have f6 : (decide (Y > 8)) = false := by rw [Bool.eq_iff_iff]; simp; omega
  have f7 : (decide (V < 1)) = false := by rw [Bool.eq_iff_iff]; simp; omega
  have f8 : (decide (V > 64)) = false := by rw [Bool.eq_iff_iff]; simp; omega
  have f9 : (decide (M < 1)) = true := by rw [Bool.eq_iff_iff]; simp; omega
  have f10 : (K == 2) = true := by rw [Bool.eq_iff_iff]; simp; omega
  have f11 : (decide (V ≥ 1)) = true := by rw [Bool.eq_iff_iff]; simp; omega
  have f12 : (decide (V ≤ 64)) = true := by rw [Bool.eq_iff_iff]; simp; omega
  have f13 : (decide (M ≥ 1)) = false := by rw [Bool.eq_iff_iff]; simp; omega
  have f14 : (decide (mp ≥ 0)) = true := by rw [Bool.eq_iff_iff]; simp; omega
  have f15 : (decide (mp < 0)) = false := by rw [Bool.eq_iff_iff]; simp; omega
  simp only [f0, f1, f2, f3, f4, f5, f6, f7, f8, f9, f10, f11, f12, f13, f14, f15, b2i]
set_option maxRecDepth 1000000 in
set_option maxHeartbeats 0 in
theorem mapsNone_hash_m1_n (k mp K Y V M : Int) (key val : ByteArray) (h0 : mp < 0) (h1 : ¬ (key.size : Int) > 100) (h2 : ¬ (val.size : Int) > 100) (h3 : K = 2) (h4 : 1 ≤ Y) (h9 : Y ≤ 8) (h5 : 1 ≤ V) (h6 : V ≤ 64) (h7 : M < 1) (w : World) : Calls Try.prog 8 #[.agg #[.int .u8 k, .int .i64 mp, .string key, .string val], .agg #[.int .i64 K, .int .i64 Y, .int .i64 V, .int .i64 M]] w fun e w' => e = .returned (.bool true) ∧ Gr w w' := by
  refine reckonS_ok noNG (hk := nHook) nHook_ok (pOrc false true true false false false false true false false false false) 100000 300 [] (ls := [b2i (decide ((key.size : Int) > 100)), b2i (decide ((val.size : Int) > 100)), b2i (K != 1), b2i (K != 2), b2i (K == 1), b2i (decide (Y < 1)), b2i (decide (Y > 8)), b2i (decide (V < 1)), b2i (decide (V > 64)), b2i (decide (M < 1)), b2i (K == 1), b2i (K == 2), b2i (decide (Y < 1)), b2i (decide (Y > 8)), b2i (decide (V ≥ 1)), b2i (decide (V ≤ 64)), b2i (decide (M ≥ 1)), b2i (K == 1), b2i (K == 2), b2i (decide (Y < 1)), b2i (decide (Y > 8)), b2i (decide (V ≥ 1)), b2i (decide (V ≤ 64)), b2i (decide (M ≥ 1)), b2i (decide (mp ≥ 0)), b2i (decide (mp ≥ 0)), b2i (decide (mp ≥ 0)), b2i (decide (mp ≥ 0)), b2i (K == 1), b2i (K == 2), b2i (decide (Y < 1)), b2i (decide (Y > 8)), b2i (decide (V ≥ 1)), b2i (decide (V ≤ 64)), b2i (decide (M ≥ 1)), b2i (K == 1), b2i (K == 2), b2i (decide (Y < 1)), b2i (decide (Y > 8)), b2i (decide (V ≥ 1)), b2i (decide (V ≤ 64)), b2i (decide (M ≥ 1)), b2i (decide (mp ≥ 0)), b2i (decide (mp ≥ 0)), b2i (decide (mp ≥ 0)), b2i (decide (mp ≥ 0))]) (rs := [0, 0, 1, 0, 0, 0, 0, 0, 0, 1, 0, 1, 0, 0, 1, 1, 0, 0, 1, 0, 0, 1, 1, 0, 0, 0, 0, 0, 0, 1, 0, 0, 1, 1, 0, 0, 1, 0, 0, 1, 1, 0, 0, 0, 0, 0]) rfl rfl (by kernel_rfl) (by kernel_rfl) ?_ w (Laid.nil w)
  have f0 : (decide ((key.size : Int) > 100)) = false := by rw [Bool.eq_iff_iff]; simp; omega
  have f1 : (decide ((val.size : Int) > 100)) = false := by rw [Bool.eq_iff_iff]; simp; omega
  have f2 : (K != 1) = true := by rw [Bool.eq_iff_iff]; simp; omega
  have f3 : (K != 2) = false := by rw [Bool.eq_iff_iff]; simp; omega
  have f4 : (K == 1) = false := by rw [Bool.eq_iff_iff]; simp; omega
  have f5 : (decide (Y < 1)) = false := by rw [Bool.eq_iff_iff]; simp; omega
  have f6 : (decide (Y > 8)) = false := by rw [Bool.eq_iff_iff]; simp; omega
  have f7 : (decide (V < 1)) = false := by rw [Bool.eq_iff_iff]; simp; omega
  have f8 : (decide (V > 64)) = false := by rw [Bool.eq_iff_iff]; simp; omega
  have f9 : (decide (M < 1)) = true := by rw [Bool.eq_iff_iff]; simp; omega
  have f10 : (K == 2) = true := by rw [Bool.eq_iff_iff]; simp; omega
  have f11 : (decide (V ≥ 1)) = true := by rw [Bool.eq_iff_iff]; simp; omega
  have f12 : (decide (V ≤ 64)) = true := by rw [Bool.eq_iff_iff]; simp; omega
  have f13 : (decide (M ≥ 1)) = false := by rw [Bool.eq_iff_iff]; simp; omega
  have f14 : (decide (mp ≥ 0)) = false := by rw [Bool.eq_iff_iff]; simp; omega
  simp only [f0, f1, f2, f3, f4, f5, f6, f7, f8, f9, f10, f11, f12, f13, f14, b2i]
set_option maxRecDepth 1000000 in
set_option maxHeartbeats 0 in
theorem mapsNone_hash_m16_p (k mp K Y V M : Int) (key val : ByteArray) (h0 : 0 ≤ mp) (h1 : ¬ (key.size : Int) > 100) (h2 : ¬ (val.size : Int) > 100) (h3 : K = 2) (h4 : 1 ≤ Y) (h9 : Y ≤ 8) (h5 : 1 ≤ V) (h6 : V ≤ 64) (h7 : 1 ≤ M) (h8 : M > 16) (w : World) : Calls Try.prog 8 #[.agg #[.int .u8 k, .int .i64 mp, .string key, .string val], .agg #[.int .i64 K, .int .i64 Y, .int .i64 V, .int .i64 M]] w fun e w' => e = .returned (.bool true) ∧ Gr w w' := by
  refine reckonS_ok noNG (hk := nHook) nHook_ok (pOrc false true true false false false false false true false false true) 100000 300 [] (ls := [b2i (decide ((key.size : Int) > 100)), b2i (decide ((val.size : Int) > 100)), b2i (K != 1), b2i (K != 2), b2i (K == 1), b2i (decide (Y < 1)), b2i (decide (Y > 8)), b2i (decide (V < 1)), b2i (decide (V > 64)), b2i (decide (M < 1)), b2i (decide (M > 16)), b2i (K == 1), b2i (K == 2), b2i (decide (Y < 1)), b2i (decide (Y > 8)), b2i (decide (V ≥ 1)), b2i (decide (V ≤ 64)), b2i (decide (M ≥ 1)), b2i (decide (M ≤ 16)), b2i (K == 1), b2i (K == 2), b2i (decide (Y < 1)), b2i (decide (Y > 8)), b2i (decide (V ≥ 1)), b2i (decide (V ≤ 64)), b2i (decide (M ≥ 1)), b2i (decide (M ≤ 16)), b2i (decide (mp ≥ 0)), b2i (decide (mp < 0)), b2i (decide (mp ≥ 0)), b2i (decide (mp < 0)), b2i (decide (mp ≥ 0)), b2i (decide (mp < 0)), b2i (decide (mp ≥ 0)), b2i (decide (mp < 0)), b2i (K == 1), b2i (K == 2), b2i (decide (Y < 1)), b2i (decide (Y > 8)), b2i (decide (V ≥ 1)), b2i (decide (V ≤ 64)), b2i (decide (M ≥ 1)), b2i (decide (M ≤ 16)), b2i (K == 1), b2i (K == 2), b2i (decide (Y < 1)), b2i (decide (Y > 8)), b2i (decide (V ≥ 1)), b2i (decide (V ≤ 64)), b2i (decide (M ≥ 1)), b2i (decide (M ≤ 16)), b2i (decide (mp ≥ 0)), b2i (decide (mp < 0)), b2i (decide (mp ≥ 0)), b2i (decide (mp < 0)), b2i (decide (mp ≥ 0)), b2i (decide (mp < 0)), b2i (decide (mp ≥ 0)), b2i (decide (mp < 0))]) (rs := [0, 0, 1, 0, 0, 0, 0, 0, 0, 0, 1, 0, 1, 0, 0, 1, 1, 1, 0, 0, 1, 0, 0, 1, 1, 1, 0, 1, 0, 1, 0, 1, 0, 1, 0, 0, 1, 0, 0, 1, 1, 1, 0, 0, 1, 0, 0, 1, 1, 1, 0, 1, 0, 1, 0, 1, 0, 1, 0]) rfl rfl (by kernel_rfl) (by kernel_rfl) ?_ w (Laid.nil w)
  have f0 : (decide ((key.size : Int) > 100)) = false := by rw [Bool.eq_iff_iff]; simp; omega
  have f1 : (decide ((val.size : Int) > 100)) = false := by rw [Bool.eq_iff_iff]; simp; omega
  have f2 : (K != 1) = true := by rw [Bool.eq_iff_iff]; simp; omega
  have f3 : (K != 2) = false := by rw [Bool.eq_iff_iff]; simp; omega
  have f4 : (K == 1) = false := by rw [Bool.eq_iff_iff]; simp; omega
  have f5 : (decide (Y < 1)) = false := by rw [Bool.eq_iff_iff]; simp; omega
  have f6 : (decide (Y > 8)) = false := by rw [Bool.eq_iff_iff]; simp; omega
  have f7 : (decide (V < 1)) = false := by rw [Bool.eq_iff_iff]; simp; omega
  have f8 : (decide (V > 64)) = false := by rw [Bool.eq_iff_iff]; simp; omega
  have f9 : (decide (M < 1)) = false := by rw [Bool.eq_iff_iff]; simp; omega
  have f10 : (decide (M > 16)) = true := by rw [Bool.eq_iff_iff]; simp; omega
  have f11 : (K == 2) = true := by rw [Bool.eq_iff_iff]; simp; omega
  have f12 : (decide (V ≥ 1)) = true := by rw [Bool.eq_iff_iff]; simp; omega
  have f13 : (decide (V ≤ 64)) = true := by rw [Bool.eq_iff_iff]; simp; omega
  have f14 : (decide (M ≥ 1)) = true := by rw [Bool.eq_iff_iff]; simp; omega
  have f15 : (decide (M ≤ 16)) = false := by rw [Bool.eq_iff_iff]; simp; omega
  have f16 : (decide (mp ≥ 0)) = true := by rw [Bool.eq_iff_iff]; simp; omega
  have f17 : (decide (mp < 0)) = false := by rw [Bool.eq_iff_iff]; simp; omega
  simp only [f0, f1, f2, f3, f4, f5, f6, f7, f8, f9, f10, f11, f12, f13, f14, f15, f16, f17, b2i]
set_option maxRecDepth 1000000 in
set_option maxHeartbeats 0 in
theorem mapsNone_hash_m16_n (k mp K Y V M : Int) (key val : ByteArray) (h0 : mp < 0) (h1 : ¬ (key.size : Int) > 100) (h2 : ¬ (val.size : Int) > 100) (h3 : K = 2) (h4 : 1 ≤ Y) (h9 : Y ≤ 8) (h5 : 1 ≤ V) (h6 : V ≤ 64) (h7 : 1 ≤ M) (h8 : M > 16) (w : World) : Calls Try.prog 8 #[.agg #[.int .u8 k, .int .i64 mp, .string key, .string val], .agg #[.int .i64 K, .int .i64 Y, .int .i64 V, .int .i64 M]] w fun e w' => e = .returned (.bool true) ∧ Gr w w' := by
  refine reckonS_ok noNG (hk := nHook) nHook_ok (pOrc false true true false false false false false true false false false) 100000 300 [] (ls := [b2i (decide ((key.size : Int) > 100)), b2i (decide ((val.size : Int) > 100)), b2i (K != 1), b2i (K != 2), b2i (K == 1), b2i (decide (Y < 1)), b2i (decide (Y > 8)), b2i (decide (V < 1)), b2i (decide (V > 64)), b2i (decide (M < 1)), b2i (decide (M > 16)), b2i (K == 1), b2i (K == 2), b2i (decide (Y < 1)), b2i (decide (Y > 8)), b2i (decide (V ≥ 1)), b2i (decide (V ≤ 64)), b2i (decide (M ≥ 1)), b2i (decide (M ≤ 16)), b2i (K == 1), b2i (K == 2), b2i (decide (Y < 1)), b2i (decide (Y > 8)), b2i (decide (V ≥ 1)), b2i (decide (V ≤ 64)), b2i (decide (M ≥ 1)), b2i (decide (M ≤ 16)), b2i (decide (mp ≥ 0)), b2i (decide (mp ≥ 0)), b2i (decide (mp ≥ 0)), b2i (decide (mp ≥ 0)), b2i (K == 1), b2i (K == 2), b2i (decide (Y < 1)), b2i (decide (Y > 8)), b2i (decide (V ≥ 1)), b2i (decide (V ≤ 64)), b2i (decide (M ≥ 1)), b2i (decide (M ≤ 16)), b2i (K == 1), b2i (K == 2), b2i (decide (Y < 1)), b2i (decide (Y > 8)), b2i (decide (V ≥ 1)), b2i (decide (V ≤ 64)), b2i (decide (M ≥ 1)), b2i (decide (M ≤ 16)), b2i (decide (mp ≥ 0)), b2i (decide (mp ≥ 0)), b2i (decide (mp ≥ 0)), b2i (decide (mp ≥ 0))]) (rs := [0, 0, 1, 0, 0, 0, 0, 0, 0, 0, 1, 0, 1, 0, 0, 1, 1, 1, 0, 0, 1, 0, 0, 1, 1, 1, 0, 0, 0, 0, 0, 0, 1, 0, 0, 1, 1, 1, 0, 0, 1, 0, 0, 1, 1, 1, 0, 0, 0, 0, 0]) rfl rfl (by kernel_rfl) (by kernel_rfl) ?_ w (Laid.nil w)
  have f0 : (decide ((key.size : Int) > 100)) = false := by rw [Bool.eq_iff_iff]; simp; omega
  have f1 : (decide ((val.size : Int) > 100)) = false := by rw [Bool.eq_iff_iff]; simp; omega
  have f2 : (K != 1) = true := by rw [Bool.eq_iff_iff]; simp; omega
  have f3 : (K != 2) = false := by rw [Bool.eq_iff_iff]; simp; omega
  have f4 : (K == 1) = false := by rw [Bool.eq_iff_iff]; simp; omega
  have f5 : (decide (Y < 1)) = false := by rw [Bool.eq_iff_iff]; simp; omega
  have f6 : (decide (Y > 8)) = false := by rw [Bool.eq_iff_iff]; simp; omega
  have f7 : (decide (V < 1)) = false := by rw [Bool.eq_iff_iff]; simp; omega
  have f8 : (decide (V > 64)) = false := by rw [Bool.eq_iff_iff]; simp; omega
  have f9 : (decide (M < 1)) = false := by rw [Bool.eq_iff_iff]; simp; omega
  have f10 : (decide (M > 16)) = true := by rw [Bool.eq_iff_iff]; simp; omega
  have f11 : (K == 2) = true := by rw [Bool.eq_iff_iff]; simp; omega
  have f12 : (decide (V ≥ 1)) = true := by rw [Bool.eq_iff_iff]; simp; omega
  have f13 : (decide (V ≤ 64)) = true := by rw [Bool.eq_iff_iff]; simp; omega
  have f14 : (decide (M ≥ 1)) = true := by rw [Bool.eq_iff_iff]; simp; omega
  have f15 : (decide (M ≤ 16)) = false := by rw [Bool.eq_iff_iff]; simp; omega
  have f16 : (decide (mp ≥ 0)) = false := by rw [Bool.eq_iff_iff]; simp; omega
  simp only [f0, f1, f2, f3, f4, f5, f6, f7, f8, f9, f10, f11, f12, f13, f14, f15, f16, b2i]
set_option maxRecDepth 1000000 in
set_option maxHeartbeats 0 in
theorem mapsNone_hash_fit_p (k mp K Y V M : Int) (key val : ByteArray) (h0 : 0 ≤ mp) (h1 : ¬ (key.size : Int) > 100) (h2 : ¬ (val.size : Int) > 100) (h3 : K = 2) (h4 : 1 ≤ Y) (h9 : Y ≤ 8) (h5 : 1 ≤ V) (h6 : V ≤ 64) (h7 : 1 ≤ M) (h8 : M ≤ 16) (w : World) : Calls Try.prog 8 #[.agg #[.int .u8 k, .int .i64 mp, .string key, .string val], .agg #[.int .i64 K, .int .i64 Y, .int .i64 V, .int .i64 M]] w fun e w' => e = .returned (.bool true) ∧ Gr w w' := by
  refine reckonS_ok noNG (hk := nHook) nHook_ok (pOrc false true true false false false false false false false false true) 100000 300 [] (ls := [b2i (decide ((key.size : Int) > 100)), b2i (decide ((val.size : Int) > 100)), b2i (K != 1), b2i (K != 2), b2i (K == 1), b2i (decide (Y < 1)), b2i (decide (Y > 8)), b2i (decide (V < 1)), b2i (decide (V > 64)), b2i (decide (M < 1)), b2i (decide (M > 16)), b2i (K == 1), b2i (K == 2), b2i (decide (Y < 1)), b2i (decide (Y > 8)), b2i (decide (V ≥ 1)), b2i (decide (V ≤ 64)), b2i (decide (M ≥ 1)), b2i (decide (M ≤ 16)), b2i (K == 1), b2i (K == 2), b2i (decide (Y < 1)), b2i (decide (Y > 8)), b2i (decide (V ≥ 1)), b2i (decide (V ≤ 64)), b2i (decide (M ≥ 1)), b2i (decide (M ≤ 16)), b2i (K == 1), b2i (K == 2), b2i (decide (Y < 1)), b2i (decide (Y > 8)), b2i (decide (V ≥ 1)), b2i (decide (V ≤ 64)), b2i (decide (M ≥ 1)), b2i (decide (M ≤ 16)), b2i (repB (V * M)), b2i (lenB (V * M)), b2i (decide (mp ≥ 0)), b2i (decide (mp < 0)), b2i (decide (mp ≥ 0)), b2i (decide (mp < 0)), b2i (decide (mp ≥ 0)), b2i (decide (mp < 0)), b2i (decide (mp ≥ 0)), b2i (decide (mp < 0)), b2i (K == 1), b2i (K == 2), b2i (decide (Y < 1)), b2i (decide (Y > 8)), b2i (decide (V ≥ 1)), b2i (decide (V ≤ 64)), b2i (decide (M ≥ 1)), b2i (decide (M ≤ 16)), b2i (K == 1), b2i (K == 2), b2i (decide (Y < 1)), b2i (decide (Y > 8)), b2i (decide (V ≥ 1)), b2i (decide (V ≤ 64)), b2i (decide (M ≥ 1)), b2i (decide (M ≤ 16)), b2i (K == 1), b2i (K == 2), b2i (decide (Y < 1)), b2i (decide (Y > 8)), b2i (decide (V ≥ 1)), b2i (decide (V ≤ 64)), b2i (decide (M ≥ 1)), b2i (decide (M ≤ 16)), b2i (repB (V * M)), b2i (lenB (V * M)), b2i (decide (mp ≥ 0)), b2i (decide (mp < 0)), b2i (decide (mp ≥ 0)), b2i (decide (mp < 0)), b2i (decide (mp ≥ 0)), b2i (decide (mp < 0)), b2i (decide (mp ≥ 0)), b2i (decide (mp < 0))]) (rs := [0, 0, 1, 0, 0, 0, 0, 0, 0, 0, 0, 0, 1, 0, 0, 1, 1, 1, 1, 0, 1, 0, 0, 1, 1, 1, 1, 0, 1, 0, 0, 1, 1, 1, 1, 1, 1, 1, 0, 1, 0, 1, 0, 1, 0, 0, 1, 0, 0, 1, 1, 1, 1, 0, 1, 0, 0, 1, 1, 1, 1, 0, 1, 0, 0, 1, 1, 1, 1, 1, 1, 1, 0, 1, 0, 1, 0, 1, 0]) rfl rfl (by kernel_rfl) (by kernel_rfl) ?_ w (Laid.nil w)
  have f0 : (decide ((key.size : Int) > 100)) = false := by rw [Bool.eq_iff_iff]; simp; omega
  have f1 : (decide ((val.size : Int) > 100)) = false := by rw [Bool.eq_iff_iff]; simp; omega
  have f2 : (K != 1) = true := by rw [Bool.eq_iff_iff]; simp; omega
  have f3 : (K != 2) = false := by rw [Bool.eq_iff_iff]; simp; omega
  have f4 : (K == 1) = false := by rw [Bool.eq_iff_iff]; simp; omega
  have f5 : (decide (Y < 1)) = false := by rw [Bool.eq_iff_iff]; simp; omega
  have f6 : (decide (Y > 8)) = false := by rw [Bool.eq_iff_iff]; simp; omega
  have f7 : (decide (V < 1)) = false := by rw [Bool.eq_iff_iff]; simp; omega
  have f8 : (decide (V > 64)) = false := by rw [Bool.eq_iff_iff]; simp; omega
  have f9 : (decide (M < 1)) = false := by rw [Bool.eq_iff_iff]; simp; omega
  have f10 : (decide (M > 16)) = false := by rw [Bool.eq_iff_iff]; simp; omega
  have f11 : (K == 2) = true := by rw [Bool.eq_iff_iff]; simp; omega
  have f12 : (decide (V ≥ 1)) = true := by rw [Bool.eq_iff_iff]; simp; omega
  have f13 : (decide (V ≤ 64)) = true := by rw [Bool.eq_iff_iff]; simp; omega
  have f14 : (decide (M ≥ 1)) = true := by rw [Bool.eq_iff_iff]; simp; omega
  have f15 : (decide (M ≤ 16)) = true := by rw [Bool.eq_iff_iff]; simp; omega
  have f16 : (repB (V * M)) = true := rep_in (prod_in h5 h6 h7 h8)
  have f17 : (lenB (V * M)) = true := len_in (prod_in h5 h6 h7 h8)
  have f18 : (decide (mp ≥ 0)) = true := by rw [Bool.eq_iff_iff]; simp; omega
  have f19 : (decide (mp < 0)) = false := by rw [Bool.eq_iff_iff]; simp; omega
  simp only [f0, f1, f2, f3, f4, f5, f6, f7, f8, f9, f10, f11, f12, f13, f14, f15, f16, f17, f18, f19, b2i]
set_option maxRecDepth 1000000 in
set_option maxHeartbeats 0 in
theorem mapsNone_hash_fit_n (k mp K Y V M : Int) (key val : ByteArray) (h0 : mp < 0) (h1 : ¬ (key.size : Int) > 100) (h2 : ¬ (val.size : Int) > 100) (h3 : K = 2) (h4 : 1 ≤ Y) (h9 : Y ≤ 8) (h5 : 1 ≤ V) (h6 : V ≤ 64) (h7 : 1 ≤ M) (h8 : M ≤ 16) (w : World) : Calls Try.prog 8 #[.agg #[.int .u8 k, .int .i64 mp, .string key, .string val], .agg #[.int .i64 K, .int .i64 Y, .int .i64 V, .int .i64 M]] w fun e w' => e = .returned (.bool true) ∧ Gr w w' := by
  refine reckonS_ok noNG (hk := nHook) nHook_ok (pOrc false true true false false false false false false false false false) 100000 300 [] (ls := [b2i (decide ((key.size : Int) > 100)), b2i (decide ((val.size : Int) > 100)), b2i (K != 1), b2i (K != 2), b2i (K == 1), b2i (decide (Y < 1)), b2i (decide (Y > 8)), b2i (decide (V < 1)), b2i (decide (V > 64)), b2i (decide (M < 1)), b2i (decide (M > 16)), b2i (K == 1), b2i (K == 2), b2i (decide (Y < 1)), b2i (decide (Y > 8)), b2i (decide (V ≥ 1)), b2i (decide (V ≤ 64)), b2i (decide (M ≥ 1)), b2i (decide (M ≤ 16)), b2i (K == 1), b2i (K == 2), b2i (decide (Y < 1)), b2i (decide (Y > 8)), b2i (decide (V ≥ 1)), b2i (decide (V ≤ 64)), b2i (decide (M ≥ 1)), b2i (decide (M ≤ 16)), b2i (K == 1), b2i (K == 2), b2i (decide (Y < 1)), b2i (decide (Y > 8)), b2i (decide (V ≥ 1)), b2i (decide (V ≤ 64)), b2i (decide (M ≥ 1)), b2i (decide (M ≤ 16)), b2i (repB (V * M)), b2i (lenB (V * M)), b2i (decide (mp ≥ 0)), b2i (decide (mp ≥ 0)), b2i (decide (mp ≥ 0)), b2i (decide (mp ≥ 0)), b2i (K == 1), b2i (K == 2), b2i (decide (Y < 1)), b2i (decide (Y > 8)), b2i (decide (V ≥ 1)), b2i (decide (V ≤ 64)), b2i (decide (M ≥ 1)), b2i (decide (M ≤ 16)), b2i (K == 1), b2i (K == 2), b2i (decide (Y < 1)), b2i (decide (Y > 8)), b2i (decide (V ≥ 1)), b2i (decide (V ≤ 64)), b2i (decide (M ≥ 1)), b2i (decide (M ≤ 16)), b2i (K == 1), b2i (K == 2), b2i (decide (Y < 1)), b2i (decide (Y > 8)), b2i (decide (V ≥ 1)), b2i (decide (V ≤ 64)), b2i (decide (M ≥ 1)), b2i (decide (M ≤ 16)), b2i (repB (V * M)), b2i (lenB (V * M)), b2i (decide (mp ≥ 0)), b2i (decide (mp ≥ 0)), b2i (decide (mp ≥ 0)), b2i (decide (mp ≥ 0))]) (rs := [0, 0, 1, 0, 0, 0, 0, 0, 0, 0, 0, 0, 1, 0, 0, 1, 1, 1, 1, 0, 1, 0, 0, 1, 1, 1, 1, 0, 1, 0, 0, 1, 1, 1, 1, 1, 1, 0, 0, 0, 0, 0, 1, 0, 0, 1, 1, 1, 1, 0, 1, 0, 0, 1, 1, 1, 1, 0, 1, 0, 0, 1, 1, 1, 1, 1, 1, 0, 0, 0, 0]) rfl rfl (by kernel_rfl) (by kernel_rfl) ?_ w (Laid.nil w)
  have f0 : (decide ((key.size : Int) > 100)) = false := by rw [Bool.eq_iff_iff]; simp; omega
  have f1 : (decide ((val.size : Int) > 100)) = false := by rw [Bool.eq_iff_iff]; simp; omega
  have f2 : (K != 1) = true := by rw [Bool.eq_iff_iff]; simp; omega
  have f3 : (K != 2) = false := by rw [Bool.eq_iff_iff]; simp; omega
  have f4 : (K == 1) = false := by rw [Bool.eq_iff_iff]; simp; omega
  have f5 : (decide (Y < 1)) = false := by rw [Bool.eq_iff_iff]; simp; omega
  have f6 : (decide (Y > 8)) = false := by rw [Bool.eq_iff_iff]; simp; omega
  have f7 : (decide (V < 1)) = false := by rw [Bool.eq_iff_iff]; simp; omega
  have f8 : (decide (V > 64)) = false := by rw [Bool.eq_iff_iff]; simp; omega
  have f9 : (decide (M < 1)) = false := by rw [Bool.eq_iff_iff]; simp; omega
  have f10 : (decide (M > 16)) = false := by rw [Bool.eq_iff_iff]; simp; omega
  have f11 : (K == 2) = true := by rw [Bool.eq_iff_iff]; simp; omega
  have f12 : (decide (V ≥ 1)) = true := by rw [Bool.eq_iff_iff]; simp; omega
  have f13 : (decide (V ≤ 64)) = true := by rw [Bool.eq_iff_iff]; simp; omega
  have f14 : (decide (M ≥ 1)) = true := by rw [Bool.eq_iff_iff]; simp; omega
  have f15 : (decide (M ≤ 16)) = true := by rw [Bool.eq_iff_iff]; simp; omega
  have f16 : (repB (V * M)) = true := rep_in (prod_in h5 h6 h7 h8)
  have f17 : (lenB (V * M)) = true := len_in (prod_in h5 h6 h7 h8)
  have f18 : (decide (mp ≥ 0)) = false := by rw [Bool.eq_iff_iff]; simp; omega
  simp only [f0, f1, f2, f3, f4, f5, f6, f7, f8, f9, f10, f11, f12, f13, f14, f15, f16, f17, f18, b2i]
theorem mapsNone_walk (k mp K Y V M : Int) (key val : ByteArray) (w : World) : Calls Try.prog 8 #[.agg #[.int .u8 k, .int .i64 mp, .string key, .string val], .agg #[.int .i64 K, .int .i64 Y, .int .i64 V, .int .i64 M]] w fun e w' => e = .returned (.bool true) ∧ Gr w w' := by
  by_cases h1 : (key.size : Int) > 100
  · exact mapsNone_keyLong k mp K Y V M key val h1 w
  by_cases h2 : (val.size : Int) > 100
  · exact mapsNone_valLong k mp K Y V M key val h1 h2 w
  by_cases a1 : K = 1
  · by_cases h4 : Y = 4
    · by_cases h5 : V < 1
      · rcases Int.lt_or_le mp 0 with h0 | h0
        · exact mapsNone_arr_v1_n k mp K Y V M key val h0 h1 h2 a1 h4 h5 w
        · exact mapsNone_arr_v1_p k mp K Y V M key val h0 h1 h2 a1 h4 h5 w
      replace h5 : 1 ≤ V := by omega
      by_cases h6 : V > 64
      · rcases Int.lt_or_le mp 0 with h0 | h0
        · exact mapsNone_arr_v64_n k mp K Y V M key val h0 h1 h2 a1 h4 h5 h6 w
        · exact mapsNone_arr_v64_p k mp K Y V M key val h0 h1 h2 a1 h4 h5 h6 w
      replace h6 : V ≤ 64 := by omega
      by_cases h7 : M < 1
      · rcases Int.lt_or_le mp 0 with h0 | h0
        · exact mapsNone_arr_m1_n k mp K Y V M key val h0 h1 h2 a1 h4 h5 h6 h7 w
        · exact mapsNone_arr_m1_p k mp K Y V M key val h0 h1 h2 a1 h4 h5 h6 h7 w
      replace h7 : 1 ≤ M := by omega
      by_cases h8 : M > 16
      · rcases Int.lt_or_le mp 0 with h0 | h0
        · exact mapsNone_arr_m16_n k mp K Y V M key val h0 h1 h2 a1 h4 h5 h6 h7 h8 w
        · exact mapsNone_arr_m16_p k mp K Y V M key val h0 h1 h2 a1 h4 h5 h6 h7 h8 w
      replace h8 : M ≤ 16 := by omega
      rcases Int.lt_or_le mp 0 with h0 | h0
      · exact mapsNone_arr_fit_n k mp K Y V M key val h0 h1 h2 a1 h4 h5 h6 h7 h8 w
      · exact mapsNone_arr_fit_p k mp K Y V M key val h0 h1 h2 a1 h4 h5 h6 h7 h8 w
    · rcases Int.lt_or_le mp 0 with h0 | h0
      · exact mapsNone_keyArr_n k mp K Y V M key val h0 h1 h2 a1 h4 w
      · exact mapsNone_keyArr_p k mp K Y V M key val h0 h1 h2 a1 h4 w
  by_cases a2 : K = 2
  · by_cases h4 : Y < 1
    · rcases Int.lt_or_le mp 0 with h0 | h0
      · exact mapsNone_hash_y1_n k mp K Y V M key val h0 h1 h2 a2 h4 w
      · exact mapsNone_hash_y1_p k mp K Y V M key val h0 h1 h2 a2 h4 w
    by_cases h9 : Y > 8
    · rcases Int.lt_or_le mp 0 with h0 | h0
      · exact mapsNone_hash_y8_n k mp K Y V M key val h0 h1 h2 a2 h9 w
      · exact mapsNone_hash_y8_p k mp K Y V M key val h0 h1 h2 a2 h9 w
    replace h4 : 1 ≤ Y := by omega
    replace h9 : Y ≤ 8 := by omega
    by_cases h5 : V < 1
    · rcases Int.lt_or_le mp 0 with h0 | h0
      · exact mapsNone_hash_v1_n k mp K Y V M key val h0 h1 h2 a2 h4 h9 h5 w
      · exact mapsNone_hash_v1_p k mp K Y V M key val h0 h1 h2 a2 h4 h9 h5 w
    replace h5 : 1 ≤ V := by omega
    by_cases h6 : V > 64
    · rcases Int.lt_or_le mp 0 with h0 | h0
      · exact mapsNone_hash_v64_n k mp K Y V M key val h0 h1 h2 a2 h4 h9 h5 h6 w
      · exact mapsNone_hash_v64_p k mp K Y V M key val h0 h1 h2 a2 h4 h9 h5 h6 w
    replace h6 : V ≤ 64 := by omega
    by_cases h7 : M < 1
    · rcases Int.lt_or_le mp 0 with h0 | h0
      · exact mapsNone_hash_m1_n k mp K Y V M key val h0 h1 h2 a2 h4 h9 h5 h6 h7 w
      · exact mapsNone_hash_m1_p k mp K Y V M key val h0 h1 h2 a2 h4 h9 h5 h6 h7 w
    replace h7 : 1 ≤ M := by omega
    by_cases h8 : M > 16
    · rcases Int.lt_or_le mp 0 with h0 | h0
      · exact mapsNone_hash_m16_n k mp K Y V M key val h0 h1 h2 a2 h4 h9 h5 h6 h7 h8 w
      · exact mapsNone_hash_m16_p k mp K Y V M key val h0 h1 h2 a2 h4 h9 h5 h6 h7 h8 w
    replace h8 : M ≤ 16 := by omega
    rcases Int.lt_or_le mp 0 with h0 | h0
    · exact mapsNone_hash_fit_n k mp K Y V M key val h0 h1 h2 a2 h4 h9 h5 h6 h7 h8 w
    · exact mapsNone_hash_fit_p k mp K Y V M key val h0 h1 h2 a2 h4 h9 h5 h6 h7 h8 w
  rcases Int.lt_or_le mp 0 with h0 | h0
  · exact mapsNone_kind_n k mp K Y V M key val h0 h1 h2 a1 a2 w
  · exact mapsNone_kind_p k mp K Y V M key val h0 h1 h2 a1 a2 w
end Go.Proofs.Ytcpgbhmddfakgaa.Ex
