/-
  Layer 11: bytes of numbers; parts of an instruction's bytes.
-/
import Derived.Test.YtbaiokfjoglmiaaDoorCd2
namespace Go.Proofs.YtbaiokfjoglmiaaDoor.Ex
open Go Go.RowKit
set_option linter.unusedVariables false
set_option linter.unusedSimpArgs false
set_option maxHeartbeats 0
set_option maxRecDepth 1000000
def byP (v : Int) : Nat → Nat → List UInt8
  | 0, _ => []
  | n + 1, i => UInt8.ofNat (IntKind.u8.wrap (Int.fdiv v (2 ^ (8 * i)))).toNat :: byP v n (i + 1)
def byR : Int → Nat → List UInt8
  | _, 0 => []
  | v, n + 1 => UInt8.ofNat (IntKind.u8.wrap (Int.tmod v 256)).toNat :: byR (IntKind.u64.wrap (Int.tdiv v 256)) n
def nOk (n : Int) : Bool := n == 0 || (n == 1 || (n == 4 || n == 8))
theorem bytes_0 (v : Int) : Lf [] 33 [.int .u64 v, .int .i64 0] (.string ⟨⟨byP v 0 0⟩⟩) [] := lf hkZ_ok noOrc (by kernel_rfl) (by kernel_rfl) (by kernel_rfl)
theorem bytes_1 (v : Int) : Lf [] 33 [.int .u64 v, .int .i64 1] (.string ⟨⟨byP v 1 0⟩⟩) [] := lf hkZ_ok noOrc (by kernel_rfl) (by kernel_rfl) (by kernel_rfl)
theorem bytes_4 (v : Int) : Lf [] 33 [.int .u64 v, .int .i64 4] (.string ⟨⟨byP v 4 0⟩⟩) [] := lf hkZ_ok noOrc (by kernel_rfl) (by kernel_rfl) (by kernel_rfl)
theorem bytes_8 (v : Int) : Lf [] 33 [.int .u64 v, .int .i64 8] (.string ⟨⟨byP v 8 0⟩⟩) [] := lf hkZ_ok noOrc (by kernel_rfl) (by kernel_rfl) (by kernel_rfl)
def hk_bytes : Hook := fun f args h =>
  if Nat.beq f 33 then
    match args with
    | [.int .u64 v, .int .i64 n] => if nOk n then some (.string ⟨⟨byP v n.toNat 0⟩⟩, []) else none
    | _ => none
  else none
theorem hk_bytes_ok : HookOk Tryd.prog hk_bytes := by
  intro f args h v cs hv hc wb k s w H
  unfold hk_bytes at hv
  split at hv
  · rename_i hf
    obtain rfl := Nat.eq_of_beq_eq_true hf
    split at hv
    · split at hv
      · rename_i hn
        cases hv
        simp only [nOk, Bool.or_eq_true, beq_iff_eq] at hn
        rcases hn with rfl | rfl | rfl | rfl
        · exact bytes_0 _ rfl w (Laid.nil w)
        · exact bytes_1 _ rfl w (Laid.nil w)
        · exact bytes_4 _ rfl w (Laid.nil w)
        · exact bytes_8 _ rfl w (Laid.nil w)
      · cases hv
    · cases hv
  · cases hv
theorem rbytes_0 (v : Int) : Lf [] 37 [.int .u64 v, .int .i64 0] (.string ⟨⟨byR v 0⟩⟩) [] := lf hkZ_ok noOrc (by kernel_rfl) (by kernel_rfl) (by kernel_rfl)
theorem rbytes_1 (v : Int) : Lf [] 37 [.int .u64 v, .int .i64 1] (.string ⟨⟨byR v 1⟩⟩) [] := lf hkZ_ok noOrc (by kernel_rfl) (by kernel_rfl) (by kernel_rfl)
theorem rbytes_4 (v : Int) : Lf [] 37 [.int .u64 v, .int .i64 4] (.string ⟨⟨byR v 4⟩⟩) [] := lf hkZ_ok noOrc (by kernel_rfl) (by kernel_rfl) (by kernel_rfl)
theorem rbytes_8 (v : Int) : Lf [] 37 [.int .u64 v, .int .i64 8] (.string ⟨⟨byR v 8⟩⟩) [] := lf hkZ_ok noOrc (by kernel_rfl) (by kernel_rfl) (by kernel_rfl)
def hk_rbytes : Hook := fun f args h =>
  if Nat.beq f 37 then
    match args with
    | [.int .u64 v, .int .i64 n] => if nOk n then some (.string ⟨⟨byR v n.toNat⟩⟩, []) else none
    | _ => none
  else none
theorem hk_rbytes_ok : HookOk Tryd.prog hk_rbytes := by
  intro f args h v cs hv hc wb k s w H
  unfold hk_rbytes at hv
  split at hv
  · rename_i hf
    obtain rfl := Nat.eq_of_beq_eq_true hf
    split at hv
    · split at hv
      · rename_i hn
        cases hv
        simp only [nOk, Bool.or_eq_true, beq_iff_eq] at hn
        rcases hn with rfl | rfl | rfl | rfl
        · exact rbytes_0 _ rfl w (Laid.nil w)
        · exact rbytes_1 _ rfl w (Laid.nil w)
        · exact rbytes_4 _ rfl w (Laid.nil w)
        · exact rbytes_8 _ rfl w (Laid.nil w)
      · cases hv
    · cases hv
  · cases hv
def hkE : Hook := orHook hk_valid (orHook hk_bytes (hkZ))
theorem hkE_ok : HookOk Tryd.prog hkE := orHook_ok hk_valid_ok (orHook_ok hk_bytes_ok (hkZ_ok))
end Go.Proofs.YtbaiokfjoglmiaaDoor.Ex
