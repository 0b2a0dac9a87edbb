/-
  Layer 9: the law HelpersLaid: all its ways together.
-/
import Derived.Test.YthajaakoiclkbaaDoorLaw09c
import Derived.Test.YthajaakoiclkbaaDoorLaw09d
import Derived.Test.YthajaakoiclkbaaDoorLaw09f
import Derived.Test.YthajaakoiclkbaaDoorLaw09g
namespace Go.Proofs.YthajaakoiclkbaaDoor.Ex
open Go Go.RowKit
theorem eqD_rfl3 (a : Int) (s : ByteArray) (b : Bool) : eqD [.int .u64 a, .string s, .bool b] [.int .u64 a, .string s, .bool b] = true := by simp [eqD, eqW]
theorem helpersLaid_walk (k0 k1 v0 v1 v2 v3 flag : Int) (wf : (Lit.int .u64 flag).wf = true) (w : World) (hL : Laid h09 w) :
    Calls Tryd.prog 3 #[.agg ⟨[.int .u8 k0, .int .u8 k1]⟩, .agg ⟨[.int .u8 v0, .int .u8 v1, .int .u8 v2, .int .u8 v3]⟩, .int .u64 flag] w fun e w' => e = .returned (.bool true) ∧ Gr w w' := by
  have hb : 0 ≤ flag := by
    simp [Lit.wf, IntKind.min, IntKind.max, IntKind.signed, IntKind.bits] at wf
    omega
  obtain ⟨n, rfl⟩ := Int.eq_ofNat_of_zero_le hb
  have e1 : ∀ l : List UInt8, (l == l) = true := fun l => by simp
  cases hD : (!eqD [.int .u64 1114112, .string (⟨⟨[laidB v0, laidB v1, laidB v2, laidB v3, 0, 0, 0, 0, 0, 0, 0, 0]⟩⟩ : ByteArray), .bool true] [.int .u64 1114112, .string (⟨⟨[0, 0, 0, 0, 0, 0, 0, 0, 0, 0, 0, 0]⟩⟩ : ByteArray), .bool true]) with
  | false =>
    cases n with
    | zero => exact hl00_run k0 k1 v0 v1 v2 v3 w hL (by simp only [hl00Cs, List.map_cons, List.map_nil, hD, eqD_rfl3, e1, Bool.not_true]; simp only [laidB_eq, e1, Bool.not_true]; rfl)
    | succ n => exact hl10_run k0 k1 v0 v1 v2 v3 n w hL (by simp only [hl10Cs, List.map_cons, List.map_nil, hD, eqD_rfl3, e1, Bool.not_true]; simp only [laidB_eq, e1, Bool.not_true]; rfl)
  | true =>
    cases n with
    | zero => exact hl01_run k0 k1 v0 v1 v2 v3 w hL (by simp only [hl01Cs, List.map_cons, List.map_nil, hD, eqD_rfl3, e1, Bool.not_true]; simp only [laidB_eq, e1, Bool.not_true]; rfl)
    | succ n => exact hl11_run k0 k1 v0 v1 v2 v3 n w hL (by simp only [hl11Cs, List.map_cons, List.map_nil, hD, eqD_rfl3, e1, Bool.not_true]; simp only [laidB_eq, e1, Bool.not_true]; rfl)
end Go.Proofs.YthajaakoiclkbaaDoor.Ex
