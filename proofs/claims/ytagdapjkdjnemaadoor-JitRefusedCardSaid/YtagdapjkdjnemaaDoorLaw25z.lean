/-
  The law JitRefused: all twenty ways.
-/
import Derived.Test.YtagdapjkdjnemaaDoorLaw25c
import Derived.Test.YtagdapjkdjnemaaDoorLaw25d
import Derived.Test.YtagdapjkdjnemaaDoorLaw25e
import Derived.Test.YtagdapjkdjnemaaDoorLaw25f
import Derived.Test.YtagdapjkdjnemaaDoorLaw25g
namespace Go.Proofs.YtagdapjkdjnemaaDoor.Ex
open Go Go.RowKit
theorem jitRefused_walk (m u : Int) (hm : (Lit.int .u8 m).wf = true) (hu : (Lit.int .u8 u).wf = true) (w : World) (hL : Laid h25 w) : Calls Tryd.prog 4 #[.int .u8 m, .int .u8 u] w fun e w' => e = .returned (.bool true) ∧ Gr w w' := by
  have hb : 0 ≤ m ∧ m ≤ 255 := by
    simp [Lit.wf, IntKind.min, IntKind.max, IntKind.signed, IntKind.bits] at hm
    omega
  have hc : 0 ≤ u ∧ u ≤ 255 := by
    simp [Lit.wf, IntKind.min, IntKind.max, IntKind.signed, IntKind.bits] at hu
    omega
  have e1 : IntKind.i64.wrap m = m := by
    simp [IntKind.wrap, IntKind.bits, IntKind.signed]
    omega
  have e2 : (IntKind.i64.wrap m).tmod 4 = m % 4 := by rw [e1]; exact Int.tmod_eq_emod_of_nonneg hb.1
  have e3 : u.tmod 5 = u % 5 := Int.tmod_eq_emod_of_nonneg hc.1
  have hr : m % 4 = 0 ∨ m % 4 = 1 ∨ m % 4 = 2 ∨ m % 4 = 3 := by omega
  have hq : u % 5 = 0 ∨ u % 5 = 1 ∨ u % 5 = 2 ∨ u % 5 = 3 ∨ u % 5 = 4 := by omega
  rcases hr with h | h | h | h <;> rcases hq with g | g | g | g | g
  · exact jr_0_0 m u (e2.trans h) (e3.trans g) w hL
  · exact jr_0_1 m u (e2.trans h) (e3.trans g) w hL
  · exact jr_0_2 m u (e2.trans h) (e3.trans g) w hL
  · exact jr_0_3 m u (e2.trans h) (e3.trans g) w hL
  · exact jr_0_4 m u (e2.trans h) (e3.trans g) w hL
  · exact jr_1_0 m u (e2.trans h) (e3.trans g) w hL
  · exact jr_1_1 m u (e2.trans h) (e3.trans g) w hL
  · exact jr_1_2 m u (e2.trans h) (e3.trans g) w hL
  · exact jr_1_3 m u (e2.trans h) (e3.trans g) w hL
  · exact jr_1_4 m u (e2.trans h) (e3.trans g) w hL
  · exact jr_2_0 m u (e2.trans h) (e3.trans g) w hL
  · exact jr_2_1 m u (e2.trans h) (e3.trans g) w hL
  · exact jr_2_2 m u (e2.trans h) (e3.trans g) w hL
  · exact jr_2_3 m u (e2.trans h) (e3.trans g) w hL
  · exact jr_2_4 m u (e2.trans h) (e3.trans g) w hL
  · exact jr_3_0 m u (e2.trans h) (e3.trans g) w hL
  · exact jr_3_1 m u (e2.trans h) (e3.trans g) w hL
  · exact jr_3_2 m u (e2.trans h) (e3.trans g) w hL
  · exact jr_3_3 m u (e2.trans h) (e3.trans g) w hL
  · exact jr_3_4 m u (e2.trans h) (e3.trans g) w hL
end Go.Proofs.YtagdapjkdjnemaaDoor.Ex
