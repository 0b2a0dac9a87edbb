/-
  The law ScalarsTight returns true: what is known of a number holds of it when it is drawn tight, and is not wider than it was.
-/
import Derived.Test.YtchjneodjaakdaaGreatRows
import Derived.Test.YtchjneodjaakdaaGreatPackH
import Derived.WalkKit
import Derived.ProofKit
import Derived.OpenShut
namespace Go.Proofs.YtchjneodjaakdaaGreat.scalarsTight
open Go.ChangeShapes Go.WideShapes Go.ChangeAt Go.RowKit
set_option linter.unusedVariables false

theorem own : ownKnob Tryz.prog.godebug = none := by kernel_rfl

theorem walk (a0 : Int) (a1_0 : Int) (a1_1 : Int) (a1_2 : Int) (a1_3 : Int) (a1_4 : Int) (a2 : Int) (w : World) (w0 : (Lit.int .u64 a0).wf = true) (w1_0 : (Lit.int .u64 a1_0).wf = true) (w1_1 : (Lit.int .u64 a1_1).wf = true) (w1_2 : (Lit.int .u64 a1_2).wf = true) (w1_3 : (Lit.int .u64 a1_3).wf = true) (w1_4 : (Lit.int .u64 a1_4).wf = true) (w2 : (Lit.int .i64 a2).wf = true) :
    Calls Tryz.prog 5 #[.int .u64 a0, .agg ⟨[.int .u64 a1_0, .int .u64 a1_1, .int .u64 a1_2, .int .u64 a1_3, .int .u64 a1_4]⟩, .int .i64 a2] w fun e w' => e = .returned (.bool true) ∧ Ex.Gr w w' :=
  Ex.st_law a0 a1_0 a1_1 a1_2 a1_3 a1_4 a2 w0 w1_0 w1_1 w1_2 w1_3 w1_4 w

set_option maxRecDepth 100000 in
theorem lifted (os : Os) (started : os.Started) (H : Type) (enc : TypeId × Value → H) :
    ReturnsInHanded {} Tryz.checked os 5 .any (Rows.scalarsTightSpec.pre6 enc Tryz.prog Tryz.f5 Rows.scalarsTightRow.domain false) (Rows.scalarsTightSpec.post enc Tryz.prog Tryz.f5 false true false false) := by
  refine returnsInHanded_of_change (C := Tryz.checked) own started (by kernel_rfl) Tryz.func5
    (ChangeSpec.witness6 (enc := enc) (C := Tryz.checked) false ⟨#[], #[.int .u64 0, .agg #[.int .u64 0, .int .u64 0, .int .u64 0, .int .u64 0, .int .u64 0], .int .i64 0], []⟩ 8 (by kernel_rfl) (by kernel_rfl) (by kernel_rfl) (by kernel_rfl)) ?_
  intro W base args ds gs before hval0 hW hcnd _
  have hval : ∀ (j : Nat) t v, Tryz.f5.params[j]? = some t → args[j]? = some v → Value.okWide Tryz.prog W .any base t v := hval0
  have hW' := hW
  obtain ⟨p, q, hA0, hV, rfl, hfz, hnd⟩ := hW
  have hA : DataW.TrodAll enc Tryz.prog W 0 (fun _ => true) true Tryz.f5.params.toList args.toList ds p := hA0
  rw [Tryz.params5] at hA hval
  have hAk := hA
  obtain ⟨v0, vs0, d0, ds0, p0, q0, hargs, rfl, rfl, h0, r0⟩ := trodAll_cons hA
  obtain ⟨v1, vs1, d1, ds1, p1, q1, rfl, rfl, rfl, h1, r1⟩ := trodAll_cons r0
  obtain ⟨v2, vs2, d2, ds2, p2, q2, rfl, rfl, rfl, h2, r2⟩ := trodAll_cons r1
  obtain ⟨rfl, rfl, rfl⟩ := trodAll_nil r2
  obtain rfl : args = #[v0, v1, v2] := by cases args; simp_all
  obtain ⟨rfl, rfl⟩ := trodVars_none hV
  obtain ⟨a0, rfl, w0⟩ := open_kv1 (k := .i .u64) (by kernel_rfl) (hval 0 22 v0 rfl rfl)
  obtain ⟨cs1, rfl, hok1⟩ := open_kv (ks := [.i .u64, .i .u64, .i .u64, .i .u64, .i .u64]) (by kernel_rfl) (hval 1 25 v1 rfl rfl)
  obtain ⟨_, _, rfl, ⟨a1_0, rfl, w1_0⟩, hok1_1⟩ := hok1.cons
  obtain ⟨_, _, rfl, ⟨a1_1, rfl, w1_1⟩, hok1_2⟩ := hok1_1.cons
  obtain ⟨_, _, rfl, ⟨a1_2, rfl, w1_2⟩, hok1_3⟩ := hok1_2.cons
  obtain ⟨_, _, rfl, ⟨a1_3, rfl, w1_3⟩, hok1_4⟩ := hok1_3.cons
  obtain ⟨_, _, rfl, ⟨a1_4, rfl, w1_4⟩, hok1_5⟩ := hok1_4.cons
  obtain rfl := hok1_5.nil
  obtain ⟨a2, rfl, w2⟩ := open_kv1 (k := .i .i64) (by kernel_rfl) (hval 2 3 v2 rfl rfl)
  clear hA0 hval0
  simp only [List.append_nil] at hW' hAk
  refine (walk a0 a1_0 a1_1 a1_2 a1_3 a1_4 a2 W w0 w1_0 w1_1 w1_2 w1_3 w1_4 w2).mono fun e W' ⟨he, hg⟩ => ?_
  subst he
  exact ⟨_, rfl, Ex.post_of_gr (pv := []) hW' (fun _ _ _ => (trodAll_cons_mk (shut_bool Tryz.underlying4 _) trodAll_mk0))
    (fun sp hs => trodAll_stays (by kernel_rfl) (by kernel_rfl) hAk (fun x hx => sameAt_of_gr hg (hW'.lt x hx)) hs) (fun _ _ => rfl) (List.append_nil _).symm
    hg (ok_one (by kernel_rfl) rfl (okWide_bool_mk Tryz.underlying4 _))⟩

theorem over : Rows.scalarsTightRow.holds Tryz.pinned (OpenSpec.ofChange Rows.scalarsTightSpec) :=
  OpenClaim.holds_of_wide 5 Tryz.f5 rfl rfl rfl rfl rfl rfl rfl ⟨rfl, rfl, rfl, rfl, rfl⟩ rfl rfl rfl rfl rfl (by kernel_rfl) Tryz.func5 (by kernel_rfl)
    (of_decide_eq_true (by kernel_rfl)) (by unfold Func.isWrapper; first | (rw [if_pos (by decide +kernel)]; kernel_rfl) | (rw [if_neg (by decide +kernel)]; exact ⟨rfl, rfl⟩))
    (fun os started H enc _ => lifted os started H enc)

theorem proved : Rows.ScalarsTightSaid :=
  over
#print axioms proved
end Go.Proofs.YtchjneodjaakdaaGreat.scalarsTight
