/-
  The law ScalarsAssume returns true for every operation, every two numbers and whatever is said to be around them: two numbers for which a condition holds, or does not, are still there where that is assumed.
-/
import Derived.Test.YtchjneodjaakdaaGreatRows
import Derived.Test.YtchjneodjaakdaaGreatPackL
import Derived.WalkKit
import Derived.ProofKit
import Derived.OpenShut
namespace Go.Proofs.YtchjneodjaakdaaGreat.scalarsAssume
open Go.ChangeShapes Go.WideShapes Go.ChangeAt Go.RowKit
set_option linter.unusedVariables false

theorem own : ownKnob Tryz.prog.godebug = none := by kernel_rfl

theorem walk (a0 : Int) (a1_0 : Int) (a1_1 : Int) (a2_0 : Int) (a2_1 : Int) (a2_2 : Int) (a2_3 : Int) (a2_4 : Int) (a2_5 : Int) (a2_6 : Int) (a2_7 : Int) (a2_8 : Int) (a2_9 : Int) (w : World) (w0 : (Lit.int .u8 a0).wf = true) (w1_0 : (Lit.int .u64 a1_0).wf = true) (w1_1 : (Lit.int .u64 a1_1).wf = true) (w2_0 : (Lit.int .u64 a2_0).wf = true) (w2_1 : (Lit.int .u64 a2_1).wf = true) (w2_2 : (Lit.int .u64 a2_2).wf = true) (w2_3 : (Lit.int .u64 a2_3).wf = true) (w2_4 : (Lit.int .u64 a2_4).wf = true) (w2_5 : (Lit.int .u64 a2_5).wf = true) (w2_6 : (Lit.int .u64 a2_6).wf = true) (w2_7 : (Lit.int .u64 a2_7).wf = true) (w2_8 : (Lit.int .u64 a2_8).wf = true) (w2_9 : (Lit.int .u64 a2_9).wf = true) :
    Calls Tryz.prog 4 #[.int .u8 a0, .agg ⟨[.int .u64 a1_0, .int .u64 a1_1]⟩, .agg ⟨[.int .u64 a2_0, .int .u64 a2_1, .int .u64 a2_2, .int .u64 a2_3, .int .u64 a2_4, .int .u64 a2_5, .int .u64 a2_6, .int .u64 a2_7, .int .u64 a2_8, .int .u64 a2_9]⟩] w fun e w' => e = .returned (.bool true) ∧ Ex.Gr w w' :=
  Ex.sa_law a0 a1_0 a1_1 a2_0 a2_1 a2_2 a2_3 a2_4 a2_5 a2_6 a2_7 a2_8 a2_9 w1_0 w1_1 w2_0 w2_1 w2_2 w2_3 w2_4 w2_5 w2_6 w2_7 w2_8 w2_9 w

set_option maxRecDepth 100000 in
theorem lifted (os : Os) (started : os.Started) (H : Type) (enc : TypeId × Value → H) :
    ReturnsInHanded {} Tryz.checked os 4 .any (Rows.scalarsAssumeSpec.pre6 enc Tryz.prog Tryz.f4 Rows.scalarsAssumeRow.domain false) (Rows.scalarsAssumeSpec.post enc Tryz.prog Tryz.f4 false true false false) := by
  refine returnsInHanded_of_change (C := Tryz.checked) own started (by kernel_rfl) Tryz.func4
    (ChangeSpec.witness6 (enc := enc) (C := Tryz.checked) false ⟨#[], #[.int .u8 0, .agg #[.int .u64 0, .int .u64 0], .agg #[.int .u64 0, .int .u64 0, .int .u64 0, .int .u64 0, .int .u64 0, .int .u64 0, .int .u64 0, .int .u64 0, .int .u64 0, .int .u64 0]], []⟩ 8 (by kernel_rfl) (by kernel_rfl) (by kernel_rfl) (by kernel_rfl)) ?_
  intro W base args ds gs before hval0 hW hcnd _
  have hval : ∀ (j : Nat) t v, Tryz.f4.params[j]? = some t → args[j]? = some v → Value.okWide Tryz.prog W .any base t v := hval0
  have hW' := hW
  obtain ⟨p, q, hA0, hV, rfl, hfz, hnd⟩ := hW
  have hA : DataW.TrodAll enc Tryz.prog W 0 (fun _ => true) true Tryz.f4.params.toList args.toList ds p := hA0
  rw [Tryz.params4] at hA hval
  have hAk := hA
  obtain ⟨v0, vs0, d0, ds0, p0, q0, hargs, rfl, rfl, h0, r0⟩ := trodAll_cons hA
  obtain ⟨v1, vs1, d1, ds1, p1, q1, rfl, rfl, rfl, h1, r1⟩ := trodAll_cons r0
  obtain ⟨v2, vs2, d2, ds2, p2, q2, rfl, rfl, rfl, h2, r2⟩ := trodAll_cons r1
  obtain ⟨rfl, rfl, rfl⟩ := trodAll_nil r2
  obtain rfl : args = #[v0, v1, v2] := by cases args; simp_all
  obtain ⟨rfl, rfl⟩ := trodVars_none hV
  obtain ⟨a0, rfl, w0⟩ := open_kv1 (k := .i .u8) (by kernel_rfl) (hval 0 5 v0 rfl rfl)
  obtain ⟨cs1, rfl, hok1⟩ := open_kv (ks := [.i .u64, .i .u64]) (by kernel_rfl) (hval 1 23 v1 rfl rfl)
  obtain ⟨_, _, rfl, ⟨a1_0, rfl, w1_0⟩, hok1_1⟩ := hok1.cons
  obtain ⟨_, _, rfl, ⟨a1_1, rfl, w1_1⟩, hok1_2⟩ := hok1_1.cons
  obtain rfl := hok1_2.nil
  obtain ⟨cs2, rfl, hok2⟩ := open_kv (ks := [.i .u64, .i .u64, .i .u64, .i .u64, .i .u64, .i .u64, .i .u64, .i .u64, .i .u64, .i .u64]) (by kernel_rfl) (hval 2 26 v2 rfl rfl)
  obtain ⟨_, _, rfl, ⟨a2_0, rfl, w2_0⟩, hok2_1⟩ := hok2.cons
  obtain ⟨_, _, rfl, ⟨a2_1, rfl, w2_1⟩, hok2_2⟩ := hok2_1.cons
  obtain ⟨_, _, rfl, ⟨a2_2, rfl, w2_2⟩, hok2_3⟩ := hok2_2.cons
  obtain ⟨_, _, rfl, ⟨a2_3, rfl, w2_3⟩, hok2_4⟩ := hok2_3.cons
  obtain ⟨_, _, rfl, ⟨a2_4, rfl, w2_4⟩, hok2_5⟩ := hok2_4.cons
  obtain ⟨_, _, rfl, ⟨a2_5, rfl, w2_5⟩, hok2_6⟩ := hok2_5.cons
  obtain ⟨_, _, rfl, ⟨a2_6, rfl, w2_6⟩, hok2_7⟩ := hok2_6.cons
  obtain ⟨_, _, rfl, ⟨a2_7, rfl, w2_7⟩, hok2_8⟩ := hok2_7.cons
  obtain ⟨_, _, rfl, ⟨a2_8, rfl, w2_8⟩, hok2_9⟩ := hok2_8.cons
  obtain ⟨_, _, rfl, ⟨a2_9, rfl, w2_9⟩, hok2_10⟩ := hok2_9.cons
  obtain rfl := hok2_10.nil
  clear hA0 hval0
  simp only [List.append_nil] at hW' hAk
  refine (walk a0 a1_0 a1_1 a2_0 a2_1 a2_2 a2_3 a2_4 a2_5 a2_6 a2_7 a2_8 a2_9 W w0 w1_0 w1_1 w2_0 w2_1 w2_2 w2_3 w2_4 w2_5 w2_6 w2_7 w2_8 w2_9).mono fun e W' ⟨he, hg⟩ => ?_
  subst he
  exact ⟨_, rfl, Ex.post_of_gr (pv := []) hW' (fun _ _ _ => (trodAll_cons_mk (shut_bool Tryz.underlying4 _) trodAll_mk0))
    (fun sp hs => trodAll_stays (by kernel_rfl) (by kernel_rfl) hAk (fun x hx => sameAt_of_gr hg (hW'.lt x hx)) hs) (fun _ _ => rfl) (List.append_nil _).symm
    hg (ok_one (by kernel_rfl) rfl (okWide_bool_mk Tryz.underlying4 _))⟩

theorem over : Rows.scalarsAssumeRow.holds Tryz.pinned (OpenSpec.ofChange Rows.scalarsAssumeSpec) :=
  OpenClaim.holds_of_wide 4 Tryz.f4 rfl rfl rfl rfl rfl rfl rfl ⟨rfl, rfl, rfl, rfl, rfl⟩ rfl rfl rfl rfl rfl (by kernel_rfl) Tryz.func4 (by kernel_rfl)
    (of_decide_eq_true (by kernel_rfl)) (by unfold Func.isWrapper; first | (rw [if_pos (by decide +kernel)]; kernel_rfl) | (rw [if_neg (by decide +kernel)]; exact ⟨rfl, rfl⟩))
    (fun os started H enc _ => lifted os started H enc)

theorem proved : Rows.ScalarsAssumeSaid :=
  over
#print axioms proved
end Go.Proofs.YtchjneodjaakdaaGreat.scalarsAssume
