/-
  The law ScalarsRaw returns true for every two things known of numbers, those that no number has among them, and for every operation: there is an answer.
-/
import Derived.Test.YtchjneodjaakdaaGreatRows
import Derived.Test.YtchjneodjaakdaaGreatPackL
import Derived.WalkKit
import Derived.ProofKit
import Derived.OpenShut
namespace Go.Proofs.YtchjneodjaakdaaGreat.scalarsRaw
open Go.ChangeShapes Go.WideShapes Go.ChangeAt Go.RowKit
set_option linter.unusedVariables false

theorem own : ownKnob Tryz.prog.godebug = none := by kernel_rfl

theorem walk (a0_0 : Int) (a0_1 : Int) (a0_2 : Int) (a0_3 : Int) (a0_4 : Int) (a0_5 : Int) (a1_0 : Int) (a1_1 : Int) (a1_2 : Int) (a1_3 : Int) (a1_4 : Int) (a1_5 : Int) (a2_0 : Int) (a2_1 : Int) (w : World) (w0_0 : (Lit.int .u64 a0_0).wf = true) (w0_1 : (Lit.int .u64 a0_1).wf = true) (w0_2 : (Lit.int .u64 a0_2).wf = true) (w0_3 : (Lit.int .u64 a0_3).wf = true) (w0_4 : (Lit.int .i64 a0_4).wf = true) (w0_5 : (Lit.int .i64 a0_5).wf = true) (w1_0 : (Lit.int .u64 a1_0).wf = true) (w1_1 : (Lit.int .u64 a1_1).wf = true) (w1_2 : (Lit.int .u64 a1_2).wf = true) (w1_3 : (Lit.int .u64 a1_3).wf = true) (w1_4 : (Lit.int .i64 a1_4).wf = true) (w1_5 : (Lit.int .i64 a1_5).wf = true) (w2_0 : (Lit.int .u8 a2_0).wf = true) (w2_1 : (Lit.int .u8 a2_1).wf = true) :
    Calls Tryz.prog 7 #[.agg ⟨[.int .u64 a0_0, .int .u64 a0_1, .int .u64 a0_2, .int .u64 a0_3, .int .i64 a0_4, .int .i64 a0_5]⟩, .agg ⟨[.int .u64 a1_0, .int .u64 a1_1, .int .u64 a1_2, .int .u64 a1_3, .int .i64 a1_4, .int .i64 a1_5]⟩, .agg ⟨[.int .u8 a2_0, .int .u8 a2_1]⟩] w fun e w' => e = .returned (.bool true) ∧ Ex.Gr w w' :=
  Ex.raw_law a0_0 a0_1 a0_2 a0_3 a0_4 a0_5 a1_0 a1_1 a1_2 a1_3 a1_4 a1_5 a2_0 a2_1 w0_0 w0_1 w0_2 w0_3 w0_4 w0_5 w1_0 w1_1 w1_2 w1_3 w1_4 w1_5 w2_0 w

set_option maxRecDepth 100000 in
theorem lifted (os : Os) (started : os.Started) (H : Type) (enc : TypeId × Value → H) :
    ReturnsInHanded {} Tryz.checked os 7 .any (Rows.scalarsRawSpec.pre6 enc Tryz.prog Tryz.f7 Rows.scalarsRawRow.domain false) (Rows.scalarsRawSpec.post enc Tryz.prog Tryz.f7 false true false false) := by
  refine returnsInHanded_of_change (C := Tryz.checked) own started (by kernel_rfl) Tryz.func7
    (ChangeSpec.witness6 (enc := enc) (C := Tryz.checked) false ⟨#[], #[.agg #[.int .u64 0, .int .u64 0, .int .u64 0, .int .u64 0, .int .i64 0, .int .i64 0], .agg #[.int .u64 0, .int .u64 0, .int .u64 0, .int .u64 0, .int .i64 0, .int .i64 0], .agg #[.int .u8 0, .int .u8 0]], []⟩ 8 (by kernel_rfl) (by kernel_rfl) (by kernel_rfl) (by kernel_rfl)) ?_
  intro W base args ds gs before hval0 hW hcnd _
  have hval : ∀ (j : Nat) t v, Tryz.f7.params[j]? = some t → args[j]? = some v → Value.okWide Tryz.prog W .any base t v := hval0
  have hW' := hW
  obtain ⟨p, q, hA0, hV, rfl, hfz, hnd⟩ := hW
  have hA : DataW.TrodAll enc Tryz.prog W 0 (fun _ => true) true Tryz.f7.params.toList args.toList ds p := hA0
  rw [Tryz.params7] at hA hval
  have hAk := hA
  obtain ⟨v0, vs0, d0, ds0, p0, q0, hargs, rfl, rfl, h0, r0⟩ := trodAll_cons hA
  obtain ⟨v1, vs1, d1, ds1, p1, q1, rfl, rfl, rfl, h1, r1⟩ := trodAll_cons r0
  obtain ⟨v2, vs2, d2, ds2, p2, q2, rfl, rfl, rfl, h2, r2⟩ := trodAll_cons r1
  obtain ⟨rfl, rfl, rfl⟩ := trodAll_nil r2
  obtain rfl : args = #[v0, v1, v2] := by cases args; simp_all
  obtain ⟨rfl, rfl⟩ := trodVars_none hV
  obtain ⟨cs0, rfl, hok0⟩ := open_kv (ks := [.i .u64, .i .u64, .i .u64, .i .u64, .i .i64, .i .i64]) (by kernel_rfl) (hval 0 32 v0 rfl rfl)
  obtain ⟨_, _, rfl, ⟨a0_0, rfl, w0_0⟩, hok0_1⟩ := hok0.cons
  obtain ⟨_, _, rfl, ⟨a0_1, rfl, w0_1⟩, hok0_2⟩ := hok0_1.cons
  obtain ⟨_, _, rfl, ⟨a0_2, rfl, w0_2⟩, hok0_3⟩ := hok0_2.cons
  obtain ⟨_, _, rfl, ⟨a0_3, rfl, w0_3⟩, hok0_4⟩ := hok0_3.cons
  obtain ⟨_, _, rfl, ⟨a0_4, rfl, w0_4⟩, hok0_5⟩ := hok0_4.cons
  obtain ⟨_, _, rfl, ⟨a0_5, rfl, w0_5⟩, hok0_6⟩ := hok0_5.cons
  obtain rfl := hok0_6.nil
  obtain ⟨cs1, rfl, hok1⟩ := open_kv (ks := [.i .u64, .i .u64, .i .u64, .i .u64, .i .i64, .i .i64]) (by kernel_rfl) (hval 1 32 v1 rfl rfl)
  obtain ⟨_, _, rfl, ⟨a1_0, rfl, w1_0⟩, hok1_1⟩ := hok1.cons
  obtain ⟨_, _, rfl, ⟨a1_1, rfl, w1_1⟩, hok1_2⟩ := hok1_1.cons
  obtain ⟨_, _, rfl, ⟨a1_2, rfl, w1_2⟩, hok1_3⟩ := hok1_2.cons
  obtain ⟨_, _, rfl, ⟨a1_3, rfl, w1_3⟩, hok1_4⟩ := hok1_3.cons
  obtain ⟨_, _, rfl, ⟨a1_4, rfl, w1_4⟩, hok1_5⟩ := hok1_4.cons
  obtain ⟨_, _, rfl, ⟨a1_5, rfl, w1_5⟩, hok1_6⟩ := hok1_5.cons
  obtain rfl := hok1_6.nil
  obtain ⟨cs2, rfl, hok2⟩ := open_kv (ks := [.i .u8, .i .u8]) (by kernel_rfl) (hval 2 54 v2 rfl rfl)
  obtain ⟨_, _, rfl, ⟨a2_0, rfl, w2_0⟩, hok2_1⟩ := hok2.cons
  obtain ⟨_, _, rfl, ⟨a2_1, rfl, w2_1⟩, hok2_2⟩ := hok2_1.cons
  obtain rfl := hok2_2.nil
  clear hA0 hval0
  simp only [List.append_nil] at hW' hAk
  refine (walk a0_0 a0_1 a0_2 a0_3 a0_4 a0_5 a1_0 a1_1 a1_2 a1_3 a1_4 a1_5 a2_0 a2_1 W w0_0 w0_1 w0_2 w0_3 w0_4 w0_5 w1_0 w1_1 w1_2 w1_3 w1_4 w1_5 w2_0 w2_1).mono fun e W' ⟨he, hg⟩ => ?_
  subst he
  exact ⟨_, rfl, Ex.post_of_gr (pv := []) hW' (fun _ _ _ => (trodAll_cons_mk (shut_bool Tryz.underlying4 _) trodAll_mk0))
    (fun sp hs => trodAll_stays (by kernel_rfl) (by kernel_rfl) hAk (fun x hx => sameAt_of_gr hg (hW'.lt x hx)) hs) (fun _ _ => rfl) (List.append_nil _).symm
    hg (ok_one (by kernel_rfl) rfl (okWide_bool_mk Tryz.underlying4 _))⟩

theorem over : Rows.scalarsRawRow.holds Tryz.pinned (OpenSpec.ofChange Rows.scalarsRawSpec) :=
  OpenClaim.holds_of_wide 7 Tryz.f7 rfl rfl rfl rfl rfl rfl rfl ⟨rfl, rfl, rfl, rfl, rfl⟩ rfl rfl rfl rfl rfl (by kernel_rfl) Tryz.func7 (by kernel_rfl)
    (of_decide_eq_true (by kernel_rfl)) (by unfold Func.isWrapper; first | (rw [if_pos (by decide +kernel)]; kernel_rfl) | (rw [if_neg (by decide +kernel)]; exact ⟨rfl, rfl⟩))
    (fun os started H enc _ => lifted os started H enc)

theorem proved : Rows.ScalarsRawSaid :=
  over
#print axioms proved
end Go.Proofs.YtchjneodjaakdaaGreat.scalarsRaw
