/-
  The law FramesPlain returns true, for all values, every address and every number that is handed in: whether bytes at an address may be read, and are no address, is the answer of the document.
-/
import Derived.Test.YtebolmfdglmpoaaRows
import Derived.Test.YtebolmfdglmpoaaSkL
import Derived.Test.YtebolmfdglmpoaaOpen
import Derived.Test.YtebolmfdglmpoaaPostGr
import Derived.WalkKit
import Derived.ProofKit
import Derived.OpenShut
namespace Go.Proofs.Ytebolmfdglmpoaa.framesPlain
open Go.ChangeShapes Go.WideShapes Go.ChangeAt Go.RowKit
set_option linter.unusedVariables false

theorem own : ownKnob Try.prog.godebug = none := by kernel_rfl

theorem walk (v0 : Value) (a1_0 : Int) (a1_1 : Int) (a1_2 : Int) (a1_3 : Int) (a1_4 : Int) (a1_5 : Int) (a1_6 : Int) (a1_7 : Int) (a1_8 : Int) (a1_9 : Int) (a1_10 : Int) (a2_0 : Int) (a2_1 : Int) (w : World) (w0 : Ex.SlS [.i .i64, .i .i64, .i .i64, .i .i64, .i .i64, .i .u32, .i .u64, .i .u64, .i .u64, .i .u64, .i .u64] w v0) (w1_0 : (Lit.int .i64 a1_0).wf = true) (w1_1 : (Lit.int .i64 a1_1).wf = true) (w1_2 : (Lit.int .i64 a1_2).wf = true) (w1_3 : (Lit.int .i64 a1_3).wf = true) (w1_4 : (Lit.int .i64 a1_4).wf = true) (w1_5 : (Lit.int .u32 a1_5).wf = true) (w1_6 : (Lit.int .u64 a1_6).wf = true) (w1_7 : (Lit.int .u64 a1_7).wf = true) (w1_8 : (Lit.int .u64 a1_8).wf = true) (w1_9 : (Lit.int .u64 a1_9).wf = true) (w1_10 : (Lit.int .u64 a1_10).wf = true) (w2_0 : (Lit.int .u16 a2_0).wf = true) (w2_1 : (Lit.int .u16 a2_1).wf = true) :
    Calls Try.prog 5 #[v0, .agg ⟨[.int .i64 a1_0, .int .i64 a1_1, .int .i64 a1_2, .int .i64 a1_3, .int .i64 a1_4, .int .u32 a1_5, .int .u64 a1_6, .int .u64 a1_7, .int .u64 a1_8, .int .u64 a1_9, .int .u64 a1_10]⟩, .agg ⟨[.int .u16 a2_0, .int .u16 a2_1]⟩] w fun e w' => e = .returned (.bool true) ∧ Ex.Gr w w' :=
  Ex.law_plain (v := ⟨a1_0, a1_1, a1_2, a1_3, a1_4, a1_5, a1_6, a1_7, a1_8, a1_9, a1_10⟩) (Ex.u64_wf w1_6) w0

set_option maxRecDepth 100000 in
theorem lifted (os : Os) (started : os.Started) (H : Type) (enc : TypeId × Value → H) :
    ReturnsInHanded {} Try.checked os 5 .any (Rows.framesPlainSpec.pre6 enc Try.prog Try.f5 Rows.framesPlainRow.domain false) (Rows.framesPlainSpec.post enc Try.prog Try.f5 false true false false) := by
  refine returnsInHanded_of_change (C := Try.checked) own started (by kernel_rfl) Try.func5
    (ChangeSpec.witness6 (enc := enc) (C := Try.checked) false ⟨#[], #[.slice none 0 0, .agg #[.int .i64 0, .int .i64 0, .int .i64 0, .int .i64 0, .int .i64 0, .int .u32 0, .int .u64 0, .int .u64 0, .int .u64 0, .int .u64 0, .int .u64 0], .agg #[.int .u16 0, .int .u16 0]], []⟩ 8 (by kernel_rfl) (by kernel_rfl) (by kernel_rfl) (by kernel_rfl)) ?_
  intro W base args ds gs before hval0 hW hcnd _
  have hval : ∀ (j : Nat) t v, Try.f5.params[j]? = some t → args[j]? = some v → Value.okWide Try.prog W .any base t v := hval0
  have hW' := hW
  obtain ⟨p, q, hA0, hV, rfl, hfz, hnd⟩ := hW
  have hA : DataW.TrodAll enc Try.prog W 0 (fun _ => true) true Try.f5.params.toList args.toList ds p := hA0
  rw [Try.params5] at hA hval
  have hAk := hA
  obtain ⟨v0, vs0, d0, ds0, p0, q0, hargs, rfl, rfl, h0, r0⟩ := trodAll_cons hA
  obtain ⟨v1, vs1, d1, ds1, p1, q1, rfl, rfl, rfl, h1, r1⟩ := trodAll_cons r0
  obtain ⟨v2, vs2, d2, ds2, p2, q2, rfl, rfl, rfl, h2, r2⟩ := trodAll_cons r1
  obtain ⟨rfl, rfl, rfl⟩ := trodAll_nil r2
  obtain rfl : args = #[v0, v1, v2] := by cases args; simp_all
  obtain ⟨rfl, rfl⟩ := trodVars_none hV
  have w0 : Ex.SlS [.i .i64, .i .i64, .i .i64, .i .i64, .i .i64, .i .u32, .i .u64, .i .u64, .i .u64, .i .u64, .i .u64] W v0 := Ex.open_slS Try.underlying52 (f := 8) (by kernel_rfl) (by kernel_rfl) (by decide) (hval 0 52 v0 rfl rfl) h0 (fun b o hm => hfz b o (List.mem_append_left _ (List.mem_append_left _ hm)))
  obtain ⟨cs1, rfl, hok1⟩ := open_kv (ks := [.i .i64, .i .i64, .i .i64, .i .i64, .i .i64, .i .u32, .i .u64, .i .u64, .i .u64, .i .u64, .i .u64]) (by kernel_rfl) (hval 1 57 v1 rfl rfl)
  obtain ⟨_, _, rfl, ⟨a1_0, rfl, w1_0⟩, hok1_1⟩ := hok1.cons
  obtain ⟨_, _, rfl, ⟨a1_1, rfl, w1_1⟩, hok1_2⟩ := hok1_1.cons
  obtain ⟨_, _, rfl, ⟨a1_2, rfl, w1_2⟩, hok1_3⟩ := hok1_2.cons
  obtain ⟨_, _, rfl, ⟨a1_3, rfl, w1_3⟩, hok1_4⟩ := hok1_3.cons
  obtain ⟨_, _, rfl, ⟨a1_4, rfl, w1_4⟩, hok1_5⟩ := hok1_4.cons
  obtain ⟨_, _, rfl, ⟨a1_5, rfl, w1_5⟩, hok1_6⟩ := hok1_5.cons
  obtain ⟨_, _, rfl, ⟨a1_6, rfl, w1_6⟩, hok1_7⟩ := hok1_6.cons
  obtain ⟨_, _, rfl, ⟨a1_7, rfl, w1_7⟩, hok1_8⟩ := hok1_7.cons
  obtain ⟨_, _, rfl, ⟨a1_8, rfl, w1_8⟩, hok1_9⟩ := hok1_8.cons
  obtain ⟨_, _, rfl, ⟨a1_9, rfl, w1_9⟩, hok1_10⟩ := hok1_9.cons
  obtain ⟨_, _, rfl, ⟨a1_10, rfl, w1_10⟩, hok1_11⟩ := hok1_10.cons
  obtain rfl := hok1_11.nil
  obtain ⟨cs2, rfl, hok2⟩ := open_kv (ks := [.i .u16, .i .u16]) (by kernel_rfl) (hval 2 59 v2 rfl rfl)
  obtain ⟨_, _, rfl, ⟨a2_0, rfl, w2_0⟩, hok2_1⟩ := hok2.cons
  obtain ⟨_, _, rfl, ⟨a2_1, rfl, w2_1⟩, hok2_2⟩ := hok2_1.cons
  obtain rfl := hok2_2.nil
  clear hA0 hval0
  simp only [List.append_nil] at hW' hAk
  refine (walk v0 a1_0 a1_1 a1_2 a1_3 a1_4 a1_5 a1_6 a1_7 a1_8 a1_9 a1_10 a2_0 a2_1 W w0 w1_0 w1_1 w1_2 w1_3 w1_4 w1_5 w1_6 w1_7 w1_8 w1_9 w1_10 w2_0 w2_1).mono fun e W' ⟨he, hg⟩ => ?_
  subst he
  exact ⟨_, rfl, Ex.post_of_gr (pv := []) hW' (fun _ _ _ => (trodAll_cons_mk (shut_bool Try.underlying4 _) trodAll_mk0))
    (fun sp hs => trodAll_stays (by kernel_rfl) (by kernel_rfl) hAk (fun x hx => sameAt_of_gr hg (hW'.lt x hx)) hs) (fun _ _ => rfl) (List.append_nil _).symm
    hg (ok_one (by kernel_rfl) rfl (okWide_bool_mk Try.underlying4 _))⟩

theorem j1 : (Rows.framesPlainRow.inPlace == Try.pinned.checked.prog.inPlace 5) = true := by kernel_rfl
theorem j2 : (Rows.framesPlainRow.unfollowed == Try.pinned.checked.prog.unfollowed 5) = true := by kernel_rfl
theorem j3 : (Rows.framesPlainRow.recurses == Try.pinned.checked.prog.recurses 5) = true := by kernel_rfl
theorem j4 : (Rows.framesPlainRow.named == Try.pinned.checked.prog.varsNamed 5) = true := by kernel_rfl
theorem j5 : laidOutB Try.pinned.checked.prog = true := by kernel_rfl
theorem j6 : mapsRowed Try.pinned.checked.prog = true := by kernel_rfl
theorem j7 : Try.pinned.checked.prog.stopsHeard = true := by kernel_rfl
theorem j8 : Try.pinned.checked.prog.mayEnter = true := by kernel_rfl
theorem j9 : (Rows.framesPlainRow.plainKeys == Try.pinned.checked.prog.plainKeys) = true := by kernel_rfl
theorem j10 : (Rows.framesPlainRow.lifted == Try.pinned.checked.prog.liftsFinal) = true := by kernel_rfl
theorem j11 : Rows.framesPlainRow.wf (OpenSpec.ofChange Rows.framesPlainSpec) = true := by kernel_rfl
theorem j12 : (Try.pinned.checked.prog.make == some Rows.framesPlainRow.make) = true := by kernel_rfl
theorem andT {a b : Bool} (h : a = true) (g : b = true) : (a && b) = true := by rw [h, g]; rfl
theorem joined : joinedFacts Try.pinned.checked.prog 5 Try.f5 Rows.framesPlainSpec Rows.framesPlainRow = true := by
  unfold joinedFacts
  repeat' (first | with_reducible exact j1 | with_reducible exact j2 | with_reducible exact j3 | with_reducible exact j4 | with_reducible exact j5 | with_reducible exact j6 | with_reducible exact j7 | with_reducible exact j8 | with_reducible exact j9 | with_reducible exact j10 | with_reducible exact j11 | with_reducible exact j12 | with_reducible refine andT ?_ ?_)
  all_goals kernel_rfl

theorem over : Rows.framesPlainRow.holds Try.pinned (OpenSpec.ofChange Rows.framesPlainSpec) :=
  OpenClaim.holds_of_wide 5 Try.f5 rfl rfl rfl rfl rfl rfl rfl ⟨rfl, rfl, rfl, rfl, rfl⟩ rfl rfl rfl rfl rfl (by kernel_rfl) Try.func5 joined
    (of_decide_eq_true (by kernel_rfl)) (by unfold Func.isWrapper; first | (rw [if_pos (by decide +kernel)]; kernel_rfl) | (rw [if_neg (by decide +kernel)]; exact ⟨rfl, rfl⟩))
    (fun os started H enc _ => lifted os started H enc)

theorem proved : Rows.FramesPlainSaid :=
  over
#print axioms proved
end Go.Proofs.Ytebolmfdglmpoaa.framesPlain
