/-
  The law FramesFound returns true, for every slice that is handed in: Found makes each answer of that lookup an address of a map's value, or the number 0, wherever it is, and changes nothing else.
-/
import Derived.Test.YtebolmfdglmpoaaRows
import Derived.Test.YtebolmfdglmpoaaSkH
import Derived.Test.YtebolmfdglmpoaaOpen
import Derived.Test.YtebolmfdglmpoaaPostGr
import Derived.WalkKit
import Derived.ProofKit
import Derived.OpenShut
namespace Go.Proofs.Ytebolmfdglmpoaa.framesFound
open Go.ChangeShapes Go.WideShapes Go.ChangeAt Go.RowKit
set_option linter.unusedVariables false

theorem own : ownKnob Try.prog.godebug = none := by kernel_rfl

theorem walk (v0 : Value) (a1 : Int) (a2 : Bool) (w : World) (w0 : Ex.SlS [.i .i64, .i .i64, .i .i64, .i .i64, .i .i64, .i .u32, .i .u64, .i .u64, .i .u64, .i .u64, .i .u64] w v0) (w1 : (Lit.int .i64 a1).wf = true) :
    Calls Try.prog 7 #[v0, .int .i64 a1, .bool a2] w fun e w' => e = .returned (.bool true) ∧ Ex.Gr w w' :=
  Ex.law_found w0

set_option maxRecDepth 100000 in
theorem lifted (os : Os) (started : os.Started) (H : Type) (enc : TypeId × Value → H) :
    ReturnsInHanded {} Try.checked os 7 .any (Rows.framesFoundSpec.pre6 enc Try.prog Try.f7 Rows.framesFoundRow.domain false) (Rows.framesFoundSpec.post enc Try.prog Try.f7 false true false false) := by
  refine returnsInHanded_of_change (C := Try.checked) own started (by kernel_rfl) Try.func7
    (ChangeSpec.witness6 (enc := enc) (C := Try.checked) false ⟨#[], #[.slice none 0 0, .int .i64 0, .bool false], []⟩ 8 (by kernel_rfl) (by kernel_rfl) (by kernel_rfl) (by kernel_rfl)) ?_
  intro W base args ds gs before hval0 hW hcnd _
  have hval : ∀ (j : Nat) t v, Try.f7.params[j]? = some t → args[j]? = some v → Value.okWide Try.prog W .any base t v := hval0
  have hW' := hW
  obtain ⟨p, q, hA0, hV, rfl, hfz, hnd⟩ := hW
  have hA : DataW.TrodAll enc Try.prog W 0 (fun _ => true) true Try.f7.params.toList args.toList ds p := hA0
  rw [Try.params7] at hA hval
  have hAk := hA
  obtain ⟨v0, vs0, d0, ds0, p0, q0, hargs, rfl, rfl, h0, r0⟩ := trodAll_cons hA
  obtain ⟨v1, vs1, d1, ds1, p1, q1, rfl, rfl, rfl, h1, r1⟩ := trodAll_cons r0
  obtain ⟨v2, vs2, d2, ds2, p2, q2, rfl, rfl, rfl, h2, r2⟩ := trodAll_cons r1
  obtain ⟨rfl, rfl, rfl⟩ := trodAll_nil r2
  obtain rfl : args = #[v0, v1, v2] := by cases args; simp_all
  obtain ⟨rfl, rfl⟩ := trodVars_none hV
  have w0 : Ex.SlS [.i .i64, .i .i64, .i .i64, .i .i64, .i .i64, .i .u32, .i .u64, .i .u64, .i .u64, .i .u64, .i .u64] W v0 := Ex.open_slS Try.underlying52 (f := 8) (by kernel_rfl) (by kernel_rfl) (by decide) (hval 0 52 v0 rfl rfl) h0 (fun b o hm => hfz b o (List.mem_append_left _ (List.mem_append_left _ hm)))
  obtain ⟨a1, rfl, w1⟩ := open_kv1 (k := .i .i64) (by kernel_rfl) (hval 1 3 v1 rfl rfl)
  obtain ⟨a2, rfl⟩ := open_kv1 (k := .b) (by kernel_rfl) (hval 2 4 v2 rfl rfl)
  clear hA0 hval0
  simp only [List.append_nil] at hW' hAk
  refine (walk v0 a1 a2 W w0 w1).mono fun e W' ⟨he, hg⟩ => ?_
  subst he
  exact ⟨_, rfl, Ex.post_of_gr (pv := []) hW' (fun _ _ _ => (trodAll_cons_mk (shut_bool Try.underlying4 _) trodAll_mk0))
    (fun sp hs => trodAll_stays (by kernel_rfl) (by kernel_rfl) hAk (fun x hx => sameAt_of_gr hg (hW'.lt x hx)) hs) (fun _ _ => rfl) (List.append_nil _).symm
    hg (ok_one (by kernel_rfl) rfl (okWide_bool_mk Try.underlying4 _))⟩

theorem j1 : (Rows.framesFoundRow.inPlace == Try.pinned.checked.prog.inPlace 7) = true := by kernel_rfl
theorem j2 : (Rows.framesFoundRow.unfollowed == Try.pinned.checked.prog.unfollowed 7) = true := by kernel_rfl
theorem j3 : (Rows.framesFoundRow.recurses == Try.pinned.checked.prog.recurses 7) = true := by kernel_rfl
theorem j4 : (Rows.framesFoundRow.named == Try.pinned.checked.prog.varsNamed 7) = true := by kernel_rfl
theorem j5 : laidOutB Try.pinned.checked.prog = true := by kernel_rfl
theorem j6 : mapsRowed Try.pinned.checked.prog = true := by kernel_rfl
theorem j7 : Try.pinned.checked.prog.stopsHeard = true := by kernel_rfl
theorem j8 : Try.pinned.checked.prog.mayEnter = true := by kernel_rfl
theorem j9 : (Rows.framesFoundRow.plainKeys == Try.pinned.checked.prog.plainKeys) = true := by kernel_rfl
theorem j10 : (Rows.framesFoundRow.lifted == Try.pinned.checked.prog.liftsFinal) = true := by kernel_rfl
theorem j11 : Rows.framesFoundRow.wf (OpenSpec.ofChange Rows.framesFoundSpec) = true := by kernel_rfl
theorem j12 : (Try.pinned.checked.prog.make == some Rows.framesFoundRow.make) = true := by kernel_rfl
theorem andT {a b : Bool} (h : a = true) (g : b = true) : (a && b) = true := by rw [h, g]; rfl
theorem joined : joinedFacts Try.pinned.checked.prog 7 Try.f7 Rows.framesFoundSpec Rows.framesFoundRow = true := by
  unfold joinedFacts
  repeat' (first | with_reducible exact j1 | with_reducible exact j2 | with_reducible exact j3 | with_reducible exact j4 | with_reducible exact j5 | with_reducible exact j6 | with_reducible exact j7 | with_reducible exact j8 | with_reducible exact j9 | with_reducible exact j10 | with_reducible exact j11 | with_reducible exact j12 | with_reducible refine andT ?_ ?_)
  all_goals kernel_rfl

theorem over : Rows.framesFoundRow.holds Try.pinned (OpenSpec.ofChange Rows.framesFoundSpec) :=
  OpenClaim.holds_of_wide 7 Try.f7 rfl rfl rfl rfl rfl rfl rfl ⟨rfl, rfl, rfl, rfl, rfl⟩ rfl rfl rfl rfl rfl (by kernel_rfl) Try.func7 joined
    (of_decide_eq_true (by kernel_rfl)) (by unfold Func.isWrapper; first | (rw [if_pos (by decide +kernel)]; kernel_rfl) | (rw [if_neg (by decide +kernel)]; exact ⟨rfl, rfl⟩))
    (fun os started H enc _ => lifted os started H enc)

theorem proved : Rows.FramesFoundSaid :=
  over
#print axioms proved
end Go.Proofs.Ytebolmfdglmpoaa.framesFound
