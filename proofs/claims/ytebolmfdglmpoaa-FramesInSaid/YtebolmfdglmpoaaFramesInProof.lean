/-
  The law FramesIn returns true, for every slice and register that is handed in: a frame lets itself in, and one that has a register more, not one that has one fewer; IDs stand for one another as a whole.
-/
import Derived.Test.YtebolmfdglmpoaaRows
import Derived.Test.YtebolmfdglmpoaaSkJ
import Derived.Test.YtebolmfdglmpoaaOpen
import Derived.Test.YtebolmfdglmpoaaPostGr
import Derived.WalkKit
import Derived.ProofKit
import Derived.OpenShut
namespace Go.Proofs.Ytebolmfdglmpoaa.framesIn
open Go.ChangeShapes Go.WideShapes Go.ChangeAt Go.RowKit
set_option linter.unusedVariables false

theorem own : ownKnob Try.prog.godebug = none := by kernel_rfl

theorem walk (v0 : Value) (a1 : Int) (w : World) (w0 : Ex.SlS [.i .i64, .i .i64, .i .i64, .i .i64, .i .i64, .i .u32, .i .u64, .i .u64, .i .u64, .i .u64, .i .u64] w v0) (w1 : (Lit.int .u8 a1).wf = true) :
    Calls Try.prog 8 #[v0, .int .u8 a1] w fun e w' => e = .returned (.bool true) ∧ Ex.Gr w w' :=
  Ex.law_frin w1 w0

set_option maxRecDepth 100000 in
theorem lifted (os : Os) (started : os.Started) (H : Type) (enc : TypeId × Value → H) :
    ReturnsInHanded {} Try.checked os 8 .any (Rows.framesInSpec.pre6 enc Try.prog Try.f8 Rows.framesInRow.domain false) (Rows.framesInSpec.post enc Try.prog Try.f8 false true false false) := by
  refine returnsInHanded_of_change (C := Try.checked) own started (by kernel_rfl) Try.func8
    (ChangeSpec.witness6 (enc := enc) (C := Try.checked) false ⟨#[], #[.slice none 0 0, .int .u8 0], []⟩ 8 (by kernel_rfl) (by kernel_rfl) (by kernel_rfl) (by kernel_rfl)) ?_
  intro W base args ds gs before hval0 hW hcnd _
  have hval : ∀ (j : Nat) t v, Try.f8.params[j]? = some t → args[j]? = some v → Value.okWide Try.prog W .any base t v := hval0
  have hW' := hW
  obtain ⟨p, q, hA0, hV, rfl, hfz, hnd⟩ := hW
  have hA : DataW.TrodAll enc Try.prog W 0 (fun _ => true) true Try.f8.params.toList args.toList ds p := hA0
  rw [Try.params8] at hA hval
  have hAk := hA
  obtain ⟨v0, vs0, d0, ds0, p0, q0, hargs, rfl, rfl, h0, r0⟩ := trodAll_cons hA
  obtain ⟨v1, vs1, d1, ds1, p1, q1, rfl, rfl, rfl, h1, r1⟩ := trodAll_cons r0
  obtain ⟨rfl, rfl, rfl⟩ := trodAll_nil r1
  obtain rfl : args = #[v0, v1] := by cases args; simp_all
  obtain ⟨rfl, rfl⟩ := trodVars_none hV
  have w0 : Ex.SlS [.i .i64, .i .i64, .i .i64, .i .i64, .i .i64, .i .u32, .i .u64, .i .u64, .i .u64, .i .u64, .i .u64] W v0 := Ex.open_slS Try.underlying52 (f := 8) (by kernel_rfl) (by kernel_rfl) (by decide) (hval 0 52 v0 rfl rfl) h0 (fun b o hm => hfz b o (List.mem_append_left _ (List.mem_append_left _ hm)))
  obtain ⟨a1, rfl, w1⟩ := open_kv1 (k := .i .u8) (by kernel_rfl) (hval 1 5 v1 rfl rfl)
  clear hA0 hval0
  simp only [List.append_nil] at hW' hAk
  refine (walk v0 a1 W w0 w1).mono fun e W' ⟨he, hg⟩ => ?_
  subst he
  exact ⟨_, rfl, Ex.post_of_gr (pv := []) hW' (fun _ _ _ => (trodAll_cons_mk (shut_bool Try.underlying4 _) trodAll_mk0))
    (fun sp hs => trodAll_stays (by kernel_rfl) (by kernel_rfl) hAk (fun x hx => sameAt_of_gr hg (hW'.lt x hx)) hs) (fun _ _ => rfl) (List.append_nil _).symm
    hg (ok_one (by kernel_rfl) rfl (okWide_bool_mk Try.underlying4 _))⟩

theorem j1 : (Rows.framesInRow.inPlace == Try.pinned.checked.prog.inPlace 8) = true := by kernel_rfl
theorem j2 : (Rows.framesInRow.unfollowed == Try.pinned.checked.prog.unfollowed 8) = true := by kernel_rfl
theorem j3 : (Rows.framesInRow.recurses == Try.pinned.checked.prog.recurses 8) = true := by kernel_rfl
theorem j4 : (Rows.framesInRow.named == Try.pinned.checked.prog.varsNamed 8) = true := by kernel_rfl
theorem j5 : laidOutB Try.pinned.checked.prog = true := by kernel_rfl
theorem j6 : mapsRowed Try.pinned.checked.prog = true := by kernel_rfl
theorem j7 : Try.pinned.checked.prog.stopsHeard = true := by kernel_rfl
theorem j8 : Try.pinned.checked.prog.mayEnter = true := by kernel_rfl
theorem j9 : (Rows.framesInRow.plainKeys == Try.pinned.checked.prog.plainKeys) = true := by kernel_rfl
theorem j10 : (Rows.framesInRow.lifted == Try.pinned.checked.prog.liftsFinal) = true := by kernel_rfl
theorem j11 : Rows.framesInRow.wf (OpenSpec.ofChange Rows.framesInSpec) = true := by kernel_rfl
theorem j12 : (Try.pinned.checked.prog.make == some Rows.framesInRow.make) = true := by kernel_rfl
theorem andT {a b : Bool} (h : a = true) (g : b = true) : (a && b) = true := by rw [h, g]; rfl
theorem joined : joinedFacts Try.pinned.checked.prog 8 Try.f8 Rows.framesInSpec Rows.framesInRow = true := by
  unfold joinedFacts
  repeat' (first | with_reducible exact j1 | with_reducible exact j2 | with_reducible exact j3 | with_reducible exact j4 | with_reducible exact j5 | with_reducible exact j6 | with_reducible exact j7 | with_reducible exact j8 | with_reducible exact j9 | with_reducible exact j10 | with_reducible exact j11 | with_reducible exact j12 | with_reducible refine andT ?_ ?_)
  all_goals kernel_rfl

theorem over : Rows.framesInRow.holds Try.pinned (OpenSpec.ofChange Rows.framesInSpec) :=
  OpenClaim.holds_of_wide 8 Try.f8 rfl rfl rfl rfl rfl rfl rfl ⟨rfl, rfl, rfl, rfl, rfl⟩ rfl rfl rfl rfl rfl (by kernel_rfl) Try.func8 joined
    (of_decide_eq_true (by kernel_rfl)) (by unfold Func.isWrapper; first | (rw [if_pos (by decide +kernel)]; kernel_rfl) | (rw [if_neg (by decide +kernel)]; exact ⟨rfl, rfl⟩))
    (fun os started H enc _ => lifted os started H enc)

theorem proved : Rows.FramesInSaid :=
  over
#print axioms proved
end Go.Proofs.Ytebolmfdglmpoaa.framesIn
