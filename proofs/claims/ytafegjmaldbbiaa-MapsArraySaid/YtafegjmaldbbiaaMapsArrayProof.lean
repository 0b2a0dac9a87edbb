/-
  The law MapsArray returns true for every list of at most 100 pairs of numbers, and for longer ones: an array has each number below how many it has as a key, always; what is laid there is there; nothing goes, and nothing comes.
-/
import Derived.Test.YtafegjmaldbbiaaRows
import Derived.Test.YtafegjmaldbbiaaAr5
import Derived.Test.YtafegjmaldbbiaaOpen
import Derived.Test.YtafegjmaldbbiaaPostGr
import Derived.WalkKit
import Derived.ProofKit
import Derived.OpenShut
namespace Go.Proofs.Ytafegjmaldbbiaa.mapsArray
open Go.ChangeShapes Go.WideShapes Go.ChangeAt Go.RowKit
set_option linter.unusedVariables false

theorem own : ownKnob Try.prog.godebug = none := by kernel_rfl

theorem walk (v0 : Value) (w : World) (w0 : Ex.SlS [.i .u8, .i .u8] w v0) :
    Calls Try.prog 4 #[v0] w fun e w' => e = .returned (.bool true) ∧ Ex.Gr w w' :=
  Ex.law_array w0

set_option maxRecDepth 100000 in
theorem lifted (os : Os) (started : os.Started) (H : Type) (enc : TypeId × Value → H) :
    ReturnsInHanded {} Try.checked os 4 .any (Rows.mapsArraySpec.pre6 enc Try.prog Try.f4 Rows.mapsArrayRow.domain false) (Rows.mapsArraySpec.post enc Try.prog Try.f4 false true false false) := by
  refine returnsInHanded_of_change (C := Try.checked) own started (by kernel_rfl) Try.func4
    (ChangeSpec.witness6 (enc := enc) (C := Try.checked) false ⟨#[], #[.slice none 0 0], []⟩ 8 (by kernel_rfl) (by kernel_rfl) (by kernel_rfl) (by kernel_rfl)) ?_
  intro W base args ds gs before hval0 hW hcnd _
  have hval : ∀ (j : Nat) t v, Try.f4.params[j]? = some t → args[j]? = some v → Value.okWide Try.prog W .any base t v := hval0
  have hW' := hW
  obtain ⟨p, q, hA0, hV, rfl, hfz, hnd⟩ := hW
  have hA : DataW.TrodAll enc Try.prog W 0 (fun _ => true) true Try.f4.params.toList args.toList ds p := hA0
  rw [Try.params4] at hA hval
  have hAk := hA
  obtain ⟨v0, vs0, d0, ds0, p0, q0, hargs, rfl, rfl, h0, r0⟩ := trodAll_cons hA
  obtain ⟨rfl, rfl, rfl⟩ := trodAll_nil r0
  obtain rfl : args = #[v0] := by cases args; simp_all
  obtain ⟨rfl, rfl⟩ := trodVars_none hV
  have w0 : Ex.SlS [.i .u8, .i .u8] W v0 := Ex.open_slS Try.underlying22 (f := 8) (by kernel_rfl) (by kernel_rfl) (by decide) (hval 0 22 v0 rfl rfl) h0 (fun b o hm => hfz b o (List.mem_append_left _ (List.mem_append_left _ hm)))
  clear hA0 hval0
  simp only [List.append_nil] at hW' hAk
  refine (walk v0 W w0).mono fun e W' ⟨he, hg⟩ => ?_
  subst he
  exact ⟨_, rfl, Ex.post_of_gr (pv := []) hW' (fun _ _ _ => (trodAll_cons_mk (shut_bool Try.underlying4 _) trodAll_mk0))
    (fun sp hs => trodAll_stays (by kernel_rfl) (by kernel_rfl) hAk (fun x hx => sameAt_of_gr hg (hW'.lt x hx)) hs) (fun _ _ => rfl) (List.append_nil _).symm
    hg (ok_one (by kernel_rfl) rfl (okWide_bool_mk Try.underlying4 _))⟩

theorem j1 : (Rows.mapsArrayRow.inPlace == Try.pinned.checked.prog.inPlace 4) = true := by kernel_rfl
theorem j2 : (Rows.mapsArrayRow.unfollowed == Try.pinned.checked.prog.unfollowed 4) = true := by kernel_rfl
theorem j3 : (Rows.mapsArrayRow.recurses == Try.pinned.checked.prog.recurses 4) = true := by kernel_rfl
theorem j4 : (Rows.mapsArrayRow.named == Try.pinned.checked.prog.varsNamed 4) = true := by kernel_rfl
theorem j5 : laidOutB Try.pinned.checked.prog = true := by kernel_rfl
theorem j6 : mapsRowed Try.pinned.checked.prog = true := by kernel_rfl
theorem j7 : Try.pinned.checked.prog.stopsHeard = true := by kernel_rfl
theorem j8 : Try.pinned.checked.prog.mayEnter = true := by kernel_rfl
theorem j9 : (Rows.mapsArrayRow.plainKeys == Try.pinned.checked.prog.plainKeys) = true := by kernel_rfl
theorem j10 : (Rows.mapsArrayRow.lifted == Try.pinned.checked.prog.liftsFinal) = true := by kernel_rfl
theorem j11 : Rows.mapsArrayRow.wf (OpenSpec.ofChange Rows.mapsArraySpec) = true := by kernel_rfl
theorem j12 : (Try.pinned.checked.prog.make == some Rows.mapsArrayRow.make) = true := by kernel_rfl
theorem andT {a b : Bool} (h : a = true) (g : b = true) : (a && b) = true := by rw [h, g]; rfl
theorem joined : joinedFacts Try.pinned.checked.prog 4 Try.f4 Rows.mapsArraySpec Rows.mapsArrayRow = true := by
  unfold joinedFacts
  repeat' (first | with_reducible exact j1 | with_reducible exact j2 | with_reducible exact j3 | with_reducible exact j4 | with_reducible exact j5 | with_reducible exact j6 | with_reducible exact j7 | with_reducible exact j8 | with_reducible exact j9 | with_reducible exact j10 | with_reducible exact j11 | with_reducible exact j12 | with_reducible refine andT ?_ ?_)
  all_goals kernel_rfl

theorem over : Rows.mapsArrayRow.holds Try.pinned (OpenSpec.ofChange Rows.mapsArraySpec) :=
  OpenClaim.holds_of_wide 4 Try.f4 rfl rfl rfl rfl rfl rfl rfl ⟨rfl, rfl, rfl, rfl, rfl⟩ rfl rfl rfl rfl rfl (by kernel_rfl) Try.func4 joined
    (of_decide_eq_true (by kernel_rfl)) (by unfold Func.isWrapper; first | (rw [if_pos (by decide +kernel)]; kernel_rfl) | (rw [if_neg (by decide +kernel)]; exact ⟨rfl, rfl⟩))
    (fun os started H enc _ => lifted os started H enc)

theorem proved : Rows.MapsArraySaid :=
  over
#print axioms proved
end Go.Proofs.Ytafegjmaldbbiaa.mapsArray
