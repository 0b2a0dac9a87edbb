/-
  The law HelpersDraws returns true, where the table of arguments lies as the program lays it, for every slice that is handed in.
-/
import Derived.Test.YtbjiicjmlbocdaaDoorRows
import Derived.Test.YtbjiicjmlbocdaaDoorCards
import Derived.Test.YtbjiicjmlbocdaaDoorTie
import Derived.Test.YtbjiicjmlbocdaaDoorHdS
import Derived.Test.YtbjiicjmlbocdaaDoorOpen
import Derived.Test.YtbjiicjmlbocdaaDoorPostGr
import Derived.WalkKit
import Derived.ProofKit
import Derived.LaidMore
import Derived.Stop.Joined
import Derived.SevenTiedAt
import Derived.OpenShut
namespace Go.Proofs.YtbjiicjmlbocdaaDoor.helpersDraws
open Go.ChangeShapes Go.WideShapes Go.ChangeAt Go.RowKit Go.WideMaps Go.WideElems
set_option linter.unusedVariables false

theorem own : ownKnob Tryd.prog.godebug = none := by kernel_rfl

theorem walk (v0 : Value) (a1 : Int) (w : World) (w0 : Ex.SlOf .u64 w v0) (w1 : (Lit.int .u8 a1).wf = true) (hT : Ex.TabAt w) :
    Calls Tryd.prog 3 #[v0, .int .u8 a1] w fun e w' => e = .returned (.bool true) ∧ Ex.Gr w w' :=
  Ex.law_draws hT w0 w1

theorem door_met (os : Os) (args : Array Value) : laidMetH Tryd.prog [("firewall/helpers.args", Rows.laid_firewall_helpers_args)] ((World.doorLaid Tryd.prog 14 os).forCall (fun _ _ => 0) ⟨#[], args, []⟩).memory :=
  laidMetH_of_parts3 (fuel := 8) (laidMet_of_run' 8 (by kernel_rfl) (by kernel_rfl)) (by kernel_rfl) (by kernel_rfl)

set_option maxRecDepth 100000 in
theorem lifted (os : Os) (started : os.Started) (H : Type) (enc : TypeId × Value → H) :
    ReturnsInHanded {} Tryd.checked os 3 .any (fun w args => (Rows.helpersDrawsSpec.pre enc Tryd.prog Tryd.f3 [] false w args ∧ laidMetH Tryd.prog [("firewall/helpers.args", Rows.laid_firewall_helpers_args)] w) ∧ sizedMet enc Tryd.prog Tryd.f3 (OpenSpec.ofChange Rows.helpersDrawsSpec) false w args) (Rows.helpersDrawsSpec.post enc Tryd.prog Tryd.f3 false true false false) := by
  refine returnsInHanded_of_change_and (C := Tryd.checked) (X := fun w _ => laidMetH Tryd.prog [("firewall/helpers.args", Rows.laid_firewall_helpers_args)] w) (fun _ _ _ hh h => h.of_heap hh) own started (by kernel_rfl) Tryd.func3
    (ChangeSpec.witness_shaped (enc := enc) (C := Tryd.checked) (os := os) (X := fun w _ => laidMetH Tryd.prog [("firewall/helpers.args", Rows.laid_firewall_helpers_args)] w) false (World.doorLaid Tryd.prog 14 os) #[.slice none 0 0, .int .u8 0] 8 rfl (World.shaped_of_RefB (by kernel_rfl) (by kernel_rfl)) (by kernel_rfl) (by kernel_rfl) (by kernel_rfl) (door_met os _)) ?_
  intro W base args ds gs before hval0 hW _ _ hL _
  have hval : ∀ (j : Nat) t v, Tryd.f3.params[j]? = some t → args[j]? = some v → Value.okWide Tryd.prog W .any base t v := hval0
  have hW' := hW
  obtain ⟨p, q, hA0, hV, rfl, hfz, hnd⟩ := hW
  have hA : DataW.TrodAll enc Tryd.prog W 0 (fun _ => true) true Tryd.f3.params.toList args.toList ds p := hA0
  rw [Tryd.params3] at hA hval
  have hAk := hA
  obtain ⟨v0, vs0, d0, ds0, p0, q0, hargs, rfl, rfl, h0, r0⟩ := trodAll_cons hA
  obtain ⟨v1, vs1, d1, ds1, p1, q1, rfl, rfl, rfl, h1, r1⟩ := trodAll_cons r0
  obtain ⟨rfl, rfl, rfl⟩ := trodAll_nil r1
  obtain rfl : args = #[v0, v1] := by cases args; simp_all
  obtain ⟨rfl, rfl⟩ := trodVars_none hV
  have w0 : Ex.SlOf .u64 W v0 := Ex.open_slU Tryd.underlying22 Tryd.underlying30 (by kernel_rfl) (hval 0 22 v0 rfl rfl) h0 (fun b o hm => hfz b o (List.mem_append_left _ (List.mem_append_left _ hm)))
  obtain ⟨a1, rfl, w1⟩ := open_kv1 (k := .i .u8) (by kernel_rfl) (hval 1 5 v1 rfl rfl)
  clear hA0 hval0
  simp only [List.append_nil] at hW' hAk
  refine (walk v0 a1 W w0 w1 (Ex.tab_of_laid hL)).mono fun e W' ⟨he, hg⟩ => ?_
  subst he
  exact ⟨_, rfl, Ex.post_of_gr (pv := []) hW' (fun _ _ _ => (trodAll_cons_mk (shut_bool Tryd.underlying4 _) trodAll_mk0))
    (fun sp hs => trodAll_stays (by kernel_rfl) (by kernel_rfl) hAk (fun x hx => sameAt_of_gr hg (hW'.lt x hx)) hs) (fun _ _ => rfl) (List.append_nil _).symm
    hg (ok_one (by kernel_rfl) rfl (okWide_bool_mk Tryd.underlying4 _))⟩

theorem j1 : (Rows.helpersDrawsRow.inPlace == Tryd.pinned.checked.prog.inPlace 3) = true := by kernel_rfl
theorem j2 : (Rows.helpersDrawsRow.unfollowed == Tryd.pinned.checked.prog.unfollowed 3) = true := by kernel_rfl
theorem j3 : (Rows.helpersDrawsRow.recurses == Tryd.pinned.checked.prog.recurses 3) = true := by kernel_rfl
theorem j4 : (Rows.helpersDrawsRow.named == Tryd.pinned.checked.prog.varsNamed 3) = true := by kernel_rfl
theorem j5 : laidOutB Tryd.pinned.checked.prog = true := by kernel_rfl
theorem j6 : mapsRowed Tryd.pinned.checked.prog = true := by kernel_rfl
theorem j7 : Tryd.pinned.checked.prog.stopsHeard = true := by kernel_rfl
theorem j8 : Tryd.pinned.checked.prog.mayEnter = true := by kernel_rfl
theorem j9 : (Rows.helpersDrawsRow.plainKeys == Tryd.pinned.checked.prog.plainKeys) = true := by kernel_rfl
theorem j10 : (Rows.helpersDrawsRow.lifted == Tryd.pinned.checked.prog.liftsFinal) = true := by kernel_rfl
theorem j11 : Rows.helpersDrawsRow.wf (OpenSpec.ofChange Rows.helpersDrawsSpec) = true := by kernel_rfl
theorem j12 : (Tryd.pinned.checked.prog.make == some Rows.helpersDrawsRow.make) = true := by kernel_rfl
theorem andT {a b : Bool} (h : a = true) (g : b = true) : (a && b) = true := by rw [h, g]; rfl
theorem joined : joinedFacts Tryd.pinned.checked.prog 3 Tryd.f3 Rows.helpersDrawsSpec Rows.helpersDrawsRow = true := by
  unfold joinedFacts
  repeat' (first | with_reducible exact j1 | with_reducible exact j2 | with_reducible exact j3 | with_reducible exact j4 | with_reducible exact j5 | with_reducible exact j6 | with_reducible exact j7 | with_reducible exact j8 | with_reducible exact j9 | with_reducible exact j10 | with_reducible exact j11 | with_reducible exact j12 | with_reducible refine andT ?_ ?_)
  all_goals kernel_rfl

theorem over : Rows.helpersDrawsRow.holds Tryd.pinned (OpenSpec.ofChange Rows.helpersDrawsSpec) :=
  OpenClaim.holds_of_wide 3 Tryd.f3 rfl rfl rfl rfl rfl rfl rfl ⟨rfl, rfl, rfl, rfl, rfl⟩ rfl rfl rfl rfl rfl (by kernel_rfl) Tryd.func3 joined
    (of_decide_eq_true (by kernel_rfl)) (by unfold Func.isWrapper; first | (rw [if_pos (by decide +kernel)]; kernel_rfl) | (rw [if_neg (by decide +kernel)]; exact ⟨rfl, rfl⟩))
    (fun os started H enc _ => lifted os started H enc)

theorem t1 : Rows.helpersDrawsRow.wfByText (OpenSpec.ofChange Rows.helpersDrawsSpec) = true := by kernel_rfl
theorem t2 : Tryd.pinned.checked.prog.mainIs = some (true, "76ad9f8ac79ae5450a6e3f020034634830bf060ef9203526e3d3b0c07cb38711".toList) := by kernel_rfl
theorem t3 : true = Tryd.pinned.checked.prog.looks [] := by kernel_rfl
theorem t4 : false = Rows.helpersDrawsRow.goesBy Tryd.pinned.checked.prog := by kernel_rfl
theorem card : Rows.HelpersDrawsCardSaid :=
  Claim7.holds_tied_plain_at .later [] [.data] true (true, "76ad9f8ac79ae5450a6e3f020034634830bf060ef9203526e3d3b0c07cb38711") true
    over (fun _ h => by cases h) t1 (fun _ h => by cases h) helpersDraws_row_tie rfl ⟨rfl, rfl⟩ t2 rfl
    (fun f fn hf hfn => by
      obtain rfl : f = 3 := Option.some.inj ((show Tryd.prog.funcNamed "firewall/firewalllaw09.HelpersDraws" = some 3 by kernel_rfl).symm.trans hf) |>.symm
      obtain rfl : fn = Tryd.f3 := (Option.some.inj (Tryd.func3.symm.trans hfn)).symm
      exact ⟨t3, fun j t ht => by
        rw [Tryd.params3] at ht
        have hm : t ∈ [22, 5] := by simpa using Array.mem_of_getElem? ht
        have hall : ([22, 5].all fun u => !Tryd.prog.wantsStandIn u) = true := by kernel_rfl
        exact (show Tryd.prog.wantsStandIn t = false by simpa using List.all_eq_true.1 hall t hm)⟩)
    t4
#print axioms card
end Go.Proofs.YtbjiicjmlbocdaaDoor.helpersDraws
