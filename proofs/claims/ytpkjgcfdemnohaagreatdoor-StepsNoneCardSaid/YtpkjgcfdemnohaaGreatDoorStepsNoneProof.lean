/-
  The law StepsNone returns true for every program and every slot, where the table of sizes lies as the program lays it: where there is no such slot, it is told so.
-/
import Derived.Test.YtpkjgcfdemnohaaGreatDoorRows
import Derived.Test.YtpkjgcfdemnohaaGreatDoorCards
import Derived.Test.YtpkjgcfdemnohaaGreatDoorTie
import Derived.Test.YtpkjgcfdemnohaaGreatDoorPackC
import Derived.WalkKit
import Derived.ProofKit
import Derived.LaidMore
import Derived.Stop.Joined
import Derived.SevenTiedAt
import Derived.OpenShut
namespace Go.Proofs.YtpkjgcfdemnohaaGreatDoor.stepsNone
open Go.ChangeShapes Go.WideShapes Go.ChangeAt Go.RowKit Go.WideMaps Go.WideElems
set_option linter.unusedVariables false

theorem own : ownKnob Tryz.prog.godebug = none := by kernel_rfl

theorem walk (v0 : Value) (a1 : Int) (w : World) (w0 : Kv.ok w .l v0) (w1 : (Lit.int .i64 a1).wf = true) (hT : Ex.TabAt w) :
    Calls Tryz.prog 4 #[v0, .int .i64 a1] w fun e w' => e = .returned (.bool true) ∧ Ex.Gr w w' :=
  Ex.stepsNone_walk v0 w0 a1 w1 hT

theorem door_met (os : Os) (args : Array Value) : laidMetH Tryz.prog [("firewall/insns.sizes", Rows.laid_firewall_insns_sizes)] ((World.doorLaid Tryz.prog 57 os).forCall (fun _ _ => 0) ⟨#[], args, []⟩).memory :=
  laidMetH_of_parts3 (fuel := 8) (laidMet_of_run' 8 (by kernel_rfl) (by kernel_rfl)) (by kernel_rfl) (by kernel_rfl)

set_option maxRecDepth 100000 in
theorem lifted (os : Os) (started : os.Started) (H : Type) (enc : TypeId × Value → H) :
    ReturnsInHanded {} Tryz.checked os 4 .any (fun w args => (Rows.stepsNoneSpec.pre enc Tryz.prog Tryz.f4 [] false w args ∧ laidMetH Tryz.prog [("firewall/insns.sizes", Rows.laid_firewall_insns_sizes)] w) ∧ sizedMet enc Tryz.prog Tryz.f4 (OpenSpec.ofChange Rows.stepsNoneSpec) false w args) (Rows.stepsNoneSpec.post enc Tryz.prog Tryz.f4 false true false false) := by
  refine returnsInHanded_of_change_and (C := Tryz.checked) (X := fun w _ => laidMetH Tryz.prog [("firewall/insns.sizes", Rows.laid_firewall_insns_sizes)] w) (fun _ _ _ hh h => h.of_heap hh) own started (by kernel_rfl) Tryz.func4
    (ChangeSpec.witness_shaped (enc := enc) (C := Tryz.checked) (os := os) (X := fun w _ => laidMetH Tryz.prog [("firewall/insns.sizes", Rows.laid_firewall_insns_sizes)] w) false (World.doorLaid Tryz.prog 57 os) #[.slice none 0 0, .int .i64 0] 8 rfl (World.shaped_of_RefB (by kernel_rfl) (by kernel_rfl)) (by kernel_rfl) (by kernel_rfl) (by kernel_rfl) (door_met os _)) ?_
  intro W base args ds gs before hval0 hW _ _ hL _
  have hval : ∀ (j : Nat) t v, Tryz.f4.params[j]? = some t → args[j]? = some v → Value.okWide Tryz.prog W .any base t v := hval0
  have hW' := hW
  obtain ⟨p, q, hA0, hV, rfl, hfz, hnd⟩ := hW
  have hA : DataW.TrodAll enc Tryz.prog W 0 (fun _ => true) true Tryz.f4.params.toList args.toList ds p := hA0
  rw [Tryz.params4] at hA hval
  have hAk := hA
  obtain ⟨v0, vs0, d0, ds0, p0, q0, hargs, rfl, rfl, h0, r0⟩ := trodAll_cons hA
  obtain ⟨v1, vs1, d1, ds1, p1, q1, rfl, rfl, rfl, h1, r1⟩ := trodAll_cons r0
  obtain ⟨rfl, rfl, rfl⟩ := trodAll_nil r1
  obtain rfl : args = #[v0, v1] := by cases args; simp_all
  obtain ⟨rfl, rfl⟩ := trodVars_none hV
  have w0 := open_kv1 (k := .l) (by kernel_rfl) (hval 0 46 v0 rfl rfl)
  obtain ⟨a1, rfl, w1⟩ := open_kv1 (k := .i .i64) (by kernel_rfl) (hval 1 3 v1 rfl rfl)
  clear hA0 hval0
  simp only [List.append_nil] at hW' hAk
  refine (walk v0 a1 W w0 w1 (Ex.tab_of_laid hL)).mono fun e W' ⟨he, hg⟩ => ?_
  subst he
  exact ⟨_, rfl, Ex.post_of_gr (pv := []) hW' (fun _ _ _ => (trodAll_cons_mk (shut_bool Tryz.underlying4 _) trodAll_mk0))
    (fun sp hs => trodAll_stays (by kernel_rfl) (by kernel_rfl) hAk (fun x hx => sameAt_of_gr hg (hW'.lt x hx)) hs) (fun _ _ => rfl) (List.append_nil _).symm
    hg (ok_one (by kernel_rfl) rfl (okWide_bool_mk Tryz.underlying4 _))⟩

theorem j1 : (Rows.stepsNoneRow.inPlace == Tryz.pinned.checked.prog.inPlace 4) = true := by kernel_rfl
theorem j2 : (Rows.stepsNoneRow.unfollowed == Tryz.pinned.checked.prog.unfollowed 4) = true := by kernel_rfl
theorem j3 : (Rows.stepsNoneRow.recurses == Tryz.pinned.checked.prog.recurses 4) = true := by kernel_rfl
theorem j4 : (Rows.stepsNoneRow.named == Tryz.pinned.checked.prog.varsNamed 4) = true := by kernel_rfl
theorem j5 : laidOutB Tryz.pinned.checked.prog = true := by kernel_rfl
theorem j6 : mapsRowed Tryz.pinned.checked.prog = true := by kernel_rfl
theorem j7 : Tryz.pinned.checked.prog.stopsHeard = true := by kernel_rfl
theorem j8 : Tryz.pinned.checked.prog.mayEnter = true := by kernel_rfl
theorem j9 : (Rows.stepsNoneRow.plainKeys == Tryz.pinned.checked.prog.plainKeys) = true := by kernel_rfl
theorem j10 : (Rows.stepsNoneRow.lifted == Tryz.pinned.checked.prog.liftsFinal) = true := by kernel_rfl
theorem j11 : Rows.stepsNoneRow.wf (OpenSpec.ofChange Rows.stepsNoneSpec) = true := by kernel_rfl
theorem j12 : (Tryz.pinned.checked.prog.make == some Rows.stepsNoneRow.make) = true := by kernel_rfl
theorem andT {a b : Bool} (h : a = true) (g : b = true) : (a && b) = true := by rw [h, g]; rfl
theorem joined : joinedFacts Tryz.pinned.checked.prog 4 Tryz.f4 Rows.stepsNoneSpec Rows.stepsNoneRow = true := by
  unfold joinedFacts
  repeat' (first | with_reducible exact j1 | with_reducible exact j2 | with_reducible exact j3 | with_reducible exact j4 | with_reducible exact j5 | with_reducible exact j6 | with_reducible exact j7 | with_reducible exact j8 | with_reducible exact j9 | with_reducible exact j10 | with_reducible exact j11 | with_reducible exact j12 | with_reducible refine andT ?_ ?_)
  all_goals kernel_rfl

theorem over : Rows.stepsNoneRow.holds Tryz.pinned (OpenSpec.ofChange Rows.stepsNoneSpec) :=
  OpenClaim.holds_of_wide 4 Tryz.f4 rfl rfl rfl rfl rfl rfl rfl ⟨rfl, rfl, rfl, rfl, rfl⟩ rfl rfl rfl rfl rfl (by kernel_rfl) Tryz.func4 joined
    (of_decide_eq_true (by kernel_rfl)) (by unfold Func.isWrapper; first | (rw [if_pos (by decide +kernel)]; kernel_rfl) | (rw [if_neg (by decide +kernel)]; exact ⟨rfl, rfl⟩))
    (fun os started H enc _ => lifted os started H enc)

theorem t1 : Rows.stepsNoneRow.wfByText (OpenSpec.ofChange Rows.stepsNoneSpec) = true := by kernel_rfl
theorem t2 : Tryz.pinned.checked.prog.mainIs = some (true, "1205545b5aa6064ea420e4c5950c80f1c58cdc930257abf662b1fb8a94a4df52".toList) := by kernel_rfl
theorem t3 : true = Tryz.pinned.checked.prog.looks [] := by kernel_rfl
theorem t4 : false = Rows.stepsNoneRow.goesBy Tryz.pinned.checked.prog := by kernel_rfl
theorem card : Rows.StepsNoneCardSaid :=
  Claim7.holds_tied_plain_at .later [] [.data] true (true, "1205545b5aa6064ea420e4c5950c80f1c58cdc930257abf662b1fb8a94a4df52") true
    over (fun _ h => by cases h) t1 (fun _ h => by cases h) stepsNone_row_tie rfl ⟨rfl, rfl⟩ t2 rfl
    (fun f fn hf hfn => by
      obtain rfl : f = 4 := Option.some.inj ((show Tryz.prog.funcNamed "firewall/firewalllaw21.StepsNone" = some 4 by kernel_rfl).symm.trans hf) |>.symm
      obtain rfl : fn = Tryz.f4 := (Option.some.inj (Tryz.func4.symm.trans hfn)).symm
      exact ⟨t3, fun j t ht => by
        rw [Tryz.params4] at ht
        have hm : t ∈ [46, 3] := by simpa using Array.mem_of_getElem? ht
        have hall : ([46, 3].all fun u => !Tryz.prog.wantsStandIn u) = true := by kernel_rfl
        exact (show Tryz.prog.wantsStandIn t = false by simpa using List.all_eq_true.1 hall t hm)⟩)
    t4
#print axioms card
end Go.Proofs.YtpkjgcfdemnohaaGreatDoor.stepsNone
