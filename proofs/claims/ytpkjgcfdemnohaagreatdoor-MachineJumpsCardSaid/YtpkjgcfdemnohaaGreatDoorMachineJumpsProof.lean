/-
  The law MachineJumps: code that compares two numbers and jumps by what that says comes to one of two numbers, whatever the condition and the numbers are, over short jumps and long ones; for all inputs; the two tables as the text lays them.
-/
import Derived.Test.YtpkjgcfdemnohaaGreatDoorRows
import Derived.Test.YtpkjgcfdemnohaaGreatDoorCards
import Derived.Test.YtpkjgcfdemnohaaGreatDoorTie
import Derived.Test.YtpkjgcfdemnohaaGreatDoorMjB
import Derived.Test.YtpkjgcfdemnohaaGreatDoorPackC
import Derived.WalkKit
import Derived.ProofKit
import Derived.LaidMore
import Derived.Stop.Joined
import Derived.SevenTiedAt
import Derived.OpenShut
namespace Go.Proofs.YtpkjgcfdemnohaaGreatDoor.machineJumps
open Go.ChangeShapes Go.WideShapes Go.ChangeAt Go.RowKit Go.WideMaps Go.WideElems
set_option linter.unusedVariables false

theorem own : ownKnob Tryz.prog.godebug = none := by kernel_rfl

theorem walk (a0 : Int) (a1_0 : Int) (a1_1 : Int) (a2 : Bool) (w : World) (w0 : (Lit.int .u8 a0).wf = true) (w1_0 : (Lit.int .u64 a1_0).wf = true) (w1_1 : (Lit.int .u64 a1_1).wf = true) (hT : Ex.TabAt w) :
    Calls Tryz.prog 6 #[.int .u8 a0, .agg ⟨[.int .u64 a1_0, .int .u64 a1_1]⟩, .bool a2] w fun e w' => e = .returned (.bool true) ∧ Ex.Gr w w' :=
  Ex.machineJumps_wf a0 a1_0 a1_1 a2 w0 w1_0 w1_1 w hT

theorem door_met (os : Os) (args : Array Value) : laidMetH Tryz.prog [("firewall/codec.forms", Rows.laid_firewall_codec_forms), ("firewall/helpers.args", Rows.laid_firewall_helpers_args)] ((World.doorLaid Tryz.prog 57 os).forCall (fun _ _ => 0) ⟨#[], args, []⟩).memory :=
  laidMetH_of_parts3 (fuel := 8) (laidMet_of_run' 8 (by kernel_rfl) (by kernel_rfl)) (by kernel_rfl) (by kernel_rfl)

set_option maxRecDepth 100000 in
theorem lifted (os : Os) (started : os.Started) (H : Type) (enc : TypeId × Value → H) :
    ReturnsInHanded {} Tryz.checked os 6 .any (fun w args => (Rows.machineJumpsSpec.pre enc Tryz.prog Tryz.f6 [] false w args ∧ laidMetH Tryz.prog [("firewall/codec.forms", Rows.laid_firewall_codec_forms), ("firewall/helpers.args", Rows.laid_firewall_helpers_args)] w) ∧ sizedMet enc Tryz.prog Tryz.f6 (OpenSpec.ofChange Rows.machineJumpsSpec) false w args) (Rows.machineJumpsSpec.post enc Tryz.prog Tryz.f6 false true false false) := by
  refine returnsInHanded_of_change_and (C := Tryz.checked) (X := fun w _ => laidMetH Tryz.prog [("firewall/codec.forms", Rows.laid_firewall_codec_forms), ("firewall/helpers.args", Rows.laid_firewall_helpers_args)] w) (fun _ _ _ hh h => h.of_heap hh) own started (by kernel_rfl) Tryz.func6
    (ChangeSpec.witness_shaped (enc := enc) (C := Tryz.checked) (os := os) (X := fun w _ => laidMetH Tryz.prog [("firewall/codec.forms", Rows.laid_firewall_codec_forms), ("firewall/helpers.args", Rows.laid_firewall_helpers_args)] w) false (World.doorLaid Tryz.prog 57 os) #[.int .u8 0, .agg #[.int .u64 0, .int .u64 0], .bool false] 8 rfl (World.shaped_of_RefB (by kernel_rfl) (by kernel_rfl)) (by kernel_rfl) (by kernel_rfl) (by kernel_rfl) (door_met os _)) ?_
  intro W base args ds gs before hval0 hW _ _ hL _
  have hval : ∀ (j : Nat) t v, Tryz.f6.params[j]? = some t → args[j]? = some v → Value.okWide Tryz.prog W .any base t v := hval0
  have hW' := hW
  obtain ⟨p, q, hA0, hV, rfl, hfz, hnd⟩ := hW
  have hA : DataW.TrodAll enc Tryz.prog W 0 (fun _ => true) true Tryz.f6.params.toList args.toList ds p := hA0
  rw [Tryz.params6] at hA hval
  have hAk := hA
  obtain ⟨v0, vs0, d0, ds0, p0, q0, hargs, rfl, rfl, h0, r0⟩ := trodAll_cons hA
  obtain ⟨v1, vs1, d1, ds1, p1, q1, rfl, rfl, rfl, h1, r1⟩ := trodAll_cons r0
  obtain ⟨v2, vs2, d2, ds2, p2, q2, rfl, rfl, rfl, h2, r2⟩ := trodAll_cons r1
  obtain ⟨rfl, rfl, rfl⟩ := trodAll_nil r2
  obtain rfl : args = #[v0, v1, v2] := by cases args; simp_all
  obtain ⟨rfl, rfl⟩ := trodVars_none hV
  obtain ⟨a0, rfl, w0⟩ := open_kv1 (k := .i .u8) (by kernel_rfl) (hval 0 5 v0 rfl rfl)
  obtain ⟨cs1, rfl, hok1⟩ := open_kv (ks := [.i .u64, .i .u64]) (by kernel_rfl) (hval 1 85 v1 rfl rfl)
  obtain ⟨_, _, rfl, ⟨a1_0, rfl, w1_0⟩, hok1_1⟩ := hok1.cons
  obtain ⟨_, _, rfl, ⟨a1_1, rfl, w1_1⟩, hok1_2⟩ := hok1_1.cons
  obtain rfl := hok1_2.nil
  obtain ⟨a2, rfl⟩ := open_kv1 (k := .b) (by kernel_rfl) (hval 2 4 v2 rfl rfl)
  clear hA0 hval0
  simp only [List.append_nil] at hW' hAk
  refine (walk a0 a1_0 a1_1 a2 W w0 w1_0 w1_1 (Ex.tab_of_laid hL)).mono fun e W' ⟨he, hg⟩ => ?_
  subst he
  exact ⟨_, rfl, Ex.post_of_gr (pv := []) hW' (fun _ _ _ => (trodAll_cons_mk (shut_bool Tryz.underlying4 _) trodAll_mk0))
    (fun sp hs => trodAll_stays (by kernel_rfl) (by kernel_rfl) hAk (fun x hx => sameAt_of_gr hg (hW'.lt x hx)) hs) (fun _ _ => rfl) (List.append_nil _).symm
    hg (ok_one (by kernel_rfl) rfl (okWide_bool_mk Tryz.underlying4 _))⟩

theorem j1 : (Rows.machineJumpsRow.inPlace == Tryz.pinned.checked.prog.inPlace 6) = true := by kernel_rfl
theorem j2 : (Rows.machineJumpsRow.unfollowed == Tryz.pinned.checked.prog.unfollowed 6) = true := by kernel_rfl
theorem j3 : (Rows.machineJumpsRow.recurses == Tryz.pinned.checked.prog.recurses 6) = true := by kernel_rfl
theorem j4 : (Rows.machineJumpsRow.named == Tryz.pinned.checked.prog.varsNamed 6) = true := by kernel_rfl
theorem j5 : laidOutB Tryz.pinned.checked.prog = true := by kernel_rfl
theorem j6 : mapsRowed Tryz.pinned.checked.prog = true := by kernel_rfl
theorem j7 : Tryz.pinned.checked.prog.stopsHeard = true := by kernel_rfl
theorem j8 : Tryz.pinned.checked.prog.mayEnter = true := by kernel_rfl
theorem j9 : (Rows.machineJumpsRow.plainKeys == Tryz.pinned.checked.prog.plainKeys) = true := by kernel_rfl
theorem j10 : (Rows.machineJumpsRow.lifted == Tryz.pinned.checked.prog.liftsFinal) = true := by kernel_rfl
theorem j11 : Rows.machineJumpsRow.wf (OpenSpec.ofChange Rows.machineJumpsSpec) = true := by kernel_rfl
theorem j12 : (Tryz.pinned.checked.prog.make == some Rows.machineJumpsRow.make) = true := by kernel_rfl
theorem andT {a b : Bool} (h : a = true) (g : b = true) : (a && b) = true := by rw [h, g]; rfl
theorem joined : joinedFacts Tryz.pinned.checked.prog 6 Tryz.f6 Rows.machineJumpsSpec Rows.machineJumpsRow = true := by
  unfold joinedFacts
  repeat' (first | with_reducible exact j1 | with_reducible exact j2 | with_reducible exact j3 | with_reducible exact j4 | with_reducible exact j5 | with_reducible exact j6 | with_reducible exact j7 | with_reducible exact j8 | with_reducible exact j9 | with_reducible exact j10 | with_reducible exact j11 | with_reducible exact j12 | with_reducible refine andT ?_ ?_)
  all_goals kernel_rfl

theorem over : Rows.machineJumpsRow.holds Tryz.pinned (OpenSpec.ofChange Rows.machineJumpsSpec) :=
  OpenClaim.holds_of_wide 6 Tryz.f6 rfl rfl rfl rfl rfl rfl rfl ⟨rfl, rfl, rfl, rfl, rfl⟩ rfl rfl rfl rfl rfl (by kernel_rfl) Tryz.func6 joined
    (of_decide_eq_true (by kernel_rfl)) (by unfold Func.isWrapper; first | (rw [if_pos (by decide +kernel)]; kernel_rfl) | (rw [if_neg (by decide +kernel)]; exact ⟨rfl, rfl⟩))
    (fun os started H enc _ => lifted os started H enc)

theorem t1 : Rows.machineJumpsRow.wfByText (OpenSpec.ofChange Rows.machineJumpsSpec) = true := by kernel_rfl
theorem t2 : Tryz.pinned.checked.prog.mainIs = some (true, "1205545b5aa6064ea420e4c5950c80f1c58cdc930257abf662b1fb8a94a4df52".toList) := by kernel_rfl
theorem t3 : true = Tryz.pinned.checked.prog.looks [] := by kernel_rfl
theorem t4 : false = Rows.machineJumpsRow.goesBy Tryz.pinned.checked.prog := by kernel_rfl
theorem card : Rows.MachineJumpsCardSaid :=
  Claim7.holds_tied_plain_at .later [] [.data, .data] true (true, "1205545b5aa6064ea420e4c5950c80f1c58cdc930257abf662b1fb8a94a4df52") true
    over (fun _ h => by cases h) t1 (fun _ h => by cases h) machineJumps_row_tie rfl ⟨rfl, rfl⟩ t2 rfl
    (fun f fn hf hfn => by
      obtain rfl : f = 6 := Option.some.inj ((show Tryz.prog.funcNamed "firewall/firewalllaw13.MachineJumps" = some 6 by kernel_rfl).symm.trans hf) |>.symm
      obtain rfl : fn = Tryz.f6 := (Option.some.inj (Tryz.func6.symm.trans hfn)).symm
      exact ⟨t3, fun j t ht => by
        rw [Tryz.params6] at ht
        have hm : t ∈ [5, 85, 4] := by simpa using Array.mem_of_getElem? ht
        have hall : ([5, 85, 4].all fun u => !Tryz.prog.wantsStandIn u) = true := by kernel_rfl
        exact (show Tryz.prog.wantsStandIn t = false by simpa using List.all_eq_true.1 hall t hm)⟩)
    t4
#print axioms card
end Go.Proofs.YtpkjgcfdemnohaaGreatDoor.machineJumps
