/-
  The law InterpNone returns true for every list of instructions and every number of steps, where the tables lie as the program lays them: in a world that is none no program runs.
-/
import Derived.Test.YthhgfjnnconocaaGreatDoorRows
import Derived.Test.YthhgfjnnconocaaGreatDoorCards
import Derived.Test.YthhgfjnnconocaaGreatDoorTie
import Derived.Test.YthhgfjnnconocaaGreatDoorLaw10g
import Derived.Test.YthhgfjnnconocaaGreatDoorPackD
import Derived.WalkKit
import Derived.ProofKit
import Derived.LaidMore
import Derived.Stop.Joined
import Derived.SevenTiedAt
import Derived.OpenShut
namespace Go.Proofs.YthhgfjnnconocaaGreatDoor.interpNone
open Go.ChangeShapes Go.WideShapes Go.ChangeAt Go.RowKit Go.WideMaps Go.WideElems
set_option linter.unusedVariables false

theorem own : ownKnob Tryz.prog.godebug = none := by kernel_rfl

theorem walk (v0 : Value) (a1 : Int) (w : World) (w0 : Kv.ok w .l v0) (w1 : (Lit.int .i64 a1).wf = true) (hT : Ex.TabAt w) :
    Calls Tryz.prog 3 #[v0, .int .i64 a1] w fun e w' => e = .returned (.bool true) ∧ Ex.Gr w w' :=
  Ex.interpNone_walk v0 a1 w w0 hT

theorem door_met (os : Os) (args : Array Value) : laidMetH Tryz.prog [("firewall/insns.sizes", Rows.laid_firewall_insns_sizes), ("firewall/helpers.args", Rows.laid_firewall_helpers_args)] ((World.doorLaid Tryz.prog 31 os).forCall (fun _ _ => 0) ⟨#[], args, []⟩).memory :=
  laidMetH_of_parts3 (fuel := 8) (laidMet_of_run' 8 (by kernel_rfl) (by kernel_rfl)) (by kernel_rfl) (by kernel_rfl)

set_option maxRecDepth 100000 in
theorem lifted (os : Os) (started : os.Started) (H : Type) (enc : TypeId × Value → H) :
    ReturnsInHanded {} Tryz.checked os 3 .any (fun w args => (Rows.interpNoneSpec.pre enc Tryz.prog Tryz.f3 [] false w args ∧ laidMetH Tryz.prog [("firewall/insns.sizes", Rows.laid_firewall_insns_sizes), ("firewall/helpers.args", Rows.laid_firewall_helpers_args)] w) ∧ sizedMet enc Tryz.prog Tryz.f3 (OpenSpec.ofChange Rows.interpNoneSpec) false w args) (Rows.interpNoneSpec.post enc Tryz.prog Tryz.f3 false true false false) := by
  refine returnsInHanded_of_change_and (C := Tryz.checked) (X := fun w _ => laidMetH Tryz.prog [("firewall/insns.sizes", Rows.laid_firewall_insns_sizes), ("firewall/helpers.args", Rows.laid_firewall_helpers_args)] w) (fun _ _ _ hh h => h.of_heap hh) own started (by kernel_rfl) Tryz.func3
    (ChangeSpec.witness_shaped (enc := enc) (C := Tryz.checked) (os := os) (X := fun w _ => laidMetH Tryz.prog [("firewall/insns.sizes", Rows.laid_firewall_insns_sizes), ("firewall/helpers.args", Rows.laid_firewall_helpers_args)] w) false (World.doorLaid Tryz.prog 31 os) #[.slice none 0 0, .int .i64 0] 8 rfl (World.shaped_of_RefB (by kernel_rfl) (by kernel_rfl)) (by kernel_rfl) (by kernel_rfl) (by kernel_rfl) (door_met os _)) ?_
  intro W base args ds gs before hval0 hW _ _ hL _
  have hval : ∀ (j : Nat) t v, Tryz.f3.params[j]? = some t → args[j]? = some v → Value.okWide Tryz.prog W .any base t v := hval0
  have hW' := hW
  obtain ⟨p, q, hA0, hV, rfl, hfz, hnd⟩ := hW
  have hA : DataW.TrodAll enc Tryz.prog W 0 (fun _ => true) true Tryz.f3.params.toList args.toList ds p := hA0
  rw [Tryz.params3] at hA hval
  have hAk := hA
  obtain ⟨v0, vs0, d0, ds0, p0, q0, hargs, rfl, rfl, h0, r0⟩ := trodAll_cons hA
  obtain ⟨v1, vs1, d1, ds1, p1, q1, rfl, rfl, rfl, h1, r1⟩ := trodAll_cons r0
  obtain ⟨rfl, rfl, rfl⟩ := trodAll_nil r1
  obtain rfl : args = #[v0, v1] := by cases args; simp_all
  obtain ⟨rfl, rfl⟩ := trodVars_none hV
  have w0 := open_kv1 (k := .l) (by kernel_rfl) (hval 0 22 v0 rfl rfl)
  obtain ⟨a1, rfl, w1⟩ := open_kv1 (k := .i .i64) (by kernel_rfl) (hval 1 3 v1 rfl rfl)
  clear hA0 hval0
  simp only [List.append_nil] at hW' hAk
  refine (walk v0 a1 W w0 w1 (Ex.tab_of_laid hL)).mono fun e W' ⟨he, hg⟩ => ?_
  subst he
  exact ⟨_, rfl, Ex.post_of_gr (pv := []) hW' (fun _ _ _ => (trodAll_cons_mk (shut_bool Tryz.underlying4 _) trodAll_mk0))
    (fun sp hs => trodAll_stays (by kernel_rfl) (by kernel_rfl) hAk (fun x hx => sameAt_of_gr hg (hW'.lt x hx)) hs) (fun _ _ => rfl) (List.append_nil _).symm
    hg (ok_one (by kernel_rfl) rfl (okWide_bool_mk Tryz.underlying4 _))⟩

theorem over : Rows.interpNoneRow.holds Tryz.pinned (OpenSpec.ofChange Rows.interpNoneSpec) :=
  OpenClaim.holds_of_wide 3 Tryz.f3 rfl rfl rfl rfl rfl rfl rfl ⟨rfl, rfl, rfl, rfl, rfl⟩ rfl rfl rfl rfl rfl (by kernel_rfl) Tryz.func3 (by kernel_rfl)
    (of_decide_eq_true (by kernel_rfl)) (by unfold Func.isWrapper; first | (rw [if_pos (by decide +kernel)]; kernel_rfl) | (rw [if_neg (by decide +kernel)]; exact ⟨rfl, rfl⟩))
    (fun os started H enc _ => lifted os started H enc)

theorem card : Rows.InterpNoneCardSaid :=
  Claim7.holds_tied_plain_at .later [] [.data, .data] true (true, "cddebb9db1a4d527a43973fa2dc00d8ce5cc78a4fb21a7c366b34ae2e9043a11") true
    over (fun _ h => by cases h) (by kernel_rfl) (fun _ h => by cases h) interpNone_row_tie rfl ⟨rfl, rfl⟩ (by kernel_rfl) rfl
    (fun f fn hf hfn => by
      obtain rfl : f = 3 := Option.some.inj ((show Tryz.prog.funcNamed "firewall/firewalllaw10.InterpNone" = some 3 by kernel_rfl).symm.trans hf) |>.symm
      obtain rfl : fn = Tryz.f3 := (Option.some.inj (Tryz.func3.symm.trans hfn)).symm
      exact ⟨by kernel_rfl, fun j t ht => by
        rw [Tryz.params3] at ht
        have hm : t ∈ [22, 3] := by simpa using Array.mem_of_getElem? ht
        have hall : ([22, 3].all fun u => !Tryz.prog.wantsStandIn u) = true := by kernel_rfl
        exact (show Tryz.prog.wantsStandIn t = false by simpa using List.all_eq_true.1 hall t hm)⟩)
    (by kernel_rfl)
#print axioms card
end Go.Proofs.YthhgfjnnconocaaGreatDoor.interpNone
