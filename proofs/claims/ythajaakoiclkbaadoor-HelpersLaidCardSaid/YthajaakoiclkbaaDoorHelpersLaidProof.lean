/-
  The law HelpersLaid returns true for every key, every value and every flag, where the table of arguments lies as the program lays it: what a call lays in a hash another one finds, with the bytes that stood there, and a third one takes away; with a flag nothing is done; no byte but the maps' changes.
-/
import Derived.Test.YthajaakoiclkbaaDoorRows
import Derived.Test.YthajaakoiclkbaaDoorCards
import Derived.Test.YthajaakoiclkbaaDoorTie
import Derived.Test.YthajaakoiclkbaaDoorLaw09e
import Derived.Test.YthajaakoiclkbaaDoorPlain
import Derived.Test.YthajaakoiclkbaaDoorPostGr
import Derived.WalkKit
import Derived.ProofKit
import Derived.LaidMore
import Derived.Stop.Joined
import Derived.SevenTiedAt
import Derived.OpenShut
import Derived.ShutString
namespace Go.Proofs.YthajaakoiclkbaaDoor.helpersLaid
open Go.ChangeShapes Go.WideShapes Go.ChangeAt Go.RowKit Go.WideMaps Go.WideElems
open Go.ChangeMaps (open_string shut_string)
set_option linter.unusedVariables false

theorem own : ownKnob Tryd.prog.godebug = none := by kernel_rfl

theorem walk (a0_0 : Int) (a0_1 : Int) (a1_0 : Int) (a1_1 : Int) (a1_2 : Int) (a1_3 : Int) (a2 : Int) (w0_0 : (Lit.int .u8 a0_0).wf = true) (w0_1 : (Lit.int .u8 a0_1).wf = true) (w1_0 : (Lit.int .u8 a1_0).wf = true) (w1_1 : (Lit.int .u8 a1_1).wf = true) (w1_2 : (Lit.int .u8 a1_2).wf = true) (w1_3 : (Lit.int .u8 a1_3).wf = true) (w2 : (Lit.int .u64 a2).wf = true) (w : World) (hT : Ex.TabAt w) :
    Calls Tryd.prog 3 #[.agg ⟨[.int .u8 a0_0, .int .u8 a0_1]⟩, .agg ⟨[.int .u8 a1_0, .int .u8 a1_1, .int .u8 a1_2, .int .u8 a1_3]⟩, .int .u64 a2] w fun e w' => e = .returned (.bool true) ∧ Ex.Gr w w' :=
  Ex.helpersLaid_walk a0_0 a0_1 a1_0 a1_1 a1_2 a1_3 a2 w2 w (Ex.laid_of_tab hT)

theorem door_met (os : Os) (args : Array Value) : laidMetH Tryd.prog [("firewall/helpers.args", Rows.laid_firewall_helpers_args)] ((World.doorLaid Tryd.prog 14 os).forCall (fun _ _ => 0) ⟨#[], args, []⟩).memory :=
  laidMetH_of_parts3 (fuel := 8) (laidMet_of_run' 8 (by kernel_rfl) (by kernel_rfl)) (by kernel_rfl) (by kernel_rfl)

set_option maxRecDepth 100000 in
theorem lifted (os : Os) (started : os.Started) (H : Type) (enc : TypeId × Value → H) :
    ReturnsInHanded {} Tryd.checked os 3 .any (fun w args => (Rows.helpersLaidSpec.pre enc Tryd.prog Tryd.f3 [] false w args ∧ laidMetH Tryd.prog [("firewall/helpers.args", Rows.laid_firewall_helpers_args)] w) ∧ sizedMet enc Tryd.prog Tryd.f3 (OpenSpec.ofChange Rows.helpersLaidSpec) false w args) (Rows.helpersLaidSpec.post enc Tryd.prog Tryd.f3 false true false false) := by
  refine returnsInHanded_of_change_and (C := Tryd.checked) (X := fun w _ => laidMetH Tryd.prog [("firewall/helpers.args", Rows.laid_firewall_helpers_args)] w) (fun _ _ _ hh h => h.of_heap hh) own started (by kernel_rfl) Tryd.func3
    (ChangeSpec.witness_shaped (enc := enc) (C := Tryd.checked) (os := os) (X := fun w _ => laidMetH Tryd.prog [("firewall/helpers.args", Rows.laid_firewall_helpers_args)] w) false (World.doorLaid Tryd.prog 14 os) #[.agg #[.int .u8 0, .int .u8 0], .agg #[.int .u8 0, .int .u8 0, .int .u8 0, .int .u8 0], .int .u64 0] 8 rfl (World.shaped_of_RefB (by kernel_rfl) (by kernel_rfl)) (by kernel_rfl) (by kernel_rfl) (by kernel_rfl) (door_met os _)) ?_
  intro W base args ds gs before hval0 hW _ _ hL _
  have hval : ∀ (j : Nat) t v, Tryd.f3.params[j]? = some t → args[j]? = some v → Value.okWide Tryd.prog W .any base t v := hval0
  have hW' := hW
  obtain ⟨p, q, hA0, hV, rfl, hfz, hnd⟩ := hW
  have hA : DataW.TrodAll enc Tryd.prog W 0 (fun _ => true) true Tryd.f3.params.toList args.toList ds p := hA0
  rw [Tryd.params3] at hA hval
  obtain ⟨v0, vs0, d0, ds0, p0, q0, hargs, rfl, rfl, h0, r0⟩ := trodAll_cons hA
  obtain ⟨v1, vs1, d1, ds1, p1, q1, rfl, rfl, rfl, h1, r1⟩ := trodAll_cons r0
  obtain ⟨v2, vs2, d2, ds2, p2, q2, rfl, rfl, rfl, h2, r2⟩ := trodAll_cons r1
  obtain ⟨rfl, rfl, rfl⟩ := trodAll_nil r2
  obtain rfl : args = #[v0, v1, v2] := by cases args; simp_all
  obtain ⟨rfl, rfl⟩ := trodVars_none hV
  obtain ⟨rfl, ⟨cs0, rfl, hok0⟩, hsh0⟩ := open_plain (f := 8) (ks := [.i .u8, .i .u8]) (t := 22) (by kernel_rfl) (by decide) h0
  obtain ⟨_, _, rfl, ⟨a0_0, rfl, w0_0⟩, hok0_1⟩ := hok0.cons
  obtain ⟨_, _, rfl, ⟨a0_1, rfl, w0_1⟩, hok0_2⟩ := hok0_1.cons
  obtain rfl := hok0_2.nil
  obtain ⟨rfl, ⟨cs1, rfl, hok1⟩, hsh1⟩ := open_plain (f := 8) (ks := [.i .u8, .i .u8, .i .u8, .i .u8]) (t := 23) (by kernel_rfl) (by decide) h1
  obtain ⟨_, _, rfl, ⟨a1_0, rfl, w1_0⟩, hok1_1⟩ := hok1.cons
  obtain ⟨_, _, rfl, ⟨a1_1, rfl, w1_1⟩, hok1_2⟩ := hok1_1.cons
  obtain ⟨_, _, rfl, ⟨a1_2, rfl, w1_2⟩, hok1_3⟩ := hok1_2.cons
  obtain ⟨_, _, rfl, ⟨a1_3, rfl, w1_3⟩, hok1_4⟩ := hok1_3.cons
  obtain rfl := hok1_4.nil
  obtain ⟨a2, rfl, rfl, rfl, w2⟩ := open_int Tryd.underlying24 (hval 2 24 v2 rfl rfl) h2
  clear hA0 hval0
  simp only [List.append_nil] at hW'
  refine (walk a0_0 a0_1 a1_0 a1_1 a1_2 a1_3 a2 w0_0 w0_1 w1_0 w1_1 w1_2 w1_3 w2 W (Ex.tab_of_laid hL)).mono fun e W' ⟨he, hg⟩ => ?_
  subst he
  exact ⟨_, rfl, Ex.post_of_gr (pa := []) (pv := []) hW' (fun _ _ _ => (trodAll_cons_mk (shut_bool Tryd.underlying4 _) trodAll_mk0)) (fun sp _ => (trodAll_cons_mk (hsh0 _ _ _ _) (trodAll_cons_mk (hsh1 _ _ _ _) (trodAll_cons_mk (shut_int Tryd.underlying24 w2) trodAll_mk0)))) (fun _ _ => rfl) rfl
    hg (ok_one (by kernel_rfl) rfl (okWide_bool_mk Tryd.underlying4 _))⟩

theorem over : Rows.helpersLaidRow.holds Tryd.pinned (OpenSpec.ofChange Rows.helpersLaidSpec) :=
  OpenClaim.holds_of_wide 3 Tryd.f3 rfl rfl rfl rfl rfl rfl rfl ⟨rfl, rfl, rfl, rfl, rfl⟩ rfl rfl rfl rfl rfl (by kernel_rfl) Tryd.func3 (by kernel_rfl)
    (of_decide_eq_true (by kernel_rfl)) (by unfold Func.isWrapper; first | (rw [if_pos (by decide +kernel)]; kernel_rfl) | (rw [if_neg (by decide +kernel)]; exact ⟨rfl, rfl⟩))
    (fun os started H enc _ => lifted os started H enc)

theorem card : Rows.HelpersLaidCardSaid :=
  Claim7.holds_tied_plain_at .later [] [.data] true (true, "fac213e5e24f7744bb0d105d41b4c9a4a07a65703c4e8d4d5f178d6a37085228") true
    over (fun _ h => by cases h) (by kernel_rfl) (fun _ h => by cases h) helpersLaid_row_tie rfl ⟨rfl, rfl⟩ (by kernel_rfl) rfl
    (fun f fn hf hfn => by
      obtain rfl : f = 3 := Option.some.inj ((show Tryd.prog.funcNamed "firewall/firewalllaw09.HelpersLaid" = some 3 by kernel_rfl).symm.trans hf) |>.symm
      obtain rfl : fn = Tryd.f3 := (Option.some.inj (Tryd.func3.symm.trans hfn)).symm
      exact ⟨by kernel_rfl, fun j t ht => by
        rw [Tryd.params3] at ht
        have hm : t ∈ [22, 23, 24] := by simpa using Array.mem_of_getElem? ht
        have hall : ([22, 23, 24].all fun u => !Tryd.prog.wantsStandIn u) = true := by kernel_rfl
        exact (show Tryd.prog.wantsStandIn t = false by simpa using List.all_eq_true.1 hall t hm)⟩)
    (by kernel_rfl)
#print axioms card
end Go.Proofs.YthajaakoiclkbaaDoor.helpersLaid
