/-
  The law HelpersNone returns true for every act, where the table of how many arguments helpers have lies as the program lays it: a world that is none has nothing, and does nothing.
-/
import Derived.Test.YtcpgbhmddfakgaaDoorRows
import Derived.Test.YtcpgbhmddfakgaaDoorCards
import Derived.Test.YtcpgbhmddfakgaaDoorTie
import Derived.Test.YtcpgbhmddfakgaaDoorLaw09a
import Derived.Test.YtcpgbhmddfakgaaDoorPlain
import Derived.Test.YtcpgbhmddfakgaaDoorPostGr
import Derived.WalkKit
import Derived.ProofKit
import Derived.LaidMore
import Derived.Stop.Joined
import Derived.SevenTiedAt
import Derived.OpenShut
import Derived.ShutString
namespace Go.Proofs.YtcpgbhmddfakgaaDoor.helpersNone
open Go.ChangeShapes Go.WideShapes Go.ChangeAt Go.RowKit Go.WideMaps Go.WideElems
open Go.ChangeMaps (open_string shut_string)
set_option linter.unusedVariables false

theorem own : ownKnob Tryd.prog.godebug = none := by kernel_rfl

theorem walk (a0_0 : Int) (a0_1 : Int) (a0_2 : Int) (a0_3 : Int) (a0_4 : Int) (a0_5 : Int) (a0_6 : Int) (w0_0 : (Lit.int .u8 a0_0).wf = true) (w0_1 : (Lit.int .i64 a0_1).wf = true) (w0_2 : (Lit.int .u64 a0_2).wf = true) (w0_3 : (Lit.int .u64 a0_3).wf = true) (w0_4 : (Lit.int .u64 a0_4).wf = true) (w0_5 : (Lit.int .u64 a0_5).wf = true) (w0_6 : (Lit.int .u64 a0_6).wf = true) (w : World) (hT : Ex.TabAt w) :
    Calls Tryd.prog 3 #[.agg ⟨[.int .u8 a0_0, .int .i64 a0_1, .int .u64 a0_2, .int .u64 a0_3, .int .u64 a0_4, .int .u64 a0_5, .int .u64 a0_6]⟩] w fun e w' => e = .returned (.bool true) ∧ Ex.Gr w w' :=
  Ex.helpersNone_walk a0_0 a0_1 a0_2 a0_3 a0_4 a0_5 a0_6 w hT

theorem door_met (os : Os) (args : Array Value) : laidMetH Tryd.prog [("firewall/helpers.args", Rows.laid_firewall_helpers_args)] ((World.doorLaid Tryd.prog 14 os).forCall (fun _ _ => 0) ⟨#[], args, []⟩).memory :=
  laidMetH_of_parts3 (fuel := 8) (laidMet_of_run' 8 (by kernel_rfl) (by kernel_rfl)) (by kernel_rfl) (by kernel_rfl)

set_option maxRecDepth 100000 in
theorem lifted (os : Os) (started : os.Started) (H : Type) (enc : TypeId × Value → H) :
    ReturnsInHanded {} Tryd.checked os 3 .any (fun w args => (Rows.helpersNoneSpec.pre enc Tryd.prog Tryd.f3 [] false w args ∧ laidMetH Tryd.prog [("firewall/helpers.args", Rows.laid_firewall_helpers_args)] w) ∧ sizedMet enc Tryd.prog Tryd.f3 (OpenSpec.ofChange Rows.helpersNoneSpec) false w args) (Rows.helpersNoneSpec.post enc Tryd.prog Tryd.f3 false true false false) := by
  refine returnsInHanded_of_change_and (C := Tryd.checked) (X := fun w _ => laidMetH Tryd.prog [("firewall/helpers.args", Rows.laid_firewall_helpers_args)] w) (fun _ _ _ hh h => h.of_heap hh) own started (by kernel_rfl) Tryd.func3
    (ChangeSpec.witness_shaped (enc := enc) (C := Tryd.checked) (os := os) (X := fun w _ => laidMetH Tryd.prog [("firewall/helpers.args", Rows.laid_firewall_helpers_args)] w) false (World.doorLaid Tryd.prog 14 os) #[.agg #[.int .u8 0, .int .i64 0, .int .u64 0, .int .u64 0, .int .u64 0, .int .u64 0, .int .u64 0]] 8 rfl (World.shaped_of_RefB (by kernel_rfl) (by kernel_rfl)) (by kernel_rfl) (by kernel_rfl) (by kernel_rfl) (door_met os _)) ?_
  intro W base args ds gs before hval0 hW _ _ hL _
  have hval : ∀ (j : Nat) t v, Tryd.f3.params[j]? = some t → args[j]? = some v → Value.okWide Tryd.prog W .any base t v := hval0
  have hW' := hW
  obtain ⟨p, q, hA0, hV, rfl, hfz, hnd⟩ := hW
  have hA : DataW.TrodAll enc Tryd.prog W 0 (fun _ => true) true Tryd.f3.params.toList args.toList ds p := hA0
  rw [Tryd.params3] at hA hval
  obtain ⟨v0, vs0, d0, ds0, p0, q0, hargs, rfl, rfl, h0, r0⟩ := trodAll_cons hA
  obtain ⟨rfl, rfl, rfl⟩ := trodAll_nil r0
  obtain rfl : args = #[v0] := by cases args; simp_all
  obtain ⟨rfl, rfl⟩ := trodVars_none hV
  obtain ⟨rfl, ⟨cs0, rfl, hok0⟩, hsh0⟩ := open_plain (f := 8) (ks := [.i .u8, .i .i64, .i .u64, .i .u64, .i .u64, .i .u64, .i .u64]) (t := 25) (by kernel_rfl) (by decide) h0
  obtain ⟨_, _, rfl, ⟨a0_0, rfl, w0_0⟩, hok0_1⟩ := hok0.cons
  obtain ⟨_, _, rfl, ⟨a0_1, rfl, w0_1⟩, hok0_2⟩ := hok0_1.cons
  obtain ⟨_, _, rfl, ⟨a0_2, rfl, w0_2⟩, hok0_3⟩ := hok0_2.cons
  obtain ⟨_, _, rfl, ⟨a0_3, rfl, w0_3⟩, hok0_4⟩ := hok0_3.cons
  obtain ⟨_, _, rfl, ⟨a0_4, rfl, w0_4⟩, hok0_5⟩ := hok0_4.cons
  obtain ⟨_, _, rfl, ⟨a0_5, rfl, w0_5⟩, hok0_6⟩ := hok0_5.cons
  obtain ⟨_, _, rfl, ⟨a0_6, rfl, w0_6⟩, hok0_7⟩ := hok0_6.cons
  obtain rfl := hok0_7.nil
  clear hA0 hval0
  simp only [List.append_nil] at hW'
  refine (walk a0_0 a0_1 a0_2 a0_3 a0_4 a0_5 a0_6 w0_0 w0_1 w0_2 w0_3 w0_4 w0_5 w0_6 W (Ex.tab_of_laid hL)).mono fun e W' ⟨he, hg⟩ => ?_
  subst he
  exact ⟨_, rfl, Ex.post_of_gr (pa := []) (pv := []) hW' (fun _ _ _ => (trodAll_cons_mk (shut_bool Tryd.underlying4 _) trodAll_mk0)) (fun sp _ => (trodAll_cons_mk (hsh0 _ _ _ _) trodAll_mk0)) (fun _ _ => rfl) rfl
    hg (ok_one (by kernel_rfl) rfl (okWide_bool_mk Tryd.underlying4 _))⟩

theorem over : Rows.helpersNoneRow.holds Tryd.pinned (OpenSpec.ofChange Rows.helpersNoneSpec) :=
  OpenClaim.holds_of_wide 3 Tryd.f3 rfl rfl rfl rfl rfl rfl rfl ⟨rfl, rfl, rfl, rfl, rfl⟩ rfl rfl rfl rfl rfl (by kernel_rfl) Tryd.func3 (by kernel_rfl)
    (of_decide_eq_true (by kernel_rfl)) (by unfold Func.isWrapper; first | (rw [if_pos (by decide +kernel)]; kernel_rfl) | (rw [if_neg (by decide +kernel)]; exact ⟨rfl, rfl⟩))
    (fun os started H enc _ => lifted os started H enc)

theorem card : Rows.HelpersNoneCardSaid :=
  Claim7.holds_tied_plain_at .later [] [.data] true (true, "d604e2c5d05b1f2141aa3592f3252ff1463f676b4756890666a438e8ce71ea1a") true
    over (fun _ h => by cases h) (by kernel_rfl) (fun _ h => by cases h) helpersNone_row_tie rfl ⟨rfl, rfl⟩ (by kernel_rfl) rfl
    (fun f fn hf hfn => by
      obtain rfl : f = 3 := Option.some.inj ((show Tryd.prog.funcNamed "firewall/firewalllaw09.HelpersNone" = some 3 by kernel_rfl).symm.trans hf) |>.symm
      obtain rfl : fn = Tryd.f3 := (Option.some.inj (Tryd.func3.symm.trans hfn)).symm
      exact ⟨by kernel_rfl, fun j t ht => by
        rw [Tryd.params3] at ht
        have hm : t ∈ [25] := by simpa using Array.mem_of_getElem? ht
        have hall : ([25].all fun u => !Tryd.prog.wantsStandIn u) = true := by kernel_rfl
        exact (show Tryd.prog.wantsStandIn t = false by simpa using List.all_eq_true.1 hall t hm)⟩)
    (by kernel_rfl)
#print axioms card
end Go.Proofs.YtcpgbhmddfakgaaDoor.helpersNone
