/-
  The law CpuReckons returns true for every state and every two numbers, where the table of forms lies as the program lays it: arithmetic of the machine comes to what that of programs does, a division to what both of theirs do.
-/
import Derived.Test.YtbaiokfjoglmiaaDoorRows
import Derived.Test.YtbaiokfjoglmiaaDoorCards
import Derived.Test.YtbaiokfjoglmiaaDoorTie
import Derived.Test.YtbaiokfjoglmiaaDoorPackD
import Derived.WalkKit
import Derived.ProofKit
import Derived.LaidMore
import Derived.Stop.Joined
import Derived.SevenTiedAt
import Derived.OpenShut
import Derived.ShutString
namespace Go.Proofs.YtbaiokfjoglmiaaDoor.cpuReckons
open Go.ChangeShapes Go.WideShapes Go.ChangeAt Go.RowKit Go.WideMaps Go.WideElems
open Go.ChangeMaps (open_string shut_string)
set_option linter.unusedVariables false

theorem own : ownKnob Tryd.prog.godebug = none := by kernel_rfl

theorem walk (a0_0 : Int) (a0_1 : Int) (a0_2 : Int) (a0_3 : Int) (a0_4 : Int) (a0_5 : Int) (a0_6 : Int) (a0_7 : Int) (a0_8 : Int) (a0_9 : Int) (a0_10 : Int) (a0_11 : Int) (a0_12 : Int) (a0_13 : Int) (a0_14 : Int) (a0_15 : Int) (a0_16 : Bool) (a0_17 : Bool) (a0_18 : Bool) (a0_19 : Bool) (a0_20 : Int) (a1 : Int) (a2 : Int) (w0_0 : (Lit.int .u64 a0_0).wf = true) (w0_1 : (Lit.int .u64 a0_1).wf = true) (w0_2 : (Lit.int .u64 a0_2).wf = true) (w0_3 : (Lit.int .u64 a0_3).wf = true) (w0_4 : (Lit.int .u64 a0_4).wf = true) (w0_5 : (Lit.int .u64 a0_5).wf = true) (w0_6 : (Lit.int .u64 a0_6).wf = true) (w0_7 : (Lit.int .u64 a0_7).wf = true) (w0_8 : (Lit.int .u64 a0_8).wf = true) (w0_9 : (Lit.int .u64 a0_9).wf = true) (w0_10 : (Lit.int .u64 a0_10).wf = true) (w0_11 : (Lit.int .u64 a0_11).wf = true) (w0_12 : (Lit.int .u64 a0_12).wf = true) (w0_13 : (Lit.int .u64 a0_13).wf = true) (w0_14 : (Lit.int .u64 a0_14).wf = true) (w0_15 : (Lit.int .u64 a0_15).wf = true) (w0_20 : (Lit.int .u64 a0_20).wf = true) (w1 : (Lit.int .u64 a1).wf = true) (w2 : (Lit.int .u64 a2).wf = true) (w : World) (hT : Ex.TabAt w) :
    Calls Tryd.prog 11 #[.agg ⟨[.int .u64 a0_0, .int .u64 a0_1, .int .u64 a0_2, .int .u64 a0_3, .int .u64 a0_4, .int .u64 a0_5, .int .u64 a0_6, .int .u64 a0_7, .int .u64 a0_8, .int .u64 a0_9, .int .u64 a0_10, .int .u64 a0_11, .int .u64 a0_12, .int .u64 a0_13, .int .u64 a0_14, .int .u64 a0_15, .bool a0_16, .bool a0_17, .bool a0_18, .bool a0_19, .int .u64 a0_20]⟩, .int .u64 a1, .int .u64 a2] w fun e w' => e = .returned (.bool true) ∧ Ex.Gr w w' :=
  Ex.cr_law a0_0 a0_1 a0_2 a0_3 a0_4 a0_5 a0_6 a0_7 a0_8 a0_9 a0_10 a0_11 a0_12 a0_13 a0_14 a0_15 a0_16 a0_17 a0_18 a0_19 a0_20 a1 a2 w1 w2 w hT

theorem door_met (os : Os) (args : Array Value) : laidMetH Tryd.prog [("firewall/codec.forms", Rows.laid_firewall_codec_forms)] ((World.doorLaid Tryd.prog 35 os).forCall (fun _ _ => 0) ⟨#[], args, []⟩).memory :=
  laidMetH_of_parts3 (fuel := 8) (laidMet_of_run' 8 (by kernel_rfl) (by kernel_rfl)) (by kernel_rfl) (by kernel_rfl)

set_option maxRecDepth 100000 in
theorem lifted (os : Os) (started : os.Started) (H : Type) (enc : TypeId × Value → H) :
    ReturnsInHanded {} Tryd.checked os 11 .any (fun w args => (Rows.cpuReckonsSpec.pre enc Tryd.prog Tryd.f11 [] false w args ∧ laidMetH Tryd.prog [("firewall/codec.forms", Rows.laid_firewall_codec_forms)] w) ∧ sizedMet enc Tryd.prog Tryd.f11 (OpenSpec.ofChange Rows.cpuReckonsSpec) false w args) (Rows.cpuReckonsSpec.post enc Tryd.prog Tryd.f11 false true false false) := by
  refine returnsInHanded_of_change_and (C := Tryd.checked) (X := fun w _ => laidMetH Tryd.prog [("firewall/codec.forms", Rows.laid_firewall_codec_forms)] w) (fun _ _ _ hh h => h.of_heap hh) own started (by kernel_rfl) Tryd.func11
    (ChangeSpec.witness_shaped (enc := enc) (C := Tryd.checked) (os := os) (X := fun w _ => laidMetH Tryd.prog [("firewall/codec.forms", Rows.laid_firewall_codec_forms)] w) false (World.doorLaid Tryd.prog 35 os) #[.agg #[.int .u64 0, .int .u64 0, .int .u64 0, .int .u64 0, .int .u64 0, .int .u64 0, .int .u64 0, .int .u64 0, .int .u64 0, .int .u64 0, .int .u64 0, .int .u64 0, .int .u64 0, .int .u64 0, .int .u64 0, .int .u64 0, .bool false, .bool false, .bool false, .bool false, .int .u64 0], .int .u64 0, .int .u64 0] 8 rfl (World.shaped_of_RefB (by kernel_rfl) (by kernel_rfl)) (by kernel_rfl) (by kernel_rfl) (by kernel_rfl) (door_met os _)) ?_
  intro W base args ds gs before hval0 hW _ _ hL _
  have hval : ∀ (j : Nat) t v, Tryd.f11.params[j]? = some t → args[j]? = some v → Value.okWide Tryd.prog W .any base t v := hval0
  have hW' := hW
  obtain ⟨p, q, hA0, hV, rfl, hfz, hnd⟩ := hW
  have hA : DataW.TrodAll enc Tryd.prog W 0 (fun _ => true) true Tryd.f11.params.toList args.toList ds p := hA0
  rw [Tryd.params11] at hA hval
  obtain ⟨v0, vs0, d0, ds0, p0, q0, hargs, rfl, rfl, h0, r0⟩ := trodAll_cons hA
  obtain ⟨v1, vs1, d1, ds1, p1, q1, rfl, rfl, rfl, h1, r1⟩ := trodAll_cons r0
  obtain ⟨v2, vs2, d2, ds2, p2, q2, rfl, rfl, rfl, h2, r2⟩ := trodAll_cons r1
  obtain ⟨rfl, rfl, rfl⟩ := trodAll_nil r2
  obtain rfl : args = #[v0, v1, v2] := by cases args; simp_all
  obtain ⟨rfl, rfl⟩ := trodVars_none hV
  obtain ⟨rfl, ⟨cs0, rfl, hok0⟩, hsh0⟩ := open_plain (f := 8) (ks := [.i .u64, .i .u64, .i .u64, .i .u64, .i .u64, .i .u64, .i .u64, .i .u64, .i .u64, .i .u64, .i .u64, .i .u64, .i .u64, .i .u64, .i .u64, .i .u64, .b, .b, .b, .b, .i .u64]) (t := 39) (by kernel_rfl) (by decide) h0
  obtain ⟨_, _, rfl, ⟨a0_0, rfl, w0_0⟩, hok0_1⟩ := hok0.cons
  obtain ⟨_, _, rfl, ⟨a0_1, rfl, w0_1⟩, hok0_2⟩ := hok0_1.cons
  obtain ⟨_, _, rfl, ⟨a0_2, rfl, w0_2⟩, hok0_3⟩ := hok0_2.cons
  obtain ⟨_, _, rfl, ⟨a0_3, rfl, w0_3⟩, hok0_4⟩ := hok0_3.cons
  obtain ⟨_, _, rfl, ⟨a0_4, rfl, w0_4⟩, hok0_5⟩ := hok0_4.cons
  obtain ⟨_, _, rfl, ⟨a0_5, rfl, w0_5⟩, hok0_6⟩ := hok0_5.cons
  obtain ⟨_, _, rfl, ⟨a0_6, rfl, w0_6⟩, hok0_7⟩ := hok0_6.cons
  obtain ⟨_, _, rfl, ⟨a0_7, rfl, w0_7⟩, hok0_8⟩ := hok0_7.cons
  obtain ⟨_, _, rfl, ⟨a0_8, rfl, w0_8⟩, hok0_9⟩ := hok0_8.cons
  obtain ⟨_, _, rfl, ⟨a0_9, rfl, w0_9⟩, hok0_10⟩ := hok0_9.cons
  obtain ⟨_, _, rfl, ⟨a0_10, rfl, w0_10⟩, hok0_11⟩ := hok0_10.cons
  obtain ⟨_, _, rfl, ⟨a0_11, rfl, w0_11⟩, hok0_12⟩ := hok0_11.cons
  obtain ⟨_, _, rfl, ⟨a0_12, rfl, w0_12⟩, hok0_13⟩ := hok0_12.cons
  obtain ⟨_, _, rfl, ⟨a0_13, rfl, w0_13⟩, hok0_14⟩ := hok0_13.cons
  obtain ⟨_, _, rfl, ⟨a0_14, rfl, w0_14⟩, hok0_15⟩ := hok0_14.cons
  obtain ⟨_, _, rfl, ⟨a0_15, rfl, w0_15⟩, hok0_16⟩ := hok0_15.cons
  obtain ⟨_, _, rfl, ⟨a0_16, rfl⟩, hok0_17⟩ := hok0_16.cons
  obtain ⟨_, _, rfl, ⟨a0_17, rfl⟩, hok0_18⟩ := hok0_17.cons
  obtain ⟨_, _, rfl, ⟨a0_18, rfl⟩, hok0_19⟩ := hok0_18.cons
  obtain ⟨_, _, rfl, ⟨a0_19, rfl⟩, hok0_20⟩ := hok0_19.cons
  obtain ⟨_, _, rfl, ⟨a0_20, rfl, w0_20⟩, hok0_21⟩ := hok0_20.cons
  obtain rfl := hok0_21.nil
  obtain ⟨a1, rfl, rfl, rfl, w1⟩ := open_int Tryd.underlying36 (hval 1 36 v1 rfl rfl) h1
  obtain ⟨a2, rfl, rfl, rfl, w2⟩ := open_int Tryd.underlying36 (hval 2 36 v2 rfl rfl) h2
  clear hA0 hval0
  simp only [List.append_nil] at hW'
  refine (walk a0_0 a0_1 a0_2 a0_3 a0_4 a0_5 a0_6 a0_7 a0_8 a0_9 a0_10 a0_11 a0_12 a0_13 a0_14 a0_15 a0_16 a0_17 a0_18 a0_19 a0_20 a1 a2 w0_0 w0_1 w0_2 w0_3 w0_4 w0_5 w0_6 w0_7 w0_8 w0_9 w0_10 w0_11 w0_12 w0_13 w0_14 w0_15 w0_20 w1 w2 W (Ex.tab_of_laid hL)).mono fun e W' ⟨he, hg⟩ => ?_
  subst he
  exact ⟨_, rfl, Ex.post_of_gr (pa := []) (pv := []) hW' (fun _ _ _ => (trodAll_cons_mk (shut_bool Tryd.underlying4 _) trodAll_mk0)) (fun sp _ => (trodAll_cons_mk (hsh0 _ _ _ _) (trodAll_cons_mk (shut_int Tryd.underlying36 w1) (trodAll_cons_mk (shut_int Tryd.underlying36 w2) trodAll_mk0)))) (fun _ _ => rfl) rfl
    hg (ok_one (by kernel_rfl) rfl (okWide_bool_mk Tryd.underlying4 _))⟩

theorem over : Rows.cpuReckonsRow.holds Tryd.pinned (OpenSpec.ofChange Rows.cpuReckonsSpec) :=
  OpenClaim.holds_of_wide 11 Tryd.f11 rfl rfl rfl rfl rfl rfl rfl ⟨rfl, rfl, rfl, rfl, rfl⟩ rfl rfl rfl rfl rfl (by kernel_rfl) Tryd.func11 (by kernel_rfl)
    (of_decide_eq_true (by kernel_rfl)) (by unfold Func.isWrapper; first | (rw [if_pos (by decide +kernel)]; kernel_rfl) | (rw [if_neg (by decide +kernel)]; exact ⟨rfl, rfl⟩))
    (fun os started H enc _ => lifted os started H enc)

theorem card : Rows.CpuReckonsCardSaid :=
  Claim7.holds_tied_plain_at .later [] [.data] true (true, "ef6459c161d779bd6460be0aadb3dac95fb4b5cce2c2b1003e04e97364b8917a") false
    over (fun _ h => by cases h) (by kernel_rfl) (fun _ h => by cases h) cpuReckons_row_tie rfl ⟨rfl, rfl⟩ (by kernel_rfl) rfl
    (fun f fn hf hfn => by
      obtain rfl : f = 11 := Option.some.inj ((show Tryd.prog.funcNamed "firewall/firewalllaw12.CpuReckons" = some 11 by kernel_rfl).symm.trans hf) |>.symm
      obtain rfl : fn = Tryd.f11 := (Option.some.inj (Tryd.func11.symm.trans hfn)).symm
      exact ⟨by kernel_rfl, fun j t ht => by
        rw [Tryd.params11] at ht
        have hm : t ∈ [39, 36] := by simpa using Array.mem_of_getElem? ht
        have hall : ([39, 36].all fun u => !Tryd.prog.wantsStandIn u) = true := by kernel_rfl
        exact (show Tryd.prog.wantsStandIn t = false by simpa using List.all_eq_true.1 hall t hm)⟩)
    (by kernel_rfl)
#print axioms card
end Go.Proofs.YtbaiokfjoglmiaaDoor.cpuReckons
