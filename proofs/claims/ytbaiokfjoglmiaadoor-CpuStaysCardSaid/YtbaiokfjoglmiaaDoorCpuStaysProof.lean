/-
  The law CpuStays returns true for every instruction and every state, where the table of forms lies as the program lays it: registers that an instruction does not name stay, but rax and rdx of products and divisions; PC stays; what is not wide leaves no upper half; moves, products, divisions, shifts and the fence leave the flags; what only compares changes no register.
-/
import Derived.Test.YtbaiokfjoglmiaaDoorRows
import Derived.Test.YtbaiokfjoglmiaaDoorCards
import Derived.Test.YtbaiokfjoglmiaaDoorTie
import Derived.Test.YtbaiokfjoglmiaaDoorCsP
import Derived.Test.YtbaiokfjoglmiaaDoorPackC
import Derived.Test.YtbaiokfjoglmiaaDoorPostGr
import Derived.WalkKit
import Derived.ProofKit
import Derived.LaidMore
import Derived.Stop.Joined
import Derived.SevenTiedAt
import Derived.OpenShut
import Derived.ShutString
namespace Go.Proofs.YtbaiokfjoglmiaaDoor.cpuStays
open Go.ChangeShapes Go.WideShapes Go.ChangeAt Go.RowKit Go.WideMaps Go.WideElems
open Go.ChangeMaps (open_string shut_string)
set_option linter.unusedVariables false

theorem own : ownKnob Tryd.prog.godebug = none := by kernel_rfl

theorem walk (a0_0 : Int) (a0_1 : Int) (a0_2 : Int) (a0_3 : Int) (a0_4 : Bool) (a0_5 : Bool) (a0_6 : Int) (a0_7 : Int) (a0_8 : Int) (a0_9 : Int) (a0_10 : Int) (a1_0 : Int) (a1_1 : Int) (a1_2 : Int) (a1_3 : Int) (a1_4 : Int) (a1_5 : Int) (a1_6 : Int) (a1_7 : Int) (a1_8 : Int) (a1_9 : Int) (a1_10 : Int) (a1_11 : Int) (a1_12 : Int) (a1_13 : Int) (a1_14 : Int) (a1_15 : Int) (a1_16 : Bool) (a1_17 : Bool) (a1_18 : Bool) (a1_19 : Bool) (a1_20 : Int) (w0_0 : (Lit.int .i64 a0_0).wf = true) (w0_1 : (Lit.int .i64 a0_1).wf = true) (w0_2 : (Lit.int .i64 a0_2).wf = true) (w0_3 : (Lit.int .i64 a0_3).wf = true) (w0_6 : (Lit.int .i64 a0_6).wf = true) (w0_7 : (Lit.int .i64 a0_7).wf = true) (w0_8 : (Lit.int .i32 a0_8).wf = true) (w0_9 : (Lit.int .i32 a0_9).wf = true) (w0_10 : (Lit.int .i64 a0_10).wf = true) (w1_0 : (Lit.int .u64 a1_0).wf = true) (w1_1 : (Lit.int .u64 a1_1).wf = true) (w1_2 : (Lit.int .u64 a1_2).wf = true) (w1_3 : (Lit.int .u64 a1_3).wf = true) (w1_4 : (Lit.int .u64 a1_4).wf = true) (w1_5 : (Lit.int .u64 a1_5).wf = true) (w1_6 : (Lit.int .u64 a1_6).wf = true) (w1_7 : (Lit.int .u64 a1_7).wf = true) (w1_8 : (Lit.int .u64 a1_8).wf = true) (w1_9 : (Lit.int .u64 a1_9).wf = true) (w1_10 : (Lit.int .u64 a1_10).wf = true) (w1_11 : (Lit.int .u64 a1_11).wf = true) (w1_12 : (Lit.int .u64 a1_12).wf = true) (w1_13 : (Lit.int .u64 a1_13).wf = true) (w1_14 : (Lit.int .u64 a1_14).wf = true) (w1_15 : (Lit.int .u64 a1_15).wf = true) (w1_20 : (Lit.int .u64 a1_20).wf = true) (w : World) (hT : Ex.TabAt w) :
    Calls Tryd.prog 12 #[.agg ⟨[.int .i64 a0_0, .int .i64 a0_1, .int .i64 a0_2, .int .i64 a0_3, .bool a0_4, .bool a0_5, .int .i64 a0_6, .int .i64 a0_7, .int .i32 a0_8, .int .i32 a0_9, .int .i64 a0_10]⟩, .agg ⟨[.int .u64 a1_0, .int .u64 a1_1, .int .u64 a1_2, .int .u64 a1_3, .int .u64 a1_4, .int .u64 a1_5, .int .u64 a1_6, .int .u64 a1_7, .int .u64 a1_8, .int .u64 a1_9, .int .u64 a1_10, .int .u64 a1_11, .int .u64 a1_12, .int .u64 a1_13, .int .u64 a1_14, .int .u64 a1_15, .bool a1_16, .bool a1_17, .bool a1_18, .bool a1_19, .int .u64 a1_20]⟩] w fun e w' => e = .returned (.bool true) ∧ Ex.Gr w w' :=
  Ex.cpuStays_law a0_0 a0_1 a0_2 a0_3 a0_4 a0_5 a0_6 a0_7 a0_8 a0_9 a0_10  a1_0 a1_1 a1_2 a1_3 a1_4 a1_5 a1_6 a1_7 a1_8 a1_9 a1_10 a1_11 a1_12 a1_13 a1_14 a1_15 a1_16 a1_17 a1_18 a1_19 a1_20  w1_0 w1_1 w1_2 w1_3 w1_4 w1_5 w1_6 w1_7 w1_8 w1_9 w1_10 w1_11 w1_12 w1_13 w1_14 w1_15  w hT

theorem door_met (os : Os) (args : Array Value) : laidMetH Tryd.prog [("firewall/codec.forms", Rows.laid_firewall_codec_forms)] ((World.doorLaid Tryd.prog 35 os).forCall (fun _ _ => 0) ⟨#[], args, []⟩).memory :=
  laidMetH_of_parts3 (fuel := 8) (laidMet_of_run' 8 (by kernel_rfl) (by kernel_rfl)) (by kernel_rfl) (by kernel_rfl)

set_option maxRecDepth 100000 in
theorem lifted (os : Os) (started : os.Started) (H : Type) (enc : TypeId × Value → H) :
    ReturnsInHanded {} Tryd.checked os 12 .any (fun w args => (Rows.cpuStaysSpec.pre enc Tryd.prog Tryd.f12 [] false w args ∧ laidMetH Tryd.prog [("firewall/codec.forms", Rows.laid_firewall_codec_forms)] w) ∧ sizedMet enc Tryd.prog Tryd.f12 (OpenSpec.ofChange Rows.cpuStaysSpec) false w args) (Rows.cpuStaysSpec.post enc Tryd.prog Tryd.f12 false true false false) := by
  refine returnsInHanded_of_change_and (C := Tryd.checked) (X := fun w _ => laidMetH Tryd.prog [("firewall/codec.forms", Rows.laid_firewall_codec_forms)] w) (fun _ _ _ hh h => h.of_heap hh) own started (by kernel_rfl) Tryd.func12
    (ChangeSpec.witness_shaped (enc := enc) (C := Tryd.checked) (os := os) (X := fun w _ => laidMetH Tryd.prog [("firewall/codec.forms", Rows.laid_firewall_codec_forms)] w) false (World.doorLaid Tryd.prog 35 os) #[.agg #[.int .i64 0, .int .i64 0, .int .i64 0, .int .i64 0, .bool false, .bool false, .int .i64 0, .int .i64 0, .int .i32 0, .int .i32 0, .int .i64 0], .agg #[.int .u64 0, .int .u64 0, .int .u64 0, .int .u64 0, .int .u64 0, .int .u64 0, .int .u64 0, .int .u64 0, .int .u64 0, .int .u64 0, .int .u64 0, .int .u64 0, .int .u64 0, .int .u64 0, .int .u64 0, .int .u64 0, .bool false, .bool false, .bool false, .bool false, .int .u64 0]] 8 rfl (World.shaped_of_RefB (by kernel_rfl) (by kernel_rfl)) (by kernel_rfl) (by kernel_rfl) (by kernel_rfl) (door_met os _)) ?_
  intro W base args ds gs before hval0 hW _ _ hL _
  have hval : ∀ (j : Nat) t v, Tryd.f12.params[j]? = some t → args[j]? = some v → Value.okWide Tryd.prog W .any base t v := hval0
  have hW' := hW
  obtain ⟨p, q, hA0, hV, rfl, hfz, hnd⟩ := hW
  have hA : DataW.TrodAll enc Tryd.prog W 0 (fun _ => true) true Tryd.f12.params.toList args.toList ds p := hA0
  rw [Tryd.params12] at hA hval
  obtain ⟨v0, vs0, d0, ds0, p0, q0, hargs, rfl, rfl, h0, r0⟩ := trodAll_cons hA
  obtain ⟨v1, vs1, d1, ds1, p1, q1, rfl, rfl, rfl, h1, r1⟩ := trodAll_cons r0
  obtain ⟨rfl, rfl, rfl⟩ := trodAll_nil r1
  obtain rfl : args = #[v0, v1] := by cases args; simp_all
  obtain ⟨rfl, rfl⟩ := trodVars_none hV
  obtain ⟨rfl, ⟨cs0, rfl, hok0⟩, hsh0⟩ := open_plain (f := 8) (ks := [.i .i64, .i .i64, .i .i64, .i .i64, .b, .b, .i .i64, .i .i64, .i .i32, .i .i32, .i .i64]) (t := 23) (by kernel_rfl) (by decide) h0
  obtain ⟨_, _, rfl, ⟨a0_0, rfl, w0_0⟩, hok0_1⟩ := hok0.cons
  obtain ⟨_, _, rfl, ⟨a0_1, rfl, w0_1⟩, hok0_2⟩ := hok0_1.cons
  obtain ⟨_, _, rfl, ⟨a0_2, rfl, w0_2⟩, hok0_3⟩ := hok0_2.cons
  obtain ⟨_, _, rfl, ⟨a0_3, rfl, w0_3⟩, hok0_4⟩ := hok0_3.cons
  obtain ⟨_, _, rfl, ⟨a0_4, rfl⟩, hok0_5⟩ := hok0_4.cons
  obtain ⟨_, _, rfl, ⟨a0_5, rfl⟩, hok0_6⟩ := hok0_5.cons
  obtain ⟨_, _, rfl, ⟨a0_6, rfl, w0_6⟩, hok0_7⟩ := hok0_6.cons
  obtain ⟨_, _, rfl, ⟨a0_7, rfl, w0_7⟩, hok0_8⟩ := hok0_7.cons
  obtain ⟨_, _, rfl, ⟨a0_8, rfl, w0_8⟩, hok0_9⟩ := hok0_8.cons
  obtain ⟨_, _, rfl, ⟨a0_9, rfl, w0_9⟩, hok0_10⟩ := hok0_9.cons
  obtain ⟨_, _, rfl, ⟨a0_10, rfl, w0_10⟩, hok0_11⟩ := hok0_10.cons
  obtain rfl := hok0_11.nil
  obtain ⟨rfl, ⟨cs1, rfl, hok1⟩, hsh1⟩ := open_plain (f := 8) (ks := [.i .u64, .i .u64, .i .u64, .i .u64, .i .u64, .i .u64, .i .u64, .i .u64, .i .u64, .i .u64, .i .u64, .i .u64, .i .u64, .i .u64, .i .u64, .i .u64, .b, .b, .b, .b, .i .u64]) (t := 39) (by kernel_rfl) (by decide) h1
  obtain ⟨_, _, rfl, ⟨a1_0, rfl, w1_0⟩, hok1_1⟩ := hok1.cons
  obtain ⟨_, _, rfl, ⟨a1_1, rfl, w1_1⟩, hok1_2⟩ := hok1_1.cons
  obtain ⟨_, _, rfl, ⟨a1_2, rfl, w1_2⟩, hok1_3⟩ := hok1_2.cons
  obtain ⟨_, _, rfl, ⟨a1_3, rfl, w1_3⟩, hok1_4⟩ := hok1_3.cons
  obtain ⟨_, _, rfl, ⟨a1_4, rfl, w1_4⟩, hok1_5⟩ := hok1_4.cons
  obtain ⟨_, _, rfl, ⟨a1_5, rfl, w1_5⟩, hok1_6⟩ := hok1_5.cons
  obtain ⟨_, _, rfl, ⟨a1_6, rfl, w1_6⟩, hok1_7⟩ := hok1_6.cons
  obtain ⟨_, _, rfl, ⟨a1_7, rfl, w1_7⟩, hok1_8⟩ := hok1_7.cons
  obtain ⟨_, _, rfl, ⟨a1_8, rfl, w1_8⟩, hok1_9⟩ := hok1_8.cons
  obtain ⟨_, _, rfl, ⟨a1_9, rfl, w1_9⟩, hok1_10⟩ := hok1_9.cons
  obtain ⟨_, _, rfl, ⟨a1_10, rfl, w1_10⟩, hok1_11⟩ := hok1_10.cons
  obtain ⟨_, _, rfl, ⟨a1_11, rfl, w1_11⟩, hok1_12⟩ := hok1_11.cons
  obtain ⟨_, _, rfl, ⟨a1_12, rfl, w1_12⟩, hok1_13⟩ := hok1_12.cons
  obtain ⟨_, _, rfl, ⟨a1_13, rfl, w1_13⟩, hok1_14⟩ := hok1_13.cons
  obtain ⟨_, _, rfl, ⟨a1_14, rfl, w1_14⟩, hok1_15⟩ := hok1_14.cons
  obtain ⟨_, _, rfl, ⟨a1_15, rfl, w1_15⟩, hok1_16⟩ := hok1_15.cons
  obtain ⟨_, _, rfl, ⟨a1_16, rfl⟩, hok1_17⟩ := hok1_16.cons
  obtain ⟨_, _, rfl, ⟨a1_17, rfl⟩, hok1_18⟩ := hok1_17.cons
  obtain ⟨_, _, rfl, ⟨a1_18, rfl⟩, hok1_19⟩ := hok1_18.cons
  obtain ⟨_, _, rfl, ⟨a1_19, rfl⟩, hok1_20⟩ := hok1_19.cons
  obtain ⟨_, _, rfl, ⟨a1_20, rfl, w1_20⟩, hok1_21⟩ := hok1_20.cons
  obtain rfl := hok1_21.nil
  clear hA0 hval0
  simp only [List.append_nil] at hW'
  refine (walk a0_0 a0_1 a0_2 a0_3 a0_4 a0_5 a0_6 a0_7 a0_8 a0_9 a0_10 a1_0 a1_1 a1_2 a1_3 a1_4 a1_5 a1_6 a1_7 a1_8 a1_9 a1_10 a1_11 a1_12 a1_13 a1_14 a1_15 a1_16 a1_17 a1_18 a1_19 a1_20 w0_0 w0_1 w0_2 w0_3 w0_6 w0_7 w0_8 w0_9 w0_10 w1_0 w1_1 w1_2 w1_3 w1_4 w1_5 w1_6 w1_7 w1_8 w1_9 w1_10 w1_11 w1_12 w1_13 w1_14 w1_15 w1_20 W (Ex.tab_of_laid hL)).mono fun e W' ⟨he, hg⟩ => ?_
  subst he
  exact ⟨_, rfl, Ex.post_of_gr (pa := []) (pv := []) hW' (fun _ _ _ => (trodAll_cons_mk (shut_bool Tryd.underlying4 _) trodAll_mk0)) (fun sp _ => (trodAll_cons_mk (hsh0 _ _ _ _) (trodAll_cons_mk (hsh1 _ _ _ _) trodAll_mk0))) (fun _ _ => rfl) rfl
    hg (ok_one (by kernel_rfl) rfl (okWide_bool_mk Tryd.underlying4 _))⟩

theorem over : Rows.cpuStaysRow.holds Tryd.pinned (OpenSpec.ofChange Rows.cpuStaysSpec) :=
  OpenClaim.holds_of_wide 12 Tryd.f12 rfl rfl rfl rfl rfl rfl rfl ⟨rfl, rfl, rfl, rfl, rfl⟩ rfl rfl rfl rfl rfl (by kernel_rfl) Tryd.func12 (by kernel_rfl)
    (of_decide_eq_true (by kernel_rfl)) (by unfold Func.isWrapper; first | (rw [if_pos (by decide +kernel)]; kernel_rfl) | (rw [if_neg (by decide +kernel)]; exact ⟨rfl, rfl⟩))
    (fun os started H enc _ => lifted os started H enc)

theorem card : Rows.CpuStaysCardSaid :=
  Claim7.holds_tied_plain_at .later [] [.data] true (true, "ef6459c161d779bd6460be0aadb3dac95fb4b5cce2c2b1003e04e97364b8917a") false
    over (fun _ h => by cases h) (by kernel_rfl) (fun _ h => by cases h) cpuStays_row_tie rfl ⟨rfl, rfl⟩ (by kernel_rfl) rfl
    (fun f fn hf hfn => by
      obtain rfl : f = 12 := Option.some.inj ((show Tryd.prog.funcNamed "firewall/firewalllaw12.CpuStays" = some 12 by kernel_rfl).symm.trans hf) |>.symm
      obtain rfl : fn = Tryd.f12 := (Option.some.inj (Tryd.func12.symm.trans hfn)).symm
      exact ⟨by kernel_rfl, fun j t ht => by
        rw [Tryd.params12] at ht
        have hm : t ∈ [23, 39] := by simpa using Array.mem_of_getElem? ht
        have hall : ([23, 39].all fun u => !Tryd.prog.wantsStandIn u) = true := by kernel_rfl
        exact (show Tryd.prog.wantsStandIn t = false by simpa using List.all_eq_true.1 hall t hm)⟩)
    (by kernel_rfl)
#print axioms card
end Go.Proofs.YtbaiokfjoglmiaaDoor.cpuStays
