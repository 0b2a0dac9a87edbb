/-
  The law MapsNone returns true for every act and every map: maps that are none have nothing, and answer -22; there are none over a memory that is none, or that has not their regions.
-/
import Derived.Test.YtcpgbhmddfakgaaRows
import Derived.Test.YtcpgbhmddfakgaaLaw08b
import Derived.Test.YtcpgbhmddfakgaaPlain
import Derived.Test.YtcpgbhmddfakgaaPostGr
import Derived.WalkKit
import Derived.ProofKit
import Derived.OpenShut
import Derived.ShutString
namespace Go.Proofs.Ytcpgbhmddfakgaa.mapsNone
open Go.ChangeShapes Go.WideShapes Go.ChangeAt Go.RowKit
open Go.ChangeMaps (open_string shut_string)
set_option linter.unusedVariables false

theorem own : ownKnob Try.prog.godebug = none := by kernel_rfl

theorem walk (a0_0 : Int) (a0_1 : Int) (a0_2 : ByteArray) (a0_3 : ByteArray) (a1_0 : Int) (a1_1 : Int) (a1_2 : Int) (a1_3 : Int) (w0_0 : (Lit.int .u8 a0_0).wf = true) (w0_1 : (Lit.int .i64 a0_1).wf = true) (w0_2 : a0_2.size ≤ maxLen) (w0_3 : a0_3.size ≤ maxLen) (w1_0 : (Lit.int .i64 a1_0).wf = true) (w1_1 : (Lit.int .i64 a1_1).wf = true) (w1_2 : (Lit.int .i64 a1_2).wf = true) (w1_3 : (Lit.int .i64 a1_3).wf = true) (w : World) :
    Calls Try.prog 8 #[.agg ⟨[.int .u8 a0_0, .int .i64 a0_1, .string a0_2, .string a0_3]⟩, .agg ⟨[.int .i64 a1_0, .int .i64 a1_1, .int .i64 a1_2, .int .i64 a1_3]⟩] w fun e w' => e = .returned (.bool true) ∧ Ex.Gr w w' :=
  Ex.mapsNone_walk a0_0 a0_1 a1_0 a1_1 a1_2 a1_3 a0_2 a0_3 w

set_option maxRecDepth 100000 in
theorem lifted (os : Os) (started : os.Started) (H : Type) (enc : TypeId × Value → H) :
    ReturnsInHanded {} Try.checked os 8 .any (Rows.mapsNoneSpec.pre6 enc Try.prog Try.f8 Rows.mapsNoneRow.domain false) (Rows.mapsNoneSpec.post enc Try.prog Try.f8 false true false false) := by
  refine returnsInHanded_of_change (C := Try.checked) own started (by kernel_rfl) Try.func8
    (ChangeSpec.witness6 (enc := enc) (C := Try.checked) false ⟨#[], #[.agg #[.int .u8 0, .int .i64 0, .string ByteArray.empty, .string ByteArray.empty], .agg #[.int .i64 0, .int .i64 0, .int .i64 0, .int .i64 0]], []⟩ 8 (by kernel_rfl) (by kernel_rfl) (by kernel_rfl) (by kernel_rfl)) ?_
  intro W base args ds gs before hval0 hW hcnd _
  have hval : ∀ (j : Nat) t v, Try.f8.params[j]? = some t → args[j]? = some v → Value.okWide Try.prog W .any base t v := hval0
  have hW' := hW
  obtain ⟨p, q, hA0, hV, rfl, hfz, hnd⟩ := hW
  have hA : DataW.TrodAll enc Try.prog W 0 (fun _ => true) true Try.f8.params.toList args.toList ds p := hA0
  rw [Try.params8] at hA hval
  obtain ⟨v0, vs0, d0, ds0, p0, q0, hargs, rfl, rfl, h0, r0⟩ := trodAll_cons hA
  obtain ⟨v1, vs1, d1, ds1, p1, q1, rfl, rfl, rfl, h1, r1⟩ := trodAll_cons r0
  obtain ⟨rfl, rfl, rfl⟩ := trodAll_nil r1
  obtain rfl : args = #[v0, v1] := by cases args; simp_all
  obtain ⟨rfl, rfl⟩ := trodVars_none hV
  obtain ⟨rfl, ⟨cs0, rfl, hok0⟩, hsh0⟩ := open_plain (f := 8) (ks := [.i .u8, .i .i64, .s, .s]) (t := 62) (by kernel_rfl) (by decide) h0
  obtain ⟨_, _, rfl, ⟨a0_0, rfl, w0_0⟩, hok0_1⟩ := hok0.cons
  obtain ⟨_, _, rfl, ⟨a0_1, rfl, w0_1⟩, hok0_2⟩ := hok0_1.cons
  obtain ⟨_, _, rfl, ⟨a0_2, rfl, w0_2⟩, hok0_3⟩ := hok0_2.cons
  obtain ⟨_, _, rfl, ⟨a0_3, rfl, w0_3⟩, hok0_4⟩ := hok0_3.cons
  obtain rfl := hok0_4.nil
  obtain ⟨rfl, ⟨cs1, rfl, hok1⟩, hsh1⟩ := open_plain (f := 8) (ks := [.i .i64, .i .i64, .i .i64, .i .i64]) (t := 64) (by kernel_rfl) (by decide) h1
  obtain ⟨_, _, rfl, ⟨a1_0, rfl, w1_0⟩, hok1_1⟩ := hok1.cons
  obtain ⟨_, _, rfl, ⟨a1_1, rfl, w1_1⟩, hok1_2⟩ := hok1_1.cons
  obtain ⟨_, _, rfl, ⟨a1_2, rfl, w1_2⟩, hok1_3⟩ := hok1_2.cons
  obtain ⟨_, _, rfl, ⟨a1_3, rfl, w1_3⟩, hok1_4⟩ := hok1_3.cons
  obtain rfl := hok1_4.nil
  clear hA0 hval0
  simp only [List.append_nil] at hW'
  refine (walk a0_0 a0_1 a0_2 a0_3 a1_0 a1_1 a1_2 a1_3 w0_0 w0_1 w0_2 w0_3 w1_0 w1_1 w1_2 w1_3 W).mono fun e W' ⟨he, hg⟩ => ?_
  subst he
  exact ⟨_, rfl, Ex.post_of_gr (pa := []) (pv := []) hW' (fun _ _ _ => (trodAll_cons_mk (shut_bool Try.underlying4 _) trodAll_mk0)) (fun sp _ => (trodAll_cons_mk (hsh0 _ _ _ _) (trodAll_cons_mk (hsh1 _ _ _ _) trodAll_mk0))) (fun _ _ => rfl) rfl
    hg (ok_one (by kernel_rfl) rfl (okWide_bool_mk Try.underlying4 _))⟩

theorem over : Rows.mapsNoneRow.holds Try.pinned (OpenSpec.ofChange Rows.mapsNoneSpec) :=
  OpenClaim.holds_of_wide 8 Try.f8 rfl rfl rfl rfl rfl rfl rfl ⟨rfl, rfl, rfl, rfl, rfl⟩ rfl rfl rfl rfl rfl (by kernel_rfl) Try.func8 (by kernel_rfl)
    (of_decide_eq_true (by kernel_rfl)) (by unfold Func.isWrapper; first | (rw [if_pos (by decide +kernel)]; kernel_rfl) | (rw [if_neg (by decide +kernel)]; exact ⟨rfl, rfl⟩))
    (fun os started H enc _ => lifted os started H enc)

theorem proved : Rows.MapsNoneSaid :=
  over
#print axioms proved
end Go.Proofs.Ytcpgbhmddfakgaa.mapsNone
