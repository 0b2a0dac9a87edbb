/-
  The law HelpersOwn: its loops.
-/
import Derived.Test.YtbjiicjmlbocdaaDoorHo3a
import Derived.Test.YtbjiicjmlbocdaaDoorHo3b
import Derived.Test.YtbjiicjmlbocdaaDoorHo3c
import Derived.Test.YtbjiicjmlbocdaaDoorHo3d
import Derived.Test.YtbjiicjmlbocdaaDoorHo3e
import Derived.Test.YtbjiicjmlbocdaaDoorHo3f
namespace Go.Proofs.YtbjiicjmlbocdaaDoor.Ex
open Go Go.RowKit
set_option maxHeartbeats 0
set_option maxRecDepth 1000000
set_option linter.unusedVariables false
set_option linter.unusedSectionVars false
abbrev hoF : FuncId := 4
noncomputable abbrev hoL : Code := theLoopN Tryd.prog hoF 0
theorem ho_one : oneLoopN Tryd.prog hoF 0 = true := by kernel_rfl
theorem hoMk6 {m : Nat} {z E a0 a1 a2 i k' : Int} {t : List Value} {orc : Orc} {ps : Cs} (hr : (iterB (bodyL Tryd.prog ho3 orc noLoop hoF hoL) 1 ⟨t, hoH 6 m z E a0 a1 a2, (none, [])⟩).map (fun x => (maskQ hoDs x.t, x.h, x.m.1, inter x.m.2)) = some (hoS6 m z a2 i k' fun _ => .bool true, hoH 6 m z E a0 a1 a2, none, inter ps)) (hp : AE ps) :
    ∃ β', Hop Tryd.prog hoL 1 t (hoH 6 m z E a0 a1 a2) (hoS6 m z a2 i k' β') (hoH 6 m z E a0 a1 a2) (none, []) :=
  hopM_ok noNG ho3_ok noLoop_low (noLoop_ok _) ho_one (hoS6_un m z a2 i k') hr hp
theorem hoEn6 {m : Nat} {z E a0 a1 a2 i k : Int} {t : List Value} {orc : Orc} {ps : Cs} (hr : (loopN (bodyL Tryd.prog ho3 orc noLoop hoF hoL) 1 ⟨t, hoH 6 m z E a0 a1 a2, (none, [])⟩).map (fun r => (r.1, maskQ hoDs r.2.t, r.2.h, r.2.m.1, inter r.2.m.2)) = some (.exit 2, hoS6 m z a2 i k fun _ => .bool true, hoH 6 m z E a0 a1 a2, none, inter ps)) (hp : AE ps) :
    ∃ β', Stop Tryd.prog hoL 1 t (hoH 6 m z E a0 a1 a2) (.exit 2) (hoS6 m z a2 i k β') (hoH 6 m z E a0 a1 a2) (none, []) :=
  stopM_ok noNG ho3_ok noLoop_low (noLoop_ok _) ho_one (hoS6_un m z a2 i k) hr hp
section
variable {m : Nat} {z : Int} (hm : 1 ≤ m) (hm2 : m ≤ 200) (hz : 1 ≤ z) (hz2 : z ≤ 16)
include hm hm2 hz hz2
theorem ho6_0T (E a0 a1 a2 k : Int) (β : Nat → Value) (h1 : -1 ≤ k) (h2 : k ≤ 16) : ∃ β', Hop Tryd.prog hoL 1 (hoS6 m z a2 0 k β) (hoH 6 m z E a0 a1 a2) (hoS6 m z a2 0 (k + 1) β') (hoH 6 m z E a0 a1 a2) (none, []) := by
  by_cases cA : k = -1
  · exact hoMk6 (ho6_0AR m z E a0 a1 a2 k β) (ho6_0AA hm hm2 hz hz2 cA)
  by_cases cB : 0 ≤ k ∧ k + z ≤ 16
  · exact hoMk6 (ho6_0BR m z E a0 a1 a2 k β) (ho6_0BA hm hm2 hz hz2 cB)
  by_cases cC : 0 ≤ k ∧ k < 16 ∧ 16 < k + z
  · exact hoMk6 (ho6_0CR m z E a0 a1 a2 k β) (ho6_0CA hm hm2 hz hz2 cC)
  by_cases cD : k = 16 ∧ z ≤ 8
  · exact hoMk6 (ho6_0DR m z E a0 a1 a2 k β) (ho6_0DA hm hm2 hz hz2 cD)
  exact hoMk6 (ho6_0ER m z E a0 a1 a2 k β) (ho6_0EA hm hm2 hz hz2 (by omega))
theorem ho6_0D (E a0 a1 a2 : Int) : ∀ (d : Nat) (k : Int) (β : Nat → Value), -1 ≤ k → k + d ≤ 16 + 1 → ∃ β', Hop Tryd.prog hoL d (hoS6 m z a2 0 k β) (hoH 6 m z E a0 a1 a2) (hoS6 m z a2 0 (k + d) β') (hoH 6 m z E a0 a1 a2) (none, [])
  | 0, k, β, _, _ => by
    rw [show k + ((0 : Nat) : Int) = k by omega]
    exact ⟨β, Hop.zero _ _ _⟩
  | d + 1, k, β, h1, h2 => by
    obtain ⟨β1, q1⟩ := ho6_0T hm hm2 hz hz2 E a0 a1 a2 k β h1 (by omega)
    obtain ⟨β2, q2⟩ := ho6_0D E a0 a1 a2 d (k + 1) β1 (by omega) (by omega)
    refine ⟨β2, ?_⟩
    rw [show d + 1 = 1 + d by omega, show k + ((1 + d : Nat) : Int) = k + 1 + d by omega]
    exact q1.trans q2 (fun _ h => h) (fun _ h => h)
theorem ho6_0L (E a0 a1 a2 : Int) (β : Nat → Value) : ∃ β', LoopQOk Tryd.prog ⟨hoF, 0, fun x => decide (atI x.t 15 = 0), hoS6 m z a2 0 (-1) β, hoH 6 m z E a0 a1 a2, .exit 2, hoS6 m z a2 0 (16 + 1) β', hoH 6 m z E a0 a1 a2, (none, [])⟩ := by
  obtain ⟨β1, q1⟩ := ho6_0D hm hm2 hz hz2 E a0 a1 a2 (16 + 2) (-1) β (by omega) (by omega)
  rw [show (-1 + ((16 + 2 : Nat) : Int)) = 16 + 1 by omega] at q1
  obtain ⟨β2, q2⟩ := hoEn6 (ho6_0SR m z E a0 a1 a2 (16 + 1) β1) (AE.cons (b0 (by omega)) AE.nil)
  exact ⟨β2, loopQ_ok (N := (16 + 2) + 1) ho_one (q1.stop' q2 (fun _ h => h) (fun _ h => h))⟩
theorem ho6_1T (E a0 a1 a2 k : Int) (β : Nat → Value) (h1 : -1 ≤ k) (h2 : k ≤ 8) : ∃ β', Hop Tryd.prog hoL 1 (hoS6 m z a2 1 k β) (hoH 6 m z E a0 a1 a2) (hoS6 m z a2 1 (k + 1) β') (hoH 6 m z E a0 a1 a2) (none, []) := by
  by_cases cA : k = -1 ∧ z = 1
  · exact hoMk6 (ho6_1AR m z E a0 a1 a2 k β) (ho6_1AA hm hm2 hz hz2 cA)
  by_cases cE : k = -1 ∧ 1 < z
  · exact hoMk6 (ho6_1ER m z E a0 a1 a2 k β) (ho6_1EA hm hm2 hz hz2 cE)
  by_cases cB : 0 ≤ k ∧ k + z ≤ 8
  · exact hoMk6 (ho6_1BR m z E a0 a1 a2 k β) (ho6_1BA hm hm2 hz hz2 cB)
  by_cases cC : 0 ≤ k ∧ k < 8 ∧ 8 < k + z
  · exact hoMk6 (ho6_1CR m z E a0 a1 a2 k β) (ho6_1CA hm hm2 hz hz2 cC)
  exact hoMk6 (ho6_1DR m z E a0 a1 a2 k β) (ho6_1DA hm hm2 hz hz2 (by omega))
theorem ho6_1D (E a0 a1 a2 : Int) : ∀ (d : Nat) (k : Int) (β : Nat → Value), -1 ≤ k → k + d ≤ 8 + 1 → ∃ β', Hop Tryd.prog hoL d (hoS6 m z a2 1 k β) (hoH 6 m z E a0 a1 a2) (hoS6 m z a2 1 (k + d) β') (hoH 6 m z E a0 a1 a2) (none, [])
  | 0, k, β, _, _ => by
    rw [show k + ((0 : Nat) : Int) = k by omega]
    exact ⟨β, Hop.zero _ _ _⟩
  | d + 1, k, β, h1, h2 => by
    obtain ⟨β1, q1⟩ := ho6_1T hm hm2 hz hz2 E a0 a1 a2 k β h1 (by omega)
    obtain ⟨β2, q2⟩ := ho6_1D E a0 a1 a2 d (k + 1) β1 (by omega) (by omega)
    refine ⟨β2, ?_⟩
    rw [show d + 1 = 1 + d by omega, show k + ((1 + d : Nat) : Int) = k + 1 + d by omega]
    exact q1.trans q2 (fun _ h => h) (fun _ h => h)
theorem ho6_1L (E a0 a1 a2 : Int) (β : Nat → Value) : ∃ β', LoopQOk Tryd.prog ⟨hoF, 0, fun x => decide (atI x.t 15 = 1), hoS6 m z a2 1 (-1) β, hoH 6 m z E a0 a1 a2, .exit 2, hoS6 m z a2 1 (8 + 1) β', hoH 6 m z E a0 a1 a2, (none, [])⟩ := by
  obtain ⟨β1, q1⟩ := ho6_1D hm hm2 hz hz2 E a0 a1 a2 (8 + 2) (-1) β (by omega) (by omega)
  rw [show (-1 + ((8 + 2 : Nat) : Int)) = 8 + 1 by omega] at q1
  obtain ⟨β2, q2⟩ := hoEn6 (ho6_1SR m z E a0 a1 a2 (8 + 1) β1) (AE.cons (b0 (by omega)) AE.nil)
  exact ⟨β2, loopQ_ok (N := (8 + 2) + 1) ho_one (q1.stop' q2 (fun _ h => h) (fun _ h => h))⟩
theorem ho6_2T (E a0 a1 a2 k : Int) (β : Nat → Value) (h1 : -1 ≤ k) (h2 : k ≤ 512) : ∃ β', Hop Tryd.prog hoL 1 (hoS6 m z a2 2 k β) (hoH 6 m z E a0 a1 a2) (hoS6 m z a2 2 (k + 1) β') (hoH 6 m z E a0 a1 a2) (none, []) := by
  by_cases cA : k = -1
  · exact hoMk6 (ho6_2AR m z E a0 a1 a2 k β) (ho6_2AA hm hm2 hz hz2 cA)
  by_cases cB : 0 ≤ k ∧ k + z ≤ 512
  · exact hoMk6 (ho6_2BR m z E a0 a1 a2 k β) (ho6_2BA hm hm2 hz hz2 cB)
  by_cases cC : 0 ≤ k ∧ k < 512 ∧ 512 < k + z
  · exact hoMk6 (ho6_2CR m z E a0 a1 a2 k β) (ho6_2CA hm hm2 hz hz2 cC)
  exact hoMk6 (ho6_2DR m z E a0 a1 a2 k β) (ho6_2DA hm hm2 hz hz2 (by omega))
theorem ho6_2D (E a0 a1 a2 : Int) : ∀ (d : Nat) (k : Int) (β : Nat → Value), -1 ≤ k → k + d ≤ 512 + 1 → ∃ β', Hop Tryd.prog hoL d (hoS6 m z a2 2 k β) (hoH 6 m z E a0 a1 a2) (hoS6 m z a2 2 (k + d) β') (hoH 6 m z E a0 a1 a2) (none, [])
  | 0, k, β, _, _ => by
    rw [show k + ((0 : Nat) : Int) = k by omega]
    exact ⟨β, Hop.zero _ _ _⟩
  | d + 1, k, β, h1, h2 => by
    obtain ⟨β1, q1⟩ := ho6_2T hm hm2 hz hz2 E a0 a1 a2 k β h1 (by omega)
    obtain ⟨β2, q2⟩ := ho6_2D E a0 a1 a2 d (k + 1) β1 (by omega) (by omega)
    refine ⟨β2, ?_⟩
    rw [show d + 1 = 1 + d by omega, show k + ((1 + d : Nat) : Int) = k + 1 + d by omega]
    exact q1.trans q2 (fun _ h => h) (fun _ h => h)
theorem ho6_2L (E a0 a1 a2 : Int) (β : Nat → Value) : ∃ β', LoopQOk Tryd.prog ⟨hoF, 0, fun x => decide (atI x.t 15 = 2), hoS6 m z a2 2 (-1) β, hoH 6 m z E a0 a1 a2, .exit 2, hoS6 m z a2 2 (512 + 1) β', hoH 6 m z E a0 a1 a2, (none, [])⟩ := by
  obtain ⟨β1, q1⟩ := ho6_2D hm hm2 hz hz2 E a0 a1 a2 (512 + 2) (-1) β (by omega) (by omega)
  rw [show (-1 + ((512 + 2 : Nat) : Int)) = 512 + 1 by omega] at q1
  obtain ⟨β2, q2⟩ := hoEn6 (ho6_2SR m z E a0 a1 a2 (512 + 1) β1) (AE.cons (b0 (by omega)) AE.nil)
  exact ⟨β2, loopQ_ok (N := (512 + 2) + 1) ho_one (q1.stop' q2 (fun _ h => h) (fun _ h => h))⟩
theorem ho6_3T (E a0 a1 a2 k : Int) (β : Nat → Value) (h1 : -1 ≤ k) (h2 : k ≤ (m : Int)) : ∃ β', Hop Tryd.prog hoL 1 (hoS6 m z a2 3 k β) (hoH 6 m z E a0 a1 a2) (hoS6 m z a2 3 (k + 1) β') (hoH 6 m z E a0 a1 a2) (none, []) := by
  by_cases cA : k = -1
  · exact hoMk6 (ho6_3AR m z E a0 a1 a2 k β) (ho6_3AA hm hm2 hz hz2 cA)
  by_cases cB : 0 ≤ k ∧ k + z ≤ m
  · exact hoMk6 (ho6_3BR m z E a0 a1 a2 k β) (ho6_3BA hm hm2 hz hz2 cB)
  by_cases cC : 0 ≤ k ∧ k < m ∧ m < k + z
  · exact hoMk6 (ho6_3CR m z E a0 a1 a2 k β) (ho6_3CA hm hm2 hz hz2 cC)
  exact hoMk6 (ho6_3DR m z E a0 a1 a2 k β) (ho6_3DA hm hm2 hz hz2 (by omega))
theorem ho6_3D (E a0 a1 a2 : Int) : ∀ (d : Nat) (k : Int) (β : Nat → Value), -1 ≤ k → k + d ≤ (m : Int) + 1 → ∃ β', Hop Tryd.prog hoL d (hoS6 m z a2 3 k β) (hoH 6 m z E a0 a1 a2) (hoS6 m z a2 3 (k + d) β') (hoH 6 m z E a0 a1 a2) (none, [])
  | 0, k, β, _, _ => by
    rw [show k + ((0 : Nat) : Int) = k by omega]
    exact ⟨β, Hop.zero _ _ _⟩
  | d + 1, k, β, h1, h2 => by
    obtain ⟨β1, q1⟩ := ho6_3T hm hm2 hz hz2 E a0 a1 a2 k β h1 (by omega)
    obtain ⟨β2, q2⟩ := ho6_3D E a0 a1 a2 d (k + 1) β1 (by omega) (by omega)
    refine ⟨β2, ?_⟩
    rw [show d + 1 = 1 + d by omega, show k + ((1 + d : Nat) : Int) = k + 1 + d by omega]
    exact q1.trans q2 (fun _ h => h) (fun _ h => h)
theorem ho6_3L (E a0 a1 a2 : Int) (β : Nat → Value) : ∃ β', LoopQOk Tryd.prog ⟨hoF, 0, fun x => decide (atI x.t 15 = 3), hoS6 m z a2 3 (-1) β, hoH 6 m z E a0 a1 a2, .exit 2, hoS6 m z a2 3 ((m : Int) + 1) β', hoH 6 m z E a0 a1 a2, (none, [])⟩ := by
  obtain ⟨β1, q1⟩ := ho6_3D hm hm2 hz hz2 E a0 a1 a2 (m + 2) (-1) β (by omega) (by omega)
  rw [show (-1 + ((m + 2 : Nat) : Int)) = (m : Int) + 1 by omega] at q1
  obtain ⟨β2, q2⟩ := hoEn6 (ho6_3SR m z E a0 a1 a2 ((m : Int) + 1) β1) (AE.cons (b0 (by omega)) AE.nil)
  exact ⟨β2, loopQ_ok (N := (m + 2) + 1) ho_one (q1.stop' q2 (fun _ h => h) (fun _ h => h))⟩
theorem ho6_4T (E a0 a1 a2 k : Int) (β : Nat → Value) (h1 : -1 ≤ k) (h2 : k ≤ 20) : ∃ β', Hop Tryd.prog hoL 1 (hoS6 m z a2 4 k β) (hoH 6 m z E a0 a1 a2) (hoS6 m z a2 4 (k + 1) β') (hoH 6 m z E a0 a1 a2) (none, []) := by
  by_cases cA : k = -1
  · exact hoMk6 (ho6_4AR m z E a0 a1 a2 k β) (ho6_4AA hm hm2 hz hz2 cA)
  by_cases cB : 0 ≤ k ∧ k + z ≤ 20
  · exact hoMk6 (ho6_4BR m z E a0 a1 a2 k β) (ho6_4BA hm hm2 hz hz2 cB)
  by_cases cC : 0 ≤ k ∧ k < 20 ∧ 20 < k + z
  · exact hoMk6 (ho6_4CR m z E a0 a1 a2 k β) (ho6_4CA hm hm2 hz hz2 cC)
  exact hoMk6 (ho6_4DR m z E a0 a1 a2 k β) (ho6_4DA hm hm2 hz hz2 (by omega))
theorem ho6_4D (E a0 a1 a2 : Int) : ∀ (d : Nat) (k : Int) (β : Nat → Value), -1 ≤ k → k + d ≤ 20 + 1 → ∃ β', Hop Tryd.prog hoL d (hoS6 m z a2 4 k β) (hoH 6 m z E a0 a1 a2) (hoS6 m z a2 4 (k + d) β') (hoH 6 m z E a0 a1 a2) (none, [])
  | 0, k, β, _, _ => by
    rw [show k + ((0 : Nat) : Int) = k by omega]
    exact ⟨β, Hop.zero _ _ _⟩
  | d + 1, k, β, h1, h2 => by
    obtain ⟨β1, q1⟩ := ho6_4T hm hm2 hz hz2 E a0 a1 a2 k β h1 (by omega)
    obtain ⟨β2, q2⟩ := ho6_4D E a0 a1 a2 d (k + 1) β1 (by omega) (by omega)
    refine ⟨β2, ?_⟩
    rw [show d + 1 = 1 + d by omega, show k + ((1 + d : Nat) : Int) = k + 1 + d by omega]
    exact q1.trans q2 (fun _ h => h) (fun _ h => h)
theorem ho6_4L (E a0 a1 a2 : Int) (β : Nat → Value) : ∃ β', LoopQOk Tryd.prog ⟨hoF, 0, fun x => decide (atI x.t 15 = 4), hoS6 m z a2 4 (-1) β, hoH 6 m z E a0 a1 a2, .exit 2, hoS6 m z a2 4 (20 + 1) β', hoH 6 m z E a0 a1 a2, (none, [])⟩ := by
  obtain ⟨β1, q1⟩ := ho6_4D hm hm2 hz hz2 E a0 a1 a2 (20 + 2) (-1) β (by omega) (by omega)
  rw [show (-1 + ((20 + 2 : Nat) : Int)) = 20 + 1 by omega] at q1
  obtain ⟨β2, q2⟩ := hoEn6 (ho6_4SR m z E a0 a1 a2 (20 + 1) β1) (AE.cons (b0 (by omega)) AE.nil)
  exact ⟨β2, loopQ_ok (N := (20 + 2) + 1) ho_one (q1.stop' q2 (fun _ h => h) (fun _ h => h))⟩
end
theorem hoMk5 {m : Nat} {z E a0 a1 a2 i k' : Int} {t : List Value} {orc : Orc} {ps : Cs} (hr : (iterB (bodyL Tryd.prog ho3 orc noLoop hoF hoL) 1 ⟨t, hoH 5 0 z E a0 a1 a2, (none, [])⟩).map (fun x => (maskQ hoDs x.t, x.h, x.m.1, inter x.m.2)) = some (hoS5 m z a2 i k' fun _ => .bool true, hoH 5 0 z E a0 a1 a2, none, inter ps)) (hp : AE ps) :
    ∃ β', Hop Tryd.prog hoL 1 t (hoH 5 0 z E a0 a1 a2) (hoS5 m z a2 i k' β') (hoH 5 0 z E a0 a1 a2) (none, []) :=
  hopM_ok noNG ho3_ok noLoop_low (noLoop_ok _) ho_one (hoS5_un m z a2 i k') hr hp
theorem hoEn5 {m : Nat} {z E a0 a1 a2 i k : Int} {t : List Value} {orc : Orc} {ps : Cs} (hr : (loopN (bodyL Tryd.prog ho3 orc noLoop hoF hoL) 1 ⟨t, hoH 5 0 z E a0 a1 a2, (none, [])⟩).map (fun r => (r.1, maskQ hoDs r.2.t, r.2.h, r.2.m.1, inter r.2.m.2)) = some (.exit 2, hoS5 m z a2 i k fun _ => .bool true, hoH 5 0 z E a0 a1 a2, none, inter ps)) (hp : AE ps) :
    ∃ β', Stop Tryd.prog hoL 1 t (hoH 5 0 z E a0 a1 a2) (.exit 2) (hoS5 m z a2 i k β') (hoH 5 0 z E a0 a1 a2) (none, []) :=
  stopM_ok noNG ho3_ok noLoop_low (noLoop_ok _) ho_one (hoS5_un m z a2 i k) hr hp
section
variable {m : Nat} {z : Int} (hm : m = 0) (hm2 : m ≤ 200) (hz : 1 ≤ z) (hz2 : z ≤ 16)
include hm hm2 hz hz2
theorem ho5_0T (E a0 a1 a2 k : Int) (β : Nat → Value) (h1 : -1 ≤ k) (h2 : k ≤ 16) : ∃ β', Hop Tryd.prog hoL 1 (hoS5 m z a2 0 k β) (hoH 5 0 z E a0 a1 a2) (hoS5 m z a2 0 (k + 1) β') (hoH 5 0 z E a0 a1 a2) (none, []) := by
  by_cases cA : k = -1
  · exact hoMk5 (ho5_0AR m z E a0 a1 a2 k β) (ho5_0AA hm hm2 hz hz2 cA)
  by_cases cB : 0 ≤ k ∧ k + z ≤ 16
  · exact hoMk5 (ho5_0BR m z E a0 a1 a2 k β) (ho5_0BA hm hm2 hz hz2 cB)
  by_cases cC : 0 ≤ k ∧ k < 16 ∧ 16 < k + z
  · exact hoMk5 (ho5_0CR m z E a0 a1 a2 k β) (ho5_0CA hm hm2 hz hz2 cC)
  by_cases cD : k = 16 ∧ z ≤ 8
  · exact hoMk5 (ho5_0DR m z E a0 a1 a2 k β) (ho5_0DA hm hm2 hz hz2 cD)
  exact hoMk5 (ho5_0ER m z E a0 a1 a2 k β) (ho5_0EA hm hm2 hz hz2 (by omega))
theorem ho5_0D (E a0 a1 a2 : Int) : ∀ (d : Nat) (k : Int) (β : Nat → Value), -1 ≤ k → k + d ≤ 16 + 1 → ∃ β', Hop Tryd.prog hoL d (hoS5 m z a2 0 k β) (hoH 5 0 z E a0 a1 a2) (hoS5 m z a2 0 (k + d) β') (hoH 5 0 z E a0 a1 a2) (none, [])
  | 0, k, β, _, _ => by
    rw [show k + ((0 : Nat) : Int) = k by omega]
    exact ⟨β, Hop.zero _ _ _⟩
  | d + 1, k, β, h1, h2 => by
    obtain ⟨β1, q1⟩ := ho5_0T hm hm2 hz hz2 E a0 a1 a2 k β h1 (by omega)
    obtain ⟨β2, q2⟩ := ho5_0D E a0 a1 a2 d (k + 1) β1 (by omega) (by omega)
    refine ⟨β2, ?_⟩
    rw [show d + 1 = 1 + d by omega, show k + ((1 + d : Nat) : Int) = k + 1 + d by omega]
    exact q1.trans q2 (fun _ h => h) (fun _ h => h)
theorem ho5_0L (E a0 a1 a2 : Int) (β : Nat → Value) : ∃ β', LoopQOk Tryd.prog ⟨hoF, 0, fun x => decide (atI x.t 15 = 0), hoS5 m z a2 0 (-1) β, hoH 5 0 z E a0 a1 a2, .exit 2, hoS5 m z a2 0 (16 + 1) β', hoH 5 0 z E a0 a1 a2, (none, [])⟩ := by
  obtain ⟨β1, q1⟩ := ho5_0D hm hm2 hz hz2 E a0 a1 a2 (16 + 2) (-1) β (by omega) (by omega)
  rw [show (-1 + ((16 + 2 : Nat) : Int)) = 16 + 1 by omega] at q1
  obtain ⟨β2, q2⟩ := hoEn5 (ho5_0SR m z E a0 a1 a2 (16 + 1) β1) (AE.cons (b0 (by omega)) AE.nil)
  exact ⟨β2, loopQ_ok (N := (16 + 2) + 1) ho_one (q1.stop' q2 (fun _ h => h) (fun _ h => h))⟩
theorem ho5_1T (E a0 a1 a2 k : Int) (β : Nat → Value) (h1 : -1 ≤ k) (h2 : k ≤ 8) : ∃ β', Hop Tryd.prog hoL 1 (hoS5 m z a2 1 k β) (hoH 5 0 z E a0 a1 a2) (hoS5 m z a2 1 (k + 1) β') (hoH 5 0 z E a0 a1 a2) (none, []) := by
  by_cases cA : k = -1 ∧ z = 1
  · exact hoMk5 (ho5_1AR m z E a0 a1 a2 k β) (ho5_1AA hm hm2 hz hz2 cA)
  by_cases cE : k = -1 ∧ 1 < z
  · exact hoMk5 (ho5_1ER m z E a0 a1 a2 k β) (ho5_1EA hm hm2 hz hz2 cE)
  by_cases cB : 0 ≤ k ∧ k + z ≤ 8
  · exact hoMk5 (ho5_1BR m z E a0 a1 a2 k β) (ho5_1BA hm hm2 hz hz2 cB)
  by_cases cC : 0 ≤ k ∧ k < 8 ∧ 8 < k + z
  · exact hoMk5 (ho5_1CR m z E a0 a1 a2 k β) (ho5_1CA hm hm2 hz hz2 cC)
  exact hoMk5 (ho5_1DR m z E a0 a1 a2 k β) (ho5_1DA hm hm2 hz hz2 (by omega))
theorem ho5_1D (E a0 a1 a2 : Int) : ∀ (d : Nat) (k : Int) (β : Nat → Value), -1 ≤ k → k + d ≤ 8 + 1 → ∃ β', Hop Tryd.prog hoL d (hoS5 m z a2 1 k β) (hoH 5 0 z E a0 a1 a2) (hoS5 m z a2 1 (k + d) β') (hoH 5 0 z E a0 a1 a2) (none, [])
  | 0, k, β, _, _ => by
    rw [show k + ((0 : Nat) : Int) = k by omega]
    exact ⟨β, Hop.zero _ _ _⟩
  | d + 1, k, β, h1, h2 => by
    obtain ⟨β1, q1⟩ := ho5_1T hm hm2 hz hz2 E a0 a1 a2 k β h1 (by omega)
    obtain ⟨β2, q2⟩ := ho5_1D E a0 a1 a2 d (k + 1) β1 (by omega) (by omega)
    refine ⟨β2, ?_⟩
    rw [show d + 1 = 1 + d by omega, show k + ((1 + d : Nat) : Int) = k + 1 + d by omega]
    exact q1.trans q2 (fun _ h => h) (fun _ h => h)
theorem ho5_1L (E a0 a1 a2 : Int) (β : Nat → Value) : ∃ β', LoopQOk Tryd.prog ⟨hoF, 0, fun x => decide (atI x.t 15 = 1), hoS5 m z a2 1 (-1) β, hoH 5 0 z E a0 a1 a2, .exit 2, hoS5 m z a2 1 (8 + 1) β', hoH 5 0 z E a0 a1 a2, (none, [])⟩ := by
  obtain ⟨β1, q1⟩ := ho5_1D hm hm2 hz hz2 E a0 a1 a2 (8 + 2) (-1) β (by omega) (by omega)
  rw [show (-1 + ((8 + 2 : Nat) : Int)) = 8 + 1 by omega] at q1
  obtain ⟨β2, q2⟩ := hoEn5 (ho5_1SR m z E a0 a1 a2 (8 + 1) β1) (AE.cons (b0 (by omega)) AE.nil)
  exact ⟨β2, loopQ_ok (N := (8 + 2) + 1) ho_one (q1.stop' q2 (fun _ h => h) (fun _ h => h))⟩
theorem ho5_2T (E a0 a1 a2 k : Int) (β : Nat → Value) (h1 : -1 ≤ k) (h2 : k ≤ 512) : ∃ β', Hop Tryd.prog hoL 1 (hoS5 m z a2 2 k β) (hoH 5 0 z E a0 a1 a2) (hoS5 m z a2 2 (k + 1) β') (hoH 5 0 z E a0 a1 a2) (none, []) := by
  by_cases cA : k = -1
  · exact hoMk5 (ho5_2AR m z E a0 a1 a2 k β) (ho5_2AA hm hm2 hz hz2 cA)
  by_cases cB : 0 ≤ k ∧ k + z ≤ 512
  · exact hoMk5 (ho5_2BR m z E a0 a1 a2 k β) (ho5_2BA hm hm2 hz hz2 cB)
  by_cases cC : 0 ≤ k ∧ k < 512 ∧ 512 < k + z
  · exact hoMk5 (ho5_2CR m z E a0 a1 a2 k β) (ho5_2CA hm hm2 hz hz2 cC)
  exact hoMk5 (ho5_2DR m z E a0 a1 a2 k β) (ho5_2DA hm hm2 hz hz2 (by omega))
theorem ho5_2D (E a0 a1 a2 : Int) : ∀ (d : Nat) (k : Int) (β : Nat → Value), -1 ≤ k → k + d ≤ 512 + 1 → ∃ β', Hop Tryd.prog hoL d (hoS5 m z a2 2 k β) (hoH 5 0 z E a0 a1 a2) (hoS5 m z a2 2 (k + d) β') (hoH 5 0 z E a0 a1 a2) (none, [])
  | 0, k, β, _, _ => by
    rw [show k + ((0 : Nat) : Int) = k by omega]
    exact ⟨β, Hop.zero _ _ _⟩
  | d + 1, k, β, h1, h2 => by
    obtain ⟨β1, q1⟩ := ho5_2T hm hm2 hz hz2 E a0 a1 a2 k β h1 (by omega)
    obtain ⟨β2, q2⟩ := ho5_2D E a0 a1 a2 d (k + 1) β1 (by omega) (by omega)
    refine ⟨β2, ?_⟩
    rw [show d + 1 = 1 + d by omega, show k + ((1 + d : Nat) : Int) = k + 1 + d by omega]
    exact q1.trans q2 (fun _ h => h) (fun _ h => h)
theorem ho5_2L (E a0 a1 a2 : Int) (β : Nat → Value) : ∃ β', LoopQOk Tryd.prog ⟨hoF, 0, fun x => decide (atI x.t 15 = 2), hoS5 m z a2 2 (-1) β, hoH 5 0 z E a0 a1 a2, .exit 2, hoS5 m z a2 2 (512 + 1) β', hoH 5 0 z E a0 a1 a2, (none, [])⟩ := by
  obtain ⟨β1, q1⟩ := ho5_2D hm hm2 hz hz2 E a0 a1 a2 (512 + 2) (-1) β (by omega) (by omega)
  rw [show (-1 + ((512 + 2 : Nat) : Int)) = 512 + 1 by omega] at q1
  obtain ⟨β2, q2⟩ := hoEn5 (ho5_2SR m z E a0 a1 a2 (512 + 1) β1) (AE.cons (b0 (by omega)) AE.nil)
  exact ⟨β2, loopQ_ok (N := (512 + 2) + 1) ho_one (q1.stop' q2 (fun _ h => h) (fun _ h => h))⟩
theorem ho5_3T (E a0 a1 a2 k : Int) (β : Nat → Value) (h1 : -1 ≤ k) (h2 : k ≤ 0) : ∃ β', Hop Tryd.prog hoL 1 (hoS5 m z a2 3 k β) (hoH 5 0 z E a0 a1 a2) (hoS5 m z a2 3 (k + 1) β') (hoH 5 0 z E a0 a1 a2) (none, []) := by
  by_cases cA : k = -1
  · exact hoMk5 (ho5_3AR m z E a0 a1 a2 k β) (ho5_3AA hm hm2 hz hz2 cA)
  exact hoMk5 (ho5_3DR m z E a0 a1 a2 k β) (ho5_3DA hm hm2 hz hz2 (by omega))
theorem ho5_3D (E a0 a1 a2 : Int) : ∀ (d : Nat) (k : Int) (β : Nat → Value), -1 ≤ k → k + d ≤ 0 + 1 → ∃ β', Hop Tryd.prog hoL d (hoS5 m z a2 3 k β) (hoH 5 0 z E a0 a1 a2) (hoS5 m z a2 3 (k + d) β') (hoH 5 0 z E a0 a1 a2) (none, [])
  | 0, k, β, _, _ => by
    rw [show k + ((0 : Nat) : Int) = k by omega]
    exact ⟨β, Hop.zero _ _ _⟩
  | d + 1, k, β, h1, h2 => by
    obtain ⟨β1, q1⟩ := ho5_3T hm hm2 hz hz2 E a0 a1 a2 k β h1 (by omega)
    obtain ⟨β2, q2⟩ := ho5_3D E a0 a1 a2 d (k + 1) β1 (by omega) (by omega)
    refine ⟨β2, ?_⟩
    rw [show d + 1 = 1 + d by omega, show k + ((1 + d : Nat) : Int) = k + 1 + d by omega]
    exact q1.trans q2 (fun _ h => h) (fun _ h => h)
theorem ho5_3L (E a0 a1 a2 : Int) (β : Nat → Value) : ∃ β', LoopQOk Tryd.prog ⟨hoF, 0, fun x => decide (atI x.t 15 = 3), hoS5 m z a2 3 (-1) β, hoH 5 0 z E a0 a1 a2, .exit 2, hoS5 m z a2 3 (0 + 1) β', hoH 5 0 z E a0 a1 a2, (none, [])⟩ := by
  obtain ⟨β1, q1⟩ := ho5_3D hm hm2 hz hz2 E a0 a1 a2 (0 + 2) (-1) β (by omega) (by omega)
  rw [show (-1 + ((0 + 2 : Nat) : Int)) = 0 + 1 by omega] at q1
  obtain ⟨β2, q2⟩ := hoEn5 (ho5_3SR m z E a0 a1 a2 (0 + 1) β1) (AE.cons (b0 (by omega)) AE.nil)
  exact ⟨β2, loopQ_ok (N := (0 + 2) + 1) ho_one (q1.stop' q2 (fun _ h => h) (fun _ h => h))⟩
theorem ho5_4T (E a0 a1 a2 k : Int) (β : Nat → Value) (h1 : -1 ≤ k) (h2 : k ≤ 20) : ∃ β', Hop Tryd.prog hoL 1 (hoS5 m z a2 4 k β) (hoH 5 0 z E a0 a1 a2) (hoS5 m z a2 4 (k + 1) β') (hoH 5 0 z E a0 a1 a2) (none, []) := by
  by_cases cA : k = -1
  · exact hoMk5 (ho5_4AR m z E a0 a1 a2 k β) (ho5_4AA hm hm2 hz hz2 cA)
  by_cases cB : 0 ≤ k ∧ k + z ≤ 20
  · exact hoMk5 (ho5_4BR m z E a0 a1 a2 k β) (ho5_4BA hm hm2 hz hz2 cB)
  by_cases cC : 0 ≤ k ∧ k < 20 ∧ 20 < k + z
  · exact hoMk5 (ho5_4CR m z E a0 a1 a2 k β) (ho5_4CA hm hm2 hz hz2 cC)
  exact hoMk5 (ho5_4DR m z E a0 a1 a2 k β) (ho5_4DA hm hm2 hz hz2 (by omega))
theorem ho5_4D (E a0 a1 a2 : Int) : ∀ (d : Nat) (k : Int) (β : Nat → Value), -1 ≤ k → k + d ≤ 20 + 1 → ∃ β', Hop Tryd.prog hoL d (hoS5 m z a2 4 k β) (hoH 5 0 z E a0 a1 a2) (hoS5 m z a2 4 (k + d) β') (hoH 5 0 z E a0 a1 a2) (none, [])
  | 0, k, β, _, _ => by
    rw [show k + ((0 : Nat) : Int) = k by omega]
    exact ⟨β, Hop.zero _ _ _⟩
  | d + 1, k, β, h1, h2 => by
    obtain ⟨β1, q1⟩ := ho5_4T hm hm2 hz hz2 E a0 a1 a2 k β h1 (by omega)
    obtain ⟨β2, q2⟩ := ho5_4D E a0 a1 a2 d (k + 1) β1 (by omega) (by omega)
    refine ⟨β2, ?_⟩
    rw [show d + 1 = 1 + d by omega, show k + ((1 + d : Nat) : Int) = k + 1 + d by omega]
    exact q1.trans q2 (fun _ h => h) (fun _ h => h)
theorem ho5_4L (E a0 a1 a2 : Int) (β : Nat → Value) : ∃ β', LoopQOk Tryd.prog ⟨hoF, 0, fun x => decide (atI x.t 15 = 4), hoS5 m z a2 4 (-1) β, hoH 5 0 z E a0 a1 a2, .exit 2, hoS5 m z a2 4 (20 + 1) β', hoH 5 0 z E a0 a1 a2, (none, [])⟩ := by
  obtain ⟨β1, q1⟩ := ho5_4D hm hm2 hz hz2 E a0 a1 a2 (20 + 2) (-1) β (by omega) (by omega)
  rw [show (-1 + ((20 + 2 : Nat) : Int)) = 20 + 1 by omega] at q1
  obtain ⟨β2, q2⟩ := hoEn5 (ho5_4SR m z E a0 a1 a2 (20 + 1) β1) (AE.cons (b0 (by omega)) AE.nil)
  exact ⟨β2, loopQ_ok (N := (20 + 2) + 1) ho_one (q1.stop' q2 (fun _ h => h) (fun _ h => h))⟩
end
end Go.Proofs.YtbjiicjmlbocdaaDoor.Ex
