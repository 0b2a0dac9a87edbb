/-
  Layer 19: the stack behind some stores, handed on; the law SlotsApart, its runs.
-/
import Derived.Test.YtmjehhdamlglpaaSk7
import Derived.Test.YtmjehhdamlglpaaSkP
namespace Go.Proofs.Ytmjehhdamlglpaa.Ex
open Go Go.RowKit
set_option maxHeartbeats 0
set_option maxRecDepth 1000000
set_option linter.unusedVariables false
set_option linter.unusedSectionVars false
/-- `stored`, as a contract: of a slice whose memory is told. -/
noncomputable def hkStored : Hook := fun f args h =>
  if Nat.beq f sdF then
    match args with
    | [.slice (some a) n c] =>
      match h[a.block]? with
      | some b => if b.live && (b.es.isNone && (Nat.beq a.off 0 && a.spot.isNone)) then some (.agg ⟨sdS b.cs n⟩, [prP (OkA b.cs n), (b2i (decide (n ≤ 1000) && decide (1 ≤ n)), 1)]) else none
      | none => none
    | _ => none
  else none
theorem hkStored_ok : HookOk2 Try.prog hkStored := by
  intro f args h v cs hv hc wb k s w args' H ha
  unfold hkStored at hv
  split at hv
  · rename_i hf
    obtain rfl := Nat.eq_of_beq_eq_true hf
    split at hv
    · rename_i a n c
      split at hv
      · rename_i b hb
        split at hv
        · rename_i hq
          cases hv
          simp only [Bool.and_eq_true] at hq
          obtain ⟨q1, q2, q3, q4⟩ := hq
          have hA : OkA b.cs n := prP_of (hc _ (List.mem_cons_self ..))
          have hn : (decide (n ≤ 1000) && decide (1 ≤ n)) = true := b2i_inj (b := true) (hc _ (List.mem_cons_of_mem _ (List.mem_cons_self ..)))
          simp only [Bool.and_eq_true, decide_eq_true_eq] at hn
          have hes : b.es = none := Option.isNone_iff_eq_none.1 q2
          obtain ⟨ab, ao, asp⟩ := a
          obtain rfl : ao = 0 := Nat.eq_of_beq_eq_true q3
          obtain rfl : asp = none := Option.isNone_iff_eq_none.1 q4
          have HP := H.pick [⟨true, none, b.cs⟩] (fun _ => ab) (fun i o hi hl => by
              cases i with
              | zero => cases hi; exact ⟨b, hb, q1, hes, rfl, hA.flat, rfl⟩
              | succ i => cases hi)
            (fun i j x y hi hj _ _ _ => by
              cases i with
              | zero => cases j with
                | zero => rfl
                | succ j => cases hj
              | succ i => cases hi)
            (fun i o hi hl he => by
              cases i with
              | zero => cases hi; cases he
              | succ i => cases hi)
          refine c_stored c hA hn.1 hn.2 HP ?_
          obtain ⟨y, ys, rfl, hy, hys⟩ : ∃ y ys, args' = y :: ys ∧ VR s (.slice (some ⟨ab, 0, none⟩) n c) y ∧ LR s [] ys := by
            cases args' with
            | nil => have := ha.1; simp at this
            | cons y ys => exact ⟨y, ys, rfl, ha.uncons.1, ha.uncons.2⟩
          obtain rfl : ys = [] := by
            cases ys with
            | nil => rfl
            | cons z zs => have := hys.1; simp at this
          obtain ⟨p, c', h1, hp, hcap, rfl⟩ := hy.slice_inv
          exact LR.cons (VR.slice (a := ⟨0, 0, none⟩) rfl hp hcap) (LR.nil _)
        · cases hv
      · cases hv
    · cases hv
  · cases hv
noncomputable def ap3 : Hook3 := or3 (liftQ hkStored) (or3 (liftP hkStore) (or3 (liftG 16 hk_val) (liftG 9 hkPiled)))
theorem ap3_ok : HookOk3 Try.prog ap3 := or3_ok (liftQ_ok hkStored_ok) (or3_ok (liftP_ok hkStore_ok) (or3_ok (liftG_ok hk_val_ok) (liftG_ok hkPiled_ok)))
/-- The law: are there too many (g), is the store refused (ne); is the place not ahead of the first one (b1), not behind the last one (b2). -/
noncomputable def apO (g ne b1 b2 : Bool) (k : Nat) (S X : List Value) : Orc := fun f t _ =>
  if Nat.beq f 4 then
    match t with
    | 15 => some (.bool g)
    | 20 => some (tld (.agg ⟨S⟩))
    | 27 => some (.tuple ⟨[.nilIface, .nilIface, .nilIface]⟩)
    | 31 => some (.bool ne)
    | 35 => some (.int .i64 (k : Int))
    | 49 => some (.bool b1)
    | 53 => some (.bool b2)
    | 57 => some .nilIface
    | 60 => some .nilIface
    | 58 => some (tld (.agg ⟨pL S (0 + k * 12)⟩))
    | 61 => some (tld (.agg ⟨pL X (0 + k * 12)⟩))
    | 62 => some (.bool true)
    | t => if Nat.beq t 2000007 then some (tld (.agg ⟨S⟩)) else if Nat.beq t 2000008 then some (tld (.agg ⟨X⟩)) else none
  else none
end Go.Proofs.Ytmjehhdamlglpaa.Ex
