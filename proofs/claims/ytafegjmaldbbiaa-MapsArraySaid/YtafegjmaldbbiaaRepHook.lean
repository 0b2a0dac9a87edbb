/-
  strings.Repeat as a hook of a reckoned run: by the library's contract.
-/
import Derived.Test.YtafegjmaldbbiaaMemo
import Derived.Test.YtafegjmaldbbiaaShelf
namespace Go.Proofs.Ytafegjmaldbbiaa.Ex
open Go Go.RowKit

theorem Gr.of_below {w w' : World} (h : Below w.heap.size w w') : Gr w w' := ⟨⟨h.os, h.output⟩, h.block, h.size⟩
def repHook : Hook := fun f args _ =>
  if Nat.beq f 36 then
    match args with
    | [.string s, .int .i64 n] => some (.string ⟨(Lib.repeatL s.data.toList n.toNat).toArray⟩, [(b2i (decide (0 ≤ n) && decide (n ≤ 100000) && decide (s.size ≤ 100000)), 1)])
    | _ => none
  else none
theorem repHook_ok : HookOk Try.prog repHook := by
  intro f args h0 v cs h hcs _ _ _ w _
  unfold repHook at h
  split at h
  · rename_i hf
    obtain rfl := Nat.eq_of_beq_eq_true hf
    split at h
    · rename_i s n
      cases h
      have hc : (decide (0 ≤ n) && decide (n ≤ 100000) && decide (s.size ≤ 100000)) = true := b2i_inj (hcs _ (List.mem_singleton.2 rfl))
      simp only [Bool.and_eq_true, decide_eq_true_eq] at hc
      have e : n = ((n.toNat : Nat) : Int) := by omega
      have hmul : s.size * n.toNat ≤ 100000 * 100000 := Nat.mul_le_mul hc.2 (by omega)
      have := Try.strings_Repeat s n.toNat w (by omega) (by omega)
      rw [← e] at this
      exact this.mono fun e w' h => ⟨h.1, Gr.of_below h.2⟩
    · cases h
  · cases h
end Go.Proofs.Ytafegjmaldbbiaa.Ex
