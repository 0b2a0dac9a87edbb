/-
  The law MemoryWrite: numbers and bytes by their contracts; what its runs ask.
-/
import Derived.Test.YtkdnjphgmifkmaaMo0
import Derived.Test.YtkdnjphgmifkmaaNumsMath2
import Derived.Test.YtkdnjphgmifkmaaBytes
import Derived.Test.YtkdnjphgmifkmaaLowN
namespace Go.Proofs.Ytkdnjphgmifkmaa.Ex
open Go Go.RowKit
set_option maxHeartbeats 0
set_option maxRecDepth 1000000
set_option linter.unusedVariables false
def u64B (v : Int) : Bool := decide (0 ≤ v) && decide (v < 18446744073709551616)
def mwHk : Hook := fun f args _ =>
  if Nat.beq f 8 then
    match args with
    | [.int .u64 v, .int .i64 n] => some (.string (bytesS (BitVec.ofInt 64 v) n), [(b2i (u64B v), 1)])
    | _ => none
  else if Nat.beq f 20 then
    match args with
    | [.int .u64 v, .int .i64 n] => some (.int .u64 (N (lowS (BitVec.ofInt 64 v) n)), [(b2i (u64B v && (decide (0 ≤ n) && decide (n ≤ 64))), 1)])
    | _ => none
  else if Nat.beq f 38 then
    match args with
    | [.string s] => some (.int .u64 (N (numS s)), [(b2i (decide (s.size ≤ 8)), 1)])
    | _ => none
  else none
theorem mwHk_ok : HookOk Try.prog mwHk := by
  intro f args h v cs hv hc wb k s w H
  unfold mwHk at hv
  split at hv
  · rename_i hf
    obtain rfl := Nat.eq_of_beq_eq_true hf
    split at hv
    · cases hv
      rename_i v n
      have h0 : u64B v = true := b2i_inj (b := true) (hc _ (List.mem_singleton.2 rfl))
      simp only [u64B, Bool.and_eq_true, decide_eq_true_eq] at h0
      have h1 := bytes_any (BitVec.ofInt 64 v) n w
      rw [N_ofInt v h0.1 (by simpa using h0.2)] at h1
      exact h1.mono fun e w' ⟨he, hw⟩ => ⟨he, Gr.of_grown hw⟩
    · cases hv
  split at hv
  · rename_i hf
    obtain rfl := Nat.eq_of_beq_eq_true hf
    split at hv
    · cases hv
      rename_i v n
      have h0 : (u64B v && (decide (0 ≤ n) && decide (n ≤ 64))) = true := b2i_inj (b := true) (hc _ (List.mem_singleton.2 rfl))
      simp only [u64B, Bool.and_eq_true, decide_eq_true_eq] at h0
      have h1 := low_N (BitVec.ofInt 64 v) n w (by omega) (by omega)
      rw [N_ofInt v h0.1.1 (by simpa using h0.1.2)] at h1
      exact h1.mono fun e w' ⟨he, hw⟩ => ⟨he, hw ▸ Gr.refl w⟩
    · cases hv
  split at hv
  · rename_i hf
    obtain rfl := Nat.eq_of_beq_eq_true hf
    split at hv
    · cases hv
      rename_i b
      have h8 : b.size ≤ 8 := by
        have h0 := b2i_inj (b := true) (hc _ (List.mem_singleton.2 rfl))
        simpa using h0
      exact (num_any b w (Nat.le_trans h8 (by unfold maxLen; decide))).mono fun e w' ⟨he, hw⟩ => ⟨he, hw ▸ Gr.refl w⟩
    · cases hv
  · cases hv
def mwHook : Hook := orHook mwHk (orHook cmpHook laidHook)
theorem mwHook_ok : HookOk Try.prog mwHook := orHook_ok mwHk_ok (orHook_ok cmpHook_ok laidHook_ok)
def blkAt (t : Nat) (x : List Value) : Nat :=
  match (x[t]? : Option Value) with
  | some (.slice (some a) _ _) => a.block
  | some (.pointer (some a)) => a.block
  | _ => 0
def i0 (x : List Value) : Bool :=
  match (x[0]? : Option Value) with
  | some (.int _ n) => n == 0
  | _ => false
def mwOrc (q : Int) : Orc := fun f t x =>
  if Nat.beq f 4 then
    match t with
    | 23 => some (.bool false) | 27 => some (.bool false) | 32 => some (.int .i64 q) | 42 => some .nilIface
    | 132 => some (.bool true) | 154 => some (.bool true) | 163 => some (.bool true) | 172 => some (.bool true)
    | 111 => some (.tuple ⟨[.nilIface]⟩)
    | 147 => some .nilIface | 153 => some .nilIface | 142 => some .nilIface | 152 => some .nilIface
    | _ => none
  else if Nat.beq f 17 then
    match t with
    | 23 => some (.bool false) | 33 => some (.bool false) | 88 => some (.bool false)
    | _ => none
  else if Nat.beq f 58 then (if Nat.beq t 33 then some (.bool false) else none)
  else if Nat.beq f 13 then (if Nat.beq t 35 then some .nilIface else none)
  else if Nat.beq f 31 then (if Nat.beq t 7 then some .nilIface else none)
  else if Nat.beq f 46 then (if Nat.beq t 14 then some (.bool (if i0 x then false else (if Nat.beq (blkAt 2 x) 24 then false else true))) else none)
  else if Nat.beq f 29 then
    match t with
    | 38 => some (.bool false) | 48 => some (.bool false)
    | _ => none
  else if Nat.beq f 18 then
    match t with
    | 38 => some .nilIface
    | 42 => some .nilIface
    | _ => none
  else if Nat.beq f 19 then
    match t with
    | 35 => some .nilIface
    | 36 => some .nilIface
    | _ => none
  else if Nat.beq f 11 then
    match t with
    | 16 => some (.bool false) | 19 => some (.bool false)
    | 37 => some .nilIface
    | 38 => some .nilIface
    | _ => none
  else none
end Go.Proofs.Ytkdnjphgmifkmaa.Ex
