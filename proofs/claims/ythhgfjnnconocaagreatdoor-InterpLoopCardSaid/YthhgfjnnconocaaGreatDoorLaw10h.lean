/-
  Layer 10: what a loop that counts down asks of numbers.
-/
import Derived.Test.YthhgfjnnconocaaGreatDoorLaw10n
import Derived.Test.YthhgfjnnconocaaGreatDoorPackD
namespace Go.Proofs.YthhgfjnnconocaaGreatDoor.Ex
open Go Go.RowKit
set_option maxHeartbeats 0
set_option maxRecDepth 1000000
set_option linter.unusedVariables false
def u6c0 : List Int := [0, 1, 2, 3, 4, 5, 6, 7]
def u6c1 : List Int := [8, 9, 10, 11, 12, 13, 14, 15]
def u6c2 : List Int := [16, 17, 18, 19, 20, 21, 22, 23]
def u6c3 : List Int := [24, 25, 26, 27, 28, 29, 30, 31]
def u6c4 : List Int := [32, 33, 34, 35, 36, 37, 38, 39]
def u6c5 : List Int := [40, 41, 42, 43, 44, 45, 46, 47]
def u6c6 : List Int := [48, 49, 50, 51, 52, 53, 54, 55]
def u6c7 : List Int := [56, 57, 58, 59, 60, 61, 62, 63]
def u6s : List Int := u6c0 ++ (u6c1 ++ (u6c2 ++ (u6c3 ++ (u6c4 ++ (u6c5 ++ (u6c6 ++ (u6c7)))))))
theorem u6s_all : (List.range 64).all (fun n => u6s.contains (n : Int)) = true := by kernel_rfl
def u6in (x : Int) : Bool := decide (0 ≤ x ∧ x < 64)
def u6pos (x : Int) : Bool := decide (1 ≤ x ∧ x < 64)
theorem u6in_mem {x : Int} (h : u6in x = true) : x ∈ u6s := by
  obtain ⟨h0, h1⟩ := of_decide_eq_true h
  obtain ⟨n, rfl⟩ := Int.eq_ofNat_of_zero_le h0
  exact List.contains_iff_mem.1 (List.all_eq_true.1 u6s_all n (List.mem_range.2 (by omega)))
theorem u6pos_in {x : Int} (h : u6pos x = true) : u6in x = true ∧ (x == 0) = false := by
  obtain ⟨h0, h1⟩ := of_decide_eq_true h
  exact ⟨decide_eq_true ⟨by omega, h1⟩, by simpa using (by omega : x ≠ 0)⟩
def dn (m : Int) : Value := if m == 0 then .int .u64 18446744073709551615 else .int .u64 (m - 1)
def by1 (m : Int) : Value := .string ⟨⟨[UInt8.ofNat m.toNat]⟩⟩
def ne0 (m : Int) : Value := .bool (!(m == 0))
theorem nB_0 : u6c0.map (fun m => reckonGC Tryz.prog (guardH noHook) noOrc 100000 300 [] 119 [.int .u64 m, .int .i64 1]) = u6c0.map (fun m => some (by1 m, [])) := by kernel_rfl
theorem nB_1 : u6c1.map (fun m => reckonGC Tryz.prog (guardH noHook) noOrc 100000 300 [] 119 [.int .u64 m, .int .i64 1]) = u6c1.map (fun m => some (by1 m, [])) := by kernel_rfl
theorem nB_2 : u6c2.map (fun m => reckonGC Tryz.prog (guardH noHook) noOrc 100000 300 [] 119 [.int .u64 m, .int .i64 1]) = u6c2.map (fun m => some (by1 m, [])) := by kernel_rfl
theorem nB_3 : u6c3.map (fun m => reckonGC Tryz.prog (guardH noHook) noOrc 100000 300 [] 119 [.int .u64 m, .int .i64 1]) = u6c3.map (fun m => some (by1 m, [])) := by kernel_rfl
theorem nB_4 : u6c4.map (fun m => reckonGC Tryz.prog (guardH noHook) noOrc 100000 300 [] 119 [.int .u64 m, .int .i64 1]) = u6c4.map (fun m => some (by1 m, [])) := by kernel_rfl
theorem nB_5 : u6c5.map (fun m => reckonGC Tryz.prog (guardH noHook) noOrc 100000 300 [] 119 [.int .u64 m, .int .i64 1]) = u6c5.map (fun m => some (by1 m, [])) := by kernel_rfl
theorem nB_6 : u6c6.map (fun m => reckonGC Tryz.prog (guardH noHook) noOrc 100000 300 [] 119 [.int .u64 m, .int .i64 1]) = u6c6.map (fun m => some (by1 m, [])) := by kernel_rfl
theorem nB_7 : u6c7.map (fun m => reckonGC Tryz.prog (guardH noHook) noOrc 100000 300 [] 119 [.int .u64 m, .int .i64 1]) = u6c7.map (fun m => some (by1 m, [])) := by kernel_rfl
theorem nB_fl : u6s.all (fun m => flat (by1 m)) = true := by kernel_rfl
theorem c_nB (m : Int) (h : m ∈ u6s) (w : World) : Calls Tryz.prog 119 ⟨[.int .u64 m, .int .i64 1]⟩ w fun e w' => e = .returned (by1 m) ∧ Gr w w' := by
  have hf := List.all_eq_true.1 nB_fl m h
  rcases List.mem_append.1 h with hm | h
  · exact reckonT_ok noNG (noHook_ok _) noOrc 100000 300 [] (cs := []) rfl hf (List.map_inj_left.1 nB_0 m hm) rfl w (Laid.nil w)
  rcases List.mem_append.1 h with hm | h
  · exact reckonT_ok noNG (noHook_ok _) noOrc 100000 300 [] (cs := []) rfl hf (List.map_inj_left.1 nB_1 m hm) rfl w (Laid.nil w)
  rcases List.mem_append.1 h with hm | h
  · exact reckonT_ok noNG (noHook_ok _) noOrc 100000 300 [] (cs := []) rfl hf (List.map_inj_left.1 nB_2 m hm) rfl w (Laid.nil w)
  rcases List.mem_append.1 h with hm | h
  · exact reckonT_ok noNG (noHook_ok _) noOrc 100000 300 [] (cs := []) rfl hf (List.map_inj_left.1 nB_3 m hm) rfl w (Laid.nil w)
  rcases List.mem_append.1 h with hm | h
  · exact reckonT_ok noNG (noHook_ok _) noOrc 100000 300 [] (cs := []) rfl hf (List.map_inj_left.1 nB_4 m hm) rfl w (Laid.nil w)
  rcases List.mem_append.1 h with hm | h
  · exact reckonT_ok noNG (noHook_ok _) noOrc 100000 300 [] (cs := []) rfl hf (List.map_inj_left.1 nB_5 m hm) rfl w (Laid.nil w)
  rcases List.mem_append.1 h with hm | h
  · exact reckonT_ok noNG (noHook_ok _) noOrc 100000 300 [] (cs := []) rfl hf (List.map_inj_left.1 nB_6 m hm) rfl w (Laid.nil w)
  · exact reckonT_ok noNG (noHook_ok _) noOrc 100000 300 [] (cs := []) rfl hf (List.map_inj_left.1 nB_7 m h) rfl w (Laid.nil w)
theorem nH_0 : u6c0.map (fun m => reckonGC Tryz.prog (guardH noHook) noOrc 100000 300 [] 11 [.int .u8 80, .bool true, .int .u64 m, .int .u64 0]) = u6c0.map (fun m => some (ne0 m, [])) := by kernel_rfl
theorem nH_1 : u6c1.map (fun m => reckonGC Tryz.prog (guardH noHook) noOrc 100000 300 [] 11 [.int .u8 80, .bool true, .int .u64 m, .int .u64 0]) = u6c1.map (fun m => some (ne0 m, [])) := by kernel_rfl
theorem nH_2 : u6c2.map (fun m => reckonGC Tryz.prog (guardH noHook) noOrc 100000 300 [] 11 [.int .u8 80, .bool true, .int .u64 m, .int .u64 0]) = u6c2.map (fun m => some (ne0 m, [])) := by kernel_rfl
theorem nH_3 : u6c3.map (fun m => reckonGC Tryz.prog (guardH noHook) noOrc 100000 300 [] 11 [.int .u8 80, .bool true, .int .u64 m, .int .u64 0]) = u6c3.map (fun m => some (ne0 m, [])) := by kernel_rfl
theorem nH_4 : u6c4.map (fun m => reckonGC Tryz.prog (guardH noHook) noOrc 100000 300 [] 11 [.int .u8 80, .bool true, .int .u64 m, .int .u64 0]) = u6c4.map (fun m => some (ne0 m, [])) := by kernel_rfl
theorem nH_5 : u6c5.map (fun m => reckonGC Tryz.prog (guardH noHook) noOrc 100000 300 [] 11 [.int .u8 80, .bool true, .int .u64 m, .int .u64 0]) = u6c5.map (fun m => some (ne0 m, [])) := by kernel_rfl
theorem nH_6 : u6c6.map (fun m => reckonGC Tryz.prog (guardH noHook) noOrc 100000 300 [] 11 [.int .u8 80, .bool true, .int .u64 m, .int .u64 0]) = u6c6.map (fun m => some (ne0 m, [])) := by kernel_rfl
theorem nH_7 : u6c7.map (fun m => reckonGC Tryz.prog (guardH noHook) noOrc 100000 300 [] 11 [.int .u8 80, .bool true, .int .u64 m, .int .u64 0]) = u6c7.map (fun m => some (ne0 m, [])) := by kernel_rfl
theorem nH_fl : u6s.all (fun m => flat (ne0 m)) = true := by kernel_rfl
theorem c_nH (m : Int) (h : m ∈ u6s) (w : World) : Calls Tryz.prog 11 ⟨[.int .u8 80, .bool true, .int .u64 m, .int .u64 0]⟩ w fun e w' => e = .returned (ne0 m) ∧ Gr w w' := by
  have hf := List.all_eq_true.1 nH_fl m h
  rcases List.mem_append.1 h with hm | h
  · exact reckonT_ok noNG (noHook_ok _) noOrc 100000 300 [] (cs := []) rfl hf (List.map_inj_left.1 nH_0 m hm) rfl w (Laid.nil w)
  rcases List.mem_append.1 h with hm | h
  · exact reckonT_ok noNG (noHook_ok _) noOrc 100000 300 [] (cs := []) rfl hf (List.map_inj_left.1 nH_1 m hm) rfl w (Laid.nil w)
  rcases List.mem_append.1 h with hm | h
  · exact reckonT_ok noNG (noHook_ok _) noOrc 100000 300 [] (cs := []) rfl hf (List.map_inj_left.1 nH_2 m hm) rfl w (Laid.nil w)
  rcases List.mem_append.1 h with hm | h
  · exact reckonT_ok noNG (noHook_ok _) noOrc 100000 300 [] (cs := []) rfl hf (List.map_inj_left.1 nH_3 m hm) rfl w (Laid.nil w)
  rcases List.mem_append.1 h with hm | h
  · exact reckonT_ok noNG (noHook_ok _) noOrc 100000 300 [] (cs := []) rfl hf (List.map_inj_left.1 nH_4 m hm) rfl w (Laid.nil w)
  rcases List.mem_append.1 h with hm | h
  · exact reckonT_ok noNG (noHook_ok _) noOrc 100000 300 [] (cs := []) rfl hf (List.map_inj_left.1 nH_5 m hm) rfl w (Laid.nil w)
  rcases List.mem_append.1 h with hm | h
  · exact reckonT_ok noNG (noHook_ok _) noOrc 100000 300 [] (cs := []) rfl hf (List.map_inj_left.1 nH_6 m hm) rfl w (Laid.nil w)
  · exact reckonT_ok noNG (noHook_ok _) noOrc 100000 300 [] (cs := []) rfl hf (List.map_inj_left.1 nH_7 m h) rfl w (Laid.nil w)
theorem nA_0 : u6c0.map (fun m => reckonGC Tryz.prog (guardH noHook) noOrc 100000 300 [] 10 [.int .u8 0, .bool true, .int .u64 m, .int .u64 18446744073709551615]) = u6c0.map (fun m => some (dn m, [])) := by kernel_rfl
theorem nA_1 : u6c1.map (fun m => reckonGC Tryz.prog (guardH noHook) noOrc 100000 300 [] 10 [.int .u8 0, .bool true, .int .u64 m, .int .u64 18446744073709551615]) = u6c1.map (fun m => some (dn m, [])) := by kernel_rfl
theorem nA_2 : u6c2.map (fun m => reckonGC Tryz.prog (guardH noHook) noOrc 100000 300 [] 10 [.int .u8 0, .bool true, .int .u64 m, .int .u64 18446744073709551615]) = u6c2.map (fun m => some (dn m, [])) := by kernel_rfl
theorem nA_3 : u6c3.map (fun m => reckonGC Tryz.prog (guardH noHook) noOrc 100000 300 [] 10 [.int .u8 0, .bool true, .int .u64 m, .int .u64 18446744073709551615]) = u6c3.map (fun m => some (dn m, [])) := by kernel_rfl
theorem nA_4 : u6c4.map (fun m => reckonGC Tryz.prog (guardH noHook) noOrc 100000 300 [] 10 [.int .u8 0, .bool true, .int .u64 m, .int .u64 18446744073709551615]) = u6c4.map (fun m => some (dn m, [])) := by kernel_rfl
theorem nA_5 : u6c5.map (fun m => reckonGC Tryz.prog (guardH noHook) noOrc 100000 300 [] 10 [.int .u8 0, .bool true, .int .u64 m, .int .u64 18446744073709551615]) = u6c5.map (fun m => some (dn m, [])) := by kernel_rfl
theorem nA_6 : u6c6.map (fun m => reckonGC Tryz.prog (guardH noHook) noOrc 100000 300 [] 10 [.int .u8 0, .bool true, .int .u64 m, .int .u64 18446744073709551615]) = u6c6.map (fun m => some (dn m, [])) := by kernel_rfl
theorem nA_7 : u6c7.map (fun m => reckonGC Tryz.prog (guardH noHook) noOrc 100000 300 [] 10 [.int .u8 0, .bool true, .int .u64 m, .int .u64 18446744073709551615]) = u6c7.map (fun m => some (dn m, [])) := by kernel_rfl
theorem nA_fl : u6s.all (fun m => flat (dn m)) = true := by kernel_rfl
theorem c_nA (m : Int) (h : m ∈ u6s) (w : World) : Calls Tryz.prog 10 ⟨[.int .u8 0, .bool true, .int .u64 m, .int .u64 18446744073709551615]⟩ w fun e w' => e = .returned (dn m) ∧ Gr w w' := by
  have hf := List.all_eq_true.1 nA_fl m h
  rcases List.mem_append.1 h with hm | h
  · exact reckonT_ok noNG (noHook_ok _) noOrc 100000 300 [] (cs := []) rfl hf (List.map_inj_left.1 nA_0 m hm) rfl w (Laid.nil w)
  rcases List.mem_append.1 h with hm | h
  · exact reckonT_ok noNG (noHook_ok _) noOrc 100000 300 [] (cs := []) rfl hf (List.map_inj_left.1 nA_1 m hm) rfl w (Laid.nil w)
  rcases List.mem_append.1 h with hm | h
  · exact reckonT_ok noNG (noHook_ok _) noOrc 100000 300 [] (cs := []) rfl hf (List.map_inj_left.1 nA_2 m hm) rfl w (Laid.nil w)
  rcases List.mem_append.1 h with hm | h
  · exact reckonT_ok noNG (noHook_ok _) noOrc 100000 300 [] (cs := []) rfl hf (List.map_inj_left.1 nA_3 m hm) rfl w (Laid.nil w)
  rcases List.mem_append.1 h with hm | h
  · exact reckonT_ok noNG (noHook_ok _) noOrc 100000 300 [] (cs := []) rfl hf (List.map_inj_left.1 nA_4 m hm) rfl w (Laid.nil w)
  rcases List.mem_append.1 h with hm | h
  · exact reckonT_ok noNG (noHook_ok _) noOrc 100000 300 [] (cs := []) rfl hf (List.map_inj_left.1 nA_5 m hm) rfl w (Laid.nil w)
  rcases List.mem_append.1 h with hm | h
  · exact reckonT_ok noNG (noHook_ok _) noOrc 100000 300 [] (cs := []) rfl hf (List.map_inj_left.1 nA_6 m hm) rfl w (Laid.nil w)
  · exact reckonT_ok noNG (noHook_ok _) noOrc 100000 300 [] (cs := []) rfl hf (List.map_inj_left.1 nA_7 m h) rfl w (Laid.nil w)
/-- A number below 64: its byte; whether it is none; the one below it. -/
def hkC : Hook := fun f args _ =>
  if Nat.beq f 119 then
    match args with
    | [.int .u64 m, .int .i64 n] => if n == 1 then some (by1 m, [(b2i (u6in m), 1)]) else none
    | _ => none
  else if Nat.beq f 11 then
    match args with
    | [.int .u8 op, .bool true, .int .u64 m, .int .u64 z] => if op == 80 && z == 0 then some (.bool true, [(b2i (u6pos m), 1)]) else none
    | _ => none
  else if Nat.beq f 10 then
    match args with
    | [.int .u8 op, .bool true, .int .u64 m, .int .u64 z] => if op == 0 && z == 18446744073709551615 then some (.int .u64 (m - 1), [(b2i (u6pos m), 1)]) else none
    | _ => none
  else none
theorem hkC_ok : HookOk Tryz.prog hkC := by
  intro f args h v cs hv hc wb k s w H
  unfold hkC at hv
  split at hv
  · rename_i hf
    obtain rfl := Nat.eq_of_beq_eq_true hf
    split at hv
    · rename_i m n
      split at hv
      · rename_i hn
        obtain rfl := eq_of_beq hn
        cases hv
        exact c_nB m (u6in_mem (b2i_inj (b := true) (hc _ (List.mem_singleton.2 rfl)))) w
      · cases hv
    · cases hv
  · split at hv
    · rename_i hf
      obtain rfl := Nat.eq_of_beq_eq_true hf
      split at hv
      · rename_i op m z
        split at hv
        · rename_i hn
          simp only [Bool.and_eq_true] at hn
          obtain rfl := eq_of_beq hn.1
          obtain rfl := eq_of_beq hn.2
          cases hv
          obtain ⟨h1, h2⟩ := u6pos_in (b2i_inj (b := true) (hc _ (List.mem_singleton.2 rfl)))
          have := c_nH m (u6in_mem h1) w
          simp only [ne0, h2, Bool.not_false] at this
          exact this
        · cases hv
      · cases hv
    · split at hv
      · rename_i hf
        obtain rfl := Nat.eq_of_beq_eq_true hf
        split at hv
        · rename_i op m z
          split at hv
          · rename_i hn
            simp only [Bool.and_eq_true] at hn
            obtain rfl := eq_of_beq hn.1
            obtain rfl := eq_of_beq hn.2
            cases hv
            obtain ⟨h1, h2⟩ := u6pos_in (b2i_inj (b := true) (hc _ (List.mem_singleton.2 rfl)))
            have := c_nA m (u6in_mem h1) w
            simp only [dn, h2, Bool.false_eq_true, if_false] at this
            exact this
          · cases hv
        · cases hv
      · cases hv
def hkC3 : Hook3 := liftH (guardH (orHook hkC repHook))
theorem hkC3_ok : HookOk3 Tryz.prog hkC3 := lift_ok (guard_ok (orHook_ok hkC_ok repHook_ok))
def hkR3 : Hook3 := liftH (guardH repHook)
theorem hkR3_ok : HookOk3 Tryz.prog hkR3 := lift_ok (guard_ok repHook_ok)
theorem i64_idL (x : Int) (h1 : 0 ≤ x) (h2 : x ≤ 1000000) : IntKind.i64.wrap x = x := by
  have e : x % 2 ^ 64 = x := by omega
  simp only [IntKind.wrap, IntKind.signed, IntKind.bits, e]
  rw [if_neg]
  simp only [Bool.true_and, decide_eq_true_eq]
  omega
theorem u64_idL (x : Int) (h1 : 0 ≤ x) (h2 : x ≤ 1000000) : IntKind.u64.wrap x = x := by
  have e : x % 2 ^ 64 = x := by omega
  simp only [IntKind.wrap, IntKind.signed, IntKind.bits, e]
  rfl
theorem i32_idL (x : Int) (h1 : 0 ≤ x) (h2 : x ≤ 1000000) : IntKind.i32.wrap x = x := by
  have e : x % 2 ^ 32 = x := by omega
  simp only [IntKind.wrap, IntKind.signed, IntKind.bits, e]
  rw [if_neg]
  simp only [Bool.true_and, decide_eq_true_eq]
  omega
/-- Steps are counted on; the test whether one more may be is told: b where the jump lies behind. -/
def ilOrc (b : Bool) : Orc := fun f t x =>
  if Nat.beq f 8 then
    if Nat.beq t 65 then some .nilFunc
    else if Nat.beq t 48 then
      match x.getD 57 undef with
      | .agg cs => match cs.toList with | .int _ op :: _ => some (.bool (if op == 85 then b else true)) | _ => some (.bool true)
      | _ => some (.bool true)
    else if Nat.beq t 50 then
      match x.getD 12 undef with | .int _ a => some (.int .i64 (a + 1)) | _ => none
    else none
  else if Nat.beq f 51 && Nat.beq t 85 then some .nilFunc
  else none
/-- The first rounds: a number is moved. -/
def ilE (n : Int) : Orc := fun f t x =>
  if Nat.beq f 8 then
    if Nat.beq t 65 then some .nilFunc else if Nat.beq t 48 then some (.bool true) else none
  else if Nat.beq f 89 then
    match x.getD 1 undef with
    | .agg cs => match cs.toList with | .int _ op :: _ => if op == 183 then (if Nat.beq t 17 then some (.int .i64 n) else if Nat.beq t 18 then some (.int .u64 n) else none) else none | _ => none
    | _ => none
  else none
end Go.Proofs.YthhgfjnnconocaaGreatDoor.Ex
