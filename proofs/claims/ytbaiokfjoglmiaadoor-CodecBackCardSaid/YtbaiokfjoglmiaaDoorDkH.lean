/-
  Layer 11: decoding, by what it answers of any text at any place; what that says.
-/
import Derived.Test.YtbaiokfjoglmiaaDoorDkG
import Derived.Test.YtbaiokfjoglmiaaDoorDk9
import Derived.Test.YtbaiokfjoglmiaaDoorCd9
namespace Go.Proofs.YtbaiokfjoglmiaaDoor.Ex
open Go Go.RowKit
set_option linter.unusedVariables false
set_option maxHeartbeats 0
set_option maxRecDepth 1000000
theorem hkEn_ok : HookOk Tryd.prog (hkEn encB encE) := by
  intro f args h v cs hv hc wb k s w H
  unfold hkEn at hv
  split at hv
  · rename_i hf
    simp only [Bool.and_eq_true] at hf
    obtain rfl := Nat.eq_of_beq_eq_true hf.1
    split at hv
    · cases hv
      exact c_penc _ _ _ _ _ _ _ _ _ _ _ w (H.laid hf.2 rfl)
    · cases hv
  · cases hv
def inD (s : ByteArray) (a : Int) : Bool := decide (0 ≤ a) && decide (a < (s.size : Int))
def goD (s : ByteArray) (a : Int) : Bool := !(EncE.of encE (readB (bt s a)) != 0) && pfxB (s.extract a.toNat s.size) ⟨⟨EncB.of encB (readB (bt s a))⟩⟩
def okD (s : ByteArray) (a : Int) : Bool := inD s a && goD s a
def dX (s : ByteArray) (a : Int) : XX := bif okD s a then readB (bt s a) else XX.z
def dN (s : ByteArray) (a : Int) : Int := bif okD s a then ((EncB.of encB (readB (bt s a))).length : Int) else 0
def dE (s : ByteArray) (a : Int) : Int := bif okD s a then 0 else 110
def dV (s : ByteArray) (a : Int) : Value := .tuple ⟨[.agg ⟨(dX s a).cells⟩, .int .i64 (dN s a), .int .i64 (dE s a)]⟩
theorem out_lo (s : ByteArray) (a : Int) (h : decide (a < 0) = true) : ∀ (w : World), Laid hDk w → Calls Tryd.prog 18 ⟨[.string s, .int .i64 a]⟩ w fun e w' => e = .returned zV ∧ Gr w w' :=
  lfD hkNo_ok (dOrc (yo 18 11)) (cs := [(b2i (decide (a < 0)), 1)]) (by kernel_rfl) (by kernel_rfl) (AllD.cons (by rw [h]; rfl) AllD.nil)
theorem out_hi (s : ByteArray) (a : Int) (h : decide (a < 0) = false) (h2 : decide (a ≥ (s.size : Int)) = true) : ∀ (w : World), Laid hDk w → Calls Tryd.prog 18 ⟨[.string s, .int .i64 a]⟩ w fun e w' => e = .returned zV ∧ Gr w w' :=
  lfD hkNo_ok (dOrc (no 18 11 ++ yo 18 16)) (cs := [(b2i (decide (a < 0)), 0), (b2i (decide (a ≥ (s.size : Int))), 1)]) (by kernel_rfl) (by kernel_rfl) (AllD.cons (by rw [h]; rfl) (AllD.cons (by rw [h2]; rfl) AllD.nil))
theorem dV_out {s : ByteArray} {a : Int} (h : inD s a = false) : dV s a = zV := by
  unfold dV dX dN dE okD
  rw [h, Bool.false_and]
  rfl
theorem dV_in {s : ByteArray} {a : Int} (h : inD s a = true) : dV s a = decV encB encE s a (readB (bt s a)) := by
  unfold dV dX dN dE okD decV goD
  rw [h, Bool.true_and]
  rcases Bool.eq_false_or_eq_true (EncE.of encE (readB (bt s a)) != 0) with t1 | t1
  · rw [t1]; rfl
  · rw [t1]
    rcases Bool.eq_false_or_eq_true (pfxB (s.extract a.toNat s.size) ⟨⟨EncB.of encB (readB (bt s a))⟩⟩) with t2 | t2
    · rw [t2]; rfl
    · rw [t2]; rfl
theorem c_dec (s : ByteArray) (a : Int) (hs : (s.size : Int) ≤ 1000) (w : World) (hL : Laid hDk w) : Calls Tryd.prog 18 ⟨[.string s, .int .i64 a]⟩ w fun e w' => e = .returned (dV s a) ∧ Gr w w' := by
  cases h1 : decide (a < 0) with
  | true =>
    have hi : inD s a = false := by
      have := of_decide_eq_true h1
      unfold inD
      rw [decide_eq_false (show ¬ 0 ≤ a by omega), Bool.false_and]
    rw [dV_out hi]
    exact out_lo s a h1 w hL
  | false =>
    have ha := of_decide_eq_false h1
    cases h2 : decide (a ≥ (s.size : Int)) with
    | true =>
      have hi : inD s a = false := by
        have := of_decide_eq_true h2
        unfold inD
        rw [decide_eq_false (show ¬ a < (s.size : Int) by omega), Bool.and_false]
      rw [dV_out hi]
      exact out_hi s a h1 h2 w hL
    | false =>
      have hlt := of_decide_eq_false h2
      have hi : inD s a = true := by
        unfold inD
        rw [decide_eq_true (show 0 ≤ a by omega), decide_eq_true (show a < (s.size : Int) by omega)]
        rfl
      rw [dV_in hi]
      exact decode_in ⟨hkD_ok hkEn_ok, rfl, by omega, by omega, by omega, by omega, hL⟩
/-- Decoding, by what it answers. -/
def hkDec : Hook := fun f args h =>
  if Nat.beq f 18 && hasG hDk h then
    match args with
    | [.string s, .int .i64 a] => some (dV s a, [(b2i (decide ((s.size : Int) ≤ 1000)), 1)])
    | _ => none
  else none
theorem hkDec_ok : HookOk Tryd.prog hkDec := by
  intro f args h v cs hv hc wb k s w H
  unfold hkDec at hv
  split at hv
  · rename_i hf
    simp only [Bool.and_eq_true] at hf
    obtain rfl := Nat.eq_of_beq_eq_true hf.1
    split at hv
    · cases hv
      have h1 : decide (_ ≤ (1000 : Int)) = true := b2i_inj (b := true) (hc _ (List.mem_singleton.2 rfl))
      exact c_dec _ _ (of_decide_eq_true h1) w (H.laid hf.2 rfl)
    · cases hv
  · cases hv
/-! What is read fits. -/
structure Rng (x : XX) : Prop where
  re : -2147483648 ≤ x.re ∧ x.re ≤ 2147483647
  dp : -2147483648 ≤ x.dp ∧ x.dp ≤ 2147483647
  im : -9223372036854775808 ≤ x.im ∧ x.im ≤ 9223372036854775807
theorem i64_rng (x : Int) : -9223372036854775808 ≤ IntKind.i64.wrap x ∧ IntKind.i64.wrap x ≤ 9223372036854775807 := by
  simp only [IntKind.wrap, IntKind.bits, IntKind.signed]
  simp
  omega
theorem z32 : -2147483648 ≤ (0 : Int) ∧ (0 : Int) ≤ 2147483647 := by decide
theorem z64 : -9223372036854775808 ≤ (0 : Int) ∧ (0 : Int) ≤ 9223372036854775807 := by decide
theorem Rng.c {c : Bool} {x y : XX} (hx : Rng x) (hy : Rng y) : Rng (bif c then x else y) := by cases c <;> assumption
theorem dpB_rng (b : Nat → Int) (R : Int) (n : Nat) : -2147483648 ≤ dpB b R n ∧ dpB b R n ≤ 2147483647 := by
  unfold dpB
  rcases Bool.eq_false_or_eq_true (Int.tmod (endE R (b n)) 8 == 4) with h | h
  · rw [h, cond_true]
    exact i32_rng (s4 b (n + 2))
  · rw [h, cond_false]
    exact i32_rng (s4 b (n + 1))
theorem Rng.z : Rng XX.z := ⟨z32, z32, z64⟩
section
variable {b : Nat → Int} {h w sh : Bool} {R op k al co si dp re im : Int} {n : Nat}
theorem xRM_rng : Rng (xRM b h w R n k al) := ⟨z32, z32, z64⟩
theorem xMR_rng : Rng (xMR b h w R n k) := ⟨z32, z32, z64⟩
theorem xSd_rng (hd : -2147483648 ≤ dp ∧ dp ≤ 2147483647) : Rng (xSd b h w R n si dp) := ⟨z32, hd, z64⟩
theorem xLd_rng (hd : -2147483648 ≤ dp ∧ dp ≤ 2147483647) : Rng (xLd b h w R n si dp) := ⟨z32, hd, z64⟩
theorem xS_rng : Rng (xS b h w R n si) := xSd_rng (dpB_rng b R n)
theorem xL_rng : Rng (xL b h w R n si) := xLd_rng (dpB_rng b R n)
theorem xDg_rng (hi : -9223372036854775808 ≤ im ∧ im ≤ 9223372036854775807) : Rng (xDg b h w R n k al im) := ⟨z32, z32, hi⟩
theorem xC_rng (hi : -9223372036854775808 ≤ im ∧ im ≤ 9223372036854775807) : Rng (xC h w R op k im) := ⟨z32, z32, hi⟩
theorem xR_rng (hr : -2147483648 ≤ re ∧ re ≤ 2147483647) : Rng (xR h w sh k co re) := ⟨hr, z32, z64⟩
theorem xN_rng : Rng (xN h w k) := ⟨z32, z32, z64⟩
end
theorem s4_rng (b : Nat → Int) (j : Nat) : -9223372036854775808 ≤ s4 b j ∧ s4 b j ≤ 9223372036854775807 := by unfold s4 sgV; exact i64_rng _
theorem s1_rng (b : Nat → Int) (j : Nat) : -9223372036854775808 ≤ s1 b j ∧ s1 b j ≤ 9223372036854775807 := by unfold s1 sgV; exact i64_rng _
theorem s8_rng (b : Nat → Int) (j : Nat) : -9223372036854775808 ≤ s8 b j ∧ s8 b j ≤ 9223372036854775807 := by unfold s8 sgV; exact i64_rng _
theorem rowB_rng (b : Nat → Int) (h w : Bool) (R : Int) (j : Nat) : Rng (rowB b h w R j) := by
  unfold rowB
  exact Rng.c (xC_rng z64) (Rng.c (xC_rng z64) (Rng.c (xR_rng (i32_rng _)) (Rng.c (xC_rng (s8_rng _ _)) Rng.z)))
theorem opB_rng (b : Nat → Int) (h w : Bool) (R : Int) (j : Nat) : Rng (opB b h w R j) := by
  unfold opB
  exact Rng.c (Rng.c xS_rng xRM_rng) (Rng.c xS_rng (Rng.c xL_rng (Rng.c xRM_rng (Rng.c (xDg_rng (s4_rng _ _)) (Rng.c (xDg_rng (s4_rng _ _))
    (Rng.c (Rng.c (xDg_rng z64) (Rng.c (xDg_rng z64) (Rng.c (xDg_rng z64) Rng.z))) (Rng.c (xDg_rng (s1_rng _ _)) (Rng.c (xDg_rng z64) (Rng.c (xR_rng (i32_rng _)) (Rng.c (xR_rng (i32_rng _)) (Rng.c (xR_rng (i32_rng _)) (Rng.c xN_rng
    (Rng.c (Rng.c xRM_rng (rowB_rng b h w R j)) (rowB_rng b h w R j))))))))))))))
theorem escB_rng (b : Nat → Int) (h w : Bool) (R : Int) (j : Nat) : Rng (escB b h w R j) := by
  unfold escB
  exact Rng.c xMR_rng (Rng.c xL_rng (Rng.c xL_rng (Rng.c xN_rng (Rng.c (xR_rng (i32_rng _)) Rng.z))))
theorem readB_rng (b : Nat → Int) : Rng (readB b) := by
  have hp : ∀ h w R j, Rng (preB b h w R j) := fun h w R j => by
    unfold preB
    exact Rng.c (escB_rng b h w R (j + 1)) (opB_rng b h w R j)
  have hr : ∀ h i, Rng (rexB b h i) := fun h i => by
    unfold rexB
    exact Rng.c (Rng.c (hp h true (b i) (i + 1)) (hp h false (b i) (i + 1))) (hp h false 0 i)
  unfold readB
  exact Rng.c (hr true 1) (hr false 0)
/-! An instruction that may be, and its bytes. -/
def XX.may (x : XX) : Bool := vP x.k x.al x.co x.si x.wi x.sh x.ds x.sr x.dp x.re x.im
def XX.by (x : XX) : List UInt8 := encS x.k x.al x.co x.si x.wi x.sh x.ds x.sr x.dp x.re x.im
theorem by_of {x : XX} (h : x.may = true) : EncB.of encB x = x.by := by
  unfold XX.may at h
  show (if _ then _ else _) = _
  rw [h]
  rfl
theorem e_of {x : XX} (h : x.may = true) : EncE.of encE x = 0 := by
  unfold XX.may at h
  show (if _ then _ else _) = _
  rw [h]
  rfl
theorem may_of {x : XX} (h : (EncE.of encE x != 0) = false) : x.may = true := by
  rcases Bool.eq_false_or_eq_true x.may with t | t
  · exact t
  · exfalso
    have e : EncE.of encE x = 2 := by
      unfold XX.may at t
      show (if _ then _ else _) = _
      rw [t]
      rfl
    rw [e] at h
    cases h
theorem read_by {x : XX} (h : x.may = true) (r : Rng x) (t : List UInt8) : readB (bf (x.by ++ t)) = x :=
  read_enc x.k x.al x.co x.si x.wi x.sh x.ds x.sr x.dp x.re x.im h t r.re r.dp r.im
theorem bt_app {s : ByteArray} {p l : List UInt8} (h : s.data.toList = p ++ l) : bt s (p.length : Int) = bf l := by
  funext j
  unfold bt bf byteT
  rw [atN_eq, h]
  have e : ((p.length : Int) + (j : Int)).toNat = p.length + j := by omega
  rw [e, List.getD_eq_getElem?_getD, List.getD_eq_getElem?_getD, List.getElem?_append_right (by omega), Nat.add_sub_cancel_left]
theorem ext_list (s : ByteArray) (i j : Nat) : (s.extract i j).data.toList = (s.data.toList.drop i).take (j - i) := by
  rw [ByteArray.data_extract, Array.toList_extract, List.extract_eq_take_drop]
theorem size_list (s : ByteArray) : s.size = s.data.toList.length := Array.length_toList.symm
theorem pfx_iff (x y : ByteArray) : pfxB x y = true ↔ y.data.toList <+: x.data.toList := by
  unfold pfxB
  simp only [Bool.and_eq_true, decide_eq_true_eq, beq_iff_eq, ext_list, List.drop_zero, Nat.sub_zero]
  rw [size_list x, size_list y]
  constructor
  · rintro ⟨h1, h2⟩
    rw [← h2]
    exact List.take_prefix _ _
  · intro h
    have h1 := h.length_le
    exact ⟨by omega, (List.prefix_iff_eq_take.1 h).symm⟩
/-- Where an instruction's bytes stand it is decoded. -/
theorem okD_fwd {x : XX} (h : x.may = true) (r : Rng x) (hne : 1 ≤ x.by.length) {s : ByteArray} {p q : List UInt8} (hs : s.data.toList = p ++ (x.by ++ q)) : okD s (p.length : Int) = true ∧ readB (bt s (p.length : Int)) = x := by
  have e : readB (bt s (p.length : Int)) = x := by rw [bt_app hs]; exact read_by h r q
  have hl : s.size = p.length + (x.by.length + q.length) := by rw [size_list, hs]; simp
  refine ⟨?_, e⟩
  unfold okD inD goD
  rw [e, e_of h, by_of h, decide_eq_true (show 0 ≤ (p.length : Int) by omega), decide_eq_true (show (p.length : Int) < (s.size : Int) by omega)]
  have hp : pfxB (s.extract (p.length : Int).toNat s.size) ⟨⟨x.by⟩⟩ = true := by
    rw [pfx_iff, ext_list, hs, Int.toNat_natCast, List.drop_left']
    · refine ⟨q, ?_⟩
      rw [List.take_of_length_le]
      rw [hl, List.length_append]
      omega
    · rfl
  rw [hp]
  rfl
/-- What is decoded may be, and its bytes stand there. -/
theorem okD_bwd {s : ByteArray} {a : Int} (h : okD s a = true) : 0 ≤ a ∧ a < (s.size : Int) ∧ (readB (bt s a)).may = true ∧ Rng (readB (bt s a)) ∧ ∃ q, s.data.toList = s.data.toList.take a.toNat ++ ((readB (bt s a)).by ++ q) := by
  unfold okD inD goD at h
  simp only [Bool.and_eq_true, decide_eq_true_eq, Bool.not_eq_true'] at h
  obtain ⟨⟨h0, h1⟩, h2, h3⟩ := h
  have hm := may_of h2
  refine ⟨h0, h1, hm, readB_rng _, ?_⟩
  rw [by_of hm, pfx_iff, ext_list] at h3
  obtain ⟨q, hq⟩ := h3
  have hl : (s.data.toList.drop a.toNat).take (s.size - a.toNat) = s.data.toList.drop a.toNat := by
    rw [List.take_of_length_le]
    rw [List.length_drop, size_list]
    exact Nat.le_refl _
  rw [hl] at hq
  refine ⟨q, ?_⟩
  have hq' : (readB (bt s a)).by ++ q = s.data.toList.drop a.toNat := hq
  rw [hq', List.take_append_drop]
end Go.Proofs.YtbaiokfjoglmiaaDoor.Ex
