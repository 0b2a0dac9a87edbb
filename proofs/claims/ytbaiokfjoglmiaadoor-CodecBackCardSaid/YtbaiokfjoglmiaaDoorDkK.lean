/-
  Layer 11: what is decoded is encoded again; what is cut off is not decoded: plain mathematics.
-/
import Derived.Test.YtbaiokfjoglmiaaDoorDkI
namespace Go.Proofs.YtbaiokfjoglmiaaDoor.Ex
open Go Go.RowKit
set_option linter.unusedVariables false
theorem dX_ok {s : ByteArray} {a : Int} (h : okD s a = true) : dX s a = readB (bt s a) := by unfold dX; rw [h]; rfl
theorem dE_ok {s : ByteArray} {a : Int} (h : okD s a = true) : dE s a = 0 := by unfold dE; rw [h]; rfl
theorem dN_ok {s : ByteArray} {a : Int} {x : XX} (h : okD s a = true) (hx : readB (bt s a) = x) (hm : x.may = true) : dN s a = (x.by.length : Int) := by
  unfold dN
  rw [h, hx, by_of hm]
  rfl
theorem dX_no {s : ByteArray} {a : Int} (h : okD s a = false) : dX s a = XX.z := by unfold dX; rw [h]; rfl
theorem dE_no {s : ByteArray} {a : Int} (h : okD s a = false) : dE s a = 110 := by unfold dE; rw [h]; rfl
theorem dN_no {s : ByteArray} {a : Int} (h : okD s a = false) : dN s a = 0 := by unfold dN; rw [h]; rfl
/-- What is decoded at a place of a text: it may be, and it is decoded there, with what stands behind it gone; its bytes stand there. -/
structure OneD (s : ByteArray) (K : Int) (x : XX) : Prop where
  may : x.may = true
  rng : Rng x
  lo : 0 ≤ K
  hi : K < (s.size : Int)
  X : dX s K = x
  N : dN s K = (x.by.length : Int)
  E : dE s K = 0
  l1 : 1 ≤ x.by.length
  l10 : x.by.length ≤ 10
  fit : K + (x.by.length : Int) ≤ (s.size : Int)
  X2 : dX (s.extract 0 (K + (x.by.length : Int)).toNat) K = x
  N2 : dN (s.extract 0 (K + (x.by.length : Int)).toNat) K = (x.by.length : Int)
  E2 : dE (s.extract 0 (K + (x.by.length : Int)).toNat) K = 0
  bytes : (s.extract K.toNat (K + (x.by.length : Int)).toNat).data.toList = x.by
theorem one_ok {s : ByteArray} {K : Int} (h : okD s K = true) : OneD s K (readB (bt s K)) := by
  obtain ⟨h0, h1, hm, hr, q, hq⟩ := okD_bwd h
  generalize hx : readB (bt s K) = x at hm hr hq ⊢
  have hlen := by_len hm
  have hsz := size_list s
  have hpl : (s.data.toList.take K.toNat).length = K.toNat := by
    rw [List.length_take]
    omega
  generalize s.data.toList.take K.toNat = p at hq hpl
  have hK : K = (p.length : Int) := by omega
  have htot : s.size = p.length + (x.by.length + q.length) := by rw [hsz, hq]; simp
  have hfit : K + (x.by.length : Int) ≤ (s.size : Int) := by omega
  have e2 : (s.extract 0 (K + (x.by.length : Int)).toNat).data.toList = p ++ (x.by ++ []) := by
    rw [ext_list, hq, List.drop_zero, Nat.sub_zero, List.append_nil, ← List.append_assoc, List.take_left']
    rw [List.length_append]
    omega
  have e3 : (s.extract K.toNat (K + (x.by.length : Int)).toNat).data.toList = x.by := by
    rw [ext_list, hq, List.drop_left' (by omega), List.take_left']
    omega
  obtain ⟨g1, g2⟩ := okD_fwd hm hr hlen.1 e2
  rw [← hK] at g1 g2
  exact ⟨hm, hr, h0, h1, (dX_ok h).trans hx, dN_ok h hx hm, dE_ok h, hlen.1, hlen.2, hfit, (dX_ok g1).trans g2, dN_ok g1 g2 hm, dE_ok g1, e3⟩
/-- With its last byte gone an instruction is not decoded. -/
theorem cut_no {x : XX} (hm : x.may = true) (hr : Rng x) {s : ByteArray} {p : List UInt8} (hs : s.data.toList = p ++ x.by.take (x.by.length - 1)) : okD s (p.length : Int) = false := by
  rcases Bool.eq_false_or_eq_true (okD s (p.length : Int)) with h | h
  · exfalso
    obtain ⟨h0, h1, hm', hr', q, hq⟩ := okD_bwd h
    generalize readB (bt s (p.length : Int)) = y at hm' hr' hq
    have hlen := by_len hm
    rw [hs, Int.toNat_natCast, List.take_left' rfl] at hq
    have e := List.append_cancel_left hq
    have e1 : x.by ++ [] = y.by ++ (q ++ x.by.drop (x.by.length - 1)) := by
      rw [List.append_nil, ← List.append_assoc, ← e, List.take_append_drop]
    have r1 := read_by hm hr []
    rw [e1, read_by hm' hr'] at r1
    have l1 := congrArg List.length e
    rw [List.length_take, List.length_append, r1] at l1
    omega
  · exact h
/-- An instruction's bytes among others. -/
theorem back_ok {x : XX} (hm : x.may = true) (hr : Rng x) {s : ByteArray} {p q : List UInt8} (hs : s.data.toList = p ++ (x.by ++ q)) : dX s (p.length : Int) = x ∧ dN s (p.length : Int) = (x.by.length : Int) ∧ dE s (p.length : Int) = 0 := by
  obtain ⟨g1, g2⟩ := okD_fwd hm hr (by_len hm).1 hs
  exact ⟨(dX_ok g1).trans g2, dN_ok g1 g2 hm, dE_ok g1⟩
end Go.Proofs.YtbaiokfjoglmiaaDoor.Ex
