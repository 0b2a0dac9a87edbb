/-
  The contract of the document's answer for an instruction of bytes.
-/
import Derived.Test.YthmebodklbhljaaDoorDec
import Derived.Test.YthmebodklbhljaaDoorNumsRefN
namespace Go.Proofs.YthmebodklbhljaaDoor
open Go.RowKit
attribute [local go_sem] u8_wrap u16_wrap u32_wrap ofInt_N ofInt_Nw

theorem sign_lowk (v : BitVec 64) (k : Nat) (hk : k ≤ 64) : ((v <<< (64 - k)).sshiftRight (64 - k)).setWidth k = v.setWidth k := by
  apply BitVec.eq_of_getLsbD_eq
  intro i hi
  rw [BitVec.getLsbD_setWidth, BitVec.getLsbD_setWidth, BitVec.getLsbD_sshiftRight, BitVec.getLsbD_shiftLeft]
  have h1 : ¬ 64 ≤ i := by omega
  have h2 : 64 - k + i < 64 := by omega
  simp [h1, h2, hi]
theorem mod16 (a b : BitVec 64) (h : a.setWidth 16 = b.setWidth 16) : IntKind.i16.wrap (N a) = IntKind.i16.wrap (N b) := by
  have e := congrArg BitVec.toNat h
  rw [BitVec.toNat_setWidth, BitVec.toNat_setWidth] at e
  unfold N
  simp [IntKind.wrap, IntKind.bits, IntKind.signed]
  omega
theorem mod32 (a b : BitVec 64) (h : a.setWidth 32 = b.setWidth 32) : wrap32 (N a) = wrap32 (N b) := by
  have e := congrArg BitVec.toNat h
  rw [BitVec.toNat_setWidth, BitVec.toNat_setWidth] at e
  unfold N wrap32
  omega
theorem sign16 (v : BitVec 64) : IntKind.i16.wrap (N (signS v 16)) = IntKind.i16.wrap (N v) := mod16 _ _ (sign_lowk v 16 (by omega))
theorem sign32 (v : BitVec 64) : wrap32 (N (signS v 32)) = wrap32 (N v) := mod32 _ _ (sign_lowk v 32 (by omega))
set_option maxRecDepth 100000 in
set_option maxHeartbeats 2000000 in
theorem refdecode_no (s : ByteArray) (h : ¬ s.size = 8) (hs : s.size ≤ maxLen) (w : World) :
    Calls Tryd.prog 22 #[.string s] w fun e w' => e = .returned (.tuple #[.agg #[.int .u8 0, .int .u8 0, .int .u8 0, .int .i16 0, .int .i32 0], .int .i64 10]) ∧ Grown w w' := by
  have hb : ((s.size : Int) != 8) = true := by simp; omega
  have HM := Lib.hid hs
  clear h hs
  go_enter Tryd.func22, Tryd.ntmps22
  go_wp2
  go_returns
  exact ⟨rfl, by go_grown⟩
set_option maxRecDepth 100000 in
set_option maxHeartbeats 2000000 in
theorem refdecode_8 (s : ByteArray) (h : s.size = 8) (w : World) :
    Calls Tryd.prog 22 #[.string s] w fun e w' => e = .returned (.tuple #[decV s, .int .i64 0]) ∧ Grown w w' := by
  have hb : ((s.size : Int) != 8) = false := by simp; omega
  have l0 : 0 < s.size := by omega
  have l1 : 1 < s.size := by omega
  have l4 : 4 ≤ s.size := by omega
  have l8 : 8 ≤ s.size := by omega
  have i1 : (1 : Int) < (s.size : Int) := by omega
  have i4 : (4 : Int) ≤ (s.size : Int) := by omega
  have i8 : (8 : Int) ≤ (s.size : Int) := by omega
  have n8 : s.size = 8 := h
  have HN := Lib.hid n8
  clear n8
  have HM : Hid (∀ i j, (s.extract i j).size ≤ maxLen) := Lib.hid (fun i j => by unfold maxLen; simp; omega)
  clear h
  go_enter Tryd.func22, Tryd.ntmps22
  go_upto_region 3 with fail
  have gW : Grown w (w.alloc (.cells #[.int .u8 0, .int .u8 0, .int .u8 0, .int .i16 0, .int .i32 0] 24)) := by go_grown
  have K : Keeps (w.alloc (.cells #[.int .u8 0, .int .u8 0, .int .u8 0, .int .i16 0, .int .i32 0] 24)) [(w.heap.size, 0, .int .u8 0), (w.heap.size, 1, .int .u8 0), (w.heap.size, 2, .int .u8 0), (w.heap.size, 3, .int .i16 0), (w.heap.size, 4, .int .i32 0)] (w.alloc (.cells #[.int .u8 0, .int .u8 0, .int .u8 0, .int .i16 0, .int .i32 0] 24)) := ⟨⟨⟨by simp [go_sem], by simp⟩, ⟨by simp [go_sem], by simp⟩, ⟨by simp [go_sem], by simp⟩, ⟨by simp [go_sem], by simp⟩, ⟨by simp [go_sem], by simp⟩, trivial⟩, Grown.refl _⟩
  have fW : ∀ o, (w.alloc (.cells #[.int .u8 0, .int .u8 0, .int .u8 0, .int .i16 0, .int .i32 0] 24)).frozen? ⟨w.heap.size, o, none⟩ = false := fun o => ((Grown.alloc (Grown.refl w) _ _).2.1 _).trans (by simp [World.frozen?])
  have hl : w.heap.size ≤ w.heap.size := Nat.le_refl _
  generalize w.alloc (.cells #[.int .u8 0, .int .u8 0, .int .u8 0, .int .i16 0, .int .i32 0] 24) = W1 at *
  generalize hR : w.heap.size = R at *
  refine wp_region_lex_tail (Keeps W1 [(R, 0, .int .u8 0), (R, 1, .int .u8 0), (R, 2, .int .u8 0), (R, 3, .int .i16 0), (R, 4, .int .i32 0)]) 8 (by kernel_rfl) (by kernel_rfl) K.drew (fun hNon => ?_)
  simp only [List.take_succ_cons, List.take_zero, List.drop_succ_cons, List.drop_zero]
  repeat (go_big_quiet_step ((first | (go_at_call 50; exact held_callS _ ((refNum_any _ _ (HM.out _ _)).mono fun _ _ ⟨he, hw⟩ => ⟨he, hw.symm⟩)) | (go_at_call 49; exact held_callS _ ((refSign_N _ _ _ (by decide) (by decide)).mono fun _ _ ⟨he, hw⟩ => ⟨he, hw.symm⟩)))))
  refine wpQuiet_nil ?_
  intro w4 K4
  clear hNon K
  go_upto_region 4 with fail
  refine wp_region_lex_tail (Keeps W1 [(R, 0, .int .u8 0), (R, 1, .int .u8 0), (R, 2, .int .u8 0), (R, 3, .int .i16 0), (R, 4, .int .i32 0)]) 13 (by kernel_rfl) (by kernel_rfl) K4.drew (fun hNon => ?_)
  simp only [List.take_succ_cons, List.take_zero, List.drop_succ_cons, List.drop_zero]
  repeat (go_big_quiet_step (fail))
  refine wpQuiet_nil ?_
  intro w5 K5
  have c0 : w5.cell? ⟨R, 0, none⟩ = some _ := K5.1.get 0 _ rfl
  have c1 : w5.cell? ⟨R, 1, none⟩ = some _ := K5.1.get 1 _ rfl
  have c2 : w5.cell? ⟨R, 2, none⟩ = some _ := K5.1.get 2 _ rfl
  have c3 : w5.cell? ⟨R, 3, none⟩ = some _ := K5.1.get 3 _ rfl
  have c4 : w5.cell? ⟨R, 4, none⟩ = some _ := K5.1.get 4 _ rfl
  have f0 : w5.frozen? ⟨R, 0, none⟩ = false := (K5.2.2.1 _).trans (fW 0)
  have f1 : w5.frozen? ⟨R, 1, none⟩ = false := (K5.2.2.1 _).trans (fW 1)
  have f2 : w5.frozen? ⟨R, 2, none⟩ = false := (K5.2.2.1 _).trans (fW 2)
  have f3 : w5.frozen? ⟨R, 3, none⟩ = false := (K5.2.2.1 _).trans (fW 3)
  have f4 : w5.frozen? ⟨R, 4, none⟩ = false := (K5.2.2.1 _).trans (fW 4)
  have g5 : Grown w w5 := Grown.trans' gW K5.2
  clear hNon K4 K5 fW gW
  have y0 := byteN s 0 l0
  have y1 := byteN s 1 l1
  have b1 := N_lt (byteAt s 1)
  have a1 := N_nonneg (byteAt s 1)
  have Y : Hid (((s[0]'l0).toNat : Int) = decOp s ∧ ((s[1]'l1).toNat : Int) % 16 = decDst s ∧ N (BitVec.ofInt 8 (((s[1]'l1).toNat : Int) / 16)) = decSrc s) := Lib.hid ⟨y0, by rw [y1]; rfl, by rw [y1, src_eq _ a1 b1]; rfl⟩
  clear y0 y1 b1 a1
  go_wp2
  refine bodyPost_ret (v := .tuple #[.agg #[.int .u8 (decOp s), .int .u8 (decDst s), .int .u8 (decSrc s), .int .i16 (decOff s), .int .i32 (decImm s)], .int .i64 0]) (by simp [results, Tryd.results22, go_sem, c0, c1, c2, c3, c4, decOff, decImm, sign16, sign32]; exact Y.out) rfl ⟨rfl, (((((g5.setCell (a := ⟨R, 0, none⟩) (by subst hR; exact Nat.le_refl _) _).setCell (a := ⟨R, 1, none⟩) (by subst hR; exact Nat.le_refl _) _).setCell (a := ⟨R, 2, none⟩) (by subst hR; exact Nat.le_refl _) _).setCell (a := ⟨R, 3, none⟩) (by subst hR; exact Nat.le_refl _) _).setCell (a := ⟨R, 4, none⟩) (by subst hR; exact Nat.le_refl _) _)⟩
end Go.Proofs.YthmebodklbhljaaDoor
