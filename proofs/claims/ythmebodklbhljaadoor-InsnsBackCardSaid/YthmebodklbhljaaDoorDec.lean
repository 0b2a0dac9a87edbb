/-
  The contract of insns.Decode.
-/
import Derived.Test.YthmebodklbhljaaDoorNumsN
import Derived.Test.YthmebodklbhljaaDoorRegT
import Derived.Test.YthmebodklbhljaaDoorCellsAt
import Derived.Test.YthmebodklbhljaaDoorIns
import Derived.Lib.Hide
import Derived.Deep.DeepCutAuto
namespace Go.Proofs.YthmebodklbhljaaDoor
open Go.RowKit
attribute [local go_sem] u8_wrap u16_wrap u32_wrap ofInt_N ofInt_Nw

def decOp (s : ByteArray) : Int := N (byteAt s 0)
def decDst (s : ByteArray) : Int := N (byteAt s 1) % 16
def decSrc (s : ByteArray) : Int := N (byteAt s 1) / 16
def decOff (s : ByteArray) : Int := IntKind.i16.wrap (N (numS (s.extract 2 4)))
def decImm (s : ByteArray) : Int := wrap32 (N (numS (s.extract 4 8)))
def decV (s : ByteArray) : Value := .agg #[.int .u8 (decOp s), .int .u8 (decDst s), .int .u8 (decSrc s), .int .i16 (decOff s), .int .i32 (decImm s)]
theorem byteN (s : ByteArray) (k : Nat) (h : k < s.size) : ((s[k]'h).toNat : Int) = N (byteAt s k) := by
  have e := congrArg BitVec.toNat (byteAt_get s k h)
  have h1 : (s[k]'h).toNat < 256 := (s[k]'h).toNat_lt
  rw [BitVec.toNat_ofNat, BitVec.toNat_setWidth] at e
  have h2 := (byteAt s k).isLt
  unfold N
  omega
theorem src_eq (x : Int) (h0 : 0 ≤ x) (h1 : x < 256) : N (BitVec.ofInt 8 (x / 16)) = x / 16 := N_ofInt _ (by omega) (by omega)
set_option maxRecDepth 100000 in
set_option maxHeartbeats 2000000 in
theorem decode_no (s : ByteArray) (h : ¬ s.size = 8) (hs : s.size ≤ maxLen) (w : World) :
    Calls Tryd.prog 21 #[.string s] w fun e w' => e = .returned (.tuple #[.agg #[.int .u8 0, .int .u8 0, .int .u8 0, .int .i16 0, .int .i32 0], .int .i64 10]) ∧ Grown w w' := by
  have hb : ((s.size : Int) != 8) = true := by simp; omega
  have HM := Lib.hid hs
  clear h hs
  go_enter Tryd.func21, Tryd.ntmps21
  go_wp2
  go_returns
  exact ⟨rfl, by go_grown⟩
set_option maxRecDepth 100000 in
set_option maxHeartbeats 2000000 in
theorem decode_8 (s : ByteArray) (h : s.size = 8) (w : World) :
    Calls Tryd.prog 21 #[.string s] w fun e w' => e = .returned (.tuple #[decV s, .int .i64 0]) ∧ Grown w w' := by
  have hb : ((s.size : Int) != 8) = false := by simp; omega
  have l0 : 0 < s.size := by omega
  have l1 : 1 < s.size := by omega
  have l4 : 4 ≤ s.size := by omega
  have l8 : 8 ≤ s.size := by omega
  have i1 : (1 : Int) < (s.size : Int) := by omega
  have i4 : (4 : Int) ≤ (s.size : Int) := by omega
  have i8 : (8 : Int) ≤ (s.size : Int) := by omega
  have n8 : s.size = 8 := h
  have HN := Lib.hid n8
  clear n8
  have HM : Hid (∀ i j, (s.extract i j).size ≤ maxLen) := Lib.hid (fun i j => by unfold maxLen; simp; omega)
  clear h
  go_enter Tryd.func21, Tryd.ntmps21
  go_upto_region 3 with fail
  have gW : Grown w (w.alloc (.cells #[.int .u8 0, .int .u8 0, .int .u8 0, .int .i16 0, .int .i32 0] 24)) := by go_grown
  have K : Keeps (w.alloc (.cells #[.int .u8 0, .int .u8 0, .int .u8 0, .int .i16 0, .int .i32 0] 24)) [(w.heap.size, 0, .int .u8 0), (w.heap.size, 1, .int .u8 0), (w.heap.size, 2, .int .u8 0), (w.heap.size, 3, .int .i16 0), (w.heap.size, 4, .int .i32 0)] (w.alloc (.cells #[.int .u8 0, .int .u8 0, .int .u8 0, .int .i16 0, .int .i32 0] 24)) := ⟨⟨⟨by simp [go_sem], by simp⟩, ⟨by simp [go_sem], by simp⟩, ⟨by simp [go_sem], by simp⟩, ⟨by simp [go_sem], by simp⟩, ⟨by simp [go_sem], by simp⟩, trivial⟩, Grown.refl _⟩
  have fW : ∀ o, (w.alloc (.cells #[.int .u8 0, .int .u8 0, .int .u8 0, .int .i16 0, .int .i32 0] 24)).frozen? ⟨w.heap.size, o, none⟩ = false := fun o => ((Grown.alloc (Grown.refl w) _ _).2.1 _).trans (by simp [World.frozen?])
  have hl : w.heap.size ≤ w.heap.size := Nat.le_refl _
  generalize w.alloc (.cells #[.int .u8 0, .int .u8 0, .int .u8 0, .int .i16 0, .int .i32 0] 24) = W1 at *
  generalize hR : w.heap.size = R at *
  refine wp_region_lex_tail (Keeps W1 [(R, 0, .int .u8 0), (R, 1, .int .u8 0), (R, 2, .int .u8 0), (R, 3, .int .i16 0), (R, 4, .int .i32 0)]) 17 (by kernel_rfl) (by kernel_rfl) K.drew (fun hNon => ?_)
  simp only [List.take_succ_cons, List.take_zero, List.drop_succ_cons, List.drop_zero]
  repeat (go_big_quiet_step ((go_at_call 48; exact held_callS _ ((num_any _ _ (HM.out _ _)).mono fun _ _ ⟨he, hw⟩ => ⟨he, hw.symm⟩))))
  refine wpQuiet_nil ?_
  intro w5 K5
  have c0 : w5.cell? ⟨R, 0, none⟩ = some _ := K5.1.get 0 _ rfl
  have c1 : w5.cell? ⟨R, 1, none⟩ = some _ := K5.1.get 1 _ rfl
  have c2 : w5.cell? ⟨R, 2, none⟩ = some _ := K5.1.get 2 _ rfl
  have c3 : w5.cell? ⟨R, 3, none⟩ = some _ := K5.1.get 3 _ rfl
  have c4 : w5.cell? ⟨R, 4, none⟩ = some _ := K5.1.get 4 _ rfl
  have f0 : w5.frozen? ⟨R, 0, none⟩ = false := (K5.2.2.1 _).trans (fW 0)
  have f1 : w5.frozen? ⟨R, 1, none⟩ = false := (K5.2.2.1 _).trans (fW 1)
  have f2 : w5.frozen? ⟨R, 2, none⟩ = false := (K5.2.2.1 _).trans (fW 2)
  have f3 : w5.frozen? ⟨R, 3, none⟩ = false := (K5.2.2.1 _).trans (fW 3)
  have f4 : w5.frozen? ⟨R, 4, none⟩ = false := (K5.2.2.1 _).trans (fW 4)
  have g5 : Grown w w5 := Grown.trans' gW K5.2
  clear hNon K K5 fW gW
  have y0 := byteN s 0 l0
  have y1 := byteN s 1 l1
  have b1 := N_lt (byteAt s 1)
  have a1 := N_nonneg (byteAt s 1)
  have Y : Hid (((s[0]'l0).toNat : Int) = decOp s ∧ ((s[1]'l1).toNat : Int) % 16 = decDst s ∧ N (BitVec.ofInt 8 (((s[1]'l1).toNat : Int) / 16)) = decSrc s) := Lib.hid ⟨y0, by rw [y1]; rfl, by rw [y1, src_eq _ a1 b1]; rfl⟩
  clear y0 y1 b1 a1
  go_wp2
  refine bodyPost_ret (v := .tuple #[.agg #[.int .u8 (decOp s), .int .u8 (decDst s), .int .u8 (decSrc s), .int .i16 (decOff s), .int .i32 (decImm s)], .int .i64 0]) (by simp [results, Tryd.results21, go_sem, c0, c1, c2, c3, c4, decOff, decImm]; exact Y.out) rfl ⟨rfl, (((((g5.setCell (a := ⟨R, 0, none⟩) (by subst hR; exact Nat.le_refl _) _).setCell (a := ⟨R, 1, none⟩) (by subst hR; exact Nat.le_refl _) _).setCell (a := ⟨R, 2, none⟩) (by subst hR; exact Nat.le_refl _) _).setCell (a := ⟨R, 3, none⟩) (by subst hR; exact Nat.le_refl _) _).setCell (a := ⟨R, 4, none⟩) (by subst hR; exact Nat.le_refl _) _)⟩
end Go.Proofs.YthmebodklbhljaaDoor
