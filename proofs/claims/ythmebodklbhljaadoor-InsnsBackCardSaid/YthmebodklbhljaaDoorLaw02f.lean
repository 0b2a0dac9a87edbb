/-
  The walk of the law InsnsBack.
-/
import Derived.Test.YthmebodklbhljaaDoorLaw02e
import Derived.Test.YthmebodklbhljaaDoorBackMath
namespace Go.Proofs.YthmebodklbhljaaDoor
open Go.RowKit
attribute [local go_sem] u8_wrap u8_and ofInt_N ofInt_Nw BitVec.ofInt_natCast BitVec.ofInt_add

theorem eight_bytes (x : World) (b : Nat) (c0 c1 c2 c3 c4 c5 c6 c7 : B8) (h0 : x.cell? ⟨b, 0, none⟩ = some (.int .u8 (N c0))) (h1 : x.cell? ⟨b, 1, none⟩ = some (.int .u8 (N c1))) (h2 : x.cell? ⟨b, 2, none⟩ = some (.int .u8 (N c2))) (h3 : x.cell? ⟨b, 3, none⟩ = some (.int .u8 (N c3))) (h4 : x.cell? ⟨b, 4, none⟩ = some (.int .u8 (N c4))) (h5 : x.cell? ⟨b, 5, none⟩ = some (.int .u8 (N c5))) (h6 : x.cell? ⟨b, 6, none⟩ = some (.int .u8 (N c6))) (h7 : x.cell? ⟨b, 7, none⟩ = some (.int .u8 (N c7))) : Lib.Bytes x b 0 (eight (UInt8.ofBitVec c0) (UInt8.ofBitVec c1) (UInt8.ofBitVec c2) (UInt8.ofBitVec c3) (UInt8.ofBitVec c4) (UInt8.ofBitVec c5) (UInt8.ofBitVec c6) (UInt8.ofBitVec c7)) := by
  intro i hi
  have hs : (eight (UInt8.ofBitVec c0) (UInt8.ofBitVec c1) (UInt8.ofBitVec c2) (UInt8.ofBitVec c3) (UInt8.ofBitVec c4) (UInt8.ofBitVec c5) (UInt8.ofBitVec c6) (UInt8.ofBitVec c7)).size = 8 := rfl
  rcases (by omega : i = 0 ∨ i = 1 ∨ i = 2 ∨ i = 3 ∨ i = 4 ∨ i = 5 ∨ i = 6 ∨ i = 7) with rfl | rfl | rfl | rfl | rfl | rfl | rfl | rfl
  · exact h0
  · exact h1
  · exact h2
  · exact h3
  · exact h4
  · exact h5
  · exact h6
  · exact h7
theorem conv8 (x : World) (b : Nat) (c0 c1 c2 c3 c4 c5 c6 c7 : B8) (h0 : x.cell? ⟨b, 0, none⟩ = some (.int .u8 (N c0))) (h1 : x.cell? ⟨b, 1, none⟩ = some (.int .u8 (N c1))) (h2 : x.cell? ⟨b, 2, none⟩ = some (.int .u8 (N c2))) (h3 : x.cell? ⟨b, 3, none⟩ = some (.int .u8 (N c3))) (h4 : x.cell? ⟨b, 4, none⟩ = some (.int .u8 (N c4))) (h5 : x.cell? ⟨b, 5, none⟩ = some (.int .u8 (N c5))) (h6 : x.cell? ⟨b, 6, none⟩ = some (.int .u8 (N c6))) (h7 : x.cell? ⟨b, 7, none⟩ = some (.int .u8 (N c7))) :
    (convert 35 9 (.slice (some ⟨b, 0, none⟩) 8 8)).run Tryd.prog x = .ok (.string (eight (UInt8.ofBitVec c0) (UInt8.ofBitVec c1) (UInt8.ofBitVec c2) (UInt8.ofBitVec c3) (UInt8.ofBitVec c4) (UInt8.ofBitVec c5) (UInt8.ofBitVec c6) (UInt8.ofBitVec c7))) x :=
  conv_bytes x b _ 8 8 rfl (eight_bytes x b c0 c1 c2 c3 c4 c5 c6 c7 h0 h1 h2 h3 h4 h5 h6 h7)
theorem check_small (op : B8) (d s off imm : Int) (h : 16 ≤ d ∨ 16 ≤ s) : (checkS op d s off imm true != 0) = true := by
  unfold checkS
  cases knownS op true
  · rfl
  · have : badReg op d s = true := by unfold badReg; rcases h with h | h <;> simp <;> omega
    rw [this]; rfl

set_option maxRecDepth 100000 in
set_option maxHeartbeats 4000000 in
/-- Given what is decoded (d1, s1 the registers' lowest bits), and how the last test comes out. -/
theorem back_walk (op d s d1 s1 : B8) (o : BitVec 16) (m : BitVec 32) (op2 d2 s2 : B8) (o2 : BitVec 16) (m2 : BitVec 32) (c0 c1 c2 c3 c4 c5 c6 c7 : B8) (es t : ByteArray) (cd cs' : Bool)
    (ht : eight (UInt8.ofBitVec c0) (UInt8.ofBitVec c1) (UInt8.ofBitVec c2) (UInt8.ofBitVec c3) (UInt8.ofBitVec c4) (UInt8.ofBitVec c5) (UInt8.ofBitVec c6) (UInt8.ofBitVec c7) = t) (he : encS op d s o m = es) (hz : ((es.size : Int) != 8) = false)
    (hd1 : ∀ w, Calls Tryd.prog 21 #[.string es] w fun e w' => e = .returned (.tuple #[.agg #[.int .u8 (N op), .int .u8 (N d1), .int .u8 (N s1), .int .i16 (Z o), .int .i32 (Z m)], .int .i64 0]) ∧ Grown w w')
    (hd2 : ∀ w, Calls Tryd.prog 21 #[.string t] w fun e w' => e = .returned (.tuple #[.agg #[.int .u8 (N op2), .int .u8 (N d2), .int .u8 (N s2), .int .i16 (Z o2), .int .i32 (Z m2)], .int .i64 0]) ∧ Grown w w')
    (he2 : encS op2 d2 s2 o2 m2 = t) (q1 : decide (N d < 16) = cd) (q2 : decide (N s < 16) = cs')
    (fact : (cd = true ∧ cs' = true ∧ d1 = d ∧ s1 = s) ∨ (cd = true ∧ cs' = false ∧ d1 = d ∧ (N s1 == N s) = false ∧ (checkS op (N d) (N s) (Z o) (Z m) true != 0) = true) ∨ (cd = false ∧ (N d1 == N d) = false ∧ (checkS op (N d) (N s) (Z o) (Z m) true != 0) = true)) (w : World) (hT : TabAt w) :
    Calls Tryd.prog 5 #[.agg #[.int .u8 (N op), .int .u8 (N d), .int .u8 (N s), .int .i16 (Z o), .int .i32 (Z m)], .agg #[.int .u8 (N c0), .int .u8 (N c1), .int .u8 (N c2), .int .u8 (N c3), .int .u8 (N c4), .int .u8 (N c5), .int .u8 (N c6), .int .u8 (N c7)]] w fun e w' => e = .returned (.bool true) ∧ Grown w w' := by
  have HT := Lib.hid hT
  have HE1 := Lib.hid (fun w => he ▸ encode_any op d s o m w)
  have HE2 := Lib.hid (fun w => he2 ▸ encode_any op2 d2 s2 o2 m2 w)
  have HD1 := Lib.hid hd1
  have HD2 := Lib.hid hd2
  have HC := Lib.hid (fun w hT => check_any op (N d) (N s) (Z o) (Z m) true w hT)
  have HX := Lib.hid ht
  clear hT he he2 hd1 hd2 ht
  go_enter Tryd.func5, Tryd.ntmps5
  go_upto_region 1 with fail
  have K : Keeps w [(w.heap.size, 0, .int .u8 (N op)), (w.heap.size, 1, .int .u8 (N d)), (w.heap.size, 2, .int .u8 (N s)), (w.heap.size, 3, .int .i16 (Z o)), (w.heap.size, 4, .int .i32 (Z m)), (w.heap.size + 1, 0, .int .u8 (N c0)), (w.heap.size + 1, 1, .int .u8 (N c1)), (w.heap.size + 1, 2, .int .u8 (N c2)), (w.heap.size + 1, 3, .int .u8 (N c3)), (w.heap.size + 1, 4, .int .u8 (N c4)), (w.heap.size + 1, 5, .int .u8 (N c5)), (w.heap.size + 1, 6, .int .u8 (N c6)), (w.heap.size + 1, 7, .int .u8 (N c7))] ((w.alloc (.cells #[.int .u8 (N op), .int .u8 (N d), .int .u8 (N s), .int .i16 (Z o), .int .i32 (Z m)] 24)).alloc (.cells #[.int .u8 (N c0), .int .u8 (N c1), .int .u8 (N c2), .int .u8 (N c3), .int .u8 (N c4), .int .u8 (N c5), .int .u8 (N c6), .int .u8 (N c7)] 34)) := ⟨⟨⟨by simp [go_sem], by simp <;> omega⟩, ⟨by simp [go_sem], by simp <;> omega⟩, ⟨by simp [go_sem], by simp <;> omega⟩, ⟨by simp [go_sem], by simp <;> omega⟩, ⟨by simp [go_sem], by simp <;> omega⟩, ⟨by simp [go_sem], by simp <;> omega⟩, ⟨by simp [go_sem], by simp <;> omega⟩, ⟨by simp [go_sem], by simp <;> omega⟩, ⟨by simp [go_sem], by simp <;> omega⟩, ⟨by simp [go_sem], by simp <;> omega⟩, ⟨by simp [go_sem], by simp <;> omega⟩, ⟨by simp [go_sem], by simp <;> omega⟩, ⟨by simp [go_sem], by simp <;> omega⟩, trivial⟩, by go_grown⟩
  generalize (w.alloc (.cells #[.int .u8 (N op), .int .u8 (N d), .int .u8 (N s), .int .i16 (Z o), .int .i32 (Z m)] 24)).alloc (.cells #[.int .u8 (N c0), .int .u8 (N c1), .int .u8 (N c2), .int .u8 (N c3), .int .u8 (N c4), .int .u8 (N c5), .int .u8 (N c6), .int .u8 (N c7)] 34) = W1 at *
  have a0 : W1.cell? _ = some _ := K.1.get 0 _ rfl
  have a1 : W1.cell? _ = some _ := K.1.get 1 _ rfl
  have a2 : W1.cell? _ = some _ := K.1.get 2 _ rfl
  have a3 : W1.cell? _ = some _ := K.1.get 3 _ rfl
  have a4 : W1.cell? _ = some _ := K.1.get 4 _ rfl
  go_upto_region 3 with (first | (go_at_call 23; ((with_reducible refine (HE1.out _).mono ?_); rintro e w1 ⟨rfl, g1⟩)) | (go_at_call 21; ((with_reducible refine (HD1.out _).mono ?_); rintro e w2 ⟨rfl, g2⟩)))
  clear a0 a1 a2 a3 a4
  replace K := keeps_n5 (T := 24) (.int .u8 (N op)) (.int .u8 (N d1)) (.int .u8 (N s1)) (.int .i16 (Z o)) (.int .i32 (Z m)) ((K.grown g1).grown g2)
  generalize w2.alloc (.cells #[.int .u8 (N op), .int .u8 (N d1), .int .u8 (N s1), .int .i16 (Z o), .int .i32 (Z m)] 24) = W2 at *
  generalize w2.heap.size = B1 at *
  clear g1 g2
  have hv : (convert 35 9 (.slice (some ⟨w.heap.size + 1, 0, none⟩) 8 8)).run Tryd.prog W2 = .ok (.string t) W2 := HX.out ▸ conv8 W2 _ c0 c1 c2 c3 c4 c5 c6 c7 (K.1.get 10 _ rfl) (K.1.get 11 _ rfl) (K.1.get 12 _ rfl) (K.1.get 13 _ rfl) (K.1.get 14 _ rfl) (K.1.get 15 _ rfl) (K.1.get 16 _ rfl) (K.1.get 17 _ rfl)
  go_upto_region 4 with (go_at_call 21; ((with_reducible refine (HD2.out _).mono ?_); rintro e w3 ⟨rfl, g3⟩))
  clear hv
  replace K := keeps_n5 (T := 24) (.int .u8 (N op2)) (.int .u8 (N d2)) (.int .u8 (N s2)) (.int .i16 (Z o2)) (.int .i32 (Z m2)) (K.grown g3)
  generalize w3.alloc (.cells #[.int .u8 (N op2), .int .u8 (N d2), .int .u8 (N s2), .int .i16 (Z o2), .int .i32 (Z m2)] 24) = W3 at *
  generalize w3.heap.size = B2 at *
  generalize w.heap.size + 1 = B at *
  generalize w.heap.size = A at *
  clear g3
  have hcv : ∀ z : Held (Keeps w [(B2, 0, .int .u8 (N op2)), (B2, 1, .int .u8 (N d2)), (B2, 2, .int .u8 (N s2)), (B2, 3, .int .i16 (Z o2)), (B2, 4, .int .i32 (Z m2)), (B1, 0, .int .u8 (N op)), (B1, 1, .int .u8 (N d1)), (B1, 2, .int .u8 (N s1)), (B1, 3, .int .i16 (Z o)), (B1, 4, .int .i32 (Z m)), (A, 0, .int .u8 (N op)), (A, 1, .int .u8 (N d)), (A, 2, .int .u8 (N s)), (A, 3, .int .i16 (Z o)), (A, 4, .int .i32 (Z m)), (B, 0, .int .u8 (N c0)), (B, 1, .int .u8 (N c1)), (B, 2, .int .u8 (N c2)), (B, 3, .int .u8 (N c3)), (B, 4, .int .u8 (N c4)), (B, 5, .int .u8 (N c5)), (B, 6, .int .u8 (N c6)), (B, 7, .int .u8 (N c7))]), (convert 35 9 (.slice (some ⟨B, 0, none⟩) 8 8)).run Tryd.prog z.w = .ok (.string t) z.w := fun z => HX.out ▸ conv8 z.w _ c0 c1 c2 c3 c4 c5 c6 c7 (z.h.1.get 15 _ rfl) (z.h.1.get 16 _ rfl) (z.h.1.get 17 _ rfl) (z.h.1.get 18 _ rfl) (z.h.1.get 19 _ rfl) (z.h.1.get 20 _ rfl) (z.h.1.get 21 _ rfl) (z.h.1.get 22 _ rfl)
  have k0 : ∀ z : Held (Keeps w [(B2, 0, .int .u8 (N op2)), (B2, 1, .int .u8 (N d2)), (B2, 2, .int .u8 (N s2)), (B2, 3, .int .i16 (Z o2)), (B2, 4, .int .i32 (Z m2)), (B1, 0, .int .u8 (N op)), (B1, 1, .int .u8 (N d1)), (B1, 2, .int .u8 (N s1)), (B1, 3, .int .i16 (Z o)), (B1, 4, .int .i32 (Z m)), (A, 0, .int .u8 (N op)), (A, 1, .int .u8 (N d)), (A, 2, .int .u8 (N s)), (A, 3, .int .i16 (Z o)), (A, 4, .int .i32 (Z m)), (B, 0, .int .u8 (N c0)), (B, 1, .int .u8 (N c1)), (B, 2, .int .u8 (N c2)), (B, 3, .int .u8 (N c3)), (B, 4, .int .u8 (N c4)), (B, 5, .int .u8 (N c5)), (B, 6, .int .u8 (N c6)), (B, 7, .int .u8 (N c7))]), z.w.cell? ⟨B2, 0, none⟩ = some _ := fun z => z.h.1.get 0 _ rfl
  have k1 : ∀ z : Held (Keeps w [(B2, 0, .int .u8 (N op2)), (B2, 1, .int .u8 (N d2)), (B2, 2, .int .u8 (N s2)), (B2, 3, .int .i16 (Z o2)), (B2, 4, .int .i32 (Z m2)), (B1, 0, .int .u8 (N op)), (B1, 1, .int .u8 (N d1)), (B1, 2, .int .u8 (N s1)), (B1, 3, .int .i16 (Z o)), (B1, 4, .int .i32 (Z m)), (A, 0, .int .u8 (N op)), (A, 1, .int .u8 (N d)), (A, 2, .int .u8 (N s)), (A, 3, .int .i16 (Z o)), (A, 4, .int .i32 (Z m)), (B, 0, .int .u8 (N c0)), (B, 1, .int .u8 (N c1)), (B, 2, .int .u8 (N c2)), (B, 3, .int .u8 (N c3)), (B, 4, .int .u8 (N c4)), (B, 5, .int .u8 (N c5)), (B, 6, .int .u8 (N c6)), (B, 7, .int .u8 (N c7))]), z.w.cell? ⟨B2, 1, none⟩ = some _ := fun z => z.h.1.get 1 _ rfl
  have k2 : ∀ z : Held (Keeps w [(B2, 0, .int .u8 (N op2)), (B2, 1, .int .u8 (N d2)), (B2, 2, .int .u8 (N s2)), (B2, 3, .int .i16 (Z o2)), (B2, 4, .int .i32 (Z m2)), (B1, 0, .int .u8 (N op)), (B1, 1, .int .u8 (N d1)), (B1, 2, .int .u8 (N s1)), (B1, 3, .int .i16 (Z o)), (B1, 4, .int .i32 (Z m)), (A, 0, .int .u8 (N op)), (A, 1, .int .u8 (N d)), (A, 2, .int .u8 (N s)), (A, 3, .int .i16 (Z o)), (A, 4, .int .i32 (Z m)), (B, 0, .int .u8 (N c0)), (B, 1, .int .u8 (N c1)), (B, 2, .int .u8 (N c2)), (B, 3, .int .u8 (N c3)), (B, 4, .int .u8 (N c4)), (B, 5, .int .u8 (N c5)), (B, 6, .int .u8 (N c6)), (B, 7, .int .u8 (N c7))]), z.w.cell? ⟨B2, 2, none⟩ = some _ := fun z => z.h.1.get 2 _ rfl
  have k3 : ∀ z : Held (Keeps w [(B2, 0, .int .u8 (N op2)), (B2, 1, .int .u8 (N d2)), (B2, 2, .int .u8 (N s2)), (B2, 3, .int .i16 (Z o2)), (B2, 4, .int .i32 (Z m2)), (B1, 0, .int .u8 (N op)), (B1, 1, .int .u8 (N d1)), (B1, 2, .int .u8 (N s1)), (B1, 3, .int .i16 (Z o)), (B1, 4, .int .i32 (Z m)), (A, 0, .int .u8 (N op)), (A, 1, .int .u8 (N d)), (A, 2, .int .u8 (N s)), (A, 3, .int .i16 (Z o)), (A, 4, .int .i32 (Z m)), (B, 0, .int .u8 (N c0)), (B, 1, .int .u8 (N c1)), (B, 2, .int .u8 (N c2)), (B, 3, .int .u8 (N c3)), (B, 4, .int .u8 (N c4)), (B, 5, .int .u8 (N c5)), (B, 6, .int .u8 (N c6)), (B, 7, .int .u8 (N c7))]), z.w.cell? ⟨B2, 3, none⟩ = some _ := fun z => z.h.1.get 3 _ rfl
  have k4 : ∀ z : Held (Keeps w [(B2, 0, .int .u8 (N op2)), (B2, 1, .int .u8 (N d2)), (B2, 2, .int .u8 (N s2)), (B2, 3, .int .i16 (Z o2)), (B2, 4, .int .i32 (Z m2)), (B1, 0, .int .u8 (N op)), (B1, 1, .int .u8 (N d1)), (B1, 2, .int .u8 (N s1)), (B1, 3, .int .i16 (Z o)), (B1, 4, .int .i32 (Z m)), (A, 0, .int .u8 (N op)), (A, 1, .int .u8 (N d)), (A, 2, .int .u8 (N s)), (A, 3, .int .i16 (Z o)), (A, 4, .int .i32 (Z m)), (B, 0, .int .u8 (N c0)), (B, 1, .int .u8 (N c1)), (B, 2, .int .u8 (N c2)), (B, 3, .int .u8 (N c3)), (B, 4, .int .u8 (N c4)), (B, 5, .int .u8 (N c5)), (B, 6, .int .u8 (N c6)), (B, 7, .int .u8 (N c7))]), z.w.cell? ⟨B2, 4, none⟩ = some _ := fun z => z.h.1.get 4 _ rfl
  refine wp_region_lex (Keeps w [(B2, 0, .int .u8 (N op2)), (B2, 1, .int .u8 (N d2)), (B2, 2, .int .u8 (N s2)), (B2, 3, .int .i16 (Z o2)), (B2, 4, .int .i32 (Z m2)), (B1, 0, .int .u8 (N op)), (B1, 1, .int .u8 (N d1)), (B1, 2, .int .u8 (N s1)), (B1, 3, .int .i16 (Z o)), (B1, 4, .int .i32 (Z m)), (A, 0, .int .u8 (N op)), (A, 1, .int .u8 (N d)), (A, 2, .int .u8 (N s)), (A, 3, .int .i16 (Z o)), (A, 4, .int .i32 (Z m)), (B, 0, .int .u8 (N c0)), (B, 1, .int .u8 (N c1)), (B, 2, .int .u8 (N c2)), (B, 3, .int .u8 (N c3)), (B, 4, .int .u8 (N c4)), (B, 5, .int .u8 (N c5)), (B, 6, .int .u8 (N c6)), (B, 7, .int .u8 (N c7))]) (by kernel_rfl) (by kernel_rfl) K.drew (fun hNon => ?_)
  repeat (go_big_quiet_step ((go_at_call 23; exact held_callK _ (HE2.out _))))
  refine wpQuiet_nil ?_
  clear K hcv k0 k1 k2 k3 k4
  intro w5 K
  clear hNon
  have j0 : w5.cell? ⟨B1, 0, none⟩ = some _ := K.1.get 5 _ rfl
  have j1 : w5.cell? ⟨B1, 1, none⟩ = some _ := K.1.get 6 _ rfl
  have j2 : w5.cell? ⟨B1, 2, none⟩ = some _ := K.1.get 7 _ rfl
  have j3 : w5.cell? ⟨B1, 3, none⟩ = some _ := K.1.get 8 _ rfl
  have j4 : w5.cell? ⟨B1, 4, none⟩ = some _ := K.1.get 9 _ rfl
  have a0 : w5.cell? ⟨A, 0, none⟩ = some _ := K.1.get 10 _ rfl
  have a1 : w5.cell? ⟨A, 1, none⟩ = some _ := K.1.get 11 _ rfl
  have a2 : w5.cell? ⟨A, 2, none⟩ = some _ := K.1.get 12 _ rfl
  have a3 : w5.cell? ⟨A, 3, none⟩ = some _ := K.1.get 13 _ rfl
  have a4 : w5.cell? ⟨A, 4, none⟩ = some _ := K.1.get 14 _ rfl
  have HT5 := Lib.hid (HT.out.grown K.2)
  have hK := Lib.hid K.2
  clear K
  rcases fact with ⟨rfl, rfl, rfl, rfl⟩ | ⟨rfl, rfl, rfl, f4, f5⟩ | ⟨rfl, f4, f5⟩
  · cases f5 : (checkS op (N d1) (N s1) (Z o) (Z m) true != 0)
    all_goals
      go_wp2_with (first | (go_at_call 16; ((with_reducible refine (HC.out _ HT5.out).mono ?_); rintro e w6 ⟨rfl, g6⟩; have HT6 := Lib.hid (HT5.out.grown g6); have h6 := Lib.hid (Grown.trans' hK.out g6))) | (go_at_call 20; refine (checks_any _ HT6.out).mono ?_; rintro e w7 ⟨rfl, g7⟩))
      go_ret
      exact ⟨rfl, Grown.trans' h6.out g7⟩
  all_goals
    go_wp2_with (first | (go_at_call 16; ((with_reducible refine (HC.out _ HT5.out).mono ?_); rintro e w6 ⟨rfl, g6⟩; have HT6 := Lib.hid (HT5.out.grown g6); have h6 := Lib.hid (Grown.trans' hK.out g6))) | (go_at_call 20; refine (checks_any _ HT6.out).mono ?_; rintro e w7 ⟨rfl, g7⟩))
    go_ret
    exact ⟨rfl, Grown.trans' h6.out g7⟩
end Go.Proofs.YthmebodklbhljaaDoor
