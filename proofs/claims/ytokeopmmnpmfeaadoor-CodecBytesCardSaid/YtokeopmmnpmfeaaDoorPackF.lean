/-
  Lemmas for the laws of this seat, part F: CrA, DkG, Cd9, DkH, CdA.
-/
import Derived.Test.YtokeopmmnpmfeaaDoorPackE
import Derived.Test.YtokeopmmnpmfeaaDoorCr9
import Derived.Test.YtokeopmmnpmfeaaDoorDkF
import Derived.Test.YtokeopmmnpmfeaaDoorCd6
import Derived.Test.YtokeopmmnpmfeaaDoorCd7
section
namespace Go.Proofs.YtokeopmmnpmfeaaDoor.Ex
set_option maxRecDepth 20000

open Go Go.RowKit
set_option maxHeartbeats 0
set_option maxRecDepth 1000000
set_option linter.unusedVariables false
set_option linter.unusedSectionVars false
theorem de_all (eB : EncB) (eE : EncE) (h : Bool) {rx : Nat} (esc : Bool) {e : Nat} (hr : rx < 3) (he : e < 4) : DeOk eB eE h rx esc e := by
  rcases (by omega : rx = 0 ∨ rx = 1 ∨ rx = 2) with rfl | rfl | rfl <;> rcases (by omega : e = 0 ∨ e = 1 ∨ e = 2 ∨ e = 3) with rfl | rfl | rfl | rfl <;> cases h <;> cases esc
  · exact de_0000 eB eE
  · exact de_0010 eB eE
  · exact de_1000 eB eE
  · exact de_1010 eB eE
  · exact de_0001 eB eE
  · exact de_0011 eB eE
  · exact de_1001 eB eE
  · exact de_1011 eB eE
  · exact de_0002 eB eE
  · exact de_0012 eB eE
  · exact de_1002 eB eE
  · exact de_1012 eB eE
  · exact de_0003 eB eE
  · exact de_0013 eB eE
  · exact de_1003 eB eE
  · exact de_1013 eB eE
  · exact de_0100 eB eE
  · exact de_0110 eB eE
  · exact de_1100 eB eE
  · exact de_1110 eB eE
  · exact de_0101 eB eE
  · exact de_0111 eB eE
  · exact de_1101 eB eE
  · exact de_1111 eB eE
  · exact de_0102 eB eE
  · exact de_0112 eB eE
  · exact de_1102 eB eE
  · exact de_1112 eB eE
  · exact de_0103 eB eE
  · exact de_0113 eB eE
  · exact de_1103 eB eE
  · exact de_1113 eB eE
  · exact de_0200 eB eE
  · exact de_0210 eB eE
  · exact de_1200 eB eE
  · exact de_1210 eB eE
  · exact de_0201 eB eE
  · exact de_0211 eB eE
  · exact de_1201 eB eE
  · exact de_1211 eB eE
  · exact de_0202 eB eE
  · exact de_0212 eB eE
  · exact de_1202 eB eE
  · exact de_1212 eB eE
  · exact de_0203 eB eE
  · exact de_0213 eB eE
  · exact de_1203 eB eE
  · exact de_1213 eB eE
theorem de_lo (eB : EncB) (eE : EncE) (s : ByteArray) (a : Int) : reckonPI Tryd.prog (de3 eB eE) (oS [(deF, 14, .bool true)]) noLoop 100000 300 [] deF [.string s, .int .i64 a] = some (zRes, inter [(b2i (decide (a < 0)), 1)]) := by kernel_rfl
theorem de_hi (eB : EncB) (eE : EncE) (s : ByteArray) (a : Int) : reckonPI Tryd.prog (de3 eB eE) (oS [(deF, 14, .bool false), (deF, 19, .bool true)]) noLoop 100000 300 [] deF [.string s, .int .i64 a] = some (zRes, inter [(b2i (decide (a < 0)), 0), (b2i (decide (a ≥ (s.size : Int))), 1)]) := by kernel_rfl
/-- How bytes begin. -/
structure Beg (b : Nat → Int) (h : Bool) (rx : Nat) (esc : Bool) : Prop where
  bh : (b 0 == 102) = h
  br : (rx = 0 ∧ ¬ 64 ≤ b (bn h)) ∨ (rx = 1 ∧ 64 ≤ b (bn h) ∧ ¬ b (bn h) < 80) ∨ (rx = 2 ∧ 64 ≤ b (bn h) ∧ b (bn h) < 80)
  be : (b (bif Nat.beq rx 2 then bn h + 1 else bn h) == 15) = esc
theorem beg_any (b : Nat → Int) : ∃ h rx esc, rx < 3 ∧ Beg b h rx esc := by
  by_cases c1 : 64 ≤ b (bn (b 0 == 102))
  · by_cases c2 : b (bn (b 0 == 102)) < 80
    · exact ⟨_, 2, _, by decide, rfl, .inr (.inr ⟨rfl, c1, c2⟩), rfl⟩
    · exact ⟨_, 1, _, by decide, rfl, .inr (.inl ⟨rfl, c1, c2⟩), rfl⟩
  · exact ⟨_, 0, _, by decide, rfl, .inl ⟨rfl, c1⟩, rfl⟩
theorem pre_eq {b : Nat → Int} {h w esc : Bool} {high : Int} {j : Nat} (he : (b j == 15) = esc) : preR b h w high j = bif esc then regR b (j + 1) (secR b (j + 1) w) high else regR b j (firR b j h w) high := by
  unfold preR
  cases esc with
  | true => rw [if_pos (by simpa using he)]; rfl
  | false => rw [if_neg (by simpa using he)]; rfl
theorem rex_eq {b : Nat → Int} {h : Bool} : readR b = rexR b (b 0 == 102) (bn (b 0 == 102)) := by
  unfold readR
  by_cases c : b 0 = 102
  · rw [if_pos c, show (b 0 == 102) = true from by simpa using c]; rfl
  · rw [if_neg c, show (b 0 == 102) = false from by simpa using c]; rfl
theorem deX_eq {b : Nat → Int} {h esc : Bool} {rx : Nat} (B : Beg b h rx esc) : readR b = deX b h rx esc := by
  rw [rex_eq (h := h), B.bh]
  unfold rexR
  rcases B.br with ⟨rfl, c⟩ | ⟨rfl, c1, c2⟩ | ⟨rfl, c1, c2⟩
  · rw [if_neg (fun x => c x.1), pre_eq (j := bn h) B.be]; rfl
  · rw [if_neg (fun x => c2 x.2), pre_eq (j := bn h) B.be]; rfl
  · rw [if_pos ⟨c1, c2⟩, pre_eq (j := bn h + 1) B.be]; rfl
theorem two_ok : AE two := AE.cons rfl (AE.cons rfl AE.nil)
theorem b2i_eq {x y : Bool} (h : x = y) : b2i x = b2i y := by rw [h]
theorem dePre_ok {s : ByteArray} {a : Int} {h esc : Bool} {rx : Nat} (h0 : ¬ a < 0) (h1 : ¬ a ≥ (s.size : Int)) (B : Beg (rbt (exT s a)) h rx esc) : AE (dePre s a h rx esc) := by
  have sl : (b2i (decide (0 ≤ a) && decide (a ≤ (s.size : Int))), (1 : Int)).1 = 1 := btR (by rw [Bool.and_eq_true]; exact ⟨decide_eq_true (by omega), decide_eq_true (by omega)⟩)
  refine AE.app (AE.cons (b0 h0) (AE.cons (b0 h1) (AE.cons sl AE.nil))) (AE.app two_ok (AE.app (AE.cons (b2i_eq B.bh) AE.nil) (AE.app two_ok (AE.app ?_ (AE.app ?_ (AE.app ?_ (AE.app two_ok (AE.app (AE.cons (b2i_eq B.be) AE.nil) (AE.app two_ok (AE.app two_ok (AE.cons rfl AE.nil)))))))))))
  · rcases B.br with ⟨rfl, c⟩ | ⟨rfl, c1, c2⟩ | ⟨rfl, c1, c2⟩
    · exact AE.cons (b0 (by omega)) AE.nil
    · exact AE.cons (b1 (by omega)) AE.nil
    · exact AE.cons (b1 (by omega)) AE.nil
  · rcases B.br with ⟨rfl, c⟩ | ⟨rfl, c1, c2⟩ | ⟨rfl, c1, c2⟩
    · exact AE.nil
    · exact AE.app two_ok (AE.cons (b0 c2) AE.nil)
    · exact AE.app two_ok (AE.cons (b1 c2) AE.nil)
  · rcases B.br with ⟨rfl, c⟩ | ⟨rfl, c1, c2⟩ | ⟨rfl, c1, c2⟩
    · exact AE.nil
    · exact AE.nil
    · exact two_ok
def rdGo (eB : EncB) (eE : EncE) (t : ByteArray) : Bool := !(EncE.of eE (readR (rbt t)) != 0) && (!(decide (szE (EncB.of eB (readR (rbt t))) > (t.size : Int))) && ((t.extract 0 (szE (EncB.of eB (readR (rbt t)))).toNat).data.toList == EncB.of eB (readR (rbt t))))
/-- What the document's decoding answers. -/
def rdV (eB : EncB) (eE : EncE) (s : ByteArray) (a : Int) : Value := bif decide (a < 0) || decide (a ≥ (s.size : Int)) then zRes else bif rdGo eB eE (exT s a) then .tuple ⟨[.agg ⟨(readR (rbt (exT s a))).cells⟩, .int .i64 (szE (EncB.of eB (readR (rbt (exT s a))))), .int .i64 0]⟩ else zRes
theorem c_rdec {eB : EncB} {eE : EncE} (hE : HookOk Tryd.prog (hkRen eB eE)) (s : ByteArray) (a : Int) (w : World) : Calls Tryd.prog deF #[.string s, .int .i64 a] w fun e w' => e = .returned (rdV eB eE s a) ∧ Gr w w' := by
  unfold rdV
  by_cases h0 : a < 0
  · rw [decide_eq_true h0]
    exact rq (de3_ok hE) _ rfl rfl (de_lo eB eE s a) (AE.cons (b1 h0) AE.nil) w
  by_cases h1 : a ≥ (s.size : Int)
  · rw [decide_eq_false h0, decide_eq_true h1]
    exact rq (de3_ok hE) _ rfl rfl (de_hi eB eE s a) (AE.cons (b0 h0) (AE.cons (b1 h1) AE.nil)) w
  rw [decide_eq_false h0, decide_eq_false h1]
  obtain ⟨h, rx, esc, hr, B⟩ := beg_any (rbt (exT s a))
  have pre := dePre_ok h0 h1 B
  have ex := deX_eq B
  unfold rdGo
  rw [ex]
  have go : ∀ e, e < 4 → AE (deEnd (exT s a) (EncB.of eB (deX (rbt (exT s a)) h rx esc)) (EncE.of eE (deX (rbt (exT s a)) h rx esc)) e) → Calls Tryd.prog deF #[.string s, .int .i64 a] w fun x w' => x = .returned (deV (deX (rbt (exT s a)) h rx esc) (EncB.of eB (deX (rbt (exT s a)) h rx esc)) e) ∧ Gr w w' :=
    fun e he hp => rq (de3_ok hE) _ rfl (by unfold deV; cases Nat.beq e 0 <;> rfl) (de_all eB eE h esc hr he s a) (AE.app pre hp) w
  generalize hx : deX (rbt (exT s a)) h rx esc = x at go
  cases c1 : EncE.of eE x != 0 with
  | true => exact go 1 (by decide) (AE.cons (b2i_eq c1) AE.nil)
  | false =>
    cases c2 : decide (szE (EncB.of eB x) > ((exT s a).size : Int)) with
    | true => exact go 2 (by decide) (AE.cons (b2i_eq c1) (AE.cons (b2i_eq c2) AE.nil))
    | false =>
      have sl : (b2i (decide (0 ≤ szE (EncB.of eB x)) && decide (szE (EncB.of eB x) ≤ ((exT s a).size : Int))), (1 : Int)).1 = 1 := btR (by
        have := of_decide_eq_false c2
        rw [Bool.and_eq_true]
        exact ⟨decide_eq_true (by unfold szE; omega), decide_eq_true (by omega)⟩)
      cases c3 : (((exT s a).extract 0 (szE (EncB.of eB x)).toNat).data.toList == EncB.of eB x) with
      | true => exact go 0 (by decide) (AE.cons (b2i_eq c1) (AE.cons (b2i_eq c2) (AE.cons sl (AE.cons (b2i_eq (by rw [c3]; rfl)) AE.nil))))
      | false => exact go 3 (by decide) (AE.cons (b2i_eq c1) (AE.cons (b2i_eq c2) (AE.cons sl (AE.cons (b2i_eq (by rw [c3]; rfl)) AE.nil))))
end Go.Proofs.YtokeopmmnpmfeaaDoor.Ex
end
section
namespace Go.Proofs.YtokeopmmnpmfeaaDoor.Ex
set_option maxRecDepth 20000

open Go Go.RowKit
set_option linter.unusedVariables false
set_option maxHeartbeats 0
set_option maxRecDepth 1000000
theorem i32_rng (x : Int) : -2147483648 ≤ IntKind.i32.wrap x ∧ IntKind.i32.wrap x ≤ 2147483647 := by
  simp only [IntKind.wrap, IntKind.bits, IntKind.signed]
  simp
  omega
theorem i8_rng (x : Int) : -128 ≤ IntKind.i8.wrap x ∧ IntKind.i8.wrap x ≤ 127 := by
  simp only [IntKind.wrap, IntKind.bits, IntKind.signed]
  simp
  omega
theorem i64_idD (x : Int) (h1 : -9223372036854775808 ≤ x) (h2 : x ≤ 9223372036854775807) : IntKind.i64.wrap x = x := by
  simp only [IntKind.wrap, IntKind.bits, IntKind.signed]
  simp
  omega
theorem word_of {x : Int} (h : (x == IntKind.i64.wrap (IntKind.i32.wrap x)) = true) : -2147483648 ≤ x ∧ x ≤ 2147483647 := by
  have h1 := i32_rng x
  have h2 : x = IntKind.i64.wrap (IntKind.i32.wrap x) := eq_of_beq h
  rw [i64_idD _ (by omega) (by omega)] at h2
  omega
theorem byte_of {x : Int} (h : (x == IntKind.i32.wrap (IntKind.i8.wrap x)) = true) : -128 ≤ x ∧ x ≤ 127 := by
  have h1 := i8_rng x
  have h2 : x = IntKind.i32.wrap (IntKind.i8.wrap x) := eq_of_beq h
  rw [i32_id _ (by omega) (by omega)] at h2
  omega
theorem imm4 (x : Int) : ∃ a b c d, immR x 4 = [a, b, c, d] := ⟨_, _, _, _, rfl⟩
theorem imm1 (x : Int) : ∃ a, immR x 1 = [a] := ⟨_, rfl⟩
theorem imm8 (x : Int) : ∃ a b c d e f g h, immR x 8 = [a, b, c, d, e, f, g, h] := ⟨_, _, _, _, _, _, _, _, rfl⟩
theorem v4 {x : Int} {a b c d : UInt8} (e : immR x 4 = [a, b, c, d]) (h : -2147483648 ≤ x ∧ x ≤ 2147483647) : sgV 32 [iv a, iv b, iv c, iv d] = x := by
  have := sg4 x h.1 h.2
  rw [e] at this
  exact this
theorem v1 {x : Int} {a : UInt8} (e : immR x 1 = [a]) (h : -128 ≤ x ∧ x ≤ 127) : sgV 8 [iv a] = x := by
  have := sg1 x h.1 h.2
  rw [e] at this
  exact this
theorem v8 {x : Int} {a b c d f g h i : UInt8} (e : immR x 8 = [a, b, c, d, f, g, h, i]) (hr : -9223372036854775808 ≤ x ∧ x ≤ 9223372036854775807) : sgV 64 [iv a, iv b, iv c, iv d, iv f, iv g, iv h, iv i] = x := by
  have := sg8 x hr.1 hr.2
  rw [e] at this
  exact this
theorem dg1 (al co si : Int) (wi sh : Bool) (ds sr dp re im : Int) (hv : vP1 al co si wi sh ds sr dp re im = true) (t : List UInt8) (hre : -2147483648 ≤ re ∧ re ≤ 2147483647) (hdp : -2147483648 ≤ dp ∧ dp ≤ 2147483647) (him : -9223372036854775808 ≤ im ∧ im ≤ 9223372036854775807) : readB (bf (encS1 al co si wi sh ds sr dp re im ++ t)) = (⟨1, al, co, si, wi, sh, ds, sr, dp, re, im⟩ : XX) := by
  have hA := andL hv
  have hR := andL (andR hv)
  have hD := andL hR
  have hS := andR hR
  have hC := andL (andR (andR hv))
  have hN := andR (andR (andR hv))
  obtain rfl : al = 0 := eq_of_beq (α := Int) (andL (andR hA))
  obtain rfl : co = 0 := eq_of_beq (α := Int) (andL (andR (andR hA)))
  obtain rfl : si = 0 := eq_of_beq (α := Int) (andL (andR (andR (andR hA))))
  obtain rfl : sh = false := eq_of_beq (α := Bool) (andL (andR (andR (andR (andR (andR hA))))))
  obtain rfl : dp = 0 := eq_of_beq (α := Int) (andL (andR (andR (andR (andR (andR (andR (andR (andR hA)))))))))
  obtain rfl : re = 0 := eq_of_beq (α := Int) (andL (andR (andR (andR (andR (andR (andR (andR (andR (andR hA))))))))))
  obtain rfl : im = 0 := eq_of_beq (α := Int) (andL (andR (andR (andR (andR (andR (andR (andR (andR (andR (andR hA)))))))))))
  exact List.map_inj_left.1 (rd1 t wi) (ds, sr) (rg2_mem (rg_mem hD) (rg_mem hS))
theorem dg2 (al co si : Int) (wi sh : Bool) (ds sr dp re im : Int) (hv : vP2 al co si wi sh ds sr dp re im = true) (t : List UInt8) (hre : -2147483648 ≤ re ∧ re ≤ 2147483647) (hdp : -2147483648 ≤ dp ∧ dp ≤ 2147483647) (him : -9223372036854775808 ≤ im ∧ im ≤ 9223372036854775807) : readB (bf (encS2 al co si wi sh ds sr dp re im ++ t)) = (⟨2, al, co, si, wi, sh, ds, sr, dp, re, im⟩ : XX) := by
  have hA := andL hv
  have hR := andL (andR hv)
  have hD := andL hR
  have hS := andR hR
  have hC := andL (andR (andR hv))
  have hN := andR (andR (andR hv))
  obtain rfl : al = 0 := eq_of_beq (α := Int) (andL (andR hA))
  obtain rfl : co = 0 := eq_of_beq (α := Int) (andL (andR (andR hA)))
  obtain rfl : si = 0 := eq_of_beq (α := Int) (andL (andR (andR (andR hA))))
  obtain rfl : sh = false := eq_of_beq (α := Bool) (andL (andR (andR (andR (andR (andR hA))))))
  obtain rfl : sr = 0 := eq_of_beq (α := Int) (andL (andR (andR (andR (andR (andR (andR (andR hA))))))))
  obtain rfl : dp = 0 := eq_of_beq (α := Int) (andL (andR (andR (andR (andR (andR (andR (andR (andR hA)))))))))
  obtain rfl : re = 0 := eq_of_beq (α := Int) (andL (andR (andR (andR (andR (andR (andR (andR (andR (andR hA))))))))))
  obtain rfl : wi = true := hC
  obtain ⟨a, b, c, d, h4⟩ := imm4 im
  unfold encS2
  rw [h4]
  refine (List.map_inj_left.1 (rd2 a b c d t) ds (rg_mem hD)).trans ?_
  rw [v4 h4 (word_of hN)]
theorem dg3 (al co si : Int) (wi sh : Bool) (ds sr dp re im : Int) (hv : vP3 al co si wi sh ds sr dp re im = true) (t : List UInt8) (hre : -2147483648 ≤ re ∧ re ≤ 2147483647) (hdp : -2147483648 ≤ dp ∧ dp ≤ 2147483647) (him : -9223372036854775808 ≤ im ∧ im ≤ 9223372036854775807) : readB (bf (encS3 al co si wi sh ds sr dp re im ++ t)) = (⟨3, al, co, si, wi, sh, ds, sr, dp, re, im⟩ : XX) := by
  have hA := andL hv
  have hR := andL (andR hv)
  have hD := andL hR
  have hS := andR hR
  have hC := andL (andR (andR hv))
  have hN := andR (andR (andR hv))
  obtain rfl : al = 0 := eq_of_beq (α := Int) (andL (andR hA))
  obtain rfl : co = 0 := eq_of_beq (α := Int) (andL (andR (andR hA)))
  obtain rfl : si = 0 := eq_of_beq (α := Int) (andL (andR (andR (andR hA))))
  obtain rfl : sh = false := eq_of_beq (α := Bool) (andL (andR (andR (andR (andR (andR hA))))))
  obtain rfl : sr = 0 := eq_of_beq (α := Int) (andL (andR (andR (andR (andR (andR (andR (andR hA))))))))
  obtain rfl : dp = 0 := eq_of_beq (α := Int) (andL (andR (andR (andR (andR (andR (andR (andR (andR hA)))))))))
  obtain rfl : re = 0 := eq_of_beq (α := Int) (andL (andR (andR (andR (andR (andR (andR (andR (andR (andR hA))))))))))
  obtain rfl : wi = true := hC
  obtain ⟨a, b, c, d, e, f, g, h, h8⟩ := imm8 im
  unfold encS3
  rw [h8]
  refine (List.map_inj_left.1 (rd3 a b c d e f g h t) ds (rg_mem hD)).trans ?_
  rw [v8 h8 him]
theorem dg4 (al co si : Int) (wi sh : Bool) (ds sr dp re im : Int) (hv : vP4 al co si wi sh ds sr dp re im = true) (t : List UInt8) (hre : -2147483648 ≤ re ∧ re ≤ 2147483647) (hdp : -2147483648 ≤ dp ∧ dp ≤ 2147483647) (him : -9223372036854775808 ≤ im ∧ im ≤ 9223372036854775807) : readB (bf (encS4 al co si wi sh ds sr dp re im ++ t)) = (⟨4, al, co, si, wi, sh, ds, sr, dp, re, im⟩ : XX) := by
  have hA := andL hv
  have hR := andL (andR hv)
  have hD := andL hR
  have hS := andR hR
  have hC := andL (andR (andR hv))
  have hN := andR (andR (andR hv))
  obtain rfl : co = 0 := eq_of_beq (α := Int) (andL (andR (andR hA)))
  obtain rfl : si = 0 := eq_of_beq (α := Int) (andL (andR (andR (andR hA))))
  obtain rfl : sh = false := eq_of_beq (α := Bool) (andL (andR (andR (andR (andR (andR hA))))))
  obtain rfl : dp = 0 := eq_of_beq (α := Int) (andL (andR (andR (andR (andR (andR (andR (andR (andR hA)))))))))
  obtain rfl : re = 0 := eq_of_beq (α := Int) (andL (andR (andR (andR (andR (andR (andR (andR (andR (andR hA))))))))))
  obtain rfl : im = 0 := eq_of_beq (α := Int) (andL (andR (andR (andR (andR (andR (andR (andR (andR (andR (andR hA)))))))))))
  exact List.map_inj_left.1 (rd4 t al hC wi) (ds, sr) (rg2_mem (rg_mem hD) (rg_mem hS))
theorem dg5 (al co si : Int) (wi sh : Bool) (ds sr dp re im : Int) (hv : vP5 al co si wi sh ds sr dp re im = true) (t : List UInt8) (hre : -2147483648 ≤ re ∧ re ≤ 2147483647) (hdp : -2147483648 ≤ dp ∧ dp ≤ 2147483647) (him : -9223372036854775808 ≤ im ∧ im ≤ 9223372036854775807) : readB (bf (encS5 al co si wi sh ds sr dp re im ++ t)) = (⟨5, al, co, si, wi, sh, ds, sr, dp, re, im⟩ : XX) := by
  have hA := andL hv
  have hR := andL (andR hv)
  have hD := andL hR
  have hS := andR hR
  have hC := andL (andR (andR hv))
  have hN := andR (andR (andR hv))
  obtain rfl : co = 0 := eq_of_beq (α := Int) (andL (andR (andR hA)))
  obtain rfl : si = 0 := eq_of_beq (α := Int) (andL (andR (andR (andR hA))))
  obtain rfl : sh = false := eq_of_beq (α := Bool) (andL (andR (andR (andR (andR (andR hA))))))
  obtain rfl : sr = 0 := eq_of_beq (α := Int) (andL (andR (andR (andR (andR (andR (andR (andR hA))))))))
  obtain rfl : dp = 0 := eq_of_beq (α := Int) (andL (andR (andR (andR (andR (andR (andR (andR (andR hA)))))))))
  obtain rfl : re = 0 := eq_of_beq (α := Int) (andL (andR (andR (andR (andR (andR (andR (andR (andR (andR hA))))))))))
  obtain ⟨a, b, c, d, h4⟩ := imm4 im
  unfold encS5
  rw [h4]
  refine (List.map_inj_left.1 (rd5 a b c d t al hC wi) ds (rg_mem hD)).trans ?_
  rw [v4 h4 (word_of hN)]
theorem dg6 (al co si : Int) (wi sh : Bool) (ds sr dp re im : Int) (hv : vP6 al co si wi sh ds sr dp re im = true) (t : List UInt8) (hre : -2147483648 ≤ re ∧ re ≤ 2147483647) (hdp : -2147483648 ≤ dp ∧ dp ≤ 2147483647) (him : -9223372036854775808 ≤ im ∧ im ≤ 9223372036854775807) : readB (bf (encS6 al co si wi sh ds sr dp re im ++ t)) = (⟨6, al, co, si, wi, sh, ds, sr, dp, re, im⟩ : XX) := by
  have hA := andL hv
  have hR := andL (andR hv)
  have hD := andL hR
  have hS := andR hR
  have hC := andL (andR (andR hv))
  have hN := andR (andR (andR hv))
  obtain rfl : al = 0 := eq_of_beq (α := Int) (andL (andR hA))
  obtain rfl : co = 0 := eq_of_beq (α := Int) (andL (andR (andR hA)))
  obtain rfl : si = 0 := eq_of_beq (α := Int) (andL (andR (andR (andR hA))))
  obtain rfl : sh = false := eq_of_beq (α := Bool) (andL (andR (andR (andR (andR (andR hA))))))
  obtain rfl : dp = 0 := eq_of_beq (α := Int) (andL (andR (andR (andR (andR (andR (andR (andR (andR hA)))))))))
  obtain rfl : re = 0 := eq_of_beq (α := Int) (andL (andR (andR (andR (andR (andR (andR (andR (andR (andR hA))))))))))
  obtain rfl : im = 0 := eq_of_beq (α := Int) (andL (andR (andR (andR (andR (andR (andR (andR (andR (andR (andR hA)))))))))))
  exact List.map_inj_left.1 (rd6 t wi) (ds, sr) (rg2_mem (rg_mem hD) (rg_mem hS))
theorem dg7 (al co si : Int) (wi sh : Bool) (ds sr dp re im : Int) (hv : vP7 al co si wi sh ds sr dp re im = true) (t : List UInt8) (hre : -2147483648 ≤ re ∧ re ≤ 2147483647) (hdp : -2147483648 ≤ dp ∧ dp ≤ 2147483647) (him : -9223372036854775808 ≤ im ∧ im ≤ 9223372036854775807) : readB (bf (encS7 al co si wi sh ds sr dp re im ++ t)) = (⟨7, al, co, si, wi, sh, ds, sr, dp, re, im⟩ : XX) := by
  have hA := andL hv
  have hR := andL (andR hv)
  have hD := andL hR
  have hS := andR hR
  have hC := andL (andR (andR hv))
  have hN := andR (andR (andR hv))
  obtain rfl : al = 0 := eq_of_beq (α := Int) (andL (andR hA))
  obtain rfl : co = 0 := eq_of_beq (α := Int) (andL (andR (andR hA)))
  obtain rfl : si = 0 := eq_of_beq (α := Int) (andL (andR (andR (andR hA))))
  obtain rfl : sh = false := eq_of_beq (α := Bool) (andL (andR (andR (andR (andR (andR hA))))))
  obtain rfl : sr = 0 := eq_of_beq (α := Int) (andL (andR (andR (andR (andR (andR (andR (andR hA))))))))
  obtain rfl : dp = 0 := eq_of_beq (α := Int) (andL (andR (andR (andR (andR (andR (andR (andR (andR hA)))))))))
  obtain rfl : re = 0 := eq_of_beq (α := Int) (andL (andR (andR (andR (andR (andR (andR (andR (andR (andR hA))))))))))
  obtain rfl : im = 0 := eq_of_beq (α := Int) (andL (andR (andR (andR (andR (andR (andR (andR (andR (andR (andR hA)))))))))))
  exact List.map_inj_left.1 (rd7 t wi) ds (rg_mem hD)
theorem dg8 (al co si : Int) (wi sh : Bool) (ds sr dp re im : Int) (hv : vP8 al co si wi sh ds sr dp re im = true) (t : List UInt8) (hre : -2147483648 ≤ re ∧ re ≤ 2147483647) (hdp : -2147483648 ≤ dp ∧ dp ≤ 2147483647) (him : -9223372036854775808 ≤ im ∧ im ≤ 9223372036854775807) : readB (bf (encS8 al co si wi sh ds sr dp re im ++ t)) = (⟨8, al, co, si, wi, sh, ds, sr, dp, re, im⟩ : XX) := by
  have hA := andL hv
  have hR := andL (andR hv)
  have hD := andL hR
  have hS := andR hR
  have hC := andL (andR (andR hv))
  have hN := andR (andR (andR hv))
  obtain rfl : al = 0 := eq_of_beq (α := Int) (andL (andR hA))
  obtain rfl : co = 0 := eq_of_beq (α := Int) (andL (andR (andR hA)))
  obtain rfl : si = 0 := eq_of_beq (α := Int) (andL (andR (andR (andR hA))))
  obtain rfl : sh = false := eq_of_beq (α := Bool) (andL (andR (andR (andR (andR (andR hA))))))
  obtain rfl : sr = 0 := eq_of_beq (α := Int) (andL (andR (andR (andR (andR (andR (andR (andR hA))))))))
  obtain rfl : dp = 0 := eq_of_beq (α := Int) (andL (andR (andR (andR (andR (andR (andR (andR (andR hA)))))))))
  obtain rfl : re = 0 := eq_of_beq (α := Int) (andL (andR (andR (andR (andR (andR (andR (andR (andR (andR hA))))))))))
  obtain rfl : im = 0 := eq_of_beq (α := Int) (andL (andR (andR (andR (andR (andR (andR (andR (andR (andR (andR hA)))))))))))
  exact List.map_inj_left.1 (rd8 t wi) ds (rg_mem hD)
theorem dg9 (al co si : Int) (wi sh : Bool) (ds sr dp re im : Int) (hv : vP9 al co si wi sh ds sr dp re im = true) (t : List UInt8) (hre : -2147483648 ≤ re ∧ re ≤ 2147483647) (hdp : -2147483648 ≤ dp ∧ dp ≤ 2147483647) (him : -9223372036854775808 ≤ im ∧ im ≤ 9223372036854775807) : readB (bf (encS9 al co si wi sh ds sr dp re im ++ t)) = (⟨9, al, co, si, wi, sh, ds, sr, dp, re, im⟩ : XX) := by
  have hA := andL hv
  have hR := andL (andR hv)
  have hD := andL hR
  have hS := andR hR
  have hC := andL (andR (andR hv))
  have hN := andR (andR (andR hv))
  obtain rfl : al = 0 := eq_of_beq (α := Int) (andL (andR hA))
  obtain rfl : co = 0 := eq_of_beq (α := Int) (andL (andR (andR hA)))
  obtain rfl : si = 0 := eq_of_beq (α := Int) (andL (andR (andR (andR hA))))
  obtain rfl : sh = false := eq_of_beq (α := Bool) (andL (andR (andR (andR (andR (andR hA))))))
  obtain rfl : sr = 0 := eq_of_beq (α := Int) (andL (andR (andR (andR (andR (andR (andR (andR hA))))))))
  obtain rfl : dp = 0 := eq_of_beq (α := Int) (andL (andR (andR (andR (andR (andR (andR (andR (andR hA)))))))))
  obtain rfl : re = 0 := eq_of_beq (α := Int) (andL (andR (andR (andR (andR (andR (andR (andR (andR (andR hA))))))))))
  obtain rfl : im = 0 := eq_of_beq (α := Int) (andL (andR (andR (andR (andR (andR (andR (andR (andR (andR (andR hA)))))))))))
  exact List.map_inj_left.1 (rd9 t wi) ds (rg_mem hD)
theorem dg10 (al co si : Int) (wi sh : Bool) (ds sr dp re im : Int) (hv : vP10 al co si wi sh ds sr dp re im = true) (t : List UInt8) (hre : -2147483648 ≤ re ∧ re ≤ 2147483647) (hdp : -2147483648 ≤ dp ∧ dp ≤ 2147483647) (him : -9223372036854775808 ≤ im ∧ im ≤ 9223372036854775807) : readB (bf (encS10 al co si wi sh ds sr dp re im ++ t)) = (⟨10, al, co, si, wi, sh, ds, sr, dp, re, im⟩ : XX) := by
  have hA := andL hv
  have hR := andL (andR hv)
  have hD := andL hR
  have hS := andR hR
  have hC := andL (andR (andR hv))
  have hN := andR (andR (andR hv))
  obtain rfl : al = 0 := eq_of_beq (α := Int) (andL (andR hA))
  obtain rfl : co = 0 := eq_of_beq (α := Int) (andL (andR (andR hA)))
  obtain rfl : si = 0 := eq_of_beq (α := Int) (andL (andR (andR (andR hA))))
  obtain rfl : sh = false := eq_of_beq (α := Bool) (andL (andR (andR (andR (andR (andR hA))))))
  obtain rfl : dp = 0 := eq_of_beq (α := Int) (andL (andR (andR (andR (andR (andR (andR (andR (andR hA)))))))))
  obtain rfl : re = 0 := eq_of_beq (α := Int) (andL (andR (andR (andR (andR (andR (andR (andR (andR (andR hA))))))))))
  obtain rfl : im = 0 := eq_of_beq (α := Int) (andL (andR (andR (andR (andR (andR (andR (andR (andR (andR (andR hA)))))))))))
  exact List.map_inj_left.1 (rd10 t wi) (ds, sr) (rg2_mem (rg_mem hD) (rg_mem hS))
theorem dg11 (al co si : Int) (wi sh : Bool) (ds sr dp re im : Int) (hv : vP11 al co si wi sh ds sr dp re im = true) (t : List UInt8) (hre : -2147483648 ≤ re ∧ re ≤ 2147483647) (hdp : -2147483648 ≤ dp ∧ dp ≤ 2147483647) (him : -9223372036854775808 ≤ im ∧ im ≤ 9223372036854775807) : readB (bf (encS11 al co si wi sh ds sr dp re im ++ t)) = (⟨11, al, co, si, wi, sh, ds, sr, dp, re, im⟩ : XX) := by
  have hA := andL hv
  have hR := andL (andR hv)
  have hD := andL hR
  have hS := andR hR
  have hC := andL (andR (andR hv))
  have hN := andR (andR (andR hv))
  obtain rfl : co = 0 := eq_of_beq (α := Int) (andL (andR (andR hA)))
  obtain rfl : si = 0 := eq_of_beq (α := Int) (andL (andR (andR (andR hA))))
  obtain rfl : sh = false := eq_of_beq (α := Bool) (andL (andR (andR (andR (andR (andR hA))))))
  obtain rfl : sr = 0 := eq_of_beq (α := Int) (andL (andR (andR (andR (andR (andR (andR (andR hA))))))))
  obtain rfl : dp = 0 := eq_of_beq (α := Int) (andL (andR (andR (andR (andR (andR (andR (andR (andR hA)))))))))
  obtain rfl : re = 0 := eq_of_beq (α := Int) (andL (andR (andR (andR (andR (andR (andR (andR (andR (andR hA))))))))))
  have hi : -128 ≤ im ∧ im ≤ 127 := by
    simp only [shiftS, Bool.and_eq_true, Bool.or_eq_true, decide_eq_true_eq] at hN
    omega
  obtain ⟨a, h1⟩ := imm1 im
  unfold encS11
  rw [h1]
  refine (List.map_inj_left.1 (rd11 a t al hC wi) ds (rg_mem hD)).trans ?_
  rw [v1 h1 hi]
theorem dg12 (al co si : Int) (wi sh : Bool) (ds sr dp re im : Int) (hv : vP12 al co si wi sh ds sr dp re im = true) (t : List UInt8) (hre : -2147483648 ≤ re ∧ re ≤ 2147483647) (hdp : -2147483648 ≤ dp ∧ dp ≤ 2147483647) (him : -9223372036854775808 ≤ im ∧ im ≤ 9223372036854775807) : readB (bf (encS12 al co si wi sh ds sr dp re im ++ t)) = (⟨12, al, co, si, wi, sh, ds, sr, dp, re, im⟩ : XX) := by
  have hA := andL hv
  have hR := andL (andR hv)
  have hD := andL hR
  have hS := andR hR
  have hC := andL (andR (andR hv))
  have hN := andR (andR (andR hv))
  obtain rfl : co = 0 := eq_of_beq (α := Int) (andL (andR (andR hA)))
  obtain rfl : si = 0 := eq_of_beq (α := Int) (andL (andR (andR (andR hA))))
  obtain rfl : sh = false := eq_of_beq (α := Bool) (andL (andR (andR (andR (andR (andR hA))))))
  obtain rfl : sr = 0 := eq_of_beq (α := Int) (andL (andR (andR (andR (andR (andR (andR (andR hA))))))))
  obtain rfl : dp = 0 := eq_of_beq (α := Int) (andL (andR (andR (andR (andR (andR (andR (andR (andR hA)))))))))
  obtain rfl : re = 0 := eq_of_beq (α := Int) (andL (andR (andR (andR (andR (andR (andR (andR (andR (andR hA))))))))))
  obtain rfl : im = 0 := eq_of_beq (α := Int) (andL (andR (andR (andR (andR (andR (andR (andR (andR (andR (andR hA)))))))))))
  exact List.map_inj_left.1 (rd12 t al hC wi) ds (rg_mem hD)
theorem dg13 (al co si : Int) (wi sh : Bool) (ds sr dp re im : Int) (hv : vP13 al co si wi sh ds sr dp re im = true) (t : List UInt8) (hre : -2147483648 ≤ re ∧ re ≤ 2147483647) (hdp : -2147483648 ≤ dp ∧ dp ≤ 2147483647) (him : -9223372036854775808 ≤ im ∧ im ≤ 9223372036854775807) : readB (bf (encS13 al co si wi sh ds sr dp re im ++ t)) = (⟨13, al, co, si, wi, sh, ds, sr, dp, re, im⟩ : XX) := by
  have hA := andL hv
  have hR := andL (andR hv)
  have hD := andL hR
  have hS := andR hR
  have hC := andL (andR (andR hv))
  have hN := andR (andR (andR hv))
  obtain rfl : al = 0 := eq_of_beq (α := Int) (andL (andR hA))
  obtain rfl : co = 0 := eq_of_beq (α := Int) (andL (andR (andR hA)))
  obtain rfl : sh = false := eq_of_beq (α := Bool) (andL (andR (andR (andR (andR (andR hA))))))
  obtain rfl : re = 0 := eq_of_beq (α := Int) (andL (andR (andR (andR (andR (andR (andR (andR (andR (andR hA))))))))))
  obtain rfl : im = 0 := eq_of_beq (α := Int) (andL (andR (andR (andR (andR (andR (andR (andR (andR (andR (andR hA)))))))))))
  have hz := andL hC
  obtain rfl : wi = (si == 8) := eq_of_beq (α := Bool) (andR hC)
  obtain ⟨a, b, c, d, h4⟩ := imm4 dp
  unfold encS13
  rw [h4]
  refine (List.map_inj_left.1 (rd13 a b c d t si hz) (ds, sr) (rg2_mem (rg_mem hD) (rg_mem hS))).trans ?_
  rw [v4 h4 hdp, i32_id dp hdp.1 hdp.2]
theorem dg14 (al co si : Int) (wi sh : Bool) (ds sr dp re im : Int) (hv : vP14 al co si wi sh ds sr dp re im = true) (t : List UInt8) (hre : -2147483648 ≤ re ∧ re ≤ 2147483647) (hdp : -2147483648 ≤ dp ∧ dp ≤ 2147483647) (him : -9223372036854775808 ≤ im ∧ im ≤ 9223372036854775807) : readB (bf (encS14 al co si wi sh ds sr dp re im ++ t)) = (⟨14, al, co, si, wi, sh, ds, sr, dp, re, im⟩ : XX) := by
  have hA := andL hv
  have hR := andL (andR hv)
  have hD := andL hR
  have hS := andR hR
  have hC := andL (andR (andR hv))
  have hN := andR (andR (andR hv))
  obtain rfl : al = 0 := eq_of_beq (α := Int) (andL (andR hA))
  obtain rfl : co = 0 := eq_of_beq (α := Int) (andL (andR (andR hA)))
  obtain rfl : sh = false := eq_of_beq (α := Bool) (andL (andR (andR (andR (andR (andR hA))))))
  obtain rfl : re = 0 := eq_of_beq (α := Int) (andL (andR (andR (andR (andR (andR (andR (andR (andR (andR hA))))))))))
  obtain rfl : im = 0 := eq_of_beq (α := Int) (andL (andR (andR (andR (andR (andR (andR (andR (andR (andR (andR hA)))))))))))
  have hz := andL hC
  obtain rfl : wi = (si == 8) := eq_of_beq (α := Bool) (andR hC)
  obtain ⟨a, b, c, d, h4⟩ := imm4 dp
  unfold encS14
  rw [h4]
  refine (List.map_inj_left.1 (rd14 a b c d t si hz) (ds, sr) (rg2_mem (rg_mem hD) (rg_mem hS))).trans ?_
  rw [v4 h4 hdp, i32_id dp hdp.1 hdp.2]
theorem dg15 (al co si : Int) (wi sh : Bool) (ds sr dp re im : Int) (hv : vP15 al co si wi sh ds sr dp re im = true) (t : List UInt8) (hre : -2147483648 ≤ re ∧ re ≤ 2147483647) (hdp : -2147483648 ≤ dp ∧ dp ≤ 2147483647) (him : -9223372036854775808 ≤ im ∧ im ≤ 9223372036854775807) : readB (bf (encS15 al co si wi sh ds sr dp re im ++ t)) = (⟨15, al, co, si, wi, sh, ds, sr, dp, re, im⟩ : XX) := by
  have hA := andL hv
  have hR := andL (andR hv)
  have hD := andL hR
  have hS := andR hR
  have hC := andL (andR (andR hv))
  have hN := andR (andR (andR hv))
  obtain rfl : al = 0 := eq_of_beq (α := Int) (andL (andR hA))
  obtain rfl : co = 0 := eq_of_beq (α := Int) (andL (andR (andR hA)))
  obtain rfl : si = 0 := eq_of_beq (α := Int) (andL (andR (andR (andR hA))))
  obtain rfl : wi = false := eq_of_beq (α := Bool) (andL (andR (andR (andR (andR hA)))))
  obtain rfl : ds = 0 := eq_of_beq (α := Int) (andL (andR (andR (andR (andR (andR (andR hA)))))))
  obtain rfl : sr = 0 := eq_of_beq (α := Int) (andL (andR (andR (andR (andR (andR (andR (andR hA))))))))
  obtain rfl : dp = 0 := eq_of_beq (α := Int) (andL (andR (andR (andR (andR (andR (andR (andR (andR hA)))))))))
  obtain rfl : im = 0 := eq_of_beq (α := Int) (andL (andR (andR (andR (andR (andR (andR (andR (andR (andR (andR hA)))))))))))
  unfold encS15
  cases sh
  · obtain ⟨a, b, c, d, h4⟩ := imm4 re
    rw [h4]
    refine (rd15 a b c d t).trans ?_
    rw [v4 h4 hre, i32_id re hre.1 hre.2]
  · have hb := byte_of (x := re) (by simpa using hN)
    obtain ⟨a, h1⟩ := imm1 re
    rw [h1]
    refine (rd15s a t).trans ?_
    rw [v1 h1 hb, i32_id re hre.1 hre.2]
theorem dg16 (al co si : Int) (wi sh : Bool) (ds sr dp re im : Int) (hv : vP16 al co si wi sh ds sr dp re im = true) (t : List UInt8) (hre : -2147483648 ≤ re ∧ re ≤ 2147483647) (hdp : -2147483648 ≤ dp ∧ dp ≤ 2147483647) (him : -9223372036854775808 ≤ im ∧ im ≤ 9223372036854775807) : readB (bf (encS16 al co si wi sh ds sr dp re im ++ t)) = (⟨16, al, co, si, wi, sh, ds, sr, dp, re, im⟩ : XX) := by
  have hA := andL hv
  have hR := andL (andR hv)
  have hD := andL hR
  have hS := andR hR
  have hC := andL (andR (andR hv))
  have hN := andR (andR (andR hv))
  obtain rfl : al = 0 := eq_of_beq (α := Int) (andL (andR hA))
  obtain rfl : si = 0 := eq_of_beq (α := Int) (andL (andR (andR (andR hA))))
  obtain rfl : wi = false := eq_of_beq (α := Bool) (andL (andR (andR (andR (andR hA)))))
  obtain rfl : ds = 0 := eq_of_beq (α := Int) (andL (andR (andR (andR (andR (andR (andR hA)))))))
  obtain rfl : sr = 0 := eq_of_beq (α := Int) (andL (andR (andR (andR (andR (andR (andR (andR hA))))))))
  obtain rfl : dp = 0 := eq_of_beq (α := Int) (andL (andR (andR (andR (andR (andR (andR (andR (andR hA)))))))))
  obtain rfl : im = 0 := eq_of_beq (α := Int) (andL (andR (andR (andR (andR (andR (andR (andR (andR (andR (andR hA)))))))))))
  unfold encS16
  cases sh
  · obtain ⟨a, b, c, d, h4⟩ := imm4 re
    rw [h4]
    refine (List.map_inj_left.1 (rd16 a b c d t) co (cc_mem hC)).trans ?_
    rw [v4 h4 hre, i32_id re hre.1 hre.2]
  · have hb := byte_of (x := re) (by simpa using hN)
    obtain ⟨a, h1⟩ := imm1 re
    rw [h1]
    refine (List.map_inj_left.1 (rd16s a t) co (cc_mem hC)).trans ?_
    rw [v1 h1 hb, i32_id re hre.1 hre.2]
theorem dg17 (al co si : Int) (wi sh : Bool) (ds sr dp re im : Int) (hv : vP17 al co si wi sh ds sr dp re im = true) (t : List UInt8) (hre : -2147483648 ≤ re ∧ re ≤ 2147483647) (hdp : -2147483648 ≤ dp ∧ dp ≤ 2147483647) (him : -9223372036854775808 ≤ im ∧ im ≤ 9223372036854775807) : readB (bf (encS17 al co si wi sh ds sr dp re im ++ t)) = (⟨17, al, co, si, wi, sh, ds, sr, dp, re, im⟩ : XX) := by
  have hA := andL hv
  have hR := andL (andR hv)
  have hD := andL hR
  have hS := andR hR
  have hC := andL (andR (andR hv))
  have hN := andR (andR (andR hv))
  obtain rfl : al = 0 := eq_of_beq (α := Int) (andL (andR hA))
  obtain rfl : co = 0 := eq_of_beq (α := Int) (andL (andR (andR hA)))
  obtain rfl : si = 0 := eq_of_beq (α := Int) (andL (andR (andR (andR hA))))
  obtain rfl : wi = false := eq_of_beq (α := Bool) (andL (andR (andR (andR (andR hA)))))
  obtain rfl : sh = false := eq_of_beq (α := Bool) (andL (andR (andR (andR (andR (andR hA))))))
  obtain rfl : sr = 0 := eq_of_beq (α := Int) (andL (andR (andR (andR (andR (andR (andR (andR hA))))))))
  obtain rfl : dp = 0 := eq_of_beq (α := Int) (andL (andR (andR (andR (andR (andR (andR (andR (andR hA)))))))))
  obtain rfl : re = 0 := eq_of_beq (α := Int) (andL (andR (andR (andR (andR (andR (andR (andR (andR (andR hA))))))))))
  obtain rfl : im = 0 := eq_of_beq (α := Int) (andL (andR (andR (andR (andR (andR (andR (andR (andR (andR (andR hA)))))))))))
  exact List.map_inj_left.1 (rd17 t) ds (rg_mem hD)
theorem dg18 (al co si : Int) (wi sh : Bool) (ds sr dp re im : Int) (hv : vP18 al co si wi sh ds sr dp re im = true) (t : List UInt8) (hre : -2147483648 ≤ re ∧ re ≤ 2147483647) (hdp : -2147483648 ≤ dp ∧ dp ≤ 2147483647) (him : -9223372036854775808 ≤ im ∧ im ≤ 9223372036854775807) : readB (bf (encS18 al co si wi sh ds sr dp re im ++ t)) = (⟨18, al, co, si, wi, sh, ds, sr, dp, re, im⟩ : XX) := by
  have hA := andL hv
  have hR := andL (andR hv)
  have hD := andL hR
  have hS := andR hR
  have hC := andL (andR (andR hv))
  have hN := andR (andR (andR hv))
  obtain rfl : al = 0 := eq_of_beq (α := Int) (andL (andR hA))
  obtain rfl : co = 0 := eq_of_beq (α := Int) (andL (andR (andR hA)))
  obtain rfl : si = 0 := eq_of_beq (α := Int) (andL (andR (andR (andR hA))))
  obtain rfl : wi = false := eq_of_beq (α := Bool) (andL (andR (andR (andR (andR hA)))))
  obtain rfl : sh = false := eq_of_beq (α := Bool) (andL (andR (andR (andR (andR (andR hA))))))
  obtain rfl : sr = 0 := eq_of_beq (α := Int) (andL (andR (andR (andR (andR (andR (andR (andR hA))))))))
  obtain rfl : dp = 0 := eq_of_beq (α := Int) (andL (andR (andR (andR (andR (andR (andR (andR (andR hA)))))))))
  obtain rfl : re = 0 := eq_of_beq (α := Int) (andL (andR (andR (andR (andR (andR (andR (andR (andR (andR hA))))))))))
  obtain rfl : im = 0 := eq_of_beq (α := Int) (andL (andR (andR (andR (andR (andR (andR (andR (andR (andR (andR hA)))))))))))
  exact List.map_inj_left.1 (rd18 t) ds (rg_mem hD)
theorem dg19 (al co si : Int) (wi sh : Bool) (ds sr dp re im : Int) (hv : vP19 al co si wi sh ds sr dp re im = true) (t : List UInt8) (hre : -2147483648 ≤ re ∧ re ≤ 2147483647) (hdp : -2147483648 ≤ dp ∧ dp ≤ 2147483647) (him : -9223372036854775808 ≤ im ∧ im ≤ 9223372036854775807) : readB (bf (encS19 al co si wi sh ds sr dp re im ++ t)) = (⟨19, al, co, si, wi, sh, ds, sr, dp, re, im⟩ : XX) := by
  have hA := andL hv
  have hR := andL (andR hv)
  have hD := andL hR
  have hS := andR hR
  have hC := andL (andR (andR hv))
  have hN := andR (andR (andR hv))
  obtain rfl : al = 0 := eq_of_beq (α := Int) (andL (andR hA))
  obtain rfl : co = 0 := eq_of_beq (α := Int) (andL (andR (andR hA)))
  obtain rfl : si = 0 := eq_of_beq (α := Int) (andL (andR (andR (andR hA))))
  obtain rfl : wi = false := eq_of_beq (α := Bool) (andL (andR (andR (andR (andR hA)))))
  obtain rfl : sh = false := eq_of_beq (α := Bool) (andL (andR (andR (andR (andR (andR hA))))))
  obtain rfl : ds = 0 := eq_of_beq (α := Int) (andL (andR (andR (andR (andR (andR (andR hA)))))))
  obtain rfl : sr = 0 := eq_of_beq (α := Int) (andL (andR (andR (andR (andR (andR (andR (andR hA))))))))
  obtain rfl : dp = 0 := eq_of_beq (α := Int) (andL (andR (andR (andR (andR (andR (andR (andR (andR hA)))))))))
  obtain rfl : re = 0 := eq_of_beq (α := Int) (andL (andR (andR (andR (andR (andR (andR (andR (andR (andR hA))))))))))
  obtain rfl : im = 0 := eq_of_beq (α := Int) (andL (andR (andR (andR (andR (andR (andR (andR (andR (andR (andR hA)))))))))))
  exact rd19 t
theorem dg20 (al co si : Int) (wi sh : Bool) (ds sr dp re im : Int) (hv : vP20 al co si wi sh ds sr dp re im = true) (t : List UInt8) (hre : -2147483648 ≤ re ∧ re ≤ 2147483647) (hdp : -2147483648 ≤ dp ∧ dp ≤ 2147483647) (him : -9223372036854775808 ≤ im ∧ im ≤ 9223372036854775807) : readB (bf (encS20 al co si wi sh ds sr dp re im ++ t)) = (⟨20, al, co, si, wi, sh, ds, sr, dp, re, im⟩ : XX) := by
  have hA := andL hv
  have hR := andL (andR hv)
  have hD := andL hR
  have hS := andR hR
  have hC := andL (andR (andR hv))
  have hN := andR (andR (andR hv))
  obtain rfl : al = 0 := eq_of_beq (α := Int) (andL (andR hA))
  obtain rfl : co = 0 := eq_of_beq (α := Int) (andL (andR (andR hA)))
  obtain rfl : si = 0 := eq_of_beq (α := Int) (andL (andR (andR (andR hA))))
  obtain rfl : wi = false := eq_of_beq (α := Bool) (andL (andR (andR (andR (andR hA)))))
  obtain rfl : sh = false := eq_of_beq (α := Bool) (andL (andR (andR (andR (andR (andR hA))))))
  obtain rfl : ds = 0 := eq_of_beq (α := Int) (andL (andR (andR (andR (andR (andR (andR hA)))))))
  obtain rfl : sr = 0 := eq_of_beq (α := Int) (andL (andR (andR (andR (andR (andR (andR (andR hA))))))))
  obtain rfl : dp = 0 := eq_of_beq (α := Int) (andL (andR (andR (andR (andR (andR (andR (andR (andR hA)))))))))
  obtain rfl : im = 0 := eq_of_beq (α := Int) (andL (andR (andR (andR (andR (andR (andR (andR (andR (andR (andR hA)))))))))))
  obtain ⟨a, b, c, d, h4⟩ := imm4 re
  unfold encS20
  rw [h4]
  refine (rd20 a b c d t).trans ?_
  rw [v4 h4 hre, i32_id re hre.1 hre.2]
theorem dg21 (al co si : Int) (wi sh : Bool) (ds sr dp re im : Int) (hv : vP21 al co si wi sh ds sr dp re im = true) (t : List UInt8) (hre : -2147483648 ≤ re ∧ re ≤ 2147483647) (hdp : -2147483648 ≤ dp ∧ dp ≤ 2147483647) (him : -9223372036854775808 ≤ im ∧ im ≤ 9223372036854775807) : readB (bf (encS21 al co si wi sh ds sr dp re im ++ t)) = (⟨21, al, co, si, wi, sh, ds, sr, dp, re, im⟩ : XX) := by
  have hA := andL hv
  have hR := andL (andR hv)
  have hD := andL hR
  have hS := andR hR
  have hC := andL (andR (andR hv))
  have hN := andR (andR (andR hv))
  obtain rfl : al = 0 := eq_of_beq (α := Int) (andL (andR hA))
  obtain rfl : co = 0 := eq_of_beq (α := Int) (andL (andR (andR hA)))
  obtain rfl : si = 0 := eq_of_beq (α := Int) (andL (andR (andR (andR hA))))
  obtain rfl : wi = false := eq_of_beq (α := Bool) (andL (andR (andR (andR (andR hA)))))
  obtain rfl : sh = false := eq_of_beq (α := Bool) (andL (andR (andR (andR (andR (andR hA))))))
  obtain rfl : ds = 0 := eq_of_beq (α := Int) (andL (andR (andR (andR (andR (andR (andR hA)))))))
  obtain rfl : sr = 0 := eq_of_beq (α := Int) (andL (andR (andR (andR (andR (andR (andR (andR hA))))))))
  obtain rfl : dp = 0 := eq_of_beq (α := Int) (andL (andR (andR (andR (andR (andR (andR (andR (andR hA)))))))))
  obtain rfl : re = 0 := eq_of_beq (α := Int) (andL (andR (andR (andR (andR (andR (andR (andR (andR (andR hA))))))))))
  obtain rfl : im = 0 := eq_of_beq (α := Int) (andL (andR (andR (andR (andR (andR (andR (andR (andR (andR (andR hA)))))))))))
  exact rd21 t
theorem read_enc (k : Int) (al co si : Int) (wi sh : Bool) (ds sr dp re im : Int) (hv : vP k al co si wi sh ds sr dp re im = true) (t : List UInt8) (hre : -2147483648 ≤ re ∧ re ≤ 2147483647) (hdp : -2147483648 ≤ dp ∧ dp ≤ 2147483647) (him : -9223372036854775808 ≤ im ∧ im ≤ 9223372036854775807) : readB (bf (encS k al co si wi sh ds sr dp re im ++ t)) = (⟨k, al, co, si, wi, sh, ds, sr, dp, re, im⟩ : XX) := by
  by_cases hk : 1 ≤ k ∧ k ≤ 21
  · rcases kinds (k := k) (by simp only [decide_eq_false_iff_not]; omega) (by simp only [decide_eq_false_iff_not]; omega) with rfl | rfl | rfl | rfl | rfl | rfl | rfl | rfl | rfl | rfl | rfl | rfl | rfl | rfl | rfl | rfl | rfl | rfl | rfl | rfl | rfl
    · exact dg1 al co si wi sh ds sr dp re im hv t hre hdp him
    · exact dg2 al co si wi sh ds sr dp re im hv t hre hdp him
    · exact dg3 al co si wi sh ds sr dp re im hv t hre hdp him
    · exact dg4 al co si wi sh ds sr dp re im hv t hre hdp him
    · exact dg5 al co si wi sh ds sr dp re im hv t hre hdp him
    · exact dg6 al co si wi sh ds sr dp re im hv t hre hdp him
    · exact dg7 al co si wi sh ds sr dp re im hv t hre hdp him
    · exact dg8 al co si wi sh ds sr dp re im hv t hre hdp him
    · exact dg9 al co si wi sh ds sr dp re im hv t hre hdp him
    · exact dg10 al co si wi sh ds sr dp re im hv t hre hdp him
    · exact dg11 al co si wi sh ds sr dp re im hv t hre hdp him
    · exact dg12 al co si wi sh ds sr dp re im hv t hre hdp him
    · exact dg13 al co si wi sh ds sr dp re im hv t hre hdp him
    · exact dg14 al co si wi sh ds sr dp re im hv t hre hdp him
    · exact dg15 al co si wi sh ds sr dp re im hv t hre hdp him
    · exact dg16 al co si wi sh ds sr dp re im hv t hre hdp him
    · exact dg17 al co si wi sh ds sr dp re im hv t hre hdp him
    · exact dg18 al co si wi sh ds sr dp re im hv t hre hdp him
    · exact dg19 al co si wi sh ds sr dp re im hv t hre hdp him
    · exact dg20 al co si wi sh ds sr dp re im hv t hre hdp him
    · exact dg21 al co si wi sh ds sr dp re im hv t hre hdp him
  · exfalso
    have nd : ∀ n : Int, 1 ≤ n → n ≤ 21 → ¬ k = n := fun n h1 h2 => by omega
    unfold vP at hv
    rw [if_neg (nd 1 (by omega) (by omega)), if_neg (nd 2 (by omega) (by omega)), if_neg (nd 3 (by omega) (by omega)), if_neg (nd 4 (by omega) (by omega)), if_neg (nd 5 (by omega) (by omega)), if_neg (nd 6 (by omega) (by omega)), if_neg (nd 7 (by omega) (by omega)), if_neg (nd 8 (by omega) (by omega)), if_neg (nd 9 (by omega) (by omega)), if_neg (nd 10 (by omega) (by omega)), if_neg (nd 11 (by omega) (by omega)), if_neg (nd 12 (by omega) (by omega)), if_neg (nd 13 (by omega) (by omega)), if_neg (nd 14 (by omega) (by omega)), if_neg (nd 15 (by omega) (by omega)), if_neg (nd 16 (by omega) (by omega)), if_neg (nd 17 (by omega) (by omega)), if_neg (nd 18 (by omega) (by omega)), if_neg (nd 19 (by omega) (by omega)), if_neg (nd 20 (by omega) (by omega)), if_neg (nd 21 (by omega) (by omega))] at hv
    cases hv
end Go.Proofs.YtokeopmmnpmfeaaDoor.Ex
end
section
namespace Go.Proofs.YtokeopmmnpmfeaaDoor.Ex
set_option maxRecDepth 20000

open Go Go.RowKit
set_option linter.unusedVariables false
set_option linter.unusedSimpArgs false
set_option maxHeartbeats 0
set_option maxRecDepth 1000000
variable (al co si : Int) (wi sh : Bool) (ds sr dp re im : Int)
theorem immR1 (re : Int) : immR re 1 = [ub (IntKind.u8.wrap re)] := by
  have h := u64_lt re
  show [UInt8.ofNat (IntKind.u8.wrap (Int.tmod (IntKind.u64.wrap re) 256)).toNat] = [ub (IntKind.u8.wrap re)]
  rw [Int.tmod_eq_emod_of_nonneg h.1, wru]
  unfold ub
  simp only [wr8]
  rw [show re % 18446744073709551616 % 256 % 256 = re % 256 by omega]
theorem c_pe1 (hv : vP1 al co si wi sh ds sr dp re im = true) (w : World) (hL : Laid h12 w) : Calls Tryd.prog 10 #[.agg ⟨(xA 1 al co si wi sh ds sr dp re im)⟩] w fun e w' => e = .returned (.tuple ⟨[.string ⟨⟨encS1 al co si wi sh ds sr dp re im⟩⟩, .int .i64 0]⟩) ∧ Gr w w' := by
  have hD := andL (andL (andR hv))
  have hS := andR (andL (andR hv))
  obtain ⟨rfl, rfl, rfl, -, rfl, -, -, rfl, rfl, rfl⟩ := eqX (andL hv)
  obtain ⟨a, d, rfl, h1⟩ := reg8 hD
  obtain ⟨b, s, rfl, h2⟩ := reg8 hS
  exact retZ (by simp only [encS1, modP_eq (b := 192) (m := (o8 b s)) (e := (o8 a d)) (by decide) (by decide) (reg_out hS) (reg_out hD), td8 h1, td8 h2] <;> rfl) (pe1 wi a d b s (csF' (notT hv) (csB' (ge8 h2) (csB' (ge8 h1) csN'))) w hL)
theorem c_pe2 (hv : vP2 al co si wi sh ds sr dp re im = true) (w : World) (hL : Laid h12 w) : Calls Tryd.prog 10 #[.agg ⟨(xA 2 al co si wi sh ds sr dp re im)⟩] w fun e w' => e = .returned (.tuple ⟨[.string ⟨⟨encS2 al co si wi sh ds sr dp re im⟩⟩, .int .i64 0]⟩) ∧ Gr w w' := by
  have hD := andL (andL (andR hv))
  have hC := andL (andR (andR hv))
  obtain ⟨rfl, rfl, rfl, -, rfl, -, rfl, rfl, rfl, -⟩ := eqX (andL hv)
  obtain rfl : wi = true := hC
  obtain ⟨a, d, rfl, h1⟩ := reg8 hD
  exact retZ (by simp only [encS2, modP_eq (b := 192) (m := 0) (e := (o8 a d)) (by decide) (by decide) (by decide) (reg_out hD), immP_eq, td8 h1] <;> rfl) (pe2 a d im (csF' (notT hv) (csB' (ge8 h1) csN')) w hL)
theorem c_pe3 (hv : vP3 al co si wi sh ds sr dp re im = true) (w : World) (hL : Laid h12 w) : Calls Tryd.prog 10 #[.agg ⟨(xA 3 al co si wi sh ds sr dp re im)⟩] w fun e w' => e = .returned (.tuple ⟨[.string ⟨⟨encS3 al co si wi sh ds sr dp re im⟩⟩, .int .i64 0]⟩) ∧ Gr w w' := by
  have hD := andL (andL (andR hv))
  have hC := andL (andR (andR hv))
  obtain ⟨rfl, rfl, rfl, -, rfl, -, rfl, rfl, rfl, -⟩ := eqX (andL hv)
  obtain rfl : wi = true := hC
  obtain ⟨a, d, rfl, h1⟩ := reg8 hD
  exact retZ (by simp only [encS3, codP_eq (b := 184) (d := (o8 a d)) (by decide) (by decide) (reg_out hD), immP_eq, td8 h1] <;> rfl) (pe3 a d im (csF' (notT hv) (csB' (ge8 h1) csN')) w hL)
theorem c_pe4 (hv : vP4 al co si wi sh ds sr dp re im = true) (w : World) (hL : Laid h12 w) : Calls Tryd.prog 10 #[.agg ⟨(xA 4 al co si wi sh ds sr dp re im)⟩] w fun e w' => e = .returned (.tuple ⟨[.string ⟨⟨encS4 al co si wi sh ds sr dp re im⟩⟩, .int .i64 0]⟩) ∧ Gr w w' := by
  have hD := andL (andL (andR hv))
  have hS := andR (andL (andR hv))
  have hC := andL (andR (andR hv))
  obtain ⟨-, rfl, rfl, -, rfl, -, -, rfl, rfl, rfl⟩ := eqX (andL hv)
  have ha := alu_out hC
  obtain ⟨a, d, rfl, h1⟩ := reg8 hD
  obtain ⟨b, s, rfl, h2⟩ := reg8 hS
  exact retZ (by simp only [encS4, modP_eq (b := 192) (m := (o8 b s)) (e := (o8 a d)) (by decide) (by decide) (reg_out hS) (reg_out hD), aluP_eq ha, td8 h1, td8 h2] <;> rfl) (pe4 al wi a d b s (csF' (notT hv) (csB' (ge8 h2) (csB' (ge8 h1) csN'))) w hL)
theorem c_pe5 (hv : vP5 al co si wi sh ds sr dp re im = true) (w : World) (hL : Laid h12 w) : Calls Tryd.prog 10 #[.agg ⟨(xA 5 al co si wi sh ds sr dp re im)⟩] w fun e w' => e = .returned (.tuple ⟨[.string ⟨⟨encS5 al co si wi sh ds sr dp re im⟩⟩, .int .i64 0]⟩) ∧ Gr w w' := by
  have hD := andL (andL (andR hv))
  have hC := andL (andR (andR hv))
  obtain ⟨-, rfl, rfl, -, rfl, -, rfl, rfl, rfl, -⟩ := eqX (andL hv)
  have ha := alu_out hC
  obtain ⟨a, d, rfl, h1⟩ := reg8 hD
  exact retZ (by simp only [encS5, modP_eq (b := 192) (m := al) (e := (o8 a d)) (by decide) (by decide) ⟨ha.1, Int.lt_trans ha.2 (by decide)⟩ (reg_out hD), immP_eq, td8 h1] <;> rfl) (pe5 al wi a d im (csF' (notT hv) (csF' (ge_no ha) (csB' (ge8 h1) csN'))) w hL)
theorem c_pe6 (hv : vP6 al co si wi sh ds sr dp re im = true) (w : World) (hL : Laid h12 w) : Calls Tryd.prog 10 #[.agg ⟨(xA 6 al co si wi sh ds sr dp re im)⟩] w fun e w' => e = .returned (.tuple ⟨[.string ⟨⟨encS6 al co si wi sh ds sr dp re im⟩⟩, .int .i64 0]⟩) ∧ Gr w w' := by
  have hD := andL (andL (andR hv))
  have hS := andR (andL (andR hv))
  obtain ⟨rfl, rfl, rfl, -, rfl, -, -, rfl, rfl, rfl⟩ := eqX (andL hv)
  obtain ⟨a, d, rfl, h1⟩ := reg8 hD
  obtain ⟨b, s, rfl, h2⟩ := reg8 hS
  exact retZ (by simp only [encS6, modP_eq (b := 192) (m := (o8 b s)) (e := (o8 a d)) (by decide) (by decide) (reg_out hS) (reg_out hD), td8 h1, td8 h2] <;> rfl) (pe6 wi a d b s (csF' (notT hv) (csB' (ge8 h2) (csB' (ge8 h1) csN'))) w hL)
theorem c_pe7 (hv : vP7 al co si wi sh ds sr dp re im = true) (w : World) (hL : Laid h12 w) : Calls Tryd.prog 10 #[.agg ⟨(xA 7 al co si wi sh ds sr dp re im)⟩] w fun e w' => e = .returned (.tuple ⟨[.string ⟨⟨encS7 al co si wi sh ds sr dp re im⟩⟩, .int .i64 0]⟩) ∧ Gr w w' := by
  have hD := andL (andL (andR hv))
  obtain ⟨rfl, rfl, rfl, -, rfl, -, rfl, rfl, rfl, rfl⟩ := eqX (andL hv)
  obtain ⟨a, d, rfl, h1⟩ := reg8 hD
  exact retZ (by simp only [encS7, modP_eq (b := 192) (m := 3) (e := (o8 a d)) (by decide) (by decide) (by decide) (reg_out hD), td8 h1] <;> rfl) (pe7 wi a d (csF' (notT hv) (csB' (ge8 h1) csN')) w hL)
theorem c_pe8 (hv : vP8 al co si wi sh ds sr dp re im = true) (w : World) (hL : Laid h12 w) : Calls Tryd.prog 10 #[.agg ⟨(xA 8 al co si wi sh ds sr dp re im)⟩] w fun e w' => e = .returned (.tuple ⟨[.string ⟨⟨encS8 al co si wi sh ds sr dp re im⟩⟩, .int .i64 0]⟩) ∧ Gr w w' := by
  have hD := andL (andL (andR hv))
  obtain ⟨rfl, rfl, rfl, -, rfl, -, rfl, rfl, rfl, rfl⟩ := eqX (andL hv)
  obtain ⟨a, d, rfl, h1⟩ := reg8 hD
  exact retZ (by simp only [encS8, modP_eq (b := 192) (m := 4) (e := (o8 a d)) (by decide) (by decide) (by decide) (reg_out hD), td8 h1] <;> rfl) (pe8 wi a d (csF' (notT hv) (csB' (ge8 h1) csN')) w hL)
theorem c_pe9 (hv : vP9 al co si wi sh ds sr dp re im = true) (w : World) (hL : Laid h12 w) : Calls Tryd.prog 10 #[.agg ⟨(xA 9 al co si wi sh ds sr dp re im)⟩] w fun e w' => e = .returned (.tuple ⟨[.string ⟨⟨encS9 al co si wi sh ds sr dp re im⟩⟩, .int .i64 0]⟩) ∧ Gr w w' := by
  have hD := andL (andL (andR hv))
  obtain ⟨rfl, rfl, rfl, -, rfl, -, rfl, rfl, rfl, rfl⟩ := eqX (andL hv)
  obtain ⟨a, d, rfl, h1⟩ := reg8 hD
  exact retZ (by simp only [encS9, modP_eq (b := 192) (m := 6) (e := (o8 a d)) (by decide) (by decide) (by decide) (reg_out hD), td8 h1] <;> rfl) (pe9 wi a d (csF' (notT hv) (csB' (ge8 h1) csN')) w hL)
theorem c_pe10 (hv : vP10 al co si wi sh ds sr dp re im = true) (w : World) (hL : Laid h12 w) : Calls Tryd.prog 10 #[.agg ⟨(xA 10 al co si wi sh ds sr dp re im)⟩] w fun e w' => e = .returned (.tuple ⟨[.string ⟨⟨encS10 al co si wi sh ds sr dp re im⟩⟩, .int .i64 0]⟩) ∧ Gr w w' := by
  have hD := andL (andL (andR hv))
  have hS := andR (andL (andR hv))
  obtain ⟨rfl, rfl, rfl, -, rfl, -, -, rfl, rfl, rfl⟩ := eqX (andL hv)
  obtain ⟨a, d, rfl, h1⟩ := reg8 hD
  obtain ⟨b, s, rfl, h2⟩ := reg8 hS
  exact retZ (by simp only [encS10, modP_eq (b := 192) (m := (o8 a d)) (e := (o8 b s)) (by decide) (by decide) (reg_out hD) (reg_out hS), td8 h1, td8 h2] <;> rfl) (pe10 wi a d b s (csF' (notT hv) (csB' (ge8 h1) (csB' (ge8 h2) csN'))) w hL)
theorem c_pe11 (hv : vP11 al co si wi sh ds sr dp re im = true) (w : World) (hL : Laid h12 w) : Calls Tryd.prog 10 #[.agg ⟨(xA 11 al co si wi sh ds sr dp re im)⟩] w fun e w' => e = .returned (.tuple ⟨[.string ⟨⟨encS11 al co si wi sh ds sr dp re im⟩⟩, .int .i64 0]⟩) ∧ Gr w w' := by
  have hD := andL (andL (andR hv))
  have hC := andL (andR (andR hv))
  obtain ⟨-, rfl, rfl, -, rfl, -, rfl, rfl, rfl, -⟩ := eqX (andL hv)
  have ha := sh_out hC
  obtain ⟨a, d, rfl, h1⟩ := reg8 hD
  exact retZ (by simp only [encS11, modP_eq (b := 192) (m := al) (e := (o8 a d)) (by decide) (by decide) ⟨ha.1, Int.lt_trans ha.2 (by decide)⟩ (reg_out hD), immP_eq, td8 h1] <;> rfl) (pe11 al wi a d im (csF' (notT hv) (csF' (ge_no ha) (csB' (ge8 h1) csN'))) w hL)
theorem c_pe12 (hv : vP12 al co si wi sh ds sr dp re im = true) (w : World) (hL : Laid h12 w) : Calls Tryd.prog 10 #[.agg ⟨(xA 12 al co si wi sh ds sr dp re im)⟩] w fun e w' => e = .returned (.tuple ⟨[.string ⟨⟨encS12 al co si wi sh ds sr dp re im⟩⟩, .int .i64 0]⟩) ∧ Gr w w' := by
  have hD := andL (andL (andR hv))
  have hC := andL (andR (andR hv))
  obtain ⟨-, rfl, rfl, -, rfl, -, rfl, rfl, rfl, rfl⟩ := eqX (andL hv)
  have ha := sh_out hC
  obtain ⟨a, d, rfl, h1⟩ := reg8 hD
  exact retZ (by simp only [encS12, modP_eq (b := 192) (m := al) (e := (o8 a d)) (by decide) (by decide) ⟨ha.1, Int.lt_trans ha.2 (by decide)⟩ (reg_out hD), td8 h1] <;> rfl) (pe12 al wi a d (csF' (notT hv) (csF' (ge_no ha) (csB' (ge8 h1) csN'))) w hL)
theorem c_pe13 (hv : vP13 al co si wi sh ds sr dp re im = true) (w : World) (hL : Laid h12 w) : Calls Tryd.prog 10 #[.agg ⟨(xA 13 al co si wi sh ds sr dp re im)⟩] w fun e w' => e = .returned (.tuple ⟨[.string ⟨⟨encS13 al co si wi sh ds sr dp re im⟩⟩, .int .i64 0]⟩) ∧ Gr w w' := by
  have hD := andL (andL (andR hv))
  have hS := andR (andL (andR hv))
  have hC := andL (andR (andR hv))
  obtain ⟨rfl, rfl, -, -, rfl, -, -, -, rfl, rfl⟩ := eqX (andL hv)
  have hw : wi = (si == 8) := eq_of_beq (andR hC)
  rcases szOut (andL hC) with rfl | rfl | rfl | rfl
  · obtain rfl : wi = false := hw
    obtain ⟨a, d, rfl, h1⟩ := reg8 hD
    obtain ⟨b, s, rfl, h2⟩ := reg8 hS
    obtain ⟨m, h4⟩ : ∃ m, (Int.tmod (o8 b s) 8 == 4) = m := ⟨_, rfl⟩
    exact retZ (by simp only [encS13, modP_eq (b := 128) (m := (o8 a d)) (e := (o8 b s)) (by decide) (by decide) (reg_out hD) (reg_out hS), immP_eq, td8 h1, td8 h2, h4] <;> rfl) (pe13_1 a d b s dp m (csF' (notT hv) (csB' (ge8 h1) (csB' (ge8 h2) (csB' h4 csN')))) w hL)
  · obtain rfl : wi = false := hw
    obtain ⟨a, d, rfl, h1⟩ := reg8 hD
    obtain ⟨b, s, rfl, h2⟩ := reg8 hS
    obtain ⟨m, h4⟩ : ∃ m, (Int.tmod (o8 b s) 8 == 4) = m := ⟨_, rfl⟩
    exact retZ (by simp only [encS13, modP_eq (b := 128) (m := (o8 a d)) (e := (o8 b s)) (by decide) (by decide) (reg_out hD) (reg_out hS), immP_eq, td8 h1, td8 h2, h4] <;> rfl) (pe13_2 a d b s dp m (csF' (notT hv) (csB' (ge8 h1) (csB' (ge8 h2) (csB' h4 csN')))) w hL)
  · obtain rfl : wi = false := hw
    obtain ⟨a, d, rfl, h1⟩ := reg8 hD
    obtain ⟨b, s, rfl, h2⟩ := reg8 hS
    obtain ⟨m, h4⟩ : ∃ m, (Int.tmod (o8 b s) 8 == 4) = m := ⟨_, rfl⟩
    exact retZ (by simp only [encS13, modP_eq (b := 128) (m := (o8 a d)) (e := (o8 b s)) (by decide) (by decide) (reg_out hD) (reg_out hS), immP_eq, td8 h1, td8 h2, h4] <;> rfl) (pe13_4 a d b s dp m (csF' (notT hv) (csB' (ge8 h1) (csB' (ge8 h2) (csB' h4 csN')))) w hL)
  · obtain rfl : wi = true := hw
    obtain ⟨a, d, rfl, h1⟩ := reg8 hD
    obtain ⟨b, s, rfl, h2⟩ := reg8 hS
    obtain ⟨m, h4⟩ : ∃ m, (Int.tmod (o8 b s) 8 == 4) = m := ⟨_, rfl⟩
    exact retZ (by simp only [encS13, modP_eq (b := 128) (m := (o8 a d)) (e := (o8 b s)) (by decide) (by decide) (reg_out hD) (reg_out hS), immP_eq, td8 h1, td8 h2, h4] <;> rfl) (pe13_8 a d b s dp m (csF' (notT hv) (csB' (ge8 h1) (csB' (ge8 h2) (csB' h4 csN')))) w hL)
theorem c_pe14 (hv : vP14 al co si wi sh ds sr dp re im = true) (w : World) (hL : Laid h12 w) : Calls Tryd.prog 10 #[.agg ⟨(xA 14 al co si wi sh ds sr dp re im)⟩] w fun e w' => e = .returned (.tuple ⟨[.string ⟨⟨encS14 al co si wi sh ds sr dp re im⟩⟩, .int .i64 0]⟩) ∧ Gr w w' := by
  have hD := andL (andL (andR hv))
  have hS := andR (andL (andR hv))
  have hC := andL (andR (andR hv))
  obtain ⟨rfl, rfl, -, -, rfl, -, -, -, rfl, rfl⟩ := eqX (andL hv)
  have hw : wi = (si == 8) := eq_of_beq (andR hC)
  rcases szOut (andL hC) with rfl | rfl | rfl | rfl
  · obtain rfl : wi = false := hw
    obtain ⟨a, d, rfl, h1⟩ := reg8 hD
    obtain ⟨b, s, rfl, h2⟩ := reg8 hS
    obtain ⟨m, h4⟩ : ∃ m, (Int.tmod (o8 a d) 8 == 4) = m := ⟨_, rfl⟩
    exact retZ (by simp only [encS14, modP_eq (b := 128) (m := (o8 b s)) (e := (o8 a d)) (by decide) (by decide) (reg_out hS) (reg_out hD), immP_eq, td8 h1, td8 h2, h4] <;> rfl) (pe14_1 a d b s dp m (csF' (notT hv) (csB' (ge8 h2) (csB' (ge8 h1) (csB' h4 csN')))) w hL)
  · obtain rfl : wi = false := hw
    obtain ⟨a, d, rfl, h1⟩ := reg8 hD
    obtain ⟨b, s, rfl, h2⟩ := reg8 hS
    obtain ⟨m, h4⟩ : ∃ m, (Int.tmod (o8 a d) 8 == 4) = m := ⟨_, rfl⟩
    exact retZ (by simp only [encS14, modP_eq (b := 128) (m := (o8 b s)) (e := (o8 a d)) (by decide) (by decide) (reg_out hS) (reg_out hD), immP_eq, td8 h1, td8 h2, h4] <;> rfl) (pe14_2 a d b s dp m (csF' (notT hv) (csB' (ge8 h2) (csB' (ge8 h1) (csB' h4 csN')))) w hL)
  · obtain rfl : wi = false := hw
    obtain ⟨a, d, rfl, h1⟩ := reg8 hD
    obtain ⟨b, s, rfl, h2⟩ := reg8 hS
    obtain ⟨m, h4⟩ : ∃ m, (Int.tmod (o8 a d) 8 == 4) = m := ⟨_, rfl⟩
    exact retZ (by simp only [encS14, modP_eq (b := 128) (m := (o8 b s)) (e := (o8 a d)) (by decide) (by decide) (reg_out hS) (reg_out hD), immP_eq, td8 h1, td8 h2, h4] <;> rfl) (pe14_4 a d b s dp m (csF' (notT hv) (csB' (ge8 h2) (csB' (ge8 h1) (csB' h4 csN')))) w hL)
  · obtain rfl : wi = true := hw
    obtain ⟨a, d, rfl, h1⟩ := reg8 hD
    obtain ⟨b, s, rfl, h2⟩ := reg8 hS
    obtain ⟨m, h4⟩ : ∃ m, (Int.tmod (o8 a d) 8 == 4) = m := ⟨_, rfl⟩
    exact retZ (by simp only [encS14, modP_eq (b := 128) (m := (o8 b s)) (e := (o8 a d)) (by decide) (by decide) (reg_out hS) (reg_out hD), immP_eq, td8 h1, td8 h2, h4] <;> rfl) (pe14_8 a d b s dp m (csF' (notT hv) (csB' (ge8 h2) (csB' (ge8 h1) (csB' h4 csN')))) w hL)
theorem c_pe15 (hv : vP15 al co si wi sh ds sr dp re im = true) (w : World) (hL : Laid h12 w) : Calls Tryd.prog 10 #[.agg ⟨(xA 15 al co si wi sh ds sr dp re im)⟩] w fun e w' => e = .returned (.tuple ⟨[.string ⟨⟨encS15 al co si wi sh ds sr dp re im⟩⟩, .int .i64 0]⟩) ∧ Gr w w' := by
  obtain ⟨rfl, rfl, rfl, rfl, -, rfl, rfl, rfl, -, rfl⟩ := eqX (andL hv)
  cases sh
  · exact retZ (by simp only [encS15, immP_eq, immR1] <;> rfl) (pe15 false re (csF' (notT hv) csN') w hL)
  · exact retZ (by simp only [encS15, immP_eq, immR1] <;> rfl) (pe15 true re (csF' (notT hv) csN') w hL)
theorem c_pe16 (hv : vP16 al co si wi sh ds sr dp re im = true) (w : World) (hL : Laid h12 w) : Calls Tryd.prog 10 #[.agg ⟨(xA 16 al co si wi sh ds sr dp re im)⟩] w fun e w' => e = .returned (.tuple ⟨[.string ⟨⟨encS16 al co si wi sh ds sr dp re im⟩⟩, .int .i64 0]⟩) ∧ Gr w w' := by
  have hC := andL (andR (andR hv))
  obtain ⟨rfl, -, rfl, rfl, -, rfl, rfl, rfl, -, rfl⟩ := eqX (andL hv)
  have hc := cc_out hC
  cases sh
  · exact retZ (by simp only [encS16, cndP_eq (b := 112) (by decide) (by decide) hc, cndP_eq (b := 128) (by decide) (by decide) hc, immP_eq, immR1] <;> rfl) (pe16 co false re (csF' (notT hv) csN') w hL)
  · exact retZ (by simp only [encS16, cndP_eq (b := 112) (by decide) (by decide) hc, cndP_eq (b := 128) (by decide) (by decide) hc, immP_eq, immR1] <;> rfl) (pe16 co true re (csF' (notT hv) csN') w hL)
theorem c_pe17 (hv : vP17 al co si wi sh ds sr dp re im = true) (w : World) (hL : Laid h12 w) : Calls Tryd.prog 10 #[.agg ⟨(xA 17 al co si wi sh ds sr dp re im)⟩] w fun e w' => e = .returned (.tuple ⟨[.string ⟨⟨encS17 al co si wi sh ds sr dp re im⟩⟩, .int .i64 0]⟩) ∧ Gr w w' := by
  have hD := andL (andL (andR hv))
  obtain ⟨rfl, rfl, rfl, rfl, rfl, -, rfl, rfl, rfl, rfl⟩ := eqX (andL hv)
  obtain ⟨a, d, rfl, h1⟩ := reg8 hD
  exact retZ (by simp only [encS17, codP_eq (b := 80) (d := (o8 a d)) (by decide) (by decide) (reg_out hD), td8 h1] <;> rfl) (pe17 a d (csF' (notT hv) (csB' (ge8 h1) csN')) w hL)
theorem c_pe18 (hv : vP18 al co si wi sh ds sr dp re im = true) (w : World) (hL : Laid h12 w) : Calls Tryd.prog 10 #[.agg ⟨(xA 18 al co si wi sh ds sr dp re im)⟩] w fun e w' => e = .returned (.tuple ⟨[.string ⟨⟨encS18 al co si wi sh ds sr dp re im⟩⟩, .int .i64 0]⟩) ∧ Gr w w' := by
  have hD := andL (andL (andR hv))
  obtain ⟨rfl, rfl, rfl, rfl, rfl, -, rfl, rfl, rfl, rfl⟩ := eqX (andL hv)
  obtain ⟨a, d, rfl, h1⟩ := reg8 hD
  exact retZ (by simp only [encS18, codP_eq (b := 88) (d := (o8 a d)) (by decide) (by decide) (reg_out hD), td8 h1] <;> rfl) (pe18 a d (csF' (notT hv) (csB' (ge8 h1) csN')) w hL)
theorem c_pe19 (hv : vP19 al co si wi sh ds sr dp re im = true) (w : World) (hL : Laid h12 w) : Calls Tryd.prog 10 #[.agg ⟨(xA 19 al co si wi sh ds sr dp re im)⟩] w fun e w' => e = .returned (.tuple ⟨[.string ⟨⟨encS19 al co si wi sh ds sr dp re im⟩⟩, .int .i64 0]⟩) ∧ Gr w w' := by
  obtain ⟨rfl, rfl, rfl, rfl, rfl, rfl, rfl, rfl, rfl, rfl⟩ := eqX (andL hv)
  exact retZ (by simp only [encS19] <;> rfl) (pe19  (csF' (notT hv) csN') w hL)
theorem c_pe20 (hv : vP20 al co si wi sh ds sr dp re im = true) (w : World) (hL : Laid h12 w) : Calls Tryd.prog 10 #[.agg ⟨(xA 20 al co si wi sh ds sr dp re im)⟩] w fun e w' => e = .returned (.tuple ⟨[.string ⟨⟨encS20 al co si wi sh ds sr dp re im⟩⟩, .int .i64 0]⟩) ∧ Gr w w' := by
  obtain ⟨rfl, rfl, rfl, rfl, rfl, rfl, rfl, rfl, -, rfl⟩ := eqX (andL hv)
  exact retZ (by simp only [encS20, immP_eq, immR1] <;> rfl) (pe20 re (csF' (notT hv) csN') w hL)
theorem c_pe21 (hv : vP21 al co si wi sh ds sr dp re im = true) (w : World) (hL : Laid h12 w) : Calls Tryd.prog 10 #[.agg ⟨(xA 21 al co si wi sh ds sr dp re im)⟩] w fun e w' => e = .returned (.tuple ⟨[.string ⟨⟨encS21 al co si wi sh ds sr dp re im⟩⟩, .int .i64 0]⟩) ∧ Gr w w' := by
  obtain ⟨rfl, rfl, rfl, rfl, rfl, rfl, rfl, rfl, rfl, rfl⟩ := eqX (andL hv)
  exact retZ (by simp only [encS21] <;> rfl) (pe21  (csF' (notT hv) csN') w hL)
theorem pe_bad (k : Int) (al co si : Int) (wi sh : Bool) (ds sr dp re im : Int) : Lf h12 10 [.agg ⟨(xA k al co si wi sh ds sr dp re im)⟩] (.tuple ⟨[.string ⟨⟨[]⟩⟩, .int .i64 2]⟩) [(b2i (!vP k al co si wi sh ds sr dp re im), 1)] := lfk hkE_ok (ocs [(10, 11, .bool true)] [])
def encB (k : Int) (al co si : Int) (wi sh : Bool) (ds sr dp re im : Int) : List UInt8 := if vP k al co si wi sh ds sr dp re im then encS k al co si wi sh ds sr dp re im else []
def encE (k : Int) (al co si : Int) (wi sh : Bool) (ds sr dp re im : Int) : Int := if vP k al co si wi sh ds sr dp re im then 0 else 2
theorem c_penc (k : Int) (al co si : Int) (wi sh : Bool) (ds sr dp re im : Int) (w : World) (hL : Laid h12 w) : Calls Tryd.prog 10 #[.agg ⟨(xA k al co si wi sh ds sr dp re im)⟩] w fun e w' => e = .returned (.tuple ⟨[.string ⟨⟨encB k al co si wi sh ds sr dp re im⟩⟩, .int .i64 (encE k al co si wi sh ds sr dp re im)]⟩) ∧ Gr w w' := by
  rcases Bool.eq_false_or_eq_true (vP k al co si wi sh ds sr dp re im) with h | h
  · by_cases hk : 1 ≤ k ∧ k ≤ 21
    · rcases kinds (k := k) (by simp only [decide_eq_false_iff_not]; omega) (by simp only [decide_eq_false_iff_not]; omega) with rfl | rfl | rfl | rfl | rfl | rfl | rfl | rfl | rfl | rfl | rfl | rfl | rfl | rfl | rfl | rfl | rfl | rfl | rfl | rfl | rfl
      · exact retZ (by simp only [encB, encE, h]; rfl) (c_pe1 al co si wi sh ds sr dp re im h w hL)
      · exact retZ (by simp only [encB, encE, h]; rfl) (c_pe2 al co si wi sh ds sr dp re im h w hL)
      · exact retZ (by simp only [encB, encE, h]; rfl) (c_pe3 al co si wi sh ds sr dp re im h w hL)
      · exact retZ (by simp only [encB, encE, h]; rfl) (c_pe4 al co si wi sh ds sr dp re im h w hL)
      · exact retZ (by simp only [encB, encE, h]; rfl) (c_pe5 al co si wi sh ds sr dp re im h w hL)
      · exact retZ (by simp only [encB, encE, h]; rfl) (c_pe6 al co si wi sh ds sr dp re im h w hL)
      · exact retZ (by simp only [encB, encE, h]; rfl) (c_pe7 al co si wi sh ds sr dp re im h w hL)
      · exact retZ (by simp only [encB, encE, h]; rfl) (c_pe8 al co si wi sh ds sr dp re im h w hL)
      · exact retZ (by simp only [encB, encE, h]; rfl) (c_pe9 al co si wi sh ds sr dp re im h w hL)
      · exact retZ (by simp only [encB, encE, h]; rfl) (c_pe10 al co si wi sh ds sr dp re im h w hL)
      · exact retZ (by simp only [encB, encE, h]; rfl) (c_pe11 al co si wi sh ds sr dp re im h w hL)
      · exact retZ (by simp only [encB, encE, h]; rfl) (c_pe12 al co si wi sh ds sr dp re im h w hL)
      · exact retZ (by simp only [encB, encE, h]; rfl) (c_pe13 al co si wi sh ds sr dp re im h w hL)
      · exact retZ (by simp only [encB, encE, h]; rfl) (c_pe14 al co si wi sh ds sr dp re im h w hL)
      · exact retZ (by simp only [encB, encE, h]; rfl) (c_pe15 al co si wi sh ds sr dp re im h w hL)
      · exact retZ (by simp only [encB, encE, h]; rfl) (c_pe16 al co si wi sh ds sr dp re im h w hL)
      · exact retZ (by simp only [encB, encE, h]; rfl) (c_pe17 al co si wi sh ds sr dp re im h w hL)
      · exact retZ (by simp only [encB, encE, h]; rfl) (c_pe18 al co si wi sh ds sr dp re im h w hL)
      · exact retZ (by simp only [encB, encE, h]; rfl) (c_pe19 al co si wi sh ds sr dp re im h w hL)
      · exact retZ (by simp only [encB, encE, h]; rfl) (c_pe20 al co si wi sh ds sr dp re im h w hL)
      · exact retZ (by simp only [encB, encE, h]; rfl) (c_pe21 al co si wi sh ds sr dp re im h w hL)
    · exfalso
      have nd : ∀ n : Int, 1 ≤ n → n ≤ 21 → ¬ k = n := fun n h1 h2 => by omega
      unfold vP at h
      rw [if_neg (nd 1 (by omega) (by omega)), if_neg (nd 2 (by omega) (by omega)), if_neg (nd 3 (by omega) (by omega)), if_neg (nd 4 (by omega) (by omega)), if_neg (nd 5 (by omega) (by omega)), if_neg (nd 6 (by omega) (by omega)), if_neg (nd 7 (by omega) (by omega)), if_neg (nd 8 (by omega) (by omega)), if_neg (nd 9 (by omega) (by omega)), if_neg (nd 10 (by omega) (by omega)), if_neg (nd 11 (by omega) (by omega)), if_neg (nd 12 (by omega) (by omega)), if_neg (nd 13 (by omega) (by omega)), if_neg (nd 14 (by omega) (by omega)), if_neg (nd 15 (by omega) (by omega)), if_neg (nd 16 (by omega) (by omega)), if_neg (nd 17 (by omega) (by omega)), if_neg (nd 18 (by omega) (by omega)), if_neg (nd 19 (by omega) (by omega)), if_neg (nd 20 (by omega) (by omega)), if_neg (nd 21 (by omega) (by omega))] at h
      cases h
  · exact retZ (by simp only [encB, encE, h]; rfl) (pe_bad k al co si wi sh ds sr dp re im (csT' (by rw [h]; rfl) csN') w hL)
end Go.Proofs.YtokeopmmnpmfeaaDoor.Ex
end
section
namespace Go.Proofs.YtokeopmmnpmfeaaDoor.Ex
set_option maxRecDepth 20000

open Go Go.RowKit
set_option linter.unusedVariables false
set_option maxHeartbeats 0
set_option maxRecDepth 1000000
theorem hkEn_ok : HookOk Tryd.prog (hkEn encB encE) := by
  intro f args h v cs hv hc wb k s w H
  unfold hkEn at hv
  split at hv
  · rename_i hf
    simp only [Bool.and_eq_true] at hf
    obtain rfl := Nat.eq_of_beq_eq_true hf.1
    split at hv
    · cases hv
      exact c_penc _ _ _ _ _ _ _ _ _ _ _ w (H.laid hf.2 rfl)
    · cases hv
  · cases hv
def inD (s : ByteArray) (a : Int) : Bool := decide (0 ≤ a) && decide (a < (s.size : Int))
def goD (s : ByteArray) (a : Int) : Bool := !(EncE.of encE (readB (bt s a)) != 0) && pfxB (s.extract a.toNat s.size) ⟨⟨EncB.of encB (readB (bt s a))⟩⟩
def okD (s : ByteArray) (a : Int) : Bool := inD s a && goD s a
def dX (s : ByteArray) (a : Int) : XX := bif okD s a then readB (bt s a) else XX.z
def dN (s : ByteArray) (a : Int) : Int := bif okD s a then ((EncB.of encB (readB (bt s a))).length : Int) else 0
def dE (s : ByteArray) (a : Int) : Int := bif okD s a then 0 else 110
def dV (s : ByteArray) (a : Int) : Value := .tuple ⟨[.agg ⟨(dX s a).cells⟩, .int .i64 (dN s a), .int .i64 (dE s a)]⟩
theorem out_lo (s : ByteArray) (a : Int) (h : decide (a < 0) = true) : ∀ (w : World), Laid hDk w → Calls Tryd.prog 5 ⟨[.string s, .int .i64 a]⟩ w fun e w' => e = .returned zV ∧ Gr w w' :=
  lfD hkNo_ok (dOrc (yo 5 11)) (cs := [(b2i (decide (a < 0)), 1)]) (by kernel_rfl) (by kernel_rfl) (AllD.cons (by rw [h]; rfl) AllD.nil)
theorem out_hi (s : ByteArray) (a : Int) (h : decide (a < 0) = false) (h2 : decide (a ≥ (s.size : Int)) = true) : ∀ (w : World), Laid hDk w → Calls Tryd.prog 5 ⟨[.string s, .int .i64 a]⟩ w fun e w' => e = .returned zV ∧ Gr w w' :=
  lfD hkNo_ok (dOrc (no 5 11 ++ yo 5 16)) (cs := [(b2i (decide (a < 0)), 0), (b2i (decide (a ≥ (s.size : Int))), 1)]) (by kernel_rfl) (by kernel_rfl) (AllD.cons (by rw [h]; rfl) (AllD.cons (by rw [h2]; rfl) AllD.nil))
theorem dV_out {s : ByteArray} {a : Int} (h : inD s a = false) : dV s a = zV := by
  unfold dV dX dN dE okD
  rw [h, Bool.false_and]
  rfl
theorem dV_in {s : ByteArray} {a : Int} (h : inD s a = true) : dV s a = decV encB encE s a (readB (bt s a)) := by
  unfold dV dX dN dE okD decV goD
  rw [h, Bool.true_and]
  rcases Bool.eq_false_or_eq_true (EncE.of encE (readB (bt s a)) != 0) with t1 | t1
  · rw [t1]; rfl
  · rw [t1]
    rcases Bool.eq_false_or_eq_true (pfxB (s.extract a.toNat s.size) ⟨⟨EncB.of encB (readB (bt s a))⟩⟩) with t2 | t2
    · rw [t2]; rfl
    · rw [t2]; rfl
theorem c_dec (s : ByteArray) (a : Int) (hs : (s.size : Int) ≤ 1000) (w : World) (hL : Laid hDk w) : Calls Tryd.prog 5 ⟨[.string s, .int .i64 a]⟩ w fun e w' => e = .returned (dV s a) ∧ Gr w w' := by
  cases h1 : decide (a < 0) with
  | true =>
    have hi : inD s a = false := by
      have := of_decide_eq_true h1
      unfold inD
      rw [decide_eq_false (show ¬ 0 ≤ a by omega), Bool.false_and]
    rw [dV_out hi]
    exact out_lo s a h1 w hL
  | false =>
    have ha := of_decide_eq_false h1
    cases h2 : decide (a ≥ (s.size : Int)) with
    | true =>
      have hi : inD s a = false := by
        have := of_decide_eq_true h2
        unfold inD
        rw [decide_eq_false (show ¬ a < (s.size : Int) by omega), Bool.and_false]
      rw [dV_out hi]
      exact out_hi s a h1 h2 w hL
    | false =>
      have hlt := of_decide_eq_false h2
      have hi : inD s a = true := by
        unfold inD
        rw [decide_eq_true (show 0 ≤ a by omega), decide_eq_true (show a < (s.size : Int) by omega)]
        rfl
      rw [dV_in hi]
      exact decode_in ⟨hkD_ok hkEn_ok, rfl, by omega, by omega, by omega, by omega, hL⟩
/-- Decoding, by what it answers. -/
def hkDec : Hook := fun f args h =>
  if Nat.beq f 5 && hasG hDk h then
    match args with
    | [.string s, .int .i64 a] => some (dV s a, [(b2i (decide ((s.size : Int) ≤ 1000)), 1)])
    | _ => none
  else none
theorem hkDec_ok : HookOk Tryd.prog hkDec := by
  intro f args h v cs hv hc wb k s w H
  unfold hkDec at hv
  split at hv
  · rename_i hf
    simp only [Bool.and_eq_true] at hf
    obtain rfl := Nat.eq_of_beq_eq_true hf.1
    split at hv
    · cases hv
      have h1 : decide (_ ≤ (1000 : Int)) = true := b2i_inj (b := true) (hc _ (List.mem_singleton.2 rfl))
      exact c_dec _ _ (of_decide_eq_true h1) w (H.laid hf.2 rfl)
    · cases hv
  · cases hv
/-! What is read fits. -/
structure Rng (x : XX) : Prop where
  re : -2147483648 ≤ x.re ∧ x.re ≤ 2147483647
  dp : -2147483648 ≤ x.dp ∧ x.dp ≤ 2147483647
  im : -9223372036854775808 ≤ x.im ∧ x.im ≤ 9223372036854775807
theorem i64_rng (x : Int) : -9223372036854775808 ≤ IntKind.i64.wrap x ∧ IntKind.i64.wrap x ≤ 9223372036854775807 := by
  simp only [IntKind.wrap, IntKind.bits, IntKind.signed]
  simp
  omega
theorem z32 : -2147483648 ≤ (0 : Int) ∧ (0 : Int) ≤ 2147483647 := by decide
theorem z64 : -9223372036854775808 ≤ (0 : Int) ∧ (0 : Int) ≤ 9223372036854775807 := by decide
theorem Rng.c {c : Bool} {x y : XX} (hx : Rng x) (hy : Rng y) : Rng (bif c then x else y) := by cases c <;> assumption
theorem dpB_rng (b : Nat → Int) (R : Int) (n : Nat) : -2147483648 ≤ dpB b R n ∧ dpB b R n ≤ 2147483647 := by
  unfold dpB
  rcases Bool.eq_false_or_eq_true (Int.tmod (endE R (b n)) 8 == 4) with h | h
  · rw [h, cond_true]
    exact i32_rng (s4 b (n + 2))
  · rw [h, cond_false]
    exact i32_rng (s4 b (n + 1))
theorem Rng.z : Rng XX.z := ⟨z32, z32, z64⟩
section
variable {b : Nat → Int} {h w sh : Bool} {R op k al co si dp re im : Int} {n : Nat}
theorem xRM_rng : Rng (xRM b h w R n k al) := ⟨z32, z32, z64⟩
theorem xMR_rng : Rng (xMR b h w R n k) := ⟨z32, z32, z64⟩
theorem xSd_rng (hd : -2147483648 ≤ dp ∧ dp ≤ 2147483647) : Rng (xSd b h w R n si dp) := ⟨z32, hd, z64⟩
theorem xLd_rng (hd : -2147483648 ≤ dp ∧ dp ≤ 2147483647) : Rng (xLd b h w R n si dp) := ⟨z32, hd, z64⟩
theorem xS_rng : Rng (xS b h w R n si) := xSd_rng (dpB_rng b R n)
theorem xL_rng : Rng (xL b h w R n si) := xLd_rng (dpB_rng b R n)
theorem xDg_rng (hi : -9223372036854775808 ≤ im ∧ im ≤ 9223372036854775807) : Rng (xDg b h w R n k al im) := ⟨z32, z32, hi⟩
theorem xC_rng (hi : -9223372036854775808 ≤ im ∧ im ≤ 9223372036854775807) : Rng (xC h w R op k im) := ⟨z32, z32, hi⟩
theorem xR_rng (hr : -2147483648 ≤ re ∧ re ≤ 2147483647) : Rng (xR h w sh k co re) := ⟨hr, z32, z64⟩
theorem xN_rng : Rng (xN h w k) := ⟨z32, z32, z64⟩
end
theorem s4_rng (b : Nat → Int) (j : Nat) : -9223372036854775808 ≤ s4 b j ∧ s4 b j ≤ 9223372036854775807 := by unfold s4 sgV; exact i64_rng _
theorem s1_rng (b : Nat → Int) (j : Nat) : -9223372036854775808 ≤ s1 b j ∧ s1 b j ≤ 9223372036854775807 := by unfold s1 sgV; exact i64_rng _
theorem s8_rng (b : Nat → Int) (j : Nat) : -9223372036854775808 ≤ s8 b j ∧ s8 b j ≤ 9223372036854775807 := by unfold s8 sgV; exact i64_rng _
theorem rowB_rng (b : Nat → Int) (h w : Bool) (R : Int) (j : Nat) : Rng (rowB b h w R j) := by
  unfold rowB
  exact Rng.c (xC_rng z64) (Rng.c (xC_rng z64) (Rng.c (xR_rng (i32_rng _)) (Rng.c (xC_rng (s8_rng _ _)) Rng.z)))
theorem opB_rng (b : Nat → Int) (h w : Bool) (R : Int) (j : Nat) : Rng (opB b h w R j) := by
  unfold opB
  exact Rng.c (Rng.c xS_rng xRM_rng) (Rng.c xS_rng (Rng.c xL_rng (Rng.c xRM_rng (Rng.c (xDg_rng (s4_rng _ _)) (Rng.c (xDg_rng (s4_rng _ _))
    (Rng.c (Rng.c (xDg_rng z64) (Rng.c (xDg_rng z64) (Rng.c (xDg_rng z64) Rng.z))) (Rng.c (xDg_rng (s1_rng _ _)) (Rng.c (xDg_rng z64) (Rng.c (xR_rng (i32_rng _)) (Rng.c (xR_rng (i32_rng _)) (Rng.c (xR_rng (i32_rng _)) (Rng.c xN_rng
    (Rng.c (Rng.c xRM_rng (rowB_rng b h w R j)) (rowB_rng b h w R j))))))))))))))
theorem escB_rng (b : Nat → Int) (h w : Bool) (R : Int) (j : Nat) : Rng (escB b h w R j) := by
  unfold escB
  exact Rng.c xMR_rng (Rng.c xL_rng (Rng.c xL_rng (Rng.c xN_rng (Rng.c (xR_rng (i32_rng _)) Rng.z))))
theorem readB_rng (b : Nat → Int) : Rng (readB b) := by
  have hp : ∀ h w R j, Rng (preB b h w R j) := fun h w R j => by
    unfold preB
    exact Rng.c (escB_rng b h w R (j + 1)) (opB_rng b h w R j)
  have hr : ∀ h i, Rng (rexB b h i) := fun h i => by
    unfold rexB
    exact Rng.c (Rng.c (hp h true (b i) (i + 1)) (hp h false (b i) (i + 1))) (hp h false 0 i)
  unfold readB
  exact Rng.c (hr true 1) (hr false 0)
/-! An instruction that may be, and its bytes. -/
def XX.may (x : XX) : Bool := vP x.k x.al x.co x.si x.wi x.sh x.ds x.sr x.dp x.re x.im
def XX.by (x : XX) : List UInt8 := encS x.k x.al x.co x.si x.wi x.sh x.ds x.sr x.dp x.re x.im
theorem by_of {x : XX} (h : x.may = true) : EncB.of encB x = x.by := by
  unfold XX.may at h
  show (if _ then _ else _) = _
  rw [h]
  rfl
theorem e_of {x : XX} (h : x.may = true) : EncE.of encE x = 0 := by
  unfold XX.may at h
  show (if _ then _ else _) = _
  rw [h]
  rfl
theorem may_of {x : XX} (h : (EncE.of encE x != 0) = false) : x.may = true := by
  rcases Bool.eq_false_or_eq_true x.may with t | t
  · exact t
  · exfalso
    have e : EncE.of encE x = 2 := by
      unfold XX.may at t
      show (if _ then _ else _) = _
      rw [t]
      rfl
    rw [e] at h
    cases h
theorem read_by {x : XX} (h : x.may = true) (r : Rng x) (t : List UInt8) : readB (bf (x.by ++ t)) = x :=
  read_enc x.k x.al x.co x.si x.wi x.sh x.ds x.sr x.dp x.re x.im h t r.re r.dp r.im
theorem bt_app {s : ByteArray} {p l : List UInt8} (h : s.data.toList = p ++ l) : bt s (p.length : Int) = bf l := by
  funext j
  unfold bt bf byteT
  rw [atN_eq, h]
  have e : ((p.length : Int) + (j : Int)).toNat = p.length + j := by omega
  rw [e, List.getD_eq_getElem?_getD, List.getD_eq_getElem?_getD, List.getElem?_append_right (by omega), Nat.add_sub_cancel_left]
theorem ext_list (s : ByteArray) (i j : Nat) : (s.extract i j).data.toList = (s.data.toList.drop i).take (j - i) := by
  rw [ByteArray.data_extract, Array.toList_extract, List.extract_eq_take_drop]
theorem size_list (s : ByteArray) : s.size = s.data.toList.length := Array.length_toList.symm
theorem pfx_iff (x y : ByteArray) : pfxB x y = true ↔ y.data.toList <+: x.data.toList := by
  unfold pfxB
  simp only [Bool.and_eq_true, decide_eq_true_eq, beq_iff_eq, ext_list, List.drop_zero, Nat.sub_zero]
  rw [size_list x, size_list y]
  constructor
  · rintro ⟨h1, h2⟩
    rw [← h2]
    exact List.take_prefix _ _
  · intro h
    have h1 := h.length_le
    exact ⟨by omega, (List.prefix_iff_eq_take.1 h).symm⟩
end Go.Proofs.YtokeopmmnpmfeaaDoor.Ex
end
section
namespace Go.Proofs.YtokeopmmnpmfeaaDoor.Ex
set_option maxRecDepth 20000

open Go Go.RowKit
set_option linter.unusedVariables false
set_option linter.unusedSimpArgs false
set_option maxHeartbeats 0
set_option maxRecDepth 1000000
variable (al co si : Int) (wi sh : Bool) (ds sr dp re im : Int)
theorem c_re1 (hv : vP1 al co si wi sh ds sr dp re im = true) (w : World) : Calls Tryd.prog 16 #[.agg ⟨(xA 1 al co si wi sh ds sr dp re im)⟩] w fun e w' => e = .returned (.tuple ⟨[.string ⟨⟨encS1 al co si wi sh ds sr dp re im⟩⟩, .int .i64 0]⟩) ∧ Gr w w' := by
  have hr := (vPR1 al co si wi sh ds sr dp re im).symm.trans hv
  have hD := andL (andL (andR hv))
  have hS := andR (andL (andR hv))
  obtain ⟨rfl, rfl, rfl, -, rfl, -, -, rfl, rfl, rfl⟩ := eqX (andL hv)
  obtain ⟨a, d, rfl, h1⟩ := reg8 hD
  obtain ⟨b, s, rfl, h2⟩ := reg8 hS
  exact retZ (by simp only [encS1, td8 h1, td8 h2] <;> rfl) (re1 wi a d b s (csF' (notT hr) (csI' rfl (csI' (qd8 h1) (csI' (qd8 h2) (csI' (qd8 h1) csN'))))) w (Laid.nil w))
theorem c_re2 (hv : vP2 al co si wi sh ds sr dp re im = true) (w : World) : Calls Tryd.prog 16 #[.agg ⟨(xA 2 al co si wi sh ds sr dp re im)⟩] w fun e w' => e = .returned (.tuple ⟨[.string ⟨⟨encS2 al co si wi sh ds sr dp re im⟩⟩, .int .i64 0]⟩) ∧ Gr w w' := by
  have hr := (vPR2 al co si wi sh ds sr dp re im).symm.trans hv
  have hD := andL (andL (andR hv))
  have hC := andL (andR (andR hv))
  obtain ⟨rfl, rfl, rfl, -, rfl, -, rfl, rfl, rfl, -⟩ := eqX (andL hv)
  obtain rfl : wi = true := hC
  obtain ⟨a, d, rfl, h1⟩ := reg8 hD
  exact retZ (by simp only [encS2, td8 h1] <;> rfl) (re2 a d im (csF' (notT hr) (csI' rfl (csI' (qd8 h1) csN'))) w (Laid.nil w))
theorem c_re3 (hv : vP3 al co si wi sh ds sr dp re im = true) (w : World) : Calls Tryd.prog 16 #[.agg ⟨(xA 3 al co si wi sh ds sr dp re im)⟩] w fun e w' => e = .returned (.tuple ⟨[.string ⟨⟨encS3 al co si wi sh ds sr dp re im⟩⟩, .int .i64 0]⟩) ∧ Gr w w' := by
  have hr := (vPR3 al co si wi sh ds sr dp re im).symm.trans hv
  have hD := andL (andL (andR hv))
  have hC := andL (andR (andR hv))
  obtain ⟨rfl, rfl, rfl, -, rfl, -, rfl, rfl, rfl, -⟩ := eqX (andL hv)
  obtain rfl : wi = true := hC
  obtain ⟨a, d, rfl, h1⟩ := reg8 hD
  exact retZ (by simp only [encS3, td8 h1] <;> rfl) (re3 a d im (csF' (notT hr) (csI' rfl (csI' (qd8 h1) csN'))) w (Laid.nil w))
theorem c_re4 (hv : vP4 al co si wi sh ds sr dp re im = true) (w : World) : Calls Tryd.prog 16 #[.agg ⟨(xA 4 al co si wi sh ds sr dp re im)⟩] w fun e w' => e = .returned (.tuple ⟨[.string ⟨⟨encS4 al co si wi sh ds sr dp re im⟩⟩, .int .i64 0]⟩) ∧ Gr w w' := by
  have hr := (vPR4 al co si wi sh ds sr dp re im).symm.trans hv
  have hD := andL (andL (andR hv))
  have hS := andR (andL (andR hv))
  have hC := andL (andR (andR hv))
  obtain ⟨-, rfl, rfl, -, rfl, -, -, rfl, rfl, rfl⟩ := eqX (andL hv)
  have ha := alu_out hC
  obtain ⟨a, d, rfl, h1⟩ := reg8 hD
  obtain ⟨b, s, rfl, h2⟩ := reg8 hS
  exact retZ (by simp only [encS4, td8 h1, td8 h2] <;> rfl) (re4 al wi a d b s (csF' (notT hr) (csI' rfl (csI' (qd8 h1) (csI' (qd8 h2) (csI' (qd8 h1) csN'))))) w (Laid.nil w))
theorem c_re5 (hv : vP5 al co si wi sh ds sr dp re im = true) (w : World) : Calls Tryd.prog 16 #[.agg ⟨(xA 5 al co si wi sh ds sr dp re im)⟩] w fun e w' => e = .returned (.tuple ⟨[.string ⟨⟨encS5 al co si wi sh ds sr dp re im⟩⟩, .int .i64 0]⟩) ∧ Gr w w' := by
  have hr := (vPR5 al co si wi sh ds sr dp re im).symm.trans hv
  have hD := andL (andL (andR hv))
  have hC := andL (andR (andR hv))
  obtain ⟨-, rfl, rfl, -, rfl, -, rfl, rfl, rfl, -⟩ := eqX (andL hv)
  have ha := alu_out hC
  obtain ⟨a, d, rfl, h1⟩ := reg8 hD
  exact retZ (by simp only [encS5, td8 h1] <;> rfl) (re5 al wi a d im (csF' (notT hr) (csI' rfl (csI' (qd8 h1) csN'))) w (Laid.nil w))
theorem c_re6 (hv : vP6 al co si wi sh ds sr dp re im = true) (w : World) : Calls Tryd.prog 16 #[.agg ⟨(xA 6 al co si wi sh ds sr dp re im)⟩] w fun e w' => e = .returned (.tuple ⟨[.string ⟨⟨encS6 al co si wi sh ds sr dp re im⟩⟩, .int .i64 0]⟩) ∧ Gr w w' := by
  have hr := (vPR6 al co si wi sh ds sr dp re im).symm.trans hv
  have hD := andL (andL (andR hv))
  have hS := andR (andL (andR hv))
  obtain ⟨rfl, rfl, rfl, -, rfl, -, -, rfl, rfl, rfl⟩ := eqX (andL hv)
  obtain ⟨a, d, rfl, h1⟩ := reg8 hD
  obtain ⟨b, s, rfl, h2⟩ := reg8 hS
  exact retZ (by simp only [encS6, td8 h1, td8 h2] <;> rfl) (re6 wi a d b s (csF' (notT hr) (csI' rfl (csI' (qd8 h1) (csI' (qd8 h2) (csI' (qd8 h1) csN'))))) w (Laid.nil w))
theorem c_re7 (hv : vP7 al co si wi sh ds sr dp re im = true) (w : World) : Calls Tryd.prog 16 #[.agg ⟨(xA 7 al co si wi sh ds sr dp re im)⟩] w fun e w' => e = .returned (.tuple ⟨[.string ⟨⟨encS7 al co si wi sh ds sr dp re im⟩⟩, .int .i64 0]⟩) ∧ Gr w w' := by
  have hr := (vPR7 al co si wi sh ds sr dp re im).symm.trans hv
  have hD := andL (andL (andR hv))
  obtain ⟨rfl, rfl, rfl, -, rfl, -, rfl, rfl, rfl, rfl⟩ := eqX (andL hv)
  obtain ⟨a, d, rfl, h1⟩ := reg8 hD
  exact retZ (by simp only [encS7, td8 h1] <;> rfl) (re7 wi a d (csF' (notT hr) (csI' rfl (csI' (qd8 h1) csN'))) w (Laid.nil w))
theorem c_re8 (hv : vP8 al co si wi sh ds sr dp re im = true) (w : World) : Calls Tryd.prog 16 #[.agg ⟨(xA 8 al co si wi sh ds sr dp re im)⟩] w fun e w' => e = .returned (.tuple ⟨[.string ⟨⟨encS8 al co si wi sh ds sr dp re im⟩⟩, .int .i64 0]⟩) ∧ Gr w w' := by
  have hr := (vPR8 al co si wi sh ds sr dp re im).symm.trans hv
  have hD := andL (andL (andR hv))
  obtain ⟨rfl, rfl, rfl, -, rfl, -, rfl, rfl, rfl, rfl⟩ := eqX (andL hv)
  obtain ⟨a, d, rfl, h1⟩ := reg8 hD
  exact retZ (by simp only [encS8, td8 h1] <;> rfl) (re8 wi a d (csF' (notT hr) (csI' rfl (csI' (qd8 h1) csN'))) w (Laid.nil w))
theorem c_re9 (hv : vP9 al co si wi sh ds sr dp re im = true) (w : World) : Calls Tryd.prog 16 #[.agg ⟨(xA 9 al co si wi sh ds sr dp re im)⟩] w fun e w' => e = .returned (.tuple ⟨[.string ⟨⟨encS9 al co si wi sh ds sr dp re im⟩⟩, .int .i64 0]⟩) ∧ Gr w w' := by
  have hr := (vPR9 al co si wi sh ds sr dp re im).symm.trans hv
  have hD := andL (andL (andR hv))
  obtain ⟨rfl, rfl, rfl, -, rfl, -, rfl, rfl, rfl, rfl⟩ := eqX (andL hv)
  obtain ⟨a, d, rfl, h1⟩ := reg8 hD
  exact retZ (by simp only [encS9, td8 h1] <;> rfl) (re9 wi a d (csF' (notT hr) (csI' rfl (csI' (qd8 h1) csN'))) w (Laid.nil w))
theorem c_re10 (hv : vP10 al co si wi sh ds sr dp re im = true) (w : World) : Calls Tryd.prog 16 #[.agg ⟨(xA 10 al co si wi sh ds sr dp re im)⟩] w fun e w' => e = .returned (.tuple ⟨[.string ⟨⟨encS10 al co si wi sh ds sr dp re im⟩⟩, .int .i64 0]⟩) ∧ Gr w w' := by
  have hr := (vPR10 al co si wi sh ds sr dp re im).symm.trans hv
  have hD := andL (andL (andR hv))
  have hS := andR (andL (andR hv))
  obtain ⟨rfl, rfl, rfl, -, rfl, -, -, rfl, rfl, rfl⟩ := eqX (andL hv)
  obtain ⟨a, d, rfl, h1⟩ := reg9 hD
  obtain ⟨b, s, rfl, h2⟩ := reg8 hS
  exact retZ (by simp only [encS10, td9 h1, td8 h2] <;> rfl) (re10 wi a d b s (csF' (notT hr) (csI' rfl (csI' (qd9 h1) (csI' (qd9 h1) (csI' (qd8 h2) csN'))))) w (Laid.nil w))
theorem c_re11 (hv : vP11 al co si wi sh ds sr dp re im = true) (w : World) : Calls Tryd.prog 16 #[.agg ⟨(xA 11 al co si wi sh ds sr dp re im)⟩] w fun e w' => e = .returned (.tuple ⟨[.string ⟨⟨encS11 al co si wi sh ds sr dp re im⟩⟩, .int .i64 0]⟩) ∧ Gr w w' := by
  have hr := (vPR11 al co si wi sh ds sr dp re im).symm.trans hv
  have hD := andL (andL (andR hv))
  have hC := andL (andR (andR hv))
  obtain ⟨-, rfl, rfl, -, rfl, -, rfl, rfl, rfl, -⟩ := eqX (andL hv)
  have ha := sh_out hC
  obtain ⟨a, d, rfl, h1⟩ := reg8 hD
  exact retZ (by simp only [encS11, td8 h1] <;> rfl) (re11 al wi a d im (csF' (notT hr) (csI' rfl (csI' (qd8 h1) csN'))) w (Laid.nil w))
theorem c_re12 (hv : vP12 al co si wi sh ds sr dp re im = true) (w : World) : Calls Tryd.prog 16 #[.agg ⟨(xA 12 al co si wi sh ds sr dp re im)⟩] w fun e w' => e = .returned (.tuple ⟨[.string ⟨⟨encS12 al co si wi sh ds sr dp re im⟩⟩, .int .i64 0]⟩) ∧ Gr w w' := by
  have hr := (vPR12 al co si wi sh ds sr dp re im).symm.trans hv
  have hD := andL (andL (andR hv))
  have hC := andL (andR (andR hv))
  obtain ⟨-, rfl, rfl, -, rfl, -, rfl, rfl, rfl, rfl⟩ := eqX (andL hv)
  have ha := sh_out hC
  obtain ⟨a, d, rfl, h1⟩ := reg8 hD
  exact retZ (by simp only [encS12, td8 h1] <;> rfl) (re12 al wi a d (csF' (notT hr) (csI' rfl (csI' (qd8 h1) csN'))) w (Laid.nil w))
theorem c_re13 (hv : vP13 al co si wi sh ds sr dp re im = true) (w : World) : Calls Tryd.prog 16 #[.agg ⟨(xA 13 al co si wi sh ds sr dp re im)⟩] w fun e w' => e = .returned (.tuple ⟨[.string ⟨⟨encS13 al co si wi sh ds sr dp re im⟩⟩, .int .i64 0]⟩) ∧ Gr w w' := by
  have hr := (vPR13 al co si wi sh ds sr dp re im).symm.trans hv
  have hD := andL (andL (andR hv))
  have hS := andR (andL (andR hv))
  have hC := andL (andR (andR hv))
  obtain ⟨rfl, rfl, -, -, rfl, -, -, -, rfl, rfl⟩ := eqX (andL hv)
  have hw : wi = (si == 8) := eq_of_beq (andR hC)
  rcases szOut (andL hC) with rfl | rfl | rfl | rfl
  · obtain rfl : wi = false := hw
    obtain ⟨a, d, rfl, h1⟩ := reg9 hD
    obtain ⟨b, s, rfl, h2⟩ := reg8 hS
    obtain ⟨m, h4⟩ : ∃ m, (Int.tmod (o8 b s) 8 == 4) = m := ⟨_, rfl⟩
    exact retZ (by simp only [encS13, td9 h1, td8 h2, h4] <;> rfl) (re13_1 a d b s dp m (csF' (notT hr) (csI' rfl (csI' (qd9 h1) (csI' (qd9 h1) (csI' (qd8 h2) (csB' h4 csN')))))) w (Laid.nil w))
  · obtain rfl : wi = false := hw
    obtain ⟨a, d, rfl, h1⟩ := reg9 hD
    obtain ⟨b, s, rfl, h2⟩ := reg8 hS
    obtain ⟨m, h4⟩ : ∃ m, (Int.tmod (o8 b s) 8 == 4) = m := ⟨_, rfl⟩
    exact retZ (by simp only [encS13, td9 h1, td8 h2, h4] <;> rfl) (re13_2 a d b s dp m (csF' (notT hr) (csI' rfl (csI' (qd9 h1) (csI' (qd9 h1) (csI' (qd8 h2) (csB' h4 csN')))))) w (Laid.nil w))
  · obtain rfl : wi = false := hw
    obtain ⟨a, d, rfl, h1⟩ := reg9 hD
    obtain ⟨b, s, rfl, h2⟩ := reg8 hS
    obtain ⟨m, h4⟩ : ∃ m, (Int.tmod (o8 b s) 8 == 4) = m := ⟨_, rfl⟩
    exact retZ (by simp only [encS13, td9 h1, td8 h2, h4] <;> rfl) (re13_4 a d b s dp m (csF' (notT hr) (csI' rfl (csI' (qd9 h1) (csI' (qd9 h1) (csI' (qd8 h2) (csB' h4 csN')))))) w (Laid.nil w))
  · obtain rfl : wi = true := hw
    obtain ⟨a, d, rfl, h1⟩ := reg9 hD
    obtain ⟨b, s, rfl, h2⟩ := reg8 hS
    obtain ⟨m, h4⟩ : ∃ m, (Int.tmod (o8 b s) 8 == 4) = m := ⟨_, rfl⟩
    exact retZ (by simp only [encS13, td9 h1, td8 h2, h4] <;> rfl) (re13_8 a d b s dp m (csF' (notT hr) (csI' rfl (csI' (qd9 h1) (csI' (qd9 h1) (csI' (qd8 h2) (csB' h4 csN')))))) w (Laid.nil w))
theorem c_re14 (hv : vP14 al co si wi sh ds sr dp re im = true) (w : World) : Calls Tryd.prog 16 #[.agg ⟨(xA 14 al co si wi sh ds sr dp re im)⟩] w fun e w' => e = .returned (.tuple ⟨[.string ⟨⟨encS14 al co si wi sh ds sr dp re im⟩⟩, .int .i64 0]⟩) ∧ Gr w w' := by
  have hr := (vPR14 al co si wi sh ds sr dp re im).symm.trans hv
  have hD := andL (andL (andR hv))
  have hS := andR (andL (andR hv))
  have hC := andL (andR (andR hv))
  obtain ⟨rfl, rfl, -, -, rfl, -, -, -, rfl, rfl⟩ := eqX (andL hv)
  have hw : wi = (si == 8) := eq_of_beq (andR hC)
  rcases szOut (andL hC) with rfl | rfl | rfl | rfl
  · obtain rfl : wi = false := hw
    obtain ⟨a, d, rfl, h1⟩ := reg8 hD
    obtain ⟨b, s, rfl, h2⟩ := reg8 hS
    obtain ⟨m, h4⟩ : ∃ m, (Int.tmod (o8 a d) 8 == 4) = m := ⟨_, rfl⟩
    exact retZ (by simp only [encS14, td8 h1, td8 h2, h4] <;> rfl) (re14_1 a d b s dp m (csF' (notT hr) (csI' rfl (csI' (qd8 h1) (csI' (qd8 h2) (csI' (qd8 h1) (csB' h4 csN')))))) w (Laid.nil w))
  · obtain rfl : wi = false := hw
    obtain ⟨a, d, rfl, h1⟩ := reg8 hD
    obtain ⟨b, s, rfl, h2⟩ := reg8 hS
    obtain ⟨m, h4⟩ : ∃ m, (Int.tmod (o8 a d) 8 == 4) = m := ⟨_, rfl⟩
    exact retZ (by simp only [encS14, td8 h1, td8 h2, h4] <;> rfl) (re14_2 a d b s dp m (csF' (notT hr) (csI' rfl (csI' (qd8 h1) (csI' (qd8 h2) (csI' (qd8 h1) (csB' h4 csN')))))) w (Laid.nil w))
  · obtain rfl : wi = false := hw
    obtain ⟨a, d, rfl, h1⟩ := reg8 hD
    obtain ⟨b, s, rfl, h2⟩ := reg8 hS
    obtain ⟨m, h4⟩ : ∃ m, (Int.tmod (o8 a d) 8 == 4) = m := ⟨_, rfl⟩
    exact retZ (by simp only [encS14, td8 h1, td8 h2, h4] <;> rfl) (re14_4 a d b s dp m (csF' (notT hr) (csI' rfl (csI' (qd8 h1) (csI' (qd8 h2) (csI' (qd8 h1) (csB' h4 csN')))))) w (Laid.nil w))
  · obtain rfl : wi = true := hw
    obtain ⟨a, d, rfl, h1⟩ := reg8 hD
    obtain ⟨b, s, rfl, h2⟩ := reg8 hS
    obtain ⟨m, h4⟩ : ∃ m, (Int.tmod (o8 a d) 8 == 4) = m := ⟨_, rfl⟩
    exact retZ (by simp only [encS14, td8 h1, td8 h2, h4] <;> rfl) (re14_8 a d b s dp m (csF' (notT hr) (csI' rfl (csI' (qd8 h1) (csI' (qd8 h2) (csI' (qd8 h1) (csB' h4 csN')))))) w (Laid.nil w))
theorem c_re15 (hv : vP15 al co si wi sh ds sr dp re im = true) (w : World) : Calls Tryd.prog 16 #[.agg ⟨(xA 15 al co si wi sh ds sr dp re im)⟩] w fun e w' => e = .returned (.tuple ⟨[.string ⟨⟨encS15 al co si wi sh ds sr dp re im⟩⟩, .int .i64 0]⟩) ∧ Gr w w' := by
  have hr := (vPR15 al co si wi sh ds sr dp re im).symm.trans hv
  obtain ⟨rfl, rfl, rfl, rfl, -, rfl, rfl, rfl, -, rfl⟩ := eqX (andL hv)
  exact retZ (by simp only [encS15] <;> rfl) (re15 sh re (csF' (notT hr) (csI' rfl (csI' rfl csN'))) w (Laid.nil w))
theorem c_re16 (hv : vP16 al co si wi sh ds sr dp re im = true) (w : World) : Calls Tryd.prog 16 #[.agg ⟨(xA 16 al co si wi sh ds sr dp re im)⟩] w fun e w' => e = .returned (.tuple ⟨[.string ⟨⟨encS16 al co si wi sh ds sr dp re im⟩⟩, .int .i64 0]⟩) ∧ Gr w w' := by
  have hr := (vPR16 al co si wi sh ds sr dp re im).symm.trans hv
  have hC := andL (andR (andR hv))
  obtain ⟨rfl, -, rfl, rfl, -, rfl, rfl, rfl, -, rfl⟩ := eqX (andL hv)
  have hc := cc_out hC
  exact retZ (by simp only [encS16] <;> rfl) (re16 co sh re (csF' (notT hr) (csI' rfl (csI' rfl csN'))) w (Laid.nil w))
theorem c_re17 (hv : vP17 al co si wi sh ds sr dp re im = true) (w : World) : Calls Tryd.prog 16 #[.agg ⟨(xA 17 al co si wi sh ds sr dp re im)⟩] w fun e w' => e = .returned (.tuple ⟨[.string ⟨⟨encS17 al co si wi sh ds sr dp re im⟩⟩, .int .i64 0]⟩) ∧ Gr w w' := by
  have hr := (vPR17 al co si wi sh ds sr dp re im).symm.trans hv
  have hD := andL (andL (andR hv))
  obtain ⟨rfl, rfl, rfl, rfl, rfl, -, rfl, rfl, rfl, rfl⟩ := eqX (andL hv)
  obtain ⟨a, d, rfl, h1⟩ := reg8 hD
  exact retZ (by simp only [encS17, td8 h1] <;> rfl) (re17 a d (csF' (notT hr) (csI' rfl (csI' (qd8 h1) csN'))) w (Laid.nil w))
theorem c_re18 (hv : vP18 al co si wi sh ds sr dp re im = true) (w : World) : Calls Tryd.prog 16 #[.agg ⟨(xA 18 al co si wi sh ds sr dp re im)⟩] w fun e w' => e = .returned (.tuple ⟨[.string ⟨⟨encS18 al co si wi sh ds sr dp re im⟩⟩, .int .i64 0]⟩) ∧ Gr w w' := by
  have hr := (vPR18 al co si wi sh ds sr dp re im).symm.trans hv
  have hD := andL (andL (andR hv))
  obtain ⟨rfl, rfl, rfl, rfl, rfl, -, rfl, rfl, rfl, rfl⟩ := eqX (andL hv)
  obtain ⟨a, d, rfl, h1⟩ := reg8 hD
  exact retZ (by simp only [encS18, td8 h1] <;> rfl) (re18 a d (csF' (notT hr) (csI' rfl (csI' (qd8 h1) csN'))) w (Laid.nil w))
theorem c_re19 (hv : vP19 al co si wi sh ds sr dp re im = true) (w : World) : Calls Tryd.prog 16 #[.agg ⟨(xA 19 al co si wi sh ds sr dp re im)⟩] w fun e w' => e = .returned (.tuple ⟨[.string ⟨⟨encS19 al co si wi sh ds sr dp re im⟩⟩, .int .i64 0]⟩) ∧ Gr w w' := by
  have hr := (vPR19 al co si wi sh ds sr dp re im).symm.trans hv
  obtain ⟨rfl, rfl, rfl, rfl, rfl, rfl, rfl, rfl, rfl, rfl⟩ := eqX (andL hv)
  exact retZ (by simp only [encS19] <;> rfl) (re19  (csF' (notT hr) (csI' rfl (csI' rfl csN'))) w (Laid.nil w))
theorem c_re20 (hv : vP20 al co si wi sh ds sr dp re im = true) (w : World) : Calls Tryd.prog 16 #[.agg ⟨(xA 20 al co si wi sh ds sr dp re im)⟩] w fun e w' => e = .returned (.tuple ⟨[.string ⟨⟨encS20 al co si wi sh ds sr dp re im⟩⟩, .int .i64 0]⟩) ∧ Gr w w' := by
  have hr := (vPR20 al co si wi sh ds sr dp re im).symm.trans hv
  obtain ⟨rfl, rfl, rfl, rfl, rfl, rfl, rfl, rfl, -, rfl⟩ := eqX (andL hv)
  exact retZ (by simp only [encS20] <;> rfl) (re20 re (csF' (notT hr) (csI' rfl (csI' rfl csN'))) w (Laid.nil w))
theorem c_re21 (hv : vP21 al co si wi sh ds sr dp re im = true) (w : World) : Calls Tryd.prog 16 #[.agg ⟨(xA 21 al co si wi sh ds sr dp re im)⟩] w fun e w' => e = .returned (.tuple ⟨[.string ⟨⟨encS21 al co si wi sh ds sr dp re im⟩⟩, .int .i64 0]⟩) ∧ Gr w w' := by
  have hr := (vPR21 al co si wi sh ds sr dp re im).symm.trans hv
  obtain ⟨rfl, rfl, rfl, rfl, rfl, rfl, rfl, rfl, rfl, rfl⟩ := eqX (andL hv)
  exact retZ (by simp only [encS21] <;> rfl) (re21  (csF' (notT hr) (csI' rfl (csI' rfl csN'))) w (Laid.nil w))
theorem re_bad (k : Int) (al co si : Int) (wi sh : Bool) (ds sr dp re im : Int) : Lf [] 16 [.agg ⟨(xA k al co si wi sh ds sr dp re im)⟩] (.tuple ⟨[.string ⟨⟨[]⟩⟩, .int .i64 2]⟩) [(b2i (!vR k al co si wi sh ds sr dp re im), 1)] := lfk hkF_ok (ocs [(16, 11, .bool true)] [])
theorem c_renc (k : Int) (al co si : Int) (wi sh : Bool) (ds sr dp re im : Int) (w : World) : Calls Tryd.prog 16 #[.agg ⟨(xA k al co si wi sh ds sr dp re im)⟩] w fun e w' => e = .returned (.tuple ⟨[.string ⟨⟨encB k al co si wi sh ds sr dp re im⟩⟩, .int .i64 (encE k al co si wi sh ds sr dp re im)]⟩) ∧ Gr w w' := by
  rcases Bool.eq_false_or_eq_true (vP k al co si wi sh ds sr dp re im) with h | h
  · by_cases hk : 1 ≤ k ∧ k ≤ 21
    · rcases kinds (k := k) (by simp only [decide_eq_false_iff_not]; omega) (by simp only [decide_eq_false_iff_not]; omega) with rfl | rfl | rfl | rfl | rfl | rfl | rfl | rfl | rfl | rfl | rfl | rfl | rfl | rfl | rfl | rfl | rfl | rfl | rfl | rfl | rfl
      · exact retZ (by simp only [encB, encE, h]; rfl) (c_re1 al co si wi sh ds sr dp re im h w)
      · exact retZ (by simp only [encB, encE, h]; rfl) (c_re2 al co si wi sh ds sr dp re im h w)
      · exact retZ (by simp only [encB, encE, h]; rfl) (c_re3 al co si wi sh ds sr dp re im h w)
      · exact retZ (by simp only [encB, encE, h]; rfl) (c_re4 al co si wi sh ds sr dp re im h w)
      · exact retZ (by simp only [encB, encE, h]; rfl) (c_re5 al co si wi sh ds sr dp re im h w)
      · exact retZ (by simp only [encB, encE, h]; rfl) (c_re6 al co si wi sh ds sr dp re im h w)
      · exact retZ (by simp only [encB, encE, h]; rfl) (c_re7 al co si wi sh ds sr dp re im h w)
      · exact retZ (by simp only [encB, encE, h]; rfl) (c_re8 al co si wi sh ds sr dp re im h w)
      · exact retZ (by simp only [encB, encE, h]; rfl) (c_re9 al co si wi sh ds sr dp re im h w)
      · exact retZ (by simp only [encB, encE, h]; rfl) (c_re10 al co si wi sh ds sr dp re im h w)
      · exact retZ (by simp only [encB, encE, h]; rfl) (c_re11 al co si wi sh ds sr dp re im h w)
      · exact retZ (by simp only [encB, encE, h]; rfl) (c_re12 al co si wi sh ds sr dp re im h w)
      · exact retZ (by simp only [encB, encE, h]; rfl) (c_re13 al co si wi sh ds sr dp re im h w)
      · exact retZ (by simp only [encB, encE, h]; rfl) (c_re14 al co si wi sh ds sr dp re im h w)
      · exact retZ (by simp only [encB, encE, h]; rfl) (c_re15 al co si wi sh ds sr dp re im h w)
      · exact retZ (by simp only [encB, encE, h]; rfl) (c_re16 al co si wi sh ds sr dp re im h w)
      · exact retZ (by simp only [encB, encE, h]; rfl) (c_re17 al co si wi sh ds sr dp re im h w)
      · exact retZ (by simp only [encB, encE, h]; rfl) (c_re18 al co si wi sh ds sr dp re im h w)
      · exact retZ (by simp only [encB, encE, h]; rfl) (c_re19 al co si wi sh ds sr dp re im h w)
      · exact retZ (by simp only [encB, encE, h]; rfl) (c_re20 al co si wi sh ds sr dp re im h w)
      · exact retZ (by simp only [encB, encE, h]; rfl) (c_re21 al co si wi sh ds sr dp re im h w)
    · exfalso
      have nd : ∀ n : Int, 1 ≤ n → n ≤ 21 → ¬ k = n := fun n h1 h2 => by omega
      unfold vP at h
      rw [if_neg (nd 1 (by omega) (by omega)), if_neg (nd 2 (by omega) (by omega)), if_neg (nd 3 (by omega) (by omega)), if_neg (nd 4 (by omega) (by omega)), if_neg (nd 5 (by omega) (by omega)), if_neg (nd 6 (by omega) (by omega)), if_neg (nd 7 (by omega) (by omega)), if_neg (nd 8 (by omega) (by omega)), if_neg (nd 9 (by omega) (by omega)), if_neg (nd 10 (by omega) (by omega)), if_neg (nd 11 (by omega) (by omega)), if_neg (nd 12 (by omega) (by omega)), if_neg (nd 13 (by omega) (by omega)), if_neg (nd 14 (by omega) (by omega)), if_neg (nd 15 (by omega) (by omega)), if_neg (nd 16 (by omega) (by omega)), if_neg (nd 17 (by omega) (by omega)), if_neg (nd 18 (by omega) (by omega)), if_neg (nd 19 (by omega) (by omega)), if_neg (nd 20 (by omega) (by omega)), if_neg (nd 21 (by omega) (by omega))] at h
      cases h
  · exact retZ (by simp only [encB, encE, h]; rfl) (re_bad k al co si wi sh ds sr dp re im (csT' (by rw [← vPR, h]; rfl) csN') w (Laid.nil w))
end Go.Proofs.YtokeopmmnpmfeaaDoor.Ex
end
