/-
  The law MemoryWrite: the pairs of its runs.
-/
import Derived.Test.YtkdnjphgmifkmaaMw1
namespace Go.Proofs.Ytkdnjphgmifkmaa.Ex
open Go Go.RowKit
set_option maxHeartbeats 0
set_option maxRecDepth 1000000
set_option linter.unusedVariables false

noncomputable def wu (x : Int) : Int := IntKind.u64.wrap x
noncomputable def wi (x : Int) : Int := IntKind.i64.wrap x
noncomputable def mwC (L : List UInt8) : List Value := L.map fun c => Value.int .u8 c.toNat
noncomputable def mAt (s n ad : Int) : Int := wi (Int.tmod ad (wu (wi (wi (s - n) + 1))))
noncomputable def mA (s b n ad : Int) : Int := wu (wu b + wu (mAt s n ad))
noncomputable def mO (A B : Int) : Int := wi (wu (A - B))
noncomputable def mE (s b : Int) : Int := wu (wu b + wu s)
noncomputable def slP (s o u : Int) : Bool := (decide (0 ≤ u) && decide (u ≤ s)) && ((decide (0 ≤ o) && decide (o ≤ u)) && (decide (o = 0) || decide (o < s)))
noncomputable def fP (s A B n : Int) : Cs := [(b2i (decide (wu (A - B) ≥ wu s)), 0), (b2i (decide (wu (wu s - wu (A - B)) < wu n)), 0)]
noncomputable def room5 (n : Nat) : Bool :=
  match Try.prog.info? 5 with
  | some i => roomB i n
  | none => true
noncomputable def nW (b : Int) : Int := wu ((BitVec.ofInt 64 (if IntKind.u64.signed = true then -1 else IntKind.u64.max) ^^^ BitVec.ofInt 64 b).toNat : Int)
noncomputable def clP (L : List UInt8) : Cs := [(b2i (decide (0 < L.length) && (decide (0 + L.length ≤ (mwC L).length) && ((((mwC L).drop 0).take L.length).all (·.oneCell') && room5 L.length))), 1), (b2i (([] : List Value).all scal), 1), (b2i ((((mwC L).drop 0).take L.length).all scal), 1)]
noncomputable def mTx (cs : List Value) (o u : Int) : ByteArray := ⟨⟨((cs.drop (0 + o.toNat * 1)).take (u.toNat - o.toNat)).map u8Of⟩⟩
noncomputable def cvP (cs : List Value) (o u : Int) : Int × Int := (b2i (cs.all isU8 && decide (0 + o.toNat * 1 + (u.toNat - o.toNat) ≤ cs.length)), 1)
noncomputable def txP (s A B : Int) (cs : List Value) : Cs := fP s A B s ++ [(b2i (slP s (mO A B) (wi (mO A B + s))), 1), cvP cs (mO A B) (wi (mO A B + s))]
noncomputable def mSp (L : List UInt8) (o vv n : Int) : List Value := splice (mwC L) (0 + o.toNat * 1) ((bytesS (BitVec.ofInt 64 vv) n).data.toList.map fun c => Value.int .u8 c.toNat)
noncomputable def mwK (L : List UInt8) : List Value := ((mwC L).drop 0).take L.length
noncomputable def mS1 (L : List UInt8) (vv n at_ : Int) : ByteArray := ⟨⟨((⟨⟨L⟩⟩ : ByteArray).extract 0 at_.toNat).data.toList ++ (bytesS (BitVec.ofInt 64 vv) n).data.toList⟩⟩
noncomputable def mS2 (L : List UInt8) (at_ n : Int) : ByteArray := (⟨⟨L⟩⟩ : ByteArray).extract (wi (at_ + n)).toNat (⟨⟨L⟩⟩ : ByteArray).size
noncomputable def mwCs (L : List UInt8) (b ad vv nn q n : Int) : Cs :=
  [(b2i (decide ((L.length : Int) < 8)), 0), (b2i (decide ((L.length : Int) > 300)), 0), (wi ((BitVec.ofInt 64 nn &&& BitVec.ofInt 64 3).toNat : Int), q),
   (b2i (decide (wu (wi (wi ((L.length : Int) - n) + 1)) = 0)), 0),
   (b2i ((L.length : Int) == 0), 0), (b2i (decide (wu (L.length : Int) > nW (wu b))), 0),
   (b2i ((L.length : Int) == 0), 0), (b2i (decide (wu (L.length : Int) > nW (mE L.length b))), 0),
   (b2i (decide (cmpS (mE L.length b) (wu b) < 0)), 0), (b2i (decide (wu (mE L.length b - wu b) < wu (L.length : Int))), 0)]
  ++ (clP L ++ (clP L
  ++ ([(b2i (decide (mE L.length b > mA L.length b n ad)), 1), (b2i (decide (wu b > mA L.length b n ad)), 0)] ++ (fP L.length (mA L.length b n ad) (wu b) n
  ++ ([(b2i (slP L.length (mO (mA L.length b n ad) (wu b)) L.length), 1), (b2i (u64B vv), 1),
    (b2i (decide ((bytesS (BitVec.ofInt 64 vv) n).size ≤ L.length - (mO (mA L.length b n ad) (wu b)).toNat) && decide (0 + (mO (mA L.length b n ad) (wu b)).toNat * 1 + (bytesS (BitVec.ofInt 64 vv) n).size ≤ (mwC L).length)), 1),
    (b2i (decide (mE L.length b > mA L.length b n ad)), 1), (b2i (decide (wu b > mA L.length b n ad)), 0)] ++ (fP L.length (mA L.length b n ad) (wu b) n
  ++ ([(b2i (slP L.length (mO (mA L.length b n ad) (wu b)) (wi (mO (mA L.length b n ad) (wu b) + n))), 1), cvP (mSp L (mO (mA L.length b n ad) (wu b)) vv n) (mO (mA L.length b n ad) (wu b)) (wi (mO (mA L.length b n ad) (wu b) + n)),
    (b2i (decide ((mTx (mSp L (mO (mA L.length b n ad) (wu b)) vv n) (mO (mA L.length b n ad) (wu b)) (wi (mO (mA L.length b n ad) (wu b) + n))).size ≤ 8)), 1),
    (b2i (decide ((L.length : Int) < 0)), 0), (b2i ((L.length : Int) == 0), 0), (b2i (decide (mE L.length b > wu b)), 1), (b2i (decide (wu b > wu b)), 0)] ++ (txP L.length (wu b) (wu b) (mSp L (mO (mA L.length b n ad) (wu b)) vv n)
  ++ ([(b2i (decide ((L.length : Int) < 0)), 0), (b2i ((L.length : Int) == 0), 0), (b2i (decide (mE L.length b > wu b)), 1), (b2i (decide (wu b > wu b)), 0)] ++ (txP L.length (wu b) (wu b) (mwK L)
  ++ ([(b2i (decide ((L.length : Int) < 0)), 0), (b2i ((L.length : Int) == 0), 0), (b2i (decide (mE L.length b > mE L.length b)), 0)] ++ (txP L.length (mE L.length b) (mE L.length b) (mwC L)
  ++ [(b2i (u64B vv && (decide (0 ≤ wi (8 * n)) && decide (wi (8 * n) ≤ 64))), 1),
    (b2i (N (numS (mTx (mSp L (mO (mA L.length b n ad) (wu b)) vv n) (mO (mA L.length b n ad) (wu b)) (wi (mO (mA L.length b n ad) (wu b) + n)))) == N (lowS (BitVec.ofInt 64 vv) (wi (8 * n)))), 1),
    (b2i (decide (0 ≤ mAt L.length n ad) && decide (mAt L.length n ad ≤ (L.length : Int))), 1), (b2i (u64B vv), 1),
    (b2i (decide (((((⟨⟨L⟩⟩ : ByteArray).extract 0 (mAt L.length n ad).toNat).size + (bytesS (BitVec.ofInt 64 vv) n).size : Nat) : Int) ≤ 9223372036854775807)), 1),
    (b2i (decide (0 ≤ wi (mAt L.length n ad + n)) && decide (wi (mAt L.length n ad + n) ≤ (L.length : Int))), 1),
    (b2i (decide ((((mS1 L vv n (mAt L.length n ad)).size + (mS2 L (mAt L.length n ad) n).size : Nat) : Int) ≤ 9223372036854775807)), 1),
    (b2i ((mTx (mSp L (mO (mA L.length b n ad) (wu b)) vv n) (mO (wu b) (wu b)) (wi (mO (wu b) (wu b) + L.length))).data.toList == ((mS1 L vv n (mAt L.length n ad)).data.toList ++ (mS2 L (mAt L.length n ad) n).data.toList)), 1),
    (b2i ((mTx (mwK L) (mO (wu b) (wu b)) (wi (mO (wu b) (wu b) + L.length))).data.toList == L), 1),
    (b2i ((mTx (mwC L) (mO (mE L.length b) (mE L.length b)) (wi (mO (mE L.length b) (mE L.length b) + L.length))).data.toList == L), 1)]))))))))))))
end Go.Proofs.Ytkdnjphgmifkmaa.Ex
