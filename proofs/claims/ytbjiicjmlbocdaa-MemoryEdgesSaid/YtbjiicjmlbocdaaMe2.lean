/-
  The law MemoryEdges: what its rounds ask.
-/
import Derived.Test.YtbjiicjmlbocdaaMe1
namespace Go.Proofs.Ytbjiicjmlbocdaa.Ex
open Go Go.RowKit
set_option maxHeartbeats 0
set_option maxRecDepth 1000000
set_option linter.unusedVariables false
noncomputable def wu (x : Int) : Int := IntKind.u64.wrap x
noncomputable def wi (x : Int) : Int := IntKind.i64.wrap x
noncomputable def slP (s o u : Int) : Bool := (decide (0 ≤ u) && decide (u ≤ s)) && ((decide (0 ≤ o) && decide (o ≤ u)) && (decide (o = 0) || decide (o < s)))
noncomputable def cvP (cs : List Value) (o u : Int) : Int × Int := (b2i (cs.all isU8 && decide (0 + o.toNat * 1 + (u.toNat - o.toNat) ≤ cs.length)), 1)
noncomputable def mTx (cs : List Value) (o u : Int) : ByteArray := ⟨⟨((cs.drop (0 + o.toNat * 1)).take (u.toNat - o.toNat)).map u8Of⟩⟩
noncomputable def meW (cs : List Value) (o n : Int) : List Value := splice cs (0 + o.toNat * 1) ((⟨⟨b1N n⟩⟩ : ByteArray).data.toList.map fun c => Value.int .u8 c.toNat)
noncomputable def fdP (m : Nat) (F i off : Int) (c : Nat) (n : Int) : Cs :=
  match c with
  | 0 => [(b2i (decide (F + m > F + i)), 1), (b2i (decide (F > F + i)), 1)]
  | 5 => [(b2i (decide (F + m > F + i)), 0), (wu (F + i - (F + m)), off), (b2i (decide (off ≥ wu 1)), 0), (b2i (decide (wu (wu 1 - off) < wu n)), b2i !(meFit 5 n))] ++ (bif meFit 5 n then [(wi off, off)] else [])
  | 6 => [(b2i (decide (F + m > F + i)), 0), (wu (F + i - (F + m)), off), (b2i (decide (off ≥ wu 1)), 1)]
  | c => [(b2i (decide (F + m > F + i)), 1), (b2i (decide (F > F + i)), 0), (wu (F + i - F), off), (b2i (decide (off ≥ wu m)), 0), (b2i (decide (wu (wu m - off) < wu n)), b2i !(meFit c n))] ++ (bif meFit c n then [(wi off, off)] else [])
noncomputable def laP (m : Nat) (i : Int) (c : Nat) (n : Int) : Cs :=
  match c with
  | 0 => [(b2i (decide (i ≥ 0)), 0), (b2i (i == (m : Int)), 0)]
  | 5 => [(b2i (decide (i ≥ 0)), 1), (b2i (decide (wi (i + n) ≤ m)), 0), (b2i (i == (m : Int)), 1)]
  | 6 => [(b2i (decide (i ≥ 0)), 1), (b2i (decide (wi (i + n) ≤ m)), 0), (b2i (i == (m : Int)), 0)]
  | c => [(b2i (decide (i ≥ 0)), 1), (b2i (decide (wi (i + n) ≤ m)), b2i (meFit c n))] ++ (bif meFit c n then [] else [(b2i (i == (m : Int)), 0)])
noncomputable def txP (s off n : Int) (cs : List Value) : Cs := [(wi (off + n), off + n), (b2i (slP s off (off + n)), 1), cvP cs off (off + n)]
noncomputable def rdP (s off n : Int) (cs : List Value) : Cs := txP s off n cs ++ [(b2i (decide ((mTx cs off (off + n)).size ≤ 8)), 1)]
noncomputable def wrP (s off n : Int) (cs : List Value) : Cs := [(b2i (slP s off s), 1), (b2i (decide ((⟨⟨b1N n⟩⟩ : ByteArray).size ≤ s.toNat - off.toNat) && decide (0 + off.toNat * 1 + (⟨⟨b1N n⟩⟩ : ByteArray).size ≤ cs.length)), 1)]
noncomputable def nxC (off : Int) (c : Nat) (fr : Bool) (cs : List Value) (n : Int) : List Value := bif meFit c n && fr then meW cs off n else cs
noncomputable def szP (m : Nat) (F i off : Int) (c : Nat) (fr : Bool) (s : Int) (cs : List Value) (n : Int) : Cs :=
  laP m i c n ++ (fdP m F i off c n ++ ((bif meFit c n then rdP s off n cs else []) ++ (fdP m F i off c n ++ ((bif meFit c n && fr then wrP s off n cs else []) ++ (fdP m F i off c n ++ (bif meFit c n then txP s off n (nxC off c fr cs n) else []))))))
noncomputable def meCs (m : Nat) (F i off : Int) (c : Nat) (fr : Bool) (s : Int) (cs : List Value) : Cs :=
  [(b2i (decide (i < wi (m + 10))), 1), (wu (wu (F + wu m) - wu (wi (m - i))), F + i)] ++ (szP m F i off c fr s cs 1 ++ (szP m F i off c fr s (nxC off c fr cs 1) 2 ++ (szP m F i off c fr s (nxC off c fr (nxC off c fr cs 1) 2) 4
    ++ (szP m F i off c fr s (nxC off c fr (nxC off c fr (nxC off c fr cs 1) 2) 4) 8 ++ [(wi (i + 1), i + 1)]))))
/-- The cells behind a round. -/
noncomputable def meN (off : Int) (c : Nat) (fr : Bool) (cs : List Value) : List Value := nxC off c fr (nxC off c fr (nxC off c fr (nxC off c fr cs 1) 2) 4) 8
end Go.Proofs.Ytbjiicjmlbocdaa.Ex
