/-
  A region whose operations only read or call, in any order: one walk of the text's order, in the class of the worlds that meet a condition which growing keeps.
-/
import Derived.Test.YtchjneodjaakdaaBv
import Derived.Handy
import Derived.BigQuiet
namespace Go.Proofs.Ytchjneodjaakdaa
open Go.RowKit

/-- A world that meets S. -/
structure Held (S : World → Prop) where
  w : World
  h : S w
/-- 'Grown', not taken apart. -/
def Gw (a b : World) : Prop := Grown a b
theorem Gw.trans {a b c : World} (h1 : Gw a b) (h2 : Gw b c) : Gw a c :=
  ⟨World.keptBut_trans h1.1 h2.1, fun x => (h2.2.1 x).trans (h1.2.1 x), Nat.le_trans h1.2.2 h2.2.2⟩
theorem Gw.drew {a b : World} (h : Gw a b) : Gw a b.drew := Grown.drew h
theorem held_call {S : World → Prop} (keep : ∀ a b, S a → Grown a b → S b) {P : Program} {f : FuncId} {args : Array Value} {v : Value} (x : Held S)
    (h : Calls P f args x.w fun e w' => e = .returned v ∧ Grown x.w w') : Calls P f args x.w fun e w'' => e = .returned v ∧ ∃ y : Held S, w'' = y.w :=
  h.mono fun _ w'' ⟨he, hg⟩ => ⟨he, ⟨⟨w'', keep _ _ x.h hg⟩, rfl⟩⟩
theorem held_callG {W : World} {P : Program} {f : FuncId} {args : Array Value} {v : Value} (x : Held (Gw W))
    (h : Calls P f args x.w fun e w' => e = .returned v ∧ Grown x.w w') : Calls P f args x.w fun e w'' => e = .returned v ∧ ∃ y : Held (Gw W), w'' = y.w :=
  held_call (fun _ _ h hg => Gw.trans h hg) x h
theorem held_callS {S : World → Prop} {P : Program} {f : FuncId} {args : Array Value} {v : Value} (x : Held S)
    (h : Calls P f args x.w fun e w' => e = .returned v ∧ w' = x.w) : Calls P f args x.w fun e w'' => e = .returned v ∧ ∃ y : Held S, w'' = y.w :=
  h.mono fun _ _ ⟨he, hg⟩ => ⟨he, ⟨x, hg⟩⟩
theorem wp_region_lex {P : Program} {id : Nat} {Q : Exit → Act → World → Prop} {a : Act} {w : World} {l : List Oper} (S : World → Prop) (hm : P.follows .mixedOrders = true) (hB : Region.lexB .any l.toArray = true)
    (h0 : S w.drew) (h : Nonempty (Held S) → wpQuiet P l.toArray (fun w' => ∃ x : Held S, w' = x.w) (fun a' => ∀ w', S w' → Q .normal a' w') l a) : (Code.region id l.toArray true).wp P Q a w :=
  wp_region_quiet (C := fun w' => ∃ x : Held S, w' = x.w) hm hB ⟨⟨w.drew, h0⟩, rfl⟩ (by
    have h1 := h ⟨⟨w.drew, h0⟩⟩
    have e : (fun a' => ∀ w', S w' → Q .normal a' w') = (fun a' => ∀ w', (∃ x : Held S, w' = x.w) → Q .normal a' w') := by
      funext a'
      exact propext ⟨fun hh w' ⟨x, hx⟩ => hh w' (hx ▸ x.h), fun hh w' hw => hh w' ⟨⟨w', hw⟩, rfl⟩⟩
    rw [e] at h1
    simpa using h1)
end Go.Proofs.Ytchjneodjaakdaa
