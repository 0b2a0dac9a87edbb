/-
  Lemmas for the laws of this seat: Sk36, Sk37, Sk38, Sk39, Sk40, Sk41, Sk42.
-/
import Derived.Test.YtebolmfdglmpoaaSkI
import Derived.Test.YtebolmfdglmpoaaSkF
import Derived.Test.YtebolmfdglmpoaaSkG
section
namespace Go.Proofs.Ytebolmfdglmpoaa.Ex
open Go Go.RowKit
set_option maxHeartbeats 0
set_option maxRecDepth 1000000
set_option linter.unusedVariables false
set_option linter.unusedSectionVars false
abbrev fiF : FuncId := 29
noncomputable abbrev fiLp : Code := theLoopN Try.prog fiF 0
theorem fi_one : oneLoopN Try.prog fiF 0 = true := by kernel_rfl
noncomputable def fiT (i : Nat) (β : Nat → Value) : List Value := [β 0, β 1, .pointer (some ⟨0, 0, none⟩), .pointer (some ⟨1, 0, none⟩), .bool false, .map (some 2), β 6, β 7, .int .i64 (i : Int), β 9, β 10, β 11, β 12, β 13, β 14, β 15, β 16, β 17, β 18, β 19, β 20, β 21, β 22, β 23, β 24, β 25, β 26, β 27, β 28]
def fiTZ : List Nat := [1, 1, 0, 0, 0, 0, 1, 1, 0, 1, 1, 1, 1, 1, 1, 1, 1, 1, 1, 1, 1, 1, 1, 1, 1, 1, 1, 1, 1]
noncomputable def fiH (A B M : List Value) : List AO := [⟨true, none, A⟩, ⟨true, none, B⟩, ⟨true, some 0, M⟩]
noncomputable def tiT (k : Nat) (β : Nat → Value) : List Value := [β 0, β 1, .map (some 2), .pointer (some ⟨3, 0, none⟩), .pointer (some ⟨4, 0, none⟩), β 5, β 6, β 7, .int .i64 (k : Int), β 9, β 10, β 11, β 12, β 13, β 14, β 15, β 16, β 17, β 18, β 19, β 20]
def tiTZ : List Nat := [1, 1, 0, 0, 0, 1, 1, 1, 0, 1, 1, 1, 1, 1, 1, 1, 1, 1, 1, 1, 1]
noncomputable def tiH (F G M A B : List Value) : List AO := [⟨true, none, F⟩, ⟨true, none, G⟩, ⟨true, some 0, M⟩, ⟨true, none, A⟩, ⟨true, none, B⟩]
/-- What is asked of one value: 0: nothing; 2: a number; 3: another address; 4, 5: an ID of a map's value, that is known, or new; 6, 7: of a packet; 8: it is of another kind. -/
noncomputable def kiO (cl : Nat) (x : Int) : Orc := fun f t _ =>
  if Nat.beq f 49 then
    match t with
    | 10 => some (.bool (Nat.beq cl 0))
    | 16 => some (.bool (Nat.beq cl 8))
    | 20 => some (.bool (Nat.beq cl 2))
    | 31 => some (.bool false)
    | 37 => some (.bool false)
    | 44 => some (.bool false)
    | 57 => some (.bool (Nat.beq cl 4 || Nat.beq cl 5))
    | 61 => some (.bool (Nat.beq cl 6 || Nat.beq cl 7))
    | _ => none
  else if Nat.beq f 53 then
    match t with
    | 14 => some (tld (bif Nat.beq cl 4 || Nat.beq cl 6 then .int .i64 x else .bool false))
    | 20 => some (.bool true)
    | t => if Nat.beq t 1000001 then some (.map none) else none
  else none
noncomputable def fiO (A B : List Value) (i cl : Nat) (g : Bool) : Orc := fun f t c =>
  if Nat.beq f fiF then
    match t with
    | 9 => some (.bool g)
    | 13 => some .nilIface
    | 14 => some (tld (.agg ⟨vL (vAt A (0 + 0 + i * 11))⟩))
    | 17 => some .nilIface
    | 18 => some (tld (.agg ⟨vL (vAt B (0 + 0 + i * 11))⟩))
    | 20 => some .nilFunc
    | 22 => some (.int .i64 ((i + 1 : Nat) : Int))
    | _ => none
  else kiO cl (vAt A (0 + 0 + i * 11)).i f t c
noncomputable def tiO (A B : List Value) (k cl : Nat) (g : Bool) : Orc := fun f t c =>
  if Nat.beq f inF then
    match t with
    | 9 => some (.bool g)
    | 12 => some .nilIface
    | 13 => some (tld (.agg ⟨pL A (0 + k * 12)⟩))
    | 15 => some .nilIface
    | 16 => some (tld (.agg ⟨pL B (0 + k * 12)⟩))
    | 18 => some .nilFunc
    | 20 => some (.int .i64 ((k + 1 : Nat) : Int))
    | _ => none
  else if Nat.beq f 31 then
    match t with
    | 13 => some (.bool false)
    | 18 => some (.bool (Nat.ble 2 cl))
    | 27 => some (.bool (Nat.beq cl 0))
    | 32 => some (.bool true)
    | _ => none
  else kiO cl (vAt A (0 + k * 12 + 1)).i f t c
noncomputable def kiE (v w : VI) : Cs := [(b2i (v.m != w.m), 0), (b2i (v.o != w.o), 0), (b2i (decide (v.s > w.s)), 0)] ++ inSc v w
noncomputable def kiP (cl : Nat) (v w : VI) (M : List Value) : Cs :=
  bif Nat.beq cl 0 then [(b2i (v.k == 0), 1)]
  else bif Nat.beq cl 8 then [(b2i (v.k == 0), 0), (b2i (v.k != w.k), 1)]
  else [(b2i (v.k == 0), 0), (b2i (v.k != w.k), 0)] ++
  (bif Nat.beq cl 2 then [(b2i (v.k == 1), 1)] ++ inSc v w
   else [(b2i (v.k == 1), 0)] ++ (kiE v w ++ (
    bif Nat.beq cl 3 then [(b2i (v.k == 6), 0), (b2i (v.k == 7), 0)]
    else (bif Nat.beq cl 4 || Nat.beq cl 5 then [(b2i (v.k == 6), 1)] else [(b2i (v.k == 6), 0), (b2i (v.k == 7), 1)]) ++
     (bif Nat.beq cl 4 || Nat.beq cl 6 then [(b2i (mapB .i64 v.i M .i64 v.i), 1), (b2i (v.i == w.i), 1)] else [(b2i (mapN .i64 v.i M), 1), (b2i (mapN .i64 v.i M), 1)]))))
noncomputable def fiP (A B : List Value) (i cl : Nat) (M : List Value) : Cs := [(b2i (decide ((i : Int) < 11)), 1)] ++ (sdJ i 11 ++ (ldP A (0 + 0 + i * 11) 11 (vL (vAt A (0 + 0 + i * 11))) ++ (sdJ i 11 ++ (ldP B (0 + 0 + i * 11) 11 (vL (vAt B (0 + 0 + i * 11))) ++ kiP cl (vAt A (0 + 0 + i * 11)) (vAt B (0 + 0 + i * 11)) M))))
noncomputable def tiP (A B : List Value) (k cl : Nat) (M : List Value) : Cs := inA A B k false ++ (
  bif Nat.beq cl 0 then inC0 (pc A (0 + k * 12)) (vAt A (0 + k * 12 + 1)) else bif Nat.beq cl 1 then inC1 (pc A (0 + k * 12)) (vAt A (0 + k * 12 + 1)) (vAt B (0 + k * 12 + 1))
  else [(b2i ((vAt A (0 + k * 12 + 1)).k != 0), 1)] ++ kiP cl (vAt A (0 + k * 12 + 1)) (vAt B (0 + k * 12 + 1)) M)
noncomputable def enT (a b : Int) : Value := .tuple ⟨[.int .i64 a, .int .i64 b]⟩
noncomputable def mapM (cl : Nat) (M : List Value) (a b : Int) : List Value := bif Nat.beq cl 5 || Nat.beq cl 7 then M ++ [enT a b] else M
def fiC (k : Nat) : Bool := Nat.beq k 6 || Nat.ble 9 k && Nat.ble k 22
def tiC (k : Nat) : Bool := Nat.beq k 7 || Nat.ble 9 k && Nat.ble k 20
end Go.Proofs.Ytebolmfdglmpoaa.Ex
end
section
namespace Go.Proofs.Ytebolmfdglmpoaa.Ex
open Go Go.RowKit
set_option maxHeartbeats 0
set_option maxRecDepth 1000000
set_option linter.unusedVariables false
set_option linter.unusedSectionVars false
theorem fi_h0 (A B M : List Value) (i : Nat) (β : Nat → Value) : (hopRunL Try.prog in3 (fiO A B i 0 true) noLoop fiF fiLp 1 3 [] (fiT i β) (fiH A B M)).map (fun x => (maskZ 3 fiTZ x.1, pickZ fiTZ x.1, x.2)) = some ((fiT (i + 1) fun k => bif fiC k then .bool true else .bool (okR 3 (β k))).map (reV (keepF 3 []) 6), [], fiH A B M, none, inter (fiP A B i 0 M ++ frI i)) := by kernel_rfl
theorem fi_h2 (A B M : List Value) (i : Nat) (β : Nat → Value) : (hopRunL Try.prog in3 (fiO A B i 2 true) noLoop fiF fiLp 1 3 [] (fiT i β) (fiH A B M)).map (fun x => (maskZ 3 fiTZ x.1, pickZ fiTZ x.1, x.2)) = some ((fiT (i + 1) fun k => bif fiC k then .bool true else .bool (okR 3 (β k))).map (reV (keepF 3 []) 6), [], fiH A B M, none, inter (fiP A B i 2 M ++ frI i)) := by kernel_rfl
theorem fi_h3 (A B M : List Value) (i : Nat) (β : Nat → Value) : (hopRunL Try.prog in3 (fiO A B i 3 true) noLoop fiF fiLp 1 3 [] (fiT i β) (fiH A B M)).map (fun x => (maskZ 3 fiTZ x.1, pickZ fiTZ x.1, x.2)) = some ((fiT (i + 1) fun k => bif fiC k then .bool true else .bool (okR 3 (β k))).map (reV (keepF 3 []) 6), [], fiH A B M, none, inter (fiP A B i 3 M ++ frI i)) := by kernel_rfl
theorem fi_h4 (A B M : List Value) (i : Nat) (β : Nat → Value) : (hopRunL Try.prog in3 (fiO A B i 4 true) noLoop fiF fiLp 1 3 [] (fiT i β) (fiH A B M)).map (fun x => (maskZ 3 fiTZ x.1, pickZ fiTZ x.1, x.2)) = some ((fiT (i + 1) fun k => bif fiC k then .bool true else .bool (okR 3 (β k))).map (reV (keepF 3 []) 6), [], fiH A B M, none, inter (fiP A B i 4 M ++ frI i)) := by kernel_rfl
theorem fi_h5 (A B M : List Value) (i : Nat) (β : Nat → Value) : (hopRunL Try.prog in3 (fiO A B i 5 true) noLoop fiF fiLp 1 3 [] (fiT i β) (fiH A B M)).map (fun x => (maskZ 3 fiTZ x.1, pickZ fiTZ x.1, x.2)) = some ((fiT (i + 1) fun k => bif fiC k then .bool true else .bool (okR 3 (β k))).map (reV (keepF 3 []) 6), [], fiH A B (mapM 5 M (vAt A (0 + 0 + i * 11)).i (vAt B (0 + 0 + i * 11)).i), some 2, inter (fiP A B i 5 M ++ frI i)) := by kernel_rfl
theorem fi_h6 (A B M : List Value) (i : Nat) (β : Nat → Value) : (hopRunL Try.prog in3 (fiO A B i 6 true) noLoop fiF fiLp 1 3 [] (fiT i β) (fiH A B M)).map (fun x => (maskZ 3 fiTZ x.1, pickZ fiTZ x.1, x.2)) = some ((fiT (i + 1) fun k => bif fiC k then .bool true else .bool (okR 3 (β k))).map (reV (keepF 3 []) 6), [], fiH A B M, none, inter (fiP A B i 6 M ++ frI i)) := by kernel_rfl
theorem fi_h7 (A B M : List Value) (i : Nat) (β : Nat → Value) : (hopRunL Try.prog in3 (fiO A B i 7 true) noLoop fiF fiLp 1 3 [] (fiT i β) (fiH A B M)).map (fun x => (maskZ 3 fiTZ x.1, pickZ fiTZ x.1, x.2)) = some ((fiT (i + 1) fun k => bif fiC k then .bool true else .bool (okR 3 (β k))).map (reV (keepF 3 []) 6), [], fiH A B (mapM 7 M (vAt A (0 + 0 + i * 11)).i (vAt B (0 + 0 + i * 11)).i), some 2, inter (fiP A B i 7 M ++ frI i)) := by kernel_rfl
theorem ti_h0 (F G A B M : List Value) (k : Nat) (β : Nat → Value) : (hopRunL Try.prog in3 (tiO A B k 0 true) noLoop inF inLp 1 5 [] (tiT k β) (tiH F G M A B)).map (fun x => (maskZ 5 tiTZ x.1, pickZ tiTZ x.1, x.2)) = some ((tiT (k + 1) fun k => bif tiC k then .bool true else .bool (okR 5 (β k))).map (reV (keepF 5 []) 6), [], tiH F G M A B, none, inter (tiP A B k 0 M ++ frI k)) := by kernel_rfl
theorem ti_h1 (F G A B M : List Value) (k : Nat) (β : Nat → Value) : (hopRunL Try.prog in3 (tiO A B k 1 true) noLoop inF inLp 1 5 [] (tiT k β) (tiH F G M A B)).map (fun x => (maskZ 5 tiTZ x.1, pickZ tiTZ x.1, x.2)) = some ((tiT (k + 1) fun k => bif tiC k then .bool true else .bool (okR 5 (β k))).map (reV (keepF 5 []) 6), [], tiH F G M A B, none, inter (tiP A B k 1 M ++ frI k)) := by kernel_rfl
theorem ti_h2 (F G A B M : List Value) (k : Nat) (β : Nat → Value) : (hopRunL Try.prog in3 (tiO A B k 2 true) noLoop inF inLp 1 5 [] (tiT k β) (tiH F G M A B)).map (fun x => (maskZ 5 tiTZ x.1, pickZ tiTZ x.1, x.2)) = some ((tiT (k + 1) fun k => bif tiC k then .bool true else .bool (okR 5 (β k))).map (reV (keepF 5 []) 6), [], tiH F G M A B, none, inter (tiP A B k 2 M ++ frI k)) := by kernel_rfl
theorem ti_h3 (F G A B M : List Value) (k : Nat) (β : Nat → Value) : (hopRunL Try.prog in3 (tiO A B k 3 true) noLoop inF inLp 1 5 [] (tiT k β) (tiH F G M A B)).map (fun x => (maskZ 5 tiTZ x.1, pickZ tiTZ x.1, x.2)) = some ((tiT (k + 1) fun k => bif tiC k then .bool true else .bool (okR 5 (β k))).map (reV (keepF 5 []) 6), [], tiH F G M A B, none, inter (tiP A B k 3 M ++ frI k)) := by kernel_rfl
theorem ti_h4 (F G A B M : List Value) (k : Nat) (β : Nat → Value) : (hopRunL Try.prog in3 (tiO A B k 4 true) noLoop inF inLp 1 5 [] (tiT k β) (tiH F G M A B)).map (fun x => (maskZ 5 tiTZ x.1, pickZ tiTZ x.1, x.2)) = some ((tiT (k + 1) fun k => bif tiC k then .bool true else .bool (okR 5 (β k))).map (reV (keepF 5 []) 6), [], tiH F G M A B, none, inter (tiP A B k 4 M ++ frI k)) := by kernel_rfl
theorem ti_h5 (F G A B M : List Value) (k : Nat) (β : Nat → Value) : (hopRunL Try.prog in3 (tiO A B k 5 true) noLoop inF inLp 1 5 [] (tiT k β) (tiH F G M A B)).map (fun x => (maskZ 5 tiTZ x.1, pickZ tiTZ x.1, x.2)) = some ((tiT (k + 1) fun k => bif tiC k then .bool true else .bool (okR 5 (β k))).map (reV (keepF 5 []) 6), [], tiH F G (mapM 5 M (vAt A (0 + k * 12 + 1)).i (vAt B (0 + k * 12 + 1)).i) A B, some 2, inter (tiP A B k 5 M ++ frI k)) := by kernel_rfl
theorem ti_h6 (F G A B M : List Value) (k : Nat) (β : Nat → Value) : (hopRunL Try.prog in3 (tiO A B k 6 true) noLoop inF inLp 1 5 [] (tiT k β) (tiH F G M A B)).map (fun x => (maskZ 5 tiTZ x.1, pickZ tiTZ x.1, x.2)) = some ((tiT (k + 1) fun k => bif tiC k then .bool true else .bool (okR 5 (β k))).map (reV (keepF 5 []) 6), [], tiH F G M A B, none, inter (tiP A B k 6 M ++ frI k)) := by kernel_rfl
theorem ti_h7 (F G A B M : List Value) (k : Nat) (β : Nat → Value) : (hopRunL Try.prog in3 (tiO A B k 7 true) noLoop inF inLp 1 5 [] (tiT k β) (tiH F G M A B)).map (fun x => (maskZ 5 tiTZ x.1, pickZ tiTZ x.1, x.2)) = some ((tiT (k + 1) fun k => bif tiC k then .bool true else .bool (okR 5 (β k))).map (reV (keepF 5 []) 6), [], tiH F G (mapM 7 M (vAt A (0 + k * 12 + 1)).i (vAt B (0 + k * 12 + 1)).i) A B, some 2, inter (tiP A B k 7 M ++ frI k)) := by kernel_rfl
noncomputable def fiR (β : Nat → Value) : List Value := [β 0, β 1, β 2, β 3, .bool false, β 5, β 6, β 7, β 8, β 9, β 10, β 11, β 12, β 13, β 14, β 15, β 16, β 17, β 18, β 19, β 20, β 21, β 22, β 23, β 24, β 25, β 26, β 27, β 28]
def fiRs : List Bool := [true, true, true, true, false, true, true, true, true, true, true, true, true, true, true, true, true, true, true, true, true, true, true, true, true, true, true, true, true]
noncomputable def fiN (β : Nat → Value) : List Value := [β 0, β 1, .pointer (some ⟨0, 0, none⟩), .pointer (some ⟨1, 0, none⟩), β 4, .map (some 2), β 6, β 7, β 8, β 9, β 10, β 11, β 12, β 13, β 14, β 15, β 16, β 17, β 18, β 19, β 20, β 21, β 22, β 23, β 24, β 25, β 26, β 27, β 28]
def fiNs : List Bool := [true, true, false, false, true, false, true, true, true, true, true, true, true, true, true, true, true, true, true, true, true, true, true, true, true, true, true, true, true]
noncomputable def tiN (β : Nat → Value) : List Value := [β 0, β 1, β 2, β 3, β 4, β 5, β 6, β 7, β 8, β 9, β 10, β 11, β 12, β 13, β 14, β 15, β 16, β 17, β 18, β 19, β 20]
def tiNs : List Bool := [true, true, true, true, true, true, true, true, true, true, true, true, true, true, true, true, true, true, true, true, true]
theorem fi_ret (A B M : List Value) (i : Nat) (β : Nat → Value) : (loopN (bodyL Try.prog in3 (fiO A B i 8 true) noLoop fiF fiLp) 1 ⟨fiT i β, fiH A B M, (none, [])⟩).map (fun r => (r.1, maskQ fiRs r.2.t, r.2.h, r.2.m.1, inter r.2.m.2)) = some (.ret, fiR fun _ => .bool true, fiH A B M, none, inter (fiP A B i 8 M)) := by kernel_rfl
theorem fi_end (A B M : List Value) (β : Nat → Value) : (loopN (bodyL Try.prog in3 (fiO A B 11 0 false) noLoop fiF fiLp) 1 ⟨fiT 11 β, fiH A B M, (none, [])⟩).map (fun r => (r.1, maskQ fiNs r.2.t, r.2.h, r.2.m.1, inter r.2.m.2)) = some (.exit 0, fiN fun _ => .bool true, fiH A B M, none, inter [(b2i (decide (((11 : Nat) : Int) < 11)), 0)]) := by kernel_rfl
theorem ti_end (F G A B M : List Value) (β : Nat → Value) : (loopN (bodyL Try.prog in3 (tiO A B 64 0 false) noLoop inF inLp) 1 ⟨tiT 64 β, tiH F G M A B, (none, [])⟩).map (fun r => (r.1, maskQ tiNs r.2.t, r.2.h, r.2.m.1, inter r.2.m.2)) = some (.exit 0, tiN fun _ => .bool true, tiH F G M A B, none, inter [(b2i (decide (((64 : Nat) : Int) < 64)), 0)]) := by kernel_rfl
end Go.Proofs.Ytebolmfdglmpoaa.Ex
end
section
namespace Go.Proofs.Ytebolmfdglmpoaa.Ex
open Go Go.RowKit
set_option maxHeartbeats 0
set_option maxRecDepth 1000000
set_option linter.unusedVariables false
set_option linter.unusedSectionVars false
/-- Each ID stands for itself. -/
def OkM (M : List Value) : Prop := ∀ e ∈ M, ∃ x, e = enT x x
theorem OkM.nil : OkM [] := fun e he => by cases he
theorem OkM.new {M : List Value} (h : OkM M) (x : Int) : OkM (M ++ [enT x x]) := fun e he => by
  rcases List.mem_append.1 he with he | he
  · exact h e he
  · exact ⟨x, List.mem_singleton.1 he⟩
theorem OkM.flats {M : List Value} (h : OkM M) : M.all Ex.flat = true := List.all_eq_true.2 fun e he => by
  obtain ⟨x, rfl⟩ := h e he
  rfl
theorem OkM.find {M : List Value} (h : OkM M) (a : Int) : ∀ (n i : Nat), (∃ j, Instr.findNow (.int .i64) (.int .i64 a) (ents n M) i = some (some (j, .int .i64 a))) ∨ Instr.findNow (.int .i64) (.int .i64 a) (ents n M) i = some none := by
  induction M with
  | nil => exact fun n i => .inr rfl
  | cons e r ih =>
    intro n i
    obtain ⟨x, rfl⟩ := h e (List.mem_cons_self ..)
    have hk : keyOf (enT x x) = .int .i64 x := rfl
    have hv : valOf (enT x x) = .int .i64 x := rfl
    cases h0 : a == x with
    | true =>
      have : a = x := by simpa using h0
      subst this
      refine .inl ⟨i, ?_⟩
      simp only [ents, Instr.findNow, hk, hv, Instr.sameNow, h0, if_true]
    | false =>
      have := ih (fun e he => h e (List.mem_cons_of_mem _ he)) (n + 1) (i + 1)
      simp only [ents, Instr.findNow, hk, Instr.sameNow, h0, if_true]
      exact this
theorem OkM.asked {M : List Value} (h : OkM M) (a : Int) : mapB .i64 a M .i64 a = true ∨ mapN .i64 a M = true := by
  rcases h.find a 0 0 with ⟨j, e⟩ | e
  · left
    unfold mapB mFind
    rw [e]
    simp only [beq_self_eq_true, Bool.and_true]
    rfl
  · right
    unfold mapN mFind
    rw [e]
theorem sc_ok {v : VI} (hs : selfT v.t v.u = true) : AE (inSc v v) := AE.consP (prP_ok rfl) (AE.cons (bt hs) AE.nil)
theorem kiE_ok {v : VI} (hs : selfT v.t v.u = true) : AE (kiE v v) := AE.app (AE.cons (bf (bne_f rfl)) (AE.cons (bf (bne_f rfl)) (AE.cons (b0 (by omega)) AE.nil))) (sc_ok hs)
section
variable {v w : VI} {M : List Value}
theorem ki0 (h : v.k = 0) : AE (kiP 0 v w M) := AE.cons (bt (beq_t h)) AE.nil
theorem ki8 (h0 : v.k ≠ 0) (h1 : v.k ≠ w.k) : AE (kiP 8 v w M) := AE.cons (bf (beq_f h0)) (AE.cons (bt (bne_t h1)) AE.nil)
theorem ki2 (h0 : v.k ≠ 0) (h1 : v.k = 1) (hs : selfT v.t v.u = true) : AE (kiP 2 v v M) := AE.app (AE.cons (bf (beq_f h0)) (AE.cons (bf (bne_f rfl)) AE.nil)) (AE.app (AE.cons (bt (beq_t h1)) AE.nil) (sc_ok hs))
theorem ki3 (h0 : v.k ≠ 0) (h1 : v.k ≠ 1) (h6 : v.k ≠ 6) (h7 : v.k ≠ 7) (hs : selfT v.t v.u = true) : AE (kiP 3 v v M) := AE.app (AE.cons (bf (beq_f h0)) (AE.cons (bf (bne_f rfl)) AE.nil)) (AE.app (AE.cons (bf (beq_f h1)) AE.nil) (AE.app (kiE_ok hs) (AE.cons (bf (beq_f h6)) (AE.cons (bf (beq_f h7)) AE.nil))))
theorem ki4 (h0 : v.k ≠ 0) (h1 : v.k ≠ 1) (h6 : v.k = 6) (hs : selfT v.t v.u = true) (hm : mapB .i64 v.i M .i64 v.i = true) : AE (kiP 4 v v M) := AE.app (AE.cons (bf (beq_f h0)) (AE.cons (bf (bne_f rfl)) AE.nil)) (AE.app (AE.cons (bf (beq_f h1)) AE.nil) (AE.app (kiE_ok hs) (AE.app (AE.cons (bt (beq_t h6)) AE.nil) (AE.cons (bt hm) (AE.cons (bt (beq_t rfl)) AE.nil)))))
theorem ki5 (h0 : v.k ≠ 0) (h1 : v.k ≠ 1) (h6 : v.k = 6) (hs : selfT v.t v.u = true) (hm : mapN .i64 v.i M = true) : AE (kiP 5 v v M) := AE.app (AE.cons (bf (beq_f h0)) (AE.cons (bf (bne_f rfl)) AE.nil)) (AE.app (AE.cons (bf (beq_f h1)) AE.nil) (AE.app (kiE_ok hs) (AE.app (AE.cons (bt (beq_t h6)) AE.nil) (AE.cons (bt hm) (AE.cons (bt hm) AE.nil)))))
theorem ki6 (h0 : v.k ≠ 0) (h1 : v.k ≠ 1) (h6 : v.k ≠ 6) (h7 : v.k = 7) (hs : selfT v.t v.u = true) (hm : mapB .i64 v.i M .i64 v.i = true) : AE (kiP 6 v v M) := AE.app (AE.cons (bf (beq_f h0)) (AE.cons (bf (bne_f rfl)) AE.nil)) (AE.app (AE.cons (bf (beq_f h1)) AE.nil) (AE.app (kiE_ok hs) (AE.app (AE.cons (bf (beq_f h6)) (AE.cons (bt (beq_t h7)) AE.nil)) (AE.cons (bt hm) (AE.cons (bt (beq_t rfl)) AE.nil)))))
theorem ki7 (h0 : v.k ≠ 0) (h1 : v.k ≠ 1) (h6 : v.k ≠ 6) (h7 : v.k = 7) (hs : selfT v.t v.u = true) (hm : mapN .i64 v.i M = true) : AE (kiP 7 v v M) := AE.app (AE.cons (bf (beq_f h0)) (AE.cons (bf (bne_f rfl)) AE.nil)) (AE.app (AE.cons (bf (beq_f h1)) AE.nil) (AE.app (kiE_ok hs) (AE.app (AE.cons (bf (beq_f h6)) (AE.cons (bt (beq_t h7)) AE.nil)) (AE.cons (bt hm) (AE.cons (bt hm) AE.nil)))))
end
def selfW (v : VI) : Prop := v.k = 0 ∨ selfT v.t v.u = true
/-- A register lets in another one: it has nothing; or they are the same. -/
def fiRt (A B : List Value) (i : Nat) : Prop := (vAt A (0 + 0 + i * 11)).k = 0 ∨ (vAt A (0 + 0 + i * 11) = vAt B (0 + 0 + i * 11) ∧ selfW (vAt A (0 + 0 + i * 11)))
def tiRt (A B : List Value) (k : Nat) : Prop := pc A (0 + k * 12) = pc B (0 + k * 12) ∧ vAt A (0 + k * 12 + 1) = vAt B (0 + k * 12 + 1) ∧ selfW (vAt A (0 + k * 12 + 1))
theorem OkF.reg0 {F : List Value} (h : OkF F) {i : Nat} (hi : i < 11) : (F.drop (0 + 0 + i * 11)).take 11 = vL (vAt F (0 + 0 + i * 11)) := by
  rw [show 0 + 0 + i * 11 = i * 11 by omega]
  exact h.reg hi
theorem fiP_ok {A B M : List Value} (ha : OkF A) (hb : OkF B) {i cl : Nat} (hi : i < 11) (h : AE (kiP cl (vAt A (0 + 0 + i * 11)) (vAt B (0 + 0 + i * 11)) M)) : AE (fiP A B i cl M) :=
  AE.app (AE.cons (b1 (by omega)) AE.nil) (AE.app (sdJ_ok hi) (AE.app (ldP_ok (by rw [ha.1]; omega) (ha.reg0 hi)) (AE.app (sdJ_ok hi) (AE.app (ldP_ok (by rw [hb.1]; omega) (hb.reg0 hi)) h))))
theorem fiH_flat {A B M : List Value} (ha : OkF A) (hb : OkF B) (hM : OkM M) : flatH (fiH A B M) = true := by
  unfold flatH fiH
  simp only [List.all_cons, List.all_nil, ha.flats, hb.flats, hM.flats, Bool.and_true]
theorem tiH_flat {F G A B M : List Value} (hf : OkF F) (hg : OkF G) (ha : OkS A) (hb : OkS B) (hM : OkM M) : flatH (tiH F G M A B) = true := by
  unfold flatH tiH
  simp only [List.all_cons, List.all_nil, hf.flats, hg.flats, ha.flats, hb.flats, hM.flats, Bool.and_true]
theorem fi_step {A B : List Value} (ha : OkF A) (hb : OkF B) {i : Nat} (hi : i < 11) {M : List Value} (hM : OkM M) {β : Nat → Value} (hβ : FlR 3 β) (h : fiRt A B i) :
    ∃ β' M', FlR 3 β' ∧ OkM M' ∧ HopQ Try.prog fiLp 1 3 (fiT i β) (fiH A B M) (fiT (i + 1) β') (fiH A B M') (some 2, []) := by
  by_cases h0 : (vAt A (0 + 0 + i * 11)).k = 0
  · obtain ⟨β', f, q⟩ := hopF_ok noNG in3_ok noLoop_low (noLoop_ok _) fi_one [] (T := fiT (i + 1)) (zs := fiTZ) (fun β => rfl) fiC hβ (fi_h0 A B M i β) rfl (fiH_flat ha hb hM) (by decide) (by show 3 ≤ 3; decide) (by kernel_rfl) (by kernel_rfl) (AE.app (fiP_ok ha hb hi (ki0 h0)) (frI_ok (by omega)))
    exact ⟨β', _, f, hM, q.weak (bndW rfl)⟩
  · obtain ⟨e, hs⟩ := h.resolve_left h0
    have hs := hs.resolve_left h0
    by_cases h1 : (vAt A (0 + 0 + i * 11)).k = 1
    · obtain ⟨β', f, q⟩ := hopF_ok noNG in3_ok noLoop_low (noLoop_ok _) fi_one [] (T := fiT (i + 1)) (zs := fiTZ) (fun β => rfl) fiC hβ (fi_h2 A B M i β) rfl (fiH_flat ha hb hM) (by decide) (by show 3 ≤ 3; decide) (by kernel_rfl) (by kernel_rfl) (AE.app (fiP_ok ha hb hi (by rw [← e]; exact ki2 h0 h1 hs)) (frI_ok (by omega)))
      exact ⟨β', _, f, hM, q.weak (bndW rfl)⟩
    · by_cases h6 : (vAt A (0 + 0 + i * 11)).k = 6
      · rcases hM.asked (vAt A (0 + 0 + i * 11)).i with hm | hm
        · obtain ⟨β', f, q⟩ := hopF_ok noNG in3_ok noLoop_low (noLoop_ok _) fi_one [] (T := fiT (i + 1)) (zs := fiTZ) (fun β => rfl) fiC hβ (fi_h4 A B M i β) rfl (fiH_flat ha hb hM) (by decide) (by show 3 ≤ 3; decide) (by kernel_rfl) (by kernel_rfl) (AE.app (fiP_ok ha hb hi (by rw [← e]; exact ki4 h0 h1 h6 hs hm)) (frI_ok (by omega)))
          exact ⟨β', _, f, hM, q.weak (bndW rfl)⟩
        · have hop := fi_h5 A B M i β
          rw [show mapM 5 M (vAt A (0 + 0 + i * 11)).i (vAt B (0 + 0 + i * 11)).i = M ++ [enT (vAt A (0 + 0 + i * 11)).i (vAt A (0 + 0 + i * 11)).i] by rw [← e]; rfl] at hop
          obtain ⟨β', f, q⟩ := hopF_ok noNG in3_ok noLoop_low (noLoop_ok _) fi_one [] (T := fiT (i + 1)) (zs := fiTZ) (fun β => rfl) fiC hβ hop rfl (fiH_flat ha hb (hM.new _)) (by decide) (by show 3 ≤ 3; decide) (by kernel_rfl) (by kernel_rfl) (AE.app (fiP_ok ha hb hi (by rw [← e]; exact ki5 h0 h1 h6 hs hm)) (frI_ok (by omega)))
          exact ⟨β', _, f, hM.new _, q⟩
      · by_cases h7 : (vAt A (0 + 0 + i * 11)).k = 7
        · rcases hM.asked (vAt A (0 + 0 + i * 11)).i with hm | hm
          · obtain ⟨β', f, q⟩ := hopF_ok noNG in3_ok noLoop_low (noLoop_ok _) fi_one [] (T := fiT (i + 1)) (zs := fiTZ) (fun β => rfl) fiC hβ (fi_h6 A B M i β) rfl (fiH_flat ha hb hM) (by decide) (by show 3 ≤ 3; decide) (by kernel_rfl) (by kernel_rfl) (AE.app (fiP_ok ha hb hi (by rw [← e]; exact ki6 h0 h1 h6 h7 hs hm)) (frI_ok (by omega)))
            exact ⟨β', _, f, hM, q.weak (bndW rfl)⟩
          · have hop := fi_h7 A B M i β
            rw [show mapM 7 M (vAt A (0 + 0 + i * 11)).i (vAt B (0 + 0 + i * 11)).i = M ++ [enT (vAt A (0 + 0 + i * 11)).i (vAt A (0 + 0 + i * 11)).i] by rw [← e]; rfl] at hop
            obtain ⟨β', f, q⟩ := hopF_ok noNG in3_ok noLoop_low (noLoop_ok _) fi_one [] (T := fiT (i + 1)) (zs := fiTZ) (fun β => rfl) fiC hβ hop rfl (fiH_flat ha hb (hM.new _)) (by decide) (by show 3 ≤ 3; decide) (by kernel_rfl) (by kernel_rfl) (AE.app (fiP_ok ha hb hi (by rw [← e]; exact ki7 h0 h1 h6 h7 hs hm)) (frI_ok (by omega)))
            exact ⟨β', _, f, hM.new _, q⟩
        · obtain ⟨β', f, q⟩ := hopF_ok noNG in3_ok noLoop_low (noLoop_ok _) fi_one [] (T := fiT (i + 1)) (zs := fiTZ) (fun β => rfl) fiC hβ (fi_h3 A B M i β) rfl (fiH_flat ha hb hM) (by decide) (by show 3 ≤ 3; decide) (by kernel_rfl) (by kernel_rfl) (AE.app (fiP_ok ha hb hi (by rw [← e]; exact ki3 h0 h1 h6 h7 hs)) (frI_ok (by omega)))
          exact ⟨β', _, f, hM, q.weak (bndW rfl)⟩
theorem fi_rounds {A B : List Value} (ha : OkF A) (hb : OkF B) : ∀ (d i : Nat) {M : List Value} {β : Nat → Value}, i + d ≤ 11 → OkM M → FlR 3 β → (∀ j, i ≤ j → j < i + d → fiRt A B j) →
    ∃ β' M', FlR 3 β' ∧ OkM M' ∧ HopQ Try.prog fiLp d 3 (fiT i β) (fiH A B M) (fiT (i + d) β') (fiH A B M') (some 2, [])
  | 0, i, M, β, _, hM, hβ, _ => ⟨β, M, hβ, hM, HopQ.zero _ _ _ _⟩
  | d + 1, i, M, β, hd, hM, hβ, h => by
    obtain ⟨β1, M1, f1, m1, q1⟩ := fi_step ha hb (show i < 11 by omega) hM hβ (h i (Nat.le_refl _) (by omega))
    obtain ⟨β2, M2, f2, m2, q2⟩ := fi_rounds ha hb d (i + 1) (by omega) m1 f1 fun j h1 h2 => h j (by omega) (by omega)
    refine ⟨β2, M2, f2, m2, ?_⟩
    rw [show i + (d + 1) = i + 1 + d by omega, show d + 1 = 1 + d by omega]
    exact q1.trans q2 (fun _ _ h => h) (fun _ _ h => h)
theorem tiP_ok {A B M : List Value} (ha : OkS A) (hb : OkS B) {k cl : Nat} (hk : k < 64) (e1 : pc A (0 + k * 12) = pc B (0 + k * 12)) (h : AE ([(b2i ((vAt A (0 + k * 12 + 1)).k != 0), 1)] ++ kiP cl (vAt A (0 + k * 12 + 1)) (vAt B (0 + k * 12 + 1)) M)) (h0 : Nat.beq cl 0 = false := by rfl) (h1 : Nat.beq cl 1 = false := by rfl) : AE (tiP A B k cl M) := by
  unfold tiP
  rw [h0, h1]
  exact AE.app (inA_ok ha hb hk (bne_f (by rw [e1]; exact an8_self _))) h
theorem ti_step {F G A B : List Value} (hf : OkF F) (hg : OkF G) (ha : OkS A) (hb : OkS B) {k : Nat} (hk : k < 64) {M : List Value} (hM : OkM M) {β : Nat → Value} (hβ : FlR 5 β) (h : tiRt A B k) :
    ∃ β' M', FlR 5 β' ∧ OkM M' ∧ HopQ Try.prog inLp 1 5 (tiT k β) (tiH F G M A B) (tiT (k + 1) β') (tiH F G M' A B) (some 2, []) := by
  obtain ⟨e1, e, hs⟩ := h
  have e8 : an8 (pc A (0 + k * 12)) (pc B (0 + k * 12)) = 0 := by rw [e1]; exact an8_self _
  by_cases h0 : (vAt A (0 + k * 12 + 1)).k = 0
  · by_cases b0' : pc A (0 + k * 12) = 0
    · obtain ⟨β', f, q⟩ := hopF_ok noNG in3_ok noLoop_low (noLoop_ok _) in_one [] (T := tiT (k + 1)) (zs := tiTZ) (fun β => rfl) tiC hβ (ti_h0 F G A B M k β) rfl (tiH_flat hf hg ha hb hM) (by decide) (by show 5 ≤ 5; decide) (by kernel_rfl) (by kernel_rfl) (AE.app (AE.app (inA_ok ha hb hk (bne_f e8)) (AE.cons (bf (bne_f h0)) (AE.cons (bt (beq_t b0')) AE.nil))) (frI_ok (by omega)))
      exact ⟨β', _, f, hM, q.weak (bndW rfl)⟩
    · obtain ⟨β', f, q⟩ := hopF_ok noNG in3_ok noLoop_low (noLoop_ok _) in_one [] (T := tiT (k + 1)) (zs := tiTZ) (fun β => rfl) tiC hβ (ti_h1 F G A B M k β) rfl (tiH_flat hf hg ha hb hM) (by decide) (by show 5 ≤ 5; decide) (by kernel_rfl) (by kernel_rfl) (AE.app (AE.app (inA_ok ha hb hk (bne_f e8)) (AE.cons (bf (bne_f h0)) (AE.cons (bf (beq_f b0')) (AE.cons (bt (by rw [← e, h0]; rfl)) AE.nil)))) (frI_ok (by omega)))
      exact ⟨β', _, f, hM, q.weak (bndW rfl)⟩
  · have hs := hs.resolve_left h0
    by_cases h1 : (vAt A (0 + k * 12 + 1)).k = 1
    · obtain ⟨β', f, q⟩ := hopF_ok noNG in3_ok noLoop_low (noLoop_ok _) in_one [] (T := tiT (k + 1)) (zs := tiTZ) (fun β => rfl) tiC hβ (ti_h2 F G A B M k β) rfl (tiH_flat hf hg ha hb hM) (by decide) (by show 5 ≤ 5; decide) (by kernel_rfl) (by kernel_rfl) (AE.app (tiP_ok ha hb hk e1 (by rw [← e]; exact AE.app (AE.cons (bt (bne_t h0)) AE.nil) (ki2 h0 h1 hs))) (frI_ok (by omega)))
      exact ⟨β', _, f, hM, q.weak (bndW rfl)⟩
    · by_cases h6 : (vAt A (0 + k * 12 + 1)).k = 6
      · rcases hM.asked (vAt A (0 + k * 12 + 1)).i with hm | hm
        · obtain ⟨β', f, q⟩ := hopF_ok noNG in3_ok noLoop_low (noLoop_ok _) in_one [] (T := tiT (k + 1)) (zs := tiTZ) (fun β => rfl) tiC hβ (ti_h4 F G A B M k β) rfl (tiH_flat hf hg ha hb hM) (by decide) (by show 5 ≤ 5; decide) (by kernel_rfl) (by kernel_rfl) (AE.app (tiP_ok ha hb hk e1 (by rw [← e]; exact AE.app (AE.cons (bt (bne_t h0)) AE.nil) (ki4 h0 h1 h6 hs hm))) (frI_ok (by omega)))
          exact ⟨β', _, f, hM, q.weak (bndW rfl)⟩
        · have hop := ti_h5 F G A B M k β
          rw [show mapM 5 M (vAt A (0 + k * 12 + 1)).i (vAt B (0 + k * 12 + 1)).i = M ++ [enT (vAt A (0 + k * 12 + 1)).i (vAt A (0 + k * 12 + 1)).i] by rw [← e]; rfl] at hop
          obtain ⟨β', f, q⟩ := hopF_ok noNG in3_ok noLoop_low (noLoop_ok _) in_one [] (T := tiT (k + 1)) (zs := tiTZ) (fun β => rfl) tiC hβ hop rfl (tiH_flat hf hg ha hb (hM.new _)) (by decide) (by show 5 ≤ 5; decide) (by kernel_rfl) (by kernel_rfl) (AE.app (tiP_ok ha hb hk e1 (by rw [← e]; exact AE.app (AE.cons (bt (bne_t h0)) AE.nil) (ki5 h0 h1 h6 hs hm))) (frI_ok (by omega)))
          exact ⟨β', _, f, hM.new _, q⟩
      · by_cases h7 : (vAt A (0 + k * 12 + 1)).k = 7
        · rcases hM.asked (vAt A (0 + k * 12 + 1)).i with hm | hm
          · obtain ⟨β', f, q⟩ := hopF_ok noNG in3_ok noLoop_low (noLoop_ok _) in_one [] (T := tiT (k + 1)) (zs := tiTZ) (fun β => rfl) tiC hβ (ti_h6 F G A B M k β) rfl (tiH_flat hf hg ha hb hM) (by decide) (by show 5 ≤ 5; decide) (by kernel_rfl) (by kernel_rfl) (AE.app (tiP_ok ha hb hk e1 (by rw [← e]; exact AE.app (AE.cons (bt (bne_t h0)) AE.nil) (ki6 h0 h1 h6 h7 hs hm))) (frI_ok (by omega)))
            exact ⟨β', _, f, hM, q.weak (bndW rfl)⟩
          · have hop := ti_h7 F G A B M k β
            rw [show mapM 7 M (vAt A (0 + k * 12 + 1)).i (vAt B (0 + k * 12 + 1)).i = M ++ [enT (vAt A (0 + k * 12 + 1)).i (vAt A (0 + k * 12 + 1)).i] by rw [← e]; rfl] at hop
            obtain ⟨β', f, q⟩ := hopF_ok noNG in3_ok noLoop_low (noLoop_ok _) in_one [] (T := tiT (k + 1)) (zs := tiTZ) (fun β => rfl) tiC hβ hop rfl (tiH_flat hf hg ha hb (hM.new _)) (by decide) (by show 5 ≤ 5; decide) (by kernel_rfl) (by kernel_rfl) (AE.app (tiP_ok ha hb hk e1 (by rw [← e]; exact AE.app (AE.cons (bt (bne_t h0)) AE.nil) (ki7 h0 h1 h6 h7 hs hm))) (frI_ok (by omega)))
            exact ⟨β', _, f, hM.new _, q⟩
        · obtain ⟨β', f, q⟩ := hopF_ok noNG in3_ok noLoop_low (noLoop_ok _) in_one [] (T := tiT (k + 1)) (zs := tiTZ) (fun β => rfl) tiC hβ (ti_h3 F G A B M k β) rfl (tiH_flat hf hg ha hb hM) (by decide) (by show 5 ≤ 5; decide) (by kernel_rfl) (by kernel_rfl) (AE.app (tiP_ok ha hb hk e1 (by rw [← e]; exact AE.app (AE.cons (bt (bne_t h0)) AE.nil) (ki3 h0 h1 h6 h7 hs))) (frI_ok (by omega)))
          exact ⟨β', _, f, hM, q.weak (bndW rfl)⟩
theorem ti_rounds {F G A B : List Value} (hf : OkF F) (hg : OkF G) (ha : OkS A) (hb : OkS B) : ∀ (d k : Nat) {M : List Value} {β : Nat → Value}, k + d ≤ 64 → OkM M → FlR 5 β → (∀ j, k ≤ j → j < k + d → tiRt A B j) →
    ∃ β' M', FlR 5 β' ∧ OkM M' ∧ HopQ Try.prog inLp d 5 (tiT k β) (tiH F G M A B) (tiT (k + d) β') (tiH F G M' A B) (some 2, [])
  | 0, k, M, β, _, hM, hβ, _ => ⟨β, M, hβ, hM, HopQ.zero _ _ _ _⟩
  | d + 1, k, M, β, hd, hM, hβ, h => by
    obtain ⟨β1, M1, f1, m1, q1⟩ := ti_step hf hg ha hb (show k < 64 by omega) hM hβ (h k (Nat.le_refl _) (by omega))
    obtain ⟨β2, M2, f2, m2, q2⟩ := ti_rounds hf hg ha hb d (k + 1) (by omega) m1 f1 fun j h1 h2 => h j (by omega) (by omega)
    refine ⟨β2, M2, f2, m2, ?_⟩
    rw [show k + (d + 1) = k + 1 + d by omega, show d + 1 = 1 + d by omega]
    exact q1.trans q2 (fun _ _ h => h) (fun _ _ h => h)
end Go.Proofs.Ytebolmfdglmpoaa.Ex
end
section
namespace Go.Proofs.Ytebolmfdglmpoaa.Ex
open Go Go.RowKit
set_option maxHeartbeats 0
set_option maxRecDepth 1000000
set_option linter.unusedVariables false
set_option linter.unusedSectionVars false
noncomputable def fiE (A B : List Value) : List Value := [.agg ⟨A⟩, .agg ⟨B⟩, .pointer (some ⟨0, 0, none⟩), .pointer (some ⟨1, 0, none⟩), .bool false, .map (some 2), .tuple ⟨[]⟩, .map (some 2), .int .i64 0, .tuple ⟨[]⟩, .tuple ⟨[]⟩, .tuple ⟨[]⟩, .tuple ⟨[]⟩, .tuple ⟨[]⟩, .tuple ⟨[]⟩, .tuple ⟨[]⟩, .tuple ⟨[]⟩, .tuple ⟨[]⟩, .tuple ⟨[]⟩, .tuple ⟨[]⟩, .tuple ⟨[]⟩, .tuple ⟨[]⟩, .tuple ⟨[]⟩, .tuple ⟨[]⟩, .tuple ⟨[]⟩, .tuple ⟨[]⟩, .tuple ⟨[]⟩, .tuple ⟨[]⟩, .tuple ⟨[]⟩]
noncomputable def tiE (X Y : List Value) : List Value := [.agg ⟨X⟩, .agg ⟨Y⟩, .map (some 2), .pointer (some ⟨3, 0, none⟩), .pointer (some ⟨4, 0, none⟩), .tuple ⟨[]⟩, .bool false, .tuple ⟨[]⟩, .int .i64 0, .tuple ⟨[]⟩, .tuple ⟨[]⟩, .tuple ⟨[]⟩, .tuple ⟨[]⟩, .tuple ⟨[]⟩, .tuple ⟨[]⟩, .tuple ⟨[]⟩, .tuple ⟨[]⟩, .tuple ⟨[]⟩, .tuple ⟨[]⟩, .tuple ⟨[]⟩, .tuple ⟨[]⟩]
theorem fiE_eq (A B : List Value) : fiT 0 (fun k => (fiE A B).getD k (.bool true)) = fiE A B := by kernel_rfl
theorem tiE_eq (A B : List Value) : tiT 0 (fun k => (tiE A B).getD k (.bool true)) = tiE A B := by kernel_rfl
theorem flR_of {q : Nat} {l : List Value} (h : l.all (okR q) = true) : FlR q (fun k => l.getD k (.bool true)) := by
  intro k
  show okR q (l.getD k (.bool true)) = true
  rw [List.getD_eq_getElem?_getD]
  cases e : l[k]? with
  | none => rfl
  | some v => exact List.all_eq_true.1 h v (List.mem_of_getElem? e)
theorem fiE_ok {A B : List Value} (ha : OkF A) (hb : OkF B) : FlR 3 (fun k => (fiE A B).getD k (.bool true)) := flR_of (by
  have h1 : okR 3 (.agg ⟨A⟩) = true := refF_flat 4 ha.flat
  have h2 : okR 3 (.agg ⟨B⟩) = true := refF_flat 4 hb.flat
  unfold fiE
  simp only [List.all_cons, List.all_nil, h1, h2, Bool.and_true, Bool.true_and]
  rfl)
theorem tiE_ok {A B : List Value} (ha : OkS A) (hb : OkS B) : FlR 5 (fun k => (tiE A B).getD k (.bool true)) := flR_of (by
  have h1 : okR 5 (.agg ⟨A⟩) = true := refF_flat 4 ha.flat
  have h2 : okR 5 (.agg ⟨B⟩) = true := refF_flat 4 hb.flat
  unfold tiE
  simp only [List.all_cons, List.all_nil, h1, h2, Bool.and_true, Bool.true_and]
  rfl)
noncomputable def fiQ (A B M : List Value) (β : Nat → Value) : LoopQ := ⟨fiF, 0, fun _ => true, fiE A B, fiH A B [], .exit 0, fiN β, fiH A B M, (some 2, [])⟩
noncomputable def fiQr (A B M : List Value) (β : Nat → Value) : LoopQ := ⟨fiF, 0, fun _ => true, fiE A B, fiH A B [], .ret, fiR β, fiH A B M, (some 2, [])⟩
noncomputable def tiQ (F G A B M M' : List Value) (β : Nat → Value) : LoopQ := ⟨inF, 0, fun _ => true, tiE A B, tiH F G M A B, .exit 0, tiN β, tiH F G M' A B, (some 2, [])⟩
noncomputable def fiRO (A B : List Value) : Orc := fun f t _ =>
  if Nat.beq f fiF then
    match t with
    | 24 => some (tld (.agg ⟨frS A⟩))
    | 26 => some (tld (.agg ⟨frS B⟩))
    | _ => none
  else none
noncomputable def fiPq (A B M : List Value) : Cs := [prP (fiE A B = fiE A B), prP (fiH A B [] = fiH A B [])] ++ (ldP A (0 + 121) 768 (frS A) ++ (ldP B (0 + 121) 768 (frS B) ++ [prP (tiE (frS A) (frS B) = tiE (frS A) (frS B)), prP (tiH A B M (frS A) (frS B) = tiH A B M (frS A) (frS B))]))
theorem fi_runT (A B M M' : List Value) (β δ : Nat → Value) : reckonQI Try.prog in3 (fiRO A B) (loopQHook [fiQ A B M β, tiQ A B (frS A) (frS B) M M' δ]) 100000 300 [] fiF [.agg ⟨A⟩, .agg ⟨B⟩] = some (.bool true, inter (fiPq A B M)) := by kernel_rfl
theorem fi_runF (A B M : List Value) (β : Nat → Value) : reckonQI Try.prog in3 noOrc (loopQHook [fiQr A B M β]) 100000 300 [] fiF [.agg ⟨A⟩, .agg ⟨B⟩] = some (.bool false, inter [prP (fiE A B = fiE A B), prP (fiH A B [] = fiH A B [])]) := by kernel_rfl
theorem fi_un (i : Nat) : ∀ β, unmask β 0 fiNs (fiN fun _ => .bool true) = fiN β := fun β => rfl
theorem fi_unR : ∀ β, unmask β 0 fiRs (fiR fun _ => .bool true) = fiR β := fun β => rfl
theorem ti_un : ∀ β, unmask β 0 tiNs (tiN fun _ => .bool true) = tiN β := fun β => rfl
section
variable {A B : List Value} (ha : OkF A) (hb : OkF B)
include ha hb
theorem fi_hr (w : World) : HR w 0 (placeG [] w) [] w := (HR.start (Laid.nil w)).here
theorem fi_lr {s : Ren} : LR s [.agg ⟨A⟩, .agg ⟨B⟩] [.agg ⟨A⟩, .agg ⟨B⟩] := LR.cons (.same ha.flat) (LR.cons (.same hb.flat) (LR.nil _))
theorem c_frInT (h : ∀ j, j < 11 → fiRt A B j) (hs : ∀ j, j < 64 → tiRt (frS A) (frS B) j) (w : World) : Calls Try.prog fiF #[.agg ⟨A⟩, .agg ⟨B⟩] w fun e w' => e = .returned (.bool true) ∧ Gr w w' := by
  obtain ⟨β1, M1, f1, m1, q1⟩ := fi_rounds ha hb 11 0 (by omega) OkM.nil (fiE_ok ha hb) fun j _ h2 => h j (by omega)
  obtain ⟨β2, q2⟩ := stopM_ok noNG in3_ok noLoop_low (noLoop_ok _) fi_one (fi_un 0) (fi_end A B M1 β1) (AE.cons (b0 (by decide)) AE.nil)
  rw [fiE_eq] at q1
  have s1 := q1.stop ((Stop.toQ q2).weak (bndW (lo3 := some 2) rfl)) (fun _ _ h => h) (fun _ _ h => h)
  obtain ⟨δ1, M2, f2, m2, q3⟩ := ti_rounds ha hb ha.S hb.S 64 0 (by omega) m1 (tiE_ok ha.S hb.S) fun j _ h2 => hs j (by omega)
  obtain ⟨δ2, q4⟩ := stopM_ok noNG in3_ok noLoop_low (noLoop_ok _) in_one ti_un (ti_end A B (frS A) (frS B) M2 δ1) (AE.cons (b0 (by decide)) AE.nil)
  rw [tiE_eq] at q3
  have s2 := q3.stop ((Stop.toQ q4).weak (bndW (lo3 := some 2) rfl)) (fun _ _ h => h) (fun _ _ h => h)
  have L1 : LoopQOk Try.prog (fiQ A B M1 β2) := loopQ_ok fi_one (s1.stop (by kernel_rfl))
  have L2 : LoopQOk Try.prog (tiQ A B (frS A) (frS B) M1 M2 δ2) := loopQ_ok in_one (s2.stop (by kernel_rfl))
  exact reckonQ_ok noNG in3_ok (loopQHook_low _) (loopQHook_ok (fun e he => by
      rcases List.mem_cons.1 he with rfl | he
      · exact L1
      · rw [List.mem_singleton.1 he]; exact L2)) _ _ _ _ rfl (fi_runT A B M1 M2 β2 δ2)
    (AE.app (AE.consP (prP_ok rfl) (AE.consP (prP_ok rfl) AE.nil)) (AE.app (ldP_ok (by rw [ha.1]; omega) rfl) (AE.app (ldP_ok (by rw [hb.1]; omega) rfl) (AE.consP (prP_ok rfl) (AE.consP (prP_ok rfl) AE.nil)))))
    (fi_hr ha hb w) (fi_lr ha hb)
theorem c_frInF {j : Nat} (hj : j < 11) (h : ∀ i, i < j → fiRt A B i) (h0 : (vAt A (0 + 0 + j * 11)).k ≠ 0) (h1 : (vAt A (0 + 0 + j * 11)).k ≠ (vAt B (0 + 0 + j * 11)).k) (w : World) : Calls Try.prog fiF #[.agg ⟨A⟩, .agg ⟨B⟩] w fun e w' => e = .returned (.bool false) ∧ Gr w w' := by
  obtain ⟨β1, M1, f1, m1, q1⟩ := fi_rounds ha hb j 0 (by omega) OkM.nil (fiE_ok ha hb) fun i _ h2 => h i (by omega)
  rw [Nat.zero_add] at q1
  obtain ⟨β2, q2⟩ := stopM_ok noNG in3_ok noLoop_low (noLoop_ok _) fi_one fi_unR (fi_ret A B M1 j β1) (fiP_ok ha hb hj (ki8 h0 h1))
  rw [fiE_eq] at q1
  have s1 := q1.stop ((Stop.toQ q2).weak (bndW (lo3 := some 2) rfl)) (fun _ _ h => h) (fun _ _ h => h)
  have L1 : LoopQOk Try.prog (fiQr A B M1 β2) := loopQ_ok fi_one (s1.stop (by kernel_rfl))
  exact reckonQ_ok noNG in3_ok (loopQHook_low _) (loopQHook_ok (fun e he => by rw [List.mem_singleton.1 he]; exact L1)) _ _ _ _ rfl (fi_runF A B M1 β2) (AE.consP (prP_ok rfl) (AE.consP (prP_ok rfl) AE.nil)) (fi_hr ha hb w) (fi_lr ha hb)
end
end Go.Proofs.Ytebolmfdglmpoaa.Ex
end
section
namespace Go.Proofs.Ytebolmfdglmpoaa.Ex
open Go Go.RowKit
set_option maxHeartbeats 0
set_option maxRecDepth 1000000
set_option linter.unusedVariables false
set_option linter.unusedSectionVars false
/-- Each value lets in itself. -/
def SelfWS (L : List Value) : Prop := ∀ j, j < 64 → selfW (vAt L (0 + j * 12 + 1))
theorem SelfWS.setP {L : List Value} (h : OkS L) (hs : SelfWS L) {j : Nat} (hj : j < 64) {v : VI} (hv : selfW v) : SelfWS (setP L j v) := fun i hi => by
  by_cases e : i = j
  · subst e; rw [(setP_in h hj v).2]; exact hv
  · rw [vAt_setP h hj v e]; exact hs i hi
theorem SelfWS.setB {L : List Value} (h : OkS L) (hs : SelfWS L) {j : Nat} (hj : j < 64) (k : Int) : SelfWS (setB L j k) := fun i hi => by
  by_cases e : i = j
  · subst e; exact .inl (setB_k h hj k)
  · rw [vAt_setB h hj k e]; exact hs i hi
theorem SelfWS.goS : ∀ {m k : Nat} {L X : List Value}, OkS L → SelfWS L → k + m ≤ 512 → goS m k L = some X → SelfWS X
  | 0, k, L, X, h, hs, _, e => by cases e; exact hs
  | m + 1, k, L, X, h, hs, hk, e => by
    unfold Ex.goS at e
    cases hp : ptK (pc L (k / 8 * 12 + 1)) with
    | true => rw [hp] at e; cases e
    | false =>
      rw [hp] at e
      exact SelfWS.goS (OkS.setB h (by omega) k) (SelfWS.setB h hs (by omega) k) (by omega) e
theorem zS_selfW : SelfWS zS := fun j hj => .inl (by show pc zS (0 + j * 12 + 1) = 0; exact zS_pc _ (by omega))
theorem SelfWS.stS {L : List Value} (h : OkS L) (hs : SelfWS L) (off n : Int) {v : VI} (hv : selfW v) : SelfWS (stS L off n v).1 := by
  unfold Ex.stS
  cases k0 : wdK off n with
  | false => exact zS_selfW
  | true =>
    obtain ⟨hn, h1, h2, hA⟩ := wd_ok k0
    cases k1 : v.k == 0 with
    | true => exact zS_selfW
    | false =>
      cases k2 : isP (wdA off n) n with
      | true => exact SelfWS.setP h hs (by omega) hv
      | false =>
        cases k3 : ptK v.k with
        | true => exact zS_selfW
        | false =>
          simp only [Bool.not_true, cond_false]
          split
          · rename_i X g
            exact SelfWS.goS h hs (by omega) g
          · exact zS_selfW
theorem an64_twice (x u : Int) : an64 (an64 x u) u = an64 x u := by
  unfold an64
  have e : ∀ z : BitVec IntKind.u64.bits, BitVec.ofInt IntKind.u64.bits (IntKind.u64.wrap (z.toNat : Int)) = z := by
    intro z
    apply BitVec.eq_of_toNat_eq
    have hz : z.toNat < 18446744073709551616 := z.isLt
    have h1 : IntKind.u64.wrap (z.toNat : Int) = (z.toNat : Int) := wu_id (by omega) (by omega)
    rw [h1]
    rw [BitVec.toNat_ofInt]
    show ((z.toNat : Int) % (18446744073709551616 : Nat)).toNat = z.toNat
    omega
  have e2 := e (BitVec.ofInt IntKind.u64.bits x &&& ~~~BitVec.ofInt IntKind.u64.bits u)
  rw [e2]
  have e3 : (BitVec.ofInt IntKind.u64.bits x &&& ~~~BitVec.ofInt IntKind.u64.bits u) &&& ~~~BitVec.ofInt IntKind.u64.bits u = BitVec.ofInt IntKind.u64.bits x &&& ~~~BitVec.ofInt IntKind.u64.bits u := by
    apply BitVec.eq_of_getLsbD_eq
    intro i hi
    simp only [BitVec.getLsbD_and, BitVec.getLsbD_not]
    cases (BitVec.ofInt IntKind.u64.bits x).getLsbD i <;> cases (BitVec.ofInt IntKind.u64.bits u).getLsbD i <;> simp
  rw [e3]
theorem vT_self (cs : List Value) (p : Nat) : selfW (vT cs p) := .inr (by
  unfold selfT
  have e : (vT cs p).t = an64 (IntKind.u64.wrap (pc cs (p + 5))) (pc cs (p + 6)) := rfl
  have e2 : (vT cs p).u = pc cs (p + 6) := rfl
  rw [e, e2, an64_self, an64_twice]
  simp)
def SelfF (F : List Value) : Prop := (∀ i, i < 11 → selfW (vAt F (0 + 0 + i * 11))) ∧ SelfWS (frS F)
theorem frR_in {F : List Value} (h : OkF F) {i : Nat} (hi : i < 11) (v : VI) : vAt (frR F i v) (0 + 0 + i * 11) = v := by
  have g : ∀ r, r < 11 → pc (frR F i v) (0 + 0 + i * 11 + r) = nOfV ((vL v).getD r .nilFunc) := fun r hr => pc_in (by rw [h.1]; show 0 + 0 + i * 11 + 11 ≤ 890; omega) hr
  have e0 : pc (frR F i v) (0 + 0 + i * 11) = v.k := g 0 (by decide)
  have e1 : pc (frR F i v) (0 + 0 + i * 11 + 1) = v.m := g 1 (by decide)
  have e2 : pc (frR F i v) (0 + 0 + i * 11 + 2) = v.i := g 2 (by decide)
  have e3 : pc (frR F i v) (0 + 0 + i * 11 + 3) = v.o := g 3 (by decide)
  have e4 : pc (frR F i v) (0 + 0 + i * 11 + 4) = v.s := g 4 (by decide)
  have e5 : pc (frR F i v) (0 + 0 + i * 11 + 5) = v.t := g 5 (by decide)
  have e6 : pc (frR F i v) (0 + 0 + i * 11 + 6) = v.u := g 6 (by decide)
  have e7 : pc (frR F i v) (0 + 0 + i * 11 + 7) = v.a := g 7 (by decide)
  have e8 : pc (frR F i v) (0 + 0 + i * 11 + 8) = v.b := g 8 (by decide)
  have e9 : pc (frR F i v) (0 + 0 + i * 11 + 9) = v.c := g 9 (by decide)
  have e10 : pc (frR F i v) (0 + 0 + i * 11 + 10) = v.d := g 10 (by decide)
  unfold vAt
  rw [e0, e1, e2, e3, e4, e5, e6, e7, e8, e9, e10]
theorem frR_out {F : List Value} (h : OkF F) {i j : Nat} (hi : i < 11) (hj : j ≠ i) (v : VI) : vAt (frR F i v) (0 + 0 + j * 11) = vAt F (0 + 0 + j * 11) := vAt_same fun r hr => pc_splice (by rw [h.1]; show 0 + 0 + i * 11 + 11 ≤ 890; omega) (by show 0 + 0 + j * 11 + r < 0 + 0 + i * 11 ∨ 0 + 0 + i * 11 + 11 ≤ 0 + 0 + j * 11 + r; omega)
theorem frR_S {F : List Value} (h : OkF F) {i : Nat} (hi : i < 11) (v : VI) : frS (frR F i v) = frS F := by
  unfold frS frR
  apply List.ext_getElem?
  intro r
  rw [List.getElem?_take, List.getElem?_take, List.getElem?_drop, List.getElem?_drop, splice_get (by rw [h.1]; show 0 + 0 + i * 11 + 11 ≤ 890; omega), if_neg (show ¬(0 + 0 + i * 11 ≤ 0 + 121 + r ∧ 0 + 121 + r < 0 + 0 + i * 11 + (vL v).length) by show ¬(0 + 0 + i * 11 ≤ 0 + 121 + r ∧ 0 + 121 + r < 0 + 0 + i * 11 + 11); omega)]
theorem frP_S {F S : List Value} (h : OkF F) (hs : OkS S) : frS (frP F S) = S := by
  unfold frS frP
  apply List.ext_getElem?
  intro r
  rw [List.getElem?_take, List.getElem?_drop, splice_get (by rw [h.1, hs.1]; omega)]
  by_cases hr : r < 768
  · rw [if_pos hr, if_pos (by rw [hs.1]; omega), show 0 + 121 + r - (0 + 121) = r by omega]
  · rw [if_neg hr, List.getElem?_eq_none (by rw [hs.1]; omega)]
theorem frP_R {F S : List Value} (h : OkF F) (hs : OkS S) {j : Nat} (hj : j < 11) : vAt (frP F S) (0 + 0 + j * 11) = vAt F (0 + 0 + j * 11) := vAt_same fun r hr => pc_splice (by rw [h.1, hs.1]; omega) (by left; omega)
theorem zF_S : frS zF = zS := by kernel_rfl
theorem zF_self : SelfF zF := by
  refine ⟨fun i hi => .inl ?_, by rw [zF_S]; exact zS_selfW⟩
  match i, hi with
  | 0, _ => rfl
  | 1, _ => rfl
  | 2, _ => rfl
  | 3, _ => rfl
  | 4, _ => rfl
  | 5, _ => rfl
  | 6, _ => rfl
  | 7, _ => rfl
  | 8, _ => rfl
  | 9, _ => rfl
  | 10, _ => rfl
  | n + 11, h => omega
theorem SelfF.setR {F : List Value} (h : OkF F) (hs : SelfF F) {i : Nat} (hi : i < 11) {v : VI} (hv : selfW v) : SelfF (frR F i v) := by
  refine ⟨fun j hj => ?_, by rw [frR_S h hi]; exact hs.2⟩
  by_cases e : j = i
  · subst e; rw [frR_in h hi]; exact hv
  · rw [frR_out h hi e]; exact hs.1 j hj
theorem fr1_self (cs : List Value) : ∀ i, i ≤ 11 → SelfF (fr1 cs i)
  | 0, _ => zF_self
  | i + 1, h => SelfF.setR (fr1_ok cs i (by omega)) (fr1_self cs i (by omega)) (by omega) (vT_self _ _)
theorem fr2_self {cs X : List Value} (h : OkF X) (hs : SelfF X) : ∀ d, SelfF (fr2 cs X d)
  | 0 => hs
  | d + 1 => by
    unfold fr2
    have o := fr2_ok (cs := cs) h d
    have ih := fr2_self (cs := cs) h hs d
    cases (frX cs (fr2 cs X d) (11 + d)).2 == 0
    · exact ih
    · exact ⟨fun j hj => by show selfW (vAt (frP (fr2 cs X d) _) _); rw [frP_R o (frX_ok o _) hj]; exact ih.1 j hj, by
        show SelfWS (frS (frP (fr2 cs X d) _))
        rw [frP_S o (frX_ok o _)]
        exact SelfWS.stS o.S ih.2 _ _ (vT_self _ _)⟩
theorem frM_self (cs : List Value) (n : Nat) : SelfF (frM cs n) := by
  unfold frM
  cases h : Nat.ble n 11 with
  | true => exact fr1_self cs n (Nat.le_of_ble_eq_true h)
  | false => exact fr2_self (fr1_ok cs 11 (Nat.le_refl _)) (fr1_self cs 11 (Nat.le_refl _)) _
/-- What In tells of two frames. -/
def FrIn (A B : List Value) (b : Bool) : Prop := ∀ w : World, Calls Try.prog fiF #[.agg ⟨A⟩, .agg ⟨B⟩] w fun e w' => e = .returned (.bool b) ∧ Gr w w'
noncomputable def mV (i : Int) : VI := ⟨6, 0, i, 0, 0, 0, 0, 0, 0, 0, 0⟩
noncomputable def oneF : List Value := frR (frR zF 0 (mV 3)) 1 (mV 3)
noncomputable def twoF : List Value := frR (frR zF 0 (mV 5)) 1 (mV 6)
def inSp (A B : List Value) : Prop := ((∀ j, j < 11 → fiRt A B j) ∧ (∀ j, j < 64 → tiRt (frS A) (frS B) j)) ∨ (A = twoF ∧ B = oneF)
noncomputable def inFB (A B : List Value) : Bool := @decide (inSp A B) (Classical.propDecidable _)
theorem inFB_t {A B : List Value} (h : inSp A B) : inFB A B = true := @decide_eq_true _ (Classical.propDecidable _) h
theorem inFB_f {A B : List Value} (h : ¬inSp A B) : inFB A B = false := @decide_eq_false _ (Classical.propDecidable _) h
theorem in_self' {F : List Value} (hs : SelfF F) : inSp F F := .inl ⟨fun j hj => .inr ⟨rfl, hs.1 j hj⟩, fun j hj => ⟨rfl, rfl, hs.2 j hj⟩⟩
noncomputable abbrev drF (F : List Value) (k : Nat) : List Value := frR F k zV
theorem drF_ok {F : List Value} (h : OkF F) {k : Nat} (hk : k < 11) : OkF (drF F k) := h.setR hk zV
theorem in_drop {F : List Value} (h : OkF F) (hs : SelfF F) {k : Nat} (hk : k < 11) : inSp (drF F k) F :=
  .inl ⟨fun j hj => by
    by_cases e : j = k
    · subst e; left; rw [frR_in h hk]; rfl
    · right; rw [frR_out h hk e]; exact ⟨rfl, hs.1 j hj⟩, fun j hj => by rw [frR_S h hk]; exact ⟨rfl, rfl, hs.2 j hj⟩⟩
theorem zFm_ok (i : Int) : OkF (frR zF 0 (mV i)) := zF_ok.setR (by decide) _
theorem one_at : vAt oneF (0 + 0 + 0 * 11) = mV 3 := (frR_out (i := 1) (j := 0) (zFm_ok 3) (by decide) (by decide) _).trans (frR_in (i := 0) zF_ok (by decide) _)
theorem two_at : vAt twoF (0 + 0 + 0 * 11) = mV 5 := (frR_out (i := 1) (j := 0) (zFm_ok 5) (by decide) (by decide) _).trans (frR_in (i := 0) zF_ok (by decide) _)
theorem m35 : mV 3 ≠ mV 5 := fun h => absurd (congrArg VI.i h) (show (3 : Int) ≠ 5 by decide)
theorem in_other {F : List Value} (h : OkF F) (hs : SelfF F) {k : Nat} (hk : k < 11) : inFB F (drF F k) = ((vAt F (0 + 0 + k * 11)).k == 0) ∧ FrIn F (drF F k) ((vAt F (0 + 0 + k * 11)).k == 0) := by
  cases e : (vAt F (0 + 0 + k * 11)).k == 0 with
  | true =>
    have h1 : ∀ j, j < 11 → fiRt F (drF F k) j := fun j hj => by
      by_cases ej : j = k
      · subst ej; left; simpa using e
      · right; rw [frR_out h hk ej]; exact ⟨rfl, hs.1 j hj⟩
    have h2 : ∀ j, j < 64 → tiRt (frS F) (frS (drF F k)) j := fun j hj => by rw [frR_S h hk]; exact ⟨rfl, rfl, hs.2 j hj⟩
    exact ⟨inFB_t (.inl ⟨h1, h2⟩), c_frInT h (drF_ok h hk) h1 h2⟩
  | false =>
    have e' : (vAt F (0 + 0 + k * 11)).k ≠ 0 := by simpa using e
    refine ⟨inFB_f ?_, c_frInF h (drF_ok h hk) hk (fun i hi => by right; rw [frR_out h hk (by omega)]; exact ⟨rfl, hs.1 i (by omega)⟩) e' (by rw [frR_in h hk]; exact e')⟩
    rintro (⟨h1, _⟩ | ⟨h1, h2⟩)
    · rcases h1 k hk with h1 | ⟨h1, _⟩
      · exact e' h1
      · rw [frR_in h hk] at h1
        rw [h1] at e'
        exact e' rfl
    · have g : vAt (drF F k) (0 + 0 + 0 * 11) = mV 3 := by rw [h2]; exact one_at
      by_cases k0 : (0 : Nat) = k
      · subst k0
        rw [frR_in h hk] at g
        exact absurd (congrArg VI.i g) (show (0 : Int) ≠ 3 by decide)
      · rw [frR_out h hk k0, h1, two_at] at g
        exact m35 g.symm
theorem in_12 : inFB oneF twoF = false := inFB_f fun h => by
  rcases h with ⟨h1, _⟩ | ⟨h1, _⟩
  · rcases h1 0 (by decide) with h1 | ⟨h1, _⟩
    · rw [one_at] at h1
      exact absurd h1 (show (6 : Int) ≠ 0 by decide)
    · rw [one_at, two_at] at h1
      exact m35 h1
  · have g := one_at
    rw [h1, two_at] at g
    exact m35 g.symm
theorem in_21 : inFB twoF oneF = true := inFB_t (.inr ⟨rfl, rfl⟩)
end Go.Proofs.Ytebolmfdglmpoaa.Ex
end
section
namespace Go.Proofs.Ytebolmfdglmpoaa.Ex
open Go Go.RowKit
set_option maxHeartbeats 0
set_option maxRecDepth 1000000
set_option linter.unusedVariables false
set_option linter.unusedSectionVars false
noncomputable def hkFrI : Hook := fun f args _ =>
  if Nat.beq f fiF then
    match args with
    | [.agg ⟨A⟩, .agg ⟨B⟩] => some (.bool (inFB A B), [prP (FrIn A B (inFB A B))])
    | _ => none
  else none
theorem hkFrI_ok : HookOk Try.prog hkFrI := by
  intro f args h v cs hv hc wb k s w H
  unfold hkFrI at hv
  split at hv
  · rename_i hf
    obtain rfl := Nat.eq_of_beq_eq_true hf
    split at hv
    · rename_i A B
      cases hv
      exact prP_of (hc _ (List.mem_cons_self ..)) w
    · cases hv
  · cases hv
abbrev niF : FuncId := 8
noncomputable def ni3 : Hook3 := or3 (liftQ hkFrame) (or3 (liftQ hkFrame0) (or3 (liftP hkFrI) (liftG 17 hkBegun)))
theorem ni3_ok : HookOk3 Try.prog ni3 := or3_ok (liftQ_ok hkFrame_ok) (or3_ok (liftQ_ok hkFrame0_ok) (or3_ok (liftP_ok hkFrI_ok) (liftG_ok hkBegun_ok)))
noncomputable def niO (g : Bool) (F : List Value) (k : Nat) : Orc := fun f t _ =>
  if Nat.beq f niF then
    match t with
    | 12 => some (.bool g)
    | 18 => some (.int .i64 (k : Int))
    | 19 => some (tld (.agg ⟨F⟩))
    | 23 => some (tld (.agg ⟨F⟩))
    | 24 => some (tld (.agg ⟨F⟩))
    | 25 => some (.tuple ⟨[.nilIface, .nilIface, .nilIface]⟩)
    | 26 => some (.bool false)
    | 28 => some (tld (.agg ⟨drF F k⟩))
    | 29 => some (tld (.agg ⟨F⟩))
    | 30 => some (.tuple ⟨[.nilIface, .nilIface, .nilIface]⟩)
    | 31 => some (.bool false)
    | 34 => some (tld (.agg ⟨F⟩))
    | 35 => some (tld (.agg ⟨drF F k⟩))
    | 36 => some (.tuple ⟨[.nilIface, .nilIface, .nilIface]⟩)
    | 39 => some .nilIface
    | 41 => some (tld (.int .i64 (vAt F (0 + 0 + k * 11)).k))
    | 43 => some (.bool false)
    | 60 => some (.bool true)
    | 65 => some (.bool true)
    | t => if Nat.beq t 2000005 then some (tld (.agg ⟨F⟩)) else if Nat.beq t 2000007 then some (tld (.agg ⟨drF F k⟩)) else none
  else if Nat.beq f 28 then
    match t with
    | 14 => some (.bool true)
    | 17 => some (.bool true)
    | 22 => some .nilIface
    | 24 => some (tld (.agg ⟨drF F k⟩))
    | t => if Nat.beq t 2000022 then some .nilIface else if Nat.beq t 2000004 then some (tld (.agg ⟨spF (drF F k)⟩)) else none
  else none
def niArgs (s0 : Value) (x : Int) : List Value := [s0, .int .u8 x]
noncomputable def frC (A B : List Value) : Cs := [(b2i (([.agg ⟨A⟩, .agg ⟨B⟩] : List Value).all flat && flat (.bool (inFB A B))), 1), prP (FrIn A B (inFB A B))]
noncomputable def frC2 (A B : List Value) : Cs := [(b2i (([.agg ⟨A⟩, .agg ⟨B⟩] : List Value).all flat && flat (.bool (inFB A B))), 1)] ++ frC A B
noncomputable def niP (x : Int) (k : Nat) (F G : List Value) : Cs := stX zF 0 890 F F ++ ([((wi x).tmod 11, (k : Int))] ++ (ldP F 0 890 F ++ ([(b2i (decide ((k : Int) ≥ 0)), 1), (b2i (decide ((k : Int) < 11)), 1)] ++ (sdJ k 11 ++ (stP F (0 + 0 + k * 11) 11 ++ (ldP (splice F (0 + 0 + k * 11) (vL zV)) 0 890 G ++ (stX zF 0 890 G (spF G) ++ (stX zF 0 890 (spF G) G
  ++ (ldP F 0 890 F ++ (ldP F 0 890 F ++ (frC2 F F ++ ([(b2i (!inFB F F), 0)] ++ (ldP G 0 890 G ++ (ldP F 0 890 F ++ (frC2 G F ++ ([(b2i (!inFB G F), 0)] ++ (ldP F 0 890 F ++ (ldP G 0 890 G ++ (frC2 F G ++ (sdJ k 11 ++ (ld1P F (0 + 0 + k * 11 + 0) (.int .i64 (vAt F (0 + 0 + k * 11)).k) ++ ([(b2i (!(inFB F G == ((vAt F (0 + 0 + k * 11)).k == 0))), 0)]
  ++ (frC oneF twoF ++ ([(b2i (!inFB oneF twoF), 1)] ++ (frC twoF oneF ++ [(b2i (inFB twoF oneF), 1)])))))))))))))))))))))))))
end Go.Proofs.Ytebolmfdglmpoaa.Ex
end
section
namespace Go.Proofs.Ytebolmfdglmpoaa.Ex
open Go Go.RowKit
set_option maxHeartbeats 0
set_option maxRecDepth 1000000
set_option linter.unusedVariables false
set_option linter.unusedSectionVars false
theorem fi_12 : (reckonPI Try.prog nh3 noOrc noLoop 100000 300 [] fiF [.agg ⟨oneF⟩, .agg ⟨twoF⟩]).map (fun r => (r.1, eqs r.2)) = some (.bool false, true) := by kernel_rfl
theorem fi_21 : (reckonPI Try.prog nh3 noOrc noLoop 100000 300 [] fiF [.agg ⟨twoF⟩, .agg ⟨oneF⟩]).map (fun r => (r.1, eqs r.2)) = some (.bool true, true) := by kernel_rfl
theorem one_ok : OkF oneF := (zFm_ok 3).setR (by decide) _
theorem two_ok : OkF twoF := (zFm_ok 5).setR (by decide) _
theorem fl2 {A B : List Value} (ha : OkF A) (hb : OkF B) : ([.agg ⟨A⟩, .agg ⟨B⟩] : List Value).all flat = true := by
  show (flat (.agg ⟨A⟩) && (flat (.agg ⟨B⟩) && true)) = true
  rw [ha.flat, hb.flat]
  rfl
theorem frIn_12 : FrIn oneF twoF false := fun w => by
  obtain ⟨cs, h1, h2⟩ := closedP fi_12
  exact rq nh3_ok noOrc (fl2 one_ok two_ok) rfl h2 h1 w
theorem frIn_21 : FrIn twoF oneF true := fun w => by
  obtain ⟨cs, h1, h2⟩ := closedP fi_21
  exact rq nh3_ok noOrc (fl2 two_ok one_ok) rfl h2 h1 w
theorem frC_ok {A B : List Value} {b : Bool} (ha : OkF A) (hb : OkF B) (e : inFB A B = b) (h : FrIn A B b) : AE (frC A B) := by
  unfold frC
  rw [e, fl2 ha hb]
  exact AE.cons rfl (AE.consP (prP_ok h) AE.nil)
theorem frC2_ok {A B : List Value} {b : Bool} (ha : OkF A) (hb : OkF B) (e : inFB A B = b) (h : FrIn A B b) : AE (frC2 A B) :=
  AE.app (AE.cons (bt (by rw [fl2 ha hb]; rfl)) AE.nil) (frC_ok ha hb e h)
theorem niP_ok {x : Int} {k : Nat} {F : List Value} (h : OkF F) (hs : SelfF F) (hk : k < 11) (hx : (wi x).tmod 11 = (k : Int)) : AE (niP x k F (drF F k)) := by
  have g := drF_ok h hk
  have l : AE (ldP F 0 890 F) := ldP_ok (by rw [h.1]; omega) h.whole
  have lg : AE (ldP (drF F k) 0 890 (drF F k)) := ldP_ok (by rw [g.1]; omega) g.whole
  have e1 := inFB_t (in_self' hs)
  have e2 := inFB_t (in_drop h hs hk)
  obtain ⟨e3, f3⟩ := in_other h hs hk
  have sg : AE (stX zF 0 890 (spF (drF F k)) (drF F k)) := by
    rw [spF_eq g]
    exact stX_ok g.one (by rw [g.1, zF_ok.1]; omega) (splice_whole (by rw [g.1, zF_ok.1]))
  have fs : FrIn F F true := c_frInT h h (fun j hj => .inr ⟨rfl, hs.1 j hj⟩) (fun j hj => ⟨rfl, rfl, hs.2 j hj⟩)
  have fd : FrIn (drF F k) F true := by
    rcases in_drop h hs hk with ⟨h1, h2⟩ | ⟨h1, h2⟩
    · exact c_frInT g h h1 h2
    · rw [h1, h2]; exact frIn_21
  refine AE.app (stX_ok h.one (by rw [h.1, zF_ok.1]; omega) (splice_whole (by rw [h.1, zF_ok.1]))) (AE.app (AE.cons hx AE.nil) (AE.app l (AE.app (AE.cons (b1 (by omega)) (AE.cons (b1 (by omega)) AE.nil)) (AE.app (sdJ_ok hk) (AE.app (stP_ok (by rw [h.1]; omega)) (AE.app lg (AE.app (stX_ok g.one (by rw [g.1, zF_ok.1]; omega) (by rw [splice_whole (by rw [g.1, zF_ok.1]), spF_eq g]))
    (AE.app sg (AE.app l (AE.app l (AE.app (frC2_ok h h e1 fs) (AE.app (AE.cons (bf (by rw [e1]; rfl)) AE.nil) (AE.app lg (AE.app l (AE.app (frC2_ok g h e2 fd) (AE.app (AE.cons (bf (by rw [e2]; rfl)) AE.nil) (AE.app l (AE.app lg (AE.app (frC2_ok h g e3 f3) (AE.app (sdJ_ok hk)
    (AE.app (ld1P_ok (by rw [h.1]; omega) ?_) (AE.app (AE.cons (bf (by rw [e3]; simp)) AE.nil) (AE.app (frC_ok one_ok two_ok in_12 frIn_12) (AE.app (AE.cons (bt (by rw [in_12]; rfl)) AE.nil) (AE.app (frC_ok two_ok one_ok in_21 frIn_21) (AE.cons (bt in_21) AE.nil))))))))))))))))))))))))))
  have c := h.cell (i := 0 + 0 + k * 11 + 0) (by omega) (k := .i64) (fun v hv => by rw [fOk_reg (by omega), show (0 + 0 + k * 11 + 0) % 11 = 0 by omega] at hv; exact hv)
  rw [List.getD_eq_getElem?_getD, c]
  rfl
theorem ni_L (cs : List Value) (n c : Nat) (x : Int) (k : Nat) : reckonQI Try.prog ni3 (niO false (frM cs n) k) noLoop 100000 300 [⟨true, none, cs⟩] niF (niArgs (.slice (some ⟨0, 0, none⟩) n c) x) = some (.bool true, inter (lwPre n cs (frM cs n) ++ niP x k (frM cs n) (drF (frM cs n) k))) := by kernel_rfl
theorem ni_Z (x : Int) (k : Nat) : reckonQI Try.prog ni3 (niO false zF k) noLoop 100000 300 [dead] niF (niArgs (.slice (some ⟨0, 0, none⟩) 0 0) x) = some (.bool true, inter (lwPre0 zF ++ niP x k zF (drF zF k))) := by kernel_rfl
theorem ni_N (x : Int) (k : Nat) : reckonQI Try.prog ni3 (niO false zF k) noLoop 100000 300 [dead] niF (niArgs (.slice none 0 0) x) = some (.bool true, inter (lwPre0 zF ++ niP x k zF (drF zF k))) := by kernel_rfl
theorem ni_G (n c : Nat) (x : Int) : reckonQI Try.prog ni3 (niO true zF 0) noLoop 100000 300 [dead] niF (niArgs (.slice (some ⟨0, 0, none⟩) n c) x) = some (.bool true, inter [(b2i (decide ((n : Int) > 75)), 1)]) := by kernel_rfl
theorem law_frin {v : Value} {x : Int} {w : World} (hx : (Lit.int .u8 x).wf = true) (hS : SlS [.i .i64, .i .i64, .i .i64, .i .i64, .i .i64, .i .u32, .i .u64, .i .u64, .i .u64, .i .u64, .i .u64] w v) :
    Calls Try.prog niF #[v, .int .u8 x] w fun e w' => e = .returned (.bool true) ∧ Gr w w' := by
  have hL : Laid ([] : List AO) w := Laid.nil w
  have hr : 0 ≤ x ∧ x ≤ 255 := by
    simp [Lit.wf, IntKind.min, IntKind.max, IntKind.signed, IntKind.bits] at hx
    exact hx
  obtain ⟨k, hk, hkx⟩ : ∃ k : Nat, k < 11 ∧ (wi x).tmod 11 = (k : Int) := by
    rw [wi_id (by omega) (by omega), Int.tmod_eq_emod_of_nonneg hr.1]
    exact ⟨(x % 11).toNat, by omega, by omega⟩
  have tl : ∀ {s : Ren}, LR s [.int .u8 x] [.int .u8 x] := fun {s} => LR.ofFlat rfl
  have p0 : AE (lwPre0 zF) := AE.cons (b0 (by decide)) (AE.cons (bt zF_ok.flat) AE.nil)
  rcases hS with rfl | ⟨bl, off, n, c, tot, T, l, rfl, hlc, hsh, hll, hfit, hfr, hcl, hok⟩
  · have H : HR w 1 (placeG [] w) [dead] w := ((HR.start hL).pad 1).here
    exact reckonQ_ok noNG ni3_ok noLoop_low (noLoop_ok _) _ _ _ _ rfl (ni_N x k) (AE.app p0 (niP_ok zF_ok zF_self hk hkx)) H (LR.ofFlat rfl)
  have hb : bl < w.heap.size := by
    unfold World.shape? at hsh
    split at hsh
    · rename_i h; exact (Array.getElem?_eq_some_iff.1 h).1
    · cases hsh
  by_cases c0 : n = 0
  · subst c0
    have H := HR.withPl (pl := ⟨bl, off, off + c, some 1⟩) hL hb (by intro h; simp [GM] at h)
    have lr : LR (upd (placeG [] w) 0 ⟨bl, off, off + c, some 1⟩) (niArgs (.slice (some ⟨0, 0, none⟩) 0 0) x) (niArgs (.slice (some ⟨bl, off, none⟩) 0 c) x) :=
      LR.cons (VR.slice (a := ⟨0, 0, none⟩) (p := ⟨bl, off, off + c, some 1⟩) rfl (upd_same _ _ _) (by show 0 < 1 ∧ off + 0 + c * 1 = off + c ∧ 0 ≤ c; omega)) tl
    exact reckonQ_ok noNG ni3_ok noLoop_low (noLoop_ok _) _ _ _ _ rfl (ni_Z x k) (AE.app p0 (niP_ok zF_ok zF_self hk hkx)) H lr
  have lr : LR (upd (placeG [] w) 0 ⟨bl, off, tot, none⟩) (niArgs (.slice (some ⟨0, 0, none⟩) n c) x) (niArgs (.slice (some ⟨bl, off, none⟩) n c) x) :=
    LR.cons (VR.slice (a := ⟨0, 0, none⟩) (p := ⟨bl, off, tot, none⟩) rfl (upd_same _ _ _) rfl) tl
  by_cases c1 : n ≤ 75
  · have hA : OkT l n := okT_of hll hok
    have o := frM_ok l n
    have H := HR.withSlice (cs := l) hL hsh (by rw [hll]; exact hfit (by omega)) (by rw [hll]; exact hfr) (fun o v hv => ⟨hcl o v hv, List.all_eq_true.1 hA.flat v (List.mem_of_getElem? hv)⟩) (fun i o hi => by simp at hi)
    have hp : AE (lwPre n l (frM l n)) := AE.cons (b0 (by omega)) (AE.cons (bt o.flat) (AE.consP (prP_ok hA) (AE.cons (b1 c1) AE.nil)))
    exact reckonQ_ok noNG ni3_ok noLoop_low (noLoop_ok _) _ _ _ _ rfl (ni_L l n c x k) (AE.app hp (niP_ok o (frM_self l n) hk hkx)) H lr
  · have H := HR.withPl (pl := ⟨bl, off, tot, none⟩) hL hb (by intro h; cases h)
    exact reckonQ_ok noNG ni3_ok noLoop_low (noLoop_ok _) _ _ _ _ rfl (ni_G n c x) (AE.cons (b1 (by omega)) AE.nil) H lr
end Go.Proofs.Ytebolmfdglmpoaa.Ex
end
