/-
  Layer 8: the law MapsKeep: its loop, given its rounds.
-/
import Derived.Test.YtafegjmaldbbiaaPackN
namespace Go.Proofs.Ytafegjmaldbbiaa.Ex
open Go Go.RowKit
set_option maxHeartbeats 0
set_option maxRecDepth 1000000
set_option linter.unusedVariables false
set_option linter.unusedSectionVars false
def mkGi (i : Nat) : AO := ⟨true, none, [.int .u8 (Int.ofNat i)]⟩
noncomputable def mkQ (n : Nat) (A B : Int) (β : Nat → Value) : LoopQ := ⟨mkF, 0, fun _ => true, mkE n A B, mkH n (mkK n 0) (mkD n 0), .exit 0, mkN n B β, mkH n (mkK n n) (mkD n n) ++ [mkGi (n - 1)], (some 13, [])⟩
noncomputable def mkP (n k : Nat) (A B : Int) : Cs := [((wi A).tmod 16, (n : Int) - 1), (1, 1), (1, 1), (1, 1), (1, 1), prP (mkE n A B = mkE n A B), prP (mkH n (mkK n 0) (mkD n 0) = mkH n (mkK n 0) (mkD n 0)), ((wi B).tmod (n : Int), (k : Int)), (1, 1), (1, 1)]
abbrev mkS : Value := .slice (some ⟨36, 0, none⟩) 1 1
noncomputable def mkR (n i : Nat) (B : Int) (p : Value) (β : Nat → Value) (G : AO) : Option (List Value × List AO × Option Nat × Bool) := (hopRunL Try.prog mk3 (mkO n 0) noLoop mkF mkLp 1 36 [37] (mkT n B i p β) (mkH n (mkK n i) (mkD n i) ++ [G])).map (fun q => (maskR 36 mkZ q.1, q.2.1, q.2.2.1, eqs q.2.2.2))
noncomputable def mkRV (n i : Nat) (B : Int) (β : Nat → Value) : Option (List Value × List AO × Option Nat × Bool) := some ((mkT n B (i + 1) mkS fun k => bif mkCh k then .bool true else .bool (okR 36 (β k))).map (reV (keepF 36 [37]) 6), mkH n (mkK n (i + 1)) (mkD n (i + 1)) ++ [mkGi i], some 13, true)
theorem hopRun_inter {P : Program} {hk : Hook3} {orc : Orc} {lh : LoopHook} {fid : FuncId} {c : Code} {n q : Nat} {keep : List Nat} {t : List Value} {h : List AO} {r : List Value × List AO × Option Nat × List Int} (hr : hopRunL P hk orc lh fid c n q keep t h = some r) : ∃ cs : Cs, r.2.2.2 = inter cs := by
  unfold hopRunL at hr
  split at hr
  · rename_i x hx
    unfold keepS at hr
    split at hr
    · cases hr
      exact ⟨_, rfl⟩
    · cases hr
  · cases hr
theorem mk_un (n : Nat) (B : Int) (i : Nat) (p : Value) : ∀ β, unmask β 0 mkZ (mkT n B i p fun _ => .bool true) = mkT n B i p β := fun β => rfl
def MkHop (n i : Nat) : Prop := ∀ (B : Int) (p : Value) (β : Nat → Value) (G : AO), FlR 36 β → ∃ β', FlR 36 β' ∧ HopQ Try.prog mkLp 1 36 (mkT n B i p β) (mkH n (mkK n i) (mkD n i) ++ [G]) (mkT n B (i + 1) mkS β') (mkH n (mkK n (i + 1)) (mkD n (i + 1)) ++ [mkGi i]) (some 13, [])
theorem mk_hop {n i : Nat} (hr : ∀ B p β G, mkR n i B p β G = mkRV n i B β) (hh : (mkH n (mkK n (i + 1)) (mkD n (i + 1)) ++ [mkGi i]).map (reO (keepF 36 [37])) = mkH n (mkK n (i + 1)) (mkD n (i + 1)) ++ [mkGi i]) (hb : ∀ B, hopC (mkT n B (i + 1) mkS fun _ => .bool true) (mkH n (mkK n (i + 1)) (mkD n (i + 1)) ++ [mkGi i]) = true) (hd : ∀ B, deadAt mkZ (mkT n B (i + 1) mkS fun _ => .bool true) = true) : MkHop n i := by
  intro B p β G hβ
  have h := hr B p β G
  unfold mkR mkRV at h
  cases hx : hopRunL Try.prog mk3 (mkO n 0) noLoop mkF mkLp 1 36 [37] (mkT n B i p β) (mkH n (mkK n i) (mkD n i) ++ [G]) with
  | none => rw [hx] at h; cases h
  | some r =>
    obtain ⟨cs, hcs⟩ := hopRun_inter hx
    rw [hx] at h
    simp only [Option.map_some, Option.some.injEq, Prod.mk.injEq] at h
    obtain ⟨h1, h2, h3, h4⟩ := h
    rw [hcs] at h4
    refine hopR2_ok noNG mk3_ok noLoop_low (noLoop_ok _) (orc := mkO n 0) mk_one [37] (T := mkT n B (i + 1) mkS) (ds := mkZ) (cs := cs) (mk_un n B (i + 1) mkS) mkCh hβ ?_ hh (by decide) (by show 36 ≤ 37; decide) (hd B) (hb B) (eqs_ok h4)
    rw [hx]
    simp only [Option.map_some]
    rw [h1, ← h2, ← h3, ← hcs]
def mkSO : Orc := fun f t _ => if Nat.beq f mkF then (match t with | 25 => some (.bool false) | _ => none) else none
theorem mk_stop (n : Nat) (B : Int) (p : Value) (β : Nat → Value) (K D : List Value) (G : AO) : (loopN (bodyL Try.prog mk3 mkSO noLoop mkF mkLp) 1 ⟨mkT n B n p β, mkH n K D ++ [G], (none, [])⟩).map (fun r => (r.1, maskQ mkNs r.2.t, r.2.h, r.2.m.1, inter r.2.m.2)) = some (.exit 0, mkN n B fun _ => .bool true, mkH n K D ++ [G], none, inter [(b2i (decide ((n : Int) < (n : Int))), 0)]) := by kernel_rfl
theorem mk_rounds {n : Nat} (B : Int) (hop : ∀ i, i < n → MkHop n i) : ∀ (d i : Nat) (p : Value) (β : Nat → Value) (G : AO), FlR 36 β → i + (d + 1) = n → ∃ β', HopQ Try.prog mkLp (d + 1) 36 (mkT n B i p β) (mkH n (mkK n i) (mkD n i) ++ [G]) (mkT n B n mkS β') (mkH n (mkK n n) (mkD n n) ++ [mkGi (n - 1)]) (some 13, [])
  | 0, i, p, β, G, hβ, h => by
    obtain ⟨β', _, Q⟩ := hop i (by omega) B p β G hβ
    obtain rfl : n = i + 1 := by omega
    exact ⟨β', Q⟩
  | d + 1, i, p, β, G, hβ, h => by
    obtain ⟨β1, f1, q1⟩ := hop i (by omega) B p β G hβ
    obtain ⟨β2, q2⟩ := mk_rounds B hop d (i + 1) mkS β1 (mkGi i) f1 (by omega)
    refine ⟨β2, ?_⟩
    rw [show d + 1 + 1 = 1 + (d + 1) by omega]
    exact q1.trans q2 (fun _ _ h => h) (fun _ _ h => h)
theorem Stop.toQ {c : Code} {n q : Nat} {t t' : List Value} {h h' : List AO} {e : Exit} {m : Mk} (a : Stop Try.prog c n t h e t' h' m) : StopQ Try.prog c n q t h e t' h' m :=
  fun wb k hm hkq s m0 act w H m' => rounds_mono (fun e' a'' w'' hp => ⟨hp.1, let ⟨s'', h3, h4⟩ := hp.2; ⟨s'', fun i p _ hp => h3 i p hp, h4⟩⟩) n act w (a wb k hm s m0 act w H m')
theorem mkE_eq (n : Nat) (A B : Int) : mkT n B 0 UUU (fun k => (mkE n A B).getD k (.bool true)) = mkE n A B := by kernel_rfl
theorem mkE_ok (n : Nat) (A B : Int) : FlR 36 (fun k => (mkE n A B).getD k (.bool true)) := by
  have a : (mkE n A B).all (okR 36) = true := by kernel_rfl
  intro k
  show okR 36 ((mkE n A B).getD k (.bool true)) = true
  rw [List.getD_eq_getElem?_getD]
  cases e : (mkE n A B)[k]? with
  | none => rfl
  | some v => exact List.all_eq_true.1 a v (List.mem_of_getElem? e)
theorem mk_loop {n : Nat} (A B : Int) (hn : 1 ≤ n) (hop : ∀ i, i < n → MkHop n i) : ∃ β, LoopQOk Try.prog (mkQ n A B β) := by
  obtain ⟨d, rfl⟩ : ∃ d, n = d + 1 := ⟨n - 1, by omega⟩
  obtain ⟨β1, q1⟩ := mk_rounds B hop d 0 UUU _ dead (mkE_ok (d + 1) A B) (by omega)
  rw [mkE_eq] at q1
  have q1 := HopQ.pad (h := mkH (d + 1) (mkK (d + 1) 0) (mkD (d + 1) 0)) 1 q1
  obtain ⟨β2, q2⟩ := stopM_ok noNG mk3_ok noLoop_low (noLoop_ok _) mk_one (fun β => rfl) (mk_stop (d + 1) B mkS β1 (mkK (d + 1) (d + 1)) (mkD (d + 1) (d + 1)) (mkGi (d + 1 - 1))) (AE.cons (b0 (by omega)) AE.nil)
  have S := q1.stop ((Stop.toQ q2).weak (m3 := (some 13, [])) (bndW rfl)) (fun _ _ h => h) (fun _ _ h => h)
  exact ⟨β2, loopQ_ok (N := d + 1 + 1) mk_one (S.stop (by kernel_rfl))⟩
end Go.Proofs.Ytafegjmaldbbiaa.Ex
