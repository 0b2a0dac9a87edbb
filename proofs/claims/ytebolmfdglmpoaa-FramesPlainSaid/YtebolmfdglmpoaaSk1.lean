/-
  Package slots, its small functions by contracts.
-/
import Derived.Test.YtebolmfdglmpoaaSk0
namespace Go.Proofs.Ytebolmfdglmpoaa.Ex
open Go Go.RowKit
set_option maxHeartbeats 0
set_option maxRecDepth 1000000
set_option linter.unusedVariables false
/-- An oracle by function and slot. -/
def oS (l : List (Nat × Nat × Value)) : Orc := fun f t _ =>
  match l.find? (fun p => Nat.beq p.1 f && Nat.beq p.2.1 t) with
  | some p => some p.2.2
  | none => none
theorem rq {hk : Hook3} (hhk : HookOk3 Try.prog hk) (orc : Orc) {g : FuncId} {args : List Value} {v : Value} {cs : Cs} (hf : args.all flat = true) (hv : flat v = true)
    (h : reckonPI Try.prog hk orc noLoop 100000 300 [] g args = some (v, inter cs)) (he : AE cs) (w : World) : Calls Try.prog g ⟨args⟩ w fun e w' => e = .returned v ∧ Gr w w' :=
  reckonP_ok noNG hhk noLoop_low (noLoop_ok _) orc 100000 300 [] hf hv h he w (Laid.nil w)
theorem rqv {g : FuncId} {args : Array Value} {u v : Value} {w : World} (e : u = v) (h : Calls Try.prog g args w fun x w' => x = .returned u ∧ Gr w w') : Calls Try.prog g args w fun x w' => x = .returned v ∧ Gr w w' := e ▸ h
def nh3 : Hook3 := liftH (guardH noHook)
theorem nh3_ok : HookOk3 Try.prog nh3 := lift_ok (guard_ok (noHook_ok _))
/-- What is known of a value, by its numbers. -/
structure VI where
  k : Int
  m : Int
  i : Int
  o : Int
  s : Int
  t : Int
  u : Int
  a : Int
  b : Int
  c : Int
  d : Int
def vL (v : VI) : List Value := [.int .i64 v.k, .int .i64 v.m, .int .i64 v.i, .int .i64 v.o, .int .i64 v.s, .int .u64 v.t, .int .u64 v.u, .int .u64 v.a, .int .u64 v.b, .int .i64 v.c, .int .i64 v.d]
def zV : VI := ⟨0, 0, 0, 0, 0, 0, 0, 0, 0, 0, 0⟩
/-- The number in a cell. -/
def pc (L : List Value) (o : Nat) : Int := nOfV (L.getD o .nilFunc)
def vAt (L : List Value) (o : Nat) : VI := ⟨pc L o, pc L (o + 1), pc L (o + 2), pc L (o + 3), pc L (o + 4), pc L (o + 5), pc L (o + 6), pc L (o + 7), pc L (o + 8), pc L (o + 9), pc L (o + 10)⟩
theorem vL_flat (v : VI) : (vL v).all flat = true := rfl
theorem vL_scal (v : VI) : (vL v).all scal = true := rfl
theorem agV_flat (v : VI) : flat (.agg ⟨vL v⟩) = true := rfl
def fsK (off n : Int) : Bool := !(decide (n < 1)) && (!(decide (n > 512)) && (!(decide (off < -512)) && !(decide (off > IntKind.i64.wrap (0 - n)))))
def fsA (off n : Int) : Int := bif fsK off n then IntKind.i64.wrap (off + 512) else 0
theorem first_0 (off n : Int) (he : AE [(b2i (decide (n < 1)), 1)]) (w : World) : Calls Try.prog 40 #[.int .i64 off, .int .i64 n] w fun e w' => e = .returned (.tuple ⟨[.int .i64 0, .bool false]⟩) ∧ Gr w w' :=
  rq nh3_ok (oS [(40, 7, .bool true)]) (cs := [(b2i (decide (n < 1)), 1)]) rfl rfl (by kernel_rfl) he w
theorem first_1 (off n : Int) (he : AE [(b2i (decide (n < 1)), 0), (b2i (decide (n > 512)), 1)]) (w : World) : Calls Try.prog 40 #[.int .i64 off, .int .i64 n] w fun e w' => e = .returned (.tuple ⟨[.int .i64 0, .bool false]⟩) ∧ Gr w w' :=
  rq nh3_ok (oS [(40, 7, .bool false), (40, 10, .bool true)]) (cs := [(b2i (decide (n < 1)), 0), (b2i (decide (n > 512)), 1)]) rfl rfl (by kernel_rfl) he w
theorem first_2 (off n : Int) (he : AE [(b2i (decide (n < 1)), 0), (b2i (decide (n > 512)), 0), (b2i (decide (off < -512)), 1)]) (w : World) : Calls Try.prog 40 #[.int .i64 off, .int .i64 n] w fun e w' => e = .returned (.tuple ⟨[.int .i64 0, .bool false]⟩) ∧ Gr w w' :=
  rq nh3_ok (oS [(40, 7, .bool false), (40, 10, .bool false), (40, 14, .bool true)]) (cs := [(b2i (decide (n < 1)), 0), (b2i (decide (n > 512)), 0), (b2i (decide (off < -512)), 1)]) rfl rfl (by kernel_rfl) he w
theorem first_3 (off n : Int) (he : AE [(b2i (decide (n < 1)), 0), (b2i (decide (n > 512)), 0), (b2i (decide (off < -512)), 0), (b2i (decide (off > IntKind.i64.wrap (0 - n))), 1)]) (w : World) : Calls Try.prog 40 #[.int .i64 off, .int .i64 n] w fun e w' => e = .returned (.tuple ⟨[.int .i64 0, .bool false]⟩) ∧ Gr w w' :=
  rq nh3_ok (oS [(40, 7, .bool false), (40, 10, .bool false), (40, 14, .bool false), (40, 20, .bool true)]) (cs := [(b2i (decide (n < 1)), 0), (b2i (decide (n > 512)), 0), (b2i (decide (off < -512)), 0), (b2i (decide (off > IntKind.i64.wrap (0 - n))), 1)]) rfl rfl (by kernel_rfl) he w
theorem first_4 (off n : Int) (he : AE [(b2i (decide (n < 1)), 0), (b2i (decide (n > 512)), 0), (b2i (decide (off < -512)), 0), (b2i (decide (off > IntKind.i64.wrap (0 - n))), 0)]) (w : World) : Calls Try.prog 40 #[.int .i64 off, .int .i64 n] w fun e w' => e = .returned (.tuple ⟨[.int .i64 (IntKind.i64.wrap (off + 512)), .bool true]⟩) ∧ Gr w w' :=
  rq nh3_ok (oS [(40, 7, .bool false), (40, 10, .bool false), (40, 14, .bool false), (40, 20, .bool false)]) (cs := [(b2i (decide (n < 1)), 0), (b2i (decide (n > 512)), 0), (b2i (decide (off < -512)), 0), (b2i (decide (off > IntKind.i64.wrap (0 - n))), 0)]) rfl rfl (by kernel_rfl) he w
theorem c_first (off n : Int) (w : World) : Calls Try.prog 40 #[.int .i64 off, .int .i64 n] w fun e w' => e = .returned (.tuple ⟨[.int .i64 (fsA off n), .bool (fsK off n)]⟩) ∧ Gr w w' := by
  cases k0 : decide (n < 1) with
  | true => exact rqv (by simp only [fsA, fsK, k0, Bool.not_true, Bool.false_and, cond_false]) (first_0 off n (AE.cons (bt k0) AE.nil) w)
  | false =>
    cases k1 : decide (n > 512) with
    | true => exact rqv (by simp only [fsA, fsK, k0, k1, Bool.not_true, Bool.not_false, Bool.true_and, Bool.false_and, cond_false]) (first_1 off n (AE.cons (bf k0) (AE.cons (bt k1) AE.nil)) w)
    | false =>
      cases k2 : decide (off < -512) with
      | true => exact rqv (by simp only [fsA, fsK, k0, k1, k2, Bool.not_true, Bool.not_false, Bool.true_and, Bool.false_and, cond_false]) (first_2 off n (AE.cons (bf k0) (AE.cons (bf k1) (AE.cons (bt k2) AE.nil))) w)
      | false =>
        cases k3 : decide (off > IntKind.i64.wrap (0 - n)) with
        | true => exact rqv (by simp only [fsA, fsK, k0, k1, k2, k3, Bool.not_true, Bool.not_false, Bool.true_and, cond_false]) (first_3 off n (AE.cons (bf k0) (AE.cons (bf k1) (AE.cons (bf k2) (AE.cons (bt k3) AE.nil)))) w)
        | false => exact rqv (by simp only [fsA, fsK, k0, k1, k2, k3, Bool.not_false, Bool.true_and, cond_true]) (first_4 off n (AE.cons (bf k0) (AE.cons (bf k1) (AE.cons (bf k2) (AE.cons (bf k3) AE.nil)))) w)
def hk_first : Hook := fun f args _ =>
  if Nat.beq f 40 then
    match args with
    | [.int .i64 a, .int .i64 b] => some (.tuple ⟨[.int .i64 (fsA a b), .bool (fsK a b)]⟩, [])
    | _ => none
  else none
theorem hk_first_ok : HookOk Try.prog hk_first := by
  intro f args h v cs hv hc wb k s w H
  unfold hk_first at hv
  split at hv
  · rename_i hf
    obtain rfl := Nat.eq_of_beq_eq_true hf
    split at hv
    · rename_i a b
      cases hv
      exact c_first a b w
    · cases hv
  · cases hv
def hkf3 : Hook3 := liftH (guardH hk_first)
theorem hkf3_ok : HookOk3 Try.prog hkf3 := lift_ok (guard_ok hk_first_ok)
def wdN (n : Int) : Bool := n == 1 || (n == 2 || (n == 4 || n == 8))
def wdK (off n : Int) : Bool := wdN n && fsK off n
def wdA (off n : Int) : Int := bif wdN n then fsA off n else 0
theorem word_0 (off n : Int) (he : AE [(b2i (n == 1), 1)]) (w : World) : Calls Try.prog 32 #[.int .i64 off, .int .i64 n] w fun e w' => e = .returned (.tuple ⟨[.int .i64 (fsA off n), .bool (fsK off n)]⟩) ∧ Gr w w' :=
  rq hkf3_ok (oS [(32, 8, .bool true)]) (cs := [(b2i (n == 1), 1)]) rfl rfl (by kernel_rfl) he w
theorem word_1 (off n : Int) (he : AE [(b2i (n == 1), 0), (b2i (n == 2), 1)]) (w : World) : Calls Try.prog 32 #[.int .i64 off, .int .i64 n] w fun e w' => e = .returned (.tuple ⟨[.int .i64 (fsA off n), .bool (fsK off n)]⟩) ∧ Gr w w' :=
  rq hkf3_ok (oS [(32, 8, .bool false), (32, 9, .bool true)]) (cs := [(b2i (n == 1), 0), (b2i (n == 2), 1)]) rfl rfl (by kernel_rfl) he w
theorem word_2 (off n : Int) (he : AE [(b2i (n == 1), 0), (b2i (n == 2), 0), (b2i (n == 4), 1)]) (w : World) : Calls Try.prog 32 #[.int .i64 off, .int .i64 n] w fun e w' => e = .returned (.tuple ⟨[.int .i64 (fsA off n), .bool (fsK off n)]⟩) ∧ Gr w w' :=
  rq hkf3_ok (oS [(32, 8, .bool false), (32, 9, .bool false), (32, 10, .bool true)]) (cs := [(b2i (n == 1), 0), (b2i (n == 2), 0), (b2i (n == 4), 1)]) rfl rfl (by kernel_rfl) he w
theorem word_3 (off n : Int) (he : AE [(b2i (n == 1), 0), (b2i (n == 2), 0), (b2i (n == 4), 0), (b2i (n == 8), 1)]) (w : World) : Calls Try.prog 32 #[.int .i64 off, .int .i64 n] w fun e w' => e = .returned (.tuple ⟨[.int .i64 (fsA off n), .bool (fsK off n)]⟩) ∧ Gr w w' :=
  rq hkf3_ok (oS [(32, 8, .bool false), (32, 9, .bool false), (32, 10, .bool false), (32, 11, .bool true)]) (cs := [(b2i (n == 1), 0), (b2i (n == 2), 0), (b2i (n == 4), 0), (b2i (n == 8), 1)]) rfl rfl (by kernel_rfl) he w
theorem word_4 (off n : Int) (he : AE [(b2i (n == 1), 0), (b2i (n == 2), 0), (b2i (n == 4), 0), (b2i (n == 8), 0)]) (w : World) : Calls Try.prog 32 #[.int .i64 off, .int .i64 n] w fun e w' => e = .returned (.tuple ⟨[.int .i64 0, .bool false]⟩) ∧ Gr w w' :=
  rq hkf3_ok (oS [(32, 8, .bool false), (32, 9, .bool false), (32, 10, .bool false), (32, 11, .bool false)]) (cs := [(b2i (n == 1), 0), (b2i (n == 2), 0), (b2i (n == 4), 0), (b2i (n == 8), 0)]) rfl rfl (by kernel_rfl) he w
theorem c_word (off n : Int) (w : World) : Calls Try.prog 32 #[.int .i64 off, .int .i64 n] w fun e w' => e = .returned (.tuple ⟨[.int .i64 (wdA off n), .bool (wdK off n)]⟩) ∧ Gr w w' := by
  cases k0 : (n == 1) with
  | true => exact rqv (by simp only [wdA, wdK, wdN, k0, Bool.true_or, Bool.true_and, cond_true]) (word_0 off n (AE.cons (bt k0) AE.nil) w)
  | false =>
    cases k1 : (n == 2) with
    | true => exact rqv (by simp only [wdA, wdK, wdN, k0, k1, Bool.true_or, Bool.false_or, Bool.true_and, cond_true]) (word_1 off n (AE.cons (bf k0) (AE.cons (bt k1) AE.nil)) w)
    | false =>
      cases k2 : (n == 4) with
      | true => exact rqv (by simp only [wdA, wdK, wdN, k0, k1, k2, Bool.true_or, Bool.false_or, Bool.true_and, cond_true]) (word_2 off n (AE.cons (bf k0) (AE.cons (bf k1) (AE.cons (bt k2) AE.nil))) w)
      | false =>
        cases k3 : (n == 8) with
        | true => exact rqv (by simp only [wdA, wdK, wdN, k0, k1, k2, k3, Bool.false_or, Bool.true_and, cond_true]) (word_3 off n (AE.cons (bf k0) (AE.cons (bf k1) (AE.cons (bf k2) (AE.cons (bt k3) AE.nil)))) w)
        | false => exact rqv (by simp only [wdA, wdK, wdN, k0, k1, k2, k3, Bool.false_or, Bool.false_and, cond_false]) (word_4 off n (AE.cons (bf k0) (AE.cons (bf k1) (AE.cons (bf k2) (AE.cons (bf k3) AE.nil)))) w)
def hk_word : Hook := fun f args _ =>
  if Nat.beq f 32 then
    match args with
    | [.int .i64 a, .int .i64 b] => some (.tuple ⟨[.int .i64 (wdA a b), .bool (wdK a b)]⟩, [])
    | _ => none
  else none
theorem hk_word_ok : HookOk Try.prog hk_word := by
  intro f args h v cs hv hc wb k s w H
  unfold hk_word at hv
  split at hv
  · rename_i hf
    obtain rfl := Nat.eq_of_beq_eq_true hf
    split at hv
    · rename_i a b
      cases hv
      exact c_word a b w
    · cases hv
  · cases hv
def isP (at_ n : Int) : Bool := (n == 8) && (at_.tmod 8 == 0)
theorem isP_0 (x n : Int) (he : AE [(b2i (n == 8), 0)]) (w : World) : Calls Try.prog 33 #[.int .i64 x, .int .i64 n] w fun e w' => e = .returned (.bool false) ∧ Gr w w' :=
  rq nh3_ok (oS [(33, 6, .bool false)]) (cs := [(b2i (n == 8), 0)]) rfl rfl (by kernel_rfl) he w
theorem isP_1 (x n : Int) (he : AE [(b2i (n == 8), 1)]) (w : World) : Calls Try.prog 33 #[.int .i64 x, .int .i64 n] w fun e w' => e = .returned (.bool (x.tmod 8 == 0)) ∧ Gr w w' :=
  rq nh3_ok (oS [(33, 6, .bool true)]) (cs := [(b2i (n == 8), 1)]) rfl rfl (by kernel_rfl) he w
theorem c_isP (x n : Int) (w : World) : Calls Try.prog 33 #[.int .i64 x, .int .i64 n] w fun e w' => e = .returned (.bool (isP x n)) ∧ Gr w w' := by
  cases k0 : (n == 8) with
  | true => exact rqv (by simp only [isP, k0, Bool.true_and]) (isP_1 x n (AE.cons (bt k0) AE.nil) w)
  | false => exact rqv (by simp only [isP, k0, Bool.false_and]) (isP_0 x n (AE.cons (bf k0) AE.nil) w)
def hk_isP : Hook := fun f args _ =>
  if Nat.beq f 33 then
    match args with
    | [.int .i64 a, .int .i64 b] => some (.bool (isP a b), [])
    | _ => none
  else none
theorem hk_isP_ok : HookOk Try.prog hk_isP := by
  intro f args h v cs hv hc wb k s w H
  unfold hk_isP at hv
  split at hv
  · rename_i hf
    obtain rfl := Nat.eq_of_beq_eq_true hf
    split at hv
    · rename_i a b
      cases hv
      exact c_isP a b w
    · cases hv
  · cases hv
def ptK (k : Int) : Bool := decide (k ≥ 2) && decide (k ≤ 8)
theorem pts_0 (v : VI) (he : AE [(b2i (decide (v.k ≥ 2)), 0)]) (w : World) : Calls Try.prog 34 #[.agg ⟨vL v⟩] w fun e w' => e = .returned (.bool false) ∧ Gr w w' :=
  rq nh3_ok (oS [(34, 5, .bool false)]) (cs := [(b2i (decide (v.k ≥ 2)), 0)]) rfl rfl (by kernel_rfl) he w
theorem pts_1 (v : VI) (he : AE [(b2i (decide (v.k ≥ 2)), 1)]) (w : World) : Calls Try.prog 34 #[.agg ⟨vL v⟩] w fun e w' => e = .returned (.bool (decide (v.k ≤ 8))) ∧ Gr w w' :=
  rq nh3_ok (oS [(34, 5, .bool true)]) (cs := [(b2i (decide (v.k ≥ 2)), 1)]) rfl rfl (by kernel_rfl) he w
theorem c_pts (v : VI) (w : World) : Calls Try.prog 34 #[.agg ⟨vL v⟩] w fun e w' => e = .returned (.bool (ptK v.k)) ∧ Gr w w' := by
  cases k0 : decide (v.k ≥ 2) with
  | true => exact rqv (by simp only [ptK, k0, Bool.true_and]) (pts_1 v (AE.cons (bt k0) AE.nil) w)
  | false => exact rqv (by simp only [ptK, k0, Bool.false_and]) (pts_0 v (AE.cons (bf k0) AE.nil) w)
def hk_pts : Hook := fun f args _ =>
  if Nat.beq f 34 then
    match args with
    | [.agg ⟨[.int .i64 a0, .int .i64 a1, .int .i64 a2, .int .i64 a3, .int .i64 a4, .int .u64 a5, .int .u64 a6, .int .u64 a7, .int .u64 a8, .int .i64 a9, .int .i64 a10]⟩] => some (.bool (ptK a0), [])
    | _ => none
  else none
theorem hk_pts_ok : HookOk Try.prog hk_pts := by
  intro f args h v cs hv hc wb k s w H
  unfold hk_pts at hv
  split at hv
  · rename_i hf
    obtain rfl := Nat.eq_of_beq_eq_true hf
    split at hv
    · rename_i a0 a1 a2 a3 a4 a5 a6 a7 a8 a9 a10
      cases hv
      exact c_pts ⟨a0, a1, a2, a3, a4, a5, a6, a7, a8, a9, a10⟩ w
    · cases hv
  · cases hv
/-- The same, told. -/
def hk_ptsB (t : Bool) : Hook := fun f args _ =>
  if Nat.beq f 34 then
    match args with
    | [.agg ⟨[.int .i64 a0, .int .i64 a1, .int .i64 a2, .int .i64 a3, .int .i64 a4, .int .u64 a5, .int .u64 a6, .int .u64 a7, .int .u64 a8, .int .i64 a9, .int .i64 a10]⟩] => some (.bool t, [(b2i (ptK a0), b2i t)])
    | _ => none
  else none
theorem hk_ptsB_ok (t : Bool) : HookOk Try.prog (hk_ptsB t) := by
  intro f args h v cs hv hc wb k s w H
  unfold hk_ptsB at hv
  split at hv
  · rename_i hf
    obtain rfl := Nat.eq_of_beq_eq_true hf
    split at hv
    · rename_i a0 a1 a2 a3 a4 a5 a6 a7 a8 a9 a10
      cases hv
      have e : ptK a0 = t := b2i_inj (hc _ (List.mem_singleton.2 rfl))
      rw [← e]
      exact c_pts ⟨a0, a1, a2, a3, a4, a5, a6, a7, a8, a9, a10⟩ w
    · cases hv
  · cases hv
end Go.Proofs.Ytebolmfdglmpoaa.Ex
