/-
  A law's parameters of whatever type: which cells they have (numbers, Booleans, strings, slices); behind a call that leaves what was there, they read as before.
-/
import Derived.Test.YtafegjmaldbbiaaEx1
import Derived.ProofKit
import Derived.WalkKit
import Derived.OpenShut
import Derived.WideKeyArgs
namespace Go.Proofs.Ytafegjmaldbbiaa
open Go.ChangeShapes Go.WideShapes Go.RowKit

inductive Kv where
  | i (k : IntKind)
  | b
  | s
  | l
def Kv.ok (W : World) : Kv → Value → Prop
  | .i k, v => ∃ n, v = .int k n ∧ (Lit.int k n).wf = true
  | .b, v => ∃ x, v = .bool x
  | .s, v => ∃ x : ByteArray, v = .string x ∧ (x.size : Int) ≤ IntKind.i64.max
  | .l, v => v = .slice none 0 0 ∨ ∃ b off len cap, v = .slice (some ⟨b, off, none⟩) len cap ∧ len ≤ cap ∧ (cap : Int) ≤ IntKind.i64.max ∧ b < W.heap.size
def okV (W : World) : List Kv → List Value → Prop
  | [], [] => True
  | k :: ks, v :: vs => k.ok W v ∧ okV W ks vs
  | _, _ => False
theorem okV.nil {W : World} {cs : List Value} (h : okV W [] cs) : cs = [] := by cases cs with | nil => rfl | cons _ _ => exact h.elim
theorem okV.cons {W : World} {k : Kv} {ks : List Kv} {cs : List Value} (h : okV W (k :: ks) cs) : ∃ v vs, cs = v :: vs ∧ k.ok W v ∧ okV W ks vs := by
  cases cs with
  | nil => exact h.elim
  | cons v vs => exact ⟨v, vs, rfl, h.1, h.2⟩
theorem okV.of_get {W : World} : ∀ {ks : List Kv} {cs : List Value}, cs.length = ks.length → (∀ (i : Nat) (k : Kv) (v : Value), ks[i]? = some k → cs[i]? = some v → k.ok W v) → okV W ks cs
  | [], [], _, _ => trivial
  | [], _ :: _, h, _ => by simp at h
  | _ :: _, [], h, _ => by simp at h
  | k :: ks, v :: vs, h, hg => ⟨hg 0 k v rfl rfl, okV.of_get (by simpa using h) fun i k' v' h1 h2 => hg (i + 1) k' v' (by simpa using h1) (by simpa using h2)⟩
def kvOf (P : Program) (u : TypeId) : Option Kv :=
  match P.underlying u with
  | some .bool => some .b
  | some (.int k) => some (.i k)
  | some .string => some .s
  | some (.slice _) => some .l
  | _ => none
def kvsL (P : Program) : List TypeId → Option (List Kv)
  | [] => some []
  | t :: ts =>
    match kvOf P t with
    | some k =>
      match kvsL P ts with
      | some ks => some (k :: ks)
      | none => none
    | none => none
def kvsT (P : Program) (t : TypeId) : Option (List Kv) :=
  match P.underlying t with
  | some (.struct _) | some (.array _ _) =>
    match P.cellTypes P.depth t with
    | some ts => if P.cellsOf t = ts.length then kvsL P ts else none
    | none => none
  | _ => none
section
variable {P : Program} {W : World} {base : Nat}
theorem wf_of_has {k : IntKind} {n : Int} (h : k.has n) : (Lit.int k n).wf = true := by
  obtain ⟨h1, h2⟩ := h
  simp [Lit.wf, h1, h2]
theorem kv_cell {u : TypeId} {k : Kv} (h : kvOf P u = some k) {v : Value} (hc : Cell.okWide P W .any base u v) : k.ok W v := by
  unfold kvOf at h
  split at h
  · rename_i hu
    cases h
    simp only [Cell.okWide, hu, Cell.ok] at hc
    cases v <;> first | exact ⟨_, rfl⟩ | exact hc.elim
  · rename_i k' hu
    cases h
    simp only [Cell.okWide, hu, Cell.ok] at hc
    cases v <;> first | exact hc.elim | skip
    rename_i k2 n
    obtain ⟨rfl, h2⟩ := hc
    exact ⟨n, rfl, wf_of_has h2⟩
  · rename_i hu
    cases h
    simp only [Cell.okWide, hu, Cell.ok] at hc
    cases v <;> first | exact hc.elim | exact ⟨_, rfl, hc⟩
  · rename_i e hu
    cases h
    simp only [Cell.okWide, hu, Cell.ok] at hc
    cases v <;> first | exact hc.elim | skip
    rename_i a l c
    cases a with
    | none =>
      left
      split at hc <;> simp_all
    | some a =>
      right
      obtain ⟨b, off, sp⟩ := a
      simp only [World.has] at hc
      obtain ⟨h1, h2, _, rfl, row, cells, hs, _⟩ := hc
      refine ⟨b, off, l, c, rfl, h1, h2, ?_⟩
      unfold World.shape? at hs
      split at hs
      · rename_i hh
        exact (Array.getElem?_eq_some_iff.1 hh).1
      · cases hs
  · cases h
theorem kvsL_get : ∀ {ts : List TypeId} {ks : List Kv}, kvsL P ts = some ks → ks.length = ts.length ∧ ∀ (i : Nat) (u : TypeId) (k : Kv), ts[i]? = some u → ks[i]? = some k → kvOf P u = some k
  | [], ks, h => by simp [kvsL] at h; subst h; exact ⟨rfl, fun i u k h => by simp at h⟩
  | t :: ts, ks, h => by
    simp only [kvsL] at h
    split at h
    · rename_i k hk
      split at h
      · rename_i ks' hks
        cases h
        obtain ⟨h1, h2⟩ := kvsL_get hks
        refine ⟨by simp [h1], fun i u k' hu hk' => ?_⟩
        cases i with
        | zero => simp at hu hk'; subst hu hk'; exact hk
        | succ i => exact h2 i u k' (by simpa using hu) (by simpa using hk')
      · cases h
    · cases h
theorem open_kv {t : TypeId} {ks : List Kv} (h : kvsT P t = some ks) {v : Value} (hv : Value.okWide P W .any base t v) : ∃ cs, v = .agg ⟨cs⟩ ∧ okV W ks cs := by
  unfold kvsT at h
  have key : ∀ {ts : List TypeId}, P.cellTypes P.depth t = some ts → P.cellsOf t = ts.length → kvsL P ts = some ks → (∃ cs, v = .agg cs ∧ cs.size = P.cellsOf t ∧ Row.okWide P W .any base t cs) → ∃ cs, v = .agg ⟨cs⟩ ∧ okV W ks cs := by
    rintro ts h1 h2 h3 ⟨⟨cs⟩, rfl, hn, us, hus, _, hc⟩
    rw [h1] at hus
    cases hus
    obtain ⟨g1, g2⟩ := kvsL_get h3
    refine ⟨cs, rfl, okV.of_get (by rw [g1, ← h2]; simpa using hn) fun i k x hk hx => ?_⟩
    obtain ⟨u, hu, hcu⟩ := hc i x (by simpa using hx)
    have hi : i < ts.length := by rw [← g1]; exact (List.getElem?_eq_some_iff.1 hk).1
    rw [Nat.mod_eq_of_lt hi] at hu
    exact kv_cell (g2 i u k hu hk) hcu
  split at h
  · rename_i hu
    split at h
    · rename_i ts hts
      split at h
      · rename_i hn
        exact key hts hn h (by simpa only [Value.okWide, hu] using hv)
      · cases h
    · cases h
  · rename_i hu
    split at h
    · rename_i ts hts
      split at h
      · rename_i hn
        exact key hts hn h (by simpa only [Value.okWide, hu] using hv)
      · cases h
    · cases h
  · cases h
theorem open_kv1 {t : TypeId} {k : Kv} (h : kvOf P t = some k) {v : Value} (hv : Value.okWide P W .any base t v) : k.ok W v := by
  refine kv_cell h (base := base) ?_
  unfold kvOf at h
  unfold Value.okWide at hv
  split at hv
  · rename_i hu; rw [hu] at h; cases h
  · rename_i hu; rw [hu] at h; cases h
  · exact hv
variable {H : Type} {enc : TypeId × Value → H}
theorem trodAll_stays (hl : laidOutB P = true) {W' : World} {sp' : Nat → Bool} : ∀ {ts : List TypeId} {vs : List Value} {ds : List (DataW H)} {ps : List MemPlace}, (ts.all fun t => P.readableRec t && decide (t < P.types.size)) = true →
    DataW.TrodAll enc P W base (fun _ => true) true ts vs ds ps → (∀ p ∈ ps, W.sameAt W' p) → (∀ p ∈ ps, sp' p.block = true) → DataW.TrodAll enc P W' base sp' true ts vs ds ps
  | [], vs, ds, ps, _, h, _, _ => by
    cases vs with
    | nil => cases ds with
      | nil => exact h
      | cons _ _ => exact h.elim
    | cons _ _ => exact h.elim
  | t :: ts, vs, ds, ps, hr, h, hs, hsp => by
    obtain ⟨v, vs', d, ds', p, q, rfl, rfl, rfl, h1, h2⟩ := trodAll_cons h
    simp only [List.all_cons, Bool.and_eq_true, decide_eq_true_eq] at hr
    exact ⟨p, q, Go.WideElems.Trod_stays hl hr.1.1 hr.1.2 h1 (fun x hx => hs x (List.mem_append_left _ hx)) (fun x hx => hsp x (List.mem_append_left _ hx)),
      trodAll_stays hl hr.2 h2 (fun x hx => hs x (List.mem_append_right _ hx)) (fun x hx => hsp x (List.mem_append_right _ hx)), rfl⟩
theorem sameAt_of_gr {W W' : World} (h : Ex.Gr W W') {p : MemPlace} (hp : p.block < W.heap.size) : W.sameAt W' p := by
  cases p with
  | cell b off => exact Ex.gr_cell h (a := ⟨b, off, none⟩) hp
  | map b => exact h.2.1 b hp
end
end Go.Proofs.Ytafegjmaldbbiaa
