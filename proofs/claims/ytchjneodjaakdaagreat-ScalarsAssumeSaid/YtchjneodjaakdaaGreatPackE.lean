/-
  Lemmas for the laws of this seat, part E: RegT, Sp9, Sp10, Sp11, Sp12, Sp13, NumsMath, AluMath, Nums, Alu.
-/
import Derived.Test.YtchjneodjaakdaaGreatPackD
import Derived.StillTail
import Derived.Deep.Quiet
import Derived.Test.YtchjneodjaakdaaGreatProg
import Derived.Handy
import Derived.Lib.SlBytesRow
import Derived.BigQuiet
section
namespace Go.Proofs.YtchjneodjaakdaaGreat
open Go.RowKit

section
variable {P : Program} {ops : Array Oper} {md : Region.Mode} {C : World → Prop}
/-- Whatever order the head takes; behind it 'L'. -/
def headAny (P : Program) (md : Region.Mode) (ops : Array Oper) (C : World → Prop) (n : Nat) (L : Array Bool → Act → Prop) : Nat → Array Bool → Act → Prop
  | 0, m, a => L m a
  | f + 1, m, a => Region.ready md ops m ≠ [] ∧ ∀ i ∈ Region.ready md ops m, i < n ∧ qOp P ops C i (headAny P md ops C n L f (m.setIfInBounds i true)) a

theorem any_of_head {n g : Nat} {L : Array Bool → Act → Prop} {Q' : Exit → Act → World → Prop} (hL : ∀ m a w, C w → L m a → wpAny P md ops Q' g m a w) (f : Nat) :
    ∀ (m : Array Bool) (a : Act) (w : World), C w → headAny P md ops C n L f m a → wpAny P md ops Q' (f + g) m a w := by
  induction f with
  | zero => intro m a w hw h; rw [Nat.zero_add]; exact hL m a w hw h
  | succ f ih =>
    intro m a w hw h
    rw [Nat.add_right_comm]
    refine ⟨fun h0 => absurd h0 h.1, fun i hi => ?_⟩
    exact wpOp_of_qOp hw (fun a' w' hw' h' => ih _ a' w' hw' h') (h.2 i hi).2

theorem head_first {n i : Nat} {oi : Oper} {v : Value} {L : Array Bool → Act → Prop} (hi : ops[i]? = some oi) (hsel : Region.noSelect ops = true)
    (hs : Region.sinkB md ops n = true) (hc : Region.chainB md ops n = true) (hn : n < ops.size) (hin : i < n) (hdone : ∀ m a, L m a → ∀ j ∈ Region.ready md ops m, n ≤ j) (f : Nat) :
    ∀ (m : Array Bool) (a : Act), HeadInv md ops n m →
      (∀ j oj, ops[j]? = some oj → j ≠ i → m.getD j true = false → (∀ e ∈ oj.after, Region.binds md e = true → e.on ≠ i) → oi.apart ops oj = true) →
      i ∈ Region.ready md ops m → YieldsIn P ops C oi v a → headAny P md ops C n L f (m.setIfInBounds i true) (a.put oi.dst v) → headAny P md ops C n L (f + 1) m a := by
  have sel := Region.noSelect_spec hsel
  induction f with
  | zero =>
    intro m a inv _ hr hy H
    have un := (mem_ready.1 hr).1
    refine ⟨List.ne_nil_of_mem hr, fun j hj => ?_⟩
    have hjn : j < n := Nat.lt_of_not_le fun hle => tail_waits hs hc hn inv _ i rfl hin un j hle hj
    refine ⟨hjn, ?_⟩
    by_cases e : j = i
    · subst e; exact hy.qOp hi H
    · exact absurd hjn (Nat.not_lt.2 (hdone _ _ H j (ready_mono hj e)))
  | succ f ih =>
    intro m a inv free hr hy H
    have un := (mem_ready.1 hr).1
    refine ⟨List.ne_nil_of_mem hr, fun j hj => ?_⟩
    have hjn : j < n := Nat.lt_of_not_le fun hle => tail_waits hs hc hn inv _ i rfl hin un j hle hj
    refine ⟨hjn, ?_⟩
    by_cases e : j = i
    · subst e; exact hy.qOp hi H
    · obtain ⟨unj, oj, hoj, all⟩ := mem_ready.1 hj
      have no : ∀ x ∈ oj.after, Region.binds md x = true → x.on ≠ i := fun x hx hb he => by
        have h1 := all x hx hb
        rw [he, getD_both un] at h1
        cases h1
      have h2 := qOp_put hoj (free j oj hoj e unj no) (sel i oi · · hi) (sel j oj · · hoj) hy (H.2 j (ready_mono hj e)).2
      refine qOp_mono (fun a' h3 => ih (m.setIfInBounds j true) a' (inv.set hj hjn) (fun k ok hk hki unk nok => free k ok hk hki ?_ nok) (ready_mono hr (Ne.symm e)) h3.1 ?_) h2
      · by_cases ejk : j = k
        · subst ejk; exact unj
        · rwa [getD_set_ne true ejk] at unk
      · rw [Array.setIfInBounds_comm _ _ e]
        exact h3.2

theorem head_lex {n g : Nat} {Lq : Act → Prop} (hsel : Region.noSelect ops = true) (hs : Region.sinkB md ops n = true) (hc : Region.chainB md ops n = true) (hn : n < ops.size) (l : List Oper) :
    ∀ (k : Nat) (m : Array Bool) (a : Act), (∀ j, j < l.length → l[j]? = ops[k + j]?) → k + l.length = n → HeadInv md ops n m → Region.lexHead md ops g l.length k m = true →
    wpQuiet P ops C Lq l a → headAny P md ops C n (fun m' a' => Region.seqB md ops g n m' = true ∧ Lq a') l.length m a := by
  induction l with
  | nil =>
    intro k m a _ hk _ hB h
    have hk : k = n := by simpa using hk
    subst hk
    exact ⟨by simpa [Region.lexHead] using hB, h⟩
  | cons o l ih =>
    intro k m a hl hk inv hB h
    have h0 : ops[k]? = some o := (hl 0 (by simp)).symm
    rw [List.length_cons] at hk
    simp only [List.length_cons, Region.lexHead, Bool.and_eq_true] at hB
    obtain ⟨⟨hr, hf⟩, hB2⟩ := hB
    have hr2 : k ∈ Region.ready md ops m := by simpa using hr
    have hq : qOp P ops C k (wpQuiet P ops C Lq l) a := by unfold qOp; simp only [h0]; exact h
    obtain ⟨v, hy, hK⟩ := yieldsIn_of_qOp h0 hq
    refine head_first h0 hsel hs hc hn (by omega) (fun m' a' hL => seqB_ready hL.1) l.length m a inv (Region.free_spec h0 hf) hr2 hy (ih (k + 1) _ _ (fun j hj => ?_) (by omega) (inv.set hr2 (by omega)) hB2 hK)
    have := hl (j + 1) (by simp; omega)
    rw [show k + 1 + j = k + (j + 1) by omega]
    simpa using this
end

theorem wp_region_lex_tail {P : Program} {id : Nat} {Q : Exit → Act → World → Prop} {a : Act} {w : World} {l : List Oper} (S : World → Prop) (n : Nat) (hm : P.follows .mixedOrders = true) (hB : Region.lexTailB .any l.toArray n = true)
    (h0 : S w.drew) (h : Nonempty (Held S) → wpQuiet P l.toArray (fun w' => ∃ x : Held S, w' = x.w) (fun a' => ∀ w', S w' → wpList P l.toArray Q (l.drop n) a' w') (l.take n) a) : (Code.region id l.toArray true).wp P Q a w := by
  simp only [Region.lexTailB, Bool.and_eq_true, decide_eq_true_eq] at hB
  obtain ⟨⟨⟨⟨hsel, hn⟩, hs⟩, hc⟩, hlex⟩ := hB
  have hlen : n < l.length := by simpa using hn
  have ht : (l.take n).length = n := by rw [List.length_take]; omega
  have hd : (l.drop n).length = l.toArray.size - n := by simp
  have inv : HeadInv .any l.toArray n (Array.replicate l.toArray.size false) :=
    ⟨by simp, fun j _ _ hl => (by rw [getD_replicate_false] at hl; cases hl), fun t _ h2 => getD_in (by simpa using h2) (getD_replicate_false _ _)⟩
  have H := head_lex (P := P) (C := fun w' => ∃ x : Held S, w' = x.w) (md := .any) (g := l.toArray.size - n) hsel hs hc hn (l.take n) 0 _ a (fun j hj => by rw [ht] at hj; simp [hj]) (by rw [ht]; omega) inv (by rw [ht]; exact hlex) (h ⟨⟨w.drew, h0⟩⟩)
  have A := any_of_head (Q' := Q) (g := l.toArray.size - n) (fun m a' w' hw' hL => by
    obtain ⟨x, rfl⟩ := hw'
    have := wpAny_of_seq (md := .any) (Q' := Q) (l.drop n) n m a' x.w (fun j => by simp [List.getElem?_drop]) (by rw [hd]; exact hL.1) (hL.2 x.w x.h)
    rwa [hd] at this) _ _ _ w.drew ⟨⟨w.drew, h0⟩, rfl⟩ H
  rw [ht, show n + (l.toArray.size - n) = l.toArray.size by omega] at A
  exact wp_region_any hm A
end Go.Proofs.YtchjneodjaakdaaGreat
end
section
namespace Go.Proofs.YtchjneodjaakdaaGreat
set_option maxRecDepth 20000
open Go.RowKit
open Spn (Sp umax umin smax smin plusS minusS emptyS okS tightS anyS settledS commonS minW maxW endsS sendsS plainS signedS constS uptoS halfW smulP smulK onesW lenW foldW alikeN alikeS andR orR xorR divR modR lshR rshR arshR low32R mulR)

theorem i64_xor (x y : Int) : bits .xor .i64 x y = Z (BitVec.ofInt 64 x ^^^ BitVec.ofInt 64 y) := by
  show IntKind.i64.wrap (N (BitVec.ofInt 64 x ^^^ BitVec.ofInt 64 y)) = _
  rw [← wrap64_N]
  unfold wrap64
  simp [IntKind.wrap, IntKind.bits, IntKind.signed]
  split <;> omega
theorem Z_div63 (v : BitVec 64) : Z v / 9223372036854775808 = Z (v.sshiftRight 63) := by
  have := Z_shr v 63
  exact this
theorem max_c (a b : Nat) : max (a : Int) (b : Int) = ((max a b : Nat) : Int) := by omega
theorem max_c0 (b : Nat) : max (0 : Int) (b : Int) = ((max 0 b : Nat) : Int) := by omega
theorem w_neg (a : BitVec 64) : wrap64 (-Z a) = Z (-a) := by
  rw [← Z_ofInt]
  congr 1
  apply BitVec.eq_of_toInt_eq
  unfold Z
  rw [BitVec.toInt_ofInt, BitVec.toInt_neg]
theorem w_sub1 (a : BitVec 64) : wrap64 (Z a - 1) = Z (a - 1#64) := by
  rw [← w_sub, show Z (1#64) = 1 by decide]
attribute [local go_sem] u64_wrap BitVec.ofInt_add BitVec.ofInt_mul ofInt_N ofInt_Nw u64_and u64_or u64_xor u64_andNot wrap64_N ofInt_Z64 max_N min_N max_Z min_Z max_Z0 min_Zm1 w_add w_sub w_mul w_div i64_xor Z_div63 max_c max_c0 w_neg w_sub1
theorem len_any (v : BitVec 64) (w : World) : Calls Tryz.prog 109 #[.int .u64 (N v)] w fun e w' => e = .returned (.int .i64 ((lenW v : Nat) : Int)) ∧ w' = w := by
  have h := Tryz.bits_Len64 (N v) w (N_nonneg v) (by have := N_lt v; omega)
  have e : (N v).toNat = v.toNat := by unfold N; simp
  rw [e] at h
  exact h
theorem sp_plain0 (hi : BitVec 64) (w : World) : Calls Tryz.prog 107 #[.int .u64 0, .int .u64 (N hi)] w fun e w' => e = .returned (.agg #[.int .u64 (N (plainS 0#64 hi).lo), .int .u64 (N (plainS 0#64 hi).hi), .int .i64 (Z (plainS 0#64 hi).slo), .int .i64 (Z (plainS 0#64 hi).shi)]) ∧ Grown w w' := by
  have h := sp_plain 0#64 hi w
  rw [Spn.N0] at h
  exact h
theorem held_set2 {w : World} {A B R : Nat} {a b : Sp} {P : Program} {f : FuncId} {args : Array Value} {v : Value} (x : Held (fun y => Set2 w A B R a b y))
    (h : Calls P f args x.w fun e w' => e = .returned v ∧ Grown x.w w') : Calls P f args x.w fun e w'' => e = .returned v ∧ ∃ y : Held (fun y => Set2 w A B R a b y), w'' = y.w := held_call (fun _ _ h g => Set2.grown h g) x h
set_option maxHeartbeats 4000000 in
theorem sp_alike (alo ahi aslo ashi blo bhi bslo bshi : BitVec 64) (w : World) : Calls Tryz.prog 110 #[.agg #[.int .u64 (N alo), .int .u64 (N ahi), .int .i64 (Z aslo), .int .i64 (Z ashi)], .agg #[.int .u64 (N blo), .int .u64 (N bhi), .int .i64 (Z bslo), .int .i64 (Z bshi)]] w fun e w' => e = .returned (.agg #[.int .u64 (N (alikeS (⟨alo, ahi, aslo, ashi⟩ : Sp) (⟨blo, bhi, bslo, bshi⟩ : Sp)).lo), .int .u64 (N (alikeS (⟨alo, ahi, aslo, ashi⟩ : Sp) (⟨blo, bhi, bslo, bshi⟩ : Sp)).hi), .int .i64 (Z (alikeS (⟨alo, ahi, aslo, ashi⟩ : Sp) (⟨blo, bhi, bslo, bshi⟩ : Sp)).slo), .int .i64 (Z (alikeS (⟨alo, ahi, aslo, ashi⟩ : Sp) (⟨blo, bhi, bslo, bshi⟩ : Sp)).shi)]) ∧ Grown w w' := by
  have j0 : ∀ w, (Instr.index 132 (.agg #[.int .i64 (Z aslo), .int .i64 (Z ashi), .int .i64 (Z bslo), .int .i64 (Z bshi)]) (.int .i64 0)).run Tryz.prog w = .ok (.int .i64 (Z aslo)) w := fun _ => by kernel_rfl
  have j1 : ∀ w, (Instr.index 132 (.agg #[.int .i64 (Z aslo), .int .i64 (Z ashi), .int .i64 (Z bslo), .int .i64 (Z bshi)]) (.int .i64 1)).run Tryz.prog w = .ok (.int .i64 (Z ashi)) w := fun _ => by kernel_rfl
  have j2 : ∀ w, (Instr.index 132 (.agg #[.int .i64 (Z aslo), .int .i64 (Z ashi), .int .i64 (Z bslo), .int .i64 (Z bshi)]) (.int .i64 2)).run Tryz.prog w = .ok (.int .i64 (Z bslo)) w := fun _ => by kernel_rfl
  have j3 : ∀ w, (Instr.index 132 (.agg #[.int .i64 (Z aslo), .int .i64 (Z ashi), .int .i64 (Z bslo), .int .i64 (Z bshi)]) (.int .i64 3)).run Tryz.prog w = .ok (.int .i64 (Z bshi)) w := fun _ => by kernel_rfl
  obtain ⟨nn, hnn⟩ : ∃ nn, max (lenW (aslo ^^^ aslo.sshiftRight 63)) (max (lenW (ashi ^^^ ashi.sshiftRight 63)) (max (lenW (bslo ^^^ bslo.sshiftRight 63)) (lenW (bshi ^^^ bshi.sshiftRight 63)))) = nn := ⟨_, rfl⟩
  have hN : alikeN (⟨alo, ahi, aslo, ashi⟩ : Sp) (⟨blo, bhi, bslo, bshi⟩ : Sp) = nn := by rw [← hnn]; unfold alikeN foldW; dsimp only; omega
  have hn : nn ≤ 63 := by rw [← hN]; exact (Spn.alikeN_le _ _).1
  have hA : alikeS (⟨alo, ahi, aslo, ashi⟩ : Sp) (⟨blo, bhi, bslo, bshi⟩ : Sp) = signedS (-(onesW nn) - 1#64) (onesW nn) := by unfold alikeS; rw [hN]
  rw [hA]
  clear hA hN
  go_enter Tryz.func110, Tryz.ntmps110
  go_wp2_with fail
  refine wp_loop_rounds 5 ?_
  rw [rounds_succ]
  go_wp2_with (first | (go_at_call 109; ((with_reducible refine (len_any _ _).mono ?_); rintro e w1 ⟨rfl, rfl⟩)) | fail)
  rw [rounds_succ]
  go_wp2_with (first | (go_at_call 109; ((with_reducible refine (len_any _ _).mono ?_); rintro e w1 ⟨rfl, rfl⟩)) | fail)
  rw [rounds_succ]
  go_wp2_with (first | (go_at_call 109; ((with_reducible refine (len_any _ _).mono ?_); rintro e w1 ⟨rfl, rfl⟩)) | fail)
  rw [rounds_succ]
  go_wp2_with (first | (go_at_call 109; ((with_reducible refine (len_any _ _).mono ?_); rintro e w1 ⟨rfl, rfl⟩)) | fail)
  rw [rounds_succ]
  go_wp2_with (first | (go_at_call 108; ((with_reducible refine (sp_ones _ (by omega) _).mono ?_); rintro e w1 ⟨rfl, g1⟩; have gc1 := gcellI g1; have gf1 := gfrozI g1; have gw1 : Grown w w1 := Grown.trans' (by go_grown) g1; have hz10 : w.heap.size < w1.heap.size := (by have := g1.2.2; (try simp at this); omega); have hz11 : w.heap.size + 1 < w1.heap.size := (by have := g1.2.2; (try simp at this); omega); have hz12 : w.heap.size + 1 + 1 < w1.heap.size := (by have := g1.2.2; (try simp at this); omega))) | (go_at_call 120; ((with_reducible refine (sp_signed _ _ _).mono ?_); rintro e w2 ⟨rfl, g2⟩; have gc2 := gcellI g2; have gf2 := gfrozI g2; have gw2 : Grown w w2 := Grown.trans' (by go_grown) g2; have hz20 : w.heap.size < w2.heap.size := (by have := g2.2.2; (try simp at this); omega); have hz21 : w.heap.size + 1 < w2.heap.size := (by have := g2.2.2; (try simp at this); omega); have hz22 : w.heap.size + 1 + 1 < w2.heap.size := (by have := g2.2.2; (try simp at this); omega))))
  refine bodyPost_ret (v := .agg #[.int .u64 (N (signedS (-(onesW nn) - 1#64) (onesW nn)).lo), .int .u64 (N (signedS (-(onesW nn) - 1#64) (onesW nn)).hi), .int .i64 (Z (signedS (-(onesW nn) - 1#64) (onesW nn)).slo), .int .i64 (Z (signedS (-(onesW nn) - 1#64) (onesW nn)).shi)]) (by simp [results, Tryz.results110, go_sem, gc1, gc2, hz12]) rfl ⟨rfl, by go_grown⟩
set_option maxHeartbeats 4000000 in
theorem sp_and (alo ahi aslo ashi blo bhi bslo bshi : BitVec 64) (w : World) : Calls Tryz.prog 64 #[.agg #[.int .u64 (N alo), .int .u64 (N ahi), .int .i64 (Z aslo), .int .i64 (Z ashi)], .agg #[.int .u64 (N blo), .int .u64 (N bhi), .int .i64 (Z bslo), .int .i64 (Z bshi)]] w fun e w' => e = .returned (.agg #[.int .u64 (N (andR (settledS (⟨alo, ahi, aslo, ashi⟩ : Sp)) (settledS (⟨blo, bhi, bslo, bshi⟩ : Sp))).lo), .int .u64 (N (andR (settledS (⟨alo, ahi, aslo, ashi⟩ : Sp)) (settledS (⟨blo, bhi, bslo, bshi⟩ : Sp))).hi), .int .i64 (Z (andR (settledS (⟨alo, ahi, aslo, ashi⟩ : Sp)) (settledS (⟨blo, bhi, bslo, bshi⟩ : Sp))).slo), .int .i64 (Z (andR (settledS (⟨alo, ahi, aslo, ashi⟩ : Sp)) (settledS (⟨blo, bhi, bslo, bshi⟩ : Sp))).shi)]) ∧ Grown w w' := by
  have HA := Lib.hid (fun w => sp_settled alo ahi aslo ashi w)
  have HB := Lib.hid (fun w => sp_settled blo bhi bslo bshi w)
  generalize settledS (⟨alo, ahi, aslo, ashi⟩ : Sp) = a at *
  generalize settledS (⟨blo, bhi, bslo, bshi⟩ : Sp) = b at *
  unfold andR
  go_enter Tryz.func64, Tryz.ntmps64
  go_upto_region 1 with fail
  go_cut [6] (fun _ wx => Set2 w w.heap.size (w.heap.size + 1) (w.heap.size + 1 + 1) a b wx)
  case first =>
    go_region_with (first | (go_at_call 97; (with_reducible refine (HA.out _).mono ?_); rintro e wn ⟨rfl, hg⟩; have G : Grown (three w #[.int .u64 (N alo), .int .u64 (N ahi), .int .i64 (Z aslo), .int .i64 (Z ashi)] #[.int .u64 (N blo), .int .u64 (N bhi), .int .i64 (Z bslo), .int .i64 (Z bshi)]) wn := Grown.trans' (by first | with_reducible assumption | (refine Grown.drew ?_; with_reducible assumption) | go_grown) hg; have gc := gcellI G; have gf := gfrozI G) | (go_at_call 97; (with_reducible refine (HB.out _).mono ?_); rintro e wn ⟨rfl, hg⟩; have G : Grown (three w #[.int .u64 (N alo), .int .u64 (N ahi), .int .i64 (Z aslo), .int .i64 (Z ashi)] #[.int .u64 (N blo), .int .u64 (N bhi), .int .i64 (Z bslo), .int .i64 (Z bshi)]) wn := Grown.trans' (by first | with_reducible assumption | (refine Grown.drew ?_; with_reducible assumption) | go_grown) hg; have gc := gcellI G; have gf := gfrozI G))
    all_goals
      go_wp2_with fail
      go_meet
      case rel => exact set2_of a b G
  case rest =>
    have S := hcut
    clear hcut HA HB
    obtain ⟨a0, a1, a2, a3, b0, b1, b2, b3, r0, r1, r2, r3, f0, f1, f2, f3, hA, hB, hR, gr, lo⟩ := id S
    clear gr
    generalize w.heap.size + 1 + 1 = R at *
    generalize w.heap.size + 1 = B at *
    generalize w.heap.size = A at *
    go_upto_region 2 with fail
    have qa0 : ∀ z : Held (fun y => Set2 w A B R a b y), z.w.cell? ⟨A, 0, none⟩ = some _ := fun z => z.h.a0
    have qa1 : ∀ z : Held (fun y => Set2 w A B R a b y), z.w.cell? ⟨A, 1, none⟩ = some _ := fun z => z.h.a1
    have qa2 : ∀ z : Held (fun y => Set2 w A B R a b y), z.w.cell? ⟨A, 2, none⟩ = some _ := fun z => z.h.a2
    have qa3 : ∀ z : Held (fun y => Set2 w A B R a b y), z.w.cell? ⟨A, 3, none⟩ = some _ := fun z => z.h.a3
    have qb0 : ∀ z : Held (fun y => Set2 w A B R a b y), z.w.cell? ⟨B, 0, none⟩ = some _ := fun z => z.h.b0
    have qb1 : ∀ z : Held (fun y => Set2 w A B R a b y), z.w.cell? ⟨B, 1, none⟩ = some _ := fun z => z.h.b1
    have qb2 : ∀ z : Held (fun y => Set2 w A B R a b y), z.w.cell? ⟨B, 2, none⟩ = some _ := fun z => z.h.b2
    have qb3 : ∀ z : Held (fun y => Set2 w A B R a b y), z.w.cell? ⟨B, 3, none⟩ = some _ := fun z => z.h.b3
    refine wp_region_lex_tail (fun y => Set2 w A B R a b y) 11 (by kernel_rfl) (by kernel_rfl) (S.grown (Grown.drew (Grown.refl _))) (fun hNon => ?_)
    simp only [List.take_succ_cons, List.take_zero, List.drop_succ_cons, List.drop_zero]
    repeat (go_big_quiet_step ((first | (go_at_call 107; exact held_set2 _ (sp_plain0 _ _)) | (go_at_call 110; exact held_set2 _ (sp_alike _ _ _ _ _ _ _ _ _)) | (go_at_call 100; exact held_set2 _ (sp_common _ _ _ _ _ _ _ _ _)) | (go_at_call 97; exact held_set2 _ (sp_settled _ _ _ _ _)))))
    refine wpQuiet_nil ?_
    clear a0 a1 a2 a3 b0 b1 b2 b3 r0 r1 r2 r3 f0 f1 f2 f3 hA hB hR lo S
    intro w5 S
    clear hNon qa0 qa1 qa2 qa3 qb0 qb1 qb2 qb3
    obtain ⟨a0, a1, a2, a3, b0, b1, b2, b3, r0, r1, r2, r3, f0, f1, f2, f3, hA, hB, hR, gr, lo⟩ := id S
    clear gr
    go_wp2
    refine bodyPost_ret (v := .agg #[.int .u64 (N (andR a b).lo), .int .u64 (N (andR a b).hi), .int .i64 (Z (andR a b).slo), .int .i64 (Z (andR a b).shi)]) (by simp [results, Tryz.results64, go_sem, r0, r1, r2, r3]; first | exact ⟨rfl, rfl, rfl, rfl⟩ | trace_state) rfl ⟨rfl, ((((S.gr.setCell (a := ⟨R, 0, none⟩) S.lo _).setCell (a := ⟨R, 1, none⟩) S.lo _).setCell (a := ⟨R, 2, none⟩) S.lo _).setCell (a := ⟨R, 3, none⟩) S.lo _)⟩
set_option maxHeartbeats 4000000 in
theorem sp_or (alo ahi aslo ashi blo bhi bslo bshi : BitVec 64) (w : World) : Calls Tryz.prog 62 #[.agg #[.int .u64 (N alo), .int .u64 (N ahi), .int .i64 (Z aslo), .int .i64 (Z ashi)], .agg #[.int .u64 (N blo), .int .u64 (N bhi), .int .i64 (Z bslo), .int .i64 (Z bshi)]] w fun e w' => e = .returned (.agg #[.int .u64 (N (orR (settledS (⟨alo, ahi, aslo, ashi⟩ : Sp)) (settledS (⟨blo, bhi, bslo, bshi⟩ : Sp))).lo), .int .u64 (N (orR (settledS (⟨alo, ahi, aslo, ashi⟩ : Sp)) (settledS (⟨blo, bhi, bslo, bshi⟩ : Sp))).hi), .int .i64 (Z (orR (settledS (⟨alo, ahi, aslo, ashi⟩ : Sp)) (settledS (⟨blo, bhi, bslo, bshi⟩ : Sp))).slo), .int .i64 (Z (orR (settledS (⟨alo, ahi, aslo, ashi⟩ : Sp)) (settledS (⟨blo, bhi, bslo, bshi⟩ : Sp))).shi)]) ∧ Grown w w' := by
  have HA := Lib.hid (fun w => sp_settled alo ahi aslo ashi w)
  have HB := Lib.hid (fun w => sp_settled blo bhi bslo bshi w)
  generalize settledS (⟨alo, ahi, aslo, ashi⟩ : Sp) = a at *
  generalize settledS (⟨blo, bhi, bslo, bshi⟩ : Sp) = b at *
  unfold orR
  go_enter Tryz.func62, Tryz.ntmps62
  go_upto_region 1 with fail
  go_cut [6] (fun _ wx => Set2 w w.heap.size (w.heap.size + 1) (w.heap.size + 1 + 1) a b wx)
  case first =>
    go_region_with (first | (go_at_call 97; (with_reducible refine (HA.out _).mono ?_); rintro e wn ⟨rfl, hg⟩; have G : Grown (three w #[.int .u64 (N alo), .int .u64 (N ahi), .int .i64 (Z aslo), .int .i64 (Z ashi)] #[.int .u64 (N blo), .int .u64 (N bhi), .int .i64 (Z bslo), .int .i64 (Z bshi)]) wn := Grown.trans' (by first | with_reducible assumption | (refine Grown.drew ?_; with_reducible assumption) | go_grown) hg; have gc := gcellI G; have gf := gfrozI G) | (go_at_call 97; (with_reducible refine (HB.out _).mono ?_); rintro e wn ⟨rfl, hg⟩; have G : Grown (three w #[.int .u64 (N alo), .int .u64 (N ahi), .int .i64 (Z aslo), .int .i64 (Z ashi)] #[.int .u64 (N blo), .int .u64 (N bhi), .int .i64 (Z bslo), .int .i64 (Z bshi)]) wn := Grown.trans' (by first | with_reducible assumption | (refine Grown.drew ?_; with_reducible assumption) | go_grown) hg; have gc := gcellI G; have gf := gfrozI G))
    all_goals
      go_wp2_with fail
      go_meet
      case rel => exact set2_of a b G
  case rest =>
    have S := hcut
    clear hcut HA HB
    obtain ⟨a0, a1, a2, a3, b0, b1, b2, b3, r0, r1, r2, r3, f0, f1, f2, f3, hA, hB, hR, gr, lo⟩ := id S
    clear gr
    generalize w.heap.size + 1 + 1 = R at *
    generalize w.heap.size + 1 = B at *
    generalize w.heap.size = A at *
    go_upto_region 2 with fail
    have qa0 : ∀ z : Held (fun y => Set2 w A B R a b y), z.w.cell? ⟨A, 0, none⟩ = some _ := fun z => z.h.a0
    have qa1 : ∀ z : Held (fun y => Set2 w A B R a b y), z.w.cell? ⟨A, 1, none⟩ = some _ := fun z => z.h.a1
    have qa2 : ∀ z : Held (fun y => Set2 w A B R a b y), z.w.cell? ⟨A, 2, none⟩ = some _ := fun z => z.h.a2
    have qa3 : ∀ z : Held (fun y => Set2 w A B R a b y), z.w.cell? ⟨A, 3, none⟩ = some _ := fun z => z.h.a3
    have qb0 : ∀ z : Held (fun y => Set2 w A B R a b y), z.w.cell? ⟨B, 0, none⟩ = some _ := fun z => z.h.b0
    have qb1 : ∀ z : Held (fun y => Set2 w A B R a b y), z.w.cell? ⟨B, 1, none⟩ = some _ := fun z => z.h.b1
    have qb2 : ∀ z : Held (fun y => Set2 w A B R a b y), z.w.cell? ⟨B, 2, none⟩ = some _ := fun z => z.h.b2
    have qb3 : ∀ z : Held (fun y => Set2 w A B R a b y), z.w.cell? ⟨B, 3, none⟩ = some _ := fun z => z.h.b3
    refine wp_region_lex_tail (fun y => Set2 w A B R a b y) 18 (by kernel_rfl) (by kernel_rfl) (S.grown (Grown.drew (Grown.refl _))) (fun hNon => ?_)
    simp only [List.take_succ_cons, List.take_zero, List.drop_succ_cons, List.drop_zero]
    repeat (go_big_quiet_step ((first | (go_at_call 109; exact held_callS _ (len_any _ _)) | (go_at_call 108; exact held_set2 _ (sp_ones _ (Spn.lenW_le64 _) _)) | (go_at_call 107; exact held_set2 _ (sp_plain _ _ _)) | (go_at_call 110; exact held_set2 _ (sp_alike _ _ _ _ _ _ _ _ _)) | (go_at_call 100; exact held_set2 _ (sp_common _ _ _ _ _ _ _ _ _)) | (go_at_call 97; exact held_set2 _ (sp_settled _ _ _ _ _)))))
    refine wpQuiet_nil ?_
    clear a0 a1 a2 a3 b0 b1 b2 b3 r0 r1 r2 r3 f0 f1 f2 f3 hA hB hR lo S
    intro w5 S
    clear hNon qa0 qa1 qa2 qa3 qb0 qb1 qb2 qb3
    obtain ⟨a0, a1, a2, a3, b0, b1, b2, b3, r0, r1, r2, r3, f0, f1, f2, f3, hA, hB, hR, gr, lo⟩ := id S
    clear gr
    go_wp2
    refine bodyPost_ret (v := .agg #[.int .u64 (N (orR a b).lo), .int .u64 (N (orR a b).hi), .int .i64 (Z (orR a b).slo), .int .i64 (Z (orR a b).shi)]) (by simp [results, Tryz.results62, go_sem, r0, r1, r2, r3]; first | exact ⟨rfl, rfl, rfl, rfl⟩ | trace_state) rfl ⟨rfl, ((((S.gr.setCell (a := ⟨R, 0, none⟩) S.lo _).setCell (a := ⟨R, 1, none⟩) S.lo _).setCell (a := ⟨R, 2, none⟩) S.lo _).setCell (a := ⟨R, 3, none⟩) S.lo _)⟩
set_option maxHeartbeats 4000000 in
theorem sp_xor (alo ahi aslo ashi blo bhi bslo bshi : BitVec 64) (w : World) : Calls Tryz.prog 66 #[.agg #[.int .u64 (N alo), .int .u64 (N ahi), .int .i64 (Z aslo), .int .i64 (Z ashi)], .agg #[.int .u64 (N blo), .int .u64 (N bhi), .int .i64 (Z bslo), .int .i64 (Z bshi)]] w fun e w' => e = .returned (.agg #[.int .u64 (N (xorR (settledS (⟨alo, ahi, aslo, ashi⟩ : Sp)) (settledS (⟨blo, bhi, bslo, bshi⟩ : Sp))).lo), .int .u64 (N (xorR (settledS (⟨alo, ahi, aslo, ashi⟩ : Sp)) (settledS (⟨blo, bhi, bslo, bshi⟩ : Sp))).hi), .int .i64 (Z (xorR (settledS (⟨alo, ahi, aslo, ashi⟩ : Sp)) (settledS (⟨blo, bhi, bslo, bshi⟩ : Sp))).slo), .int .i64 (Z (xorR (settledS (⟨alo, ahi, aslo, ashi⟩ : Sp)) (settledS (⟨blo, bhi, bslo, bshi⟩ : Sp))).shi)]) ∧ Grown w w' := by
  have HA := Lib.hid (fun w => sp_settled alo ahi aslo ashi w)
  have HB := Lib.hid (fun w => sp_settled blo bhi bslo bshi w)
  generalize settledS (⟨alo, ahi, aslo, ashi⟩ : Sp) = a at *
  generalize settledS (⟨blo, bhi, bslo, bshi⟩ : Sp) = b at *
  unfold xorR
  go_enter Tryz.func66, Tryz.ntmps66
  go_upto_region 1 with fail
  go_cut [6] (fun _ wx => Set2 w w.heap.size (w.heap.size + 1) (w.heap.size + 1 + 1) a b wx)
  case first =>
    go_region_with (first | (go_at_call 97; (with_reducible refine (HA.out _).mono ?_); rintro e wn ⟨rfl, hg⟩; have G : Grown (three w #[.int .u64 (N alo), .int .u64 (N ahi), .int .i64 (Z aslo), .int .i64 (Z ashi)] #[.int .u64 (N blo), .int .u64 (N bhi), .int .i64 (Z bslo), .int .i64 (Z bshi)]) wn := Grown.trans' (by first | with_reducible assumption | (refine Grown.drew ?_; with_reducible assumption) | go_grown) hg; have gc := gcellI G; have gf := gfrozI G) | (go_at_call 97; (with_reducible refine (HB.out _).mono ?_); rintro e wn ⟨rfl, hg⟩; have G : Grown (three w #[.int .u64 (N alo), .int .u64 (N ahi), .int .i64 (Z aslo), .int .i64 (Z ashi)] #[.int .u64 (N blo), .int .u64 (N bhi), .int .i64 (Z bslo), .int .i64 (Z bshi)]) wn := Grown.trans' (by first | with_reducible assumption | (refine Grown.drew ?_; with_reducible assumption) | go_grown) hg; have gc := gcellI G; have gf := gfrozI G))
    all_goals
      go_wp2_with fail
      go_meet
      case rel => exact set2_of a b G
  case rest =>
    have S := hcut
    clear hcut HA HB
    obtain ⟨a0, a1, a2, a3, b0, b1, b2, b3, r0, r1, r2, r3, f0, f1, f2, f3, hA, hB, hR, gr, lo⟩ := id S
    clear gr
    generalize w.heap.size + 1 + 1 = R at *
    generalize w.heap.size + 1 = B at *
    generalize w.heap.size = A at *
    go_upto_region 2 with fail
    have qa0 : ∀ z : Held (fun y => Set2 w A B R a b y), z.w.cell? ⟨A, 0, none⟩ = some _ := fun z => z.h.a0
    have qa1 : ∀ z : Held (fun y => Set2 w A B R a b y), z.w.cell? ⟨A, 1, none⟩ = some _ := fun z => z.h.a1
    have qa2 : ∀ z : Held (fun y => Set2 w A B R a b y), z.w.cell? ⟨A, 2, none⟩ = some _ := fun z => z.h.a2
    have qa3 : ∀ z : Held (fun y => Set2 w A B R a b y), z.w.cell? ⟨A, 3, none⟩ = some _ := fun z => z.h.a3
    have qb0 : ∀ z : Held (fun y => Set2 w A B R a b y), z.w.cell? ⟨B, 0, none⟩ = some _ := fun z => z.h.b0
    have qb1 : ∀ z : Held (fun y => Set2 w A B R a b y), z.w.cell? ⟨B, 1, none⟩ = some _ := fun z => z.h.b1
    have qb2 : ∀ z : Held (fun y => Set2 w A B R a b y), z.w.cell? ⟨B, 2, none⟩ = some _ := fun z => z.h.b2
    have qb3 : ∀ z : Held (fun y => Set2 w A B R a b y), z.w.cell? ⟨B, 3, none⟩ = some _ := fun z => z.h.b3
    refine wp_region_lex_tail (fun y => Set2 w A B R a b y) 13 (by kernel_rfl) (by kernel_rfl) (S.grown (Grown.drew (Grown.refl _))) (fun hNon => ?_)
    simp only [List.take_succ_cons, List.take_zero, List.drop_succ_cons, List.drop_zero]
    repeat (go_big_quiet_step ((first | (go_at_call 109; exact held_callS _ (len_any _ _)) | (go_at_call 108; exact held_set2 _ (sp_ones _ (Spn.lenW_le64 _) _)) | (go_at_call 107; exact held_set2 _ (sp_plain0 _ _)) | (go_at_call 110; exact held_set2 _ (sp_alike _ _ _ _ _ _ _ _ _)) | (go_at_call 100; exact held_set2 _ (sp_common _ _ _ _ _ _ _ _ _)) | (go_at_call 97; exact held_set2 _ (sp_settled _ _ _ _ _)))))
    refine wpQuiet_nil ?_
    clear a0 a1 a2 a3 b0 b1 b2 b3 r0 r1 r2 r3 f0 f1 f2 f3 hA hB hR lo S
    intro w5 S
    clear hNon qa0 qa1 qa2 qa3 qb0 qb1 qb2 qb3
    obtain ⟨a0, a1, a2, a3, b0, b1, b2, b3, r0, r1, r2, r3, f0, f1, f2, f3, hA, hB, hR, gr, lo⟩ := id S
    clear gr
    go_wp2
    refine bodyPost_ret (v := .agg #[.int .u64 (N (xorR a b).lo), .int .u64 (N (xorR a b).hi), .int .i64 (Z (xorR a b).slo), .int .i64 (Z (xorR a b).shi)]) (by simp [results, Tryz.results66, go_sem, r0, r1, r2, r3]; first | exact ⟨rfl, rfl, rfl, rfl⟩ | trace_state) rfl ⟨rfl, ((((S.gr.setCell (a := ⟨R, 0, none⟩) S.lo _).setCell (a := ⟨R, 1, none⟩) S.lo _).setCell (a := ⟨R, 2, none⟩) S.lo _).setCell (a := ⟨R, 3, none⟩) S.lo _)⟩
end Go.Proofs.YtchjneodjaakdaaGreat
end
section
namespace Go.Proofs.YtchjneodjaakdaaGreat
set_option maxRecDepth 20000
open Go.RowKit
open Spn (Sp umax umin smax smin plusS minusS emptyS okS tightS anyS settledS commonS minW maxW endsS sendsS plainS signedS constS uptoS halfW divR modR)
theorem max_N1 (a : BitVec 64) : max (N a) 1 = N (umax a 1#64) := by rw [Spn.N_umax, Spn.N1]
attribute [local go_sem] u64_wrap BitVec.ofInt_add BitVec.ofInt_mul ofInt_sub' ofInt_N ofInt_Nw u64_and u64_or u64_xor wrap64_N ofInt_Z64 max_N min_N max_Z min_Z max_N1 N_tdiv N_ediv
theorem sp_const0 (w : World) : Calls Tryz.prog 42 #[.int .u64 0] w fun e w' => e = .returned (.agg #[.int .u64 (N (constS 0#64).lo), .int .u64 (N (constS 0#64).hi), .int .i64 (Z (constS 0#64).slo), .int .i64 (Z (constS 0#64).shi)]) ∧ Grown w w' := by
  have h := sp_const 0#64 w
  simp only [Spn.N0] at h
  exact h
theorem divR_0 {a b : Sp} (h : (N b.hi == 0) = true) : divR a b = constS 0#64 := by unfold divR; rw [if_pos ((Spn.N_zero_iff _).2 (by simpa using h))]
theorem divR_1 {a b : Sp} (h : (N b.hi == 0) = false) (h2 : (N b.lo == 0) = true) : divR a b = settledS (plainS 0#64 (a.hi / umax b.lo 1#64)) := by
  unfold divR
  rw [if_neg (fun e => by have := (Spn.N_zero_iff _).1 e; simp [this] at h), if_pos ((Spn.N_zero_iff _).2 (by simpa using h2))]
theorem divR_2 {a b : Sp} (h : (N b.hi == 0) = false) (h2 : (N b.lo == 0) = false) : divR a b = settledS (plainS (a.lo / b.hi) (a.hi / umax b.lo 1#64)) := by
  unfold divR
  rw [if_neg (fun e => by have := (Spn.N_zero_iff _).1 e; simp [this] at h), if_neg (fun e => by have := (Spn.N_zero_iff _).1 e; simp [this] at h2)]
theorem modR_0 {a b : Sp} (h : decide (N a.hi < N b.lo) = true) : modR a b = a := by unfold modR; rw [if_pos (.inl (of_decide_eq_true h))]
theorem modR_1 {a b : Sp} (h : (N b.hi == 0) = true) : modR a b = a := by unfold modR; rw [if_pos (.inr ((Spn.N_zero_iff _).2 (by simpa using h)))]
theorem modR_2 {a b : Sp} (h : decide (N a.hi < N b.lo) = false) (h2 : (N b.hi == 0) = false) (h3 : decide (0 < N b.lo) = true) : modR a b = settledS (plainS 0#64 (umin a.hi (b.hi - 1#64))) := by
  unfold modR
  rw [if_neg (not_or.2 ⟨of_decide_eq_false h, fun e => by have := (Spn.N_zero_iff _).1 e; simp [this] at h2⟩), if_pos (of_decide_eq_true h3)]
theorem modR_3 {a b : Sp} (h : decide (N a.hi < N b.lo) = false) (h2 : (N b.hi == 0) = false) (h3 : decide (0 < N b.lo) = false) : modR a b = settledS (plainS 0#64 a.hi) := by
  unfold modR
  rw [if_neg (not_or.2 ⟨of_decide_eq_false h, fun e => by have := (Spn.N_zero_iff _).1 e; simp [this] at h2⟩), if_neg (of_decide_eq_false h3)]
theorem umax1_ne (a : BitVec 64) : ¬ N (umax a 1#64) = 0 := by
  rw [Spn.N_umax, Spn.N1]
  have := Int.le_max_right (N a) 1
  omega
set_option maxHeartbeats 4000000 in
theorem sp_div (alo ahi aslo ashi blo bhi bslo bshi : BitVec 64) (w : World) : Calls Tryz.prog 67 #[.agg #[.int .u64 (N alo), .int .u64 (N ahi), .int .i64 (Z aslo), .int .i64 (Z ashi)], .agg #[.int .u64 (N blo), .int .u64 (N bhi), .int .i64 (Z bslo), .int .i64 (Z bshi)]] w fun e w' => e = .returned (.agg #[.int .u64 (N (divR (settledS (⟨alo, ahi, aslo, ashi⟩ : Sp)) (settledS (⟨blo, bhi, bslo, bshi⟩ : Sp))).lo), .int .u64 (N (divR (settledS (⟨alo, ahi, aslo, ashi⟩ : Sp)) (settledS (⟨blo, bhi, bslo, bshi⟩ : Sp))).hi), .int .i64 (Z (divR (settledS (⟨alo, ahi, aslo, ashi⟩ : Sp)) (settledS (⟨blo, bhi, bslo, bshi⟩ : Sp))).slo), .int .i64 (Z (divR (settledS (⟨alo, ahi, aslo, ashi⟩ : Sp)) (settledS (⟨blo, bhi, bslo, bshi⟩ : Sp))).shi)]) ∧ Grown w w' := by
  have HA := Lib.hid (fun w => sp_settled alo ahi aslo ashi w)
  have HB := Lib.hid (fun w => sp_settled blo bhi bslo bshi w)
  generalize settledS (⟨alo, ahi, aslo, ashi⟩ : Sp) = a at *
  generalize settledS (⟨blo, bhi, bslo, bshi⟩ : Sp) = b at *
  go_enter Tryz.func67, Tryz.ntmps67
  go_upto_region 1 with fail
  go_cut [6] (fun _ wx => Set2 w w.heap.size (w.heap.size + 1) (w.heap.size + 1 + 1) a b wx)
  case first =>
    go_region_with (first | (go_at_call 97; (with_reducible refine (HA.out _).mono ?_); rintro e wn ⟨rfl, hg⟩; have G : Grown (three w #[.int .u64 (N alo), .int .u64 (N ahi), .int .i64 (Z aslo), .int .i64 (Z ashi)] #[.int .u64 (N blo), .int .u64 (N bhi), .int .i64 (Z bslo), .int .i64 (Z bshi)]) wn := Grown.trans' (by first | with_reducible assumption | (refine Grown.drew ?_; with_reducible assumption) | go_grown) hg; have gc := gcellI G; have gf := gfrozI G) | (go_at_call 97; (with_reducible refine (HB.out _).mono ?_); rintro e wn ⟨rfl, hg⟩; have G : Grown (three w #[.int .u64 (N alo), .int .u64 (N ahi), .int .i64 (Z aslo), .int .i64 (Z ashi)] #[.int .u64 (N blo), .int .u64 (N bhi), .int .i64 (Z bslo), .int .i64 (Z bshi)]) wn := Grown.trans' (by first | with_reducible assumption | (refine Grown.drew ?_; with_reducible assumption) | go_grown) hg; have gc := gcellI G; have gf := gfrozI G))
    all_goals
      go_wp2_with fail
      go_meet
      case rel => exact set2_of a b G
  case rest =>
    have S := hcut
    clear hcut HA HB
    obtain ⟨a0, a1, a2, a3, b0, b1, b2, b3, r0, r1, r2, r3, f0, f1, f2, f3, hA, hB, hR, gr, lo⟩ := id S
    clear gr
    generalize w.heap.size + 1 + 1 = R at *
    generalize w.heap.size + 1 = B at *
    generalize w.heap.size = A at *
    have u1 := umax1_ne b.lo
    cases z1 : (N b.hi == 0)
    rotate_left
    · skip
      go_wp2_with (first | (go_at_call 42; ((with_reducible refine (sp_const0 _).mono ?_); rintro e wn ⟨rfl, hg⟩; have S := Set2.grown S (Grown.trans' (by go_grown) hg); obtain ⟨a0, a1, a2, a3, b0, b1, b2, b3, r0, r1, r2, r3, f0, f1, f2, f3, hA, hB, hR, gr, lo⟩ := id S; clear gr; clear hg)) | fail)
      refine bodyPost_ret (v := .agg #[.int .u64 (N (constS 0#64).lo), .int .u64 (N (constS 0#64).hi), .int .i64 (Z (constS 0#64).slo), .int .i64 (Z (constS 0#64).shi)]) (by simp [results, Tryz.results67, go_sem, r0, r1, r2, r3]; first | exact ⟨rfl, rfl, rfl, rfl⟩ | trace_state) rfl ⟨by rw [divR_0 z1], ((((S.gr.setCell (a := ⟨R, 0, none⟩) S.lo _).setCell (a := ⟨R, 1, none⟩) S.lo _).setCell (a := ⟨R, 2, none⟩) S.lo _).setCell (a := ⟨R, 3, none⟩) S.lo _)⟩
    have z1' : ¬ N b.hi = 0 := by simpa using z1
    cases z2 : (N b.lo == 0)
    · skip
      go_wp2_with (first | (go_at_call 107; ((with_reducible refine (sp_plain _ _ _).mono ?_); rintro e wn ⟨rfl, hg⟩; have S := Set2.grown S (Grown.trans' (by go_grown) hg); obtain ⟨a0, a1, a2, a3, b0, b1, b2, b3, r0, r1, r2, r3, f0, f1, f2, f3, hA, hB, hR, gr, lo⟩ := id S; clear gr; clear hg)) | (go_at_call 97; ((with_reducible refine (sp_settled _ _ _ _ _).mono ?_); rintro e wn ⟨rfl, hg⟩; have S := Set2.grown S (Grown.trans' (by go_grown) hg); obtain ⟨a0, a1, a2, a3, b0, b1, b2, b3, r0, r1, r2, r3, f0, f1, f2, f3, hA, hB, hR, gr, lo⟩ := id S; clear gr; clear hg)) | fail)
      refine bodyPost_ret (v := .agg #[.int .u64 (N (settledS (plainS (a.lo / b.hi) (a.hi / umax b.lo 1#64))).lo), .int .u64 (N (settledS (plainS (a.lo / b.hi) (a.hi / umax b.lo 1#64))).hi), .int .i64 (Z (settledS (plainS (a.lo / b.hi) (a.hi / umax b.lo 1#64))).slo), .int .i64 (Z (settledS (plainS (a.lo / b.hi) (a.hi / umax b.lo 1#64))).shi)]) (by simp [results, Tryz.results67, go_sem, r0, r1, r2, r3]; first | exact ⟨rfl, rfl, rfl, rfl⟩ | trace_state) rfl ⟨by rw [divR_2 z1 z2], ((((S.gr.setCell (a := ⟨R, 0, none⟩) S.lo _).setCell (a := ⟨R, 1, none⟩) S.lo _).setCell (a := ⟨R, 2, none⟩) S.lo _).setCell (a := ⟨R, 3, none⟩) S.lo _)⟩
    · skip
      go_wp2_with (first | (go_at_call 107; ((with_reducible refine (sp_plain0 _ _).mono ?_); rintro e wn ⟨rfl, hg⟩; have S := Set2.grown S (Grown.trans' (by go_grown) hg); obtain ⟨a0, a1, a2, a3, b0, b1, b2, b3, r0, r1, r2, r3, f0, f1, f2, f3, hA, hB, hR, gr, lo⟩ := id S; clear gr; clear hg)) | (go_at_call 97; ((with_reducible refine (sp_settled _ _ _ _ _).mono ?_); rintro e wn ⟨rfl, hg⟩; have S := Set2.grown S (Grown.trans' (by go_grown) hg); obtain ⟨a0, a1, a2, a3, b0, b1, b2, b3, r0, r1, r2, r3, f0, f1, f2, f3, hA, hB, hR, gr, lo⟩ := id S; clear gr; clear hg)) | fail)
      refine bodyPost_ret (v := .agg #[.int .u64 (N (settledS (plainS 0#64 (a.hi / umax b.lo 1#64))).lo), .int .u64 (N (settledS (plainS 0#64 (a.hi / umax b.lo 1#64))).hi), .int .i64 (Z (settledS (plainS 0#64 (a.hi / umax b.lo 1#64))).slo), .int .i64 (Z (settledS (plainS 0#64 (a.hi / umax b.lo 1#64))).shi)]) (by simp [results, Tryz.results67, go_sem, r0, r1, r2, r3]; first | exact ⟨rfl, rfl, rfl, rfl⟩ | trace_state) rfl ⟨by rw [divR_1 z1 z2], ((((S.gr.setCell (a := ⟨R, 0, none⟩) S.lo _).setCell (a := ⟨R, 1, none⟩) S.lo _).setCell (a := ⟨R, 2, none⟩) S.lo _).setCell (a := ⟨R, 3, none⟩) S.lo _)⟩
set_option maxHeartbeats 4000000 in
theorem sp_mod (alo ahi aslo ashi blo bhi bslo bshi : BitVec 64) (w : World) : Calls Tryz.prog 68 #[.agg #[.int .u64 (N alo), .int .u64 (N ahi), .int .i64 (Z aslo), .int .i64 (Z ashi)], .agg #[.int .u64 (N blo), .int .u64 (N bhi), .int .i64 (Z bslo), .int .i64 (Z bshi)]] w fun e w' => e = .returned (.agg #[.int .u64 (N (modR (settledS (⟨alo, ahi, aslo, ashi⟩ : Sp)) (settledS (⟨blo, bhi, bslo, bshi⟩ : Sp))).lo), .int .u64 (N (modR (settledS (⟨alo, ahi, aslo, ashi⟩ : Sp)) (settledS (⟨blo, bhi, bslo, bshi⟩ : Sp))).hi), .int .i64 (Z (modR (settledS (⟨alo, ahi, aslo, ashi⟩ : Sp)) (settledS (⟨blo, bhi, bslo, bshi⟩ : Sp))).slo), .int .i64 (Z (modR (settledS (⟨alo, ahi, aslo, ashi⟩ : Sp)) (settledS (⟨blo, bhi, bslo, bshi⟩ : Sp))).shi)]) ∧ Grown w w' := by
  have HA := Lib.hid (fun w => sp_settled alo ahi aslo ashi w)
  have HB := Lib.hid (fun w => sp_settled blo bhi bslo bshi w)
  generalize settledS (⟨alo, ahi, aslo, ashi⟩ : Sp) = a at *
  generalize settledS (⟨blo, bhi, bslo, bshi⟩ : Sp) = b at *
  go_enter Tryz.func68, Tryz.ntmps68
  go_upto_region 1 with fail
  go_cut [6] (fun _ wx => Set2 w w.heap.size (w.heap.size + 1) (w.heap.size + 1 + 1) a b wx)
  case first =>
    go_region_with (first | (go_at_call 97; (with_reducible refine (HA.out _).mono ?_); rintro e wn ⟨rfl, hg⟩; have G : Grown (three w #[.int .u64 (N alo), .int .u64 (N ahi), .int .i64 (Z aslo), .int .i64 (Z ashi)] #[.int .u64 (N blo), .int .u64 (N bhi), .int .i64 (Z bslo), .int .i64 (Z bshi)]) wn := Grown.trans' (by first | with_reducible assumption | (refine Grown.drew ?_; with_reducible assumption) | go_grown) hg; have gc := gcellI G; have gf := gfrozI G) | (go_at_call 97; (with_reducible refine (HB.out _).mono ?_); rintro e wn ⟨rfl, hg⟩; have G : Grown (three w #[.int .u64 (N alo), .int .u64 (N ahi), .int .i64 (Z aslo), .int .i64 (Z ashi)] #[.int .u64 (N blo), .int .u64 (N bhi), .int .i64 (Z bslo), .int .i64 (Z bshi)]) wn := Grown.trans' (by first | with_reducible assumption | (refine Grown.drew ?_; with_reducible assumption) | go_grown) hg; have gc := gcellI G; have gf := gfrozI G))
    all_goals
      go_wp2_with fail
      go_meet
      case rel => exact set2_of a b G
  case rest =>
    have S := hcut
    clear hcut HA HB
    obtain ⟨a0, a1, a2, a3, b0, b1, b2, b3, r0, r1, r2, r3, f0, f1, f2, f3, hA, hB, hR, gr, lo⟩ := id S
    clear gr
    generalize w.heap.size + 1 + 1 = R at *
    generalize w.heap.size + 1 = B at *
    generalize w.heap.size = A at *
    cases z1 : decide (N a.hi < N b.lo)
    rotate_left
    · skip
      go_wp2_with (fail)
      refine bodyPost_ret (v := .agg #[.int .u64 (N (a).lo), .int .u64 (N (a).hi), .int .i64 (Z (a).slo), .int .i64 (Z (a).shi)]) (by simp [results, Tryz.results68, go_sem, r0, r1, r2, r3]; first | exact ⟨rfl, rfl, rfl, rfl⟩ | trace_state) rfl ⟨by rw [modR_0 z1], ((((S.gr.setCell (a := ⟨R, 0, none⟩) S.lo _).setCell (a := ⟨R, 1, none⟩) S.lo _).setCell (a := ⟨R, 2, none⟩) S.lo _).setCell (a := ⟨R, 3, none⟩) S.lo _)⟩
    cases z2 : (N b.hi == 0)
    rotate_left
    · skip
      go_wp2_with (fail)
      refine bodyPost_ret (v := .agg #[.int .u64 (N (a).lo), .int .u64 (N (a).hi), .int .i64 (Z (a).slo), .int .i64 (Z (a).shi)]) (by simp [results, Tryz.results68, go_sem, r0, r1, r2, r3]; first | exact ⟨rfl, rfl, rfl, rfl⟩ | trace_state) rfl ⟨by rw [modR_1 z2], ((((S.gr.setCell (a := ⟨R, 0, none⟩) S.lo _).setCell (a := ⟨R, 1, none⟩) S.lo _).setCell (a := ⟨R, 2, none⟩) S.lo _).setCell (a := ⟨R, 3, none⟩) S.lo _)⟩
    cases z3 : decide (0 < N b.lo)
    · skip
      go_wp2_with (first | (go_at_call 107; ((with_reducible refine (sp_plain0 _ _).mono ?_); rintro e wn ⟨rfl, hg⟩; have S := Set2.grown S (Grown.trans' (by go_grown) hg); obtain ⟨a0, a1, a2, a3, b0, b1, b2, b3, r0, r1, r2, r3, f0, f1, f2, f3, hA, hB, hR, gr, lo⟩ := id S; clear gr; clear hg)) | (go_at_call 97; ((with_reducible refine (sp_settled _ _ _ _ _).mono ?_); rintro e wn ⟨rfl, hg⟩; have S := Set2.grown S (Grown.trans' (by go_grown) hg); obtain ⟨a0, a1, a2, a3, b0, b1, b2, b3, r0, r1, r2, r3, f0, f1, f2, f3, hA, hB, hR, gr, lo⟩ := id S; clear gr; clear hg)) | fail)
      refine bodyPost_ret (v := .agg #[.int .u64 (N (settledS (plainS 0#64 a.hi)).lo), .int .u64 (N (settledS (plainS 0#64 a.hi)).hi), .int .i64 (Z (settledS (plainS 0#64 a.hi)).slo), .int .i64 (Z (settledS (plainS 0#64 a.hi)).shi)]) (by simp [results, Tryz.results68, go_sem, r0, r1, r2, r3]; first | exact ⟨rfl, rfl, rfl, rfl⟩ | trace_state) rfl ⟨by rw [modR_3 z1 z2 z3], ((((S.gr.setCell (a := ⟨R, 0, none⟩) S.lo _).setCell (a := ⟨R, 1, none⟩) S.lo _).setCell (a := ⟨R, 2, none⟩) S.lo _).setCell (a := ⟨R, 3, none⟩) S.lo _)⟩
    · skip
      go_wp2_with (first | (go_at_call 107; ((with_reducible refine (sp_plain0 _ _).mono ?_); rintro e wn ⟨rfl, hg⟩; have S := Set2.grown S (Grown.trans' (by go_grown) hg); obtain ⟨a0, a1, a2, a3, b0, b1, b2, b3, r0, r1, r2, r3, f0, f1, f2, f3, hA, hB, hR, gr, lo⟩ := id S; clear gr; clear hg)) | (go_at_call 97; ((with_reducible refine (sp_settled _ _ _ _ _).mono ?_); rintro e wn ⟨rfl, hg⟩; have S := Set2.grown S (Grown.trans' (by go_grown) hg); obtain ⟨a0, a1, a2, a3, b0, b1, b2, b3, r0, r1, r2, r3, f0, f1, f2, f3, hA, hB, hR, gr, lo⟩ := id S; clear gr; clear hg)) | fail)
      refine bodyPost_ret (v := .agg #[.int .u64 (N (settledS (plainS 0#64 (umin a.hi (b.hi - 1#64)))).lo), .int .u64 (N (settledS (plainS 0#64 (umin a.hi (b.hi - 1#64)))).hi), .int .i64 (Z (settledS (plainS 0#64 (umin a.hi (b.hi - 1#64)))).slo), .int .i64 (Z (settledS (plainS 0#64 (umin a.hi (b.hi - 1#64)))).shi)]) (by simp [results, Tryz.results68, go_sem, r0, r1, r2, r3]; first | exact ⟨rfl, rfl, rfl, rfl⟩ | trace_state) rfl ⟨by rw [modR_2 z1 z2 z3], ((((S.gr.setCell (a := ⟨R, 0, none⟩) S.lo _).setCell (a := ⟨R, 1, none⟩) S.lo _).setCell (a := ⟨R, 2, none⟩) S.lo _).setCell (a := ⟨R, 3, none⟩) S.lo _)⟩
end Go.Proofs.YtchjneodjaakdaaGreat
end
section
namespace Go.Proofs.YtchjneodjaakdaaGreat
set_option maxRecDepth 20000
open Go.RowKit
open Spn (Sp umax umin smax smin plusS minusS emptyS okS tightS anyS settledS commonS minW maxW endsS sendsS plainS signedS constS uptoS halfW lshR rshR arshR low32R)
theorem and63s (n : Int) (_h0 : -9223372036854775808 ≤ n) (_h1 : n ≤ 9223372036854775807) : bits .and .i64 n 63 = n % 64 := by
  show IntKind.i64.wrap (N (BitVec.ofInt 64 n &&& BitVec.ofInt 64 63)) = _
  have e : N (BitVec.ofInt 64 n &&& BitVec.ofInt 64 63) = N (BitVec.ofInt 64 n) % 64 := by
    unfold N
    rw [BitVec.toNat_and, show (BitVec.ofInt 64 63).toNat = 2 ^ 6 - 1 by decide, Nat.and_two_pow_sub_one_eq_mod]
    simp
  rw [e, N_ofInt_mod]
  have : ((2 ^ 64 : Nat) : Int) = 18446744073709551616 := by decide
  rw [this]
  simp [IntKind.wrap, IntKind.bits, IntKind.signed]
  omega
theorem N_shrk (v : BitVec 64) (k : Nat) : N v / 2 ^ k = N (v >>> k) := N_shr v k
theorem Z_shrk (v : BitVec 64) (k : Nat) : Z v / 2 ^ k = Z (v.sshiftRight k) := Z_shr v k
theorem shl_u (v : BitVec 64) (k : Nat) : BitVec.ofInt 64 (N v * 2 ^ k) = v <<< k := by rw [ofInt_shl, ofInt_N]
theorem shl_i (v : BitVec 64) (k : Nat) : wrap64 (Z v * 2 ^ k) = Z (v <<< k) := by rw [← Z_ofInt, ofInt_shl, ofInt_Z64]
attribute [local go_sem] u64_wrap ofInt_N ofInt_Nw u64_and wrap64_N ofInt_Z64 N_shrk Z_shrk shl_u shl_i
/-- One argument that is settled, and the result's place. -/
structure Set1 (w : World) (A R : Nat) (a : Sp) (W : World) : Prop where
  a0 : W.cell? ⟨A, 0, none⟩ = some (.int .u64 (N a.lo))
  a1 : W.cell? ⟨A, 1, none⟩ = some (.int .u64 (N a.hi))
  a2 : W.cell? ⟨A, 2, none⟩ = some (.int .i64 (Z a.slo))
  a3 : W.cell? ⟨A, 3, none⟩ = some (.int .i64 (Z a.shi))
  r0 : W.cell? ⟨R, 0, none⟩ = some (.int .u64 0)
  r1 : W.cell? ⟨R, 1, none⟩ = some (.int .u64 0)
  r2 : W.cell? ⟨R, 2, none⟩ = some (.int .i64 0)
  r3 : W.cell? ⟨R, 3, none⟩ = some (.int .i64 0)
  f0 : W.frozen? ⟨R, 0, none⟩ = false
  f1 : W.frozen? ⟨R, 1, none⟩ = false
  f2 : W.frozen? ⟨R, 2, none⟩ = false
  f3 : W.frozen? ⟨R, 3, none⟩ = false
  hA : A < W.heap.size
  hR : R < W.heap.size
  gr : Grown w W
  lo : w.heap.size ≤ R
theorem Set1.grown {w : World} {A R : Nat} {a : Sp} {W W' : World} (h : Set1 w A R a W) (g : Grown W W') : Set1 w A R a W' :=
  ⟨grown_cellAt g h.hA h.a0, grown_cellAt g h.hA h.a1, grown_cellAt g h.hA h.a2, grown_cellAt g h.hA h.a3,
   grown_cellAt g h.hR h.r0, grown_cellAt g h.hR h.r1, grown_cellAt g h.hR h.r2, grown_cellAt g h.hR h.r3, (g.2.1 _).trans h.f0, (g.2.1 _).trans h.f1, (g.2.1 _).trans h.f2, (g.2.1 _).trans h.f3,
   Nat.lt_of_lt_of_le h.hA g.2.2, Nat.lt_of_lt_of_le h.hR g.2.2, Grown.trans' h.gr g, h.lo⟩
theorem held_set1 {w : World} {A R : Nat} {a : Sp} {P : Program} {f : FuncId} {args : Array Value} {v : Value} (x : Held (fun y => Set1 w A R a y))
    (h : Calls P f args x.w fun e w' => e = .returned v ∧ Grown x.w w') : Calls P f args x.w fun e w'' => e = .returned v ∧ ∃ y : Held (fun y => Set1 w A R a y), w'' = y.w := held_call (fun _ _ h g => Set1.grown h g) x h
abbrev twoW (w : World) (x : Array Value) : World := (w.alloc (.cells x 30)).alloc (.cells #[.int .u64 0, .int .u64 0, .int .i64 0, .int .i64 0] 30)
theorem set1_of {w wn : World} {x0 x1 x2 x3 : Value} (a : Sp) (G : Grown (twoW w #[x0, x1, x2, x3]) wn) :
    Set1 w w.heap.size (w.heap.size + 1) a ((((wn.setCell ⟨w.heap.size, 0, none⟩ (.int .u64 (N a.lo))).setCell ⟨w.heap.size, 1, none⟩ (.int .u64 (N a.hi))).setCell ⟨w.heap.size, 2, none⟩ (.int .i64 (Z a.slo))).setCell ⟨w.heap.size, 3, none⟩ (.int .i64 (Z a.shi))) := by
  have gc := gcellI G
  have gf := gfrozI G
  have gz := G.2.2
  have A0 : ∀ (i : Nat) (v : Value), i < 4 → (#[x0, x1, x2, x3] : Array Value)[i]? = some v → wn.cell? ⟨w.heap.size, i, none⟩ = some v := fun i v hi hv => by rw [gc _ _ (by simp; omega)]; simp [go_sem, hv]
  have R0 : ∀ (i : Nat) (v : Value), i < 4 → (#[.int .u64 0, .int .u64 0, .int .i64 0, .int .i64 0] : Array Value)[i]? = some v → wn.cell? ⟨w.heap.size + 1, i, none⟩ = some v := fun i v hi hv => by rw [gc _ _ (by simp)]; simp [go_sem, hv]
  have F0 : ∀ o, wn.frozen? ⟨w.heap.size + 1, o, none⟩ = false := fun o => by
    rw [gf]
    exact ((Grown.alloc (Grown.refl _) _ _).2.1 _).trans (((Grown.alloc (Grown.refl _) _ _).2.1 _).trans (by simp [World.frozen?]))
  have G0 : Grown w wn := Grown.trans' (by go_grown) G
  have gr := (((G0.setCell (a := ⟨w.heap.size, 0, none⟩) (Nat.le_refl _) (.int .u64 (N a.lo))).setCell (a := ⟨w.heap.size, 1, none⟩) (Nat.le_refl _) (.int .u64 (N a.hi))).setCell (a := ⟨w.heap.size, 2, none⟩) (Nat.le_refl _) (.int .i64 (Z a.slo))).setCell (a := ⟨w.heap.size, 3, none⟩) (Nat.le_refl _) (.int .i64 (Z a.shi))
  obtain ⟨p0, p1, p2, p3, po, pf, ps⟩ := set4 (A0 0 _ (by decide) rfl) (A0 1 _ (by decide) rfl) (A0 2 _ (by decide) rfl) (A0 3 _ (by decide) rfl) (.int .u64 (N a.lo)) (.int .u64 (N a.hi)) (.int .i64 (Z a.slo)) (.int .i64 (Z a.shi))
  have n1 : ¬ w.heap.size + 1 = w.heap.size := by omega
  simp at gz
  exact ⟨p0, p1, p2, p3, (po _ _ n1).trans (R0 0 _ (by decide) rfl), (po _ _ n1).trans (R0 1 _ (by decide) rfl), (po _ _ n1).trans (R0 2 _ (by decide) rfl), (po _ _ n1).trans (R0 3 _ (by decide) rfl), (pf _).trans (F0 0), (pf _).trans (F0 1), (pf _).trans (F0 2), (pf _).trans (F0 3), by rw [ps]; omega, by rw [ps]; omega, gr, by omega⟩
set_option maxHeartbeats 4000000 in
theorem sp_rsh (lo hi slo shi : BitVec 64) (n : Int) (h0 : -9223372036854775808 ≤ n) (h1 : n ≤ 9223372036854775807) (w : World) : Calls Tryz.prog 113 #[.agg #[.int .u64 (N lo), .int .u64 (N hi), .int .i64 (Z slo), .int .i64 (Z shi)], .int .i64 n] w fun e w' => e = .returned (.agg #[.int .u64 (N (rshR (settledS (⟨lo, hi, slo, shi⟩ : Sp)) (n % 64).toNat).lo), .int .u64 (N (rshR (settledS (⟨lo, hi, slo, shi⟩ : Sp)) (n % 64).toNat).hi), .int .i64 (Z (rshR (settledS (⟨lo, hi, slo, shi⟩ : Sp)) (n % 64).toNat).slo), .int .i64 (Z (rshR (settledS (⟨lo, hi, slo, shi⟩ : Sp)) (n % 64).toNat).shi)]) ∧ Grown w w' := by
  have HA := Lib.hid (fun w => sp_settled lo hi slo shi w)
  generalize settledS (⟨lo, hi, slo, shi⟩ : Sp) = a at *
  obtain ⟨k, hk⟩ : ∃ k : Nat, n % 64 = (k : Int) := ⟨(n % 64).toNat, by omega⟩
  have hk64 : k < 64 := by omega
  have hand : bits .and .i64 n 63 = (k : Int) := (and63s n h0 h1).trans hk
  have ek : (n % 64).toNat = k := by omega
  have k0 : (0 : Int) ≤ (k : Int) := by omega
  rw [ek]
  clear hk h0 h1 ek
  go_enter Tryz.func113, Tryz.ntmps113
  go_upto_region 2 with (go_at_call 97; ((with_reducible refine (HA.out _).mono ?_); rintro e wn ⟨rfl, hg⟩; have G : Grown (twoW w #[.int .u64 (N lo), .int .u64 (N hi), .int .i64 (Z slo), .int .i64 (Z shi)]) wn := hg; have gc := gcellI G; have gf := gfrozI G))
  have S := set1_of a G
  clear gc gf HA G hg
  generalize ((((wn.setCell ⟨w.heap.size, 0, none⟩ (.int .u64 (N a.lo))).setCell ⟨w.heap.size, 1, none⟩ (.int .u64 (N a.hi))).setCell ⟨w.heap.size, 2, none⟩ (.int .i64 (Z a.slo))).setCell ⟨w.heap.size, 3, none⟩ (.int .i64 (Z a.shi))) = W1 at *
  generalize w.heap.size + 1 = R at *
  generalize w.heap.size = A at *
  obtain ⟨a0, a1, a2, a3, r0, r1, r2, r3, f0, f1, f2, f3, hA, hR, gr, lo⟩ := id S
  clear gr
  by_cases hz : k = 0
  · subst hz
    have z1 : (((0 : Nat) : Int) == 0) = true := rfl
    go_wp2_with fail
    refine bodyPost_ret (v := .agg #[.int .u64 (N (a).lo), .int .u64 (N (a).hi), .int .i64 (Z (a).slo), .int .i64 (Z (a).shi)]) (by simp [results, Tryz.results113, go_sem, r0, r1, r2, r3]) rfl ⟨by rw [show rshR a 0 = a from if_pos rfl], ((((S.gr.setCell (a := ⟨R, 0, none⟩) S.lo _).setCell (a := ⟨R, 1, none⟩) S.lo _).setCell (a := ⟨R, 2, none⟩) S.lo _).setCell (a := ⟨R, 3, none⟩) S.lo _)⟩
  have z1 : ((k : Int) == 0) = false := by simpa using hz
  have HZ := Lib.hid hz
  clear hz
  go_upto_region 4 with fail
  have q0 : ∀ z : Held (fun y => Set1 w A R a y), z.w.cell? ⟨A, 0, none⟩ = some _ := fun z => z.h.a0
  have q1 : ∀ z : Held (fun y => Set1 w A R a y), z.w.cell? ⟨A, 1, none⟩ = some _ := fun z => z.h.a1
  have q2 : ∀ z : Held (fun y => Set1 w A R a y), z.w.cell? ⟨A, 2, none⟩ = some _ := fun z => z.h.a2
  have q3 : ∀ z : Held (fun y => Set1 w A R a y), z.w.cell? ⟨A, 3, none⟩ = some _ := fun z => z.h.a3
  refine wp_region_lex_tail (fun y => Set1 w A R a y) 10 (by kernel_rfl) (by kernel_rfl) (S.grown (Grown.drew (Grown.refl _))) (fun hNon => ?_)
  simp only [List.take_succ_cons, List.take_zero, List.drop_succ_cons, List.drop_zero]
  repeat (go_big_quiet_step ((first | (go_at_call 107; exact held_set1 _ (sp_plain _ _ _)) | (go_at_call 97; exact held_set1 _ (sp_settled _ _ _ _ _)))))
  refine wpQuiet_nil ?_
  clear a0 a1 a2 a3 r0 r1 r2 r3 f0 f1 f2 f3 hA hR lo S
  intro w5 S
  clear hNon q0 q1 q2 q3
  obtain ⟨a0, a1, a2, a3, r0, r1, r2, r3, f0, f1, f2, f3, hA, hR, gr, lo⟩ := id S
  clear gr
  go_wp2
  refine bodyPost_ret (v := .agg #[.int .u64 (N (settledS (plainS (a.lo >>> k) (a.hi >>> k))).lo), .int .u64 (N (settledS (plainS (a.lo >>> k) (a.hi >>> k))).hi), .int .i64 (Z (settledS (plainS (a.lo >>> k) (a.hi >>> k))).slo), .int .i64 (Z (settledS (plainS (a.lo >>> k) (a.hi >>> k))).shi)]) (by simp [results, Tryz.results113, go_sem, r0, r1, r2, r3]) rfl ⟨by rw [show rshR a k = settledS (plainS (a.lo >>> k) (a.hi >>> k)) from if_neg HZ.out], ((((S.gr.setCell (a := ⟨R, 0, none⟩) S.lo _).setCell (a := ⟨R, 1, none⟩) S.lo _).setCell (a := ⟨R, 2, none⟩) S.lo _).setCell (a := ⟨R, 3, none⟩) S.lo _)⟩
set_option maxHeartbeats 4000000 in
theorem sp_arsh (lo hi slo shi : BitVec 64) (n : Int) (h0 : -9223372036854775808 ≤ n) (h1 : n ≤ 9223372036854775807) (w : World) : Calls Tryz.prog 115 #[.agg #[.int .u64 (N lo), .int .u64 (N hi), .int .i64 (Z slo), .int .i64 (Z shi)], .int .i64 n] w fun e w' => e = .returned (.agg #[.int .u64 (N (arshR (settledS (⟨lo, hi, slo, shi⟩ : Sp)) (n % 64).toNat).lo), .int .u64 (N (arshR (settledS (⟨lo, hi, slo, shi⟩ : Sp)) (n % 64).toNat).hi), .int .i64 (Z (arshR (settledS (⟨lo, hi, slo, shi⟩ : Sp)) (n % 64).toNat).slo), .int .i64 (Z (arshR (settledS (⟨lo, hi, slo, shi⟩ : Sp)) (n % 64).toNat).shi)]) ∧ Grown w w' := by
  have HA := Lib.hid (fun w => sp_settled lo hi slo shi w)
  generalize settledS (⟨lo, hi, slo, shi⟩ : Sp) = a at *
  obtain ⟨k, hk⟩ : ∃ k : Nat, n % 64 = (k : Int) := ⟨(n % 64).toNat, by omega⟩
  have hk64 : k < 64 := by omega
  have hand : bits .and .i64 n 63 = (k : Int) := (and63s n h0 h1).trans hk
  have ek : (n % 64).toNat = k := by omega
  have k0 : (0 : Int) ≤ (k : Int) := by omega
  rw [ek]
  clear hk h0 h1 ek
  go_enter Tryz.func115, Tryz.ntmps115
  go_upto_region 2 with (go_at_call 97; ((with_reducible refine (HA.out _).mono ?_); rintro e wn ⟨rfl, hg⟩; have G : Grown (twoW w #[.int .u64 (N lo), .int .u64 (N hi), .int .i64 (Z slo), .int .i64 (Z shi)]) wn := hg; have gc := gcellI G; have gf := gfrozI G))
  have S := set1_of a G
  clear gc gf HA G hg
  generalize ((((wn.setCell ⟨w.heap.size, 0, none⟩ (.int .u64 (N a.lo))).setCell ⟨w.heap.size, 1, none⟩ (.int .u64 (N a.hi))).setCell ⟨w.heap.size, 2, none⟩ (.int .i64 (Z a.slo))).setCell ⟨w.heap.size, 3, none⟩ (.int .i64 (Z a.shi))) = W1 at *
  generalize w.heap.size + 1 = R at *
  generalize w.heap.size = A at *
  obtain ⟨a0, a1, a2, a3, r0, r1, r2, r3, f0, f1, f2, f3, hA, hR, gr, lo⟩ := id S
  clear gr
  by_cases hz : k = 0
  · subst hz
    have z1 : (((0 : Nat) : Int) == 0) = true := rfl
    go_wp2_with fail
    refine bodyPost_ret (v := .agg #[.int .u64 (N (a).lo), .int .u64 (N (a).hi), .int .i64 (Z (a).slo), .int .i64 (Z (a).shi)]) (by simp [results, Tryz.results115, go_sem, r0, r1, r2, r3]) rfl ⟨by rw [show arshR a 0 = a from if_pos rfl], ((((S.gr.setCell (a := ⟨R, 0, none⟩) S.lo _).setCell (a := ⟨R, 1, none⟩) S.lo _).setCell (a := ⟨R, 2, none⟩) S.lo _).setCell (a := ⟨R, 3, none⟩) S.lo _)⟩
  have z1 : ((k : Int) == 0) = false := by simpa using hz
  have HZ := Lib.hid hz
  clear hz
  go_upto_region 4 with fail
  have q0 : ∀ z : Held (fun y => Set1 w A R a y), z.w.cell? ⟨A, 0, none⟩ = some _ := fun z => z.h.a0
  have q1 : ∀ z : Held (fun y => Set1 w A R a y), z.w.cell? ⟨A, 1, none⟩ = some _ := fun z => z.h.a1
  have q2 : ∀ z : Held (fun y => Set1 w A R a y), z.w.cell? ⟨A, 2, none⟩ = some _ := fun z => z.h.a2
  have q3 : ∀ z : Held (fun y => Set1 w A R a y), z.w.cell? ⟨A, 3, none⟩ = some _ := fun z => z.h.a3
  refine wp_region_lex_tail (fun y => Set1 w A R a y) 10 (by kernel_rfl) (by kernel_rfl) (S.grown (Grown.drew (Grown.refl _))) (fun hNon => ?_)
  simp only [List.take_succ_cons, List.take_zero, List.drop_succ_cons, List.drop_zero]
  repeat (go_big_quiet_step ((first | (go_at_call 120; exact held_set1 _ (sp_signed _ _ _)) | (go_at_call 97; exact held_set1 _ (sp_settled _ _ _ _ _)))))
  refine wpQuiet_nil ?_
  clear a0 a1 a2 a3 r0 r1 r2 r3 f0 f1 f2 f3 hA hR lo S
  intro w5 S
  clear hNon q0 q1 q2 q3
  obtain ⟨a0, a1, a2, a3, r0, r1, r2, r3, f0, f1, f2, f3, hA, hR, gr, lo⟩ := id S
  clear gr
  go_wp2
  refine bodyPost_ret (v := .agg #[.int .u64 (N (settledS (signedS (a.slo.sshiftRight k) (a.shi.sshiftRight k))).lo), .int .u64 (N (settledS (signedS (a.slo.sshiftRight k) (a.shi.sshiftRight k))).hi), .int .i64 (Z (settledS (signedS (a.slo.sshiftRight k) (a.shi.sshiftRight k))).slo), .int .i64 (Z (settledS (signedS (a.slo.sshiftRight k) (a.shi.sshiftRight k))).shi)]) (by simp [results, Tryz.results115, go_sem, r0, r1, r2, r3]) rfl ⟨by rw [show arshR a k = settledS (signedS (a.slo.sshiftRight k) (a.shi.sshiftRight k)) from if_neg HZ.out], ((((S.gr.setCell (a := ⟨R, 0, none⟩) S.lo _).setCell (a := ⟨R, 1, none⟩) S.lo _).setCell (a := ⟨R, 2, none⟩) S.lo _).setCell (a := ⟨R, 3, none⟩) S.lo _)⟩
theorem sp_uptoH (w : World) : Calls Tryz.prog 92 #[.int .u64 4294967295] w fun e w' => e = .returned (.agg #[.int .u64 (N (uptoS halfW).lo), .int .u64 (N (uptoS halfW).hi), .int .i64 (Z (uptoS halfW).slo), .int .i64 (Z (uptoS halfW).shi)]) ∧ Grown w w' := by
  have e : N halfW = 4294967295 := by decide
  have h := sp_upto halfW (by rw [e]; decide) w
  have e2 : uptoS halfW = uptoL halfW := by unfold uptoS; rw [if_pos (by rw [e]; decide)]; rfl
  rw [e2]
  rw [e] at h
  exact h
attribute [local go_sem] N_div32
set_option maxHeartbeats 4000000 in
theorem sp_low32 (lo hi slo shi : BitVec 64) (w : World) : Calls Tryz.prog 71 #[.agg #[.int .u64 (N lo), .int .u64 (N hi), .int .i64 (Z slo), .int .i64 (Z shi)]] w fun e w' => e = .returned (.agg #[.int .u64 (N (low32R (settledS (⟨lo, hi, slo, shi⟩ : Sp))).lo), .int .u64 (N (low32R (settledS (⟨lo, hi, slo, shi⟩ : Sp))).hi), .int .i64 (Z (low32R (settledS (⟨lo, hi, slo, shi⟩ : Sp))).slo), .int .i64 (Z (low32R (settledS (⟨lo, hi, slo, shi⟩ : Sp))).shi)]) ∧ Grown w w' := by
  have HA := Lib.hid (fun w => sp_settled lo hi slo shi w)
  generalize settledS (⟨lo, hi, slo, shi⟩ : Sp) = a at *
  go_enter Tryz.func71, Tryz.ntmps71
  go_upto_region 2 with (go_at_call 97; ((with_reducible refine (HA.out _).mono ?_); rintro e wn ⟨rfl, hg⟩; have G : Grown (twoW w #[.int .u64 (N lo), .int .u64 (N hi), .int .i64 (Z slo), .int .i64 (Z shi)]) wn := hg; have gc := gcellI G; have gf := gfrozI G))
  have S := set1_of a G
  clear gc gf HA G hg
  generalize ((((wn.setCell ⟨w.heap.size, 0, none⟩ (.int .u64 (N a.lo))).setCell ⟨w.heap.size, 1, none⟩ (.int .u64 (N a.hi))).setCell ⟨w.heap.size, 2, none⟩ (.int .i64 (Z a.slo))).setCell ⟨w.heap.size, 3, none⟩ (.int .i64 (Z a.shi))) = W1 at *
  generalize w.heap.size + 1 = R at *
  generalize w.heap.size = A at *
  obtain ⟨a0, a1, a2, a3, r0, r1, r2, r3, f0, f1, f2, f3, hA, hR, gr, lo⟩ := id S
  clear gr
  cases z : (N (a.lo >>> 32) != N (a.hi >>> 32))
  · have e : low32R a = settledS (plainS (a.lo &&& halfW) (a.hi &&& halfW)) := by unfold low32R; rw [if_pos (N_inj (by simpa using z))]
    have HE := Lib.hid e
    clear e
    go_wp2_with (first | (go_at_call 107; ((with_reducible refine (sp_plain _ _ _).mono ?_); rintro e wn ⟨rfl, hg⟩; have S := Set1.grown S (Grown.trans' (by go_grown) hg); obtain ⟨a0, a1, a2, a3, r0, r1, r2, r3, f0, f1, f2, f3, hA, hR, gr, lo⟩ := id S; clear gr hg)) | (go_at_call 97; ((with_reducible refine (sp_settled _ _ _ _ _).mono ?_); rintro e wn ⟨rfl, hg⟩; have S := Set1.grown S (Grown.trans' (by go_grown) hg); obtain ⟨a0, a1, a2, a3, r0, r1, r2, r3, f0, f1, f2, f3, hA, hR, gr, lo⟩ := id S; clear gr hg)))
    refine bodyPost_ret (v := .agg #[.int .u64 (N (settledS (plainS (a.lo &&& halfW) (a.hi &&& halfW))).lo), .int .u64 (N (settledS (plainS (a.lo &&& halfW) (a.hi &&& halfW))).hi), .int .i64 (Z (settledS (plainS (a.lo &&& halfW) (a.hi &&& halfW))).slo), .int .i64 (Z (settledS (plainS (a.lo &&& halfW) (a.hi &&& halfW))).shi)]) (by simp [results, Tryz.results71, go_sem, r0, r1, r2, r3]; first | exact ⟨rfl, rfl, rfl, rfl⟩ | done) rfl ⟨by rw [HE.out], ((((S.gr.setCell (a := ⟨R, 0, none⟩) S.lo _).setCell (a := ⟨R, 1, none⟩) S.lo _).setCell (a := ⟨R, 2, none⟩) S.lo _).setCell (a := ⟨R, 3, none⟩) S.lo _)⟩
  · have e : low32R a = uptoS halfW := by unfold low32R; rw [if_neg (fun h => by rw [h] at z; simp at z)]
    have HE := Lib.hid e
    clear e
    go_wp2_with (go_at_call 92; ((with_reducible refine (sp_uptoH _).mono ?_); rintro e wn ⟨rfl, hg⟩; have S := Set1.grown S (Grown.trans' (by go_grown) hg); obtain ⟨a0, a1, a2, a3, r0, r1, r2, r3, f0, f1, f2, f3, hA, hR, gr, lo⟩ := id S; clear gr hg))
    refine bodyPost_ret (v := .agg #[.int .u64 (N (uptoS halfW).lo), .int .u64 (N (uptoS halfW).hi), .int .i64 (Z (uptoS halfW).slo), .int .i64 (Z (uptoS halfW).shi)]) (by simp [results, Tryz.results71, go_sem, r0, r1, r2, r3]) rfl ⟨by rw [HE.out], ((((S.gr.setCell (a := ⟨R, 0, none⟩) S.lo _).setCell (a := ⟨R, 1, none⟩) S.lo _).setCell (a := ⟨R, 2, none⟩) S.lo _).setCell (a := ⟨R, 3, none⟩) S.lo _)⟩
end Go.Proofs.YtchjneodjaakdaaGreat
end
section
namespace Go.Proofs.YtchjneodjaakdaaGreat
set_option maxRecDepth 20000
open Go.RowKit
open Spn (Sp okS tightS anyS settledS commonS minW maxW endsS sendsS lshR)
theorem Z_beq (a b : BitVec 64) : (Z a == Z b) = (a == b) := by
  rw [Bool.eq_iff_iff]
  simp only [beq_iff_eq]
  exact ⟨Spn.Z_inj, fun h => by rw [h]⟩
attribute [local go_sem] u64_wrap ofInt_N ofInt_Nw u64_and wrap64_N ofInt_Z64 N_shrk Z_shrk shl_u shl_i
set_option maxHeartbeats 4000000 in
theorem sp_lsh (lo hi slo shi : BitVec 64) (n : Int) (h0 : -9223372036854775808 ≤ n) (h1 : n ≤ 9223372036854775807) (w : World) : Calls Tryz.prog 122 #[.agg #[.int .u64 (N lo), .int .u64 (N hi), .int .i64 (Z slo), .int .i64 (Z shi)], .int .i64 n] w fun e w' => e = .returned (.agg #[.int .u64 (N (lshR (settledS (⟨lo, hi, slo, shi⟩ : Sp)) (n % 64).toNat).lo), .int .u64 (N (lshR (settledS (⟨lo, hi, slo, shi⟩ : Sp)) (n % 64).toNat).hi), .int .i64 (Z (lshR (settledS (⟨lo, hi, slo, shi⟩ : Sp)) (n % 64).toNat).slo), .int .i64 (Z (lshR (settledS (⟨lo, hi, slo, shi⟩ : Sp)) (n % 64).toNat).shi)]) ∧ Grown w w' := by
  have HA := Lib.hid (fun w => sp_settled lo hi slo shi w)
  generalize settledS (⟨lo, hi, slo, shi⟩ : Sp) = a at *
  obtain ⟨k, hk⟩ : ∃ k : Nat, n % 64 = (k : Int) := ⟨(n % 64).toNat, by omega⟩
  have hk64 : k < 64 := by omega
  have hand : bits .and .i64 n 63 = (k : Int) := (and63s n h0 h1).trans hk
  have ek : (n % 64).toNat = k := by omega
  have k0 : (0 : Int) ≤ (k : Int) := by omega
  rw [ek]
  clear hk h0 h1 ek
  go_enter Tryz.func122, Tryz.ntmps122
  go_upto_region 2 with (go_at_call 97; ((with_reducible refine (HA.out _).mono ?_); rintro e wn ⟨rfl, hg⟩; have G : Grown (twoW w #[.int .u64 (N lo), .int .u64 (N hi), .int .i64 (Z slo), .int .i64 (Z shi)]) wn := hg; have gc := gcellI G; have gf := gfrozI G))
  have S := set1_of a G
  clear gc gf HA G hg
  generalize ((((wn.setCell ⟨w.heap.size, 0, none⟩ (.int .u64 (N a.lo))).setCell ⟨w.heap.size, 1, none⟩ (.int .u64 (N a.hi))).setCell ⟨w.heap.size, 2, none⟩ (.int .i64 (Z a.slo))).setCell ⟨w.heap.size, 3, none⟩ (.int .i64 (Z a.shi))) = W1 at *
  generalize w.heap.size + 1 = R at *
  generalize w.heap.size = A at *
  obtain ⟨a0, a1, a2, a3, r0, r1, r2, r3, f0, f1, f2, f3, hA, hR, gr, lo⟩ := id S
  clear gr
  have q0 : ∀ z : Held (fun y => Set1 w A R a y), z.w.cell? ⟨A, 0, none⟩ = some _ := fun z => z.h.a0
  have q1 : ∀ z : Held (fun y => Set1 w A R a y), z.w.cell? ⟨A, 1, none⟩ = some _ := fun z => z.h.a1
  have q2 : ∀ z : Held (fun y => Set1 w A R a y), z.w.cell? ⟨A, 2, none⟩ = some _ := fun z => z.h.a2
  have q3 : ∀ z : Held (fun y => Set1 w A R a y), z.w.cell? ⟨A, 3, none⟩ = some _ := fun z => z.h.a3
  refine wp_region_lex (fun y => Set1 w A R a y) (by kernel_rfl) (by kernel_rfl) (S.grown (Grown.drew (Grown.refl _))) (fun hNon => ?_)
  repeat (go_big_quiet_step (fail))
  refine wpQuiet_nil ?_
  clear a0 a1 a2 a3 r0 r1 r2 r3 f0 f1 f2 f3 hA hR lo S
  intro w5 S
  clear hNon q0 q1 q2 q3
  obtain ⟨a0, a1, a2, a3, r0, r1, r2, r3, f0, f1, f2, f3, hA, hR, gr, lo⟩ := id S
  clear gr
  go_upto_region 3 with fail
  have q0 : ∀ z : Held (fun y => Set1 w A R a y), z.w.cell? ⟨A, 0, none⟩ = some _ := fun z => z.h.a0
  have q1 : ∀ z : Held (fun y => Set1 w A R a y), z.w.cell? ⟨A, 1, none⟩ = some _ := fun z => z.h.a1
  have q2 : ∀ z : Held (fun y => Set1 w A R a y), z.w.cell? ⟨A, 2, none⟩ = some _ := fun z => z.h.a2
  have q3 : ∀ z : Held (fun y => Set1 w A R a y), z.w.cell? ⟨A, 3, none⟩ = some _ := fun z => z.h.a3
  refine wp_region_lex (fun y => Set1 w A R a y) (by kernel_rfl) (by kernel_rfl) (S.grown (Grown.drew (Grown.refl _))) (fun hNon => ?_)
  repeat (go_big_quiet_step (fail))
  refine wpQuiet_nil ?_
  clear a0 a1 a2 a3 r0 r1 r2 r3 f0 f1 f2 f3 hA hR lo S
  intro w5 S
  clear hNon q0 q1 q2 q3
  obtain ⟨a0, a1, a2, a3, r0, r1, r2, r3, f0, f1, f2, f3, hA, hR, gr, lo⟩ := id S
  clear gr
  cases y1 : (Z ((a.slo <<< k).sshiftRight k) == Z a.slo)
  · have e : lshR a k = settledS (commonS (endsS (a.lo <<< k) (a.hi <<< k) (N ((a.hi <<< k) >>> k) == N a.hi)) (sendsS (a.slo <<< k) (a.shi <<< k) false)) := by
      have y2 := y1
      rw [Z_beq] at y2
      unfold lshR
      rw [N_beq, y2]
      rw [Bool.false_and]
    have HE := Lib.hid e
    clear e
    go_upto_region 4 with fail
    have q0 : ∀ z : Held (fun y => Set1 w A R a y), z.w.cell? ⟨A, 0, none⟩ = some _ := fun z => z.h.a0
    have q1 : ∀ z : Held (fun y => Set1 w A R a y), z.w.cell? ⟨A, 1, none⟩ = some _ := fun z => z.h.a1
    have q2 : ∀ z : Held (fun y => Set1 w A R a y), z.w.cell? ⟨A, 2, none⟩ = some _ := fun z => z.h.a2
    have q3 : ∀ z : Held (fun y => Set1 w A R a y), z.w.cell? ⟨A, 3, none⟩ = some _ := fun z => z.h.a3
    refine wp_region_lex_tail (fun y => Set1 w A R a y) 28 (by kernel_rfl) (by kernel_rfl) (S.grown (Grown.drew (Grown.refl _))) (fun hNon => ?_)
    simp only [List.take_succ_cons, List.take_zero, List.drop_succ_cons, List.drop_zero]
    repeat (go_big_quiet_step ((first | (go_at_call 101; exact held_set1 _ (sp_ends _ _ _ _)) | (go_at_call 102; exact held_set1 _ (sp_sends _ _ _ _)) | (go_at_call 100; exact held_set1 _ (sp_common _ _ _ _ _ _ _ _ _)) | (go_at_call 97; exact held_set1 _ (sp_settled _ _ _ _ _)))))
    refine wpQuiet_nil ?_
    clear a0 a1 a2 a3 r0 r1 r2 r3 f0 f1 f2 f3 hA hR lo S
    intro w5 S
    clear hNon q0 q1 q2 q3
    obtain ⟨a0, a1, a2, a3, r0, r1, r2, r3, f0, f1, f2, f3, hA, hR, gr, lo⟩ := id S
    clear gr
    go_wp2
    refine bodyPost_ret (v := .agg #[.int .u64 (N (settledS (commonS (endsS (a.lo <<< k) (a.hi <<< k) (N ((a.hi <<< k) >>> k) == N a.hi)) (sendsS (a.slo <<< k) (a.shi <<< k) false))).lo), .int .u64 (N (settledS (commonS (endsS (a.lo <<< k) (a.hi <<< k) (N ((a.hi <<< k) >>> k) == N a.hi)) (sendsS (a.slo <<< k) (a.shi <<< k) false))).hi), .int .i64 (Z (settledS (commonS (endsS (a.lo <<< k) (a.hi <<< k) (N ((a.hi <<< k) >>> k) == N a.hi)) (sendsS (a.slo <<< k) (a.shi <<< k) false))).slo), .int .i64 (Z (settledS (commonS (endsS (a.lo <<< k) (a.hi <<< k) (N ((a.hi <<< k) >>> k) == N a.hi)) (sendsS (a.slo <<< k) (a.shi <<< k) false))).shi)]) (by simp [results, Tryz.results122, go_sem, r0, r1, r2, r3]) rfl ⟨by rw [HE.out], ((((S.gr.setCell (a := ⟨R, 0, none⟩) S.lo _).setCell (a := ⟨R, 1, none⟩) S.lo _).setCell (a := ⟨R, 2, none⟩) S.lo _).setCell (a := ⟨R, 3, none⟩) S.lo _)⟩
  · have e : lshR a k = settledS (commonS (endsS (a.lo <<< k) (a.hi <<< k) (N ((a.hi <<< k) >>> k) == N a.hi)) (sendsS (a.slo <<< k) (a.shi <<< k) (Z ((a.shi <<< k).sshiftRight k) == Z a.shi))) := by
      have y2 := y1
      rw [Z_beq] at y2
      unfold lshR
      rw [N_beq, y2]
      rw [Z_beq, Bool.true_and]
    have HE := Lib.hid e
    clear e
    go_upto_region 4 with fail
    have q0 : ∀ z : Held (fun y => Set1 w A R a y), z.w.cell? ⟨A, 0, none⟩ = some _ := fun z => z.h.a0
    have q1 : ∀ z : Held (fun y => Set1 w A R a y), z.w.cell? ⟨A, 1, none⟩ = some _ := fun z => z.h.a1
    have q2 : ∀ z : Held (fun y => Set1 w A R a y), z.w.cell? ⟨A, 2, none⟩ = some _ := fun z => z.h.a2
    have q3 : ∀ z : Held (fun y => Set1 w A R a y), z.w.cell? ⟨A, 3, none⟩ = some _ := fun z => z.h.a3
    refine wp_region_lex_tail (fun y => Set1 w A R a y) 28 (by kernel_rfl) (by kernel_rfl) (S.grown (Grown.drew (Grown.refl _))) (fun hNon => ?_)
    simp only [List.take_succ_cons, List.take_zero, List.drop_succ_cons, List.drop_zero]
    repeat (go_big_quiet_step ((first | (go_at_call 101; exact held_set1 _ (sp_ends _ _ _ _)) | (go_at_call 102; exact held_set1 _ (sp_sends _ _ _ _)) | (go_at_call 100; exact held_set1 _ (sp_common _ _ _ _ _ _ _ _ _)) | (go_at_call 97; exact held_set1 _ (sp_settled _ _ _ _ _)))))
    refine wpQuiet_nil ?_
    clear a0 a1 a2 a3 r0 r1 r2 r3 f0 f1 f2 f3 hA hR lo S
    intro w5 S
    clear hNon q0 q1 q2 q3
    obtain ⟨a0, a1, a2, a3, r0, r1, r2, r3, f0, f1, f2, f3, hA, hR, gr, lo⟩ := id S
    clear gr
    go_wp2
    refine bodyPost_ret (v := .agg #[.int .u64 (N (settledS (commonS (endsS (a.lo <<< k) (a.hi <<< k) (N ((a.hi <<< k) >>> k) == N a.hi)) (sendsS (a.slo <<< k) (a.shi <<< k) (Z ((a.shi <<< k).sshiftRight k) == Z a.shi)))).lo), .int .u64 (N (settledS (commonS (endsS (a.lo <<< k) (a.hi <<< k) (N ((a.hi <<< k) >>> k) == N a.hi)) (sendsS (a.slo <<< k) (a.shi <<< k) (Z ((a.shi <<< k).sshiftRight k) == Z a.shi)))).hi), .int .i64 (Z (settledS (commonS (endsS (a.lo <<< k) (a.hi <<< k) (N ((a.hi <<< k) >>> k) == N a.hi)) (sendsS (a.slo <<< k) (a.shi <<< k) (Z ((a.shi <<< k).sshiftRight k) == Z a.shi)))).slo), .int .i64 (Z (settledS (commonS (endsS (a.lo <<< k) (a.hi <<< k) (N ((a.hi <<< k) >>> k) == N a.hi)) (sendsS (a.slo <<< k) (a.shi <<< k) (Z ((a.shi <<< k).sshiftRight k) == Z a.shi)))).shi)]) (by simp [results, Tryz.results122, go_sem, r0, r1, r2, r3]) rfl ⟨by rw [HE.out], ((((S.gr.setCell (a := ⟨R, 0, none⟩) S.lo _).setCell (a := ⟨R, 1, none⟩) S.lo _).setCell (a := ⟨R, 2, none⟩) S.lo _).setCell (a := ⟨R, 3, none⟩) S.lo _)⟩
end Go.Proofs.YtchjneodjaakdaaGreat
end
section
namespace Go.Proofs.YtchjneodjaakdaaGreat
set_option maxRecDepth 20000
open Go.RowKit
open Spn (Sp umax umin smax smin okS tightS anyS settledS commonS minW maxW endsS sendsS smulP smulK mulHi mLo mHi mK mulR)
theorem min_Zmax (a : BitVec 64) : min 9223372036854775807 (Z a) = Z (smin maxW a) := by rw [Spn.Z_smin, Spn.Z_maxW]
theorem max_Zmin (a : BitVec 64) : max (-9223372036854775808) (Z a) = Z (smax minW a) := by rw [Spn.Z_smax, Spn.Z_minW]
attribute [local go_sem] u64_wrap BitVec.ofInt_add BitVec.ofInt_mul ofInt_N ofInt_Nw wrap64_N ofInt_Z64 max_N min_N max_Z min_Z w_add w_sub w_mul w_div min_Zmax max_Zmin
theorem mul64_any (x y : BitVec 64) (w : World) : Calls Tryz.prog 105 #[.int .u64 (N x), .int .u64 (N y)] w fun e w' => e = .returned (.tuple #[.int .u64 (N (mulHi x y)), .int .u64 (N (x * y))]) ∧ w' = w := by
  have h := Tryz.bits_Mul64 x.toNat y.toNat x.isLt y.isLt w
  have hl : x.toNat * y.toNat < 18446744073709551616 * 18446744073709551616 := Nat.mul_lt_mul'' x.isLt y.isLt
  have e1 : ((x.toNat * y.toNat / 18446744073709551616 : Nat) : Int) = N (mulHi x y) := by
    unfold mulHi N
    rw [BitVec.toNat_ofNat]
    have : x.toNat * y.toNat / 18446744073709551616 < 18446744073709551616 := Nat.div_lt_of_lt_mul hl
    rw [Nat.mod_eq_of_lt this]
  have e2 : ((x.toNat * y.toNat % 18446744073709551616 : Nat) : Int) = N (x * y) := by
    unfold N
    rw [BitVec.toNat_mul]
  rw [e1, e2] at h
  exact h
/-- Two arguments, the result's place, and a span of one's own. -/
def Set3 (w : World) (A B R C : Nat) (a b r : Sp) (W : World) : Prop := Set2 w A B R a b W ∧ (W.cell? ⟨C, 0, none⟩ = some (.int .u64 (N r.lo)) ∧ W.cell? ⟨C, 1, none⟩ = some (.int .u64 (N r.hi)) ∧ W.cell? ⟨C, 2, none⟩ = some (.int .i64 (Z r.slo)) ∧ W.cell? ⟨C, 3, none⟩ = some (.int .i64 (Z r.shi)) ∧ C < W.heap.size)
theorem Set3.grown {w : World} {A B R C : Nat} {a b r : Sp} {W W' : World} (h : Set3 w A B R C a b r W) (g : Grown W W') : Set3 w A B R C a b r W' :=
  ⟨h.1.grown g, grown_cellAt g h.2.2.2.2.2 h.2.1, grown_cellAt g h.2.2.2.2.2 h.2.2.1, grown_cellAt g h.2.2.2.2.2 h.2.2.2.1, grown_cellAt g h.2.2.2.2.2 h.2.2.2.2.1, Nat.lt_of_lt_of_le h.2.2.2.2.2 g.2.2⟩
theorem held_set3 {w : World} {A B R C : Nat} {a b r : Sp} {P : Program} {f : FuncId} {args : Array Value} {v : Value} (x : Held (fun y => Set3 w A B R C a b r y))
    (h : Calls P f args x.w fun e w' => e = .returned v ∧ Grown x.w w') : Calls P f args x.w fun e w'' => e = .returned v ∧ ∃ y : Held (fun y => Set3 w A B R C a b r y), w'' = y.w := held_call (fun _ _ h g => Set3.grown h g) x h
set_option maxHeartbeats 4000000 in
theorem sp_smulX (a b : BitVec 64) (w : World) : Calls Tryz.prog 106 #[.int .i64 (Z a), .int .i64 (Z b)] w fun e w' => e = .returned (.tuple #[.int .i64 (Z (smulP a b)), .bool (smulK a b)]) ∧ w' = w := by
  have hZ0 : ∀ v : BitVec 64, (Z v == 0) = decide (v = 0#64) := fun v => by rw [Bool.eq_iff_iff]; simp [Spn.Z_zero_iff]
  unfold smulP smulK
  by_cases ca : a = 0#64
  · rw [if_pos (.inl ca), if_pos (.inl ca)]
    have x1 : (Z a == 0) = true := by rw [hZ0]; exact decide_eq_true ca
    rw [Spn.Z0]
    clear hZ0 ca
    go_enter Tryz.func106, Tryz.ntmps106
    go_wp2
    go_ret2
    exact ⟨rfl, rfl⟩
  have x1 : (Z a == 0) = false := by rw [hZ0]; exact decide_eq_false ca
  by_cases cb : b = 0#64
  · rw [if_pos (.inr cb), if_pos (.inr cb)]
    have x2 : (Z b == 0) = true := by rw [hZ0]; exact decide_eq_true cb
    rw [Spn.Z0]
    clear hZ0 ca cb
    go_enter Tryz.func106, Tryz.ntmps106
    go_wp2
    go_ret2
    exact ⟨rfl, rfl⟩
  have x2 : (Z b == 0) = false := by rw [hZ0]; exact decide_eq_false cb
  rw [if_neg (not_or.2 ⟨ca, cb⟩), if_neg (not_or.2 ⟨ca, cb⟩)]
  have e1 : ((a * b).sdiv b == a) = (Z ((a * b).sdiv b) == Z a) := by rw [Bool.eq_iff_iff]; simp only [beq_iff_eq]; exact ⟨fun h => by rw [h], Spn.Z_inj⟩
  have e2 : (a == minW) = (Z a == -9223372036854775808) := by rw [← Spn.Z_minW, Bool.eq_iff_iff]; simp only [beq_iff_eq]; exact ⟨fun h => by rw [h], Spn.Z_inj⟩
  have e3 : (b == -1#64) = (Z b == -1) := by rw [← Spn.Zm1, Bool.eq_iff_iff]; simp only [beq_iff_eq]; exact ⟨fun h => by rw [h], Spn.Z_inj⟩
  rw [e1, e2, e3]
  have x3 : ¬ Z b = 0 := by simpa using x2
  clear e1 e2 e3 ca cb hZ0
  cases y1 : (Z ((a * b).sdiv b) == Z a) <;> cases y2 : (Z a == -9223372036854775808) <;> cases y3 : (Z b == -1)
  all_goals
    go_enter Tryz.func106, Tryz.ntmps106
    go_wp2
    go_ret2
    exact ⟨by first | rfl | (rw [← w_mul a b]; rfl), rfl⟩
set_option maxHeartbeats 8000000 in
theorem sp_mul (alo ahi aslo ashi blo bhi bslo bshi : BitVec 64) (w : World) : Calls Tryz.prog 60 #[.agg #[.int .u64 (N alo), .int .u64 (N ahi), .int .i64 (Z aslo), .int .i64 (Z ashi)], .agg #[.int .u64 (N blo), .int .u64 (N bhi), .int .i64 (Z bslo), .int .i64 (Z bshi)]] w fun e w' => e = .returned (.agg #[.int .u64 (N (mulR (settledS (⟨alo, ahi, aslo, ashi⟩ : Sp)) (settledS (⟨blo, bhi, bslo, bshi⟩ : Sp))).lo), .int .u64 (N (mulR (settledS (⟨alo, ahi, aslo, ashi⟩ : Sp)) (settledS (⟨blo, bhi, bslo, bshi⟩ : Sp))).hi), .int .i64 (Z (mulR (settledS (⟨alo, ahi, aslo, ashi⟩ : Sp)) (settledS (⟨blo, bhi, bslo, bshi⟩ : Sp))).slo), .int .i64 (Z (mulR (settledS (⟨alo, ahi, aslo, ashi⟩ : Sp)) (settledS (⟨blo, bhi, bslo, bshi⟩ : Sp))).shi)]) ∧ Grown w w' := by
  have HA := Lib.hid (fun w => sp_settled alo ahi aslo ashi w)
  have HB := Lib.hid (fun w => sp_settled blo bhi bslo bshi w)
  generalize settledS (⟨alo, ahi, aslo, ashi⟩ : Sp) = a at *
  generalize settledS (⟨blo, bhi, bslo, bshi⟩ : Sp) = b at *
  go_enter Tryz.func60, Tryz.ntmps60
  go_upto_region 1 with fail
  go_cut [18] (fun _ wx => Set2 w w.heap.size (w.heap.size + 1) (w.heap.size + 1 + 1) a b wx)
  case first =>
    go_region_with (first | (go_at_call 97; (with_reducible refine (HA.out _).mono ?_); rintro e wn ⟨rfl, hg⟩; have G : Grown (three w #[.int .u64 (N alo), .int .u64 (N ahi), .int .i64 (Z aslo), .int .i64 (Z ashi)] #[.int .u64 (N blo), .int .u64 (N bhi), .int .i64 (Z bslo), .int .i64 (Z bshi)]) wn := Grown.trans' (by first | with_reducible assumption | (refine Grown.drew ?_; with_reducible assumption) | go_grown) hg; have gc := gcellI G; have gf := gfrozI G) | (go_at_call 97; (with_reducible refine (HB.out _).mono ?_); rintro e wn ⟨rfl, hg⟩; have G : Grown (three w #[.int .u64 (N alo), .int .u64 (N ahi), .int .i64 (Z aslo), .int .i64 (Z ashi)] #[.int .u64 (N blo), .int .u64 (N bhi), .int .i64 (Z bslo), .int .i64 (Z bshi)]) wn := Grown.trans' (by first | with_reducible assumption | (refine Grown.drew ?_; with_reducible assumption) | go_grown) hg; have gc := gcellI G; have gf := gfrozI G))
    all_goals
      go_wp2_with fail
      go_meet
      case rel => exact set2_of a b G
  case rest =>
    have S := hcut
    clear hcut HA HB
    obtain ⟨a0, a1, a2, a3, b0, b1, b2, b3, r0, r1, r2, r3, f0, f1, f2, f3, hA, hB, hR, gr, lo⟩ := id S
    clear gr
    generalize w.heap.size + 1 + 1 = R at *
    generalize w.heap.size + 1 = B at *
    generalize w.heap.size = A at *
    have S0 := S
    go_upto_region 4 with (first | (go_at_call 105; ((with_reducible refine (mul64_any _ _ _).mono ?_); rintro e w1 ⟨rfl, rfl⟩)) | (go_at_call 101; ((with_reducible refine (sp_ends _ _ _ _).mono ?_); rintro e wn ⟨rfl, hg⟩; have g0 := hg)))
    have S3 : Set3 w A B R wn.heap.size a b (endsS (a.lo * b.lo) (a.hi * b.hi) (N (mulHi a.hi b.hi) == 0)) (wn.alloc (.cells #[.int .u64 (N (endsS (a.lo * b.lo) (a.hi * b.hi) (N (mulHi a.hi b.hi) == 0)).lo), .int .u64 (N (endsS (a.lo * b.lo) (a.hi * b.hi) (N (mulHi a.hi b.hi) == 0)).hi), .int .i64 (Z (endsS (a.lo * b.lo) (a.hi * b.hi) (N (mulHi a.hi b.hi) == 0)).slo), .int .i64 (Z (endsS (a.lo * b.lo) (a.hi * b.hi) (N (mulHi a.hi b.hi) == 0)).shi)] 30)) := ⟨S0.grown (Grown.alloc g0 _ _), by simp [go_sem], by simp [go_sem], by simp [go_sem], by simp [go_sem], by simp⟩
    clear S S0 g0 hg a0 a1 a2 a3 b0 b1 b2 b3 r0 r1 r2 r3 f0 f1 f2 f3 hA hB hR lo
    have hrr0 : (endsS (a.lo * b.lo) (a.hi * b.hi) (N (mulHi a.hi b.hi) == 0)) = endsS (a.lo * b.lo) (a.hi * b.hi) (mulHi a.hi b.hi == 0#64) := by rw [show (N (mulHi a.hi b.hi) == 0) = (mulHi a.hi b.hi == 0#64) by rw [← Spn.N0, N_beq]]
    generalize (endsS (a.lo * b.lo) (a.hi * b.hi) (N (mulHi a.hi b.hi) == 0)) = rr at *
    have HRR := Lib.hid hrr0
    clear hrr0
    generalize wn.alloc (.cells #[.int .u64 (N rr.lo), .int .u64 (N rr.hi), .int .i64 (Z rr.slo), .int .i64 (Z rr.shi)] 30) = W4 at *
    generalize wn.heap.size = C at *
    have a2 := S3.1.a2
    have a3 := S3.1.a3
    have b2 := S3.1.b2
    have b3 := S3.1.b3
    have ja0 : ∀ w, (Instr.index 57 (.agg #[.int .i64 (Z a.slo), .int .i64 (Z a.shi)]) (.int .i64 0)).run Tryz.prog w = .ok (.int .i64 (Z a.slo)) w := fun _ => by kernel_rfl
    have ja1 : ∀ w, (Instr.index 57 (.agg #[.int .i64 (Z a.slo), .int .i64 (Z a.shi)]) (.int .i64 1)).run Tryz.prog w = .ok (.int .i64 (Z a.shi)) w := fun _ => by kernel_rfl
    have jb0 : ∀ w, (Instr.index 57 (.agg #[.int .i64 (Z b.slo), .int .i64 (Z b.shi)]) (.int .i64 0)).run Tryz.prog w = .ok (.int .i64 (Z b.slo)) w := fun _ => by kernel_rfl
    have jb1 : ∀ w, (Instr.index 57 (.agg #[.int .i64 (Z b.slo), .int .i64 (Z b.shi)]) (.int .i64 1)).run Tryz.prog w = .ok (.int .i64 (Z b.shi)) w := fun _ => by kernel_rfl
    cases y0 : smulK a.slo b.slo
    · skip
      have HE : Hid (mulR a b = settledS (commonS rr (sendsS (smin (smin (smin (smin maxW (smulP a.slo b.slo)) (smulP a.slo b.shi)) (smulP a.shi b.slo)) (smulP a.shi b.shi)) (smax (smax (smax (smax minW (smulP a.slo b.slo)) (smulP a.slo b.shi)) (smulP a.shi b.slo)) (smulP a.shi b.shi)) false))) := Lib.hid (by unfold mulR mK mLo mHi; rw [HRR.out, y0]; simp)
      have H0 : Hid (∀ w, Calls Tryz.prog 106 #[.int .i64 (Z a.slo), .int .i64 (Z b.slo)] w fun e w' => e = .returned (.tuple #[.int .i64 (Z (smulP a.slo b.slo)), .bool (false)]) ∧ w' = w) := Lib.hid (fun w => y0 ▸ sp_smulX a.slo b.slo w)
      have H1 : Hid (∀ w, Calls Tryz.prog 106 #[.int .i64 (Z a.slo), .int .i64 (Z b.shi)] w fun e w' => e = .returned (.tuple #[.int .i64 (Z (smulP a.slo b.shi)), .bool (smulK a.slo b.shi)]) ∧ w' = w) := Lib.hid (fun w => sp_smulX a.slo b.shi w)
      have H2 : Hid (∀ w, Calls Tryz.prog 106 #[.int .i64 (Z a.shi), .int .i64 (Z b.slo)] w fun e w' => e = .returned (.tuple #[.int .i64 (Z (smulP a.shi b.slo)), .bool (smulK a.shi b.slo)]) ∧ w' = w) := Lib.hid (fun w => sp_smulX a.shi b.slo w)
      have H3 : Hid (∀ w, Calls Tryz.prog 106 #[.int .i64 (Z a.shi), .int .i64 (Z b.shi)] w fun e w' => e = .returned (.tuple #[.int .i64 (Z (smulP a.shi b.shi)), .bool (smulK a.shi b.shi)]) ∧ w' = w) := Lib.hid (fun w => sp_smulX a.shi b.shi w)
      clear y0
      go_wp2_with fail
      refine wp_loop_rounds 3 ?_
      rw [rounds_succ]
      go_wp2_with fail
      refine wp_loop_rounds 3 ?_
      rw [rounds_succ]
      go_wp2_with (first | (go_at_call 106; ((with_reducible refine (H0.out _).mono ?_); rintro e w1 ⟨rfl, rfl⟩)) | (go_at_call 106; ((with_reducible refine (H1.out _).mono ?_); rintro e w1 ⟨rfl, rfl⟩)) | (go_at_call 106; ((with_reducible refine (H2.out _).mono ?_); rintro e w1 ⟨rfl, rfl⟩)) | (go_at_call 106; ((with_reducible refine (H3.out _).mono ?_); rintro e w1 ⟨rfl, rfl⟩)))
      rw [rounds_succ]
      go_wp2_with (first | (go_at_call 106; ((with_reducible refine (H0.out _).mono ?_); rintro e w1 ⟨rfl, rfl⟩)) | (go_at_call 106; ((with_reducible refine (H1.out _).mono ?_); rintro e w1 ⟨rfl, rfl⟩)) | (go_at_call 106; ((with_reducible refine (H2.out _).mono ?_); rintro e w1 ⟨rfl, rfl⟩)) | (go_at_call 106; ((with_reducible refine (H3.out _).mono ?_); rintro e w1 ⟨rfl, rfl⟩)))
      rw [rounds_succ]
      go_wp2_with fail
      rw [rounds_succ]
      go_wp2_with fail
      refine wp_loop_rounds 3 ?_
      rw [rounds_succ]
      go_wp2_with (first | (go_at_call 106; ((with_reducible refine (H0.out _).mono ?_); rintro e w1 ⟨rfl, rfl⟩)) | (go_at_call 106; ((with_reducible refine (H1.out _).mono ?_); rintro e w1 ⟨rfl, rfl⟩)) | (go_at_call 106; ((with_reducible refine (H2.out _).mono ?_); rintro e w1 ⟨rfl, rfl⟩)) | (go_at_call 106; ((with_reducible refine (H3.out _).mono ?_); rintro e w1 ⟨rfl, rfl⟩)))
      rw [rounds_succ]
      go_wp2_with (first | (go_at_call 106; ((with_reducible refine (H0.out _).mono ?_); rintro e w1 ⟨rfl, rfl⟩)) | (go_at_call 106; ((with_reducible refine (H1.out _).mono ?_); rintro e w1 ⟨rfl, rfl⟩)) | (go_at_call 106; ((with_reducible refine (H2.out _).mono ?_); rintro e w1 ⟨rfl, rfl⟩)) | (go_at_call 106; ((with_reducible refine (H3.out _).mono ?_); rintro e w1 ⟨rfl, rfl⟩)))
      rw [rounds_succ]
      go_wp2_with fail
      rw [rounds_succ]
      go_wp2_with fail
      have q0 : ∀ z : Held (fun y => Set3 w A B R C a b rr y), z.w.cell? ⟨C, 0, none⟩ = some _ := fun z => z.h.2.1
      have q1 : ∀ z : Held (fun y => Set3 w A B R C a b rr y), z.w.cell? ⟨C, 1, none⟩ = some _ := fun z => z.h.2.2.1
      have q2 : ∀ z : Held (fun y => Set3 w A B R C a b rr y), z.w.cell? ⟨C, 2, none⟩ = some _ := fun z => z.h.2.2.2.1
      have q3 : ∀ z : Held (fun y => Set3 w A B R C a b rr y), z.w.cell? ⟨C, 3, none⟩ = some _ := fun z => z.h.2.2.2.2.1
      refine wp_region_lex_tail (fun y => Set3 w A B R C a b rr y) 7 (by kernel_rfl) (by kernel_rfl) (S3.grown (Grown.drew (Grown.refl _))) (fun hNon => ?_)
      simp only [List.take_succ_cons, List.take_zero, List.drop_succ_cons, List.drop_zero]
      repeat (go_big_quiet_step ((first | (go_at_call 102; exact held_set3 _ (sp_sends _ _ _ _)) | (go_at_call 100; exact held_set3 _ (sp_common _ _ _ _ _ _ _ _ _)) | (go_at_call 97; exact held_set3 _ (sp_settled _ _ _ _ _)))))
      refine wpQuiet_nil ?_
      intro w5 S5
      clear hNon q0 q1 q2 q3 a2 a3 b2 b3 S3
      have S := S5.1
      obtain ⟨a0, a1, a2, a3, b0, b1, b2, b3, r0, r1, r2, r3, f0, f1, f2, f3, hA, hB, hR, gr, lo⟩ := id S
      clear gr S5
      go_wp2
      refine bodyPost_ret (v := .agg #[.int .u64 (N (settledS (commonS rr (sendsS (smin (smin (smin (smin maxW (smulP a.slo b.slo)) (smulP a.slo b.shi)) (smulP a.shi b.slo)) (smulP a.shi b.shi)) (smax (smax (smax (smax minW (smulP a.slo b.slo)) (smulP a.slo b.shi)) (smulP a.shi b.slo)) (smulP a.shi b.shi)) false))).lo), .int .u64 (N (settledS (commonS rr (sendsS (smin (smin (smin (smin maxW (smulP a.slo b.slo)) (smulP a.slo b.shi)) (smulP a.shi b.slo)) (smulP a.shi b.shi)) (smax (smax (smax (smax minW (smulP a.slo b.slo)) (smulP a.slo b.shi)) (smulP a.shi b.slo)) (smulP a.shi b.shi)) false))).hi), .int .i64 (Z (settledS (commonS rr (sendsS (smin (smin (smin (smin maxW (smulP a.slo b.slo)) (smulP a.slo b.shi)) (smulP a.shi b.slo)) (smulP a.shi b.shi)) (smax (smax (smax (smax minW (smulP a.slo b.slo)) (smulP a.slo b.shi)) (smulP a.shi b.slo)) (smulP a.shi b.shi)) false))).slo), .int .i64 (Z (settledS (commonS rr (sendsS (smin (smin (smin (smin maxW (smulP a.slo b.slo)) (smulP a.slo b.shi)) (smulP a.shi b.slo)) (smulP a.shi b.shi)) (smax (smax (smax (smax minW (smulP a.slo b.slo)) (smulP a.slo b.shi)) (smulP a.shi b.slo)) (smulP a.shi b.shi)) false))).shi)]) (by simp [results, Tryz.results60, go_sem, r0, r1, r2, r3]) rfl ⟨by rw [HE.out], ((((S.gr.setCell (a := ⟨R, 0, none⟩) S.lo _).setCell (a := ⟨R, 1, none⟩) S.lo _).setCell (a := ⟨R, 2, none⟩) S.lo _).setCell (a := ⟨R, 3, none⟩) S.lo _)⟩
    cases y1 : smulK a.slo b.shi
    · skip
      have HE : Hid (mulR a b = settledS (commonS rr (sendsS (smin (smin (smin (smin maxW (smulP a.slo b.slo)) (smulP a.slo b.shi)) (smulP a.shi b.slo)) (smulP a.shi b.shi)) (smax (smax (smax (smax minW (smulP a.slo b.slo)) (smulP a.slo b.shi)) (smulP a.shi b.slo)) (smulP a.shi b.shi)) false))) := Lib.hid (by unfold mulR mK mLo mHi; rw [HRR.out, y0, y1]; simp)
      have H0 : Hid (∀ w, Calls Tryz.prog 106 #[.int .i64 (Z a.slo), .int .i64 (Z b.slo)] w fun e w' => e = .returned (.tuple #[.int .i64 (Z (smulP a.slo b.slo)), .bool (true)]) ∧ w' = w) := Lib.hid (fun w => y0 ▸ sp_smulX a.slo b.slo w)
      have H1 : Hid (∀ w, Calls Tryz.prog 106 #[.int .i64 (Z a.slo), .int .i64 (Z b.shi)] w fun e w' => e = .returned (.tuple #[.int .i64 (Z (smulP a.slo b.shi)), .bool (false)]) ∧ w' = w) := Lib.hid (fun w => y1 ▸ sp_smulX a.slo b.shi w)
      have H2 : Hid (∀ w, Calls Tryz.prog 106 #[.int .i64 (Z a.shi), .int .i64 (Z b.slo)] w fun e w' => e = .returned (.tuple #[.int .i64 (Z (smulP a.shi b.slo)), .bool (smulK a.shi b.slo)]) ∧ w' = w) := Lib.hid (fun w => sp_smulX a.shi b.slo w)
      have H3 : Hid (∀ w, Calls Tryz.prog 106 #[.int .i64 (Z a.shi), .int .i64 (Z b.shi)] w fun e w' => e = .returned (.tuple #[.int .i64 (Z (smulP a.shi b.shi)), .bool (smulK a.shi b.shi)]) ∧ w' = w) := Lib.hid (fun w => sp_smulX a.shi b.shi w)
      clear y0 y1
      go_wp2_with fail
      refine wp_loop_rounds 3 ?_
      rw [rounds_succ]
      go_wp2_with fail
      refine wp_loop_rounds 3 ?_
      rw [rounds_succ]
      go_wp2_with (first | (go_at_call 106; ((with_reducible refine (H0.out _).mono ?_); rintro e w1 ⟨rfl, rfl⟩)) | (go_at_call 106; ((with_reducible refine (H1.out _).mono ?_); rintro e w1 ⟨rfl, rfl⟩)) | (go_at_call 106; ((with_reducible refine (H2.out _).mono ?_); rintro e w1 ⟨rfl, rfl⟩)) | (go_at_call 106; ((with_reducible refine (H3.out _).mono ?_); rintro e w1 ⟨rfl, rfl⟩)))
      rw [rounds_succ]
      go_wp2_with (first | (go_at_call 106; ((with_reducible refine (H0.out _).mono ?_); rintro e w1 ⟨rfl, rfl⟩)) | (go_at_call 106; ((with_reducible refine (H1.out _).mono ?_); rintro e w1 ⟨rfl, rfl⟩)) | (go_at_call 106; ((with_reducible refine (H2.out _).mono ?_); rintro e w1 ⟨rfl, rfl⟩)) | (go_at_call 106; ((with_reducible refine (H3.out _).mono ?_); rintro e w1 ⟨rfl, rfl⟩)))
      rw [rounds_succ]
      go_wp2_with fail
      rw [rounds_succ]
      go_wp2_with fail
      refine wp_loop_rounds 3 ?_
      rw [rounds_succ]
      go_wp2_with (first | (go_at_call 106; ((with_reducible refine (H0.out _).mono ?_); rintro e w1 ⟨rfl, rfl⟩)) | (go_at_call 106; ((with_reducible refine (H1.out _).mono ?_); rintro e w1 ⟨rfl, rfl⟩)) | (go_at_call 106; ((with_reducible refine (H2.out _).mono ?_); rintro e w1 ⟨rfl, rfl⟩)) | (go_at_call 106; ((with_reducible refine (H3.out _).mono ?_); rintro e w1 ⟨rfl, rfl⟩)))
      rw [rounds_succ]
      go_wp2_with (first | (go_at_call 106; ((with_reducible refine (H0.out _).mono ?_); rintro e w1 ⟨rfl, rfl⟩)) | (go_at_call 106; ((with_reducible refine (H1.out _).mono ?_); rintro e w1 ⟨rfl, rfl⟩)) | (go_at_call 106; ((with_reducible refine (H2.out _).mono ?_); rintro e w1 ⟨rfl, rfl⟩)) | (go_at_call 106; ((with_reducible refine (H3.out _).mono ?_); rintro e w1 ⟨rfl, rfl⟩)))
      rw [rounds_succ]
      go_wp2_with fail
      rw [rounds_succ]
      go_wp2_with fail
      have q0 : ∀ z : Held (fun y => Set3 w A B R C a b rr y), z.w.cell? ⟨C, 0, none⟩ = some _ := fun z => z.h.2.1
      have q1 : ∀ z : Held (fun y => Set3 w A B R C a b rr y), z.w.cell? ⟨C, 1, none⟩ = some _ := fun z => z.h.2.2.1
      have q2 : ∀ z : Held (fun y => Set3 w A B R C a b rr y), z.w.cell? ⟨C, 2, none⟩ = some _ := fun z => z.h.2.2.2.1
      have q3 : ∀ z : Held (fun y => Set3 w A B R C a b rr y), z.w.cell? ⟨C, 3, none⟩ = some _ := fun z => z.h.2.2.2.2.1
      refine wp_region_lex_tail (fun y => Set3 w A B R C a b rr y) 7 (by kernel_rfl) (by kernel_rfl) (S3.grown (Grown.drew (Grown.refl _))) (fun hNon => ?_)
      simp only [List.take_succ_cons, List.take_zero, List.drop_succ_cons, List.drop_zero]
      repeat (go_big_quiet_step ((first | (go_at_call 102; exact held_set3 _ (sp_sends _ _ _ _)) | (go_at_call 100; exact held_set3 _ (sp_common _ _ _ _ _ _ _ _ _)) | (go_at_call 97; exact held_set3 _ (sp_settled _ _ _ _ _)))))
      refine wpQuiet_nil ?_
      intro w5 S5
      clear hNon q0 q1 q2 q3 a2 a3 b2 b3 S3
      have S := S5.1
      obtain ⟨a0, a1, a2, a3, b0, b1, b2, b3, r0, r1, r2, r3, f0, f1, f2, f3, hA, hB, hR, gr, lo⟩ := id S
      clear gr S5
      go_wp2
      refine bodyPost_ret (v := .agg #[.int .u64 (N (settledS (commonS rr (sendsS (smin (smin (smin (smin maxW (smulP a.slo b.slo)) (smulP a.slo b.shi)) (smulP a.shi b.slo)) (smulP a.shi b.shi)) (smax (smax (smax (smax minW (smulP a.slo b.slo)) (smulP a.slo b.shi)) (smulP a.shi b.slo)) (smulP a.shi b.shi)) false))).lo), .int .u64 (N (settledS (commonS rr (sendsS (smin (smin (smin (smin maxW (smulP a.slo b.slo)) (smulP a.slo b.shi)) (smulP a.shi b.slo)) (smulP a.shi b.shi)) (smax (smax (smax (smax minW (smulP a.slo b.slo)) (smulP a.slo b.shi)) (smulP a.shi b.slo)) (smulP a.shi b.shi)) false))).hi), .int .i64 (Z (settledS (commonS rr (sendsS (smin (smin (smin (smin maxW (smulP a.slo b.slo)) (smulP a.slo b.shi)) (smulP a.shi b.slo)) (smulP a.shi b.shi)) (smax (smax (smax (smax minW (smulP a.slo b.slo)) (smulP a.slo b.shi)) (smulP a.shi b.slo)) (smulP a.shi b.shi)) false))).slo), .int .i64 (Z (settledS (commonS rr (sendsS (smin (smin (smin (smin maxW (smulP a.slo b.slo)) (smulP a.slo b.shi)) (smulP a.shi b.slo)) (smulP a.shi b.shi)) (smax (smax (smax (smax minW (smulP a.slo b.slo)) (smulP a.slo b.shi)) (smulP a.shi b.slo)) (smulP a.shi b.shi)) false))).shi)]) (by simp [results, Tryz.results60, go_sem, r0, r1, r2, r3]) rfl ⟨by rw [HE.out], ((((S.gr.setCell (a := ⟨R, 0, none⟩) S.lo _).setCell (a := ⟨R, 1, none⟩) S.lo _).setCell (a := ⟨R, 2, none⟩) S.lo _).setCell (a := ⟨R, 3, none⟩) S.lo _)⟩
    cases y2 : smulK a.shi b.slo
    · skip
      have HE : Hid (mulR a b = settledS (commonS rr (sendsS (smin (smin (smin (smin maxW (smulP a.slo b.slo)) (smulP a.slo b.shi)) (smulP a.shi b.slo)) (smulP a.shi b.shi)) (smax (smax (smax (smax minW (smulP a.slo b.slo)) (smulP a.slo b.shi)) (smulP a.shi b.slo)) (smulP a.shi b.shi)) false))) := Lib.hid (by unfold mulR mK mLo mHi; rw [HRR.out, y0, y1, y2]; simp)
      have H0 : Hid (∀ w, Calls Tryz.prog 106 #[.int .i64 (Z a.slo), .int .i64 (Z b.slo)] w fun e w' => e = .returned (.tuple #[.int .i64 (Z (smulP a.slo b.slo)), .bool (true)]) ∧ w' = w) := Lib.hid (fun w => y0 ▸ sp_smulX a.slo b.slo w)
      have H1 : Hid (∀ w, Calls Tryz.prog 106 #[.int .i64 (Z a.slo), .int .i64 (Z b.shi)] w fun e w' => e = .returned (.tuple #[.int .i64 (Z (smulP a.slo b.shi)), .bool (true)]) ∧ w' = w) := Lib.hid (fun w => y1 ▸ sp_smulX a.slo b.shi w)
      have H2 : Hid (∀ w, Calls Tryz.prog 106 #[.int .i64 (Z a.shi), .int .i64 (Z b.slo)] w fun e w' => e = .returned (.tuple #[.int .i64 (Z (smulP a.shi b.slo)), .bool (false)]) ∧ w' = w) := Lib.hid (fun w => y2 ▸ sp_smulX a.shi b.slo w)
      have H3 : Hid (∀ w, Calls Tryz.prog 106 #[.int .i64 (Z a.shi), .int .i64 (Z b.shi)] w fun e w' => e = .returned (.tuple #[.int .i64 (Z (smulP a.shi b.shi)), .bool (smulK a.shi b.shi)]) ∧ w' = w) := Lib.hid (fun w => sp_smulX a.shi b.shi w)
      clear y0 y1 y2
      go_wp2_with fail
      refine wp_loop_rounds 3 ?_
      rw [rounds_succ]
      go_wp2_with fail
      refine wp_loop_rounds 3 ?_
      rw [rounds_succ]
      go_wp2_with (first | (go_at_call 106; ((with_reducible refine (H0.out _).mono ?_); rintro e w1 ⟨rfl, rfl⟩)) | (go_at_call 106; ((with_reducible refine (H1.out _).mono ?_); rintro e w1 ⟨rfl, rfl⟩)) | (go_at_call 106; ((with_reducible refine (H2.out _).mono ?_); rintro e w1 ⟨rfl, rfl⟩)) | (go_at_call 106; ((with_reducible refine (H3.out _).mono ?_); rintro e w1 ⟨rfl, rfl⟩)))
      rw [rounds_succ]
      go_wp2_with (first | (go_at_call 106; ((with_reducible refine (H0.out _).mono ?_); rintro e w1 ⟨rfl, rfl⟩)) | (go_at_call 106; ((with_reducible refine (H1.out _).mono ?_); rintro e w1 ⟨rfl, rfl⟩)) | (go_at_call 106; ((with_reducible refine (H2.out _).mono ?_); rintro e w1 ⟨rfl, rfl⟩)) | (go_at_call 106; ((with_reducible refine (H3.out _).mono ?_); rintro e w1 ⟨rfl, rfl⟩)))
      rw [rounds_succ]
      go_wp2_with fail
      rw [rounds_succ]
      go_wp2_with fail
      refine wp_loop_rounds 3 ?_
      rw [rounds_succ]
      go_wp2_with (first | (go_at_call 106; ((with_reducible refine (H0.out _).mono ?_); rintro e w1 ⟨rfl, rfl⟩)) | (go_at_call 106; ((with_reducible refine (H1.out _).mono ?_); rintro e w1 ⟨rfl, rfl⟩)) | (go_at_call 106; ((with_reducible refine (H2.out _).mono ?_); rintro e w1 ⟨rfl, rfl⟩)) | (go_at_call 106; ((with_reducible refine (H3.out _).mono ?_); rintro e w1 ⟨rfl, rfl⟩)))
      rw [rounds_succ]
      go_wp2_with (first | (go_at_call 106; ((with_reducible refine (H0.out _).mono ?_); rintro e w1 ⟨rfl, rfl⟩)) | (go_at_call 106; ((with_reducible refine (H1.out _).mono ?_); rintro e w1 ⟨rfl, rfl⟩)) | (go_at_call 106; ((with_reducible refine (H2.out _).mono ?_); rintro e w1 ⟨rfl, rfl⟩)) | (go_at_call 106; ((with_reducible refine (H3.out _).mono ?_); rintro e w1 ⟨rfl, rfl⟩)))
      rw [rounds_succ]
      go_wp2_with fail
      rw [rounds_succ]
      go_wp2_with fail
      have q0 : ∀ z : Held (fun y => Set3 w A B R C a b rr y), z.w.cell? ⟨C, 0, none⟩ = some _ := fun z => z.h.2.1
      have q1 : ∀ z : Held (fun y => Set3 w A B R C a b rr y), z.w.cell? ⟨C, 1, none⟩ = some _ := fun z => z.h.2.2.1
      have q2 : ∀ z : Held (fun y => Set3 w A B R C a b rr y), z.w.cell? ⟨C, 2, none⟩ = some _ := fun z => z.h.2.2.2.1
      have q3 : ∀ z : Held (fun y => Set3 w A B R C a b rr y), z.w.cell? ⟨C, 3, none⟩ = some _ := fun z => z.h.2.2.2.2.1
      refine wp_region_lex_tail (fun y => Set3 w A B R C a b rr y) 7 (by kernel_rfl) (by kernel_rfl) (S3.grown (Grown.drew (Grown.refl _))) (fun hNon => ?_)
      simp only [List.take_succ_cons, List.take_zero, List.drop_succ_cons, List.drop_zero]
      repeat (go_big_quiet_step ((first | (go_at_call 102; exact held_set3 _ (sp_sends _ _ _ _)) | (go_at_call 100; exact held_set3 _ (sp_common _ _ _ _ _ _ _ _ _)) | (go_at_call 97; exact held_set3 _ (sp_settled _ _ _ _ _)))))
      refine wpQuiet_nil ?_
      intro w5 S5
      clear hNon q0 q1 q2 q3 a2 a3 b2 b3 S3
      have S := S5.1
      obtain ⟨a0, a1, a2, a3, b0, b1, b2, b3, r0, r1, r2, r3, f0, f1, f2, f3, hA, hB, hR, gr, lo⟩ := id S
      clear gr S5
      go_wp2
      refine bodyPost_ret (v := .agg #[.int .u64 (N (settledS (commonS rr (sendsS (smin (smin (smin (smin maxW (smulP a.slo b.slo)) (smulP a.slo b.shi)) (smulP a.shi b.slo)) (smulP a.shi b.shi)) (smax (smax (smax (smax minW (smulP a.slo b.slo)) (smulP a.slo b.shi)) (smulP a.shi b.slo)) (smulP a.shi b.shi)) false))).lo), .int .u64 (N (settledS (commonS rr (sendsS (smin (smin (smin (smin maxW (smulP a.slo b.slo)) (smulP a.slo b.shi)) (smulP a.shi b.slo)) (smulP a.shi b.shi)) (smax (smax (smax (smax minW (smulP a.slo b.slo)) (smulP a.slo b.shi)) (smulP a.shi b.slo)) (smulP a.shi b.shi)) false))).hi), .int .i64 (Z (settledS (commonS rr (sendsS (smin (smin (smin (smin maxW (smulP a.slo b.slo)) (smulP a.slo b.shi)) (smulP a.shi b.slo)) (smulP a.shi b.shi)) (smax (smax (smax (smax minW (smulP a.slo b.slo)) (smulP a.slo b.shi)) (smulP a.shi b.slo)) (smulP a.shi b.shi)) false))).slo), .int .i64 (Z (settledS (commonS rr (sendsS (smin (smin (smin (smin maxW (smulP a.slo b.slo)) (smulP a.slo b.shi)) (smulP a.shi b.slo)) (smulP a.shi b.shi)) (smax (smax (smax (smax minW (smulP a.slo b.slo)) (smulP a.slo b.shi)) (smulP a.shi b.slo)) (smulP a.shi b.shi)) false))).shi)]) (by simp [results, Tryz.results60, go_sem, r0, r1, r2, r3]) rfl ⟨by rw [HE.out], ((((S.gr.setCell (a := ⟨R, 0, none⟩) S.lo _).setCell (a := ⟨R, 1, none⟩) S.lo _).setCell (a := ⟨R, 2, none⟩) S.lo _).setCell (a := ⟨R, 3, none⟩) S.lo _)⟩
    have HE : Hid (mulR a b = settledS (commonS rr (sendsS (smin (smin (smin (smin maxW (smulP a.slo b.slo)) (smulP a.slo b.shi)) (smulP a.shi b.slo)) (smulP a.shi b.shi)) (smax (smax (smax (smax minW (smulP a.slo b.slo)) (smulP a.slo b.shi)) (smulP a.shi b.slo)) (smulP a.shi b.shi)) (smulK a.shi b.shi)))) := Lib.hid (by unfold mulR mK mLo mHi; rw [HRR.out, y0, y1, y2]; simp)
    have H0 : Hid (∀ w, Calls Tryz.prog 106 #[.int .i64 (Z a.slo), .int .i64 (Z b.slo)] w fun e w' => e = .returned (.tuple #[.int .i64 (Z (smulP a.slo b.slo)), .bool (true)]) ∧ w' = w) := Lib.hid (fun w => y0 ▸ sp_smulX a.slo b.slo w)
    have H1 : Hid (∀ w, Calls Tryz.prog 106 #[.int .i64 (Z a.slo), .int .i64 (Z b.shi)] w fun e w' => e = .returned (.tuple #[.int .i64 (Z (smulP a.slo b.shi)), .bool (true)]) ∧ w' = w) := Lib.hid (fun w => y1 ▸ sp_smulX a.slo b.shi w)
    have H2 : Hid (∀ w, Calls Tryz.prog 106 #[.int .i64 (Z a.shi), .int .i64 (Z b.slo)] w fun e w' => e = .returned (.tuple #[.int .i64 (Z (smulP a.shi b.slo)), .bool (true)]) ∧ w' = w) := Lib.hid (fun w => y2 ▸ sp_smulX a.shi b.slo w)
    have H3 : Hid (∀ w, Calls Tryz.prog 106 #[.int .i64 (Z a.shi), .int .i64 (Z b.shi)] w fun e w' => e = .returned (.tuple #[.int .i64 (Z (smulP a.shi b.shi)), .bool (smulK a.shi b.shi)]) ∧ w' = w) := Lib.hid (fun w => sp_smulX a.shi b.shi w)
    clear y0 y1 y2
    go_wp2_with fail
    refine wp_loop_rounds 3 ?_
    rw [rounds_succ]
    go_wp2_with fail
    refine wp_loop_rounds 3 ?_
    rw [rounds_succ]
    go_wp2_with (first | (go_at_call 106; ((with_reducible refine (H0.out _).mono ?_); rintro e w1 ⟨rfl, rfl⟩)) | (go_at_call 106; ((with_reducible refine (H1.out _).mono ?_); rintro e w1 ⟨rfl, rfl⟩)) | (go_at_call 106; ((with_reducible refine (H2.out _).mono ?_); rintro e w1 ⟨rfl, rfl⟩)) | (go_at_call 106; ((with_reducible refine (H3.out _).mono ?_); rintro e w1 ⟨rfl, rfl⟩)))
    rw [rounds_succ]
    go_wp2_with (first | (go_at_call 106; ((with_reducible refine (H0.out _).mono ?_); rintro e w1 ⟨rfl, rfl⟩)) | (go_at_call 106; ((with_reducible refine (H1.out _).mono ?_); rintro e w1 ⟨rfl, rfl⟩)) | (go_at_call 106; ((with_reducible refine (H2.out _).mono ?_); rintro e w1 ⟨rfl, rfl⟩)) | (go_at_call 106; ((with_reducible refine (H3.out _).mono ?_); rintro e w1 ⟨rfl, rfl⟩)))
    rw [rounds_succ]
    go_wp2_with fail
    rw [rounds_succ]
    go_wp2_with fail
    refine wp_loop_rounds 3 ?_
    rw [rounds_succ]
    go_wp2_with (first | (go_at_call 106; ((with_reducible refine (H0.out _).mono ?_); rintro e w1 ⟨rfl, rfl⟩)) | (go_at_call 106; ((with_reducible refine (H1.out _).mono ?_); rintro e w1 ⟨rfl, rfl⟩)) | (go_at_call 106; ((with_reducible refine (H2.out _).mono ?_); rintro e w1 ⟨rfl, rfl⟩)) | (go_at_call 106; ((with_reducible refine (H3.out _).mono ?_); rintro e w1 ⟨rfl, rfl⟩)))
    rw [rounds_succ]
    go_wp2_with (first | (go_at_call 106; ((with_reducible refine (H0.out _).mono ?_); rintro e w1 ⟨rfl, rfl⟩)) | (go_at_call 106; ((with_reducible refine (H1.out _).mono ?_); rintro e w1 ⟨rfl, rfl⟩)) | (go_at_call 106; ((with_reducible refine (H2.out _).mono ?_); rintro e w1 ⟨rfl, rfl⟩)) | (go_at_call 106; ((with_reducible refine (H3.out _).mono ?_); rintro e w1 ⟨rfl, rfl⟩)))
    rw [rounds_succ]
    go_wp2_with fail
    rw [rounds_succ]
    go_wp2_with fail
    have q0 : ∀ z : Held (fun y => Set3 w A B R C a b rr y), z.w.cell? ⟨C, 0, none⟩ = some _ := fun z => z.h.2.1
    have q1 : ∀ z : Held (fun y => Set3 w A B R C a b rr y), z.w.cell? ⟨C, 1, none⟩ = some _ := fun z => z.h.2.2.1
    have q2 : ∀ z : Held (fun y => Set3 w A B R C a b rr y), z.w.cell? ⟨C, 2, none⟩ = some _ := fun z => z.h.2.2.2.1
    have q3 : ∀ z : Held (fun y => Set3 w A B R C a b rr y), z.w.cell? ⟨C, 3, none⟩ = some _ := fun z => z.h.2.2.2.2.1
    refine wp_region_lex_tail (fun y => Set3 w A B R C a b rr y) 7 (by kernel_rfl) (by kernel_rfl) (S3.grown (Grown.drew (Grown.refl _))) (fun hNon => ?_)
    simp only [List.take_succ_cons, List.take_zero, List.drop_succ_cons, List.drop_zero]
    repeat (go_big_quiet_step ((first | (go_at_call 102; exact held_set3 _ (sp_sends _ _ _ _)) | (go_at_call 100; exact held_set3 _ (sp_common _ _ _ _ _ _ _ _ _)) | (go_at_call 97; exact held_set3 _ (sp_settled _ _ _ _ _)))))
    refine wpQuiet_nil ?_
    intro w5 S5
    clear hNon q0 q1 q2 q3 a2 a3 b2 b3 S3
    have S := S5.1
    obtain ⟨a0, a1, a2, a3, b0, b1, b2, b3, r0, r1, r2, r3, f0, f1, f2, f3, hA, hB, hR, gr, lo⟩ := id S
    clear gr S5
    go_wp2
    refine bodyPost_ret (v := .agg #[.int .u64 (N (settledS (commonS rr (sendsS (smin (smin (smin (smin maxW (smulP a.slo b.slo)) (smulP a.slo b.shi)) (smulP a.shi b.slo)) (smulP a.shi b.shi)) (smax (smax (smax (smax minW (smulP a.slo b.slo)) (smulP a.slo b.shi)) (smulP a.shi b.slo)) (smulP a.shi b.shi)) (smulK a.shi b.shi)))).lo), .int .u64 (N (settledS (commonS rr (sendsS (smin (smin (smin (smin maxW (smulP a.slo b.slo)) (smulP a.slo b.shi)) (smulP a.shi b.slo)) (smulP a.shi b.shi)) (smax (smax (smax (smax minW (smulP a.slo b.slo)) (smulP a.slo b.shi)) (smulP a.shi b.slo)) (smulP a.shi b.shi)) (smulK a.shi b.shi)))).hi), .int .i64 (Z (settledS (commonS rr (sendsS (smin (smin (smin (smin maxW (smulP a.slo b.slo)) (smulP a.slo b.shi)) (smulP a.shi b.slo)) (smulP a.shi b.shi)) (smax (smax (smax (smax minW (smulP a.slo b.slo)) (smulP a.slo b.shi)) (smulP a.shi b.slo)) (smulP a.shi b.shi)) (smulK a.shi b.shi)))).slo), .int .i64 (Z (settledS (commonS rr (sendsS (smin (smin (smin (smin maxW (smulP a.slo b.slo)) (smulP a.slo b.shi)) (smulP a.shi b.slo)) (smulP a.shi b.shi)) (smax (smax (smax (smax minW (smulP a.slo b.slo)) (smulP a.slo b.shi)) (smulP a.shi b.slo)) (smulP a.shi b.shi)) (smulK a.shi b.shi)))).shi)]) (by simp [results, Tryz.results60, go_sem, r0, r1, r2, r3]) rfl ⟨by rw [HE.out], ((((S.gr.setCell (a := ⟨R, 0, none⟩) S.lo _).setCell (a := ⟨R, 1, none⟩) S.lo _).setCell (a := ⟨R, 2, none⟩) S.lo _).setCell (a := ⟨R, 3, none⟩) S.lo _)⟩
end Go.Proofs.YtchjneodjaakdaaGreat
end
section
namespace Go.Proofs.YtchjneodjaakdaaGreat

def lowS (v : BitVec 64) (b : Int) : BitVec 64 := if b ≤ 0 then 0 else if 64 ≤ b then v else v &&& (1#64 <<< b.toNat - 1#64)
def signS (v : BitVec 64) (b : Int) : BitVec 64 := if b ≤ 0 then 0 else if 64 ≤ b then v else (v <<< (64 - b).toNat).sshiftRight (64 - b).toNat

/-- The number of the first k of some bytes. -/
def numF (f : Nat → BitVec 8) : Nat → BitVec 64
  | 0 => 0#64
  | k + 1 => numF f k ||| ((f k).setWidth 64 <<< (8 * k))
def byteAt (s : ByteArray) (i : Nat) : BitVec 8 := (s.data.toList.getD i 0).toBitVec
def numS (s : ByteArray) : BitVec 64 := numF (byteAt s) (min s.size 8)
theorem numF_succ (f : Nat → BitVec 8) (k : Nat) : numF f (k + 1) = numF f k ||| ((f k).setWidth 64 <<< (8 * k)) := rfl
theorem byteAt_get (s : ByteArray) (k : Nat) (h : k < s.size) : BitVec.ofNat 64 s[k].toNat = (byteAt s k).setWidth 64 := by
  unfold byteAt
  have h' : k < s.data.toList.length := by simpa using h
  rw [List.getD_eq_getElem?_getD, List.getElem?_eq_getElem h']
  rw [← BitVec.ofNat_toNat]; rfl
theorem numS_eq (s : ByteArray) (k : Nat) (h : k = min s.size 8) : numF (byteAt s) k = numS s := by rw [h]; rfl

theorem numF_bit (f : Nat → BitVec 8) (k j : Nat) : (numF f k).getLsbD j = (decide (j < 64) && decide (j < 8 * k) && (f (j / 8)).getLsbD (j % 8)) := by
  induction k with
  | zero => simp [numF]
  | succ k ih =>
    rw [numF_succ, BitVec.getLsbD_or, ih, BitVec.getLsbD_shiftLeft, BitVec.getLsbD_setWidth]
    by_cases h64 : j < 64
    · by_cases h1 : j < 8 * k
      · have h2 : j < 8 * (k + 1) := by omega
        simp [h64, h1, h2]
      · by_cases h2 : j < 8 * (k + 1)
        · have e1 : j / 8 = k := by omega
          have e2 : j - 8 * k = j % 8 := by omega
          have e3 : j % 8 < 64 := by omega
          simp [h64, h1, h2, e1, e2, e3]
        · have e2 : 8 ≤ j - 8 * k := by omega
          simp [h64, h1, h2, BitVec.getLsbD_of_ge _ _ e2]
    · simp [h64]

/-- The number of m bytes from the place 'lo' on, from the highest one. -/
def numH (f : Nat → BitVec 8) (lo : Nat) : Nat → BitVec 64
  | 0 => 0#64
  | m + 1 => numH f (lo + 1) m <<< 8 ||| (f lo).setWidth 64
theorem numH_bit (f : Nat → BitVec 8) (m : Nat) : ∀ lo j, (numH f lo m).getLsbD j = (decide (j < 64) && decide (j < 8 * m) && (f (lo + j / 8)).getLsbD (j % 8)) := by
  induction m with
  | zero => intro lo j; simp [numH]
  | succ m ih =>
    intro lo j
    rw [numH, BitVec.getLsbD_or, BitVec.getLsbD_shiftLeft, ih, BitVec.getLsbD_setWidth]
    by_cases h64 : j < 64
    · by_cases h8 : j < 8
      · have e1 : j / 8 = 0 := by omega
        have e2 : j % 8 = j := by omega
        have e3 : j < 8 * (m + 1) := by omega
        simp [h64, h8, e1, e2, e3]
      · have e1 : lo + 1 + (j - 8) / 8 = lo + j / 8 := by omega
        have e2 : (j - 8) % 8 = j % 8 := by omega
        have e4 : j - 8 < 64 := by omega
        have e5 : (f lo).getLsbD j = false := BitVec.getLsbD_of_ge _ _ (by omega)
        by_cases h3 : j < 8 * (m + 1)
        · have e3 : j - 8 < 8 * m := by omega
          simp [h64, h8, e1, e2, e3, e4, e5, h3]
        · have e3 : ¬ j - 8 < 8 * m := by omega
          simp [h64, h8, e3, e5, h3]
    · simp [h64]
theorem numF_numH (f : Nat → BitVec 8) (m : Nat) : numH f 0 m = numF f m := by
  apply BitVec.eq_of_getLsbD_eq
  intro i hi
  rw [numF_bit, numH_bit, Nat.zero_add]
theorem mul256_add (v : BitVec 64) (c : BitVec 8) : v * 256#64 + c.setWidth 64 = v <<< 8 ||| c.setWidth 64 := by
  have e : v * 256#64 = v <<< 8 := by
    rw [BitVec.shiftLeft_eq_mul_twoPow]; congr 1
  rw [e]
  apply BitVec.add_eq_or_of_and_eq_zero
  apply BitVec.eq_of_getLsbD_eq
  intro i hi
  simp only [BitVec.getLsbD_and, BitVec.getLsbD_shiftLeft, BitVec.getLsbD_setWidth, BitVec.getLsbD_zero]
  by_cases h : i < 8
  · simp [h]
  · simp [BitVec.getLsbD_of_ge c i (by omega)]
theorem numH_step (f : Nat → BitVec 8) (lo m : Nat) : numH f (lo + 1) m * 256#64 + (f lo).setWidth 64 = numH f lo (m + 1) := by
  rw [mul256_add]; rfl

def byteOf (v : BitVec 64) (i : Nat) : BitVec 8 := (v >>> (8 * i)).setWidth 8
def bytesN (v : BitVec 64) (n : Nat) : ByteArray := ⟨((List.range n).map fun i => UInt8.ofBitVec (byteOf v i)).toArray⟩
theorem bytesN_size (v : BitVec 64) (n : Nat) : (bytesN v n).size = n := by
  show (bytesN v n).data.size = n
  simp [bytesN]
theorem bytesN_list (v : BitVec 64) (n : Nat) : (bytesN v n).data.toList = (List.range n).map fun i => UInt8.ofBitVec (byteOf v i) := by simp [bytesN]
theorem bytesN_get (v : BitVec 64) (n i : Nat) (h : i < (bytesN v n).size) : ((bytesN v n)[i].toNat : Int) = N (byteOf v i) := by
  have e : (bytesN v n)[i] = (bytesN v n).data[i]'(by simpa using h) := rfl
  rw [e]
  simp [bytesN, N]
theorem byteAt_bytesN (v : BitVec 64) (n i : Nat) (h : i < n) : byteAt (bytesN v n) i = byteOf v i := by
  unfold byteAt
  rw [bytesN_list, List.getD_eq_getElem?_getD]
  simp [h]

/-- nums.Bytes: the text of a number's n lowest bytes. -/
def bytesS (v : BitVec 64) (n : Int) : ByteArray := if n < 0 ∨ 8 < n then ⟨#[]⟩ else bytesN v n.toNat

theorem low_mod (v : BitVec 64) (b : Nat) : v % (1#64 <<< b) = v &&& (1#64 <<< b - 1#64) ∨ 64 ≤ b := by
  by_cases h : b < 64
  · left
    apply BitVec.eq_of_toNat_eq
    have hp : 2 ^ b < 2 ^ 64 := Nat.pow_lt_pow_right (by decide) h
    have e1 : (1#64 <<< b).toNat = 2 ^ b := by
      rw [BitVec.toNat_shiftLeft]; simp [Nat.shiftLeft_eq]; exact hp
    have hp0 : 0 < 2 ^ b := Nat.two_pow_pos b
    have e2 : (1#64 <<< b - 1#64).toNat = 2 ^ b - 1 := by
      rw [BitVec.toNat_sub, e1]; simp; omega
    rw [BitVec.toNat_umod, BitVec.toNat_and, e1, e2, Nat.and_two_pow_sub_one_eq_mod]
  · right; omega
theorem low_of_mod (v : BitVec 64) (b : Int) (h0 : 0 < b) (h1 : b < 64) : v % (1#64 <<< b.toNat) = lowS v b := by
  unfold lowS
  rw [if_neg (by omega), if_neg (by omega)]
  exact (low_mod v b.toNat).resolve_right (by omega)
theorem low_toNat (v : BitVec 64) (b : Int) (h0 : 0 < b) (h1 : b < 64) : (lowS v b).toNat = v.toNat % 2 ^ b.toNat := by
  rw [← low_of_mod v b h0 h1, BitVec.toNat_umod, BitVec.toNat_shiftLeft]
  have hp : 2 ^ b.toNat < 2 ^ 64 := Nat.pow_lt_pow_right (by decide) (by omega)
  simp only [BitVec.toNat_ofNat, Nat.shiftLeft_eq]
  rw [Nat.mod_eq_of_lt (a := 1) (by decide), Nat.one_mul, Nat.mod_eq_of_lt hp]
theorem low_bit (v : BitVec 64) (b : Int) (i : Nat) : (lowS v b).getLsbD i = (decide ((i : Int) < b) && v.getLsbD i) := by
  by_cases h0 : b ≤ 0
  · unfold lowS; rw [if_pos h0]
    have : ¬ (i : Int) < b := by omega
    simp [this]
  · by_cases h1 : 64 ≤ b
    · unfold lowS; rw [if_neg h0, if_pos h1]
      by_cases hi : i < 64
      · have : (i : Int) < b := by omega
        simp [this]
      · simp [BitVec.getLsbD_of_ge v i (by omega)]
    · have e := low_toNat v b (by omega) (by omega)
      rw [BitVec.getLsbD, e, Nat.testBit_mod_two_pow]
      congr 1
      simp only [decide_eq_decide]; omega
theorem sign_bit (v : BitVec 64) (b : Int) (i : Nat) (hb : 0 < b) (hi : i < 64) : (signS v b).getLsbD i = if (i : Int) < b then v.getLsbD i else v.getLsbD (b.toNat - 1) := by
  unfold signS
  rw [if_neg (by omega)]
  by_cases h1 : 64 ≤ b
  · rw [if_pos h1, if_pos (by omega)]
  · rw [if_neg h1]
    obtain ⟨n, rfl⟩ := Int.eq_ofNat_of_zero_le (show 0 ≤ b by omega)
    generalize hk' : (64 - (n : Int)).toNat = k
    have hk : k + n = 64 := by omega
    clear hk'
    rw [Int.toNat_natCast, BitVec.getLsbD_sshiftRight]
    by_cases h2 : i < n
    · have h3 : k + i < 64 := by omega
      have h4 : ¬ 64 ≤ i := by omega
      have h5 : (i : Int) < n := by omega
      rw [if_pos h3, if_pos h5, BitVec.getLsbD_shiftLeft]
      simp only [h3, h4, show ¬ k + i < k from by omega, Nat.add_sub_cancel_left, decide_false, decide_true, Bool.not_false, Bool.true_and]
    · have h3 : ¬ k + i < 64 := by omega
      have h4 : ¬ 64 ≤ i := by omega
      have h5 : ¬ (i : Int) < n := by omega
      have h6 : ¬ 63 < k := by omega
      have e : 63 - k = n - 1 := by omega
      rw [if_neg h3, if_neg h5, BitVec.msb_eq_getLsbD_last, BitVec.getLsbD_shiftLeft]
      simp only [h4, h6, decide_false, decide_true, Bool.not_false, Bool.true_and, show 64 - 1 < 64 from by decide, show 64 - 1 - k = n - 1 from by omega]
theorem low_lt_iff (v : BitVec 64) (b : Int) (h0 : 0 < b) (h1 : b < 64) : (N (lowS v b) < N (1#64 <<< (b - 1).toNat)) ↔ v.getLsbD (b.toNat - 1) = false := by
  obtain ⟨n, rfl⟩ : ∃ n : Nat, b = (n : Int) + 1 := ⟨(b - 1).toNat, by omega⟩
  have hp : 2 ^ n < 2 ^ 64 := Nat.pow_lt_pow_right (by decide) (by omega)
  have e1 : (1#64 <<< ((n : Int) + 1 - 1).toNat).toNat = 2 ^ n := by
    rw [show ((n : Int) + 1 - 1).toNat = n by omega, BitVec.toNat_shiftLeft]; simp [Nat.shiftLeft_eq]; exact hp
  have e2 := low_toNat v ((n : Int) + 1) h0 h1
  rw [show ((n : Int) + 1).toNat = n + 1 by omega] at e2 ⊢
  unfold N
  rw [e1, e2, Nat.add_sub_cancel, BitVec.getLsbD, Nat.mod_pow_succ]
  have h3 : v.toNat % 2 ^ n < 2 ^ n := Nat.mod_lt _ (Nat.two_pow_pos n)
  rw [Nat.testBit_eq_decide_div_mod_eq]
  have h4 : v.toNat / 2 ^ n % 2 = 0 ∨ v.toNat / 2 ^ n % 2 = 1 := by omega
  rcases h4 with h4 | h4
  · simp [h4]; exact_mod_cast h3
  · simp [h4]; omega
theorem sign_of_low (v : BitVec 64) (b : Int) (h0 : 0 < b) (h1 : b < 64) :
    signS v b = if v.getLsbD (b.toNat - 1) = false then lowS v b else lowS v b - 1#64 <<< b.toNat := by
  have hlow : ∀ i, (lowS v b).getLsbD i = (decide ((i : Int) < b) && v.getLsbD i) := low_bit v b
  split
  · rename_i h
    apply BitVec.eq_of_getLsbD_eq
    intro i hi
    rw [sign_bit v b i h0 hi, hlow i]
    by_cases hib : (i : Int) < b <;> simp only [hib, if_true, if_false, h, decide_true, decide_false, Bool.true_and, Bool.false_and]
  · rename_i h
    have h' : v.getLsbD (b.toNat - 1) = true := by simpa using h
    obtain ⟨n, rfl⟩ := Int.eq_ofNat_of_zero_le (show 0 ≤ b by omega)
    rw [Int.toNat_natCast] at h' ⊢
    have hn : n < 64 := by omega
    have hmask : ∀ i, i < 64 → (~~~(1#64 <<< n - 1#64)).getLsbD i = decide (n ≤ i) := by
      intro i hi
      have hp : 2 ^ n < 2 ^ 64 := Nat.pow_lt_pow_right (by decide) hn
      have e1 : (1#64 <<< n).toNat = 2 ^ n := by
        rw [BitVec.toNat_shiftLeft]; simp [Nat.shiftLeft_eq]; exact hp
      have hp0 : 0 < 2 ^ n := Nat.two_pow_pos n
      have e2 : (1#64 <<< n - 1#64).toNat = 2 ^ n - 1 := by
        rw [BitVec.toNat_sub, e1]; simp; omega
      rw [BitVec.getLsbD_not, BitVec.getLsbD, e2, Nat.testBit_two_pow_sub_one]
      by_cases hni : n ≤ i
      · simp [hi, hni]
      · simp [hi, hni]; omega
    have hneg : -(1#64 <<< n) = ~~~(1#64 <<< n - 1#64) := by
      rw [BitVec.neg_eq_not_add, BitVec.not_sub_one_eq_not_add_one]
    rw [BitVec.sub_eq_add_neg, hneg, BitVec.add_eq_or_of_and_eq_zero]
    · apply BitVec.eq_of_getLsbD_eq
      intro i hi
      rw [sign_bit v _ i h0 hi, BitVec.getLsbD_or, hlow i, hmask i hi, Int.toNat_natCast]
      by_cases hib : i < n
      · have h2 : ¬ n ≤ i := by omega
        simp [hib, h2]
      · have h2 : n ≤ i := by omega
        have h3 : ¬ (i : Int) < n := by omega
        simp [h2, h3, h']
    · apply BitVec.eq_of_getLsbD_eq
      intro i hi
      rw [BitVec.getLsbD_and, hlow i, hmask i hi]
      by_cases hib : i < n
      · have h2 : ¬ n ≤ i := by omega
        simp [h2]
      · simp [hib]
theorem shl1_ne (b : Int) (h0 : 0 ≤ b) (h1 : b < 64) : ¬ N (1#64 <<< b.toNat) = 0 := by
  have hp : 2 ^ b.toNat < 2 ^ 64 := Nat.pow_lt_pow_right (by decide) (by omega)
  have hp0 : 0 < 2 ^ b.toNat := Nat.two_pow_pos _
  unfold N
  rw [BitVec.toNat_shiftLeft]
  simp only [BitVec.toNat_ofNat, Nat.shiftLeft_eq]
  rw [Nat.mod_eq_of_lt (a := 1) (by decide), Nat.one_mul, Nat.mod_eq_of_lt hp]
  omega
/-- What the document's Sign goes by: whether no sign is told on. -/
def plainB (v : BitVec 64) (b : Int) : Bool := decide (N (lowS v b) < N (1#64 <<< (b - 1).toNat))
theorem sign_le0 (v : BitVec 64) (b : Int) (h : b ≤ 0) : lowS v b = signS v b := by unfold lowS signS; rw [if_pos h, if_pos h]
theorem sign_ge64 (v : BitVec 64) (b : Int) (h : 64 ≤ b) : lowS v b = signS v b := by unfold lowS signS; rw [if_neg (show ¬ b ≤ 0 by omega), if_pos h, if_neg (show ¬ b ≤ 0 by omega), if_pos h]
theorem sign_plain (v : BitVec 64) (b : Int) (h0 : 0 < b) (h1 : b < 64) (h : N (lowS v b) < N (1#64 <<< (b.toNat - 1))) : lowS v b = signS v b := by
  rw [show b.toNat - 1 = (b - 1).toNat by omega] at h
  rw [sign_of_low v b h0 h1, if_pos ((low_lt_iff v b h0 h1).1 h)]
theorem sign_minus (v : BitVec 64) (b : Int) (h0 : 0 < b) (h1 : b < 64) (h : ¬ N (lowS v b) < N (1#64 <<< (b.toNat - 1))) : lowS v b - 1#64 <<< b.toNat = signS v b := by
  rw [show b.toNat - 1 = (b - 1).toNat by omega] at h
  rw [sign_of_low v b h0 h1, if_neg (fun h' => h ((low_lt_iff v b h0 h1).2 h'))]
theorem shl_succ (k : Nat) : 1#64 <<< k * 2#64 = 1#64 <<< (k + 1) := by
  apply BitVec.eq_of_toNat_eq
  simp [Nat.shiftLeft_eq, Nat.pow_succ]
end Go.Proofs.YtchjneodjaakdaaGreat
end
section
namespace Go.Proofs.YtchjneodjaakdaaGreat

/-- What arithmetic comes to, of numbers of w bits; x: the operation. -/
def aluW {w : Nat} (x : Int) (a b : BitVec w) : BitVec w :=
  if x = 0 then a + b else if x = 16 then a - b else if x = 32 then a * b else if x = 48 then a / b else if x = 144 then a % b
  else if x = 64 then a ||| b else if x = 80 then a &&& b else if x = 160 then a ^^^ b else if x = 96 then a <<< (b.toNat % w)
  else if x = 112 then a >>> (b.toNat % w) else if x = 192 then a.sshiftRight (b.toNat % w) else if x = 128 then -a else if x = 176 then b else 0#w
def aluS (x : Int) (wide : Bool) (a b : BitVec 64) : BitVec 64 :=
  if wide then aluW x a b else (aluW x (a.setWidth 32) (b.setWidth 32)).setWidth 64

/-- No operation at all. -/
def NoOp (x : Int) : Prop := ¬ x = 0 ∧ ¬ x = 16 ∧ ¬ x = 32 ∧ ¬ x = 48 ∧ ¬ x = 144 ∧ ¬ x = 64 ∧ ¬ x = 80 ∧ ¬ x = 160 ∧ ¬ x = 96 ∧ ¬ x = 112 ∧ ¬ x = 192 ∧ ¬ x = 128 ∧ ¬ x = 176
theorem alu_cases (x : Int) : x = 0 ∨ x = 16 ∨ x = 32 ∨ x = 48 ∨ x = 144 ∨ x = 64 ∨ x = 80 ∨ x = 160 ∨ x = 96 ∨ x = 112 ∨ x = 192 ∨ x = 128 ∨ x = 176 ∨ NoOp x := by
  unfold NoOp; omega
theorem aluW_none {w : Nat} {x : Int} (h : NoOp x) (a b : BitVec w) : aluW x a b = 0#w := by
  obtain ⟨h1, h2, h3, h4, h5, h6, h7, h8, h9, h10, h11, h12, h13⟩ := h
  unfold aluW
  rw [if_neg h1, if_neg h2, if_neg h3, if_neg h4, if_neg h5, if_neg h6, if_neg h7, if_neg h8, if_neg h9, if_neg h10, if_neg h11, if_neg h12, if_neg h13]
/-- The same as the tests of a switch have it. -/
theorem noOp_beq {x : Int} (h : NoOp x) : (x == 0) = false ∧ (x == 16) = false ∧ (x == 32) = false ∧ (x == 48) = false ∧ (x == 144) = false ∧ (x == 64) = false ∧ (x == 80) = false ∧ (x == 160) = false ∧ (x == 96) = false ∧ (x == 112) = false ∧ (x == 192) = false ∧ (x == 128) = false ∧ (x == 176) = false := by
  obtain ⟨h1, h2, h3, h4, h5, h6, h7, h8, h9, h10, h11, h12, h13⟩ := h
  refine ⟨?_, ?_, ?_, ?_, ?_, ?_, ?_, ?_, ?_, ?_, ?_, ?_, ?_⟩ <;> (rw [beq_eq_false_iff_ne]; assumption)

theorem tmod64 (b : BitVec 64) : (N b).tmod 64 = ((b.toNat % 64 : Nat) : Int) := by
  unfold N; rw [Int.tmod_eq_emod_of_nonneg (by omega)]; omega
theorem tmod32 (b : BitVec 32) : (N b).tmod 32 = ((b.toNat % 32 : Nat) : Int) := by
  unfold N; rw [Int.tmod_eq_emod_of_nonneg (by omega)]; omega
theorem sign32 (a : BitVec 32) (k : Nat) : ((signS (a.setWidth 64) 32).sshiftRight k).setWidth 32 = a.sshiftRight k := by
  apply BitVec.eq_of_getLsbD_eq
  intro i hi
  rw [BitVec.getLsbD_setWidth, BitVec.getLsbD_sshiftRight, BitVec.getLsbD_sshiftRight]
  have hs : ∀ j, j < 64 → (signS (a.setWidth 64) 32).getLsbD j = if j < 32 then a.getLsbD j else a.getLsbD 31 := by
    intro j hj
    rw [sign_bit _ 32 j (by decide) hj, BitVec.getLsbD_setWidth, BitVec.getLsbD_setWidth]
    by_cases h : j < 32
    · have h' : (j : Int) < 32 := by omega
      simp only [h, h', if_true, hj, decide_true, Bool.true_and]
    · have h' : ¬ (j : Int) < 32 := by omega
      simp only [h, h', if_false]
      rfl
  rw [BitVec.msb_eq_getLsbD_last, BitVec.msb_eq_getLsbD_last, hs (64 - 1) (by decide)]
  have hi64 : ¬ 64 ≤ i := by omega
  have hi32 : ¬ 32 ≤ i := by omega
  simp only [hi, hi64, hi32, decide_true, decide_false, Bool.not_false, Bool.true_and]
  by_cases h1 : k + i < 64
  · rw [if_pos h1, hs _ h1]
  · rw [if_neg h1, if_neg (show ¬ k + i < 32 by omega)]
    rfl
theorem sext32 (v : BitVec 64) : v.signExtend 32 = v.setWidth 32 := by
  apply BitVec.eq_of_getLsbD_eq
  intro i hi
  rw [BitVec.getLsbD_signExtend, BitVec.getLsbD_setWidth]
  simp only [hi, decide_true, Bool.true_and, show i < 64 by omega, if_true]
theorem low_setWidth (v : BitVec 64) : (lowS v 32).setWidth 32 = v.setWidth 32 := by
  apply BitVec.eq_of_getLsbD_eq
  intro i hi
  rw [BitVec.getLsbD_setWidth, BitVec.getLsbD_setWidth, low_bit]
  have h' : (i : Int) < 32 := by omega
  simp only [h', decide_true, Bool.true_and]
theorem low64 (v : BitVec 64) : lowS v 64 = v := by unfold lowS; rw [if_neg (by decide), if_pos (by decide)]
theorem sign64 (v : BitVec 64) : signS v 64 = v := by unfold signS; rw [if_neg (by decide), if_pos (by decide)]
theorem low32 (v : BitVec 64) : lowS v 32 = (v.setWidth 32).setWidth 64 := by
  apply BitVec.eq_of_toNat_eq
  rw [low_toNat v 32 (by decide) (by decide)]
  simp
  omega
end Go.Proofs.YtchjneodjaakdaaGreat
end
section
namespace Go.Proofs.YtchjneodjaakdaaGreat
open Go.RowKit

attribute [local go_sem] u64_wrap u8_wrap BitVec.ofInt_add BitVec.ofInt_mul ofInt_sub' ofInt_N ofInt_Nw ofInt_Z ofInt_pow ofInt_shl wrap64_N mul_shl1 N_shr Z_shr u64_and u64_or N_div8 N_div16 N_div24 N_div32 N_div40 N_div48 N_div56

theorem ret64 {a b : BitVec 64} (h : a = b) : Ending.returned (.int .u64 (N a)) = .returned (.int .u64 (N b)) := by rw [h]
theorem ret0 {b : BitVec 64} (h : 0 = b) : Ending.returned (.int .u64 0) = .returned (.int .u64 (N b)) := by rw [← h]; rfl

set_option maxHeartbeats 400000 in
theorem low_N (v : BitVec 64) (b : Int) (w : World) (h1 : -9223372036854775808 ≤ b) (h2 : b ≤ 9223372036854775807) :
    Calls Tryz.prog 54 #[.int .u64 (N v), .int .i64 b] w fun e w' => e = .returned (.int .u64 (N (lowS v b))) ∧ w = w' := by
  go_enter Tryz.func54, Tryz.ntmps54
  go_wp2
  · go_ret
    exact ⟨ret0 (by unfold lowS; rw [if_pos ‹_›]), rfl⟩
  · go_ret
    exact ⟨ret64 (by unfold lowS; rw [if_neg (by omega), if_pos ‹_›]), rfl⟩
  · go_ret
    exact ⟨ret64 (by unfold lowS; rw [if_neg (by omega), if_neg (by omega)]), rfl⟩

set_option maxHeartbeats 400000 in
theorem sign_N (v : BitVec 64) (b : Int) (w : World) (h1 : -9223372036854775808 ≤ b) (h2 : b ≤ 9223372036854775807) :
    Calls Tryz.prog 77 #[.int .u64 (N v), .int .i64 b] w fun e w' => e = .returned (.int .u64 (N (signS v b))) ∧ w = w' := by
  go_enter Tryz.func77, Tryz.ntmps77
  go_wp2
  · go_ret
    exact ⟨ret0 (by unfold signS; rw [if_pos ‹_›]), rfl⟩
  · go_ret
    exact ⟨ret64 (by unfold signS; rw [if_neg (by omega), if_pos ‹_›]), rfl⟩
  · go_ret
    exact ⟨ret64 (by unfold signS; rw [if_neg (by omega), if_neg (by omega)]), rfl⟩

end Go.Proofs.YtchjneodjaakdaaGreat
end
section
namespace Go.Proofs.YtchjneodjaakdaaGreat
open Go.RowKit

attribute [local go_sem] u64_wrap u32_wrap u8_wrap BitVec.ofInt_add BitVec.ofInt_mul ofInt_sub' BitVec.ofInt_neg ofInt_N ofInt_Nw ofInt_Z ofInt_pow ofInt_shl wrap64_N mul_shl1 N_shr Z_shr u64_and u64_or u64_xor u32_and u32_or u32_xor N_tdiv N_tmod tmod64 tmod32 sign64 sign32 sext32 low_setWidth

theorem ret32 {a b : BitVec 32} (h : a = b) : Ending.returned (.int .u32 (N a)) = .returned (.int .u32 (N b)) := by rw [h]

attribute [local go_sem] N_ofNat
set_option maxHeartbeats 400000 in
theorem quot64 (a b : BitVec 64) (w : World) : Calls Tryz.prog 93 #[.int .u64 (N a), .int .u64 (N b)] w fun e w' => e = .returned (.int .u64 (N (a / b))) ∧ w = w' := by
  by_cases h : N b = 0
  · have hb : b = 0#64 := N_inj (by rw [h]; rfl)
    subst hb
    clear h
    rw [show a / 0#64 = 0#64 by simp]
    go_enter Tryz.func93, Tryz.ntmps93
    go_wp2
    go_ret
    exact ⟨rfl, rfl⟩
  · have h' : (N b == 0) = false := by simpa using h
    go_enter Tryz.func93, Tryz.ntmps93
    go_wp2
    go_ret
    exact ⟨rfl, rfl⟩
set_option maxHeartbeats 400000 in
theorem rest64 (a b : BitVec 64) (w : World) : Calls Tryz.prog 94 #[.int .u64 (N a), .int .u64 (N b)] w fun e w' => e = .returned (.int .u64 (N (a % b))) ∧ w = w' := by
  by_cases h : N b = 0
  · have hb : b = 0#64 := N_inj (by rw [h]; rfl)
    subst hb
    clear h
    rw [show a % 0#64 = a by simp]
    go_enter Tryz.func94, Tryz.ntmps94
    go_wp2
    go_ret
    exact ⟨rfl, rfl⟩
  · have h' : (N b == 0) = false := by simpa using h
    go_enter Tryz.func94, Tryz.ntmps94
    go_wp2
    go_ret
    exact ⟨rfl, rfl⟩
set_option maxHeartbeats 400000 in
theorem quot32 (a b : BitVec 32) (w : World) : Calls Tryz.prog 95 #[.int .u32 (N a), .int .u32 (N b)] w fun e w' => e = .returned (.int .u32 (N (a / b))) ∧ w = w' := by
  by_cases h : N b = 0
  · have hb : b = 0#32 := N_inj (by rw [h]; rfl)
    subst hb
    clear h
    rw [show a / 0#32 = 0#32 by simp]
    go_enter Tryz.func95, Tryz.ntmps95
    go_wp2
    go_ret
    exact ⟨rfl, rfl⟩
  · have h' : (N b == 0) = false := by simpa using h
    go_enter Tryz.func95, Tryz.ntmps95
    go_wp2
    go_ret
    exact ⟨rfl, rfl⟩
set_option maxHeartbeats 400000 in
theorem rest32 (a b : BitVec 32) (w : World) : Calls Tryz.prog 96 #[.int .u32 (N a), .int .u32 (N b)] w fun e w' => e = .returned (.int .u32 (N (a % b))) ∧ w = w' := by
  by_cases h : N b = 0
  · have hb : b = 0#32 := N_inj (by rw [h]; rfl)
    subst hb
    clear h
    rw [show a % 0#32 = a by simp]
    go_enter Tryz.func96, Tryz.ntmps96
    go_wp2
    go_ret
    exact ⟨rfl, rfl⟩
  · have h' : (N b == 0) = false := by simpa using h
    go_enter Tryz.func96, Tryz.ntmps96
    go_wp2
    go_ret
    exact ⟨rfl, rfl⟩

set_option maxRecDepth 100000 in
set_option maxHeartbeats 4000000 in
theorem do64 (x : Int) (a b : BitVec 64) (w : World) : Calls Tryz.prog 52 #[.int .u8 x, .int .u64 (N a), .int .u64 (N b), .int .i64 64] w fun e w' => e = .returned (.int .u64 (N (aluW x a b))) ∧ Grown w w' := by
  have hm := tmod64 b
  obtain ⟨m, hmd⟩ : ∃ m, m = b.toNat % 64 := ⟨_, rfl⟩
  rw [← hmd] at hm
  have hml : m < 64 := by omega
  rcases alu_cases x with h | h | h | h | h | h | h | h | h | h | h | h | h | h
  case inr.inr.inr.inr.inr.inr.inr.inr.inr.inr.inl =>
    subst h
    have e : aluW 192 a b = a.sshiftRight m := by rw [hmd]; rfl
    rw [e]
    clear e hmd
    go_enter Tryz.func52, Tryz.ntmps52
    go_wp2
    go_quiet ((go_at_call 77; exact Calls.quiet_of_same ((sign_N _ _ _ (by decide) (by decide)).mono fun _ _ ⟨h1, h2⟩ => ⟨h1, h2.symm⟩)))
    go_wp2
    go_ret
    exact ⟨rfl, grown_drewN (Grown.refl _) _⟩
  case inr.inr.inr.inr.inr.inr.inr.inr.inr.inr.inr.inr.inr =>
    rw [aluW_none h]
    obtain ⟨h1, h2, h3, h4, h5, h6, h7, h8, h9, h10, h11, h12, h13⟩ := noOp_beq h
    clear h hm hmd hml
    go_enter Tryz.func52, Tryz.ntmps52
    go_wp2_with (first | (go_at_call 93; refine (quot64 _ _ _).mono ?_; rintro e w' ⟨rfl, rfl⟩) | (go_at_call 94; refine (rest64 _ _ _).mono ?_; rintro e w' ⟨rfl, rfl⟩))
    go_ret
    exact ⟨rfl, Grown.refl _⟩
  case inr.inr.inr.inr.inr.inr.inr.inr.inl =>
    subst h
    have e : aluW 96 a b = a <<< m := by rw [hmd]; rfl
    rw [e]
    clear e hmd
    go_enter Tryz.func52, Tryz.ntmps52
    go_wp2_with (first | (go_at_call 93; refine (quot64 _ _ _).mono ?_; rintro e w' ⟨rfl, rfl⟩) | (go_at_call 94; refine (rest64 _ _ _).mono ?_; rintro e w' ⟨rfl, rfl⟩))
    go_ret
    exact ⟨rfl, Grown.refl _⟩
  case inr.inr.inr.inr.inr.inr.inr.inr.inr.inl =>
    subst h
    have e : aluW 112 a b = a >>> m := by rw [hmd]; rfl
    rw [e]
    clear e hmd
    go_enter Tryz.func52, Tryz.ntmps52
    go_wp2_with (first | (go_at_call 93; refine (quot64 _ _ _).mono ?_; rintro e w' ⟨rfl, rfl⟩) | (go_at_call 94; refine (rest64 _ _ _).mono ?_; rintro e w' ⟨rfl, rfl⟩))
    go_ret
    exact ⟨rfl, Grown.refl _⟩
  all_goals
    subst h
    clear hm hmd hml
    go_enter Tryz.func52, Tryz.ntmps52
    go_wp2_with (first | (go_at_call 93; refine (quot64 _ _ _).mono ?_; rintro e w' ⟨rfl, rfl⟩) | (go_at_call 94; refine (rest64 _ _ _).mono ?_; rintro e w' ⟨rfl, rfl⟩))
    go_ret
    exact ⟨rfl, Grown.refl _⟩

set_option maxRecDepth 100000 in
set_option maxHeartbeats 4000000 in
theorem do32 (x : Int) (a b : BitVec 32) (w : World) : Calls Tryz.prog 53 #[.int .u8 x, .int .u32 (N a), .int .u32 (N b), .int .i64 32] w fun e w' => e = .returned (.int .u32 (N (aluW x a b))) ∧ Grown w w' := by
  have hm := tmod32 b
  obtain ⟨m, hmd⟩ : ∃ m, m = b.toNat % 32 := ⟨_, rfl⟩
  rw [← hmd] at hm
  have hml : m < 32 := by omega
  rcases alu_cases x with h | h | h | h | h | h | h | h | h | h | h | h | h | h
  case inr.inr.inr.inr.inr.inr.inr.inr.inr.inr.inl =>
    subst h
    have e : aluW 192 a b = a.sshiftRight m := by rw [hmd]; rfl
    rw [e]
    clear e hmd
    go_enter Tryz.func53, Tryz.ntmps53
    go_wp2
    go_quiet ((go_at_call 77; exact Calls.quiet_of_same ((sign_N _ _ _ (by decide) (by decide)).mono fun _ _ ⟨h1, h2⟩ => ⟨h1, h2.symm⟩)))
    go_wp2
    go_ret
    exact ⟨rfl, grown_drewN (Grown.refl _) _⟩
  case inr.inr.inr.inr.inr.inr.inr.inr.inr.inr.inr.inr.inr =>
    rw [aluW_none h]
    obtain ⟨h1, h2, h3, h4, h5, h6, h7, h8, h9, h10, h11, h12, h13⟩ := noOp_beq h
    clear h hm hmd hml
    go_enter Tryz.func53, Tryz.ntmps53
    go_wp2_with (first | (go_at_call 95; refine (quot32 _ _ _).mono ?_; rintro e w' ⟨rfl, rfl⟩) | (go_at_call 96; refine (rest32 _ _ _).mono ?_; rintro e w' ⟨rfl, rfl⟩))
    go_ret
    exact ⟨rfl, Grown.refl _⟩
  case inr.inr.inr.inr.inr.inr.inr.inr.inl =>
    subst h
    have e : aluW 96 a b = a <<< m := by rw [hmd]; rfl
    rw [e]
    clear e hmd
    go_enter Tryz.func53, Tryz.ntmps53
    go_wp2_with (first | (go_at_call 95; refine (quot32 _ _ _).mono ?_; rintro e w' ⟨rfl, rfl⟩) | (go_at_call 96; refine (rest32 _ _ _).mono ?_; rintro e w' ⟨rfl, rfl⟩))
    go_ret
    exact ⟨rfl, Grown.refl _⟩
  case inr.inr.inr.inr.inr.inr.inr.inr.inr.inl =>
    subst h
    have e : aluW 112 a b = a >>> m := by rw [hmd]; rfl
    rw [e]
    clear e hmd
    go_enter Tryz.func53, Tryz.ntmps53
    go_wp2_with (first | (go_at_call 95; refine (quot32 _ _ _).mono ?_; rintro e w' ⟨rfl, rfl⟩) | (go_at_call 96; refine (rest32 _ _ _).mono ?_; rintro e w' ⟨rfl, rfl⟩))
    go_ret
    exact ⟨rfl, Grown.refl _⟩
  all_goals
    subst h
    clear hm hmd hml
    go_enter Tryz.func53, Tryz.ntmps53
    go_wp2_with (first | (go_at_call 95; refine (quot32 _ _ _).mono ?_; rintro e w' ⟨rfl, rfl⟩) | (go_at_call 96; refine (rest32 _ _ _).mono ?_; rintro e w' ⟨rfl, rfl⟩))
    go_ret
    exact ⟨rfl, Grown.refl _⟩

set_option maxRecDepth 100000 in
set_option maxHeartbeats 1000000 in
theorem do_any (x : Int) (wide : Bool) (a b : BitVec 64) (w : World) :
    Calls Tryz.prog 23 #[.int .u8 x, .bool wide, .int .u64 (N a), .int .u64 (N b)] w fun e w' => e = .returned (.int .u64 (N (aluS x wide a b))) ∧ Grown w w' := by
  cases wide
  · go_enter Tryz.func23, Tryz.ntmps23
    go_wp2_with (first | (go_at_call 54; refine (low_N _ _ _ (by decide) (by decide)).mono ?_; rintro e w' ⟨rfl, rfl⟩) | (go_at_call 53; refine (do32 _ _ _ _).mono ?_; rintro e w' ⟨rfl, hg⟩))
    go_ret
    exact ⟨rfl, by assumption⟩
  · go_enter Tryz.func23, Tryz.ntmps23
    go_wp2_with (go_at_call 52; refine (do64 _ _ _ _).mono ?_; rintro e w' ⟨rfl, hg⟩)
    go_ret
    exact ⟨rfl, by assumption⟩
end Go.Proofs.YtchjneodjaakdaaGreat
end
