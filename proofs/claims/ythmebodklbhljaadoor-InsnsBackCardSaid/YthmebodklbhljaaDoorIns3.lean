/-
  What is wrong with an instruction: the whole.
-/
import Derived.Test.YthmebodklbhljaaDoorIns2
import Derived.Test.YthmebodklbhljaaDoorCellsAt
namespace Go.Proofs.YthmebodklbhljaaDoor
open Go.RowKit
attribute [local go_sem] u8_wrap u8_and ofInt_N ofInt_Nw

def badReg (op : B8) (d s : Int) : Bool := decide (11 ≤ d) || (decide (11 ≤ s) || ((usesS op).w && (d == 10)))
def badField (op : B8) (d s off imm : Int) : Bool := (!(usesS op).d && (d != 0)) || ((!(usesS op).s && (s != 0)) || ((!(usesS op).o && (off != 0)) || (!(usesS op).i && (imm != 0))))
def badMark (op : B8) (s : Int) : Bool := (N op == 24) && decide (1 < s)
def badImm (op : B8) (imm : Int) : Bool := (usesS op).i && !immS op imm
def checkS (op : B8) (d s off imm : Int) (inner : Bool) : Int :=
  if knownS op inner = false then 20 else if badReg op d s = true then 22 else if badField op d s off imm = true then 21 else if badMark op s = true then 21 else if badImm op imm = true then 23 else 0
/-- The instruction, and the fields that it uses, in blocks of their own. -/
def insL (op : B8) (d s off imm : Int) (A B : Nat) : List (Nat × Nat × Value) := [(A, 0, .int .u8 (N op)), (A, 1, .int .u8 d), (A, 2, .int .u8 s), (A, 3, .int .i16 off), (A, 4, .int .i32 imm), (B, 0, .bool (usesS op).d), (B, 1, .bool (usesS op).s), (B, 2, .bool (usesS op).o), (B, 3, .bool (usesS op).i), (B, 4, .bool (usesS op).w)]
def BoolAt (w0 : World) (l : List (Nat × Nat × Value)) (b : Bool) (s : Value) (w : World) : Prop := s = .bool b ∧ Keeps w0 l w
theorem known_no (op : B8) (inner : Bool) (h : knownS op inner = false) (w : World) (hT : TabAt w) : Calls Tryd.prog 36 #[.int .u8 (N op), .bool inner] w fun e w' => e = .returned (.bool false) ∧ Grown w w' := h ▸ known_any op inner w hT
theorem known_yes (op : B8) (inner : Bool) (h : knownS op inner = true) (w : World) (hT : TabAt w) : Calls Tryd.prog 36 #[.int .u8 (N op), .bool inner] w fun e w' => e = .returned (.bool true) ∧ Grown w w' := h ▸ known_any op inner w hT

theorem imm_no (op : B8) (d s off imm : Int) (h : immS op imm = false) (w : World) : Calls Tryd.prog 38 #[.agg #[.int .u8 (N op), .int .u8 d, .int .u8 s, .int .i16 off, .int .i32 imm]] w fun e w' => e = .returned (.bool false) ∧ Grown w w' := h ▸ imm_any op d s off imm w
theorem imm_yes (op : B8) (d s off imm : Int) (h : immS op imm = true) (w : World) : Calls Tryd.prog 38 #[.agg #[.int .u8 (N op), .int .u8 d, .int .u8 s, .int .i16 off, .int .i32 imm]] w fun e w' => e = .returned (.bool true) ∧ Grown w w' := h ▸ imm_any op d s off imm w

set_option maxRecDepth 100000 in
set_option maxHeartbeats 8000000 in
theorem check_any (op : B8) (d s off imm : Int) (inner : Bool) (w : World) (hT : TabAt w) :
    Calls Tryd.prog 16 #[.agg #[.int .u8 (N op), .int .u8 d, .int .u8 s, .int .i16 off, .int .i32 imm], .bool inner] w fun e w' => e = .returned (.int .i64 (checkS op d s off imm inner)) ∧ Grown w w' := by
  have HT : Hid (TabAt (w.alloc (.cells #[.int .u8 (N op), .int .u8 d, .int .u8 s, .int .i16 off, .int .i32 imm] 24))) := Lib.hid (hT.grown (by go_grown))
  clear hT
  by_cases hk : knownS op inner = false
  · have HK := Lib.hid hk
    clear hk
    go_enter Tryd.func16, Tryd.ntmps16
    go_wp2_with (go_at_call 36; refine (known_no _ _ HK.out _ HT.out).mono ?_; rintro e w' ⟨rfl, hg⟩)
    go_ret
    exact ⟨by unfold checkS; rw [HK.out]; rfl, Grown.trans' (by go_grown) hg⟩
  have HK : Hid (knownS op inner = true) := Lib.hid (by simpa using hk)
  clear hk
  go_enter Tryd.func16, Tryd.ntmps16
  go_upto_region 3 with (go_at_call 36; refine (known_yes _ _ HK.out _ HT.out).mono ?_; rintro e w1 ⟨rfl, g1⟩)
  have K : Keeps w [(w.heap.size, 0, .int .u8 (N op)), (w.heap.size, 1, .int .u8 d), (w.heap.size, 2, .int .u8 s), (w.heap.size, 3, .int .i16 off), (w.heap.size, 4, .int .i32 imm)] (w.alloc (.cells #[.int .u8 (N op), .int .u8 d, .int .u8 s, .int .i16 off, .int .i32 imm] 24)) := ⟨⟨⟨by simp [go_sem], by simp⟩, ⟨by simp [go_sem], by simp⟩, ⟨by simp [go_sem], by simp⟩, ⟨by simp [go_sem], by simp⟩, ⟨by simp [go_sem], by simp⟩, trivial⟩, by go_grown⟩
  have K1 := K.grown g1
  clear K g1 HT
  generalize w.heap.size = A at *
  have c0 : w1.cell? ⟨A, 0, none⟩ = some _ := K1.1.get 0 _ rfl
  go_upto_region 4 with (go_at_call 37; refine (uses_any _ _).mono ?_; rintro e w2 ⟨rfl, g2⟩)
  have K2 : Keeps w (insL op d s off imm A w2.heap.size) (w2.alloc (.cells #[.bool (usesS op).d, .bool (usesS op).s, .bool (usesS op).o, .bool (usesS op).i, .bool (usesS op).w] 62)) := by
    have K3 := K1.grown (Grown.alloc g2 #[.bool (usesS op).d, .bool (usesS op).s, .bool (usesS op).o, .bool (usesS op).i, .bool (usesS op).w] 62)
    obtain ⟨⟨a0, a1, a2, a3, a4, _⟩, ag⟩ := K3
    exact ⟨⟨a0, a1, a2, a3, a4, ⟨by simp [go_sem], by simp⟩, ⟨by simp [go_sem], by simp⟩, ⟨by simp [go_sem], by simp⟩, ⟨by simp [go_sem], by simp⟩, ⟨by simp [go_sem], by simp⟩, trivial⟩, ag⟩
  clear c0 K1 g2
  generalize w2.alloc (.cells #[.bool (usesS op).d, .bool (usesS op).s, .bool (usesS op).o, .bool (usesS op).i, .bool (usesS op).w] 62) = W2 at *
  generalize w2.heap.size = B at *
  have c1 : W2.cell? ⟨A, 1, none⟩ = some _ := K2.1.get 1 _ rfl
  have c2 : W2.cell? ⟨A, 2, none⟩ = some _ := K2.1.get 2 _ rfl
  have c9 : W2.cell? ⟨B, 4, none⟩ = some _ := K2.1.get 9 _ rfl
  go_cut [14] (fun s14 wx => BoolAt w (insL op d s off imm A B) (badReg op d s) s14 wx)
  case first =>
    cases b1 : decide (11 ≤ d)
    · cases b2 : decide (11 ≤ s)
      · cases b3 : (usesS op).w
        · go_wp2_with fail
          go_meet
          case rel => exact ⟨by unfold badReg; simp [b1, b2, b3], K2⟩
        · cases b4 : (d == 10)
          · go_wp2_with fail
            go_meet
            case rel => exact ⟨by unfold badReg; simp [b1, b2, b3, b4], K2⟩
          · go_wp2_with fail
            go_meet
            case rel => exact ⟨by unfold badReg; simp [b1, b2, b3, b4], K2⟩
      · go_wp2_with fail
        go_meet
        case rel => exact ⟨by unfold badReg; simp [b1, b2], K2⟩
    · go_wp2_with fail
      go_meet
      case rel => exact ⟨by unfold badReg; simp [b1], K2⟩
  case rest =>
    clear c1 c2 c9 K2
    obtain ⟨rfl, K⟩ := hcut
    cases hb1 : badReg op d s
    rotate_left
    · go_wp2_with fail
      go_ret
      exact ⟨by unfold checkS; rw [HK.out]; simp [hb1], K.2⟩
    have c1 : wc.cell? ⟨A, 1, none⟩ = some _ := K.1.get 1 _ rfl
    have c2 : wc.cell? ⟨A, 2, none⟩ = some _ := K.1.get 2 _ rfl
    have c3 : wc.cell? ⟨A, 3, none⟩ = some _ := K.1.get 3 _ rfl
    have c4 : wc.cell? ⟨A, 4, none⟩ = some _ := K.1.get 4 _ rfl
    have c5 : wc.cell? ⟨B, 0, none⟩ = some _ := K.1.get 5 _ rfl
    have c6 : wc.cell? ⟨B, 1, none⟩ = some _ := K.1.get 6 _ rfl
    have c7 : wc.cell? ⟨B, 2, none⟩ = some _ := K.1.get 7 _ rfl
    have c8 : wc.cell? ⟨B, 3, none⟩ = some _ := K.1.get 8 _ rfl
    go_upto_region 6 with fail
    go_cut [32] (fun s32 wx => BoolAt w (insL op d s off imm A B) (badField op d s off imm) s32 wx)
    case first =>
      · cases b5 : (usesS op).d
        · cases b6 : (d != 0)
          · cases b7 : (usesS op).s
            · cases b8 : (s != 0)
              · cases b9 : (usesS op).o
                · cases b10 : (off != 0)
                  · cases b11 : (usesS op).i
                    · cases b12 : (imm != 0)
                      · go_wp2_with fail
                        go_meet
                        case rel => exact ⟨by unfold badField; simp [b5, b6, b7, b8, b9, b10, b11, b12], K⟩
                      · go_wp2_with fail
                        go_meet
                        case rel => exact ⟨by unfold badField; simp [b5, b6, b7, b8, b9, b10, b11, b12], K⟩
                    · go_wp2_with fail
                      go_meet
                      case rel => exact ⟨by unfold badField; simp [b5, b6, b7, b8, b9, b10, b11], K⟩
                  · go_wp2_with fail
                    go_meet
                    case rel => exact ⟨by unfold badField; simp [b5, b6, b7, b8, b9, b10], K⟩
                · cases b11 : (usesS op).i
                  · cases b12 : (imm != 0)
                    · go_wp2_with fail
                      go_meet
                      case rel => exact ⟨by unfold badField; simp [b5, b6, b7, b8, b9, b11, b12], K⟩
                    · go_wp2_with fail
                      go_meet
                      case rel => exact ⟨by unfold badField; simp [b5, b6, b7, b8, b9, b11, b12], K⟩
                  · go_wp2_with fail
                    go_meet
                    case rel => exact ⟨by unfold badField; simp [b5, b6, b7, b8, b9, b11], K⟩
              · go_wp2_with fail
                go_meet
                case rel => exact ⟨by unfold badField; simp [b5, b6, b7, b8], K⟩
            · cases b9 : (usesS op).o
              · cases b10 : (off != 0)
                · cases b11 : (usesS op).i
                  · cases b12 : (imm != 0)
                    · go_wp2_with fail
                      go_meet
                      case rel => exact ⟨by unfold badField; simp [b5, b6, b7, b9, b10, b11, b12], K⟩
                    · go_wp2_with fail
                      go_meet
                      case rel => exact ⟨by unfold badField; simp [b5, b6, b7, b9, b10, b11, b12], K⟩
                  · go_wp2_with fail
                    go_meet
                    case rel => exact ⟨by unfold badField; simp [b5, b6, b7, b9, b10, b11], K⟩
                · go_wp2_with fail
                  go_meet
                  case rel => exact ⟨by unfold badField; simp [b5, b6, b7, b9, b10], K⟩
              · cases b11 : (usesS op).i
                · cases b12 : (imm != 0)
                  · go_wp2_with fail
                    go_meet
                    case rel => exact ⟨by unfold badField; simp [b5, b6, b7, b9, b11, b12], K⟩
                  · go_wp2_with fail
                    go_meet
                    case rel => exact ⟨by unfold badField; simp [b5, b6, b7, b9, b11, b12], K⟩
                · go_wp2_with fail
                  go_meet
                  case rel => exact ⟨by unfold badField; simp [b5, b6, b7, b9, b11], K⟩
          · go_wp2_with fail
            go_meet
            case rel => exact ⟨by unfold badField; simp [b5, b6], K⟩
        · cases b7 : (usesS op).s
          · cases b8 : (s != 0)
            · cases b9 : (usesS op).o
              · cases b10 : (off != 0)
                · cases b11 : (usesS op).i
                  · cases b12 : (imm != 0)
                    · go_wp2_with fail
                      go_meet
                      case rel => exact ⟨by unfold badField; simp [b5, b7, b8, b9, b10, b11, b12], K⟩
                    · go_wp2_with fail
                      go_meet
                      case rel => exact ⟨by unfold badField; simp [b5, b7, b8, b9, b10, b11, b12], K⟩
                  · go_wp2_with fail
                    go_meet
                    case rel => exact ⟨by unfold badField; simp [b5, b7, b8, b9, b10, b11], K⟩
                · go_wp2_with fail
                  go_meet
                  case rel => exact ⟨by unfold badField; simp [b5, b7, b8, b9, b10], K⟩
              · cases b11 : (usesS op).i
                · cases b12 : (imm != 0)
                  · go_wp2_with fail
                    go_meet
                    case rel => exact ⟨by unfold badField; simp [b5, b7, b8, b9, b11, b12], K⟩
                  · go_wp2_with fail
                    go_meet
                    case rel => exact ⟨by unfold badField; simp [b5, b7, b8, b9, b11, b12], K⟩
                · go_wp2_with fail
                  go_meet
                  case rel => exact ⟨by unfold badField; simp [b5, b7, b8, b9, b11], K⟩
            · go_wp2_with fail
              go_meet
              case rel => exact ⟨by unfold badField; simp [b5, b7, b8], K⟩
          · cases b9 : (usesS op).o
            · cases b10 : (off != 0)
              · cases b11 : (usesS op).i
                · cases b12 : (imm != 0)
                  · go_wp2_with fail
                    go_meet
                    case rel => exact ⟨by unfold badField; simp [b5, b7, b9, b10, b11, b12], K⟩
                  · go_wp2_with fail
                    go_meet
                    case rel => exact ⟨by unfold badField; simp [b5, b7, b9, b10, b11, b12], K⟩
                · go_wp2_with fail
                  go_meet
                  case rel => exact ⟨by unfold badField; simp [b5, b7, b9, b10, b11], K⟩
              · go_wp2_with fail
                go_meet
                case rel => exact ⟨by unfold badField; simp [b5, b7, b9, b10], K⟩
            · cases b11 : (usesS op).i
              · cases b12 : (imm != 0)
                · go_wp2_with fail
                  go_meet
                  case rel => exact ⟨by unfold badField; simp [b5, b7, b9, b11, b12], K⟩
                · go_wp2_with fail
                  go_meet
                  case rel => exact ⟨by unfold badField; simp [b5, b7, b9, b11, b12], K⟩
              · go_wp2_with fail
                go_meet
                case rel => exact ⟨by unfold badField; simp [b5, b7, b9, b11], K⟩
    case rest =>
      clear c1 c2 c3 c4 c5 c6 c7 c8 K
      obtain ⟨rfl, K⟩ := hcut
      cases hb2 : badField op d s off imm
      rotate_left
      · go_wp2_with fail
        go_ret
        exact ⟨by unfold checkS; rw [HK.out]; simp [hb1, hb2], K.2⟩
      have c0 : wc.cell? ⟨A, 0, none⟩ = some _ := K.1.get 0 _ rfl
      have c2 : wc.cell? ⟨A, 2, none⟩ = some _ := K.1.get 2 _ rfl
      go_upto_region 8 with fail
      go_cut [71] (fun s71 wx => BoolAt w (insL op d s off imm A B) (badMark op s) s71 wx)
      case first =>
        cases b1 : (N op == 24)
        · go_wp2_with fail
          go_meet
          case rel => exact ⟨by unfold badMark; simp [b1], K⟩
        · cases b2 : decide (1 < s)
          · go_wp2_with fail
            go_meet
            case rel => exact ⟨by unfold badMark; simp [b1, b2], K⟩
          · go_wp2_with fail
            go_meet
            case rel => exact ⟨by unfold badMark; simp [b1, b2], K⟩
      case rest =>
        clear c0 c2 K
        obtain ⟨rfl, K⟩ := hcut
        cases hb3 : badMark op s
        rotate_left
        · go_wp2_with fail
          go_ret
          exact ⟨by unfold checkS; rw [HK.out]; simp [hb1, hb2, hb3], K.2⟩
        have c0 : wc.cell? ⟨A, 0, none⟩ = some _ := K.1.get 0 _ rfl
        have c1 : wc.cell? ⟨A, 1, none⟩ = some _ := K.1.get 1 _ rfl
        have c2 : wc.cell? ⟨A, 2, none⟩ = some _ := K.1.get 2 _ rfl
        have c3 : wc.cell? ⟨A, 3, none⟩ = some _ := K.1.get 3 _ rfl
        have c4 : wc.cell? ⟨A, 4, none⟩ = some _ := K.1.get 4 _ rfl
        have c8 : wc.cell? ⟨B, 3, none⟩ = some _ := K.1.get 8 _ rfl
        go_upto_region 10 with fail
        go_cut [80] (fun s80 wx => BoolAt w (insL op d s off imm A B) (badImm op imm) s80 wx)
        case first =>
          cases b1 : (usesS op).i
          · go_wp2_with fail
            go_meet
            case rel => exact ⟨by unfold badImm; simp [b1], K⟩
          · cases b2 : immS op imm
            · have HI := Lib.hid b2
              clear b2
              go_wp2_with (go_at_call 38; refine (imm_no _ _ _ _ _ HI.out _).mono ?_; rintro e w5 ⟨rfl, g5⟩)
              go_meet
              case rel => exact ⟨by unfold badImm; rw [b1, HI.out]; rfl, K.grown g5⟩
            · have HI := Lib.hid b2
              clear b2
              go_wp2_with (go_at_call 38; refine (imm_yes _ _ _ _ _ HI.out _).mono ?_; rintro e w5 ⟨rfl, g5⟩)
              go_meet
              case rel => exact ⟨by unfold badImm; rw [b1, HI.out]; rfl, K.grown g5⟩
        case rest =>
          clear c0 c1 c2 c3 c4 c8 K
          obtain ⟨rfl, K⟩ := hcut
          cases hb4 : badImm op imm
          · go_wp2_with fail
            go_ret
            exact ⟨by unfold checkS; rw [HK.out]; simp [hb1, hb2, hb3, hb4], K.2⟩
          · go_wp2_with fail
            go_ret
            exact ⟨by unfold checkS; rw [HK.out]; simp [hb1, hb2, hb3, hb4], K.2⟩
end Go.Proofs.YthmebodklbhljaaDoor
