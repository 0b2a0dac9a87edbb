/-
  Layer 10: the law InterpNone, reckoned.
-/
import Derived.Test.YthhgfjnnconocaaGreatDoorLaw10f
import Derived.Test.YthhgfjnnconocaaGreatDoorPackD
namespace Go.Proofs.YthhgfjnnconocaaGreatDoor.Ex
open Go Go.RowKit
def inOrc (b : Bool) : Orc := fun f t _ => if Nat.beq f 3 && Nat.beq t 11 then some (.bool b) else none
set_option maxHeartbeats 0 in
set_option maxRecDepth 1000000 in
theorem in_nil (most : Int) (w : World) (hL : Laid h10 w) : Calls Tryz.prog 3 #[.slice none 0 0, .int .i64 most] w fun e w' => e = .returned (.bool true) ∧ Gr w w' :=
  reckonG_ok noNG goesHook_ok 100000 300 h10 rfl rfl (by kernel_rfl) w hL
set_option maxHeartbeats 0 in
set_option maxRecDepth 1000000 in
theorem in_some (b off l c : Nat) (most : Int) (k : Bool) (h : decide ((l : Int) > 100) = k) (w : World) (hb : b < w.heap.size) (hL : Laid h10 w) : Calls Tryz.prog 3 #[.slice (some ⟨b, off, none⟩) l c, .int .i64 most] w fun e w' => e = .returned (.bool true) ∧ Gr w w' := by
  have key : ∀ k : Bool, reckonGC Tryz.prog (guardH goesHook) (inOrc k) 100000 300 (heapV h10 1) 3 [.slice (some ⟨3, 0, none⟩) l c, .int .i64 most] = some (.bool true, [(b2i (decide ((l : Int) > 100)), b2i k)]) := by
    intro k
    cases k
    · kernel_rfl
    · kernel_rfl
  refine reckonV_ok noNG (guard_ok goesHook_ok) (inOrc k) 100000 300 h10 [⟨b, off, 0, none⟩] rfl (key k) (by rw [h]; rfl) w hL (fun p hp => ?_) ?_
  · simp only [List.mem_singleton] at hp
    subst hp
    exact ⟨hb, rfl⟩
  · exact LR.cons (vr_slV (h0 := h10) (i := 0) rfl) (LR.cons (.same rfl) (LR.nil _))
theorem interpNone_walk (v : Value) (most : Int) (w : World) (hv : Kv.ok w .l v) (hL : Laid h10 w) : Calls Tryz.prog 3 #[v, .int .i64 most] w fun e w' => e = .returned (.bool true) ∧ Gr w w' := by
  rcases hv with rfl | ⟨b, off, l, c, rfl, _, _, hb⟩
  · exact in_nil most w hL
  · exact in_some b off l c most _ rfl w hb hL
end Go.Proofs.YthhgfjnnconocaaGreatDoor.Ex
