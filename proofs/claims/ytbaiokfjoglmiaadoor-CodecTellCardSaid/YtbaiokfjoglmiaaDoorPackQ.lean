/-
  Lemmas for the laws of this seat, part Q: Cd6, Cd8, Cd9, CdA.
-/
import Derived.Test.YtbaiokfjoglmiaaDoorPackP
section
namespace Go.Proofs.YtbaiokfjoglmiaaDoor.Ex
open Go Go.RowKit
set_option linter.unusedVariables false
set_option linter.unusedSimpArgs false
set_option maxHeartbeats 0
set_option maxRecDepth 1000000
theorem pe1_0 (d : Nat) (s : Nat) : Lf h12 13 [.agg ⟨(xA 1 0 0 0 true false (Int.ofNat d) (Int.ofNat s) 0 0 0)⟩] (.tuple ⟨[.string ⟨⟨[72] ++ [137] ++ [modP 192 (Int.ofNat s) (Int.ofNat d)]⟩⟩, .int .i64 0]⟩) [(b2i (!vP 1 0 0 0 true false (Int.ofNat d) (Int.ofNat s) 0 0 0), 0), (b2i (decide ((Int.ofNat s) ≥ 8)), 0), (b2i (decide ((Int.ofNat d) ≥ 8)), 0)] := lf hkE_ok (ocs [(13, 11, .bool false), (30, 13, .bool false), (30, 17, .bool false)] []) (by kernel_rfl) (by kernel_rfl) (by kernel_rfl)
theorem pe1_1 (d : Nat) (s : Nat) : Lf h12 13 [.agg ⟨(xA 1 0 0 0 true false (Int.ofNat d) (Int.ofNat (s + 8)) 0 0 0)⟩] (.tuple ⟨[.string ⟨⟨[76] ++ [137] ++ [modP 192 (Int.ofNat (s + 8)) (Int.ofNat d)]⟩⟩, .int .i64 0]⟩) [(b2i (!vP 1 0 0 0 true false (Int.ofNat d) (Int.ofNat (s + 8)) 0 0 0), 0), (b2i (decide ((Int.ofNat (s + 8)) ≥ 8)), 1), (b2i (decide ((Int.ofNat d) ≥ 8)), 0)] := lf hkE_ok (ocs [(13, 11, .bool false), (30, 13, .bool true), (30, 17, .bool false)] []) (by kernel_rfl) (by kernel_rfl) (by kernel_rfl)
theorem pe1_2 (d : Nat) (s : Nat) : Lf h12 13 [.agg ⟨(xA 1 0 0 0 true false (Int.ofNat (d + 8)) (Int.ofNat s) 0 0 0)⟩] (.tuple ⟨[.string ⟨⟨[73] ++ [137] ++ [modP 192 (Int.ofNat s) (Int.ofNat (d + 8))]⟩⟩, .int .i64 0]⟩) [(b2i (!vP 1 0 0 0 true false (Int.ofNat (d + 8)) (Int.ofNat s) 0 0 0), 0), (b2i (decide ((Int.ofNat s) ≥ 8)), 0), (b2i (decide ((Int.ofNat (d + 8)) ≥ 8)), 1)] := lf hkE_ok (ocs [(13, 11, .bool false), (30, 13, .bool false), (30, 17, .bool true)] []) (by kernel_rfl) (by kernel_rfl) (by kernel_rfl)
theorem pe1_3 (d : Nat) (s : Nat) : Lf h12 13 [.agg ⟨(xA 1 0 0 0 true false (Int.ofNat (d + 8)) (Int.ofNat (s + 8)) 0 0 0)⟩] (.tuple ⟨[.string ⟨⟨[77] ++ [137] ++ [modP 192 (Int.ofNat (s + 8)) (Int.ofNat (d + 8))]⟩⟩, .int .i64 0]⟩) [(b2i (!vP 1 0 0 0 true false (Int.ofNat (d + 8)) (Int.ofNat (s + 8)) 0 0 0), 0), (b2i (decide ((Int.ofNat (s + 8)) ≥ 8)), 1), (b2i (decide ((Int.ofNat (d + 8)) ≥ 8)), 1)] := lf hkE_ok (ocs [(13, 11, .bool false), (30, 13, .bool true), (30, 17, .bool true)] []) (by kernel_rfl) (by kernel_rfl) (by kernel_rfl)
theorem pe1_4 (d : Nat) (s : Nat) : Lf h12 13 [.agg ⟨(xA 1 0 0 0 false false (Int.ofNat d) (Int.ofNat s) 0 0 0)⟩] (.tuple ⟨[.string ⟨⟨[137] ++ [modP 192 (Int.ofNat s) (Int.ofNat d)]⟩⟩, .int .i64 0]⟩) [(b2i (!vP 1 0 0 0 false false (Int.ofNat d) (Int.ofNat s) 0 0 0), 0), (b2i (decide ((Int.ofNat s) ≥ 8)), 0), (b2i (decide ((Int.ofNat d) ≥ 8)), 0)] := lf hkE_ok (ocs [(13, 11, .bool false), (30, 13, .bool false), (30, 17, .bool false)] []) (by kernel_rfl) (by kernel_rfl) (by kernel_rfl)
theorem pe1_5 (d : Nat) (s : Nat) : Lf h12 13 [.agg ⟨(xA 1 0 0 0 false false (Int.ofNat d) (Int.ofNat (s + 8)) 0 0 0)⟩] (.tuple ⟨[.string ⟨⟨[68] ++ [137] ++ [modP 192 (Int.ofNat (s + 8)) (Int.ofNat d)]⟩⟩, .int .i64 0]⟩) [(b2i (!vP 1 0 0 0 false false (Int.ofNat d) (Int.ofNat (s + 8)) 0 0 0), 0), (b2i (decide ((Int.ofNat (s + 8)) ≥ 8)), 1), (b2i (decide ((Int.ofNat d) ≥ 8)), 0)] := lf hkE_ok (ocs [(13, 11, .bool false), (30, 13, .bool true), (30, 17, .bool false)] []) (by kernel_rfl) (by kernel_rfl) (by kernel_rfl)
theorem pe1_6 (d : Nat) (s : Nat) : Lf h12 13 [.agg ⟨(xA 1 0 0 0 false false (Int.ofNat (d + 8)) (Int.ofNat s) 0 0 0)⟩] (.tuple ⟨[.string ⟨⟨[65] ++ [137] ++ [modP 192 (Int.ofNat s) (Int.ofNat (d + 8))]⟩⟩, .int .i64 0]⟩) [(b2i (!vP 1 0 0 0 false false (Int.ofNat (d + 8)) (Int.ofNat s) 0 0 0), 0), (b2i (decide ((Int.ofNat s) ≥ 8)), 0), (b2i (decide ((Int.ofNat (d + 8)) ≥ 8)), 1)] := lf hkE_ok (ocs [(13, 11, .bool false), (30, 13, .bool false), (30, 17, .bool true)] []) (by kernel_rfl) (by kernel_rfl) (by kernel_rfl)
theorem pe1_7 (d : Nat) (s : Nat) : Lf h12 13 [.agg ⟨(xA 1 0 0 0 false false (Int.ofNat (d + 8)) (Int.ofNat (s + 8)) 0 0 0)⟩] (.tuple ⟨[.string ⟨⟨[69] ++ [137] ++ [modP 192 (Int.ofNat (s + 8)) (Int.ofNat (d + 8))]⟩⟩, .int .i64 0]⟩) [(b2i (!vP 1 0 0 0 false false (Int.ofNat (d + 8)) (Int.ofNat (s + 8)) 0 0 0), 0), (b2i (decide ((Int.ofNat (s + 8)) ≥ 8)), 1), (b2i (decide ((Int.ofNat (d + 8)) ≥ 8)), 1)] := lf hkE_ok (ocs [(13, 11, .bool false), (30, 13, .bool true), (30, 17, .bool true)] []) (by kernel_rfl) (by kernel_rfl) (by kernel_rfl)
theorem pe2_0 (d : Nat) (im : Int) : Lf h12 13 [.agg ⟨(xA 2 0 0 0 true false (Int.ofNat d) 0 0 0 im)⟩] (.tuple ⟨[.string ⟨⟨[72] ++ [199] ++ [modP 192 0 (Int.ofNat d)] ++ immP im 4⟩⟩, .int .i64 0]⟩) [(b2i (!vP 2 0 0 0 true false (Int.ofNat d) 0 0 0 im), 0), (b2i (decide ((Int.ofNat d) ≥ 8)), 0)] := lf hkE_ok (ocs [(13, 11, .bool false), (30, 17, .bool false)] []) (by kernel_rfl) (by kernel_rfl) (by kernel_rfl)
theorem pe2_1 (d : Nat) (im : Int) : Lf h12 13 [.agg ⟨(xA 2 0 0 0 true false (Int.ofNat (d + 8)) 0 0 0 im)⟩] (.tuple ⟨[.string ⟨⟨[73] ++ [199] ++ [modP 192 0 (Int.ofNat (d + 8))] ++ immP im 4⟩⟩, .int .i64 0]⟩) [(b2i (!vP 2 0 0 0 true false (Int.ofNat (d + 8)) 0 0 0 im), 0), (b2i (decide ((Int.ofNat (d + 8)) ≥ 8)), 1)] := lf hkE_ok (ocs [(13, 11, .bool false), (30, 17, .bool true)] []) (by kernel_rfl) (by kernel_rfl) (by kernel_rfl)
theorem pe3_0 (d : Nat) (im : Int) : Lf h12 13 [.agg ⟨(xA 3 0 0 0 true false (Int.ofNat d) 0 0 0 im)⟩] (.tuple ⟨[.string ⟨⟨[72] ++ [codP 184 (Int.ofNat d)] ++ immP im 8⟩⟩, .int .i64 0]⟩) [(b2i (!vP 3 0 0 0 true false (Int.ofNat d) 0 0 0 im), 0), (b2i (decide ((Int.ofNat d) ≥ 8)), 0)] := lf hkE_ok (ocs [(13, 11, .bool false), (30, 17, .bool false)] []) (by kernel_rfl) (by kernel_rfl) (by kernel_rfl)
theorem pe3_1 (d : Nat) (im : Int) : Lf h12 13 [.agg ⟨(xA 3 0 0 0 true false (Int.ofNat (d + 8)) 0 0 0 im)⟩] (.tuple ⟨[.string ⟨⟨[73] ++ [codP 184 (Int.ofNat (d + 8))] ++ immP im 8⟩⟩, .int .i64 0]⟩) [(b2i (!vP 3 0 0 0 true false (Int.ofNat (d + 8)) 0 0 0 im), 0), (b2i (decide ((Int.ofNat (d + 8)) ≥ 8)), 1)] := lf hkE_ok (ocs [(13, 11, .bool false), (30, 17, .bool true)] []) (by kernel_rfl) (by kernel_rfl) (by kernel_rfl)
theorem pe4_0 (al : Int) (d : Nat) (s : Nat) : Lf h12 13 [.agg ⟨(xA 4 al 0 0 true false (Int.ofNat d) (Int.ofNat s) 0 0 0)⟩] (.tuple ⟨[.string ⟨⟨[72] ++ [aluP al] ++ [modP 192 (Int.ofNat s) (Int.ofNat d)]⟩⟩, .int .i64 0]⟩) [(b2i (!vP 4 al 0 0 true false (Int.ofNat d) (Int.ofNat s) 0 0 0), 0), (b2i (decide ((Int.ofNat s) ≥ 8)), 0), (b2i (decide ((Int.ofNat d) ≥ 8)), 0)] := lf hkE_ok (ocs [(13, 11, .bool false), (30, 13, .bool false), (30, 17, .bool false)] []) (by kernel_rfl) (by kernel_rfl) (by kernel_rfl)
theorem pe4_1 (al : Int) (d : Nat) (s : Nat) : Lf h12 13 [.agg ⟨(xA 4 al 0 0 true false (Int.ofNat d) (Int.ofNat (s + 8)) 0 0 0)⟩] (.tuple ⟨[.string ⟨⟨[76] ++ [aluP al] ++ [modP 192 (Int.ofNat (s + 8)) (Int.ofNat d)]⟩⟩, .int .i64 0]⟩) [(b2i (!vP 4 al 0 0 true false (Int.ofNat d) (Int.ofNat (s + 8)) 0 0 0), 0), (b2i (decide ((Int.ofNat (s + 8)) ≥ 8)), 1), (b2i (decide ((Int.ofNat d) ≥ 8)), 0)] := lf hkE_ok (ocs [(13, 11, .bool false), (30, 13, .bool true), (30, 17, .bool false)] []) (by kernel_rfl) (by kernel_rfl) (by kernel_rfl)
theorem pe4_2 (al : Int) (d : Nat) (s : Nat) : Lf h12 13 [.agg ⟨(xA 4 al 0 0 true false (Int.ofNat (d + 8)) (Int.ofNat s) 0 0 0)⟩] (.tuple ⟨[.string ⟨⟨[73] ++ [aluP al] ++ [modP 192 (Int.ofNat s) (Int.ofNat (d + 8))]⟩⟩, .int .i64 0]⟩) [(b2i (!vP 4 al 0 0 true false (Int.ofNat (d + 8)) (Int.ofNat s) 0 0 0), 0), (b2i (decide ((Int.ofNat s) ≥ 8)), 0), (b2i (decide ((Int.ofNat (d + 8)) ≥ 8)), 1)] := lf hkE_ok (ocs [(13, 11, .bool false), (30, 13, .bool false), (30, 17, .bool true)] []) (by kernel_rfl) (by kernel_rfl) (by kernel_rfl)
theorem pe4_3 (al : Int) (d : Nat) (s : Nat) : Lf h12 13 [.agg ⟨(xA 4 al 0 0 true false (Int.ofNat (d + 8)) (Int.ofNat (s + 8)) 0 0 0)⟩] (.tuple ⟨[.string ⟨⟨[77] ++ [aluP al] ++ [modP 192 (Int.ofNat (s + 8)) (Int.ofNat (d + 8))]⟩⟩, .int .i64 0]⟩) [(b2i (!vP 4 al 0 0 true false (Int.ofNat (d + 8)) (Int.ofNat (s + 8)) 0 0 0), 0), (b2i (decide ((Int.ofNat (s + 8)) ≥ 8)), 1), (b2i (decide ((Int.ofNat (d + 8)) ≥ 8)), 1)] := lf hkE_ok (ocs [(13, 11, .bool false), (30, 13, .bool true), (30, 17, .bool true)] []) (by kernel_rfl) (by kernel_rfl) (by kernel_rfl)
theorem pe4_4 (al : Int) (d : Nat) (s : Nat) : Lf h12 13 [.agg ⟨(xA 4 al 0 0 false false (Int.ofNat d) (Int.ofNat s) 0 0 0)⟩] (.tuple ⟨[.string ⟨⟨[aluP al] ++ [modP 192 (Int.ofNat s) (Int.ofNat d)]⟩⟩, .int .i64 0]⟩) [(b2i (!vP 4 al 0 0 false false (Int.ofNat d) (Int.ofNat s) 0 0 0), 0), (b2i (decide ((Int.ofNat s) ≥ 8)), 0), (b2i (decide ((Int.ofNat d) ≥ 8)), 0)] := lf hkE_ok (ocs [(13, 11, .bool false), (30, 13, .bool false), (30, 17, .bool false)] []) (by kernel_rfl) (by kernel_rfl) (by kernel_rfl)
theorem pe4_5 (al : Int) (d : Nat) (s : Nat) : Lf h12 13 [.agg ⟨(xA 4 al 0 0 false false (Int.ofNat d) (Int.ofNat (s + 8)) 0 0 0)⟩] (.tuple ⟨[.string ⟨⟨[68] ++ [aluP al] ++ [modP 192 (Int.ofNat (s + 8)) (Int.ofNat d)]⟩⟩, .int .i64 0]⟩) [(b2i (!vP 4 al 0 0 false false (Int.ofNat d) (Int.ofNat (s + 8)) 0 0 0), 0), (b2i (decide ((Int.ofNat (s + 8)) ≥ 8)), 1), (b2i (decide ((Int.ofNat d) ≥ 8)), 0)] := lf hkE_ok (ocs [(13, 11, .bool false), (30, 13, .bool true), (30, 17, .bool false)] []) (by kernel_rfl) (by kernel_rfl) (by kernel_rfl)
theorem pe4_6 (al : Int) (d : Nat) (s : Nat) : Lf h12 13 [.agg ⟨(xA 4 al 0 0 false false (Int.ofNat (d + 8)) (Int.ofNat s) 0 0 0)⟩] (.tuple ⟨[.string ⟨⟨[65] ++ [aluP al] ++ [modP 192 (Int.ofNat s) (Int.ofNat (d + 8))]⟩⟩, .int .i64 0]⟩) [(b2i (!vP 4 al 0 0 false false (Int.ofNat (d + 8)) (Int.ofNat s) 0 0 0), 0), (b2i (decide ((Int.ofNat s) ≥ 8)), 0), (b2i (decide ((Int.ofNat (d + 8)) ≥ 8)), 1)] := lf hkE_ok (ocs [(13, 11, .bool false), (30, 13, .bool false), (30, 17, .bool true)] []) (by kernel_rfl) (by kernel_rfl) (by kernel_rfl)
theorem pe4_7 (al : Int) (d : Nat) (s : Nat) : Lf h12 13 [.agg ⟨(xA 4 al 0 0 false false (Int.ofNat (d + 8)) (Int.ofNat (s + 8)) 0 0 0)⟩] (.tuple ⟨[.string ⟨⟨[69] ++ [aluP al] ++ [modP 192 (Int.ofNat (s + 8)) (Int.ofNat (d + 8))]⟩⟩, .int .i64 0]⟩) [(b2i (!vP 4 al 0 0 false false (Int.ofNat (d + 8)) (Int.ofNat (s + 8)) 0 0 0), 0), (b2i (decide ((Int.ofNat (s + 8)) ≥ 8)), 1), (b2i (decide ((Int.ofNat (d + 8)) ≥ 8)), 1)] := lf hkE_ok (ocs [(13, 11, .bool false), (30, 13, .bool true), (30, 17, .bool true)] []) (by kernel_rfl) (by kernel_rfl) (by kernel_rfl)
theorem pe5_0 (al : Int) (d : Nat) (im : Int) : Lf h12 13 [.agg ⟨(xA 5 al 0 0 true false (Int.ofNat d) 0 0 0 im)⟩] (.tuple ⟨[.string ⟨⟨[72] ++ [129] ++ [modP 192 al (Int.ofNat d)] ++ immP im 4⟩⟩, .int .i64 0]⟩) [(b2i (!vP 5 al 0 0 true false (Int.ofNat d) 0 0 0 im), 0), (b2i (decide (al ≥ 8)), 0), (b2i (decide ((Int.ofNat d) ≥ 8)), 0)] := lf hkE_ok (ocs [(13, 11, .bool false), (30, 13, .bool false), (30, 17, .bool false)] []) (by kernel_rfl) (by kernel_rfl) (by kernel_rfl)
theorem pe5_1 (al : Int) (d : Nat) (im : Int) : Lf h12 13 [.agg ⟨(xA 5 al 0 0 true false (Int.ofNat (d + 8)) 0 0 0 im)⟩] (.tuple ⟨[.string ⟨⟨[73] ++ [129] ++ [modP 192 al (Int.ofNat (d + 8))] ++ immP im 4⟩⟩, .int .i64 0]⟩) [(b2i (!vP 5 al 0 0 true false (Int.ofNat (d + 8)) 0 0 0 im), 0), (b2i (decide (al ≥ 8)), 0), (b2i (decide ((Int.ofNat (d + 8)) ≥ 8)), 1)] := lf hkE_ok (ocs [(13, 11, .bool false), (30, 13, .bool false), (30, 17, .bool true)] []) (by kernel_rfl) (by kernel_rfl) (by kernel_rfl)
theorem pe5_2 (al : Int) (d : Nat) (im : Int) : Lf h12 13 [.agg ⟨(xA 5 al 0 0 false false (Int.ofNat d) 0 0 0 im)⟩] (.tuple ⟨[.string ⟨⟨[129] ++ [modP 192 al (Int.ofNat d)] ++ immP im 4⟩⟩, .int .i64 0]⟩) [(b2i (!vP 5 al 0 0 false false (Int.ofNat d) 0 0 0 im), 0), (b2i (decide (al ≥ 8)), 0), (b2i (decide ((Int.ofNat d) ≥ 8)), 0)] := lf hkE_ok (ocs [(13, 11, .bool false), (30, 13, .bool false), (30, 17, .bool false)] []) (by kernel_rfl) (by kernel_rfl) (by kernel_rfl)
theorem pe5_3 (al : Int) (d : Nat) (im : Int) : Lf h12 13 [.agg ⟨(xA 5 al 0 0 false false (Int.ofNat (d + 8)) 0 0 0 im)⟩] (.tuple ⟨[.string ⟨⟨[65] ++ [129] ++ [modP 192 al (Int.ofNat (d + 8))] ++ immP im 4⟩⟩, .int .i64 0]⟩) [(b2i (!vP 5 al 0 0 false false (Int.ofNat (d + 8)) 0 0 0 im), 0), (b2i (decide (al ≥ 8)), 0), (b2i (decide ((Int.ofNat (d + 8)) ≥ 8)), 1)] := lf hkE_ok (ocs [(13, 11, .bool false), (30, 13, .bool false), (30, 17, .bool true)] []) (by kernel_rfl) (by kernel_rfl) (by kernel_rfl)
theorem pe6_0 (d : Nat) (s : Nat) : Lf h12 13 [.agg ⟨(xA 6 0 0 0 true false (Int.ofNat d) (Int.ofNat s) 0 0 0)⟩] (.tuple ⟨[.string ⟨⟨[72] ++ [133] ++ [modP 192 (Int.ofNat s) (Int.ofNat d)]⟩⟩, .int .i64 0]⟩) [(b2i (!vP 6 0 0 0 true false (Int.ofNat d) (Int.ofNat s) 0 0 0), 0), (b2i (decide ((Int.ofNat s) ≥ 8)), 0), (b2i (decide ((Int.ofNat d) ≥ 8)), 0)] := lf hkE_ok (ocs [(13, 11, .bool false), (30, 13, .bool false), (30, 17, .bool false)] []) (by kernel_rfl) (by kernel_rfl) (by kernel_rfl)
theorem pe6_1 (d : Nat) (s : Nat) : Lf h12 13 [.agg ⟨(xA 6 0 0 0 true false (Int.ofNat d) (Int.ofNat (s + 8)) 0 0 0)⟩] (.tuple ⟨[.string ⟨⟨[76] ++ [133] ++ [modP 192 (Int.ofNat (s + 8)) (Int.ofNat d)]⟩⟩, .int .i64 0]⟩) [(b2i (!vP 6 0 0 0 true false (Int.ofNat d) (Int.ofNat (s + 8)) 0 0 0), 0), (b2i (decide ((Int.ofNat (s + 8)) ≥ 8)), 1), (b2i (decide ((Int.ofNat d) ≥ 8)), 0)] := lf hkE_ok (ocs [(13, 11, .bool false), (30, 13, .bool true), (30, 17, .bool false)] []) (by kernel_rfl) (by kernel_rfl) (by kernel_rfl)
theorem pe6_2 (d : Nat) (s : Nat) : Lf h12 13 [.agg ⟨(xA 6 0 0 0 true false (Int.ofNat (d + 8)) (Int.ofNat s) 0 0 0)⟩] (.tuple ⟨[.string ⟨⟨[73] ++ [133] ++ [modP 192 (Int.ofNat s) (Int.ofNat (d + 8))]⟩⟩, .int .i64 0]⟩) [(b2i (!vP 6 0 0 0 true false (Int.ofNat (d + 8)) (Int.ofNat s) 0 0 0), 0), (b2i (decide ((Int.ofNat s) ≥ 8)), 0), (b2i (decide ((Int.ofNat (d + 8)) ≥ 8)), 1)] := lf hkE_ok (ocs [(13, 11, .bool false), (30, 13, .bool false), (30, 17, .bool true)] []) (by kernel_rfl) (by kernel_rfl) (by kernel_rfl)
theorem pe6_3 (d : Nat) (s : Nat) : Lf h12 13 [.agg ⟨(xA 6 0 0 0 true false (Int.ofNat (d + 8)) (Int.ofNat (s + 8)) 0 0 0)⟩] (.tuple ⟨[.string ⟨⟨[77] ++ [133] ++ [modP 192 (Int.ofNat (s + 8)) (Int.ofNat (d + 8))]⟩⟩, .int .i64 0]⟩) [(b2i (!vP 6 0 0 0 true false (Int.ofNat (d + 8)) (Int.ofNat (s + 8)) 0 0 0), 0), (b2i (decide ((Int.ofNat (s + 8)) ≥ 8)), 1), (b2i (decide ((Int.ofNat (d + 8)) ≥ 8)), 1)] := lf hkE_ok (ocs [(13, 11, .bool false), (30, 13, .bool true), (30, 17, .bool true)] []) (by kernel_rfl) (by kernel_rfl) (by kernel_rfl)
theorem pe6_4 (d : Nat) (s : Nat) : Lf h12 13 [.agg ⟨(xA 6 0 0 0 false false (Int.ofNat d) (Int.ofNat s) 0 0 0)⟩] (.tuple ⟨[.string ⟨⟨[133] ++ [modP 192 (Int.ofNat s) (Int.ofNat d)]⟩⟩, .int .i64 0]⟩) [(b2i (!vP 6 0 0 0 false false (Int.ofNat d) (Int.ofNat s) 0 0 0), 0), (b2i (decide ((Int.ofNat s) ≥ 8)), 0), (b2i (decide ((Int.ofNat d) ≥ 8)), 0)] := lf hkE_ok (ocs [(13, 11, .bool false), (30, 13, .bool false), (30, 17, .bool false)] []) (by kernel_rfl) (by kernel_rfl) (by kernel_rfl)
theorem pe6_5 (d : Nat) (s : Nat) : Lf h12 13 [.agg ⟨(xA 6 0 0 0 false false (Int.ofNat d) (Int.ofNat (s + 8)) 0 0 0)⟩] (.tuple ⟨[.string ⟨⟨[68] ++ [133] ++ [modP 192 (Int.ofNat (s + 8)) (Int.ofNat d)]⟩⟩, .int .i64 0]⟩) [(b2i (!vP 6 0 0 0 false false (Int.ofNat d) (Int.ofNat (s + 8)) 0 0 0), 0), (b2i (decide ((Int.ofNat (s + 8)) ≥ 8)), 1), (b2i (decide ((Int.ofNat d) ≥ 8)), 0)] := lf hkE_ok (ocs [(13, 11, .bool false), (30, 13, .bool true), (30, 17, .bool false)] []) (by kernel_rfl) (by kernel_rfl) (by kernel_rfl)
theorem pe6_6 (d : Nat) (s : Nat) : Lf h12 13 [.agg ⟨(xA 6 0 0 0 false false (Int.ofNat (d + 8)) (Int.ofNat s) 0 0 0)⟩] (.tuple ⟨[.string ⟨⟨[65] ++ [133] ++ [modP 192 (Int.ofNat s) (Int.ofNat (d + 8))]⟩⟩, .int .i64 0]⟩) [(b2i (!vP 6 0 0 0 false false (Int.ofNat (d + 8)) (Int.ofNat s) 0 0 0), 0), (b2i (decide ((Int.ofNat s) ≥ 8)), 0), (b2i (decide ((Int.ofNat (d + 8)) ≥ 8)), 1)] := lf hkE_ok (ocs [(13, 11, .bool false), (30, 13, .bool false), (30, 17, .bool true)] []) (by kernel_rfl) (by kernel_rfl) (by kernel_rfl)
theorem pe6_7 (d : Nat) (s : Nat) : Lf h12 13 [.agg ⟨(xA 6 0 0 0 false false (Int.ofNat (d + 8)) (Int.ofNat (s + 8)) 0 0 0)⟩] (.tuple ⟨[.string ⟨⟨[69] ++ [133] ++ [modP 192 (Int.ofNat (s + 8)) (Int.ofNat (d + 8))]⟩⟩, .int .i64 0]⟩) [(b2i (!vP 6 0 0 0 false false (Int.ofNat (d + 8)) (Int.ofNat (s + 8)) 0 0 0), 0), (b2i (decide ((Int.ofNat (s + 8)) ≥ 8)), 1), (b2i (decide ((Int.ofNat (d + 8)) ≥ 8)), 1)] := lf hkE_ok (ocs [(13, 11, .bool false), (30, 13, .bool true), (30, 17, .bool true)] []) (by kernel_rfl) (by kernel_rfl) (by kernel_rfl)
theorem pe7_0 (d : Nat) : Lf h12 13 [.agg ⟨(xA 7 0 0 0 true false (Int.ofNat d) 0 0 0 0)⟩] (.tuple ⟨[.string ⟨⟨[72] ++ [247] ++ [modP 192 3 (Int.ofNat d)]⟩⟩, .int .i64 0]⟩) [(b2i (!vP 7 0 0 0 true false (Int.ofNat d) 0 0 0 0), 0), (b2i (decide ((Int.ofNat d) ≥ 8)), 0)] := lf hkE_ok (ocs [(13, 11, .bool false), (30, 17, .bool false)] []) (by kernel_rfl) (by kernel_rfl) (by kernel_rfl)
theorem pe7_1 (d : Nat) : Lf h12 13 [.agg ⟨(xA 7 0 0 0 true false (Int.ofNat (d + 8)) 0 0 0 0)⟩] (.tuple ⟨[.string ⟨⟨[73] ++ [247] ++ [modP 192 3 (Int.ofNat (d + 8))]⟩⟩, .int .i64 0]⟩) [(b2i (!vP 7 0 0 0 true false (Int.ofNat (d + 8)) 0 0 0 0), 0), (b2i (decide ((Int.ofNat (d + 8)) ≥ 8)), 1)] := lf hkE_ok (ocs [(13, 11, .bool false), (30, 17, .bool true)] []) (by kernel_rfl) (by kernel_rfl) (by kernel_rfl)
theorem pe7_2 (d : Nat) : Lf h12 13 [.agg ⟨(xA 7 0 0 0 false false (Int.ofNat d) 0 0 0 0)⟩] (.tuple ⟨[.string ⟨⟨[247] ++ [modP 192 3 (Int.ofNat d)]⟩⟩, .int .i64 0]⟩) [(b2i (!vP 7 0 0 0 false false (Int.ofNat d) 0 0 0 0), 0), (b2i (decide ((Int.ofNat d) ≥ 8)), 0)] := lf hkE_ok (ocs [(13, 11, .bool false), (30, 17, .bool false)] []) (by kernel_rfl) (by kernel_rfl) (by kernel_rfl)
theorem pe7_3 (d : Nat) : Lf h12 13 [.agg ⟨(xA 7 0 0 0 false false (Int.ofNat (d + 8)) 0 0 0 0)⟩] (.tuple ⟨[.string ⟨⟨[65] ++ [247] ++ [modP 192 3 (Int.ofNat (d + 8))]⟩⟩, .int .i64 0]⟩) [(b2i (!vP 7 0 0 0 false false (Int.ofNat (d + 8)) 0 0 0 0), 0), (b2i (decide ((Int.ofNat (d + 8)) ≥ 8)), 1)] := lf hkE_ok (ocs [(13, 11, .bool false), (30, 17, .bool true)] []) (by kernel_rfl) (by kernel_rfl) (by kernel_rfl)
theorem pe8_0 (d : Nat) : Lf h12 13 [.agg ⟨(xA 8 0 0 0 true false (Int.ofNat d) 0 0 0 0)⟩] (.tuple ⟨[.string ⟨⟨[72] ++ [247] ++ [modP 192 4 (Int.ofNat d)]⟩⟩, .int .i64 0]⟩) [(b2i (!vP 8 0 0 0 true false (Int.ofNat d) 0 0 0 0), 0), (b2i (decide ((Int.ofNat d) ≥ 8)), 0)] := lf hkE_ok (ocs [(13, 11, .bool false), (30, 17, .bool false)] []) (by kernel_rfl) (by kernel_rfl) (by kernel_rfl)
theorem pe8_1 (d : Nat) : Lf h12 13 [.agg ⟨(xA 8 0 0 0 true false (Int.ofNat (d + 8)) 0 0 0 0)⟩] (.tuple ⟨[.string ⟨⟨[73] ++ [247] ++ [modP 192 4 (Int.ofNat (d + 8))]⟩⟩, .int .i64 0]⟩) [(b2i (!vP 8 0 0 0 true false (Int.ofNat (d + 8)) 0 0 0 0), 0), (b2i (decide ((Int.ofNat (d + 8)) ≥ 8)), 1)] := lf hkE_ok (ocs [(13, 11, .bool false), (30, 17, .bool true)] []) (by kernel_rfl) (by kernel_rfl) (by kernel_rfl)
theorem pe8_2 (d : Nat) : Lf h12 13 [.agg ⟨(xA 8 0 0 0 false false (Int.ofNat d) 0 0 0 0)⟩] (.tuple ⟨[.string ⟨⟨[247] ++ [modP 192 4 (Int.ofNat d)]⟩⟩, .int .i64 0]⟩) [(b2i (!vP 8 0 0 0 false false (Int.ofNat d) 0 0 0 0), 0), (b2i (decide ((Int.ofNat d) ≥ 8)), 0)] := lf hkE_ok (ocs [(13, 11, .bool false), (30, 17, .bool false)] []) (by kernel_rfl) (by kernel_rfl) (by kernel_rfl)
theorem pe8_3 (d : Nat) : Lf h12 13 [.agg ⟨(xA 8 0 0 0 false false (Int.ofNat (d + 8)) 0 0 0 0)⟩] (.tuple ⟨[.string ⟨⟨[65] ++ [247] ++ [modP 192 4 (Int.ofNat (d + 8))]⟩⟩, .int .i64 0]⟩) [(b2i (!vP 8 0 0 0 false false (Int.ofNat (d + 8)) 0 0 0 0), 0), (b2i (decide ((Int.ofNat (d + 8)) ≥ 8)), 1)] := lf hkE_ok (ocs [(13, 11, .bool false), (30, 17, .bool true)] []) (by kernel_rfl) (by kernel_rfl) (by kernel_rfl)
theorem pe9_0 (d : Nat) : Lf h12 13 [.agg ⟨(xA 9 0 0 0 true false (Int.ofNat d) 0 0 0 0)⟩] (.tuple ⟨[.string ⟨⟨[72] ++ [247] ++ [modP 192 6 (Int.ofNat d)]⟩⟩, .int .i64 0]⟩) [(b2i (!vP 9 0 0 0 true false (Int.ofNat d) 0 0 0 0), 0), (b2i (decide ((Int.ofNat d) ≥ 8)), 0)] := lf hkE_ok (ocs [(13, 11, .bool false), (30, 17, .bool false)] []) (by kernel_rfl) (by kernel_rfl) (by kernel_rfl)
theorem pe9_1 (d : Nat) : Lf h12 13 [.agg ⟨(xA 9 0 0 0 true false (Int.ofNat (d + 8)) 0 0 0 0)⟩] (.tuple ⟨[.string ⟨⟨[73] ++ [247] ++ [modP 192 6 (Int.ofNat (d + 8))]⟩⟩, .int .i64 0]⟩) [(b2i (!vP 9 0 0 0 true false (Int.ofNat (d + 8)) 0 0 0 0), 0), (b2i (decide ((Int.ofNat (d + 8)) ≥ 8)), 1)] := lf hkE_ok (ocs [(13, 11, .bool false), (30, 17, .bool true)] []) (by kernel_rfl) (by kernel_rfl) (by kernel_rfl)
theorem pe9_2 (d : Nat) : Lf h12 13 [.agg ⟨(xA 9 0 0 0 false false (Int.ofNat d) 0 0 0 0)⟩] (.tuple ⟨[.string ⟨⟨[247] ++ [modP 192 6 (Int.ofNat d)]⟩⟩, .int .i64 0]⟩) [(b2i (!vP 9 0 0 0 false false (Int.ofNat d) 0 0 0 0), 0), (b2i (decide ((Int.ofNat d) ≥ 8)), 0)] := lf hkE_ok (ocs [(13, 11, .bool false), (30, 17, .bool false)] []) (by kernel_rfl) (by kernel_rfl) (by kernel_rfl)
theorem pe9_3 (d : Nat) : Lf h12 13 [.agg ⟨(xA 9 0 0 0 false false (Int.ofNat (d + 8)) 0 0 0 0)⟩] (.tuple ⟨[.string ⟨⟨[65] ++ [247] ++ [modP 192 6 (Int.ofNat (d + 8))]⟩⟩, .int .i64 0]⟩) [(b2i (!vP 9 0 0 0 false false (Int.ofNat (d + 8)) 0 0 0 0), 0), (b2i (decide ((Int.ofNat (d + 8)) ≥ 8)), 1)] := lf hkE_ok (ocs [(13, 11, .bool false), (30, 17, .bool true)] []) (by kernel_rfl) (by kernel_rfl) (by kernel_rfl)
theorem pe10_0 (d : Nat) (s : Nat) : Lf h12 13 [.agg ⟨(xA 10 0 0 0 true false (Int.ofNat d) (Int.ofNat s) 0 0 0)⟩] (.tuple ⟨[.string ⟨⟨[72] ++ [15, 175] ++ [modP 192 (Int.ofNat d) (Int.ofNat s)]⟩⟩, .int .i64 0]⟩) [(b2i (!vP 10 0 0 0 true false (Int.ofNat d) (Int.ofNat s) 0 0 0), 0), (b2i (decide ((Int.ofNat d) ≥ 8)), 0), (b2i (decide ((Int.ofNat s) ≥ 8)), 0)] := lf hkE_ok (ocs [(13, 11, .bool false), (30, 13, .bool false), (30, 17, .bool false)] []) (by kernel_rfl) (by kernel_rfl) (by kernel_rfl)
theorem pe10_1 (d : Nat) (s : Nat) : Lf h12 13 [.agg ⟨(xA 10 0 0 0 true false (Int.ofNat d) (Int.ofNat (s + 8)) 0 0 0)⟩] (.tuple ⟨[.string ⟨⟨[73] ++ [15, 175] ++ [modP 192 (Int.ofNat d) (Int.ofNat (s + 8))]⟩⟩, .int .i64 0]⟩) [(b2i (!vP 10 0 0 0 true false (Int.ofNat d) (Int.ofNat (s + 8)) 0 0 0), 0), (b2i (decide ((Int.ofNat d) ≥ 8)), 0), (b2i (decide ((Int.ofNat (s + 8)) ≥ 8)), 1)] := lf hkE_ok (ocs [(13, 11, .bool false), (30, 13, .bool false), (30, 17, .bool true)] []) (by kernel_rfl) (by kernel_rfl) (by kernel_rfl)
theorem pe10_2 (d : Nat) (s : Nat) : Lf h12 13 [.agg ⟨(xA 10 0 0 0 true false (Int.ofNat (d + 8)) (Int.ofNat s) 0 0 0)⟩] (.tuple ⟨[.string ⟨⟨[76] ++ [15, 175] ++ [modP 192 (Int.ofNat (d + 8)) (Int.ofNat s)]⟩⟩, .int .i64 0]⟩) [(b2i (!vP 10 0 0 0 true false (Int.ofNat (d + 8)) (Int.ofNat s) 0 0 0), 0), (b2i (decide ((Int.ofNat (d + 8)) ≥ 8)), 1), (b2i (decide ((Int.ofNat s) ≥ 8)), 0)] := lf hkE_ok (ocs [(13, 11, .bool false), (30, 13, .bool true), (30, 17, .bool false)] []) (by kernel_rfl) (by kernel_rfl) (by kernel_rfl)
theorem pe10_3 (d : Nat) (s : Nat) : Lf h12 13 [.agg ⟨(xA 10 0 0 0 true false (Int.ofNat (d + 8)) (Int.ofNat (s + 8)) 0 0 0)⟩] (.tuple ⟨[.string ⟨⟨[77] ++ [15, 175] ++ [modP 192 (Int.ofNat (d + 8)) (Int.ofNat (s + 8))]⟩⟩, .int .i64 0]⟩) [(b2i (!vP 10 0 0 0 true false (Int.ofNat (d + 8)) (Int.ofNat (s + 8)) 0 0 0), 0), (b2i (decide ((Int.ofNat (d + 8)) ≥ 8)), 1), (b2i (decide ((Int.ofNat (s + 8)) ≥ 8)), 1)] := lf hkE_ok (ocs [(13, 11, .bool false), (30, 13, .bool true), (30, 17, .bool true)] []) (by kernel_rfl) (by kernel_rfl) (by kernel_rfl)
theorem pe10_4 (d : Nat) (s : Nat) : Lf h12 13 [.agg ⟨(xA 10 0 0 0 false false (Int.ofNat d) (Int.ofNat s) 0 0 0)⟩] (.tuple ⟨[.string ⟨⟨[15, 175] ++ [modP 192 (Int.ofNat d) (Int.ofNat s)]⟩⟩, .int .i64 0]⟩) [(b2i (!vP 10 0 0 0 false false (Int.ofNat d) (Int.ofNat s) 0 0 0), 0), (b2i (decide ((Int.ofNat d) ≥ 8)), 0), (b2i (decide ((Int.ofNat s) ≥ 8)), 0)] := lf hkE_ok (ocs [(13, 11, .bool false), (30, 13, .bool false), (30, 17, .bool false)] []) (by kernel_rfl) (by kernel_rfl) (by kernel_rfl)
theorem pe10_5 (d : Nat) (s : Nat) : Lf h12 13 [.agg ⟨(xA 10 0 0 0 false false (Int.ofNat d) (Int.ofNat (s + 8)) 0 0 0)⟩] (.tuple ⟨[.string ⟨⟨[65] ++ [15, 175] ++ [modP 192 (Int.ofNat d) (Int.ofNat (s + 8))]⟩⟩, .int .i64 0]⟩) [(b2i (!vP 10 0 0 0 false false (Int.ofNat d) (Int.ofNat (s + 8)) 0 0 0), 0), (b2i (decide ((Int.ofNat d) ≥ 8)), 0), (b2i (decide ((Int.ofNat (s + 8)) ≥ 8)), 1)] := lf hkE_ok (ocs [(13, 11, .bool false), (30, 13, .bool false), (30, 17, .bool true)] []) (by kernel_rfl) (by kernel_rfl) (by kernel_rfl)
theorem pe10_6 (d : Nat) (s : Nat) : Lf h12 13 [.agg ⟨(xA 10 0 0 0 false false (Int.ofNat (d + 8)) (Int.ofNat s) 0 0 0)⟩] (.tuple ⟨[.string ⟨⟨[68] ++ [15, 175] ++ [modP 192 (Int.ofNat (d + 8)) (Int.ofNat s)]⟩⟩, .int .i64 0]⟩) [(b2i (!vP 10 0 0 0 false false (Int.ofNat (d + 8)) (Int.ofNat s) 0 0 0), 0), (b2i (decide ((Int.ofNat (d + 8)) ≥ 8)), 1), (b2i (decide ((Int.ofNat s) ≥ 8)), 0)] := lf hkE_ok (ocs [(13, 11, .bool false), (30, 13, .bool true), (30, 17, .bool false)] []) (by kernel_rfl) (by kernel_rfl) (by kernel_rfl)
theorem pe10_7 (d : Nat) (s : Nat) : Lf h12 13 [.agg ⟨(xA 10 0 0 0 false false (Int.ofNat (d + 8)) (Int.ofNat (s + 8)) 0 0 0)⟩] (.tuple ⟨[.string ⟨⟨[69] ++ [15, 175] ++ [modP 192 (Int.ofNat (d + 8)) (Int.ofNat (s + 8))]⟩⟩, .int .i64 0]⟩) [(b2i (!vP 10 0 0 0 false false (Int.ofNat (d + 8)) (Int.ofNat (s + 8)) 0 0 0), 0), (b2i (decide ((Int.ofNat (d + 8)) ≥ 8)), 1), (b2i (decide ((Int.ofNat (s + 8)) ≥ 8)), 1)] := lf hkE_ok (ocs [(13, 11, .bool false), (30, 13, .bool true), (30, 17, .bool true)] []) (by kernel_rfl) (by kernel_rfl) (by kernel_rfl)
theorem pe11_0 (al : Int) (d : Nat) (im : Int) : Lf h12 13 [.agg ⟨(xA 11 al 0 0 true false (Int.ofNat d) 0 0 0 im)⟩] (.tuple ⟨[.string ⟨⟨[72] ++ [193] ++ [modP 192 al (Int.ofNat d)] ++ immP im 1⟩⟩, .int .i64 0]⟩) [(b2i (!vP 11 al 0 0 true false (Int.ofNat d) 0 0 0 im), 0), (b2i (decide (al ≥ 8)), 0), (b2i (decide ((Int.ofNat d) ≥ 8)), 0)] := lf hkE_ok (ocs [(13, 11, .bool false), (30, 13, .bool false), (30, 17, .bool false)] []) (by kernel_rfl) (by kernel_rfl) (by kernel_rfl)
theorem pe11_1 (al : Int) (d : Nat) (im : Int) : Lf h12 13 [.agg ⟨(xA 11 al 0 0 true false (Int.ofNat (d + 8)) 0 0 0 im)⟩] (.tuple ⟨[.string ⟨⟨[73] ++ [193] ++ [modP 192 al (Int.ofNat (d + 8))] ++ immP im 1⟩⟩, .int .i64 0]⟩) [(b2i (!vP 11 al 0 0 true false (Int.ofNat (d + 8)) 0 0 0 im), 0), (b2i (decide (al ≥ 8)), 0), (b2i (decide ((Int.ofNat (d + 8)) ≥ 8)), 1)] := lf hkE_ok (ocs [(13, 11, .bool false), (30, 13, .bool false), (30, 17, .bool true)] []) (by kernel_rfl) (by kernel_rfl) (by kernel_rfl)
theorem pe11_2 (al : Int) (d : Nat) (im : Int) : Lf h12 13 [.agg ⟨(xA 11 al 0 0 false false (Int.ofNat d) 0 0 0 im)⟩] (.tuple ⟨[.string ⟨⟨[193] ++ [modP 192 al (Int.ofNat d)] ++ immP im 1⟩⟩, .int .i64 0]⟩) [(b2i (!vP 11 al 0 0 false false (Int.ofNat d) 0 0 0 im), 0), (b2i (decide (al ≥ 8)), 0), (b2i (decide ((Int.ofNat d) ≥ 8)), 0)] := lf hkE_ok (ocs [(13, 11, .bool false), (30, 13, .bool false), (30, 17, .bool false)] []) (by kernel_rfl) (by kernel_rfl) (by kernel_rfl)
theorem pe11_3 (al : Int) (d : Nat) (im : Int) : Lf h12 13 [.agg ⟨(xA 11 al 0 0 false false (Int.ofNat (d + 8)) 0 0 0 im)⟩] (.tuple ⟨[.string ⟨⟨[65] ++ [193] ++ [modP 192 al (Int.ofNat (d + 8))] ++ immP im 1⟩⟩, .int .i64 0]⟩) [(b2i (!vP 11 al 0 0 false false (Int.ofNat (d + 8)) 0 0 0 im), 0), (b2i (decide (al ≥ 8)), 0), (b2i (decide ((Int.ofNat (d + 8)) ≥ 8)), 1)] := lf hkE_ok (ocs [(13, 11, .bool false), (30, 13, .bool false), (30, 17, .bool true)] []) (by kernel_rfl) (by kernel_rfl) (by kernel_rfl)
theorem pe12_0 (al : Int) (d : Nat) : Lf h12 13 [.agg ⟨(xA 12 al 0 0 true false (Int.ofNat d) 0 0 0 0)⟩] (.tuple ⟨[.string ⟨⟨[72] ++ [211] ++ [modP 192 al (Int.ofNat d)]⟩⟩, .int .i64 0]⟩) [(b2i (!vP 12 al 0 0 true false (Int.ofNat d) 0 0 0 0), 0), (b2i (decide (al ≥ 8)), 0), (b2i (decide ((Int.ofNat d) ≥ 8)), 0)] := lf hkE_ok (ocs [(13, 11, .bool false), (30, 13, .bool false), (30, 17, .bool false)] []) (by kernel_rfl) (by kernel_rfl) (by kernel_rfl)
theorem pe12_1 (al : Int) (d : Nat) : Lf h12 13 [.agg ⟨(xA 12 al 0 0 true false (Int.ofNat (d + 8)) 0 0 0 0)⟩] (.tuple ⟨[.string ⟨⟨[73] ++ [211] ++ [modP 192 al (Int.ofNat (d + 8))]⟩⟩, .int .i64 0]⟩) [(b2i (!vP 12 al 0 0 true false (Int.ofNat (d + 8)) 0 0 0 0), 0), (b2i (decide (al ≥ 8)), 0), (b2i (decide ((Int.ofNat (d + 8)) ≥ 8)), 1)] := lf hkE_ok (ocs [(13, 11, .bool false), (30, 13, .bool false), (30, 17, .bool true)] []) (by kernel_rfl) (by kernel_rfl) (by kernel_rfl)
theorem pe12_2 (al : Int) (d : Nat) : Lf h12 13 [.agg ⟨(xA 12 al 0 0 false false (Int.ofNat d) 0 0 0 0)⟩] (.tuple ⟨[.string ⟨⟨[211] ++ [modP 192 al (Int.ofNat d)]⟩⟩, .int .i64 0]⟩) [(b2i (!vP 12 al 0 0 false false (Int.ofNat d) 0 0 0 0), 0), (b2i (decide (al ≥ 8)), 0), (b2i (decide ((Int.ofNat d) ≥ 8)), 0)] := lf hkE_ok (ocs [(13, 11, .bool false), (30, 13, .bool false), (30, 17, .bool false)] []) (by kernel_rfl) (by kernel_rfl) (by kernel_rfl)
theorem pe12_3 (al : Int) (d : Nat) : Lf h12 13 [.agg ⟨(xA 12 al 0 0 false false (Int.ofNat (d + 8)) 0 0 0 0)⟩] (.tuple ⟨[.string ⟨⟨[65] ++ [211] ++ [modP 192 al (Int.ofNat (d + 8))]⟩⟩, .int .i64 0]⟩) [(b2i (!vP 12 al 0 0 false false (Int.ofNat (d + 8)) 0 0 0 0), 0), (b2i (decide (al ≥ 8)), 0), (b2i (decide ((Int.ofNat (d + 8)) ≥ 8)), 1)] := lf hkE_ok (ocs [(13, 11, .bool false), (30, 13, .bool false), (30, 17, .bool true)] []) (by kernel_rfl) (by kernel_rfl) (by kernel_rfl)
theorem pe13_0 (d : Nat) (s : Nat) (dp : Int) : Lf h12 13 [.agg ⟨(xA 13 0 0 1 false false (Int.ofNat d) (Int.ofNat s) dp 0 0)⟩] (.tuple ⟨[.string ⟨⟨[15, 182] ++ [modP 128 (Int.ofNat d) (Int.ofNat s)] ++ [36] ++ immP dp 4⟩⟩, .int .i64 0]⟩) [(b2i (!vP 13 0 0 1 false false (Int.ofNat d) (Int.ofNat s) dp 0 0), 0), (b2i (decide ((Int.ofNat d) ≥ 8)), 0), (b2i (decide ((Int.ofNat s) ≥ 8)), 0), (b2i (Int.tmod (Int.ofNat s) 8 == 4), 1)] := lf hkE_ok (ocs [(13, 11, .bool false), (30, 13, .bool false), (30, 17, .bool false), (32, 36, .bool true)] []) (by kernel_rfl) (by kernel_rfl) (by kernel_rfl)
theorem pe13_1 (d : Nat) (s : Nat) (dp : Int) : Lf h12 13 [.agg ⟨(xA 13 0 0 1 false false (Int.ofNat d) (Int.ofNat s) dp 0 0)⟩] (.tuple ⟨[.string ⟨⟨[15, 182] ++ [modP 128 (Int.ofNat d) (Int.ofNat s)] ++ immP dp 4⟩⟩, .int .i64 0]⟩) [(b2i (!vP 13 0 0 1 false false (Int.ofNat d) (Int.ofNat s) dp 0 0), 0), (b2i (decide ((Int.ofNat d) ≥ 8)), 0), (b2i (decide ((Int.ofNat s) ≥ 8)), 0), (b2i (Int.tmod (Int.ofNat s) 8 == 4), 0)] := lf hkE_ok (ocs [(13, 11, .bool false), (30, 13, .bool false), (30, 17, .bool false), (32, 36, .bool false)] []) (by kernel_rfl) (by kernel_rfl) (by kernel_rfl)
theorem pe13_2 (d : Nat) (s : Nat) (dp : Int) : Lf h12 13 [.agg ⟨(xA 13 0 0 1 false false (Int.ofNat d) (Int.ofNat (s + 8)) dp 0 0)⟩] (.tuple ⟨[.string ⟨⟨[65] ++ [15, 182] ++ [modP 128 (Int.ofNat d) (Int.ofNat (s + 8))] ++ [36] ++ immP dp 4⟩⟩, .int .i64 0]⟩) [(b2i (!vP 13 0 0 1 false false (Int.ofNat d) (Int.ofNat (s + 8)) dp 0 0), 0), (b2i (decide ((Int.ofNat d) ≥ 8)), 0), (b2i (decide ((Int.ofNat (s + 8)) ≥ 8)), 1), (b2i (Int.tmod (Int.ofNat (s + 8)) 8 == 4), 1)] := lf hkE_ok (ocs [(13, 11, .bool false), (30, 13, .bool false), (30, 17, .bool true), (32, 36, .bool true)] []) (by kernel_rfl) (by kernel_rfl) (by kernel_rfl)
theorem pe13_3 (d : Nat) (s : Nat) (dp : Int) : Lf h12 13 [.agg ⟨(xA 13 0 0 1 false false (Int.ofNat d) (Int.ofNat (s + 8)) dp 0 0)⟩] (.tuple ⟨[.string ⟨⟨[65] ++ [15, 182] ++ [modP 128 (Int.ofNat d) (Int.ofNat (s + 8))] ++ immP dp 4⟩⟩, .int .i64 0]⟩) [(b2i (!vP 13 0 0 1 false false (Int.ofNat d) (Int.ofNat (s + 8)) dp 0 0), 0), (b2i (decide ((Int.ofNat d) ≥ 8)), 0), (b2i (decide ((Int.ofNat (s + 8)) ≥ 8)), 1), (b2i (Int.tmod (Int.ofNat (s + 8)) 8 == 4), 0)] := lf hkE_ok (ocs [(13, 11, .bool false), (30, 13, .bool false), (30, 17, .bool true), (32, 36, .bool false)] []) (by kernel_rfl) (by kernel_rfl) (by kernel_rfl)
theorem pe13_4 (d : Nat) (s : Nat) (dp : Int) : Lf h12 13 [.agg ⟨(xA 13 0 0 1 false false (Int.ofNat (d + 8)) (Int.ofNat s) dp 0 0)⟩] (.tuple ⟨[.string ⟨⟨[68] ++ [15, 182] ++ [modP 128 (Int.ofNat (d + 8)) (Int.ofNat s)] ++ [36] ++ immP dp 4⟩⟩, .int .i64 0]⟩) [(b2i (!vP 13 0 0 1 false false (Int.ofNat (d + 8)) (Int.ofNat s) dp 0 0), 0), (b2i (decide ((Int.ofNat (d + 8)) ≥ 8)), 1), (b2i (decide ((Int.ofNat s) ≥ 8)), 0), (b2i (Int.tmod (Int.ofNat s) 8 == 4), 1)] := lf hkE_ok (ocs [(13, 11, .bool false), (30, 13, .bool true), (30, 17, .bool false), (32, 36, .bool true)] []) (by kernel_rfl) (by kernel_rfl) (by kernel_rfl)
theorem pe13_5 (d : Nat) (s : Nat) (dp : Int) : Lf h12 13 [.agg ⟨(xA 13 0 0 1 false false (Int.ofNat (d + 8)) (Int.ofNat s) dp 0 0)⟩] (.tuple ⟨[.string ⟨⟨[68] ++ [15, 182] ++ [modP 128 (Int.ofNat (d + 8)) (Int.ofNat s)] ++ immP dp 4⟩⟩, .int .i64 0]⟩) [(b2i (!vP 13 0 0 1 false false (Int.ofNat (d + 8)) (Int.ofNat s) dp 0 0), 0), (b2i (decide ((Int.ofNat (d + 8)) ≥ 8)), 1), (b2i (decide ((Int.ofNat s) ≥ 8)), 0), (b2i (Int.tmod (Int.ofNat s) 8 == 4), 0)] := lf hkE_ok (ocs [(13, 11, .bool false), (30, 13, .bool true), (30, 17, .bool false), (32, 36, .bool false)] []) (by kernel_rfl) (by kernel_rfl) (by kernel_rfl)
theorem pe13_6 (d : Nat) (s : Nat) (dp : Int) : Lf h12 13 [.agg ⟨(xA 13 0 0 1 false false (Int.ofNat (d + 8)) (Int.ofNat (s + 8)) dp 0 0)⟩] (.tuple ⟨[.string ⟨⟨[69] ++ [15, 182] ++ [modP 128 (Int.ofNat (d + 8)) (Int.ofNat (s + 8))] ++ [36] ++ immP dp 4⟩⟩, .int .i64 0]⟩) [(b2i (!vP 13 0 0 1 false false (Int.ofNat (d + 8)) (Int.ofNat (s + 8)) dp 0 0), 0), (b2i (decide ((Int.ofNat (d + 8)) ≥ 8)), 1), (b2i (decide ((Int.ofNat (s + 8)) ≥ 8)), 1), (b2i (Int.tmod (Int.ofNat (s + 8)) 8 == 4), 1)] := lf hkE_ok (ocs [(13, 11, .bool false), (30, 13, .bool true), (30, 17, .bool true), (32, 36, .bool true)] []) (by kernel_rfl) (by kernel_rfl) (by kernel_rfl)
theorem pe13_7 (d : Nat) (s : Nat) (dp : Int) : Lf h12 13 [.agg ⟨(xA 13 0 0 1 false false (Int.ofNat (d + 8)) (Int.ofNat (s + 8)) dp 0 0)⟩] (.tuple ⟨[.string ⟨⟨[69] ++ [15, 182] ++ [modP 128 (Int.ofNat (d + 8)) (Int.ofNat (s + 8))] ++ immP dp 4⟩⟩, .int .i64 0]⟩) [(b2i (!vP 13 0 0 1 false false (Int.ofNat (d + 8)) (Int.ofNat (s + 8)) dp 0 0), 0), (b2i (decide ((Int.ofNat (d + 8)) ≥ 8)), 1), (b2i (decide ((Int.ofNat (s + 8)) ≥ 8)), 1), (b2i (Int.tmod (Int.ofNat (s + 8)) 8 == 4), 0)] := lf hkE_ok (ocs [(13, 11, .bool false), (30, 13, .bool true), (30, 17, .bool true), (32, 36, .bool false)] []) (by kernel_rfl) (by kernel_rfl) (by kernel_rfl)
theorem pe13_8 (d : Nat) (s : Nat) (dp : Int) : Lf h12 13 [.agg ⟨(xA 13 0 0 2 false false (Int.ofNat d) (Int.ofNat s) dp 0 0)⟩] (.tuple ⟨[.string ⟨⟨[15, 183] ++ [modP 128 (Int.ofNat d) (Int.ofNat s)] ++ [36] ++ immP dp 4⟩⟩, .int .i64 0]⟩) [(b2i (!vP 13 0 0 2 false false (Int.ofNat d) (Int.ofNat s) dp 0 0), 0), (b2i (decide ((Int.ofNat d) ≥ 8)), 0), (b2i (decide ((Int.ofNat s) ≥ 8)), 0), (b2i (Int.tmod (Int.ofNat s) 8 == 4), 1)] := lf hkE_ok (ocs [(13, 11, .bool false), (30, 13, .bool false), (30, 17, .bool false), (32, 36, .bool true)] []) (by kernel_rfl) (by kernel_rfl) (by kernel_rfl)
theorem pe13_9 (d : Nat) (s : Nat) (dp : Int) : Lf h12 13 [.agg ⟨(xA 13 0 0 2 false false (Int.ofNat d) (Int.ofNat s) dp 0 0)⟩] (.tuple ⟨[.string ⟨⟨[15, 183] ++ [modP 128 (Int.ofNat d) (Int.ofNat s)] ++ immP dp 4⟩⟩, .int .i64 0]⟩) [(b2i (!vP 13 0 0 2 false false (Int.ofNat d) (Int.ofNat s) dp 0 0), 0), (b2i (decide ((Int.ofNat d) ≥ 8)), 0), (b2i (decide ((Int.ofNat s) ≥ 8)), 0), (b2i (Int.tmod (Int.ofNat s) 8 == 4), 0)] := lf hkE_ok (ocs [(13, 11, .bool false), (30, 13, .bool false), (30, 17, .bool false), (32, 36, .bool false)] []) (by kernel_rfl) (by kernel_rfl) (by kernel_rfl)
theorem pe13_10 (d : Nat) (s : Nat) (dp : Int) : Lf h12 13 [.agg ⟨(xA 13 0 0 2 false false (Int.ofNat d) (Int.ofNat (s + 8)) dp 0 0)⟩] (.tuple ⟨[.string ⟨⟨[65] ++ [15, 183] ++ [modP 128 (Int.ofNat d) (Int.ofNat (s + 8))] ++ [36] ++ immP dp 4⟩⟩, .int .i64 0]⟩) [(b2i (!vP 13 0 0 2 false false (Int.ofNat d) (Int.ofNat (s + 8)) dp 0 0), 0), (b2i (decide ((Int.ofNat d) ≥ 8)), 0), (b2i (decide ((Int.ofNat (s + 8)) ≥ 8)), 1), (b2i (Int.tmod (Int.ofNat (s + 8)) 8 == 4), 1)] := lf hkE_ok (ocs [(13, 11, .bool false), (30, 13, .bool false), (30, 17, .bool true), (32, 36, .bool true)] []) (by kernel_rfl) (by kernel_rfl) (by kernel_rfl)
theorem pe13_11 (d : Nat) (s : Nat) (dp : Int) : Lf h12 13 [.agg ⟨(xA 13 0 0 2 false false (Int.ofNat d) (Int.ofNat (s + 8)) dp 0 0)⟩] (.tuple ⟨[.string ⟨⟨[65] ++ [15, 183] ++ [modP 128 (Int.ofNat d) (Int.ofNat (s + 8))] ++ immP dp 4⟩⟩, .int .i64 0]⟩) [(b2i (!vP 13 0 0 2 false false (Int.ofNat d) (Int.ofNat (s + 8)) dp 0 0), 0), (b2i (decide ((Int.ofNat d) ≥ 8)), 0), (b2i (decide ((Int.ofNat (s + 8)) ≥ 8)), 1), (b2i (Int.tmod (Int.ofNat (s + 8)) 8 == 4), 0)] := lf hkE_ok (ocs [(13, 11, .bool false), (30, 13, .bool false), (30, 17, .bool true), (32, 36, .bool false)] []) (by kernel_rfl) (by kernel_rfl) (by kernel_rfl)
theorem pe13_12 (d : Nat) (s : Nat) (dp : Int) : Lf h12 13 [.agg ⟨(xA 13 0 0 2 false false (Int.ofNat (d + 8)) (Int.ofNat s) dp 0 0)⟩] (.tuple ⟨[.string ⟨⟨[68] ++ [15, 183] ++ [modP 128 (Int.ofNat (d + 8)) (Int.ofNat s)] ++ [36] ++ immP dp 4⟩⟩, .int .i64 0]⟩) [(b2i (!vP 13 0 0 2 false false (Int.ofNat (d + 8)) (Int.ofNat s) dp 0 0), 0), (b2i (decide ((Int.ofNat (d + 8)) ≥ 8)), 1), (b2i (decide ((Int.ofNat s) ≥ 8)), 0), (b2i (Int.tmod (Int.ofNat s) 8 == 4), 1)] := lf hkE_ok (ocs [(13, 11, .bool false), (30, 13, .bool true), (30, 17, .bool false), (32, 36, .bool true)] []) (by kernel_rfl) (by kernel_rfl) (by kernel_rfl)
theorem pe13_13 (d : Nat) (s : Nat) (dp : Int) : Lf h12 13 [.agg ⟨(xA 13 0 0 2 false false (Int.ofNat (d + 8)) (Int.ofNat s) dp 0 0)⟩] (.tuple ⟨[.string ⟨⟨[68] ++ [15, 183] ++ [modP 128 (Int.ofNat (d + 8)) (Int.ofNat s)] ++ immP dp 4⟩⟩, .int .i64 0]⟩) [(b2i (!vP 13 0 0 2 false false (Int.ofNat (d + 8)) (Int.ofNat s) dp 0 0), 0), (b2i (decide ((Int.ofNat (d + 8)) ≥ 8)), 1), (b2i (decide ((Int.ofNat s) ≥ 8)), 0), (b2i (Int.tmod (Int.ofNat s) 8 == 4), 0)] := lf hkE_ok (ocs [(13, 11, .bool false), (30, 13, .bool true), (30, 17, .bool false), (32, 36, .bool false)] []) (by kernel_rfl) (by kernel_rfl) (by kernel_rfl)
theorem pe13_14 (d : Nat) (s : Nat) (dp : Int) : Lf h12 13 [.agg ⟨(xA 13 0 0 2 false false (Int.ofNat (d + 8)) (Int.ofNat (s + 8)) dp 0 0)⟩] (.tuple ⟨[.string ⟨⟨[69] ++ [15, 183] ++ [modP 128 (Int.ofNat (d + 8)) (Int.ofNat (s + 8))] ++ [36] ++ immP dp 4⟩⟩, .int .i64 0]⟩) [(b2i (!vP 13 0 0 2 false false (Int.ofNat (d + 8)) (Int.ofNat (s + 8)) dp 0 0), 0), (b2i (decide ((Int.ofNat (d + 8)) ≥ 8)), 1), (b2i (decide ((Int.ofNat (s + 8)) ≥ 8)), 1), (b2i (Int.tmod (Int.ofNat (s + 8)) 8 == 4), 1)] := lf hkE_ok (ocs [(13, 11, .bool false), (30, 13, .bool true), (30, 17, .bool true), (32, 36, .bool true)] []) (by kernel_rfl) (by kernel_rfl) (by kernel_rfl)
theorem pe13_15 (d : Nat) (s : Nat) (dp : Int) : Lf h12 13 [.agg ⟨(xA 13 0 0 2 false false (Int.ofNat (d + 8)) (Int.ofNat (s + 8)) dp 0 0)⟩] (.tuple ⟨[.string ⟨⟨[69] ++ [15, 183] ++ [modP 128 (Int.ofNat (d + 8)) (Int.ofNat (s + 8))] ++ immP dp 4⟩⟩, .int .i64 0]⟩) [(b2i (!vP 13 0 0 2 false false (Int.ofNat (d + 8)) (Int.ofNat (s + 8)) dp 0 0), 0), (b2i (decide ((Int.ofNat (d + 8)) ≥ 8)), 1), (b2i (decide ((Int.ofNat (s + 8)) ≥ 8)), 1), (b2i (Int.tmod (Int.ofNat (s + 8)) 8 == 4), 0)] := lf hkE_ok (ocs [(13, 11, .bool false), (30, 13, .bool true), (30, 17, .bool true), (32, 36, .bool false)] []) (by kernel_rfl) (by kernel_rfl) (by kernel_rfl)
theorem pe13_16 (d : Nat) (s : Nat) (dp : Int) : Lf h12 13 [.agg ⟨(xA 13 0 0 4 false false (Int.ofNat d) (Int.ofNat s) dp 0 0)⟩] (.tuple ⟨[.string ⟨⟨[139] ++ [modP 128 (Int.ofNat d) (Int.ofNat s)] ++ [36] ++ immP dp 4⟩⟩, .int .i64 0]⟩) [(b2i (!vP 13 0 0 4 false false (Int.ofNat d) (Int.ofNat s) dp 0 0), 0), (b2i (decide ((Int.ofNat d) ≥ 8)), 0), (b2i (decide ((Int.ofNat s) ≥ 8)), 0), (b2i (Int.tmod (Int.ofNat s) 8 == 4), 1)] := lf hkE_ok (ocs [(13, 11, .bool false), (30, 13, .bool false), (30, 17, .bool false), (32, 36, .bool true)] []) (by kernel_rfl) (by kernel_rfl) (by kernel_rfl)
theorem pe13_17 (d : Nat) (s : Nat) (dp : Int) : Lf h12 13 [.agg ⟨(xA 13 0 0 4 false false (Int.ofNat d) (Int.ofNat s) dp 0 0)⟩] (.tuple ⟨[.string ⟨⟨[139] ++ [modP 128 (Int.ofNat d) (Int.ofNat s)] ++ immP dp 4⟩⟩, .int .i64 0]⟩) [(b2i (!vP 13 0 0 4 false false (Int.ofNat d) (Int.ofNat s) dp 0 0), 0), (b2i (decide ((Int.ofNat d) ≥ 8)), 0), (b2i (decide ((Int.ofNat s) ≥ 8)), 0), (b2i (Int.tmod (Int.ofNat s) 8 == 4), 0)] := lf hkE_ok (ocs [(13, 11, .bool false), (30, 13, .bool false), (30, 17, .bool false), (32, 36, .bool false)] []) (by kernel_rfl) (by kernel_rfl) (by kernel_rfl)
theorem pe13_18 (d : Nat) (s : Nat) (dp : Int) : Lf h12 13 [.agg ⟨(xA 13 0 0 4 false false (Int.ofNat d) (Int.ofNat (s + 8)) dp 0 0)⟩] (.tuple ⟨[.string ⟨⟨[65] ++ [139] ++ [modP 128 (Int.ofNat d) (Int.ofNat (s + 8))] ++ [36] ++ immP dp 4⟩⟩, .int .i64 0]⟩) [(b2i (!vP 13 0 0 4 false false (Int.ofNat d) (Int.ofNat (s + 8)) dp 0 0), 0), (b2i (decide ((Int.ofNat d) ≥ 8)), 0), (b2i (decide ((Int.ofNat (s + 8)) ≥ 8)), 1), (b2i (Int.tmod (Int.ofNat (s + 8)) 8 == 4), 1)] := lf hkE_ok (ocs [(13, 11, .bool false), (30, 13, .bool false), (30, 17, .bool true), (32, 36, .bool true)] []) (by kernel_rfl) (by kernel_rfl) (by kernel_rfl)
theorem pe13_19 (d : Nat) (s : Nat) (dp : Int) : Lf h12 13 [.agg ⟨(xA 13 0 0 4 false false (Int.ofNat d) (Int.ofNat (s + 8)) dp 0 0)⟩] (.tuple ⟨[.string ⟨⟨[65] ++ [139] ++ [modP 128 (Int.ofNat d) (Int.ofNat (s + 8))] ++ immP dp 4⟩⟩, .int .i64 0]⟩) [(b2i (!vP 13 0 0 4 false false (Int.ofNat d) (Int.ofNat (s + 8)) dp 0 0), 0), (b2i (decide ((Int.ofNat d) ≥ 8)), 0), (b2i (decide ((Int.ofNat (s + 8)) ≥ 8)), 1), (b2i (Int.tmod (Int.ofNat (s + 8)) 8 == 4), 0)] := lf hkE_ok (ocs [(13, 11, .bool false), (30, 13, .bool false), (30, 17, .bool true), (32, 36, .bool false)] []) (by kernel_rfl) (by kernel_rfl) (by kernel_rfl)
theorem pe13_20 (d : Nat) (s : Nat) (dp : Int) : Lf h12 13 [.agg ⟨(xA 13 0 0 4 false false (Int.ofNat (d + 8)) (Int.ofNat s) dp 0 0)⟩] (.tuple ⟨[.string ⟨⟨[68] ++ [139] ++ [modP 128 (Int.ofNat (d + 8)) (Int.ofNat s)] ++ [36] ++ immP dp 4⟩⟩, .int .i64 0]⟩) [(b2i (!vP 13 0 0 4 false false (Int.ofNat (d + 8)) (Int.ofNat s) dp 0 0), 0), (b2i (decide ((Int.ofNat (d + 8)) ≥ 8)), 1), (b2i (decide ((Int.ofNat s) ≥ 8)), 0), (b2i (Int.tmod (Int.ofNat s) 8 == 4), 1)] := lf hkE_ok (ocs [(13, 11, .bool false), (30, 13, .bool true), (30, 17, .bool false), (32, 36, .bool true)] []) (by kernel_rfl) (by kernel_rfl) (by kernel_rfl)
theorem pe13_21 (d : Nat) (s : Nat) (dp : Int) : Lf h12 13 [.agg ⟨(xA 13 0 0 4 false false (Int.ofNat (d + 8)) (Int.ofNat s) dp 0 0)⟩] (.tuple ⟨[.string ⟨⟨[68] ++ [139] ++ [modP 128 (Int.ofNat (d + 8)) (Int.ofNat s)] ++ immP dp 4⟩⟩, .int .i64 0]⟩) [(b2i (!vP 13 0 0 4 false false (Int.ofNat (d + 8)) (Int.ofNat s) dp 0 0), 0), (b2i (decide ((Int.ofNat (d + 8)) ≥ 8)), 1), (b2i (decide ((Int.ofNat s) ≥ 8)), 0), (b2i (Int.tmod (Int.ofNat s) 8 == 4), 0)] := lf hkE_ok (ocs [(13, 11, .bool false), (30, 13, .bool true), (30, 17, .bool false), (32, 36, .bool false)] []) (by kernel_rfl) (by kernel_rfl) (by kernel_rfl)
theorem pe13_22 (d : Nat) (s : Nat) (dp : Int) : Lf h12 13 [.agg ⟨(xA 13 0 0 4 false false (Int.ofNat (d + 8)) (Int.ofNat (s + 8)) dp 0 0)⟩] (.tuple ⟨[.string ⟨⟨[69] ++ [139] ++ [modP 128 (Int.ofNat (d + 8)) (Int.ofNat (s + 8))] ++ [36] ++ immP dp 4⟩⟩, .int .i64 0]⟩) [(b2i (!vP 13 0 0 4 false false (Int.ofNat (d + 8)) (Int.ofNat (s + 8)) dp 0 0), 0), (b2i (decide ((Int.ofNat (d + 8)) ≥ 8)), 1), (b2i (decide ((Int.ofNat (s + 8)) ≥ 8)), 1), (b2i (Int.tmod (Int.ofNat (s + 8)) 8 == 4), 1)] := lf hkE_ok (ocs [(13, 11, .bool false), (30, 13, .bool true), (30, 17, .bool true), (32, 36, .bool true)] []) (by kernel_rfl) (by kernel_rfl) (by kernel_rfl)
theorem pe13_23 (d : Nat) (s : Nat) (dp : Int) : Lf h12 13 [.agg ⟨(xA 13 0 0 4 false false (Int.ofNat (d + 8)) (Int.ofNat (s + 8)) dp 0 0)⟩] (.tuple ⟨[.string ⟨⟨[69] ++ [139] ++ [modP 128 (Int.ofNat (d + 8)) (Int.ofNat (s + 8))] ++ immP dp 4⟩⟩, .int .i64 0]⟩) [(b2i (!vP 13 0 0 4 false false (Int.ofNat (d + 8)) (Int.ofNat (s + 8)) dp 0 0), 0), (b2i (decide ((Int.ofNat (d + 8)) ≥ 8)), 1), (b2i (decide ((Int.ofNat (s + 8)) ≥ 8)), 1), (b2i (Int.tmod (Int.ofNat (s + 8)) 8 == 4), 0)] := lf hkE_ok (ocs [(13, 11, .bool false), (30, 13, .bool true), (30, 17, .bool true), (32, 36, .bool false)] []) (by kernel_rfl) (by kernel_rfl) (by kernel_rfl)
theorem pe13_24 (d : Nat) (s : Nat) (dp : Int) : Lf h12 13 [.agg ⟨(xA 13 0 0 8 true false (Int.ofNat d) (Int.ofNat s) dp 0 0)⟩] (.tuple ⟨[.string ⟨⟨[72] ++ [139] ++ [modP 128 (Int.ofNat d) (Int.ofNat s)] ++ [36] ++ immP dp 4⟩⟩, .int .i64 0]⟩) [(b2i (!vP 13 0 0 8 true false (Int.ofNat d) (Int.ofNat s) dp 0 0), 0), (b2i (decide ((Int.ofNat d) ≥ 8)), 0), (b2i (decide ((Int.ofNat s) ≥ 8)), 0), (b2i (Int.tmod (Int.ofNat s) 8 == 4), 1)] := lf hkE_ok (ocs [(13, 11, .bool false), (30, 13, .bool false), (30, 17, .bool false), (32, 36, .bool true)] []) (by kernel_rfl) (by kernel_rfl) (by kernel_rfl)
theorem pe13_25 (d : Nat) (s : Nat) (dp : Int) : Lf h12 13 [.agg ⟨(xA 13 0 0 8 true false (Int.ofNat d) (Int.ofNat s) dp 0 0)⟩] (.tuple ⟨[.string ⟨⟨[72] ++ [139] ++ [modP 128 (Int.ofNat d) (Int.ofNat s)] ++ immP dp 4⟩⟩, .int .i64 0]⟩) [(b2i (!vP 13 0 0 8 true false (Int.ofNat d) (Int.ofNat s) dp 0 0), 0), (b2i (decide ((Int.ofNat d) ≥ 8)), 0), (b2i (decide ((Int.ofNat s) ≥ 8)), 0), (b2i (Int.tmod (Int.ofNat s) 8 == 4), 0)] := lf hkE_ok (ocs [(13, 11, .bool false), (30, 13, .bool false), (30, 17, .bool false), (32, 36, .bool false)] []) (by kernel_rfl) (by kernel_rfl) (by kernel_rfl)
theorem pe13_26 (d : Nat) (s : Nat) (dp : Int) : Lf h12 13 [.agg ⟨(xA 13 0 0 8 true false (Int.ofNat d) (Int.ofNat (s + 8)) dp 0 0)⟩] (.tuple ⟨[.string ⟨⟨[73] ++ [139] ++ [modP 128 (Int.ofNat d) (Int.ofNat (s + 8))] ++ [36] ++ immP dp 4⟩⟩, .int .i64 0]⟩) [(b2i (!vP 13 0 0 8 true false (Int.ofNat d) (Int.ofNat (s + 8)) dp 0 0), 0), (b2i (decide ((Int.ofNat d) ≥ 8)), 0), (b2i (decide ((Int.ofNat (s + 8)) ≥ 8)), 1), (b2i (Int.tmod (Int.ofNat (s + 8)) 8 == 4), 1)] := lf hkE_ok (ocs [(13, 11, .bool false), (30, 13, .bool false), (30, 17, .bool true), (32, 36, .bool true)] []) (by kernel_rfl) (by kernel_rfl) (by kernel_rfl)
theorem pe13_27 (d : Nat) (s : Nat) (dp : Int) : Lf h12 13 [.agg ⟨(xA 13 0 0 8 true false (Int.ofNat d) (Int.ofNat (s + 8)) dp 0 0)⟩] (.tuple ⟨[.string ⟨⟨[73] ++ [139] ++ [modP 128 (Int.ofNat d) (Int.ofNat (s + 8))] ++ immP dp 4⟩⟩, .int .i64 0]⟩) [(b2i (!vP 13 0 0 8 true false (Int.ofNat d) (Int.ofNat (s + 8)) dp 0 0), 0), (b2i (decide ((Int.ofNat d) ≥ 8)), 0), (b2i (decide ((Int.ofNat (s + 8)) ≥ 8)), 1), (b2i (Int.tmod (Int.ofNat (s + 8)) 8 == 4), 0)] := lf hkE_ok (ocs [(13, 11, .bool false), (30, 13, .bool false), (30, 17, .bool true), (32, 36, .bool false)] []) (by kernel_rfl) (by kernel_rfl) (by kernel_rfl)
theorem pe13_28 (d : Nat) (s : Nat) (dp : Int) : Lf h12 13 [.agg ⟨(xA 13 0 0 8 true false (Int.ofNat (d + 8)) (Int.ofNat s) dp 0 0)⟩] (.tuple ⟨[.string ⟨⟨[76] ++ [139] ++ [modP 128 (Int.ofNat (d + 8)) (Int.ofNat s)] ++ [36] ++ immP dp 4⟩⟩, .int .i64 0]⟩) [(b2i (!vP 13 0 0 8 true false (Int.ofNat (d + 8)) (Int.ofNat s) dp 0 0), 0), (b2i (decide ((Int.ofNat (d + 8)) ≥ 8)), 1), (b2i (decide ((Int.ofNat s) ≥ 8)), 0), (b2i (Int.tmod (Int.ofNat s) 8 == 4), 1)] := lf hkE_ok (ocs [(13, 11, .bool false), (30, 13, .bool true), (30, 17, .bool false), (32, 36, .bool true)] []) (by kernel_rfl) (by kernel_rfl) (by kernel_rfl)
theorem pe13_29 (d : Nat) (s : Nat) (dp : Int) : Lf h12 13 [.agg ⟨(xA 13 0 0 8 true false (Int.ofNat (d + 8)) (Int.ofNat s) dp 0 0)⟩] (.tuple ⟨[.string ⟨⟨[76] ++ [139] ++ [modP 128 (Int.ofNat (d + 8)) (Int.ofNat s)] ++ immP dp 4⟩⟩, .int .i64 0]⟩) [(b2i (!vP 13 0 0 8 true false (Int.ofNat (d + 8)) (Int.ofNat s) dp 0 0), 0), (b2i (decide ((Int.ofNat (d + 8)) ≥ 8)), 1), (b2i (decide ((Int.ofNat s) ≥ 8)), 0), (b2i (Int.tmod (Int.ofNat s) 8 == 4), 0)] := lf hkE_ok (ocs [(13, 11, .bool false), (30, 13, .bool true), (30, 17, .bool false), (32, 36, .bool false)] []) (by kernel_rfl) (by kernel_rfl) (by kernel_rfl)
theorem pe13_30 (d : Nat) (s : Nat) (dp : Int) : Lf h12 13 [.agg ⟨(xA 13 0 0 8 true false (Int.ofNat (d + 8)) (Int.ofNat (s + 8)) dp 0 0)⟩] (.tuple ⟨[.string ⟨⟨[77] ++ [139] ++ [modP 128 (Int.ofNat (d + 8)) (Int.ofNat (s + 8))] ++ [36] ++ immP dp 4⟩⟩, .int .i64 0]⟩) [(b2i (!vP 13 0 0 8 true false (Int.ofNat (d + 8)) (Int.ofNat (s + 8)) dp 0 0), 0), (b2i (decide ((Int.ofNat (d + 8)) ≥ 8)), 1), (b2i (decide ((Int.ofNat (s + 8)) ≥ 8)), 1), (b2i (Int.tmod (Int.ofNat (s + 8)) 8 == 4), 1)] := lf hkE_ok (ocs [(13, 11, .bool false), (30, 13, .bool true), (30, 17, .bool true), (32, 36, .bool true)] []) (by kernel_rfl) (by kernel_rfl) (by kernel_rfl)
theorem pe13_31 (d : Nat) (s : Nat) (dp : Int) : Lf h12 13 [.agg ⟨(xA 13 0 0 8 true false (Int.ofNat (d + 8)) (Int.ofNat (s + 8)) dp 0 0)⟩] (.tuple ⟨[.string ⟨⟨[77] ++ [139] ++ [modP 128 (Int.ofNat (d + 8)) (Int.ofNat (s + 8))] ++ immP dp 4⟩⟩, .int .i64 0]⟩) [(b2i (!vP 13 0 0 8 true false (Int.ofNat (d + 8)) (Int.ofNat (s + 8)) dp 0 0), 0), (b2i (decide ((Int.ofNat (d + 8)) ≥ 8)), 1), (b2i (decide ((Int.ofNat (s + 8)) ≥ 8)), 1), (b2i (Int.tmod (Int.ofNat (s + 8)) 8 == 4), 0)] := lf hkE_ok (ocs [(13, 11, .bool false), (30, 13, .bool true), (30, 17, .bool true), (32, 36, .bool false)] []) (by kernel_rfl) (by kernel_rfl) (by kernel_rfl)
theorem pe14_0 (d : Nat) (s : Nat) (dp : Int) : Lf h12 13 [.agg ⟨(xA 14 0 0 1 false false (Int.ofNat d) (Int.ofNat s) dp 0 0)⟩] (.tuple ⟨[.string ⟨⟨[64] ++ [136] ++ [modP 128 (Int.ofNat s) (Int.ofNat d)] ++ [36] ++ immP dp 4⟩⟩, .int .i64 0]⟩) [(b2i (!vP 14 0 0 1 false false (Int.ofNat d) (Int.ofNat s) dp 0 0), 0), (b2i (decide ((Int.ofNat s) ≥ 8)), 0), (b2i (decide ((Int.ofNat d) ≥ 8)), 0), (b2i (Int.tmod (Int.ofNat d) 8 == 4), 1)] := lf hkE_ok (ocs [(13, 11, .bool false), (30, 13, .bool false), (30, 17, .bool false), (32, 36, .bool true)] []) (by kernel_rfl) (by kernel_rfl) (by kernel_rfl)
theorem pe14_1 (d : Nat) (s : Nat) (dp : Int) : Lf h12 13 [.agg ⟨(xA 14 0 0 1 false false (Int.ofNat d) (Int.ofNat s) dp 0 0)⟩] (.tuple ⟨[.string ⟨⟨[64] ++ [136] ++ [modP 128 (Int.ofNat s) (Int.ofNat d)] ++ immP dp 4⟩⟩, .int .i64 0]⟩) [(b2i (!vP 14 0 0 1 false false (Int.ofNat d) (Int.ofNat s) dp 0 0), 0), (b2i (decide ((Int.ofNat s) ≥ 8)), 0), (b2i (decide ((Int.ofNat d) ≥ 8)), 0), (b2i (Int.tmod (Int.ofNat d) 8 == 4), 0)] := lf hkE_ok (ocs [(13, 11, .bool false), (30, 13, .bool false), (30, 17, .bool false), (32, 36, .bool false)] []) (by kernel_rfl) (by kernel_rfl) (by kernel_rfl)
theorem pe14_2 (d : Nat) (s : Nat) (dp : Int) : Lf h12 13 [.agg ⟨(xA 14 0 0 1 false false (Int.ofNat d) (Int.ofNat (s + 8)) dp 0 0)⟩] (.tuple ⟨[.string ⟨⟨[68] ++ [136] ++ [modP 128 (Int.ofNat (s + 8)) (Int.ofNat d)] ++ [36] ++ immP dp 4⟩⟩, .int .i64 0]⟩) [(b2i (!vP 14 0 0 1 false false (Int.ofNat d) (Int.ofNat (s + 8)) dp 0 0), 0), (b2i (decide ((Int.ofNat (s + 8)) ≥ 8)), 1), (b2i (decide ((Int.ofNat d) ≥ 8)), 0), (b2i (Int.tmod (Int.ofNat d) 8 == 4), 1)] := lf hkE_ok (ocs [(13, 11, .bool false), (30, 13, .bool true), (30, 17, .bool false), (32, 36, .bool true)] []) (by kernel_rfl) (by kernel_rfl) (by kernel_rfl)
theorem pe14_3 (d : Nat) (s : Nat) (dp : Int) : Lf h12 13 [.agg ⟨(xA 14 0 0 1 false false (Int.ofNat d) (Int.ofNat (s + 8)) dp 0 0)⟩] (.tuple ⟨[.string ⟨⟨[68] ++ [136] ++ [modP 128 (Int.ofNat (s + 8)) (Int.ofNat d)] ++ immP dp 4⟩⟩, .int .i64 0]⟩) [(b2i (!vP 14 0 0 1 false false (Int.ofNat d) (Int.ofNat (s + 8)) dp 0 0), 0), (b2i (decide ((Int.ofNat (s + 8)) ≥ 8)), 1), (b2i (decide ((Int.ofNat d) ≥ 8)), 0), (b2i (Int.tmod (Int.ofNat d) 8 == 4), 0)] := lf hkE_ok (ocs [(13, 11, .bool false), (30, 13, .bool true), (30, 17, .bool false), (32, 36, .bool false)] []) (by kernel_rfl) (by kernel_rfl) (by kernel_rfl)
theorem pe14_4 (d : Nat) (s : Nat) (dp : Int) : Lf h12 13 [.agg ⟨(xA 14 0 0 1 false false (Int.ofNat (d + 8)) (Int.ofNat s) dp 0 0)⟩] (.tuple ⟨[.string ⟨⟨[65] ++ [136] ++ [modP 128 (Int.ofNat s) (Int.ofNat (d + 8))] ++ [36] ++ immP dp 4⟩⟩, .int .i64 0]⟩) [(b2i (!vP 14 0 0 1 false false (Int.ofNat (d + 8)) (Int.ofNat s) dp 0 0), 0), (b2i (decide ((Int.ofNat s) ≥ 8)), 0), (b2i (decide ((Int.ofNat (d + 8)) ≥ 8)), 1), (b2i (Int.tmod (Int.ofNat (d + 8)) 8 == 4), 1)] := lf hkE_ok (ocs [(13, 11, .bool false), (30, 13, .bool false), (30, 17, .bool true), (32, 36, .bool true)] []) (by kernel_rfl) (by kernel_rfl) (by kernel_rfl)
theorem pe14_5 (d : Nat) (s : Nat) (dp : Int) : Lf h12 13 [.agg ⟨(xA 14 0 0 1 false false (Int.ofNat (d + 8)) (Int.ofNat s) dp 0 0)⟩] (.tuple ⟨[.string ⟨⟨[65] ++ [136] ++ [modP 128 (Int.ofNat s) (Int.ofNat (d + 8))] ++ immP dp 4⟩⟩, .int .i64 0]⟩) [(b2i (!vP 14 0 0 1 false false (Int.ofNat (d + 8)) (Int.ofNat s) dp 0 0), 0), (b2i (decide ((Int.ofNat s) ≥ 8)), 0), (b2i (decide ((Int.ofNat (d + 8)) ≥ 8)), 1), (b2i (Int.tmod (Int.ofNat (d + 8)) 8 == 4), 0)] := lf hkE_ok (ocs [(13, 11, .bool false), (30, 13, .bool false), (30, 17, .bool true), (32, 36, .bool false)] []) (by kernel_rfl) (by kernel_rfl) (by kernel_rfl)
theorem pe14_6 (d : Nat) (s : Nat) (dp : Int) : Lf h12 13 [.agg ⟨(xA 14 0 0 1 false false (Int.ofNat (d + 8)) (Int.ofNat (s + 8)) dp 0 0)⟩] (.tuple ⟨[.string ⟨⟨[69] ++ [136] ++ [modP 128 (Int.ofNat (s + 8)) (Int.ofNat (d + 8))] ++ [36] ++ immP dp 4⟩⟩, .int .i64 0]⟩) [(b2i (!vP 14 0 0 1 false false (Int.ofNat (d + 8)) (Int.ofNat (s + 8)) dp 0 0), 0), (b2i (decide ((Int.ofNat (s + 8)) ≥ 8)), 1), (b2i (decide ((Int.ofNat (d + 8)) ≥ 8)), 1), (b2i (Int.tmod (Int.ofNat (d + 8)) 8 == 4), 1)] := lf hkE_ok (ocs [(13, 11, .bool false), (30, 13, .bool true), (30, 17, .bool true), (32, 36, .bool true)] []) (by kernel_rfl) (by kernel_rfl) (by kernel_rfl)
theorem pe14_7 (d : Nat) (s : Nat) (dp : Int) : Lf h12 13 [.agg ⟨(xA 14 0 0 1 false false (Int.ofNat (d + 8)) (Int.ofNat (s + 8)) dp 0 0)⟩] (.tuple ⟨[.string ⟨⟨[69] ++ [136] ++ [modP 128 (Int.ofNat (s + 8)) (Int.ofNat (d + 8))] ++ immP dp 4⟩⟩, .int .i64 0]⟩) [(b2i (!vP 14 0 0 1 false false (Int.ofNat (d + 8)) (Int.ofNat (s + 8)) dp 0 0), 0), (b2i (decide ((Int.ofNat (s + 8)) ≥ 8)), 1), (b2i (decide ((Int.ofNat (d + 8)) ≥ 8)), 1), (b2i (Int.tmod (Int.ofNat (d + 8)) 8 == 4), 0)] := lf hkE_ok (ocs [(13, 11, .bool false), (30, 13, .bool true), (30, 17, .bool true), (32, 36, .bool false)] []) (by kernel_rfl) (by kernel_rfl) (by kernel_rfl)
theorem pe14_8 (d : Nat) (s : Nat) (dp : Int) : Lf h12 13 [.agg ⟨(xA 14 0 0 2 false false (Int.ofNat d) (Int.ofNat s) dp 0 0)⟩] (.tuple ⟨[.string ⟨⟨[102] ++ [137] ++ [modP 128 (Int.ofNat s) (Int.ofNat d)] ++ [36] ++ immP dp 4⟩⟩, .int .i64 0]⟩) [(b2i (!vP 14 0 0 2 false false (Int.ofNat d) (Int.ofNat s) dp 0 0), 0), (b2i (decide ((Int.ofNat s) ≥ 8)), 0), (b2i (decide ((Int.ofNat d) ≥ 8)), 0), (b2i (Int.tmod (Int.ofNat d) 8 == 4), 1)] := lf hkE_ok (ocs [(13, 11, .bool false), (30, 13, .bool false), (30, 17, .bool false), (32, 36, .bool true)] []) (by kernel_rfl) (by kernel_rfl) (by kernel_rfl)
theorem pe14_9 (d : Nat) (s : Nat) (dp : Int) : Lf h12 13 [.agg ⟨(xA 14 0 0 2 false false (Int.ofNat d) (Int.ofNat s) dp 0 0)⟩] (.tuple ⟨[.string ⟨⟨[102] ++ [137] ++ [modP 128 (Int.ofNat s) (Int.ofNat d)] ++ immP dp 4⟩⟩, .int .i64 0]⟩) [(b2i (!vP 14 0 0 2 false false (Int.ofNat d) (Int.ofNat s) dp 0 0), 0), (b2i (decide ((Int.ofNat s) ≥ 8)), 0), (b2i (decide ((Int.ofNat d) ≥ 8)), 0), (b2i (Int.tmod (Int.ofNat d) 8 == 4), 0)] := lf hkE_ok (ocs [(13, 11, .bool false), (30, 13, .bool false), (30, 17, .bool false), (32, 36, .bool false)] []) (by kernel_rfl) (by kernel_rfl) (by kernel_rfl)
theorem pe14_10 (d : Nat) (s : Nat) (dp : Int) : Lf h12 13 [.agg ⟨(xA 14 0 0 2 false false (Int.ofNat d) (Int.ofNat (s + 8)) dp 0 0)⟩] (.tuple ⟨[.string ⟨⟨[102] ++ [68] ++ [137] ++ [modP 128 (Int.ofNat (s + 8)) (Int.ofNat d)] ++ [36] ++ immP dp 4⟩⟩, .int .i64 0]⟩) [(b2i (!vP 14 0 0 2 false false (Int.ofNat d) (Int.ofNat (s + 8)) dp 0 0), 0), (b2i (decide ((Int.ofNat (s + 8)) ≥ 8)), 1), (b2i (decide ((Int.ofNat d) ≥ 8)), 0), (b2i (Int.tmod (Int.ofNat d) 8 == 4), 1)] := lf hkE_ok (ocs [(13, 11, .bool false), (30, 13, .bool true), (30, 17, .bool false), (32, 36, .bool true)] []) (by kernel_rfl) (by kernel_rfl) (by kernel_rfl)
theorem pe14_11 (d : Nat) (s : Nat) (dp : Int) : Lf h12 13 [.agg ⟨(xA 14 0 0 2 false false (Int.ofNat d) (Int.ofNat (s + 8)) dp 0 0)⟩] (.tuple ⟨[.string ⟨⟨[102] ++ [68] ++ [137] ++ [modP 128 (Int.ofNat (s + 8)) (Int.ofNat d)] ++ immP dp 4⟩⟩, .int .i64 0]⟩) [(b2i (!vP 14 0 0 2 false false (Int.ofNat d) (Int.ofNat (s + 8)) dp 0 0), 0), (b2i (decide ((Int.ofNat (s + 8)) ≥ 8)), 1), (b2i (decide ((Int.ofNat d) ≥ 8)), 0), (b2i (Int.tmod (Int.ofNat d) 8 == 4), 0)] := lf hkE_ok (ocs [(13, 11, .bool false), (30, 13, .bool true), (30, 17, .bool false), (32, 36, .bool false)] []) (by kernel_rfl) (by kernel_rfl) (by kernel_rfl)
theorem pe14_12 (d : Nat) (s : Nat) (dp : Int) : Lf h12 13 [.agg ⟨(xA 14 0 0 2 false false (Int.ofNat (d + 8)) (Int.ofNat s) dp 0 0)⟩] (.tuple ⟨[.string ⟨⟨[102] ++ [65] ++ [137] ++ [modP 128 (Int.ofNat s) (Int.ofNat (d + 8))] ++ [36] ++ immP dp 4⟩⟩, .int .i64 0]⟩) [(b2i (!vP 14 0 0 2 false false (Int.ofNat (d + 8)) (Int.ofNat s) dp 0 0), 0), (b2i (decide ((Int.ofNat s) ≥ 8)), 0), (b2i (decide ((Int.ofNat (d + 8)) ≥ 8)), 1), (b2i (Int.tmod (Int.ofNat (d + 8)) 8 == 4), 1)] := lf hkE_ok (ocs [(13, 11, .bool false), (30, 13, .bool false), (30, 17, .bool true), (32, 36, .bool true)] []) (by kernel_rfl) (by kernel_rfl) (by kernel_rfl)
theorem pe14_13 (d : Nat) (s : Nat) (dp : Int) : Lf h12 13 [.agg ⟨(xA 14 0 0 2 false false (Int.ofNat (d + 8)) (Int.ofNat s) dp 0 0)⟩] (.tuple ⟨[.string ⟨⟨[102] ++ [65] ++ [137] ++ [modP 128 (Int.ofNat s) (Int.ofNat (d + 8))] ++ immP dp 4⟩⟩, .int .i64 0]⟩) [(b2i (!vP 14 0 0 2 false false (Int.ofNat (d + 8)) (Int.ofNat s) dp 0 0), 0), (b2i (decide ((Int.ofNat s) ≥ 8)), 0), (b2i (decide ((Int.ofNat (d + 8)) ≥ 8)), 1), (b2i (Int.tmod (Int.ofNat (d + 8)) 8 == 4), 0)] := lf hkE_ok (ocs [(13, 11, .bool false), (30, 13, .bool false), (30, 17, .bool true), (32, 36, .bool false)] []) (by kernel_rfl) (by kernel_rfl) (by kernel_rfl)
theorem pe14_14 (d : Nat) (s : Nat) (dp : Int) : Lf h12 13 [.agg ⟨(xA 14 0 0 2 false false (Int.ofNat (d + 8)) (Int.ofNat (s + 8)) dp 0 0)⟩] (.tuple ⟨[.string ⟨⟨[102] ++ [69] ++ [137] ++ [modP 128 (Int.ofNat (s + 8)) (Int.ofNat (d + 8))] ++ [36] ++ immP dp 4⟩⟩, .int .i64 0]⟩) [(b2i (!vP 14 0 0 2 false false (Int.ofNat (d + 8)) (Int.ofNat (s + 8)) dp 0 0), 0), (b2i (decide ((Int.ofNat (s + 8)) ≥ 8)), 1), (b2i (decide ((Int.ofNat (d + 8)) ≥ 8)), 1), (b2i (Int.tmod (Int.ofNat (d + 8)) 8 == 4), 1)] := lf hkE_ok (ocs [(13, 11, .bool false), (30, 13, .bool true), (30, 17, .bool true), (32, 36, .bool true)] []) (by kernel_rfl) (by kernel_rfl) (by kernel_rfl)
theorem pe14_15 (d : Nat) (s : Nat) (dp : Int) : Lf h12 13 [.agg ⟨(xA 14 0 0 2 false false (Int.ofNat (d + 8)) (Int.ofNat (s + 8)) dp 0 0)⟩] (.tuple ⟨[.string ⟨⟨[102] ++ [69] ++ [137] ++ [modP 128 (Int.ofNat (s + 8)) (Int.ofNat (d + 8))] ++ immP dp 4⟩⟩, .int .i64 0]⟩) [(b2i (!vP 14 0 0 2 false false (Int.ofNat (d + 8)) (Int.ofNat (s + 8)) dp 0 0), 0), (b2i (decide ((Int.ofNat (s + 8)) ≥ 8)), 1), (b2i (decide ((Int.ofNat (d + 8)) ≥ 8)), 1), (b2i (Int.tmod (Int.ofNat (d + 8)) 8 == 4), 0)] := lf hkE_ok (ocs [(13, 11, .bool false), (30, 13, .bool true), (30, 17, .bool true), (32, 36, .bool false)] []) (by kernel_rfl) (by kernel_rfl) (by kernel_rfl)
theorem pe14_16 (d : Nat) (s : Nat) (dp : Int) : Lf h12 13 [.agg ⟨(xA 14 0 0 4 false false (Int.ofNat d) (Int.ofNat s) dp 0 0)⟩] (.tuple ⟨[.string ⟨⟨[137] ++ [modP 128 (Int.ofNat s) (Int.ofNat d)] ++ [36] ++ immP dp 4⟩⟩, .int .i64 0]⟩) [(b2i (!vP 14 0 0 4 false false (Int.ofNat d) (Int.ofNat s) dp 0 0), 0), (b2i (decide ((Int.ofNat s) ≥ 8)), 0), (b2i (decide ((Int.ofNat d) ≥ 8)), 0), (b2i (Int.tmod (Int.ofNat d) 8 == 4), 1)] := lf hkE_ok (ocs [(13, 11, .bool false), (30, 13, .bool false), (30, 17, .bool false), (32, 36, .bool true)] []) (by kernel_rfl) (by kernel_rfl) (by kernel_rfl)
theorem pe14_17 (d : Nat) (s : Nat) (dp : Int) : Lf h12 13 [.agg ⟨(xA 14 0 0 4 false false (Int.ofNat d) (Int.ofNat s) dp 0 0)⟩] (.tuple ⟨[.string ⟨⟨[137] ++ [modP 128 (Int.ofNat s) (Int.ofNat d)] ++ immP dp 4⟩⟩, .int .i64 0]⟩) [(b2i (!vP 14 0 0 4 false false (Int.ofNat d) (Int.ofNat s) dp 0 0), 0), (b2i (decide ((Int.ofNat s) ≥ 8)), 0), (b2i (decide ((Int.ofNat d) ≥ 8)), 0), (b2i (Int.tmod (Int.ofNat d) 8 == 4), 0)] := lf hkE_ok (ocs [(13, 11, .bool false), (30, 13, .bool false), (30, 17, .bool false), (32, 36, .bool false)] []) (by kernel_rfl) (by kernel_rfl) (by kernel_rfl)
theorem pe14_18 (d : Nat) (s : Nat) (dp : Int) : Lf h12 13 [.agg ⟨(xA 14 0 0 4 false false (Int.ofNat d) (Int.ofNat (s + 8)) dp 0 0)⟩] (.tuple ⟨[.string ⟨⟨[68] ++ [137] ++ [modP 128 (Int.ofNat (s + 8)) (Int.ofNat d)] ++ [36] ++ immP dp 4⟩⟩, .int .i64 0]⟩) [(b2i (!vP 14 0 0 4 false false (Int.ofNat d) (Int.ofNat (s + 8)) dp 0 0), 0), (b2i (decide ((Int.ofNat (s + 8)) ≥ 8)), 1), (b2i (decide ((Int.ofNat d) ≥ 8)), 0), (b2i (Int.tmod (Int.ofNat d) 8 == 4), 1)] := lf hkE_ok (ocs [(13, 11, .bool false), (30, 13, .bool true), (30, 17, .bool false), (32, 36, .bool true)] []) (by kernel_rfl) (by kernel_rfl) (by kernel_rfl)
theorem pe14_19 (d : Nat) (s : Nat) (dp : Int) : Lf h12 13 [.agg ⟨(xA 14 0 0 4 false false (Int.ofNat d) (Int.ofNat (s + 8)) dp 0 0)⟩] (.tuple ⟨[.string ⟨⟨[68] ++ [137] ++ [modP 128 (Int.ofNat (s + 8)) (Int.ofNat d)] ++ immP dp 4⟩⟩, .int .i64 0]⟩) [(b2i (!vP 14 0 0 4 false false (Int.ofNat d) (Int.ofNat (s + 8)) dp 0 0), 0), (b2i (decide ((Int.ofNat (s + 8)) ≥ 8)), 1), (b2i (decide ((Int.ofNat d) ≥ 8)), 0), (b2i (Int.tmod (Int.ofNat d) 8 == 4), 0)] := lf hkE_ok (ocs [(13, 11, .bool false), (30, 13, .bool true), (30, 17, .bool false), (32, 36, .bool false)] []) (by kernel_rfl) (by kernel_rfl) (by kernel_rfl)
theorem pe14_20 (d : Nat) (s : Nat) (dp : Int) : Lf h12 13 [.agg ⟨(xA 14 0 0 4 false false (Int.ofNat (d + 8)) (Int.ofNat s) dp 0 0)⟩] (.tuple ⟨[.string ⟨⟨[65] ++ [137] ++ [modP 128 (Int.ofNat s) (Int.ofNat (d + 8))] ++ [36] ++ immP dp 4⟩⟩, .int .i64 0]⟩) [(b2i (!vP 14 0 0 4 false false (Int.ofNat (d + 8)) (Int.ofNat s) dp 0 0), 0), (b2i (decide ((Int.ofNat s) ≥ 8)), 0), (b2i (decide ((Int.ofNat (d + 8)) ≥ 8)), 1), (b2i (Int.tmod (Int.ofNat (d + 8)) 8 == 4), 1)] := lf hkE_ok (ocs [(13, 11, .bool false), (30, 13, .bool false), (30, 17, .bool true), (32, 36, .bool true)] []) (by kernel_rfl) (by kernel_rfl) (by kernel_rfl)
theorem pe14_21 (d : Nat) (s : Nat) (dp : Int) : Lf h12 13 [.agg ⟨(xA 14 0 0 4 false false (Int.ofNat (d + 8)) (Int.ofNat s) dp 0 0)⟩] (.tuple ⟨[.string ⟨⟨[65] ++ [137] ++ [modP 128 (Int.ofNat s) (Int.ofNat (d + 8))] ++ immP dp 4⟩⟩, .int .i64 0]⟩) [(b2i (!vP 14 0 0 4 false false (Int.ofNat (d + 8)) (Int.ofNat s) dp 0 0), 0), (b2i (decide ((Int.ofNat s) ≥ 8)), 0), (b2i (decide ((Int.ofNat (d + 8)) ≥ 8)), 1), (b2i (Int.tmod (Int.ofNat (d + 8)) 8 == 4), 0)] := lf hkE_ok (ocs [(13, 11, .bool false), (30, 13, .bool false), (30, 17, .bool true), (32, 36, .bool false)] []) (by kernel_rfl) (by kernel_rfl) (by kernel_rfl)
theorem pe14_22 (d : Nat) (s : Nat) (dp : Int) : Lf h12 13 [.agg ⟨(xA 14 0 0 4 false false (Int.ofNat (d + 8)) (Int.ofNat (s + 8)) dp 0 0)⟩] (.tuple ⟨[.string ⟨⟨[69] ++ [137] ++ [modP 128 (Int.ofNat (s + 8)) (Int.ofNat (d + 8))] ++ [36] ++ immP dp 4⟩⟩, .int .i64 0]⟩) [(b2i (!vP 14 0 0 4 false false (Int.ofNat (d + 8)) (Int.ofNat (s + 8)) dp 0 0), 0), (b2i (decide ((Int.ofNat (s + 8)) ≥ 8)), 1), (b2i (decide ((Int.ofNat (d + 8)) ≥ 8)), 1), (b2i (Int.tmod (Int.ofNat (d + 8)) 8 == 4), 1)] := lf hkE_ok (ocs [(13, 11, .bool false), (30, 13, .bool true), (30, 17, .bool true), (32, 36, .bool true)] []) (by kernel_rfl) (by kernel_rfl) (by kernel_rfl)
theorem pe14_23 (d : Nat) (s : Nat) (dp : Int) : Lf h12 13 [.agg ⟨(xA 14 0 0 4 false false (Int.ofNat (d + 8)) (Int.ofNat (s + 8)) dp 0 0)⟩] (.tuple ⟨[.string ⟨⟨[69] ++ [137] ++ [modP 128 (Int.ofNat (s + 8)) (Int.ofNat (d + 8))] ++ immP dp 4⟩⟩, .int .i64 0]⟩) [(b2i (!vP 14 0 0 4 false false (Int.ofNat (d + 8)) (Int.ofNat (s + 8)) dp 0 0), 0), (b2i (decide ((Int.ofNat (s + 8)) ≥ 8)), 1), (b2i (decide ((Int.ofNat (d + 8)) ≥ 8)), 1), (b2i (Int.tmod (Int.ofNat (d + 8)) 8 == 4), 0)] := lf hkE_ok (ocs [(13, 11, .bool false), (30, 13, .bool true), (30, 17, .bool true), (32, 36, .bool false)] []) (by kernel_rfl) (by kernel_rfl) (by kernel_rfl)
theorem pe14_24 (d : Nat) (s : Nat) (dp : Int) : Lf h12 13 [.agg ⟨(xA 14 0 0 8 true false (Int.ofNat d) (Int.ofNat s) dp 0 0)⟩] (.tuple ⟨[.string ⟨⟨[72] ++ [137] ++ [modP 128 (Int.ofNat s) (Int.ofNat d)] ++ [36] ++ immP dp 4⟩⟩, .int .i64 0]⟩) [(b2i (!vP 14 0 0 8 true false (Int.ofNat d) (Int.ofNat s) dp 0 0), 0), (b2i (decide ((Int.ofNat s) ≥ 8)), 0), (b2i (decide ((Int.ofNat d) ≥ 8)), 0), (b2i (Int.tmod (Int.ofNat d) 8 == 4), 1)] := lf hkE_ok (ocs [(13, 11, .bool false), (30, 13, .bool false), (30, 17, .bool false), (32, 36, .bool true)] []) (by kernel_rfl) (by kernel_rfl) (by kernel_rfl)
theorem pe14_25 (d : Nat) (s : Nat) (dp : Int) : Lf h12 13 [.agg ⟨(xA 14 0 0 8 true false (Int.ofNat d) (Int.ofNat s) dp 0 0)⟩] (.tuple ⟨[.string ⟨⟨[72] ++ [137] ++ [modP 128 (Int.ofNat s) (Int.ofNat d)] ++ immP dp 4⟩⟩, .int .i64 0]⟩) [(b2i (!vP 14 0 0 8 true false (Int.ofNat d) (Int.ofNat s) dp 0 0), 0), (b2i (decide ((Int.ofNat s) ≥ 8)), 0), (b2i (decide ((Int.ofNat d) ≥ 8)), 0), (b2i (Int.tmod (Int.ofNat d) 8 == 4), 0)] := lf hkE_ok (ocs [(13, 11, .bool false), (30, 13, .bool false), (30, 17, .bool false), (32, 36, .bool false)] []) (by kernel_rfl) (by kernel_rfl) (by kernel_rfl)
theorem pe14_26 (d : Nat) (s : Nat) (dp : Int) : Lf h12 13 [.agg ⟨(xA 14 0 0 8 true false (Int.ofNat d) (Int.ofNat (s + 8)) dp 0 0)⟩] (.tuple ⟨[.string ⟨⟨[76] ++ [137] ++ [modP 128 (Int.ofNat (s + 8)) (Int.ofNat d)] ++ [36] ++ immP dp 4⟩⟩, .int .i64 0]⟩) [(b2i (!vP 14 0 0 8 true false (Int.ofNat d) (Int.ofNat (s + 8)) dp 0 0), 0), (b2i (decide ((Int.ofNat (s + 8)) ≥ 8)), 1), (b2i (decide ((Int.ofNat d) ≥ 8)), 0), (b2i (Int.tmod (Int.ofNat d) 8 == 4), 1)] := lf hkE_ok (ocs [(13, 11, .bool false), (30, 13, .bool true), (30, 17, .bool false), (32, 36, .bool true)] []) (by kernel_rfl) (by kernel_rfl) (by kernel_rfl)
theorem pe14_27 (d : Nat) (s : Nat) (dp : Int) : Lf h12 13 [.agg ⟨(xA 14 0 0 8 true false (Int.ofNat d) (Int.ofNat (s + 8)) dp 0 0)⟩] (.tuple ⟨[.string ⟨⟨[76] ++ [137] ++ [modP 128 (Int.ofNat (s + 8)) (Int.ofNat d)] ++ immP dp 4⟩⟩, .int .i64 0]⟩) [(b2i (!vP 14 0 0 8 true false (Int.ofNat d) (Int.ofNat (s + 8)) dp 0 0), 0), (b2i (decide ((Int.ofNat (s + 8)) ≥ 8)), 1), (b2i (decide ((Int.ofNat d) ≥ 8)), 0), (b2i (Int.tmod (Int.ofNat d) 8 == 4), 0)] := lf hkE_ok (ocs [(13, 11, .bool false), (30, 13, .bool true), (30, 17, .bool false), (32, 36, .bool false)] []) (by kernel_rfl) (by kernel_rfl) (by kernel_rfl)
theorem pe14_28 (d : Nat) (s : Nat) (dp : Int) : Lf h12 13 [.agg ⟨(xA 14 0 0 8 true false (Int.ofNat (d + 8)) (Int.ofNat s) dp 0 0)⟩] (.tuple ⟨[.string ⟨⟨[73] ++ [137] ++ [modP 128 (Int.ofNat s) (Int.ofNat (d + 8))] ++ [36] ++ immP dp 4⟩⟩, .int .i64 0]⟩) [(b2i (!vP 14 0 0 8 true false (Int.ofNat (d + 8)) (Int.ofNat s) dp 0 0), 0), (b2i (decide ((Int.ofNat s) ≥ 8)), 0), (b2i (decide ((Int.ofNat (d + 8)) ≥ 8)), 1), (b2i (Int.tmod (Int.ofNat (d + 8)) 8 == 4), 1)] := lf hkE_ok (ocs [(13, 11, .bool false), (30, 13, .bool false), (30, 17, .bool true), (32, 36, .bool true)] []) (by kernel_rfl) (by kernel_rfl) (by kernel_rfl)
theorem pe14_29 (d : Nat) (s : Nat) (dp : Int) : Lf h12 13 [.agg ⟨(xA 14 0 0 8 true false (Int.ofNat (d + 8)) (Int.ofNat s) dp 0 0)⟩] (.tuple ⟨[.string ⟨⟨[73] ++ [137] ++ [modP 128 (Int.ofNat s) (Int.ofNat (d + 8))] ++ immP dp 4⟩⟩, .int .i64 0]⟩) [(b2i (!vP 14 0 0 8 true false (Int.ofNat (d + 8)) (Int.ofNat s) dp 0 0), 0), (b2i (decide ((Int.ofNat s) ≥ 8)), 0), (b2i (decide ((Int.ofNat (d + 8)) ≥ 8)), 1), (b2i (Int.tmod (Int.ofNat (d + 8)) 8 == 4), 0)] := lf hkE_ok (ocs [(13, 11, .bool false), (30, 13, .bool false), (30, 17, .bool true), (32, 36, .bool false)] []) (by kernel_rfl) (by kernel_rfl) (by kernel_rfl)
theorem pe14_30 (d : Nat) (s : Nat) (dp : Int) : Lf h12 13 [.agg ⟨(xA 14 0 0 8 true false (Int.ofNat (d + 8)) (Int.ofNat (s + 8)) dp 0 0)⟩] (.tuple ⟨[.string ⟨⟨[77] ++ [137] ++ [modP 128 (Int.ofNat (s + 8)) (Int.ofNat (d + 8))] ++ [36] ++ immP dp 4⟩⟩, .int .i64 0]⟩) [(b2i (!vP 14 0 0 8 true false (Int.ofNat (d + 8)) (Int.ofNat (s + 8)) dp 0 0), 0), (b2i (decide ((Int.ofNat (s + 8)) ≥ 8)), 1), (b2i (decide ((Int.ofNat (d + 8)) ≥ 8)), 1), (b2i (Int.tmod (Int.ofNat (d + 8)) 8 == 4), 1)] := lf hkE_ok (ocs [(13, 11, .bool false), (30, 13, .bool true), (30, 17, .bool true), (32, 36, .bool true)] []) (by kernel_rfl) (by kernel_rfl) (by kernel_rfl)
theorem pe14_31 (d : Nat) (s : Nat) (dp : Int) : Lf h12 13 [.agg ⟨(xA 14 0 0 8 true false (Int.ofNat (d + 8)) (Int.ofNat (s + 8)) dp 0 0)⟩] (.tuple ⟨[.string ⟨⟨[77] ++ [137] ++ [modP 128 (Int.ofNat (s + 8)) (Int.ofNat (d + 8))] ++ immP dp 4⟩⟩, .int .i64 0]⟩) [(b2i (!vP 14 0 0 8 true false (Int.ofNat (d + 8)) (Int.ofNat (s + 8)) dp 0 0), 0), (b2i (decide ((Int.ofNat (s + 8)) ≥ 8)), 1), (b2i (decide ((Int.ofNat (d + 8)) ≥ 8)), 1), (b2i (Int.tmod (Int.ofNat (d + 8)) 8 == 4), 0)] := lf hkE_ok (ocs [(13, 11, .bool false), (30, 13, .bool true), (30, 17, .bool true), (32, 36, .bool false)] []) (by kernel_rfl) (by kernel_rfl) (by kernel_rfl)
theorem pe15_0 (re : Int) : Lf h12 13 [.agg ⟨(xA 15 0 0 0 false true 0 0 0 re 0)⟩] (.tuple ⟨[.string ⟨⟨[235] ++ [ub (IntKind.u8.wrap re)]⟩⟩, .int .i64 0]⟩) [(b2i (!vP 15 0 0 0 false true 0 0 0 re 0), 0)] := lf hkE_ok (ocs [(13, 11, .bool false)] []) (by kernel_rfl) (by kernel_rfl) (by kernel_rfl)
theorem pe15_1 (re : Int) : Lf h12 13 [.agg ⟨(xA 15 0 0 0 false false 0 0 0 re 0)⟩] (.tuple ⟨[.string ⟨⟨[233] ++ immP re 4⟩⟩, .int .i64 0]⟩) [(b2i (!vP 15 0 0 0 false false 0 0 0 re 0), 0)] := lf hkE_ok (ocs [(13, 11, .bool false)] []) (by kernel_rfl) (by kernel_rfl) (by kernel_rfl)
theorem pe16_0 (co : Int) (re : Int) : Lf h12 13 [.agg ⟨(xA 16 0 co 0 false true 0 0 0 re 0)⟩] (.tuple ⟨[.string ⟨⟨[cndP 112 co] ++ [ub (IntKind.u8.wrap re)]⟩⟩, .int .i64 0]⟩) [(b2i (!vP 16 0 co 0 false true 0 0 0 re 0), 0)] := lf hkE_ok (ocs [(13, 11, .bool false)] []) (by kernel_rfl) (by kernel_rfl) (by kernel_rfl)
theorem pe16_1 (co : Int) (re : Int) : Lf h12 13 [.agg ⟨(xA 16 0 co 0 false false 0 0 0 re 0)⟩] (.tuple ⟨[.string ⟨⟨[15, cndP 128 co] ++ immP re 4⟩⟩, .int .i64 0]⟩) [(b2i (!vP 16 0 co 0 false false 0 0 0 re 0), 0)] := lf hkE_ok (ocs [(13, 11, .bool false)] []) (by kernel_rfl) (by kernel_rfl) (by kernel_rfl)
theorem pe17_0 (d : Nat) : Lf h12 13 [.agg ⟨(xA 17 0 0 0 false false (Int.ofNat d) 0 0 0 0)⟩] (.tuple ⟨[.string ⟨⟨[codP 80 (Int.ofNat d)]⟩⟩, .int .i64 0]⟩) [(b2i (!vP 17 0 0 0 false false (Int.ofNat d) 0 0 0 0), 0), (b2i (decide ((Int.ofNat d) ≥ 8)), 0)] := lf hkE_ok (ocs [(13, 11, .bool false), (30, 17, .bool false)] []) (by kernel_rfl) (by kernel_rfl) (by kernel_rfl)
theorem pe17_1 (d : Nat) : Lf h12 13 [.agg ⟨(xA 17 0 0 0 false false (Int.ofNat (d + 8)) 0 0 0 0)⟩] (.tuple ⟨[.string ⟨⟨[65] ++ [codP 80 (Int.ofNat (d + 8))]⟩⟩, .int .i64 0]⟩) [(b2i (!vP 17 0 0 0 false false (Int.ofNat (d + 8)) 0 0 0 0), 0), (b2i (decide ((Int.ofNat (d + 8)) ≥ 8)), 1)] := lf hkE_ok (ocs [(13, 11, .bool false), (30, 17, .bool true)] []) (by kernel_rfl) (by kernel_rfl) (by kernel_rfl)
theorem pe18_0 (d : Nat) : Lf h12 13 [.agg ⟨(xA 18 0 0 0 false false (Int.ofNat d) 0 0 0 0)⟩] (.tuple ⟨[.string ⟨⟨[codP 88 (Int.ofNat d)]⟩⟩, .int .i64 0]⟩) [(b2i (!vP 18 0 0 0 false false (Int.ofNat d) 0 0 0 0), 0), (b2i (decide ((Int.ofNat d) ≥ 8)), 0)] := lf hkE_ok (ocs [(13, 11, .bool false), (30, 17, .bool false)] []) (by kernel_rfl) (by kernel_rfl) (by kernel_rfl)
theorem pe18_1 (d : Nat) : Lf h12 13 [.agg ⟨(xA 18 0 0 0 false false (Int.ofNat (d + 8)) 0 0 0 0)⟩] (.tuple ⟨[.string ⟨⟨[65] ++ [codP 88 (Int.ofNat (d + 8))]⟩⟩, .int .i64 0]⟩) [(b2i (!vP 18 0 0 0 false false (Int.ofNat (d + 8)) 0 0 0 0), 0), (b2i (decide ((Int.ofNat (d + 8)) ≥ 8)), 1)] := lf hkE_ok (ocs [(13, 11, .bool false), (30, 17, .bool true)] []) (by kernel_rfl) (by kernel_rfl) (by kernel_rfl)
theorem pe19_0  : Lf h12 13 [.agg ⟨(xA 19 0 0 0 false false 0 0 0 0 0)⟩] (.tuple ⟨[.string ⟨⟨[195]⟩⟩, .int .i64 0]⟩) [(b2i (!vP 19 0 0 0 false false 0 0 0 0 0), 0)] := lf hkE_ok (ocs [(13, 11, .bool false)] []) (by kernel_rfl) (by kernel_rfl) (by kernel_rfl)
theorem pe20_0 (re : Int) : Lf h12 13 [.agg ⟨(xA 20 0 0 0 false false 0 0 0 re 0)⟩] (.tuple ⟨[.string ⟨⟨[232] ++ immP re 4⟩⟩, .int .i64 0]⟩) [(b2i (!vP 20 0 0 0 false false 0 0 0 re 0), 0)] := lf hkE_ok (ocs [(13, 11, .bool false)] []) (by kernel_rfl) (by kernel_rfl) (by kernel_rfl)
theorem pe21_0  : Lf h12 13 [.agg ⟨(xA 21 0 0 0 false false 0 0 0 0 0)⟩] (.tuple ⟨[.string ⟨⟨[15, 174] ++ [232]⟩⟩, .int .i64 0]⟩) [(b2i (!vP 21 0 0 0 false false 0 0 0 0 0), 0)] := lf hkE_ok (ocs [(13, 11, .bool false)] []) (by kernel_rfl) (by kernel_rfl) (by kernel_rfl)
end Go.Proofs.YtbaiokfjoglmiaaDoor.Ex
end
section
namespace Go.Proofs.YtbaiokfjoglmiaaDoor.Ex
open Go Go.RowKit
set_option linter.unusedVariables false
set_option linter.unusedSimpArgs false
set_option maxHeartbeats 0
set_option maxRecDepth 1000000
theorem i32_wrap (x : Int) : IntKind.i32.wrap x = if x % 4294967296 ≥ 2147483648 then x % 4294967296 - 4294967296 else x % 4294967296 := by
  simp [IntKind.wrap, IntKind.signed, IntKind.bits]
theorem i8_wrap (x : Int) : IntKind.i8.wrap x = if x % 256 ≥ 128 then x % 256 - 256 else x % 256 := by
  simp [IntKind.wrap, IntKind.signed, IntKind.bits]
theorem word_eq (im : Int) : (im == IntKind.i64.wrap (IntKind.i32.wrap im)) = wordS im := by
  have h : -2147483648 ≤ IntKind.i32.wrap im ∧ IntKind.i32.wrap im < 2147483648 := by rw [i32_wrap]; split <;> omega
  rw [wr64 (by omega) (by omega), i32_wrap, Bool.eq_iff_iff]
  simp only [wordS, beq_iff_eq, Bool.and_eq_true, decide_eq_true_eq]
  split <;> omega
theorem rel_eq (re : Int) : (re == IntKind.i32.wrap (IntKind.i8.wrap re)) = (decide (re ≥ -128) && decide (re ≤ 127)) := by
  rw [i32_wrap, i8_wrap, Bool.eq_iff_iff]
  simp only [beq_iff_eq, Bool.and_eq_true, decide_eq_true_eq]
  split <;> split <;> omega
theorem cc_eq (co : Int) : ccR co = ccOk co := by
  rw [Bool.eq_iff_iff]
  simp only [ccR, ccOk, Bool.or_eq_true, Bool.and_eq_true, decide_eq_true_eq, beq_iff_eq]
  omega
theorem vPR1 (al co si : Int) (wi sh : Bool) (ds sr dp re im : Int) : vP1 al co si wi sh ds sr dp re im = vR1 al co si wi sh ds sr dp re im := by
  cases wi <;> cases sh <;> simp [vP1, vR1, xA, eqD, eqW, word_eq, rel_eq, cc_eq, szR_eq, relS, shiftS] <;> (try ac_rfl)
theorem vPR2 (al co si : Int) (wi sh : Bool) (ds sr dp re im : Int) : vP2 al co si wi sh ds sr dp re im = vR2 al co si wi sh ds sr dp re im := by
  cases wi <;> cases sh <;> simp [vP2, vR2, xA, eqD, eqW, word_eq, rel_eq, cc_eq, szR_eq, relS, shiftS] <;> (try ac_rfl)
theorem vPR3 (al co si : Int) (wi sh : Bool) (ds sr dp re im : Int) : vP3 al co si wi sh ds sr dp re im = vR3 al co si wi sh ds sr dp re im := by
  cases wi <;> cases sh <;> simp [vP3, vR3, xA, eqD, eqW, word_eq, rel_eq, cc_eq, szR_eq, relS, shiftS] <;> (try ac_rfl)
theorem vPR4 (al co si : Int) (wi sh : Bool) (ds sr dp re im : Int) : vP4 al co si wi sh ds sr dp re im = vR4 al co si wi sh ds sr dp re im := by
  cases wi <;> cases sh <;> simp [vP4, vR4, xA, eqD, eqW, word_eq, rel_eq, cc_eq, szR_eq, relS, shiftS] <;> (try ac_rfl)
theorem vPR5 (al co si : Int) (wi sh : Bool) (ds sr dp re im : Int) : vP5 al co si wi sh ds sr dp re im = vR5 al co si wi sh ds sr dp re im := by
  cases wi <;> cases sh <;> simp [vP5, vR5, xA, eqD, eqW, word_eq, rel_eq, cc_eq, szR_eq, relS, shiftS] <;> (try ac_rfl)
theorem vPR6 (al co si : Int) (wi sh : Bool) (ds sr dp re im : Int) : vP6 al co si wi sh ds sr dp re im = vR6 al co si wi sh ds sr dp re im := by
  cases wi <;> cases sh <;> simp [vP6, vR6, xA, eqD, eqW, word_eq, rel_eq, cc_eq, szR_eq, relS, shiftS] <;> (try ac_rfl)
theorem vPR7 (al co si : Int) (wi sh : Bool) (ds sr dp re im : Int) : vP7 al co si wi sh ds sr dp re im = vR7 al co si wi sh ds sr dp re im := by
  cases wi <;> cases sh <;> simp [vP7, vR7, xA, eqD, eqW, word_eq, rel_eq, cc_eq, szR_eq, relS, shiftS] <;> (try ac_rfl)
theorem vPR8 (al co si : Int) (wi sh : Bool) (ds sr dp re im : Int) : vP8 al co si wi sh ds sr dp re im = vR8 al co si wi sh ds sr dp re im := by
  cases wi <;> cases sh <;> simp [vP8, vR8, xA, eqD, eqW, word_eq, rel_eq, cc_eq, szR_eq, relS, shiftS] <;> (try ac_rfl)
theorem vPR9 (al co si : Int) (wi sh : Bool) (ds sr dp re im : Int) : vP9 al co si wi sh ds sr dp re im = vR9 al co si wi sh ds sr dp re im := by
  cases wi <;> cases sh <;> simp [vP9, vR9, xA, eqD, eqW, word_eq, rel_eq, cc_eq, szR_eq, relS, shiftS] <;> (try ac_rfl)
theorem vPR10 (al co si : Int) (wi sh : Bool) (ds sr dp re im : Int) : vP10 al co si wi sh ds sr dp re im = vR10 al co si wi sh ds sr dp re im := by
  cases wi <;> cases sh <;> simp [vP10, vR10, xA, eqD, eqW, word_eq, rel_eq, cc_eq, szR_eq, relS, shiftS] <;> (try ac_rfl)
theorem vPR11 (al co si : Int) (wi sh : Bool) (ds sr dp re im : Int) : vP11 al co si wi sh ds sr dp re im = vR11 al co si wi sh ds sr dp re im := by
  cases wi <;> cases sh <;> simp [vP11, vR11, xA, eqD, eqW, word_eq, rel_eq, cc_eq, szR_eq, relS, shiftS] <;> (try ac_rfl)
theorem vPR12 (al co si : Int) (wi sh : Bool) (ds sr dp re im : Int) : vP12 al co si wi sh ds sr dp re im = vR12 al co si wi sh ds sr dp re im := by
  cases wi <;> cases sh <;> simp [vP12, vR12, xA, eqD, eqW, word_eq, rel_eq, cc_eq, szR_eq, relS, shiftS] <;> (try ac_rfl)
theorem vPR13 (al co si : Int) (wi sh : Bool) (ds sr dp re im : Int) : vP13 al co si wi sh ds sr dp re im = vR13 al co si wi sh ds sr dp re im := by
  cases wi <;> cases sh <;> simp [vP13, vR13, xA, eqD, eqW, word_eq, rel_eq, cc_eq, szR_eq, relS, shiftS] <;> (try ac_rfl)
theorem vPR14 (al co si : Int) (wi sh : Bool) (ds sr dp re im : Int) : vP14 al co si wi sh ds sr dp re im = vR14 al co si wi sh ds sr dp re im := by
  cases wi <;> cases sh <;> simp [vP14, vR14, xA, eqD, eqW, word_eq, rel_eq, cc_eq, szR_eq, relS, shiftS] <;> (try ac_rfl)
theorem vPR15 (al co si : Int) (wi sh : Bool) (ds sr dp re im : Int) : vP15 al co si wi sh ds sr dp re im = vR15 al co si wi sh ds sr dp re im := by
  cases wi <;> cases sh <;> simp [vP15, vR15, xA, eqD, eqW, word_eq, rel_eq, cc_eq, szR_eq, relS, shiftS] <;> (try ac_rfl)
theorem vPR16 (al co si : Int) (wi sh : Bool) (ds sr dp re im : Int) : vP16 al co si wi sh ds sr dp re im = vR16 al co si wi sh ds sr dp re im := by
  cases wi <;> cases sh <;> simp [vP16, vR16, xA, eqD, eqW, word_eq, rel_eq, cc_eq, szR_eq, relS, shiftS] <;> (try ac_rfl)
theorem vPR17 (al co si : Int) (wi sh : Bool) (ds sr dp re im : Int) : vP17 al co si wi sh ds sr dp re im = vR17 al co si wi sh ds sr dp re im := by
  cases wi <;> cases sh <;> simp [vP17, vR17, xA, eqD, eqW, word_eq, rel_eq, cc_eq, szR_eq, relS, shiftS] <;> (try ac_rfl)
theorem vPR18 (al co si : Int) (wi sh : Bool) (ds sr dp re im : Int) : vP18 al co si wi sh ds sr dp re im = vR18 al co si wi sh ds sr dp re im := by
  cases wi <;> cases sh <;> simp [vP18, vR18, xA, eqD, eqW, word_eq, rel_eq, cc_eq, szR_eq, relS, shiftS] <;> (try ac_rfl)
theorem vPR19 (al co si : Int) (wi sh : Bool) (ds sr dp re im : Int) : vP19 al co si wi sh ds sr dp re im = vR19 al co si wi sh ds sr dp re im := by
  cases wi <;> cases sh <;> simp [vP19, vR19, xA, eqD, eqW, word_eq, rel_eq, cc_eq, szR_eq, relS, shiftS] <;> (try ac_rfl)
theorem vPR20 (al co si : Int) (wi sh : Bool) (ds sr dp re im : Int) : vP20 al co si wi sh ds sr dp re im = vR20 al co si wi sh ds sr dp re im := by
  cases wi <;> cases sh <;> simp [vP20, vR20, xA, eqD, eqW, word_eq, rel_eq, cc_eq, szR_eq, relS, shiftS] <;> (try ac_rfl)
theorem vPR21 (al co si : Int) (wi sh : Bool) (ds sr dp re im : Int) : vP21 al co si wi sh ds sr dp re im = vR21 al co si wi sh ds sr dp re im := by
  cases wi <;> cases sh <;> simp [vP21, vR21, xA, eqD, eqW, word_eq, rel_eq, cc_eq, szR_eq, relS, shiftS] <;> (try ac_rfl)
theorem vPR (k : Int) (al co si : Int) (wi sh : Bool) (ds sr dp re im : Int) : vP k al co si wi sh ds sr dp re im = vR k al co si wi sh ds sr dp re im := by
  unfold vP vR
  simp only [vPR1, vPR2, vPR3, vPR4, vPR5, vPR6, vPR7, vPR8, vPR9, vPR10, vPR11, vPR12, vPR13, vPR14, vPR15, vPR16, vPR17, vPR18, vPR19, vPR20, vPR21]
end Go.Proofs.YtbaiokfjoglmiaaDoor.Ex
end
section
namespace Go.Proofs.YtbaiokfjoglmiaaDoor.Ex
open Go Go.RowKit
set_option linter.unusedVariables false
set_option linter.unusedSimpArgs false
set_option maxHeartbeats 0
set_option maxRecDepth 1000000
theorem immR1 (re : Int) : immR re 1 = [ub (IntKind.u8.wrap re)] := by
  have h := u64_lt re
  show [UInt8.ofNat (IntKind.u8.wrap (Int.tmod (IntKind.u64.wrap re) 256)).toNat] = [ub (IntKind.u8.wrap re)]
  rw [Int.tmod_eq_emod_of_nonneg h.1, wru]
  unfold ub
  simp only [wr8]
  rw [show re % 18446744073709551616 % 256 % 256 = re % 256 by omega]
theorem c_pe1 (al co si : Int) (wi sh : Bool) (ds sr dp re im : Int) (hv : vP1 al co si wi sh ds sr dp re im = true) (w : World) (hL : Laid h12 w) : Calls Tryd.prog 13 #[.agg ⟨(xA 1 al co si wi sh ds sr dp re im)⟩] w fun e w' => e = .returned (.tuple ⟨[.string ⟨⟨encS1 al co si wi sh ds sr dp re im⟩⟩, .int .i64 0]⟩) ∧ Gr w w' := by
  have hA := andL hv
  have hR := andL (andR hv)
  have hD := andL hR
  have hS := andR hR
  have hC := andL (andR (andR hv))
  obtain rfl : al = 0 := eq_of_beq (α := Int) (andL (andR hA))
  obtain rfl : co = 0 := eq_of_beq (α := Int) (andL (andR (andR hA)))
  obtain rfl : si = 0 := eq_of_beq (α := Int) (andL (andR (andR (andR hA))))
  obtain rfl : sh = false := eq_of_beq (α := Bool) (andL (andR (andR (andR (andR (andR hA))))))
  obtain rfl : dp = 0 := eq_of_beq (α := Int) (andL (andR (andR (andR (andR (andR (andR (andR (andR hA)))))))))
  obtain rfl : re = 0 := eq_of_beq (α := Int) (andL (andR (andR (andR (andR (andR (andR (andR (andR (andR hA))))))))))
  obtain rfl : im = 0 := eq_of_beq (α := Int) (andL (andR (andR (andR (andR (andR (andR (andR (andR (andR (andR hA)))))))))))
  cases wi with
  | true =>
    rcases reg_cases hD with ⟨d, rfl, h1⟩ | ⟨d, rfl, h1⟩
    · rcases reg_cases hS with ⟨s, rfl, h2⟩ | ⟨s, rfl, h2⟩
      · exact retZ (by simp only [encS1, modP_eq (b := 192) (m := (Int.ofNat s)) (e := (Int.ofNat d)) (by decide) (by decide) (reg_out hS) (reg_out hD), td_lo h1, td_lo h2] <;> rfl) (pe1_0 d s (csF' (notT hv) (csF' (ge_lo h2) (csF' (ge_lo h1) csN'))) w hL)
      · exact retZ (by simp only [encS1, modP_eq (b := 192) (m := (Int.ofNat (s + 8))) (e := (Int.ofNat d)) (by decide) (by decide) (reg_out hS) (reg_out hD), td_lo h1, td_hi h2] <;> rfl) (pe1_1 d s (csF' (notT hv) (csT' (ge_hi h2) (csF' (ge_lo h1) csN'))) w hL)
    · rcases reg_cases hS with ⟨s, rfl, h2⟩ | ⟨s, rfl, h2⟩
      · exact retZ (by simp only [encS1, modP_eq (b := 192) (m := (Int.ofNat s)) (e := (Int.ofNat (d + 8))) (by decide) (by decide) (reg_out hS) (reg_out hD), td_hi h1, td_lo h2] <;> rfl) (pe1_2 d s (csF' (notT hv) (csF' (ge_lo h2) (csT' (ge_hi h1) csN'))) w hL)
      · exact retZ (by simp only [encS1, modP_eq (b := 192) (m := (Int.ofNat (s + 8))) (e := (Int.ofNat (d + 8))) (by decide) (by decide) (reg_out hS) (reg_out hD), td_hi h1, td_hi h2] <;> rfl) (pe1_3 d s (csF' (notT hv) (csT' (ge_hi h2) (csT' (ge_hi h1) csN'))) w hL)
  | false =>
    rcases reg_cases hD with ⟨d, rfl, h1⟩ | ⟨d, rfl, h1⟩
    · rcases reg_cases hS with ⟨s, rfl, h2⟩ | ⟨s, rfl, h2⟩
      · exact retZ (by simp only [encS1, modP_eq (b := 192) (m := (Int.ofNat s)) (e := (Int.ofNat d)) (by decide) (by decide) (reg_out hS) (reg_out hD), td_lo h1, td_lo h2] <;> rfl) (pe1_4 d s (csF' (notT hv) (csF' (ge_lo h2) (csF' (ge_lo h1) csN'))) w hL)
      · exact retZ (by simp only [encS1, modP_eq (b := 192) (m := (Int.ofNat (s + 8))) (e := (Int.ofNat d)) (by decide) (by decide) (reg_out hS) (reg_out hD), td_lo h1, td_hi h2] <;> rfl) (pe1_5 d s (csF' (notT hv) (csT' (ge_hi h2) (csF' (ge_lo h1) csN'))) w hL)
    · rcases reg_cases hS with ⟨s, rfl, h2⟩ | ⟨s, rfl, h2⟩
      · exact retZ (by simp only [encS1, modP_eq (b := 192) (m := (Int.ofNat s)) (e := (Int.ofNat (d + 8))) (by decide) (by decide) (reg_out hS) (reg_out hD), td_hi h1, td_lo h2] <;> rfl) (pe1_6 d s (csF' (notT hv) (csF' (ge_lo h2) (csT' (ge_hi h1) csN'))) w hL)
      · exact retZ (by simp only [encS1, modP_eq (b := 192) (m := (Int.ofNat (s + 8))) (e := (Int.ofNat (d + 8))) (by decide) (by decide) (reg_out hS) (reg_out hD), td_hi h1, td_hi h2] <;> rfl) (pe1_7 d s (csF' (notT hv) (csT' (ge_hi h2) (csT' (ge_hi h1) csN'))) w hL)
theorem c_pe2 (al co si : Int) (wi sh : Bool) (ds sr dp re im : Int) (hv : vP2 al co si wi sh ds sr dp re im = true) (w : World) (hL : Laid h12 w) : Calls Tryd.prog 13 #[.agg ⟨(xA 2 al co si wi sh ds sr dp re im)⟩] w fun e w' => e = .returned (.tuple ⟨[.string ⟨⟨encS2 al co si wi sh ds sr dp re im⟩⟩, .int .i64 0]⟩) ∧ Gr w w' := by
  have hA := andL hv
  have hR := andL (andR hv)
  have hD := andL hR
  have hS := andR hR
  have hC := andL (andR (andR hv))
  obtain rfl : al = 0 := eq_of_beq (α := Int) (andL (andR hA))
  obtain rfl : co = 0 := eq_of_beq (α := Int) (andL (andR (andR hA)))
  obtain rfl : si = 0 := eq_of_beq (α := Int) (andL (andR (andR (andR hA))))
  obtain rfl : sh = false := eq_of_beq (α := Bool) (andL (andR (andR (andR (andR (andR hA))))))
  obtain rfl : sr = 0 := eq_of_beq (α := Int) (andL (andR (andR (andR (andR (andR (andR (andR hA))))))))
  obtain rfl : dp = 0 := eq_of_beq (α := Int) (andL (andR (andR (andR (andR (andR (andR (andR (andR hA)))))))))
  obtain rfl : re = 0 := eq_of_beq (α := Int) (andL (andR (andR (andR (andR (andR (andR (andR (andR (andR hA))))))))))
  obtain rfl : wi = true := hC
  rcases reg_cases hD with ⟨d, rfl, h1⟩ | ⟨d, rfl, h1⟩
  · exact retZ (by simp only [encS2, modP_eq (b := 192) (m := 0) (e := (Int.ofNat d)) (by decide) (by decide) (by decide) (reg_out hD), immP_eq, td_lo h1] <;> rfl) (pe2_0 d im (csF' (notT hv) (csF' (ge_lo h1) csN')) w hL)
  · exact retZ (by simp only [encS2, modP_eq (b := 192) (m := 0) (e := (Int.ofNat (d + 8))) (by decide) (by decide) (by decide) (reg_out hD), immP_eq, td_hi h1] <;> rfl) (pe2_1 d im (csF' (notT hv) (csT' (ge_hi h1) csN')) w hL)
theorem c_pe3 (al co si : Int) (wi sh : Bool) (ds sr dp re im : Int) (hv : vP3 al co si wi sh ds sr dp re im = true) (w : World) (hL : Laid h12 w) : Calls Tryd.prog 13 #[.agg ⟨(xA 3 al co si wi sh ds sr dp re im)⟩] w fun e w' => e = .returned (.tuple ⟨[.string ⟨⟨encS3 al co si wi sh ds sr dp re im⟩⟩, .int .i64 0]⟩) ∧ Gr w w' := by
  have hA := andL hv
  have hR := andL (andR hv)
  have hD := andL hR
  have hS := andR hR
  have hC := andL (andR (andR hv))
  obtain rfl : al = 0 := eq_of_beq (α := Int) (andL (andR hA))
  obtain rfl : co = 0 := eq_of_beq (α := Int) (andL (andR (andR hA)))
  obtain rfl : si = 0 := eq_of_beq (α := Int) (andL (andR (andR (andR hA))))
  obtain rfl : sh = false := eq_of_beq (α := Bool) (andL (andR (andR (andR (andR (andR hA))))))
  obtain rfl : sr = 0 := eq_of_beq (α := Int) (andL (andR (andR (andR (andR (andR (andR (andR hA))))))))
  obtain rfl : dp = 0 := eq_of_beq (α := Int) (andL (andR (andR (andR (andR (andR (andR (andR (andR hA)))))))))
  obtain rfl : re = 0 := eq_of_beq (α := Int) (andL (andR (andR (andR (andR (andR (andR (andR (andR (andR hA))))))))))
  obtain rfl : wi = true := hC
  rcases reg_cases hD with ⟨d, rfl, h1⟩ | ⟨d, rfl, h1⟩
  · exact retZ (by simp only [encS3, codP_eq (b := 184) (d := (Int.ofNat d)) (by decide) (by decide) (reg_out hD), immP_eq, td_lo h1] <;> rfl) (pe3_0 d im (csF' (notT hv) (csF' (ge_lo h1) csN')) w hL)
  · exact retZ (by simp only [encS3, codP_eq (b := 184) (d := (Int.ofNat (d + 8))) (by decide) (by decide) (reg_out hD), immP_eq, td_hi h1] <;> rfl) (pe3_1 d im (csF' (notT hv) (csT' (ge_hi h1) csN')) w hL)
theorem c_pe4 (al co si : Int) (wi sh : Bool) (ds sr dp re im : Int) (hv : vP4 al co si wi sh ds sr dp re im = true) (w : World) (hL : Laid h12 w) : Calls Tryd.prog 13 #[.agg ⟨(xA 4 al co si wi sh ds sr dp re im)⟩] w fun e w' => e = .returned (.tuple ⟨[.string ⟨⟨encS4 al co si wi sh ds sr dp re im⟩⟩, .int .i64 0]⟩) ∧ Gr w w' := by
  have hA := andL hv
  have hR := andL (andR hv)
  have hD := andL hR
  have hS := andR hR
  have hC := andL (andR (andR hv))
  obtain rfl : co = 0 := eq_of_beq (α := Int) (andL (andR (andR hA)))
  obtain rfl : si = 0 := eq_of_beq (α := Int) (andL (andR (andR (andR hA))))
  obtain rfl : sh = false := eq_of_beq (α := Bool) (andL (andR (andR (andR (andR (andR hA))))))
  obtain rfl : dp = 0 := eq_of_beq (α := Int) (andL (andR (andR (andR (andR (andR (andR (andR (andR hA)))))))))
  obtain rfl : re = 0 := eq_of_beq (α := Int) (andL (andR (andR (andR (andR (andR (andR (andR (andR (andR hA))))))))))
  obtain rfl : im = 0 := eq_of_beq (α := Int) (andL (andR (andR (andR (andR (andR (andR (andR (andR (andR (andR hA)))))))))))
  have ha := alu_out hC
  cases wi with
  | true =>
    rcases reg_cases hD with ⟨d, rfl, h1⟩ | ⟨d, rfl, h1⟩
    · rcases reg_cases hS with ⟨s, rfl, h2⟩ | ⟨s, rfl, h2⟩
      · exact retZ (by simp only [encS4, modP_eq (b := 192) (m := (Int.ofNat s)) (e := (Int.ofNat d)) (by decide) (by decide) (reg_out hS) (reg_out hD), aluP_eq ha, td_lo h1, td_lo h2] <;> rfl) (pe4_0 al d s (csF' (notT hv) (csF' (ge_lo h2) (csF' (ge_lo h1) csN'))) w hL)
      · exact retZ (by simp only [encS4, modP_eq (b := 192) (m := (Int.ofNat (s + 8))) (e := (Int.ofNat d)) (by decide) (by decide) (reg_out hS) (reg_out hD), aluP_eq ha, td_lo h1, td_hi h2] <;> rfl) (pe4_1 al d s (csF' (notT hv) (csT' (ge_hi h2) (csF' (ge_lo h1) csN'))) w hL)
    · rcases reg_cases hS with ⟨s, rfl, h2⟩ | ⟨s, rfl, h2⟩
      · exact retZ (by simp only [encS4, modP_eq (b := 192) (m := (Int.ofNat s)) (e := (Int.ofNat (d + 8))) (by decide) (by decide) (reg_out hS) (reg_out hD), aluP_eq ha, td_hi h1, td_lo h2] <;> rfl) (pe4_2 al d s (csF' (notT hv) (csF' (ge_lo h2) (csT' (ge_hi h1) csN'))) w hL)
      · exact retZ (by simp only [encS4, modP_eq (b := 192) (m := (Int.ofNat (s + 8))) (e := (Int.ofNat (d + 8))) (by decide) (by decide) (reg_out hS) (reg_out hD), aluP_eq ha, td_hi h1, td_hi h2] <;> rfl) (pe4_3 al d s (csF' (notT hv) (csT' (ge_hi h2) (csT' (ge_hi h1) csN'))) w hL)
  | false =>
    rcases reg_cases hD with ⟨d, rfl, h1⟩ | ⟨d, rfl, h1⟩
    · rcases reg_cases hS with ⟨s, rfl, h2⟩ | ⟨s, rfl, h2⟩
      · exact retZ (by simp only [encS4, modP_eq (b := 192) (m := (Int.ofNat s)) (e := (Int.ofNat d)) (by decide) (by decide) (reg_out hS) (reg_out hD), aluP_eq ha, td_lo h1, td_lo h2] <;> rfl) (pe4_4 al d s (csF' (notT hv) (csF' (ge_lo h2) (csF' (ge_lo h1) csN'))) w hL)
      · exact retZ (by simp only [encS4, modP_eq (b := 192) (m := (Int.ofNat (s + 8))) (e := (Int.ofNat d)) (by decide) (by decide) (reg_out hS) (reg_out hD), aluP_eq ha, td_lo h1, td_hi h2] <;> rfl) (pe4_5 al d s (csF' (notT hv) (csT' (ge_hi h2) (csF' (ge_lo h1) csN'))) w hL)
    · rcases reg_cases hS with ⟨s, rfl, h2⟩ | ⟨s, rfl, h2⟩
      · exact retZ (by simp only [encS4, modP_eq (b := 192) (m := (Int.ofNat s)) (e := (Int.ofNat (d + 8))) (by decide) (by decide) (reg_out hS) (reg_out hD), aluP_eq ha, td_hi h1, td_lo h2] <;> rfl) (pe4_6 al d s (csF' (notT hv) (csF' (ge_lo h2) (csT' (ge_hi h1) csN'))) w hL)
      · exact retZ (by simp only [encS4, modP_eq (b := 192) (m := (Int.ofNat (s + 8))) (e := (Int.ofNat (d + 8))) (by decide) (by decide) (reg_out hS) (reg_out hD), aluP_eq ha, td_hi h1, td_hi h2] <;> rfl) (pe4_7 al d s (csF' (notT hv) (csT' (ge_hi h2) (csT' (ge_hi h1) csN'))) w hL)
theorem c_pe5 (al co si : Int) (wi sh : Bool) (ds sr dp re im : Int) (hv : vP5 al co si wi sh ds sr dp re im = true) (w : World) (hL : Laid h12 w) : Calls Tryd.prog 13 #[.agg ⟨(xA 5 al co si wi sh ds sr dp re im)⟩] w fun e w' => e = .returned (.tuple ⟨[.string ⟨⟨encS5 al co si wi sh ds sr dp re im⟩⟩, .int .i64 0]⟩) ∧ Gr w w' := by
  have hA := andL hv
  have hR := andL (andR hv)
  have hD := andL hR
  have hS := andR hR
  have hC := andL (andR (andR hv))
  obtain rfl : co = 0 := eq_of_beq (α := Int) (andL (andR (andR hA)))
  obtain rfl : si = 0 := eq_of_beq (α := Int) (andL (andR (andR (andR hA))))
  obtain rfl : sh = false := eq_of_beq (α := Bool) (andL (andR (andR (andR (andR (andR hA))))))
  obtain rfl : sr = 0 := eq_of_beq (α := Int) (andL (andR (andR (andR (andR (andR (andR (andR hA))))))))
  obtain rfl : dp = 0 := eq_of_beq (α := Int) (andL (andR (andR (andR (andR (andR (andR (andR (andR hA)))))))))
  obtain rfl : re = 0 := eq_of_beq (α := Int) (andL (andR (andR (andR (andR (andR (andR (andR (andR (andR hA))))))))))
  have ha := alu_out hC
  cases wi with
  | true =>
    rcases reg_cases hD with ⟨d, rfl, h1⟩ | ⟨d, rfl, h1⟩
    · exact retZ (by simp only [encS5, modP_eq (b := 192) (m := al) (e := (Int.ofNat d)) (by decide) (by decide) ⟨ha.1, Int.lt_trans ha.2 (by decide)⟩ (reg_out hD), immP_eq, td_lo h1] <;> rfl) (pe5_0 al d im (csF' (notT hv) (csF' (ge_no ha) (csF' (ge_lo h1) csN'))) w hL)
    · exact retZ (by simp only [encS5, modP_eq (b := 192) (m := al) (e := (Int.ofNat (d + 8))) (by decide) (by decide) ⟨ha.1, Int.lt_trans ha.2 (by decide)⟩ (reg_out hD), immP_eq, td_hi h1] <;> rfl) (pe5_1 al d im (csF' (notT hv) (csF' (ge_no ha) (csT' (ge_hi h1) csN'))) w hL)
  | false =>
    rcases reg_cases hD with ⟨d, rfl, h1⟩ | ⟨d, rfl, h1⟩
    · exact retZ (by simp only [encS5, modP_eq (b := 192) (m := al) (e := (Int.ofNat d)) (by decide) (by decide) ⟨ha.1, Int.lt_trans ha.2 (by decide)⟩ (reg_out hD), immP_eq, td_lo h1] <;> rfl) (pe5_2 al d im (csF' (notT hv) (csF' (ge_no ha) (csF' (ge_lo h1) csN'))) w hL)
    · exact retZ (by simp only [encS5, modP_eq (b := 192) (m := al) (e := (Int.ofNat (d + 8))) (by decide) (by decide) ⟨ha.1, Int.lt_trans ha.2 (by decide)⟩ (reg_out hD), immP_eq, td_hi h1] <;> rfl) (pe5_3 al d im (csF' (notT hv) (csF' (ge_no ha) (csT' (ge_hi h1) csN'))) w hL)
theorem c_pe6 (al co si : Int) (wi sh : Bool) (ds sr dp re im : Int) (hv : vP6 al co si wi sh ds sr dp re im = true) (w : World) (hL : Laid h12 w) : Calls Tryd.prog 13 #[.agg ⟨(xA 6 al co si wi sh ds sr dp re im)⟩] w fun e w' => e = .returned (.tuple ⟨[.string ⟨⟨encS6 al co si wi sh ds sr dp re im⟩⟩, .int .i64 0]⟩) ∧ Gr w w' := by
  have hA := andL hv
  have hR := andL (andR hv)
  have hD := andL hR
  have hS := andR hR
  have hC := andL (andR (andR hv))
  obtain rfl : al = 0 := eq_of_beq (α := Int) (andL (andR hA))
  obtain rfl : co = 0 := eq_of_beq (α := Int) (andL (andR (andR hA)))
  obtain rfl : si = 0 := eq_of_beq (α := Int) (andL (andR (andR (andR hA))))
  obtain rfl : sh = false := eq_of_beq (α := Bool) (andL (andR (andR (andR (andR (andR hA))))))
  obtain rfl : dp = 0 := eq_of_beq (α := Int) (andL (andR (andR (andR (andR (andR (andR (andR (andR hA)))))))))
  obtain rfl : re = 0 := eq_of_beq (α := Int) (andL (andR (andR (andR (andR (andR (andR (andR (andR (andR hA))))))))))
  obtain rfl : im = 0 := eq_of_beq (α := Int) (andL (andR (andR (andR (andR (andR (andR (andR (andR (andR (andR hA)))))))))))
  cases wi with
  | true =>
    rcases reg_cases hD with ⟨d, rfl, h1⟩ | ⟨d, rfl, h1⟩
    · rcases reg_cases hS with ⟨s, rfl, h2⟩ | ⟨s, rfl, h2⟩
      · exact retZ (by simp only [encS6, modP_eq (b := 192) (m := (Int.ofNat s)) (e := (Int.ofNat d)) (by decide) (by decide) (reg_out hS) (reg_out hD), td_lo h1, td_lo h2] <;> rfl) (pe6_0 d s (csF' (notT hv) (csF' (ge_lo h2) (csF' (ge_lo h1) csN'))) w hL)
      · exact retZ (by simp only [encS6, modP_eq (b := 192) (m := (Int.ofNat (s + 8))) (e := (Int.ofNat d)) (by decide) (by decide) (reg_out hS) (reg_out hD), td_lo h1, td_hi h2] <;> rfl) (pe6_1 d s (csF' (notT hv) (csT' (ge_hi h2) (csF' (ge_lo h1) csN'))) w hL)
    · rcases reg_cases hS with ⟨s, rfl, h2⟩ | ⟨s, rfl, h2⟩
      · exact retZ (by simp only [encS6, modP_eq (b := 192) (m := (Int.ofNat s)) (e := (Int.ofNat (d + 8))) (by decide) (by decide) (reg_out hS) (reg_out hD), td_hi h1, td_lo h2] <;> rfl) (pe6_2 d s (csF' (notT hv) (csF' (ge_lo h2) (csT' (ge_hi h1) csN'))) w hL)
      · exact retZ (by simp only [encS6, modP_eq (b := 192) (m := (Int.ofNat (s + 8))) (e := (Int.ofNat (d + 8))) (by decide) (by decide) (reg_out hS) (reg_out hD), td_hi h1, td_hi h2] <;> rfl) (pe6_3 d s (csF' (notT hv) (csT' (ge_hi h2) (csT' (ge_hi h1) csN'))) w hL)
  | false =>
    rcases reg_cases hD with ⟨d, rfl, h1⟩ | ⟨d, rfl, h1⟩
    · rcases reg_cases hS with ⟨s, rfl, h2⟩ | ⟨s, rfl, h2⟩
      · exact retZ (by simp only [encS6, modP_eq (b := 192) (m := (Int.ofNat s)) (e := (Int.ofNat d)) (by decide) (by decide) (reg_out hS) (reg_out hD), td_lo h1, td_lo h2] <;> rfl) (pe6_4 d s (csF' (notT hv) (csF' (ge_lo h2) (csF' (ge_lo h1) csN'))) w hL)
      · exact retZ (by simp only [encS6, modP_eq (b := 192) (m := (Int.ofNat (s + 8))) (e := (Int.ofNat d)) (by decide) (by decide) (reg_out hS) (reg_out hD), td_lo h1, td_hi h2] <;> rfl) (pe6_5 d s (csF' (notT hv) (csT' (ge_hi h2) (csF' (ge_lo h1) csN'))) w hL)
    · rcases reg_cases hS with ⟨s, rfl, h2⟩ | ⟨s, rfl, h2⟩
      · exact retZ (by simp only [encS6, modP_eq (b := 192) (m := (Int.ofNat s)) (e := (Int.ofNat (d + 8))) (by decide) (by decide) (reg_out hS) (reg_out hD), td_hi h1, td_lo h2] <;> rfl) (pe6_6 d s (csF' (notT hv) (csF' (ge_lo h2) (csT' (ge_hi h1) csN'))) w hL)
      · exact retZ (by simp only [encS6, modP_eq (b := 192) (m := (Int.ofNat (s + 8))) (e := (Int.ofNat (d + 8))) (by decide) (by decide) (reg_out hS) (reg_out hD), td_hi h1, td_hi h2] <;> rfl) (pe6_7 d s (csF' (notT hv) (csT' (ge_hi h2) (csT' (ge_hi h1) csN'))) w hL)
theorem c_pe7 (al co si : Int) (wi sh : Bool) (ds sr dp re im : Int) (hv : vP7 al co si wi sh ds sr dp re im = true) (w : World) (hL : Laid h12 w) : Calls Tryd.prog 13 #[.agg ⟨(xA 7 al co si wi sh ds sr dp re im)⟩] w fun e w' => e = .returned (.tuple ⟨[.string ⟨⟨encS7 al co si wi sh ds sr dp re im⟩⟩, .int .i64 0]⟩) ∧ Gr w w' := by
  have hA := andL hv
  have hR := andL (andR hv)
  have hD := andL hR
  have hS := andR hR
  have hC := andL (andR (andR hv))
  obtain rfl : al = 0 := eq_of_beq (α := Int) (andL (andR hA))
  obtain rfl : co = 0 := eq_of_beq (α := Int) (andL (andR (andR hA)))
  obtain rfl : si = 0 := eq_of_beq (α := Int) (andL (andR (andR (andR hA))))
  obtain rfl : sh = false := eq_of_beq (α := Bool) (andL (andR (andR (andR (andR (andR hA))))))
  obtain rfl : sr = 0 := eq_of_beq (α := Int) (andL (andR (andR (andR (andR (andR (andR (andR hA))))))))
  obtain rfl : dp = 0 := eq_of_beq (α := Int) (andL (andR (andR (andR (andR (andR (andR (andR (andR hA)))))))))
  obtain rfl : re = 0 := eq_of_beq (α := Int) (andL (andR (andR (andR (andR (andR (andR (andR (andR (andR hA))))))))))
  obtain rfl : im = 0 := eq_of_beq (α := Int) (andL (andR (andR (andR (andR (andR (andR (andR (andR (andR (andR hA)))))))))))
  cases wi with
  | true =>
    rcases reg_cases hD with ⟨d, rfl, h1⟩ | ⟨d, rfl, h1⟩
    · exact retZ (by simp only [encS7, modP_eq (b := 192) (m := 3) (e := (Int.ofNat d)) (by decide) (by decide) (by decide) (reg_out hD), td_lo h1] <;> rfl) (pe7_0 d (csF' (notT hv) (csF' (ge_lo h1) csN')) w hL)
    · exact retZ (by simp only [encS7, modP_eq (b := 192) (m := 3) (e := (Int.ofNat (d + 8))) (by decide) (by decide) (by decide) (reg_out hD), td_hi h1] <;> rfl) (pe7_1 d (csF' (notT hv) (csT' (ge_hi h1) csN')) w hL)
  | false =>
    rcases reg_cases hD with ⟨d, rfl, h1⟩ | ⟨d, rfl, h1⟩
    · exact retZ (by simp only [encS7, modP_eq (b := 192) (m := 3) (e := (Int.ofNat d)) (by decide) (by decide) (by decide) (reg_out hD), td_lo h1] <;> rfl) (pe7_2 d (csF' (notT hv) (csF' (ge_lo h1) csN')) w hL)
    · exact retZ (by simp only [encS7, modP_eq (b := 192) (m := 3) (e := (Int.ofNat (d + 8))) (by decide) (by decide) (by decide) (reg_out hD), td_hi h1] <;> rfl) (pe7_3 d (csF' (notT hv) (csT' (ge_hi h1) csN')) w hL)
theorem c_pe8 (al co si : Int) (wi sh : Bool) (ds sr dp re im : Int) (hv : vP8 al co si wi sh ds sr dp re im = true) (w : World) (hL : Laid h12 w) : Calls Tryd.prog 13 #[.agg ⟨(xA 8 al co si wi sh ds sr dp re im)⟩] w fun e w' => e = .returned (.tuple ⟨[.string ⟨⟨encS8 al co si wi sh ds sr dp re im⟩⟩, .int .i64 0]⟩) ∧ Gr w w' := by
  have hA := andL hv
  have hR := andL (andR hv)
  have hD := andL hR
  have hS := andR hR
  have hC := andL (andR (andR hv))
  obtain rfl : al = 0 := eq_of_beq (α := Int) (andL (andR hA))
  obtain rfl : co = 0 := eq_of_beq (α := Int) (andL (andR (andR hA)))
  obtain rfl : si = 0 := eq_of_beq (α := Int) (andL (andR (andR (andR hA))))
  obtain rfl : sh = false := eq_of_beq (α := Bool) (andL (andR (andR (andR (andR (andR hA))))))
  obtain rfl : sr = 0 := eq_of_beq (α := Int) (andL (andR (andR (andR (andR (andR (andR (andR hA))))))))
  obtain rfl : dp = 0 := eq_of_beq (α := Int) (andL (andR (andR (andR (andR (andR (andR (andR (andR hA)))))))))
  obtain rfl : re = 0 := eq_of_beq (α := Int) (andL (andR (andR (andR (andR (andR (andR (andR (andR (andR hA))))))))))
  obtain rfl : im = 0 := eq_of_beq (α := Int) (andL (andR (andR (andR (andR (andR (andR (andR (andR (andR (andR hA)))))))))))
  cases wi with
  | true =>
    rcases reg_cases hD with ⟨d, rfl, h1⟩ | ⟨d, rfl, h1⟩
    · exact retZ (by simp only [encS8, modP_eq (b := 192) (m := 4) (e := (Int.ofNat d)) (by decide) (by decide) (by decide) (reg_out hD), td_lo h1] <;> rfl) (pe8_0 d (csF' (notT hv) (csF' (ge_lo h1) csN')) w hL)
    · exact retZ (by simp only [encS8, modP_eq (b := 192) (m := 4) (e := (Int.ofNat (d + 8))) (by decide) (by decide) (by decide) (reg_out hD), td_hi h1] <;> rfl) (pe8_1 d (csF' (notT hv) (csT' (ge_hi h1) csN')) w hL)
  | false =>
    rcases reg_cases hD with ⟨d, rfl, h1⟩ | ⟨d, rfl, h1⟩
    · exact retZ (by simp only [encS8, modP_eq (b := 192) (m := 4) (e := (Int.ofNat d)) (by decide) (by decide) (by decide) (reg_out hD), td_lo h1] <;> rfl) (pe8_2 d (csF' (notT hv) (csF' (ge_lo h1) csN')) w hL)
    · exact retZ (by simp only [encS8, modP_eq (b := 192) (m := 4) (e := (Int.ofNat (d + 8))) (by decide) (by decide) (by decide) (reg_out hD), td_hi h1] <;> rfl) (pe8_3 d (csF' (notT hv) (csT' (ge_hi h1) csN')) w hL)
theorem c_pe9 (al co si : Int) (wi sh : Bool) (ds sr dp re im : Int) (hv : vP9 al co si wi sh ds sr dp re im = true) (w : World) (hL : Laid h12 w) : Calls Tryd.prog 13 #[.agg ⟨(xA 9 al co si wi sh ds sr dp re im)⟩] w fun e w' => e = .returned (.tuple ⟨[.string ⟨⟨encS9 al co si wi sh ds sr dp re im⟩⟩, .int .i64 0]⟩) ∧ Gr w w' := by
  have hA := andL hv
  have hR := andL (andR hv)
  have hD := andL hR
  have hS := andR hR
  have hC := andL (andR (andR hv))
  obtain rfl : al = 0 := eq_of_beq (α := Int) (andL (andR hA))
  obtain rfl : co = 0 := eq_of_beq (α := Int) (andL (andR (andR hA)))
  obtain rfl : si = 0 := eq_of_beq (α := Int) (andL (andR (andR (andR hA))))
  obtain rfl : sh = false := eq_of_beq (α := Bool) (andL (andR (andR (andR (andR (andR hA))))))
  obtain rfl : sr = 0 := eq_of_beq (α := Int) (andL (andR (andR (andR (andR (andR (andR (andR hA))))))))
  obtain rfl : dp = 0 := eq_of_beq (α := Int) (andL (andR (andR (andR (andR (andR (andR (andR (andR hA)))))))))
  obtain rfl : re = 0 := eq_of_beq (α := Int) (andL (andR (andR (andR (andR (andR (andR (andR (andR (andR hA))))))))))
  obtain rfl : im = 0 := eq_of_beq (α := Int) (andL (andR (andR (andR (andR (andR (andR (andR (andR (andR (andR hA)))))))))))
  cases wi with
  | true =>
    rcases reg_cases hD with ⟨d, rfl, h1⟩ | ⟨d, rfl, h1⟩
    · exact retZ (by simp only [encS9, modP_eq (b := 192) (m := 6) (e := (Int.ofNat d)) (by decide) (by decide) (by decide) (reg_out hD), td_lo h1] <;> rfl) (pe9_0 d (csF' (notT hv) (csF' (ge_lo h1) csN')) w hL)
    · exact retZ (by simp only [encS9, modP_eq (b := 192) (m := 6) (e := (Int.ofNat (d + 8))) (by decide) (by decide) (by decide) (reg_out hD), td_hi h1] <;> rfl) (pe9_1 d (csF' (notT hv) (csT' (ge_hi h1) csN')) w hL)
  | false =>
    rcases reg_cases hD with ⟨d, rfl, h1⟩ | ⟨d, rfl, h1⟩
    · exact retZ (by simp only [encS9, modP_eq (b := 192) (m := 6) (e := (Int.ofNat d)) (by decide) (by decide) (by decide) (reg_out hD), td_lo h1] <;> rfl) (pe9_2 d (csF' (notT hv) (csF' (ge_lo h1) csN')) w hL)
    · exact retZ (by simp only [encS9, modP_eq (b := 192) (m := 6) (e := (Int.ofNat (d + 8))) (by decide) (by decide) (by decide) (reg_out hD), td_hi h1] <;> rfl) (pe9_3 d (csF' (notT hv) (csT' (ge_hi h1) csN')) w hL)
theorem c_pe10 (al co si : Int) (wi sh : Bool) (ds sr dp re im : Int) (hv : vP10 al co si wi sh ds sr dp re im = true) (w : World) (hL : Laid h12 w) : Calls Tryd.prog 13 #[.agg ⟨(xA 10 al co si wi sh ds sr dp re im)⟩] w fun e w' => e = .returned (.tuple ⟨[.string ⟨⟨encS10 al co si wi sh ds sr dp re im⟩⟩, .int .i64 0]⟩) ∧ Gr w w' := by
  have hA := andL hv
  have hR := andL (andR hv)
  have hD := andL hR
  have hS := andR hR
  have hC := andL (andR (andR hv))
  obtain rfl : al = 0 := eq_of_beq (α := Int) (andL (andR hA))
  obtain rfl : co = 0 := eq_of_beq (α := Int) (andL (andR (andR hA)))
  obtain rfl : si = 0 := eq_of_beq (α := Int) (andL (andR (andR (andR hA))))
  obtain rfl : sh = false := eq_of_beq (α := Bool) (andL (andR (andR (andR (andR (andR hA))))))
  obtain rfl : dp = 0 := eq_of_beq (α := Int) (andL (andR (andR (andR (andR (andR (andR (andR (andR hA)))))))))
  obtain rfl : re = 0 := eq_of_beq (α := Int) (andL (andR (andR (andR (andR (andR (andR (andR (andR (andR hA))))))))))
  obtain rfl : im = 0 := eq_of_beq (α := Int) (andL (andR (andR (andR (andR (andR (andR (andR (andR (andR (andR hA)))))))))))
  cases wi with
  | true =>
    rcases reg_cases hD with ⟨d, rfl, h1⟩ | ⟨d, rfl, h1⟩
    · rcases reg_cases hS with ⟨s, rfl, h2⟩ | ⟨s, rfl, h2⟩
      · exact retZ (by simp only [encS10, modP_eq (b := 192) (m := (Int.ofNat d)) (e := (Int.ofNat s)) (by decide) (by decide) (reg_out hD) (reg_out hS), td_lo h1, td_lo h2] <;> rfl) (pe10_0 d s (csF' (notT hv) (csF' (ge_lo h1) (csF' (ge_lo h2) csN'))) w hL)
      · exact retZ (by simp only [encS10, modP_eq (b := 192) (m := (Int.ofNat d)) (e := (Int.ofNat (s + 8))) (by decide) (by decide) (reg_out hD) (reg_out hS), td_lo h1, td_hi h2] <;> rfl) (pe10_1 d s (csF' (notT hv) (csF' (ge_lo h1) (csT' (ge_hi h2) csN'))) w hL)
    · rcases reg_cases hS with ⟨s, rfl, h2⟩ | ⟨s, rfl, h2⟩
      · exact retZ (by simp only [encS10, modP_eq (b := 192) (m := (Int.ofNat (d + 8))) (e := (Int.ofNat s)) (by decide) (by decide) (reg_out hD) (reg_out hS), td_hi h1, td_lo h2] <;> rfl) (pe10_2 d s (csF' (notT hv) (csT' (ge_hi h1) (csF' (ge_lo h2) csN'))) w hL)
      · exact retZ (by simp only [encS10, modP_eq (b := 192) (m := (Int.ofNat (d + 8))) (e := (Int.ofNat (s + 8))) (by decide) (by decide) (reg_out hD) (reg_out hS), td_hi h1, td_hi h2] <;> rfl) (pe10_3 d s (csF' (notT hv) (csT' (ge_hi h1) (csT' (ge_hi h2) csN'))) w hL)
  | false =>
    rcases reg_cases hD with ⟨d, rfl, h1⟩ | ⟨d, rfl, h1⟩
    · rcases reg_cases hS with ⟨s, rfl, h2⟩ | ⟨s, rfl, h2⟩
      · exact retZ (by simp only [encS10, modP_eq (b := 192) (m := (Int.ofNat d)) (e := (Int.ofNat s)) (by decide) (by decide) (reg_out hD) (reg_out hS), td_lo h1, td_lo h2] <;> rfl) (pe10_4 d s (csF' (notT hv) (csF' (ge_lo h1) (csF' (ge_lo h2) csN'))) w hL)
      · exact retZ (by simp only [encS10, modP_eq (b := 192) (m := (Int.ofNat d)) (e := (Int.ofNat (s + 8))) (by decide) (by decide) (reg_out hD) (reg_out hS), td_lo h1, td_hi h2] <;> rfl) (pe10_5 d s (csF' (notT hv) (csF' (ge_lo h1) (csT' (ge_hi h2) csN'))) w hL)
    · rcases reg_cases hS with ⟨s, rfl, h2⟩ | ⟨s, rfl, h2⟩
      · exact retZ (by simp only [encS10, modP_eq (b := 192) (m := (Int.ofNat (d + 8))) (e := (Int.ofNat s)) (by decide) (by decide) (reg_out hD) (reg_out hS), td_hi h1, td_lo h2] <;> rfl) (pe10_6 d s (csF' (notT hv) (csT' (ge_hi h1) (csF' (ge_lo h2) csN'))) w hL)
      · exact retZ (by simp only [encS10, modP_eq (b := 192) (m := (Int.ofNat (d + 8))) (e := (Int.ofNat (s + 8))) (by decide) (by decide) (reg_out hD) (reg_out hS), td_hi h1, td_hi h2] <;> rfl) (pe10_7 d s (csF' (notT hv) (csT' (ge_hi h1) (csT' (ge_hi h2) csN'))) w hL)
theorem c_pe11 (al co si : Int) (wi sh : Bool) (ds sr dp re im : Int) (hv : vP11 al co si wi sh ds sr dp re im = true) (w : World) (hL : Laid h12 w) : Calls Tryd.prog 13 #[.agg ⟨(xA 11 al co si wi sh ds sr dp re im)⟩] w fun e w' => e = .returned (.tuple ⟨[.string ⟨⟨encS11 al co si wi sh ds sr dp re im⟩⟩, .int .i64 0]⟩) ∧ Gr w w' := by
  have hA := andL hv
  have hR := andL (andR hv)
  have hD := andL hR
  have hS := andR hR
  have hC := andL (andR (andR hv))
  obtain rfl : co = 0 := eq_of_beq (α := Int) (andL (andR (andR hA)))
  obtain rfl : si = 0 := eq_of_beq (α := Int) (andL (andR (andR (andR hA))))
  obtain rfl : sh = false := eq_of_beq (α := Bool) (andL (andR (andR (andR (andR (andR hA))))))
  obtain rfl : sr = 0 := eq_of_beq (α := Int) (andL (andR (andR (andR (andR (andR (andR (andR hA))))))))
  obtain rfl : dp = 0 := eq_of_beq (α := Int) (andL (andR (andR (andR (andR (andR (andR (andR (andR hA)))))))))
  obtain rfl : re = 0 := eq_of_beq (α := Int) (andL (andR (andR (andR (andR (andR (andR (andR (andR (andR hA))))))))))
  have ha := sh_out hC
  cases wi with
  | true =>
    rcases reg_cases hD with ⟨d, rfl, h1⟩ | ⟨d, rfl, h1⟩
    · exact retZ (by simp only [encS11, modP_eq (b := 192) (m := al) (e := (Int.ofNat d)) (by decide) (by decide) ⟨ha.1, Int.lt_trans ha.2 (by decide)⟩ (reg_out hD), immP_eq, td_lo h1] <;> rfl) (pe11_0 al d im (csF' (notT hv) (csF' (ge_no ha) (csF' (ge_lo h1) csN'))) w hL)
    · exact retZ (by simp only [encS11, modP_eq (b := 192) (m := al) (e := (Int.ofNat (d + 8))) (by decide) (by decide) ⟨ha.1, Int.lt_trans ha.2 (by decide)⟩ (reg_out hD), immP_eq, td_hi h1] <;> rfl) (pe11_1 al d im (csF' (notT hv) (csF' (ge_no ha) (csT' (ge_hi h1) csN'))) w hL)
  | false =>
    rcases reg_cases hD with ⟨d, rfl, h1⟩ | ⟨d, rfl, h1⟩
    · exact retZ (by simp only [encS11, modP_eq (b := 192) (m := al) (e := (Int.ofNat d)) (by decide) (by decide) ⟨ha.1, Int.lt_trans ha.2 (by decide)⟩ (reg_out hD), immP_eq, td_lo h1] <;> rfl) (pe11_2 al d im (csF' (notT hv) (csF' (ge_no ha) (csF' (ge_lo h1) csN'))) w hL)
    · exact retZ (by simp only [encS11, modP_eq (b := 192) (m := al) (e := (Int.ofNat (d + 8))) (by decide) (by decide) ⟨ha.1, Int.lt_trans ha.2 (by decide)⟩ (reg_out hD), immP_eq, td_hi h1] <;> rfl) (pe11_3 al d im (csF' (notT hv) (csF' (ge_no ha) (csT' (ge_hi h1) csN'))) w hL)
theorem c_pe12 (al co si : Int) (wi sh : Bool) (ds sr dp re im : Int) (hv : vP12 al co si wi sh ds sr dp re im = true) (w : World) (hL : Laid h12 w) : Calls Tryd.prog 13 #[.agg ⟨(xA 12 al co si wi sh ds sr dp re im)⟩] w fun e w' => e = .returned (.tuple ⟨[.string ⟨⟨encS12 al co si wi sh ds sr dp re im⟩⟩, .int .i64 0]⟩) ∧ Gr w w' := by
  have hA := andL hv
  have hR := andL (andR hv)
  have hD := andL hR
  have hS := andR hR
  have hC := andL (andR (andR hv))
  obtain rfl : co = 0 := eq_of_beq (α := Int) (andL (andR (andR hA)))
  obtain rfl : si = 0 := eq_of_beq (α := Int) (andL (andR (andR (andR hA))))
  obtain rfl : sh = false := eq_of_beq (α := Bool) (andL (andR (andR (andR (andR (andR hA))))))
  obtain rfl : sr = 0 := eq_of_beq (α := Int) (andL (andR (andR (andR (andR (andR (andR (andR hA))))))))
  obtain rfl : dp = 0 := eq_of_beq (α := Int) (andL (andR (andR (andR (andR (andR (andR (andR (andR hA)))))))))
  obtain rfl : re = 0 := eq_of_beq (α := Int) (andL (andR (andR (andR (andR (andR (andR (andR (andR (andR hA))))))))))
  obtain rfl : im = 0 := eq_of_beq (α := Int) (andL (andR (andR (andR (andR (andR (andR (andR (andR (andR (andR hA)))))))))))
  have ha := sh_out hC
  cases wi with
  | true =>
    rcases reg_cases hD with ⟨d, rfl, h1⟩ | ⟨d, rfl, h1⟩
    · exact retZ (by simp only [encS12, modP_eq (b := 192) (m := al) (e := (Int.ofNat d)) (by decide) (by decide) ⟨ha.1, Int.lt_trans ha.2 (by decide)⟩ (reg_out hD), td_lo h1] <;> rfl) (pe12_0 al d (csF' (notT hv) (csF' (ge_no ha) (csF' (ge_lo h1) csN'))) w hL)
    · exact retZ (by simp only [encS12, modP_eq (b := 192) (m := al) (e := (Int.ofNat (d + 8))) (by decide) (by decide) ⟨ha.1, Int.lt_trans ha.2 (by decide)⟩ (reg_out hD), td_hi h1] <;> rfl) (pe12_1 al d (csF' (notT hv) (csF' (ge_no ha) (csT' (ge_hi h1) csN'))) w hL)
  | false =>
    rcases reg_cases hD with ⟨d, rfl, h1⟩ | ⟨d, rfl, h1⟩
    · exact retZ (by simp only [encS12, modP_eq (b := 192) (m := al) (e := (Int.ofNat d)) (by decide) (by decide) ⟨ha.1, Int.lt_trans ha.2 (by decide)⟩ (reg_out hD), td_lo h1] <;> rfl) (pe12_2 al d (csF' (notT hv) (csF' (ge_no ha) (csF' (ge_lo h1) csN'))) w hL)
    · exact retZ (by simp only [encS12, modP_eq (b := 192) (m := al) (e := (Int.ofNat (d + 8))) (by decide) (by decide) ⟨ha.1, Int.lt_trans ha.2 (by decide)⟩ (reg_out hD), td_hi h1] <;> rfl) (pe12_3 al d (csF' (notT hv) (csF' (ge_no ha) (csT' (ge_hi h1) csN'))) w hL)
theorem c_pe13 (al co si : Int) (wi sh : Bool) (ds sr dp re im : Int) (hv : vP13 al co si wi sh ds sr dp re im = true) (w : World) (hL : Laid h12 w) : Calls Tryd.prog 13 #[.agg ⟨(xA 13 al co si wi sh ds sr dp re im)⟩] w fun e w' => e = .returned (.tuple ⟨[.string ⟨⟨encS13 al co si wi sh ds sr dp re im⟩⟩, .int .i64 0]⟩) ∧ Gr w w' := by
  have hA := andL hv
  have hR := andL (andR hv)
  have hD := andL hR
  have hS := andR hR
  have hC := andL (andR (andR hv))
  obtain rfl : al = 0 := eq_of_beq (α := Int) (andL (andR hA))
  obtain rfl : co = 0 := eq_of_beq (α := Int) (andL (andR (andR hA)))
  obtain rfl : sh = false := eq_of_beq (α := Bool) (andL (andR (andR (andR (andR (andR hA))))))
  obtain rfl : re = 0 := eq_of_beq (α := Int) (andL (andR (andR (andR (andR (andR (andR (andR (andR (andR hA))))))))))
  obtain rfl : im = 0 := eq_of_beq (α := Int) (andL (andR (andR (andR (andR (andR (andR (andR (andR (andR (andR hA)))))))))))
  have hsz := szOut (andL hC)
  have hw : wi = (si == 8) := eq_of_beq (andR hC)
  rcases hsz with rfl | rfl | rfl | rfl
  · obtain rfl : wi = false := hw
    rcases reg_cases hD with ⟨d, rfl, h1⟩ | ⟨d, rfl, h1⟩
    · rcases reg_cases hS with ⟨s, rfl, h2⟩ | ⟨s, rfl, h2⟩
      · rcases Bool.eq_false_or_eq_true (Int.tmod (Int.ofNat s) 8 == 4) with h4 | h4
        · exact retZ (by simp only [encS13, modP_eq (b := 128) (m := (Int.ofNat d)) (e := (Int.ofNat s)) (by decide) (by decide) (reg_out hD) (reg_out hS), immP_eq, td_lo h1, td_lo h2, h4] <;> rfl) (pe13_0 d s dp (csF' (notT hv) (csF' (ge_lo h1) (csF' (ge_lo h2) (csT' h4 csN')))) w hL)
        · exact retZ (by simp only [encS13, modP_eq (b := 128) (m := (Int.ofNat d)) (e := (Int.ofNat s)) (by decide) (by decide) (reg_out hD) (reg_out hS), immP_eq, td_lo h1, td_lo h2, h4] <;> rfl) (pe13_1 d s dp (csF' (notT hv) (csF' (ge_lo h1) (csF' (ge_lo h2) (csF' h4 csN')))) w hL)
      · rcases Bool.eq_false_or_eq_true (Int.tmod (Int.ofNat (s + 8)) 8 == 4) with h4 | h4
        · exact retZ (by simp only [encS13, modP_eq (b := 128) (m := (Int.ofNat d)) (e := (Int.ofNat (s + 8))) (by decide) (by decide) (reg_out hD) (reg_out hS), immP_eq, td_lo h1, td_hi h2, h4] <;> rfl) (pe13_2 d s dp (csF' (notT hv) (csF' (ge_lo h1) (csT' (ge_hi h2) (csT' h4 csN')))) w hL)
        · exact retZ (by simp only [encS13, modP_eq (b := 128) (m := (Int.ofNat d)) (e := (Int.ofNat (s + 8))) (by decide) (by decide) (reg_out hD) (reg_out hS), immP_eq, td_lo h1, td_hi h2, h4] <;> rfl) (pe13_3 d s dp (csF' (notT hv) (csF' (ge_lo h1) (csT' (ge_hi h2) (csF' h4 csN')))) w hL)
    · rcases reg_cases hS with ⟨s, rfl, h2⟩ | ⟨s, rfl, h2⟩
      · rcases Bool.eq_false_or_eq_true (Int.tmod (Int.ofNat s) 8 == 4) with h4 | h4
        · exact retZ (by simp only [encS13, modP_eq (b := 128) (m := (Int.ofNat (d + 8))) (e := (Int.ofNat s)) (by decide) (by decide) (reg_out hD) (reg_out hS), immP_eq, td_hi h1, td_lo h2, h4] <;> rfl) (pe13_4 d s dp (csF' (notT hv) (csT' (ge_hi h1) (csF' (ge_lo h2) (csT' h4 csN')))) w hL)
        · exact retZ (by simp only [encS13, modP_eq (b := 128) (m := (Int.ofNat (d + 8))) (e := (Int.ofNat s)) (by decide) (by decide) (reg_out hD) (reg_out hS), immP_eq, td_hi h1, td_lo h2, h4] <;> rfl) (pe13_5 d s dp (csF' (notT hv) (csT' (ge_hi h1) (csF' (ge_lo h2) (csF' h4 csN')))) w hL)
      · rcases Bool.eq_false_or_eq_true (Int.tmod (Int.ofNat (s + 8)) 8 == 4) with h4 | h4
        · exact retZ (by simp only [encS13, modP_eq (b := 128) (m := (Int.ofNat (d + 8))) (e := (Int.ofNat (s + 8))) (by decide) (by decide) (reg_out hD) (reg_out hS), immP_eq, td_hi h1, td_hi h2, h4] <;> rfl) (pe13_6 d s dp (csF' (notT hv) (csT' (ge_hi h1) (csT' (ge_hi h2) (csT' h4 csN')))) w hL)
        · exact retZ (by simp only [encS13, modP_eq (b := 128) (m := (Int.ofNat (d + 8))) (e := (Int.ofNat (s + 8))) (by decide) (by decide) (reg_out hD) (reg_out hS), immP_eq, td_hi h1, td_hi h2, h4] <;> rfl) (pe13_7 d s dp (csF' (notT hv) (csT' (ge_hi h1) (csT' (ge_hi h2) (csF' h4 csN')))) w hL)
  · obtain rfl : wi = false := hw
    rcases reg_cases hD with ⟨d, rfl, h1⟩ | ⟨d, rfl, h1⟩
    · rcases reg_cases hS with ⟨s, rfl, h2⟩ | ⟨s, rfl, h2⟩
      · rcases Bool.eq_false_or_eq_true (Int.tmod (Int.ofNat s) 8 == 4) with h4 | h4
        · exact retZ (by simp only [encS13, modP_eq (b := 128) (m := (Int.ofNat d)) (e := (Int.ofNat s)) (by decide) (by decide) (reg_out hD) (reg_out hS), immP_eq, td_lo h1, td_lo h2, h4] <;> rfl) (pe13_8 d s dp (csF' (notT hv) (csF' (ge_lo h1) (csF' (ge_lo h2) (csT' h4 csN')))) w hL)
        · exact retZ (by simp only [encS13, modP_eq (b := 128) (m := (Int.ofNat d)) (e := (Int.ofNat s)) (by decide) (by decide) (reg_out hD) (reg_out hS), immP_eq, td_lo h1, td_lo h2, h4] <;> rfl) (pe13_9 d s dp (csF' (notT hv) (csF' (ge_lo h1) (csF' (ge_lo h2) (csF' h4 csN')))) w hL)
      · rcases Bool.eq_false_or_eq_true (Int.tmod (Int.ofNat (s + 8)) 8 == 4) with h4 | h4
        · exact retZ (by simp only [encS13, modP_eq (b := 128) (m := (Int.ofNat d)) (e := (Int.ofNat (s + 8))) (by decide) (by decide) (reg_out hD) (reg_out hS), immP_eq, td_lo h1, td_hi h2, h4] <;> rfl) (pe13_10 d s dp (csF' (notT hv) (csF' (ge_lo h1) (csT' (ge_hi h2) (csT' h4 csN')))) w hL)
        · exact retZ (by simp only [encS13, modP_eq (b := 128) (m := (Int.ofNat d)) (e := (Int.ofNat (s + 8))) (by decide) (by decide) (reg_out hD) (reg_out hS), immP_eq, td_lo h1, td_hi h2, h4] <;> rfl) (pe13_11 d s dp (csF' (notT hv) (csF' (ge_lo h1) (csT' (ge_hi h2) (csF' h4 csN')))) w hL)
    · rcases reg_cases hS with ⟨s, rfl, h2⟩ | ⟨s, rfl, h2⟩
      · rcases Bool.eq_false_or_eq_true (Int.tmod (Int.ofNat s) 8 == 4) with h4 | h4
        · exact retZ (by simp only [encS13, modP_eq (b := 128) (m := (Int.ofNat (d + 8))) (e := (Int.ofNat s)) (by decide) (by decide) (reg_out hD) (reg_out hS), immP_eq, td_hi h1, td_lo h2, h4] <;> rfl) (pe13_12 d s dp (csF' (notT hv) (csT' (ge_hi h1) (csF' (ge_lo h2) (csT' h4 csN')))) w hL)
        · exact retZ (by simp only [encS13, modP_eq (b := 128) (m := (Int.ofNat (d + 8))) (e := (Int.ofNat s)) (by decide) (by decide) (reg_out hD) (reg_out hS), immP_eq, td_hi h1, td_lo h2, h4] <;> rfl) (pe13_13 d s dp (csF' (notT hv) (csT' (ge_hi h1) (csF' (ge_lo h2) (csF' h4 csN')))) w hL)
      · rcases Bool.eq_false_or_eq_true (Int.tmod (Int.ofNat (s + 8)) 8 == 4) with h4 | h4
        · exact retZ (by simp only [encS13, modP_eq (b := 128) (m := (Int.ofNat (d + 8))) (e := (Int.ofNat (s + 8))) (by decide) (by decide) (reg_out hD) (reg_out hS), immP_eq, td_hi h1, td_hi h2, h4] <;> rfl) (pe13_14 d s dp (csF' (notT hv) (csT' (ge_hi h1) (csT' (ge_hi h2) (csT' h4 csN')))) w hL)
        · exact retZ (by simp only [encS13, modP_eq (b := 128) (m := (Int.ofNat (d + 8))) (e := (Int.ofNat (s + 8))) (by decide) (by decide) (reg_out hD) (reg_out hS), immP_eq, td_hi h1, td_hi h2, h4] <;> rfl) (pe13_15 d s dp (csF' (notT hv) (csT' (ge_hi h1) (csT' (ge_hi h2) (csF' h4 csN')))) w hL)
  · obtain rfl : wi = false := hw
    rcases reg_cases hD with ⟨d, rfl, h1⟩ | ⟨d, rfl, h1⟩
    · rcases reg_cases hS with ⟨s, rfl, h2⟩ | ⟨s, rfl, h2⟩
      · rcases Bool.eq_false_or_eq_true (Int.tmod (Int.ofNat s) 8 == 4) with h4 | h4
        · exact retZ (by simp only [encS13, modP_eq (b := 128) (m := (Int.ofNat d)) (e := (Int.ofNat s)) (by decide) (by decide) (reg_out hD) (reg_out hS), immP_eq, td_lo h1, td_lo h2, h4] <;> rfl) (pe13_16 d s dp (csF' (notT hv) (csF' (ge_lo h1) (csF' (ge_lo h2) (csT' h4 csN')))) w hL)
        · exact retZ (by simp only [encS13, modP_eq (b := 128) (m := (Int.ofNat d)) (e := (Int.ofNat s)) (by decide) (by decide) (reg_out hD) (reg_out hS), immP_eq, td_lo h1, td_lo h2, h4] <;> rfl) (pe13_17 d s dp (csF' (notT hv) (csF' (ge_lo h1) (csF' (ge_lo h2) (csF' h4 csN')))) w hL)
      · rcases Bool.eq_false_or_eq_true (Int.tmod (Int.ofNat (s + 8)) 8 == 4) with h4 | h4
        · exact retZ (by simp only [encS13, modP_eq (b := 128) (m := (Int.ofNat d)) (e := (Int.ofNat (s + 8))) (by decide) (by decide) (reg_out hD) (reg_out hS), immP_eq, td_lo h1, td_hi h2, h4] <;> rfl) (pe13_18 d s dp (csF' (notT hv) (csF' (ge_lo h1) (csT' (ge_hi h2) (csT' h4 csN')))) w hL)
        · exact retZ (by simp only [encS13, modP_eq (b := 128) (m := (Int.ofNat d)) (e := (Int.ofNat (s + 8))) (by decide) (by decide) (reg_out hD) (reg_out hS), immP_eq, td_lo h1, td_hi h2, h4] <;> rfl) (pe13_19 d s dp (csF' (notT hv) (csF' (ge_lo h1) (csT' (ge_hi h2) (csF' h4 csN')))) w hL)
    · rcases reg_cases hS with ⟨s, rfl, h2⟩ | ⟨s, rfl, h2⟩
      · rcases Bool.eq_false_or_eq_true (Int.tmod (Int.ofNat s) 8 == 4) with h4 | h4
        · exact retZ (by simp only [encS13, modP_eq (b := 128) (m := (Int.ofNat (d + 8))) (e := (Int.ofNat s)) (by decide) (by decide) (reg_out hD) (reg_out hS), immP_eq, td_hi h1, td_lo h2, h4] <;> rfl) (pe13_20 d s dp (csF' (notT hv) (csT' (ge_hi h1) (csF' (ge_lo h2) (csT' h4 csN')))) w hL)
        · exact retZ (by simp only [encS13, modP_eq (b := 128) (m := (Int.ofNat (d + 8))) (e := (Int.ofNat s)) (by decide) (by decide) (reg_out hD) (reg_out hS), immP_eq, td_hi h1, td_lo h2, h4] <;> rfl) (pe13_21 d s dp (csF' (notT hv) (csT' (ge_hi h1) (csF' (ge_lo h2) (csF' h4 csN')))) w hL)
      · rcases Bool.eq_false_or_eq_true (Int.tmod (Int.ofNat (s + 8)) 8 == 4) with h4 | h4
        · exact retZ (by simp only [encS13, modP_eq (b := 128) (m := (Int.ofNat (d + 8))) (e := (Int.ofNat (s + 8))) (by decide) (by decide) (reg_out hD) (reg_out hS), immP_eq, td_hi h1, td_hi h2, h4] <;> rfl) (pe13_22 d s dp (csF' (notT hv) (csT' (ge_hi h1) (csT' (ge_hi h2) (csT' h4 csN')))) w hL)
        · exact retZ (by simp only [encS13, modP_eq (b := 128) (m := (Int.ofNat (d + 8))) (e := (Int.ofNat (s + 8))) (by decide) (by decide) (reg_out hD) (reg_out hS), immP_eq, td_hi h1, td_hi h2, h4] <;> rfl) (pe13_23 d s dp (csF' (notT hv) (csT' (ge_hi h1) (csT' (ge_hi h2) (csF' h4 csN')))) w hL)
  · obtain rfl : wi = true := hw
    rcases reg_cases hD with ⟨d, rfl, h1⟩ | ⟨d, rfl, h1⟩
    · rcases reg_cases hS with ⟨s, rfl, h2⟩ | ⟨s, rfl, h2⟩
      · rcases Bool.eq_false_or_eq_true (Int.tmod (Int.ofNat s) 8 == 4) with h4 | h4
        · exact retZ (by simp only [encS13, modP_eq (b := 128) (m := (Int.ofNat d)) (e := (Int.ofNat s)) (by decide) (by decide) (reg_out hD) (reg_out hS), immP_eq, td_lo h1, td_lo h2, h4] <;> rfl) (pe13_24 d s dp (csF' (notT hv) (csF' (ge_lo h1) (csF' (ge_lo h2) (csT' h4 csN')))) w hL)
        · exact retZ (by simp only [encS13, modP_eq (b := 128) (m := (Int.ofNat d)) (e := (Int.ofNat s)) (by decide) (by decide) (reg_out hD) (reg_out hS), immP_eq, td_lo h1, td_lo h2, h4] <;> rfl) (pe13_25 d s dp (csF' (notT hv) (csF' (ge_lo h1) (csF' (ge_lo h2) (csF' h4 csN')))) w hL)
      · rcases Bool.eq_false_or_eq_true (Int.tmod (Int.ofNat (s + 8)) 8 == 4) with h4 | h4
        · exact retZ (by simp only [encS13, modP_eq (b := 128) (m := (Int.ofNat d)) (e := (Int.ofNat (s + 8))) (by decide) (by decide) (reg_out hD) (reg_out hS), immP_eq, td_lo h1, td_hi h2, h4] <;> rfl) (pe13_26 d s dp (csF' (notT hv) (csF' (ge_lo h1) (csT' (ge_hi h2) (csT' h4 csN')))) w hL)
        · exact retZ (by simp only [encS13, modP_eq (b := 128) (m := (Int.ofNat d)) (e := (Int.ofNat (s + 8))) (by decide) (by decide) (reg_out hD) (reg_out hS), immP_eq, td_lo h1, td_hi h2, h4] <;> rfl) (pe13_27 d s dp (csF' (notT hv) (csF' (ge_lo h1) (csT' (ge_hi h2) (csF' h4 csN')))) w hL)
    · rcases reg_cases hS with ⟨s, rfl, h2⟩ | ⟨s, rfl, h2⟩
      · rcases Bool.eq_false_or_eq_true (Int.tmod (Int.ofNat s) 8 == 4) with h4 | h4
        · exact retZ (by simp only [encS13, modP_eq (b := 128) (m := (Int.ofNat (d + 8))) (e := (Int.ofNat s)) (by decide) (by decide) (reg_out hD) (reg_out hS), immP_eq, td_hi h1, td_lo h2, h4] <;> rfl) (pe13_28 d s dp (csF' (notT hv) (csT' (ge_hi h1) (csF' (ge_lo h2) (csT' h4 csN')))) w hL)
        · exact retZ (by simp only [encS13, modP_eq (b := 128) (m := (Int.ofNat (d + 8))) (e := (Int.ofNat s)) (by decide) (by decide) (reg_out hD) (reg_out hS), immP_eq, td_hi h1, td_lo h2, h4] <;> rfl) (pe13_29 d s dp (csF' (notT hv) (csT' (ge_hi h1) (csF' (ge_lo h2) (csF' h4 csN')))) w hL)
      · rcases Bool.eq_false_or_eq_true (Int.tmod (Int.ofNat (s + 8)) 8 == 4) with h4 | h4
        · exact retZ (by simp only [encS13, modP_eq (b := 128) (m := (Int.ofNat (d + 8))) (e := (Int.ofNat (s + 8))) (by decide) (by decide) (reg_out hD) (reg_out hS), immP_eq, td_hi h1, td_hi h2, h4] <;> rfl) (pe13_30 d s dp (csF' (notT hv) (csT' (ge_hi h1) (csT' (ge_hi h2) (csT' h4 csN')))) w hL)
        · exact retZ (by simp only [encS13, modP_eq (b := 128) (m := (Int.ofNat (d + 8))) (e := (Int.ofNat (s + 8))) (by decide) (by decide) (reg_out hD) (reg_out hS), immP_eq, td_hi h1, td_hi h2, h4] <;> rfl) (pe13_31 d s dp (csF' (notT hv) (csT' (ge_hi h1) (csT' (ge_hi h2) (csF' h4 csN')))) w hL)
theorem c_pe14 (al co si : Int) (wi sh : Bool) (ds sr dp re im : Int) (hv : vP14 al co si wi sh ds sr dp re im = true) (w : World) (hL : Laid h12 w) : Calls Tryd.prog 13 #[.agg ⟨(xA 14 al co si wi sh ds sr dp re im)⟩] w fun e w' => e = .returned (.tuple ⟨[.string ⟨⟨encS14 al co si wi sh ds sr dp re im⟩⟩, .int .i64 0]⟩) ∧ Gr w w' := by
  have hA := andL hv
  have hR := andL (andR hv)
  have hD := andL hR
  have hS := andR hR
  have hC := andL (andR (andR hv))
  obtain rfl : al = 0 := eq_of_beq (α := Int) (andL (andR hA))
  obtain rfl : co = 0 := eq_of_beq (α := Int) (andL (andR (andR hA)))
  obtain rfl : sh = false := eq_of_beq (α := Bool) (andL (andR (andR (andR (andR (andR hA))))))
  obtain rfl : re = 0 := eq_of_beq (α := Int) (andL (andR (andR (andR (andR (andR (andR (andR (andR (andR hA))))))))))
  obtain rfl : im = 0 := eq_of_beq (α := Int) (andL (andR (andR (andR (andR (andR (andR (andR (andR (andR (andR hA)))))))))))
  have hsz := szOut (andL hC)
  have hw : wi = (si == 8) := eq_of_beq (andR hC)
  rcases hsz with rfl | rfl | rfl | rfl
  · obtain rfl : wi = false := hw
    rcases reg_cases hD with ⟨d, rfl, h1⟩ | ⟨d, rfl, h1⟩
    · rcases reg_cases hS with ⟨s, rfl, h2⟩ | ⟨s, rfl, h2⟩
      · rcases Bool.eq_false_or_eq_true (Int.tmod (Int.ofNat d) 8 == 4) with h4 | h4
        · exact retZ (by simp only [encS14, modP_eq (b := 128) (m := (Int.ofNat s)) (e := (Int.ofNat d)) (by decide) (by decide) (reg_out hS) (reg_out hD), immP_eq, td_lo h1, td_lo h2, h4] <;> rfl) (pe14_0 d s dp (csF' (notT hv) (csF' (ge_lo h2) (csF' (ge_lo h1) (csT' h4 csN')))) w hL)
        · exact retZ (by simp only [encS14, modP_eq (b := 128) (m := (Int.ofNat s)) (e := (Int.ofNat d)) (by decide) (by decide) (reg_out hS) (reg_out hD), immP_eq, td_lo h1, td_lo h2, h4] <;> rfl) (pe14_1 d s dp (csF' (notT hv) (csF' (ge_lo h2) (csF' (ge_lo h1) (csF' h4 csN')))) w hL)
      · rcases Bool.eq_false_or_eq_true (Int.tmod (Int.ofNat d) 8 == 4) with h4 | h4
        · exact retZ (by simp only [encS14, modP_eq (b := 128) (m := (Int.ofNat (s + 8))) (e := (Int.ofNat d)) (by decide) (by decide) (reg_out hS) (reg_out hD), immP_eq, td_lo h1, td_hi h2, h4] <;> rfl) (pe14_2 d s dp (csF' (notT hv) (csT' (ge_hi h2) (csF' (ge_lo h1) (csT' h4 csN')))) w hL)
        · exact retZ (by simp only [encS14, modP_eq (b := 128) (m := (Int.ofNat (s + 8))) (e := (Int.ofNat d)) (by decide) (by decide) (reg_out hS) (reg_out hD), immP_eq, td_lo h1, td_hi h2, h4] <;> rfl) (pe14_3 d s dp (csF' (notT hv) (csT' (ge_hi h2) (csF' (ge_lo h1) (csF' h4 csN')))) w hL)
    · rcases reg_cases hS with ⟨s, rfl, h2⟩ | ⟨s, rfl, h2⟩
      · rcases Bool.eq_false_or_eq_true (Int.tmod (Int.ofNat (d + 8)) 8 == 4) with h4 | h4
        · exact retZ (by simp only [encS14, modP_eq (b := 128) (m := (Int.ofNat s)) (e := (Int.ofNat (d + 8))) (by decide) (by decide) (reg_out hS) (reg_out hD), immP_eq, td_hi h1, td_lo h2, h4] <;> rfl) (pe14_4 d s dp (csF' (notT hv) (csF' (ge_lo h2) (csT' (ge_hi h1) (csT' h4 csN')))) w hL)
        · exact retZ (by simp only [encS14, modP_eq (b := 128) (m := (Int.ofNat s)) (e := (Int.ofNat (d + 8))) (by decide) (by decide) (reg_out hS) (reg_out hD), immP_eq, td_hi h1, td_lo h2, h4] <;> rfl) (pe14_5 d s dp (csF' (notT hv) (csF' (ge_lo h2) (csT' (ge_hi h1) (csF' h4 csN')))) w hL)
      · rcases Bool.eq_false_or_eq_true (Int.tmod (Int.ofNat (d + 8)) 8 == 4) with h4 | h4
        · exact retZ (by simp only [encS14, modP_eq (b := 128) (m := (Int.ofNat (s + 8))) (e := (Int.ofNat (d + 8))) (by decide) (by decide) (reg_out hS) (reg_out hD), immP_eq, td_hi h1, td_hi h2, h4] <;> rfl) (pe14_6 d s dp (csF' (notT hv) (csT' (ge_hi h2) (csT' (ge_hi h1) (csT' h4 csN')))) w hL)
        · exact retZ (by simp only [encS14, modP_eq (b := 128) (m := (Int.ofNat (s + 8))) (e := (Int.ofNat (d + 8))) (by decide) (by decide) (reg_out hS) (reg_out hD), immP_eq, td_hi h1, td_hi h2, h4] <;> rfl) (pe14_7 d s dp (csF' (notT hv) (csT' (ge_hi h2) (csT' (ge_hi h1) (csF' h4 csN')))) w hL)
  · obtain rfl : wi = false := hw
    rcases reg_cases hD with ⟨d, rfl, h1⟩ | ⟨d, rfl, h1⟩
    · rcases reg_cases hS with ⟨s, rfl, h2⟩ | ⟨s, rfl, h2⟩
      · rcases Bool.eq_false_or_eq_true (Int.tmod (Int.ofNat d) 8 == 4) with h4 | h4
        · exact retZ (by simp only [encS14, modP_eq (b := 128) (m := (Int.ofNat s)) (e := (Int.ofNat d)) (by decide) (by decide) (reg_out hS) (reg_out hD), immP_eq, td_lo h1, td_lo h2, h4] <;> rfl) (pe14_8 d s dp (csF' (notT hv) (csF' (ge_lo h2) (csF' (ge_lo h1) (csT' h4 csN')))) w hL)
        · exact retZ (by simp only [encS14, modP_eq (b := 128) (m := (Int.ofNat s)) (e := (Int.ofNat d)) (by decide) (by decide) (reg_out hS) (reg_out hD), immP_eq, td_lo h1, td_lo h2, h4] <;> rfl) (pe14_9 d s dp (csF' (notT hv) (csF' (ge_lo h2) (csF' (ge_lo h1) (csF' h4 csN')))) w hL)
      · rcases Bool.eq_false_or_eq_true (Int.tmod (Int.ofNat d) 8 == 4) with h4 | h4
        · exact retZ (by simp only [encS14, modP_eq (b := 128) (m := (Int.ofNat (s + 8))) (e := (Int.ofNat d)) (by decide) (by decide) (reg_out hS) (reg_out hD), immP_eq, td_lo h1, td_hi h2, h4] <;> rfl) (pe14_10 d s dp (csF' (notT hv) (csT' (ge_hi h2) (csF' (ge_lo h1) (csT' h4 csN')))) w hL)
        · exact retZ (by simp only [encS14, modP_eq (b := 128) (m := (Int.ofNat (s + 8))) (e := (Int.ofNat d)) (by decide) (by decide) (reg_out hS) (reg_out hD), immP_eq, td_lo h1, td_hi h2, h4] <;> rfl) (pe14_11 d s dp (csF' (notT hv) (csT' (ge_hi h2) (csF' (ge_lo h1) (csF' h4 csN')))) w hL)
    · rcases reg_cases hS with ⟨s, rfl, h2⟩ | ⟨s, rfl, h2⟩
      · rcases Bool.eq_false_or_eq_true (Int.tmod (Int.ofNat (d + 8)) 8 == 4) with h4 | h4
        · exact retZ (by simp only [encS14, modP_eq (b := 128) (m := (Int.ofNat s)) (e := (Int.ofNat (d + 8))) (by decide) (by decide) (reg_out hS) (reg_out hD), immP_eq, td_hi h1, td_lo h2, h4] <;> rfl) (pe14_12 d s dp (csF' (notT hv) (csF' (ge_lo h2) (csT' (ge_hi h1) (csT' h4 csN')))) w hL)
        · exact retZ (by simp only [encS14, modP_eq (b := 128) (m := (Int.ofNat s)) (e := (Int.ofNat (d + 8))) (by decide) (by decide) (reg_out hS) (reg_out hD), immP_eq, td_hi h1, td_lo h2, h4] <;> rfl) (pe14_13 d s dp (csF' (notT hv) (csF' (ge_lo h2) (csT' (ge_hi h1) (csF' h4 csN')))) w hL)
      · rcases Bool.eq_false_or_eq_true (Int.tmod (Int.ofNat (d + 8)) 8 == 4) with h4 | h4
        · exact retZ (by simp only [encS14, modP_eq (b := 128) (m := (Int.ofNat (s + 8))) (e := (Int.ofNat (d + 8))) (by decide) (by decide) (reg_out hS) (reg_out hD), immP_eq, td_hi h1, td_hi h2, h4] <;> rfl) (pe14_14 d s dp (csF' (notT hv) (csT' (ge_hi h2) (csT' (ge_hi h1) (csT' h4 csN')))) w hL)
        · exact retZ (by simp only [encS14, modP_eq (b := 128) (m := (Int.ofNat (s + 8))) (e := (Int.ofNat (d + 8))) (by decide) (by decide) (reg_out hS) (reg_out hD), immP_eq, td_hi h1, td_hi h2, h4] <;> rfl) (pe14_15 d s dp (csF' (notT hv) (csT' (ge_hi h2) (csT' (ge_hi h1) (csF' h4 csN')))) w hL)
  · obtain rfl : wi = false := hw
    rcases reg_cases hD with ⟨d, rfl, h1⟩ | ⟨d, rfl, h1⟩
    · rcases reg_cases hS with ⟨s, rfl, h2⟩ | ⟨s, rfl, h2⟩
      · rcases Bool.eq_false_or_eq_true (Int.tmod (Int.ofNat d) 8 == 4) with h4 | h4
        · exact retZ (by simp only [encS14, modP_eq (b := 128) (m := (Int.ofNat s)) (e := (Int.ofNat d)) (by decide) (by decide) (reg_out hS) (reg_out hD), immP_eq, td_lo h1, td_lo h2, h4] <;> rfl) (pe14_16 d s dp (csF' (notT hv) (csF' (ge_lo h2) (csF' (ge_lo h1) (csT' h4 csN')))) w hL)
        · exact retZ (by simp only [encS14, modP_eq (b := 128) (m := (Int.ofNat s)) (e := (Int.ofNat d)) (by decide) (by decide) (reg_out hS) (reg_out hD), immP_eq, td_lo h1, td_lo h2, h4] <;> rfl) (pe14_17 d s dp (csF' (notT hv) (csF' (ge_lo h2) (csF' (ge_lo h1) (csF' h4 csN')))) w hL)
      · rcases Bool.eq_false_or_eq_true (Int.tmod (Int.ofNat d) 8 == 4) with h4 | h4
        · exact retZ (by simp only [encS14, modP_eq (b := 128) (m := (Int.ofNat (s + 8))) (e := (Int.ofNat d)) (by decide) (by decide) (reg_out hS) (reg_out hD), immP_eq, td_lo h1, td_hi h2, h4] <;> rfl) (pe14_18 d s dp (csF' (notT hv) (csT' (ge_hi h2) (csF' (ge_lo h1) (csT' h4 csN')))) w hL)
        · exact retZ (by simp only [encS14, modP_eq (b := 128) (m := (Int.ofNat (s + 8))) (e := (Int.ofNat d)) (by decide) (by decide) (reg_out hS) (reg_out hD), immP_eq, td_lo h1, td_hi h2, h4] <;> rfl) (pe14_19 d s dp (csF' (notT hv) (csT' (ge_hi h2) (csF' (ge_lo h1) (csF' h4 csN')))) w hL)
    · rcases reg_cases hS with ⟨s, rfl, h2⟩ | ⟨s, rfl, h2⟩
      · rcases Bool.eq_false_or_eq_true (Int.tmod (Int.ofNat (d + 8)) 8 == 4) with h4 | h4
        · exact retZ (by simp only [encS14, modP_eq (b := 128) (m := (Int.ofNat s)) (e := (Int.ofNat (d + 8))) (by decide) (by decide) (reg_out hS) (reg_out hD), immP_eq, td_hi h1, td_lo h2, h4] <;> rfl) (pe14_20 d s dp (csF' (notT hv) (csF' (ge_lo h2) (csT' (ge_hi h1) (csT' h4 csN')))) w hL)
        · exact retZ (by simp only [encS14, modP_eq (b := 128) (m := (Int.ofNat s)) (e := (Int.ofNat (d + 8))) (by decide) (by decide) (reg_out hS) (reg_out hD), immP_eq, td_hi h1, td_lo h2, h4] <;> rfl) (pe14_21 d s dp (csF' (notT hv) (csF' (ge_lo h2) (csT' (ge_hi h1) (csF' h4 csN')))) w hL)
      · rcases Bool.eq_false_or_eq_true (Int.tmod (Int.ofNat (d + 8)) 8 == 4) with h4 | h4
        · exact retZ (by simp only [encS14, modP_eq (b := 128) (m := (Int.ofNat (s + 8))) (e := (Int.ofNat (d + 8))) (by decide) (by decide) (reg_out hS) (reg_out hD), immP_eq, td_hi h1, td_hi h2, h4] <;> rfl) (pe14_22 d s dp (csF' (notT hv) (csT' (ge_hi h2) (csT' (ge_hi h1) (csT' h4 csN')))) w hL)
        · exact retZ (by simp only [encS14, modP_eq (b := 128) (m := (Int.ofNat (s + 8))) (e := (Int.ofNat (d + 8))) (by decide) (by decide) (reg_out hS) (reg_out hD), immP_eq, td_hi h1, td_hi h2, h4] <;> rfl) (pe14_23 d s dp (csF' (notT hv) (csT' (ge_hi h2) (csT' (ge_hi h1) (csF' h4 csN')))) w hL)
  · obtain rfl : wi = true := hw
    rcases reg_cases hD with ⟨d, rfl, h1⟩ | ⟨d, rfl, h1⟩
    · rcases reg_cases hS with ⟨s, rfl, h2⟩ | ⟨s, rfl, h2⟩
      · rcases Bool.eq_false_or_eq_true (Int.tmod (Int.ofNat d) 8 == 4) with h4 | h4
        · exact retZ (by simp only [encS14, modP_eq (b := 128) (m := (Int.ofNat s)) (e := (Int.ofNat d)) (by decide) (by decide) (reg_out hS) (reg_out hD), immP_eq, td_lo h1, td_lo h2, h4] <;> rfl) (pe14_24 d s dp (csF' (notT hv) (csF' (ge_lo h2) (csF' (ge_lo h1) (csT' h4 csN')))) w hL)
        · exact retZ (by simp only [encS14, modP_eq (b := 128) (m := (Int.ofNat s)) (e := (Int.ofNat d)) (by decide) (by decide) (reg_out hS) (reg_out hD), immP_eq, td_lo h1, td_lo h2, h4] <;> rfl) (pe14_25 d s dp (csF' (notT hv) (csF' (ge_lo h2) (csF' (ge_lo h1) (csF' h4 csN')))) w hL)
      · rcases Bool.eq_false_or_eq_true (Int.tmod (Int.ofNat d) 8 == 4) with h4 | h4
        · exact retZ (by simp only [encS14, modP_eq (b := 128) (m := (Int.ofNat (s + 8))) (e := (Int.ofNat d)) (by decide) (by decide) (reg_out hS) (reg_out hD), immP_eq, td_lo h1, td_hi h2, h4] <;> rfl) (pe14_26 d s dp (csF' (notT hv) (csT' (ge_hi h2) (csF' (ge_lo h1) (csT' h4 csN')))) w hL)
        · exact retZ (by simp only [encS14, modP_eq (b := 128) (m := (Int.ofNat (s + 8))) (e := (Int.ofNat d)) (by decide) (by decide) (reg_out hS) (reg_out hD), immP_eq, td_lo h1, td_hi h2, h4] <;> rfl) (pe14_27 d s dp (csF' (notT hv) (csT' (ge_hi h2) (csF' (ge_lo h1) (csF' h4 csN')))) w hL)
    · rcases reg_cases hS with ⟨s, rfl, h2⟩ | ⟨s, rfl, h2⟩
      · rcases Bool.eq_false_or_eq_true (Int.tmod (Int.ofNat (d + 8)) 8 == 4) with h4 | h4
        · exact retZ (by simp only [encS14, modP_eq (b := 128) (m := (Int.ofNat s)) (e := (Int.ofNat (d + 8))) (by decide) (by decide) (reg_out hS) (reg_out hD), immP_eq, td_hi h1, td_lo h2, h4] <;> rfl) (pe14_28 d s dp (csF' (notT hv) (csF' (ge_lo h2) (csT' (ge_hi h1) (csT' h4 csN')))) w hL)
        · exact retZ (by simp only [encS14, modP_eq (b := 128) (m := (Int.ofNat s)) (e := (Int.ofNat (d + 8))) (by decide) (by decide) (reg_out hS) (reg_out hD), immP_eq, td_hi h1, td_lo h2, h4] <;> rfl) (pe14_29 d s dp (csF' (notT hv) (csF' (ge_lo h2) (csT' (ge_hi h1) (csF' h4 csN')))) w hL)
      · rcases Bool.eq_false_or_eq_true (Int.tmod (Int.ofNat (d + 8)) 8 == 4) with h4 | h4
        · exact retZ (by simp only [encS14, modP_eq (b := 128) (m := (Int.ofNat (s + 8))) (e := (Int.ofNat (d + 8))) (by decide) (by decide) (reg_out hS) (reg_out hD), immP_eq, td_hi h1, td_hi h2, h4] <;> rfl) (pe14_30 d s dp (csF' (notT hv) (csT' (ge_hi h2) (csT' (ge_hi h1) (csT' h4 csN')))) w hL)
        · exact retZ (by simp only [encS14, modP_eq (b := 128) (m := (Int.ofNat (s + 8))) (e := (Int.ofNat (d + 8))) (by decide) (by decide) (reg_out hS) (reg_out hD), immP_eq, td_hi h1, td_hi h2, h4] <;> rfl) (pe14_31 d s dp (csF' (notT hv) (csT' (ge_hi h2) (csT' (ge_hi h1) (csF' h4 csN')))) w hL)
theorem c_pe15 (al co si : Int) (wi sh : Bool) (ds sr dp re im : Int) (hv : vP15 al co si wi sh ds sr dp re im = true) (w : World) (hL : Laid h12 w) : Calls Tryd.prog 13 #[.agg ⟨(xA 15 al co si wi sh ds sr dp re im)⟩] w fun e w' => e = .returned (.tuple ⟨[.string ⟨⟨encS15 al co si wi sh ds sr dp re im⟩⟩, .int .i64 0]⟩) ∧ Gr w w' := by
  have hA := andL hv
  have hR := andL (andR hv)
  have hD := andL hR
  have hS := andR hR
  have hC := andL (andR (andR hv))
  obtain rfl : al = 0 := eq_of_beq (α := Int) (andL (andR hA))
  obtain rfl : co = 0 := eq_of_beq (α := Int) (andL (andR (andR hA)))
  obtain rfl : si = 0 := eq_of_beq (α := Int) (andL (andR (andR (andR hA))))
  obtain rfl : wi = false := eq_of_beq (α := Bool) (andL (andR (andR (andR (andR hA)))))
  obtain rfl : ds = 0 := eq_of_beq (α := Int) (andL (andR (andR (andR (andR (andR (andR hA)))))))
  obtain rfl : sr = 0 := eq_of_beq (α := Int) (andL (andR (andR (andR (andR (andR (andR (andR hA))))))))
  obtain rfl : dp = 0 := eq_of_beq (α := Int) (andL (andR (andR (andR (andR (andR (andR (andR (andR hA)))))))))
  obtain rfl : im = 0 := eq_of_beq (α := Int) (andL (andR (andR (andR (andR (andR (andR (andR (andR (andR (andR hA)))))))))))
  cases sh with
  | true =>
    exact retZ (by simp only [encS15, immR1] <;> rfl) (pe15_0 re (csF' (notT hv) csN') w hL)
  | false =>
    exact retZ (by simp only [encS15, immP_eq] <;> rfl) (pe15_1 re (csF' (notT hv) csN') w hL)
theorem c_pe16 (al co si : Int) (wi sh : Bool) (ds sr dp re im : Int) (hv : vP16 al co si wi sh ds sr dp re im = true) (w : World) (hL : Laid h12 w) : Calls Tryd.prog 13 #[.agg ⟨(xA 16 al co si wi sh ds sr dp re im)⟩] w fun e w' => e = .returned (.tuple ⟨[.string ⟨⟨encS16 al co si wi sh ds sr dp re im⟩⟩, .int .i64 0]⟩) ∧ Gr w w' := by
  have hA := andL hv
  have hR := andL (andR hv)
  have hD := andL hR
  have hS := andR hR
  have hC := andL (andR (andR hv))
  obtain rfl : al = 0 := eq_of_beq (α := Int) (andL (andR hA))
  obtain rfl : si = 0 := eq_of_beq (α := Int) (andL (andR (andR (andR hA))))
  obtain rfl : wi = false := eq_of_beq (α := Bool) (andL (andR (andR (andR (andR hA)))))
  obtain rfl : ds = 0 := eq_of_beq (α := Int) (andL (andR (andR (andR (andR (andR (andR hA)))))))
  obtain rfl : sr = 0 := eq_of_beq (α := Int) (andL (andR (andR (andR (andR (andR (andR (andR hA))))))))
  obtain rfl : dp = 0 := eq_of_beq (α := Int) (andL (andR (andR (andR (andR (andR (andR (andR (andR hA)))))))))
  obtain rfl : im = 0 := eq_of_beq (α := Int) (andL (andR (andR (andR (andR (andR (andR (andR (andR (andR (andR hA)))))))))))
  have hc := cc_out hC
  cases sh with
  | true =>
    exact retZ (by simp only [encS16, cndP_eq (b := 112) (by decide) (by decide) hc, immR1] <;> rfl) (pe16_0 co re (csF' (notT hv) csN') w hL)
  | false =>
    exact retZ (by simp only [encS16, cndP_eq (b := 128) (by decide) (by decide) hc, immP_eq] <;> rfl) (pe16_1 co re (csF' (notT hv) csN') w hL)
theorem c_pe17 (al co si : Int) (wi sh : Bool) (ds sr dp re im : Int) (hv : vP17 al co si wi sh ds sr dp re im = true) (w : World) (hL : Laid h12 w) : Calls Tryd.prog 13 #[.agg ⟨(xA 17 al co si wi sh ds sr dp re im)⟩] w fun e w' => e = .returned (.tuple ⟨[.string ⟨⟨encS17 al co si wi sh ds sr dp re im⟩⟩, .int .i64 0]⟩) ∧ Gr w w' := by
  have hA := andL hv
  have hR := andL (andR hv)
  have hD := andL hR
  have hS := andR hR
  have hC := andL (andR (andR hv))
  obtain rfl : al = 0 := eq_of_beq (α := Int) (andL (andR hA))
  obtain rfl : co = 0 := eq_of_beq (α := Int) (andL (andR (andR hA)))
  obtain rfl : si = 0 := eq_of_beq (α := Int) (andL (andR (andR (andR hA))))
  obtain rfl : wi = false := eq_of_beq (α := Bool) (andL (andR (andR (andR (andR hA)))))
  obtain rfl : sh = false := eq_of_beq (α := Bool) (andL (andR (andR (andR (andR (andR hA))))))
  obtain rfl : sr = 0 := eq_of_beq (α := Int) (andL (andR (andR (andR (andR (andR (andR (andR hA))))))))
  obtain rfl : dp = 0 := eq_of_beq (α := Int) (andL (andR (andR (andR (andR (andR (andR (andR (andR hA)))))))))
  obtain rfl : re = 0 := eq_of_beq (α := Int) (andL (andR (andR (andR (andR (andR (andR (andR (andR (andR hA))))))))))
  obtain rfl : im = 0 := eq_of_beq (α := Int) (andL (andR (andR (andR (andR (andR (andR (andR (andR (andR (andR hA)))))))))))
  rcases reg_cases hD with ⟨d, rfl, h1⟩ | ⟨d, rfl, h1⟩
  · exact retZ (by simp only [encS17, codP_eq (b := 80) (d := (Int.ofNat d)) (by decide) (by decide) (reg_out hD), td_lo h1] <;> rfl) (pe17_0 d (csF' (notT hv) (csF' (ge_lo h1) csN')) w hL)
  · exact retZ (by simp only [encS17, codP_eq (b := 80) (d := (Int.ofNat (d + 8))) (by decide) (by decide) (reg_out hD), td_hi h1] <;> rfl) (pe17_1 d (csF' (notT hv) (csT' (ge_hi h1) csN')) w hL)
theorem c_pe18 (al co si : Int) (wi sh : Bool) (ds sr dp re im : Int) (hv : vP18 al co si wi sh ds sr dp re im = true) (w : World) (hL : Laid h12 w) : Calls Tryd.prog 13 #[.agg ⟨(xA 18 al co si wi sh ds sr dp re im)⟩] w fun e w' => e = .returned (.tuple ⟨[.string ⟨⟨encS18 al co si wi sh ds sr dp re im⟩⟩, .int .i64 0]⟩) ∧ Gr w w' := by
  have hA := andL hv
  have hR := andL (andR hv)
  have hD := andL hR
  have hS := andR hR
  have hC := andL (andR (andR hv))
  obtain rfl : al = 0 := eq_of_beq (α := Int) (andL (andR hA))
  obtain rfl : co = 0 := eq_of_beq (α := Int) (andL (andR (andR hA)))
  obtain rfl : si = 0 := eq_of_beq (α := Int) (andL (andR (andR (andR hA))))
  obtain rfl : wi = false := eq_of_beq (α := Bool) (andL (andR (andR (andR (andR hA)))))
  obtain rfl : sh = false := eq_of_beq (α := Bool) (andL (andR (andR (andR (andR (andR hA))))))
  obtain rfl : sr = 0 := eq_of_beq (α := Int) (andL (andR (andR (andR (andR (andR (andR (andR hA))))))))
  obtain rfl : dp = 0 := eq_of_beq (α := Int) (andL (andR (andR (andR (andR (andR (andR (andR (andR hA)))))))))
  obtain rfl : re = 0 := eq_of_beq (α := Int) (andL (andR (andR (andR (andR (andR (andR (andR (andR (andR hA))))))))))
  obtain rfl : im = 0 := eq_of_beq (α := Int) (andL (andR (andR (andR (andR (andR (andR (andR (andR (andR (andR hA)))))))))))
  rcases reg_cases hD with ⟨d, rfl, h1⟩ | ⟨d, rfl, h1⟩
  · exact retZ (by simp only [encS18, codP_eq (b := 88) (d := (Int.ofNat d)) (by decide) (by decide) (reg_out hD), td_lo h1] <;> rfl) (pe18_0 d (csF' (notT hv) (csF' (ge_lo h1) csN')) w hL)
  · exact retZ (by simp only [encS18, codP_eq (b := 88) (d := (Int.ofNat (d + 8))) (by decide) (by decide) (reg_out hD), td_hi h1] <;> rfl) (pe18_1 d (csF' (notT hv) (csT' (ge_hi h1) csN')) w hL)
theorem c_pe19 (al co si : Int) (wi sh : Bool) (ds sr dp re im : Int) (hv : vP19 al co si wi sh ds sr dp re im = true) (w : World) (hL : Laid h12 w) : Calls Tryd.prog 13 #[.agg ⟨(xA 19 al co si wi sh ds sr dp re im)⟩] w fun e w' => e = .returned (.tuple ⟨[.string ⟨⟨encS19 al co si wi sh ds sr dp re im⟩⟩, .int .i64 0]⟩) ∧ Gr w w' := by
  have hA := andL hv
  have hR := andL (andR hv)
  have hD := andL hR
  have hS := andR hR
  have hC := andL (andR (andR hv))
  obtain rfl : al = 0 := eq_of_beq (α := Int) (andL (andR hA))
  obtain rfl : co = 0 := eq_of_beq (α := Int) (andL (andR (andR hA)))
  obtain rfl : si = 0 := eq_of_beq (α := Int) (andL (andR (andR (andR hA))))
  obtain rfl : wi = false := eq_of_beq (α := Bool) (andL (andR (andR (andR (andR hA)))))
  obtain rfl : sh = false := eq_of_beq (α := Bool) (andL (andR (andR (andR (andR (andR hA))))))
  obtain rfl : ds = 0 := eq_of_beq (α := Int) (andL (andR (andR (andR (andR (andR (andR hA)))))))
  obtain rfl : sr = 0 := eq_of_beq (α := Int) (andL (andR (andR (andR (andR (andR (andR (andR hA))))))))
  obtain rfl : dp = 0 := eq_of_beq (α := Int) (andL (andR (andR (andR (andR (andR (andR (andR (andR hA)))))))))
  obtain rfl : re = 0 := eq_of_beq (α := Int) (andL (andR (andR (andR (andR (andR (andR (andR (andR (andR hA))))))))))
  obtain rfl : im = 0 := eq_of_beq (α := Int) (andL (andR (andR (andR (andR (andR (andR (andR (andR (andR (andR hA)))))))))))
  exact retZ (by simp only [encS19] <;> rfl) (pe19_0  (csF' (notT hv) csN') w hL)
theorem c_pe20 (al co si : Int) (wi sh : Bool) (ds sr dp re im : Int) (hv : vP20 al co si wi sh ds sr dp re im = true) (w : World) (hL : Laid h12 w) : Calls Tryd.prog 13 #[.agg ⟨(xA 20 al co si wi sh ds sr dp re im)⟩] w fun e w' => e = .returned (.tuple ⟨[.string ⟨⟨encS20 al co si wi sh ds sr dp re im⟩⟩, .int .i64 0]⟩) ∧ Gr w w' := by
  have hA := andL hv
  have hR := andL (andR hv)
  have hD := andL hR
  have hS := andR hR
  have hC := andL (andR (andR hv))
  obtain rfl : al = 0 := eq_of_beq (α := Int) (andL (andR hA))
  obtain rfl : co = 0 := eq_of_beq (α := Int) (andL (andR (andR hA)))
  obtain rfl : si = 0 := eq_of_beq (α := Int) (andL (andR (andR (andR hA))))
  obtain rfl : wi = false := eq_of_beq (α := Bool) (andL (andR (andR (andR (andR hA)))))
  obtain rfl : sh = false := eq_of_beq (α := Bool) (andL (andR (andR (andR (andR (andR hA))))))
  obtain rfl : ds = 0 := eq_of_beq (α := Int) (andL (andR (andR (andR (andR (andR (andR hA)))))))
  obtain rfl : sr = 0 := eq_of_beq (α := Int) (andL (andR (andR (andR (andR (andR (andR (andR hA))))))))
  obtain rfl : dp = 0 := eq_of_beq (α := Int) (andL (andR (andR (andR (andR (andR (andR (andR (andR hA)))))))))
  obtain rfl : im = 0 := eq_of_beq (α := Int) (andL (andR (andR (andR (andR (andR (andR (andR (andR (andR (andR hA)))))))))))
  exact retZ (by simp only [encS20, immP_eq] <;> rfl) (pe20_0 re (csF' (notT hv) csN') w hL)
theorem c_pe21 (al co si : Int) (wi sh : Bool) (ds sr dp re im : Int) (hv : vP21 al co si wi sh ds sr dp re im = true) (w : World) (hL : Laid h12 w) : Calls Tryd.prog 13 #[.agg ⟨(xA 21 al co si wi sh ds sr dp re im)⟩] w fun e w' => e = .returned (.tuple ⟨[.string ⟨⟨encS21 al co si wi sh ds sr dp re im⟩⟩, .int .i64 0]⟩) ∧ Gr w w' := by
  have hA := andL hv
  have hR := andL (andR hv)
  have hD := andL hR
  have hS := andR hR
  have hC := andL (andR (andR hv))
  obtain rfl : al = 0 := eq_of_beq (α := Int) (andL (andR hA))
  obtain rfl : co = 0 := eq_of_beq (α := Int) (andL (andR (andR hA)))
  obtain rfl : si = 0 := eq_of_beq (α := Int) (andL (andR (andR (andR hA))))
  obtain rfl : wi = false := eq_of_beq (α := Bool) (andL (andR (andR (andR (andR hA)))))
  obtain rfl : sh = false := eq_of_beq (α := Bool) (andL (andR (andR (andR (andR (andR hA))))))
  obtain rfl : ds = 0 := eq_of_beq (α := Int) (andL (andR (andR (andR (andR (andR (andR hA)))))))
  obtain rfl : sr = 0 := eq_of_beq (α := Int) (andL (andR (andR (andR (andR (andR (andR (andR hA))))))))
  obtain rfl : dp = 0 := eq_of_beq (α := Int) (andL (andR (andR (andR (andR (andR (andR (andR (andR hA)))))))))
  obtain rfl : re = 0 := eq_of_beq (α := Int) (andL (andR (andR (andR (andR (andR (andR (andR (andR (andR hA))))))))))
  obtain rfl : im = 0 := eq_of_beq (α := Int) (andL (andR (andR (andR (andR (andR (andR (andR (andR (andR (andR hA)))))))))))
  exact retZ (by simp only [encS21] <;> rfl) (pe21_0  (csF' (notT hv) csN') w hL)
theorem pe_bad (k : Int) (al co si : Int) (wi sh : Bool) (ds sr dp re im : Int) : Lf h12 13 [.agg ⟨(xA k al co si wi sh ds sr dp re im)⟩] (.tuple ⟨[.string ⟨⟨[]⟩⟩, .int .i64 2]⟩) [(b2i (!vP k al co si wi sh ds sr dp re im), 1)] := lf hkE_ok (ocs [(13, 11, .bool true)] []) (by kernel_rfl) (by kernel_rfl) (by kernel_rfl)
def encB (k : Int) (al co si : Int) (wi sh : Bool) (ds sr dp re im : Int) : List UInt8 := if vP k al co si wi sh ds sr dp re im then encS k al co si wi sh ds sr dp re im else []
def encE (k : Int) (al co si : Int) (wi sh : Bool) (ds sr dp re im : Int) : Int := if vP k al co si wi sh ds sr dp re im then 0 else 2
theorem c_penc (k : Int) (al co si : Int) (wi sh : Bool) (ds sr dp re im : Int) (w : World) (hL : Laid h12 w) : Calls Tryd.prog 13 #[.agg ⟨(xA k al co si wi sh ds sr dp re im)⟩] w fun e w' => e = .returned (.tuple ⟨[.string ⟨⟨encB k al co si wi sh ds sr dp re im⟩⟩, .int .i64 (encE k al co si wi sh ds sr dp re im)]⟩) ∧ Gr w w' := by
  rcases Bool.eq_false_or_eq_true (vP k al co si wi sh ds sr dp re im) with h | h
  · by_cases hk : 1 ≤ k ∧ k ≤ 21
    · rcases kinds (k := k) (by simp only [decide_eq_false_iff_not]; omega) (by simp only [decide_eq_false_iff_not]; omega) with rfl | rfl | rfl | rfl | rfl | rfl | rfl | rfl | rfl | rfl | rfl | rfl | rfl | rfl | rfl | rfl | rfl | rfl | rfl | rfl | rfl
      · exact retZ (by simp only [encB, encE, h]; rfl) (c_pe1 al co si wi sh ds sr dp re im h w hL)
      · exact retZ (by simp only [encB, encE, h]; rfl) (c_pe2 al co si wi sh ds sr dp re im h w hL)
      · exact retZ (by simp only [encB, encE, h]; rfl) (c_pe3 al co si wi sh ds sr dp re im h w hL)
      · exact retZ (by simp only [encB, encE, h]; rfl) (c_pe4 al co si wi sh ds sr dp re im h w hL)
      · exact retZ (by simp only [encB, encE, h]; rfl) (c_pe5 al co si wi sh ds sr dp re im h w hL)
      · exact retZ (by simp only [encB, encE, h]; rfl) (c_pe6 al co si wi sh ds sr dp re im h w hL)
      · exact retZ (by simp only [encB, encE, h]; rfl) (c_pe7 al co si wi sh ds sr dp re im h w hL)
      · exact retZ (by simp only [encB, encE, h]; rfl) (c_pe8 al co si wi sh ds sr dp re im h w hL)
      · exact retZ (by simp only [encB, encE, h]; rfl) (c_pe9 al co si wi sh ds sr dp re im h w hL)
      · exact retZ (by simp only [encB, encE, h]; rfl) (c_pe10 al co si wi sh ds sr dp re im h w hL)
      · exact retZ (by simp only [encB, encE, h]; rfl) (c_pe11 al co si wi sh ds sr dp re im h w hL)
      · exact retZ (by simp only [encB, encE, h]; rfl) (c_pe12 al co si wi sh ds sr dp re im h w hL)
      · exact retZ (by simp only [encB, encE, h]; rfl) (c_pe13 al co si wi sh ds sr dp re im h w hL)
      · exact retZ (by simp only [encB, encE, h]; rfl) (c_pe14 al co si wi sh ds sr dp re im h w hL)
      · exact retZ (by simp only [encB, encE, h]; rfl) (c_pe15 al co si wi sh ds sr dp re im h w hL)
      · exact retZ (by simp only [encB, encE, h]; rfl) (c_pe16 al co si wi sh ds sr dp re im h w hL)
      · exact retZ (by simp only [encB, encE, h]; rfl) (c_pe17 al co si wi sh ds sr dp re im h w hL)
      · exact retZ (by simp only [encB, encE, h]; rfl) (c_pe18 al co si wi sh ds sr dp re im h w hL)
      · exact retZ (by simp only [encB, encE, h]; rfl) (c_pe19 al co si wi sh ds sr dp re im h w hL)
      · exact retZ (by simp only [encB, encE, h]; rfl) (c_pe20 al co si wi sh ds sr dp re im h w hL)
      · exact retZ (by simp only [encB, encE, h]; rfl) (c_pe21 al co si wi sh ds sr dp re im h w hL)
    · exfalso
      have nd : ∀ n : Int, 1 ≤ n → n ≤ 21 → ¬ k = n := fun n h1 h2 => by omega
      unfold vP at h
      rw [if_neg (nd 1 (by omega) (by omega)), if_neg (nd 2 (by omega) (by omega)), if_neg (nd 3 (by omega) (by omega)), if_neg (nd 4 (by omega) (by omega)), if_neg (nd 5 (by omega) (by omega)), if_neg (nd 6 (by omega) (by omega)), if_neg (nd 7 (by omega) (by omega)), if_neg (nd 8 (by omega) (by omega)), if_neg (nd 9 (by omega) (by omega)), if_neg (nd 10 (by omega) (by omega)), if_neg (nd 11 (by omega) (by omega)), if_neg (nd 12 (by omega) (by omega)), if_neg (nd 13 (by omega) (by omega)), if_neg (nd 14 (by omega) (by omega)), if_neg (nd 15 (by omega) (by omega)), if_neg (nd 16 (by omega) (by omega)), if_neg (nd 17 (by omega) (by omega)), if_neg (nd 18 (by omega) (by omega)), if_neg (nd 19 (by omega) (by omega)), if_neg (nd 20 (by omega) (by omega)), if_neg (nd 21 (by omega) (by omega))] at h
      cases h
  · exact retZ (by simp only [encB, encE, h]; rfl) (pe_bad k al co si wi sh ds sr dp re im (csT' (by rw [h]; rfl) csN') w hL)
def hk_enc : Hook := fun f args h =>
  if Nat.beq f 13 && hasG h12 h then
    match args with
    | [.agg ⟨[.int .i64 p0, .int .i64 p1, .int .i64 p2, .int .i64 p3, .bool p4, .bool p5, .int .i64 p6, .int .i64 p7, .int .i32 p8, .int .i32 p9, .int .i64 p10]⟩] => some (.tuple ⟨[.string ⟨⟨encB p0 p1 p2 p3 p4 p5 p6 p7 p8 p9 p10⟩⟩, .int .i64 (encE p0 p1 p2 p3 p4 p5 p6 p7 p8 p9 p10)]⟩, [])
    | _ => none
  else none
theorem hk_enc_ok : HookOk Tryd.prog hk_enc := by
  intro f args h v cs hv hc wb k s w H
  unfold hk_enc at hv
  split at hv
  · rename_i hf
    simp only [Bool.and_eq_true] at hf
    obtain rfl := Nat.eq_of_beq_eq_true hf.1
    split at hv
    · cases hv
      exact c_penc _ _ _ _ _ _ _ _ _ _ _ w (H.laid hf.2 rfl)
    · cases hv
  · cases hv
end Go.Proofs.YtbaiokfjoglmiaaDoor.Ex
end
section
namespace Go.Proofs.YtbaiokfjoglmiaaDoor.Ex
open Go Go.RowKit
set_option linter.unusedVariables false
set_option linter.unusedSimpArgs false
set_option maxHeartbeats 0
set_option maxRecDepth 1000000
theorem c_re1 (al co si : Int) (wi sh : Bool) (ds sr dp re im : Int) (hv : vP1 al co si wi sh ds sr dp re im = true) (w : World) : Calls Tryd.prog 14 #[.agg ⟨(xA 1 al co si wi sh ds sr dp re im)⟩] w fun e w' => e = .returned (.tuple ⟨[.string ⟨⟨encS1 al co si wi sh ds sr dp re im⟩⟩, .int .i64 0]⟩) ∧ Gr w w' := by
  have hA := andL hv
  have hR := andL (andR hv)
  have hD := andL hR
  have hS := andR hR
  have hC := andL (andR (andR hv))
  have hr : vR1 al co si wi sh ds sr dp re im = true := (vPR1 al co si wi sh ds sr dp re im).symm.trans hv
  obtain rfl : al = 0 := eq_of_beq (α := Int) (andL (andR hA))
  obtain rfl : co = 0 := eq_of_beq (α := Int) (andL (andR (andR hA)))
  obtain rfl : si = 0 := eq_of_beq (α := Int) (andL (andR (andR (andR hA))))
  obtain rfl : sh = false := eq_of_beq (α := Bool) (andL (andR (andR (andR (andR (andR hA))))))
  obtain rfl : dp = 0 := eq_of_beq (α := Int) (andL (andR (andR (andR (andR (andR (andR (andR (andR hA)))))))))
  obtain rfl : re = 0 := eq_of_beq (α := Int) (andL (andR (andR (andR (andR (andR (andR (andR (andR (andR hA))))))))))
  obtain rfl : im = 0 := eq_of_beq (α := Int) (andL (andR (andR (andR (andR (andR (andR (andR (andR (andR (andR hA)))))))))))
  cases wi with
  | true =>
    rcases reg_cases hD with ⟨d, rfl, h1⟩ | ⟨d, rfl, h1⟩
    · rcases reg_cases hS with ⟨s, rfl, h2⟩ | ⟨s, rfl, h2⟩
      · exact retZ (by simp only [encS1, td_lo h1, td_lo h2] <;> rfl) (re1_0 d s (csF' (notT hr) (csI' rfl (csI' (qd_lo h1) (csI' (qd_lo h2) (csI' (qd_lo h1) csN'))))) w (Laid.nil w))
      · exact retZ (by simp only [encS1, td_lo h1, td_hi h2] <;> rfl) (re1_1 d s (csF' (notT hr) (csI' rfl (csI' (qd_lo h1) (csI' (qd_hi h2) (csI' (qd_lo h1) csN'))))) w (Laid.nil w))
    · rcases reg_cases hS with ⟨s, rfl, h2⟩ | ⟨s, rfl, h2⟩
      · exact retZ (by simp only [encS1, td_hi h1, td_lo h2] <;> rfl) (re1_2 d s (csF' (notT hr) (csI' rfl (csI' (qd_hi h1) (csI' (qd_lo h2) (csI' (qd_hi h1) csN'))))) w (Laid.nil w))
      · exact retZ (by simp only [encS1, td_hi h1, td_hi h2] <;> rfl) (re1_3 d s (csF' (notT hr) (csI' rfl (csI' (qd_hi h1) (csI' (qd_hi h2) (csI' (qd_hi h1) csN'))))) w (Laid.nil w))
  | false =>
    rcases reg_cases hD with ⟨d, rfl, h1⟩ | ⟨d, rfl, h1⟩
    · rcases reg_cases hS with ⟨s, rfl, h2⟩ | ⟨s, rfl, h2⟩
      · exact retZ (by simp only [encS1, td_lo h1, td_lo h2] <;> rfl) (re1_4 d s (csF' (notT hr) (csI' rfl (csI' (qd_lo h1) (csI' (qd_lo h2) (csI' (qd_lo h1) csN'))))) w (Laid.nil w))
      · exact retZ (by simp only [encS1, td_lo h1, td_hi h2] <;> rfl) (re1_5 d s (csF' (notT hr) (csI' rfl (csI' (qd_lo h1) (csI' (qd_hi h2) (csI' (qd_lo h1) csN'))))) w (Laid.nil w))
    · rcases reg_cases hS with ⟨s, rfl, h2⟩ | ⟨s, rfl, h2⟩
      · exact retZ (by simp only [encS1, td_hi h1, td_lo h2] <;> rfl) (re1_6 d s (csF' (notT hr) (csI' rfl (csI' (qd_hi h1) (csI' (qd_lo h2) (csI' (qd_hi h1) csN'))))) w (Laid.nil w))
      · exact retZ (by simp only [encS1, td_hi h1, td_hi h2] <;> rfl) (re1_7 d s (csF' (notT hr) (csI' rfl (csI' (qd_hi h1) (csI' (qd_hi h2) (csI' (qd_hi h1) csN'))))) w (Laid.nil w))
theorem c_re2 (al co si : Int) (wi sh : Bool) (ds sr dp re im : Int) (hv : vP2 al co si wi sh ds sr dp re im = true) (w : World) : Calls Tryd.prog 14 #[.agg ⟨(xA 2 al co si wi sh ds sr dp re im)⟩] w fun e w' => e = .returned (.tuple ⟨[.string ⟨⟨encS2 al co si wi sh ds sr dp re im⟩⟩, .int .i64 0]⟩) ∧ Gr w w' := by
  have hA := andL hv
  have hR := andL (andR hv)
  have hD := andL hR
  have hS := andR hR
  have hC := andL (andR (andR hv))
  have hr : vR2 al co si wi sh ds sr dp re im = true := (vPR2 al co si wi sh ds sr dp re im).symm.trans hv
  obtain rfl : al = 0 := eq_of_beq (α := Int) (andL (andR hA))
  obtain rfl : co = 0 := eq_of_beq (α := Int) (andL (andR (andR hA)))
  obtain rfl : si = 0 := eq_of_beq (α := Int) (andL (andR (andR (andR hA))))
  obtain rfl : sh = false := eq_of_beq (α := Bool) (andL (andR (andR (andR (andR (andR hA))))))
  obtain rfl : sr = 0 := eq_of_beq (α := Int) (andL (andR (andR (andR (andR (andR (andR (andR hA))))))))
  obtain rfl : dp = 0 := eq_of_beq (α := Int) (andL (andR (andR (andR (andR (andR (andR (andR (andR hA)))))))))
  obtain rfl : re = 0 := eq_of_beq (α := Int) (andL (andR (andR (andR (andR (andR (andR (andR (andR (andR hA))))))))))
  obtain rfl : wi = true := hC
  rcases reg_cases hD with ⟨d, rfl, h1⟩ | ⟨d, rfl, h1⟩
  · exact retZ (by simp only [encS2, td_lo h1] <;> rfl) (re2_0 d im (csF' (notT hr) (csI' rfl (csI' (qd_lo h1) csN'))) w (Laid.nil w))
  · exact retZ (by simp only [encS2, td_hi h1] <;> rfl) (re2_1 d im (csF' (notT hr) (csI' rfl (csI' (qd_hi h1) csN'))) w (Laid.nil w))
theorem c_re3 (al co si : Int) (wi sh : Bool) (ds sr dp re im : Int) (hv : vP3 al co si wi sh ds sr dp re im = true) (w : World) : Calls Tryd.prog 14 #[.agg ⟨(xA 3 al co si wi sh ds sr dp re im)⟩] w fun e w' => e = .returned (.tuple ⟨[.string ⟨⟨encS3 al co si wi sh ds sr dp re im⟩⟩, .int .i64 0]⟩) ∧ Gr w w' := by
  have hA := andL hv
  have hR := andL (andR hv)
  have hD := andL hR
  have hS := andR hR
  have hC := andL (andR (andR hv))
  have hr : vR3 al co si wi sh ds sr dp re im = true := (vPR3 al co si wi sh ds sr dp re im).symm.trans hv
  obtain rfl : al = 0 := eq_of_beq (α := Int) (andL (andR hA))
  obtain rfl : co = 0 := eq_of_beq (α := Int) (andL (andR (andR hA)))
  obtain rfl : si = 0 := eq_of_beq (α := Int) (andL (andR (andR (andR hA))))
  obtain rfl : sh = false := eq_of_beq (α := Bool) (andL (andR (andR (andR (andR (andR hA))))))
  obtain rfl : sr = 0 := eq_of_beq (α := Int) (andL (andR (andR (andR (andR (andR (andR (andR hA))))))))
  obtain rfl : dp = 0 := eq_of_beq (α := Int) (andL (andR (andR (andR (andR (andR (andR (andR (andR hA)))))))))
  obtain rfl : re = 0 := eq_of_beq (α := Int) (andL (andR (andR (andR (andR (andR (andR (andR (andR (andR hA))))))))))
  obtain rfl : wi = true := hC
  rcases reg_cases hD with ⟨d, rfl, h1⟩ | ⟨d, rfl, h1⟩
  · exact retZ (by simp only [encS3, td_lo h1] <;> rfl) (re3_0 d im (csF' (notT hr) (csI' rfl (csI' (qd_lo h1) csN'))) w (Laid.nil w))
  · exact retZ (by simp only [encS3, td_hi h1] <;> rfl) (re3_1 d im (csF' (notT hr) (csI' rfl (csI' (qd_hi h1) csN'))) w (Laid.nil w))
theorem c_re4 (al co si : Int) (wi sh : Bool) (ds sr dp re im : Int) (hv : vP4 al co si wi sh ds sr dp re im = true) (w : World) : Calls Tryd.prog 14 #[.agg ⟨(xA 4 al co si wi sh ds sr dp re im)⟩] w fun e w' => e = .returned (.tuple ⟨[.string ⟨⟨encS4 al co si wi sh ds sr dp re im⟩⟩, .int .i64 0]⟩) ∧ Gr w w' := by
  have hA := andL hv
  have hR := andL (andR hv)
  have hD := andL hR
  have hS := andR hR
  have hC := andL (andR (andR hv))
  have hr : vR4 al co si wi sh ds sr dp re im = true := (vPR4 al co si wi sh ds sr dp re im).symm.trans hv
  obtain rfl : co = 0 := eq_of_beq (α := Int) (andL (andR (andR hA)))
  obtain rfl : si = 0 := eq_of_beq (α := Int) (andL (andR (andR (andR hA))))
  obtain rfl : sh = false := eq_of_beq (α := Bool) (andL (andR (andR (andR (andR (andR hA))))))
  obtain rfl : dp = 0 := eq_of_beq (α := Int) (andL (andR (andR (andR (andR (andR (andR (andR (andR hA)))))))))
  obtain rfl : re = 0 := eq_of_beq (α := Int) (andL (andR (andR (andR (andR (andR (andR (andR (andR (andR hA))))))))))
  obtain rfl : im = 0 := eq_of_beq (α := Int) (andL (andR (andR (andR (andR (andR (andR (andR (andR (andR (andR hA)))))))))))
  have ha := alu_out hC
  cases wi with
  | true =>
    rcases reg_cases hD with ⟨d, rfl, h1⟩ | ⟨d, rfl, h1⟩
    · rcases reg_cases hS with ⟨s, rfl, h2⟩ | ⟨s, rfl, h2⟩
      · exact retZ (by simp only [encS4, td_lo h1, td_lo h2] <;> rfl) (re4_0 al d s (csF' (notT hr) (csI' rfl (csI' (qd_lo h1) (csI' (qd_lo h2) (csI' (qd_lo h1) csN'))))) w (Laid.nil w))
      · exact retZ (by simp only [encS4, td_lo h1, td_hi h2] <;> rfl) (re4_1 al d s (csF' (notT hr) (csI' rfl (csI' (qd_lo h1) (csI' (qd_hi h2) (csI' (qd_lo h1) csN'))))) w (Laid.nil w))
    · rcases reg_cases hS with ⟨s, rfl, h2⟩ | ⟨s, rfl, h2⟩
      · exact retZ (by simp only [encS4, td_hi h1, td_lo h2] <;> rfl) (re4_2 al d s (csF' (notT hr) (csI' rfl (csI' (qd_hi h1) (csI' (qd_lo h2) (csI' (qd_hi h1) csN'))))) w (Laid.nil w))
      · exact retZ (by simp only [encS4, td_hi h1, td_hi h2] <;> rfl) (re4_3 al d s (csF' (notT hr) (csI' rfl (csI' (qd_hi h1) (csI' (qd_hi h2) (csI' (qd_hi h1) csN'))))) w (Laid.nil w))
  | false =>
    rcases reg_cases hD with ⟨d, rfl, h1⟩ | ⟨d, rfl, h1⟩
    · rcases reg_cases hS with ⟨s, rfl, h2⟩ | ⟨s, rfl, h2⟩
      · exact retZ (by simp only [encS4, td_lo h1, td_lo h2] <;> rfl) (re4_4 al d s (csF' (notT hr) (csI' rfl (csI' (qd_lo h1) (csI' (qd_lo h2) (csI' (qd_lo h1) csN'))))) w (Laid.nil w))
      · exact retZ (by simp only [encS4, td_lo h1, td_hi h2] <;> rfl) (re4_5 al d s (csF' (notT hr) (csI' rfl (csI' (qd_lo h1) (csI' (qd_hi h2) (csI' (qd_lo h1) csN'))))) w (Laid.nil w))
    · rcases reg_cases hS with ⟨s, rfl, h2⟩ | ⟨s, rfl, h2⟩
      · exact retZ (by simp only [encS4, td_hi h1, td_lo h2] <;> rfl) (re4_6 al d s (csF' (notT hr) (csI' rfl (csI' (qd_hi h1) (csI' (qd_lo h2) (csI' (qd_hi h1) csN'))))) w (Laid.nil w))
      · exact retZ (by simp only [encS4, td_hi h1, td_hi h2] <;> rfl) (re4_7 al d s (csF' (notT hr) (csI' rfl (csI' (qd_hi h1) (csI' (qd_hi h2) (csI' (qd_hi h1) csN'))))) w (Laid.nil w))
theorem c_re5 (al co si : Int) (wi sh : Bool) (ds sr dp re im : Int) (hv : vP5 al co si wi sh ds sr dp re im = true) (w : World) : Calls Tryd.prog 14 #[.agg ⟨(xA 5 al co si wi sh ds sr dp re im)⟩] w fun e w' => e = .returned (.tuple ⟨[.string ⟨⟨encS5 al co si wi sh ds sr dp re im⟩⟩, .int .i64 0]⟩) ∧ Gr w w' := by
  have hA := andL hv
  have hR := andL (andR hv)
  have hD := andL hR
  have hS := andR hR
  have hC := andL (andR (andR hv))
  have hr : vR5 al co si wi sh ds sr dp re im = true := (vPR5 al co si wi sh ds sr dp re im).symm.trans hv
  obtain rfl : co = 0 := eq_of_beq (α := Int) (andL (andR (andR hA)))
  obtain rfl : si = 0 := eq_of_beq (α := Int) (andL (andR (andR (andR hA))))
  obtain rfl : sh = false := eq_of_beq (α := Bool) (andL (andR (andR (andR (andR (andR hA))))))
  obtain rfl : sr = 0 := eq_of_beq (α := Int) (andL (andR (andR (andR (andR (andR (andR (andR hA))))))))
  obtain rfl : dp = 0 := eq_of_beq (α := Int) (andL (andR (andR (andR (andR (andR (andR (andR (andR hA)))))))))
  obtain rfl : re = 0 := eq_of_beq (α := Int) (andL (andR (andR (andR (andR (andR (andR (andR (andR (andR hA))))))))))
  have ha := alu_out hC
  cases wi with
  | true =>
    rcases reg_cases hD with ⟨d, rfl, h1⟩ | ⟨d, rfl, h1⟩
    · exact retZ (by simp only [encS5, td_lo h1] <;> rfl) (re5_0 al d im (csF' (notT hr) (csI' rfl (csI' (qd_lo h1) csN'))) w (Laid.nil w))
    · exact retZ (by simp only [encS5, td_hi h1] <;> rfl) (re5_1 al d im (csF' (notT hr) (csI' rfl (csI' (qd_hi h1) csN'))) w (Laid.nil w))
  | false =>
    rcases reg_cases hD with ⟨d, rfl, h1⟩ | ⟨d, rfl, h1⟩
    · exact retZ (by simp only [encS5, td_lo h1] <;> rfl) (re5_2 al d im (csF' (notT hr) (csI' rfl (csI' (qd_lo h1) csN'))) w (Laid.nil w))
    · exact retZ (by simp only [encS5, td_hi h1] <;> rfl) (re5_3 al d im (csF' (notT hr) (csI' rfl (csI' (qd_hi h1) csN'))) w (Laid.nil w))
theorem c_re6 (al co si : Int) (wi sh : Bool) (ds sr dp re im : Int) (hv : vP6 al co si wi sh ds sr dp re im = true) (w : World) : Calls Tryd.prog 14 #[.agg ⟨(xA 6 al co si wi sh ds sr dp re im)⟩] w fun e w' => e = .returned (.tuple ⟨[.string ⟨⟨encS6 al co si wi sh ds sr dp re im⟩⟩, .int .i64 0]⟩) ∧ Gr w w' := by
  have hA := andL hv
  have hR := andL (andR hv)
  have hD := andL hR
  have hS := andR hR
  have hC := andL (andR (andR hv))
  have hr : vR6 al co si wi sh ds sr dp re im = true := (vPR6 al co si wi sh ds sr dp re im).symm.trans hv
  obtain rfl : al = 0 := eq_of_beq (α := Int) (andL (andR hA))
  obtain rfl : co = 0 := eq_of_beq (α := Int) (andL (andR (andR hA)))
  obtain rfl : si = 0 := eq_of_beq (α := Int) (andL (andR (andR (andR hA))))
  obtain rfl : sh = false := eq_of_beq (α := Bool) (andL (andR (andR (andR (andR (andR hA))))))
  obtain rfl : dp = 0 := eq_of_beq (α := Int) (andL (andR (andR (andR (andR (andR (andR (andR (andR hA)))))))))
  obtain rfl : re = 0 := eq_of_beq (α := Int) (andL (andR (andR (andR (andR (andR (andR (andR (andR (andR hA))))))))))
  obtain rfl : im = 0 := eq_of_beq (α := Int) (andL (andR (andR (andR (andR (andR (andR (andR (andR (andR (andR hA)))))))))))
  cases wi with
  | true =>
    rcases reg_cases hD with ⟨d, rfl, h1⟩ | ⟨d, rfl, h1⟩
    · rcases reg_cases hS with ⟨s, rfl, h2⟩ | ⟨s, rfl, h2⟩
      · exact retZ (by simp only [encS6, td_lo h1, td_lo h2] <;> rfl) (re6_0 d s (csF' (notT hr) (csI' rfl (csI' (qd_lo h1) (csI' (qd_lo h2) (csI' (qd_lo h1) csN'))))) w (Laid.nil w))
      · exact retZ (by simp only [encS6, td_lo h1, td_hi h2] <;> rfl) (re6_1 d s (csF' (notT hr) (csI' rfl (csI' (qd_lo h1) (csI' (qd_hi h2) (csI' (qd_lo h1) csN'))))) w (Laid.nil w))
    · rcases reg_cases hS with ⟨s, rfl, h2⟩ | ⟨s, rfl, h2⟩
      · exact retZ (by simp only [encS6, td_hi h1, td_lo h2] <;> rfl) (re6_2 d s (csF' (notT hr) (csI' rfl (csI' (qd_hi h1) (csI' (qd_lo h2) (csI' (qd_hi h1) csN'))))) w (Laid.nil w))
      · exact retZ (by simp only [encS6, td_hi h1, td_hi h2] <;> rfl) (re6_3 d s (csF' (notT hr) (csI' rfl (csI' (qd_hi h1) (csI' (qd_hi h2) (csI' (qd_hi h1) csN'))))) w (Laid.nil w))
  | false =>
    rcases reg_cases hD with ⟨d, rfl, h1⟩ | ⟨d, rfl, h1⟩
    · rcases reg_cases hS with ⟨s, rfl, h2⟩ | ⟨s, rfl, h2⟩
      · exact retZ (by simp only [encS6, td_lo h1, td_lo h2] <;> rfl) (re6_4 d s (csF' (notT hr) (csI' rfl (csI' (qd_lo h1) (csI' (qd_lo h2) (csI' (qd_lo h1) csN'))))) w (Laid.nil w))
      · exact retZ (by simp only [encS6, td_lo h1, td_hi h2] <;> rfl) (re6_5 d s (csF' (notT hr) (csI' rfl (csI' (qd_lo h1) (csI' (qd_hi h2) (csI' (qd_lo h1) csN'))))) w (Laid.nil w))
    · rcases reg_cases hS with ⟨s, rfl, h2⟩ | ⟨s, rfl, h2⟩
      · exact retZ (by simp only [encS6, td_hi h1, td_lo h2] <;> rfl) (re6_6 d s (csF' (notT hr) (csI' rfl (csI' (qd_hi h1) (csI' (qd_lo h2) (csI' (qd_hi h1) csN'))))) w (Laid.nil w))
      · exact retZ (by simp only [encS6, td_hi h1, td_hi h2] <;> rfl) (re6_7 d s (csF' (notT hr) (csI' rfl (csI' (qd_hi h1) (csI' (qd_hi h2) (csI' (qd_hi h1) csN'))))) w (Laid.nil w))
theorem c_re7 (al co si : Int) (wi sh : Bool) (ds sr dp re im : Int) (hv : vP7 al co si wi sh ds sr dp re im = true) (w : World) : Calls Tryd.prog 14 #[.agg ⟨(xA 7 al co si wi sh ds sr dp re im)⟩] w fun e w' => e = .returned (.tuple ⟨[.string ⟨⟨encS7 al co si wi sh ds sr dp re im⟩⟩, .int .i64 0]⟩) ∧ Gr w w' := by
  have hA := andL hv
  have hR := andL (andR hv)
  have hD := andL hR
  have hS := andR hR
  have hC := andL (andR (andR hv))
  have hr : vR7 al co si wi sh ds sr dp re im = true := (vPR7 al co si wi sh ds sr dp re im).symm.trans hv
  obtain rfl : al = 0 := eq_of_beq (α := Int) (andL (andR hA))
  obtain rfl : co = 0 := eq_of_beq (α := Int) (andL (andR (andR hA)))
  obtain rfl : si = 0 := eq_of_beq (α := Int) (andL (andR (andR (andR hA))))
  obtain rfl : sh = false := eq_of_beq (α := Bool) (andL (andR (andR (andR (andR (andR hA))))))
  obtain rfl : sr = 0 := eq_of_beq (α := Int) (andL (andR (andR (andR (andR (andR (andR (andR hA))))))))
  obtain rfl : dp = 0 := eq_of_beq (α := Int) (andL (andR (andR (andR (andR (andR (andR (andR (andR hA)))))))))
  obtain rfl : re = 0 := eq_of_beq (α := Int) (andL (andR (andR (andR (andR (andR (andR (andR (andR (andR hA))))))))))
  obtain rfl : im = 0 := eq_of_beq (α := Int) (andL (andR (andR (andR (andR (andR (andR (andR (andR (andR (andR hA)))))))))))
  cases wi with
  | true =>
    rcases reg_cases hD with ⟨d, rfl, h1⟩ | ⟨d, rfl, h1⟩
    · exact retZ (by simp only [encS7, td_lo h1] <;> rfl) (re7_0 d (csF' (notT hr) (csI' rfl (csI' (qd_lo h1) csN'))) w (Laid.nil w))
    · exact retZ (by simp only [encS7, td_hi h1] <;> rfl) (re7_1 d (csF' (notT hr) (csI' rfl (csI' (qd_hi h1) csN'))) w (Laid.nil w))
  | false =>
    rcases reg_cases hD with ⟨d, rfl, h1⟩ | ⟨d, rfl, h1⟩
    · exact retZ (by simp only [encS7, td_lo h1] <;> rfl) (re7_2 d (csF' (notT hr) (csI' rfl (csI' (qd_lo h1) csN'))) w (Laid.nil w))
    · exact retZ (by simp only [encS7, td_hi h1] <;> rfl) (re7_3 d (csF' (notT hr) (csI' rfl (csI' (qd_hi h1) csN'))) w (Laid.nil w))
theorem c_re8 (al co si : Int) (wi sh : Bool) (ds sr dp re im : Int) (hv : vP8 al co si wi sh ds sr dp re im = true) (w : World) : Calls Tryd.prog 14 #[.agg ⟨(xA 8 al co si wi sh ds sr dp re im)⟩] w fun e w' => e = .returned (.tuple ⟨[.string ⟨⟨encS8 al co si wi sh ds sr dp re im⟩⟩, .int .i64 0]⟩) ∧ Gr w w' := by
  have hA := andL hv
  have hR := andL (andR hv)
  have hD := andL hR
  have hS := andR hR
  have hC := andL (andR (andR hv))
  have hr : vR8 al co si wi sh ds sr dp re im = true := (vPR8 al co si wi sh ds sr dp re im).symm.trans hv
  obtain rfl : al = 0 := eq_of_beq (α := Int) (andL (andR hA))
  obtain rfl : co = 0 := eq_of_beq (α := Int) (andL (andR (andR hA)))
  obtain rfl : si = 0 := eq_of_beq (α := Int) (andL (andR (andR (andR hA))))
  obtain rfl : sh = false := eq_of_beq (α := Bool) (andL (andR (andR (andR (andR (andR hA))))))
  obtain rfl : sr = 0 := eq_of_beq (α := Int) (andL (andR (andR (andR (andR (andR (andR (andR hA))))))))
  obtain rfl : dp = 0 := eq_of_beq (α := Int) (andL (andR (andR (andR (andR (andR (andR (andR (andR hA)))))))))
  obtain rfl : re = 0 := eq_of_beq (α := Int) (andL (andR (andR (andR (andR (andR (andR (andR (andR (andR hA))))))))))
  obtain rfl : im = 0 := eq_of_beq (α := Int) (andL (andR (andR (andR (andR (andR (andR (andR (andR (andR (andR hA)))))))))))
  cases wi with
  | true =>
    rcases reg_cases hD with ⟨d, rfl, h1⟩ | ⟨d, rfl, h1⟩
    · exact retZ (by simp only [encS8, td_lo h1] <;> rfl) (re8_0 d (csF' (notT hr) (csI' rfl (csI' (qd_lo h1) csN'))) w (Laid.nil w))
    · exact retZ (by simp only [encS8, td_hi h1] <;> rfl) (re8_1 d (csF' (notT hr) (csI' rfl (csI' (qd_hi h1) csN'))) w (Laid.nil w))
  | false =>
    rcases reg_cases hD with ⟨d, rfl, h1⟩ | ⟨d, rfl, h1⟩
    · exact retZ (by simp only [encS8, td_lo h1] <;> rfl) (re8_2 d (csF' (notT hr) (csI' rfl (csI' (qd_lo h1) csN'))) w (Laid.nil w))
    · exact retZ (by simp only [encS8, td_hi h1] <;> rfl) (re8_3 d (csF' (notT hr) (csI' rfl (csI' (qd_hi h1) csN'))) w (Laid.nil w))
theorem c_re9 (al co si : Int) (wi sh : Bool) (ds sr dp re im : Int) (hv : vP9 al co si wi sh ds sr dp re im = true) (w : World) : Calls Tryd.prog 14 #[.agg ⟨(xA 9 al co si wi sh ds sr dp re im)⟩] w fun e w' => e = .returned (.tuple ⟨[.string ⟨⟨encS9 al co si wi sh ds sr dp re im⟩⟩, .int .i64 0]⟩) ∧ Gr w w' := by
  have hA := andL hv
  have hR := andL (andR hv)
  have hD := andL hR
  have hS := andR hR
  have hC := andL (andR (andR hv))
  have hr : vR9 al co si wi sh ds sr dp re im = true := (vPR9 al co si wi sh ds sr dp re im).symm.trans hv
  obtain rfl : al = 0 := eq_of_beq (α := Int) (andL (andR hA))
  obtain rfl : co = 0 := eq_of_beq (α := Int) (andL (andR (andR hA)))
  obtain rfl : si = 0 := eq_of_beq (α := Int) (andL (andR (andR (andR hA))))
  obtain rfl : sh = false := eq_of_beq (α := Bool) (andL (andR (andR (andR (andR (andR hA))))))
  obtain rfl : sr = 0 := eq_of_beq (α := Int) (andL (andR (andR (andR (andR (andR (andR (andR hA))))))))
  obtain rfl : dp = 0 := eq_of_beq (α := Int) (andL (andR (andR (andR (andR (andR (andR (andR (andR hA)))))))))
  obtain rfl : re = 0 := eq_of_beq (α := Int) (andL (andR (andR (andR (andR (andR (andR (andR (andR (andR hA))))))))))
  obtain rfl : im = 0 := eq_of_beq (α := Int) (andL (andR (andR (andR (andR (andR (andR (andR (andR (andR (andR hA)))))))))))
  cases wi with
  | true =>
    rcases reg_cases hD with ⟨d, rfl, h1⟩ | ⟨d, rfl, h1⟩
    · exact retZ (by simp only [encS9, td_lo h1] <;> rfl) (re9_0 d (csF' (notT hr) (csI' rfl (csI' (qd_lo h1) csN'))) w (Laid.nil w))
    · exact retZ (by simp only [encS9, td_hi h1] <;> rfl) (re9_1 d (csF' (notT hr) (csI' rfl (csI' (qd_hi h1) csN'))) w (Laid.nil w))
  | false =>
    rcases reg_cases hD with ⟨d, rfl, h1⟩ | ⟨d, rfl, h1⟩
    · exact retZ (by simp only [encS9, td_lo h1] <;> rfl) (re9_2 d (csF' (notT hr) (csI' rfl (csI' (qd_lo h1) csN'))) w (Laid.nil w))
    · exact retZ (by simp only [encS9, td_hi h1] <;> rfl) (re9_3 d (csF' (notT hr) (csI' rfl (csI' (qd_hi h1) csN'))) w (Laid.nil w))
theorem c_re10 (al co si : Int) (wi sh : Bool) (ds sr dp re im : Int) (hv : vP10 al co si wi sh ds sr dp re im = true) (w : World) : Calls Tryd.prog 14 #[.agg ⟨(xA 10 al co si wi sh ds sr dp re im)⟩] w fun e w' => e = .returned (.tuple ⟨[.string ⟨⟨encS10 al co si wi sh ds sr dp re im⟩⟩, .int .i64 0]⟩) ∧ Gr w w' := by
  have hA := andL hv
  have hR := andL (andR hv)
  have hD := andL hR
  have hS := andR hR
  have hC := andL (andR (andR hv))
  have hr : vR10 al co si wi sh ds sr dp re im = true := (vPR10 al co si wi sh ds sr dp re im).symm.trans hv
  obtain rfl : al = 0 := eq_of_beq (α := Int) (andL (andR hA))
  obtain rfl : co = 0 := eq_of_beq (α := Int) (andL (andR (andR hA)))
  obtain rfl : si = 0 := eq_of_beq (α := Int) (andL (andR (andR (andR hA))))
  obtain rfl : sh = false := eq_of_beq (α := Bool) (andL (andR (andR (andR (andR (andR hA))))))
  obtain rfl : dp = 0 := eq_of_beq (α := Int) (andL (andR (andR (andR (andR (andR (andR (andR (andR hA)))))))))
  obtain rfl : re = 0 := eq_of_beq (α := Int) (andL (andR (andR (andR (andR (andR (andR (andR (andR (andR hA))))))))))
  obtain rfl : im = 0 := eq_of_beq (α := Int) (andL (andR (andR (andR (andR (andR (andR (andR (andR (andR (andR hA)))))))))))
  cases wi with
  | true =>
    rcases reg_cases3 hD with rfl | ⟨d, rfl, h1⟩ | ⟨d, rfl, h1⟩
    · rcases reg_cases hS with ⟨s, rfl, h2⟩ | ⟨s, rfl, h2⟩
      · exact retZ (by simp only [encS10, td_lo h2] <;> rfl) (re10_0 s (csF' (notT hr) (csI' rfl (csI' rfl (csI' rfl (csI' (qd_lo h2) csN'))))) w (Laid.nil w))
      · exact retZ (by simp only [encS10, td_hi h2] <;> rfl) (re10_1 s (csF' (notT hr) (csI' rfl (csI' rfl (csI' rfl (csI' (qd_hi h2) csN'))))) w (Laid.nil w))
    · rcases reg_cases hS with ⟨s, rfl, h2⟩ | ⟨s, rfl, h2⟩
      · exact retZ (by simp only [encS10, td_p h1, td_lo h2] <;> rfl) (re10_2 d s (csF' (notT hr) (csI' rfl (csI' (qd_p h1) (csI' (qd_p h1) (csI' (qd_lo h2) csN'))))) w (Laid.nil w))
      · exact retZ (by simp only [encS10, td_p h1, td_hi h2] <;> rfl) (re10_3 d s (csF' (notT hr) (csI' rfl (csI' (qd_p h1) (csI' (qd_p h1) (csI' (qd_hi h2) csN'))))) w (Laid.nil w))
    · rcases reg_cases hS with ⟨s, rfl, h2⟩ | ⟨s, rfl, h2⟩
      · exact retZ (by simp only [encS10, td_hi h1, td_lo h2] <;> rfl) (re10_4 d s (csF' (notT hr) (csI' rfl (csI' (qd_hi h1) (csI' (qd_hi h1) (csI' (qd_lo h2) csN'))))) w (Laid.nil w))
      · exact retZ (by simp only [encS10, td_hi h1, td_hi h2] <;> rfl) (re10_5 d s (csF' (notT hr) (csI' rfl (csI' (qd_hi h1) (csI' (qd_hi h1) (csI' (qd_hi h2) csN'))))) w (Laid.nil w))
  | false =>
    rcases reg_cases3 hD with rfl | ⟨d, rfl, h1⟩ | ⟨d, rfl, h1⟩
    · rcases reg_cases hS with ⟨s, rfl, h2⟩ | ⟨s, rfl, h2⟩
      · exact retZ (by simp only [encS10, td_lo h2] <;> rfl) (re10_6 s (csF' (notT hr) (csI' rfl (csI' rfl (csI' rfl (csI' (qd_lo h2) csN'))))) w (Laid.nil w))
      · exact retZ (by simp only [encS10, td_hi h2] <;> rfl) (re10_7 s (csF' (notT hr) (csI' rfl (csI' rfl (csI' rfl (csI' (qd_hi h2) csN'))))) w (Laid.nil w))
    · rcases reg_cases hS with ⟨s, rfl, h2⟩ | ⟨s, rfl, h2⟩
      · exact retZ (by simp only [encS10, td_p h1, td_lo h2] <;> rfl) (re10_8 d s (csF' (notT hr) (csI' rfl (csI' (qd_p h1) (csI' (qd_p h1) (csI' (qd_lo h2) csN'))))) w (Laid.nil w))
      · exact retZ (by simp only [encS10, td_p h1, td_hi h2] <;> rfl) (re10_9 d s (csF' (notT hr) (csI' rfl (csI' (qd_p h1) (csI' (qd_p h1) (csI' (qd_hi h2) csN'))))) w (Laid.nil w))
    · rcases reg_cases hS with ⟨s, rfl, h2⟩ | ⟨s, rfl, h2⟩
      · exact retZ (by simp only [encS10, td_hi h1, td_lo h2] <;> rfl) (re10_10 d s (csF' (notT hr) (csI' rfl (csI' (qd_hi h1) (csI' (qd_hi h1) (csI' (qd_lo h2) csN'))))) w (Laid.nil w))
      · exact retZ (by simp only [encS10, td_hi h1, td_hi h2] <;> rfl) (re10_11 d s (csF' (notT hr) (csI' rfl (csI' (qd_hi h1) (csI' (qd_hi h1) (csI' (qd_hi h2) csN'))))) w (Laid.nil w))
theorem c_re11 (al co si : Int) (wi sh : Bool) (ds sr dp re im : Int) (hv : vP11 al co si wi sh ds sr dp re im = true) (w : World) : Calls Tryd.prog 14 #[.agg ⟨(xA 11 al co si wi sh ds sr dp re im)⟩] w fun e w' => e = .returned (.tuple ⟨[.string ⟨⟨encS11 al co si wi sh ds sr dp re im⟩⟩, .int .i64 0]⟩) ∧ Gr w w' := by
  have hA := andL hv
  have hR := andL (andR hv)
  have hD := andL hR
  have hS := andR hR
  have hC := andL (andR (andR hv))
  have hr : vR11 al co si wi sh ds sr dp re im = true := (vPR11 al co si wi sh ds sr dp re im).symm.trans hv
  obtain rfl : co = 0 := eq_of_beq (α := Int) (andL (andR (andR hA)))
  obtain rfl : si = 0 := eq_of_beq (α := Int) (andL (andR (andR (andR hA))))
  obtain rfl : sh = false := eq_of_beq (α := Bool) (andL (andR (andR (andR (andR (andR hA))))))
  obtain rfl : sr = 0 := eq_of_beq (α := Int) (andL (andR (andR (andR (andR (andR (andR (andR hA))))))))
  obtain rfl : dp = 0 := eq_of_beq (α := Int) (andL (andR (andR (andR (andR (andR (andR (andR (andR hA)))))))))
  obtain rfl : re = 0 := eq_of_beq (α := Int) (andL (andR (andR (andR (andR (andR (andR (andR (andR (andR hA))))))))))
  have ha := sh_out hC
  cases wi with
  | true =>
    rcases reg_cases hD with ⟨d, rfl, h1⟩ | ⟨d, rfl, h1⟩
    · exact retZ (by simp only [encS11, td_lo h1] <;> rfl) (re11_0 al d im (csF' (notT hr) (csI' rfl (csI' (qd_lo h1) csN'))) w (Laid.nil w))
    · exact retZ (by simp only [encS11, td_hi h1] <;> rfl) (re11_1 al d im (csF' (notT hr) (csI' rfl (csI' (qd_hi h1) csN'))) w (Laid.nil w))
  | false =>
    rcases reg_cases hD with ⟨d, rfl, h1⟩ | ⟨d, rfl, h1⟩
    · exact retZ (by simp only [encS11, td_lo h1] <;> rfl) (re11_2 al d im (csF' (notT hr) (csI' rfl (csI' (qd_lo h1) csN'))) w (Laid.nil w))
    · exact retZ (by simp only [encS11, td_hi h1] <;> rfl) (re11_3 al d im (csF' (notT hr) (csI' rfl (csI' (qd_hi h1) csN'))) w (Laid.nil w))
theorem c_re12 (al co si : Int) (wi sh : Bool) (ds sr dp re im : Int) (hv : vP12 al co si wi sh ds sr dp re im = true) (w : World) : Calls Tryd.prog 14 #[.agg ⟨(xA 12 al co si wi sh ds sr dp re im)⟩] w fun e w' => e = .returned (.tuple ⟨[.string ⟨⟨encS12 al co si wi sh ds sr dp re im⟩⟩, .int .i64 0]⟩) ∧ Gr w w' := by
  have hA := andL hv
  have hR := andL (andR hv)
  have hD := andL hR
  have hS := andR hR
  have hC := andL (andR (andR hv))
  have hr : vR12 al co si wi sh ds sr dp re im = true := (vPR12 al co si wi sh ds sr dp re im).symm.trans hv
  obtain rfl : co = 0 := eq_of_beq (α := Int) (andL (andR (andR hA)))
  obtain rfl : si = 0 := eq_of_beq (α := Int) (andL (andR (andR (andR hA))))
  obtain rfl : sh = false := eq_of_beq (α := Bool) (andL (andR (andR (andR (andR (andR hA))))))
  obtain rfl : sr = 0 := eq_of_beq (α := Int) (andL (andR (andR (andR (andR (andR (andR (andR hA))))))))
  obtain rfl : dp = 0 := eq_of_beq (α := Int) (andL (andR (andR (andR (andR (andR (andR (andR (andR hA)))))))))
  obtain rfl : re = 0 := eq_of_beq (α := Int) (andL (andR (andR (andR (andR (andR (andR (andR (andR (andR hA))))))))))
  obtain rfl : im = 0 := eq_of_beq (α := Int) (andL (andR (andR (andR (andR (andR (andR (andR (andR (andR (andR hA)))))))))))
  have ha := sh_out hC
  cases wi with
  | true =>
    rcases reg_cases hD with ⟨d, rfl, h1⟩ | ⟨d, rfl, h1⟩
    · exact retZ (by simp only [encS12, td_lo h1] <;> rfl) (re12_0 al d (csF' (notT hr) (csI' rfl (csI' (qd_lo h1) csN'))) w (Laid.nil w))
    · exact retZ (by simp only [encS12, td_hi h1] <;> rfl) (re12_1 al d (csF' (notT hr) (csI' rfl (csI' (qd_hi h1) csN'))) w (Laid.nil w))
  | false =>
    rcases reg_cases hD with ⟨d, rfl, h1⟩ | ⟨d, rfl, h1⟩
    · exact retZ (by simp only [encS12, td_lo h1] <;> rfl) (re12_2 al d (csF' (notT hr) (csI' rfl (csI' (qd_lo h1) csN'))) w (Laid.nil w))
    · exact retZ (by simp only [encS12, td_hi h1] <;> rfl) (re12_3 al d (csF' (notT hr) (csI' rfl (csI' (qd_hi h1) csN'))) w (Laid.nil w))
theorem c_re13 (al co si : Int) (wi sh : Bool) (ds sr dp re im : Int) (hv : vP13 al co si wi sh ds sr dp re im = true) (w : World) : Calls Tryd.prog 14 #[.agg ⟨(xA 13 al co si wi sh ds sr dp re im)⟩] w fun e w' => e = .returned (.tuple ⟨[.string ⟨⟨encS13 al co si wi sh ds sr dp re im⟩⟩, .int .i64 0]⟩) ∧ Gr w w' := by
  have hA := andL hv
  have hR := andL (andR hv)
  have hD := andL hR
  have hS := andR hR
  have hC := andL (andR (andR hv))
  have hr : vR13 al co si wi sh ds sr dp re im = true := (vPR13 al co si wi sh ds sr dp re im).symm.trans hv
  obtain rfl : al = 0 := eq_of_beq (α := Int) (andL (andR hA))
  obtain rfl : co = 0 := eq_of_beq (α := Int) (andL (andR (andR hA)))
  obtain rfl : sh = false := eq_of_beq (α := Bool) (andL (andR (andR (andR (andR (andR hA))))))
  obtain rfl : re = 0 := eq_of_beq (α := Int) (andL (andR (andR (andR (andR (andR (andR (andR (andR (andR hA))))))))))
  obtain rfl : im = 0 := eq_of_beq (α := Int) (andL (andR (andR (andR (andR (andR (andR (andR (andR (andR (andR hA)))))))))))
  have hsz := szOut (andL hC)
  have hw : wi = (si == 8) := eq_of_beq (andR hC)
  rcases hsz with rfl | rfl | rfl | rfl
  · obtain rfl : wi = false := hw
    rcases reg_cases3 hD with rfl | ⟨d, rfl, h1⟩ | ⟨d, rfl, h1⟩
    · rcases reg_cases hS with ⟨s, rfl, h2⟩ | ⟨s, rfl, h2⟩
      · rcases Bool.eq_false_or_eq_true (Int.tmod (Int.ofNat s) 8 == 4) with h4 | h4
        · exact retZ (by simp only [encS13, td_lo h2, h4] <;> rfl) (re13_0 s dp (csF' (notT hr) (csI' rfl (csI' rfl (csI' rfl (csI' (qd_lo h2) (csT' h4 csN')))))) w (Laid.nil w))
        · exact retZ (by simp only [encS13, td_lo h2, h4] <;> rfl) (re13_1 s dp (csF' (notT hr) (csI' rfl (csI' rfl (csI' rfl (csI' (qd_lo h2) (csF' h4 csN')))))) w (Laid.nil w))
      · rcases Bool.eq_false_or_eq_true (Int.tmod (Int.ofNat (s + 8)) 8 == 4) with h4 | h4
        · exact retZ (by simp only [encS13, td_hi h2, h4] <;> rfl) (re13_2 s dp (csF' (notT hr) (csI' rfl (csI' rfl (csI' rfl (csI' (qd_hi h2) (csT' h4 csN')))))) w (Laid.nil w))
        · exact retZ (by simp only [encS13, td_hi h2, h4] <;> rfl) (re13_3 s dp (csF' (notT hr) (csI' rfl (csI' rfl (csI' rfl (csI' (qd_hi h2) (csF' h4 csN')))))) w (Laid.nil w))
    · rcases reg_cases hS with ⟨s, rfl, h2⟩ | ⟨s, rfl, h2⟩
      · rcases Bool.eq_false_or_eq_true (Int.tmod (Int.ofNat s) 8 == 4) with h4 | h4
        · exact retZ (by simp only [encS13, td_p h1, td_lo h2, h4] <;> rfl) (re13_4 d s dp (csF' (notT hr) (csI' rfl (csI' (qd_p h1) (csI' (qd_p h1) (csI' (qd_lo h2) (csT' h4 csN')))))) w (Laid.nil w))
        · exact retZ (by simp only [encS13, td_p h1, td_lo h2, h4] <;> rfl) (re13_5 d s dp (csF' (notT hr) (csI' rfl (csI' (qd_p h1) (csI' (qd_p h1) (csI' (qd_lo h2) (csF' h4 csN')))))) w (Laid.nil w))
      · rcases Bool.eq_false_or_eq_true (Int.tmod (Int.ofNat (s + 8)) 8 == 4) with h4 | h4
        · exact retZ (by simp only [encS13, td_p h1, td_hi h2, h4] <;> rfl) (re13_6 d s dp (csF' (notT hr) (csI' rfl (csI' (qd_p h1) (csI' (qd_p h1) (csI' (qd_hi h2) (csT' h4 csN')))))) w (Laid.nil w))
        · exact retZ (by simp only [encS13, td_p h1, td_hi h2, h4] <;> rfl) (re13_7 d s dp (csF' (notT hr) (csI' rfl (csI' (qd_p h1) (csI' (qd_p h1) (csI' (qd_hi h2) (csF' h4 csN')))))) w (Laid.nil w))
    · rcases reg_cases hS with ⟨s, rfl, h2⟩ | ⟨s, rfl, h2⟩
      · rcases Bool.eq_false_or_eq_true (Int.tmod (Int.ofNat s) 8 == 4) with h4 | h4
        · exact retZ (by simp only [encS13, td_hi h1, td_lo h2, h4] <;> rfl) (re13_8 d s dp (csF' (notT hr) (csI' rfl (csI' (qd_hi h1) (csI' (qd_hi h1) (csI' (qd_lo h2) (csT' h4 csN')))))) w (Laid.nil w))
        · exact retZ (by simp only [encS13, td_hi h1, td_lo h2, h4] <;> rfl) (re13_9 d s dp (csF' (notT hr) (csI' rfl (csI' (qd_hi h1) (csI' (qd_hi h1) (csI' (qd_lo h2) (csF' h4 csN')))))) w (Laid.nil w))
      · rcases Bool.eq_false_or_eq_true (Int.tmod (Int.ofNat (s + 8)) 8 == 4) with h4 | h4
        · exact retZ (by simp only [encS13, td_hi h1, td_hi h2, h4] <;> rfl) (re13_10 d s dp (csF' (notT hr) (csI' rfl (csI' (qd_hi h1) (csI' (qd_hi h1) (csI' (qd_hi h2) (csT' h4 csN')))))) w (Laid.nil w))
        · exact retZ (by simp only [encS13, td_hi h1, td_hi h2, h4] <;> rfl) (re13_11 d s dp (csF' (notT hr) (csI' rfl (csI' (qd_hi h1) (csI' (qd_hi h1) (csI' (qd_hi h2) (csF' h4 csN')))))) w (Laid.nil w))
  · obtain rfl : wi = false := hw
    rcases reg_cases3 hD with rfl | ⟨d, rfl, h1⟩ | ⟨d, rfl, h1⟩
    · rcases reg_cases hS with ⟨s, rfl, h2⟩ | ⟨s, rfl, h2⟩
      · rcases Bool.eq_false_or_eq_true (Int.tmod (Int.ofNat s) 8 == 4) with h4 | h4
        · exact retZ (by simp only [encS13, td_lo h2, h4] <;> rfl) (re13_12 s dp (csF' (notT hr) (csI' rfl (csI' rfl (csI' rfl (csI' (qd_lo h2) (csT' h4 csN')))))) w (Laid.nil w))
        · exact retZ (by simp only [encS13, td_lo h2, h4] <;> rfl) (re13_13 s dp (csF' (notT hr) (csI' rfl (csI' rfl (csI' rfl (csI' (qd_lo h2) (csF' h4 csN')))))) w (Laid.nil w))
      · rcases Bool.eq_false_or_eq_true (Int.tmod (Int.ofNat (s + 8)) 8 == 4) with h4 | h4
        · exact retZ (by simp only [encS13, td_hi h2, h4] <;> rfl) (re13_14 s dp (csF' (notT hr) (csI' rfl (csI' rfl (csI' rfl (csI' (qd_hi h2) (csT' h4 csN')))))) w (Laid.nil w))
        · exact retZ (by simp only [encS13, td_hi h2, h4] <;> rfl) (re13_15 s dp (csF' (notT hr) (csI' rfl (csI' rfl (csI' rfl (csI' (qd_hi h2) (csF' h4 csN')))))) w (Laid.nil w))
    · rcases reg_cases hS with ⟨s, rfl, h2⟩ | ⟨s, rfl, h2⟩
      · rcases Bool.eq_false_or_eq_true (Int.tmod (Int.ofNat s) 8 == 4) with h4 | h4
        · exact retZ (by simp only [encS13, td_p h1, td_lo h2, h4] <;> rfl) (re13_16 d s dp (csF' (notT hr) (csI' rfl (csI' (qd_p h1) (csI' (qd_p h1) (csI' (qd_lo h2) (csT' h4 csN')))))) w (Laid.nil w))
        · exact retZ (by simp only [encS13, td_p h1, td_lo h2, h4] <;> rfl) (re13_17 d s dp (csF' (notT hr) (csI' rfl (csI' (qd_p h1) (csI' (qd_p h1) (csI' (qd_lo h2) (csF' h4 csN')))))) w (Laid.nil w))
      · rcases Bool.eq_false_or_eq_true (Int.tmod (Int.ofNat (s + 8)) 8 == 4) with h4 | h4
        · exact retZ (by simp only [encS13, td_p h1, td_hi h2, h4] <;> rfl) (re13_18 d s dp (csF' (notT hr) (csI' rfl (csI' (qd_p h1) (csI' (qd_p h1) (csI' (qd_hi h2) (csT' h4 csN')))))) w (Laid.nil w))
        · exact retZ (by simp only [encS13, td_p h1, td_hi h2, h4] <;> rfl) (re13_19 d s dp (csF' (notT hr) (csI' rfl (csI' (qd_p h1) (csI' (qd_p h1) (csI' (qd_hi h2) (csF' h4 csN')))))) w (Laid.nil w))
    · rcases reg_cases hS with ⟨s, rfl, h2⟩ | ⟨s, rfl, h2⟩
      · rcases Bool.eq_false_or_eq_true (Int.tmod (Int.ofNat s) 8 == 4) with h4 | h4
        · exact retZ (by simp only [encS13, td_hi h1, td_lo h2, h4] <;> rfl) (re13_20 d s dp (csF' (notT hr) (csI' rfl (csI' (qd_hi h1) (csI' (qd_hi h1) (csI' (qd_lo h2) (csT' h4 csN')))))) w (Laid.nil w))
        · exact retZ (by simp only [encS13, td_hi h1, td_lo h2, h4] <;> rfl) (re13_21 d s dp (csF' (notT hr) (csI' rfl (csI' (qd_hi h1) (csI' (qd_hi h1) (csI' (qd_lo h2) (csF' h4 csN')))))) w (Laid.nil w))
      · rcases Bool.eq_false_or_eq_true (Int.tmod (Int.ofNat (s + 8)) 8 == 4) with h4 | h4
        · exact retZ (by simp only [encS13, td_hi h1, td_hi h2, h4] <;> rfl) (re13_22 d s dp (csF' (notT hr) (csI' rfl (csI' (qd_hi h1) (csI' (qd_hi h1) (csI' (qd_hi h2) (csT' h4 csN')))))) w (Laid.nil w))
        · exact retZ (by simp only [encS13, td_hi h1, td_hi h2, h4] <;> rfl) (re13_23 d s dp (csF' (notT hr) (csI' rfl (csI' (qd_hi h1) (csI' (qd_hi h1) (csI' (qd_hi h2) (csF' h4 csN')))))) w (Laid.nil w))
  · obtain rfl : wi = false := hw
    rcases reg_cases3 hD with rfl | ⟨d, rfl, h1⟩ | ⟨d, rfl, h1⟩
    · rcases reg_cases hS with ⟨s, rfl, h2⟩ | ⟨s, rfl, h2⟩
      · rcases Bool.eq_false_or_eq_true (Int.tmod (Int.ofNat s) 8 == 4) with h4 | h4
        · exact retZ (by simp only [encS13, td_lo h2, h4] <;> rfl) (re13_24 s dp (csF' (notT hr) (csI' rfl (csI' rfl (csI' rfl (csI' (qd_lo h2) (csT' h4 csN')))))) w (Laid.nil w))
        · exact retZ (by simp only [encS13, td_lo h2, h4] <;> rfl) (re13_25 s dp (csF' (notT hr) (csI' rfl (csI' rfl (csI' rfl (csI' (qd_lo h2) (csF' h4 csN')))))) w (Laid.nil w))
      · rcases Bool.eq_false_or_eq_true (Int.tmod (Int.ofNat (s + 8)) 8 == 4) with h4 | h4
        · exact retZ (by simp only [encS13, td_hi h2, h4] <;> rfl) (re13_26 s dp (csF' (notT hr) (csI' rfl (csI' rfl (csI' rfl (csI' (qd_hi h2) (csT' h4 csN')))))) w (Laid.nil w))
        · exact retZ (by simp only [encS13, td_hi h2, h4] <;> rfl) (re13_27 s dp (csF' (notT hr) (csI' rfl (csI' rfl (csI' rfl (csI' (qd_hi h2) (csF' h4 csN')))))) w (Laid.nil w))
    · rcases reg_cases hS with ⟨s, rfl, h2⟩ | ⟨s, rfl, h2⟩
      · rcases Bool.eq_false_or_eq_true (Int.tmod (Int.ofNat s) 8 == 4) with h4 | h4
        · exact retZ (by simp only [encS13, td_p h1, td_lo h2, h4] <;> rfl) (re13_28 d s dp (csF' (notT hr) (csI' rfl (csI' (qd_p h1) (csI' (qd_p h1) (csI' (qd_lo h2) (csT' h4 csN')))))) w (Laid.nil w))
        · exact retZ (by simp only [encS13, td_p h1, td_lo h2, h4] <;> rfl) (re13_29 d s dp (csF' (notT hr) (csI' rfl (csI' (qd_p h1) (csI' (qd_p h1) (csI' (qd_lo h2) (csF' h4 csN')))))) w (Laid.nil w))
      · rcases Bool.eq_false_or_eq_true (Int.tmod (Int.ofNat (s + 8)) 8 == 4) with h4 | h4
        · exact retZ (by simp only [encS13, td_p h1, td_hi h2, h4] <;> rfl) (re13_30 d s dp (csF' (notT hr) (csI' rfl (csI' (qd_p h1) (csI' (qd_p h1) (csI' (qd_hi h2) (csT' h4 csN')))))) w (Laid.nil w))
        · exact retZ (by simp only [encS13, td_p h1, td_hi h2, h4] <;> rfl) (re13_31 d s dp (csF' (notT hr) (csI' rfl (csI' (qd_p h1) (csI' (qd_p h1) (csI' (qd_hi h2) (csF' h4 csN')))))) w (Laid.nil w))
    · rcases reg_cases hS with ⟨s, rfl, h2⟩ | ⟨s, rfl, h2⟩
      · rcases Bool.eq_false_or_eq_true (Int.tmod (Int.ofNat s) 8 == 4) with h4 | h4
        · exact retZ (by simp only [encS13, td_hi h1, td_lo h2, h4] <;> rfl) (re13_32 d s dp (csF' (notT hr) (csI' rfl (csI' (qd_hi h1) (csI' (qd_hi h1) (csI' (qd_lo h2) (csT' h4 csN')))))) w (Laid.nil w))
        · exact retZ (by simp only [encS13, td_hi h1, td_lo h2, h4] <;> rfl) (re13_33 d s dp (csF' (notT hr) (csI' rfl (csI' (qd_hi h1) (csI' (qd_hi h1) (csI' (qd_lo h2) (csF' h4 csN')))))) w (Laid.nil w))
      · rcases Bool.eq_false_or_eq_true (Int.tmod (Int.ofNat (s + 8)) 8 == 4) with h4 | h4
        · exact retZ (by simp only [encS13, td_hi h1, td_hi h2, h4] <;> rfl) (re13_34 d s dp (csF' (notT hr) (csI' rfl (csI' (qd_hi h1) (csI' (qd_hi h1) (csI' (qd_hi h2) (csT' h4 csN')))))) w (Laid.nil w))
        · exact retZ (by simp only [encS13, td_hi h1, td_hi h2, h4] <;> rfl) (re13_35 d s dp (csF' (notT hr) (csI' rfl (csI' (qd_hi h1) (csI' (qd_hi h1) (csI' (qd_hi h2) (csF' h4 csN')))))) w (Laid.nil w))
  · obtain rfl : wi = true := hw
    rcases reg_cases3 hD with rfl | ⟨d, rfl, h1⟩ | ⟨d, rfl, h1⟩
    · rcases reg_cases hS with ⟨s, rfl, h2⟩ | ⟨s, rfl, h2⟩
      · rcases Bool.eq_false_or_eq_true (Int.tmod (Int.ofNat s) 8 == 4) with h4 | h4
        · exact retZ (by simp only [encS13, td_lo h2, h4] <;> rfl) (re13_36 s dp (csF' (notT hr) (csI' rfl (csI' rfl (csI' rfl (csI' (qd_lo h2) (csT' h4 csN')))))) w (Laid.nil w))
        · exact retZ (by simp only [encS13, td_lo h2, h4] <;> rfl) (re13_37 s dp (csF' (notT hr) (csI' rfl (csI' rfl (csI' rfl (csI' (qd_lo h2) (csF' h4 csN')))))) w (Laid.nil w))
      · rcases Bool.eq_false_or_eq_true (Int.tmod (Int.ofNat (s + 8)) 8 == 4) with h4 | h4
        · exact retZ (by simp only [encS13, td_hi h2, h4] <;> rfl) (re13_38 s dp (csF' (notT hr) (csI' rfl (csI' rfl (csI' rfl (csI' (qd_hi h2) (csT' h4 csN')))))) w (Laid.nil w))
        · exact retZ (by simp only [encS13, td_hi h2, h4] <;> rfl) (re13_39 s dp (csF' (notT hr) (csI' rfl (csI' rfl (csI' rfl (csI' (qd_hi h2) (csF' h4 csN')))))) w (Laid.nil w))
    · rcases reg_cases hS with ⟨s, rfl, h2⟩ | ⟨s, rfl, h2⟩
      · rcases Bool.eq_false_or_eq_true (Int.tmod (Int.ofNat s) 8 == 4) with h4 | h4
        · exact retZ (by simp only [encS13, td_p h1, td_lo h2, h4] <;> rfl) (re13_40 d s dp (csF' (notT hr) (csI' rfl (csI' (qd_p h1) (csI' (qd_p h1) (csI' (qd_lo h2) (csT' h4 csN')))))) w (Laid.nil w))
        · exact retZ (by simp only [encS13, td_p h1, td_lo h2, h4] <;> rfl) (re13_41 d s dp (csF' (notT hr) (csI' rfl (csI' (qd_p h1) (csI' (qd_p h1) (csI' (qd_lo h2) (csF' h4 csN')))))) w (Laid.nil w))
      · rcases Bool.eq_false_or_eq_true (Int.tmod (Int.ofNat (s + 8)) 8 == 4) with h4 | h4
        · exact retZ (by simp only [encS13, td_p h1, td_hi h2, h4] <;> rfl) (re13_42 d s dp (csF' (notT hr) (csI' rfl (csI' (qd_p h1) (csI' (qd_p h1) (csI' (qd_hi h2) (csT' h4 csN')))))) w (Laid.nil w))
        · exact retZ (by simp only [encS13, td_p h1, td_hi h2, h4] <;> rfl) (re13_43 d s dp (csF' (notT hr) (csI' rfl (csI' (qd_p h1) (csI' (qd_p h1) (csI' (qd_hi h2) (csF' h4 csN')))))) w (Laid.nil w))
    · rcases reg_cases hS with ⟨s, rfl, h2⟩ | ⟨s, rfl, h2⟩
      · rcases Bool.eq_false_or_eq_true (Int.tmod (Int.ofNat s) 8 == 4) with h4 | h4
        · exact retZ (by simp only [encS13, td_hi h1, td_lo h2, h4] <;> rfl) (re13_44 d s dp (csF' (notT hr) (csI' rfl (csI' (qd_hi h1) (csI' (qd_hi h1) (csI' (qd_lo h2) (csT' h4 csN')))))) w (Laid.nil w))
        · exact retZ (by simp only [encS13, td_hi h1, td_lo h2, h4] <;> rfl) (re13_45 d s dp (csF' (notT hr) (csI' rfl (csI' (qd_hi h1) (csI' (qd_hi h1) (csI' (qd_lo h2) (csF' h4 csN')))))) w (Laid.nil w))
      · rcases Bool.eq_false_or_eq_true (Int.tmod (Int.ofNat (s + 8)) 8 == 4) with h4 | h4
        · exact retZ (by simp only [encS13, td_hi h1, td_hi h2, h4] <;> rfl) (re13_46 d s dp (csF' (notT hr) (csI' rfl (csI' (qd_hi h1) (csI' (qd_hi h1) (csI' (qd_hi h2) (csT' h4 csN')))))) w (Laid.nil w))
        · exact retZ (by simp only [encS13, td_hi h1, td_hi h2, h4] <;> rfl) (re13_47 d s dp (csF' (notT hr) (csI' rfl (csI' (qd_hi h1) (csI' (qd_hi h1) (csI' (qd_hi h2) (csF' h4 csN')))))) w (Laid.nil w))
theorem c_re14 (al co si : Int) (wi sh : Bool) (ds sr dp re im : Int) (hv : vP14 al co si wi sh ds sr dp re im = true) (w : World) : Calls Tryd.prog 14 #[.agg ⟨(xA 14 al co si wi sh ds sr dp re im)⟩] w fun e w' => e = .returned (.tuple ⟨[.string ⟨⟨encS14 al co si wi sh ds sr dp re im⟩⟩, .int .i64 0]⟩) ∧ Gr w w' := by
  have hA := andL hv
  have hR := andL (andR hv)
  have hD := andL hR
  have hS := andR hR
  have hC := andL (andR (andR hv))
  have hr : vR14 al co si wi sh ds sr dp re im = true := (vPR14 al co si wi sh ds sr dp re im).symm.trans hv
  obtain rfl : al = 0 := eq_of_beq (α := Int) (andL (andR hA))
  obtain rfl : co = 0 := eq_of_beq (α := Int) (andL (andR (andR hA)))
  obtain rfl : sh = false := eq_of_beq (α := Bool) (andL (andR (andR (andR (andR (andR hA))))))
  obtain rfl : re = 0 := eq_of_beq (α := Int) (andL (andR (andR (andR (andR (andR (andR (andR (andR (andR hA))))))))))
  obtain rfl : im = 0 := eq_of_beq (α := Int) (andL (andR (andR (andR (andR (andR (andR (andR (andR (andR (andR hA)))))))))))
  have hsz := szOut (andL hC)
  have hw : wi = (si == 8) := eq_of_beq (andR hC)
  rcases hsz with rfl | rfl | rfl | rfl
  · obtain rfl : wi = false := hw
    rcases reg_cases hD with ⟨d, rfl, h1⟩ | ⟨d, rfl, h1⟩
    · rcases reg_cases hS with ⟨s, rfl, h2⟩ | ⟨s, rfl, h2⟩
      · rcases Bool.eq_false_or_eq_true (Int.tmod (Int.ofNat d) 8 == 4) with h4 | h4
        · exact retZ (by simp only [encS14, td_lo h1, td_lo h2, h4] <;> rfl) (re14_0 d s dp (csF' (notT hr) (csI' rfl (csI' (qd_lo h1) (csI' (qd_lo h2) (csI' (qd_lo h1) (csT' h4 csN')))))) w (Laid.nil w))
        · exact retZ (by simp only [encS14, td_lo h1, td_lo h2, h4] <;> rfl) (re14_1 d s dp (csF' (notT hr) (csI' rfl (csI' (qd_lo h1) (csI' (qd_lo h2) (csI' (qd_lo h1) (csF' h4 csN')))))) w (Laid.nil w))
      · rcases Bool.eq_false_or_eq_true (Int.tmod (Int.ofNat d) 8 == 4) with h4 | h4
        · exact retZ (by simp only [encS14, td_lo h1, td_hi h2, h4] <;> rfl) (re14_2 d s dp (csF' (notT hr) (csI' rfl (csI' (qd_lo h1) (csI' (qd_hi h2) (csI' (qd_lo h1) (csT' h4 csN')))))) w (Laid.nil w))
        · exact retZ (by simp only [encS14, td_lo h1, td_hi h2, h4] <;> rfl) (re14_3 d s dp (csF' (notT hr) (csI' rfl (csI' (qd_lo h1) (csI' (qd_hi h2) (csI' (qd_lo h1) (csF' h4 csN')))))) w (Laid.nil w))
    · rcases reg_cases hS with ⟨s, rfl, h2⟩ | ⟨s, rfl, h2⟩
      · rcases Bool.eq_false_or_eq_true (Int.tmod (Int.ofNat (d + 8)) 8 == 4) with h4 | h4
        · exact retZ (by simp only [encS14, td_hi h1, td_lo h2, h4] <;> rfl) (re14_4 d s dp (csF' (notT hr) (csI' rfl (csI' (qd_hi h1) (csI' (qd_lo h2) (csI' (qd_hi h1) (csT' h4 csN')))))) w (Laid.nil w))
        · exact retZ (by simp only [encS14, td_hi h1, td_lo h2, h4] <;> rfl) (re14_5 d s dp (csF' (notT hr) (csI' rfl (csI' (qd_hi h1) (csI' (qd_lo h2) (csI' (qd_hi h1) (csF' h4 csN')))))) w (Laid.nil w))
      · rcases Bool.eq_false_or_eq_true (Int.tmod (Int.ofNat (d + 8)) 8 == 4) with h4 | h4
        · exact retZ (by simp only [encS14, td_hi h1, td_hi h2, h4] <;> rfl) (re14_6 d s dp (csF' (notT hr) (csI' rfl (csI' (qd_hi h1) (csI' (qd_hi h2) (csI' (qd_hi h1) (csT' h4 csN')))))) w (Laid.nil w))
        · exact retZ (by simp only [encS14, td_hi h1, td_hi h2, h4] <;> rfl) (re14_7 d s dp (csF' (notT hr) (csI' rfl (csI' (qd_hi h1) (csI' (qd_hi h2) (csI' (qd_hi h1) (csF' h4 csN')))))) w (Laid.nil w))
  · obtain rfl : wi = false := hw
    rcases reg_cases hD with ⟨d, rfl, h1⟩ | ⟨d, rfl, h1⟩
    · rcases reg_cases hS with ⟨s, rfl, h2⟩ | ⟨s, rfl, h2⟩
      · rcases Bool.eq_false_or_eq_true (Int.tmod (Int.ofNat d) 8 == 4) with h4 | h4
        · exact retZ (by simp only [encS14, td_lo h1, td_lo h2, h4] <;> rfl) (re14_8 d s dp (csF' (notT hr) (csI' rfl (csI' (qd_lo h1) (csI' (qd_lo h2) (csI' (qd_lo h1) (csT' h4 csN')))))) w (Laid.nil w))
        · exact retZ (by simp only [encS14, td_lo h1, td_lo h2, h4] <;> rfl) (re14_9 d s dp (csF' (notT hr) (csI' rfl (csI' (qd_lo h1) (csI' (qd_lo h2) (csI' (qd_lo h1) (csF' h4 csN')))))) w (Laid.nil w))
      · rcases Bool.eq_false_or_eq_true (Int.tmod (Int.ofNat d) 8 == 4) with h4 | h4
        · exact retZ (by simp only [encS14, td_lo h1, td_hi h2, h4] <;> rfl) (re14_10 d s dp (csF' (notT hr) (csI' rfl (csI' (qd_lo h1) (csI' (qd_hi h2) (csI' (qd_lo h1) (csT' h4 csN')))))) w (Laid.nil w))
        · exact retZ (by simp only [encS14, td_lo h1, td_hi h2, h4] <;> rfl) (re14_11 d s dp (csF' (notT hr) (csI' rfl (csI' (qd_lo h1) (csI' (qd_hi h2) (csI' (qd_lo h1) (csF' h4 csN')))))) w (Laid.nil w))
    · rcases reg_cases hS with ⟨s, rfl, h2⟩ | ⟨s, rfl, h2⟩
      · rcases Bool.eq_false_or_eq_true (Int.tmod (Int.ofNat (d + 8)) 8 == 4) with h4 | h4
        · exact retZ (by simp only [encS14, td_hi h1, td_lo h2, h4] <;> rfl) (re14_12 d s dp (csF' (notT hr) (csI' rfl (csI' (qd_hi h1) (csI' (qd_lo h2) (csI' (qd_hi h1) (csT' h4 csN')))))) w (Laid.nil w))
        · exact retZ (by simp only [encS14, td_hi h1, td_lo h2, h4] <;> rfl) (re14_13 d s dp (csF' (notT hr) (csI' rfl (csI' (qd_hi h1) (csI' (qd_lo h2) (csI' (qd_hi h1) (csF' h4 csN')))))) w (Laid.nil w))
      · rcases Bool.eq_false_or_eq_true (Int.tmod (Int.ofNat (d + 8)) 8 == 4) with h4 | h4
        · exact retZ (by simp only [encS14, td_hi h1, td_hi h2, h4] <;> rfl) (re14_14 d s dp (csF' (notT hr) (csI' rfl (csI' (qd_hi h1) (csI' (qd_hi h2) (csI' (qd_hi h1) (csT' h4 csN')))))) w (Laid.nil w))
        · exact retZ (by simp only [encS14, td_hi h1, td_hi h2, h4] <;> rfl) (re14_15 d s dp (csF' (notT hr) (csI' rfl (csI' (qd_hi h1) (csI' (qd_hi h2) (csI' (qd_hi h1) (csF' h4 csN')))))) w (Laid.nil w))
  · obtain rfl : wi = false := hw
    rcases reg_cases hD with ⟨d, rfl, h1⟩ | ⟨d, rfl, h1⟩
    · rcases reg_cases hS with ⟨s, rfl, h2⟩ | ⟨s, rfl, h2⟩
      · rcases Bool.eq_false_or_eq_true (Int.tmod (Int.ofNat d) 8 == 4) with h4 | h4
        · exact retZ (by simp only [encS14, td_lo h1, td_lo h2, h4] <;> rfl) (re14_16 d s dp (csF' (notT hr) (csI' rfl (csI' (qd_lo h1) (csI' (qd_lo h2) (csI' (qd_lo h1) (csT' h4 csN')))))) w (Laid.nil w))
        · exact retZ (by simp only [encS14, td_lo h1, td_lo h2, h4] <;> rfl) (re14_17 d s dp (csF' (notT hr) (csI' rfl (csI' (qd_lo h1) (csI' (qd_lo h2) (csI' (qd_lo h1) (csF' h4 csN')))))) w (Laid.nil w))
      · rcases Bool.eq_false_or_eq_true (Int.tmod (Int.ofNat d) 8 == 4) with h4 | h4
        · exact retZ (by simp only [encS14, td_lo h1, td_hi h2, h4] <;> rfl) (re14_18 d s dp (csF' (notT hr) (csI' rfl (csI' (qd_lo h1) (csI' (qd_hi h2) (csI' (qd_lo h1) (csT' h4 csN')))))) w (Laid.nil w))
        · exact retZ (by simp only [encS14, td_lo h1, td_hi h2, h4] <;> rfl) (re14_19 d s dp (csF' (notT hr) (csI' rfl (csI' (qd_lo h1) (csI' (qd_hi h2) (csI' (qd_lo h1) (csF' h4 csN')))))) w (Laid.nil w))
    · rcases reg_cases hS with ⟨s, rfl, h2⟩ | ⟨s, rfl, h2⟩
      · rcases Bool.eq_false_or_eq_true (Int.tmod (Int.ofNat (d + 8)) 8 == 4) with h4 | h4
        · exact retZ (by simp only [encS14, td_hi h1, td_lo h2, h4] <;> rfl) (re14_20 d s dp (csF' (notT hr) (csI' rfl (csI' (qd_hi h1) (csI' (qd_lo h2) (csI' (qd_hi h1) (csT' h4 csN')))))) w (Laid.nil w))
        · exact retZ (by simp only [encS14, td_hi h1, td_lo h2, h4] <;> rfl) (re14_21 d s dp (csF' (notT hr) (csI' rfl (csI' (qd_hi h1) (csI' (qd_lo h2) (csI' (qd_hi h1) (csF' h4 csN')))))) w (Laid.nil w))
      · rcases Bool.eq_false_or_eq_true (Int.tmod (Int.ofNat (d + 8)) 8 == 4) with h4 | h4
        · exact retZ (by simp only [encS14, td_hi h1, td_hi h2, h4] <;> rfl) (re14_22 d s dp (csF' (notT hr) (csI' rfl (csI' (qd_hi h1) (csI' (qd_hi h2) (csI' (qd_hi h1) (csT' h4 csN')))))) w (Laid.nil w))
        · exact retZ (by simp only [encS14, td_hi h1, td_hi h2, h4] <;> rfl) (re14_23 d s dp (csF' (notT hr) (csI' rfl (csI' (qd_hi h1) (csI' (qd_hi h2) (csI' (qd_hi h1) (csF' h4 csN')))))) w (Laid.nil w))
  · obtain rfl : wi = true := hw
    rcases reg_cases hD with ⟨d, rfl, h1⟩ | ⟨d, rfl, h1⟩
    · rcases reg_cases hS with ⟨s, rfl, h2⟩ | ⟨s, rfl, h2⟩
      · rcases Bool.eq_false_or_eq_true (Int.tmod (Int.ofNat d) 8 == 4) with h4 | h4
        · exact retZ (by simp only [encS14, td_lo h1, td_lo h2, h4] <;> rfl) (re14_24 d s dp (csF' (notT hr) (csI' rfl (csI' (qd_lo h1) (csI' (qd_lo h2) (csI' (qd_lo h1) (csT' h4 csN')))))) w (Laid.nil w))
        · exact retZ (by simp only [encS14, td_lo h1, td_lo h2, h4] <;> rfl) (re14_25 d s dp (csF' (notT hr) (csI' rfl (csI' (qd_lo h1) (csI' (qd_lo h2) (csI' (qd_lo h1) (csF' h4 csN')))))) w (Laid.nil w))
      · rcases Bool.eq_false_or_eq_true (Int.tmod (Int.ofNat d) 8 == 4) with h4 | h4
        · exact retZ (by simp only [encS14, td_lo h1, td_hi h2, h4] <;> rfl) (re14_26 d s dp (csF' (notT hr) (csI' rfl (csI' (qd_lo h1) (csI' (qd_hi h2) (csI' (qd_lo h1) (csT' h4 csN')))))) w (Laid.nil w))
        · exact retZ (by simp only [encS14, td_lo h1, td_hi h2, h4] <;> rfl) (re14_27 d s dp (csF' (notT hr) (csI' rfl (csI' (qd_lo h1) (csI' (qd_hi h2) (csI' (qd_lo h1) (csF' h4 csN')))))) w (Laid.nil w))
    · rcases reg_cases hS with ⟨s, rfl, h2⟩ | ⟨s, rfl, h2⟩
      · rcases Bool.eq_false_or_eq_true (Int.tmod (Int.ofNat (d + 8)) 8 == 4) with h4 | h4
        · exact retZ (by simp only [encS14, td_hi h1, td_lo h2, h4] <;> rfl) (re14_28 d s dp (csF' (notT hr) (csI' rfl (csI' (qd_hi h1) (csI' (qd_lo h2) (csI' (qd_hi h1) (csT' h4 csN')))))) w (Laid.nil w))
        · exact retZ (by simp only [encS14, td_hi h1, td_lo h2, h4] <;> rfl) (re14_29 d s dp (csF' (notT hr) (csI' rfl (csI' (qd_hi h1) (csI' (qd_lo h2) (csI' (qd_hi h1) (csF' h4 csN')))))) w (Laid.nil w))
      · rcases Bool.eq_false_or_eq_true (Int.tmod (Int.ofNat (d + 8)) 8 == 4) with h4 | h4
        · exact retZ (by simp only [encS14, td_hi h1, td_hi h2, h4] <;> rfl) (re14_30 d s dp (csF' (notT hr) (csI' rfl (csI' (qd_hi h1) (csI' (qd_hi h2) (csI' (qd_hi h1) (csT' h4 csN')))))) w (Laid.nil w))
        · exact retZ (by simp only [encS14, td_hi h1, td_hi h2, h4] <;> rfl) (re14_31 d s dp (csF' (notT hr) (csI' rfl (csI' (qd_hi h1) (csI' (qd_hi h2) (csI' (qd_hi h1) (csF' h4 csN')))))) w (Laid.nil w))
theorem c_re15 (al co si : Int) (wi sh : Bool) (ds sr dp re im : Int) (hv : vP15 al co si wi sh ds sr dp re im = true) (w : World) : Calls Tryd.prog 14 #[.agg ⟨(xA 15 al co si wi sh ds sr dp re im)⟩] w fun e w' => e = .returned (.tuple ⟨[.string ⟨⟨encS15 al co si wi sh ds sr dp re im⟩⟩, .int .i64 0]⟩) ∧ Gr w w' := by
  have hA := andL hv
  have hR := andL (andR hv)
  have hD := andL hR
  have hS := andR hR
  have hC := andL (andR (andR hv))
  have hr : vR15 al co si wi sh ds sr dp re im = true := (vPR15 al co si wi sh ds sr dp re im).symm.trans hv
  obtain rfl : al = 0 := eq_of_beq (α := Int) (andL (andR hA))
  obtain rfl : co = 0 := eq_of_beq (α := Int) (andL (andR (andR hA)))
  obtain rfl : si = 0 := eq_of_beq (α := Int) (andL (andR (andR (andR hA))))
  obtain rfl : wi = false := eq_of_beq (α := Bool) (andL (andR (andR (andR (andR hA)))))
  obtain rfl : ds = 0 := eq_of_beq (α := Int) (andL (andR (andR (andR (andR (andR (andR hA)))))))
  obtain rfl : sr = 0 := eq_of_beq (α := Int) (andL (andR (andR (andR (andR (andR (andR (andR hA))))))))
  obtain rfl : dp = 0 := eq_of_beq (α := Int) (andL (andR (andR (andR (andR (andR (andR (andR (andR hA)))))))))
  obtain rfl : im = 0 := eq_of_beq (α := Int) (andL (andR (andR (andR (andR (andR (andR (andR (andR (andR (andR hA)))))))))))
  cases sh with
  | true =>
    exact retZ (by simp only [encS15] <;> rfl) (re15_0 re (csF' (notT hr) (csI' rfl (csI' rfl csN'))) w (Laid.nil w))
  | false =>
    exact retZ (by simp only [encS15] <;> rfl) (re15_1 re (csF' (notT hr) (csI' rfl (csI' rfl csN'))) w (Laid.nil w))
theorem c_re16 (al co si : Int) (wi sh : Bool) (ds sr dp re im : Int) (hv : vP16 al co si wi sh ds sr dp re im = true) (w : World) : Calls Tryd.prog 14 #[.agg ⟨(xA 16 al co si wi sh ds sr dp re im)⟩] w fun e w' => e = .returned (.tuple ⟨[.string ⟨⟨encS16 al co si wi sh ds sr dp re im⟩⟩, .int .i64 0]⟩) ∧ Gr w w' := by
  have hA := andL hv
  have hR := andL (andR hv)
  have hD := andL hR
  have hS := andR hR
  have hC := andL (andR (andR hv))
  have hr : vR16 al co si wi sh ds sr dp re im = true := (vPR16 al co si wi sh ds sr dp re im).symm.trans hv
  obtain rfl : al = 0 := eq_of_beq (α := Int) (andL (andR hA))
  obtain rfl : si = 0 := eq_of_beq (α := Int) (andL (andR (andR (andR hA))))
  obtain rfl : wi = false := eq_of_beq (α := Bool) (andL (andR (andR (andR (andR hA)))))
  obtain rfl : ds = 0 := eq_of_beq (α := Int) (andL (andR (andR (andR (andR (andR (andR hA)))))))
  obtain rfl : sr = 0 := eq_of_beq (α := Int) (andL (andR (andR (andR (andR (andR (andR (andR hA))))))))
  obtain rfl : dp = 0 := eq_of_beq (α := Int) (andL (andR (andR (andR (andR (andR (andR (andR (andR hA)))))))))
  obtain rfl : im = 0 := eq_of_beq (α := Int) (andL (andR (andR (andR (andR (andR (andR (andR (andR (andR (andR hA)))))))))))
  have hc := cc_out hC
  cases sh with
  | true =>
    exact retZ (by simp only [encS16] <;> rfl) (re16_0 co re (csF' (notT hr) (csI' rfl (csI' rfl csN'))) w (Laid.nil w))
  | false =>
    exact retZ (by simp only [encS16] <;> rfl) (re16_1 co re (csF' (notT hr) (csI' rfl (csI' rfl csN'))) w (Laid.nil w))
theorem c_re17 (al co si : Int) (wi sh : Bool) (ds sr dp re im : Int) (hv : vP17 al co si wi sh ds sr dp re im = true) (w : World) : Calls Tryd.prog 14 #[.agg ⟨(xA 17 al co si wi sh ds sr dp re im)⟩] w fun e w' => e = .returned (.tuple ⟨[.string ⟨⟨encS17 al co si wi sh ds sr dp re im⟩⟩, .int .i64 0]⟩) ∧ Gr w w' := by
  have hA := andL hv
  have hR := andL (andR hv)
  have hD := andL hR
  have hS := andR hR
  have hC := andL (andR (andR hv))
  have hr : vR17 al co si wi sh ds sr dp re im = true := (vPR17 al co si wi sh ds sr dp re im).symm.trans hv
  obtain rfl : al = 0 := eq_of_beq (α := Int) (andL (andR hA))
  obtain rfl : co = 0 := eq_of_beq (α := Int) (andL (andR (andR hA)))
  obtain rfl : si = 0 := eq_of_beq (α := Int) (andL (andR (andR (andR hA))))
  obtain rfl : wi = false := eq_of_beq (α := Bool) (andL (andR (andR (andR (andR hA)))))
  obtain rfl : sh = false := eq_of_beq (α := Bool) (andL (andR (andR (andR (andR (andR hA))))))
  obtain rfl : sr = 0 := eq_of_beq (α := Int) (andL (andR (andR (andR (andR (andR (andR (andR hA))))))))
  obtain rfl : dp = 0 := eq_of_beq (α := Int) (andL (andR (andR (andR (andR (andR (andR (andR (andR hA)))))))))
  obtain rfl : re = 0 := eq_of_beq (α := Int) (andL (andR (andR (andR (andR (andR (andR (andR (andR (andR hA))))))))))
  obtain rfl : im = 0 := eq_of_beq (α := Int) (andL (andR (andR (andR (andR (andR (andR (andR (andR (andR (andR hA)))))))))))
  rcases reg_cases hD with ⟨d, rfl, h1⟩ | ⟨d, rfl, h1⟩
  · exact retZ (by simp only [encS17, td_lo h1] <;> rfl) (re17_0 d (csF' (notT hr) (csI' rfl (csI' (qd_lo h1) csN'))) w (Laid.nil w))
  · exact retZ (by simp only [encS17, td_hi h1] <;> rfl) (re17_1 d (csF' (notT hr) (csI' rfl (csI' (qd_hi h1) csN'))) w (Laid.nil w))
theorem c_re18 (al co si : Int) (wi sh : Bool) (ds sr dp re im : Int) (hv : vP18 al co si wi sh ds sr dp re im = true) (w : World) : Calls Tryd.prog 14 #[.agg ⟨(xA 18 al co si wi sh ds sr dp re im)⟩] w fun e w' => e = .returned (.tuple ⟨[.string ⟨⟨encS18 al co si wi sh ds sr dp re im⟩⟩, .int .i64 0]⟩) ∧ Gr w w' := by
  have hA := andL hv
  have hR := andL (andR hv)
  have hD := andL hR
  have hS := andR hR
  have hC := andL (andR (andR hv))
  have hr : vR18 al co si wi sh ds sr dp re im = true := (vPR18 al co si wi sh ds sr dp re im).symm.trans hv
  obtain rfl : al = 0 := eq_of_beq (α := Int) (andL (andR hA))
  obtain rfl : co = 0 := eq_of_beq (α := Int) (andL (andR (andR hA)))
  obtain rfl : si = 0 := eq_of_beq (α := Int) (andL (andR (andR (andR hA))))
  obtain rfl : wi = false := eq_of_beq (α := Bool) (andL (andR (andR (andR (andR hA)))))
  obtain rfl : sh = false := eq_of_beq (α := Bool) (andL (andR (andR (andR (andR (andR hA))))))
  obtain rfl : sr = 0 := eq_of_beq (α := Int) (andL (andR (andR (andR (andR (andR (andR (andR hA))))))))
  obtain rfl : dp = 0 := eq_of_beq (α := Int) (andL (andR (andR (andR (andR (andR (andR (andR (andR hA)))))))))
  obtain rfl : re = 0 := eq_of_beq (α := Int) (andL (andR (andR (andR (andR (andR (andR (andR (andR (andR hA))))))))))
  obtain rfl : im = 0 := eq_of_beq (α := Int) (andL (andR (andR (andR (andR (andR (andR (andR (andR (andR (andR hA)))))))))))
  rcases reg_cases hD with ⟨d, rfl, h1⟩ | ⟨d, rfl, h1⟩
  · exact retZ (by simp only [encS18, td_lo h1] <;> rfl) (re18_0 d (csF' (notT hr) (csI' rfl (csI' (qd_lo h1) csN'))) w (Laid.nil w))
  · exact retZ (by simp only [encS18, td_hi h1] <;> rfl) (re18_1 d (csF' (notT hr) (csI' rfl (csI' (qd_hi h1) csN'))) w (Laid.nil w))
theorem c_re19 (al co si : Int) (wi sh : Bool) (ds sr dp re im : Int) (hv : vP19 al co si wi sh ds sr dp re im = true) (w : World) : Calls Tryd.prog 14 #[.agg ⟨(xA 19 al co si wi sh ds sr dp re im)⟩] w fun e w' => e = .returned (.tuple ⟨[.string ⟨⟨encS19 al co si wi sh ds sr dp re im⟩⟩, .int .i64 0]⟩) ∧ Gr w w' := by
  have hA := andL hv
  have hR := andL (andR hv)
  have hD := andL hR
  have hS := andR hR
  have hC := andL (andR (andR hv))
  have hr : vR19 al co si wi sh ds sr dp re im = true := (vPR19 al co si wi sh ds sr dp re im).symm.trans hv
  obtain rfl : al = 0 := eq_of_beq (α := Int) (andL (andR hA))
  obtain rfl : co = 0 := eq_of_beq (α := Int) (andL (andR (andR hA)))
  obtain rfl : si = 0 := eq_of_beq (α := Int) (andL (andR (andR (andR hA))))
  obtain rfl : wi = false := eq_of_beq (α := Bool) (andL (andR (andR (andR (andR hA)))))
  obtain rfl : sh = false := eq_of_beq (α := Bool) (andL (andR (andR (andR (andR (andR hA))))))
  obtain rfl : ds = 0 := eq_of_beq (α := Int) (andL (andR (andR (andR (andR (andR (andR hA)))))))
  obtain rfl : sr = 0 := eq_of_beq (α := Int) (andL (andR (andR (andR (andR (andR (andR (andR hA))))))))
  obtain rfl : dp = 0 := eq_of_beq (α := Int) (andL (andR (andR (andR (andR (andR (andR (andR (andR hA)))))))))
  obtain rfl : re = 0 := eq_of_beq (α := Int) (andL (andR (andR (andR (andR (andR (andR (andR (andR (andR hA))))))))))
  obtain rfl : im = 0 := eq_of_beq (α := Int) (andL (andR (andR (andR (andR (andR (andR (andR (andR (andR (andR hA)))))))))))
  exact retZ (by simp only [encS19] <;> rfl) (re19_0  (csF' (notT hr) (csI' rfl (csI' rfl csN'))) w (Laid.nil w))
theorem c_re20 (al co si : Int) (wi sh : Bool) (ds sr dp re im : Int) (hv : vP20 al co si wi sh ds sr dp re im = true) (w : World) : Calls Tryd.prog 14 #[.agg ⟨(xA 20 al co si wi sh ds sr dp re im)⟩] w fun e w' => e = .returned (.tuple ⟨[.string ⟨⟨encS20 al co si wi sh ds sr dp re im⟩⟩, .int .i64 0]⟩) ∧ Gr w w' := by
  have hA := andL hv
  have hR := andL (andR hv)
  have hD := andL hR
  have hS := andR hR
  have hC := andL (andR (andR hv))
  have hr : vR20 al co si wi sh ds sr dp re im = true := (vPR20 al co si wi sh ds sr dp re im).symm.trans hv
  obtain rfl : al = 0 := eq_of_beq (α := Int) (andL (andR hA))
  obtain rfl : co = 0 := eq_of_beq (α := Int) (andL (andR (andR hA)))
  obtain rfl : si = 0 := eq_of_beq (α := Int) (andL (andR (andR (andR hA))))
  obtain rfl : wi = false := eq_of_beq (α := Bool) (andL (andR (andR (andR (andR hA)))))
  obtain rfl : sh = false := eq_of_beq (α := Bool) (andL (andR (andR (andR (andR (andR hA))))))
  obtain rfl : ds = 0 := eq_of_beq (α := Int) (andL (andR (andR (andR (andR (andR (andR hA)))))))
  obtain rfl : sr = 0 := eq_of_beq (α := Int) (andL (andR (andR (andR (andR (andR (andR (andR hA))))))))
  obtain rfl : dp = 0 := eq_of_beq (α := Int) (andL (andR (andR (andR (andR (andR (andR (andR (andR hA)))))))))
  obtain rfl : im = 0 := eq_of_beq (α := Int) (andL (andR (andR (andR (andR (andR (andR (andR (andR (andR (andR hA)))))))))))
  exact retZ (by simp only [encS20] <;> rfl) (re20_0 re (csF' (notT hr) (csI' rfl (csI' rfl csN'))) w (Laid.nil w))
theorem c_re21 (al co si : Int) (wi sh : Bool) (ds sr dp re im : Int) (hv : vP21 al co si wi sh ds sr dp re im = true) (w : World) : Calls Tryd.prog 14 #[.agg ⟨(xA 21 al co si wi sh ds sr dp re im)⟩] w fun e w' => e = .returned (.tuple ⟨[.string ⟨⟨encS21 al co si wi sh ds sr dp re im⟩⟩, .int .i64 0]⟩) ∧ Gr w w' := by
  have hA := andL hv
  have hR := andL (andR hv)
  have hD := andL hR
  have hS := andR hR
  have hC := andL (andR (andR hv))
  have hr : vR21 al co si wi sh ds sr dp re im = true := (vPR21 al co si wi sh ds sr dp re im).symm.trans hv
  obtain rfl : al = 0 := eq_of_beq (α := Int) (andL (andR hA))
  obtain rfl : co = 0 := eq_of_beq (α := Int) (andL (andR (andR hA)))
  obtain rfl : si = 0 := eq_of_beq (α := Int) (andL (andR (andR (andR hA))))
  obtain rfl : wi = false := eq_of_beq (α := Bool) (andL (andR (andR (andR (andR hA)))))
  obtain rfl : sh = false := eq_of_beq (α := Bool) (andL (andR (andR (andR (andR (andR hA))))))
  obtain rfl : ds = 0 := eq_of_beq (α := Int) (andL (andR (andR (andR (andR (andR (andR hA)))))))
  obtain rfl : sr = 0 := eq_of_beq (α := Int) (andL (andR (andR (andR (andR (andR (andR (andR hA))))))))
  obtain rfl : dp = 0 := eq_of_beq (α := Int) (andL (andR (andR (andR (andR (andR (andR (andR (andR hA)))))))))
  obtain rfl : re = 0 := eq_of_beq (α := Int) (andL (andR (andR (andR (andR (andR (andR (andR (andR (andR hA))))))))))
  obtain rfl : im = 0 := eq_of_beq (α := Int) (andL (andR (andR (andR (andR (andR (andR (andR (andR (andR (andR hA)))))))))))
  exact retZ (by simp only [encS21] <;> rfl) (re21_0  (csF' (notT hr) (csI' rfl (csI' rfl csN'))) w (Laid.nil w))
theorem re_bad (k : Int) (al co si : Int) (wi sh : Bool) (ds sr dp re im : Int) : Lf [] 14 [.agg ⟨(xA k al co si wi sh ds sr dp re im)⟩] (.tuple ⟨[.string ⟨⟨[]⟩⟩, .int .i64 2]⟩) [(b2i (!vR k al co si wi sh ds sr dp re im), 1)] := lf hkF_ok (ocs [(14, 11, .bool true)] []) (by kernel_rfl) (by kernel_rfl) (by kernel_rfl)
theorem c_renc (k : Int) (al co si : Int) (wi sh : Bool) (ds sr dp re im : Int) (w : World) : Calls Tryd.prog 14 #[.agg ⟨(xA k al co si wi sh ds sr dp re im)⟩] w fun e w' => e = .returned (.tuple ⟨[.string ⟨⟨encB k al co si wi sh ds sr dp re im⟩⟩, .int .i64 (encE k al co si wi sh ds sr dp re im)]⟩) ∧ Gr w w' := by
  rcases Bool.eq_false_or_eq_true (vP k al co si wi sh ds sr dp re im) with h | h
  · by_cases hk : 1 ≤ k ∧ k ≤ 21
    · rcases kinds (k := k) (by simp only [decide_eq_false_iff_not]; omega) (by simp only [decide_eq_false_iff_not]; omega) with rfl | rfl | rfl | rfl | rfl | rfl | rfl | rfl | rfl | rfl | rfl | rfl | rfl | rfl | rfl | rfl | rfl | rfl | rfl | rfl | rfl
      · exact retZ (by simp only [encB, encE, h]; rfl) (c_re1 al co si wi sh ds sr dp re im h w)
      · exact retZ (by simp only [encB, encE, h]; rfl) (c_re2 al co si wi sh ds sr dp re im h w)
      · exact retZ (by simp only [encB, encE, h]; rfl) (c_re3 al co si wi sh ds sr dp re im h w)
      · exact retZ (by simp only [encB, encE, h]; rfl) (c_re4 al co si wi sh ds sr dp re im h w)
      · exact retZ (by simp only [encB, encE, h]; rfl) (c_re5 al co si wi sh ds sr dp re im h w)
      · exact retZ (by simp only [encB, encE, h]; rfl) (c_re6 al co si wi sh ds sr dp re im h w)
      · exact retZ (by simp only [encB, encE, h]; rfl) (c_re7 al co si wi sh ds sr dp re im h w)
      · exact retZ (by simp only [encB, encE, h]; rfl) (c_re8 al co si wi sh ds sr dp re im h w)
      · exact retZ (by simp only [encB, encE, h]; rfl) (c_re9 al co si wi sh ds sr dp re im h w)
      · exact retZ (by simp only [encB, encE, h]; rfl) (c_re10 al co si wi sh ds sr dp re im h w)
      · exact retZ (by simp only [encB, encE, h]; rfl) (c_re11 al co si wi sh ds sr dp re im h w)
      · exact retZ (by simp only [encB, encE, h]; rfl) (c_re12 al co si wi sh ds sr dp re im h w)
      · exact retZ (by simp only [encB, encE, h]; rfl) (c_re13 al co si wi sh ds sr dp re im h w)
      · exact retZ (by simp only [encB, encE, h]; rfl) (c_re14 al co si wi sh ds sr dp re im h w)
      · exact retZ (by simp only [encB, encE, h]; rfl) (c_re15 al co si wi sh ds sr dp re im h w)
      · exact retZ (by simp only [encB, encE, h]; rfl) (c_re16 al co si wi sh ds sr dp re im h w)
      · exact retZ (by simp only [encB, encE, h]; rfl) (c_re17 al co si wi sh ds sr dp re im h w)
      · exact retZ (by simp only [encB, encE, h]; rfl) (c_re18 al co si wi sh ds sr dp re im h w)
      · exact retZ (by simp only [encB, encE, h]; rfl) (c_re19 al co si wi sh ds sr dp re im h w)
      · exact retZ (by simp only [encB, encE, h]; rfl) (c_re20 al co si wi sh ds sr dp re im h w)
      · exact retZ (by simp only [encB, encE, h]; rfl) (c_re21 al co si wi sh ds sr dp re im h w)
    · exfalso
      have nd : ∀ n : Int, 1 ≤ n → n ≤ 21 → ¬ k = n := fun n h1 h2 => by omega
      unfold vP at h
      rw [if_neg (nd 1 (by omega) (by omega)), if_neg (nd 2 (by omega) (by omega)), if_neg (nd 3 (by omega) (by omega)), if_neg (nd 4 (by omega) (by omega)), if_neg (nd 5 (by omega) (by omega)), if_neg (nd 6 (by omega) (by omega)), if_neg (nd 7 (by omega) (by omega)), if_neg (nd 8 (by omega) (by omega)), if_neg (nd 9 (by omega) (by omega)), if_neg (nd 10 (by omega) (by omega)), if_neg (nd 11 (by omega) (by omega)), if_neg (nd 12 (by omega) (by omega)), if_neg (nd 13 (by omega) (by omega)), if_neg (nd 14 (by omega) (by omega)), if_neg (nd 15 (by omega) (by omega)), if_neg (nd 16 (by omega) (by omega)), if_neg (nd 17 (by omega) (by omega)), if_neg (nd 18 (by omega) (by omega)), if_neg (nd 19 (by omega) (by omega)), if_neg (nd 20 (by omega) (by omega)), if_neg (nd 21 (by omega) (by omega))] at h
      cases h
  · exact retZ (by simp only [encB, encE, h]; rfl) (re_bad k al co si wi sh ds sr dp re im (csT' (by rw [← vPR, h]; rfl) csN') w (Laid.nil w))
def hk_renc : Hook := fun f args h =>
  if Nat.beq f 14 then
    match args with
    | [.agg ⟨[.int .i64 p0, .int .i64 p1, .int .i64 p2, .int .i64 p3, .bool p4, .bool p5, .int .i64 p6, .int .i64 p7, .int .i32 p8, .int .i32 p9, .int .i64 p10]⟩] => some (.tuple ⟨[.string ⟨⟨encB p0 p1 p2 p3 p4 p5 p6 p7 p8 p9 p10⟩⟩, .int .i64 (encE p0 p1 p2 p3 p4 p5 p6 p7 p8 p9 p10)]⟩, [])
    | _ => none
  else none
theorem hk_renc_ok : HookOk Tryd.prog hk_renc := by
  intro f args h v cs hv hc wb k s w H
  unfold hk_renc at hv
  split at hv
  · rename_i hf
    obtain rfl := Nat.eq_of_beq_eq_true hf
    split at hv
    · cases hv
      exact c_renc _ _ _ _ _ _ _ _ _ _ _ w
    · cases hv
  · cases hv
end Go.Proofs.YtbaiokfjoglmiaaDoor.Ex
end
