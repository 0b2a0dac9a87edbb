/-
  Layer 11: decoding, all ways behind one beginning.
-/
import Derived.Test.YtokeopmmnpmfeaaDoorPackD
import Derived.Test.YtokeopmmnpmfeaaDoorDk4i
import Derived.Test.YtokeopmmnpmfeaaDoorDk4j
namespace Go.Proofs.YtokeopmmnpmfeaaDoor.Ex
set_option maxRecDepth 20000

open Go Go.RowKit
set_option linter.unusedVariables false
set_option linter.unusedSimpArgs false
set_option maxHeartbeats 0
set_option maxRecDepth 1000000
theorem dP_hr {eB : EncB} {eE : EncE} {s : ByteArray} {a : Int} {w : World} (C : Cx eB eE s a w) (th : (bt s a 0 == 102) = true) (tr : (andB (bt s a 1) 240 == 64) = true) (tw : (andB (bt s a 1) 8 != 0) = false) : GoalD eB eE s a w := by
  have hP : AllD (hr.c s a (bt s a)) := (ap C.st (ap (C.p 0) (ap (oneT th) (ap (C.t 0) (ap (C.p 1) (ap (oneT tr) (ap (C.t 1) (ap (C.t 2) (oneF tw)))))))))
  have h00 : readB (bt s a) = preB (bt s a) true false (bt s a 1) 2 := by
    simp only [readB, rexB, cond_true, cond_false, Nat.reduceAdd, th, tr, tw]
  rcases Bool.eq_false_or_eq_true (bt s a 2 == 15) with te | te
  · have hx : readB (bt s a) = escB (bt s a) true false (bt s a 1) 3 := h00.trans (by simp only [preB, te, cond_true, cond_false, Nat.reduceAdd])
    rcases Bool.eq_false_or_eq_true ((bt s a 3) == 175) with e175 | e175
    · exact C.l3 hP khr31e khr31f khr31t (hx.trans (by simp only [escB, cond_true, cond_false, e175]; rfl)) (ap (oneT te) (ap (C.t 3) (ap (oneT e175) (C.t 4))))
    · rcases Bool.eq_false_or_eq_true ((bt s a 3) == 182) with e182 | e182
      · rcases Bool.eq_false_or_eq_true (Int.tmod (endE (bt s a 1) (bt s a 4)) 8 == 4) with tb | tb
        · exact C.l3 hP khr33e khr33f khr33t (hx.trans (by simp only [escB, xS, xL, dpB, Nat.reduceAdd, cond_true, cond_false, e175, e182, tb]; rfl)) (ap (oneT te) (ap (C.t 3) (ap (nc e175 AllD.nil) (ap (oneT e182) (ap (C.t 4) (ap (oneT tb) (ap (C.t 5) (ap (C.t 6) (ap (C.t 7) (ap (C.t 8) (ap (C.t 9) (sg_ok _))))))))))))
        · exact C.l3 hP khr32e khr32f khr32t (hx.trans (by simp only [escB, xS, xL, dpB, Nat.reduceAdd, cond_true, cond_false, e175, e182, tb]; rfl)) (ap (oneT te) (ap (C.t 3) (ap (nc e175 AllD.nil) (ap (oneT e182) (ap (C.t 4) (ap (oneF tb) (ap (C.t 5) (ap (C.t 6) (ap (C.t 7) (ap (C.t 8) (sg_ok _)))))))))))
      · rcases Bool.eq_false_or_eq_true ((bt s a 3) == 183) with e183 | e183
        · rcases Bool.eq_false_or_eq_true (Int.tmod (endE (bt s a 1) (bt s a 4)) 8 == 4) with tb | tb
          · exact C.l3 hP khr35e khr35f khr35t (hx.trans (by simp only [escB, xS, xL, dpB, Nat.reduceAdd, cond_true, cond_false, e175, e182, e183, tb]; rfl)) (ap (oneT te) (ap (C.t 3) (ap (nc e175 (nc e182 AllD.nil)) (ap (oneT e183) (ap (C.t 4) (ap (oneT tb) (ap (C.t 5) (ap (C.t 6) (ap (C.t 7) (ap (C.t 8) (ap (C.t 9) (sg_ok _))))))))))))
          · exact C.l3 hP khr34e khr34f khr34t (hx.trans (by simp only [escB, xS, xL, dpB, Nat.reduceAdd, cond_true, cond_false, e175, e182, e183, tb]; rfl)) (ap (oneT te) (ap (C.t 3) (ap (nc e175 (nc e182 AllD.nil)) (ap (oneT e183) (ap (C.t 4) (ap (oneF tb) (ap (C.t 5) (ap (C.t 6) (ap (C.t 7) (ap (C.t 8) (sg_ok _)))))))))))
        · rcases Bool.eq_false_or_eq_true ((bt s a 3) == 174) with e174 | e174
          · exact C.l3 hP khr36e khr36f khr36t (hx.trans (by simp only [escB, cond_true, cond_false, e175, e182, e183, e174]; rfl)) (ap (oneT te) (ap (C.t 3) (ap (nc e175 (nc e182 (nc e183 AllD.nil))) (oneT e174))))
          · rcases Bool.eq_false_or_eq_true (andB (bt s a 3) 240 == 128) with ej | ej
            · exact C.l3 hP khr37e khr37f khr37t (hx.trans (by simp only [escB, cond_true, cond_false, e175, e182, e183, e174, ej]; rfl)) (ap (oneT te) (ap (C.t 3) (ap (nc e175 (nc e182 (nc e183 (nc e174 AllD.nil)))) (ap (oneT ej) (ap (C.t 4) (ap (C.t 5) (ap (C.t 6) (ap (C.t 7) (sg_ok _)))))))))
            · exact C.l1 hP khr38e (hx.trans (by simp only [escB, cond_true, cond_false, e175, e182, e183, e174, ej]; rfl)) rfl (ap (oneT te) (ap (C.t 3) (ap (nc e175 (nc e182 (nc e183 (nc e174 AllD.nil)))) (oneF ej))))
  · have hx : readB (bt s a) = opB (bt s a) true false (bt s a 1) 2 := h00.trans (by simp only [preB, te, cond_true, cond_false, Nat.reduceAdd])
    rcases Bool.eq_false_or_eq_true ((bt s a 2) == 137) with c0 | c0
    · rcases Bool.eq_false_or_eq_true (decide ((bt s a 3) < 192)) with tm | tm
      · rcases Bool.eq_false_or_eq_true (Int.tmod (endE (bt s a 1) (bt s a 3)) 8 == 4) with tb | tb
        · exact C.l3 hP khr1e khr1f khr1t (hx.trans (by simp only [opB, xS, xL, dpB, Nat.reduceAdd, cond_true, cond_false, c0, tm, tb]; rfl)) (ap (oneF te) (ap (C.p 3) (ap (oneT tm) (ap (oneT c0) (ap (C.t 3) (ap (oneT tb) (ap (C.t 4) (ap (C.t 5) (ap (C.t 6) (ap (C.t 7) (ap (C.t 8) (sg_ok _))))))))))))
        · exact C.l3 hP khr0e khr0f khr0t (hx.trans (by simp only [opB, xS, xL, dpB, Nat.reduceAdd, cond_true, cond_false, c0, tm, tb]; rfl)) (ap (oneF te) (ap (C.p 3) (ap (oneT tm) (ap (oneT c0) (ap (C.t 3) (ap (oneF tb) (ap (C.t 4) (ap (C.t 5) (ap (C.t 6) (ap (C.t 7) (sg_ok _)))))))))))
      · exact C.l3 hP khr2e khr2f khr2t (hx.trans (by simp only [opB, cond_true, cond_false, c0, tm]; rfl)) (ap (oneF te) (ap (C.p 3) (ap (oneF tm) (ap (oneT c0) (C.t 3)))))
    · rcases Bool.eq_false_or_eq_true ((bt s a 2) == 136) with c1 | c1
      · rcases Bool.eq_false_or_eq_true (Int.tmod (endE (bt s a 1) (bt s a 3)) 8 == 4) with tb | tb
        · exact C.l3 hP khr4e khr4f khr4t (hx.trans (by simp only [opB, xS, xL, dpB, Nat.reduceAdd, cond_true, cond_false, c0, c1, tb]; rfl)) (ap (oneF te) (ap (C.p 3) (ap (nc c0 AllD.nil) (ap (oneT c1) (ap (C.t 3) (ap (oneT tb) (ap (C.t 4) (ap (C.t 5) (ap (C.t 6) (ap (C.t 7) (ap (C.t 8) (sg_ok _))))))))))))
        · exact C.l3 hP khr3e khr3f khr3t (hx.trans (by simp only [opB, xS, xL, dpB, Nat.reduceAdd, cond_true, cond_false, c0, c1, tb]; rfl)) (ap (oneF te) (ap (C.p 3) (ap (nc c0 AllD.nil) (ap (oneT c1) (ap (C.t 3) (ap (oneF tb) (ap (C.t 4) (ap (C.t 5) (ap (C.t 6) (ap (C.t 7) (sg_ok _)))))))))))
      · rcases Bool.eq_false_or_eq_true ((bt s a 2) == 139) with c2 | c2
        · rcases Bool.eq_false_or_eq_true (Int.tmod (endE (bt s a 1) (bt s a 3)) 8 == 4) with tb | tb
          · exact C.l3 hP khr6e khr6f khr6t (hx.trans (by simp only [opB, xS, xL, dpB, Nat.reduceAdd, cond_true, cond_false, c0, c1, c2, tb]; rfl)) (ap (oneF te) (ap (C.p 3) (ap (nc c0 (nc c1 AllD.nil)) (ap (oneT c2) (ap (C.t 3) (ap (oneT tb) (ap (C.t 4) (ap (C.t 5) (ap (C.t 6) (ap (C.t 7) (ap (C.t 8) (sg_ok _))))))))))))
          · exact C.l3 hP khr5e khr5f khr5t (hx.trans (by simp only [opB, xS, xL, dpB, Nat.reduceAdd, cond_true, cond_false, c0, c1, c2, tb]; rfl)) (ap (oneF te) (ap (C.p 3) (ap (nc c0 (nc c1 AllD.nil)) (ap (oneT c2) (ap (C.t 3) (ap (oneF tb) (ap (C.t 4) (ap (C.t 5) (ap (C.t 6) (ap (C.t 7) (sg_ok _)))))))))))
        · rcases Bool.eq_false_or_eq_true ((bt s a 2) == 133) with c3 | c3
          · exact C.l3 hP khr7e khr7f khr7t (hx.trans (by simp only [opB, cond_true, cond_false, c0, c1, c2, c3]; rfl)) (ap (oneF te) (ap (C.p 3) (ap (nc c0 (nc c1 (nc c2 AllD.nil))) (ap (oneT c3) (C.t 3)))))
          · rcases Bool.eq_false_or_eq_true ((bt s a 2) == 129) with c4 | c4
            · exact C.l3 hP khr8e khr8f khr8t (hx.trans (by simp only [opB, cond_true, cond_false, c0, c1, c2, c3, c4]; rfl)) (ap (oneF te) (ap (C.p 3) (ap (nc c0 (nc c1 (nc c2 (nc c3 AllD.nil)))) (ap (oneT c4) (ap (C.t 3) (ap (C.t 4) (ap (C.t 5) (ap (C.t 6) (ap (C.t 7) (sg_ok _))))))))))
            · rcases Bool.eq_false_or_eq_true ((bt s a 2) == 199) with c5 | c5
              · exact C.l3 hP khr9e khr9f khr9t (hx.trans (by simp only [opB, cond_true, cond_false, c0, c1, c2, c3, c4, c5]; rfl)) (ap (oneF te) (ap (C.p 3) (ap (nc c0 (nc c1 (nc c2 (nc c3 (nc c4 AllD.nil))))) (ap (oneT c5) (ap (C.t 3) (ap (C.t 4) (ap (C.t 5) (ap (C.t 6) (ap (C.t 7) (sg_ok _))))))))))
              · rcases Bool.eq_false_or_eq_true ((bt s a 2) == 247) with c6 | c6
                · rcases Bool.eq_false_or_eq_true ((digE (bt s a 3)) == 3) with d3 | d3
                  · exact C.l3 hP khr10e khr10f khr10t (hx.trans (by simp only [opB, cond_true, cond_false, c0, c1, c2, c3, c4, c5, c6, d3]; rfl)) (ap (oneF te) (ap (C.p 3) (ap (nc c0 (nc c1 (nc c2 (nc c3 (nc c4 (nc c5 AllD.nil)))))) (ap (oneT c6) (ap (oneT d3) (C.t 3))))))
                  · rcases Bool.eq_false_or_eq_true ((digE (bt s a 3)) == 4) with d4 | d4
                    · exact C.l3 hP khr11e khr11f khr11t (hx.trans (by simp only [opB, cond_true, cond_false, c0, c1, c2, c3, c4, c5, c6, d3, d4]; rfl)) (ap (oneF te) (ap (C.p 3) (ap (nc c0 (nc c1 (nc c2 (nc c3 (nc c4 (nc c5 AllD.nil)))))) (ap (oneT c6) (ap (oneF d3) (ap (oneT d4) (C.t 3)))))))
                    · rcases Bool.eq_false_or_eq_true ((digE (bt s a 3)) == 6) with d6 | d6
                      · exact C.l3 hP khr12e khr12f khr12t (hx.trans (by simp only [opB, cond_true, cond_false, c0, c1, c2, c3, c4, c5, c6, d3, d4, d6]; rfl)) (ap (oneF te) (ap (C.p 3) (ap (nc c0 (nc c1 (nc c2 (nc c3 (nc c4 (nc c5 AllD.nil)))))) (ap (oneT c6) (ap (oneF d3) (ap (oneF d4) (ap (oneT d6) (C.t 3))))))))
                      · exact C.l1 hP khr13e (hx.trans (by simp only [opB, cond_true, cond_false, c0, c1, c2, c3, c4, c5, c6, d3, d4, d6]; rfl)) rfl (ap (oneF te) (ap (C.p 3) (ap (nc c0 (nc c1 (nc c2 (nc c3 (nc c4 (nc c5 AllD.nil)))))) (ap (oneT c6) (ap (oneF d3) (ap (oneF d4) (oneF d6)))))))
                · rcases Bool.eq_false_or_eq_true ((bt s a 2) == 193) with c7 | c7
                  · exact C.l3 hP khr14e khr14f khr14t (hx.trans (by simp only [opB, cond_true, cond_false, c0, c1, c2, c3, c4, c5, c6, c7]; rfl)) (ap (oneF te) (ap (C.p 3) (ap (nc c0 (nc c1 (nc c2 (nc c3 (nc c4 (nc c5 (nc c6 AllD.nil))))))) (ap (oneT c7) (ap (C.t 3) (ap (C.t 4) (sg_ok _)))))))
                  · rcases Bool.eq_false_or_eq_true ((bt s a 2) == 211) with c8 | c8
                    · exact C.l3 hP khr15e khr15f khr15t (hx.trans (by simp only [opB, cond_true, cond_false, c0, c1, c2, c3, c4, c5, c6, c7, c8]; rfl)) (ap (oneF te) (ap (C.p 3) (ap (nc c0 (nc c1 (nc c2 (nc c3 (nc c4 (nc c5 (nc c6 (nc c7 AllD.nil)))))))) (ap (oneT c8) (C.t 3)))))
                    · rcases Bool.eq_false_or_eq_true ((bt s a 2) == 235) with c9 | c9
                      · exact C.l3 hP khr16e khr16f khr16t (hx.trans (by simp only [opB, cond_true, cond_false, c0, c1, c2, c3, c4, c5, c6, c7, c8, c9]; rfl)) (ap (oneF te) (ap (C.p 3) (ap (nc c0 (nc c1 (nc c2 (nc c3 (nc c4 (nc c5 (nc c6 (nc c7 (nc c8 AllD.nil))))))))) (ap (oneT c9) (ap (C.t 3) (sg_ok _))))))
                      · rcases Bool.eq_false_or_eq_true ((bt s a 2) == 233) with c10 | c10
                        · exact C.l3 hP khr17e khr17f khr17t (hx.trans (by simp only [opB, cond_true, cond_false, c0, c1, c2, c3, c4, c5, c6, c7, c8, c9, c10]; rfl)) (ap (oneF te) (ap (C.p 3) (ap (nc c0 (nc c1 (nc c2 (nc c3 (nc c4 (nc c5 (nc c6 (nc c7 (nc c8 (nc c9 AllD.nil)))))))))) (ap (oneT c10) (ap (C.t 3) (ap (C.t 4) (ap (C.t 5) (ap (C.t 6) (sg_ok _)))))))))
                        · rcases Bool.eq_false_or_eq_true ((bt s a 2) == 232) with c11 | c11
                          · exact C.l3 hP khr18e khr18f khr18t (hx.trans (by simp only [opB, cond_true, cond_false, c0, c1, c2, c3, c4, c5, c6, c7, c8, c9, c10, c11]; rfl)) (ap (oneF te) (ap (C.p 3) (ap (nc c0 (nc c1 (nc c2 (nc c3 (nc c4 (nc c5 (nc c6 (nc c7 (nc c8 (nc c9 (nc c10 AllD.nil))))))))))) (ap (oneT c11) (ap (C.t 3) (ap (C.t 4) (ap (C.t 5) (ap (C.t 6) (sg_ok _)))))))))
                          · rcases Bool.eq_false_or_eq_true ((bt s a 2) == 195) with c12 | c12
                            · exact C.l3 hP khr19e khr19f khr19t (hx.trans (by simp only [opB, cond_true, cond_false, c0, c1, c2, c3, c4, c5, c6, c7, c8, c9, c10, c11, c12]; rfl)) (ap (oneF te) (ap (C.p 3) (ap (nc c0 (nc c1 (nc c2 (nc c3 (nc c4 (nc c5 (nc c6 (nc c7 (nc c8 (nc c9 (nc c10 (nc c11 AllD.nil)))))))))))) (oneT c12))))
                            · rcases Bool.eq_false_or_eq_true (decide ((bt s a 2) < 64)) with tl | tl
                              · rcases Bool.eq_false_or_eq_true (Int.tmod (bt s a 2) 8 == 1) with ta | ta
                                · exact C.l3 hP khr20e khr20f khr20t (hx.trans (by simp only [opB, cond_true, cond_false, c0, c1, c2, c3, c4, c5, c6, c7, c8, c9, c10, c11, c12, tl, ta]; rfl)) (ap (oneF te) (ap (C.p 3) (ap (nc c0 (nc c1 (nc c2 (nc c3 (nc c4 (nc c5 (nc c6 (nc c7 (nc c8 (nc c9 (nc c10 (nc c11 (nc c12 AllD.nil))))))))))))) (ap (oneT tl) (ap (oneT ta) (C.t 3))))))
                                · rcases Bool.eq_false_or_eq_true (andB (bt s a 2) 248 == 80) with r21 | r21
                                  · exact C.l3 hP khr21e khr21f khr21t (hx.trans (by simp only [opB, rowB, cond_true, cond_false, c0, c1, c2, c3, c4, c5, c6, c7, c8, c9, c10, c11, c12, tl, ta, r21]; rfl)) (ap (oneF te) (ap (C.p 3) (ap (nc c0 (nc c1 (nc c2 (nc c3 (nc c4 (nc c5 (nc c6 (nc c7 (nc c8 (nc c9 (nc c10 (nc c11 (nc c12 AllD.nil))))))))))))) (ap (oneT tl) (ap (oneF ta) (oneT r21))))))
                                  · rcases Bool.eq_false_or_eq_true (andB (bt s a 2) 248 == 88) with r26 | r26
                                    · exact C.l3 hP khr22e khr22f khr22t (hx.trans (by simp only [opB, rowB, cond_true, cond_false, c0, c1, c2, c3, c4, c5, c6, c7, c8, c9, c10, c11, c12, tl, ta, r21, r26]; rfl)) (ap (oneF te) (ap (C.p 3) (ap (nc c0 (nc c1 (nc c2 (nc c3 (nc c4 (nc c5 (nc c6 (nc c7 (nc c8 (nc c9 (nc c10 (nc c11 (nc c12 AllD.nil))))))))))))) (ap (oneT tl) (ap (oneF ta) (ap (oneF r21) (oneT r26)))))))
                                    · rcases Bool.eq_false_or_eq_true (andB (bt s a 2) 240 == 112) with r31 | r31
                                      · exact C.l3 hP khr23e khr23f khr23t (hx.trans (by simp only [opB, rowB, cond_true, cond_false, c0, c1, c2, c3, c4, c5, c6, c7, c8, c9, c10, c11, c12, tl, ta, r21, r26, r31]; rfl)) (ap (oneF te) (ap (C.p 3) (ap (nc c0 (nc c1 (nc c2 (nc c3 (nc c4 (nc c5 (nc c6 (nc c7 (nc c8 (nc c9 (nc c10 (nc c11 (nc c12 AllD.nil))))))))))))) (ap (oneT tl) (ap (oneF ta) (ap (oneF r21) (ap (oneF r26) (ap (oneT r31) (ap (C.t 3) (sg_ok _))))))))))
                                      · rcases Bool.eq_false_or_eq_true (andB (bt s a 2) 248 == 184) with r41 | r41
                                        · exact C.l3 hP khr24e khr24f khr24t (hx.trans (by simp only [opB, rowB, cond_true, cond_false, c0, c1, c2, c3, c4, c5, c6, c7, c8, c9, c10, c11, c12, tl, ta, r21, r26, r31, r41]; rfl)) (ap (oneF te) (ap (C.p 3) (ap (nc c0 (nc c1 (nc c2 (nc c3 (nc c4 (nc c5 (nc c6 (nc c7 (nc c8 (nc c9 (nc c10 (nc c11 (nc c12 AllD.nil))))))))))))) (ap (oneT tl) (ap (oneF ta) (ap (oneF r21) (ap (oneF r26) (ap (oneF r31) (ap (oneT r41) (ap (C.t 3) (ap (C.t 4) (ap (C.t 5) (ap (C.t 6) (ap (C.t 7) (ap (C.t 8) (ap (C.t 9) (ap (C.t 10) (sg_ok _))))))))))))))))))
                                        · exact C.l1 hP khr25e (hx.trans (by simp only [opB, rowB, cond_true, cond_false, c0, c1, c2, c3, c4, c5, c6, c7, c8, c9, c10, c11, c12, tl, ta, r21, r26, r31, r41]; rfl)) rfl (ap (oneF te) (ap (C.p 3) (ap (nc c0 (nc c1 (nc c2 (nc c3 (nc c4 (nc c5 (nc c6 (nc c7 (nc c8 (nc c9 (nc c10 (nc c11 (nc c12 AllD.nil))))))))))))) (ap (oneT tl) (ap (oneF ta) (ap (oneF r21) (ap (oneF r26) (ap (oneF r31) (oneF r41)))))))))
                              · rcases Bool.eq_false_or_eq_true (andB (bt s a 2) 248 == 80) with r21 | r21
                                · exact C.l3 hP khr26e khr26f khr26t (hx.trans (by simp only [opB, rowB, cond_true, cond_false, c0, c1, c2, c3, c4, c5, c6, c7, c8, c9, c10, c11, c12, tl, r21]; rfl)) (ap (oneF te) (ap (C.p 3) (ap (nc c0 (nc c1 (nc c2 (nc c3 (nc c4 (nc c5 (nc c6 (nc c7 (nc c8 (nc c9 (nc c10 (nc c11 (nc c12 AllD.nil))))))))))))) (ap (oneF tl) (oneT r21)))))
                                · rcases Bool.eq_false_or_eq_true (andB (bt s a 2) 248 == 88) with r26 | r26
                                  · exact C.l3 hP khr27e khr27f khr27t (hx.trans (by simp only [opB, rowB, cond_true, cond_false, c0, c1, c2, c3, c4, c5, c6, c7, c8, c9, c10, c11, c12, tl, r21, r26]; rfl)) (ap (oneF te) (ap (C.p 3) (ap (nc c0 (nc c1 (nc c2 (nc c3 (nc c4 (nc c5 (nc c6 (nc c7 (nc c8 (nc c9 (nc c10 (nc c11 (nc c12 AllD.nil))))))))))))) (ap (oneF tl) (ap (oneF r21) (oneT r26))))))
                                  · rcases Bool.eq_false_or_eq_true (andB (bt s a 2) 240 == 112) with r31 | r31
                                    · exact C.l3 hP khr28e khr28f khr28t (hx.trans (by simp only [opB, rowB, cond_true, cond_false, c0, c1, c2, c3, c4, c5, c6, c7, c8, c9, c10, c11, c12, tl, r21, r26, r31]; rfl)) (ap (oneF te) (ap (C.p 3) (ap (nc c0 (nc c1 (nc c2 (nc c3 (nc c4 (nc c5 (nc c6 (nc c7 (nc c8 (nc c9 (nc c10 (nc c11 (nc c12 AllD.nil))))))))))))) (ap (oneF tl) (ap (oneF r21) (ap (oneF r26) (ap (oneT r31) (ap (C.t 3) (sg_ok _)))))))))
                                    · rcases Bool.eq_false_or_eq_true (andB (bt s a 2) 248 == 184) with r41 | r41
                                      · exact C.l3 hP khr29e khr29f khr29t (hx.trans (by simp only [opB, rowB, cond_true, cond_false, c0, c1, c2, c3, c4, c5, c6, c7, c8, c9, c10, c11, c12, tl, r21, r26, r31, r41]; rfl)) (ap (oneF te) (ap (C.p 3) (ap (nc c0 (nc c1 (nc c2 (nc c3 (nc c4 (nc c5 (nc c6 (nc c7 (nc c8 (nc c9 (nc c10 (nc c11 (nc c12 AllD.nil))))))))))))) (ap (oneF tl) (ap (oneF r21) (ap (oneF r26) (ap (oneF r31) (ap (oneT r41) (ap (C.t 3) (ap (C.t 4) (ap (C.t 5) (ap (C.t 6) (ap (C.t 7) (ap (C.t 8) (ap (C.t 9) (ap (C.t 10) (sg_ok _)))))))))))))))))
                                      · exact C.l1 hP khr30e (hx.trans (by simp only [opB, rowB, cond_true, cond_false, c0, c1, c2, c3, c4, c5, c6, c7, c8, c9, c10, c11, c12, tl, r21, r26, r31, r41]; rfl)) rfl (ap (oneF te) (ap (C.p 3) (ap (nc c0 (nc c1 (nc c2 (nc c3 (nc c4 (nc c5 (nc c6 (nc c7 (nc c8 (nc c9 (nc c10 (nc c11 (nc c12 AllD.nil))))))))))))) (ap (oneF tl) (ap (oneF r21) (ap (oneF r26) (ap (oneF r31) (oneF r41))))))))
end Go.Proofs.YtokeopmmnpmfeaaDoor.Ex
