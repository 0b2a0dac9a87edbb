/-
  Layer 11: decoding, all ways behind one beginning.
-/
import Derived.Test.YtokeopmmnpmfeaaDoorPackD
import Derived.Test.YtokeopmmnpmfeaaDoorDk4e
import Derived.Test.YtokeopmmnpmfeaaDoorDk4f
namespace Go.Proofs.YtokeopmmnpmfeaaDoor.Ex
set_option maxRecDepth 20000

open Go Go.RowKit
set_option linter.unusedVariables false
set_option linter.unusedSimpArgs false
set_option maxHeartbeats 0
set_option maxRecDepth 1000000
theorem dP_nw {eB : EncB} {eE : EncE} {s : ByteArray} {a : Int} {w : World} (C : Cx eB eE s a w) (th : (bt s a 0 == 102) = false) (tr : (andB (bt s a 0) 240 == 64) = true) (tw : (andB (bt s a 0) 8 != 0) = true) : GoalD eB eE s a w := by
  have hP : AllD (nw.c s a (bt s a)) := (ap C.st (ap (C.p 0) (ap (oneF th) (ap (C.p 0) (ap (oneT tr) (ap (C.t 0) (ap (C.t 1) (oneT tw))))))))
  have h00 : readB (bt s a) = preB (bt s a) false true (bt s a 0) 1 := by
    simp only [readB, rexB, cond_true, cond_false, Nat.reduceAdd, th, tr, tw]
  rcases Bool.eq_false_or_eq_true (bt s a 1 == 15) with te | te
  · have hx : readB (bt s a) = escB (bt s a) false true (bt s a 0) 2 := h00.trans (by simp only [preB, te, cond_true, cond_false, Nat.reduceAdd])
    rcases Bool.eq_false_or_eq_true ((bt s a 2) == 175) with e175 | e175
    · exact C.l3 hP knw31e knw31f knw31t (hx.trans (by simp only [escB, cond_true, cond_false, e175]; rfl)) (ap (oneT te) (ap (C.t 2) (ap (oneT e175) (C.t 3))))
    · rcases Bool.eq_false_or_eq_true ((bt s a 2) == 182) with e182 | e182
      · rcases Bool.eq_false_or_eq_true (Int.tmod (endE (bt s a 0) (bt s a 3)) 8 == 4) with tb | tb
        · exact C.l3 hP knw33e knw33f knw33t (hx.trans (by simp only [escB, xS, xL, dpB, Nat.reduceAdd, cond_true, cond_false, e175, e182, tb]; rfl)) (ap (oneT te) (ap (C.t 2) (ap (nc e175 AllD.nil) (ap (oneT e182) (ap (C.t 3) (ap (oneT tb) (ap (C.t 4) (ap (C.t 5) (ap (C.t 6) (ap (C.t 7) (ap (C.t 8) (sg_ok _))))))))))))
        · exact C.l3 hP knw32e knw32f knw32t (hx.trans (by simp only [escB, xS, xL, dpB, Nat.reduceAdd, cond_true, cond_false, e175, e182, tb]; rfl)) (ap (oneT te) (ap (C.t 2) (ap (nc e175 AllD.nil) (ap (oneT e182) (ap (C.t 3) (ap (oneF tb) (ap (C.t 4) (ap (C.t 5) (ap (C.t 6) (ap (C.t 7) (sg_ok _)))))))))))
      · rcases Bool.eq_false_or_eq_true ((bt s a 2) == 183) with e183 | e183
        · rcases Bool.eq_false_or_eq_true (Int.tmod (endE (bt s a 0) (bt s a 3)) 8 == 4) with tb | tb
          · exact C.l3 hP knw35e knw35f knw35t (hx.trans (by simp only [escB, xS, xL, dpB, Nat.reduceAdd, cond_true, cond_false, e175, e182, e183, tb]; rfl)) (ap (oneT te) (ap (C.t 2) (ap (nc e175 (nc e182 AllD.nil)) (ap (oneT e183) (ap (C.t 3) (ap (oneT tb) (ap (C.t 4) (ap (C.t 5) (ap (C.t 6) (ap (C.t 7) (ap (C.t 8) (sg_ok _))))))))))))
          · exact C.l3 hP knw34e knw34f knw34t (hx.trans (by simp only [escB, xS, xL, dpB, Nat.reduceAdd, cond_true, cond_false, e175, e182, e183, tb]; rfl)) (ap (oneT te) (ap (C.t 2) (ap (nc e175 (nc e182 AllD.nil)) (ap (oneT e183) (ap (C.t 3) (ap (oneF tb) (ap (C.t 4) (ap (C.t 5) (ap (C.t 6) (ap (C.t 7) (sg_ok _)))))))))))
        · rcases Bool.eq_false_or_eq_true ((bt s a 2) == 174) with e174 | e174
          · exact C.l3 hP knw36e knw36f knw36t (hx.trans (by simp only [escB, cond_true, cond_false, e175, e182, e183, e174]; rfl)) (ap (oneT te) (ap (C.t 2) (ap (nc e175 (nc e182 (nc e183 AllD.nil))) (oneT e174))))
          · rcases Bool.eq_false_or_eq_true (andB (bt s a 2) 240 == 128) with ej | ej
            · exact C.l3 hP knw37e knw37f knw37t (hx.trans (by simp only [escB, cond_true, cond_false, e175, e182, e183, e174, ej]; rfl)) (ap (oneT te) (ap (C.t 2) (ap (nc e175 (nc e182 (nc e183 (nc e174 AllD.nil)))) (ap (oneT ej) (ap (C.t 3) (ap (C.t 4) (ap (C.t 5) (ap (C.t 6) (sg_ok _)))))))))
            · exact C.l1 hP knw38e (hx.trans (by simp only [escB, cond_true, cond_false, e175, e182, e183, e174, ej]; rfl)) rfl (ap (oneT te) (ap (C.t 2) (ap (nc e175 (nc e182 (nc e183 (nc e174 AllD.nil)))) (oneF ej))))
  · have hx : readB (bt s a) = opB (bt s a) false true (bt s a 0) 1 := h00.trans (by simp only [preB, te, cond_true, cond_false, Nat.reduceAdd])
    rcases Bool.eq_false_or_eq_true ((bt s a 1) == 137) with c0 | c0
    · rcases Bool.eq_false_or_eq_true (decide ((bt s a 2) < 192)) with tm | tm
      · rcases Bool.eq_false_or_eq_true (Int.tmod (endE (bt s a 0) (bt s a 2)) 8 == 4) with tb | tb
        · exact C.l3 hP knw1e knw1f knw1t (hx.trans (by simp only [opB, xS, xL, dpB, Nat.reduceAdd, cond_true, cond_false, c0, tm, tb]; rfl)) (ap (oneF te) (ap (C.p 2) (ap (oneT tm) (ap (oneT c0) (ap (C.t 2) (ap (oneT tb) (ap (C.t 3) (ap (C.t 4) (ap (C.t 5) (ap (C.t 6) (ap (C.t 7) (sg_ok _))))))))))))
        · exact C.l3 hP knw0e knw0f knw0t (hx.trans (by simp only [opB, xS, xL, dpB, Nat.reduceAdd, cond_true, cond_false, c0, tm, tb]; rfl)) (ap (oneF te) (ap (C.p 2) (ap (oneT tm) (ap (oneT c0) (ap (C.t 2) (ap (oneF tb) (ap (C.t 3) (ap (C.t 4) (ap (C.t 5) (ap (C.t 6) (sg_ok _)))))))))))
      · exact C.l3 hP knw2e knw2f knw2t (hx.trans (by simp only [opB, cond_true, cond_false, c0, tm]; rfl)) (ap (oneF te) (ap (C.p 2) (ap (oneF tm) (ap (oneT c0) (C.t 2)))))
    · rcases Bool.eq_false_or_eq_true ((bt s a 1) == 136) with c1 | c1
      · rcases Bool.eq_false_or_eq_true (Int.tmod (endE (bt s a 0) (bt s a 2)) 8 == 4) with tb | tb
        · exact C.l3 hP knw4e knw4f knw4t (hx.trans (by simp only [opB, xS, xL, dpB, Nat.reduceAdd, cond_true, cond_false, c0, c1, tb]; rfl)) (ap (oneF te) (ap (C.p 2) (ap (nc c0 AllD.nil) (ap (oneT c1) (ap (C.t 2) (ap (oneT tb) (ap (C.t 3) (ap (C.t 4) (ap (C.t 5) (ap (C.t 6) (ap (C.t 7) (sg_ok _))))))))))))
        · exact C.l3 hP knw3e knw3f knw3t (hx.trans (by simp only [opB, xS, xL, dpB, Nat.reduceAdd, cond_true, cond_false, c0, c1, tb]; rfl)) (ap (oneF te) (ap (C.p 2) (ap (nc c0 AllD.nil) (ap (oneT c1) (ap (C.t 2) (ap (oneF tb) (ap (C.t 3) (ap (C.t 4) (ap (C.t 5) (ap (C.t 6) (sg_ok _)))))))))))
      · rcases Bool.eq_false_or_eq_true ((bt s a 1) == 139) with c2 | c2
        · rcases Bool.eq_false_or_eq_true (Int.tmod (endE (bt s a 0) (bt s a 2)) 8 == 4) with tb | tb
          · exact C.l3 hP knw6e knw6f knw6t (hx.trans (by simp only [opB, xS, xL, dpB, Nat.reduceAdd, cond_true, cond_false, c0, c1, c2, tb]; rfl)) (ap (oneF te) (ap (C.p 2) (ap (nc c0 (nc c1 AllD.nil)) (ap (oneT c2) (ap (C.t 2) (ap (oneT tb) (ap (C.t 3) (ap (C.t 4) (ap (C.t 5) (ap (C.t 6) (ap (C.t 7) (sg_ok _))))))))))))
          · exact C.l3 hP knw5e knw5f knw5t (hx.trans (by simp only [opB, xS, xL, dpB, Nat.reduceAdd, cond_true, cond_false, c0, c1, c2, tb]; rfl)) (ap (oneF te) (ap (C.p 2) (ap (nc c0 (nc c1 AllD.nil)) (ap (oneT c2) (ap (C.t 2) (ap (oneF tb) (ap (C.t 3) (ap (C.t 4) (ap (C.t 5) (ap (C.t 6) (sg_ok _)))))))))))
        · rcases Bool.eq_false_or_eq_true ((bt s a 1) == 133) with c3 | c3
          · exact C.l3 hP knw7e knw7f knw7t (hx.trans (by simp only [opB, cond_true, cond_false, c0, c1, c2, c3]; rfl)) (ap (oneF te) (ap (C.p 2) (ap (nc c0 (nc c1 (nc c2 AllD.nil))) (ap (oneT c3) (C.t 2)))))
          · rcases Bool.eq_false_or_eq_true ((bt s a 1) == 129) with c4 | c4
            · exact C.l3 hP knw8e knw8f knw8t (hx.trans (by simp only [opB, cond_true, cond_false, c0, c1, c2, c3, c4]; rfl)) (ap (oneF te) (ap (C.p 2) (ap (nc c0 (nc c1 (nc c2 (nc c3 AllD.nil)))) (ap (oneT c4) (ap (C.t 2) (ap (C.t 3) (ap (C.t 4) (ap (C.t 5) (ap (C.t 6) (sg_ok _))))))))))
            · rcases Bool.eq_false_or_eq_true ((bt s a 1) == 199) with c5 | c5
              · exact C.l3 hP knw9e knw9f knw9t (hx.trans (by simp only [opB, cond_true, cond_false, c0, c1, c2, c3, c4, c5]; rfl)) (ap (oneF te) (ap (C.p 2) (ap (nc c0 (nc c1 (nc c2 (nc c3 (nc c4 AllD.nil))))) (ap (oneT c5) (ap (C.t 2) (ap (C.t 3) (ap (C.t 4) (ap (C.t 5) (ap (C.t 6) (sg_ok _))))))))))
              · rcases Bool.eq_false_or_eq_true ((bt s a 1) == 247) with c6 | c6
                · rcases Bool.eq_false_or_eq_true ((digE (bt s a 2)) == 3) with d3 | d3
                  · exact C.l3 hP knw10e knw10f knw10t (hx.trans (by simp only [opB, cond_true, cond_false, c0, c1, c2, c3, c4, c5, c6, d3]; rfl)) (ap (oneF te) (ap (C.p 2) (ap (nc c0 (nc c1 (nc c2 (nc c3 (nc c4 (nc c5 AllD.nil)))))) (ap (oneT c6) (ap (oneT d3) (C.t 2))))))
                  · rcases Bool.eq_false_or_eq_true ((digE (bt s a 2)) == 4) with d4 | d4
                    · exact C.l3 hP knw11e knw11f knw11t (hx.trans (by simp only [opB, cond_true, cond_false, c0, c1, c2, c3, c4, c5, c6, d3, d4]; rfl)) (ap (oneF te) (ap (C.p 2) (ap (nc c0 (nc c1 (nc c2 (nc c3 (nc c4 (nc c5 AllD.nil)))))) (ap (oneT c6) (ap (oneF d3) (ap (oneT d4) (C.t 2)))))))
                    · rcases Bool.eq_false_or_eq_true ((digE (bt s a 2)) == 6) with d6 | d6
                      · exact C.l3 hP knw12e knw12f knw12t (hx.trans (by simp only [opB, cond_true, cond_false, c0, c1, c2, c3, c4, c5, c6, d3, d4, d6]; rfl)) (ap (oneF te) (ap (C.p 2) (ap (nc c0 (nc c1 (nc c2 (nc c3 (nc c4 (nc c5 AllD.nil)))))) (ap (oneT c6) (ap (oneF d3) (ap (oneF d4) (ap (oneT d6) (C.t 2))))))))
                      · exact C.l1 hP knw13e (hx.trans (by simp only [opB, cond_true, cond_false, c0, c1, c2, c3, c4, c5, c6, d3, d4, d6]; rfl)) rfl (ap (oneF te) (ap (C.p 2) (ap (nc c0 (nc c1 (nc c2 (nc c3 (nc c4 (nc c5 AllD.nil)))))) (ap (oneT c6) (ap (oneF d3) (ap (oneF d4) (oneF d6)))))))
                · rcases Bool.eq_false_or_eq_true ((bt s a 1) == 193) with c7 | c7
                  · exact C.l3 hP knw14e knw14f knw14t (hx.trans (by simp only [opB, cond_true, cond_false, c0, c1, c2, c3, c4, c5, c6, c7]; rfl)) (ap (oneF te) (ap (C.p 2) (ap (nc c0 (nc c1 (nc c2 (nc c3 (nc c4 (nc c5 (nc c6 AllD.nil))))))) (ap (oneT c7) (ap (C.t 2) (ap (C.t 3) (sg_ok _)))))))
                  · rcases Bool.eq_false_or_eq_true ((bt s a 1) == 211) with c8 | c8
                    · exact C.l3 hP knw15e knw15f knw15t (hx.trans (by simp only [opB, cond_true, cond_false, c0, c1, c2, c3, c4, c5, c6, c7, c8]; rfl)) (ap (oneF te) (ap (C.p 2) (ap (nc c0 (nc c1 (nc c2 (nc c3 (nc c4 (nc c5 (nc c6 (nc c7 AllD.nil)))))))) (ap (oneT c8) (C.t 2)))))
                    · rcases Bool.eq_false_or_eq_true ((bt s a 1) == 235) with c9 | c9
                      · exact C.l3 hP knw16e knw16f knw16t (hx.trans (by simp only [opB, cond_true, cond_false, c0, c1, c2, c3, c4, c5, c6, c7, c8, c9]; rfl)) (ap (oneF te) (ap (C.p 2) (ap (nc c0 (nc c1 (nc c2 (nc c3 (nc c4 (nc c5 (nc c6 (nc c7 (nc c8 AllD.nil))))))))) (ap (oneT c9) (ap (C.t 2) (sg_ok _))))))
                      · rcases Bool.eq_false_or_eq_true ((bt s a 1) == 233) with c10 | c10
                        · exact C.l3 hP knw17e knw17f knw17t (hx.trans (by simp only [opB, cond_true, cond_false, c0, c1, c2, c3, c4, c5, c6, c7, c8, c9, c10]; rfl)) (ap (oneF te) (ap (C.p 2) (ap (nc c0 (nc c1 (nc c2 (nc c3 (nc c4 (nc c5 (nc c6 (nc c7 (nc c8 (nc c9 AllD.nil)))))))))) (ap (oneT c10) (ap (C.t 2) (ap (C.t 3) (ap (C.t 4) (ap (C.t 5) (sg_ok _)))))))))
                        · rcases Bool.eq_false_or_eq_true ((bt s a 1) == 232) with c11 | c11
                          · exact C.l3 hP knw18e knw18f knw18t (hx.trans (by simp only [opB, cond_true, cond_false, c0, c1, c2, c3, c4, c5, c6, c7, c8, c9, c10, c11]; rfl)) (ap (oneF te) (ap (C.p 2) (ap (nc c0 (nc c1 (nc c2 (nc c3 (nc c4 (nc c5 (nc c6 (nc c7 (nc c8 (nc c9 (nc c10 AllD.nil))))))))))) (ap (oneT c11) (ap (C.t 2) (ap (C.t 3) (ap (C.t 4) (ap (C.t 5) (sg_ok _)))))))))
                          · rcases Bool.eq_false_or_eq_true ((bt s a 1) == 195) with c12 | c12
                            · exact C.l3 hP knw19e knw19f knw19t (hx.trans (by simp only [opB, cond_true, cond_false, c0, c1, c2, c3, c4, c5, c6, c7, c8, c9, c10, c11, c12]; rfl)) (ap (oneF te) (ap (C.p 2) (ap (nc c0 (nc c1 (nc c2 (nc c3 (nc c4 (nc c5 (nc c6 (nc c7 (nc c8 (nc c9 (nc c10 (nc c11 AllD.nil)))))))))))) (oneT c12))))
                            · rcases Bool.eq_false_or_eq_true (decide ((bt s a 1) < 64)) with tl | tl
                              · rcases Bool.eq_false_or_eq_true (Int.tmod (bt s a 1) 8 == 1) with ta | ta
                                · exact C.l3 hP knw20e knw20f knw20t (hx.trans (by simp only [opB, cond_true, cond_false, c0, c1, c2, c3, c4, c5, c6, c7, c8, c9, c10, c11, c12, tl, ta]; rfl)) (ap (oneF te) (ap (C.p 2) (ap (nc c0 (nc c1 (nc c2 (nc c3 (nc c4 (nc c5 (nc c6 (nc c7 (nc c8 (nc c9 (nc c10 (nc c11 (nc c12 AllD.nil))))))))))))) (ap (oneT tl) (ap (oneT ta) (C.t 2))))))
                                · rcases Bool.eq_false_or_eq_true (andB (bt s a 1) 248 == 80) with r21 | r21
                                  · exact C.l3 hP knw21e knw21f knw21t (hx.trans (by simp only [opB, rowB, cond_true, cond_false, c0, c1, c2, c3, c4, c5, c6, c7, c8, c9, c10, c11, c12, tl, ta, r21]; rfl)) (ap (oneF te) (ap (C.p 2) (ap (nc c0 (nc c1 (nc c2 (nc c3 (nc c4 (nc c5 (nc c6 (nc c7 (nc c8 (nc c9 (nc c10 (nc c11 (nc c12 AllD.nil))))))))))))) (ap (oneT tl) (ap (oneF ta) (oneT r21))))))
                                  · rcases Bool.eq_false_or_eq_true (andB (bt s a 1) 248 == 88) with r26 | r26
                                    · exact C.l3 hP knw22e knw22f knw22t (hx.trans (by simp only [opB, rowB, cond_true, cond_false, c0, c1, c2, c3, c4, c5, c6, c7, c8, c9, c10, c11, c12, tl, ta, r21, r26]; rfl)) (ap (oneF te) (ap (C.p 2) (ap (nc c0 (nc c1 (nc c2 (nc c3 (nc c4 (nc c5 (nc c6 (nc c7 (nc c8 (nc c9 (nc c10 (nc c11 (nc c12 AllD.nil))))))))))))) (ap (oneT tl) (ap (oneF ta) (ap (oneF r21) (oneT r26)))))))
                                    · rcases Bool.eq_false_or_eq_true (andB (bt s a 1) 240 == 112) with r31 | r31
                                      · exact C.l3 hP knw23e knw23f knw23t (hx.trans (by simp only [opB, rowB, cond_true, cond_false, c0, c1, c2, c3, c4, c5, c6, c7, c8, c9, c10, c11, c12, tl, ta, r21, r26, r31]; rfl)) (ap (oneF te) (ap (C.p 2) (ap (nc c0 (nc c1 (nc c2 (nc c3 (nc c4 (nc c5 (nc c6 (nc c7 (nc c8 (nc c9 (nc c10 (nc c11 (nc c12 AllD.nil))))))))))))) (ap (oneT tl) (ap (oneF ta) (ap (oneF r21) (ap (oneF r26) (ap (oneT r31) (ap (C.t 2) (sg_ok _))))))))))
                                      · rcases Bool.eq_false_or_eq_true (andB (bt s a 1) 248 == 184) with r41 | r41
                                        · exact C.l3 hP knw24e knw24f knw24t (hx.trans (by simp only [opB, rowB, cond_true, cond_false, c0, c1, c2, c3, c4, c5, c6, c7, c8, c9, c10, c11, c12, tl, ta, r21, r26, r31, r41]; rfl)) (ap (oneF te) (ap (C.p 2) (ap (nc c0 (nc c1 (nc c2 (nc c3 (nc c4 (nc c5 (nc c6 (nc c7 (nc c8 (nc c9 (nc c10 (nc c11 (nc c12 AllD.nil))))))))))))) (ap (oneT tl) (ap (oneF ta) (ap (oneF r21) (ap (oneF r26) (ap (oneF r31) (ap (oneT r41) (ap (C.t 2) (ap (C.t 3) (ap (C.t 4) (ap (C.t 5) (ap (C.t 6) (ap (C.t 7) (ap (C.t 8) (ap (C.t 9) (sg_ok _))))))))))))))))))
                                        · exact C.l1 hP knw25e (hx.trans (by simp only [opB, rowB, cond_true, cond_false, c0, c1, c2, c3, c4, c5, c6, c7, c8, c9, c10, c11, c12, tl, ta, r21, r26, r31, r41]; rfl)) rfl (ap (oneF te) (ap (C.p 2) (ap (nc c0 (nc c1 (nc c2 (nc c3 (nc c4 (nc c5 (nc c6 (nc c7 (nc c8 (nc c9 (nc c10 (nc c11 (nc c12 AllD.nil))))))))))))) (ap (oneT tl) (ap (oneF ta) (ap (oneF r21) (ap (oneF r26) (ap (oneF r31) (oneF r41)))))))))
                              · rcases Bool.eq_false_or_eq_true (andB (bt s a 1) 248 == 80) with r21 | r21
                                · exact C.l3 hP knw26e knw26f knw26t (hx.trans (by simp only [opB, rowB, cond_true, cond_false, c0, c1, c2, c3, c4, c5, c6, c7, c8, c9, c10, c11, c12, tl, r21]; rfl)) (ap (oneF te) (ap (C.p 2) (ap (nc c0 (nc c1 (nc c2 (nc c3 (nc c4 (nc c5 (nc c6 (nc c7 (nc c8 (nc c9 (nc c10 (nc c11 (nc c12 AllD.nil))))))))))))) (ap (oneF tl) (oneT r21)))))
                                · rcases Bool.eq_false_or_eq_true (andB (bt s a 1) 248 == 88) with r26 | r26
                                  · exact C.l3 hP knw27e knw27f knw27t (hx.trans (by simp only [opB, rowB, cond_true, cond_false, c0, c1, c2, c3, c4, c5, c6, c7, c8, c9, c10, c11, c12, tl, r21, r26]; rfl)) (ap (oneF te) (ap (C.p 2) (ap (nc c0 (nc c1 (nc c2 (nc c3 (nc c4 (nc c5 (nc c6 (nc c7 (nc c8 (nc c9 (nc c10 (nc c11 (nc c12 AllD.nil))))))))))))) (ap (oneF tl) (ap (oneF r21) (oneT r26))))))
                                  · rcases Bool.eq_false_or_eq_true (andB (bt s a 1) 240 == 112) with r31 | r31
                                    · exact C.l3 hP knw28e knw28f knw28t (hx.trans (by simp only [opB, rowB, cond_true, cond_false, c0, c1, c2, c3, c4, c5, c6, c7, c8, c9, c10, c11, c12, tl, r21, r26, r31]; rfl)) (ap (oneF te) (ap (C.p 2) (ap (nc c0 (nc c1 (nc c2 (nc c3 (nc c4 (nc c5 (nc c6 (nc c7 (nc c8 (nc c9 (nc c10 (nc c11 (nc c12 AllD.nil))))))))))))) (ap (oneF tl) (ap (oneF r21) (ap (oneF r26) (ap (oneT r31) (ap (C.t 2) (sg_ok _)))))))))
                                    · rcases Bool.eq_false_or_eq_true (andB (bt s a 1) 248 == 184) with r41 | r41
                                      · exact C.l3 hP knw29e knw29f knw29t (hx.trans (by simp only [opB, rowB, cond_true, cond_false, c0, c1, c2, c3, c4, c5, c6, c7, c8, c9, c10, c11, c12, tl, r21, r26, r31, r41]; rfl)) (ap (oneF te) (ap (C.p 2) (ap (nc c0 (nc c1 (nc c2 (nc c3 (nc c4 (nc c5 (nc c6 (nc c7 (nc c8 (nc c9 (nc c10 (nc c11 (nc c12 AllD.nil))))))))))))) (ap (oneF tl) (ap (oneF r21) (ap (oneF r26) (ap (oneF r31) (ap (oneT r41) (ap (C.t 2) (ap (C.t 3) (ap (C.t 4) (ap (C.t 5) (ap (C.t 6) (ap (C.t 7) (ap (C.t 8) (ap (C.t 9) (sg_ok _)))))))))))))))))
                                      · exact C.l1 hP knw30e (hx.trans (by simp only [opB, rowB, cond_true, cond_false, c0, c1, c2, c3, c4, c5, c6, c7, c8, c9, c10, c11, c12, tl, r21, r26, r31, r41]; rfl)) rfl (ap (oneF te) (ap (C.p 2) (ap (nc c0 (nc c1 (nc c2 (nc c3 (nc c4 (nc c5 (nc c6 (nc c7 (nc c8 (nc c9 (nc c10 (nc c11 (nc c12 AllD.nil))))))))))))) (ap (oneF tl) (ap (oneF r21) (ap (oneF r26) (ap (oneF r31) (oneF r41))))))))
end Go.Proofs.YtokeopmmnpmfeaaDoor.Ex
