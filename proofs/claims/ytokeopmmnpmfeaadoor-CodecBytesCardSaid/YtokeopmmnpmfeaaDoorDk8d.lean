/-
  Layer 11: decoding, all ways behind one beginning.
-/
import Derived.Test.YtokeopmmnpmfeaaDoorPackD
import Derived.Test.YtokeopmmnpmfeaaDoorDk4g
import Derived.Test.YtokeopmmnpmfeaaDoorDk4h
namespace Go.Proofs.YtokeopmmnpmfeaaDoor.Ex
set_option maxRecDepth 20000

open Go Go.RowKit
set_option linter.unusedVariables false
set_option linter.unusedSimpArgs false
set_option maxHeartbeats 0
set_option maxRecDepth 1000000
theorem dP_h0 {eB : EncB} {eE : EncE} {s : ByteArray} {a : Int} {w : World} (C : Cx eB eE s a w) (th : (bt s a 0 == 102) = true) (tr : (andB (bt s a 1) 240 == 64) = false) : GoalD eB eE s a w := by
  have hP : AllD (h0.c s a (bt s a)) := (ap C.st (ap (C.p 0) (ap (oneT th) (ap (C.t 0) (ap (C.p 1) (ap (oneF tr) (ap (C.t 1) (oneF rex0))))))))
  have h00 : readB (bt s a) = preB (bt s a) true false 0 1 := by
    simp only [readB, rexB, cond_true, cond_false, Nat.reduceAdd, th, tr]
  rcases Bool.eq_false_or_eq_true (bt s a 1 == 15) with te | te
  · have hx : readB (bt s a) = escB (bt s a) true false 0 2 := h00.trans (by simp only [preB, te, cond_true, cond_false, Nat.reduceAdd])
    rcases Bool.eq_false_or_eq_true ((bt s a 2) == 175) with e175 | e175
    · exact C.l3 hP kh031e kh031f kh031t (hx.trans (by simp only [escB, cond_true, cond_false, e175]; rfl)) (ap (oneT te) (ap (C.t 2) (ap (oneT e175) (C.t 3))))
    · rcases Bool.eq_false_or_eq_true ((bt s a 2) == 182) with e182 | e182
      · rcases Bool.eq_false_or_eq_true (Int.tmod (endE 0 (bt s a 3)) 8 == 4) with tb | tb
        · exact C.l3 hP kh033e kh033f kh033t (hx.trans (by simp only [escB, xS, xL, dpB, Nat.reduceAdd, cond_true, cond_false, e175, e182, tb]; rfl)) (ap (oneT te) (ap (C.t 2) (ap (nc e175 AllD.nil) (ap (oneT e182) (ap (C.t 3) (ap (oneT tb) (ap (C.t 4) (ap (C.t 5) (ap (C.t 6) (ap (C.t 7) (ap (C.t 8) (sg_ok _))))))))))))
        · exact C.l3 hP kh032e kh032f kh032t (hx.trans (by simp only [escB, xS, xL, dpB, Nat.reduceAdd, cond_true, cond_false, e175, e182, tb]; rfl)) (ap (oneT te) (ap (C.t 2) (ap (nc e175 AllD.nil) (ap (oneT e182) (ap (C.t 3) (ap (oneF tb) (ap (C.t 4) (ap (C.t 5) (ap (C.t 6) (ap (C.t 7) (sg_ok _)))))))))))
      · rcases Bool.eq_false_or_eq_true ((bt s a 2) == 183) with e183 | e183
        · rcases Bool.eq_false_or_eq_true (Int.tmod (endE 0 (bt s a 3)) 8 == 4) with tb | tb
          · exact C.l3 hP kh035e kh035f kh035t (hx.trans (by simp only [escB, xS, xL, dpB, Nat.reduceAdd, cond_true, cond_false, e175, e182, e183, tb]; rfl)) (ap (oneT te) (ap (C.t 2) (ap (nc e175 (nc e182 AllD.nil)) (ap (oneT e183) (ap (C.t 3) (ap (oneT tb) (ap (C.t 4) (ap (C.t 5) (ap (C.t 6) (ap (C.t 7) (ap (C.t 8) (sg_ok _))))))))))))
          · exact C.l3 hP kh034e kh034f kh034t (hx.trans (by simp only [escB, xS, xL, dpB, Nat.reduceAdd, cond_true, cond_false, e175, e182, e183, tb]; rfl)) (ap (oneT te) (ap (C.t 2) (ap (nc e175 (nc e182 AllD.nil)) (ap (oneT e183) (ap (C.t 3) (ap (oneF tb) (ap (C.t 4) (ap (C.t 5) (ap (C.t 6) (ap (C.t 7) (sg_ok _)))))))))))
        · rcases Bool.eq_false_or_eq_true ((bt s a 2) == 174) with e174 | e174
          · exact C.l3 hP kh036e kh036f kh036t (hx.trans (by simp only [escB, cond_true, cond_false, e175, e182, e183, e174]; rfl)) (ap (oneT te) (ap (C.t 2) (ap (nc e175 (nc e182 (nc e183 AllD.nil))) (oneT e174))))
          · rcases Bool.eq_false_or_eq_true (andB (bt s a 2) 240 == 128) with ej | ej
            · exact C.l3 hP kh037e kh037f kh037t (hx.trans (by simp only [escB, cond_true, cond_false, e175, e182, e183, e174, ej]; rfl)) (ap (oneT te) (ap (C.t 2) (ap (nc e175 (nc e182 (nc e183 (nc e174 AllD.nil)))) (ap (oneT ej) (ap (C.t 3) (ap (C.t 4) (ap (C.t 5) (ap (C.t 6) (sg_ok _)))))))))
            · exact C.l1 hP kh038e (hx.trans (by simp only [escB, cond_true, cond_false, e175, e182, e183, e174, ej]; rfl)) rfl (ap (oneT te) (ap (C.t 2) (ap (nc e175 (nc e182 (nc e183 (nc e174 AllD.nil)))) (oneF ej))))
  · have hx : readB (bt s a) = opB (bt s a) true false 0 1 := h00.trans (by simp only [preB, te, cond_true, cond_false, Nat.reduceAdd])
    rcases Bool.eq_false_or_eq_true ((bt s a 1) == 137) with c0 | c0
    · rcases Bool.eq_false_or_eq_true (decide ((bt s a 2) < 192)) with tm | tm
      · rcases Bool.eq_false_or_eq_true (Int.tmod (endE 0 (bt s a 2)) 8 == 4) with tb | tb
        · exact C.l3 hP kh01e kh01f kh01t (hx.trans (by simp only [opB, xS, xL, dpB, Nat.reduceAdd, cond_true, cond_false, c0, tm, tb]; rfl)) (ap (oneF te) (ap (C.p 2) (ap (oneT tm) (ap (oneT c0) (ap (C.t 2) (ap (oneT tb) (ap (C.t 3) (ap (C.t 4) (ap (C.t 5) (ap (C.t 6) (ap (C.t 7) (sg_ok _))))))))))))
        · exact C.l3 hP kh00e kh00f kh00t (hx.trans (by simp only [opB, xS, xL, dpB, Nat.reduceAdd, cond_true, cond_false, c0, tm, tb]; rfl)) (ap (oneF te) (ap (C.p 2) (ap (oneT tm) (ap (oneT c0) (ap (C.t 2) (ap (oneF tb) (ap (C.t 3) (ap (C.t 4) (ap (C.t 5) (ap (C.t 6) (sg_ok _)))))))))))
      · exact C.l3 hP kh02e kh02f kh02t (hx.trans (by simp only [opB, cond_true, cond_false, c0, tm]; rfl)) (ap (oneF te) (ap (C.p 2) (ap (oneF tm) (ap (oneT c0) (C.t 2)))))
    · rcases Bool.eq_false_or_eq_true ((bt s a 1) == 136) with c1 | c1
      · rcases Bool.eq_false_or_eq_true (Int.tmod (endE 0 (bt s a 2)) 8 == 4) with tb | tb
        · exact C.l3 hP kh04e kh04f kh04t (hx.trans (by simp only [opB, xS, xL, dpB, Nat.reduceAdd, cond_true, cond_false, c0, c1, tb]; rfl)) (ap (oneF te) (ap (C.p 2) (ap (nc c0 AllD.nil) (ap (oneT c1) (ap (C.t 2) (ap (oneT tb) (ap (C.t 3) (ap (C.t 4) (ap (C.t 5) (ap (C.t 6) (ap (C.t 7) (sg_ok _))))))))))))
        · exact C.l3 hP kh03e kh03f kh03t (hx.trans (by simp only [opB, xS, xL, dpB, Nat.reduceAdd, cond_true, cond_false, c0, c1, tb]; rfl)) (ap (oneF te) (ap (C.p 2) (ap (nc c0 AllD.nil) (ap (oneT c1) (ap (C.t 2) (ap (oneF tb) (ap (C.t 3) (ap (C.t 4) (ap (C.t 5) (ap (C.t 6) (sg_ok _)))))))))))
      · rcases Bool.eq_false_or_eq_true ((bt s a 1) == 139) with c2 | c2
        · rcases Bool.eq_false_or_eq_true (Int.tmod (endE 0 (bt s a 2)) 8 == 4) with tb | tb
          · exact C.l3 hP kh06e kh06f kh06t (hx.trans (by simp only [opB, xS, xL, dpB, Nat.reduceAdd, cond_true, cond_false, c0, c1, c2, tb]; rfl)) (ap (oneF te) (ap (C.p 2) (ap (nc c0 (nc c1 AllD.nil)) (ap (oneT c2) (ap (C.t 2) (ap (oneT tb) (ap (C.t 3) (ap (C.t 4) (ap (C.t 5) (ap (C.t 6) (ap (C.t 7) (sg_ok _))))))))))))
          · exact C.l3 hP kh05e kh05f kh05t (hx.trans (by simp only [opB, xS, xL, dpB, Nat.reduceAdd, cond_true, cond_false, c0, c1, c2, tb]; rfl)) (ap (oneF te) (ap (C.p 2) (ap (nc c0 (nc c1 AllD.nil)) (ap (oneT c2) (ap (C.t 2) (ap (oneF tb) (ap (C.t 3) (ap (C.t 4) (ap (C.t 5) (ap (C.t 6) (sg_ok _)))))))))))
        · rcases Bool.eq_false_or_eq_true ((bt s a 1) == 133) with c3 | c3
          · exact C.l3 hP kh07e kh07f kh07t (hx.trans (by simp only [opB, cond_true, cond_false, c0, c1, c2, c3]; rfl)) (ap (oneF te) (ap (C.p 2) (ap (nc c0 (nc c1 (nc c2 AllD.nil))) (ap (oneT c3) (C.t 2)))))
          · rcases Bool.eq_false_or_eq_true ((bt s a 1) == 129) with c4 | c4
            · exact C.l3 hP kh08e kh08f kh08t (hx.trans (by simp only [opB, cond_true, cond_false, c0, c1, c2, c3, c4]; rfl)) (ap (oneF te) (ap (C.p 2) (ap (nc c0 (nc c1 (nc c2 (nc c3 AllD.nil)))) (ap (oneT c4) (ap (C.t 2) (ap (C.t 3) (ap (C.t 4) (ap (C.t 5) (ap (C.t 6) (sg_ok _))))))))))
            · rcases Bool.eq_false_or_eq_true ((bt s a 1) == 199) with c5 | c5
              · exact C.l3 hP kh09e kh09f kh09t (hx.trans (by simp only [opB, cond_true, cond_false, c0, c1, c2, c3, c4, c5]; rfl)) (ap (oneF te) (ap (C.p 2) (ap (nc c0 (nc c1 (nc c2 (nc c3 (nc c4 AllD.nil))))) (ap (oneT c5) (ap (C.t 2) (ap (C.t 3) (ap (C.t 4) (ap (C.t 5) (ap (C.t 6) (sg_ok _))))))))))
              · rcases Bool.eq_false_or_eq_true ((bt s a 1) == 247) with c6 | c6
                · rcases Bool.eq_false_or_eq_true ((digE (bt s a 2)) == 3) with d3 | d3
                  · exact C.l3 hP kh010e kh010f kh010t (hx.trans (by simp only [opB, cond_true, cond_false, c0, c1, c2, c3, c4, c5, c6, d3]; rfl)) (ap (oneF te) (ap (C.p 2) (ap (nc c0 (nc c1 (nc c2 (nc c3 (nc c4 (nc c5 AllD.nil)))))) (ap (oneT c6) (ap (oneT d3) (C.t 2))))))
                  · rcases Bool.eq_false_or_eq_true ((digE (bt s a 2)) == 4) with d4 | d4
                    · exact C.l3 hP kh011e kh011f kh011t (hx.trans (by simp only [opB, cond_true, cond_false, c0, c1, c2, c3, c4, c5, c6, d3, d4]; rfl)) (ap (oneF te) (ap (C.p 2) (ap (nc c0 (nc c1 (nc c2 (nc c3 (nc c4 (nc c5 AllD.nil)))))) (ap (oneT c6) (ap (oneF d3) (ap (oneT d4) (C.t 2)))))))
                    · rcases Bool.eq_false_or_eq_true ((digE (bt s a 2)) == 6) with d6 | d6
                      · exact C.l3 hP kh012e kh012f kh012t (hx.trans (by simp only [opB, cond_true, cond_false, c0, c1, c2, c3, c4, c5, c6, d3, d4, d6]; rfl)) (ap (oneF te) (ap (C.p 2) (ap (nc c0 (nc c1 (nc c2 (nc c3 (nc c4 (nc c5 AllD.nil)))))) (ap (oneT c6) (ap (oneF d3) (ap (oneF d4) (ap (oneT d6) (C.t 2))))))))
                      · exact C.l1 hP kh013e (hx.trans (by simp only [opB, cond_true, cond_false, c0, c1, c2, c3, c4, c5, c6, d3, d4, d6]; rfl)) rfl (ap (oneF te) (ap (C.p 2) (ap (nc c0 (nc c1 (nc c2 (nc c3 (nc c4 (nc c5 AllD.nil)))))) (ap (oneT c6) (ap (oneF d3) (ap (oneF d4) (oneF d6)))))))
                · rcases Bool.eq_false_or_eq_true ((bt s a 1) == 193) with c7 | c7
                  · exact C.l3 hP kh014e kh014f kh014t (hx.trans (by simp only [opB, cond_true, cond_false, c0, c1, c2, c3, c4, c5, c6, c7]; rfl)) (ap (oneF te) (ap (C.p 2) (ap (nc c0 (nc c1 (nc c2 (nc c3 (nc c4 (nc c5 (nc c6 AllD.nil))))))) (ap (oneT c7) (ap (C.t 2) (ap (C.t 3) (sg_ok _)))))))
                  · rcases Bool.eq_false_or_eq_true ((bt s a 1) == 211) with c8 | c8
                    · exact C.l3 hP kh015e kh015f kh015t (hx.trans (by simp only [opB, cond_true, cond_false, c0, c1, c2, c3, c4, c5, c6, c7, c8]; rfl)) (ap (oneF te) (ap (C.p 2) (ap (nc c0 (nc c1 (nc c2 (nc c3 (nc c4 (nc c5 (nc c6 (nc c7 AllD.nil)))))))) (ap (oneT c8) (C.t 2)))))
                    · rcases Bool.eq_false_or_eq_true ((bt s a 1) == 235) with c9 | c9
                      · exact C.l3 hP kh016e kh016f kh016t (hx.trans (by simp only [opB, cond_true, cond_false, c0, c1, c2, c3, c4, c5, c6, c7, c8, c9]; rfl)) (ap (oneF te) (ap (C.p 2) (ap (nc c0 (nc c1 (nc c2 (nc c3 (nc c4 (nc c5 (nc c6 (nc c7 (nc c8 AllD.nil))))))))) (ap (oneT c9) (ap (C.t 2) (sg_ok _))))))
                      · rcases Bool.eq_false_or_eq_true ((bt s a 1) == 233) with c10 | c10
                        · exact C.l3 hP kh017e kh017f kh017t (hx.trans (by simp only [opB, cond_true, cond_false, c0, c1, c2, c3, c4, c5, c6, c7, c8, c9, c10]; rfl)) (ap (oneF te) (ap (C.p 2) (ap (nc c0 (nc c1 (nc c2 (nc c3 (nc c4 (nc c5 (nc c6 (nc c7 (nc c8 (nc c9 AllD.nil)))))))))) (ap (oneT c10) (ap (C.t 2) (ap (C.t 3) (ap (C.t 4) (ap (C.t 5) (sg_ok _)))))))))
                        · rcases Bool.eq_false_or_eq_true ((bt s a 1) == 232) with c11 | c11
                          · exact C.l3 hP kh018e kh018f kh018t (hx.trans (by simp only [opB, cond_true, cond_false, c0, c1, c2, c3, c4, c5, c6, c7, c8, c9, c10, c11]; rfl)) (ap (oneF te) (ap (C.p 2) (ap (nc c0 (nc c1 (nc c2 (nc c3 (nc c4 (nc c5 (nc c6 (nc c7 (nc c8 (nc c9 (nc c10 AllD.nil))))))))))) (ap (oneT c11) (ap (C.t 2) (ap (C.t 3) (ap (C.t 4) (ap (C.t 5) (sg_ok _)))))))))
                          · rcases Bool.eq_false_or_eq_true ((bt s a 1) == 195) with c12 | c12
                            · exact C.l3 hP kh019e kh019f kh019t (hx.trans (by simp only [opB, cond_true, cond_false, c0, c1, c2, c3, c4, c5, c6, c7, c8, c9, c10, c11, c12]; rfl)) (ap (oneF te) (ap (C.p 2) (ap (nc c0 (nc c1 (nc c2 (nc c3 (nc c4 (nc c5 (nc c6 (nc c7 (nc c8 (nc c9 (nc c10 (nc c11 AllD.nil)))))))))))) (oneT c12))))
                            · rcases Bool.eq_false_or_eq_true (decide ((bt s a 1) < 64)) with tl | tl
                              · rcases Bool.eq_false_or_eq_true (Int.tmod (bt s a 1) 8 == 1) with ta | ta
                                · exact C.l3 hP kh020e kh020f kh020t (hx.trans (by simp only [opB, cond_true, cond_false, c0, c1, c2, c3, c4, c5, c6, c7, c8, c9, c10, c11, c12, tl, ta]; rfl)) (ap (oneF te) (ap (C.p 2) (ap (nc c0 (nc c1 (nc c2 (nc c3 (nc c4 (nc c5 (nc c6 (nc c7 (nc c8 (nc c9 (nc c10 (nc c11 (nc c12 AllD.nil))))))))))))) (ap (oneT tl) (ap (oneT ta) (C.t 2))))))
                                · rcases Bool.eq_false_or_eq_true (andB (bt s a 1) 248 == 80) with r21 | r21
                                  · exact C.l3 hP kh021e kh021f kh021t (hx.trans (by simp only [opB, rowB, cond_true, cond_false, c0, c1, c2, c3, c4, c5, c6, c7, c8, c9, c10, c11, c12, tl, ta, r21]; rfl)) (ap (oneF te) (ap (C.p 2) (ap (nc c0 (nc c1 (nc c2 (nc c3 (nc c4 (nc c5 (nc c6 (nc c7 (nc c8 (nc c9 (nc c10 (nc c11 (nc c12 AllD.nil))))))))))))) (ap (oneT tl) (ap (oneF ta) (oneT r21))))))
                                  · rcases Bool.eq_false_or_eq_true (andB (bt s a 1) 248 == 88) with r26 | r26
                                    · exact C.l3 hP kh022e kh022f kh022t (hx.trans (by simp only [opB, rowB, cond_true, cond_false, c0, c1, c2, c3, c4, c5, c6, c7, c8, c9, c10, c11, c12, tl, ta, r21, r26]; rfl)) (ap (oneF te) (ap (C.p 2) (ap (nc c0 (nc c1 (nc c2 (nc c3 (nc c4 (nc c5 (nc c6 (nc c7 (nc c8 (nc c9 (nc c10 (nc c11 (nc c12 AllD.nil))))))))))))) (ap (oneT tl) (ap (oneF ta) (ap (oneF r21) (oneT r26)))))))
                                    · rcases Bool.eq_false_or_eq_true (andB (bt s a 1) 240 == 112) with r31 | r31
                                      · exact C.l3 hP kh023e kh023f kh023t (hx.trans (by simp only [opB, rowB, cond_true, cond_false, c0, c1, c2, c3, c4, c5, c6, c7, c8, c9, c10, c11, c12, tl, ta, r21, r26, r31]; rfl)) (ap (oneF te) (ap (C.p 2) (ap (nc c0 (nc c1 (nc c2 (nc c3 (nc c4 (nc c5 (nc c6 (nc c7 (nc c8 (nc c9 (nc c10 (nc c11 (nc c12 AllD.nil))))))))))))) (ap (oneT tl) (ap (oneF ta) (ap (oneF r21) (ap (oneF r26) (ap (oneT r31) (ap (C.t 2) (sg_ok _))))))))))
                                      · rcases Bool.eq_false_or_eq_true (andB (bt s a 1) 248 == 184) with r41 | r41
                                        · exact C.l3 hP kh024e kh024f kh024t (hx.trans (by simp only [opB, rowB, cond_true, cond_false, c0, c1, c2, c3, c4, c5, c6, c7, c8, c9, c10, c11, c12, tl, ta, r21, r26, r31, r41]; rfl)) (ap (oneF te) (ap (C.p 2) (ap (nc c0 (nc c1 (nc c2 (nc c3 (nc c4 (nc c5 (nc c6 (nc c7 (nc c8 (nc c9 (nc c10 (nc c11 (nc c12 AllD.nil))))))))))))) (ap (oneT tl) (ap (oneF ta) (ap (oneF r21) (ap (oneF r26) (ap (oneF r31) (ap (oneT r41) (ap (C.t 2) (ap (C.t 3) (ap (C.t 4) (ap (C.t 5) (ap (C.t 6) (ap (C.t 7) (ap (C.t 8) (ap (C.t 9) (sg_ok _))))))))))))))))))
                                        · exact C.l1 hP kh025e (hx.trans (by simp only [opB, rowB, cond_true, cond_false, c0, c1, c2, c3, c4, c5, c6, c7, c8, c9, c10, c11, c12, tl, ta, r21, r26, r31, r41]; rfl)) rfl (ap (oneF te) (ap (C.p 2) (ap (nc c0 (nc c1 (nc c2 (nc c3 (nc c4 (nc c5 (nc c6 (nc c7 (nc c8 (nc c9 (nc c10 (nc c11 (nc c12 AllD.nil))))))))))))) (ap (oneT tl) (ap (oneF ta) (ap (oneF r21) (ap (oneF r26) (ap (oneF r31) (oneF r41)))))))))
                              · rcases Bool.eq_false_or_eq_true (andB (bt s a 1) 248 == 80) with r21 | r21
                                · exact C.l3 hP kh026e kh026f kh026t (hx.trans (by simp only [opB, rowB, cond_true, cond_false, c0, c1, c2, c3, c4, c5, c6, c7, c8, c9, c10, c11, c12, tl, r21]; rfl)) (ap (oneF te) (ap (C.p 2) (ap (nc c0 (nc c1 (nc c2 (nc c3 (nc c4 (nc c5 (nc c6 (nc c7 (nc c8 (nc c9 (nc c10 (nc c11 (nc c12 AllD.nil))))))))))))) (ap (oneF tl) (oneT r21)))))
                                · rcases Bool.eq_false_or_eq_true (andB (bt s a 1) 248 == 88) with r26 | r26
                                  · exact C.l3 hP kh027e kh027f kh027t (hx.trans (by simp only [opB, rowB, cond_true, cond_false, c0, c1, c2, c3, c4, c5, c6, c7, c8, c9, c10, c11, c12, tl, r21, r26]; rfl)) (ap (oneF te) (ap (C.p 2) (ap (nc c0 (nc c1 (nc c2 (nc c3 (nc c4 (nc c5 (nc c6 (nc c7 (nc c8 (nc c9 (nc c10 (nc c11 (nc c12 AllD.nil))))))))))))) (ap (oneF tl) (ap (oneF r21) (oneT r26))))))
                                  · rcases Bool.eq_false_or_eq_true (andB (bt s a 1) 240 == 112) with r31 | r31
                                    · exact C.l3 hP kh028e kh028f kh028t (hx.trans (by simp only [opB, rowB, cond_true, cond_false, c0, c1, c2, c3, c4, c5, c6, c7, c8, c9, c10, c11, c12, tl, r21, r26, r31]; rfl)) (ap (oneF te) (ap (C.p 2) (ap (nc c0 (nc c1 (nc c2 (nc c3 (nc c4 (nc c5 (nc c6 (nc c7 (nc c8 (nc c9 (nc c10 (nc c11 (nc c12 AllD.nil))))))))))))) (ap (oneF tl) (ap (oneF r21) (ap (oneF r26) (ap (oneT r31) (ap (C.t 2) (sg_ok _)))))))))
                                    · rcases Bool.eq_false_or_eq_true (andB (bt s a 1) 248 == 184) with r41 | r41
                                      · exact C.l3 hP kh029e kh029f kh029t (hx.trans (by simp only [opB, rowB, cond_true, cond_false, c0, c1, c2, c3, c4, c5, c6, c7, c8, c9, c10, c11, c12, tl, r21, r26, r31, r41]; rfl)) (ap (oneF te) (ap (C.p 2) (ap (nc c0 (nc c1 (nc c2 (nc c3 (nc c4 (nc c5 (nc c6 (nc c7 (nc c8 (nc c9 (nc c10 (nc c11 (nc c12 AllD.nil))))))))))))) (ap (oneF tl) (ap (oneF r21) (ap (oneF r26) (ap (oneF r31) (ap (oneT r41) (ap (C.t 2) (ap (C.t 3) (ap (C.t 4) (ap (C.t 5) (ap (C.t 6) (ap (C.t 7) (ap (C.t 8) (ap (C.t 9) (sg_ok _)))))))))))))))))
                                      · exact C.l1 hP kh030e (hx.trans (by simp only [opB, rowB, cond_true, cond_false, c0, c1, c2, c3, c4, c5, c6, c7, c8, c9, c10, c11, c12, tl, r21, r26, r31, r41]; rfl)) rfl (ap (oneF te) (ap (C.p 2) (ap (nc c0 (nc c1 (nc c2 (nc c3 (nc c4 (nc c5 (nc c6 (nc c7 (nc c8 (nc c9 (nc c10 (nc c11 (nc c12 AllD.nil))))))))))))) (ap (oneF tl) (ap (oneF r21) (ap (oneF r26) (ap (oneF r31) (oneF r41))))))))
end Go.Proofs.YtokeopmmnpmfeaaDoor.Ex
