/-
  Layer 11: decoding, all ways behind one beginning.
-/
import Derived.Test.YtokeopmmnpmfeaaDoorPackD
import Derived.Test.YtokeopmmnpmfeaaDoorDk4a
import Derived.Test.YtokeopmmnpmfeaaDoorDk4b
namespace Go.Proofs.YtokeopmmnpmfeaaDoor.Ex
set_option maxRecDepth 20000

open Go Go.RowKit
set_option linter.unusedVariables false
set_option linter.unusedSimpArgs false
set_option maxHeartbeats 0
set_option maxRecDepth 1000000
theorem dP_n0 {eB : EncB} {eE : EncE} {s : ByteArray} {a : Int} {w : World} (C : Cx eB eE s a w) (th : (bt s a 0 == 102) = false) (tr : (andB (bt s a 0) 240 == 64) = false) : GoalD eB eE s a w := by
  have hP : AllD (n0.c s a (bt s a)) := (ap C.st (ap (C.p 0) (ap (oneF th) (ap (C.p 0) (ap (oneF tr) (ap (C.t 0) (oneF rex0)))))))
  have h00 : readB (bt s a) = preB (bt s a) false false 0 0 := by
    simp only [readB, rexB, cond_true, cond_false, Nat.reduceAdd, th, tr]
  rcases Bool.eq_false_or_eq_true (bt s a 0 == 15) with te | te
  · have hx : readB (bt s a) = escB (bt s a) false false 0 1 := h00.trans (by simp only [preB, te, cond_true, cond_false, Nat.reduceAdd])
    rcases Bool.eq_false_or_eq_true ((bt s a 1) == 175) with e175 | e175
    · exact C.l3 hP kn031e kn031f kn031t (hx.trans (by simp only [escB, cond_true, cond_false, e175]; rfl)) (ap (oneT te) (ap (C.t 1) (ap (oneT e175) (C.t 2))))
    · rcases Bool.eq_false_or_eq_true ((bt s a 1) == 182) with e182 | e182
      · rcases Bool.eq_false_or_eq_true (Int.tmod (endE 0 (bt s a 2)) 8 == 4) with tb | tb
        · exact C.l3 hP kn033e kn033f kn033t (hx.trans (by simp only [escB, xS, xL, dpB, Nat.reduceAdd, cond_true, cond_false, e175, e182, tb]; rfl)) (ap (oneT te) (ap (C.t 1) (ap (nc e175 AllD.nil) (ap (oneT e182) (ap (C.t 2) (ap (oneT tb) (ap (C.t 3) (ap (C.t 4) (ap (C.t 5) (ap (C.t 6) (ap (C.t 7) (sg_ok _))))))))))))
        · exact C.l3 hP kn032e kn032f kn032t (hx.trans (by simp only [escB, xS, xL, dpB, Nat.reduceAdd, cond_true, cond_false, e175, e182, tb]; rfl)) (ap (oneT te) (ap (C.t 1) (ap (nc e175 AllD.nil) (ap (oneT e182) (ap (C.t 2) (ap (oneF tb) (ap (C.t 3) (ap (C.t 4) (ap (C.t 5) (ap (C.t 6) (sg_ok _)))))))))))
      · rcases Bool.eq_false_or_eq_true ((bt s a 1) == 183) with e183 | e183
        · rcases Bool.eq_false_or_eq_true (Int.tmod (endE 0 (bt s a 2)) 8 == 4) with tb | tb
          · exact C.l3 hP kn035e kn035f kn035t (hx.trans (by simp only [escB, xS, xL, dpB, Nat.reduceAdd, cond_true, cond_false, e175, e182, e183, tb]; rfl)) (ap (oneT te) (ap (C.t 1) (ap (nc e175 (nc e182 AllD.nil)) (ap (oneT e183) (ap (C.t 2) (ap (oneT tb) (ap (C.t 3) (ap (C.t 4) (ap (C.t 5) (ap (C.t 6) (ap (C.t 7) (sg_ok _))))))))))))
          · exact C.l3 hP kn034e kn034f kn034t (hx.trans (by simp only [escB, xS, xL, dpB, Nat.reduceAdd, cond_true, cond_false, e175, e182, e183, tb]; rfl)) (ap (oneT te) (ap (C.t 1) (ap (nc e175 (nc e182 AllD.nil)) (ap (oneT e183) (ap (C.t 2) (ap (oneF tb) (ap (C.t 3) (ap (C.t 4) (ap (C.t 5) (ap (C.t 6) (sg_ok _)))))))))))
        · rcases Bool.eq_false_or_eq_true ((bt s a 1) == 174) with e174 | e174
          · exact C.l3 hP kn036e kn036f kn036t (hx.trans (by simp only [escB, cond_true, cond_false, e175, e182, e183, e174]; rfl)) (ap (oneT te) (ap (C.t 1) (ap (nc e175 (nc e182 (nc e183 AllD.nil))) (oneT e174))))
          · rcases Bool.eq_false_or_eq_true (andB (bt s a 1) 240 == 128) with ej | ej
            · exact C.l3 hP kn037e kn037f kn037t (hx.trans (by simp only [escB, cond_true, cond_false, e175, e182, e183, e174, ej]; rfl)) (ap (oneT te) (ap (C.t 1) (ap (nc e175 (nc e182 (nc e183 (nc e174 AllD.nil)))) (ap (oneT ej) (ap (C.t 2) (ap (C.t 3) (ap (C.t 4) (ap (C.t 5) (sg_ok _)))))))))
            · exact C.l1 hP kn038e (hx.trans (by simp only [escB, cond_true, cond_false, e175, e182, e183, e174, ej]; rfl)) rfl (ap (oneT te) (ap (C.t 1) (ap (nc e175 (nc e182 (nc e183 (nc e174 AllD.nil)))) (oneF ej))))
  · have hx : readB (bt s a) = opB (bt s a) false false 0 0 := h00.trans (by simp only [preB, te, cond_true, cond_false, Nat.reduceAdd])
    rcases Bool.eq_false_or_eq_true ((bt s a 0) == 137) with c0 | c0
    · rcases Bool.eq_false_or_eq_true (decide ((bt s a 1) < 192)) with tm | tm
      · rcases Bool.eq_false_or_eq_true (Int.tmod (endE 0 (bt s a 1)) 8 == 4) with tb | tb
        · exact C.l3 hP kn01e kn01f kn01t (hx.trans (by simp only [opB, xS, xL, dpB, Nat.reduceAdd, cond_true, cond_false, c0, tm, tb]; rfl)) (ap (oneF te) (ap (C.p 1) (ap (oneT tm) (ap (oneT c0) (ap (C.t 1) (ap (oneT tb) (ap (C.t 2) (ap (C.t 3) (ap (C.t 4) (ap (C.t 5) (ap (C.t 6) (sg_ok _))))))))))))
        · exact C.l3 hP kn00e kn00f kn00t (hx.trans (by simp only [opB, xS, xL, dpB, Nat.reduceAdd, cond_true, cond_false, c0, tm, tb]; rfl)) (ap (oneF te) (ap (C.p 1) (ap (oneT tm) (ap (oneT c0) (ap (C.t 1) (ap (oneF tb) (ap (C.t 2) (ap (C.t 3) (ap (C.t 4) (ap (C.t 5) (sg_ok _)))))))))))
      · exact C.l3 hP kn02e kn02f kn02t (hx.trans (by simp only [opB, cond_true, cond_false, c0, tm]; rfl)) (ap (oneF te) (ap (C.p 1) (ap (oneF tm) (ap (oneT c0) (C.t 1)))))
    · rcases Bool.eq_false_or_eq_true ((bt s a 0) == 136) with c1 | c1
      · rcases Bool.eq_false_or_eq_true (Int.tmod (endE 0 (bt s a 1)) 8 == 4) with tb | tb
        · exact C.l3 hP kn04e kn04f kn04t (hx.trans (by simp only [opB, xS, xL, dpB, Nat.reduceAdd, cond_true, cond_false, c0, c1, tb]; rfl)) (ap (oneF te) (ap (C.p 1) (ap (nc c0 AllD.nil) (ap (oneT c1) (ap (C.t 1) (ap (oneT tb) (ap (C.t 2) (ap (C.t 3) (ap (C.t 4) (ap (C.t 5) (ap (C.t 6) (sg_ok _))))))))))))
        · exact C.l3 hP kn03e kn03f kn03t (hx.trans (by simp only [opB, xS, xL, dpB, Nat.reduceAdd, cond_true, cond_false, c0, c1, tb]; rfl)) (ap (oneF te) (ap (C.p 1) (ap (nc c0 AllD.nil) (ap (oneT c1) (ap (C.t 1) (ap (oneF tb) (ap (C.t 2) (ap (C.t 3) (ap (C.t 4) (ap (C.t 5) (sg_ok _)))))))))))
      · rcases Bool.eq_false_or_eq_true ((bt s a 0) == 139) with c2 | c2
        · rcases Bool.eq_false_or_eq_true (Int.tmod (endE 0 (bt s a 1)) 8 == 4) with tb | tb
          · exact C.l3 hP kn06e kn06f kn06t (hx.trans (by simp only [opB, xS, xL, dpB, Nat.reduceAdd, cond_true, cond_false, c0, c1, c2, tb]; rfl)) (ap (oneF te) (ap (C.p 1) (ap (nc c0 (nc c1 AllD.nil)) (ap (oneT c2) (ap (C.t 1) (ap (oneT tb) (ap (C.t 2) (ap (C.t 3) (ap (C.t 4) (ap (C.t 5) (ap (C.t 6) (sg_ok _))))))))))))
          · exact C.l3 hP kn05e kn05f kn05t (hx.trans (by simp only [opB, xS, xL, dpB, Nat.reduceAdd, cond_true, cond_false, c0, c1, c2, tb]; rfl)) (ap (oneF te) (ap (C.p 1) (ap (nc c0 (nc c1 AllD.nil)) (ap (oneT c2) (ap (C.t 1) (ap (oneF tb) (ap (C.t 2) (ap (C.t 3) (ap (C.t 4) (ap (C.t 5) (sg_ok _)))))))))))
        · rcases Bool.eq_false_or_eq_true ((bt s a 0) == 133) with c3 | c3
          · exact C.l3 hP kn07e kn07f kn07t (hx.trans (by simp only [opB, cond_true, cond_false, c0, c1, c2, c3]; rfl)) (ap (oneF te) (ap (C.p 1) (ap (nc c0 (nc c1 (nc c2 AllD.nil))) (ap (oneT c3) (C.t 1)))))
          · rcases Bool.eq_false_or_eq_true ((bt s a 0) == 129) with c4 | c4
            · exact C.l3 hP kn08e kn08f kn08t (hx.trans (by simp only [opB, cond_true, cond_false, c0, c1, c2, c3, c4]; rfl)) (ap (oneF te) (ap (C.p 1) (ap (nc c0 (nc c1 (nc c2 (nc c3 AllD.nil)))) (ap (oneT c4) (ap (C.t 1) (ap (C.t 2) (ap (C.t 3) (ap (C.t 4) (ap (C.t 5) (sg_ok _))))))))))
            · rcases Bool.eq_false_or_eq_true ((bt s a 0) == 199) with c5 | c5
              · exact C.l3 hP kn09e kn09f kn09t (hx.trans (by simp only [opB, cond_true, cond_false, c0, c1, c2, c3, c4, c5]; rfl)) (ap (oneF te) (ap (C.p 1) (ap (nc c0 (nc c1 (nc c2 (nc c3 (nc c4 AllD.nil))))) (ap (oneT c5) (ap (C.t 1) (ap (C.t 2) (ap (C.t 3) (ap (C.t 4) (ap (C.t 5) (sg_ok _))))))))))
              · rcases Bool.eq_false_or_eq_true ((bt s a 0) == 247) with c6 | c6
                · rcases Bool.eq_false_or_eq_true ((digE (bt s a 1)) == 3) with d3 | d3
                  · exact C.l3 hP kn010e kn010f kn010t (hx.trans (by simp only [opB, cond_true, cond_false, c0, c1, c2, c3, c4, c5, c6, d3]; rfl)) (ap (oneF te) (ap (C.p 1) (ap (nc c0 (nc c1 (nc c2 (nc c3 (nc c4 (nc c5 AllD.nil)))))) (ap (oneT c6) (ap (oneT d3) (C.t 1))))))
                  · rcases Bool.eq_false_or_eq_true ((digE (bt s a 1)) == 4) with d4 | d4
                    · exact C.l3 hP kn011e kn011f kn011t (hx.trans (by simp only [opB, cond_true, cond_false, c0, c1, c2, c3, c4, c5, c6, d3, d4]; rfl)) (ap (oneF te) (ap (C.p 1) (ap (nc c0 (nc c1 (nc c2 (nc c3 (nc c4 (nc c5 AllD.nil)))))) (ap (oneT c6) (ap (oneF d3) (ap (oneT d4) (C.t 1)))))))
                    · rcases Bool.eq_false_or_eq_true ((digE (bt s a 1)) == 6) with d6 | d6
                      · exact C.l3 hP kn012e kn012f kn012t (hx.trans (by simp only [opB, cond_true, cond_false, c0, c1, c2, c3, c4, c5, c6, d3, d4, d6]; rfl)) (ap (oneF te) (ap (C.p 1) (ap (nc c0 (nc c1 (nc c2 (nc c3 (nc c4 (nc c5 AllD.nil)))))) (ap (oneT c6) (ap (oneF d3) (ap (oneF d4) (ap (oneT d6) (C.t 1))))))))
                      · exact C.l1 hP kn013e (hx.trans (by simp only [opB, cond_true, cond_false, c0, c1, c2, c3, c4, c5, c6, d3, d4, d6]; rfl)) rfl (ap (oneF te) (ap (C.p 1) (ap (nc c0 (nc c1 (nc c2 (nc c3 (nc c4 (nc c5 AllD.nil)))))) (ap (oneT c6) (ap (oneF d3) (ap (oneF d4) (oneF d6)))))))
                · rcases Bool.eq_false_or_eq_true ((bt s a 0) == 193) with c7 | c7
                  · exact C.l3 hP kn014e kn014f kn014t (hx.trans (by simp only [opB, cond_true, cond_false, c0, c1, c2, c3, c4, c5, c6, c7]; rfl)) (ap (oneF te) (ap (C.p 1) (ap (nc c0 (nc c1 (nc c2 (nc c3 (nc c4 (nc c5 (nc c6 AllD.nil))))))) (ap (oneT c7) (ap (C.t 1) (ap (C.t 2) (sg_ok _)))))))
                  · rcases Bool.eq_false_or_eq_true ((bt s a 0) == 211) with c8 | c8
                    · exact C.l3 hP kn015e kn015f kn015t (hx.trans (by simp only [opB, cond_true, cond_false, c0, c1, c2, c3, c4, c5, c6, c7, c8]; rfl)) (ap (oneF te) (ap (C.p 1) (ap (nc c0 (nc c1 (nc c2 (nc c3 (nc c4 (nc c5 (nc c6 (nc c7 AllD.nil)))))))) (ap (oneT c8) (C.t 1)))))
                    · rcases Bool.eq_false_or_eq_true ((bt s a 0) == 235) with c9 | c9
                      · exact C.l3 hP kn016e kn016f kn016t (hx.trans (by simp only [opB, cond_true, cond_false, c0, c1, c2, c3, c4, c5, c6, c7, c8, c9]; rfl)) (ap (oneF te) (ap (C.p 1) (ap (nc c0 (nc c1 (nc c2 (nc c3 (nc c4 (nc c5 (nc c6 (nc c7 (nc c8 AllD.nil))))))))) (ap (oneT c9) (ap (C.t 1) (sg_ok _))))))
                      · rcases Bool.eq_false_or_eq_true ((bt s a 0) == 233) with c10 | c10
                        · exact C.l3 hP kn017e kn017f kn017t (hx.trans (by simp only [opB, cond_true, cond_false, c0, c1, c2, c3, c4, c5, c6, c7, c8, c9, c10]; rfl)) (ap (oneF te) (ap (C.p 1) (ap (nc c0 (nc c1 (nc c2 (nc c3 (nc c4 (nc c5 (nc c6 (nc c7 (nc c8 (nc c9 AllD.nil)))))))))) (ap (oneT c10) (ap (C.t 1) (ap (C.t 2) (ap (C.t 3) (ap (C.t 4) (sg_ok _)))))))))
                        · rcases Bool.eq_false_or_eq_true ((bt s a 0) == 232) with c11 | c11
                          · exact C.l3 hP kn018e kn018f kn018t (hx.trans (by simp only [opB, cond_true, cond_false, c0, c1, c2, c3, c4, c5, c6, c7, c8, c9, c10, c11]; rfl)) (ap (oneF te) (ap (C.p 1) (ap (nc c0 (nc c1 (nc c2 (nc c3 (nc c4 (nc c5 (nc c6 (nc c7 (nc c8 (nc c9 (nc c10 AllD.nil))))))))))) (ap (oneT c11) (ap (C.t 1) (ap (C.t 2) (ap (C.t 3) (ap (C.t 4) (sg_ok _)))))))))
                          · rcases Bool.eq_false_or_eq_true ((bt s a 0) == 195) with c12 | c12
                            · exact C.l3 hP kn019e kn019f kn019t (hx.trans (by simp only [opB, cond_true, cond_false, c0, c1, c2, c3, c4, c5, c6, c7, c8, c9, c10, c11, c12]; rfl)) (ap (oneF te) (ap (C.p 1) (ap (nc c0 (nc c1 (nc c2 (nc c3 (nc c4 (nc c5 (nc c6 (nc c7 (nc c8 (nc c9 (nc c10 (nc c11 AllD.nil)))))))))))) (oneT c12))))
                            · rcases Bool.eq_false_or_eq_true (decide ((bt s a 0) < 64)) with tl | tl
                              · rcases Bool.eq_false_or_eq_true (Int.tmod (bt s a 0) 8 == 1) with ta | ta
                                · exact C.l3 hP kn020e kn020f kn020t (hx.trans (by simp only [opB, cond_true, cond_false, c0, c1, c2, c3, c4, c5, c6, c7, c8, c9, c10, c11, c12, tl, ta]; rfl)) (ap (oneF te) (ap (C.p 1) (ap (nc c0 (nc c1 (nc c2 (nc c3 (nc c4 (nc c5 (nc c6 (nc c7 (nc c8 (nc c9 (nc c10 (nc c11 (nc c12 AllD.nil))))))))))))) (ap (oneT tl) (ap (oneT ta) (C.t 1))))))
                                · rcases Bool.eq_false_or_eq_true (andB (bt s a 0) 248 == 80) with r21 | r21
                                  · exact C.l3 hP kn021e kn021f kn021t (hx.trans (by simp only [opB, rowB, cond_true, cond_false, c0, c1, c2, c3, c4, c5, c6, c7, c8, c9, c10, c11, c12, tl, ta, r21]; rfl)) (ap (oneF te) (ap (C.p 1) (ap (nc c0 (nc c1 (nc c2 (nc c3 (nc c4 (nc c5 (nc c6 (nc c7 (nc c8 (nc c9 (nc c10 (nc c11 (nc c12 AllD.nil))))))))))))) (ap (oneT tl) (ap (oneF ta) (oneT r21))))))
                                  · rcases Bool.eq_false_or_eq_true (andB (bt s a 0) 248 == 88) with r26 | r26
                                    · exact C.l3 hP kn022e kn022f kn022t (hx.trans (by simp only [opB, rowB, cond_true, cond_false, c0, c1, c2, c3, c4, c5, c6, c7, c8, c9, c10, c11, c12, tl, ta, r21, r26]; rfl)) (ap (oneF te) (ap (C.p 1) (ap (nc c0 (nc c1 (nc c2 (nc c3 (nc c4 (nc c5 (nc c6 (nc c7 (nc c8 (nc c9 (nc c10 (nc c11 (nc c12 AllD.nil))))))))))))) (ap (oneT tl) (ap (oneF ta) (ap (oneF r21) (oneT r26)))))))
                                    · rcases Bool.eq_false_or_eq_true (andB (bt s a 0) 240 == 112) with r31 | r31
                                      · exact C.l3 hP kn023e kn023f kn023t (hx.trans (by simp only [opB, rowB, cond_true, cond_false, c0, c1, c2, c3, c4, c5, c6, c7, c8, c9, c10, c11, c12, tl, ta, r21, r26, r31]; rfl)) (ap (oneF te) (ap (C.p 1) (ap (nc c0 (nc c1 (nc c2 (nc c3 (nc c4 (nc c5 (nc c6 (nc c7 (nc c8 (nc c9 (nc c10 (nc c11 (nc c12 AllD.nil))))))))))))) (ap (oneT tl) (ap (oneF ta) (ap (oneF r21) (ap (oneF r26) (ap (oneT r31) (ap (C.t 1) (sg_ok _))))))))))
                                      · rcases Bool.eq_false_or_eq_true (andB (bt s a 0) 248 == 184) with r41 | r41
                                        · exact C.l3 hP kn024e kn024f kn024t (hx.trans (by simp only [opB, rowB, cond_true, cond_false, c0, c1, c2, c3, c4, c5, c6, c7, c8, c9, c10, c11, c12, tl, ta, r21, r26, r31, r41]; rfl)) (ap (oneF te) (ap (C.p 1) (ap (nc c0 (nc c1 (nc c2 (nc c3 (nc c4 (nc c5 (nc c6 (nc c7 (nc c8 (nc c9 (nc c10 (nc c11 (nc c12 AllD.nil))))))))))))) (ap (oneT tl) (ap (oneF ta) (ap (oneF r21) (ap (oneF r26) (ap (oneF r31) (ap (oneT r41) (ap (C.t 1) (ap (C.t 2) (ap (C.t 3) (ap (C.t 4) (ap (C.t 5) (ap (C.t 6) (ap (C.t 7) (ap (C.t 8) (sg_ok _))))))))))))))))))
                                        · exact C.l1 hP kn025e (hx.trans (by simp only [opB, rowB, cond_true, cond_false, c0, c1, c2, c3, c4, c5, c6, c7, c8, c9, c10, c11, c12, tl, ta, r21, r26, r31, r41]; rfl)) rfl (ap (oneF te) (ap (C.p 1) (ap (nc c0 (nc c1 (nc c2 (nc c3 (nc c4 (nc c5 (nc c6 (nc c7 (nc c8 (nc c9 (nc c10 (nc c11 (nc c12 AllD.nil))))))))))))) (ap (oneT tl) (ap (oneF ta) (ap (oneF r21) (ap (oneF r26) (ap (oneF r31) (oneF r41)))))))))
                              · rcases Bool.eq_false_or_eq_true (andB (bt s a 0) 248 == 80) with r21 | r21
                                · exact C.l3 hP kn026e kn026f kn026t (hx.trans (by simp only [opB, rowB, cond_true, cond_false, c0, c1, c2, c3, c4, c5, c6, c7, c8, c9, c10, c11, c12, tl, r21]; rfl)) (ap (oneF te) (ap (C.p 1) (ap (nc c0 (nc c1 (nc c2 (nc c3 (nc c4 (nc c5 (nc c6 (nc c7 (nc c8 (nc c9 (nc c10 (nc c11 (nc c12 AllD.nil))))))))))))) (ap (oneF tl) (oneT r21)))))
                                · rcases Bool.eq_false_or_eq_true (andB (bt s a 0) 248 == 88) with r26 | r26
                                  · exact C.l3 hP kn027e kn027f kn027t (hx.trans (by simp only [opB, rowB, cond_true, cond_false, c0, c1, c2, c3, c4, c5, c6, c7, c8, c9, c10, c11, c12, tl, r21, r26]; rfl)) (ap (oneF te) (ap (C.p 1) (ap (nc c0 (nc c1 (nc c2 (nc c3 (nc c4 (nc c5 (nc c6 (nc c7 (nc c8 (nc c9 (nc c10 (nc c11 (nc c12 AllD.nil))))))))))))) (ap (oneF tl) (ap (oneF r21) (oneT r26))))))
                                  · rcases Bool.eq_false_or_eq_true (andB (bt s a 0) 240 == 112) with r31 | r31
                                    · exact C.l3 hP kn028e kn028f kn028t (hx.trans (by simp only [opB, rowB, cond_true, cond_false, c0, c1, c2, c3, c4, c5, c6, c7, c8, c9, c10, c11, c12, tl, r21, r26, r31]; rfl)) (ap (oneF te) (ap (C.p 1) (ap (nc c0 (nc c1 (nc c2 (nc c3 (nc c4 (nc c5 (nc c6 (nc c7 (nc c8 (nc c9 (nc c10 (nc c11 (nc c12 AllD.nil))))))))))))) (ap (oneF tl) (ap (oneF r21) (ap (oneF r26) (ap (oneT r31) (ap (C.t 1) (sg_ok _)))))))))
                                    · rcases Bool.eq_false_or_eq_true (andB (bt s a 0) 248 == 184) with r41 | r41
                                      · exact C.l3 hP kn029e kn029f kn029t (hx.trans (by simp only [opB, rowB, cond_true, cond_false, c0, c1, c2, c3, c4, c5, c6, c7, c8, c9, c10, c11, c12, tl, r21, r26, r31, r41]; rfl)) (ap (oneF te) (ap (C.p 1) (ap (nc c0 (nc c1 (nc c2 (nc c3 (nc c4 (nc c5 (nc c6 (nc c7 (nc c8 (nc c9 (nc c10 (nc c11 (nc c12 AllD.nil))))))))))))) (ap (oneF tl) (ap (oneF r21) (ap (oneF r26) (ap (oneF r31) (ap (oneT r41) (ap (C.t 1) (ap (C.t 2) (ap (C.t 3) (ap (C.t 4) (ap (C.t 5) (ap (C.t 6) (ap (C.t 7) (ap (C.t 8) (sg_ok _)))))))))))))))))
                                      · exact C.l1 hP kn030e (hx.trans (by simp only [opB, rowB, cond_true, cond_false, c0, c1, c2, c3, c4, c5, c6, c7, c8, c9, c10, c11, c12, tl, r21, r26, r31, r41]; rfl)) rfl (ap (oneF te) (ap (C.p 1) (ap (nc c0 (nc c1 (nc c2 (nc c3 (nc c4 (nc c5 (nc c6 (nc c7 (nc c8 (nc c9 (nc c10 (nc c11 (nc c12 AllD.nil))))))))))))) (ap (oneF tl) (ap (oneF r21) (ap (oneF r26) (ap (oneF r31) (oneF r41))))))))
end Go.Proofs.YtokeopmmnpmfeaaDoor.Ex
