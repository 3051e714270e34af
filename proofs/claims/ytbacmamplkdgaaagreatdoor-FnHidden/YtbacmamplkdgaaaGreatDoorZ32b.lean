import Derived.Test.YtbacmamplkdgaaaGreatDoorZ31b
import Derived.Test.YtbacmamplkdgaaaGreatDoorZ9b
import Derived.Deep.DeepCutAuto
import Derived.Test.YtbacmamplkdgaaaGreatDoorZ3b
import Derived.Test.YtbacmamplkdgaaaGreatDoorKB10b
import Derived.Test.YtbacmamplkdgaaaGreatDoorZ13b
import Derived.Test.YtbacmamplkdgaaaGreatDoorZ4b
import Derived.Test.YtbacmamplkdgaaaGreatDoorZ5b
import Derived.Test.YtbacmamplkdgaaaGreatDoorZ0b
set_option maxRecDepth 100000
set_option maxHeartbeats 8000000
namespace Go.Proofs.YtbacmamplkdgaaaGreatDoor
open Go.RowKit Go.Deep Go.Maps
def leqB(ba:Int)(na:Nat)(fa ga:Nat→Int)(bb:Int)(nb:Nat)(fb gb:Nat→Int):Bool:=
 labOk ba na fa ga&&labOk bb nb fb gb&&flowsB ba na fa ga 0 (fun _=>0) bb nb fb gb
theorem look_isSome{f g:Nat→Int}{n:Nat}{x:Int}(h:(look f g n x).isSome=true):∃i,i<n∧f i=x:=by
 induction n with
 |zero=>simp[look]at h
 |succ n ih=>
  simp only[look]at h;by_cases e:f n=x
  ·exact⟨n,by omega,e⟩
  ·rw[if_neg e]at h;obtain⟨i,hi,e⟩:=ih h;exact⟨i,by omega,e⟩
theorem flowsB_named{ba:Int}{na:Nat}{fa ga:Nat→Int}{no:Nat}{ho:Nat→Int}{bb:Int}{nb:Nat}{fb gb:Nat→Int}{n:Nat}{h:Nat→Int}
 (hra:∀j,j<na→∀i,i<j→fa i<fa j)(hrb:∀j,j<nb→∀i,i<j→fb i<fb j)
 (hmem:∀x,(∃i,i<n∧h i=x)↔((look fa ga na x).isSome||(look fb gb nb x).isSome)=true)(h0:ba≤bb)
 (hall:∀i,i<n→letB ba na fa ga no ho bb nb fb gb (h i)=true):flowsB ba na fa ga no ho bb nb fb gb=true:=by
 refine flowsB_mk h0 fun i hi=>?_;have:∃j,j<n∧h j=glue na fa fb i:=(hmem _).2 (by
  by_cases e:i<na
  ·simp[glue,e,look_some hra e]
  ·have e2:i-na<nb:=(by omega);simp[glue,e,look_some hrb e2])
 obtain⟨j,hj,e⟩:=this;rw[←e];exact hall j hj
theorem flowsB_not{ba:Int}{na:Nat}{fa ga:Nat→Int}{no:Nat}{ho:Nat→Int}{bb:Int}{nb:Nat}{fb gb:Nat→Int}{n:Nat}{h:Nat→Int}
 (hmem:∀x,(∃i,i<n∧h i=x)↔((look fa ga na x).isSome||(look fb gb nb x).isSome)=true){k:Nat}(hk:k<n)
 (hno:letB ba na fa ga no ho bb nb fb gb (h k)=false):flowsB ba na fa ga no ho bb nb fb gb=false:=by
 have:=(hmem (h k)).1 ⟨k,hk,rfl⟩;rw[Bool.or_eq_true]at this;rcases this with e|e
 ·obtain⟨i,hi,e⟩:=look_isSome e;exact flowsB_at (k:=i) (by omega) (by simp only[glue,hi,if_true];rw[e];exact hno)
 ·obtain⟨i,hi,e⟩:=look_isSome e;exact flowsB_at (k:=na+i) (by omega) (by
   have e1:¬na+i<na:=(by omega);have e2:na+i-na=i:=(by omega);simp only[glue,e1,if_false,e2];rw[e];exact hno)
theorem of_lev(base:Int)(c:Nat)(n:Nat)(f g:Nat→Int)(x:Int)(w:World)(hm:MapIs w c n (look f g n))(hx:(Lit.int .i64 x).wf=true):
 Calls Tryz.prog 53 #[.agg #[.int .i64 base,.map (some c)],.int .i64 x] w fun e w'=>e= .returned (.int .i64 (levOf base n f g x))∧Below w.heap.size w w':=of_any base c n (look f g n) x w hm hx
def Cell2(W:World)(P:Nat)(x y:Value):Prop:=W.heap[P]? =some (.cells #[x,y] 91)
theorem Cell2.new(W:World)(x y:Value):Cell2 (W.alloc (.cells #[x,y] 91)) W.heap.size x y:=blk_alloc_new _ _
theorem Cell2.lt{W:World}{P:Nat}{x y:Value}(h:Cell2 W P x y):P<W.heap.size:=(Array.getElem?_eq_some_iff.1 h).1
theorem Cell2.alloc{W:World}{P:Nat}{x y:Value}(h:Cell2 W P x y)(o:Obj):Cell2 (W.alloc o) P x y:=(blk_alloc_lt _ _ _ h.lt).trans h
theorem Cell2.drew{W:World}{P:Nat}{x y:Value}(h:Cell2 W P x y):Cell2 W.drew P x y:=h
theorem Cell2.below{W W':World}{P:Nat}{x y:Value}(h:Cell2 W P x y)(hb:Below W.heap.size W W'):Cell2 W' P x y:=(hb.block P h.lt).trans h
theorem Cell2.other{W:World}{P:Nat}{x y:Value}(h:Cell2 W P x y){a:Addr}(hne:P≠a.block)(v:Value):Cell2 (W.setCell a v) P x y:=(blk_setCell_other _ _ _ _ hne).trans h
theorem Cell2.set0{W:World}{P:Nat}{x y:Value}(h:Cell2 W P x y)(v:Value):Cell2 (W.setCell ⟨P,0,none⟩ v) P v y:=by
 unfold Cell2 at *;simp[World.setCell,Array.getElem?_modify,h]
theorem Cell2.set1{W:World}{P:Nat}{x y:Value}(h:Cell2 W P x y)(v:Value):Cell2 (W.setCell ⟨P,1,none⟩ v) P x v:=by
 unfold Cell2 at *;simp[World.setCell,Array.getElem?_modify,h]
theorem Cell2.cells{W:World}{P:Nat}{x y:Value}(h:Cell2 W P x y):W.cell? ⟨P,0,none⟩=some x∧W.cell? ⟨P,1,none⟩=some y:=by
 unfold Cell2 at h;simp[World.cell?,h]
theorem Cell2.new'{W:World}{P:Nat}{x y:Value}(h:P=W.heap.size):Cell2 (W.alloc (.cells #[x,y] 91)) P x y:=by rw[h];exact Cell2.new _ _ _
def Has2(W:World)(P:Nat):Prop:=∃x y,Cell2 W P x y
theorem Has2.new'{W:World}{P:Nat}{x y:Value}(h:P=W.heap.size):Has2 (W.alloc (.cells #[x,y] 91)) P:=⟨x,y,Cell2.new' h⟩
theorem Has2.alloc{W:World}{P:Nat}(h:Has2 W P)(o:Obj):Has2 (W.alloc o) P:=by obtain⟨x,y,h⟩:=h;exact⟨x,y,h.alloc o⟩
theorem Has2.drew{W:World}{P:Nat}(h:Has2 W P):Has2 W.drew P:=h
theorem Has2.below{W W':World}{P:Nat}(h:Has2 W P)(hb:Below W.heap.size W W'):Has2 W' P:=by obtain⟨x,y,h⟩:=h;exact⟨x,y,h.below hb⟩
theorem Has2.other{W:World}{P:Nat}(h:Has2 W P){a:Addr}(hne:P≠a.block)(v:Value):Has2 (W.setCell a v) P:=by obtain⟨x,y,h⟩:=h;exact⟨x,y,h.other hne v⟩
theorem Cell2.set01{W:World}{P:Nat}(h:Has2 W P)(u v:Value):Cell2 ((W.setCell ⟨P,0,none⟩ u).setCell ⟨P,1,none⟩ v) P u v:=by obtain⟨x,y,h⟩:=h;exact(h.set0 u).set1 v
theorem lt3{a b:Nat}(h:a+3<b):a<b∧a+1<b∧b≠a∧b≠a+1∧b+1≠a:=by omega
theorem implLeq_any(ba:Int)(aa:Option Addr)(na ka:Nat)(fa ga:Nat→Int)(bb:Int)(ab:Option Addr)(nb kb:Nat)(fb gb:Nat→Int)(w:World)
 (hna:na≤maxLen)(hnb:nb≤maxLen)(hca:CatsAt w aa na fa ga)(hcb:CatsAt w ab nb fb gb):
 Calls Tryz.prog 17 #[.agg #[.int .i64 ba,.slice aa na ka],.agg #[.int .i64 bb,.slice ab nb kb]] w fun e w'=>e= .returned (.bool (leqB ba na fa ga bb nb fb gb))∧Below w.heap.size w w':=by
 have hb0:=((Below.refl _ w).alloc (Nat.le_refl _) (.cells #[.int .i64 ba,.slice aa na ka] 30)).alloc (by simp) (.cells #[.int .i64 bb,.slice ab nb kb] 30);go_enter Tryz.func17,Tryz.ntmps17
 go_wp2_with fail
 refine(implOk_any _ _ _ _ fa ga _ hna (hca.below hb0)).mono ?_;rintro e w1 ⟨rfl,hb1⟩;obtain⟨q1,_⟩:=bcell hb1;have z1:w.heap.size+1<w1.heap.size:=by have:=hb1.size;simp at this;omega
 have z1':w.heap.size<w1.heap.size:=by omega
 have B1:Below w.heap.size w w1:=hb0.trans (hb1.mono (by simp;omega));by_cases t1:labOk ba na fa ga=true
 ·go_wp2_with fail
  refine(implOk_any _ _ _ _ fb gb _ hnb (hcb.below B1)).mono ?_;rintro e w2 ⟨rfl,hb2⟩;have z2:w.heap.size+1<w2.heap.size:=by have:=hb2.size;omega
  have z2':w.heap.size<w2.heap.size:=by omega
  have B2:Below w.heap.size w w2:=B1.trans (hb2.mono (by omega));have x1:w2.cell? ⟨w.heap.size,0,none⟩=some (.int .i64 ba):=(hb2.cell (p:=⟨w.heap.size,0,none⟩) z1').trans ((hb1.cell (p:=⟨w.heap.size,0,none⟩) (by simp;omega)).trans (by simp));have x2:w2.cell? ⟨w.heap.size,1,none⟩=some (.slice aa na ka):=(hb2.cell (p:=⟨w.heap.size,1,none⟩) z1').trans ((hb1.cell (p:=⟨w.heap.size,1,none⟩) (by simp;omega)).trans (by simp));have x3:w2.cell? ⟨w.heap.size+1,0,none⟩=some (.int .i64 bb):=(hb2.cell (p:=⟨w.heap.size+1,0,none⟩) z1).trans ((hb1.cell (p:=⟨w.heap.size+1,0,none⟩) (by simp)).trans (by simp));have x4:w2.cell? ⟨w.heap.size+1,1,none⟩=some (.slice ab nb kb):=(hb2.cell (p:=⟨w.heap.size+1,1,none⟩) z1).trans ((hb1.cell (p:=⟨w.heap.size+1,1,none⟩) (by simp)).trans (by simp));clear q1 hb1 hb2 B1;by_cases t2:labOk bb nb fb gb=true
  ·by_cases t3:bb<ba
   ·go_wp2;go_ret;exact⟨ret_bool (by simp[leqB,flowsB_base t3]),B2⟩
   ·have ma:na≤1048576:=(by have:=(labOk_out t1).2.1;omega);have mb:nb≤1048576:=(by have:=(labOk_out t2).2.1;omega);have Ca:CatsAt w2.drew aa na fa ga:=hca.below B2.drew;have Cb:CatsAt w2.drew ab nb fb gb:=hcb.below B2.drew;have WA:=labOk_wf t1;have WB:=labOk_wf t2;have HWA:Hid (∀i,i<na→(Lit.int .i64 (fa i)).wf=true∧(Lit.int .i64 (ga i)).wf=true):=WA;have HWB:Hid (∀i,i<nb→(Lit.int .i64 (fb i)).wf=true∧(Lit.int .i64 (gb i)).wf=true):=WB;clear WA WB Ca Cb;have levA:∀W,Below w2.heap.size w2 W→Calls Tryz.prog 51 #[.agg #[.int .i64 ba,.slice aa na ka]] W fun e w'=>∃c,e= .returned (.agg #[.int .i64 ba,.map (some c)])∧W.heap.size≤c∧MapIs w' c na (look fa ga na)∧(∀b o,b<W.heap.size→w'.cell? ⟨b,o,none⟩=W.cell? ⟨b,o,none⟩)∧(∀b o,b<W.heap.size→w'.frozen? ⟨b,o,none⟩=W.frozen? ⟨b,o,none⟩)∧(∀V:World,V.heap.size≤W.heap.size→V.heap.size+3<w'.heap.size)∧Below w2.heap.size w2 w'∧Below W.heap.size W w'∧(w'.heap.size≠w.heap.size∧w'.heap.size≠w.heap.size+1∧w'.heap.size+1≠w.heap.size)∧(w2.heap.size<w'.heap.size∧w2.heap.size+1<w'.heap.size∧w'.heap.size≠w2.heap.size∧w'.heap.size≠w2.heap.size+1∧w'.heap.size+1≠w2.heap.size)∧w'.cell? ⟨w.heap.size,0,none⟩=some (.int .i64 ba)∧w'.cell? ⟨w.heap.size,1,none⟩=some (.slice aa na ka)∧w'.cell? ⟨w.heap.size+1,0,none⟩=some (.int .i64 bb)∧w'.cell? ⟨w.heap.size+1,1,none⟩=some (.slice ab nb kb):=fun W hW=>by
     refine(levelsOf_any ba aa na ka fa ga W ma (hca.below (B2.trans (hW.mono B2.size))) HWA.out).mono ?_;rintro e w' ⟨c,rfl,hl,hm,hz,hb⟩;have hW':=hW.trans (hb.mono hW.size);obtain⟨q,p⟩:=bcell hb;exact⟨c,rfl,hl,hm,q,p,fun V hV=>by omega,hW',hb,(by have:=hW'.size;omega),lt3 (by have:=hW.size;omega),(hW'.cell (p:=⟨_,_,none⟩) z2').trans x1,(hW'.cell (p:=⟨_,_,none⟩) z2').trans x2,(hW'.cell (p:=⟨_,_,none⟩) z2).trans x3,(hW'.cell (p:=⟨_,_,none⟩) z2).trans x4⟩
    have HlevA:Hid (∀W,Below w2.heap.size w2 W→Calls Tryz.prog 51 #[.agg #[.int .i64 ba,.slice aa na ka]] W fun e w'=>∃c,e= .returned (.agg #[.int .i64 ba,.map (some c)])∧W.heap.size≤c∧MapIs w' c na (look fa ga na)∧(∀b o,b<W.heap.size→w'.cell? ⟨b,o,none⟩=W.cell? ⟨b,o,none⟩)∧(∀b o,b<W.heap.size→w'.frozen? ⟨b,o,none⟩=W.frozen? ⟨b,o,none⟩)∧(∀V:World,V.heap.size≤W.heap.size→V.heap.size+3<w'.heap.size)∧Below w2.heap.size w2 w'∧Below W.heap.size W w'∧(w'.heap.size≠w.heap.size∧w'.heap.size≠w.heap.size+1∧w'.heap.size+1≠w.heap.size)∧(w2.heap.size<w'.heap.size∧w2.heap.size+1<w'.heap.size∧w'.heap.size≠w2.heap.size∧w'.heap.size≠w2.heap.size+1∧w'.heap.size+1≠w2.heap.size)∧w'.cell? ⟨w.heap.size,0,none⟩=some (.int .i64 ba)∧w'.cell? ⟨w.heap.size,1,none⟩=some (.slice aa na ka)∧w'.cell? ⟨w.heap.size+1,0,none⟩=some (.int .i64 bb)∧w'.cell? ⟨w.heap.size+1,1,none⟩=some (.slice ab nb kb)):=levA;clear levA;have levB:∀W,Below w2.heap.size w2 W→Calls Tryz.prog 51 #[.agg #[.int .i64 bb,.slice ab nb kb]] W fun e w'=>∃c,e= .returned (.agg #[.int .i64 bb,.map (some c)])∧W.heap.size≤c∧MapIs w' c nb (look fb gb nb)∧(∀b o,b<W.heap.size→w'.cell? ⟨b,o,none⟩=W.cell? ⟨b,o,none⟩)∧(∀b o,b<W.heap.size→w'.frozen? ⟨b,o,none⟩=W.frozen? ⟨b,o,none⟩)∧(∀V:World,V.heap.size≤W.heap.size→V.heap.size+3<w'.heap.size)∧Below w2.heap.size w2 w'∧Below W.heap.size W w'∧(w'.heap.size≠w.heap.size∧w'.heap.size≠w.heap.size+1∧w'.heap.size+1≠w.heap.size)∧(w2.heap.size<w'.heap.size∧w2.heap.size+1<w'.heap.size∧w'.heap.size≠w2.heap.size∧w'.heap.size≠w2.heap.size+1∧w'.heap.size+1≠w2.heap.size)∧w'.cell? ⟨w.heap.size,0,none⟩=some (.int .i64 ba)∧w'.cell? ⟨w.heap.size,1,none⟩=some (.slice aa na ka)∧w'.cell? ⟨w.heap.size+1,0,none⟩=some (.int .i64 bb)∧w'.cell? ⟨w.heap.size+1,1,none⟩=some (.slice ab nb kb):=fun W hW=>by
     refine(levelsOf_any bb ab nb kb fb gb W mb (hcb.below (B2.trans (hW.mono B2.size))) HWB.out).mono ?_;rintro e w' ⟨c,rfl,hl,hm,hz,hb⟩;have hW':=hW.trans (hb.mono hW.size);obtain⟨q,p⟩:=bcell hb;exact⟨c,rfl,hl,hm,q,p,fun V hV=>by omega,hW',hb,(by have:=hW'.size;omega),lt3 (by have:=hW.size;omega),(hW'.cell (p:=⟨_,_,none⟩) z2').trans x1,(hW'.cell (p:=⟨_,_,none⟩) z2').trans x2,(hW'.cell (p:=⟨_,_,none⟩) z2).trans x3,(hW'.cell (p:=⟨_,_,none⟩) z2).trans x4⟩
    have HlevB:Hid (∀W,Below w2.heap.size w2 W→Calls Tryz.prog 51 #[.agg #[.int .i64 bb,.slice ab nb kb]] W fun e w'=>∃c,e= .returned (.agg #[.int .i64 bb,.map (some c)])∧W.heap.size≤c∧MapIs w' c nb (look fb gb nb)∧(∀b o,b<W.heap.size→w'.cell? ⟨b,o,none⟩=W.cell? ⟨b,o,none⟩)∧(∀b o,b<W.heap.size→w'.frozen? ⟨b,o,none⟩=W.frozen? ⟨b,o,none⟩)∧(∀V:World,V.heap.size≤W.heap.size→V.heap.size+3<w'.heap.size)∧Below w2.heap.size w2 w'∧Below W.heap.size W w'∧(w'.heap.size≠w.heap.size∧w'.heap.size≠w.heap.size+1∧w'.heap.size+1≠w.heap.size)∧(w2.heap.size<w'.heap.size∧w2.heap.size+1<w'.heap.size∧w'.heap.size≠w2.heap.size∧w'.heap.size≠w2.heap.size+1∧w'.heap.size+1≠w2.heap.size)∧w'.cell? ⟨w.heap.size,0,none⟩=some (.int .i64 ba)∧w'.cell? ⟨w.heap.size,1,none⟩=some (.slice aa na ka)∧w'.cell? ⟨w.heap.size+1,0,none⟩=some (.int .i64 bb)∧w'.cell? ⟨w.heap.size+1,1,none⟩=some (.slice ab nb kb)):=levB;clear levB;have HE00:Hid (Below w2.heap.size w2 w2.drew):=(Below.refl _ _).drew;have HE0:Hid (∀o,Below w2.heap.size w2 (w2.alloc o).drew):=fun o=>((Below.refl _ _).alloc (Nat.le_refl _) o).drew;have HE000:Hid (∀o o',Below w2.heap.size w2 ((w2.alloc o).alloc o').drew):=fun o o'=>(((Below.refl _ _).alloc (Nat.le_refl _) o).alloc (by simp) o').drew;have HB2:Hid (Below w.heap.size w w2):=B2;clear hca hcb hb0 B2;have n1:w2.heap.size≠w.heap.size:=(by omega);have n2:w2.heap.size≠w.heap.size+1:=(by omega);have n3:w2.heap.size+1≠w.heap.size:=(by omega);go_upto_region 3 with fail
    go_cut[5,6] (fun p q wc=>∃P Q c d:Nat,p= .pointer (some ⟨P,0,none⟩)∧q= .pointer (some ⟨Q,0,none⟩)∧Cell2 wc P (.int .i64 ba) (.map (some c))∧Cell2 wc Q (.int .i64 bb) (.map (some d))∧MapIs wc c na (look fa ga na)∧MapIs wc d nb (look fb gb nb)∧Below w.heap.size w wc)
    case first=>
     go_region_held3(fun w'=>w'.cell? ⟨w.heap.size,0,none⟩=some (.int .i64 ba)∧w'.cell? ⟨w.heap.size,1,none⟩=some (.slice aa na ka)∧w'.cell? ⟨w.heap.size+1,0,none⟩=some (.int .i64 bb)∧w'.cell? ⟨w.heap.size+1,1,none⟩=some (.slice ab nb kb)) (first|go_keep|(simp[*]))
      (first
        |(go_at_call 51;have hb1':=hb1;clear hb1';refine(HlevB.out _ ?hB).mono ?_;(case hB=>first|exact E1|exact E1.alloc E1.size _|exact(E1.alloc E1.size _).alloc (E1.alloc E1.size _).size _);rintro e v2 ⟨c2,rfl,hl2,m2,qb,pb,rb,E2,hb2,⟨s1,s2,s3⟩,⟨g1,g2,g3,g4,g5⟩,y1,y2,y3,y4⟩;have rb':=rb v1 (by simp;try omega);obtain⟨f1,f2,f3,f4,f5⟩:=lt3 rb')
        |(go_at_call 51;refine(HlevA.out _ ?hB).mono ?_;(case hB=>first|exact HE00.out|exact HE0.out _|exact HE000.out _ _);rintro e v1 ⟨c1,rfl,hl1,m1,qa,pa,ra,E1,hb1,⟨r1,r2,r3⟩,⟨d1,d2,d3,d4,d5⟩,p1,p2,p3,p4⟩))
     all_goals
      have l1:=m1.lt;have l2:=m2.lt;try simp at hl1
      try simp at hl2
      clear qa pa qb pb HlevA HlevB;have E3:Below w.heap.size w v2:=HB2.out.trans (E2.mono (by omega));go_wp2_with fail
      go_meet;case rel=>
       refine⟨_,_,c1,c2,rfl,rfl,?_,?_,?_,?_,?_⟩
       ·repeat(first|(with_reducible refine Cell2.new' ?_;simp;done)|with_reducible refine Cell2.set01 ?_ _ _|(with_reducible refine Cell2.other ?_ ?_ _;rotate_left;(dsimp only;omega))|with_reducible refine Cell2.alloc ?_ _)
        all_goals repeat(first|(with_reducible refine Has2.new' ?_;simp;done)|(with_reducible refine Has2.other ?_ ?_ _;rotate_left;(dsimp only;omega))|with_reducible refine Has2.alloc ?_ _|with_reducible refine Has2.drew ?_|with_reducible refine Has2.below ?_ hb2|with_reducible refine Has2.below ?_ hb1)
       ·repeat(first|(with_reducible refine Cell2.new' ?_;simp;done)|with_reducible refine Cell2.set01 ?_ _ _|(with_reducible refine Cell2.other ?_ ?_ _;rotate_left;(dsimp only;omega))|with_reducible refine Cell2.alloc ?_ _)
        all_goals repeat(first|(with_reducible refine Has2.new' ?_;simp;done)|(with_reducible refine Has2.other ?_ ?_ _;rotate_left;(dsimp only;omega))|with_reducible refine Has2.alloc ?_ _|with_reducible refine Has2.drew ?_|with_reducible refine Has2.below ?_ hb2|with_reducible refine Has2.below ?_ hb1)
       ·repeat(first|with_reducible exact m1|(with_reducible refine MapIs.setCell ?_ ?_ _;rotate_left;(dsimp only;omega))|with_reducible refine MapIs.alloc ?_ _|with_reducible refine MapIs.below ?_ hb2)
       ·repeat(first|with_reducible exact m2|(with_reducible refine MapIs.setCell ?_ ?_ _;rotate_left;(dsimp only;omega))|with_reducible refine MapIs.alloc ?_ _)
       ·repeat(first|with_reducible exact E3|(with_reducible refine Below.setCell ?_ ?_ _;rotate_left;(dsimp only;omega))|(with_reducible refine Below.alloc ?_ ?_ _;rotate_left;(first|omega|(simp;omega))))
    case rest=>
     obtain⟨P,Q,c,d,rfl,rfl,u1,u2,m1,m2,Bc⟩:=hcut;obtain⟨a1,a2⟩:=u1.cells;obtain⟨a3,a4⟩:=u2.cells;have lP:=u1.lt;have lQ:=u2.lt;clear u1 u2 n1 n2 n3 x1 x2 x3 x4 z2 z2' z1 z1' HB2 HE00 HE0 HE000 HlevA HlevB HWA HWB;go_wp2_with fail
     refine(namedBy_any _ _ _ _ _ _ _ _ _ m1 m2 (by omega)).mono ?_;rintro e w3 ⟨a,n,cap,h,rfl,hle,hat,hmem,hris,hwf,hb3⟩;have b1:=(hb3.cell (p:=⟨P,0,none⟩) lP).trans a1;have b2:=(hb3.cell (p:=⟨P,1,none⟩) lP).trans a2;have b3:=(hb3.cell (p:=⟨Q,0,none⟩) lQ).trans a3;have b4:=(hb3.cell (p:=⟨Q,1,none⟩) lQ).trans a4;have M1:=m1.below hb3;have M2:=m2.below hb3;have lP3:P<w3.heap.size:=Nat.lt_of_lt_of_le lP hb3.size;have lQ3:Q<w3.heap.size:=Nat.lt_of_lt_of_le lQ hb3.size;have B3:Below w.heap.size w w3:=Bc.trans (hb3.mono Bc.size);have HM:Hid (∀x,(∃i,i<n∧h i=x)↔((look fa ga na x).isSome||(look fb gb nb x).isSome)=true):=hmem;have HWF:Hid (∀i,i<n→(Lit.int .i64 (h i)).wf=true):=hwf;clear a1 a2 a3 a4 m1 m2 hmem hwf hris lP lQ hb3 Bc;go_wp2;go_loopw [32] (fun i wr=>∃k:Nat,k≤n∧i= .int .i64 k∧(∀j,j<k→letB ba na fa ga 0 (fun _=>0) bb nb fb gb (h j)=true)∧Below w3.heap.size w3 wr) (fun i _=>n-(intOf i).toNat)
     case atStart=>exact⟨0,Nat.zero_le _,rfl,fun j hj=>by omega,Below.refl _ _⟩
     case round=>
      obtain⟨k,hk,rfl,hall,hB⟩:=hrel;have HA:Hid (∀j,j<k→letB ba na fa ga 0 (fun _=>0) bb nb fb gb (h j)=true):=hall;clear hall;by_cases hlt':k<n
      ·obtain⟨b,off,rfl,hlt,hcc⟩:=hat (by omega);have r5:=(hB.cell (p:=⟨b,off+k,none⟩) hlt).trans (hcc k hlt');have r1:=(hB.cell (p:=⟨P,0,none⟩) lP3).trans b1;have r2:=(hB.cell (p:=⟨P,1,none⟩) lP3).trans b2;have r3:=(hB.cell (p:=⟨Q,0,none⟩) lQ3).trans b3;have r4:=(hB.cell (p:=⟨Q,1,none⟩) lQ3).trans b4;have lPr:P<wr.heap.size:=Nat.lt_of_lt_of_le lP3 hB.size;have lQr:Q<wr.heap.size:=Nat.lt_of_lt_of_le lQ3 hB.size;have N1:MapIs wr.drew c na (look fa ga na):=(M1.below hB).below (Below.refl _ _).drew;have N2:MapIs wr.drew d nb (look fb gb nb):=(M2.below hB).below (Below.refl _ _).drew;have wx:=HWF.out k hlt';have HWX:Hid ((Lit.int .i64 (h k)).wf=true):=wx;clear hcc hat b1 b2 b3 b4 M1 M2 wx;go_wp2_with fail
       go_region_held3(fun w'=>w'.cell? ⟨P,0,none⟩=some (.int .i64 ba)∧w'.cell? ⟨P,1,none⟩=some (.map (some c))∧w'.cell? ⟨Q,0,none⟩=some (.int .i64 bb)∧w'.cell? ⟨Q,1,none⟩=some (.map (some d))) (go_keep)
        (first
          |(go_at_call 53;have hb1':=hb1;clear hb1';refine(of_lev bb d nb fb gb (h k) _ (N2.below hb1) HWX.out).mono ?_;rintro e v2 ⟨rfl,hb2⟩;have q1:=(hb2.cell (p:=⟨P,0,none⟩) (Nat.lt_of_lt_of_le lPr hb1.size)).trans p1;have q2:=(hb2.cell (p:=⟨P,1,none⟩) (Nat.lt_of_lt_of_le lPr hb1.size)).trans p2;have q3:=(hb2.cell (p:=⟨Q,0,none⟩) (Nat.lt_of_lt_of_le lQr hb1.size)).trans p3;have q4:=(hb2.cell (p:=⟨Q,1,none⟩) (Nat.lt_of_lt_of_le lQr hb1.size)).trans p4)
          |(go_at_call 53;refine(of_lev ba c na fa ga (h k) _ N1 HWX.out).mono ?_;rintro e v1 ⟨rfl,hb1⟩;have p1:=(hb1.cell (p:=⟨P,0,none⟩) lPr).trans r1;have p2:=(hb1.cell (p:=⟨P,1,none⟩) lPr).trans r2;have p3:=(hb1.cell (p:=⟨Q,0,none⟩) lQr).trans r3;have p4:=(hb1.cell (p:=⟨Q,1,none⟩) lQr).trans r4))
       have hBv:Below w3.heap.size w3 v2:=(hB.drew.trans (hb1.mono hB.size)).trans (hb2.mono (Nat.le_trans hB.size hb1.size));clear r1 r2 r3 r4 r5 p1 p2 p3 p4 q1 q2 q3 q4 N1 N2 hb1 hb2 HWX;by_cases t5:levOf bb nb fb gb (h k)<levOf ba na fa ga (h k)
       ·have HT:Hid (letB ba na fa ga 0 (fun _=>0) bb nb fb gb (h k)=false):=(by show _=_;simp[letB,hasB,t5]);go_wp2;go_ret;refine⟨ret_bool ?_,B3.trans (hBv.mono B3.size)⟩;simp[leqB,flowsB_not HM.out hlt' HT.out]
       ·have HT:Hid (letB ba na fa ga 0 (fun _=>0) bb nb fb gb (h k)=true):=(by show _=_;simp[letB,t5]);go_wp2;go_roundw;case rel=>
         refine⟨k+1,by omega,by go_num,fun j hj=>?_,hBv⟩;by_cases e:j=k
         ·subst e;exact HT.out
         ·exact HA.out j (by omega)
        case measure=>simp[intOf];omega
      ·clear hat M1 M2 b1 b2 b3 b4;go_wp2;go_ret;refine⟨ret_bool ?_,B3.trans (hB.mono B3.size)⟩;have:=flowsB_named (no:=0) (ho:=fun _=>0) (rising (labOk_out t1).2.2) (rising (labOk_out t2).2.2) HM.out (by omega) (fun i hi=>HA.out i (by omega));simp[leqB,t1,t2,this]
  ·have t2':labOk bb nb fb gb=false:=(by simpa using t2);clear t2;go_wp2;go_ret;exact⟨ret_bool (by simp[leqB,t2']),B2⟩
 ·have t1':labOk ba na fa ga=false:=by simpa using t1
  clear t1;go_wp2;go_ret;exact⟨ret_bool (by simp[leqB,t1']),B1⟩
open Go
def seenO(t:ObjV)(b:Int)(c:CatL):Bool:=flowsB t.b1 t.c1.n t.c1.f t.c1.g 0 (fun _=>0) b c.n c.f c.g
def labOkV(b:Int)(c:CatL):Bool:=labOk b c.n c.f c.g
def seenTo(O:Nat→ObjV)(b:Int)(c:CatL)(q:Nat):List Int:=((List.range q).filter (fun j=>seenO (O j) b c)).map (fun i=>(O i).id)
theorem seenTo_yes{O:Nat→ObjV}{b:Int}{c:CatL}{q:Nat}(h:seenO (O q) b c=true):seenTo O b c (q+1)=seenTo O b c q++[(O q).id]:=by
 simp[seenTo,List.range_succ,h]
theorem seenTo_no{O:Nat→ObjV}{b:Int}{c:CatL}{q:Nat}(h:seenO (O q) b c=false):seenTo O b c (q+1)=seenTo O b c q:=by
 simp[seenTo,List.range_succ,h]
theorem seenTo_len(O:Nat→ObjV)(b:Int)(c:CatL)(q:Nat):(seenTo O b c q).length≤q:=by
 unfold seenTo;rw[List.length_map];exact Nat.le_trans (List.length_filter_le _ _) (by simp)
def seenL(k:KerV)(b:Int)(c:CatL):List Int:=if kerOk k=true∧labOkV b c=true then seenTo k.O b c k.on else[]
theorem seenL_no1{k:KerV}{b:Int}{c:CatL}(h:kerOk k=false):seenL k b c=[]:=by simp[seenL,h]
theorem seenL_no2{k:KerV}{b:Int}{c:CatL}(h:labOkV b c=false):seenL k b c=[]:=by simp[seenL,h]
theorem seenL_yes{k:KerV}{b:Int}{c:CatL}(h:kerOk k=true)(h':labOkV b c=true):seenL k b c=seenTo k.O b c k.on:=by simp[seenL,h,h']
theorem kerOk_objs{k:KerV}(h:kerOk k=true):objsOk k.on k.O=true:=by
 simp only[kerOk,Bool.and_eq_true]at h;exact h.1.1.1.2
theorem seenL_len(k:KerV)(b:Int)(c:CatL):(seenL k b c).length≤271:=by
 unfold seenL;split
 ·rename_i h;have:=(objsOk_out (kerOk_objs h.1)).2.1;have:=seenTo_len k.O b c k.on;omega
 ·simp
theorem objsOk_lab{n:Nat}{O:Nat→ObjV}(h:objsOk n O=true){i:Nat}(hi:i<n):labOk (O i).b1 (O i).c1.n (O i).c1.f (O i).c1.g=true:=by
 have:=(objsOk_out h).2.2.1 i hi;simp only[objAt,objOk,Bool.and_eq_true]at this;exact this.1.1.1.1.1.1
theorem leq_seen{n:Nat}{O:Nat→ObjV}{b:Int}{c:CatL}(h:objsOk n O=true){i:Nat}(hi:i<n)(hl:labOkV b c=true):
 leqB (O i).b1 (O i).c1.n (O i).c1.f (O i).c1.g b c.n c.f c.g=seenO (O i) b c:=by
 have h1:=objsOk_lab h hi;unfold labOkV at hl;simp[leqB,h1,hl,seenO]
theorem ups_box{k:KerV}(h:kerOk k=true){c:Nat}(hc:c<k.on)(h0:c≠0):∃u,findI (fun i=>(k.O i).id) k.on (k.O c).up=some u:=by
 have hp:upsOk k.on k.O=true:=by
  simp only[kerOk,Bool.and_eq_true]at h;exact h.1.2
 have hu:=all_out hp (c-1) (by omega);have e:c-1+1=c:=by omega
 simp only[e]at hu;unfold boxAt at hu;split at hu
 ·rename_i u hu';exact⟨u,hu'⟩
 ·cases hu
theorem seen_at{k:KerV}{b:Int}{c:CatL}(h:kerOk k=true){r:Nat}(hr:r<(seenTo k.O b c k.on).length):
 ∃j,j<k.on∧seenO (k.O j) b c=true∧nthI (seenTo k.O b c k.on) r=(k.O j).id∧findI (fun i=>(k.O i).id) k.on (nthI (seenTo k.O b c k.on) r)=some j:=by
 have hm:nthI (seenTo k.O b c k.on) r∈seenTo k.O b c k.on:=by
  unfold nthI;rw[List.getD_eq_getElem?_getD,List.getElem?_eq_getElem hr];exact List.getElem_mem hr
 unfold seenTo at hm;obtain⟨j,hj,e⟩:=List.mem_map.1 hm;obtain⟨hj1,hj2⟩:=List.mem_filter.1 hj;have hj3:=List.mem_range.1 hj1;have er:nthI (seenTo k.O b c k.on) r=(k.O j).id:=e.symm;refine⟨j,hj3,hj2,er,?_⟩;rw[er];refine findI_first (ids:=fun i=>(k.O i).id) hj3 rfl fun i hi e=>?_;have h1:=objsOk_rises (kerOk_objs h) i j hi hj3;have h2:(k.O i).id=(k.O j).id:=e;simp only at h1;omega
theorem seen_there{k:KerV}{b:Int}{c:CatL}{j:Nat}(hj:j<k.on)(hs:seenO (k.O j) b c=true):∃r,r<(seenTo k.O b c k.on).length∧nthI (seenTo k.O b c k.on) r=(k.O j).id:=by
 have hm:(k.O j).id∈seenTo k.O b c k.on:=List.mem_map.2 ⟨j,List.mem_filter.2 ⟨List.mem_range.2 hj,hs⟩,rfl⟩;obtain⟨r,hr,e⟩:=List.mem_iff_getElem.1 hm;exact⟨r,hr,by unfold nthI;rw[List.getD_eq_getElem?_getD,List.getElem?_eq_getElem hr];exact e⟩
theorem seen_has{k:KerV}{b:Int}{c:CatL}(h:kerOk k=true)(h':labOkV b c=true){j:Nat}(hj:j<k.on):
 hasB (seenL k b c).length (nthI (seenL k b c)) (k.O j).id=seenO (k.O j) b c:=by
 rw[seenL_yes h h'];cases hs:seenO (k.O j) b c with
 |true=>
  obtain⟨r,hr,e⟩:=seen_there hj hs;exact hasB_yes hr e
 |false=>
  refine hasB_no fun r hr e=>?_;obtain⟨i,hi,his,e1,_⟩:=seen_at h hr;rw[e]at e1;have ij:i=j:=by
   have r1:=objsOk_rises (kerOk_objs h);rcases Nat.lt_trichotomy i j with l|l|l
   ·have:=r1 i j l hj;simp only at this;omega
   ·exact l
   ·have:=r1 j i l hi;simp only at this;omega
  rw[ij,hs]at his;cases his
def KerV.wfs(k:KerV):Prop:=∀i,i<k.on→(Lit.int .i64 (k.O i).id).wf=true∧(Lit.int .i64 (k.O i).up).wf=true
theorem KerV.same.wfs{k l:KerV}(h:k.same l)(hw:k.wfs):l.wfs:=fun i hi=>by
 obtain⟨h1,h2,h3,h4⟩:=h;rw[h3]at hi;rw[(h4 i hi).1,(h4 i hi).2.2.1];exact hw i hi
theorem KerV.row.below{w w':World}{k:KerV}(h:k.row w)(hb:Below w.heap.size w w'):k.row w':=⟨h.1.below hb,h.2.below hb⟩
def KerV.cells(k:KerV):Array Value:=#[.slice k.ta k.tn k.tk,.slice k.oa k.on k.ok]
theorem implLeq_v(b:Int)(c:CatL)(b':Int)(c':CatL)(w:World)(hc:c.at w)(hc':c'.at w):
 Calls Tryz.prog 17 #[.agg #[.int .i64 b,c.val],.agg #[.int .i64 b',c'.val]] w fun e w'=>e= .returned (.bool (leqB b c.n c.f c.g b' c'.n c'.f c'.g))∧Below w.heap.size w w':=
 implLeq_any b c.a c.n c.k c.f c.g b' c'.a c'.n c'.k c'.f c'.g w hc.1 hc'.1 hc.2 hc'.2
theorem l1Flows_v(b:Int)(c:CatL)(b':Int)(c':CatL)(w:World)(hc:c.at w)(hc':c'.at w)(h:labOk b c.n c.f c.g=true)(h':labOk b' c'.n c'.f c'.g=true):
 Calls Tryz.prog 41 #[.agg #[.int .i64 b,c.val],.slice none 0 0,.agg #[.int .i64 b',c'.val]] w fun e w'=>e= .returned (.bool (flowsB b c.n c.f c.g 0 (fun _=>0) b' c'.n c'.f c'.g))∧Below w.heap.size w w':=
 l1Flows_any b c.a c.n c.k c.f c.g none 0 0 (fun _=>0) b' c'.a c'.n c'.k c'.f c'.g w (by have:=(labOk_out h).2.1;omega) (by have:=(labOk_out h').2.1;omega) (Nat.zero_le _) hc.2 hc'.2 (fun h=>by omega) (rising (labOk_out h).2.2) (rising (labOk_out h').2.2)
theorem sees_any(b:Int)(c:CatL)(t:ObjV)(w:World)(hc:c.at w)(ht:t.at w):
 Calls Tryz.prog 31 #[.agg #[.int .i64 b,c.val],t.val] w fun e w'=>e= .returned (.bool (leqB t.b1 t.c1.n t.c1.f t.c1.g b c.n c.f c.g))∧Below w.heap.size w w':=by
 have hb0:Below w.heap.size w ((w.alloc (.cells #[.int .i64 b,c.val] 58)).alloc t.blk):=((Below.refl _ w).alloc (Nat.le_refl _) _).alloc (by simp) _;have E0:=(Blk.new w (.cells #[.int .i64 b,c.val] 58)).alloc t.blk;have A0:Blk ((w.alloc (.cells #[.int .i64 b,c.val] 58)).alloc t.blk) (w.heap.size+1) t.blk:=by
  have:=Blk.new (w.alloc (.cells #[.int .i64 b,c.val] 58)) t.blk;simpa using this
 have LQ:=hid (implLeq_v t.b1 t.c1 b c _ (ht.below hb0).1 (hc.below hb0));unfold ObjV.blk at hb0 E0 A0 LQ;unfold ObjV.val;obtain⟨x0,x1,x2,x3,x4,x5,x6,x7,x8,x9⟩:=A0.ten;obtain⟨y0,y1⟩:=E0.two;clear ht hc;go_enter Tryz.func31,Tryz.ntmps31
 go_wp2_with fail
 refine LQ.out.mono ?_;rintro e w1 ⟨rfl,hb1⟩;have B1:=then_ hb0 hb1;clear x0 x1 x2 x3 x4 x5 x6 x7 x8 x9 y0 y1 LQ A0 E0 hb0 hb1;go_wp2;go_ret;exact⟨rfl,B1⟩
theorem l5Seen_any(t:ObjV)(b:Int)(c:CatL)(w:World)(ht:t.at w)(hc:c.at w)(h1:labOk t.b1 t.c1.n t.c1.f t.c1.g=true)(h2:labOkV b c=true):
 Calls Tryz.prog 32 #[t.val,.agg #[.int .i64 b,c.val]] w fun e w'=>e= .returned (.bool (seenO t b c))∧Below w.heap.size w w':=by
 have hb0:Below w.heap.size w ((w.alloc t.blk).alloc (.cells #[.int .i64 b,c.val] 30)):=((Below.refl _ w).alloc (Nat.le_refl _) _).alloc (by simp) _;have A0:=(Blk.new w t.blk).alloc (.cells #[.int .i64 b,c.val] 30);have E0:Blk ((w.alloc t.blk).alloc (.cells #[.int .i64 b,c.val] 30)) (w.heap.size+1) (.cells #[.int .i64 b,c.val] 30):=by
  have:=Blk.new (w.alloc t.blk) (.cells #[.int .i64 b,c.val] 30);simpa using this
 have LQ:=hid (l1Flows_v t.b1 t.c1 b c _ (ht.below hb0).1 (hc.below hb0) h1 h2);unfold ObjV.blk at hb0 E0 A0 LQ;unfold ObjV.val;obtain⟨x0,x1,x2,x3,x4,x5,x6,x7,x8,x9⟩:=A0.ten;obtain⟨y0,y1⟩:=E0.two;clear ht hc h1 h2;go_enter Tryz.func32,Tryz.ntmps32
 go_wp2_with fail
 refine LQ.out.mono ?_;rintro e w1 ⟨rfl,hb1⟩;have B1:=then_ hb0 hb1;clear x0 x1 x2 x3 x4 x5 x6 x7 x8 x9 y0 y1 LQ A0 E0 hb0 hb1;go_wp2;go_ret;exact⟨rfl,B1⟩
theorem viewOk_any(k:KerV)(b:Int)(c:CatL)(w:World)(hk:k.at w)(hcap:k.on≤k.ok)(hw:k.wfs)(hc:c.at w):
 Calls Tryz.prog 29 #[k.val,.agg #[.int .i64 b,c.val]] w fun e w'=>e= .returned (.bool (kerOk k&&labOkV b c))∧Below w.heap.size w w':=by
 have hb0:Below w.heap.size w ((w.alloc (.cells k.cells 27)).alloc (.cells #[.int .i64 b,c.val] 30)):=((Below.refl _ w).alloc (Nat.le_refl _) _).alloc (by simp) _;have A0:=(Blk.new w (.cells k.cells 27)).alloc (.cells #[.int .i64 b,c.val] 30);have E0:Blk ((w.alloc (.cells k.cells 27)).alloc (.cells #[.int .i64 b,c.val] 30)) (w.heap.size+1) (.cells #[.int .i64 b,c.val] 30):=by
  have:=Blk.new (w.alloc (.cells k.cells 27)) (.cells #[.int .i64 b,c.val] 30);simpa using this
 have C1:=hid (implKer_any k _ (hk.below hb0) hcap hw);have HC:=hid hc;unfold KerV.val at C1;unfold KerV.cells at hb0 A0 E0 C1;unfold KerV.val;obtain⟨x0,x1⟩:=A0.two;clear hk hw hc;go_enter Tryz.func29,Tryz.ntmps29
 go_wp2_with fail
 refine C1.out.mono ?_;rintro e w1 ⟨rfl,hb1⟩;have E1:=E0.below hb1;have B1:=then_ hb0 hb1;clear x0 x1 C1 A0 E0 hb0 hb1;obtain⟨y0,y1⟩:=E1.two;cases t:kerOk k with
 |false=>
  go_wp2;go_ret;exact⟨ret_bool (by simp[t]),B1⟩
 |true=>
  have C2:=hid (labOk_v b c w1 (HC.out.below B1));go_wp2_with fail
  refine C2.out.mono ?_;rintro e w2 ⟨rfl,hb2⟩;have B2:=then_ B1 hb2;clear C2 y0 y1 E1 hb2 B1;go_wp2;go_ret;exact⟨ret_bool (by simp[labOkV,t]),B2⟩

open Go.BigFrame Go.Shelf
theorem Nodes.over{w w':World}{B c n:Nat}{ids:Nat→Int}{ob off:Nat}{nb:Nat→Nat}{kv:Nat→Value}{K:Nat→List Int}(h:Nodes w B c n ids ob off nb kv K)(hb:∀g,B≤g→g<w.heap.size→w'.heap[g]? =w.heap[g]?):Nodes w' B c n ids ob off nb kv K:=
 ⟨h.map.of_block (hb c h.lowc h.map.lt),fun i hi=>(hb _ (h.low i hi) (h.blk i hi).lt).trans (h.blk i hi),h.inj,fun i hi=>(h.own i hi).of_block (fun g hg=>hb g (World.ownsRow.lt (h.own i hi) g hg).1 (World.ownsRow.lt (h.own i hi) g hg).2),h.apart,h.low,h.lowc⟩
theorem Nodes.lower{w:World}{B B' c n:Nat}{ids:Nat→Int}{ob off:Nat}{nb:Nat→Nat}{kv:Nat→Value}{K:Nat→List Int}(h:Nodes w B c n ids ob off nb kv K)(hB:B'≤B):Nodes w B' c n ids ob off nb kv K:=
 ⟨h.map,h.blk,h.inj,fun i hi=>(h.own i hi).low hB,h.apart,fun i hi=>Nat.le_trans hB (h.low i hi),Nat.le_trans hB h.lowc⟩
theorem Blk.five{W:World}{P t:Nat}{x0 x1 x2 x3 x4:Value}(h:Blk W P (.cells #[x0,x1,x2,x3,x4] t)):W.cell? ⟨P,0,none⟩=some x0∧W.cell? ⟨P,1,none⟩=some x1∧W.cell? ⟨P,2,none⟩=some x2∧W.cell? ⟨P,3,none⟩=some x3∧W.cell? ⟨P,4,none⟩=some x4:=by
 unfold Blk at h;simp[World.cell?,h]
theorem Blk.all5{W:World}{P t:Nat}{z0 z1 z2 z3 z4:Value}(h:Blk W P (.cells #[z0,z1,z2,z3,z4] t))(x0 x1 x2 x3 x4:Value):
 Blk (((((W.setCell ⟨P,0,none⟩ x0).setCell ⟨P,1,none⟩ x1).setCell ⟨P,2,none⟩ x2).setCell ⟨P,3,none⟩ x3).setCell ⟨P,4,none⟩ x4) P (.cells #[x0,x1,x2,x3,x4] t):=by
 have h1:Blk (W.setCell ⟨P,0,none⟩ x0) P (.cells #[x0,z1,z2,z3,z4] t):=h.setAt x0;have h2:Blk _ P (.cells #[x0,x1,z2,z3,z4] t):=h1.setAt (i:=1) x1;have h3:Blk _ P (.cells #[x0,x1,x2,z3,z4] t):=h2.setAt (i:=2) x2;have h4:Blk _ P (.cells #[x0,x1,x2,x3,z4] t):=h3.setAt (i:=3) x3;exact h4.setAt (i:=4) x4
theorem resultsV(tmps:Array Value)(W:World)(P:Nat)(x0 x1 x2 x3 x4:Value)(h:Blk W P (.cells #[x0,x1,x2,x3,x4] 63))(h2:tmps[4]? =some (.pointer (some ⟨P,0,none⟩))):
 (results Tryz.f30 tmps).run Tryz.prog W= .ok (.agg #[x0,x1,x2,x3,x4]) W:=by
 obtain⟨z0,z1,z2,z3,z4⟩:=h.five;simp[results,Tryz.results30,go_sem,h2,z0,z1,z2,z3,z4]
def viewV(k:KerV)(b:Int)(c:CatL)(m:Nat):Value:= .agg #[.int .i64 b,c.val,.slice k.ta k.tn k.tk,.slice k.oa k.on k.ok,.map (some m)]
def NodesK(w:World)(B:Nat)(k:KerV)(m:Nat)(nb:Nat→Nat)(kv:Nat→Value):Prop:=
 ∃ob off,k.oa=some ⟨ob,off,none⟩∧Nodes w B m k.on (fun i=>(k.O i).id) ob off nb kv (kidsTo (fun i=>(k.O i).id) (fun i=>(k.O i).up) k.on)
theorem NodesK.below{w w':World}{B:Nat}{k:KerV}{m:Nat}{nb:Nat→Nat}{kv:Nat→Value}(h:NodesK w B k m nb kv)(hb:Below w.heap.size w w'):NodesK w' B k m nb kv:=by
 obtain⟨ob,off,e,hn⟩:=h;exact⟨ob,off,e,hn.below hb⟩
theorem viewing_any(k:KerV)(b:Int)(c:CatL)(w:World)(hk:k.at w)(ok:kerOk k=true)(hw:k.wfs):
 Calls Tryz.prog 30 #[k.val,.agg #[.int .i64 b,c.val]] w fun e w'=>∃m nb kv,e= .returned (viewV k b c m)∧NodesK w' w.heap.size k m nb kv∧Below w.heap.size w w':=by
 have ho:=kerOk_objs ok;obtain⟨on1,on2,_,_⟩:=objsOk_out ho;obtain⟨ob,off,eoa,_,_⟩:=hk.2.2.2 (by omega);have EG:∀args w,(callFunc 72 args).run Tryz.prog w= .ok (.enter 72 args) w:=enters_of Tryz.func72 (by kernel_rfl) rfl;have b0:Below w.heap.size w (((w.alloc (.cells #[.slice k.ta k.tn k.tk,.slice k.oa k.on k.ok] 27)).alloc (.cells #[.int .i64 b,.slice c.a c.n c.k] 30)).alloc (.cells #[.int .i64 0,.slice none 0 0,.slice none 0 0,.slice none 0 0,.map none] 63)):=(((Below.refl _ w).alloc (Nat.le_refl _) _).alloc (by simp) _).alloc (by simp;omega) _;have A0:=((Blk.new w (.cells #[.slice k.ta k.tn k.tk,.slice k.oa k.on k.ok] 27)).alloc (.cells #[.int .i64 b,.slice c.a c.n c.k] 30)).alloc (.cells #[.int .i64 0,.slice none 0 0,.slice none 0 0,.slice none 0 0,.map none] 63);have L0:=(Blk.new (w.alloc (.cells #[.slice k.ta k.tn k.tk,.slice k.oa k.on k.ok] 27)) (.cells #[.int .i64 b,.slice c.a c.n c.k] 30)).alloc (.cells #[.int .i64 0,.slice none 0 0,.slice none 0 0,.slice none 0 0,.map none] 63);have R0:=Blk.new ((w.alloc (.cells #[.slice k.ta k.tn k.tk,.slice k.oa k.on k.ok] 27)).alloc (.cells #[.int .i64 b,.slice c.a c.n c.k] 30)) (.cells #[.int .i64 0,.slice none 0 0,.slice none 0 0,.slice none 0 0,.map none] 63);simp only[World.size_alloc]at L0 R0;have T0:=hid (hk.below b0).2.2.2;have RI:=hid (objsOk_rises ho);have HW:=hid hw;unfold KerV.val CatL.val;rw[eoa]at b0 A0 L0 R0 T0 ⊢;clear hk hw ok ho on1;go_enter Tryz.func30,Tryz.ntmps30
 go_wp2;generalize hV:(((w.alloc (.cells #[.slice k.ta k.tn k.tk,.slice (some ⟨ob,off,none⟩) k.on k.ok] 27)).alloc (.cells #[.int .i64 b,.slice c.a c.n c.k] 30)).alloc (.cells #[.int .i64 0,.slice none 0 0,.slice none 0 0,.slice none 0 0,.map none] 63))=V at *;have B0:=hid b0;have HA:Hid (∀W,Below V.heap.size V W→Blk W w.heap.size (.cells #[.slice k.ta k.tn k.tk,.slice (some ⟨ob,off,none⟩) k.on k.ok] 27)):=hid (fun W h=>A0.below h);have HL:Hid (∀W,Below V.heap.size V W→Blk W (w.heap.size+1) (.cells #[.int .i64 b,.slice c.a c.n c.k] 30)):=hid (fun W h=>L0.below h);have HR:=hid R0;have PN:Hid (∀W,Below V.heap.size V W→Calls Tryz.prog 72 #[.slice (some ⟨ob,off,none⟩) k.on k.ok] W fun e w'=>∃v,e= .returned v∧∃m nb kv,v= .map (some m)∧Nodes w' W.heap.size m k.on (fun i=>(k.O i).id) ob off nb kv (kidsTo (fun i=>(k.O i).id) (fun i=>(k.O i).up) k.on)∧Below W.heap.size W w'):=hid (fun W hW=>(nodesOf_any ob off k.on k.ok k.O W on2 (T0.out.below hW) RI.out HW.out).mono fun e w' ⟨m,nb,kv,h1,h2,h3⟩=>⟨_,h1,m,nb,kv,rfl,h2,h3⟩);have V0:Below V.heap.size V V.drew:=(Below.refl _ V).drew;have EOA:=hid eoa;clear hV b0 A0 L0 R0 eoa T0 RI HW;refine wp_region_G 8 (fun W=>Below V.heap.size V W) (by kernel_rfl) ?_;refine tq 0 5 (.agg #[.int .i64 b,.slice c.a c.n c.k]) V0 ?_ (hy:=fun W h=>by obtain⟨q0,q1⟩:=(HL.out W h).two;go_simp);simp only[ap,List.set];refine tq 1 6 (.agg #[.int .i64 b,.slice c.a c.n c.k]) V0 ?_;simp only[ap,List.set];refine tq 2 7 (.agg #[.slice k.ta k.tn k.tk,.slice (some ⟨ob,off,none⟩) k.on k.ok]) V0 ?_ (hy:=fun W h=>by obtain⟨q0,q1⟩:=(HA.out W h).two;go_simp);simp only[ap,List.set];refine tq 3 8 (.pointer (some ⟨w.heap.size,1,none⟩)) V0 ?_;simp only[ap,List.set];refine tq 4 9 (.slice (some ⟨ob,off,none⟩) k.on k.ok) V0 ?_ (hy:=fun W h=>by obtain⟨q0,q1⟩:=(HA.out W h).two;go_simp);simp only[ap,List.set];refine wpAnyG_one (i:=5) (by kernel_rfl) rfl ?_;intro K hK;refine step_call1g (by rfl) 72 _ _ (by rfl) EG _ (by rfl) (some 10) (by rfl) _ (PN.out _ V0) ?_;rintro v w1 ⟨m,nb,kv,rfl,n1,h1⟩;have V1:=then_ V0 h1;refine hK.out _ _ (fun _=>V1) ?_;clear hK K;simp only[ap,List.set];refine tq 6 11 (.agg #[.slice k.ta k.tn k.tk,.slice (some ⟨ob,off,none⟩) k.on k.ok,.map (some m)]) V1 ?_;simp only[ap,List.set];refine tq 7 12 (.agg #[.int .i64 b,.slice c.a c.n c.k,.slice k.ta k.tn k.tk,.slice (some ⟨ob,off,none⟩) k.on k.ok,.map (some m)]) V1 ?_;simp only[ap,List.set];have R1:=HR.out.below V1;obtain⟨r0,r1,r2,r3,r4⟩:=R1.five;have rf:=R1.warm;refine wpAnyG_one (i:=8) (by kernel_rfl) rfl ?_;intro K hK;go_simp;refine hK.out _ _ (fun h=>absurd h (by decide)) ?_;clear hK K;refine wpAnyG_done (by kernel_rfl) ?_ _;have N1:=hid n1;have R1':=hid R1;have B1:=hid (then_ B0.out V1);have lt1:w.heap.size+2<V.heap.size:=HR.out.lt;have sz1:V.heap.size≤V.drew.heap.size:=V0.size;clear n1 r0 r1 r2 r3 r4 rf R1 V1 h1 PN HA HL HR EG;go_wp2;refine bodyPost_ret (resultsV _ _ (w.heap.size+1+1) _ _ _ _ _ (Blk.all5 R1'.out _ _ _ _ _) rfl) rfl ⟨m,nb,kv,?_,⟨ob,off,EOA.out,?_⟩,?_⟩
 ·unfold viewV CatL.val;rw[EOA.out]
 ·refine(N1.out.over fun g hg _=>?_).lower (by have:=B0.out.size;omega);iterate 5 rw[blk_setCell_other _ _ _ _ (by dsimp only;omega)]
 ·iterate 5 refine Below.setCell ?_ (by dsimp only;omega) _
  exact B1.out
end Go.Proofs.YtbacmamplkdgaaaGreatDoor
