import Derived.WalkSmall
import Derived.Test.YtdaccbddcjlkpaaGreatDoorZ4p
set_option maxRecDepth 100000
set_option maxHeartbeats 16000000
namespace Go.Proofs.YtdaccbddcjlkpaaGreatDoor
open Go.RowKit Go.Deep Go.Maps Go.Proofs.Tryz
open Go.Value renaming slice→qV
open Go.Obj renaming cells→qG
open _root_.Nat renaming lt_of_lt_of_le→qv,zero_le→qy,le_trans→qj
open _root_.List renaming range→qx,mem_range→jG
open Go.RowKit renaming Below→qN
variable {n k na no nb:Nat}{h fa ga ho fb gb:Nat->Int}{x ba bb:Int}
def hasB(n:Nat)(h:Nat->Int)(x:Int):Bool:=(qx n).any (fun i=>h i==x)
theorem Py(hk:k<n)(e:h k=x):hasB n h x=true:=by
 unfold hasB;rw[List.any_eq_true];exact⟨k,jG.2 hk,by simpa using e⟩
theorem Sz(e:∀i,i<n->h i≠x):hasB n h x=false:=by
 unfold hasB;rw[List.any_eq_false];intro i hi;simpa using e i (jG.1 hi)
theorem J7(a:Option Addr)(n cap:Nat)(h:Nat->Int)(x:Int)(w:World)(hn:n<=maxLen)(hc:Bp w a n h):
 Calls prog 94 #[qV a n cap,.int .i64 x] w fun e w'=>e= .returned (.bool (hasB n h x))/\w'=w:=by
 unfold maxLen at hn;go_enter func94,ntmps94
 go_wp2;go_loop [5] (fun i=>∃k:Nat,k<=n/\i= .int .i64 k/\(∀j,j<k->h j≠x)) (fun i=>n-(intOf i).toNat)
 case atStart=>exact⟨0,qy _,rfl,fun j hj=>by omega⟩
 case round=>
  obtain⟨k,hk,rfl,hall⟩:=hrel;have HA:Hid (∀j,j<k->h j≠x):=hall;clear hall;by_cases hlt':k<n
  ·obtain⟨b,off,rfl,hlt,hcc⟩:=hc qQ;have g1:=hcc k hlt';clear hcc hc;by_cases t:(h k==x)=true
   ·go_wp2;go_ret;exact⟨Ah (Py hlt' (by simpa using t)).symm,rfl⟩
   ·have t':(h k==x)=false:=(by simpa using t);clear t;go_wp2;go_round;case rel=>
     refine⟨k+1,by omega,by go_num,fun j hj=>?_⟩;by_cases e:j=k
     ·subst e;simpa using t'
     ·exact HA.out j qQ
    case measure=>simp[intOf];omega
  ·clear hc;go_wp2;go_ret;have e:k=n:=qQ;subst e;exact⟨Ah (Sz HA).symm,rfl⟩
def JE(ba:Int)(na:Nat)(fa ga:Nat->Int)(no:Nat)(ho:Nat->Int)(bb:Int)(nb:Nat)(fb gb:Nat->Int)(x:Int):Bool:=
 hasB no ho x|| !decide (Fo bb nb fb gb x<Fo ba na fa ga x)
def CX(ba:Int)(na:Nat)(fa ga:Nat->Int)(no:Nat)(ho:Nat->Int)(bb:Int)(nb:Nat)(fb gb:Nat->Int):Bool:=
 decide (ba<=bb)&&(qx (na+nb)).all (fun i=>JE ba na fa ga no ho bb nb fb gb (glue na fa fb i))
theorem Nn(h:bb<ba):CX ba na fa ga no ho bb nb fb gb=false:=by
 have:decide (ba<=bb)=false:=by simp;omega
 simp[CX,this]
theorem Mj(hk:k<na+nb)(h:JE ba na fa ga no ho bb nb fb gb (glue na fa fb k)=false):CX ba na fa ga no ho bb nb fb gb=false:=by
 have:(qx (na+nb)).all (fun i=>JE ba na fa ga no ho bb nb fb gb (glue na fa fb i))=false:=by
  rw[List.all_eq_false];exact⟨k,jG.2 hk,by simp[h]⟩
 simp[CX,this]
theorem QT(h0:ba<=bb)(h:∀i,i<na+nb->JE ba na fa ga no ho bb nb fb gb (glue na fa fb i)=true):CX ba na fa ga no ho bb nb fb gb=true:=by
 have:(qx (na+nb)).all (fun i=>JE ba na fa ga no ho bb nb fb gb (glue na fa fb i))=true:=by
  rw[List.all_eq_true];intro i hi;exact h i (jG.1 hi)
 simp[CX,this,h0]
theorem GQ(ba:Int)(aa:Option Addr)(na ka:Nat)(fa ga:Nat->Int)(ao:Option Addr)(no ko:Nat)(ho:Nat->Int)(bb:Int)(ab:Option Addr)(nb kb:Nat)(fb gb:Nat->Int)(w:World)
 (hna:na<=1048576)(hnb:nb<=1048576)(hno:no<=maxLen)(hca:Bd w aa na fa ga)(hcb:Bd w ab nb fb gb)(hco:Bp w ao no ho)
 (hra:∀j,j<na->∀i,i<j->fa i<fa j)(hrb:∀j,j<nb->∀i,i<j->fb i<fb j):
 Calls prog 93 #[.agg #[.int .i64 ba,qV aa na ka],qV ao no ko,.agg #[.int .i64 bb,qV ab nb kb]] w fun e w'=>e= .returned (.bool (CX ba na fa ga no ho bb nb fb gb))/\qN w w w':=by
 have n3:Na #[.int .i64 ba,qV aa na ka]:=⟨⟩;have n4:Na #[.int .i64 bb,qV ab nb kb]:=⟨⟩;have hb0:=(Bg w (qG n3 42)).alloc sI (qG n4 42);by_cases h0:bb<ba
 ·go_enter func93,ntmps93
  go_wp2;go_ret;exact⟨Ah (Nn h0).symm,hb0⟩
 ·go_enter func93,ntmps93
  go_wp2_with fail
  have n1:Nw ((w.alloc (qG n3 42)).alloc (qG n4 42)):=⟨⟩;have own0:AO (((n1:World).alloc (qG #[] 96)).drew) (w.heap.size+1+1) (qV (some ⟨w.heap.size+1+1,0,none⟩) 0 0) 0 (fun _=>0) (fun _=>0):=by
   have:=World.ownsRow_made (base:=w.heap.size+1+1) (e:=96) (size:=2) n1 #[] 0 sI (qy _) rfl;simp at this;exact this
  have B0:=(hb0.alloc sO (qG #[] 96)).drew;have C0a:=hca.below B0;obtain⟨D0,hD0⟩:∃D0,D0=((n1:World).alloc (qG #[] 96)).drew:=⟨_,rfl⟩;have d1:D0.cell? ⟨w,0,none⟩=some (.int .i64 ba):=by rw[hD0];go_simp
  have d2:D0.cell? ⟨w,1,none⟩=some (qV aa na ka):=by rw[hD0];go_simp
  have d3:D0.cell? ⟨w.heap.size+1,0,none⟩=some (.int .i64 bb):=by rw[hD0];go_simp
  have d4:D0.cell? ⟨w.heap.size+1,1,none⟩=some (qV ab nb kb):=by rw[hD0];go_simp
  have dz:w.heap.size+1+1<=D0.heap.size:=by rw[hD0];simp
  have n2:Nw (((w.alloc (qG n3 42)).alloc (qG n4 42)).alloc (qG #[] 96)):=⟨⟩;have HD:Hid (D0=(n2:World).drew):=hD0;have GG:∀w1,((n2:World).drew).grownBy w1 (Value.slice (some ⟨w.heap.size+1+1,0,none⟩) 0 0).ownBlock->qN (w.heap.size+1+1) D0 w1:=fun w1 hg=>by
   rw[<-HD.out]at hg;exact(Below.refl _ _).grown hg dz (fun k e=>by cases e;exact Nat.le_refl _)
  have B0':qN w w D0:=by rw[hD0];exact B0
  clear hD0;go_region_held3(fun w'=>w'.cell? ⟨w,0,none⟩=some (.int .i64 ba)/\w'.cell? ⟨w,1,none⟩=some (qV aa na ka)/\w'.cell? ⟨w.heap.size+1,0,none⟩=some (.int .i64 bb)/\w'.cell? ⟨w.heap.size+1,1,none⟩=some (qV ab nb kb)) (go_keep)
   (first
     |(refine If _ qK _ _ qK (w.heap.size+1+1) _ (fun _=>0) (fun _=>0) qK own0 aa na ka fa ga qK C0a qQ sI ?_;intro a1 c1 w1 hown1 hgrow1 hat1;have G1:=GG w1 hgrow1;have p1:=(G1.cell (p:=⟨w,0,none⟩) qJ).trans d1;have p2:=(G1.cell (p:=⟨w,1,none⟩) qJ).trans d2;have p3:=(G1.cell (p:=⟨w.heap.size+1,0,none⟩) qJ).trans d3;have p4:=(G1.cell (p:=⟨w.heap.size+1,1,none⟩) qJ).trans d4;have s1:w.heap.size+1+1<=w1.heap.size:=qj dz G1.size;have B1:qN w w w1:=B0'.trans (G1.mono qQ);have C1b:=hcb.below B1)
     |(refine Fu _ qK _ _ qK (w.heap.size+1+1) _ na fa ga qK hown1 ab nb kb fb gb qK C1b qQ s1 ?_;intro a2 c2 w2 hown2 hgrow2 hat2;have G2:qN (w.heap.size+1+1) w1 w2:=(Below.refl _ _).grown hgrow2 s1 (fun k e=>(World.ownsRow.lt hown1 k e).1);have q1:=(G2.cell (p:=⟨w,0,none⟩) qJ).trans p1;have q2:=(G2.cell (p:=⟨w,1,none⟩) qJ).trans p2;have q3:=(G2.cell (p:=⟨w.heap.size+1,0,none⟩) qJ).trans p3;have q4:=(G2.cell (p:=⟨w.heap.size+1,1,none⟩) qJ).trans p4;have s2:w.heap.size+1+1<=w2.heap.size:=qj s1 G2.size;have B2:qN w w w2:=B1.trans (G2.mono qQ)))
  have C2:=AO.cats hown2;have C2a:=hca.below B2;have C2b:=hcb.below B2;have C2o:=hco.below B2;clear p1 p2 p3 p4 d1 d2 d3 d4 hca hcb hco B0 C0a own0 hb0 hown1 hgrow1 hat1 hgrow2 hat2 hown2 G1 G2 GG HD s1 C1b B1 dz B0';go_wp2;go_loopw [8] (fun i wr=>∃k:Nat,k<=na+nb/\i= .int .i64 k/\(∀j,j<k->JE ba na fa ga no ho bb nb fb gb (glue na fa fb j)=true)/\qN w2 w2 wr) (fun i _=>na+nb-(intOf i).toNat)
  case atStart=>exact⟨0,qy _,rfl,fun j hj=>by omega,Below.refl _ _⟩
  case round=>
   obtain⟨k,hk,rfl,hall,hB⟩:=hrel;have HA:Hid (∀j,j<k->JE ba na fa ga no ho bb nb fb gb (glue na fa fb j)=true):=hall;clear hall;have Bw:qN w w wr:=B2.trans (hB.mono qQ);by_cases hlt':k<na+nb
   ·obtain⟨b,off,rfl,hlt,hcc⟩:=C2 qQ;have r5:=(hB.cell (p:=⟨b,off+k*2,none⟩) hlt).trans (hcc k hlt').1;have r1:=(hB.cell (p:=⟨w,0,none⟩) qJ).trans q1;have r2:=(hB.cell (p:=⟨w,1,none⟩) qJ).trans q2;have r3:=(hB.cell (p:=⟨w.heap.size+1,0,none⟩) qJ).trans q3;have r4:=(hB.cell (p:=⟨w.heap.size+1,1,none⟩) qJ).trans q4;have i0:(0:Int)<=(k:Int):=qQ;have i1:(k:Int)<((na+nb:Nat):Int):=qQ;have i1':(k:Int)<(na:Int)+(nb:Int):=qQ;have y1:w.heap.size<wr.heap.size:=(by have:=hB.size;omega);have y2:w.heap.size+1<wr.heap.size:=(by have:=hB.size;omega);have y3:b<wr.heap.size:=(by have:=hB.size;omega);have Ca:Bd wr.drew aa na fa ga:=(C2a.below hB).below (Below.refl _ _).drew;have Cb:Bd wr.drew ab nb fb gb:=(C2b.below hB).below (Below.refl _ _).drew;have Co:Bp wr ao no ho:=C2o.below hB;obtain⟨x,hx⟩:∃x,x=glue na fa fb k:=⟨_,rfl⟩;rw[<-hx]at r5;have HX:Hid (x=glue na fa fb k):=hx;clear hx hcc C2 C2a C2b C2o q1 q2 q3 q4;by_cases t:hasB no ho x=true
    ·clear Ca Cb;have t':JE ba na fa ga no ho bb nb fb gb x=true:=(by simp[JE,t]);have HT:Hid (JE ba na fa ga no ho bb nb fb gb x=true):=t';clear t';go_wp2_with fail
     have CoN:∀m,Bp (wr.drewN m) ao no ho:=fun m=>Co.below (below_drewN (Below.refl _ _) m);go_quiet((go_at_call 94;exact Calls.quiet_of_same (J7 _ _ _ ho _ _ hno (CoN _))))
     clear CoN;go_wp2;go_roundw;case rel=>
      refine⟨k+1,by omega,by go_num,fun j hj=>?_,below_drewN hB _⟩;by_cases e:j=k
      ·subst e;rw[<-HX.out];exact HT.out
      ·exact HA.out j qQ
     case measure=>simp[intOf];omega
    ·have t0:hasB no ho x=false:=(by simpa using t);clear t;have Co':Bp wr.drew ao no ho:=Co.below (Below.refl _ _).drew;have HRA:Hid (∀j,j<na->∀i,i<j->fa i<fa j):=hra;have HRB:Hid (∀j,j<nb->∀i,i<j->fb i<fb j):=hrb;have ma:na<=maxLen:=(by unfold maxLen;omega);have mb:nb<=maxLen:=(by unfold maxLen;omega);clear Co hra hrb;go_wp2_with fail
     go_region_held3(fun w'=>w'.cell? ⟨w,0,none⟩=some (.int .i64 ba)/\w'.cell? ⟨w,1,none⟩=some (qV aa na ka)/\w'.cell? ⟨w.heap.size+1,0,none⟩=some (.int .i64 bb)/\w'.cell? ⟨w.heap.size+1,1,none⟩=some (qV ab nb kb)/\w'.cell? ⟨b,off+k*2,none⟩=some (.int .i64 x)) (go_keep)
      (first
        |(go_at_call 94;refine(J7 _ _ _ ho _ _ hno Co').mono ?_;rintro e w' ⟨rfl,rfl⟩)
        |(go_at_call 127;refine(MQ bb ab nb kb fb gb x _ mb (Cb.below hb1) HRB).mono ?_;rintro e v2 ⟨rfl,hb2⟩;have u1:=(hb2.cell (p:=⟨w,0,none⟩) (qv y1 hb1.size)).trans p1;have u2:=(hb2.cell (p:=⟨w,1,none⟩) (qv y1 hb1.size)).trans p2;have u3:=(hb2.cell (p:=⟨w.heap.size+1,0,none⟩) (qv y2 hb1.size)).trans p3;have u4:=(hb2.cell (p:=⟨w.heap.size+1,1,none⟩) (qv y2 hb1.size)).trans p4;have u5:=(hb2.cell (p:=⟨b,off+k*2,none⟩) (qv y3 hb1.size)).trans p5)
        |(go_at_call 127;refine(MQ ba aa na ka fa ga x _ ma Ca HRA).mono ?_;rintro e v1 ⟨rfl,hb1⟩;have p1:=(hb1.cell (p:=⟨w,0,none⟩) y1).trans r1;have p2:=(hb1.cell (p:=⟨w,1,none⟩) y1).trans r2;have p3:=(hb1.cell (p:=⟨w.heap.size+1,0,none⟩) y2).trans r3;have p4:=(hb1.cell (p:=⟨w.heap.size+1,1,none⟩) y2).trans r4;have p5:=(hb1.cell (p:=⟨b,off+k*2,none⟩) y3).trans r5))
     have hBv:qN w2 w2 v2:=(hB.drew.trans (hb1.mono hB.size)).trans (hb2.mono (qj hB.size hb1.size));clear r1 r2 r3 r4 r5 p1 p2 p3 p4 p5 u1 u2 u3 u4 u5 Ca Cb Co' hb1 hb2 HRA HRB;by_cases t1:Fo bb nb fb gb x<Fo ba na fa ga x
     ·have HT:Hid (JE ba na fa ga no ho bb nb fb gb x=false):=(by show _=_;simp[JE,t0,t1]);go_wp2;go_ret;refine⟨Ah (Mj hlt' ?_).symm,B2.trans (hBv.mono qQ)⟩;rw[<-HX.out];exact HT.out
     ·have HT:Hid (JE ba na fa ga no ho bb nb fb gb x=true):=(by show _=_;simp[JE,t0,t1]);go_wp2;go_roundw;case rel=>
       refine⟨k+1,by omega,by go_num,fun j hj=>?_,hBv⟩;by_cases e:j=k
       ·subst e;rw[<-HX.out];exact HT.out
       ·exact HA.out j qQ
      case measure=>simp[intOf];omega
   ·go_wp2;go_ret;have e:k=na+nb:=qQ;exact⟨Ah (QT h0 (fun i hi=>HA i qQ)).symm,Bw⟩
open Go
open Go.Value renaming int→iT
open Go.IntKind renaming i64→qH
theorem OY(id made b1:Int)(a1:Option Addr)(n1 k1:Nat)(f1 g1:Nat->Int)(b2:Int)(a2:Option Addr)(n2 k2:Nat)(f2 g2:Nat->Int)(a3:Option Addr)(n3 k3:Nat)(h:Nat->Int)(bl:Int)(al:Option Addr)(nl kl:Nat)(fl gl:Nat->Int)(w:World)(_hn1:n1<=maxLen)(_hn2:n2<=maxLen)(hn3:n3<=maxLen)(hc1:Bd w a1 n1 f1 g1)(_hc2:Bd w a2 n2 f2 g2)(hc3:Bp w a3 n3 h)(_hnl:nl<=maxLen)(hcl:Bd w al nl fl gl)(hm1:n1<=1048576)(hml:nl<=1048576)(hr1:∀j,j<n1->∀i,i<j->f1 i<f1 j)(hrl:∀j,j<nl->∀i,i<j->fl i<fl j):
 Calls prog 99 #[.agg #[iT qH id,iT qH b1,qV a1 n1 k1,iT qH b2,qV a2 n2 k2,qV a3 n3 k3,iT qH made],.agg #[iT qH bl,qV al nl kl]] w fun e w'=>e= .returned (.bool (CX bl nl fl gl n3 h b1 n1 f1 g1))/\Below w w w':=by
 have n4:No (.cells #[iT qH id,iT qH b1,qV a1 n1 k1,iT qH b2,qV a2 n2 k2,qV a3 n3 k3,iT qH made] 53):=⟨⟩;have n5:No (.cells #[iT qH bl,qV al nl kl] 42):=⟨⟩;have hb0:=((Below.refl _ w).alloc nr n4).alloc sI n5;have yT:Ag ((w.alloc n4).alloc n5) w n4:=(Ag.new w _).alloc _;have yL:Ag ((w.alloc n4).alloc n5) (w.heap.size+1) n5:=by have:=Ag.new (w.alloc n4) n5;simpa using this
 go_enter func99,ntmps99
 go_wp2_with fail
 refine(GQ _ _ _ _ fl gl _ _ _ h _ _ _ _ f1 g1 _ hml hm1 hn3 (hcl.below hb0) (hc1.below hb0) (hc3.below hb0) hrl hr1).mono ?_;rintro e w1 ⟨rfl,hb1⟩;have B1:Below w w w1:=hb0.trans (hb1.mono sO);clear yT yL hb0 hb1;go_wp2;go_ret;exact⟨rfl,B1⟩
theorem Qi(id made b1:Int)(a1:Option Addr)(n1 k1:Nat)(f1 g1:Nat->Int)(b2:Int)(a2:Option Addr)(n2 k2:Nat)(f2 g2:Nat->Int)(a3:Option Addr)(n3 k3:Nat)(h:Nat->Int)(bl:Int)(al:Option Addr)(nl kl:Nat)(fl gl:Nat->Int)(w:World)(hn1:n1<=maxLen)(hn2:n2<=maxLen)(hn3:n3<=maxLen)(hc1:Bd w a1 n1 f1 g1)(hc2:Bd w a2 n2 f2 g2)(hc3:Bp w a3 n3 h)(hnl:nl<=maxLen)(hcl:Bd w al nl fl gl)(hm1:n1<=1048576)(hml:nl<=1048576)(hr1:∀j,j<n1->∀i,i<j->f1 i<f1 j)(hrl:∀j,j<nl->∀i,i<j->fl i<fl j):
 Calls prog 95 #[.agg #[iT qH id,iT qH b1,qV a1 n1 k1,iT qH b2,qV a2 n2 k2,qV a3 n3 k3,iT qH made],.agg #[iT qH bl,qV al nl kl]] w fun e w'=>e= .returned (.bool (CX bl nl fl gl n3 h b1 n1 f1 g1&&CX b1 n1 f1 g1 n3 h bl nl fl gl))/\Below w w w':=by
 have n4:No (.cells #[iT qH id,iT qH b1,qV a1 n1 k1,iT qH b2,qV a2 n2 k2,qV a3 n3 k3,iT qH made] 53):=⟨⟩;have n5:No (.cells #[iT qH bl,qV al nl kl] 42):=⟨⟩;have hb0:=((Below.refl _ w).alloc nr n4).alloc sI n5;have yT:Ag ((w.alloc n4).alloc n5) w n4:=(Ag.new w _).alloc _;have yL:Ag ((w.alloc n4).alloc n5) (w.heap.size+1) n5:=by have:=Ag.new (w.alloc n4) n5;simpa using this
 go_enter func95,ntmps95
 go_wp2_with fail
 refine(OY _ _ _ _ _ _ f1 g1 _ _ _ _ f2 g2 _ _ _ h _ _ _ _ fl gl _ hn1 hn2 hn3 (hc1.below hb0) (hc2.below hb0) (hc3.below hb0) hnl (hcl.below hb0) hm1 hml hr1 hrl).mono ?_;rintro e w1 ⟨rfl,hb1⟩;have B1:Below w w w1:=hb0.trans (hb1.mono sO);have xT:=yT.below hb1;have xL:=yL.below hb1;obtain⟨x0,x1,x2,x3,x4,x5,x6⟩:=xT.seven;obtain⟨x7,x8⟩:=xL.two;clear yT yL hb0 hb1;by_cases t1:CX bl nl fl gl n3 h b1 n1 f1 g1=true
 ·go_wp2_with fail
  refine(GQ _ _ _ _ f1 g1 _ _ _ h _ _ _ _ fl gl _ hm1 hml hn3 (hc1.below B1) (hcl.below B1) (hc3.below B1) hr1 hrl).mono ?_;rintro e w2 ⟨rfl,hb2⟩;have B2:Below w w w2:=B1.trans (hb2.mono B1.size);clear x0 x1 x2 x3 x4 x5 x6 x7 x8 xT xL;go_wp2;go_ret;exact⟨Ah (by rw[t1];rfl),B2⟩
 ·have t1':CX bl nl fl gl n3 h b1 n1 f1 g1=false:=by simpa using t1
  clear t1;go_wp2;go_ret;exact⟨Ah (by rw[t1'];rfl),B1⟩
open Go.BigFrame Go.Shelf
open Go.Ending renaming returned→rT
open _root_.List renaming getElem_mem→qk
open _root_.Option renaming some→jV
open _root_.Nat renaming zero_add→jx
open Go renaming World→qM
variable {w:qM}{B g ca t:Nat}{vo:Value}{lt:List Ae}{lo:List Ab}
theorem Al{F:Func}(tmps:Array Value)(W:qM)(P n:Nat)(x y u v:Value)(hF:F.results=#[.cell n 27,.tmp (n+1),.tmp (n+2)])(h:Ag W P (.cells #[x,y] 27))(h2:tmps[n]? =some (.pointer P))(h3:tmps[n+1]? =some u)(h4:tmps[n+2]? =some v):
 (results F tmps).run prog W= .ok (.tuple #[.agg #[x,y],u,v]) W:=by
 obtain⟨z0,z1⟩:=h.two;simp[results,hF,go_sem,h2,h3,h4,z0,z1]
theorem Bz.jJ(h:Bz w B (qV g lt.length ca) vo lt lo)(ht:t<lt.length):FA w g (t*7) lt[t]/\g<w.heap.size:=by
 obtain⟨b,off,e,hlt,hc⟩:=h.t.lies (fun x hx=>(h.tn x hx).at) qQ;simp only[jV.injEq,Addr.mk.injEq,and_true]at e;obtain⟨rfl,rfl⟩:=e;have h1:=(hc t ht).1;have e1:Be lt t=lt[t]:=by simp[Be,ht]
 rw[e1,jx]at h1;exact⟨h1,hlt⟩
theorem Bz.jF{co:Nat}{vt:Value}(h:Bz w B vt (qV g lo.length co) lt lo)(ht:t<lo.length)(hd:∀x∈lo,x.data.size<=maxLen):Di w g (t*10) lo[t]/\g<w.heap.size:=by
 obtain⟨b,off,e,hlt,hc⟩:=h.o.lies (fun x hx=>⟨(h.on x hx).1.1,(h.on x hx).2.1.1,(h.on x hx).2.2.1.1,(h.on x hx).2.2.2.1,hd x hx⟩) qQ;simp only[jV.injEq,Addr.mk.injEq,and_true]at e;obtain⟨rfl,rfl⟩:=e;have h1:=(hc t ht).1;have e1:Aa lo t=lo[t]:=by simp[Aa,ht]
 rw[e1,jx]at h1;exact⟨h1,hlt⟩
theorem FE{α:Type}{l:List α}(ht:t<l.length):l.set t l[t]=l:=by
 refine List.ext_getElem sI fun i h1 h2=>?_;rw[List.getElem_set];split
 ·rename_i e;subst e;rfl
 ·rfl
theorem Bz.setLab(h:Bz w B (qV g lt.length ca) vo lt lo){b:Int}{d:As}(ht:t<lt.length){X:Ae}(hX:X=lt[t])(hd:d.new B w):
 Bz ((w.setCell ⟨g,t*7+1,none⟩ (.int .i64 b)).setCell ⟨g,t*7+2,none⟩ (qV d.a d.n d.k)) B (qV g lt.length ca) vo (lt.set t ⟨X.id,b,d,X.b2,X.c2,X.own,X.made⟩) lo/\(∃cur,Ag w g (.cells cur 53))/\B<=g:=by
 have hn:=h.tn _ (qk ht);have hc:=h.tc _ (qk ht);rw[<-hX]at hn hc;obtain⟨k1,⟨cur,hcur⟩,hg⟩:=h.setT (x:=⟨X.id,b,X.c1,X.b2,X.c2,X.own,X.made⟩) (u:= .int .i64 b) ht (i:=1) qQ (by rw[<-hX];rfl) hn hc;have el:(lt.set t (⟨X.id,b,X.c1,X.b2,X.c2,X.own,X.made⟩:Ae)).length=lt.length:=by simp
 have kl:=Aq (i:=t*7+1) hcur qX (.int .i64 b);have ht':t<(lt.set t (⟨X.id,b,X.c1,X.b2,X.c2,X.own,X.made⟩:Ae)).length:=by rw[el];exact ht
 obtain⟨k2,_,_⟩:=k1.setT (x:=⟨X.id,b,d,X.b2,X.c2,X.own,X.made⟩) (u:= qV d.a d.n d.k) ht' (i:=2) qQ (by rw[List.getElem_set_self];rfl) ⟨hd.keeps kl,hn.2.1.keeps kl,hn.2.2.keeps kl⟩ hc;rw[List.set_set]at k2;have e2:(lt.set t (⟨X.id,b,d,X.b2,X.c2,X.own,X.made⟩:Ae)).length=lt.length:=by simp
 rw[e2]at k2;exact⟨k2,⟨cur,hcur⟩,hg⟩
def FF(c:As):Prop:=∀j,j<c.n->∀i,i<j->c.f i<c.f j
def Iu(x:Ae)(s:Aj):Bool:=CX x.b1 x.c1.n x.c1.f x.c1.g x.own.n x.own.h s.b1 s.c1.n s.c1.f s.c1.g&&CX s.b1 s.c1.n s.c1.f s.c1.g x.own.n x.own.h x.b2 x.c2.n x.c2.f x.c2.g
theorem SX(lt:List Ae)(lo:List Ab)(g ca:Nat)(oa:Option Addr)(co B:Nat)(w:qM)(st:Bz w B (qV g lt.length ca) (qV oa lo.length co) lt lo)(hB:B<=w.heap.size)(t:Nat)(ht:t<lt.length)(X:Ae)(hX:X=lt[t])(xs:X.small)(s:Aj)(hs:s.at w)(hk:s.kind=12)(hn1:s.c1.n<=1048576)
 (r1:FF X.c1)(r2:FF X.c2)(r3:FF s.c1):
 Calls prog 44 #[.agg #[qV g lt.length ca,qV oa lo.length co],.int .i64 t,.agg s] w fun e w'=>∃(x:Ae) (c:Int),e= rT (.tuple #[.agg #[qV g lt.length ca,qV oa lo.length co],.int .i64 c,.string ⟨#[]⟩])/\Bz w' B (qV g lt.length ca) (qV oa lo.length co) (lt.set t x) lo/\qN B w w'/\((c=4/\Iu X s=false/\x=X)∨(c=0/\Iu X s=true/\∃d:As,s.c1.same d/\x=⟨X.id,s.b1,d,X.b2,X.c2,X.own,X.made⟩)):=by
 obtain⟨th,kd,id_,to_,cat,dat,sb1,sc1,sb2,sc2⟩:=s;simp only at hk hn1 r3 ⊢;subst hk;have XN:Hid (X.new B w/\(X.own.n<=X.own.k/\X.own.k<=maxLen)):=qC (by rw[hX];exact⟨st.tn _ (qk ht),st.tc _ (qk ht)⟩);have XA:Hid (X.at w):=qC XN.out.1.at;obtain⟨CW,gl⟩:=st.jJ ht;rw[<-hX]at CW;have n3:No (.cells #[th,.int .i64 12,id_,to_,cat,.string dat,sb1,sc1,sb2,sc2] 50):=⟨⟩;have n4:No (.cells #[qV g lt.length ca,qV oa lo.length co] 27):=⟨⟩;have n5:No (.cells #[qV none 0 0,qV none 0 0] 27):=⟨⟩;have n1:Nw (((w.alloc n4).alloc n3).alloc n5):=⟨⟩;have b3:qN w w n1:=((Bg w _).alloc sI _).alloc sO _;have CC:=CW.below gl b3;have q0:(n1:qM).cell? ⟨g,t*7,none⟩=some (.int .i64 X.id):=CC.c0;have q1:(n1:qM).cell? ⟨g,t*7+1,none⟩=some (.int .i64 X.b1):=CC.c1;have q2:(n1:qM).cell? ⟨g,t*7+2,none⟩=some (qV X.c1.a X.c1.n X.c1.k):=CC.c2;have q3:(n1:qM).cell? ⟨g,t*7+3,none⟩=some (.int .i64 X.b2):=CC.c3;have q4:(n1:qM).cell? ⟨g,t*7+4,none⟩=some (qV X.c2.a X.c2.n X.c2.k):=CC.c4;have q5:(n1:qM).cell? ⟨g,t*7+5,none⟩=some (qV X.own.a X.own.n X.own.k):=CC.c5;have q6:(n1:qM).cell? ⟨g,t*7+6,none⟩=some (.int .i64 X.made):=CC.c6;have n2:No (.cells X 53):=⟨⟩;have b0:qN w w ((n1:qM).alloc n2):=(((Bg w _).alloc sI _).alloc sO _).alloc sO _;have A0:Ag ((n1:qM).alloc n2) w n4:=(((Ag.new w _).alloc _).alloc _).alloc _;have P0:Ag ((n1:qM).alloc n2) (w.heap.size+1) n3:=by have:=((Ag.new (w.alloc n4) n3).alloc n5).alloc n2;simpa using this
 have R0:Ag ((n1:qM).alloc n2) (w.heap.size+1+1) n5:=by have:=(Ag.new ((w.alloc n4).alloc n3) n5).alloc n2;simpa using this
 have X0:Ag ((n1:qM).alloc n2) (w.heap.size+1+1+1) n2:=by have:=Ag.new n1 n2;simpa using this
 have HS:=qC (st.below b0);have HB:=qC b0;have HA:=qC A0;have HP:=qC P0;have HR:=qC R0;have HX:=qC X0;have SA:=qC hs;have EX:=qC hX;have i0:(0:Int)<=(t:Int):=by omega
 have i1:(t:Int)<(lt.length:Int):=by omega
 have n6:Na #[sb1,sc1]:=⟨⟩;have F1:Hid (∀W,qN w w W->Calls prog 93 #[.agg #[X.b1,X.c1],X.own,.agg n6] W fun e w'=>e= rT (.bool (CX X.b1 X.c1.n X.c1.f X.c1.g X.own.n X.own.h sb1 sc1.n sc1.f sc1.g))/\qN W W w'):=qC (fun W hW=>GQ _ _ _ _ X.c1.f X.c1.g _ _ _ X.own.h _ _ _ _ sc1.f sc1.g W xs.1 hn1 (XA.out.2.2.1) ((XA.out.below hW).1.2) ((SA.out.below hW).1.2) ((XA.out.below hW).2.2.2) r1 r3);have F2:Hid (∀W,qN w w W->Calls prog 93 #[.agg n6,X.own,.agg #[X.b2,X.c2]] W fun e w'=>e= rT (.bool (CX sb1 sc1.n sc1.f sc1.g X.own.n X.own.h X.b2 X.c2.n X.c2.f X.c2.g))/\qN W W w'):=qC (fun W hW=>GQ _ _ _ _ sc1.f sc1.g _ _ _ X.own.h _ _ _ _ X.c2.f X.c2.g W hn1 xs.2.1 (XA.out.2.2.1) ((SA.out.below hW).1.2) ((XA.out.below hW).2.1.2) ((XA.out.below hW).2.2.2) r3 r2);have CLB:Hid (∀W,qN w w W->Calls prog 90 #[.agg n6] W fun e w'=>∃d:As,e= rT (.agg #[sb1,d])/\sc1.same d/\d.new W w'/\qN W W w'):=qC (fun W hW=>CN sb1 sc1 W (SA.out.below hW).1 hn1);have ER:Hid (Iu X ⟨th,12,id_,to_,cat,dat,sb1,sc1,sb2,sc2⟩=(CX X.b1 X.c1.n X.c1.f X.c1.g X.own.n X.own.h sb1 sc1.n sc1.f sc1.g&&CX sb1 sc1.n sc1.f sc1.g X.own.n X.own.h X.b2 X.c2.n X.c2.f X.c2.g)):=qC rfl;generalize CX X.b1 X.c1.n X.c1.f X.c1.g X.own.n X.own.h sb1 sc1.n sc1.f sc1.g=f1 at *;generalize CX sb1 sc1.n sc1.f sc1.g X.own.n X.own.h X.b2 X.c2.n X.c2.f X.c2.g=f2 at *;generalize Iu X ⟨th,12,id_,to_,cat,dat,sb1,sc1,sb2,sc2⟩=rb at *;clear CC CW b3 b0 A0 P0 R0 X0 hs hX st;go_enter func44,ntmps44
 have WV:=qC HB.out;obtain⟨x0,x1⟩:=HA.out.two;obtain⟨s0,s1,s2,s3,s4,s5,s6,s7,s8,s9⟩:=HP.out.jE;obtain⟨y0,y1,y2,y3,y4,y5,y6⟩:=HX.out.seven;go_wp2_with fail
 have n7:Nv (qV g lt.length ca):=⟨⟩;have BX:Hid (∀W,qN ((n1:qM).alloc n2).heap.size ((n1:qM).alloc n2) W->Ag W w n4/\Ag W (w.heap.size+1) n3/\Ag W (w.heap.size+1+1) n5/\Ag W (w.heap.size+1+1+1) n2/\Bz W B n7 (qV oa lo.length co) lt lo):=qC (fun W hW=>⟨HA.out.below hW,HP.out.below hW,HR.out.below hW,HX.out.below hW,HS.out.below hW⟩);have LW:Hid (∀W,qN ((n1:qM).alloc n2).heap.size ((n1:qM).alloc n2) W->qN w w W):=qC (fun W hW=>Af HB hW);have LB:Hid (∀W,qN ((n1:qM).alloc n2).heap.size ((n1:qM).alloc n2) W->qN B w W):=qC (fun W hW=>(Af HB hW).mono hB);have V0:=qC (Below.refl ((n1:qM).alloc n2).heap.size ((n1:qM).alloc n2));clear x0 x1 s0 s1 s2 s3 s4 s5 s6 s7 s8 s9 y0 y1 y2 y3 y4 y5 y6 q0 q1 q2 q3 q4 q5 q6 HA HP HR HX HS WV;generalize ((n1:qM).alloc n2)=V at *;refine(F1 _ (LW _ V0)).mono ?_;rintro e w1 ⟨rfl,hb1⟩;have V1:=qC (Af V0 hb1);clear hb1;obtain⟨x0,x1⟩:=(BX _ V1).1.two;obtain⟨s0,s1,s2,s3,s4,s5,s6,s7,s8,s9⟩:=(BX _ V1).2.1.jE;obtain⟨r0,r1⟩:=(BX _ V1).2.2.1.two;have rf:=(BX _ V1).2.2.1.jC;obtain⟨y0,y1,y2,y3,y4,y5,y6⟩:=(BX _ V1).2.2.2.1.seven;cases f1 with
 |false=>
  simp only[Bool.false_and]at ER;go_wp2;have RB:=qC (BX.out _ V1).2.2.1;have KB:=qC (BX.out _ V1).2.2.2.2;refine bodyPost_ret (Al _ _ (w.heap.size+1+1) 6 _ _ _ _ Tryz.results44 ((RB.out.jB (i:=0) _).jB (i:=1) _) rfl rfl rfl) rfl ⟨X,4,rfl,?_,?_,.inl ⟨rfl,ER,rfl⟩⟩
  ·rw[EX.out,FE];exact(KB.out.set RB (.inl rfl) _).set (RB.out.jB (i:=0) _) (.inl rfl) _
  ·exact((LB _ V1).setCell qJ _).setCell qJ _
 |true=>
 go_wp2_with fail
 refine(F2 _ (LW _ V1)).mono ?_;rintro e w2 ⟨rfl,hb2⟩;have V2:=qC (Af V1 hb2);clear hb2;clear x0 x1 s0 s1 s2 s3 s4 s5 s6 s7 s8 s9 r0 r1 rf y0 y1 y2 y3 y4 y5 y6;obtain⟨x0,x1⟩:=(BX _ V2).1.two;obtain⟨s0,s1,s2,s3,s4,s5,s6,s7,s8,s9⟩:=(BX _ V2).2.1.jE;obtain⟨r0,r1⟩:=(BX _ V2).2.2.1.two;have rf:=(BX _ V2).2.2.1.jC;obtain⟨y0,y1,y2,y3,y4,y5,y6⟩:=(BX _ V2).2.2.2.1.seven;cases f2 with
 |false=>
  simp only[Bool.and_false]at ER;go_wp2;have RB:=qC (BX.out _ V2).2.2.1;have KB:=qC (BX.out _ V2).2.2.2.2;refine bodyPost_ret (Al _ _ (w.heap.size+1+1) 6 _ _ _ _ Tryz.results44 ((RB.out.jB (i:=0) _).jB (i:=1) _) rfl rfl rfl) rfl ⟨X,4,rfl,?_,?_,.inl ⟨rfl,ER,rfl⟩⟩
  ·rw[EX.out,FE];exact(KB.out.set RB (.inl rfl) _).set (RB.out.jB (i:=0) _) (.inl rfl) _
  ·exact((LB _ V2).setCell qJ _).setCell qJ _
 |true=>
 simp only[Bool.and_true]at ER;have EG:Hid (∀args w,(callFunc 90 args).run prog w= .ok (.enter 90 args) w):=qC (enters_of func90 kR rfl);have D0:=qC (Az V2);clear x0 x1 s0 s1 s2 s3 s4 s5 s6 s7 s8 s9 r0 r1 rf y0 y1 y2 y3 y4 y5 y6;obtain⟨x0,x1⟩:=(BX _ D0).1.two;obtain⟨s0,s1,s2,s3,s4,s5,s6,s7,s8,s9⟩:=(BX _ D0).2.1.jE;obtain⟨r0,r1⟩:=(BX _ D0).2.2.1.two;have rf:=(BX _ D0).2.2.1.jC;obtain⟨y0,y1,y2,y3,y4,y5,y6⟩:=(BX _ D0).2.2.2.1.seven;have CP:Hid (Calls prog 90 #[.agg n6] w2.drew fun e w'=>∃v,e= rT v/\(∃d:As,v= .agg #[sb1,d]/\sc1.same d/\d.new w2.drew.heap.size w'/\qN w2.drew.heap.size w2.drew w')):=qC ((CLB _ (LW _ D0)).mono fun _ _ ⟨d,e1,h1,h2,h3⟩=>⟨_,e1,d,rfl,h1,h2,h3⟩);go_wp2_with fail
 go_region_law(first
  |(refine EJ qK 90 _ _ qK EG _ qK _ CP ?_;rintro v w3 ⟨d,rfl,sd,nd,b3⟩;have V3:=qC (Af D0 b3);have SD:=qC sd;have ND:=qC (nd.low (Nat.le_trans hB (LW _ D0).size));obtain⟨m0,m1⟩:=(BX _ V3).1.two;have KB:=qC (BX.out _ V3).2.2.2.2;have CC:=(KB.out.jJ ht).1;have c1:=CC.c1;have c2:=CC.c2;have GF:=qC (KB.out.setLab (b:=sb1) (d:=d) ht EX ND);have gf:=GF.out.2.1.choose_spec.jC;clear sd nd b3 CC))
 all_goals(
  have ng1:g≠w.heap.size:=by omega
  have ng2:g≠w.heap.size+1+1:=by omega
  have K4:Hid (Bz ((w3.setCell ⟨g,t*7+1,none⟩ (.int .i64 sb1)).setCell ⟨g,t*7+1+1,none⟩ (qV d.a d.n d.k)) B n7 (qV oa lo.length co) (lt.set t ⟨X.id,sb1,d,X.b2,X.c2,X.own,X.made⟩) lo):=qC GF.out.1;have A4:=qC (((BX _ V3).1.other ng1 (i:=t*7+1) (.int .i64 sb1)).other ng1 (i:=t*7+1+1) (qV d.a d.n d.k));have R4:=qC (((BX _ V3).2.2.1.other ng2 (i:=t*7+1) (.int .i64 sb1)).other ng2 (i:=t*7+1+1) (qV d.a d.n d.k));have L4:Hid (qN B w ((w3.setCell ⟨g,t*7+1,none⟩ (.int .i64 sb1)).setCell ⟨g,t*7+1+1,none⟩ (qV d.a d.n d.k))):=qC (((LB _ V3).setCell (by dsimp only;exact GF.out.2.2) _).setCell (by dsimp only;exact GF.out.2.2) _);clear GF gf c1 c2 KB m0 m1 x0 x1 s0 s1 s2 s3 s4 s5 s6 s7 s8 s9 r0 r1 rf y0 y1 y2 y3 y4 y5 y6 ND;generalize (w3.setCell ⟨g,t*7+1,none⟩ (.int .i64 sb1)).setCell ⟨g,t*7+1+1,none⟩ (qV d.a d.n d.k)=W4 at *;obtain⟨x0,x1⟩:=A4.out.two;obtain⟨r0,r1⟩:=R4.out.two;have rf:=R4.out.jC;go_wp2;refine bodyPost_ret (Al _ _ (w.heap.size+1+1) 6 _ _ _ _ Tryz.results44 ((R4.out.jB (i:=0) _).jB (i:=1) _) rfl rfl rfl) rfl ⟨⟨X.id,sb1,d,X.b2,X.c2,X.own,X.made⟩,0,rfl,(K4.out.set R4 (.inl rfl) _).set (R4.out.jB (i:=0) _) (.inl rfl) _,(L4.out.setCell qJ _).setCell qJ _,.inr ⟨rfl,ER,d,SD,rfl⟩⟩)
open _root_.List renaming range_succ→kZ,map_append→kF,filter_append→zU
open Go.World renaming ownsRow→qq
variable {w:qM}{B j:Nat}{l:List Int}{h:Nat->Int}{c:Int}
theorem AI.newL{c:Nat}{a:Option Addr}(h:AI w B (qV a l.length c) l)(hl:l.length<=1048576):AJ.new B w ⟨a,l.length,c,AZ l⟩:=by
 refine Rr ?_ hl;have e:(qx l.length).map (AZ l)=l:=List.ext_getElem sI fun i h1 h2=>by simp[AZ,h2]
 rw[e];exact h
theorem AI.below'{w':qM}{v:Value}(h:AI w B v l)(hb:qN w w w'):AI w' B v l:=qq.kept (row:=none) h ⟨hb.os,hb.tape,hb.output,hb.size,fun k hk _=>hb.block k hk⟩ (by cases v.ownBlock<;>simp)
theorem Bz.setOwn{g ca:Nat}{vo:Value}{lt:List Ae}{lo:List Ab}(h:Bz w B (qV g lt.length ca) vo lt lo){t:Nat}{d:AJ}(ht:t<lt.length){X:Ae}(hX:X=lt[t])(hd:d.new B w)(hdc:d.n<=d.k/\d.k<=maxLen):
 Bz (w.setCell ⟨g,t*7+5,none⟩ (qV d.a d.n d.k)) B (qV g lt.length ca) vo (lt.set t ⟨X.id,X.b1,X.c1,X.b2,X.c2,d,X.made⟩) lo/\(∃cur,Ag w g (qG cur 53))/\B<=g:=by
 have hn:=h.tn _ (qk ht);rw[<-hX]at hn;obtain⟨k1,hcur,hg⟩:=h.setT (x:=⟨X.id,X.b1,X.c1,X.b2,X.c2,d,X.made⟩) (u:= qV d.a d.n d.k) ht (i:=5) qQ (by rw[<-hX];rfl) ⟨hn.1,hn.2.1,hd⟩ hdc;have el:(lt.set t (⟨X.id,X.b1,X.c1,X.b2,X.c2,d,X.made⟩:Ae)).length=lt.length:=by simp
 rw[el]at k1;exact⟨k1,hcur,hg⟩
def Dm(h:Nat->Int)(c:Int)(j:Nat):List Int:=((qx j).map h).filter (fun y=> !decide (y=c))
theorem PE(e:h j=c):Dm h c (j+1)=Dm h c j:=by
 unfold Dm;rw[kZ,kF,zU];simp[e]
theorem VB(e:h j≠c):Dm h c (j+1)=Dm h c j++[h j]:=by
 unfold Dm;rw[kZ,kF,zU];simp[e]
theorem MN(h:Nat->Int)(c:Int)(j:Nat):(Dm h c j).length<=j:=by
 unfold Dm;refine qj (List.length_filter_le _ _) ?_;simp
theorem RJ(lt:List Ae)(lo:List Ab)(g ca:Nat)(oa:Option Addr)(co B:Nat)(w:qM)(st:Bz w B (qV g lt.length ca) (qV oa lo.length co) lt lo)(hB:B<=w.heap.size)(t:Nat)(ht:t<lt.length)(X:Ae)(hX:X=lt[t])(xs:X.small)(s:Aj)(hk:s.kind=14):
 Calls prog 44 #[.agg #[qV g lt.length ca,qV oa lo.length co],.int .i64 t,.agg s] w fun e w'=>∃(x:Ae) (c:Int),e= .returned (.tuple #[.agg #[qV g lt.length ca,qV oa lo.length co],.int .i64 c,.string ⟨#[]⟩])/\Bz w' B (qV g lt.length ca) (qV oa lo.length co) (lt.set t x) lo/\qN B w w'/\((c=4/\hasB X.own.n X.own.h s.cat=false/\x=X)∨(c=0/\hasB X.own.n X.own.h s.cat=true/\∃(a:Option Addr) (cc:Nat),x=⟨X.id,X.b1,X.c1,X.b2,X.c2,⟨a,(Dm X.own.h s.cat X.own.n).length,cc,AZ (Dm X.own.h s.cat X.own.n)⟩,X.made⟩)):=by
 obtain⟨th,kd,id_,to_,cat,dat,sb1,sc1,sb2,sc2⟩:=s;simp only at hk ⊢;subst hk;have XN:Hid (X.new B w/\(X.own.n<=X.own.k/\X.own.k<=maxLen)):=qC (by rw[hX];exact⟨st.tn _ (qk ht),st.tc _ (qk ht)⟩);have XA:Hid (X.at w):=qC XN.out.1.at;have on1:X.own.n<=1048576:=xs.2.2;obtain⟨CW,gl⟩:=st.jJ ht;rw[<-hX]at CW;have n4:No (qG #[th,.int .i64 14,id_,to_,cat,.string dat,sb1,sc1,sb2,sc2] 50):=⟨⟩;have n5:No (qG #[qV g lt.length ca,qV oa lo.length co] 27):=⟨⟩;have n6:No (qG #[qV none 0 0,qV none 0 0] 27):=⟨⟩;have n1:Nw (((w.alloc n5).alloc n4).alloc n6):=⟨⟩;have b3:qN w w n1:=((Bg w _).alloc sI _).alloc sO _;have CC:=CW.below gl b3;have q0:(n1:qM).cell? ⟨g,t*7,none⟩=some (.int .i64 X.id):=CC.c0;have q1:(n1:qM).cell? ⟨g,t*7+1,none⟩=some (.int .i64 X.b1):=CC.c1;have q2:(n1:qM).cell? ⟨g,t*7+2,none⟩=some (qV X.c1.a X.c1.n X.c1.k):=CC.c2;have q3:(n1:qM).cell? ⟨g,t*7+3,none⟩=some (.int .i64 X.b2):=CC.c3;have q4:(n1:qM).cell? ⟨g,t*7+4,none⟩=some (qV X.c2.a X.c2.n X.c2.k):=CC.c4;have q5:(n1:qM).cell? ⟨g,t*7+5,none⟩=some (qV X.own.a X.own.n X.own.k):=CC.c5;have q6:(n1:qM).cell? ⟨g,t*7+6,none⟩=some (.int .i64 X.made):=CC.c6;have n3:No (qG X 53):=⟨⟩;have b0:qN w w ((n1:qM).alloc n3):=(((Bg w _).alloc sI _).alloc sO _).alloc sO _;have A0:Ag ((n1:qM).alloc n3) w n5:=(((Ag.new w _).alloc _).alloc _).alloc _;have P0:Ag ((n1:qM).alloc n3) (w.heap.size+1) n4:=by have:=((Ag.new (w.alloc n5) n4).alloc n6).alloc n3;simpa using this
 have R0:Ag ((n1:qM).alloc n3) (w.heap.size+1+1) n6:=by have:=(Ag.new ((w.alloc n5).alloc n4) n6).alloc n3;simpa using this
 have X0:Ag ((n1:qM).alloc n3) (w.heap.size+1+1+1) n3:=by have:=Ag.new n1 n3;simpa using this
 have HS:=qC (st.below b0);have HB:=qC b0;have HA:=qC A0;have HP:=qC P0;have HR:=qC R0;have HX:=qC X0;have EX:=qC hX;have i0:(0:Int)<=(t:Int):=by omega
 have i1:(t:Int)<(lt.length:Int):=by omega
 have F1:Hid (∀W,qN w w W->Calls prog 94 #[X.own,cat] W fun e w'=>e= .returned (.bool (hasB X.own.n X.own.h cat))/\w'=W):=qC (fun W hW=>J7 _ _ _ X.own.h cat W XA.out.2.2.1 ((XA.out.below hW).2.2.2));have OI:Hid (∀W,qN w w W->Bp W X.own.a X.own.n X.own.h):=qC (fun W hW=>(XA.out.below hW).2.2.2);obtain⟨hb_,eh⟩:∃b,b=hasB X.own.n X.own.h cat:=⟨_,rfl⟩;rw[<-eh]at F1;have EH:=qC eh;clear CC CW b3 b0 A0 P0 R0 X0 hX st eh;go_enter func44,ntmps44
 obtain⟨x0,x1⟩:=HA.out.two;obtain⟨s0,s1,s2,s3,s4,s5,s6,s7,s8,s9⟩:=HP.out.jE;obtain⟨y0,y1,y2,y3,y4,y5,y6⟩:=HX.out.seven;go_wp2_with fail
 have n7:No (qG #[th,.int .i64 14,id_,to_,cat,.string dat,sb1,sc1,sb2,sc2] 50):=⟨⟩;have n8:No (qG X 53):=⟨⟩;have n2:Nw ((((w.alloc n5).alloc n7).alloc n6).alloc n8):=⟨⟩;have BX:Hid (∀W,qN (n2:qM).heap.size n2 W->Ag W w n5/\Ag W (w.heap.size+1) n7/\Ag W (w.heap.size+1+1) n6/\Ag W (w.heap.size+1+1+1) n8/\Bz W B (qV g lt.length ca) (qV oa lo.length co) lt lo):=qC (fun W hW=>⟨HA.out.below hW,HP.out.below hW,HR.out.below hW,HX.out.below hW,HS.out.below hW⟩);have LW:Hid (∀W,qN (n2:qM).heap.size n2 W->qN w w W):=qC (fun W hW=>Af HB hW);have LB:Hid (∀W,qN (n2:qM).heap.size n2 W->qN B w W):=qC (fun W hW=>(Af HB hW).mono hB);have V0:=qC (Below.refl (n2:qM).heap.size n2);clear x0 x1 s0 s1 s2 s3 s4 s5 s6 s7 s8 s9 y0 y1 y2 y3 y4 y5 y6 q0 q1 q2 q3 q4 q5 q6 HA HP HR HX HS;generalize (n2:qM)=V at *;refine(F1 _ (LW _ V0)).mono ?_;rintro e w1 ⟨rfl,rfl⟩;obtain⟨x0,x1⟩:=(BX _ V0).1.two;obtain⟨s0,s1,s2,s3,s4,s5,s6,s7,s8,s9⟩:=(BX _ V0).2.1.jE;obtain⟨r0,r1⟩:=(BX _ V0).2.2.1.two;have rf:=(BX _ V0).2.2.1.jC;obtain⟨y0,y1,y2,y3,y4,y5,y6⟩:=(BX _ V0).2.2.2.1.seven;cases hb_ with
 |false=>
  go_wp2;have RB:=qC (BX.out _ V0).2.2.1;have KB:=qC (BX.out _ V0).2.2.2.2;refine bodyPost_ret (Al _ _ (w.heap.size+1+1) 6 _ _ _ _ Tryz.results44 ((RB.out.jB (i:=0) _).jB (i:=1) _) rfl rfl rfl) rfl ⟨X,4,rfl,?_,?_,.inl ⟨rfl,EH.out.symm,rfl⟩⟩
  ·rw[EX.out,FE];exact(KB.out.set RB (.inl rfl) _).set (RB.out.jB (i:=0) _) (.inl rfl) _
  ·exact((LB _ V0).setCell qJ _).setCell qJ _
 |true=>
 have E0:=qC (AI.made w1 w1 nr);have BE:=qC (Bg w1 (qG #[] 2));go_wp2;clear x0 x1 s0 s1 s2 s3 s4 s5 s6 s7 s8 s9 r0 r1 rf y0 y1 y2 y3 y4 y5 y6;go_loopw [11,12] (fun v i wr=>∃(j:Nat) (la:Option Addr) (lc:Nat),j<=X.own.n/\i= .int .i64 j/\v= qV la (Dm X.own.h cat j).length lc/\AI wr w1 (qV la (Dm X.own.h cat j).length lc) (Dm X.own.h cat j)/\qN w1 w1 wr) (fun _ i _=>X.own.n-(intOf i).toNat)
 case atStart=>exact⟨0,_,0,Nat.zero_le _,rfl,rfl,E0,BE⟩
 case round=>
  clear E0 BE;obtain⟨j,la,lc,hj,rfl,rfl,ow,be⟩:=hrel;have OW:=qC ow;have BB:=qC be;have ll:=MN X.own.h cat j;clear ow be;obtain⟨x0,x1⟩:=(BX _ BB).1.two;obtain⟨s0,s1,s2,s3,s4,s5,s6,s7,s8,s9⟩:=(BX _ BB).2.1.jE;obtain⟨r0,r1⟩:=(BX _ BB).2.2.1.two;have rf:=(BX _ BB).2.2.1.jC;obtain⟨y0,y1,y2,y3,y4,y5,y6⟩:=(BX _ BB).2.2.2.1.seven;by_cases hlt:j<X.own.n
  ·have i2:(j:Int)<(X.own.n:Int):=qQ;have i3:(0:Int)<=(j:Int):=qQ;obtain⟨b,off,ea,hbl,hc⟩:=OI.out _ (LW _ BB) qQ;have c0:=hc j hlt;have EA:=qC ea;rw[ea]at y5;have HC:Hid (∀W,qN w1 w1 W->W.cell? ⟨b,off+j,none⟩=some (.int .i64 (X.own.h j))):=qC (fun W hW=>by
    obtain⟨b',off',ea',_,hc'⟩:=OI.out _ (LW _ hW) qQ;rw[EA.out]at ea';cases ea';exact hc' j hlt)
   clear hc ea;have HLT:=qC hlt;by_cases he:X.own.h j=cat
   ·have EE:=qC he;have hd:(X.own.h j==cat)=true:=(by simpa using he);have hd':decide (X.own.h j=cat)=true:=decide_eq_true he;clear he;go_wp2_with fail
    go_quiet(fail)
    go_wp2;go_roundw;case rel=>exact⟨j+1,la,lc,by have:=HLT.out;omega,by go_num,by rw[PE EE.out],by rw[PE EE.out];exact OW.out.below' (below_drewN (Below.refl _ wr) _),BB.out.trans ((below_drewN (Below.refl _ wr) _).mono BB.out.size)⟩
    case measure=>have:=HLT.out;simp[intOf];omega
   ·have EE:=qC he;have hd:(X.own.h j==cat)=false:=(by simpa using he);have hd':decide (X.own.h j=cat)=false:=decide_eq_false he;clear he;go_wp2_with fail
    go_quiet(fail)
    have bn:qN wr wr (wr.drewN nq):=below_drewN (Below.refl _ wr) nq;have OWn:=qC (OW.out.below' bn);have BBn:=qC (BB.out.trans (bn.mono BB.out.size));clear x0 x1 s0 s1 s2 s3 s4 s5 s6 s7 s8 s9 r0 r1 rf y0 y1 y2 y3 y4 y5 y6;clear bn OW BB c0;generalize wr.drewN nq=W at *;obtain⟨x0,x1⟩:=(BX _ BBn).1.two;obtain⟨s0,s1,s2,s3,s4,s5,s6,s7,s8,s9⟩:=(BX _ BBn).2.1.jE;obtain⟨r0,r1⟩:=(BX _ BBn).2.2.1.two;have rf:=(BX _ BBn).2.2.1.jC;obtain⟨y0,y1,y2,y3,y4,y5,y6⟩:=(BX _ BBn).2.2.2.1.seven;rw[EA.out]at y5;have c0:=HC.out _ BBn.out;have n10:No (qG #[.int .i64 (X.own.h j)] 2):=⟨⟩;have QO:=qC (OWn.out.alloc n10);have QL:=qC (Ec.one (w:=W) (X.own.h j));have sQ:w1.heap.size<=(W.alloc n10).heap.size:=(by have:=BBn.out.size;simp;omega);have bQ:=qC (BBn.out.alloc BBn.out.size n10);have ER:=qC (VB EE);have lR:(Dm X.own.h cat (j+1)).length<=4194304:=(by have:=MN X.own.h cat (j+1);omega);go_wp2_with(at_builtin;refine Bf _ rfl _ _ rfl w1 (qV la (Dm X.own.h cat j).length lc) (Dm X.own.h cat j) rfl QO _ 1 1 [X.own.h j] rfl rfl QL (Dm X.own.h cat (j+1)) ER lR sQ ?_;intro a7 c7 w7 o7 g7 h7;have O7:=qC o7;have B7:Hid (qN w1 w1 w7):=qC (bQ.out.trans (below_grown g7 sQ (fun j e=>(qq.lt QO j e).1)));clear o7 g7 h7)
    go_roundw;case rel=>exact⟨j+1,a7,c7,by have:=HLT.out;omega,by go_num,rfl,O7,B7⟩
    case measure=>have:=HLT.out;simp[intOf];omega
  ·obtain rfl:j=X.own.n:=by omega
   have i2:¬(X.own.n:Int)<(X.own.n:Int):=qQ;have ND:Hid (AJ.new B wr ⟨la,(Dm X.own.h cat X.own.n).length,lc,AZ (Dm X.own.h cat X.own.n)⟩):=qC (((OW.out.newL qQ).low (qj hB HB.out.size)));have CP:=qC (Dj OW);have KB:=qC (BX.out _ BB).2.2.2.2;have CC:=(KB.out.jJ ht).1;have c5:=CC.c5;have GF:=qC (KB.out.setOwn (d:=⟨la,(Dm X.own.h cat X.own.n).length,lc,AZ (Dm X.own.h cat X.own.n)⟩) ht EX ND CP);have gf:=GF.out.2.1.choose_spec.jC;have ng1:¬g=w.heap.size:=qQ;have ng2:¬g=w.heap.size+1+1:=qQ;have ng3:¬w.heap.size=g:=qQ;have ng4:¬w.heap.size+1+1=g:=qQ;have n9:Nv (qV la (Dm X.own.h cat X.own.n).length lc):=⟨⟩;have A4:=qC ((BX _ BB).1.other (Q:=g) ng1 (i:=t*7+5) n9);have R4:=qC ((BX _ BB).2.2.1.other (Q:=g) ng2 (i:=t*7+5) n9);have L4:Hid (qN B w (wr.setCell ⟨g,t*7+5,none⟩ n9)):=qC ((LB _ BB).setCell (by dsimp only;exact GF.out.2.2) _);clear CC;go_wp2;refine bodyPost_ret (Al _ _ (w.heap.size+1+1) 6 _ _ _ _ Tryz.results44 ((R4.out.jB (i:=0) _).jB (i:=1) _) rfl rfl rfl) rfl ⟨_,0,rfl,(GF.out.1.set R4 (.inl rfl) _).set (R4.out.jB (i:=0) _) (.inl rfl) _,(L4.out.setCell qJ _).setCell qJ _,.inr ⟨rfl,EH.out.symm,la,lc,rfl⟩⟩
open _root_.Nat renaming le_refl→jP
def putAt(L:List Int)(x:Int):Nat:=L.findIdx (fun y=> !decide (y<x))
def Eh(L:List Int)(x:Int):List Int:=if L[putAt L x]? =some x then L else L.take (putAt L x)++[x]++L.drop (putAt L x)
theorem TF{L:List Int}{x:Int}{k:Nat}(hk:k<=L.length)(h1:∀j,j<k->AZ L j<x)(h2:k=L.length∨¬AZ L k<x):putAt L x=k:=by
 unfold putAt;by_cases e:k<L.length
 ·rw[List.findIdx_eq e];have h3:¬AZ L k<x:=by
   rcases h2 with h2|h2
   ·omega
   ·exact h2
  refine⟨?_,fun j hj=>?_⟩
  ·simp[AZ,e]at h3;simpa using h3
  ·have:=h1 j hj;have hj':j<L.length:=qQ;simp[AZ,hj']at this;simpa using this
 ·have ek:k=L.length:=by omega
  subst ek;rw[List.findIdx_eq_length];intro y hy;obtain⟨j,hj,rfl⟩:=List.getElem_of_mem hy;have:=h1 j hj;simp[AZ,hj]at this;simpa using this
theorem Ra(A:Addr)(cap:Nat)(L:List Int)(x:Int)(w:World)(hn:L.length<=1048576)(hcap:L.length<=cap)(hcm:cap<=maxLen)(hc:Ec w (some A) L):
 Calls prog 92 #[qV (some A) L.length cap,.int .i64 x] w fun e w'=>∃va vc,e= .returned (qV va (Eh L x).length vc)/\AI w' w (qV va (Eh L x).length vc) (Eh L x)/\Below w w w':=by
 have hi:=hc.ints;unfold maxLen at hcm;go_enter func92,ntmps92
 go_wp2;go_loop [5] (fun i=>∃k:Nat,k<=L.length/\i= .int .i64 k/\(∀j,j<k->AZ L j<x)) (fun i=>L.length-(intOf i).toNat)
 case atStart=>exact⟨0,Nat.zero_le _,rfl,fun j hj=>by omega⟩
 case round=>
  obtain⟨k,hk,rfl,hall⟩:=hrel;have HA:Hid (∀j,j<k->AZ L j<x):=hall;clear hall;have HC:Hid (Ec w (some A) L):=hc;by_cases hlt':k<L.length
  ·obtain⟨b,off,eA,hlt,hcc⟩:=hi qQ;obtain rfl:A=⟨b,off,none⟩:=by simpa using eA
   have g1:=hcc k hlt';have hki:(k:Int)<(L.length:Int):=qQ;clear hcc hc hi;by_cases t:AZ L k<x
   ·go_wp2;go_round;case rel=>
     refine⟨k+1,by omega,by go_num,fun j hj=>?_⟩;by_cases e:j=k
     ·subst e;exact t
     ·exact HA.out j qQ
    case measure=>simp[intOf];omega
   ·have ek:putAt L x=k:=TF qQ HA (.inr t);obtain⟨T,hT⟩:∃T,T=L.take k:=⟨_,rfl⟩;obtain⟨D,hD⟩:∃D,D=L.drop k:=⟨_,rfl⟩;have lT:Hid (T.length=k):=(by show _=_;rw[hT,List.length_take];omega);have lD:Hid (D.length=L.length-k):=(by show _=_;rw[hD,List.length_drop]);obtain⟨R2,hR2⟩:∃R2,R2=T++[x]:=⟨_,rfl⟩;obtain⟨R3,hR3⟩:∃R3,R3=R2++D:=⟨_,rfl⟩;have lR3:Hid (R3.length=L.length+1):=(by show _=_;rw[hR3,hR2];simp[lT.out,lD.out];omega);have lR2:Hid (R2.length=k+1):=(by show _=_;rw[hR2];simp[lT.out]);have HT:Hid (T=L.take k):=hT;have HD:Hid (D=L.drop k):=hD;have HR2:Hid (R2=T++[x]):=hR2;have HR3:Hid (R3=R2++D):=hR3;have HK:Hid (putAt L x=k):=ek;have ID:Ec w (some ⟨b,off+k,none⟩) D:=(by rw[hD];exact HC.out.drop k);clear hT hD hR2 hR3 ek;have E0:Below w w (w.alloc (.cells #[] 2)):=Bg w _;have O0:=AI.made w w nr;have s0:(w.alloc (.cells #[] 2)).heap.size=w.heap.size+1:=sI;have ki:(k:Int)<=(L.length:Int):=qQ;have kc:(k:Int)<=(cap:Int):=qQ;cases t2:(AZ L k==x)with
    |true=>
     have HX:Hid (L[k]? =some x):=(by show _=_;have:=beq_iff_eq.1 t2;simp[AZ,hlt']at this;simp[hlt',this]);go_wp2_with(at_builtin;refine Bf _ rfl _ _ rfl w _ [] rfl O0 _ _ _ L rfl rfl (HC.out.below E0) L sI qQ sI ?_;intro a' c' w' hown' hgrow' hat')
     go_ret;have e:Eh L x=L:=(by unfold Eh;rw[HK.out,HX.out];simp);rw[e];exact⟨_,_,rfl,hown',E0.grown hgrow' sI (fun j e=>by cases e;exact jP _)⟩
    |false=>
     have HX:Hid (¬L[k]? =some x):=(by show ¬_;have:=beq_eq_false_iff_ne.1 t2;simp[AZ,hlt']at this;simp[hlt',this]);go_wp2_with(first
      |(at_builtin;have hq:=hown2;clear hq;refine Bf _ rfl _ _ rfl w (qV a2 R2.length c2) R2 rfl hown2 _ _ _ D rfl lD (ID.below E2) R3 HR3 (by rw[lR3.out];omega) E2.size ?_;intro a3 c3 w3 hown3 hgrow3 hat3)
      |(at_builtin;have hq:=hown1;clear hq;refine Bf _ rfl _ _ rfl w (qV a1 T.length c1) T rfl (hown1.alloc _) _ _ _ [x] rfl rfl (Ec.one x) R2 HR2 (by rw[lR2.out];omega) (qj E1.size sI) ?_;intro a2 c2 w2 hown2 hgrow2 hat2;have E2:Below w w w2:=(E1.alloc E1.size _).grown hgrow2 (qj E1.size sI) (fun j e=>(qq.lt hown1 j e).1))
      |(at_builtin;refine Bf _ rfl _ _ rfl w (qV (some ⟨w,0,none⟩) 0 0) [] rfl O0 _ _ _ T rfl lT ((HT.out▸HC.out.take k).below E0) T sI (by rw[lT.out];omega) sI ?_;intro a1 c1 w1 hown1 hgrow1 hat1;have E1:Below w w w1:=E0.grown hgrow1 sI (fun j e=>by cases e;exact jP _)))
     go_ret;have e:Eh L x=R3:=by
      unfold Eh;rw[HK.out,if_neg HX.out,HR3.out,HR2.out,HT.out,HD.out]
     rw[e];exact⟨_,_,rfl,hown3,E2.grown hgrow3 E2.size (fun j e=>(qq.lt hown2 j e).1)⟩
  ·have hkL:k=L.length:=qQ;have ek:putAt L x=k:=TF qQ HA (.inl hkL);have HK:Hid (putAt L x=k):=ek;have HKL:Hid (k=L.length):=hkL;obtain⟨R2,hR2⟩:∃R2,R2=L++[x]:=⟨_,rfl⟩;have HR2:Hid (R2=L++[x]):=hR2;have lR2:Hid (R2.length=L.length+1):=(by show _=_;rw[hR2];simp);have nk:¬(k:Int)<(L.length:Int):=qQ;clear hR2 ek hkL hc hi;have E0:Below w w (w.alloc (.cells #[] 2)):=Bg w _;have O0:=AI.made w w nr;have kc:(k:Int)<=(cap:Int):=qQ;have dV:Hid (Eh L x=R2):=by
    show _=_;unfold Eh;rw[HK.out,if_neg (by rw[List.getElem?_eq_none (by have:=HKL.out;omega)];simp),HR2.out,HKL.out];simp
   go_wp2_with(first
    |(at_builtin;have hq:=hown2;clear hq;refine Bf _ rfl _ _ rfl w (qV a2 R2.length c2) R2 rfl hown2 _ _ _ [] rfl (by have:=HKL.out;simp;omega) (Ec.none _ _) R2 sI (by rw[lR2.out];omega) E2.size ?_;intro a3 c3 w3 hown3 hgrow3 hat3)
    |(at_builtin;have hq:=hown1;clear hq;refine Bf _ rfl _ _ rfl w (qV a1 L.length c1) L rfl (hown1.alloc _) _ _ _ [x] rfl rfl (Ec.one x) R2 HR2 (by rw[lR2.out];omega) (qj E1.size sI) ?_;intro a2 c2 w2 hown2 hgrow2 hat2;have E2:Below w w w2:=(E1.alloc E1.size _).grown hgrow2 (qj E1.size sI) (fun j e=>(qq.lt hown1 j e).1))
    |(at_builtin;refine Bf _ rfl _ _ rfl w (qV (some ⟨w,0,none⟩) 0 0) [] rfl O0 _ _ _ L rfl HKL.out.symm (HC.out.below E0) L sI qQ sI ?_;intro a1 c1 w1 hown1 hgrow1 hat1;have E1:Below w w w1:=E0.grown hgrow1 sI (fun j e=>by cases e;exact jP _)))
   all_goals
    go_ret;rw[dV.out];exact⟨_,_,rfl,hown3,E2.grown hgrow3 E2.size (fun j e=>(qq.lt hown2 j e).1)⟩
theorem Wk(cap:Nat)(x:Int)(w:World):
 Calls prog 92 #[qV none 0 cap,.int .i64 x] w fun e w'=>∃va vc,e= .returned (qV va 1 vc)/\AI w' w (qV va 1 vc) [x]/\Below w w w':=by
 have E0:Below w w (w.alloc (.cells #[] 2)):=Bg w _;have O0:=AI.made w w nr;go_enter func92,ntmps92
 go_wp2;go_loopw [5] (fun i wr=>i= .int .i64 0/\wr=w) (fun i _=>(intOf i).toNat)
 case atStart=>exact⟨rfl,rfl⟩
 case round=>
  obtain⟨rfl,rfl⟩:=hrel;go_wp2_with(first
   |(at_builtin;have hq:=hown2;clear hq;refine Bf _ rfl _ _ rfl wr (qV a2 1 c2) [x] rfl hown2 _ _ _ [] rfl rfl (Ec.none _ _) [x] rfl sI E2.size ?_;intro a3 c3 w3 hown3 hgrow3 hat3)
   |(at_builtin;have hq:=hown1;clear hq;refine Bf _ rfl _ _ rfl wr (qV a1 0 c1) [] rfl (hown1.alloc _) _ _ _ [x] rfl rfl (Ec.one x) [x] rfl sI (qj E1.size sI) ?_;intro a2 c2 w2 hown2 hgrow2 hat2;have E2:Below wr wr w2:=(E1.alloc E1.size _).grown hgrow2 (qj E1.size sI) (fun j e=>(qq.lt hown1 j e).1))
   |(at_builtin;refine Bf _ rfl _ _ rfl wr (qV (some ⟨wr,0,none⟩) 0 0) [] rfl O0 _ _ _ [] rfl rfl (Ec.none _ _) [] rfl sI sI ?_;intro a1 c1 w1 hown1 hgrow1 hat1;have E1:Below wr wr w1:=E0.grown hgrow1 sI (fun j e=>by cases e;exact Nat.le_refl _)))
  go_ret;exact⟨_,_,rfl,hown3,E2.grown hgrow3 E2.size (fun j e=>(qq.lt hown2 j e).1)⟩
theorem QK(c:AJ)(x:Int)(w:World)(hc:c.at w)(hn:c.n<=1048576)(hcap:c.n<=c.k/\c.k<=maxLen):
 Calls prog 92 #[c,.int .i64 x] w fun e w'=>∃va vc,e= .returned (qV va (Eh ((qx c.n).map c.h) x).length vc)/\AI w' w (qV va (Eh ((qx c.n).map c.h) x).length vc) (Eh ((qx c.n).map c.h) x)/\Below w w w':=by
 have el:((qx c.n).map c.h).length=c.n:=by simp
 cases ha:c.a with
 |some A=>
  have hi:=hc.2.intL;rw[ha]at hi;have h:=Ra A c.k ((qx c.n).map c.h) x w (by rw[el];exact hn) (by rw[el];exact hcap.1) hcap.2 hi;rw[el]at h;exact h
 |none=>
  have h0:c.n=0:=by
   by_cases e:0<c.n
   ·obtain⟨b,off,e',_⟩:=hc.2 e;rw[ha]at e';cases e'
   ·omega
  rw[h0];exact Wk c.k x w
def Dd(n:Nat):List UInt8:=if h:n<10 then[UInt8.ofNat (48+n)]else Dd (n/10)++[UInt8.ofNat (48+n%10)]
termination_by n
decreasing_by omega
theorem Hy{n:Nat}(h:n<10):Dd n=[UInt8.ofNat (48+n)]:=by rw[Dd,dif_pos h]
theorem Lx{n:Nat}(h:¬n<10):Dd n=Dd (n/10)++[UInt8.ofNat (48+n%10)]:=by rw[Dd,dif_neg h]
def N7(c:Int×Int):List UInt8:=44::(Dd c.1.toNat++58::Dd c.2.toNat)
def Xh(base:Int)(cats:List (Int×Int)):List UInt8:=Dd base.toNat++(cats.map N7).flatten
theorem Po(base:Int)(cats:List (Int×Int))(c:Int×Int):Xh base (cats++[c])=Xh base cats++N7 c:=by simp[Xh]

open _root_.List renaming length_append→jU
theorem He(a l:List UInt8):((⟨a.toArray⟩:ByteArray)++(⟨l.toArray⟩:ByteArray))=⟨(a++l).toArray⟩:=by
 apply ByteArray.ext;apply Array.ext';simp
theorem Gj(n:Nat):(Dd n).length<=n+1:=by
 induction n using Nat.strongRecOn with
 |_ n ih=>
  by_cases h:n<10
  ·rw[Hy h];simp
  ·rw[Lx h,jU];have:=ih (n/10) qQ;simp;omega
theorem Kf(n:Nat)(w:World)(hn:n<=10000000000):
 Calls prog 17 #[.int .i64 n] w fun e w'=>e= .returned (.string ⟨(Dd n).toArray⟩)/\Below w w w':=by
 have hlen:=Gj n;go_enter func17,ntmps17
 go_wp2;go_loopw [0,3] (fun x s wr=>∃(k:Nat) (l:List UInt8),k<=n/\x= .int .i64 k/\s= .string ⟨l.toArray⟩/\Dd n=Dd k++l/\Below w w wr) (fun x _ _=>(intOf x).toNat)
 case atStart=>exact⟨n,[],Nat.le_refl _,rfl,rfl,by simp,Below.refl _ _⟩
 case round=>
  obtain⟨k,l,hk,rfl,rfl,hd,hB⟩:=hrel;have hl:l.length<=10000000001:=by
   have:=congrArg List.length hd;rw[jU]at this;omega
  have HD:Hid (Dd n=Dd k++l):=hd;clear hd;by_cases h10:k<10
  ·have h10':¬(10:Int)<=(k:Int):=qQ;obtain⟨b,hb⟩:∃b,b=UInt8.ofNat (48+(k:Int)).toNat:=⟨_,rfl⟩;have ob:=fun(w:World)=>one_byte w (48+(k:Int)) qQ qQ;rw[<-hb]at ob;have HB:Hid (b=UInt8.ofNat (48+k)):=hb;clear hb;go_wp2;go_ret;refine⟨?_,hB.alloc hB.size _⟩;rw[KQ,HD.out,Hy h10,<-HB.out];rfl
  ·have h10':(10:Int)<=(k:Int):=qQ;obtain⟨b,hb⟩:∃b,b=UInt8.ofNat (48+(k:Int)%10).toNat:=⟨_,rfl⟩;have ob:=fun(w:World)=>one_byte w (48+(k:Int)%10) qQ qQ;rw[<-hb]at ob;have HB:Hid (b=UInt8.ofNat (48+k%10)):=hb;clear hb;go_wp2;go_roundw;case rel=>
    refine⟨k/10,b::l,by omega,by go_num,by rw[KQ],?_,hB.alloc hB.size _⟩;rw[HD.out,Lx h10,<-HB.out,List.append_assoc];rfl
   case measure=>simp[intOf];omega
theorem Um(b:Int)(c:As)(w:World)(hc:c.at w):
 Calls prog 48 #[.agg #[.int .i64 b,c.val]] w fun e w'=>e= .returned (.bool (Bb b c.n c.f c.g))/\Below w w w':=Hz b c.a c.n c.k c.f c.g w hc.1 hc.2
theorem dM(c:AJ)(w:World)(hc:c.at w):
 Calls prog 49 #[c.val] w fun e w'=>e= .returned (.bool (Cf c.n c.h))/\Below w w w':=Pd c.a c.n c.k c.h w hc.1 hc.2
theorem SN(t:Ab)(w:World)(ht:t.at w):
 Calls prog 21 #[t.val] w fun e w'=>e= .returned (.bool (CF t))/\Below w w w':=by
 have n1:No (.cells #[t.id,t.kind,t.up,t.b1,t.c1.val,.string t.data,t.jA.val,t.own.val,t.b2,t.c2.val] 59):=⟨⟩;have hb0:=(Below.refl _ w).alloc nr n1;have A0:=Ag.new w n1;have T0:=qC (ht.below hb0);unfold Ab.val;obtain⟨x0,x1,x2,x3,x4,x5,x6,x7,x8,x9⟩:=A0.jE;clear ht;go_enter func21,ntmps21
 go_wp2_with fail
 refine(Um _ t.c1 _ T0.out.1).mono ?_;rintro e w1 ⟨rfl,hb1⟩;have A1:=A0.below hb1;have T1:=qC (T0.out.below hb1);have B1:=Af hb0 hb1;clear x0 x1 x2 x3 x4 x5 x6 x7 x8 x9 A0 T0 hb0 hb1;obtain⟨x0,x1,x2,x3,x4,x5,x6,x7,x8,x9⟩:=A1.jE;cases t1:Bb t.b1 t.c1.n t.c1.f t.c1.g with
 |false=>
  go_wp2;go_ret;exact⟨Ah (by simp[CF,t1]),B1⟩
 |true=>
 go_wp2_with fail
 refine(Um _ t.c2 _ T1.out.2.2.2.1).mono ?_;rintro e w2 ⟨rfl,hb2⟩;have A2:=A1.below hb2;have T2:=qC (T1.out.below hb2);have B2:=Af B1 hb2;clear x0 x1 x2 x3 x4 x5 x6 x7 x8 x9 A1 T1 B1 hb2;obtain⟨x0,x1,x2,x3,x4,x5,x6,x7,x8,x9⟩:=A2.jE;cases t2:Bb t.b2 t.c2.n t.c2.f t.c2.g with
 |false=>
  go_wp2;go_ret;exact⟨Ah (by simp[CF,t2]),B2⟩
 |true=>
 go_wp2_with fail
 refine(dM t.own _ T2.out.2.2.1).mono ?_;rintro e w3 ⟨rfl,hb3⟩;have A3:=A2.below hb3;have T3:=qC (T2.out.below hb3);have B3:=Af B2 hb3;clear x0 x1 x2 x3 x4 x5 x6 x7 x8 x9 A2 T2 B2 hb3;obtain⟨x0,x1,x2,x3,x4,x5,x6,x7,x8,x9⟩:=A3.jE;cases t3:Cf t.own.n t.own.h with
 |false=>
  go_wp2;go_ret;exact⟨Ah (by simp[CF,t3]),B3⟩
 |true=>
 unfold AE.val at x6;have hn5:=T3.out.2.1.1;unfold maxLen at hn5;by_cases h8:8<t.jA.n
 ·have h8':(8:Int)<(t.jA.n:Int):=by omega
  go_wp2;go_ret;exact⟨Ah (by simp[CF,On h8]),B3⟩
 have h8':¬(8:Int)<(t.jA.n:Int):=by omega
 go_wp2_with fail
 refine(Jz t.data _ _ T3.out.2.2.2.2).mono ?_;rintro e w4 ⟨rfl,rfl⟩;cases t4:By t.data 40 with
 |false=>
  go_wp2;go_ret;exact⟨Ah (by simp[CF,t4]),B3⟩
 |true=>
 have OK:Hid (En t.jA.n t.jA.f=true->CF t=Hp t):=qC (fun t5=>by simp[CF,t1,t2,t3,t4,t5]);clear t1 t2 t3 t4;go_wp2;go_loop [3] (fun i=>∃k:Nat,k<=t.jA.n/\i= .int .i64 k/\Hid (∀j,j<k->By (t.jA.f j) 40=true)) (fun i=>t.jA.n-(intOf i).toNat)
 case atStart=>exact⟨0,Nat.zero_le _,rfl,qC (fun j hj=>by omega)⟩
 case round=>
  obtain⟨k,hk,rfl,HA⟩:=hrel;by_cases hlt:k<t.jA.n
  ·obtain⟨b,off,ea,hlt0,hcc⟩:=T3.out.2.1.2.1 qQ;rw[ea]at x6;have g1:=hcc k hlt;have z:=T3.out.2.1.2.2 k hlt;have i1:(k:Int)<(t.jA.n:Int):=qQ;clear hcc ea;go_wp2_with fail
   refine(Jz _ _ _ z).mono ?_;rintro e w5 ⟨rfl,rfl⟩;clear g1;by_cases t5:By (t.jA.f k) 40=true
   ·have HA2:Hid (∀j,j<k+1->By (t.jA.f j) 40=true):=qC (fun j hj=>by
     by_cases e:j=k
     ·subst e;exact t5
     ·exact HA.out j qQ)
    go_wp2;exact⟨⟨k+1,by omega,by go_num,HA2⟩,by simp[intOf];omega⟩
   ·have t':By (t.jA.f k) 40=false:=(by simpa using t5);clear t5;go_wp2;go_ret;exact⟨Ah (by simp[CF,QR hlt t']),B3⟩
  ·have e:k=t.jA.n:=qQ;have OK2:=qC (OK.out (by rw[Ow (by rw[<-e];exact HA.out)];simp;omega));clear e OK HA;unfold AJ.val at x7;unfold As.val at x9;have hn6:=T3.out.2.2.1.1;have hn7:=T3.out.2.2.2.1.1;unfold maxLen at hn6 hn7;go_wp2;all_goals
    go_ret;refine⟨Ah ?_,by assumption⟩;rw[OK2.out];clear OK2 h8' x0 x1 x2 x3 x4 x5 x6 x7 x8 x9;first
    |(simp_all[Hp,DV,dI];done)
    |(simp_all[Hp,DV];exact dI _)
variable {ids:Nat->Int}{n:Nat}{x:Int}
def GX:Option Nat->Int
 |none=> -1
 |some j=>j
theorem JK{k:Nat}(hk:k<n)(he:ids k=x)(h:∀j,j<k->ids j≠x):Bq ids n x=some k:=by
 unfold Bq;rw[List.find?_range_eq_some];exact⟨by simpa using he,jG.2 hk,fun j hj=>by simpa using h j hj⟩
theorem LP(h:∀j,j<n->ids j≠x):Bq ids n x=none:=by
 unfold Bq;rw[List.find?_eq_none];intro j hj;simpa using h j (jG.1 hj)
theorem Kw(k:Av)(x:Int)(w:World)(hk:k.at w):
 Calls prog 23 #[k.val,.int .i64 x] w fun e w'=>e= .returned (.int .i64 (GX (Bq (fun i=>(k.O i).id) k.on x)))/\Below w w w':=by
 have n1:No (.cells #[.slice k.ta k.tn k.tk,.slice k.oa k.on k.ok] 27):=⟨⟩;have hb0:=(Below.refl _ w).alloc nr n1;have A0:=Ag.new w n1;have HT:=qC (hk.below hb0);have hn:=hk.2.1;unfold maxLen at hn;unfold Av.val;obtain⟨x0,x1⟩:=A0.two;clear hk A0;go_enter func23,ntmps23
 go_wp2;generalize w.alloc n1=W at *;go_loop [5] (fun i=>∃q:Nat,q<=k.on/\i= .int .i64 q/\Hid (∀j,j<q->(k.O j).id≠x)) (fun i=>k.on-(intOf i).toNat)
 case atStart=>exact⟨0,qy _,rfl,qC (fun j hj=>by omega)⟩
 case round=>
  obtain⟨q,hq,rfl,HA⟩:=hrel;by_cases hlt:q<k.on
  ·obtain⟨b,off,ea,_,hcc⟩:=HT.out.2.2.2 qQ;have q0:=(hcc q hlt).1.c0;have i1:(q:Int)<(k.on:Int):=qQ;rw[ea]at x1;clear hcc ea;by_cases e:(k.O q).id=x
   ·have HF:=qC (JK (ids:=fun i=>(k.O i).id) hlt e HA);have e':((k.O q).id==x)=true:=(by simpa using e);clear e HA;go_wp2;go_ret;exact⟨Fw (by rw[HF.out];rfl),hb0⟩
   ·have e':((k.O q).id==x)=false:=(by simpa using e);have HA2:Hid (∀j,j<q+1->(k.O j).id≠x):=qC (fun j hj=>by
     by_cases ej:j=q
     ·subst ej;exact e
     ·exact HA.out j qQ)
    clear e HA;go_wp2;exact⟨⟨q+1,by omega,by go_num,HA2⟩,by simp[intOf];omega⟩
  ·have i1:¬(q:Int)<(k.on:Int):=qQ;have HF:=qC (LP (ids:=fun i=>(k.O i).id) (n:=k.on) (x:=x) (fun j hj=>HA j qQ));clear HA;go_wp2;go_ret;exact⟨Fw (by rw[HF.out];rfl),hb0⟩
theorem Jh(k:Av)(x:Int)(w:World)(hk:k.at w):
 Calls prog 22 #[k.val,.int .i64 x] w fun e w'=>e= .returned (.int .i64 (GX (Bq (fun i=>(k.T i).id) k.tn x)))/\Below w w w':=by
 have n1:No (.cells #[.slice k.ta k.tn k.tk,.slice k.oa k.on k.ok] 27):=⟨⟩;have hb0:=(Below.refl _ w).alloc nr n1;have A0:=Ag.new w n1;have HT:=qC (hk.below hb0);have hn:=hk.1;unfold maxLen at hn;unfold Av.val;obtain⟨x0,x1⟩:=A0.two;clear hk A0;go_enter func22,ntmps22
 go_wp2;generalize w.alloc n1=W at *;go_loop [5] (fun i=>∃q:Nat,q<=k.tn/\i= .int .i64 q/\Hid (∀j,j<q->(k.T j).id≠x)) (fun i=>k.tn-(intOf i).toNat)
 case atStart=>exact⟨0,qy _,rfl,qC (fun j hj=>by omega)⟩
 case round=>
  obtain⟨q,hq,rfl,HA⟩:=hrel;by_cases hlt:q<k.tn
  ·obtain⟨b,off,ea,_,hcc⟩:=HT.out.2.2.1 qQ;have q0:=(hcc q hlt).1.c0;have i1:(q:Int)<(k.tn:Int):=qQ;rw[ea]at x0;clear hcc ea;by_cases e:(k.T q).id=x
   ·have HF:=qC (JK (ids:=fun i=>(k.T i).id) hlt e HA);have e':((k.T q).id==x)=true:=(by simpa using e);clear e HA;go_wp2;go_ret;exact⟨Fw (by rw[HF.out];rfl),hb0⟩
   ·have e':((k.T q).id==x)=false:=(by simpa using e);have HA2:Hid (∀j,j<q+1->(k.T j).id≠x):=qC (fun j hj=>by
     by_cases ej:j=q
     ·subst ej;exact e
     ·exact HA.out j qQ)
    clear e HA;go_wp2;exact⟨⟨q+1,by omega,by go_num,HA2⟩,by simp[intOf];omega⟩
  ·have i1:¬(q:Int)<(k.tn:Int):=qQ;have HF:=qC (LP (ids:=fun i=>(k.T i).id) (n:=k.tn) (x:=x) (fun j hj=>HA j qQ));clear HA;go_wp2;go_ret;exact⟨Fw (by rw[HF.out];rfl),hb0⟩
open _root_.Bool renaming and_eq_true→qz,true_and→zZ
variable {k:Av}{n:Nat}{id:Int}
def Ga(n:Nat)(O:Nat->Ab)(x:Int):Bool:=match Bq (fun i=>(O i).id) n x with
 |some u=>(O u).kind==3
 |none=>false
def IJ(n:Nat)(O:Nat->Ab):Bool:=(qx (n-1)).all (fun i=>Ga n O (O (i+1)).up)
def Bh(k:Av):Bool:=BH k.tn k.T&&Cr k.on k.O&&G5 k.tn k.T k.on k.O&&IJ k.on k.O&&FC (fun i=>(k.O i).id) (fun i=>(k.O i).up) k.on
def Hr(k:Av)(i:Nat):Bool:=CF (k.O i)&&(if i=0 then Gm (k.O 0)else decide ((k.O (i-1)).id<(k.O i).id)&&FZ k.tn k.T (k.O i).id&&Ga k.on k.O (k.O i).up)
theorem Tw(h1:1<=k.on)(h2:k.on<=271):(Cr k.on k.O&&G5 k.tn k.T k.on k.O&&IJ k.on k.O)=(qx k.on).all (Hr k):=by
 rw[Bool.eq_iff_iff];simp only[qz];constructor
 ·rintro⟨⟨ho,hn⟩,hu⟩;obtain⟨_,_,ha,hr⟩:=Cv ho;refine Fc fun i hi=>?_;have hai:=ha i hi;simp only[Gd,qz]at hai;simp only[Hr,hai.1,zZ];by_cases e:i=0
  ·rw[if_pos e];exact hr
  ·rw[if_neg e]at hai ⊢;have e1:i-1+1=i:=qQ;have h3:=FI hn (i-1) qQ;have h4:=FI hu (i-1) qQ;simp only[e1]at h3 h4;simp only[hai.2,h3,h4,Bool.and_true]
 ·intro h;have ha:=FI h;have h0:=ha 0 qQ;simp only[Hr,if_true,qz]at h0;refine⟨⟨?_,?_⟩,?_⟩
  ·have:(qx k.on).all (Gd k.O)=true:=Fc fun i hi=>by
    have hi':=ha i hi;simp only[Hr,qz]at hi';simp only[Gd,hi'.1,zZ];by_cases e:i=0
    ·rw[if_pos e];have:=h0.2;simp only[Gm,qz,beq_iff_eq]at this;simp[this.1.1]
    ·rw[if_neg e]at hi' ⊢;simp only[qz]at hi';exact hi'.2.1.1
   simp only[Cr,this,h0.2,Bool.and_true,qz,decide_eq_true_eq];exact⟨h1,h2⟩
  ·refine Fc fun i hi=>?_;have hi':=ha (i+1) qQ;simp only[Hr,qz]at hi';rw[if_neg qQ]at hi';simp only[qz]at hi';exact hi'.2.1.2
  ·refine Fc fun i hi=>?_;have hi':=ha (i+1) qQ;simp only[Hr,qz]at hi';rw[if_neg qQ]at hi';simp only[qz]at hi';exact hi'.2.2
theorem JD(ht:BH k.tn k.T=true)(h1:1<=k.on)(h2:k.on<=271):Bh k=((qx k.on).all (Hr k)&&FC (fun i=>(k.O i).id) (fun i=>(k.O i).up) k.on):=by
 rw[Bh,ht,<-Tw h1 h2];simp[Bool.and_assoc]
theorem Hc(ht:BH k.tn k.T=false):Bh k=false:=by simp[Bh,ht]
theorem IP(h:¬(1<=k.on/\k.on<=271)):Bh k=false:=by
 have:Cr k.on k.O=false:=by
  cases e:Cr k.on k.O with
  |false=>rfl
  |true=>obtain⟨a,b,_⟩:=Cv e;exact absurd ⟨a,b⟩ h
 simp[Bh,this]
theorem Kk{T:Nat->Ae}(h:BH n T=true):DK (fun i=>(T i).id) n:=by
 obtain⟨_,_,ha⟩:=CZ h;intro i j hij;induction j with
 |zero=>omega
 |succ j ih=>
  intro hj;have h1:=ha (j+1) hj;simp[Ej]at h1;by_cases e:i=j
  ·subst e;exact h1.2
  ·have:=ih qQ qQ;simp only at this ⊢;omega
theorem Rp{ids g:Nat->Int}(h:DK ids n)(x:Int):look ids g n x=(Bq ids n x).map g:=by
 induction n with
 |zero=>rfl
 |succ n ih=>
  have ih':=ih (fun i j hij hj=>h i j hij qQ);rw[look];split
  ·rename_i e;rw[<-e,Eg h (Nat.lt_succ_self n)];rfl
  ·rename_i e;rw[ih'];congr 1;cases e1:Bq ids n x with
   |none=>
    symm;refine LP fun j hj=>?_;by_cases ej:j=n
    ·subst ej;exact e
    ·exact Jd e1 j qQ
   |some j=>
    obtain⟨j1,j2⟩:=AH e1;symm;rw[<-j2];exact Eg h qQ
theorem Jg{T:Nat->Ae}(h:BH n T=true){t:Nat}(e:Bq (fun i=>(T i).id) n (id/1000)=some t):FZ n T id=Ev (id%1000) 1 (T t).made:=by
 have:madeOf n T (id/1000)=(T t).made:=by
  unfold madeOf;rw[Rp (Kk h),e];rfl
 simp[FZ,this,Ev]
theorem Lg{T:Nat->Ae}(h:BH n T=true)(e:Bq (fun i=>(T i).id) n (id/1000)=none):FZ n T id=false:=by
 have:madeOf n T (id/1000)=0:=by
  unfold madeOf;rw[Rp (Kk h),e];rfl
 simp[FZ,this];intro _;omega
theorem dy{i:Nat}(h:∀j,j<i->Hr k j=true)(h0:0<i)(hl:(k.O (i-1)).id<(k.O i).id):1<=(k.O i).id:=by
 have:∀j,j<i->1<=(k.O j).id:=by
  intro j;induction j with
  |zero=>
   intro hj;have:=h 0 hj;simp only[Hr,if_true,qz,Gm,beq_iff_eq]at this;omega
  |succ j ih=>
   intro hj;have h1:=ih qQ;have:=h (j+1) hj;simp only[Hr,qz]at this;rw[if_neg qQ]at this;simp only[qz,decide_eq_true_eq,Nat.add_sub_cancel]at this;omega
 have:=this (i-1) qQ;omega
end Go.Proofs.YtdaccbddcjlkpaaGreatDoor
