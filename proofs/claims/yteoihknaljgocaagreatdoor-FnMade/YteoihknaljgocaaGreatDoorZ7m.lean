import Derived.Test.YteoihknaljgocaaGreatDoorZ6m
set_option maxRecDepth 100000
set_option maxHeartbeats 16000000
namespace Go.Proofs.YteoihknaljgocaaGreatDoor
open Go.RowKit Go.Deep Go.Maps Go.Proofs.Tryz
variable {n k na no nb:Nat}{h fa ga ho fb gb:Nat->Int}{x ba bb:Int}
def hasB(n:Nat)(h:Nat->Int)(x:Int):Bool:=(List.range n).any (fun i=>h i==x)
theorem Hb(hk:k<n)(e:h k=x):hasB n h x=true:=by
 unfold hasB;rw[List.any_eq_true];exact⟨k,List.mem_range.2 hk,by simpa using e⟩
theorem MO(e:∀i,i<n->h i≠x):hasB n h x=false:=by
 unfold hasB;rw[List.any_eq_false];intro i hi;simpa using e i (List.mem_range.1 hi)
theorem JK(a:Option Addr)(n cap:Nat)(h:Nat->Int)(x:Int)(w:World)(hn:n<=maxLen)(hc:Be w a n h):
 Calls prog 105 #[.slice a n cap,.int .i64 x] w fun e w'=>e= .returned (.bool (hasB n h x))/\w'=w:=by
 unfold maxLen at hn;go_enter func105,ntmps105
 go_wp2;go_loop [5] (fun i=>∃k:Nat,k<=n/\i= .int .i64 k/\(∀j,j<k->h j≠x)) (fun i=>n-(intOf i).toNat)
 case atStart=>exact⟨0,Nat.zero_le _,rfl,fun j hj=>by omega⟩
 case round=>
  obtain⟨k,hk,rfl,hall⟩:=hrel;have HA:Hid (∀j,j<k->h j≠x):=hall;clear hall;by_cases hlt':k<n
  ·obtain⟨b,off,rfl,hlt,hcc⟩:=hc (by omega);have g1:=hcc k hlt';clear hcc hc;by_cases t:(h k==x)=true
   ·go_wp2;go_ret;exact⟨Ah (Hb hlt' (by simpa using t)).symm,rfl⟩
   ·have t':(h k==x)=false:=(by simpa using t);clear t;go_wp2;go_round;case rel=>
     refine⟨k+1,by omega,by go_num,fun j hj=>?_⟩;by_cases e:j=k
     ·subst e;simpa using t'
     ·exact HA.out j (by omega)
    case measure=>simp[intOf];omega
  ·clear hc;go_wp2;go_ret;have e:k=n:=(by omega);subst e;exact⟨Ah (MO HA).symm,rfl⟩
def IY(ba:Int)(na:Nat)(fa ga:Nat->Int)(no:Nat)(ho:Nat->Int)(bb:Int)(nb:Nat)(fb gb:Nat->Int)(x:Int):Bool:=
 hasB no ho x|| !decide (EZ bb nb fb gb x<EZ ba na fa ga x)
def Cx(ba:Int)(na:Nat)(fa ga:Nat->Int)(no:Nat)(ho:Nat->Int)(bb:Int)(nb:Nat)(fb gb:Nat->Int):Bool:=
 decide (ba<=bb)&&(List.range (na+nb)).all (fun i=>IY ba na fa ga no ho bb nb fb gb (glue na fa fb i))
theorem Mp(h:bb<ba):Cx ba na fa ga no ho bb nb fb gb=false:=by
 have:decide (ba<=bb)=false:=by simp;omega
 simp[Cx,this]
theorem La(hk:k<na+nb)(h:IY ba na fa ga no ho bb nb fb gb (glue na fa fb k)=false):Cx ba na fa ga no ho bb nb fb gb=false:=by
 have:(List.range (na+nb)).all (fun i=>IY ba na fa ga no ho bb nb fb gb (glue na fa fb i))=false:=by
  rw[List.all_eq_false];exact⟨k,List.mem_range.2 hk,by simp[h]⟩
 simp[Cx,this]
theorem Pz(h0:ba<=bb)(h:∀i,i<na+nb->IY ba na fa ga no ho bb nb fb gb (glue na fa fb i)=true):Cx ba na fa ga no ho bb nb fb gb=true:=by
 have:(List.range (na+nb)).all (fun i=>IY ba na fa ga no ho bb nb fb gb (glue na fa fb i))=true:=by
  rw[List.all_eq_true];intro i hi;exact h i (List.mem_range.1 hi)
 simp[Cx,this,h0]
theorem Gr(ba:Int)(aa:Option Addr)(na ka:Nat)(fa ga:Nat->Int)(ao:Option Addr)(no ko:Nat)(ho:Nat->Int)(bb:Int)(ab:Option Addr)(nb kb:Nat)(fb gb:Nat->Int)(w:World)
 (hna:na<=1048576)(hnb:nb<=1048576)(hno:no<=maxLen)(hca:AX w aa na fa ga)(hcb:AX w ab nb fb gb)(hco:Be w ao no ho)
 (hra:∀j,j<na->∀i,i<j->fa i<fa j)(hrb:∀j,j<nb->∀i,i<j->fb i<fb j):
 Calls prog 103 #[.agg #[.int .i64 ba,.slice aa na ka],.slice ao no ko,.agg #[.int .i64 bb,.slice ab nb kb]] w fun e w'=>e= .returned (.bool (Cx ba na fa ga no ho bb nb fb gb))/\Below w w w':=by
 have n3:Na #[.int .i64 ba,.slice aa na ka]:=⟨⟩;have n4:Na #[.int .i64 bb,.slice ab nb kb]:=⟨⟩;have hb0:=(Bf w (.cells n3 30)).alloc (by simp) (.cells n4 30);by_cases h0:bb<ba
 ·go_enter func103,ntmps103
  go_wp2;go_ret;exact⟨Ah (Mp h0).symm,hb0⟩
 ·go_enter func103,ntmps103
  go_wp2_with fail
  have n1:Nw ((w.alloc (.cells n3 30)).alloc (.cells n4 30)):=⟨⟩;have own0:AM (((n1:World).alloc (.cells #[] 78)).drew) (w.heap.size+1+1) (.slice (some ⟨w.heap.size+1+1,0,none⟩) 0 0) 0 (fun _=>0) (fun _=>0):=by
   have:=World.ownsRow_made (base:=w.heap.size+1+1) (e:=78) (size:=2) n1 #[] 0 (by simp) (Nat.zero_le _) rfl;simp at this;exact this
  have B0:=(hb0.alloc (by simp;omega) (.cells #[] 78)).drew;have C0a:=hca.below B0;obtain⟨D0,hD0⟩:∃D0,D0=((n1:World).alloc (.cells #[] 78)).drew:=⟨_,rfl⟩;have d1:D0.cell? ⟨w,0,none⟩=some (.int .i64 ba):=by rw[hD0];go_simp
  have d2:D0.cell? ⟨w,1,none⟩=some (.slice aa na ka):=by rw[hD0];go_simp
  have d3:D0.cell? ⟨w.heap.size+1,0,none⟩=some (.int .i64 bb):=by rw[hD0];go_simp
  have d4:D0.cell? ⟨w.heap.size+1,1,none⟩=some (.slice ab nb kb):=by rw[hD0];go_simp
  have dz:w.heap.size+1+1<=D0.heap.size:=by rw[hD0];simp
  have n2:Nw (((w.alloc (.cells n3 30)).alloc (.cells n4 30)).alloc (.cells #[] 78)):=⟨⟩;have HD:Hid (D0=(n2:World).drew):=hD0;have GG:∀w1,((n2:World).drew).grownBy w1 (Value.slice (some ⟨w.heap.size+1+1,0,none⟩) 0 0).ownBlock->Below (w.heap.size+1+1) D0 w1:=fun w1 hg=>by
   rw[<-HD.out]at hg;exact(Below.refl _ _).grown hg dz (fun k e=>by cases e;exact Nat.le_refl _)
  have B0':Below w w D0:=by rw[hD0];exact B0
  clear hD0;go_region_held3(fun w'=>w'.cell? ⟨w,0,none⟩=some (.int .i64 ba)/\w'.cell? ⟨w,1,none⟩=some (.slice aa na ka)/\w'.cell? ⟨w.heap.size+1,0,none⟩=some (.int .i64 bb)/\w'.cell? ⟨w.heap.size+1,1,none⟩=some (.slice ab nb kb)) (go_keep)
   (first
     |(refine Hs _ (by rfl) _ _ (by rfl) (w.heap.size+1+1) _ (fun _=>0) (fun _=>0) (by rfl) own0 aa na ka fa ga (by rfl) C0a (by omega) (by simp) ?_;intro a1 c1 w1 hown1 hgrow1 hat1;have G1:=GG w1 hgrow1;have p1:=(G1.cell (p:=⟨w,0,none⟩) (by dsimp only;omega)).trans d1;have p2:=(G1.cell (p:=⟨w,1,none⟩) (by dsimp only;omega)).trans d2;have p3:=(G1.cell (p:=⟨w.heap.size+1,0,none⟩) (by dsimp only;omega)).trans d3;have p4:=(G1.cell (p:=⟨w.heap.size+1,1,none⟩) (by dsimp only;omega)).trans d4;have s1:w.heap.size+1+1<=w1.heap.size:=Nat.le_trans dz G1.size;have B1:Below w w w1:=B0'.trans (G1.mono (by omega));have C1b:=hcb.below B1)
     |(refine Fe _ (by rfl) _ _ (by rfl) (w.heap.size+1+1) _ na fa ga (by rfl) hown1 ab nb kb fb gb (by rfl) C1b (by omega) s1 ?_;intro a2 c2 w2 hown2 hgrow2 hat2;have G2:Below (w.heap.size+1+1) w1 w2:=(Below.refl _ _).grown hgrow2 s1 (fun k e=>(World.ownsRow.lt hown1 k e).1);have q1:=(G2.cell (p:=⟨w,0,none⟩) (by dsimp only;omega)).trans p1;have q2:=(G2.cell (p:=⟨w,1,none⟩) (by dsimp only;omega)).trans p2;have q3:=(G2.cell (p:=⟨w.heap.size+1,0,none⟩) (by dsimp only;omega)).trans p3;have q4:=(G2.cell (p:=⟨w.heap.size+1,1,none⟩) (by dsimp only;omega)).trans p4;have s2:w.heap.size+1+1<=w2.heap.size:=Nat.le_trans s1 G2.size;have B2:Below w w w2:=B1.trans (G2.mono (by omega))))
  have C2:=AM.cats hown2;have C2a:=hca.below B2;have C2b:=hcb.below B2;have C2o:=hco.below B2;clear p1 p2 p3 p4 d1 d2 d3 d4 hca hcb hco B0 C0a own0 hb0 hown1 hgrow1 hat1 hgrow2 hat2 hown2 G1 G2 GG HD s1 C1b B1 dz B0';go_wp2;go_loopw [8] (fun i wr=>∃k:Nat,k<=na+nb/\i= .int .i64 k/\(∀j,j<k->IY ba na fa ga no ho bb nb fb gb (glue na fa fb j)=true)/\Below w2 w2 wr) (fun i _=>na+nb-(intOf i).toNat)
  case atStart=>exact⟨0,Nat.zero_le _,rfl,fun j hj=>by omega,Below.refl _ _⟩
  case round=>
   obtain⟨k,hk,rfl,hall,hB⟩:=hrel;have HA:Hid (∀j,j<k->IY ba na fa ga no ho bb nb fb gb (glue na fa fb j)=true):=hall;clear hall;have Bw:Below w w wr:=B2.trans (hB.mono (by omega));by_cases hlt':k<na+nb
   ·obtain⟨b,off,rfl,hlt,hcc⟩:=C2 (by omega);have r5:=(hB.cell (p:=⟨b,off+k*2,none⟩) hlt).trans (hcc k hlt').1;have r1:=(hB.cell (p:=⟨w,0,none⟩) (by dsimp only;omega)).trans q1;have r2:=(hB.cell (p:=⟨w,1,none⟩) (by dsimp only;omega)).trans q2;have r3:=(hB.cell (p:=⟨w.heap.size+1,0,none⟩) (by dsimp only;omega)).trans q3;have r4:=(hB.cell (p:=⟨w.heap.size+1,1,none⟩) (by dsimp only;omega)).trans q4;have i0:(0:Int)<=(k:Int):=(by omega);have i1:(k:Int)<((na+nb:Nat):Int):=(by omega);have i1':(k:Int)<(na:Int)+(nb:Int):=(by omega);have y1:w.heap.size<wr.heap.size:=(by have:=hB.size;omega);have y2:w.heap.size+1<wr.heap.size:=(by have:=hB.size;omega);have y3:b<wr.heap.size:=(by have:=hB.size;omega);have Ca:AX wr.drew aa na fa ga:=(C2a.below hB).below (Below.refl _ _).drew;have Cb:AX wr.drew ab nb fb gb:=(C2b.below hB).below (Below.refl _ _).drew;have Co:Be wr ao no ho:=C2o.below hB;obtain⟨x,hx⟩:∃x,x=glue na fa fb k:=⟨_,rfl⟩;rw[<-hx]at r5;have HX:Hid (x=glue na fa fb k):=hx;clear hx hcc C2 C2a C2b C2o q1 q2 q3 q4;by_cases t:hasB no ho x=true
    ·clear Ca Cb;have t':IY ba na fa ga no ho bb nb fb gb x=true:=(by simp[IY,t]);have HT:Hid (IY ba na fa ga no ho bb nb fb gb x=true):=t';clear t';go_wp2_with fail
     have CoN:∀m,Be (wr.drewN m) ao no ho:=fun m=>Co.below (below_drewN (Below.refl _ _) m);go_quiet((go_at_call 105;exact Calls.quiet_of_same (JK _ _ _ ho _ _ hno (CoN _))))
     clear CoN;go_wp2;go_roundw;case rel=>
      refine⟨k+1,by omega,by go_num,fun j hj=>?_,below_drewN hB _⟩;by_cases e:j=k
      ·subst e;rw[<-HX.out];exact HT.out
      ·exact HA.out j (by omega)
     case measure=>simp[intOf];omega
    ·have t0:hasB no ho x=false:=(by simpa using t);clear t;have Co':Be wr.drew ao no ho:=Co.below (Below.refl _ _).drew;have HRA:Hid (∀j,j<na->∀i,i<j->fa i<fa j):=hra;have HRB:Hid (∀j,j<nb->∀i,i<j->fb i<fb j):=hrb;have ma:na<=maxLen:=(by unfold maxLen;omega);have mb:nb<=maxLen:=(by unfold maxLen;omega);clear Co hra hrb;go_wp2_with fail
     go_region_held3(fun w'=>w'.cell? ⟨w,0,none⟩=some (.int .i64 ba)/\w'.cell? ⟨w,1,none⟩=some (.slice aa na ka)/\w'.cell? ⟨w.heap.size+1,0,none⟩=some (.int .i64 bb)/\w'.cell? ⟨w.heap.size+1,1,none⟩=some (.slice ab nb kb)/\w'.cell? ⟨b,off+k*2,none⟩=some (.int .i64 x)) (go_keep)
      (first
        |(go_at_call 105;refine(JK _ _ _ ho _ _ hno Co').mono ?_;rintro e w' ⟨rfl,rfl⟩)
        |(go_at_call 138;refine(Mb bb ab nb kb fb gb x _ mb (Cb.below hb1) HRB).mono ?_;rintro e v2 ⟨rfl,hb2⟩;have u1:=(hb2.cell (p:=⟨w,0,none⟩) (Nat.lt_of_lt_of_le y1 hb1.size)).trans p1;have u2:=(hb2.cell (p:=⟨w,1,none⟩) (Nat.lt_of_lt_of_le y1 hb1.size)).trans p2;have u3:=(hb2.cell (p:=⟨w.heap.size+1,0,none⟩) (Nat.lt_of_lt_of_le y2 hb1.size)).trans p3;have u4:=(hb2.cell (p:=⟨w.heap.size+1,1,none⟩) (Nat.lt_of_lt_of_le y2 hb1.size)).trans p4;have u5:=(hb2.cell (p:=⟨b,off+k*2,none⟩) (Nat.lt_of_lt_of_le y3 hb1.size)).trans p5)
        |(go_at_call 138;refine(Mb ba aa na ka fa ga x _ ma Ca HRA).mono ?_;rintro e v1 ⟨rfl,hb1⟩;have p1:=(hb1.cell (p:=⟨w,0,none⟩) y1).trans r1;have p2:=(hb1.cell (p:=⟨w,1,none⟩) y1).trans r2;have p3:=(hb1.cell (p:=⟨w.heap.size+1,0,none⟩) y2).trans r3;have p4:=(hb1.cell (p:=⟨w.heap.size+1,1,none⟩) y2).trans r4;have p5:=(hb1.cell (p:=⟨b,off+k*2,none⟩) y3).trans r5))
     have hBv:Below w2 w2 v2:=(hB.drew.trans (hb1.mono hB.size)).trans (hb2.mono (Nat.le_trans hB.size hb1.size));clear r1 r2 r3 r4 r5 p1 p2 p3 p4 p5 u1 u2 u3 u4 u5 Ca Cb Co' hb1 hb2 HRA HRB;by_cases t1:EZ bb nb fb gb x<EZ ba na fa ga x
     ·have HT:Hid (IY ba na fa ga no ho bb nb fb gb x=false):=(by show _=_;simp[IY,t0,t1]);go_wp2;go_ret;refine⟨Ah (La hlt' ?_).symm,B2.trans (hBv.mono (by omega))⟩;rw[<-HX.out];exact HT.out
     ·have HT:Hid (IY ba na fa ga no ho bb nb fb gb x=true):=(by show _=_;simp[IY,t0,t1]);go_wp2;go_roundw;case rel=>
       refine⟨k+1,by omega,by go_num,fun j hj=>?_,hBv⟩;by_cases e:j=k
       ·subst e;rw[<-HX.out];exact HT.out
       ·exact HA.out j (by omega)
      case measure=>simp[intOf];omega
   ·go_wp2;go_ret;have e:k=na+nb:=(by omega);exact⟨Ah (Pz h0 (fun i hi=>HA i (by omega))).symm,Bw⟩
open Go
theorem MZ(id made b1:Int)(a1:Option Addr)(n1 k1:Nat)(f1 g1:Nat->Int)(b2:Int)(a2:Option Addr)(n2 k2:Nat)(f2 g2:Nat->Int)(a3:Option Addr)(n3 k3:Nat)(h:Nat->Int)(bl:Int)(al:Option Addr)(nl kl:Nat)(fl gl:Nat->Int)(w:World)(_hn1:n1<=maxLen)(_hn2:n2<=maxLen)(hn3:n3<=maxLen)(hc1:AX w a1 n1 f1 g1)(_hc2:AX w a2 n2 f2 g2)(hc3:Be w a3 n3 h)(_hnl:nl<=maxLen)(hcl:AX w al nl fl gl)(hm1:n1<=1048576)(hml:nl<=1048576)(hr1:∀j,j<n1->∀i,i<j->f1 i<f1 j)(hrl:∀j,j<nl->∀i,i<j->fl i<fl j):
 Calls prog 110 #[.agg #[.int .i64 id,.int .i64 b1,.slice a1 n1 k1,.int .i64 b2,.slice a2 n2 k2,.slice a3 n3 k3,.int .i64 made],.agg #[.int .i64 bl,.slice al nl kl]] w fun e w'=>e= .returned (.bool (Cx bl nl fl gl n3 h b1 n1 f1 g1))/\Below w w w':=by
 have n4:No (.cells #[.int .i64 id,.int .i64 b1,.slice a1 n1 k1,.int .i64 b2,.slice a2 n2 k2,.slice a3 n3 k3,.int .i64 made] 39):=⟨⟩;have n5:No (.cells #[.int .i64 bl,.slice al nl kl] 30):=⟨⟩;have hb0:=((Below.refl _ w).alloc nr n4).alloc (by simp) n5;have yT:Ag ((w.alloc n4).alloc n5) w n4:=(Ag.new w _).alloc _;have yL:Ag ((w.alloc n4).alloc n5) (w.heap.size+1) n5:=by have:=Ag.new (w.alloc n4) n5;simpa using this
 go_enter func110,ntmps110
 go_wp2_with fail
 refine(Gr _ _ _ _ fl gl _ _ _ h _ _ _ _ f1 g1 _ hml hm1 hn3 (hcl.below hb0) (hc1.below hb0) (hc3.below hb0) hrl hr1).mono ?_;rintro e w1 ⟨rfl,hb1⟩;have B1:Below w w w1:=hb0.trans (hb1.mono (by simp;omega));clear yT yL hb0 hb1;go_wp2;go_ret;exact⟨rfl,B1⟩
theorem Oq(id made b1:Int)(a1:Option Addr)(n1 k1:Nat)(f1 g1:Nat->Int)(b2:Int)(a2:Option Addr)(n2 k2:Nat)(f2 g2:Nat->Int)(a3:Option Addr)(n3 k3:Nat)(h:Nat->Int)(bl:Int)(al:Option Addr)(nl kl:Nat)(fl gl:Nat->Int)(w:World)(hn1:n1<=maxLen)(hn2:n2<=maxLen)(hn3:n3<=maxLen)(hc1:AX w a1 n1 f1 g1)(hc2:AX w a2 n2 f2 g2)(hc3:Be w a3 n3 h)(hnl:nl<=maxLen)(hcl:AX w al nl fl gl)(hm1:n1<=1048576)(hml:nl<=1048576)(hr1:∀j,j<n1->∀i,i<j->f1 i<f1 j)(hrl:∀j,j<nl->∀i,i<j->fl i<fl j):
 Calls prog 106 #[.agg #[.int .i64 id,.int .i64 b1,.slice a1 n1 k1,.int .i64 b2,.slice a2 n2 k2,.slice a3 n3 k3,.int .i64 made],.agg #[.int .i64 bl,.slice al nl kl]] w fun e w'=>e= .returned (.bool (Cx bl nl fl gl n3 h b1 n1 f1 g1&&Cx b1 n1 f1 g1 n3 h bl nl fl gl))/\Below w w w':=by
 have n4:No (.cells #[.int .i64 id,.int .i64 b1,.slice a1 n1 k1,.int .i64 b2,.slice a2 n2 k2,.slice a3 n3 k3,.int .i64 made] 39):=⟨⟩;have n5:No (.cells #[.int .i64 bl,.slice al nl kl] 30):=⟨⟩;have hb0:=((Below.refl _ w).alloc nr n4).alloc (by simp) n5;have yT:Ag ((w.alloc n4).alloc n5) w n4:=(Ag.new w _).alloc _;have yL:Ag ((w.alloc n4).alloc n5) (w.heap.size+1) n5:=by have:=Ag.new (w.alloc n4) n5;simpa using this
 go_enter func106,ntmps106
 go_wp2_with fail
 refine(MZ _ _ _ _ _ _ f1 g1 _ _ _ _ f2 g2 _ _ _ h _ _ _ _ fl gl _ hn1 hn2 hn3 (hc1.below hb0) (hc2.below hb0) (hc3.below hb0) hnl (hcl.below hb0) hm1 hml hr1 hrl).mono ?_;rintro e w1 ⟨rfl,hb1⟩;have B1:Below w w w1:=hb0.trans (hb1.mono (by simp;omega));have xT:=yT.below hb1;have xL:=yL.below hb1;obtain⟨x0,x1,x2,x3,x4,x5,x6⟩:=xT.seven;obtain⟨x7,x8⟩:=xL.two;clear yT yL hb0 hb1;by_cases t1:Cx bl nl fl gl n3 h b1 n1 f1 g1=true
 ·go_wp2_with fail
  refine(Gr _ _ _ _ f1 g1 _ _ _ h _ _ _ _ fl gl _ hm1 hml hn3 (hc1.below B1) (hcl.below B1) (hc3.below B1) hr1 hrl).mono ?_;rintro e w2 ⟨rfl,hb2⟩;have B2:Below w w w2:=B1.trans (hb2.mono B1.size);clear x0 x1 x2 x3 x4 x5 x6 x7 x8 xT xL;go_wp2;go_ret;exact⟨Ah (by rw[t1];rfl),B2⟩
 ·have t1':Cx bl nl fl gl n3 h b1 n1 f1 g1=false:=by simpa using t1
  clear t1;go_wp2;go_ret;exact⟨Ah (by rw[t1'];rfl),B1⟩
open Go.BigFrame Go.Shelf
variable {w:World}{B g ca t:Nat}{vo:Value}{lt:List Ae}{lo:List Ab}
theorem Ak{F:Func}(tmps:Array Value)(W:World)(P n:Nat)(x y u v:Value)(hF:F.results=#[.cell n 27,.tmp (n+1),.tmp (n+2)])(h:Ag W P (.cells #[x,y] 27))(h2:tmps[n]? =some (.pointer P))(h3:tmps[n+1]? =some u)(h4:tmps[n+2]? =some v):
 (results F tmps).run prog W= .ok (.tuple #[.agg #[x,y],u,v]) W:=by
 obtain⟨z0,z1⟩:=h.two;simp[results,hF,go_sem,h2,h3,h4,z0,z1]
theorem BJ.jJ(h:BJ w B (.slice g lt.length ca) vo lt lo)(ht:t<lt.length):Fi w g (t*7) lt[t]/\g<w.heap.size:=by
 obtain⟨b,off,e,hlt,hc⟩:=h.t.lies (fun x hx=>(h.tn x hx).at) (by omega);simp only[Option.some.injEq,Addr.mk.injEq,and_true]at e;obtain⟨rfl,rfl⟩:=e;have h1:=(hc t ht).1;have e1:Ao lt t=lt[t]:=by simp[Ao,ht]
 rw[e1,Nat.zero_add]at h1;exact⟨h1,hlt⟩
theorem BJ.jF{co:Nat}{vt:Value}(h:BJ w B vt (.slice g lo.length co) lt lo)(ht:t<lo.length)(hd:∀x∈lo,x.data.size<=maxLen):C9 w g (t*10) lo[t]/\g<w.heap.size:=by
 obtain⟨b,off,e,hlt,hc⟩:=h.o.lies (fun x hx=>⟨(h.on x hx).1.1,(h.on x hx).2.1.1,(h.on x hx).2.2.1.1,(h.on x hx).2.2.2.1,hd x hx⟩) (by omega);simp only[Option.some.injEq,Addr.mk.injEq,and_true]at e;obtain⟨rfl,rfl⟩:=e;have h1:=(hc t ht).1;have e1:Aa lo t=lo[t]:=by simp[Aa,ht]
 rw[e1,Nat.zero_add]at h1;exact⟨h1,hlt⟩
theorem Fl{α:Type}{l:List α}(ht:t<l.length):l.set t l[t]=l:=by
 refine List.ext_getElem (by simp) fun i h1 h2=>?_;rw[List.getElem_set];split
 ·rename_i e;subst e;rfl
 ·rfl
theorem BJ.setLab(h:BJ w B (.slice g lt.length ca) vo lt lo){b:Int}{d:Ar}(ht:t<lt.length){X:Ae}(hX:X=lt[t])(hd:d.new B w):
 BJ ((w.setCell ⟨g,t*7+1,none⟩ (.int .i64 b)).setCell ⟨g,t*7+2,none⟩ (.slice d.a d.n d.k)) B (.slice g lt.length ca) vo (lt.set t ⟨X.id,b,d,X.b2,X.c2,X.own,X.made⟩) lo/\(∃cur,Ag w g (.cells cur 39))/\B<=g:=by
 have hn:=h.tn _ (List.getElem_mem ht);have hc:=h.tc _ (List.getElem_mem ht);rw[<-hX]at hn hc;obtain⟨k1,⟨cur,hcur⟩,hg⟩:=h.setT (x:=⟨X.id,b,X.c1,X.b2,X.c2,X.own,X.made⟩) (u:= .int .i64 b) ht (i:=1) (by omega) (by rw[<-hX];rfl) hn hc;have el:(lt.set t (⟨X.id,b,X.c1,X.b2,X.c2,X.own,X.made⟩:Ae)).length=lt.length:=by simp
 have kl:=Au (i:=t*7+1) hcur (by decide) (.int .i64 b);have ht':t<(lt.set t (⟨X.id,b,X.c1,X.b2,X.c2,X.own,X.made⟩:Ae)).length:=by rw[el];exact ht
 obtain⟨k2,_,_⟩:=k1.setT (x:=⟨X.id,b,d,X.b2,X.c2,X.own,X.made⟩) (u:= .slice d.a d.n d.k) ht' (i:=2) (by omega) (by rw[List.getElem_set_self];rfl) ⟨hd.keeps kl,hn.2.1.keeps kl,hn.2.2.keeps kl⟩ hc;rw[List.set_set]at k2;have e2:(lt.set t (⟨X.id,b,d,X.b2,X.c2,X.own,X.made⟩:Ae)).length=lt.length:=by simp
 rw[e2]at k2;exact⟨k2,⟨cur,hcur⟩,hg⟩
def Fo(c:Ar):Prop:=∀j,j<c.n->∀i,i<j->c.f i<c.f j
def Ib(x:Ae)(s:Al):Bool:=Cx x.b1 x.c1.n x.c1.f x.c1.g x.own.n x.own.h s.b1 s.c1.n s.c1.f s.c1.g&&Cx s.b1 s.c1.n s.c1.f s.c1.g x.own.n x.own.h x.b2 x.c2.n x.c2.f x.c2.g
theorem Qy(lt:List Ae)(lo:List Ab)(g ca:Nat)(oa:Option Addr)(co B:Nat)(w:World)(st:BJ w B (.slice g lt.length ca) (.slice oa lo.length co) lt lo)(hB:B<=w.heap.size)(t:Nat)(ht:t<lt.length)(X:Ae)(hX:X=lt[t])(xs:X.small)(s:Al)(hs:s.at w)(hk:s.kind=12)(hn1:s.c1.n<=1048576)
 (r1:Fo X.c1)(r2:Fo X.c2)(r3:Fo s.c1):
 Calls prog 59 #[.agg #[.slice g lt.length ca,.slice oa lo.length co],.int .i64 t,.agg s] w fun e w'=>∃(x:Ae) (c:Int),e= .returned (.tuple #[.agg #[.slice g lt.length ca,.slice oa lo.length co],.int .i64 c,.string ⟨#[]⟩])/\BJ w' B (.slice g lt.length ca) (.slice oa lo.length co) (lt.set t x) lo/\Below B w w'/\((c=4/\Ib X s=false/\x=X)∨(c=0/\Ib X s=true/\∃d:Ar,s.c1.same d/\x=⟨X.id,s.b1,d,X.b2,X.c2,X.own,X.made⟩)):=by
 obtain⟨th,kd,id_,to_,cat,dat,sb1,sc1,sb2,sc2⟩:=s;simp only at hk hn1 r3 ⊢;subst hk;have XN:Hid (X.new B w/\(X.own.n<=X.own.k/\X.own.k<=maxLen)):=hid (by rw[hX];exact⟨st.tn _ (List.getElem_mem ht),st.tc _ (List.getElem_mem ht)⟩);have XA:Hid (X.at w):=hid XN.out.1.at;obtain⟨CW,gl⟩:=st.jJ ht;rw[<-hX]at CW;have n3:No (.cells #[th,.int .i64 12,id_,to_,cat,.string dat,sb1,sc1,sb2,sc2] 32):=⟨⟩;have n4:No (.cells #[.slice g lt.length ca,.slice oa lo.length co] 27):=⟨⟩;have n5:No (.cells #[.slice none 0 0,.slice none 0 0] 27):=⟨⟩;have n1:Nw (((w.alloc n4).alloc n3).alloc n5):=⟨⟩;have b3:Below w w n1:=((Bf w _).alloc (by simp) _).alloc (by simp;omega) _;have CC:=CW.below gl b3;have q0:(n1:World).cell? ⟨g,t*7,none⟩=some (.int .i64 X.id):=CC.c0;have q1:(n1:World).cell? ⟨g,t*7+1,none⟩=some (.int .i64 X.b1):=CC.c1;have q2:(n1:World).cell? ⟨g,t*7+2,none⟩=some (.slice X.c1.a X.c1.n X.c1.k):=CC.c2;have q3:(n1:World).cell? ⟨g,t*7+3,none⟩=some (.int .i64 X.b2):=CC.c3;have q4:(n1:World).cell? ⟨g,t*7+4,none⟩=some (.slice X.c2.a X.c2.n X.c2.k):=CC.c4;have q5:(n1:World).cell? ⟨g,t*7+5,none⟩=some (.slice X.own.a X.own.n X.own.k):=CC.c5;have q6:(n1:World).cell? ⟨g,t*7+6,none⟩=some (.int .i64 X.made):=CC.c6;have n2:No (.cells X 39):=⟨⟩;have b0:Below w w ((n1:World).alloc n2):=(((Bf w _).alloc (by simp) _).alloc (by simp;omega) _).alloc (by simp;omega) _;have A0:Ag ((n1:World).alloc n2) w n4:=(((Ag.new w _).alloc _).alloc _).alloc _;have P0:Ag ((n1:World).alloc n2) (w.heap.size+1) n3:=by have:=((Ag.new (w.alloc n4) n3).alloc n5).alloc n2;simpa using this
 have R0:Ag ((n1:World).alloc n2) (w.heap.size+1+1) n5:=by have:=(Ag.new ((w.alloc n4).alloc n3) n5).alloc n2;simpa using this
 have X0:Ag ((n1:World).alloc n2) (w.heap.size+1+1+1) n2:=by have:=Ag.new n1 n2;simpa using this
 have HS:=hid (st.below b0);have HB:=hid b0;have HA:=hid A0;have HP:=hid P0;have HR:=hid R0;have HX:=hid X0;have SA:=hid hs;have EX:=hid hX;have i0:(0:Int)<=(t:Int):=by omega
 have i1:(t:Int)<(lt.length:Int):=by omega
 have n6:Na #[sb1,sc1]:=⟨⟩;have F1:Hid (∀W,Below w w W->Calls prog 103 #[.agg #[X.b1,X.c1],X.own,.agg n6] W fun e w'=>e= .returned (.bool (Cx X.b1 X.c1.n X.c1.f X.c1.g X.own.n X.own.h sb1 sc1.n sc1.f sc1.g))/\Below W W w'):=hid (fun W hW=>Gr _ _ _ _ X.c1.f X.c1.g _ _ _ X.own.h _ _ _ _ sc1.f sc1.g W xs.1 hn1 (XA.out.2.2.1) ((XA.out.below hW).1.2) ((SA.out.below hW).1.2) ((XA.out.below hW).2.2.2) r1 r3);have F2:Hid (∀W,Below w w W->Calls prog 103 #[.agg n6,X.own,.agg #[X.b2,X.c2]] W fun e w'=>e= .returned (.bool (Cx sb1 sc1.n sc1.f sc1.g X.own.n X.own.h X.b2 X.c2.n X.c2.f X.c2.g))/\Below W W w'):=hid (fun W hW=>Gr _ _ _ _ sc1.f sc1.g _ _ _ X.own.h _ _ _ _ X.c2.f X.c2.g W hn1 xs.2.1 (XA.out.2.2.1) ((SA.out.below hW).1.2) ((XA.out.below hW).2.1.2) ((XA.out.below hW).2.2.2) r3 r2);have CLB:Hid (∀W,Below w w W->Calls prog 104 #[.agg n6] W fun e w'=>∃d:Ar,e= .returned (.agg #[sb1,d])/\sc1.same d/\d.new W w'/\Below W W w'):=hid (fun W hW=>Cu sb1 sc1 W (SA.out.below hW).1 hn1);have ER:Hid (Ib X ⟨th,12,id_,to_,cat,dat,sb1,sc1,sb2,sc2⟩=(Cx X.b1 X.c1.n X.c1.f X.c1.g X.own.n X.own.h sb1 sc1.n sc1.f sc1.g&&Cx sb1 sc1.n sc1.f sc1.g X.own.n X.own.h X.b2 X.c2.n X.c2.f X.c2.g)):=hid rfl;generalize Cx X.b1 X.c1.n X.c1.f X.c1.g X.own.n X.own.h sb1 sc1.n sc1.f sc1.g=f1 at *;generalize Cx sb1 sc1.n sc1.f sc1.g X.own.n X.own.h X.b2 X.c2.n X.c2.f X.c2.g=f2 at *;generalize Ib X ⟨th,12,id_,to_,cat,dat,sb1,sc1,sb2,sc2⟩=rb at *;clear CC CW b3 b0 A0 P0 R0 X0 hs hX st;go_enter func59,ntmps59
 have WV:=hid HB.out;obtain⟨x0,x1⟩:=HA.out.two;obtain⟨s0,s1,s2,s3,s4,s5,s6,s7,s8,s9⟩:=HP.out.jE;obtain⟨y0,y1,y2,y3,y4,y5,y6⟩:=HX.out.seven;go_wp2_with fail
 have n7:Nv (.slice g lt.length ca):=⟨⟩;have BX:Hid (∀W,Below ((n1:World).alloc n2).heap.size ((n1:World).alloc n2) W->Ag W w n4/\Ag W (w.heap.size+1) n3/\Ag W (w.heap.size+1+1) n5/\Ag W (w.heap.size+1+1+1) n2/\BJ W B n7 (.slice oa lo.length co) lt lo):=hid (fun W hW=>⟨HA.out.below hW,HP.out.below hW,HR.out.below hW,HX.out.below hW,HS.out.below hW⟩);have LW:Hid (∀W,Below ((n1:World).alloc n2).heap.size ((n1:World).alloc n2) W->Below w w W):=hid (fun W hW=>Af HB hW);have LB:Hid (∀W,Below ((n1:World).alloc n2).heap.size ((n1:World).alloc n2) W->Below B w W):=hid (fun W hW=>(Af HB hW).mono hB);have V0:=hid (Below.refl ((n1:World).alloc n2).heap.size ((n1:World).alloc n2));clear x0 x1 s0 s1 s2 s3 s4 s5 s6 s7 s8 s9 y0 y1 y2 y3 y4 y5 y6 q0 q1 q2 q3 q4 q5 q6 HA HP HR HX HS WV;generalize ((n1:World).alloc n2)=V at *;refine(F1 _ (LW _ V0)).mono ?_;rintro e w1 ⟨rfl,hb1⟩;have V1:=hid (Af V0 hb1);clear hb1;obtain⟨x0,x1⟩:=(BX _ V1).1.two;obtain⟨s0,s1,s2,s3,s4,s5,s6,s7,s8,s9⟩:=(BX _ V1).2.1.jE;obtain⟨r0,r1⟩:=(BX _ V1).2.2.1.two;have rf:=(BX _ V1).2.2.1.jC;obtain⟨y0,y1,y2,y3,y4,y5,y6⟩:=(BX _ V1).2.2.2.1.seven;cases f1 with
 |false=>
  simp only[Bool.false_and]at ER;go_wp2;have RB:=hid (BX.out _ V1).2.2.1;have KB:=hid (BX.out _ V1).2.2.2.2;refine bodyPost_ret (Ak _ _ (w.heap.size+1+1) 6 _ _ _ _ Tryz.results59 ((RB.out.jB (i:=0) _).jB (i:=1) _) rfl rfl rfl) rfl ⟨X,4,rfl,?_,?_,.inl ⟨rfl,ER,rfl⟩⟩
  ·rw[EX.out,Fl];exact(KB.out.set RB (.inl rfl) _).set (RB.out.jB (i:=0) _) (.inl rfl) _
  ·exact((LB _ V1).setCell (by dsimp only;omega) _).setCell (by dsimp only;omega) _
 |true=>
 go_wp2_with fail
 refine(F2 _ (LW _ V1)).mono ?_;rintro e w2 ⟨rfl,hb2⟩;have V2:=hid (Af V1 hb2);clear hb2;clear x0 x1 s0 s1 s2 s3 s4 s5 s6 s7 s8 s9 r0 r1 rf y0 y1 y2 y3 y4 y5 y6;obtain⟨x0,x1⟩:=(BX _ V2).1.two;obtain⟨s0,s1,s2,s3,s4,s5,s6,s7,s8,s9⟩:=(BX _ V2).2.1.jE;obtain⟨r0,r1⟩:=(BX _ V2).2.2.1.two;have rf:=(BX _ V2).2.2.1.jC;obtain⟨y0,y1,y2,y3,y4,y5,y6⟩:=(BX _ V2).2.2.2.1.seven;cases f2 with
 |false=>
  simp only[Bool.and_false]at ER;go_wp2;have RB:=hid (BX.out _ V2).2.2.1;have KB:=hid (BX.out _ V2).2.2.2.2;refine bodyPost_ret (Ak _ _ (w.heap.size+1+1) 6 _ _ _ _ Tryz.results59 ((RB.out.jB (i:=0) _).jB (i:=1) _) rfl rfl rfl) rfl ⟨X,4,rfl,?_,?_,.inl ⟨rfl,ER,rfl⟩⟩
  ·rw[EX.out,Fl];exact(KB.out.set RB (.inl rfl) _).set (RB.out.jB (i:=0) _) (.inl rfl) _
  ·exact((LB _ V2).setCell (by dsimp only;omega) _).setCell (by dsimp only;omega) _
 |true=>
 simp only[Bool.and_true]at ER;have EG:Hid (∀args w,(callFunc 104 args).run prog w= .ok (.enter 104 args) w):=hid (enters_of func104 (by kernel_rfl) rfl);have D0:=hid (AF V2);clear x0 x1 s0 s1 s2 s3 s4 s5 s6 s7 s8 s9 r0 r1 rf y0 y1 y2 y3 y4 y5 y6;obtain⟨x0,x1⟩:=(BX _ D0).1.two;obtain⟨s0,s1,s2,s3,s4,s5,s6,s7,s8,s9⟩:=(BX _ D0).2.1.jE;obtain⟨r0,r1⟩:=(BX _ D0).2.2.1.two;have rf:=(BX _ D0).2.2.1.jC;obtain⟨y0,y1,y2,y3,y4,y5,y6⟩:=(BX _ D0).2.2.2.1.seven;have CP:Hid (Calls prog 104 #[.agg n6] w2.drew fun e w'=>∃v,e= .returned v/\(∃d:Ar,v= .agg #[sb1,d]/\sc1.same d/\d.new w2.drew.heap.size w'/\Below w2.drew.heap.size w2.drew w')):=hid ((CLB _ (LW _ D0)).mono fun _ _ ⟨d,e1,h1,h2,h3⟩=>⟨_,e1,d,rfl,h1,h2,h3⟩);go_wp2_with fail
 go_region_law(first
  |(refine Dk (by rfl) 104 _ _ (by rfl) EG _ (by rfl) _ CP ?_;rintro v w3 ⟨d,rfl,sd,nd,b3⟩;have V3:=hid (Af D0 b3);have SD:=hid sd;have ND:=hid (nd.low (Nat.le_trans hB (LW _ D0).size));obtain⟨m0,m1⟩:=(BX _ V3).1.two;have KB:=hid (BX.out _ V3).2.2.2.2;have CC:=(KB.out.jJ ht).1;have c1:=CC.c1;have c2:=CC.c2;have GF:=hid (KB.out.setLab (b:=sb1) (d:=d) ht EX ND);have gf:=GF.out.2.1.choose_spec.jC;clear sd nd b3 CC))
 all_goals(
  have ng1:g≠w.heap.size:=by omega
  have ng2:g≠w.heap.size+1+1:=by omega
  have K4:Hid (BJ ((w3.setCell ⟨g,t*7+1,none⟩ (.int .i64 sb1)).setCell ⟨g,t*7+1+1,none⟩ (.slice d.a d.n d.k)) B n7 (.slice oa lo.length co) (lt.set t ⟨X.id,sb1,d,X.b2,X.c2,X.own,X.made⟩) lo):=hid GF.out.1;have A4:=hid (((BX _ V3).1.other ng1 (i:=t*7+1) (.int .i64 sb1)).other ng1 (i:=t*7+1+1) (.slice d.a d.n d.k));have R4:=hid (((BX _ V3).2.2.1.other ng2 (i:=t*7+1) (.int .i64 sb1)).other ng2 (i:=t*7+1+1) (.slice d.a d.n d.k));have L4:Hid (Below B w ((w3.setCell ⟨g,t*7+1,none⟩ (.int .i64 sb1)).setCell ⟨g,t*7+1+1,none⟩ (.slice d.a d.n d.k))):=hid (((LB _ V3).setCell (by dsimp only;exact GF.out.2.2) _).setCell (by dsimp only;exact GF.out.2.2) _);clear GF gf c1 c2 KB m0 m1 x0 x1 s0 s1 s2 s3 s4 s5 s6 s7 s8 s9 r0 r1 rf y0 y1 y2 y3 y4 y5 y6 ND;generalize (w3.setCell ⟨g,t*7+1,none⟩ (.int .i64 sb1)).setCell ⟨g,t*7+1+1,none⟩ (.slice d.a d.n d.k)=W4 at *;obtain⟨x0,x1⟩:=A4.out.two;obtain⟨r0,r1⟩:=R4.out.two;have rf:=R4.out.jC;go_wp2;refine bodyPost_ret (Ak _ _ (w.heap.size+1+1) 6 _ _ _ _ Tryz.results59 ((R4.out.jB (i:=0) _).jB (i:=1) _) rfl rfl rfl) rfl ⟨⟨X.id,sb1,d,X.b2,X.c2,X.own,X.made⟩,0,rfl,(K4.out.set R4 (.inl rfl) _).set (R4.out.jB (i:=0) _) (.inl rfl) _,(L4.out.setCell (by dsimp only;omega) _).setCell (by dsimp only;omega) _,.inr ⟨rfl,ER,d,SD,rfl⟩⟩)
variable {w:World}{B j:Nat}{l:List Int}{h:Nat->Int}{c:Int}
theorem Ay.newL{c:Nat}{a:Option Addr}(h:Ay w B (.slice a l.length c) l)(hl:l.length<=1048576):AJ.new B w ⟨a,l.length,c,AV l⟩:=by
 refine PX ?_ hl;have e:(List.range l.length).map (AV l)=l:=List.ext_getElem (by simp) fun i h1 h2=>by simp[AV,h2]
 rw[e];exact h
theorem Ay.below'{w':World}{v:Value}(h:Ay w B v l)(hb:Below w w w'):Ay w' B v l:=World.ownsRow.kept (row:=none) h ⟨hb.os,hb.tape,hb.output,hb.size,fun k hk _=>hb.block k hk⟩ (by cases v.ownBlock<;>simp)
theorem BJ.setOwn{g ca:Nat}{vo:Value}{lt:List Ae}{lo:List Ab}(h:BJ w B (.slice g lt.length ca) vo lt lo){t:Nat}{d:AJ}(ht:t<lt.length){X:Ae}(hX:X=lt[t])(hd:d.new B w)(hdc:d.n<=d.k/\d.k<=maxLen):
 BJ (w.setCell ⟨g,t*7+5,none⟩ (.slice d.a d.n d.k)) B (.slice g lt.length ca) vo (lt.set t ⟨X.id,X.b1,X.c1,X.b2,X.c2,d,X.made⟩) lo/\(∃cur,Ag w g (.cells cur 39))/\B<=g:=by
 have hn:=h.tn _ (List.getElem_mem ht);rw[<-hX]at hn;obtain⟨k1,hcur,hg⟩:=h.setT (x:=⟨X.id,X.b1,X.c1,X.b2,X.c2,d,X.made⟩) (u:= .slice d.a d.n d.k) ht (i:=5) (by omega) (by rw[<-hX];rfl) ⟨hn.1,hn.2.1,hd⟩ hdc;have el:(lt.set t (⟨X.id,X.b1,X.c1,X.b2,X.c2,d,X.made⟩:Ae)).length=lt.length:=by simp
 rw[el]at k1;exact⟨k1,hcur,hg⟩
def Dc(h:Nat->Int)(c:Int)(j:Nat):List Int:=((List.range j).map h).filter (fun y=> !decide (y=c))
theorem Nq(e:h j=c):Dc h c (j+1)=Dc h c j:=by
 unfold Dc;rw[List.range_succ,List.map_append,List.filter_append];simp[e]
theorem Uj(e:h j≠c):Dc h c (j+1)=Dc h c j++[h j]:=by
 unfold Dc;rw[List.range_succ,List.map_append,List.filter_append];simp[e]
theorem Ls(h:Nat->Int)(c:Int)(j:Nat):(Dc h c j).length<=j:=by
 unfold Dc;refine Nat.le_trans (List.length_filter_le _ _) ?_;simp
theorem QR(lt:List Ae)(lo:List Ab)(g ca:Nat)(oa:Option Addr)(co B:Nat)(w:World)(st:BJ w B (.slice g lt.length ca) (.slice oa lo.length co) lt lo)(hB:B<=w.heap.size)(t:Nat)(ht:t<lt.length)(X:Ae)(hX:X=lt[t])(xs:X.small)(s:Al)(hk:s.kind=14):
 Calls prog 59 #[.agg #[.slice g lt.length ca,.slice oa lo.length co],.int .i64 t,.agg s] w fun e w'=>∃(x:Ae) (c:Int),e= .returned (.tuple #[.agg #[.slice g lt.length ca,.slice oa lo.length co],.int .i64 c,.string ⟨#[]⟩])/\BJ w' B (.slice g lt.length ca) (.slice oa lo.length co) (lt.set t x) lo/\Below B w w'/\((c=4/\hasB X.own.n X.own.h s.cat=false/\x=X)∨(c=0/\hasB X.own.n X.own.h s.cat=true/\∃(a:Option Addr) (cc:Nat),x=⟨X.id,X.b1,X.c1,X.b2,X.c2,⟨a,(Dc X.own.h s.cat X.own.n).length,cc,AV (Dc X.own.h s.cat X.own.n)⟩,X.made⟩)):=by
 obtain⟨th,kd,id_,to_,cat,dat,sb1,sc1,sb2,sc2⟩:=s;simp only at hk ⊢;subst hk;have XN:Hid (X.new B w/\(X.own.n<=X.own.k/\X.own.k<=maxLen)):=hid (by rw[hX];exact⟨st.tn _ (List.getElem_mem ht),st.tc _ (List.getElem_mem ht)⟩);have XA:Hid (X.at w):=hid XN.out.1.at;have on1:X.own.n<=1048576:=xs.2.2;obtain⟨CW,gl⟩:=st.jJ ht;rw[<-hX]at CW;have n4:No (.cells #[th,.int .i64 14,id_,to_,cat,.string dat,sb1,sc1,sb2,sc2] 32):=⟨⟩;have n5:No (.cells #[.slice g lt.length ca,.slice oa lo.length co] 27):=⟨⟩;have n6:No (.cells #[.slice none 0 0,.slice none 0 0] 27):=⟨⟩;have n1:Nw (((w.alloc n5).alloc n4).alloc n6):=⟨⟩;have b3:Below w w n1:=((Bf w _).alloc (by simp) _).alloc (by simp;omega) _;have CC:=CW.below gl b3;have q0:(n1:World).cell? ⟨g,t*7,none⟩=some (.int .i64 X.id):=CC.c0;have q1:(n1:World).cell? ⟨g,t*7+1,none⟩=some (.int .i64 X.b1):=CC.c1;have q2:(n1:World).cell? ⟨g,t*7+2,none⟩=some (.slice X.c1.a X.c1.n X.c1.k):=CC.c2;have q3:(n1:World).cell? ⟨g,t*7+3,none⟩=some (.int .i64 X.b2):=CC.c3;have q4:(n1:World).cell? ⟨g,t*7+4,none⟩=some (.slice X.c2.a X.c2.n X.c2.k):=CC.c4;have q5:(n1:World).cell? ⟨g,t*7+5,none⟩=some (.slice X.own.a X.own.n X.own.k):=CC.c5;have q6:(n1:World).cell? ⟨g,t*7+6,none⟩=some (.int .i64 X.made):=CC.c6;have n3:No (.cells X 39):=⟨⟩;have b0:Below w w ((n1:World).alloc n3):=(((Bf w _).alloc (by simp) _).alloc (by simp;omega) _).alloc (by simp;omega) _;have A0:Ag ((n1:World).alloc n3) w n5:=(((Ag.new w _).alloc _).alloc _).alloc _;have P0:Ag ((n1:World).alloc n3) (w.heap.size+1) n4:=by have:=((Ag.new (w.alloc n5) n4).alloc n6).alloc n3;simpa using this
 have R0:Ag ((n1:World).alloc n3) (w.heap.size+1+1) n6:=by have:=(Ag.new ((w.alloc n5).alloc n4) n6).alloc n3;simpa using this
 have X0:Ag ((n1:World).alloc n3) (w.heap.size+1+1+1) n3:=by have:=Ag.new n1 n3;simpa using this
 have HS:=hid (st.below b0);have HB:=hid b0;have HA:=hid A0;have HP:=hid P0;have HR:=hid R0;have HX:=hid X0;have EX:=hid hX;have i0:(0:Int)<=(t:Int):=by omega
 have i1:(t:Int)<(lt.length:Int):=by omega
 have F1:Hid (∀W,Below w w W->Calls prog 105 #[X.own,cat] W fun e w'=>e= .returned (.bool (hasB X.own.n X.own.h cat))/\w'=W):=hid (fun W hW=>JK _ _ _ X.own.h cat W XA.out.2.2.1 ((XA.out.below hW).2.2.2));have OI:Hid (∀W,Below w w W->Be W X.own.a X.own.n X.own.h):=hid (fun W hW=>(XA.out.below hW).2.2.2);obtain⟨hb_,eh⟩:∃b,b=hasB X.own.n X.own.h cat:=⟨_,rfl⟩;rw[<-eh]at F1;have EH:=hid eh;clear CC CW b3 b0 A0 P0 R0 X0 hX st eh;go_enter func59,ntmps59
 obtain⟨x0,x1⟩:=HA.out.two;obtain⟨s0,s1,s2,s3,s4,s5,s6,s7,s8,s9⟩:=HP.out.jE;obtain⟨y0,y1,y2,y3,y4,y5,y6⟩:=HX.out.seven;go_wp2_with fail
 have n7:No (.cells #[th,.int .i64 14,id_,to_,cat,.string dat,sb1,sc1,sb2,sc2] 32):=⟨⟩;have n8:No (.cells X 39):=⟨⟩;have n2:Nw ((((w.alloc n5).alloc n7).alloc n6).alloc n8):=⟨⟩;have BX:Hid (∀W,Below (n2:World).heap.size n2 W->Ag W w n5/\Ag W (w.heap.size+1) n7/\Ag W (w.heap.size+1+1) n6/\Ag W (w.heap.size+1+1+1) n8/\BJ W B (.slice g lt.length ca) (.slice oa lo.length co) lt lo):=hid (fun W hW=>⟨HA.out.below hW,HP.out.below hW,HR.out.below hW,HX.out.below hW,HS.out.below hW⟩);have LW:Hid (∀W,Below (n2:World).heap.size n2 W->Below w w W):=hid (fun W hW=>Af HB hW);have LB:Hid (∀W,Below (n2:World).heap.size n2 W->Below B w W):=hid (fun W hW=>(Af HB hW).mono hB);have V0:=hid (Below.refl (n2:World).heap.size n2);clear x0 x1 s0 s1 s2 s3 s4 s5 s6 s7 s8 s9 y0 y1 y2 y3 y4 y5 y6 q0 q1 q2 q3 q4 q5 q6 HA HP HR HX HS;generalize (n2:World)=V at *;refine(F1 _ (LW _ V0)).mono ?_;rintro e w1 ⟨rfl,rfl⟩;obtain⟨x0,x1⟩:=(BX _ V0).1.two;obtain⟨s0,s1,s2,s3,s4,s5,s6,s7,s8,s9⟩:=(BX _ V0).2.1.jE;obtain⟨r0,r1⟩:=(BX _ V0).2.2.1.two;have rf:=(BX _ V0).2.2.1.jC;obtain⟨y0,y1,y2,y3,y4,y5,y6⟩:=(BX _ V0).2.2.2.1.seven;cases hb_ with
 |false=>
  go_wp2;have RB:=hid (BX.out _ V0).2.2.1;have KB:=hid (BX.out _ V0).2.2.2.2;refine bodyPost_ret (Ak _ _ (w.heap.size+1+1) 6 _ _ _ _ Tryz.results59 ((RB.out.jB (i:=0) _).jB (i:=1) _) rfl rfl rfl) rfl ⟨X,4,rfl,?_,?_,.inl ⟨rfl,EH.out.symm,rfl⟩⟩
  ·rw[EX.out,Fl];exact(KB.out.set RB (.inl rfl) _).set (RB.out.jB (i:=0) _) (.inl rfl) _
  ·exact((LB _ V0).setCell (by dsimp only;omega) _).setCell (by dsimp only;omega) _
 |true=>
 have E0:=hid (Ay.made w1 w1 nr);have BE:=hid (Bf w1 (.cells #[] 2));go_wp2;clear x0 x1 s0 s1 s2 s3 s4 s5 s6 s7 s8 s9 r0 r1 rf y0 y1 y2 y3 y4 y5 y6;go_loopw [11,12] (fun v i wr=>∃(j:Nat) (la:Option Addr) (lc:Nat),j<=X.own.n/\i= .int .i64 j/\v= .slice la (Dc X.own.h cat j).length lc/\Ay wr w1 (.slice la (Dc X.own.h cat j).length lc) (Dc X.own.h cat j)/\Below w1 w1 wr) (fun _ i _=>X.own.n-(intOf i).toNat)
 case atStart=>exact⟨0,_,0,Nat.zero_le _,rfl,rfl,E0,BE⟩
 case round=>
  clear E0 BE;obtain⟨j,la,lc,hj,rfl,rfl,ow,be⟩:=hrel;have OW:=hid ow;have BB:=hid be;have ll:=Ls X.own.h cat j;clear ow be;obtain⟨x0,x1⟩:=(BX _ BB).1.two;obtain⟨s0,s1,s2,s3,s4,s5,s6,s7,s8,s9⟩:=(BX _ BB).2.1.jE;obtain⟨r0,r1⟩:=(BX _ BB).2.2.1.two;have rf:=(BX _ BB).2.2.1.jC;obtain⟨y0,y1,y2,y3,y4,y5,y6⟩:=(BX _ BB).2.2.2.1.seven;by_cases hlt:j<X.own.n
  ·have i2:(j:Int)<(X.own.n:Int):=(by omega);have i3:(0:Int)<=(j:Int):=(by omega);obtain⟨b,off,ea,hbl,hc⟩:=OI.out _ (LW _ BB) (by omega);have c0:=hc j hlt;have EA:=hid ea;rw[ea]at y5;have HC:Hid (∀W,Below w1 w1 W->W.cell? ⟨b,off+j,none⟩=some (.int .i64 (X.own.h j))):=hid (fun W hW=>by
    obtain⟨b',off',ea',_,hc'⟩:=OI.out _ (LW _ hW) (by omega);rw[EA.out]at ea';cases ea';exact hc' j hlt)
   clear hc ea;have HLT:=hid hlt;by_cases he:X.own.h j=cat
   ·have EE:=hid he;have hd:(X.own.h j==cat)=true:=(by simpa using he);have hd':decide (X.own.h j=cat)=true:=decide_eq_true he;clear he;go_wp2_with fail
    go_quiet(fail)
    go_wp2;go_roundw;case rel=>exact⟨j+1,la,lc,by have:=HLT.out;omega,by go_num,by rw[Nq EE.out],by rw[Nq EE.out];exact OW.out.below' (below_drewN (Below.refl _ wr) _),BB.out.trans ((below_drewN (Below.refl _ wr) _).mono BB.out.size)⟩
    case measure=>have:=HLT.out;simp[intOf];omega
   ·have EE:=hid he;have hd:(X.own.h j==cat)=false:=(by simpa using he);have hd':decide (X.own.h j=cat)=false:=decide_eq_false he;clear he;go_wp2_with fail
    go_quiet(fail)
    have bn:Below wr wr (wr.drewN nq):=below_drewN (Below.refl _ wr) nq;have OWn:=hid (OW.out.below' bn);have BBn:=hid (BB.out.trans (bn.mono BB.out.size));clear x0 x1 s0 s1 s2 s3 s4 s5 s6 s7 s8 s9 r0 r1 rf y0 y1 y2 y3 y4 y5 y6;clear bn OW BB c0;generalize wr.drewN nq=W at *;obtain⟨x0,x1⟩:=(BX _ BBn).1.two;obtain⟨s0,s1,s2,s3,s4,s5,s6,s7,s8,s9⟩:=(BX _ BBn).2.1.jE;obtain⟨r0,r1⟩:=(BX _ BBn).2.2.1.two;have rf:=(BX _ BBn).2.2.1.jC;obtain⟨y0,y1,y2,y3,y4,y5,y6⟩:=(BX _ BBn).2.2.2.1.seven;rw[EA.out]at y5;have c0:=HC.out _ BBn.out;have n10:No (.cells #[.int .i64 (X.own.h j)] 2):=⟨⟩;have QO:=hid (OWn.out.alloc n10);have QL:=hid (DD.one (w:=W) (X.own.h j));have sQ:w1.heap.size<=(W.alloc n10).heap.size:=(by have:=BBn.out.size;simp;omega);have bQ:=hid (BBn.out.alloc BBn.out.size n10);have ER:=hid (Uj EE);have lR:(Dc X.own.h cat (j+1)).length<=4194304:=(by have:=Ls X.own.h cat (j+1);omega);go_wp2_with(at_builtin;refine AZ _ rfl _ _ rfl w1 (.slice la (Dc X.own.h cat j).length lc) (Dc X.own.h cat j) rfl QO _ 1 1 [X.own.h j] rfl rfl QL (Dc X.own.h cat (j+1)) ER lR sQ ?_;intro a7 c7 w7 o7 g7 h7;have O7:=hid o7;have B7:Hid (Below w1 w1 w7):=hid (bQ.out.trans (below_grown g7 sQ (fun j e=>(World.ownsRow.lt QO j e).1)));clear o7 g7 h7)
    go_roundw;case rel=>exact⟨j+1,a7,c7,by have:=HLT.out;omega,by go_num,rfl,O7,B7⟩
    case measure=>have:=HLT.out;simp[intOf];omega
  ·obtain rfl:j=X.own.n:=by omega
   have i2:¬(X.own.n:Int)<(X.own.n:Int):=(by omega);have ND:Hid (AJ.new B wr ⟨la,(Dc X.own.h cat X.own.n).length,lc,AV (Dc X.own.h cat X.own.n)⟩):=hid (((OW.out.newL (by omega)).low (Nat.le_trans hB HB.out.size)));have CP:=hid (CZ OW);have KB:=hid (BX.out _ BB).2.2.2.2;have CC:=(KB.out.jJ ht).1;have c5:=CC.c5;have GF:=hid (KB.out.setOwn (d:=⟨la,(Dc X.own.h cat X.own.n).length,lc,AV (Dc X.own.h cat X.own.n)⟩) ht EX ND CP);have gf:=GF.out.2.1.choose_spec.jC;have ng1:¬g=w.heap.size:=(by omega);have ng2:¬g=w.heap.size+1+1:=(by omega);have ng3:¬w.heap.size=g:=(by omega);have ng4:¬w.heap.size+1+1=g:=(by omega);have n9:Nv (.slice la (Dc X.own.h cat X.own.n).length lc):=⟨⟩;have A4:=hid ((BX _ BB).1.other (Q:=g) ng1 (i:=t*7+5) n9);have R4:=hid ((BX _ BB).2.2.1.other (Q:=g) ng2 (i:=t*7+5) n9);have L4:Hid (Below B w (wr.setCell ⟨g,t*7+5,none⟩ n9)):=hid ((LB _ BB).setCell (by dsimp only;exact GF.out.2.2) _);clear CC;go_wp2;refine bodyPost_ret (Ak _ _ (w.heap.size+1+1) 6 _ _ _ _ Tryz.results59 ((R4.out.jB (i:=0) _).jB (i:=1) _) rfl rfl rfl) rfl ⟨_,0,rfl,(GF.out.1.set R4 (.inl rfl) _).set (R4.out.jB (i:=0) _) (.inl rfl) _,(L4.out.setCell (by dsimp only;omega) _).setCell (by dsimp only;omega) _,.inr ⟨rfl,EH.out.symm,la,lc,rfl⟩⟩
def putAt(L:List Int)(x:Int):Nat:=L.findIdx (fun y=> !decide (y<x))
def DT(L:List Int)(x:Int):List Int:=if L[putAt L x]? =some x then L else L.take (putAt L x)++[x]++L.drop (putAt L x)
theorem Rh{L:List Int}{x:Int}{k:Nat}(hk:k<=L.length)(h1:∀j,j<k->AV L j<x)(h2:k=L.length∨¬AV L k<x):putAt L x=k:=by
 unfold putAt;by_cases e:k<L.length
 ·rw[List.findIdx_eq e];have h3:¬AV L k<x:=by
   rcases h2 with h2|h2
   ·omega
   ·exact h2
  refine⟨?_,fun j hj=>?_⟩
  ·simp[AV,e]at h3;simpa using h3
  ·have:=h1 j hj;have hj':j<L.length:=(by omega);simp[AV,hj']at this;simpa using this
 ·have ek:k=L.length:=by omega
  subst ek;rw[List.findIdx_eq_length];intro y hy;obtain⟨j,hj,rfl⟩:=List.getElem_of_mem hy;have:=h1 j hj;simp[AV,hj]at this;simpa using this
theorem Pv(A:Addr)(cap:Nat)(L:List Int)(x:Int)(w:World)(hn:L.length<=1048576)(hcap:L.length<=cap)(hcm:cap<=maxLen)(hc:DD w (some A) L):
 Calls prog 101 #[.slice (some A) L.length cap,.int .i64 x] w fun e w'=>∃va vc,e= .returned (.slice va (DT L x).length vc)/\Ay w' w (.slice va (DT L x).length vc) (DT L x)/\Below w w w':=by
 have hi:=hc.ints;unfold maxLen at hcm;go_enter func101,ntmps101
 go_wp2;go_loop [5] (fun i=>∃k:Nat,k<=L.length/\i= .int .i64 k/\(∀j,j<k->AV L j<x)) (fun i=>L.length-(intOf i).toNat)
 case atStart=>exact⟨0,Nat.zero_le _,rfl,fun j hj=>by omega⟩
 case round=>
  obtain⟨k,hk,rfl,hall⟩:=hrel;have HA:Hid (∀j,j<k->AV L j<x):=hall;clear hall;have HC:Hid (DD w (some A) L):=hc;by_cases hlt':k<L.length
  ·obtain⟨b,off,eA,hlt,hcc⟩:=hi (by omega);obtain rfl:A=⟨b,off,none⟩:=by simpa using eA
   have g1:=hcc k hlt';have hki:(k:Int)<(L.length:Int):=(by omega);clear hcc hc hi;by_cases t:AV L k<x
   ·go_wp2;go_round;case rel=>
     refine⟨k+1,by omega,by go_num,fun j hj=>?_⟩;by_cases e:j=k
     ·subst e;exact t
     ·exact HA.out j (by omega)
    case measure=>simp[intOf];omega
   ·have ek:putAt L x=k:=Rh (by omega) HA (.inr t);obtain⟨T,hT⟩:∃T,T=L.take k:=⟨_,rfl⟩;obtain⟨D,hD⟩:∃D,D=L.drop k:=⟨_,rfl⟩;have lT:Hid (T.length=k):=(by show _=_;rw[hT,List.length_take];omega);have lD:Hid (D.length=L.length-k):=(by show _=_;rw[hD,List.length_drop]);obtain⟨R2,hR2⟩:∃R2,R2=T++[x]:=⟨_,rfl⟩;obtain⟨R3,hR3⟩:∃R3,R3=R2++D:=⟨_,rfl⟩;have lR3:Hid (R3.length=L.length+1):=(by show _=_;rw[hR3,hR2];simp[lT.out,lD.out];omega);have lR2:Hid (R2.length=k+1):=(by show _=_;rw[hR2];simp[lT.out]);have HT:Hid (T=L.take k):=hT;have HD:Hid (D=L.drop k):=hD;have HR2:Hid (R2=T++[x]):=hR2;have HR3:Hid (R3=R2++D):=hR3;have HK:Hid (putAt L x=k):=ek;have ID:DD w (some ⟨b,off+k,none⟩) D:=(by rw[hD];exact HC.out.drop k);clear hT hD hR2 hR3 ek;have E0:Below w w (w.alloc (.cells #[] 2)):=Bf w _;have O0:=Ay.made w w nr;have s0:(w.alloc (.cells #[] 2)).heap.size=w.heap.size+1:=(by simp);have ki:(k:Int)<=(L.length:Int):=(by omega);have kc:(k:Int)<=(cap:Int):=(by omega);cases t2:(AV L k==x)with
    |true=>
     have HX:Hid (L[k]? =some x):=(by show _=_;have:=beq_iff_eq.1 t2;simp[AV,hlt']at this;simp[hlt',this]);go_wp2_with(at_builtin;refine AZ _ rfl _ _ rfl w _ [] rfl O0 _ _ _ L rfl rfl (HC.out.below E0) L (by simp) (by omega) (by simp) ?_;intro a' c' w' hown' hgrow' hat')
     go_ret;have e:DT L x=L:=(by unfold DT;rw[HK.out,HX.out];simp);rw[e];exact⟨_,_,rfl,hown',E0.grown hgrow' (by simp) (fun j e=>by cases e;exact Nat.le_refl _)⟩
    |false=>
     have HX:Hid (¬L[k]? =some x):=(by show ¬_;have:=beq_eq_false_iff_ne.1 t2;simp[AV,hlt']at this;simp[hlt',this]);go_wp2_with(first
      |(at_builtin;have hq:=hown2;clear hq;refine AZ _ rfl _ _ rfl w (.slice a2 R2.length c2) R2 rfl hown2 _ _ _ D rfl lD (ID.below E2) R3 HR3 (by rw[lR3.out];omega) E2.size ?_;intro a3 c3 w3 hown3 hgrow3 hat3)
      |(at_builtin;have hq:=hown1;clear hq;refine AZ _ rfl _ _ rfl w (.slice a1 T.length c1) T rfl (hown1.alloc _) _ _ _ [x] rfl rfl (DD.one x) R2 HR2 (by rw[lR2.out];omega) (Nat.le_trans E1.size (by simp)) ?_;intro a2 c2 w2 hown2 hgrow2 hat2;have E2:Below w w w2:=(E1.alloc E1.size _).grown hgrow2 (Nat.le_trans E1.size (by simp)) (fun j e=>(World.ownsRow.lt hown1 j e).1))
      |(at_builtin;refine AZ _ rfl _ _ rfl w (.slice (some ⟨w,0,none⟩) 0 0) [] rfl O0 _ _ _ T rfl lT ((HT.out▸HC.out.take k).below E0) T (by simp) (by rw[lT.out];omega) (by simp) ?_;intro a1 c1 w1 hown1 hgrow1 hat1;have E1:Below w w w1:=E0.grown hgrow1 (by simp) (fun j e=>by cases e;exact Nat.le_refl _)))
     go_ret;have e:DT L x=R3:=by
      unfold DT;rw[HK.out,if_neg HX.out,HR3.out,HR2.out,HT.out,HD.out]
     rw[e];exact⟨_,_,rfl,hown3,E2.grown hgrow3 E2.size (fun j e=>(World.ownsRow.lt hown2 j e).1)⟩
  ·have hkL:k=L.length:=(by omega);have ek:putAt L x=k:=Rh (by omega) HA (.inl hkL);have HK:Hid (putAt L x=k):=ek;have HKL:Hid (k=L.length):=hkL;obtain⟨R2,hR2⟩:∃R2,R2=L++[x]:=⟨_,rfl⟩;have HR2:Hid (R2=L++[x]):=hR2;have lR2:Hid (R2.length=L.length+1):=(by show _=_;rw[hR2];simp);have nk:¬(k:Int)<(L.length:Int):=(by omega);clear hR2 ek hkL hc hi;have E0:Below w w (w.alloc (.cells #[] 2)):=Bf w _;have O0:=Ay.made w w nr;have kc:(k:Int)<=(cap:Int):=(by omega);have ai:Hid (DT L x=R2):=by
    show _=_;unfold DT;rw[HK.out,if_neg (by rw[List.getElem?_eq_none (by have:=HKL.out;omega)];simp),HR2.out,HKL.out];simp
   go_wp2_with(first
    |(at_builtin;have hq:=hown2;clear hq;refine AZ _ rfl _ _ rfl w (.slice a2 R2.length c2) R2 rfl hown2 _ _ _ [] rfl (by have:=HKL.out;simp;omega) (DD.none _ _) R2 (by simp) (by rw[lR2.out];omega) E2.size ?_;intro a3 c3 w3 hown3 hgrow3 hat3)
    |(at_builtin;have hq:=hown1;clear hq;refine AZ _ rfl _ _ rfl w (.slice a1 L.length c1) L rfl (hown1.alloc _) _ _ _ [x] rfl rfl (DD.one x) R2 HR2 (by rw[lR2.out];omega) (Nat.le_trans E1.size (by simp)) ?_;intro a2 c2 w2 hown2 hgrow2 hat2;have E2:Below w w w2:=(E1.alloc E1.size _).grown hgrow2 (Nat.le_trans E1.size (by simp)) (fun j e=>(World.ownsRow.lt hown1 j e).1))
    |(at_builtin;refine AZ _ rfl _ _ rfl w (.slice (some ⟨w,0,none⟩) 0 0) [] rfl O0 _ _ _ L rfl HKL.out.symm (HC.out.below E0) L (by simp) (by omega) (by simp) ?_;intro a1 c1 w1 hown1 hgrow1 hat1;have E1:Below w w w1:=E0.grown hgrow1 (by simp) (fun j e=>by cases e;exact Nat.le_refl _)))
   all_goals
    go_ret;rw[ai.out];exact⟨_,_,rfl,hown3,E2.grown hgrow3 E2.size (fun j e=>(World.ownsRow.lt hown2 j e).1)⟩
end Go.Proofs.YteoihknaljgocaaGreatDoor
