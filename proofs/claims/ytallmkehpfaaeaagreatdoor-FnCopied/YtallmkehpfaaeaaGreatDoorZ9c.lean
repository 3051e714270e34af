import Derived.Test.YtallmkehpfaaeaaGreatDoorZ2c
import Derived.Test.YtallmkehpfaaeaaGreatDoorZ0c
import Derived.Test.YtallmkehpfaaeaaGreatDoorZ3c
import Derived.Test.YtallmkehpfaaeaaGreatDoorZ1c
import Derived.Test.YtallmkehpfaaeaaGreatDoorZ5c
import Derived.Test.YtallmkehpfaaeaaGreatDoorZ8c
set_option maxRecDepth 100000
set_option maxHeartbeats 16000000
namespace Go.Proofs.YtallmkehpfaaeaaGreatDoor
open Go.RowKit Go.Deep Go.Maps Go.Proofs.Tryz
theorem Pk{m:Int->Option Int}{x base c:Int}{D:DataW Unit}(h1:Maps.has D (.int .i64 x)=(m x).isSome)(h2:∀v,m x=some v->D.atKey (.int .i64 x) (.lit (.int .i64 0))= .lit (.int .i64 v))(hat:D.atKey (.int .i64 x) (.lit (.int .i64 0))= .lit (.int .i64 c)):
 (Maps.has D (.int .i64 x)=true->(m x).getD base=c)/\(Maps.has D (.int .i64 x)=false->(m x).getD base=base):=by
 cases hm:m x with
 |none=>simp[h1,hm]
 |some v=>
  have:=(h2 v hm).symm.trans hat;simp at this;simp[h1,hm,this]
theorem XR(base:Int)(c n:Nat)(m:Int->Option Int)(x:Int)(w:World)(hm:Be w c n m)(hx:(Lit.int .i64 x).wf=true):
 Calls prog 98 #[.agg #[.int .i64 base,.map (some c)],.int .i64 x] w fun e w'=>e= .returned (.int .i64 ((m x).getD base))/\Below w w w':=by
 have hkey:keyOf prog 2 (.int .i64 x)=some (.int .i64 x):=keyOf_int_mk underlying2 hx;obtain⟨D,hown,hD,hall⟩:=hm.alloc (.cells #[.int .i64 base,.map (some c)] 145);obtain⟨h1,h2⟩:=hall x;clear hall;go_enter func98,ntmps98
 have HH:Hid (∀(c:Int),D.atKey (.int .i64 x) (.lit (.int .i64 0))= .lit (.int .i64 c)->(Maps.has D (.int .i64 x)=true->(m x).getD base=c)/\(Maps.has D (.int .i64 x)=false->(m x).getD base=base)):=fun c hat=>Pk h1 h2 hat;clear h1 h2;go_wp2_with(at_lookup;refine wpList_lookup_own_ok_int _ rfl _ _ 138 rfl 2 2 .i64 GB underlying138 underlying2 (Xr _) c n _ rfl hown _ _ rfl hkey ?_;intro cc hat hwc)
 ·go_ret;have t:Maps.has D (.int .i64 x)=true:=by assumption
  exact⟨El ((HH _ hat).1 t).symm,(Below.refl _ _).alloc (Nat.le_refl _) _⟩
 ·go_ret;have t:Maps.has D (.int .i64 x)=false:=by assumption
  exact⟨El ((HH _ hat).2 t).symm,(Below.refl _ _).alloc (Nat.le_refl _) _⟩
def DT(base:Int)(n:Nat)(f g:Nat->Int)(x:Int):Int:=(look f g n x).getD base
theorem Ux{f g:Nat->Int}{k:Nat}{x:Int}(h:∀i,i<k->f i≠x):look f g k x=none:=by
 induction k with
 |zero=>rfl
 |succ k ih=>simp only[look];rw[if_neg (h k (by omega))];exact ih fun i hi=>h i (by omega)
theorem Um{f g:Nat->Int}{n k:Nat}(hr:∀j,j<n->∀i,i<j->f i<f j)(hk:k<n):look f g n (f k)=some (g k):=by
 induction n with
 |zero=>omega
 |succ n ih=>
  simp only[look];by_cases e:k=n
  ·subst e;rw[if_pos rfl]
  ·have:=hr n (by omega) k (by omega);rw[if_neg (by omega)];exact ih (fun j hj i hi=>hr j (by omega) i hi) (by omega)
theorem Kq(base:Int)(a:Option Addr)(n cap:Nat)(f g:Nat->Int)(x:Int)(w:World)(hn:n<=maxLen)(hc:AI w a n f g)(hr:∀j,j<n->∀i,i<j->f i<f j):
 Calls prog 155 #[.agg #[.int .i64 base,.slice a n cap],.int .i64 x] w fun e w'=>e= .returned (.int .i64 (DT base n f g x))/\Below w w w':=by
 unfold maxLen at hn;have hb0:=(Below.refl _ w).alloc (Nat.le_refl _) (.cells #[.int .i64 base,.slice a n cap] 30);have hc1:=hc.below hb0;have HR:Hid (∀j,j<n->∀i,i<j->f i<f j):=hr;clear hc hr;go_enter func155,ntmps155
 go_wp2;go_loop [5] (fun i=>∃k:Nat,k<=n/\i= .int .i64 k/\(∀j,j<k->f j≠x)) (fun i=>n-(intOf i).toNat)
 case atStart=>exact⟨0,Nat.zero_le _,rfl,fun j hj=>by omega⟩
 case round=>
  obtain⟨k,hk,rfl,hall⟩:=hrel;have HA:Hid (∀j,j<k->f j≠x):=hall;clear hall;by_cases hlt':k<n
  ·obtain⟨b,off,rfl,hlt,hcc⟩:=hc1 (by omega);obtain⟨g1,g2⟩:=hcc k hlt';clear hcc hc1;by_cases t:(f k==x)=true
   ·go_wp2;go_ret;have t':f k=x:=(by simpa using t);exact⟨El (by rw[<-t',DT,Um HR.out hlt'];rfl),hb0⟩
   ·have t':(f k==x)=false:=(by simpa using t);clear t;go_wp2;go_round;case rel=>
     refine⟨k+1,by omega,by go_num,fun j hj=>?_⟩;by_cases e:j=k
     ·subst e;simpa using t'
     ·exact HA.out j (by omega)
    case measure=>simp[intOf];omega
  ·clear hc1;go_wp2;go_ret;have e:k=n:=(by omega);subst e;exact⟨El (by rw[DT,Ux HA.out];rfl),hb0⟩
theorem PQ{base:Int}{n:Nat}{f g:Nat->Int}(h:AO base n f g=true):∀i,i<n->(Lit.int .i64 (f i)).wf=true/\(Lit.int .i64 (g i)).wf=true:=fun i hi=>by
 obtain⟨h1,h2,_⟩:=SK.1 ((JA h).2.2 i hi);exact⟨GQ (by omega) (by omega),GQ (by omega) (by omega)⟩
def hasB(n:Nat)(h:Nat->Int)(x:Int):Bool:=(List.range n).any (fun i=>h i==x)
theorem P3{n k:Nat}{h:Nat->Int}{x:Int}(hk:k<n)(e:h k=x):hasB n h x=true:=by
 unfold hasB;rw[List.any_eq_true];exact⟨k,List.mem_range.2 hk,by simpa using e⟩
theorem Su{n:Nat}{h:Nat->Int}{x:Int}(e:∀i,i<n->h i≠x):hasB n h x=false:=by
 unfold hasB;rw[List.any_eq_false];intro i hi;simpa using e i (List.mem_range.1 hi)
theorem It(a:Option Addr)(n cap:Nat)(h:Nat->Int)(x:Int)(w:World)(hn:n<=maxLen)(hc:AX w a n h):
 Calls prog 121 #[.slice a n cap,.int .i64 x] w fun e w'=>e= .returned (.bool (hasB n h x))/\w'=w:=by
 unfold maxLen at hn;go_enter func121,ntmps121
 go_wp2;go_loop [5] (fun i=>∃k:Nat,k<=n/\i= .int .i64 k/\(∀j,j<k->h j≠x)) (fun i=>n-(intOf i).toNat)
 case atStart=>exact⟨0,Nat.zero_le _,rfl,fun j hj=>by omega⟩
 case round=>
  obtain⟨k,hk,rfl,hall⟩:=hrel;have HA:Hid (∀j,j<k->h j≠x):=hall;clear hall;by_cases hlt':k<n
  ·obtain⟨b,off,rfl,hlt,hcc⟩:=hc (by omega);have g1:=hcc k hlt';clear hcc hc;by_cases t:(h k==x)=true
   ·go_wp2;go_ret;exact⟨Af (P3 hlt' (by simpa using t)).symm,rfl⟩
   ·have t':(h k==x)=false:=(by simpa using t);clear t;go_wp2;go_round;case rel=>
     refine⟨k+1,by omega,by go_num,fun j hj=>?_⟩;by_cases e:j=k
     ·subst e;simpa using t'
     ·exact HA.out j (by omega)
    case measure=>simp[intOf];omega
  ·clear hc;go_wp2;go_ret;have e:k=n:=(by omega);subst e;exact⟨Af (Su HA).symm,rfl⟩
def H9(ba:Int)(na:Nat)(fa ga:Nat->Int)(no:Nat)(ho:Nat->Int)(bb:Int)(nb:Nat)(fb gb:Nat->Int)(x:Int):Bool:=
 hasB no ho x|| !decide (DT bb nb fb gb x<DT ba na fa ga x)
def Cg(ba:Int)(na:Nat)(fa ga:Nat->Int)(no:Nat)(ho:Nat->Int)(bb:Int)(nb:Nat)(fb gb:Nat->Int):Bool:=
 decide (ba<=bb)&&(List.range (na+nb)).all (fun i=>H9 ba na fa ga no ho bb nb fb gb (glue na fa fb i))
theorem Kh{ba:Int}{na:Nat}{fa ga:Nat->Int}{no:Nat}{ho:Nat->Int}{bb:Int}{nb:Nat}{fb gb:Nat->Int}(h:bb<ba):Cg ba na fa ga no ho bb nb fb gb=false:=by
 have:decide (ba<=bb)=false:=by simp;omega
 simp[Cg,this]
theorem J9{ba:Int}{na:Nat}{fa ga:Nat->Int}{no:Nat}{ho:Nat->Int}{bb:Int}{nb:Nat}{fb gb:Nat->Int}{k:Nat}(hk:k<na+nb)(h:H9 ba na fa ga no ho bb nb fb gb (glue na fa fb k)=false):Cg ba na fa ga no ho bb nb fb gb=false:=by
 have:(List.range (na+nb)).all (fun i=>H9 ba na fa ga no ho bb nb fb gb (glue na fa fb i))=false:=by
  rw[List.all_eq_false];exact⟨k,List.mem_range.2 hk,by simp[h]⟩
 simp[Cg,this]
theorem Nu{ba:Int}{na:Nat}{fa ga:Nat->Int}{no:Nat}{ho:Nat->Int}{bb:Int}{nb:Nat}{fb gb:Nat->Int}(h0:ba<=bb)(h:∀i,i<na+nb->H9 ba na fa ga no ho bb nb fb gb (glue na fa fb i)=true):Cg ba na fa ga no ho bb nb fb gb=true:=by
 have:(List.range (na+nb)).all (fun i=>H9 ba na fa ga no ho bb nb fb gb (glue na fa fb i))=true:=by
  rw[List.all_eq_true];intro i hi;exact h i (List.mem_range.1 hi)
 simp[Cg,this,h0]
theorem FA(ba:Int)(aa:Option Addr)(na ka:Nat)(fa ga:Nat->Int)(ao:Option Addr)(no ko:Nat)(ho:Nat->Int)(bb:Int)(ab:Option Addr)(nb kb:Nat)(fb gb:Nat->Int)(w:World)
 (hna:na<=1048576)(hnb:nb<=1048576)(hno:no<=maxLen)(hca:AI w aa na fa ga)(hcb:AI w ab nb fb gb)(hco:AX w ao no ho)
 (hra:∀j,j<na->∀i,i<j->fa i<fa j)(hrb:∀j,j<nb->∀i,i<j->fb i<fb j):
 Calls prog 119 #[.agg #[.int .i64 ba,.slice aa na ka],.slice ao no ko,.agg #[.int .i64 bb,.slice ab nb kb]] w fun e w'=>e= .returned (.bool (Cg ba na fa ga no ho bb nb fb gb))/\Below w w w':=by
 have n3:Na #[.int .i64 ba,.slice aa na ka]:=⟨⟩;have n4:Na #[.int .i64 bb,.slice ab nb kb]:=⟨⟩;have hb0:=((Below.refl _ w).alloc (Nat.le_refl _) (.cells n3 30)).alloc (by simp) (.cells n4 30);by_cases h0:bb<ba
 ·go_enter func119,ntmps119
  go_wp2;go_ret;exact⟨Af (Kh h0).symm,hb0⟩
 ·go_enter func119,ntmps119
  go_wp2_with fail
  have n1:Nw ((w.alloc (.cells n3 30)).alloc (.cells n4 30)):=⟨⟩;have own0:Ay (((n1:World).alloc (.cells #[] 95)).drew) (w.heap.size+1+1) (.slice (some ⟨w.heap.size+1+1,0,none⟩) 0 0) 0 (fun _=>0) (fun _=>0):=by
   have:=World.ownsRow_made (base:=w.heap.size+1+1) (e:=95) (size:=2) n1 #[] 0 (by simp) (Nat.zero_le _) rfl;simp at this;exact this
  have B0:=(hb0.alloc (by simp;omega) (.cells #[] 95)).drew;have C0a:=hca.below B0;obtain⟨D0,hD0⟩:∃D0,D0=((n1:World).alloc (.cells #[] 95)).drew:=⟨_,rfl⟩;have d1:D0.cell? ⟨w,0,none⟩=some (.int .i64 ba):=by rw[hD0];go_simp
  have d2:D0.cell? ⟨w,1,none⟩=some (.slice aa na ka):=by rw[hD0];go_simp
  have d3:D0.cell? ⟨w.heap.size+1,0,none⟩=some (.int .i64 bb):=by rw[hD0];go_simp
  have d4:D0.cell? ⟨w.heap.size+1,1,none⟩=some (.slice ab nb kb):=by rw[hD0];go_simp
  have dz:w.heap.size+1+1<=D0.heap.size:=by rw[hD0];simp
  have n2:Nw (((w.alloc (.cells n3 30)).alloc (.cells n4 30)).alloc (.cells #[] 95)):=⟨⟩;have HD:Hid (D0=(n2:World).drew):=hD0;have GG:∀w1,((n2:World).drew).grownBy w1 (Value.slice (some ⟨w.heap.size+1+1,0,none⟩) 0 0).ownBlock->Below (w.heap.size+1+1) D0 w1:=fun w1 hg=>by
   rw[<-HD.out]at hg;exact(Below.refl _ _).grown hg dz (fun k e=>by cases e;exact Nat.le_refl _)
  have B0':Below w w D0:=by rw[hD0];exact B0
  clear hD0;go_region_held3(fun w'=>w'.cell? ⟨w,0,none⟩=some (.int .i64 ba)/\w'.cell? ⟨w,1,none⟩=some (.slice aa na ka)/\w'.cell? ⟨w.heap.size+1,0,none⟩=some (.int .i64 bb)/\w'.cell? ⟨w.heap.size+1,1,none⟩=some (.slice ab nb kb)) (go_keep)
   (first
     |(refine Gw _ (by rfl) _ _ (by rfl) (w.heap.size+1+1) _ (fun _=>0) (fun _=>0) (by rfl) own0 aa na ka fa ga (by rfl) C0a (by omega) (by simp) ?_;intro a1 c1 w1 hown1 hgrow1 hat1;have G1:=GG w1 hgrow1;have p1:=(G1.cell (p:=⟨w,0,none⟩) (by dsimp only;omega)).trans d1;have p2:=(G1.cell (p:=⟨w,1,none⟩) (by dsimp only;omega)).trans d2;have p3:=(G1.cell (p:=⟨w.heap.size+1,0,none⟩) (by dsimp only;omega)).trans d3;have p4:=(G1.cell (p:=⟨w.heap.size+1,1,none⟩) (by dsimp only;omega)).trans d4;have s1:w.heap.size+1+1<=w1.heap.size:=Nat.le_trans dz G1.size;have B1:Below w w w1:=B0'.trans (G1.mono (by omega));have C1b:=hcb.below B1)
     |(refine Eb _ (by rfl) _ _ (by rfl) (w.heap.size+1+1) _ na fa ga (by rfl) hown1 ab nb kb fb gb (by rfl) C1b (by omega) s1 ?_;intro a2 c2 w2 hown2 hgrow2 hat2;have G2:Below (w.heap.size+1+1) w1 w2:=(Below.refl _ _).grown hgrow2 s1 (fun k e=>(World.ownsRow.lt hown1 k e).1);have q1:=(G2.cell (p:=⟨w,0,none⟩) (by dsimp only;omega)).trans p1;have q2:=(G2.cell (p:=⟨w,1,none⟩) (by dsimp only;omega)).trans p2;have q3:=(G2.cell (p:=⟨w.heap.size+1,0,none⟩) (by dsimp only;omega)).trans p3;have q4:=(G2.cell (p:=⟨w.heap.size+1,1,none⟩) (by dsimp only;omega)).trans p4;have s2:w.heap.size+1+1<=w2.heap.size:=Nat.le_trans s1 G2.size;have B2:Below w w w2:=B1.trans (G2.mono (by omega))))
  have C2:=Ay.cats hown2;have C2a:=hca.below B2;have C2b:=hcb.below B2;have C2o:=hco.below B2;clear p1 p2 p3 p4 d1 d2 d3 d4 hca hcb hco B0 C0a own0 hb0 hown1 hgrow1 hat1 hgrow2 hat2 hown2 G1 G2 GG HD s1 C1b B1 dz B0';go_wp2;go_loopw [8] (fun i wr=>∃k:Nat,k<=na+nb/\i= .int .i64 k/\(∀j,j<k->H9 ba na fa ga no ho bb nb fb gb (glue na fa fb j)=true)/\Below w2 w2 wr) (fun i _=>na+nb-(intOf i).toNat)
  case atStart=>exact⟨0,Nat.zero_le _,rfl,fun j hj=>by omega,Below.refl _ _⟩
  case round=>
   obtain⟨k,hk,rfl,hall,hB⟩:=hrel;have HA:Hid (∀j,j<k->H9 ba na fa ga no ho bb nb fb gb (glue na fa fb j)=true):=hall;clear hall;have Bw:Below w w wr:=B2.trans (hB.mono (by omega));by_cases hlt':k<na+nb
   ·obtain⟨b,off,rfl,hlt,hcc⟩:=C2 (by omega);have r5:=(hB.cell (p:=⟨b,off+k*2,none⟩) hlt).trans (hcc k hlt').1;have r1:=(hB.cell (p:=⟨w,0,none⟩) (by dsimp only;omega)).trans q1;have r2:=(hB.cell (p:=⟨w,1,none⟩) (by dsimp only;omega)).trans q2;have r3:=(hB.cell (p:=⟨w.heap.size+1,0,none⟩) (by dsimp only;omega)).trans q3;have r4:=(hB.cell (p:=⟨w.heap.size+1,1,none⟩) (by dsimp only;omega)).trans q4;have i0:(0:Int)<=(k:Int):=(by omega);have i1:(k:Int)<((na+nb:Nat):Int):=(by omega);have i1':(k:Int)<(na:Int)+(nb:Int):=(by omega);have y1:w.heap.size<wr.heap.size:=(by have:=hB.size;omega);have y2:w.heap.size+1<wr.heap.size:=(by have:=hB.size;omega);have y3:b<wr.heap.size:=(by have:=hB.size;omega);have Ca:AI wr.drew aa na fa ga:=(C2a.below hB).below (Below.refl _ _).drew;have Cb:AI wr.drew ab nb fb gb:=(C2b.below hB).below (Below.refl _ _).drew;have Co:AX wr ao no ho:=C2o.below hB;obtain⟨x,hx⟩:∃x,x=glue na fa fb k:=⟨_,rfl⟩;rw[<-hx]at r5;have HX:Hid (x=glue na fa fb k):=hx;clear hx hcc C2 C2a C2b C2o q1 q2 q3 q4;by_cases t:hasB no ho x=true
    ·clear Ca Cb;have t':H9 ba na fa ga no ho bb nb fb gb x=true:=(by simp[H9,t]);have HT:Hid (H9 ba na fa ga no ho bb nb fb gb x=true):=t';clear t';go_wp2_with fail
     have CoN:∀m,AX (wr.drewN m) ao no ho:=fun m=>Co.below (below_drewN (Below.refl _ _) m);go_quiet((go_at_call 121;exact Calls.quiet_of_same (It _ _ _ ho _ _ hno (CoN _))))
     clear CoN;go_wp2;go_roundw;case rel=>
      refine⟨k+1,by omega,by go_num,fun j hj=>?_,below_drewN hB _⟩;by_cases e:j=k
      ·subst e;rw[<-HX.out];exact HT.out
      ·exact HA.out j (by omega)
     case measure=>simp[intOf];omega
    ·have t0:hasB no ho x=false:=(by simpa using t);clear t;have Co':AX wr.drew ao no ho:=Co.below (Below.refl _ _).drew;have HRA:Hid (∀j,j<na->∀i,i<j->fa i<fa j):=hra;have HRB:Hid (∀j,j<nb->∀i,i<j->fb i<fb j):=hrb;have ma:na<=maxLen:=(by unfold maxLen;omega);have mb:nb<=maxLen:=(by unfold maxLen;omega);clear Co hra hrb;go_wp2_with fail
     go_region_held3(fun w'=>w'.cell? ⟨w,0,none⟩=some (.int .i64 ba)/\w'.cell? ⟨w,1,none⟩=some (.slice aa na ka)/\w'.cell? ⟨w.heap.size+1,0,none⟩=some (.int .i64 bb)/\w'.cell? ⟨w.heap.size+1,1,none⟩=some (.slice ab nb kb)/\w'.cell? ⟨b,off+k*2,none⟩=some (.int .i64 x)) (go_keep)
      (first
        |(go_at_call 121;refine(It _ _ _ ho _ _ hno Co').mono ?_;rintro e w' ⟨rfl,rfl⟩)
        |(go_at_call 155;refine(Kq bb ab nb kb fb gb x _ mb (Cb.below hb1) HRB).mono ?_;rintro e v2 ⟨rfl,hb2⟩;have u1:=(hb2.cell (p:=⟨w,0,none⟩) (Nat.lt_of_lt_of_le y1 hb1.size)).trans p1;have u2:=(hb2.cell (p:=⟨w,1,none⟩) (Nat.lt_of_lt_of_le y1 hb1.size)).trans p2;have u3:=(hb2.cell (p:=⟨w.heap.size+1,0,none⟩) (Nat.lt_of_lt_of_le y2 hb1.size)).trans p3;have u4:=(hb2.cell (p:=⟨w.heap.size+1,1,none⟩) (Nat.lt_of_lt_of_le y2 hb1.size)).trans p4;have u5:=(hb2.cell (p:=⟨b,off+k*2,none⟩) (Nat.lt_of_lt_of_le y3 hb1.size)).trans p5)
        |(go_at_call 155;refine(Kq ba aa na ka fa ga x _ ma Ca HRA).mono ?_;rintro e v1 ⟨rfl,hb1⟩;have p1:=(hb1.cell (p:=⟨w,0,none⟩) y1).trans r1;have p2:=(hb1.cell (p:=⟨w,1,none⟩) y1).trans r2;have p3:=(hb1.cell (p:=⟨w.heap.size+1,0,none⟩) y2).trans r3;have p4:=(hb1.cell (p:=⟨w.heap.size+1,1,none⟩) y2).trans r4;have p5:=(hb1.cell (p:=⟨b,off+k*2,none⟩) y3).trans r5))
     have hBv:Below w2 w2 v2:=(hB.drew.trans (hb1.mono hB.size)).trans (hb2.mono (Nat.le_trans hB.size hb1.size));clear r1 r2 r3 r4 r5 p1 p2 p3 p4 p5 u1 u2 u3 u4 u5 Ca Cb Co' hb1 hb2 HRA HRB;by_cases t1:DT bb nb fb gb x<DT ba na fa ga x
     ·have HT:Hid (H9 ba na fa ga no ho bb nb fb gb x=false):=(by show _=_;simp[H9,t0,t1]);go_wp2;go_ret;refine⟨Af (J9 hlt' ?_).symm,B2.trans (hBv.mono (by omega))⟩;rw[<-HX.out];exact HT.out
     ·have HT:Hid (H9 ba na fa ga no ho bb nb fb gb x=true):=(by show _=_;simp[H9,t0,t1]);go_wp2;go_roundw;case rel=>
       refine⟨k+1,by omega,by go_num,fun j hj=>?_,hBv⟩;by_cases e:j=k
       ·subst e;rw[<-HX.out];exact HT.out
       ·exact HA.out j (by omega)
      case measure=>simp[intOf];omega
   ·go_wp2;go_ret;have e:k=na+nb:=(by omega);exact⟨Af (Nu h0 (fun i hi=>HA i (by omega))).symm,Bw⟩
open Go
theorem Ly(id made b1:Int)(a1:Option Addr)(n1 k1:Nat)(f1 g1:Nat->Int)(b2:Int)(a2:Option Addr)(n2 k2:Nat)(f2 g2:Nat->Int)(a3:Option Addr)(n3 k3:Nat)(h:Nat->Int)(bl:Int)(al:Option Addr)(nl kl:Nat)(fl gl:Nat->Int)(w:World)(_hn1:n1<=maxLen)(_hn2:n2<=maxLen)(hn3:n3<=maxLen)(hc1:AI w a1 n1 f1 g1)(_hc2:AI w a2 n2 f2 g2)(hc3:AX w a3 n3 h)(_hnl:nl<=maxLen)(hcl:AI w al nl fl gl)(hm1:n1<=1048576)(hml:nl<=1048576)(hr1:∀j,j<n1->∀i,i<j->f1 i<f1 j)(hrl:∀j,j<nl->∀i,i<j->fl i<fl j):
 Calls prog 126 #[.agg #[.int .i64 id,.int .i64 b1,.slice a1 n1 k1,.int .i64 b2,.slice a2 n2 k2,.slice a3 n3 k3,.int .i64 made],.agg #[.int .i64 bl,.slice al nl kl]] w fun e w'=>e= .returned (.bool (Cg bl nl fl gl n3 h b1 n1 f1 g1))/\Below w w w':=by
 have n4:No (.cells #[.int .i64 id,.int .i64 b1,.slice a1 n1 k1,.int .i64 b2,.slice a2 n2 k2,.slice a3 n3 k3,.int .i64 made] 42):=⟨⟩;have n5:No (.cells #[.int .i64 bl,.slice al nl kl] 30):=⟨⟩;have hb0:=((Below.refl _ w).alloc (Nat.le_refl _) n4).alloc (by simp) n5;have yT:Ah ((w.alloc n4).alloc n5) w n4:=(Ah.new w _).alloc _;have yL:Ah ((w.alloc n4).alloc n5) (w.heap.size+1) n5:=by have:=Ah.new (w.alloc n4) n5;simpa using this
 go_enter func126,ntmps126
 go_wp2_with fail
 refine(FA _ _ _ _ fl gl _ _ _ h _ _ _ _ f1 g1 _ hml hm1 hn3 (hcl.below hb0) (hc1.below hb0) (hc3.below hb0) hrl hr1).mono ?_;rintro e w1 ⟨rfl,hb1⟩;have B1:Below w w w1:=hb0.trans (hb1.mono (by simp;omega));clear yT yL hb0 hb1;go_wp2;go_ret;exact⟨rfl,B1⟩
theorem Nb(id made b1:Int)(a1:Option Addr)(n1 k1:Nat)(f1 g1:Nat->Int)(b2:Int)(a2:Option Addr)(n2 k2:Nat)(f2 g2:Nat->Int)(a3:Option Addr)(n3 k3:Nat)(h:Nat->Int)(bl:Int)(al:Option Addr)(nl kl:Nat)(fl gl:Nat->Int)(w:World)(hn1:n1<=maxLen)(hn2:n2<=maxLen)(hn3:n3<=maxLen)(hc1:AI w a1 n1 f1 g1)(hc2:AI w a2 n2 f2 g2)(hc3:AX w a3 n3 h)(hnl:nl<=maxLen)(hcl:AI w al nl fl gl)(hm1:n1<=1048576)(hml:nl<=1048576)(hr1:∀j,j<n1->∀i,i<j->f1 i<f1 j)(hrl:∀j,j<nl->∀i,i<j->fl i<fl j):
 Calls prog 122 #[.agg #[.int .i64 id,.int .i64 b1,.slice a1 n1 k1,.int .i64 b2,.slice a2 n2 k2,.slice a3 n3 k3,.int .i64 made],.agg #[.int .i64 bl,.slice al nl kl]] w fun e w'=>e= .returned (.bool (Cg bl nl fl gl n3 h b1 n1 f1 g1&&Cg b1 n1 f1 g1 n3 h bl nl fl gl))/\Below w w w':=by
 have n4:No (.cells #[.int .i64 id,.int .i64 b1,.slice a1 n1 k1,.int .i64 b2,.slice a2 n2 k2,.slice a3 n3 k3,.int .i64 made] 42):=⟨⟩;have n5:No (.cells #[.int .i64 bl,.slice al nl kl] 30):=⟨⟩;have hb0:=((Below.refl _ w).alloc (Nat.le_refl _) n4).alloc (by simp) n5;have yT:Ah ((w.alloc n4).alloc n5) w n4:=(Ah.new w _).alloc _;have yL:Ah ((w.alloc n4).alloc n5) (w.heap.size+1) n5:=by have:=Ah.new (w.alloc n4) n5;simpa using this
 go_enter func122,ntmps122
 go_wp2_with fail
 refine(Ly _ _ _ _ _ _ f1 g1 _ _ _ _ f2 g2 _ _ _ h _ _ _ _ fl gl _ hn1 hn2 hn3 (hc1.below hb0) (hc2.below hb0) (hc3.below hb0) hnl (hcl.below hb0) hm1 hml hr1 hrl).mono ?_;rintro e w1 ⟨rfl,hb1⟩;have B1:Below w w w1:=hb0.trans (hb1.mono (by simp;omega));have xT:=yT.below hb1;have xL:=yL.below hb1;obtain⟨x0,x1,x2,x3,x4,x5,x6⟩:=xT.seven;obtain⟨x7,x8⟩:=xL.two;clear yT yL hb0 hb1;by_cases t1:Cg bl nl fl gl n3 h b1 n1 f1 g1=true
 ·go_wp2_with fail
  refine(FA _ _ _ _ f1 g1 _ _ _ h _ _ _ _ fl gl _ hm1 hml hn3 (hc1.below B1) (hcl.below B1) (hc3.below B1) hr1 hrl).mono ?_;rintro e w2 ⟨rfl,hb2⟩;have B2:Below w w w2:=B1.trans (hb2.mono B1.size);clear x0 x1 x2 x3 x4 x5 x6 x7 x8 xT xL;go_wp2;go_ret;exact⟨Af (by rw[t1];rfl),B2⟩
 ·have t1':Cg bl nl fl gl n3 h b1 n1 f1 g1=false:=by simpa using t1
  clear t1;go_wp2;go_ret;exact⟨Af (by rw[t1'];rfl),B1⟩
open Go.BigFrame Go.Shelf
theorem Aj{F:Func}(tmps:Array Value)(W:World)(P n:Nat)(x y u v:Value)(hF:F.results=#[.cell n 27,.tmp (n+1),.tmp (n+2)])(h:Ah W P (.cells #[x,y] 27))(h2:tmps[n]? =some (.pointer (some ⟨P,0,none⟩)))(h3:tmps[n+1]? =some u)(h4:tmps[n+2]? =some v):
 (results F tmps).run prog W= .ok (.tuple #[.agg #[x,y],u,v]) W:=by
 obtain⟨z0,z1⟩:=h.two;simp[results,hF,go_sem,h2,h3,h4,z0,z1]
theorem Bu.cell7{w:World}{B g ca:Nat}{vo:Value}{lt:List Ae}{lo:List Ab}(h:Bu w B (.slice (some ⟨g,0,none⟩) lt.length ca) vo lt lo){t:Nat}(ht:t<lt.length):FH w g (t*7) lt[t]/\g<w.heap.size:=by
 obtain⟨b,off,e,hlt,hc⟩:=h.t.lies (fun x hx=>(h.tn x hx).at) (by omega);simp only[Option.some.injEq,Addr.mk.injEq,and_true]at e;obtain⟨rfl,rfl⟩:=e;have h1:=(hc t ht).1;have e1:AY lt t=lt[t]:=by simp[AY,ht]
 rw[e1,Nat.zero_add]at h1;exact⟨h1,hlt⟩
theorem Bu.cell10{w:World}{B g co:Nat}{vt:Value}{lt:List Ae}{lo:List Ab}(h:Bu w B vt (.slice (some ⟨g,0,none⟩) lo.length co) lt lo){t:Nat}(ht:t<lo.length)(hd:∀x∈lo,x.data.size<=maxLen):Cr w g (t*10) lo[t]/\g<w.heap.size:=by
 obtain⟨b,off,e,hlt,hc⟩:=h.o.lies (fun x hx=>⟨(h.on x hx).1.1,(h.on x hx).2.1.1,(h.on x hx).2.2.1.1,(h.on x hx).2.2.2.1,hd x hx⟩) (by omega);simp only[Option.some.injEq,Addr.mk.injEq,and_true]at e;obtain⟨rfl,rfl⟩:=e;have h1:=(hc t ht).1;have e1:Aa lo t=lo[t]:=by simp[Aa,ht]
 rw[e1,Nat.zero_add]at h1;exact⟨h1,hlt⟩
theorem Gc{α:Type}{l:List α}{t:Nat}(ht:t<l.length):l.set t l[t]=l:=by
 refine List.ext_getElem (by simp) fun i h1 h2=>?_;rw[List.getElem_set];split
 ·rename_i e;subst e;rfl
 ·rfl
theorem Bu.setLab{w:World}{B g ca:Nat}{vo:Value}{lt:List Ae}{lo:List Ab}(h:Bu w B (.slice (some ⟨g,0,none⟩) lt.length ca) vo lt lo){t:Nat}{b:Int}{d:As}(ht:t<lt.length){X:Ae}(hX:X=lt[t])(hd:d.new B w):
 Bu ((w.setCell ⟨g,t*7+1,none⟩ (.int .i64 b)).setCell ⟨g,t*7+2,none⟩ (.slice d.a d.n d.k)) B (.slice (some ⟨g,0,none⟩) lt.length ca) vo (lt.set t ⟨X.id,b,d,X.b2,X.c2,X.own,X.made⟩) lo/\(∃cur,Ah w g (.cells cur 42))/\B<=g:=by
 have hn:=h.tn _ (List.getElem_mem ht);have hc:=h.tc _ (List.getElem_mem ht);rw[<-hX]at hn hc;obtain⟨k1,⟨cur,hcur⟩,hg⟩:=h.setT (x:=⟨X.id,b,X.c1,X.b2,X.c2,X.own,X.made⟩) (u:= .int .i64 b) ht (i:=1) (by omega) (by rw[<-hX];rfl) hn hc;have el:(lt.set t (⟨X.id,b,X.c1,X.b2,X.c2,X.own,X.made⟩:Ae)).length=lt.length:=by simp
 have kl:=Ao (i:=t*7+1) hcur (by decide) (.int .i64 b);have ht':t<(lt.set t (⟨X.id,b,X.c1,X.b2,X.c2,X.own,X.made⟩:Ae)).length:=by rw[el];exact ht
 obtain⟨k2,_,_⟩:=k1.setT (x:=⟨X.id,b,d,X.b2,X.c2,X.own,X.made⟩) (u:= .slice d.a d.n d.k) ht' (i:=2) (by omega) (by rw[List.getElem_set_self];rfl) ⟨hd.keeps kl,hn.2.1.keeps kl,hn.2.2.keeps kl⟩ hc;rw[List.set_set]at k2;have e2:(lt.set t (⟨X.id,b,d,X.b2,X.c2,X.own,X.made⟩:Ae)).length=lt.length:=by simp
 rw[e2]at k2;exact⟨k2,⟨cur,hcur⟩,hg⟩
def Ej(c:As):Prop:=∀j,j<c.n->∀i,i<j->c.f i<c.f j
def JC(x:Ae)(s:Al):Bool:=Cg x.b1 x.c1.n x.c1.f x.c1.g x.own.n x.own.h s.b1 s.c1.n s.c1.f s.c1.g&&Cg s.b1 s.c1.n s.c1.f s.c1.g x.own.n x.own.h x.b2 x.c2.n x.c2.f x.c2.g
theorem OG(lt:List Ae)(lo:List Ab)(g ca:Nat)(oa:Option Addr)(co B:Nat)(w:World)(st:Bu w B (.slice (some ⟨g,0,none⟩) lt.length ca) (.slice oa lo.length co) lt lo)(hB:B<=w.heap.size)(t:Nat)(ht:t<lt.length)(X:Ae)(hX:X=lt[t])(xs:X.small)(s:Al)(hs:s.at w)(hk:s.kind=12)(hn1:s.c1.n<=1048576)
 (r1:Ej X.c1)(r2:Ej X.c2)(r3:Ej s.c1):
 Calls prog 83 #[.agg #[.slice (some ⟨g,0,none⟩) lt.length ca,.slice oa lo.length co],.int .i64 t,.agg #[s.th,s.kind,s.id,s.to,s.cat,.string s.data,s.b1,.slice s.c1.a s.c1.n s.c1.k,s.b2,.slice s.c2.a s.c2.n s.c2.k]] w fun e w'=>∃(x:Ae) (c:Int),e= .returned (.tuple #[.agg #[.slice (some ⟨g,0,none⟩) lt.length ca,.slice oa lo.length co],.int .i64 c,.string ⟨#[]⟩])/\Bu w' B (.slice (some ⟨g,0,none⟩) lt.length ca) (.slice oa lo.length co) (lt.set t x) lo/\Below B w w'/\((c=4/\JC X s=false/\x=X)∨(c=0/\JC X s=true/\∃d:As,s.c1.same d/\x=⟨X.id,s.b1,d,X.b2,X.c2,X.own,X.made⟩)):=by
 obtain⟨th,kd,id_,to_,cat,dat,sb1,sc1,sb2,sc2⟩:=s;simp only at hk hn1 r3 ⊢;subst hk;have XN:Hid (X.new B w/\(X.own.n<=X.own.k/\X.own.k<=maxLen)):=hid (by rw[hX];exact⟨st.tn _ (List.getElem_mem ht),st.tc _ (List.getElem_mem ht)⟩);have XA:Hid (X.at w):=hid XN.out.1.at;obtain⟨CW,gl⟩:=st.cell7 ht;rw[<-hX]at CW;have n3:No (.cells #[th,.int .i64 12,id_,to_,cat,.string dat,sb1,.slice sc1.a sc1.n sc1.k,sb2,.slice sc2.a sc2.n sc2.k] 32):=⟨⟩;have n4:No (.cells #[.slice (some ⟨g,0,none⟩) lt.length ca,.slice oa lo.length co] 27):=⟨⟩;have n5:No (.cells #[.slice none 0 0,.slice none 0 0] 27):=⟨⟩;have n1:Nw (((w.alloc n4).alloc n3).alloc n5):=⟨⟩;have b3:Below w w n1:=(((Below.refl _ w).alloc (Nat.le_refl _) _).alloc (by simp) _).alloc (by simp;omega) _;have CC:=CW.below gl b3;have q0:(n1:World).cell? ⟨g,t*7,none⟩=some (.int .i64 X.id):=CC.c0;have q1:(n1:World).cell? ⟨g,t*7+1,none⟩=some (.int .i64 X.b1):=CC.c1;have q2:(n1:World).cell? ⟨g,t*7+2,none⟩=some (.slice X.c1.a X.c1.n X.c1.k):=CC.c2;have q3:(n1:World).cell? ⟨g,t*7+3,none⟩=some (.int .i64 X.b2):=CC.c3;have q4:(n1:World).cell? ⟨g,t*7+4,none⟩=some (.slice X.c2.a X.c2.n X.c2.k):=CC.c4;have q5:(n1:World).cell? ⟨g,t*7+5,none⟩=some (.slice X.own.a X.own.n X.own.k):=CC.c5;have q6:(n1:World).cell? ⟨g,t*7+6,none⟩=some (.int .i64 X.made):=CC.c6;have n2:No (.cells #[X.id,X.b1,.slice X.c1.a X.c1.n X.c1.k,X.b2,.slice X.c2.a X.c2.n X.c2.k,.slice X.own.a X.own.n X.own.k,X.made] 42):=⟨⟩;have b0:Below w w ((n1:World).alloc n2):=((((Below.refl _ w).alloc (Nat.le_refl _) _).alloc (by simp) _).alloc (by simp;omega) _).alloc (by simp;omega) _;have A0:Ah ((n1:World).alloc n2) w n4:=(((Ah.new w _).alloc _).alloc _).alloc _;have P0:Ah ((n1:World).alloc n2) (w.heap.size+1) n3:=by have:=((Ah.new (w.alloc n4) n3).alloc n5).alloc n2;simpa using this
 have R0:Ah ((n1:World).alloc n2) (w.heap.size+1+1) n5:=by have:=(Ah.new ((w.alloc n4).alloc n3) n5).alloc n2;simpa using this
 have X0:Ah ((n1:World).alloc n2) (w.heap.size+1+1+1) n2:=by have:=Ah.new n1 n2;simpa using this
 have HS:=hid (st.below b0);have HB:=hid b0;have HA:=hid A0;have HP:=hid P0;have HR:=hid R0;have HX:=hid X0;have SA:=hid hs;have EX:=hid hX;have i0:(0:Int)<=(t:Int):=by omega
 have i1:(t:Int)<(lt.length:Int):=by omega
 have n6:Na #[sb1,.slice sc1.a sc1.n sc1.k]:=⟨⟩;have F1:Hid (∀W,Below w w W->Calls prog 119 #[.agg #[X.b1,.slice X.c1.a X.c1.n X.c1.k],.slice X.own.a X.own.n X.own.k,.agg n6] W fun e w'=>e= .returned (.bool (Cg X.b1 X.c1.n X.c1.f X.c1.g X.own.n X.own.h sb1 sc1.n sc1.f sc1.g))/\Below W W w'):=hid (fun W hW=>FA _ _ _ _ X.c1.f X.c1.g _ _ _ X.own.h _ _ _ _ sc1.f sc1.g W xs.1 hn1 (XA.out.2.2.1) ((XA.out.below hW).1.2) ((SA.out.below hW).1.2) ((XA.out.below hW).2.2.2) r1 r3);have F2:Hid (∀W,Below w w W->Calls prog 119 #[.agg n6,.slice X.own.a X.own.n X.own.k,.agg #[X.b2,.slice X.c2.a X.c2.n X.c2.k]] W fun e w'=>e= .returned (.bool (Cg sb1 sc1.n sc1.f sc1.g X.own.n X.own.h X.b2 X.c2.n X.c2.f X.c2.g))/\Below W W w'):=hid (fun W hW=>FA _ _ _ _ sc1.f sc1.g _ _ _ X.own.h _ _ _ _ X.c2.f X.c2.g W hn1 xs.2.1 (XA.out.2.2.1) ((SA.out.below hW).1.2) ((XA.out.below hW).2.1.2) ((XA.out.below hW).2.2.2) r3 r2);have CLB:Hid (∀W,Below w w W->Calls prog 120 #[.agg n6] W fun e w'=>∃d:As,e= .returned (.agg #[sb1,.slice d.a d.n d.k])/\sc1.same d/\d.new W w'/\Below W W w'):=hid (fun W hW=>Cf sb1 sc1 W (SA.out.below hW).1 hn1);have ER:Hid (JC X ⟨th,12,id_,to_,cat,dat,sb1,sc1,sb2,sc2⟩=(Cg X.b1 X.c1.n X.c1.f X.c1.g X.own.n X.own.h sb1 sc1.n sc1.f sc1.g&&Cg sb1 sc1.n sc1.f sc1.g X.own.n X.own.h X.b2 X.c2.n X.c2.f X.c2.g)):=hid rfl;generalize Cg X.b1 X.c1.n X.c1.f X.c1.g X.own.n X.own.h sb1 sc1.n sc1.f sc1.g=f1 at *;generalize Cg sb1 sc1.n sc1.f sc1.g X.own.n X.own.h X.b2 X.c2.n X.c2.f X.c2.g=f2 at *;generalize JC X ⟨th,12,id_,to_,cat,dat,sb1,sc1,sb2,sc2⟩=rb at *;clear CC CW b3 b0 A0 P0 R0 X0 hs hX st;go_enter func83,ntmps83
 have WV:=hid HB.out;obtain⟨x0,x1⟩:=HA.out.two;obtain⟨s0,s1,s2,s3,s4,s5,s6,s7,s8,s9⟩:=HP.out.ten;obtain⟨y0,y1,y2,y3,y4,y5,y6⟩:=HX.out.seven;go_wp2_with fail
 have n7:Nv (.slice (some ⟨g,0,none⟩) lt.length ca):=⟨⟩;have BX:Hid (∀W,Below ((n1:World).alloc n2).heap.size ((n1:World).alloc n2) W->Ah W w n4/\Ah W (w.heap.size+1) n3/\Ah W (w.heap.size+1+1) n5/\Ah W (w.heap.size+1+1+1) n2/\Bu W B n7 (.slice oa lo.length co) lt lo):=hid (fun W hW=>⟨HA.out.below hW,HP.out.below hW,HR.out.below hW,HX.out.below hW,HS.out.below hW⟩);have LW:Hid (∀W,Below ((n1:World).alloc n2).heap.size ((n1:World).alloc n2) W->Below w w W):=hid (fun W hW=>Ag HB hW);have LB:Hid (∀W,Below ((n1:World).alloc n2).heap.size ((n1:World).alloc n2) W->Below B w W):=hid (fun W hW=>(Ag HB hW).mono hB);have V0:=hid (Below.refl ((n1:World).alloc n2).heap.size ((n1:World).alloc n2));clear x0 x1 s0 s1 s2 s3 s4 s5 s6 s7 s8 s9 y0 y1 y2 y3 y4 y5 y6 q0 q1 q2 q3 q4 q5 q6 HA HP HR HX HS WV;generalize ((n1:World).alloc n2)=V at *;refine(F1 _ (LW _ V0)).mono ?_;rintro e w1 ⟨rfl,hb1⟩;have V1:=hid (Ag V0 hb1);clear hb1;obtain⟨x0,x1⟩:=(BX _ V1).1.two;obtain⟨s0,s1,s2,s3,s4,s5,s6,s7,s8,s9⟩:=(BX _ V1).2.1.ten;obtain⟨r0,r1⟩:=(BX _ V1).2.2.1.two;have rf:=(BX _ V1).2.2.1.warm;obtain⟨y0,y1,y2,y3,y4,y5,y6⟩:=(BX _ V1).2.2.2.1.seven;cases f1 with
 |false=>
  simp only[Bool.false_and]at ER;go_wp2;have RB:=hid (BX.out _ V1).2.2.1;have KB:=hid (BX.out _ V1).2.2.2.2;refine bodyPost_ret (Aj _ _ (w.heap.size+1+1) 6 _ _ _ _ Tryz.results83 ((RB.out.setAt (i:=0) _).setAt (i:=1) _) rfl rfl rfl) rfl ⟨X,4,rfl,?_,?_,.inl ⟨rfl,ER,rfl⟩⟩
  ·rw[EX.out,Gc];exact(KB.out.set RB (.inl rfl) _).set (RB.out.setAt (i:=0) _) (.inl rfl) _
  ·exact((LB _ V1).setCell (by dsimp only;omega) _).setCell (by dsimp only;omega) _
 |true=>
 go_wp2_with fail
 refine(F2 _ (LW _ V1)).mono ?_;rintro e w2 ⟨rfl,hb2⟩;have V2:=hid (Ag V1 hb2);clear hb2;clear x0 x1 s0 s1 s2 s3 s4 s5 s6 s7 s8 s9 r0 r1 rf y0 y1 y2 y3 y4 y5 y6;obtain⟨x0,x1⟩:=(BX _ V2).1.two;obtain⟨s0,s1,s2,s3,s4,s5,s6,s7,s8,s9⟩:=(BX _ V2).2.1.ten;obtain⟨r0,r1⟩:=(BX _ V2).2.2.1.two;have rf:=(BX _ V2).2.2.1.warm;obtain⟨y0,y1,y2,y3,y4,y5,y6⟩:=(BX _ V2).2.2.2.1.seven;cases f2 with
 |false=>
  simp only[Bool.and_false]at ER;go_wp2;have RB:=hid (BX.out _ V2).2.2.1;have KB:=hid (BX.out _ V2).2.2.2.2;refine bodyPost_ret (Aj _ _ (w.heap.size+1+1) 6 _ _ _ _ Tryz.results83 ((RB.out.setAt (i:=0) _).setAt (i:=1) _) rfl rfl rfl) rfl ⟨X,4,rfl,?_,?_,.inl ⟨rfl,ER,rfl⟩⟩
  ·rw[EX.out,Gc];exact(KB.out.set RB (.inl rfl) _).set (RB.out.setAt (i:=0) _) (.inl rfl) _
  ·exact((LB _ V2).setCell (by dsimp only;omega) _).setCell (by dsimp only;omega) _
 |true=>
 simp only[Bool.and_true]at ER;have EG:Hid (∀args w,(callFunc 120 args).run prog w= .ok (.enter 120 args) w):=hid (enters_of func120 (by kernel_rfl) rfl);have D0:=hid (Aq V2);clear x0 x1 s0 s1 s2 s3 s4 s5 s6 s7 s8 s9 r0 r1 rf y0 y1 y2 y3 y4 y5 y6;obtain⟨x0,x1⟩:=(BX _ D0).1.two;obtain⟨s0,s1,s2,s3,s4,s5,s6,s7,s8,s9⟩:=(BX _ D0).2.1.ten;obtain⟨r0,r1⟩:=(BX _ D0).2.2.1.two;have rf:=(BX _ D0).2.2.1.warm;obtain⟨y0,y1,y2,y3,y4,y5,y6⟩:=(BX _ D0).2.2.2.1.seven;have CP:Hid (Calls prog 120 #[.agg n6] w2.drew fun e w'=>∃v,e= .returned v/\(∃d:As,v= .agg #[sb1,.slice d.a d.n d.k]/\sc1.same d/\d.new w2.drew.heap.size w'/\Below w2.drew.heap.size w2.drew w')):=hid ((CLB _ (LW _ D0)).mono fun _ _ ⟨d,e1,h1,h2,h3⟩=>⟨_,e1,d,rfl,h1,h2,h3⟩);go_wp2_with fail
 go_region_law(first
  |(refine Dy (by rfl) 120 _ _ (by rfl) EG _ (by rfl) _ CP ?_;rintro v w3 ⟨d,rfl,sd,nd,b3⟩;have V3:=hid (Ag D0 b3);have SD:=hid sd;have ND:=hid (nd.low (Nat.le_trans hB (LW _ D0).size));obtain⟨m0,m1⟩:=(BX _ V3).1.two;have KB:=hid (BX.out _ V3).2.2.2.2;have CC:=(KB.out.cell7 ht).1;have c1:=CC.c1;have c2:=CC.c2;have GF:=hid (KB.out.setLab (b:=sb1) (d:=d) ht EX ND);have gf:=GF.out.2.1.choose_spec.warm;clear sd nd b3 CC))
 all_goals(
  have ng1:g≠w.heap.size:=by omega
  have ng2:g≠w.heap.size+1+1:=by omega
  have K4:Hid (Bu ((w3.setCell ⟨g,t*7+1,none⟩ (.int .i64 sb1)).setCell ⟨g,t*7+1+1,none⟩ (.slice d.a d.n d.k)) B n7 (.slice oa lo.length co) (lt.set t ⟨X.id,sb1,d,X.b2,X.c2,X.own,X.made⟩) lo):=hid GF.out.1;have A4:=hid (((BX _ V3).1.other ng1 (i:=t*7+1) (.int .i64 sb1)).other ng1 (i:=t*7+1+1) (.slice d.a d.n d.k));have R4:=hid (((BX _ V3).2.2.1.other ng2 (i:=t*7+1) (.int .i64 sb1)).other ng2 (i:=t*7+1+1) (.slice d.a d.n d.k));have L4:Hid (Below B w ((w3.setCell ⟨g,t*7+1,none⟩ (.int .i64 sb1)).setCell ⟨g,t*7+1+1,none⟩ (.slice d.a d.n d.k))):=hid (((LB _ V3).setCell (by dsimp only;exact GF.out.2.2) _).setCell (by dsimp only;exact GF.out.2.2) _);clear GF gf c1 c2 KB m0 m1 x0 x1 s0 s1 s2 s3 s4 s5 s6 s7 s8 s9 r0 r1 rf y0 y1 y2 y3 y4 y5 y6 ND;generalize (w3.setCell ⟨g,t*7+1,none⟩ (.int .i64 sb1)).setCell ⟨g,t*7+1+1,none⟩ (.slice d.a d.n d.k)=W4 at *;obtain⟨x0,x1⟩:=A4.out.two;obtain⟨r0,r1⟩:=R4.out.two;have rf:=R4.out.warm;go_wp2;refine bodyPost_ret (Aj _ _ (w.heap.size+1+1) 6 _ _ _ _ Tryz.results83 ((R4.out.setAt (i:=0) _).setAt (i:=1) _) rfl rfl rfl) rfl ⟨⟨X.id,sb1,d,X.b2,X.c2,X.own,X.made⟩,0,rfl,(K4.out.set R4 (.inl rfl) _).set (R4.out.setAt (i:=0) _) (.inl rfl) _,(L4.out.setCell (by dsimp only;omega) _).setCell (by dsimp only;omega) _,.inr ⟨rfl,ER,d,SD,rfl⟩⟩)
end Go.Proofs.YtallmkehpfaaeaaGreatDoor
