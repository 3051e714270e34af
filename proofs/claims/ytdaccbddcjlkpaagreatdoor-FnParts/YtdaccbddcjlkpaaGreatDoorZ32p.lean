import Derived.Laws.LoneSync
import Derived.Test.YtdaccbddcjlkpaaGreatDoorZ31p
set_option maxRecDepth 100000
set_option maxHeartbeats 8000000
namespace Go.Proofs.YtdaccbddcjlkpaaGreatDoor
open Go Go.RowKit Go.Deep Go.Maps Go.Proofs.Tryz
open Go.Value renaming slice→qV,string→sT
open Go.Obj renaming cells→qG
open _root_.List renaming set→qF
open _root_.Nat renaming zero_le→qy
open Go.World renaming ownsRow→qq
open Go renaming World→qM
open Go.RowKit renaming Below→qN
variable {w w':qM}{B ca co P:Nat}{ta oa:Option Addr}{T:List Ae}{O:List Ab}{v:Value}
def Ff.base{B':Nat}(h:Ff w B ta oa ca co T O)(hB:B'<=B):Ff w B' ta oa ca co T O:=by
 obtain⟨lt,lo,a,b,c,d⟩:=h;exact⟨lt,lo,a.base hB,b,c,d⟩
def Do.ne{t:Nat}{cs:Array Value}{l:List (Int×ByteArray)}(h:Do w B v l)(hb:Ag w P (qG cs t))(ht:t≠37):some P≠v.ownBlock:=by
 intro e;rcases h.2 with⟨hn,_⟩|⟨g,cap,cur,hv,hbg,hg,rest⟩
 ·rw[hn]at e;cases e
 ·rw[hv]at e;have e2:P=g:=Option.some.inj e;subst e2;unfold Ag at hb;rw[hb]at hg;injection hg with hg;injection hg with _ h2 _;exact ht h2
def Ff.kept{row:Option Nat}(h:Ff w B ta oa ca co T O)(hg:w.grownBy w' row)(hr:∀j,row=some j->j<B):Ff w' B ta oa ca co T O:=by
 obtain⟨lt,lo,a,b,c,d⟩:=h;exact⟨lt,lo,a.keepB hg.size (fun x hx hl=>hg.block x hl (fun e=>by have:=hr x e.symm;omega)),b,c,d⟩
def TJ(w:qM)(T':List Ae)(O':List Ab)(ans:List (Int×ByteArray))(e:Ending)(w':qM):Prop:=
 ∃(ta oa:Option Addr) (ca co:Nat) (v:Value),e= .returned (.tuple #[.agg #[qV ta T'.length ca,qV oa O'.length co],v])/\Ff w' w ta oa ca co T' O'/\Do w' w v ans/\qN w w w'
structure YH(w wr:qM)(P:Nat)(T:List Ae)(O:List Ab)(ta oa:Option Addr)(ca co:Nat)(v:Value)(ans:List (Int×ByteArray)):Prop where
 e:qN w w wr
 r:Ag wr (w.heap.size+1) (qG #[qV none 0 0,qV none 0 0] 27)
 p:Ag wr P (qG #[qV ta T.length ca,qV oa O.length co] 27)
 k:Ff wr (w.heap.size+2) ta oa ca co T O
 a:Do wr w v ans
 far:w.heap.size+2<=P
def YH.below{wr:qM}{ans:List (Int×ByteArray)}(h:YH w wr P T O ta oa ca co v ans)(hb:qN wr wr w'):YH w w' P T O ta oa ca co v ans:=
 ⟨Af h.e hb,h.r.below hb,h.p.below hb,h.k.below hb,h.a.below hb,h.far⟩
def fY(wr:qM)(T:List Ae)(O:List Ab)(c:Int)(tx:ByteArray)(p c' x:Value)(wc:qM):Prop:=
 ∃(ta oa:Option Addr) (ca co P9:Nat),p= .pointer P9/\c'= .int .i64 c/\x= sT tx/\Ag wc P9 (qG #[qV ta T.length ca,qV oa O.length co] 27)/\wr.heap.size<=P9/\Ff wc wr ta oa ca co T O/\qN wr wr wc
def Np(tmps:Array Value)(W:qM)(P:Nat)(x y v:Value)(h:Ag W P (qG #[x,y] 27))(h2:tmps[4]? =some (.pointer P))(h3:tmps[5]? =some v):
 (results Tryz.f7 tmps).run prog W= .ok (.tuple #[.agg #[x,y],v]) W:=by
 obtain⟨z0,z1⟩:=h.two;simp[results,Tryz.results7,go_sem,h2,h3,z0,z1]
def Tx(k:Av)(T T':List Ae)(O O':List Ab)(a:Option Addr)(n cap:Nat)(S:Nat->Aj)(ans:List (Int×ByteArray))(w:qM)(h:IU w k T O)(ok:okL T O=true)(hn:n<=60)(hS:Gs w a n S)(r:La S n T O ans T' O'):
 Calls prog 7 #[.agg #[qV k.ta k.tn k.tk,qV k.oa k.on k.ok],qV a n cap] w (TJ w T' O' ans):=by
 obtain⟨TT,OO,A,st,t0,o0,tn,on,an⟩:=Oi r ok;subst t0 o0 tn on an;clear r;have ST:=qC st;have HS:=qC hS;have n1:No (qG #[qV none 0 0,qV none 0 0] 27):=⟨⟩;have n2:No (qG #[qV k.ta k.tn k.tk,qV k.oa k.on k.ok] 27):=⟨⟩;have b0:qN w w ((w.alloc n2).alloc n1):=(Bg w _).alloc sI _;have CB:=qC ((Ag.new w n2).alloc n1);have RB:Hid (Ag ((w.alloc n2).alloc n1) (w.heap.size+1) n1):=qC (by have:=Ag.new (w.alloc n2) n1;simpa using this);have B0:=qC b0;have KR:=qC (h.below b0);have OK:=qC ok;have KO:=qC (FY k _ KR.out.lies (fun i hi=>(h.wfs ok i hi).1));rw[h.okK ok]at KO;have n60:¬(60:Int)<(n:Int):=by omega
 have N60:=qC hn;clear h ok hS b0 st hn;go_enter func7,ntmps7
 go_wp2_with fail
 generalize (w.alloc n2).alloc n1=W0 at *;obtain⟨z0,z1⟩:=CB.out.two;go_wp2_with fail
 refine KO.out.mono ?_;rintro e w1 ⟨rfl,h1⟩;have C1:=qC (CB.out.below h1);have R1:=qC (RB.out.below h1);have K1:=qC (KR.out.below h1);have D1:=qC (Af B0 h1);clear h1 z0 z1 KO CB RB KR B0;obtain⟨z0,z1⟩:=C1.out.two;go_wp2_with fail
 refine(WC K1 OK).mono ?_;rintro e w2 ⟨ta,oa,ca,co,rfl,kw,h2⟩;have n3:Nw (w2.alloc (qG #[qV ta (TT 0).length ca,qV oa (OO 0).length co] 27)):=⟨⟩;have b3:qN w2 w2 ((n3:qM).alloc (qG #[] 37)):=(Bg w2 _).alloc sI _;have le2:=(Af D1 h2).size;have R2:w.heap.size+2<=w1.heap.size:=by have:=R1.out.lt;omega
 have le12:=h2.size;have le_w2:w.heap.size+2<=w2.heap.size:=by omega
 have I0:Hid (YH w ((n3:qM).alloc (qG #[] 37)) w2 (TT 0) (OO 0) ta oa ca co (qV (some ⟨w2.heap.size+1,0,none⟩) 0 0) (A 0)):=qC ⟨Af (Af D1 h2) b3,(R1.out.below h2).below b3,(Ag.new w2 _).alloc _,(kw.base R2).below b3,by
  rw[ST.out.start];have:=World.ownsRow_made n3 (base:=w.heap.size) (e:=37) (size:=2) #[] 0 sO (qy _) rfl;simpa[Do,Gr]using this,le_w2⟩
 clear h2 z0 z1 C1 R1 K1 D1 kw b3 le2;go_upto_region 5 with fail
 generalize (n3:qM).alloc (qG #[] 37)=W3 at *;generalize w2.heap.size=P at *;go_wp2_with fail
 go_loopw [7,8] (fun v i wr=>∃(j:Nat) (ta oa:Option Addr) (ca co:Nat),j<=n/\i= .int .i64 j/\Hid (YH w wr P (TT j) (OO j) ta oa ca co v (A j))) (fun _ i _=>n-(intOf i).toNat)
 case atStart=>exact⟨0,ta,oa,ca,co,qy _,rfl,I0⟩
 case round=>
  clear I0;obtain⟨j,ta,oa,ca,co,hj,rfl,I⟩:=hrel;by_cases hlt:j<n
  ·have i1:(j:Int)<(n:Int):=qQ;have i2:(0:Int)<=(j:Int):=qQ;obtain⟨c,tx,rt,ea⟩:=ST.out.step j hlt;obtain⟨b,off,rfl,hl,hc⟩:=(HS.out.below I.out.e) qQ;obtain⟨cs,sa⟩:=hc j hlt;obtain⟨va,vc,rfl⟩:=I.out.a.shape;have L4:Hid (∀W,qN wr wr W->Calls prog 16 #[.agg #[qV ta (TT j).length ca,qV oa (OO j).length co],.agg (S j)] W fun e w'=>∃v,e= .returned v/\∃(ta oa:Option Addr) (ca co:Nat),v= .tuple #[.agg #[qV ta (TT (j+1)).length ca,qV oa (OO (j+1)).length co],.int .i64 c,sT tx]/\Ff w' W ta oa ca co (TT (j+1)) (OO (j+1))/\qN W W w'):=qC (fun W hW=>(fm (I.out.k.below hW) (ST.out.ok j qQ) (sa.below hW) rt).mono fun e w' ⟨ta,oa,ca,co,he,hk,hb⟩=>⟨_,he,ta,oa,ca,co,rfl,hk,hb⟩);have EL:Hid (∀args w,(callFunc 16 args).run prog w= .ok (.enter 16 args) w):=qC (enters_of func16 kR rfl);have PLT:Hid (P<wr.heap.size):=qC I.out.p.lt;have HLT:=qC hlt;have EA:=qC ea;have CS:=qC cs;have HL:=qC hl;clear rt ea hc sa hlt cs;go_upto_region 8 with fail
   have D2:=qC ((Below.refl wr wr).drew);go_cut[9,10,11] (fun p c' x wc=>fY wr (TT (j+1)) (OO (j+1)) c tx p c' x wc)
   case first=>
    refine Am 13 (fun W=>qN wr wr W) kR ?_;refine tr 0 31 (.agg #[qV ta (TT j).length ca,qV oa (OO j).length co]) D2 ?_ (hy:=fun W h=>by obtain⟨x0,x1⟩:=(I.out.p.below h).two;go_simp);refine tr 1 32 (qV (some ⟨b,off,none⟩) n cap) D2 ?_;refine tr 2 33 (.int .i64 j) D2 ?_;refine tr 3 34 (.pointer (some ⟨b,off+j*10,none⟩)) D2 ?_;refine tr 4 35 (.agg (S j)) D2 ?_ (hy:=fun W h=>by obtain⟨x0,x1,x2,x3,x4,x5,x6,x7,x8,x9⟩:=CS.out.below h HL.out;go_simp);generalize wr.drew=WD at *;refine Cd (i:=5) (j:=10) kR rfl rfl ?_ ?_
    ·intro K hK;refine Ay qK 16 _ _ _ qK EL _ _ qK qK (some 36) qK _ (L4 _ D2) ?_;rintro v w5 ⟨tb,ob,cb,db,rfl,k5,b5⟩;have K5:=qC k5;have V5:=qC (Af D2 b5);refine hK _ _ (fun _=>V5) ?_;clear hK K k5 b5;simp only[ap,qF];have n4:Na #[qV tb (TT (j+1)).length cb,qV ob (OO (j+1)).length db]:=⟨⟩;refine tr 6 30 (.tuple #[.agg n4,.int .i64 c,sT tx]) V5 ?_;refine tr 7 37 (.agg n4) V5 ?_;refine tr 8 38 (.int .i64 c) V5 ?_;refine tr 9 39 (sT tx) V5 ?_;refine Ac (i:=10) kR rfl ?_;intro K hK;have b6:=(Below.refl w5 w5).alloc nr n1;have V6:=qC (Af V5 b6);have B6:=qC b6;have Z6:=qC (Ag.new w5 n1);have s5:=V5.out.size;have s6:=D2.out.size;go_simp;refine hK _ _ (fun _=>V6) ?_;clear hK K b6;try simp only[ap,qF]
     generalize w5.alloc n1=w6 at *;obtain⟨z0,z1⟩:=Z6.out.two;have zf:=Z6.out.jC;refine Ac (i:=11) kR rfl ?_;intro K hK;go_simp;have n6:Nv (qV tb (TT (j+1)).length cb):=⟨⟩;have n7:Nv (qV ob (OO (j+1)).length db):=⟨⟩;have V7:=qC ((V6.out.setCell (p:=⟨w5,0,none⟩) sO n6).setCell (p:=⟨w5,1,none⟩) sO n7);have K7:=qC (K5.out.below ((B6.out.setCell (p:=⟨w5,0,none⟩) nr n6).setCell (p:=⟨w5,1,none⟩) nr n7));have Z7:=qC ((Z6.out.jB (i:=0) n6).jB (i:=1) n7);refine hK _ _ (fun _=>V7) ?_;clear hK K;try simp only[ap,qF]
     refine Ac (i:=12) kR rfl ?_;intro K hK;go_simp;refine hK _ _ (fun _=>V7) ?_;clear hK K;try simp only[ap,qF]
     refine Ac (i:=13) kR rfl ?_;intro K hK;go_simp;refine hK _ _ nA ?_;clear hK K;try simp only[ap,qF]
     refine Ai kR ?_ _;go_wp2_with fail
     go_meet;case rel=>
      exact⟨tb,ob,cb,db,w5,rfl,rfl,rfl,Z7,s5,(K7.out.base s6),V7⟩
    ·intro K hK;have b4:=D2.out.alloc D2.out.size n1;have V4:=qC b4;have Z4:=qC (Ag.new WD n1);have s4:=D2.out.size;have lt4:WD.heap.size<(WD.alloc n1).heap.size:=sI;go_simp;refine hK _ _ (fun _=>V4) ?_;clear hK K b4;try simp only[ap,qF]
     generalize hw4:WD.alloc n1=w4 at *;clear hw4;generalize WD.heap.size=q at *;clear D2;refine Ac (i:=5) kR rfl ?_;intro K hK;refine Ay qK 16 _ _ _ qK EL _ _ qK qK (some 36) qK _ (L4 _ V4) ?_;rintro v w5 ⟨tb,ob,cb,db,rfl,k5,b5⟩;have K5:=qC k5;have V5:=qC (Af V4 b5);have Z5:=qC (Z4.out.below b5);have s5:=V4.out.size;refine hK _ _ (fun _=>V5) ?_;clear hK K k5 b5;simp only[ap,qF];have n5:Na #[qV tb (TT (j+1)).length cb,qV ob (OO (j+1)).length db]:=⟨⟩;refine tr 6 30 (.tuple #[.agg n5,.int .i64 c,sT tx]) V5 ?_;refine tr 7 37 (.agg n5) V5 ?_;refine tr 8 38 (.int .i64 c) V5 ?_;refine tr 9 39 (sT tx) V5 ?_;obtain⟨z0,z1⟩:=Z5.out.two;have zf:=Z5.out.jC;refine Ac (i:=11) kR rfl ?_;intro K hK;go_simp;have n9:Nv (qV tb (TT (j+1)).length cb):=⟨⟩;have n11:Nv (qV ob (OO (j+1)).length db):=⟨⟩;have V7:=qC ((V5.out.setCell (p:=⟨q,0,none⟩) s4 n9).setCell (p:=⟨q,1,none⟩) s4 n11);have K7:=qC ((K5.out.set (P:=q) (i:=0) (u:= qV tb (TT (j+1)).length cb) lt4).set (P:=q) (i:=1) (u:= qV ob (OO (j+1)).length db) lt4);have Z7:=qC ((Z5.out.jB (i:=0) n9).jB (i:=1) n11);refine hK _ _ (fun _=>V7) ?_;clear hK K;try simp only[ap,qF]
     refine Ac (i:=12) kR rfl ?_;intro K hK;go_simp;refine hK _ _ (fun _=>V7) ?_;clear hK K;try simp only[ap,qF]
     refine Ac (i:=13) kR rfl ?_;intro K hK;go_simp;refine hK _ _ nA ?_;clear hK K;try simp only[ap,qF]
     refine Ai kR ?_ _;go_wp2_with fail
     go_meet;case rel=>
      exact⟨tb,ob,cb,db,q,rfl,rfl,rfl,Z7,s4,(K7.out.base s5),V7⟩
   case rest=>
    obtain⟨tb,ob,cb,db,P9,rfl,rfl,rfl,B9,s9,K9,b9⟩:=hcut;have BP:=qC (I.out.p.below b9);have IF:=I.out.far;obtain⟨x0,x1⟩:=BP.out.two;obtain⟨y0,y1⟩:=B9.two;have xf:=BP.out.jC;have PW:=PLT.out;have n10:Nv (qV tb (TT (j+1)).length cb):=⟨⟩;have n12:Nv (qV ob (OO (j+1)).length db):=⟨⟩;have J:Hid (YH w ((wc.setCell ⟨P,0,none⟩ n10).setCell ⟨P,1,none⟩ n12) P (TT (j+1)) (OO (j+1)) tb ob cb db (qV va (A j).length vc) (A j)):=qC ⟨((Af I.out.e b9).setCell (p:=⟨P,0,none⟩) sO _).setCell (p:=⟨P,1,none⟩) sO _,((I.out.r.below b9).other qQ _).other qQ _,(BP.out.jB (i:=0) _).jB (i:=1) _,((K9.set PW).set PW).base qQ,((I.out.a.below b9).set BP qX).set (BP.out.jB _) qX,IF⟩;have KJ:Hid (Ff ((wc.setCell ⟨P,0,none⟩ n10).setCell ⟨P,1,none⟩ n12) wr tb ob cb db (TT (j+1)) (OO (j+1))):=qC ((K9.set PW).set PW);have OL:Hid (∀g,(Value.slice va (A j).length vc).ownBlock=some g->g<wr.heap.size):=qC (fun g e=>(qq.lt I.out.a g e).2);clear K9 b9 B9 s9;go_upto_region 10 with fail
    generalize (wc.setCell ⟨P,0,none⟩ n10).setCell ⟨P,1,none⟩ n12=W9 at *;have n8:Nw (W9.alloc (qG #[.int .i64 c,sT tx] 37)):=⟨⟩;have bA:qN W9 W9 n8:=Bg W9 _;have JA:=qC (J.out.below bA);have KA:=qC (KJ.out.below bA);have LA:=qC (Xb W9 c tx);have lA:(A j).length<=1048576:=(by have:=ST.out.len j hj;have:=N60.out;omega);have sA:w.heap.size<=(n8:qM).heap.size:=JA.out.e.size;clear x0 x1 y0 y1 xf bA;go_wp2_with(refine JF _ rfl _ _ rfl w (qV va (A j).length vc) (A j) rfl JA.out.a (some ⟨W9,0,none⟩) 1 (c,tx) rfl LA lA sA ?_;intro a3 c3 w3 o3 g3)
    go_roundw;case rel=>
     have e1:=EA.out;refine⟨j+1,tb,ob,cb,db,HLT,by go_num,qC ⟨?_,?_,?_,?_,?_,IF⟩⟩
     ·exact JA.out.e.trans (below_grown g3 sA (fun j hj=>(qq.lt JA.out.a j hj).1))
     ·exact JA.out.r.grown g3 (JA.out.a.ne JA.out.r qX)
     ·exact JA.out.p.grown g3 (JA.out.a.ne JA.out.p qX)
     ·exact(KA.out.kept g3 OL).base qQ
     ·rw[e1];exact o3
    case measure=>have:=HLT.out;simp[intOf];omega
  ·obtain rfl:j=n:=by omega
   obtain⟨x0,x1⟩:=I.out.p.two;obtain⟨r0,r1⟩:=I.out.r.two;have rf:=I.out.r.jC;go_wp2_with fail
   refine bodyPost_ret (Np _ _ _ _ _ _ ((I.out.r.jB (i:=0) _).jB (i:=1) _) qK qK) rfl ⟨ta,oa,ca,co,u7,rfl,?_,?_,?_⟩
   ·exact((I.out.k.set qQ).set qQ).base qQ
   ·exact(I.out.a.set I.out.r qX).set (I.out.r.jB _) qX
   ·exact(I.out.e.setCell (p:=⟨w.heap.size+1,0,none⟩) sI _).setCell (p:=⟨w.heap.size+1,1,none⟩) sI _
def UC(x y:Value)(w:World):Calls prog 36 #[.agg #[x,y],.slice none 0 0] w fun e w'=>e= .returned (.tuple #[])/\Below w w w':=by
 have b0:=qC (Bg w (.cells #[x,y] 27));go_enter func36,ntmps36
 go_wp2_with fail
 generalize w.alloc (.cells #[x,y] 27)=w1 at *;go_loopw [8] (fun i wr=>i= .int .i64 0/\wr=w1) (fun _ _=>0)
 case atStart=>exact⟨rfl,rfl⟩
 case round=>
  obtain⟨rfl,rfl⟩:=hrel;go_wp2_with fail
  simp[bodyPost,results,Tryz.results36];exact b0.out
def Sw(w:World):(callFunc 64 #[]).run prog w= .ok (.value (.tuple #[])) w:=run_call_mark0 func64 kR kR kR .disable kR w
def TD(w:World):(callFunc 65 #[]).run prog w= .ok (.value (.tuple #[])) w:=run_call_mark0 func65 kR kR kR .enable kR w
def SI(a:Addr)(w:World):(callFunc 82 #[.pointer (some a)]).run prog w= .ok (.value (.tuple #[])) w:=run_call_marked func82 kR kR kR .acquire kR a w
def aE{a:Addr}{x:Int}{w:World}(hc:w.cell? a=some (.int .u64 x)):(callFunc 111 #[.pointer (some a)]).run prog w= .ok (.value (.int .u64 x)) w:=run_call_load func111 kR kR kR .u64 kR hc
def XD(b:Nat)(w:World)(h:w.cell? ⟨b,0,none⟩=some (.int .u64 0)):Calls prog 72 #[.pointer b] w fun e w'=>e= .returned (.int .u64 0)/\w'=w:=by
 have hl:=aE h;go_enter func72,ntmps72
 go_wp2;go_ret;exact⟨rfl,rfl⟩
def Yp(b:Nat)(w:World)(h:w.cell? ⟨b,0,none⟩=some (.int .u64 0)):Calls prog 38 #[.pointer b] w fun e w'=>e= .returned (.tuple #[])/\w'=w:=by
 have hd:=Sw;have he:=TD;have ha:=SI ⟨b,0,none⟩;have n1:Nv (.pointer b):=⟨⟩;have hc:(convert 86 117 n1).run prog w= .ok n1 w:=run_convert_to_unsafe underlying86 underlying117 kR h;have HL:=XD b w h;go_enter func38,ntmps38
 go_wp2_with fail
 go_loopw [] (fun wr=>wr=w) (fun _=>0)
 case atStart=>rfl
 case round=>
  obtain rfl:=hrel;go_wp2_with fail
  refine HL.mono ?_;rintro e w' ⟨rfl,rfl⟩;go_wp2;simp[bodyPost,results,Tryz.results38]
def cU(w wr:qM)(B M:Nat)(ta oa:Option Addr)(ca co:Nat)(T:List Ae)(O:List Ab):Prop:=Ff wr M ta oa ca co T O∨(Ff w B ta oa ca co T O/\Below w w wr)
section
variable {w wr w':qM}{B M P i:Nat}{u:Value}{ta oa:Option Addr}{ca co:Nat}{T:List Ae}{O:List Ab}
def cU.below(h:cU w wr B M ta oa ca co T O)(hb:Below wr wr w'):cU w w' B M ta oa ca co T O:=h.elim (fun a=> .inl (a.below hb)) (fun a=> .inr ⟨a.1,Af a.2 hb⟩)
def cU.own(h:cU w wr B M ta oa ca co T O)(hB:B<=M):Ff wr B ta oa ca co T O:=h.elim (fun a=>a.base hB) (fun a=>a.1.below a.2)
def cU.set(h:cU w wr B M ta oa ca co T O)(h1:w.heap.size<=P)(h2:P<M):cU w (wr.setCell ⟨P,i,none⟩ u) B M ta oa ca co T O:=h.elim (fun a=> .inl (a.set h2)) (fun a=> .inr ⟨a.1,a.2.setCell (p:=⟨P,i,none⟩) h1 u⟩)
end
structure Zc(E:Nat->Addr)(w wr:qM)(B:Nat)(T:List Ae)(O:List Ab)(ta oa:Option Addr)(ca co:Nat)(v:Value)(ans:List (Int×ByteArray)):Prop where
 e:Below w w wr
 p:Ag wr w (qG #[qV ta T.length ca,qV oa O.length co] 27)
 r:Ag wr (w.heap.size+1) (qG #[qV none 0 0,qV none 0 0] 27)
 g:∃x,Ag wr (w.heap.size+2) (qG x 82)/\x[0]? =some (.int .u64 0)
 k:cU w wr B (w.heap.size+3) ta oa ca co T O
 a:Do wr w v ans
def Zc.below{E:Nat->Addr}{w wr w':qM}{B:Nat}{T:List Ae}{O:List Ab}{ta oa:Option Addr}{ca co:Nat}{v:Value}{ans:List (Int×ByteArray)}(h:Zc E w wr B T O ta oa ca co v ans)(hb:Below wr wr w'):Zc E w w' B T O ta oa ca co v ans:=
 ⟨Af h.e hb,h.p.below hb,h.r.below hb,by obtain⟨x,h1,h2⟩:=h.g;exact⟨x,h1.below hb,h2⟩,h.k.below hb,h.a.below hb⟩
def gH(w:qM)(B:Nat)(T':List Ae)(O':List Ab)(ans:List (Int×ByteArray))(e:Ending)(w':qM):Prop:=
 ∃(ta oa:Option Addr) (ca co:Nat) (v:Value),e= .returned (.tuple #[.agg #[qV ta T'.length ca,qV oa O'.length co],v])/\Ff w' B ta oa ca co T' O'/\Do w' w v ans/\Below w w w'
def Ta(tmps:Array Value)(W:qM)(P:Nat)(x y v:Value)(h:Ag W P (qG #[x,y] 27))(h2:tmps[6]? =some (.pointer P))(h3:tmps[7]? =some v):
 (results Tryz.f13 tmps).run prog W= .ok (.tuple #[.agg #[x,y],v]) W:=by
 obtain⟨z0,z1⟩:=h.two;simp[results,Tryz.results13,go_sem,h2,h3,z0,z1]
def Qy(E:Nat->Addr)(T T':List Ae)(O O':List Ab)(a:Option Addr)(n cap:Nat)(S:Nat->Aj)(ans:List (Int×ByteArray))(w:qM)(B:Nat)(ta oa:Option Addr)(ca co:Nat)(hB:B<=w.heap.size)(h:Ff w B ta oa ca co T O)(vr:Mp w E)(ok:okL T O=true)(hn:n<=60)(hS:Gs w a n S)(r:La S n T O ans T' O'):
 Calls prog 13 #[.agg #[qV ta T.length ca,qV oa O.length co],qV a n cap,qV none 0 0] w (gH w B T' O' ans):=by
 obtain⟨TT,OO,A,st,t0,o0,tn,on,an⟩:=Oi r ok;subst t0 o0 tn on an;clear r;have ST:=qC st;have HS:=qC hS;have VR:=qC vr;have N60:=qC hn;have KK:=qC h;have HB:=qC hB;clear h ok hS st hn vr hB;go_enter func13,ntmps13
 go_upto_region 2 with fail
 have n5:Nw (w.alloc (qG #[qV ta (TT 0).length ca,qV oa (OO 0).length co] 27)):=⟨⟩;have n6:No (qG #[qV none 0 0,qV none 0 0] 27):=⟨⟩;have n2:Nw ((n5:qM).alloc n6):=⟨⟩;have n4:No (qG #[.int .u64 0,.int .u32 0] 82):=⟨⟩;have I0:Hid (Zc E w ((n2:qM).alloc n4) B (TT 0) (OO 0) ta oa ca co (qV none 0 0) (A 0)):=qC ⟨(((Bg w _).alloc sI _).alloc sO _),((Ag.new w _).alloc _).alloc _,by have:=(Ag.new n5 n6).alloc n4;simpa using this,⟨#[.int .u64 0,.int .u32 0],by have:=Ag.new n2 n4;simpa using this,rfl⟩,.inr ⟨KK,(((Bg w _).alloc sI _).alloc sO _)⟩,by rw[ST.out.start];exact Do.nil _ _⟩;generalize ((n2:qM).alloc n4)=W1 at *;clear KK;go_wp2_with fail
 go_loopw [21] (fun i wr=>i= .int .i64 0/\wr=W1) (fun _ _=>0)
 case atStart=>exact⟨rfl,rfl⟩
 case round=>
  obtain⟨rfl,rfl⟩:=hrel;obtain⟨x0,x1⟩:=I0.out.p.two;go_wp2_with fail
  refine(UC _ _ _).mono ?_;rintro e w2 ⟨rfl,h2⟩;have I2:=qC (I0.out.below h2);clear x0 x1 h2 I0;go_upto_region 10 with fail
  go_wp2_with fail
  go_loopw [11,13,14,15,16,33] (fun v _ _ _ _ i wr=>∃(j:Nat) (ta oa:Option Addr) (ca co:Nat),j<=n/\i= .int .i64 j/\Hid (Zc E w wr B (TT j) (OO j) ta oa ca co v (A j))) (fun _ _ _ _ _ i _=>n-(intOf i).toNat)
  case atStart=>exact⟨0,ta,oa,ca,co,Nat.zero_le _,rfl,I2⟩
  case round=>
   clear I2;obtain⟨j,ta,oa,ca,co,hj,rfl,I⟩:=hrel;by_cases hlt:j<n
   ·have i1:(j:Int)<(n:Int):=qQ;have i2:(0:Int)<=(j:Int):=qQ;obtain⟨c,tx,rt,ea⟩:=ST.out.step j hlt;obtain⟨b,off,rfl,hl,hc⟩:=(HS.out.below I.out.e) qQ;obtain⟨cs,sa⟩:=hc j hlt;obtain⟨va,vc,rfl⟩:=I.out.a.shape;have HLT:=qC hlt;have EA:=qC ea;obtain⟨x0,x1⟩:=I.out.p.two;obtain⟨c0,c1,c2,c3,c4,c5,c6,c7,c8,c9⟩:=cs;clear hlt ea hc;go_upto_region 13 with fail
    have n1:No (qG (S j) 50):=⟨⟩;have bq:Below wr wr (wr.alloc n1):=Bg wr _;have IQ:=qC (I.out.below bq);have SB:=qC (Ag.new wr n1);have sq:=sa.below bq;clear c0 c1 c2 c3 c4 c5 c6 c7 c8 c9 x0 x1 sa bq I hl;generalize wr.alloc n1=wq at *;generalize wr.heap.size=q at *;have KB:=qC ((IQ.out.k.own (by have:=HB.out;omega)));have VQ:=qC (VR.out.below IQ.out.e);have DN:=qC (ZR KB (ST.out.ok j qQ) sq VQ rt);clear rt sq;have QL:=qC (show ∀g,(Value.slice va (A j).length vc).ownBlock=some g->g<wq.heap.size from fun g e=>(qq.lt IQ.out.a g e).2);have Q3:w.heap.size+3<=wq.heap.size:=(by obtain⟨x,h1,_⟩:=IQ.out.g;have:=h1.lt;omega);obtain⟨x0,x1⟩:=IQ.out.p.two;obtain⟨c0,c1,c2,c3,c4,c5,c6,c7,c8,c9⟩:=SB.out.jE;go_wp2_with fail
    refine DN.out.mono ?_;rintro e w5 ⟨tb,ob,cb,db,rfl,k5,b5⟩;have K5:=qC k5;have I5:=qC (IQ.out.below b5);have s5:=Nat.le_trans IQ.out.e.size b5.size;clear k5 b5 DN x0 x1 c0 c1 c2 c3 c4 c5 c6 c7 c8 c9;go_upto_region 14 with fail
    have n3:No (qG #[qV tb (TT (j+1)).length cb,qV ob (OO (j+1)).length db] 27):=⟨⟩;have b6:Below w5 w5 (w5.alloc n3):=Bg w5 _;have K6:=qC (K5.out.below b6);have I6:=qC (I5.out.below b6);have Z6:=qC (Ag.new w5 n3);clear b6 K5 I5;generalize w5.alloc n3=w6 at *;generalize w5.heap.size=z at *;obtain⟨y0,y1⟩:=Z6.out.two;go_wp2_with fail
    refine(UC _ _ _).mono ?_;rintro e w7 ⟨rfl,h7⟩;have K7:=qC (K6.out.below h7);have I7:=qC (I6.out.below h7);have Z7:=qC (Z6.out.below h7);clear h7 K6 I6 Z6 y0 y1;go_upto_region 15 with fail
    have n7:Nw (w7.alloc (qG #[.int .i64 c,.string tx] 37)):=⟨⟩;have b8:Below w7 w7 n7:=Bg w7 _;have K8:=qC (K7.out.below b8);have I8:=qC (I7.out.below b8);have Z8:=qC (Z7.out.below b8);have LA:=qC (Xb w7 c tx);have lA:(A j).length<=1048576:=(by have:=ST.out.len j hj;have:=N60.out;omega);have sA:w.heap.size<=(n7:qM).heap.size:=I8.out.e.size;have OL:=qC (show ∀g,(Value.slice va (A j).length vc).ownBlock=some g->w.heap.size<=g from fun g e=>(qq.lt I8.out.a g e).1);clear b8 K7 I7 Z7;go_wp2_with(refine JF _ rfl _ _ rfl w (qV va (A j).length vc) (A j) rfl I8.out.a (some ⟨w7,0,none⟩) 1 (c,tx) rfl LA lA sA ?_;intro a3 c3 w3 o3 g3;have Z9:=Z8.out.grown g3 (I8.out.a.ne Z8 qX);obtain⟨y0,y1⟩:=Z9.two;have P9:=I8.out.p.grown g3 (I8.out.a.ne I8.out.p qX);obtain⟨x0,x1⟩:=P9.two;have xf:=P9.jC)
    have wj:wrap64 ((j:Int)+1)=(j:Int)+1:=(by have:=N60.out;unfold wrap64;omega);go_roundw;case rel=>
     have e1:=EA.out;refine⟨j+1,tb,ob,cb,db,HLT,by rw[wj];rfl,qC ⟨?_,?_,?_,?_,?_,?_⟩⟩
     ·exact((I8.out.e.trans (below_grown g3 sA OL)).setCell (p:=⟨w,0,none⟩) nr _).setCell (p:=⟨w,1,none⟩) nr _
     ·exact(P9.jB (i:=0) _).jB (i:=1) _
     ·exact((I8.out.r.grown g3 (I8.out.a.ne I8.out.r qX)).other qQ _).other qQ _
     ·obtain⟨x,h1,h2⟩:=I8.out.g;exact⟨x,((h1.grown g3 (I8.out.a.ne h1 qX)).other qQ _).other qQ _,h2⟩
     ·exact .inl ((((K8.out.kept g3 QL).set qQ).set qQ).base Q3)
     ·rw[e1];exact(Do.set o3 P9 qX).set (P9.jB _) qX
    case measure=>have:=HLT.out;rw[wj];simp[intOf];omega
   ·obtain rfl:j=n:=by omega
    obtain⟨x0,x1⟩:=I.out.p.two;go_wp2_with fail
    go_loopw [57] (fun i wr'=>i= .int .i64 0/\wr'=wr) (fun _ _=>0)
    case atStart=>exact⟨rfl,rfl⟩
    case round=>
     obtain⟨rfl,rfl⟩:=hrel;have gw:wr.cell? ⟨w.heap.size+1+1,0,none⟩=some (.int .u64 0):=(by obtain⟨x,h1,h2⟩:=I.out.g;exact h1.c0 0 h2);obtain⟨r0,r1⟩:=I.out.r.two;have rf:=I.out.r.jC;go_wp2_with fail
     refine(Yp _ _ gw).mono ?_;rintro e w9 ⟨rfl,rfl⟩;go_wp2_with fail
     refine bodyPost_ret (Ta _ _ _ _ _ _ ((I.out.r.jB (i:=0) _).jB (i:=1) _) qK qK) rfl ⟨ta,oa,ca,co,u11,rfl,?_,?_,?_⟩
     ·exact((I.out.k.set qQ qQ).set qQ qQ).own (by have:=HB.out;omega)
     ·exact(I.out.a.set I.out.r qX).set (I.out.r.jB _) qX
     ·exact(I.out.e.setCell (p:=⟨w.heap.size+1,0,none⟩) sI _).setCell (p:=⟨w.heap.size+1,1,none⟩) sI _
def Lp(tmps:Array Value)(W:World)(P:Nat)(x y v:Value)(h:Ag W P (.cells #[x,y] 27))(h2:tmps[4]? =some (.pointer P))(h3:tmps[5]? =some v):
 (results Tryz.f6 tmps).run prog W= .ok (.tuple #[.agg #[x,y],v]) W:=by
 obtain⟨z0,z1⟩:=h.two;simp[results,Tryz.results6,go_sem,h2,h3,z0,z1]
def JM(E:Nat->Addr)(k:Av)(T T':List Ae)(O O':List Ab)(a:Option Addr)(n cap:Nat)(S:Nat->Aj)(ans:List (Int×ByteArray))(w:World)(h:IU w k T O)(vr:Mp w E)(ok:okL T O=true)(hn:n<=60)(hS:Gs w a n S)(r:La S n T O ans T' O'):
 Calls prog 6 #[.agg #[.slice k.ta k.tn k.tk,.slice k.oa k.on k.ok],.slice a n cap] w (TJ w T' O' ans):=by
 have n1:No (.cells #[.slice k.ta k.tn k.tk,.slice k.oa k.on k.ok] 27):=⟨⟩;have n2:No (.cells #[.slice none 0 0,.slice none 0 0] 27):=⟨⟩;have b0:Below w w ((w.alloc n1).alloc n2):=(Bg w _).alloc sI _;have CB:=qC ((Ag.new w n1).alloc n2);have RB:Hid (Ag ((w.alloc n1).alloc n2) (w.heap.size+1) n2):=qC (by have:=Ag.new (w.alloc n1) n2;simpa using this);have B0:=qC b0;have KR:=qC (h.below b0);have OK:=qC ok;have KO:=qC (JC k _ KR.out.lies h.cap (h.wfs ok));rw[h.okK ok]at KO;have n60:¬(60:Int)<(n:Int):=by omega
 have HS:=qC hS;have VR:=qC vr;have RR:=qC r;clear h ok hS b0 vr r;go_enter func6,ntmps6
 go_wp2_with fail
 generalize (w.alloc n1).alloc n2=W0 at *;obtain⟨z0,z1⟩:=CB.out.two;go_wp2_with fail
 refine KO.out.mono ?_;rintro e w1 ⟨rfl,h1⟩;have C1:=qC (CB.out.below h1);have R1:=qC (RB.out.below h1);have K1:=qC (KR.out.below h1);have D1:=qC (Af B0 h1);clear h1 z0 z1 KO CB RB KR B0;obtain⟨z0,z1⟩:=C1.out.two;go_wp2_with fail
 refine(WH K1 OK).mono ?_;rintro e w2 ⟨ta,oa,ca,co,rfl,kw,h2⟩;have D2:=qC (Af D1 h2);have R2:=qC (R1.out.below h2);have KW:=qC kw;have le1:w.heap.size+2<=w1.heap.size:=by have:=R1.out.lt;omega
 have le2:=h2.size;clear h2 kw z0 z1 R1 K1 D1 C1;go_wp2_with fail
 refine(Qy E T T' O O' a n cap S ans w2 w1 ta oa ca co le2 KW (VR.out.below D2) OK hn (HS.out.below D2) RR).mono ?_;rintro e w3 ⟨tb,ob,cb,db,v,rfl,k3,a3,b3⟩;have R3:=qC (R2.out.below b3);have D3:=qC (Af D2 b3);have K3:=qC k3;have A3:=qC a3;clear k3 a3 b3;obtain⟨r0,r1⟩:=R3.out.two;have rf:=R3.out.jC;go_wp2_with fail
 refine bodyPost_ret (Lp _ _ _ _ _ _ ((R3.out.jB (i:=0) _).jB (i:=1) _) qK qK) rfl ⟨tb,ob,cb,db,v,rfl,?_,?_,?_⟩
 ·exact((K3.out.set qQ).set qQ).base qQ
 ·exact((A3.out.set R3 qX).set (R3.out.jB _) qX).base D2.out.size
 ·exact(D3.out.setCell (p:=⟨w.heap.size+1,0,none⟩) sI _).setCell (p:=⟨w.heap.size+1,1,none⟩) sI _
def Uu(k:Av)(a:Option Addr)(n cap:Nat)(w:World)(h:k.at w)(hw:∀i,i<k.on->(Lit.int .i64 (k.O i).id).wf=true/\(Lit.int .i64 (k.O i).up).wf=true)(bad:Bh k=false):
 Calls prog 7 #[.agg #[qV k.ta k.tn k.tk,qV k.oa k.on k.ok],qV a n cap] w fun e w'=>e= .returned (.tuple #[.agg #[qV none 0 0,qV none 0 0],qV none 0 0])/\Below w w w':=by
 have n1:No (.cells #[qV k.ta k.tn k.tk,qV k.oa k.on k.ok] 27):=⟨⟩;have n2:No (.cells #[qV none 0 0,qV none 0 0] 27):=⟨⟩;have b0:Below w w ((w.alloc n1).alloc n2):=(Bg w _).alloc sI _;have CB:=qC ((Ag.new w n1).alloc n2);have RB:Hid (Ag ((w.alloc n1).alloc n2) (w.heap.size+1) n2):=qC (by have:=Ag.new (w.alloc n1) n2;simpa using this);have B0:=qC b0;have KO:=qC (FY k _ (h.below b0) (fun i hi=>(hw i hi).1));rw[bad]at KO;clear h b0 hw bad;go_enter func7,ntmps7
 go_wp2_with fail
 generalize (w.alloc n1).alloc n2=W0 at *;obtain⟨z0,z1⟩:=CB.out.two;go_wp2_with fail
 refine KO.out.mono ?_;rintro e w1 ⟨rfl,h1⟩;have R1:=qC (RB.out.below h1);have D1:=qC (Af B0 h1);clear h1 z0 z1 KO CB RB B0;obtain⟨r0,r1⟩:=R1.out.two;have rf:=R1.out.jC;go_wp2_with fail
 refine bodyPost_ret (Np _ _ _ _ _ _ ((R1.out.jB (i:=0) _).jB (i:=1) _) qK qK) rfl ⟨rfl,?_⟩;exact(D1.out.setCell (p:=⟨w.heap.size+1,0,none⟩) sI _).setCell (p:=⟨w.heap.size+1,1,none⟩) sI _
def Ul(k:Av)(a:Option Addr)(n cap:Nat)(w:World)(h:k.at w)(hcap:k.on<=k.ok)(hw:∀i,i<k.on->(Lit.int .i64 (k.O i).id).wf=true/\(Lit.int .i64 (k.O i).up).wf=true)(bad:Bh k=false):
 Calls prog 6 #[.agg #[qV k.ta k.tn k.tk,qV k.oa k.on k.ok],qV a n cap] w fun e w'=>e= .returned (.tuple #[.agg #[qV none 0 0,qV none 0 0],qV none 0 0])/\Below w w w':=by
 have n1:No (.cells #[qV k.ta k.tn k.tk,qV k.oa k.on k.ok] 27):=⟨⟩;have n2:No (.cells #[qV none 0 0,qV none 0 0] 27):=⟨⟩;have b0:Below w w ((w.alloc n1).alloc n2):=(Bg w _).alloc sI _;have CB:=qC ((Ag.new w n1).alloc n2);have RB:Hid (Ag ((w.alloc n1).alloc n2) (w.heap.size+1) n2):=qC (by have:=Ag.new (w.alloc n1) n2;simpa using this);have B0:=qC b0;have KO:=qC (JC k _ (h.below b0) hcap hw);rw[bad]at KO;clear h b0 hw bad;go_enter func6,ntmps6
 go_wp2_with fail
 generalize (w.alloc n1).alloc n2=W0 at *;obtain⟨z0,z1⟩:=CB.out.two;go_wp2_with fail
 refine KO.out.mono ?_;rintro e w1 ⟨rfl,h1⟩;have R1:=qC (RB.out.below h1);have D1:=qC (Af B0 h1);clear h1 z0 z1 KO CB RB B0;obtain⟨r0,r1⟩:=R1.out.two;have rf:=R1.out.jC;go_wp2_with fail
 refine bodyPost_ret (Lp _ _ _ _ _ _ ((R1.out.jB (i:=0) _).jB (i:=1) _) qK qK) rfl ⟨rfl,?_⟩;exact(D1.out.setCell (p:=⟨w.heap.size+1,0,none⟩) sI _).setCell (p:=⟨w.heap.size+1,1,none⟩) sI _
open _root_.Nat renaming add_assoc→jv
variable {l:List Aj}{w w':World}{B:Nat}{v:Value}
def Tryz.info50:(prog.info? 50).map (fun i=>(i.zero,i.size,i.bytes))=some (some (.agg #[.int .i64 0,.int .i64 0,.int .i64 0,.int .i64 0,.int .i64 0,.string ⟨#[]⟩,.int .i64 0,qV none 0 0,.int .i64 0,qV none 0 0]),10,120):=by kernel_rfl
def Aj.cs(v:Aj):List Value:=[v.th,v.kind,v.id,v.to,v.cat,.string v.data,v.b1,v.c1.val,v.b2,v.c2.val]
def BQ(l:List Aj):List Value:=(l.map Aj.cs).flatten
def UH(l:List Aj):(BQ l).length=l.length*10:=by
 induction l with
 |nil=>rfl
 |cons x r ih=>simp[BQ,Aj.cs]at *;omega
def PV(l r:List Aj):BQ (l++r)=BQ l++BQ r:=by simp[BQ]
def Vm:∀u∈BQ l,u.oneCell'=true:=fun u hu=>by
 simp only[BQ,List.mem_flatten,List.mem_map]at hu;obtain⟨_,⟨x,_,rfl⟩,h⟩:=hu;simp only[Aj.cs,List.mem_cons,List.not_mem_nil,or_false]at h;rcases h with rfl|rfl|rfl|rfl|rfl|rfl|rfl|rfl|rfl|rfl<;>rfl
def Ti:∀{i:Nat} (hi:i<l.length),(BQ l)[i*10]? =some (.int .i64 (l[i]).th)/\(BQ l)[i*10+1]? =some (.int .i64 (l[i]).kind)/\(BQ l)[i*10+2]? =some (.int .i64 (l[i]).id)/\(BQ l)[i*10+3]? =some (.int .i64 (l[i]).to)/\(BQ l)[i*10+4]? =some (.int .i64 (l[i]).cat)/\(BQ l)[i*10+5]? =some (.string (l[i]).data)/\(BQ l)[i*10+6]? =some (.int .i64 (l[i]).b1)/\(BQ l)[i*10+7]? =some ((l[i]).c1.val)/\(BQ l)[i*10+8]? =some (.int .i64 (l[i]).b2)/\(BQ l)[i*10+9]? =some ((l[i]).c2.val):=by
 induction l with
 |nil=>intro i hi;simp at hi
 |cons x r ih=>
  intro i hi;have e:BQ (x::r)=Value.int .i64 x.th::Value.int .i64 x.kind::Value.int .i64 x.id::Value.int .i64 x.to::Value.int .i64 x.cat::Value.string x.data::Value.int .i64 x.b1::x.c1.val::Value.int .i64 x.b2::x.c2.val::BQ r:=by simp[BQ,Aj.cs]
  rw[e];cases i with
  |zero=>simp
  |succ i=>
   have h:=ih (i:=i) (by simpa using hi);have e1:(i+1)*10=i*10+1+1+1+1+1+1+1+1+1+1:=qQ;rw[e1];simpa using h
def Dh(w:World)(B:Nat)(v:Value)(l:List Aj):Prop:=w.ownsRow B 50 10 v l.length (BQ l)
def Aj.z:Aj:=⟨0,0,0,0,0,⟨#[]⟩,0,⟨none,0,0,fun _=>0,fun _=>0⟩,0,⟨none,0,0,fun _=>0,fun _=>0⟩⟩
def Ia(l:List Aj)(i:Nat):Aj:=l.getD i Aj.z
def Dh.nil(w:World)(B:Nat):Dh w B (qV none 0 0) []:=World.ownsRow_nil _ _ _ _
def Dh.made(w:World)(B:Nat)(hb:B<=w.heap.size):Dh (w.alloc (.cells #[] 50)) B (qV (w) 0 0) []:=World.ownsRow_made w #[] 0 hb (Nat.zero_le _) rfl
def Dh.shape(h:Dh w B v l):∃a c,v= qV a l.length c:=CG h
def Dh.grown{row:Option Nat}(h:Dh w B v l)(hg:w.grownBy w' row)(hne:v.ownBlock=none∨v.ownBlock≠row):Dh w' B v l:=qq.kept h hg hne
def Dh.below(h:Dh w B v l)(hb:Below w w w'):Dh w' B v l:=qq.kept (row:=none) h ⟨hb.os,hb.tape,hb.output,hb.size,fun k hk _=>hb.block k hk⟩ (by cases v.ownBlock<;>simp)
def Dh.base{B':Nat}(h:Dh w B v l)(hB:B'<=B):Dh w B' v l:=by
 refine⟨h.1,?_⟩;rcases h.2 with hn|⟨g,cap,cur,hv,hbg,rest⟩
 ·exact .inl hn
 ·exact .inr ⟨g,cap,cur,hv,Nat.le_trans hB hbg,rest⟩
def Dh.lies{c:Nat}{a:Option Addr}(h:Dh w B (qV a l.length c) l)(hat:∀x∈l,x.at w):Gs w a l.length (Ia l):=fun hn=>by
 obtain⟨b,off,e,hlt,hc⟩:=Bl.own h hn;refine⟨b,off,e,hlt,fun i hi=>?_⟩;have g:=Ti hi;have e1:Ia l i=l[i]:=by simp[Ia,hi]
 rw[e1];exact⟨⟨by have:=hc _ _ (g.1);exact this,by have:=hc _ _ (g.2.1);rw[<-jv]at this;exact this,by have:=hc _ _ (g.2.2.1);rw[<-jv]at this;exact this,by have:=hc _ _ (g.2.2.2.1);rw[<-jv]at this;exact this,by have:=hc _ _ (g.2.2.2.2.1);rw[<-jv]at this;exact this,by have:=hc _ _ (g.2.2.2.2.2.1);rw[<-jv]at this;exact this,by have:=hc _ _ (g.2.2.2.2.2.2.1);rw[<-jv]at this;exact this,by have:=hc _ _ (g.2.2.2.2.2.2.2.1);rw[<-jv]at this;exact this,by have:=hc _ _ (g.2.2.2.2.2.2.2.2.1);rw[<-jv]at this;exact this,by have:=hc _ _ (g.2.2.2.2.2.2.2.2.2);rw[<-jv]at this;exact this⟩,hat _ (List.getElem_mem hi)⟩
def Dh.one(w:World)(x:Aj):Bl (w.alloc (.cells #[x.th,x.kind,x.id,x.to,x.cat,.string x.data,x.b1,x.c1.val,x.b2,x.c2.val] 50)) (some ⟨w,0,none⟩) 1 (BQ [x]):=fun _=>by
 refine⟨w,0,rfl,by simp,fun j u hu=>?_⟩;have h:=Ag.new w (.cells #[x.th,x.kind,x.id,x.to,x.cat,.string x.data,x.b1,x.c1.val,x.b2,x.c2.val] 50);have e:BQ [x]=[x.th,x.kind,x.id,x.to,x.cat,.string x.data,x.b1,x.c1.val,x.b2,x.c2.val]:=by simp[BQ,Aj.cs]
 rw[e]at hu;rw[Nat.zero_add];refine h.c0 j ?_;rw[<-hu];simp only[List.getElem?_toArray]
def Nr(w:World)(tt:TypeId)(B:Nat)(v:Value)(l:List Aj)(hown:Dh w B v l)(ad:Option Addr)(c:Nat)(x:Aj)(hc:Bl w ad 1 (BQ [x]))(hn:l.length<=1048576)(hB:B<=w.heap.size):
 ∃a' c' w',(Builtin.append_ #[28,28] tt #[v,qV ad 1 c]).run prog w= .ok (qV a' (l.length+1) c') w'/\Dh w' B (qV a' (l.length+1) c') (l++[x])/\w.grownBy w' v.ownBlock:=by
 obtain⟨a',c',w',h1,h2,h3,_⟩:=DY underlying28 Tryz.info50 rfl qQ w tt B v l.length (BQ l) hown ad 1 c (BQ [x]) (UH [x]) hc Vm qQ qQ hB;refine⟨a',c',w',h1,?_,h3⟩;unfold Dh;rw[List.length_append,PV];exact h2
def KC{ops:Array Oper}{rest:List Oper}{oo:Oper}{a:Act}{Q:Exit->Act->World->Prop}(w:World)(hgd:oo.guard=none)(s x:Operand)
 (ho:oo.op= .call {callee:= .builtin .append,args:=#[s,x],argTypes:=#[28,28]})
 (B:Nat)(v:Value)(l:List Aj)(hs:a.eval s=v)(hown:Dh w B v l)(ad:Option Addr)(c:Nat)(y:Aj)(hx:a.eval x= qV ad 1 c)(hc:Bl w ad 1 (BQ [y]))(hn:l.length<=1048576)(hB:B<=w.heap.size)
 (h:∀a' c' w',Dh w' B (qV a' (l.length+1) c') (l++[y])->w.grownBy w' v.ownBlock->wpList prog ops Q rest (a.put oo.dst (qV a' (l.length+1) c')) w'):wpList prog ops Q (oo::rest) a w:=by
 refine wpList_plain hgd fun K hK=>?_;obtain⟨a',c',w',hr,h2,h3⟩:=Nr w oo.type B v l hown ad c y hc hn hB;unfold Oper.wp execOp;simp only[ho,resolve,invoke,builtin,Sem.run_bind,Sem.run_pure,Result.andThen_ok,List.map_toArray,List.map_cons,List.map_nil,hs,hx,hr];exact hK _ _ (h a' c' w' h2 h3)
open Go.BigFrame Go.Shelf
open _root_.Nat renaming lt_irrefl→kV
def M7(tmps:Array Value)(W:World)(P:Nat)(x y:Value)(h:Ag W P (.cells #[x,y] 42))(h2:tmps[2]? =some (.pointer P)):
 (results Tryz.f29 tmps).run prog W= .ok (.agg #[x,y]) W:=by
 obtain⟨z0,z1⟩:=h.two;simp[results,Tryz.results29,go_sem,h2,z0,z1]
def P4{w W:World}{rb P:Nat}(g:w.grownBy W (some rb))(hP:w.heap.size<=P)(x y:Value):w.grownBy ((W.setCell ⟨P,0,none⟩ x).setCell ⟨P,1,none⟩ y) (some rb):=
 Cw g (Br (Br (Bi W P) _ _) _ _) (fun j e=>by cases e;exact hP)
def QD(B:Nat)(w:World):As.new B w ⟨none,0,0,fun _=>0,fun _=>0⟩:=⟨⟨qy _,fun h=>absurd h (kV 0)⟩,fun h=>absurd h (kV 0)⟩
def XL(w0:World)(rb:Nat)(a:Option Addr)(n cap:Nat)(w:World)(h:Rd w0 w rb a n cap):
 Calls prog 29 #[.pointer rb] w fun e w'=>∃(b:Int) (c:As),e= .returned (.agg #[.int .i64 b,c])/\c.n<=3/\c.new w w'/\Rd w0 w' rb a n cap/\w.grownBy w' (some rb):=by
 have HR:Hid (Rd w0 w rb a n cap):=h;have lr:=h.lt;have le0:=h.le;have n1:No (.cells #[.int .i64 0,.slice none 0 0] 42):=⟨⟩;have K0:=qC ((Below.refl _ w).alloc nr n1);have Y0:=qC (Ag.new w n1);have R0:=qC (h.below K0);have G0:Hid (w.grownBy (w.alloc n1) (some rb)):=qC (Cw (Bi w rb) (World.grownBy_alloc w _ none) (fun j e=>by cases e));have WZ:Hid (w0.heap.size<=w.heap.size):=qC qQ;clear h;go_enter func29,ntmps29
 go_wp2_with fail
 generalize w.alloc n1=V at *;refine(Eb w0 rb a n cap 2 V qQ R0).mono ?_;rintro e u1 ⟨t,rfl,r1,g1⟩;have R1:=qC r1;have Y1:=qC (Y0.out.grown g1 sO);have G1:=qC (Cu G0 g1);clear r1 g1 Y0 R0 G0 K0;obtain⟨y0,y1⟩:=Y1.out.two;have yw:=Y1.out.jC;cases t with
 |true=>
  go_wp2;refine bodyPost_ret (M7 _ _ w _ _ ((Y1.out.jB (i:=0) _).jB (i:=1) _) rfl) rfl ⟨1,⟨none,0,0,fun _=>0,fun _=>0⟩,rfl,qy _,QD _ _,?_,?_⟩
  ·exact R1.out.other (Br (Br (Bi u1 w) _ _) _ _) WZ qQ
  ·exact P4 G1 nr _ _
 |false=>
  go_wp2_with fail
  refine(Jp w0 rb a n cap u1 R1).mono ?_;rintro e u2 ⟨b,l,va,vc,rfl,ll,ol,r2,g2⟩;have R2:=qC r2;have Y2:=qC (Y1.out.grown g2 sO);have G2:=qC (Cu G1 g2);have OL:=qC (Ic ol qQ);have sz:w.heap.size<u1.heap.size:=Y1.out.lt;clear r2 g2 ol Y1 R1 G1 y0 y1 yw;obtain⟨y0,y1⟩:=Y2.out.two;have yw:=Y2.out.jC;go_wp2;refine bodyPost_ret (M7 _ _ w _ _ ((Y2.out.jB (i:=0) _).jB (i:=1) _) rfl) rfl ⟨b,⟨va,l.length,vc,Db l,Dc l⟩,rfl,ll,?_,?_,?_⟩
  ·exact(OL.out.jX (Br (Br (Bi u2 w) _ _) _ _) sz).low (Nat.le_of_lt sz)
  ·exact R2.out.other (Br (Br (Bi u2 w) _ _) _ _) WZ qQ
  ·exact P4 G2 nr _ _
structure QW(w0 w W:World)(rb:Nat)(a:Option Addr)(n cap P Q:Nat)(x0 y0 x1 y1:Value)(v:Value)(L:List Aj):Prop where
 rs:Ib w0 w W rb a n cap
 z:Ag W w (.cells #[.slice none 0 0,.slice none 0 0] 27)
 y:Ag W (w.heap.size+1) (.cells #[.int .i64 0,.slice none 0 0] 42)
 p:Ag W P (.cells #[x0,y0] 27)
 q:Ag W Q (.cells #[x1,y1] 27)
 row:Dh W w v L
 lab:∀s∈L,s.c1.new 0 W/\s.c2.new 0 W/\s.data.size<=100
 lp:w.heap.size+2<=P
 lq:P<Q
section
variable {w0 w W W':World}{rb n cap P Q:Nat}{a:Option Addr}{x0 y0 x1 y1 v:Value}{L:List Aj}
def QW.below(h:QW w0 w W rb a n cap P Q x0 y0 x1 y1 v L)(hb:Below W W W'):QW w0 w W' rb a n cap P Q x0 y0 x1 y1 v L:=
 ⟨h.rs.below hb,h.z.below hb,h.y.below hb,h.p.below hb,h.q.below hb,h.row.below hb,fun s hs=>⟨(h.lab s hs).1.below hb,(h.lab s hs).2.1.below hb,(h.lab s hs).2.2⟩,h.lp,h.lq⟩
def QW.call(h:QW w0 w W rb a n cap P Q x0 y0 x1 y1 v L)(hr:rb<w.heap.size)(r:Rd w0 W' rb a n cap)(gr:W.grownBy W' (some rb)):QW w0 w W' rb a n cap P Q x0 y0 x1 y1 v L:=by
 have lp:=h.lp;have lq:=h.lq;have k:=Ib.keeps h.rs.r gr;exact⟨h.rs.call r gr,h.z.grown gr sO,h.y.grown gr sO,h.p.grown gr sO,h.q.grown gr sO,h.row.grown gr (.inr (fun e=>by have:=(World.ownsRow.lt h.row rb e).1;omega)),fun s hs=>⟨(h.lab s hs).1.keeps k,(h.lab s hs).2.1.keeps k,(h.lab s hs).2.2⟩,lp,lq⟩
def QW.steps{va:Option Addr}{vc:Nat}(h:QW w0 w W rb a n cap P Q x0 y0 x1 y1 (.slice va L.length vc) L):Gs W va L.length (Ia L):=
 h.row.lies (fun s hs=>⟨(h.lab s hs).1.1,(h.lab s hs).2.1.1,Nat.le_trans (h.lab s hs).2.2 (by unfold maxLen;omega)⟩)
end
open _root_.List renaming mem_or_eq_of_mem_set→xJ,getElem_mem→qk
def Jn.stG{lt:List Ae}{lo:List Ab}(h:Jn lt lo):YO lt lo:=by
 cases h with
 |right ok=>exact(aX.of ok).gen
 |up ok u o d hu ho hd=>
  have f:=(aX.of ok).gen;have om:=qk hu;rw[<-ho]at om;refine⟨f.tn,by simpa using f.on,fun x hx=>?_,fun x hx=>?_,f.thr⟩
  ·rcases xJ hx with h|rfl
   ·exact f.data x h
   ·exact f.data o om
  ·rcases xJ hx with h|rfl
   ·exact f.id x h
   ·exact f.id o om
 |kind ok u o d hu ho hd=>
  have f:=(aX.of ok).gen;have om:=qk hu;rw[<-ho]at om;refine⟨f.tn,by simpa using f.on,fun x hx=>?_,fun x hx=>?_,f.thr⟩
  ·rcases xJ hx with h|rfl
   ·exact f.data x h
   ·exact f.data o om
  ·rcases xJ hx with h|rfl
   ·exact f.id x h
   ·exact f.id o om
 |made ok X d ht hX hd=>
  have f:=(aX.of ok).gen;have om:=qk ht;rw[<-hX]at om;refine⟨by simpa using f.tn,f.on,f.data,f.id,fun x hx=>?_⟩;rcases xJ hx with h|rfl
  ·exact f.thr x h
  ·exact f.thr X om
def Bz.nil(w:World)(B:Nat):Bz w B (.slice none 0 0) (.slice none 0 0) [] []:=⟨Du.nil w B,AW.nil w B,fun _ hx=>(nomatch hx),fun _ hx=>(nomatch hx),fun _ hx=>(nomatch hx),fun _ hx=>(nomatch hx)⟩
open _root_.Option renaming some→jV
variable {w w' w0 W:World}{B n q rb cap P Q:Nat}{v vt vo x0 y0 x1 y1 u:Value}{lt:List Ae}{lo:List Ab}{a:Option Addr}{L:List Aj}
def FN{ty sz t:Nat}{cs:List Value}{cq:Array Value}(h:w.ownsRow B ty sz v n cs)(hq:Ag w q (.cells cq t))(ht:ty≠t):v.ownBlock≠some q:=by
 intro e;rcases h.2 with⟨hn,_⟩|⟨g,cap,cur,hv,hbg,hg,rest⟩
 ·rw[hn]at e;cases e
 ·rw[hv]at e;have e2:g=q:=jV.inj e;subst e2;unfold Ag at hq;rw[hg]at hq;injection hq with hq;injection hq with _ h2 _;exact ht h2
def Nf{cq:Array Value}(hq:Ag w q (.cells cq 50))(hg:w.grownBy w' (some q)):Em w w':=⟨hg.size,fun k cs t hk ht=>hg.block k (Array.getElem?_eq_some_iff.1 hk).1 (fun e=>by
 cases e;unfold Ag at hq;rw[hq]at hk;injection hk with hk;injection hk with _ h2 _;subst h2;revert ht;decide)⟩
def Bz.stepRow{cq:Array Value}(h:Bz w B vt vo lt lo)(hq:Ag w q (.cells cq 50))(hg:w.grownBy w' (some q)):Bz w' B vt vo lt lo:=by
 have k:=Nf hq hg;exact⟨h.t.grown hg (.inr (FN h.t hq qX)),h.o.grown hg (.inr (FN h.o hq qX)),fun x hx=>(h.tn x hx).keeps k,fun x hx=>(h.on x hx).keeps k,h.tc,h.oc⟩
def QW.grow{W':World}{v':Value}{L':List Aj}(h:QW w0 w W rb a n cap P Q x0 y0 x1 y1 v L)(hr:rb<w.heap.size)(hw:w0.heap.size<=w.heap.size)(o:Dh W' w v' L')(hg:W.grownBy W' v.ownBlock)(hl:∀s∈L',s.c1.new 0 W/\s.c2.new 0 W/\s.data.size<=100):QW w0 w W' rb a n cap P Q x0 y0 x1 y1 v' L':=by
 cases hv:v.ownBlock with
 |none=>
  rw[hv]at hg;have hb:Below W W W':=⟨hg.os,hg.tape,hg.output,hg.size,fun k hk=>hg.block k hk sI⟩;have d:=h.below hb;exact⟨d.rs,d.z,d.y,d.p,d.q,o,fun s hs=>⟨(hl s hs).1.below hb,(hl s hs).2.1.below hb,(hl s hs).2.2⟩,h.lp,h.lq⟩
 |some g=>
  rw[hv]at hg;have lg:=World.ownsRow.lt h.row g hv;obtain⟨cq,hq⟩:∃cq,Ag W g (.cells cq 50):=by
   rcases h.row.2 with⟨hn,_⟩|⟨g',cap',cur,hv',_,hg',_⟩
   ·rw[hn]at hv;cases hv
   ·rw[hv']at hv;have e2:g'=g:=jV.inj hv;subst e2;exact⟨_,hg'⟩
  have k:=Nf hq hg;have ne:∀{p t:Nat}{cs:Array Value},Ag W p (.cells cs t)->t≠50->some p≠some g:=fun hp ht e=>by
   cases e;exact KH hp hq ht rfl
  refine⟨⟨h.rs.r.other hg qQ qQ,Cw h.rs.g hg (fun j e=>by cases e;omega)⟩,h.z.grown hg (ne h.z qX),h.y.grown hg (ne h.y qX),h.p.grown hg (ne h.p qX),h.q.grown hg (ne h.q qX),o,fun s hs=>⟨(hl s hs).1.keeps k,(hl s hs).2.1.keeps k,(hl s hs).2.2⟩,h.lp,h.lq⟩
def Bz.rowGrow{B2:Nat}(h:Bz w B vt vo lt lo)(r:Dh w B2 v L)(hg:w.grownBy w' v.ownBlock):Bz w' B vt vo lt lo:=by
 cases hv:v.ownBlock with
 |none=>
  rw[hv]at hg;exact h.below ⟨hg.os,hg.tape,hg.output,hg.size,fun k hk=>hg.block k hk sI⟩
 |some g=>
  rw[hv]at hg;rcases r.2 with⟨hn,_⟩|⟨g',cap',cur,hv',_,hg',_⟩
  ·rw[hn]at hv;cases hv
  ·rw[hv']at hv;have e2:g'=g:=jV.inj hv;subst e2;exact h.stepRow (cq:=cur) hg' hg
def ZJ{ca co:Nat}{ga qa:Option Addr}{s:Aj}(K:Bz W B (qV ga lt.length ca) (qV qa lo.length co) lt lo)(G:YO lt lo)(hB:B<=W.heap.size)(hs:s.at W):
 Calls prog 28 #[.agg #[qV ga lt.length ca,qV qa lo.length co],.agg s] W fun e w'=>∃(lt2:List Ae) (lo2:List Ab) (ta oa:Option Addr) (ca2 co2:Nat) (c:Int) (tx:ByteArray),e= .returned (.tuple #[.agg #[qV ta lt2.length ca2,qV oa lo2.length co2],.int .i64 c,.string tx])/\Bz w' B (qV ta lt2.length ca2) (qV oa lo2.length co2) lt2 lo2/\YO lt2 lo2/\Below W W w':=by
 have at':(Df ga ca qa co lt lo).at W:=K.at (by have:=G.tn;omega) (by have:=G.on;omega) G.data;cases ok:Bh (Df ga ca qa co lt lo)with
 |true=>
  refine(MR (Df ga ca qa co lt lo) W at' ok s hs).mono ?_;rintro e w' ⟨lt1,lo1,lt',lo',ta,ca',oa,co',c,tx,e1,k1,hb,sm,dp⟩;have ok1:okL lt1 lo1=true:=(Cc sm).trans ok;exact⟨lt',lo',ta,oa,ca',co',c,tx,e1,k1.base hB,(aX.of (IB ok1 dp)).gen,hb⟩
 |false=>
  refine(Uh (Df ga ca qa co lt lo) W at' ok (fun i hi=>Nc (G.id (Aa lo i) (FG hi))) s).mono ?_;rintro e w' ⟨e1,hb⟩;exact⟨[],[],none,none,0,0,1,⟨#[]⟩,e1,Bz.nil _ _,YO.nil,hb⟩
def QW.set0(h:QW w0 w W rb a n cap P Q x0 y0 x1 y1 v L)(hr:rb<w.heap.size)(hw:w0.heap.size<=w.heap.size):QW w0 w (W.setCell ⟨Q,0,none⟩ u) rb a n cap P Q x0 y0 u y1 v L:=by
 have lp:=h.lp;have lq:=h.lq;have hg:=Br (Bi W Q) 0 u;have k:=Aq (i:=0) h.q qX u;exact⟨⟨h.rs.r.other hg qQ qQ,Cw h.rs.g hg (fun j e=>by cases e;omega)⟩,h.z.other qQ _,h.y.other qQ _,h.p.other qQ _,h.q.jB (i:=0) u,h.row.grown hg (.inr (FN h.row h.q qX)),fun s hs=>⟨(h.lab s hs).1.keeps k,(h.lab s hs).2.1.keeps k,(h.lab s hs).2.2⟩,lp,lq⟩
def QW.set1(h:QW w0 w W rb a n cap P Q x0 y0 x1 y1 v L)(hr:rb<w.heap.size)(hw:w0.heap.size<=w.heap.size):QW w0 w (W.setCell ⟨Q,1,none⟩ u) rb a n cap P Q x0 y0 x1 u v L:=by
 have lp:=h.lp;have lq:=h.lq;have hg:=Br (Bi W Q) 1 u;have k:=Aq (i:=1) h.q qX u;exact⟨⟨h.rs.r.other hg qQ qQ,Cw h.rs.g hg (fun j e=>by cases e;omega)⟩,h.z.other qQ _,h.y.other qQ _,h.p.other qQ _,h.q.jB (i:=1) u,h.row.grown hg (.inr (FN h.row h.q qX)),fun s hs=>⟨(h.lab s hs).1.keeps k,(h.lab s hs).2.1.keeps k,(h.lab s hs).2.2⟩,lp,lq⟩
open Go renaming Value→qB
structure aU(w0 w W:World)(rb:Nat)(a:Option Addr)(n cap P:Nat)(zc yc pc:Array qB)(vt vo:qB)(lt:List Ae)(lo:List Ab)(v:qB)(L:List Aj):Prop where
 rs:Ib w0 w W rb a n cap
 z:Ag W w (.cells zc 27)
 y:Ag W (w.heap.size+1) (.cells yc 42)
 p:Ag W P (.cells pc 27)
 k:Bz W w vt vo lt lo
 row:Dh W w v L
 lab:∀s∈L,s.c1.new 0 W/\s.c2.new 0 W/\s.data.size<=100
 lp:w.heap.size+2<=P
section
variable {w0 w W:World}{rb n cap P Q:Nat}{a:Option Addr}{x0 y0 x1 y1 v vt vo:qB}{zc yc pc:Array qB}{lt:List Ae}{lo:List Ab}{L:List Aj}
def aU.of(h:QW w0 w W rb a n cap P Q x0 y0 x1 y1 v L)(k:Bz W w vt vo lt lo):aU w0 w W rb a n cap P #[.slice none 0 0,.slice none 0 0] #[.int .i64 0,.slice none 0 0] #[x0,y0] vt vo lt lo v L:=
 ⟨h.rs,h.z,h.y,h.p,k,h.row,h.lab,h.lp⟩
def aU.setZ(h:aU w0 w W rb a n cap P zc yc pc vt vo lt lo v L)(hr:rb<w.heap.size)(i:Nat)(u:qB):aU w0 w (W.setCell ⟨w,i,none⟩ u) rb a n cap P (zc.setIfInBounds i u) yc pc vt vo lt lo v L:=by
 have lp:=h.lp;have hg:=Br (Bi W w) i u;have k:=Aq (i:=i) h.z qX u;exact⟨h.rs.set hr nr i u,h.z.jB (i:=i) u,h.y.other qQ _,h.p.other qQ _,h.k.set h.z (.inl rfl) u,h.row.grown hg (.inr (FN h.row h.z qX)),fun s hs=>⟨(h.lab s hs).1.keeps k,(h.lab s hs).2.1.keeps k,(h.lab s hs).2.2⟩,lp⟩
def aU.setY(h:aU w0 w W rb a n cap P zc yc pc vt vo lt lo v L)(hr:rb<w.heap.size)(i:Nat)(u:qB):aU w0 w (W.setCell ⟨w.heap.size+1,i,none⟩ u) rb a n cap P zc (yc.setIfInBounds i u) pc vt vo lt lo v L:=by
 have lp:=h.lp;have hg:=Br (Bi W (w.heap.size+1)) i u;have k:=Aq (i:=i) h.y qX u;exact⟨h.rs.set hr (Nat.le_succ _) i u,h.z.other qQ _,h.y.jB (i:=i) u,h.p.other qQ _,⟨h.k.t.set h.y qX u,h.k.o.set h.y qX u,fun x hx=>(h.k.tn x hx).keeps k,fun x hx=>(h.k.on x hx).keeps k,h.k.tc,h.k.oc⟩,h.row.grown hg (.inr (FN h.row h.y qX)),fun s hs=>⟨(h.lab s hs).1.keeps k,(h.lab s hs).2.1.keeps k,(h.lab s hs).2.2⟩,lp⟩
def aU.run(h:aU w0 w W rb a n cap P zc yc pc vt vo lt lo v L):Dh W w v L/\∀s∈L,s.c1.new 0 W/\s.c2.new 0 W/\s.data.size<=100:=⟨h.row,h.lab⟩
end
structure Qw(w:World)(B:Nat)(v:qB)(L:List Aj):Prop where
 row:Dh w B v L
 lab:∀s∈L,s.c1.new 0 w/\s.c2.new 0 w/\s.data.size<=100
def Qw.below{w w':World}{B:Nat}{v:qB}{L:List Aj}(h:Qw w B v L)(hb:Below w w w'):Qw w' B v L:=
 ⟨h.row.below hb,fun s hs=>⟨(h.lab s hs).1.below hb,(h.lab s hs).2.1.below hb,(h.lab s hs).2.2⟩⟩
def Qw.set{w:World}{B P i:Nat}{v:qB}{L:List Aj}{cs:Array qB}(h:Qw w B v L)(hb:Ag w P (.cells cs 27))(u:qB):Qw (w.setCell ⟨P,i,none⟩ u) B v L:=by
 have k:=Aq (i:=i) hb qX u;exact⟨h.row.grown (Br (Bi w P) i u) (.inr (FN h.row hb qX)),fun s hs=>⟨(h.lab s hs).1.keeps k,(h.lab s hs).2.1.keeps k,(h.lab s hs).2.2⟩⟩
def Qw.steps{w:World}{B vc:Nat}{va:Option Addr}{L:List Aj}(h:Qw w B (.slice va L.length vc) L):Gs w va L.length (Ia L):=
 h.row.lies (fun s hs=>⟨(h.lab s hs).1.1,(h.lab s hs).2.1.1,Nat.le_trans (h.lab s hs).2.2 (by unfold maxLen;omega)⟩)
def Uf(tmps:Array qB)(W:World)(Z Y:Nat)(x y b c v:qB)(hz:Ag W Z (.cells #[x,y] 27))(hy:Ag W Y (.cells #[b,c] 42))(h4:tmps[4]? =some (.pointer Z))(h5:tmps[5]? =some v)(h6:tmps[6]? =some (.pointer Y)):
 (results Tryz.f11 tmps).run prog W= .ok (.tuple #[.agg #[x,y],v,.agg #[b,c]]) W:=by
 obtain⟨z0,z1⟩:=hz.two;obtain⟨y0,y1⟩:=hy.two;simp[results,Tryz.results11,go_sem,h4,h5,h6,z0,z1,y0,y1]
end Go.Proofs.YtdaccbddcjlkpaaGreatDoor
