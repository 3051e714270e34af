import Derived.Lib.Join
import Derived.Test.YtdaccbddcjlkpaaGreatDoorZ27p
set_option maxRecDepth 100000
set_option maxHeartbeats 8000000
namespace Go.Proofs.YtdaccbddcjlkpaaGreatDoor
open Go Go.RowKit Go.Deep Go.Maps Go.Proofs.Tryz
open Go.Value renaming slice→qV
open Go.Obj renaming cells→qG
open Go.World renaming ownsRow→qq
open Go renaming World→qM
def cU(w wr:qM)(B M:Nat)(ta oa:Option Addr)(ca co:Nat)(T:List Ae)(O:List Ab):Prop:=Ff wr M ta oa ca co T O∨(Ff w B ta oa ca co T O/\Below w w wr)
section
variable {w wr w':qM}{B M P i:Nat}{u:Value}{ta oa:Option Addr}{ca co:Nat}{T:List Ae}{O:List Ab}
theorem cU.below(h:cU w wr B M ta oa ca co T O)(hb:Below wr wr w'):cU w w' B M ta oa ca co T O:=h.elim (fun a=> .inl (a.below hb)) (fun a=> .inr ⟨a.1,Af a.2 hb⟩)
theorem cU.own(h:cU w wr B M ta oa ca co T O)(hB:B<=M):Ff wr B ta oa ca co T O:=h.elim (fun a=>a.base hB) (fun a=>a.1.below a.2)
theorem cU.set(h:cU w wr B M ta oa ca co T O)(h1:w.heap.size<=P)(h2:P<M):cU w (wr.setCell ⟨P,i,none⟩ u) B M ta oa ca co T O:=h.elim (fun a=> .inl (a.set h2)) (fun a=> .inr ⟨a.1,a.2.setCell (p:=⟨P,i,none⟩) h1 u⟩)
end
structure Zc(E:Nat->Addr)(w wr:qM)(B:Nat)(T:List Ae)(O:List Ab)(ta oa:Option Addr)(ca co:Nat)(v:Value)(ans:List (Int×ByteArray)):Prop where
 e:Below w w wr
 p:Ag wr w (qG #[qV ta T.length ca,qV oa O.length co] 27)
 r:Ag wr (w.heap.size+1) (qG #[qV none 0 0,qV none 0 0] 27)
 g:∃x,Ag wr (w.heap.size+2) (qG x 82)/\x[0]? =some (.int .u64 0)
 k:cU w wr B (w.heap.size+3) ta oa ca co T O
 a:Do wr w v ans
theorem Zc.below{E:Nat->Addr}{w wr w':qM}{B:Nat}{T:List Ae}{O:List Ab}{ta oa:Option Addr}{ca co:Nat}{v:Value}{ans:List (Int×ByteArray)}(h:Zc E w wr B T O ta oa ca co v ans)(hb:Below wr wr w'):Zc E w w' B T O ta oa ca co v ans:=
 ⟨Af h.e hb,h.p.below hb,h.r.below hb,by obtain⟨x,h1,h2⟩:=h.g;exact⟨x,h1.below hb,h2⟩,h.k.below hb,h.a.below hb⟩
def gH(w:qM)(B:Nat)(T':List Ae)(O':List Ab)(ans:List (Int×ByteArray))(e:Ending)(w':qM):Prop:=
 ∃(ta oa:Option Addr) (ca co:Nat) (v:Value),e= .returned (.tuple #[.agg #[qV ta T'.length ca,qV oa O'.length co],v])/\Ff w' B ta oa ca co T' O'/\Do w' w v ans/\Below w w w'
theorem Ta(tmps:Array Value)(W:qM)(P:Nat)(x y v:Value)(h:Ag W P (qG #[x,y] 27))(h2:tmps[6]? =some (.pointer P))(h3:tmps[7]? =some v):
 (results Tryz.f13 tmps).run prog W= .ok (.tuple #[.agg #[x,y],v]) W:=by
 obtain⟨z0,z1⟩:=h.two;simp[results,Tryz.results13,go_sem,h2,h3,z0,z1]
theorem Qy(E:Nat->Addr)(T T':List Ae)(O O':List Ab)(a:Option Addr)(n cap:Nat)(S:Nat->Aj)(ans:List (Int×ByteArray))(w:qM)(B:Nat)(ta oa:Option Addr)(ca co:Nat)(hB:B<=w.heap.size)(h:Ff w B ta oa ca co T O)(vr:Mp w E)(ok:okL T O=true)(hn:n<=60)(hS:Gs w a n S)(r:La S n T O ans T' O'):
 Calls prog 13 #[.agg #[qV ta T.length ca,qV oa O.length co],qV a n cap,qV none 0 0] w (gH w B T' O' ans):=by
 obtain⟨TT,OO,A,st,t0,o0,tn,on,an⟩:=Oi r ok;subst t0 o0 tn on an;clear r;have ST:=qC st;have HS:=qC hS;have VR:=qC vr;have N60:=qC hn;have KK:=qC h;have HB:=qC hB;clear h ok hS st hn vr hB;go_enter func13,ntmps13
 go_upto_region 2 with fail
 have n5:Nw (w.alloc (qG #[qV ta (TT 0).length ca,qV oa (OO 0).length co] 27)):=⟨⟩;have n6:No (qG #[qV none 0 0,qV none 0 0] 27):=⟨⟩;have n2:Nw ((n5:qM).alloc n6):=⟨⟩;have n4:No (qG #[.int .u64 0,.int .u32 0] 82):=⟨⟩;have I0:Hid (Zc E w ((n2:qM).alloc n4) B (TT 0) (OO 0) ta oa ca co (qV none 0 0) (A 0)):=qC ⟨(((Bg w _).alloc sI _).alloc sO _),((Ag.new w _).alloc _).alloc _,by have:=(Ag.new n5 n6).alloc n4;simpa using this,⟨#[.int .u64 0,.int .u32 0],by have:=Ag.new n2 n4;simpa using this,rfl⟩,.inr ⟨KK,(((Bg w _).alloc sI _).alloc sO _)⟩,by rw[ST.out.start];exact Do.nil _ _⟩;generalize ((n2:qM).alloc n4)=W1 at *;clear KK;go_wp2_with fail
 go_loopw [21] (fun i wr=>i= .int .i64 0/\wr=W1) (fun _ _=>0)
 case atStart=>exact⟨rfl,rfl⟩
 case round=>
  obtain⟨rfl,rfl⟩:=hrel;obtain⟨x0,x1⟩:=I0.out.p.two;go_wp2_with fail
  refine(UC _ _ _).mono ?_;rintro e w2 ⟨rfl,h2⟩;have I2:=qC (I0.out.below h2);clear x0 x1 h2 I0;go_upto_region 10 with fail
  go_wp2_with fail
  go_loopw [11,13,14,15,16,33] (fun v _ _ _ _ i wr=>∃(j:Nat) (ta oa:Option Addr) (ca co:Nat),j<=n/\i= .int .i64 j/\Hid (Zc E w wr B (TT j) (OO j) ta oa ca co v (A j))) (fun _ _ _ _ _ i _=>n-(intOf i).toNat)
  case atStart=>exact⟨0,ta,oa,ca,co,Nat.zero_le _,rfl,I2⟩
  case round=>
   clear I2;obtain⟨j,ta,oa,ca,co,hj,rfl,I⟩:=hrel;by_cases hlt:j<n
   ·have i1:(j:Int)<(n:Int):=qQ;have i2:(0:Int)<=(j:Int):=qQ;obtain⟨c,tx,rt,ea⟩:=ST.out.step j hlt;obtain⟨b,off,rfl,hl,hc⟩:=(HS.out.below I.out.e) qQ;obtain⟨cs,sa⟩:=hc j hlt;obtain⟨va,vc,rfl⟩:=I.out.a.shape;have HLT:=qC hlt;have EA:=qC ea;obtain⟨x0,x1⟩:=I.out.p.two;obtain⟨c0,c1,c2,c3,c4,c5,c6,c7,c8,c9⟩:=cs;clear hlt ea hc;go_upto_region 13 with fail
    have n1:No (qG (S j) 50):=⟨⟩;have bq:Below wr wr (wr.alloc n1):=Bg wr _;have IQ:=qC (I.out.below bq);have SB:=qC (Ag.new wr n1);have sq:=sa.below bq;clear c0 c1 c2 c3 c4 c5 c6 c7 c8 c9 x0 x1 sa bq I hl;generalize wr.alloc n1=wq at *;generalize wr.heap.size=q at *;have KB:=qC ((IQ.out.k.own (by have:=HB.out;omega)));have VQ:=qC (VR.out.below IQ.out.e);have DN:=qC (ZR KB (ST.out.ok j qQ) sq VQ rt);clear rt sq;have QL:=qC (show ∀g,(Value.slice va (A j).length vc).ownBlock=some g->g<wq.heap.size from fun g e=>(qq.lt IQ.out.a g e).2);have Q3:w.heap.size+3<=wq.heap.size:=(by obtain⟨x,h1,_⟩:=IQ.out.g;have:=h1.lt;omega);obtain⟨x0,x1⟩:=IQ.out.p.two;obtain⟨c0,c1,c2,c3,c4,c5,c6,c7,c8,c9⟩:=SB.out.jE;go_wp2_with fail
    refine DN.out.mono ?_;rintro e w5 ⟨tb,ob,cb,db,rfl,k5,b5⟩;have K5:=qC k5;have I5:=qC (IQ.out.below b5);have s5:=Nat.le_trans IQ.out.e.size b5.size;clear k5 b5 DN x0 x1 c0 c1 c2 c3 c4 c5 c6 c7 c8 c9;go_upto_region 14 with fail
    have n3:No (qG #[qV tb (TT (j+1)).length cb,qV ob (OO (j+1)).length db] 27):=⟨⟩;have b6:Below w5 w5 (w5.alloc n3):=Bg w5 _;have K6:=qC (K5.out.below b6);have I6:=qC (I5.out.below b6);have Z6:=qC (Ag.new w5 n3);clear b6 K5 I5;generalize w5.alloc n3=w6 at *;generalize w5.heap.size=z at *;obtain⟨y0,y1⟩:=Z6.out.two;go_wp2_with fail
    refine(UC _ _ _).mono ?_;rintro e w7 ⟨rfl,h7⟩;have K7:=qC (K6.out.below h7);have I7:=qC (I6.out.below h7);have Z7:=qC (Z6.out.below h7);clear h7 K6 I6 Z6 y0 y1;go_upto_region 15 with fail
    have n7:Nw (w7.alloc (qG #[.int .i64 c,.string tx] 37)):=⟨⟩;have b8:Below w7 w7 n7:=Bg w7 _;have K8:=qC (K7.out.below b8);have I8:=qC (I7.out.below b8);have Z8:=qC (Z7.out.below b8);have LA:=qC (Xb w7 c tx);have lA:(A j).length<=1048576:=(by have:=ST.out.len j hj;have:=N60.out;omega);have sA:w.heap.size<=(n7:qM).heap.size:=I8.out.e.size;have OL:=qC (show ∀g,(Value.slice va (A j).length vc).ownBlock=some g->w.heap.size<=g from fun g e=>(qq.lt I8.out.a g e).1);clear b8 K7 I7 Z7;go_wp2_with(refine JF _ rfl _ _ rfl w (qV va (A j).length vc) (A j) rfl I8.out.a (some ⟨w7,0,none⟩) 1 (c,tx) rfl LA lA sA ?_;intro a3 c3 w3 o3 g3;have Z9:=Z8.out.grown g3 (I8.out.a.ne Z8 qX);obtain⟨y0,y1⟩:=Z9.two;have P9:=I8.out.p.grown g3 (I8.out.a.ne I8.out.p qX);obtain⟨x0,x1⟩:=P9.two;have xf:=P9.jC)
    have wj:wrap64 ((j:Int)+1)=(j:Int)+1:=(by have:=N60.out;unfold wrap64;omega);go_roundw;case rel=>
     have e1:=EA.out;refine⟨j+1,tb,ob,cb,db,HLT,by rw[wj];rfl,qC ⟨?_,?_,?_,?_,?_,?_⟩⟩
     ·exact((I8.out.e.trans (below_grown g3 sA OL)).setCell (p:=⟨w,0,none⟩) nr _).setCell (p:=⟨w,1,none⟩) nr _
     ·exact(P9.jB (i:=0) _).jB (i:=1) _
     ·exact((I8.out.r.grown g3 (I8.out.a.ne I8.out.r qX)).other qQ _).other qQ _
     ·obtain⟨x,h1,h2⟩:=I8.out.g;exact⟨x,((h1.grown g3 (I8.out.a.ne h1 qX)).other qQ _).other qQ _,h2⟩
     ·exact .inl ((((K8.out.kept g3 QL).set qQ).set qQ).base Q3)
     ·rw[e1];exact(Do.set o3 P9 qX).set (P9.jB _) qX
    case measure=>have:=HLT.out;rw[wj];simp[intOf];omega
   ·obtain rfl:j=n:=by omega
    obtain⟨x0,x1⟩:=I.out.p.two;go_wp2_with fail
    go_loopw [57] (fun i wr'=>i= .int .i64 0/\wr'=wr) (fun _ _=>0)
    case atStart=>exact⟨rfl,rfl⟩
    case round=>
     obtain⟨rfl,rfl⟩:=hrel;have gw:wr.cell? ⟨w.heap.size+1+1,0,none⟩=some (.int .u64 0):=(by obtain⟨x,h1,h2⟩:=I.out.g;exact h1.c0 0 h2);obtain⟨r0,r1⟩:=I.out.r.two;have rf:=I.out.r.jC;go_wp2_with fail
     refine(Yp _ _ gw).mono ?_;rintro e w9 ⟨rfl,rfl⟩;go_wp2_with fail
     refine bodyPost_ret (Ta _ _ _ _ _ _ ((I.out.r.jB (i:=0) _).jB (i:=1) _) qK qK) rfl ⟨ta,oa,ca,co,u11,rfl,?_,?_,?_⟩
     ·exact((I.out.k.set qQ qQ).set qQ qQ).own (by have:=HB.out;omega)
     ·exact(I.out.a.set I.out.r qX).set (I.out.r.jB _) qX
     ·exact(I.out.e.setCell (p:=⟨w.heap.size+1,0,none⟩) sI _).setCell (p:=⟨w.heap.size+1,1,none⟩) sI _
theorem Lp(tmps:Array Value)(W:World)(P:Nat)(x y v:Value)(h:Ag W P (.cells #[x,y] 27))(h2:tmps[4]? =some (.pointer P))(h3:tmps[5]? =some v):
 (results Tryz.f6 tmps).run prog W= .ok (.tuple #[.agg #[x,y],v]) W:=by
 obtain⟨z0,z1⟩:=h.two;simp[results,Tryz.results6,go_sem,h2,h3,z0,z1]
theorem JM(E:Nat->Addr)(k:Av)(T T':List Ae)(O O':List Ab)(a:Option Addr)(n cap:Nat)(S:Nat->Aj)(ans:List (Int×ByteArray))(w:World)(h:IU w k T O)(vr:Mp w E)(ok:okL T O=true)(hn:n<=60)(hS:Gs w a n S)(r:La S n T O ans T' O'):
 Calls prog 6 #[.agg #[.slice k.ta k.tn k.tk,.slice k.oa k.on k.ok],.slice a n cap] w (TJ w T' O' ans):=by
 have n1:No (.cells #[.slice k.ta k.tn k.tk,.slice k.oa k.on k.ok] 27):=⟨⟩;have n2:No (.cells #[.slice none 0 0,.slice none 0 0] 27):=⟨⟩;have b0:Below w w ((w.alloc n1).alloc n2):=(Bg w _).alloc sI _;have CB:=qC ((Ag.new w n1).alloc n2);have RB:Hid (Ag ((w.alloc n1).alloc n2) (w.heap.size+1) n2):=qC (by have:=Ag.new (w.alloc n1) n2;simpa using this);have B0:=qC b0;have KR:=qC (h.below b0);have OK:=qC ok;have KO:=qC (JC k _ KR.out.lies h.cap (h.wfs ok));rw[h.okK ok]at KO;have n60:¬(60:Int)<(n:Int):=by omega
 have HS:=qC hS;have VR:=qC vr;have RR:=qC r;clear h ok hS b0 vr r;go_enter func6,ntmps6
 go_wp2_with fail
 generalize (w.alloc n1).alloc n2=W0 at *;obtain⟨z0,z1⟩:=CB.out.two;go_wp2_with fail
 refine KO.out.mono ?_;rintro e w1 ⟨rfl,h1⟩;have C1:=qC (CB.out.below h1);have R1:=qC (RB.out.below h1);have K1:=qC (KR.out.below h1);have D1:=qC (Af B0 h1);clear h1 z0 z1 KO CB RB KR B0;obtain⟨z0,z1⟩:=C1.out.two;go_wp2_with fail
 refine(WH K1 OK).mono ?_;rintro e w2 ⟨ta,oa,ca,co,rfl,kw,h2⟩;have D2:=qC (Af D1 h2);have R2:=qC (R1.out.below h2);have KW:=qC kw;have le1:w.heap.size+2<=w1.heap.size:=by have:=R1.out.lt;omega
 have le2:=h2.size;clear h2 kw z0 z1 R1 K1 D1 C1;go_wp2_with fail
 refine(Qy E T T' O O' a n cap S ans w2 w1 ta oa ca co le2 KW (VR.out.below D2) OK hn (HS.out.below D2) RR).mono ?_;rintro e w3 ⟨tb,ob,cb,db,v,rfl,k3,a3,b3⟩;have R3:=qC (R2.out.below b3);have D3:=qC (Af D2 b3);have K3:=qC k3;have A3:=qC a3;clear k3 a3 b3;obtain⟨r0,r1⟩:=R3.out.two;have rf:=R3.out.jC;go_wp2_with fail
 refine bodyPost_ret (Lp _ _ _ _ _ _ ((R3.out.jB (i:=0) _).jB (i:=1) _) qK qK) rfl ⟨tb,ob,cb,db,v,rfl,?_,?_,?_⟩
 ·exact((K3.out.set qQ).set qQ).base qQ
 ·exact((A3.out.set R3 qX).set (R3.out.jB _) qX).base D2.out.size
 ·exact(D3.out.setCell (p:=⟨w.heap.size+1,0,none⟩) sI _).setCell (p:=⟨w.heap.size+1,1,none⟩) sI _
theorem Uu(k:Av)(a:Option Addr)(n cap:Nat)(w:World)(h:k.at w)(hw:∀i,i<k.on->(Lit.int .i64 (k.O i).id).wf=true/\(Lit.int .i64 (k.O i).up).wf=true)(bad:Bh k=false):
 Calls prog 7 #[.agg #[qV k.ta k.tn k.tk,qV k.oa k.on k.ok],qV a n cap] w fun e w'=>e= .returned (.tuple #[.agg #[qV none 0 0,qV none 0 0],qV none 0 0])/\Below w w w':=by
 have n1:No (.cells #[qV k.ta k.tn k.tk,qV k.oa k.on k.ok] 27):=⟨⟩;have n2:No (.cells #[qV none 0 0,qV none 0 0] 27):=⟨⟩;have b0:Below w w ((w.alloc n1).alloc n2):=(Bg w _).alloc sI _;have CB:=qC ((Ag.new w n1).alloc n2);have RB:Hid (Ag ((w.alloc n1).alloc n2) (w.heap.size+1) n2):=qC (by have:=Ag.new (w.alloc n1) n2;simpa using this);have B0:=qC b0;have KO:=qC (FY k _ (h.below b0) (fun i hi=>(hw i hi).1));rw[bad]at KO;clear h b0 hw bad;go_enter func7,ntmps7
 go_wp2_with fail
 generalize (w.alloc n1).alloc n2=W0 at *;obtain⟨z0,z1⟩:=CB.out.two;go_wp2_with fail
 refine KO.out.mono ?_;rintro e w1 ⟨rfl,h1⟩;have R1:=qC (RB.out.below h1);have D1:=qC (Af B0 h1);clear h1 z0 z1 KO CB RB B0;obtain⟨r0,r1⟩:=R1.out.two;have rf:=R1.out.jC;go_wp2_with fail
 refine bodyPost_ret (Np _ _ _ _ _ _ ((R1.out.jB (i:=0) _).jB (i:=1) _) qK qK) rfl ⟨rfl,?_⟩;exact(D1.out.setCell (p:=⟨w.heap.size+1,0,none⟩) sI _).setCell (p:=⟨w.heap.size+1,1,none⟩) sI _
theorem Ul(k:Av)(a:Option Addr)(n cap:Nat)(w:World)(h:k.at w)(hcap:k.on<=k.ok)(hw:∀i,i<k.on->(Lit.int .i64 (k.O i).id).wf=true/\(Lit.int .i64 (k.O i).up).wf=true)(bad:Bh k=false):
 Calls prog 6 #[.agg #[qV k.ta k.tn k.tk,qV k.oa k.on k.ok],qV a n cap] w fun e w'=>e= .returned (.tuple #[.agg #[qV none 0 0,qV none 0 0],qV none 0 0])/\Below w w w':=by
 have n1:No (.cells #[qV k.ta k.tn k.tk,qV k.oa k.on k.ok] 27):=⟨⟩;have n2:No (.cells #[qV none 0 0,qV none 0 0] 27):=⟨⟩;have b0:Below w w ((w.alloc n1).alloc n2):=(Bg w _).alloc sI _;have CB:=qC ((Ag.new w n1).alloc n2);have RB:Hid (Ag ((w.alloc n1).alloc n2) (w.heap.size+1) n2):=qC (by have:=Ag.new (w.alloc n1) n2;simpa using this);have B0:=qC b0;have KO:=qC (JC k _ (h.below b0) hcap hw);rw[bad]at KO;clear h b0 hw bad;go_enter func6,ntmps6
 go_wp2_with fail
 generalize (w.alloc n1).alloc n2=W0 at *;obtain⟨z0,z1⟩:=CB.out.two;go_wp2_with fail
 refine KO.out.mono ?_;rintro e w1 ⟨rfl,h1⟩;have R1:=qC (RB.out.below h1);have D1:=qC (Af B0 h1);clear h1 z0 z1 KO CB RB B0;obtain⟨r0,r1⟩:=R1.out.two;have rf:=R1.out.jC;go_wp2_with fail
 refine bodyPost_ret (Lp _ _ _ _ _ _ ((R1.out.jB (i:=0) _).jB (i:=1) _) qK qK) rfl ⟨rfl,?_⟩;exact(D1.out.setCell (p:=⟨w.heap.size+1,0,none⟩) sI _).setCell (p:=⟨w.heap.size+1,1,none⟩) sI _
open _root_.Nat renaming add_assoc→jv
variable {l:List Aj}{w w':World}{B:Nat}{v:Value}
theorem Tryz.info50:(prog.info? 50).map (fun i=>(i.zero,i.size,i.bytes))=some (some (.agg #[.int .i64 0,.int .i64 0,.int .i64 0,.int .i64 0,.int .i64 0,.string ⟨#[]⟩,.int .i64 0,qV none 0 0,.int .i64 0,qV none 0 0]),10,120):=by kernel_rfl
def Aj.cs(v:Aj):List Value:=[v.th,v.kind,v.id,v.to,v.cat,.string v.data,v.b1,v.c1.val,v.b2,v.c2.val]
def BQ(l:List Aj):List Value:=(l.map Aj.cs).flatten
theorem UH(l:List Aj):(BQ l).length=l.length*10:=by
 induction l with
 |nil=>rfl
 |cons x r ih=>simp[BQ,Aj.cs]at *;omega
theorem PV(l r:List Aj):BQ (l++r)=BQ l++BQ r:=by simp[BQ]
theorem Vm:∀u∈BQ l,u.oneCell'=true:=fun u hu=>by
 simp only[BQ,List.mem_flatten,List.mem_map]at hu;obtain⟨_,⟨x,_,rfl⟩,h⟩:=hu;simp only[Aj.cs,List.mem_cons,List.not_mem_nil,or_false]at h;rcases h with rfl|rfl|rfl|rfl|rfl|rfl|rfl|rfl|rfl|rfl<;>rfl
theorem Ti:∀{i:Nat} (hi:i<l.length),(BQ l)[i*10]? =some (.int .i64 (l[i]).th)/\(BQ l)[i*10+1]? =some (.int .i64 (l[i]).kind)/\(BQ l)[i*10+2]? =some (.int .i64 (l[i]).id)/\(BQ l)[i*10+3]? =some (.int .i64 (l[i]).to)/\(BQ l)[i*10+4]? =some (.int .i64 (l[i]).cat)/\(BQ l)[i*10+5]? =some (.string (l[i]).data)/\(BQ l)[i*10+6]? =some (.int .i64 (l[i]).b1)/\(BQ l)[i*10+7]? =some ((l[i]).c1.val)/\(BQ l)[i*10+8]? =some (.int .i64 (l[i]).b2)/\(BQ l)[i*10+9]? =some ((l[i]).c2.val):=by
 induction l with
 |nil=>intro i hi;simp at hi
 |cons x r ih=>
  intro i hi;have e:BQ (x::r)=Value.int .i64 x.th::Value.int .i64 x.kind::Value.int .i64 x.id::Value.int .i64 x.to::Value.int .i64 x.cat::Value.string x.data::Value.int .i64 x.b1::x.c1.val::Value.int .i64 x.b2::x.c2.val::BQ r:=by simp[BQ,Aj.cs]
  rw[e];cases i with
  |zero=>simp
  |succ i=>
   have h:=ih (i:=i) (by simpa using hi);have e1:(i+1)*10=i*10+1+1+1+1+1+1+1+1+1+1:=qQ;rw[e1];simpa using h
def Dh(w:World)(B:Nat)(v:Value)(l:List Aj):Prop:=w.ownsRow B 50 10 v l.length (BQ l)
def Aj.z:Aj:=⟨0,0,0,0,0,⟨#[]⟩,0,⟨none,0,0,fun _=>0,fun _=>0⟩,0,⟨none,0,0,fun _=>0,fun _=>0⟩⟩
def Ia(l:List Aj)(i:Nat):Aj:=l.getD i Aj.z
theorem Dh.nil(w:World)(B:Nat):Dh w B (qV none 0 0) []:=World.ownsRow_nil _ _ _ _
theorem Dh.made(w:World)(B:Nat)(hb:B<=w.heap.size):Dh (w.alloc (.cells #[] 50)) B (qV (w) 0 0) []:=World.ownsRow_made w #[] 0 hb (Nat.zero_le _) rfl
theorem Dh.shape(h:Dh w B v l):∃a c,v= qV a l.length c:=CG h
theorem Dh.grown{row:Option Nat}(h:Dh w B v l)(hg:w.grownBy w' row)(hne:v.ownBlock=none∨v.ownBlock≠row):Dh w' B v l:=qq.kept h hg hne
theorem Dh.below(h:Dh w B v l)(hb:Below w w w'):Dh w' B v l:=qq.kept (row:=none) h ⟨hb.os,hb.tape,hb.output,hb.size,fun k hk _=>hb.block k hk⟩ (by cases v.ownBlock<;>simp)
theorem Dh.base{B':Nat}(h:Dh w B v l)(hB:B'<=B):Dh w B' v l:=by
 refine⟨h.1,?_⟩;rcases h.2 with hn|⟨g,cap,cur,hv,hbg,rest⟩
 ·exact .inl hn
 ·exact .inr ⟨g,cap,cur,hv,Nat.le_trans hB hbg,rest⟩
theorem Dh.lies{c:Nat}{a:Option Addr}(h:Dh w B (qV a l.length c) l)(hat:∀x∈l,x.at w):Gs w a l.length (Ia l):=fun hn=>by
 obtain⟨b,off,e,hlt,hc⟩:=Bl.own h hn;refine⟨b,off,e,hlt,fun i hi=>?_⟩;have g:=Ti hi;have e1:Ia l i=l[i]:=by simp[Ia,hi]
 rw[e1];exact⟨⟨by have:=hc _ _ (g.1);exact this,by have:=hc _ _ (g.2.1);rw[<-jv]at this;exact this,by have:=hc _ _ (g.2.2.1);rw[<-jv]at this;exact this,by have:=hc _ _ (g.2.2.2.1);rw[<-jv]at this;exact this,by have:=hc _ _ (g.2.2.2.2.1);rw[<-jv]at this;exact this,by have:=hc _ _ (g.2.2.2.2.2.1);rw[<-jv]at this;exact this,by have:=hc _ _ (g.2.2.2.2.2.2.1);rw[<-jv]at this;exact this,by have:=hc _ _ (g.2.2.2.2.2.2.2.1);rw[<-jv]at this;exact this,by have:=hc _ _ (g.2.2.2.2.2.2.2.2.1);rw[<-jv]at this;exact this,by have:=hc _ _ (g.2.2.2.2.2.2.2.2.2);rw[<-jv]at this;exact this⟩,hat _ (List.getElem_mem hi)⟩
theorem Dh.one(w:World)(x:Aj):Bl (w.alloc (.cells #[x.th,x.kind,x.id,x.to,x.cat,.string x.data,x.b1,x.c1.val,x.b2,x.c2.val] 50)) (some ⟨w,0,none⟩) 1 (BQ [x]):=fun _=>by
 refine⟨w,0,rfl,by simp,fun j u hu=>?_⟩;have h:=Ag.new w (.cells #[x.th,x.kind,x.id,x.to,x.cat,.string x.data,x.b1,x.c1.val,x.b2,x.c2.val] 50);have e:BQ [x]=([x.th,x.kind,x.id,x.to,x.cat,.string x.data,x.b1,x.c1.val,x.b2,x.c2.val]:List Value):=by simp[BQ,Aj.cs]
 rw[e]at hu;rw[Nat.zero_add];refine h.c0 j ?_;rw[<-hu];simp only[List.getElem?_toArray]
theorem Nr(w:World)(tt:TypeId)(B:Nat)(v:Value)(l:List Aj)(hown:Dh w B v l)(ad:Option Addr)(c:Nat)(x:Aj)(hc:Bl w ad 1 (BQ [x]))(hn:l.length<=1048576)(hB:B<=w.heap.size):
 ∃a' c' w',(Builtin.append_ #[28,28] tt #[v,qV ad 1 c]).run prog w= .ok (qV a' (l.length+1) c') w'/\Dh w' B (qV a' (l.length+1) c') (l++[x])/\w.grownBy w' v.ownBlock:=by
 obtain⟨a',c',w',h1,h2,h3,_⟩:=DY underlying28 Tryz.info50 rfl qQ w tt B v l.length (BQ l) hown ad 1 c (BQ [x]) (UH [x]) hc Vm qQ qQ hB;refine⟨a',c',w',h1,?_,h3⟩;unfold Dh;rw[List.length_append,PV];exact h2
theorem KC{ops:Array Oper}{rest:List Oper}{oo:Oper}{a:Act}{Q:Exit->Act->World->Prop}(w:World)(hgd:oo.guard=none)(s x:Operand)
 (ho:oo.op= .call {callee:= .builtin .append,args:=#[s,x],argTypes:=#[28,28]})
 (B:Nat)(v:Value)(l:List Aj)(hs:a.eval s=v)(hown:Dh w B v l)(ad:Option Addr)(c:Nat)(y:Aj)(hx:a.eval x= qV ad 1 c)(hc:Bl w ad 1 (BQ [y]))(hn:l.length<=1048576)(hB:B<=w.heap.size)
 (h:∀a' c' w',Dh w' B (qV a' (l.length+1) c') (l++[y])->w.grownBy w' v.ownBlock->wpList prog ops Q rest (a.put oo.dst (qV a' (l.length+1) c')) w'):wpList prog ops Q (oo::rest) a w:=by
 refine wpList_plain hgd fun K hK=>?_;obtain⟨a',c',w',hr,h2,h3⟩:=Nr w oo.type B v l hown ad c y hc hn hB;unfold Oper.wp execOp;simp only[ho,resolve,invoke,builtin,Sem.run_bind,Sem.run_pure,Result.andThen_ok,List.map_toArray,List.map_cons,List.map_nil,hs,hx,hr];exact hK _ _ (h a' c' w' h2 h3)
open Go.BigFrame Go.Shelf
open _root_.Nat renaming zero_le→qy,lt_irrefl→kU
theorem M7(tmps:Array Value)(W:World)(P:Nat)(x y:Value)(h:Ag W P (.cells #[x,y] 42))(h2:tmps[2]? =some (.pointer P)):
 (results Tryz.f29 tmps).run prog W= .ok (.agg #[x,y]) W:=by
 obtain⟨z0,z1⟩:=h.two;simp[results,Tryz.results29,go_sem,h2,z0,z1]
theorem P4{w W:World}{rb P:Nat}(g:w.grownBy W (some rb))(hP:w.heap.size<=P)(x y:Value):w.grownBy ((W.setCell ⟨P,0,none⟩ x).setCell ⟨P,1,none⟩ y) (some rb):=
 Cw g (Br (Br (Bi W P) _ _) _ _) (fun j e=>by cases e;exact hP)
theorem QD(B:Nat)(w:World):As.new B w ⟨none,0,0,fun _=>0,fun _=>0⟩:=⟨⟨qy _,fun h=>absurd h (kU 0)⟩,fun h=>absurd h (kU 0)⟩
theorem XL(w0:World)(rb:Nat)(a:Option Addr)(n cap:Nat)(w:World)(h:Rd w0 w rb a n cap):
 Calls prog 29 #[.pointer rb] w fun e w'=>∃(b:Int) (c:As),e= .returned (.agg #[.int .i64 b,c])/\c.n<=3/\c.new w w'/\Rd w0 w' rb a n cap/\w.grownBy w' (some rb):=by
 have HR:Hid (Rd w0 w rb a n cap):=h;have lr:=h.lt;have le0:=h.le;have n1:No (.cells #[.int .i64 0,.slice none 0 0] 42):=⟨⟩;have K0:=qC ((Below.refl _ w).alloc nr n1);have Y0:=qC (Ag.new w n1);have R0:=qC (h.below K0);have G0:Hid (w.grownBy (w.alloc n1) (some rb)):=qC (Cw (Bi w rb) (World.grownBy_alloc w _ none) (fun j e=>by cases e));have WZ:Hid (w0.heap.size<=w.heap.size):=qC qQ;clear h;go_enter func29,ntmps29
 go_wp2_with fail
 generalize w.alloc n1=V at *;refine(Eb w0 rb a n cap 2 V qQ R0).mono ?_;rintro e u1 ⟨t,rfl,r1,g1⟩;have R1:=qC r1;have Y1:=qC (Y0.out.grown g1 sO);have G1:=qC (Cu G0 g1);clear r1 g1 Y0 R0 G0 K0;obtain⟨y0,y1⟩:=Y1.out.two;have yw:=Y1.out.jC;cases t with
 |true=>
  go_wp2;refine bodyPost_ret (M7 _ _ w _ _ ((Y1.out.jB (i:=0) _).jB (i:=1) _) rfl) rfl ⟨1,⟨none,0,0,fun _=>0,fun _=>0⟩,rfl,qy _,QD _ _,?_,?_⟩
  ·exact R1.out.other (Br (Br (Bi u1 w) _ _) _ _) WZ qQ
  ·exact P4 G1 nr _ _
 |false=>
  go_wp2_with fail
  refine(Jp w0 rb a n cap u1 R1).mono ?_;rintro e u2 ⟨b,l,va,vc,rfl,ll,ol,r2,g2⟩;have R2:=qC r2;have Y2:=qC (Y1.out.grown g2 sO);have G2:=qC (Cu G1 g2);have OL:=qC (Ic ol qQ);have sz:w.heap.size<u1.heap.size:=Y1.out.lt;clear r2 g2 ol Y1 R1 G1 y0 y1 yw;obtain⟨y0,y1⟩:=Y2.out.two;have yw:=Y2.out.jC;go_wp2;refine bodyPost_ret (M7 _ _ w _ _ ((Y2.out.jB (i:=0) _).jB (i:=1) _) rfl) rfl ⟨b,⟨va,l.length,vc,Db l,Dc l⟩,rfl,ll,?_,?_,?_⟩
  ·exact(OL.out.jX (Br (Br (Bi u2 w) _ _) _ _) sz).low (Nat.le_of_lt sz)
  ·exact R2.out.other (Br (Br (Bi u2 w) _ _) _ _) WZ qQ
  ·exact P4 G2 nr _ _
structure QW(w0 w W:World)(rb:Nat)(a:Option Addr)(n cap P Q:Nat)(x0 y0 x1 y1:Value)(v:Value)(L:List Aj):Prop where
 rs:Ib w0 w W rb a n cap
 z:Ag W w (.cells #[.slice none 0 0,.slice none 0 0] 27)
 y:Ag W (w.heap.size+1) (.cells #[.int .i64 0,.slice none 0 0] 42)
 p:Ag W P (.cells #[x0,y0] 27)
 q:Ag W Q (.cells #[x1,y1] 27)
 row:Dh W w v L
 lab:∀s∈L,s.c1.new 0 W/\s.c2.new 0 W/\s.data.size<=100
 lp:w.heap.size+2<=P
 lq:P<Q
section
variable {w0 w W W':World}{rb n cap P Q:Nat}{a:Option Addr}{x0 y0 x1 y1 v:Value}{L:List Aj}
theorem QW.below(h:QW w0 w W rb a n cap P Q x0 y0 x1 y1 v L)(hb:Below W W W'):QW w0 w W' rb a n cap P Q x0 y0 x1 y1 v L:=
 ⟨h.rs.below hb,h.z.below hb,h.y.below hb,h.p.below hb,h.q.below hb,h.row.below hb,fun s hs=>⟨(h.lab s hs).1.below hb,(h.lab s hs).2.1.below hb,(h.lab s hs).2.2⟩,h.lp,h.lq⟩
theorem QW.call(h:QW w0 w W rb a n cap P Q x0 y0 x1 y1 v L)(hr:rb<w.heap.size)(r:Rd w0 W' rb a n cap)(gr:W.grownBy W' (some rb)):QW w0 w W' rb a n cap P Q x0 y0 x1 y1 v L:=by
 have lp:=h.lp;have lq:=h.lq;have k:=Ib.keeps h.rs.r gr;exact⟨h.rs.call r gr,h.z.grown gr sO,h.y.grown gr sO,h.p.grown gr sO,h.q.grown gr sO,h.row.grown gr (.inr (fun e=>by have:=(World.ownsRow.lt h.row rb e).1;omega)),fun s hs=>⟨(h.lab s hs).1.keeps k,(h.lab s hs).2.1.keeps k,(h.lab s hs).2.2⟩,lp,lq⟩
theorem QW.steps{va:Option Addr}{vc:Nat}(h:QW w0 w W rb a n cap P Q x0 y0 x1 y1 (.slice va L.length vc) L):Gs W va L.length (Ia L):=
 h.row.lies (fun s hs=>⟨(h.lab s hs).1.1,(h.lab s hs).2.1.1,Nat.le_trans (h.lab s hs).2.2 (by unfold maxLen;omega)⟩)
end
open _root_.List renaming mem_or_eq_of_mem_set→xY,getElem_mem→qk
theorem Jn.stG{lt:List Ae}{lo:List Ab}(h:Jn lt lo):YO lt lo:=by
 cases h with
 |right ok=>exact(aX.of ok).gen
 |up ok u o d hu ho hd=>
  have f:=(aX.of ok).gen;have om:=qk hu;rw[<-ho]at om;refine⟨f.tn,by simpa using f.on,fun x hx=>?_,fun x hx=>?_,f.thr⟩
  ·rcases xY hx with h|rfl
   ·exact f.data x h
   ·exact f.data o om
  ·rcases xY hx with h|rfl
   ·exact f.id x h
   ·exact f.id o om
 |kind ok u o d hu ho hd=>
  have f:=(aX.of ok).gen;have om:=qk hu;rw[<-ho]at om;refine⟨f.tn,by simpa using f.on,fun x hx=>?_,fun x hx=>?_,f.thr⟩
  ·rcases xY hx with h|rfl
   ·exact f.data x h
   ·exact f.data o om
  ·rcases xY hx with h|rfl
   ·exact f.id x h
   ·exact f.id o om
 |made ok X d ht hX hd=>
  have f:=(aX.of ok).gen;have om:=qk ht;rw[<-hX]at om;refine⟨by simpa using f.tn,f.on,f.data,f.id,fun x hx=>?_⟩;rcases xY hx with h|rfl
  ·exact f.thr x h
  ·exact f.thr X om
theorem Bz.nil(w:World)(B:Nat):Bz w B (.slice none 0 0) (.slice none 0 0) [] []:=⟨Du.nil w B,AW.nil w B,fun _ hx=>(nomatch hx),fun _ hx=>(nomatch hx),fun _ hx=>(nomatch hx),fun _ hx=>(nomatch hx)⟩
open _root_.Option renaming some→jV
variable {w w' w0 W:World}{B n q rb cap P Q:Nat}{v vt vo x0 y0 x1 y1 u:Value}{lt:List Ae}{lo:List Ab}{a:Option Addr}{L:List Aj}
theorem FN{ty sz t:Nat}{cs:List Value}{cq:Array Value}(h:w.ownsRow B ty sz v n cs)(hq:Ag w q (.cells cq t))(ht:ty≠t):v.ownBlock≠some q:=by
 intro e;rcases h.2 with⟨hn,_⟩|⟨g,cap,cur,hv,hbg,hg,rest⟩
 ·rw[hn]at e;cases e
 ·rw[hv]at e;have e2:g=q:=jV.inj e;subst e2;unfold Ag at hq;rw[hg]at hq;injection hq with hq;injection hq with _ h2 _;exact ht h2
theorem Nf{cq:Array Value}(hq:Ag w q (.cells cq 50))(hg:w.grownBy w' (some q)):Em w w':=⟨hg.size,fun k cs t hk ht=>hg.block k (Array.getElem?_eq_some_iff.1 hk).1 (fun e=>by
 cases e;unfold Ag at hq;rw[hq]at hk;injection hk with hk;injection hk with _ h2 _;subst h2;revert ht;decide)⟩
theorem Bz.stepRow{cq:Array Value}(h:Bz w B vt vo lt lo)(hq:Ag w q (.cells cq 50))(hg:w.grownBy w' (some q)):Bz w' B vt vo lt lo:=by
 have k:=Nf hq hg;exact⟨h.t.grown hg (.inr (FN h.t hq qX)),h.o.grown hg (.inr (FN h.o hq qX)),fun x hx=>(h.tn x hx).keeps k,fun x hx=>(h.on x hx).keeps k,h.tc,h.oc⟩
theorem QW.grow{W':World}{v':Value}{L':List Aj}(h:QW w0 w W rb a n cap P Q x0 y0 x1 y1 v L)(hr:rb<w.heap.size)(hw:w0.heap.size<=w.heap.size)(o:Dh W' w v' L')(hg:W.grownBy W' v.ownBlock)(hl:∀s∈L',s.c1.new 0 W/\s.c2.new 0 W/\s.data.size<=100):QW w0 w W' rb a n cap P Q x0 y0 x1 y1 v' L':=by
 cases hv:v.ownBlock with
 |none=>
  rw[hv]at hg;have hb:Below W W W':=⟨hg.os,hg.tape,hg.output,hg.size,fun k hk=>hg.block k hk sI⟩;have d:=h.below hb;exact⟨d.rs,d.z,d.y,d.p,d.q,o,fun s hs=>⟨(hl s hs).1.below hb,(hl s hs).2.1.below hb,(hl s hs).2.2⟩,h.lp,h.lq⟩
 |some g=>
  rw[hv]at hg;have lg:=World.ownsRow.lt h.row g hv;obtain⟨cq,hq⟩:∃cq,Ag W g (.cells cq 50):=by
   rcases h.row.2 with⟨hn,_⟩|⟨g',cap',cur,hv',_,hg',_⟩
   ·rw[hn]at hv;cases hv
   ·rw[hv']at hv;have e2:g'=g:=jV.inj hv;subst e2;exact⟨_,hg'⟩
  have k:=Nf hq hg;have ne:∀{p t:Nat}{cs:Array Value},Ag W p (.cells cs t)->t≠50->some p≠some g:=fun hp ht e=>by
   cases e;exact KH hp hq ht rfl
  refine⟨⟨h.rs.r.other hg qQ qQ,Cw h.rs.g hg (fun j e=>by cases e;omega)⟩,h.z.grown hg (ne h.z qX),h.y.grown hg (ne h.y qX),h.p.grown hg (ne h.p qX),h.q.grown hg (ne h.q qX),o,fun s hs=>⟨(hl s hs).1.keeps k,(hl s hs).2.1.keeps k,(hl s hs).2.2⟩,h.lp,h.lq⟩
theorem Bz.rowGrow{B2:Nat}(h:Bz w B vt vo lt lo)(r:Dh w B2 v L)(hg:w.grownBy w' v.ownBlock):Bz w' B vt vo lt lo:=by
 cases hv:v.ownBlock with
 |none=>
  rw[hv]at hg;exact h.below ⟨hg.os,hg.tape,hg.output,hg.size,fun k hk=>hg.block k hk sI⟩
 |some g=>
  rw[hv]at hg;rcases r.2 with⟨hn,_⟩|⟨g',cap',cur,hv',_,hg',_⟩
  ·rw[hn]at hv;cases hv
  ·rw[hv']at hv;have e2:g'=g:=jV.inj hv;subst e2;exact h.stepRow (cq:=cur) hg' hg
theorem ZJ{ca co:Nat}{ga qa:Option Addr}{s:Aj}(K:Bz W B (qV ga lt.length ca) (qV qa lo.length co) lt lo)(G:YO lt lo)(hB:B<=W.heap.size)(hs:s.at W):
 Calls prog 28 #[.agg #[qV ga lt.length ca,qV qa lo.length co],.agg s] W fun e w'=>∃(lt2:List Ae) (lo2:List Ab) (ta oa:Option Addr) (ca2 co2:Nat) (c:Int) (tx:ByteArray),e= .returned (.tuple #[.agg #[qV ta lt2.length ca2,qV oa lo2.length co2],.int .i64 c,.string tx])/\Bz w' B (qV ta lt2.length ca2) (qV oa lo2.length co2) lt2 lo2/\YO lt2 lo2/\Below W W w':=by
 have at':(Df ga ca qa co lt lo).at W:=K.at (by have:=G.tn;omega) (by have:=G.on;omega) G.data;cases ok:Bh (Df ga ca qa co lt lo)with
 |true=>
  refine(MR (Df ga ca qa co lt lo) W at' ok s hs).mono ?_;rintro e w' ⟨lt1,lo1,lt',lo',ta,ca',oa,co',c,tx,e1,k1,hb,sm,dp⟩;have ok1:okL lt1 lo1=true:=(Cc sm).trans ok;exact⟨lt',lo',ta,oa,ca',co',c,tx,e1,k1.base hB,(aX.of (IB ok1 dp)).gen,hb⟩
 |false=>
  refine(Uh (Df ga ca qa co lt lo) W at' ok (fun i hi=>Nc (G.id (Aa lo i) (FG hi))) s).mono ?_;rintro e w' ⟨e1,hb⟩;exact⟨[],[],none,none,0,0,1,⟨#[]⟩,e1,Bz.nil _ _,YO.nil,hb⟩
theorem QW.set0(h:QW w0 w W rb a n cap P Q x0 y0 x1 y1 v L)(hr:rb<w.heap.size)(hw:w0.heap.size<=w.heap.size):QW w0 w (W.setCell ⟨Q,0,none⟩ u) rb a n cap P Q x0 y0 u y1 v L:=by
 have lp:=h.lp;have lq:=h.lq;have hg:=Br (Bi W Q) 0 u;have k:=Aq (i:=0) h.q qX u;exact⟨⟨h.rs.r.other hg qQ qQ,Cw h.rs.g hg (fun j e=>by cases e;omega)⟩,h.z.other qQ _,h.y.other qQ _,h.p.other qQ _,h.q.jB (i:=0) u,h.row.grown hg (.inr (FN h.row h.q qX)),fun s hs=>⟨(h.lab s hs).1.keeps k,(h.lab s hs).2.1.keeps k,(h.lab s hs).2.2⟩,lp,lq⟩
theorem QW.set1(h:QW w0 w W rb a n cap P Q x0 y0 x1 y1 v L)(hr:rb<w.heap.size)(hw:w0.heap.size<=w.heap.size):QW w0 w (W.setCell ⟨Q,1,none⟩ u) rb a n cap P Q x0 y0 x1 u v L:=by
 have lp:=h.lp;have lq:=h.lq;have hg:=Br (Bi W Q) 1 u;have k:=Aq (i:=1) h.q qX u;exact⟨⟨h.rs.r.other hg qQ qQ,Cw h.rs.g hg (fun j e=>by cases e;omega)⟩,h.z.other qQ _,h.y.other qQ _,h.p.other qQ _,h.q.jB (i:=1) u,h.row.grown hg (.inr (FN h.row h.q qX)),fun s hs=>⟨(h.lab s hs).1.keeps k,(h.lab s hs).2.1.keeps k,(h.lab s hs).2.2⟩,lp,lq⟩
open Go renaming Value→qB
structure aU(w0 w W:World)(rb:Nat)(a:Option Addr)(n cap P:Nat)(zc yc pc:Array qB)(vt vo:qB)(lt:List Ae)(lo:List Ab)(v:qB)(L:List Aj):Prop where
 rs:Ib w0 w W rb a n cap
 z:Ag W w (.cells zc 27)
 y:Ag W (w.heap.size+1) (.cells yc 42)
 p:Ag W P (.cells pc 27)
 k:Bz W w vt vo lt lo
 row:Dh W w v L
 lab:∀s∈L,s.c1.new 0 W/\s.c2.new 0 W/\s.data.size<=100
 lp:w.heap.size+2<=P
section
variable {w0 w W:World}{rb n cap P Q:Nat}{a:Option Addr}{x0 y0 x1 y1 v vt vo:qB}{zc yc pc:Array qB}{lt:List Ae}{lo:List Ab}{L:List Aj}
theorem aU.of(h:QW w0 w W rb a n cap P Q x0 y0 x1 y1 v L)(k:Bz W w vt vo lt lo):aU w0 w W rb a n cap P #[.slice none 0 0,.slice none 0 0] #[.int .i64 0,.slice none 0 0] #[x0,y0] vt vo lt lo v L:=
 ⟨h.rs,h.z,h.y,h.p,k,h.row,h.lab,h.lp⟩
theorem aU.setZ(h:aU w0 w W rb a n cap P zc yc pc vt vo lt lo v L)(hr:rb<w.heap.size)(i:Nat)(u:qB):aU w0 w (W.setCell ⟨w,i,none⟩ u) rb a n cap P (zc.setIfInBounds i u) yc pc vt vo lt lo v L:=by
 have lp:=h.lp;have hg:=Br (Bi W w) i u;have k:=Aq (i:=i) h.z qX u;exact⟨h.rs.set hr nr i u,h.z.jB (i:=i) u,h.y.other qQ _,h.p.other qQ _,h.k.set h.z (.inl rfl) u,h.row.grown hg (.inr (FN h.row h.z qX)),fun s hs=>⟨(h.lab s hs).1.keeps k,(h.lab s hs).2.1.keeps k,(h.lab s hs).2.2⟩,lp⟩
theorem aU.setY(h:aU w0 w W rb a n cap P zc yc pc vt vo lt lo v L)(hr:rb<w.heap.size)(i:Nat)(u:qB):aU w0 w (W.setCell ⟨w.heap.size+1,i,none⟩ u) rb a n cap P zc (yc.setIfInBounds i u) pc vt vo lt lo v L:=by
 have lp:=h.lp;have hg:=Br (Bi W (w.heap.size+1)) i u;have k:=Aq (i:=i) h.y qX u;exact⟨h.rs.set hr (Nat.le_succ _) i u,h.z.other qQ _,h.y.jB (i:=i) u,h.p.other qQ _,⟨h.k.t.set h.y qX u,h.k.o.set h.y qX u,fun x hx=>(h.k.tn x hx).keeps k,fun x hx=>(h.k.on x hx).keeps k,h.k.tc,h.k.oc⟩,h.row.grown hg (.inr (FN h.row h.y qX)),fun s hs=>⟨(h.lab s hs).1.keeps k,(h.lab s hs).2.1.keeps k,(h.lab s hs).2.2⟩,lp⟩
theorem aU.run(h:aU w0 w W rb a n cap P zc yc pc vt vo lt lo v L):Dh W w v L/\∀s∈L,s.c1.new 0 W/\s.c2.new 0 W/\s.data.size<=100:=⟨h.row,h.lab⟩
end
structure Qw(w:World)(B:Nat)(v:qB)(L:List Aj):Prop where
 row:Dh w B v L
 lab:∀s∈L,s.c1.new 0 w/\s.c2.new 0 w/\s.data.size<=100
theorem Qw.below{w w':World}{B:Nat}{v:qB}{L:List Aj}(h:Qw w B v L)(hb:Below w w w'):Qw w' B v L:=
 ⟨h.row.below hb,fun s hs=>⟨(h.lab s hs).1.below hb,(h.lab s hs).2.1.below hb,(h.lab s hs).2.2⟩⟩
theorem Qw.set{w:World}{B P i:Nat}{v:qB}{L:List Aj}{cs:Array qB}(h:Qw w B v L)(hb:Ag w P (.cells cs 27))(u:qB):Qw (w.setCell ⟨P,i,none⟩ u) B v L:=by
 have k:=Aq (i:=i) hb qX u;exact⟨h.row.grown (Br (Bi w P) i u) (.inr (FN h.row hb qX)),fun s hs=>⟨(h.lab s hs).1.keeps k,(h.lab s hs).2.1.keeps k,(h.lab s hs).2.2⟩⟩
theorem Qw.steps{w:World}{B vc:Nat}{va:Option Addr}{L:List Aj}(h:Qw w B (.slice va L.length vc) L):Gs w va L.length (Ia L):=
 h.row.lies (fun s hs=>⟨(h.lab s hs).1.1,(h.lab s hs).2.1.1,Nat.le_trans (h.lab s hs).2.2 (by unfold maxLen;omega)⟩)
theorem Uf(tmps:Array qB)(W:World)(Z Y:Nat)(x y b c v:qB)(hz:Ag W Z (.cells #[x,y] 27))(hy:Ag W Y (.cells #[b,c] 42))(h4:tmps[4]? =some (.pointer Z))(h5:tmps[5]? =some v)(h6:tmps[6]? =some (.pointer Y)):
 (results Tryz.f11 tmps).run prog W= .ok (.tuple #[.agg #[x,y],v,.agg #[b,c]]) W:=by
 obtain⟨z0,z1⟩:=hz.two;obtain⟨y0,y1⟩:=hy.two;simp[results,Tryz.results11,go_sem,h4,h5,h6,z0,z1,y0,y1]
open _root_.List renaming set→qF
theorem Ym(w0:World)(rb:Nat)(a:Option Addr)(n cap:Nat)(w:World)(h:Rd w0 w rb a n cap):
 Calls prog 11 #[.pointer rb,.int .i64 10] w fun e w'=>∃(lt:List Ae) (lo:List Ab) (g ca q co:Nat) (va:Option Addr) (vc:Nat) (L:List Aj) (b:Int) (c:As),e= .returned (.tuple #[.agg #[qV g lt.length ca,qV q lo.length co],qV va L.length vc,.agg #[.int .i64 b,c]])/\Bz w' w (qV g lt.length ca) (qV q lo.length co) lt lo/\Jn lt lo/\L.length<=10/\Qw w' w (qV va L.length vc) L/\Rd w0 w' rb a n cap/\w.grownBy w' (some rb):=by
 have lr:=h.lt;have HW:=qC (show w0.heap.size<=w.heap.size from h.E.size);have n4:No (qG #[.int .i64 0,qV none 0 0] 42):=⟨⟩;have n5:No (qG #[qV none 0 0,qV none 0 0] 27):=⟨⟩;have R0:=qC (((Ib.refl h).alloc n5).alloc n4);have Z0:=qC ((Ag.new w n5).alloc n4);have Y0:Hid (Ag ((w.alloc n5).alloc n4) (w.heap.size+1) n4):=qC (by have:=Ag.new (w.alloc n5) n4;simpa using this);clear h;go_enter func11,ntmps11
 go_wp2_with fail
 generalize (w.alloc n5).alloc n4=w1 at *;refine(RE w0 rb a n cap w1 R0.out.r 8 qQ).mono ?_;rintro e w2 ⟨lt,lo,g,ca,q,co,rfl,ks,kd,r2,g2⟩;have s1:=R0.out.g.size;have s2:w.heap.size+1<w1.heap.size:=Y0.out.lt;have R2:=qC (R0.out.call r2 g2);have Z2:=qC (Z0.out.grown g2 sO);have Y2:=qC (Y0.out.grown g2 sO);have KS:=qC (ks.base s1);have KD:=qC kd;have s3:=g2.size;clear ks kd r2 g2 R0 Z0 Y0;go_upto_region 4 with fail
 have n2:No (qG #[qV g lt.length ca,qV q lo.length co] 27):=⟨⟩;have n8:Nw ((w2.alloc n2).alloc (qG #[] 50)):=⟨⟩;have b3:Below w2 w2 ((n8:World).alloc n2):=((Bg w2 _).alloc sI _).alloc sO _;have n6:Nv (qV g lt.length ca):=⟨⟩;have n7:Nv (qV q lo.length co):=⟨⟩;have D0:Hid (QW w0 w ((n8:World).alloc n2) rb a n cap w2 (w2.heap.size+2) n6 n7 n6 n7 (qV (some ⟨w2.heap.size+1,0,none⟩) 0 0) []):=qC ⟨R2.out.below b3,Z2.out.below b3,Y2.out.below b3,((Ag.new w2 _).alloc _).alloc _,by have:=Ag.new n8 n2;simpa using this,by have:=(Dh.made (w2.alloc n2) w sO).below ((Below.refl _ _).alloc nr n2);simpa using this,fun s hs=>(nomatch hs),by omega,by omega⟩;have K3:=qC (KS.out.below b3);clear b3 R2 Z2 Y2 KS;generalize (n8:World).alloc n2=w3 at *;generalize w2.heap.size=P at *;go_wp2_with fail
 refine(AF w0 rb a n cap 11 _ qQ D0.out.rs.r).mono ?_;rintro e w4 ⟨x,rfl,_,hx,r4,g4⟩;have x11:=hx qQ;have D4:=qC (D0.out.call lr r4 g4);have K4:=qC (K3.out.jX g4 lr);clear r4 g4 hx D0 K3;go_wp2_with fail
 go_loopw [8,10,11] (fun v i _ wr=>∃(j:Nat) (lt':List Ae) (lo':List Ab) (ga qa:Option Addr) (ca' co':Nat) (L:List Aj),L.length+j<=10/\i= .int .i64 j/\Hid (QW w0 w wr rb a n cap P (P+2) n6 n7 (qV ga lt'.length ca') (qV qa lo'.length co') v L)/\Hid (Bz wr w n6 n7 lt lo)/\Hid (Bz wr w (qV ga lt'.length ca') (qV qa lo'.length co') lt' lo')/\Hid (YO lt' lo')) (fun _ i _ _=>(intOf i).toNat)
 case atStart=>exact⟨x,lt,lo,_,_,ca,co,[],by simp;omega,rfl,D4,K4,K4,qC KD.out.stG⟩
 case round=>
  clear D4 K4;obtain⟨j,lt',lo',ga,qa,ca',co',L,hj,rfl,D,K0,K1,G⟩:=hrel;by_cases hlt:0<j
  ·have i1:(0:Int)<(j:Int):=qQ;have HLT:=qC hlt;obtain⟨y0,y1⟩:=D.out.q.two;clear hlt;go_wp2_with fail
   refine(OZ w0 rb a n cap wr D.out.rs.r lt' lo' ga qa ca' co' w K1 lr G).mono ?_;rintro e w5 ⟨s,rfl,sa,r5,g5⟩;have S5:=qC (⟨sa.1,sa.2.1,sa.2.2.1⟩:s.c1.new 0 w5/\s.c2.new 0 w5/\s.data.size<=100);have D5:=qC (D.out.call lr r5 g5);have K05:=qC (K0.out.jX g5 lr);have K15:=qC (K1.out.jX g5 lr);clear sa r5 g5 y0 y1 D K0 K1;go_upto_region 8 with fail
   have n1:No (qG s 50):=⟨⟩;have b6:Below w5 w5 (w5.alloc n1):=Bg w5 _;have B6:=qC (Ag.new w5 n1);have D6:=qC (D5.out.below b6);have K06:=qC (K05.out.below b6);have K16:=qC (K15.out.below b6);have S6:Hid (s.c1.new 0 (w5.alloc n1)/\s.c2.new 0 (w5.alloc n1)/\s.data.size<=100):=qC ⟨S5.out.1.below b6,S5.out.2.1.below b6,S5.out.2.2⟩;have l5:=D5.out.rs.g.size;have OL:=qC (fun x e=>(World.ownsRow.lt D5.out.row x e).2);clear b6 D5 K05 K15 S5;generalize w5.alloc n1=w6 at *;generalize w5.heap.size=q6 at *;obtain⟨va,vc,rfl⟩:=D6.out.row.shape;have b7:Below w6 w6 (w6.alloc n1):=Bg w6 _;have B7:=qC (B6.out.below b7);have D7:=qC (D6.out.below b7);have K07:=qC (K06.out.below b7);have K17:=qC (K16.out.below b7);have S7:Hid (s.c1.new 0 (w6.alloc n1)/\s.c2.new 0 (w6.alloc n1)/\s.data.size<=100):=qC ⟨S6.out.1.below b7,S6.out.2.1.below b7,S6.out.2.2⟩;have LA:=qC (Dh.one w6 s);have lA:L.length<=1048576:=qQ;have sA:w.heap.size<=(w6.alloc n1).heap.size:=D7.out.rs.g.size;obtain⟨c0,c1,c2,c3,c4,c5,c6,c7,c8,c9⟩:=B6.out.jE;clear b7 D6 K06 K16 S6 B6;go_wp2_with(refine KC _ rfl _ _ rfl w (qV va L.length vc) L rfl D7.out.row (some ⟨w6,0,none⟩) 1 s rfl LA lA sA ?_;intro a3 c3' w8 o3 g3;have D8:=D7.out.grow lr HW o3 g3 (fun t ht=>by rcases List.mem_append.1 ht with h|h;exact D7.out.lab t h;rw[List.mem_singleton.1 h];exact S7.out);have K08:=K07.out.rowGrow D7.out.row g3;have K18:=K17.out.rowGrow D7.out.row g3;have B8:=B7.out.grown g3 (fun e=>by have:=OL.out _ e.symm;omega);obtain⟨c0,c1,c2,c3,c4,c5,c6,c7,c8,c9⟩:=B8.jE;obtain⟨y0,y1⟩:=D8.q.two)
   refine(ZJ K18 G D8.rs.g.size (by have l:=D8.lab s sI;exact⟨l.1.1,l.2.1.1,Nat.le_trans l.2.2 (by unfold maxLen;omega)⟩)).mono ?_;rintro e w9 ⟨lt2,lo2,ta,oa,ca2,co2,c,tx,rfl,k9,g9,b9⟩;have D9:=qC (D8.below b9);have K09:=qC (K08.below b9);have K19:=qC k9;have G9:=qC g9;obtain⟨z0,z1⟩:=D9.out.q.two;have zf:=D9.out.q.jC;clear k9 g9 b9 D8 K08 K18 y0 y1 c0 c1 c2 c3 c4 c5 c6 c7 c8 c9 B8;go_wp2_with fail
   go_roundw;case rel=>
    have d:=(D9.out.set0 (u:= qV ta lt2.length ca2) lr HW).set1 (u:= qV oa lo2.length co2) lr HW.out;refine⟨j-1,lt2,lo2,ta,oa,ca2,co2,L++[s],by have:=HLT.out;simp;omega,by have:=HLT.out;go_num,qC (by simpa using d),qC ((K09.out.set D9.out.q (.inl rfl) _).set (D9.out.q.jB _) (.inl rfl) _),qC ((K19.out.set D9.out.q (.inl rfl) _).set (D9.out.q.jB _) (.inl rfl) _),G9⟩
   case measure=>have:=HLT.out;simp[intOf];omega
  ·obtain⟨va,vc,rfl⟩:=D.out.row.shape;have n3:Na #[qV g lt.length ca,qV q lo.length co]:=⟨⟩;have DP:=qC (fun W (hb:Ib w0 w W rb a n cap/\Ag W P (qG n3 27))=>hb);have E1:Hid (∀args w,(callFunc 29 args).run prog w= .ok (.enter 29 args) w):=qC (enters_of func29 kR rfl);go_upto_region 10 with fail
   have DD:=qC (D.out.below (Az (Below.refl _ wr)));have KD0:=qC (K0.out.below (Az (Below.refl _ wr)));have S0:=qC (show Ib w0 w wr.drew rb a n cap/\Ag wr.drew P (qG n3 27) from⟨DD.out.rs,DD.out.p⟩);refine Am 6 (fun W=>Ib w0 w W rb a n cap/\Ag W P (qG n3 27)) kR ?_;refine tr 0 38 (.agg n3) S0 ?_ (hy:=fun W h=>by obtain⟨x0,x1⟩:=h.2.two;go_simp);refine tr 1 39 (qV va L.length vc) S0 ?_;refine tr 2 40 (.pointer rb) S0 ?_;generalize wr.drew=WD at *;refine Ac (i:=3) kR rfl ?_;intro K hK;refine An qK 29 _ _ qK E1 _ qK (some 41) qK _ ((XL w0 rb a n cap WD S0.out.1.r).mono fun e w' ⟨b,c,he,_,_,r,gr⟩=>(⟨_,he,b,c,rfl,r,gr⟩:∃v,e= .returned v/\∃(b:Int) (c:As),v= .agg #[.int .i64 b,c]/\Rd w0 w' rb a n cap/\WD.grownBy w' (some rb))) ?_;rintro v w5 ⟨b,c,rfl,r5,g5⟩;have D5:=qC (DD.out.call lr r5 g5);have K5:=qC (KD0.out.jX g5 lr);have E5:=qC (aU.of D5 K5);have LN:=qC hj;clear D5 K5 D K0 K1 DD KD0 S0 DP;refine hK _ _ (fun _=>⟨E5.out.rs,E5.out.p⟩) ?_;clear hK K r5 g5;simp only[ap,qF];obtain⟨z0,z1⟩:=E5.out.z.two;have zf:=E5.out.z.jC;refine Ac (i:=4) kR rfl ?_;intro K hK;go_simp;have n9:Nv (qV g lt.length ca):=⟨⟩;have n10:Nv (qV q lo.length co):=⟨⟩;have E6:=qC ((E5.out.setZ lr 0 n9).setZ lr 1 n10);refine hK _ _ (fun _=>⟨E6.out.rs,E6.out.p⟩) ?_;clear hK K E5 z0 z1 zf;try simp only[ap,qF]
   generalize (w5.setCell ⟨w,0,none⟩ n9).setCell ⟨w,1,none⟩ n10=w6 at *;refine oO 5 ?_ (hS:=fun _=>⟨E6.out.rs,E6.out.p⟩);try simp only[ap,qF]
   obtain⟨y0,y1⟩:=E6.out.y.two;have yf:=E6.out.y.jC;refine oO 6 ?_;try simp only[ap,qF]
   have E7:=qC ((E6.out.setY lr 0 (.int .i64 b)).setY lr 1 (qV c.a c.n c.k));refine Ai kR ?_ _;go_wp2_with fail
   refine bodyPost_ret (Uf _ _ w (w.heap.size+1) _ _ _ _ _ E7.out.z E7.out.y qK qK qK) rfl ⟨lt,lo,g,ca,q,co,va,vc,L,b,c,rfl,E7.out.k,KD,by have:=LN.out;omega,⟨E7.out.row,E7.out.lab⟩,E7.out.rs.r,E7.out.rs.g⟩
theorem Ny(tmps:Array Value)(W:World)(P:Nat)(x y v:Value)(h:Ag W P (.cells #[x,y] 27))(h2:tmps[2]? =some (.pointer P))(h3:tmps[3]? =some v):
 (results Tryz.f5 tmps).run prog W= .ok (.tuple #[.agg #[x,y],v]) W:=by
 obtain⟨z0,z1⟩:=h.two;simp[results,Tryz.results5,go_sem,h2,h3,z0,z1]
theorem Tl(a:Option Addr)(n cap:Nat)(w:World)(hn:n<=1048576)(hb:BytesAt w a n):
 Calls prog 5 #[qV a n cap] w fun e w'=>∃(lt:List Ae) (lo:List Ab) (g ca q co:Nat) (va:Option Addr) (vc:Nat) (L:List Aj),e= .returned (.tuple #[.agg #[qV g lt.length ca,qV q lo.length co],qV va L.length vc])/\Bz w' w (qV g lt.length ca) (qV q lo.length co) lt lo/\Jn lt lo/\L.length<=10/\Qw w' w (qV va L.length vc) L/\Below w w w':=by
 have n2:No (.cells #[qV none 0 0,qV none 0 0] 27):=⟨⟩;have R0:=qC (Ag.new w n2);have B0:=qC ((Below.refl _ w).alloc nr n2);have HB:=qC (hb.below B0);clear hb;go_enter func5,ntmps5
 go_wp2_with fail
 generalize w.alloc n2=V at *;refine(Vs a n cap V hn HB).mono ?_;rintro e w1 ⟨rb,rfl,r1⟩;have R1:=qC r1;have l1:=r1.lt;have le1:=r1.le;have s0:=R0.out.lt;clear r1;go_wp2_with fail
 refine(Ym V rb a n cap w1 R1).mono ?_;rintro e w2 ⟨lt,lo,g,ca,q,co,va,vc,L,b,c,rfl,ks,kd,ln,rd,r2,g2⟩;have KD:=qC kd;have LN:=qC ln;have n1:No (.cells #[qV g lt.length ca,qV q lo.length co] 27):=⟨⟩;have n3:No (.cells #[.int .i64 b,c] 42):=⟨⟩;have b3:Below w2 w2 ((w2.alloc n1).alloc n3):=(Bg w2 _).alloc sI _;have K3:=qC (ks.below b3);have D3:=qC (rd.below b3);have R3:=qC ((R0.out.below r2.E).below b3);have B3:=qC (Af (Af B0 r2.E) b3);have C3:=qC ((Ag.new w2 n1).alloc n3);clear ks kd rd r2 g2 b3 R1 ln;go_upto_region 3 with fail
 generalize (w2.alloc n1).alloc n3=W3 at *;obtain⟨z0,z1⟩:=C3.out.two;obtain⟨r0,r1⟩:=R3.out.two;have rf:=R3.out.jC;go_wp2_with fail
 refine bodyPost_ret (Ny _ _ w _ _ _ ((R3.out.jB (i:=0) _).jB (i:=1) _) qK qK) rfl ⟨lt,lo,g,ca,q,co,va,vc,L,rfl,?_,KD,LN,?_,?_⟩
 ·exact((K3.out.set R3 (.inl rfl) _).set (R3.out.jB _) (.inl rfl) _).base qQ
 ·have d:=(D3.out.set R3 (i:=0) (qV g lt.length ca)).set (R3.out.jB _) (i:=1) (qV q lo.length co);exact⟨d.row.base qQ,d.lab⟩
 ·exact(B3.out.setCell (p:=⟨w,0,none⟩) sI _).setCell (p:=⟨w,1,none⟩) sI _
open _root_.Nat renaming lt_of_lt_of_le→qv
open _root_.List renaming length_append→jU
theorem Je(x:Int)(w:World)(h0:0<=x)(h1:x<=10000000000):
 Calls prog 17 #[.int .i64 x] w fun e w'=>e= .returned (.string ⟨(Dd x.toNat).toArray⟩)/\Below w w w':=by
 obtain⟨n,rfl⟩:=Int.eq_ofNat_of_zero_le h0;exact Kf n w qQ
def FU(f g:Nat->Int)(k:Nat):List (Int×Int):=(List.range k).map fun i=>(f i,g i)
theorem JO(f g:Nat->Int)(k:Nat):FU f g (k+1)=FU f g k++[(f k,g k)]:=by simp[FU,List.range_succ]
theorem bV(base:Int)(f g:Nat->Int)(k:Nat)(hb:base.toNat<=10000000000)(hc:∀i,i<k->(f i).toNat<=10000000000/\(g i).toNat<=10000000000):(Xh base (FU f g k)).length<=10000000001+k*20000000010:=by
 induction k with
 |zero=>simp[Xh,FU];have:=Gj base.toNat;omega
 |succ k ih=>
  rw[JO,Po,jU];have:=ih (fun i hi=>hc i qQ);have h1:=Gj (f k).toNat;have h2:=Gj (g k).toNat;have h3:=hc k qQ;simp only[N7,List.length_cons,jU];omega
theorem We(base:Int)(a:Option Addr)(n cap:Nat)(f g:Nat->Int)(w:World)(hn:n<=12)(hc:Bd w a n f g)(hb:0<=base/\base<=10000000000)(hf:∀i,i<n->0<=f i/\f i<=10000000000)(hg:∀i,i<n->0<=g i/\g i<=10000000000):
 Calls prog 18 #[.agg #[.int .i64 base,.slice a n cap]] w fun e w'=>e= .returned (.string ⟨(Xh base (FU f g n)).toArray⟩)/\Below w w w':=by
 have n1:No (.cells #[.int .i64 base,.slice a n cap] 42):=⟨⟩;have L0:=(Below.refl _ w).alloc nr n1;have A0:=Ag.new w n1;obtain⟨x1,x2⟩:=A0.two;go_enter func18,ntmps18
 go_wp2_with fail
 refine(Je base _ hb.1 hb.2).mono ?_;rintro e w1 ⟨rfl,hb1⟩;have A1:=A0.below hb1;have L1:Below w w w1:=L0.trans (hb1.mono L0.size);have hc1:=hc.below L1;clear x1 x2 A0 L0 hb1;go_wp2_with fail
 go_loopw [3,4] (fun s i wr=>∃k:Nat,k<=n/\i= .int .i64 k/\s= .string ⟨(Xh base (FU f g k)).toArray⟩/\Below w1 w1 wr) (fun _ i _=>n-(intOf i).toNat)
 case atStart=>exact⟨0,Nat.zero_le _,rfl,by simp[Xh,FU],Below.refl _ _⟩
 case round=>
  obtain⟨k,hk,rfl,rfl,hB⟩:=hrel;have lk:=bV base f g k qQ (fun i hi=>by have:=hf i qQ;have:=hg i qQ;omega);have Ar:=A1.below hB;obtain⟨x1,x2⟩:=Ar.two;by_cases hlt:k<n
  ·have hki:(k:Int)<(n:Int):=qQ;obtain⟨b,off,rfl,hbl,hcc⟩:=hc1 qQ;obtain⟨c1,c2⟩:=hcc k hlt;have g1:wr.cell? ⟨b,off+k*2,none⟩=some (.int .i64 (f k)):=(hB.cell (p:=⟨b,_,none⟩) hbl).trans c1;have g2:wr.cell? ⟨b,off+k*2+1,none⟩=some (.int .i64 (g k)):=(hB.cell (p:=⟨b,_,none⟩) hbl).trans c2;have hf0:=hf k hlt;have hg0:=hg k hlt;have hD1:=Gj (f k).toNat;have hD2:=Gj (g k).toNat;have P1:Hid (∀v:World,Calls prog 17 #[.int .i64 (f k)] v fun e w'=>e= .returned (.string ⟨(Dd (f k).toNat).toArray⟩)/\Below v v w'):=fun v=>Je (f k) v hf0.1 hf0.2;have P2:Hid (∀v:World,Calls prog 17 #[.int .i64 (g k)] v fun e w'=>e= .returned (.string ⟨(Dd (g k).toNat).toArray⟩)/\Below v v w'):=fun v=>Je (g k) v hg0.1 hg0.2;have HT:Hid (Xh base (FU f g (k+1))=Xh base (FU f g k)++44::(Dd (f k).toNat++58::Dd (g k).toNat)):=by
    show _=_;rw[JO,Po];rfl
   have Ad:Ag wr.drew w (.cells #[.int .i64 base,.slice (some ⟨b,off,none⟩) n cap] 42):=Ar;have hbd:b<wr.drew.heap.size:=qv hbl hB.size;have gd1:wr.drew.cell? ⟨b,off+k*2,none⟩=some (.int .i64 (f k)):=g1;have gd2:wr.drew.cell? ⟨b,off+k*2+1,none⟩=some (.int .i64 (g k)):=g2;clear hc hc1 hcc hf hg c1 c2;generalize hT:Xh base (FU f g k)=T at *;generalize hE1:Dd (f k).toNat=D1 at *;generalize hE2:Dd (g k).toNat=D2 at *;generalize f k=fk at *;generalize g k=gk at *;have hD1':D1.length<=10000000001:=qQ;have hD2':D2.length<=10000000001:=qQ;have lk':T.length<=1000000000000:=qQ;have r1:¬9223372036854775807<T.length+1:=qQ;have r2:¬9223372036854775807<T.length+1+D1.length:=qQ;have r3:¬9223372036854775807<T.length+1+D1.length+1:=qQ;have r4:¬9223372036854775807<T.length+1+D1.length+1+D2.length:=qQ;clear hT hE1 hE2 hD1 hD2 lk hf0 hg0;go_wp2_with fail
   go_region_held3(fun w'=>w'.cell? ⟨w,0,none⟩=some (.int .i64 base)/\w'.cell? ⟨w,1,none⟩=some (.slice (some ⟨b,off,none⟩) n cap)/\w'.cell? ⟨b,off+k*2,none⟩=some (.int .i64 fk)/\w'.cell? ⟨b,off+k*2+1,none⟩=some (.int .i64 gk)) (go_keep)
    (first
      |(go_at_call 17;have hq:=hb7;refine(P2 _).mono ?_;rintro e w8 ⟨rfl,hb8⟩;obtain⟨t1,t2⟩:=((Ad.below hb7).below hb8).two;have t3:=(hb8.cell (p:=⟨b,off+k*2,none⟩) (qv hbd hb7.size)).trans y3;have t4:=(hb8.cell (p:=⟨b,off+k*2+1,none⟩) (qv hbd hb7.size)).trans y4)
      |(go_at_call 17;refine(P1 _).mono ?_;rintro e w7 ⟨rfl,hb7⟩;obtain⟨y1,y2⟩:=(Ad.below hb7).two;have y3:=(hb7.cell (p:=⟨b,off+k*2,none⟩) hbd).trans gd1;have y4:=(hb7.cell (p:=⟨b,off+k*2+1,none⟩) hbd).trans gd2))
   go_wp2;go_roundw;case rel=>
    refine⟨k+1,by omega,by go_num,?_,(hB.drew.trans (hb7.mono hB.size)).trans (hb8.mono (Nat.le_trans hB.size hb7.size))⟩;have ea:(⟨#[44]⟩:ByteArray)=⟨[44].toArray⟩:=rfl;have eb:(⟨#[58]⟩:ByteArray)=⟨[58].toArray⟩:=rfl;rw[ea,eb,He,He,He,He,HT.out];simp
   case measure=>simp[intOf];omega
  ·have hki:¬(k:Int)<(n:Int):=qQ;have ek:k=n:=qQ;subst ek;go_wp2;go_ret;exact⟨rfl,L1.trans (hB.mono L1.size)⟩

def dV(b:Int):Option (List (Int×Int))->Int×List (Int×Int)×Bool
 |some cats=>if Bb b cats.length (Db cats) (Dc cats)=true then(b,cats,true)else(0,[],false)
 |none=>(0,[],false)
theorem Bo.nil(w:World)(B:Nat):Bo w B (.slice none 0 0) []:=AO.nil _ _ _ _
open _root_.Bool renaming and_eq_true→qz
theorem Lc{k:Av}(h:Bh k=true):Cr k.on k.O=true:=by
 simp only[Bh,qz]at h;exact h.1.1.1.2
theorem cx{k:Av}(h:Bh k=true){c:Nat}(hc:c<k.on)(h0:c≠0):∃u,Bq (fun i=>(k.O i).id) k.on (k.O c).up=some u:=by
 have hp:IJ k.on k.O=true:=by
  simp only[Bh,qz]at h;exact h.1.2
 have hu:=FI hp (c-1) qQ;have e:c-1+1=c:=by omega
 simp only[e]at hu;unfold Ga at hu;split at hu
 ·rename_i u hu';exact⟨u,hu'⟩
 ·cases hu
open _root_.List renaming length_cons→kB,range→qx,length_nil→zy,range_succ→kZ
variable {b:Int}{c:As}{t:Ae}{o:Ab}{ks:List Int}{n i:Nat}{k:Av}
theorem Rx(k:Nat):∀n,n<10^(k+1)->(Dd n).length<=k+1:=by
 induction k with
 |zero=>intro n h;rw[Hy (by simpa using h)];simp
 |succ k ih=>
  intro n h;by_cases hs:n<10
  ·rw[Hy hs];simp
  ·rw[Lx hs,jU];have:=ih (n/10) (by rw[Nat.pow_succ]at h;omega);simp;omega
def dc(x:Int):List UInt8:=Dd x.toNat
def lb(b:Int)(c:As):List UInt8:=Xh b (FU c.f c.g c.n)
def bl(ns:List Int):List UInt8:=(ns.map fun x=>32::dc x).flatten
def FH(c:AJ):List Int:=(qx c.n).map c.h
theorem aY(ns:List Int)(x:Int):bl (ns++[x])=bl ns++32::dc x:=by simp[bl]
def small(x:Int):Prop:=0<=x/\x<=9999
theorem FQ{x:Int}(h:small x):(dc x).length<=4:=Rx 3 _ (by have:=h.2;have:=h.1;show x.toNat<10000;omega)
theorem Mv{ns:List Int}(h:∀x∈ns,small x):(bl ns).length<=5*ns.length:=by
 induction ns with
 |nil=>simp[bl]
 |cons x ns ih=>
  have h1:=ih (fun y hy=>h y (List.mem_cons_of_mem _ hy));have h2:=FQ (h x (List.mem_cons_self ..));have e:bl (x::ns)=(32::dc x)++bl ns:=by simp[bl]
  rw[e,jU,kB,kB];omega
theorem QV(h:Bb b c.n c.f c.g=true):small b/\c.n<=12/\∀i,i<c.n->small (c.f i)/\small (c.g i):=by
 obtain⟨h1,h2,h3⟩:=Kj h;have h1':=CY.1 h1;refine⟨⟨h1'.1,by have:=h1'.2;omega⟩,h2,fun i hi=>?_⟩;have:=h3 i hi;simp only[Dv,qz]at this;have f1:=CY.1 this.1.1.1;have g1:=CY.1 this.1.1.2;exact⟨⟨by omega,f1.2⟩,⟨g1.1,by omega⟩⟩
theorem JX(h:Bb b c.n c.f c.g=true):(lb b c).length<=200:=by
 obtain⟨h1,h2,h3⟩:=QV h;have key:∀k,k<=c.n->(Xh b (FU c.f c.g k)).length<=4+k*10:=fun k=>by
  induction k with
  |zero=>intro _;simp[Xh,FU];exact FQ h1
  |succ k ih=>
   intro hk;have:=ih qQ;have d1:=FQ (h3 k qQ).1;have d2:=FQ (h3 k qQ).2;unfold dc at d1 d2;rw[JO,Po,jU];simp only[N7,kB,jU];omega
 have:=key c.n nr;unfold lb;omega
theorem Dy{c:AJ}(h:Cf c.n c.h=true):c.n<=10/\∀x∈FH c,small x:=by
 obtain⟨h1,h2⟩:=Rk h;refine⟨h1,fun x hx=>?_⟩;unfold FH at hx;obtain⟨i,hi,rfl⟩:=List.mem_map.1 hx;have:=h2 i (List.mem_range.1 hi);simp only[Ef,qz]at this;have f1:=CY.1 this.1;exact⟨by omega,f1.2⟩
theorem Km(c:AJ):(FH c).length=c.n:=by simp[FH]
def cf:List UInt8:=[116,104,114,101,97,100]
def bX:List UInt8:=[111,98,106,101,99,116]
def dW:List UInt8:=[100,97,116,97]
def YV:List UInt8:=[105,116,101,109]
def Ku(ws:List (List UInt8)):List UInt8:=Lib.join ws [32]++[10]
def RX(t:Ae):List UInt8:=Ku ([cf,dc t.id,lb t.b1 t.c1,lb t.b2 t.c2,dc t.made]++(FH t.own).map dc)
def Iy(o:Ab)(ks:List Int):List UInt8:=Ku ([bX,dc o.id,dc o.kind,dc o.up,lb o.b1 o.c1,lb o.b2 o.c2]++(FH o.own).map dc++ks.map dc)
def JU(d:ByteArray):List UInt8:=if d.toList.isEmpty=true then[]else Ku [dW,d.data.toList]
def Iq(f:Nat->ByteArray)(j:Nat):List UInt8:=((qx j).map fun i=>Ku [YV,(f i).data.toList]).flatten
theorem Mr(f:Nat->ByteArray)(j:Nat):Iq f (j+1)=Iq f j++Ku [YV,(f j).data.toList]:=by simp[Iq,kZ]
def objT(o:Ab)(ks:List Int):List UInt8:=Iy o ks++JU o.data++Iq o.jA.f o.jA.n
def Gn(T:Nat->Ae)(n:Nat):List UInt8:=((qx n).map fun i=>RX (T i)).flatten
def G6(O:Nat->Ab)(n:Nat):List UInt8:=((qx n).map fun i=>objT (O i) []).flatten
theorem Pz(T:Nat->Ae)(n:Nat):Gn T (n+1)=Gn T n++RX (T n):=by simp[Gn,kZ]
theorem Ot(O:Nat->Ab)(n:Nat):G6 O (n+1)=G6 O n++objT (O n) []:=by simp[G6,kZ]
def Hm(k:Av):ByteArray:=if Bh k=true then⟨(Gn k.T k.tn++G6 k.O k.on).toArray⟩else⟨#[]⟩
theorem UI(t:Ae):RX t=cf++[32]++dc t.id++[32]++lb t.b1 t.c1++[32]++lb t.b2 t.c2++[32]++dc t.made++bl (FH t.own)++[10]:=by
 unfold RX Ku;rw[List.cons_append,Lib.join_cons];simp[Lib.joinTail,bl,Function.comp_def]
theorem Vk(o:Ab)(ks:List Int):Iy o ks=bX++[32]++dc o.id++[32]++dc o.kind++[32]++dc o.up++[32]++lb o.b1 o.c1++[32]++lb o.b2 o.c2++bl (FH o.own)++bl ks++[10]:=by
 unfold Iy Ku;rw[List.cons_append,List.cons_append,Lib.join_cons];simp[Lib.joinTail,bl,Function.comp_def]
theorem Mf(a b:List UInt8):Ku [a,b]=a++[32]++b++[10]:=by
 unfold Ku;rw[Lib.join_cons];simp[Lib.joinTail]
theorem MD(h:C8 t=true):small t.id/\small t.made/\Bb t.b1 t.c1.n t.c1.f t.c1.g=true/\Bb t.b2 t.c2.n t.c2.f t.c2.g=true/\Cf t.own.n t.own.h=true:=by
 simp only[C8,Dz,qz]at h;have h1:=CY.1 h.1.1.1.1;have h5:=CY.1 h.2;exact⟨⟨by omega,by omega⟩,⟨h5.1,by omega⟩,h.1.1.1.2,h.1.1.2,h.1.2⟩
theorem ay(h:C8 t=true):(RX t).length<=1000:=by
 obtain⟨h1,h2,h3,h4,h5⟩:=MD h;have d1:=FQ h1;have d2:=FQ h2;have d3:=JX h3;have d4:=JX h4;have d5:=Mv (Dy h5).2;have d6:=(Dy h5).1;rw[Km]at d5;rw[UI];simp only[jU,cf,kB,zy];omega
theorem ME(h:CF o=true):Bb o.b1 o.c1.n o.c1.f o.c1.g=true/\Bb o.b2 o.c2.n o.c2.f o.c2.g=true/\Cf o.own.n o.own.h=true/\o.data.size<=40/\o.jA.n<=8/\(∀i,i<o.jA.n->(o.jA.f i).size<=40)/\small o.kind:=by
 simp only[CF,qz]at h;obtain⟨⟨⟨⟨⟨h1,h2⟩,h3⟩,h4⟩,h5⟩,h6⟩:=h;obtain⟨i1,i2⟩:=Wn h5;have p:∀{s:ByteArray},By s 40=true->s.size<=40:=fun hs=>by
  simp only[By,qz,decide_eq_true_eq]at hs;omega
 refine⟨h1,h2,h3,p h4,i1,fun i hi=>p (i2 i hi),?_⟩;unfold Hp at h6;unfold small;split at h6
 ·omega
 ·split at h6
  ·omega
  ·split at h6
   ·omega
   ·split at h6
    ·omega
    ·cases h6
theorem Uj(h:CF o=true)(h1:small o.id)(h2:small o.up)(hk:∀x∈ks,small x)(hn:ks.length<=271):(Iy o ks).length<=3000:=by
 obtain⟨p1,p2,p3,p4,p5,p6,p7⟩:=ME h;have d1:=FQ h1;have d2:=FQ h2;have d3:=FQ p7;have d4:=JX p1;have d5:=JX p2;have d6:=Mv (Dy p3).2;have d7:=(Dy p3).1;have d8:=Mv hk;rw[Km]at d6;rw[Vk];simp only[jU,bX,kB,zy];omega
theorem Vj{d:ByteArray}(h:d.size<=40):(JU d).length<=50:=by
 unfold JU;split
 ·simp
 ·rw[Mf];have:d.data.toList.length=d.size:=Array.length_toList;simp only[jU,dW,kB,zy];omega
theorem Uw{f:Nat->ByteArray}(h:∀i,i<n->(f i).size<=40):(Iq f n).length<=50*n:=by
 induction n with
 |zero=>simp[Iq]
 |succ n ih=>
  have h1:=ih (fun i hi=>h i qQ);have h2:=h n qQ;have:(f n).data.toList.length=(f n).size:=Array.length_toList;rw[Mr,jU,Mf];simp only[jU,YV,kB,zy];omega
theorem Sg(h:Bh k=true)(hi:i<k.on):small (k.O i).id:=by
 have hp:=h;simp only[Bh,qz]at hp;obtain⟨⟨⟨⟨ht,ho⟩,hn⟩,_⟩,_⟩:=hp;by_cases h0:i=0
 ·subst h0;rw[(Cy ho).1];exact⟨by omega,by omega⟩
 ·have ha:=FI hn (i-1) qQ;have e:i-1+1=i:=by omega
  simp only[e]at ha;have hpos:=Et ho i hi;cases hf:Bq (fun j=>(k.T j).id) k.tn ((k.O i).id/1000)with
  |none=>rw[Lg ht hf]at ha;cases ha
  |some t=>
   rw[Jg ht hf]at ha;obtain⟨t1,t2⟩:=AH hf;have t3:=(CZ ht).2.2 t t1;simp only[Ej,qz]at t3;obtain⟨s1,s2,_⟩:=MD t3.1;have a1:=CY.1 ha;have t2':(k.T t).id=(k.O i).id/1000:=t2;have qC:(k.T t).id<=9:=by
    have:=t3.1;simp only[C8,Dz,qz]at this;exact(CY.1 this.1.1.1.1).2
   exact⟨by omega,by omega⟩
theorem Zp(h:Bh k=true)(hi:i<k.on):small (k.O i).up:=by
 by_cases h0:i=0
 ·subst h0;rw[(Cy (Lc h)).2.2];exact⟨by omega,by omega⟩
 ·obtain⟨u,hu⟩:=cx h hi h0;obtain⟨u1,u2⟩:=AH hu;have u2':(k.O u).id=(k.O i).up:=u2;rw[<-u2'];exact Sg h u1
theorem SC(h:Bh k=true)(hi:i<k.tn):C8 (k.T i)=true:=by
 simp only[Bh,qz]at h;have:=(CZ h.1.1.1.1).2.2 i hi;simp only[Ej,qz]at this;exact this.1
theorem R6(h:Bh k=true)(hi:i<k.on):CF (k.O i)=true:=by
 have:=(Cv (Lc h)).2.2.1 i hi;simp only[Gd,qz]at this;exact this.1
theorem ai(h:Bh k=true):1<=k.tn/\k.tn<=9/\k.on<=271:=by
 have h2:=(Cv (Lc h)).2.1;simp only[Bh,qz]at h;have h1:=CZ h.1.1.1.1;exact⟨h1.1,h1.2.1,h2⟩
theorem QN{T:Nat->Ae}(h:∀i,i<n->C8 (T i)=true):(Gn T n).length<=1000*n:=by
 induction n with
 |zero=>simp[Gn]
 |succ n ih=>
  have h1:=ih (fun i hi=>h i qQ);have h2:=ay (h n qQ);rw[Pz,jU];omega
theorem Zr(h:CF o=true)(h1:small o.id)(h2:small o.up)(hk:∀x∈ks,small x)(hn:ks.length<=271):(objT o ks).length<=4000:=by
 obtain⟨_,_,_,p4,p5,p6,_⟩:=ME h;have d1:=Uj h h1 h2 hk hn;have d2:=Vj p4;have d3:=Uw p6;unfold objT;simp only[jU];omega
theorem Yn(h:Bh k=true)(hn:n<=k.on):(G6 k.O n).length<=4000*n:=by
 induction n with
 |zero=>simp[G6]
 |succ n ih=>
  have h1:=ih qQ;have h2:=Zr (ks:=[]) (R6 h (i:=n) qQ) (Sg h qQ) (Zp h qQ) (fun x hx=>by cases hx) sI;rw[Ot,jU];omega
def Av.wfs(k:Av):Prop:=∀i,i<k.on->(Lit.int .i64 (k.O i).id).wf=true/\(Lit.int .i64 (k.O i).up).wf=true
theorem Av.same.wfs{k l:Av}(h:k.same l)(hw:k.wfs):l.wfs:=fun i hi=>by
 obtain⟨h1,h2,h3,h4⟩:=h;rw[h3]at hi;rw[(h4 i hi).1,(h4 i hi).2.2.1];exact hw i hi
theorem Av.row.below{w w':World}{k:Av}(h:k.row w)(hb:Below w w w'):k.row w':=⟨h.1.below hb,h.2.below hb⟩
def Av.cells(k:Av):Array Value:=#[.slice k.ta k.tn k.tk,.slice k.oa k.on k.ok]
end Go.Proofs.YtdaccbddcjlkpaaGreatDoor
