import Derived.Orders
import Derived.Test.YtdaccbddcjlkpaaGreatDoorZ15p
import Derived.Test.YtdaccbddcjlkpaaGreatDoorHEp
set_option maxRecDepth 100000
set_option maxHeartbeats 16000000
namespace Go.Proofs.YtdaccbddcjlkpaaGreatDoor
open Go Go.RowKit Go.Deep Go.Maps Go.BigFrame Go.Shelf Go.Proofs.Tryz
open Go.Value renaming slice→qV
open Go.Obj renaming cells→qG
open _root_.Bool renaming and_eq_true→qz
inductive Ji(lt:List Ae) (lo:List Ab) (s:Aj) (c:Int) (tx:ByteArray) (lt':List Ae) (lo':List Ab):Prop
 |form (h:s.ok=false) (hc:c=2) (ht:tx=⟨#[]⟩) (e1:lt'=lt) (e2:lo'=lo)
 |thread (h:s.ok=true) (hn:Us lt s.th=none) (hc:c=3) (ht:tx=⟨#[]⟩) (e1:lt'=lt) (e2:lo'=lo)
 |act (h:s.ok=true) (t:Nat) (ht:t<lt.length) (hn:Us lt s.th=some t) (p:GC lt[t] s lt lo t c tx lt' lo')
variable {ca co:Nat}{ta oa:Option Addr}{lt:List Ae}{lo:List Ab}{k:Av}
theorem Bz.form{w:World}{B n m:Nat}(h:Bz w B (qV ta n ca) (qV oa m co) lt lo)(h1:0<lt.length)(h2:0<lo.length):∃g q,ta=some ⟨g,0,none⟩/\oa=some ⟨q,0,none⟩:=by
 obtain⟨rfl,rfl⟩:=h.len;obtain⟨g,_,_,e,_⟩:=DT h.t h1;obtain⟨q,_,_,e',_⟩:=DT h.o h2;exact⟨g,q,e,e'⟩
theorem Iw(ok:Bh k=true):k.small:=by
 obtain⟨h1,h2,_⟩:=Cj ok;have t:=CZ h1;have o:=Cv h2;refine⟨⟨by omega,fun i hi=>?_⟩,by omega,fun i hi=>?_⟩
 ·have h:=t.2.2 i hi;unfold Ej at h;simp only[qz]at h;exact(IM.1 h.1).small
 ·have h:=o.2.2.1 i hi;unfold Gd at h;simp only[qz]at h;have f:=JW.1 h.1;have it:=f.jA;unfold En at it;simp only[qz,decide_eq_true_eq,List.all_eq_true,List.mem_range]at it;refine⟨by have:=(Ce f.l1).2;omega,by have:=GK f.data;omega,⟨by omega,fun j hj=>?_⟩,by have:=JH f.own;omega,by have:=(Ce f.l2).2;omega⟩;have:=GK (it.2 j hj);omega
theorem Od(h:k.same (Df ta ca oa co lt lo))(x:Int):Bq (fun i=>(k.T i).id) k.tn x=Us lt x:=by
 unfold Us;have e:lt.length=k.tn:=h.1;rw[e];exact(JG (fun i hi=>(h.2.1 i hi).1) x).symm
theorem SJ(h:k.same (Df ta ca oa co lt lo)):k.same (Df none 0 none 0 lt lo):=h
theorem OQ(k:Av)(w:World)(hk:k.at w)(ok:Bh k=true)(s:Aj)(hs:s.at w):
 Calls prog 16 #[.agg #[qV k.ta k.tn k.tk,qV k.oa k.on k.ok],.agg s] w fun e w'=>∃(lt:List Ae) (lo:List Ab) (lt':List Ae) (lo':List Ab) (ta:Option Addr) (ca:Nat) (oa:Option Addr) (co:Nat) (c:Int) (tx:ByteArray),e= .returned (.tuple #[.agg #[qV ta lt'.length ca,qV oa lo'.length co],.int .i64 c,.string tx])/\Bz w' w (qV ta lt'.length ca) (qV oa lo'.length co) lt' lo'/\Below w w w'/\k.same (Df none 0 none 0 lt lo)/\Ji lt lo s c tx lt' lo':=by
 have n2:Na s:=⟨⟩;have n4:No (qG #[qV k.ta k.tn k.tk,qV k.oa k.on k.ok] 27):=⟨⟩;have n5:No (qG #[qV none 0 0,qV none 0 0] 27):=⟨⟩;have n1:Nw (((w.alloc n4).alloc (qG n2 50)).alloc n5):=⟨⟩;have b0:Below w w n1:=((Bg w _).alloc sI _).alloc sO _;have A0:Ag n1 w n4:=((Ag.new w _).alloc _).alloc _;have P0:Ag n1 (w.heap.size+1) (qG n2 50):=by have:=(Ag.new (w.alloc n4) (qG n2 50)).alloc n5;simpa using this
 have R0:Ag n1 (w.heap.size+1+1) n5:=by have:=Ag.new ((w.alloc n4).alloc (qG n2 50)) n5;simpa using this
 have HK:=qC hk;have OK:=qC ok;have SA:=qC hs;have HB:=qC b0;have HA:=qC A0;have HP:=qC P0;have HR:=qC R0;have sm:=Iw ok;have SMA:=qC sm;clear b0 A0 P0 R0 hk ok hs sm;go_enter func16,ntmps16
 obtain⟨x0,x1⟩:=HA.out.two;obtain⟨s0,s1,s2,s3,s4,s5,s6,s7,s8,s9⟩:=HP.out.jE;go_wp2_with fail
 have BX:Hid (∀W,Below (n1:World).heap.size n1 W->Ag W w n4/\Ag W (w.heap.size+1) (qG n2 50)/\Ag W (w.heap.size+1+1) n5):=qC (fun W hW=>⟨HA.out.below hW,HP.out.below hW,HR.out.below hW⟩);have LW:Hid (∀W,Below (n1:World).heap.size n1 W->Below w w W):=qC (fun W hW=>Af HB hW);have V0:=qC (Below.refl (n1:World).heap.size n1);have S0:=qC HB.out.size;clear x0 x1 s0 s1 s2 s3 s4 s5 s6 s7 s8 s9 HA HP HR HB;generalize (n1:World)=V at *;refine(PH k V (HK.out.below (LW _ V0)) SMA).mono ?_;rintro e w1 ⟨lt,lo,ta,oa,ca,co,rfl,ks,sm,hb1⟩;have V1:=qC (Af V0 hb1);have SM:=qC (SJ sm);have OKL:Hid (okL lt lo=true):=qC ((Cc sm).trans OK);have TS:Hid (Bq (fun i=>(k.T i).id) k.tn s.th=Us lt s.th):=qC (Od sm s.th);obtain⟨g,q,rfl,rfl⟩:=ks.form (by have:=Gh OKL.out;omega) (by have:=Er OKL.out;omega);have KS1:=qC ks;clear hb1 sm ks V0;have n3:No (qG #[qV g lt.length ca,qV q lo.length co] 27):=⟨⟩;have V2:=qC (V1.out.alloc V1.out.size n3);have O2:=qC (Ag.new w1 n3);have KS2:=qC (KS1.out.below ((Below.refl _ w1).alloc nr n3));clear KS1;obtain⟨x0,x1⟩:=(BX _ V2).1.two;obtain⟨s0,s1,s2,s3,s4,s5,s6,s7,s8,s9⟩:=(BX _ V2).2.1.jE;obtain⟨r0,r1⟩:=(BX _ V2).2.2.two;have rf:=(BX _ V2).2.2.jC;go_wp2_with fail
 clear x0 x1 s0 s1 s2 s3 s4 s5 s6 s7 s8 s9 r0 r1 rf;clear V1;generalize w1.alloc n3=W2 at *;generalize w1.heap.size=O at *;have SS:Hid (Calls prog 43 #[.agg n2] W2 fun e w'=>e= .returned (.bool s.ok)/\Below W2 W2 w'):=qC (by
  have h:=SA.out.below (LW _ V2);exact RH s.th s.kind s.id s.to s.cat s.data s.b1 s.c1.a s.c1.n s.c1.k s.c1.f s.c1.g s.b2 s.c2.a s.c2.n s.c2.k s.c2.f s.c2.g W2 h.2.2 h.1.1 h.2.1.1 h.1.2 h.2.1.2)
 refine SS.out.mono ?_;rintro e w3 ⟨rfl,hb3⟩;have V3:=qC (Af V2 hb3);have KS3:=qC (KS2.out.below hb3);have O3:=qC (O2.out.below hb3);clear hb3 SS V2 O2 KS2;have L3:=qC (LW.out _ V3);obtain⟨x0,x1⟩:=(BX _ V3).1.two;obtain⟨s0,s1,s2,s3,s4,s5,s6,s7,s8,s9⟩:=(BX _ V3).2.1.jE;obtain⟨r0,r1⟩:=(BX _ V3).2.2.two;have rf:=(BX _ V3).2.2.jC;obtain⟨u0,u1⟩:=O3.out.two;cases so:s.ok with
 |false=>
  have SO:=qC so;go_wp2;have RB:=qC (BX.out _ V3).2.2;refine bodyPost_ret (Al _ _ (w.heap.size+1+1) 4 _ _ _ _ Tryz.results16 ((RB.out.jB (i:=0) _).jB (i:=1) _) rfl rfl rfl) rfl ⟨lt,lo,lt,lo,(some ⟨g,0,none⟩),ca,(some ⟨q,0,none⟩),co,2,_,rfl,?_,?_,SM,.form SO rfl rfl rfl rfl⟩
  ·exact((KS3.out.base S0).set RB (.inl rfl) _).set (RB.out.jB (i:=0) _) (.inl rfl) _
  ·exact(L3.out.setCell qJ _).setCell qJ _
 |true=>
  have SO:=qC so;clear so;go_wp2_with fail
  refine(Jh k s.th w3 (HK.out.below L3)).mono ?_;rintro e w4 ⟨rfl,hb4⟩;rw[TS.out];have V4:=qC (Af V3 hb4);have KS4:=qC (KS3.out.below hb4);have O4:=qC (O3.out.below hb4);clear hb4 V3 KS3 O3 x0 x1 s0 s1 s2 s3 s4 s5 s6 s7 s8 s9 r0 r1 rf u0 u1 L3;have L3:=qC (LW.out _ V4);obtain⟨x0,x1⟩:=(BX _ V4).1.two;obtain⟨s0,s1,s2,s3,s4,s5,s6,s7,s8,s9⟩:=(BX _ V4).2.1.jE;obtain⟨r0,r1⟩:=(BX _ V4).2.2.two;have rf:=(BX _ V4).2.2.jC;obtain⟨u0,u1⟩:=O4.out.two;cases hn:Us lt s.th with
  |none=>
   have HN:=qC hn;simp only[GX];have j0:decide (((-1:Int))<0)=true:=rfl;go_wp2;have RB:=qC (BX.out _ V4).2.2;refine bodyPost_ret (Al _ _ (w.heap.size+1+1) 4 _ _ _ _ Tryz.results16 ((RB.out.jB (i:=0) _).jB (i:=1) _) rfl rfl rfl) rfl ⟨lt,lo,lt,lo,(some ⟨g,0,none⟩),ca,(some ⟨q,0,none⟩),co,3,_,rfl,?_,?_,SM,.thread SO HN rfl rfl rfl rfl⟩
   ·exact((KS4.out.base S0).set RB (.inl rfl) _).set (RB.out.jB (i:=0) _) (.inl rfl) _
   ·exact(L3.out.setCell qJ _).setCell qJ _
  |some t=>
   have HT:=qC hn;have ht:t<lt.length:=(AH hn).1;clear hn;simp only[GX];have j0:decide (((t:Nat):Int)<0)=false:=decide_eq_false qQ;have j1:¬((t:Nat):Int)<0:=qQ;obtain⟨w3,e3⟩:∃W,W=w4:=⟨_,rfl⟩;subst e3;have KS3:=KS4;clear KS4;have SZ3:Hid (V.heap.size<=w3.heap.size):=qC V4.out.size;have SA3:Hid (∀W,Below V w3 W->s.at W):=qC (fun W hW=>SA.out.below (L3.out.trans (hW.mono S0)));have RR:Hid (∀W,Below V w3 W->Ag W (w.heap.size+1+1) (qG #[qV none 0 0,qV none 0 0] 27)):=qC (fun W hW=>(BX _ (V4.out.trans hW)).2.2);have sk:=(Hu SO).kind;have cs:(s.kind=1∨s.kind=12∨s.kind=14)∨(s.kind=2∨s.kind=3∨s.kind=4∨s.kind=5)∨s.kind=11∨(s.kind=6∨s.kind=7∨s.kind=8∨s.kind=9∨s.kind=10∨s.kind=13∨s.kind=15):=qQ;have KIND:=qC cs;clear sk cs;rcases KIND with hk|hk|hk|hk
   ·have HKD:=qC hk;rcases hk with hk|hk|hk
    ·skip;have k1:(s.kind==1)=true:=(by rw[hk];rfl);have d1:decide (s.kind=1)=true:=(by rw[hk];rfl);have k12:(s.kind==12)=false:=(by rw[hk];rfl);have d12:decide (s.kind=12)=false:=(by rw[hk];rfl);have k14:(s.kind==14)=false:=(by rw[hk];rfl);have d14:decide (s.kind=14)=false:=(by rw[hk];rfl);have k2:(s.kind==2)=false:=(by rw[hk];rfl);have d2:decide (s.kind=2)=false:=(by rw[hk];rfl);have k3:(s.kind==3)=false:=(by rw[hk];rfl);have d3:decide (s.kind=3)=false:=(by rw[hk];rfl);have k4:(s.kind==4)=false:=(by rw[hk];rfl);have d4:decide (s.kind=4)=false:=(by rw[hk];rfl);have k5:(s.kind==5)=false:=(by rw[hk];rfl);have d5:decide (s.kind=5)=false:=(by rw[hk];rfl);have k11:(s.kind==11)=false:=(by rw[hk];rfl);have d11:decide (s.kind=11)=false:=(by rw[hk];rfl);clear hk;have AC:=qC (Og lt lo g ca q co V w3 KS3 SZ3 OKL t ht s SA3 SO HKD);go_wp2_with fail
     refine AC.out.mono ?_;rintro e w5 ⟨lt',lo',ta,ca',oa,co',c,tx,rfl,k5,b5,p5⟩;have K5:=qC k5;have B5:=qC b5;have P5:=qC p5;clear k5 b5 p5 AC x0 x1 s0 s1 s2 s3 s4 s5 s6 s7 s8 s9 r0 r1 rf u0 u1;have RB:=qC (RR.out _ B5);have L5:=qC (L3.out.trans (B5.out.mono S0));obtain⟨r0,r1⟩:=RB.out.two;have rf:=RB.out.jC;go_wp2;refine bodyPost_ret (Al _ _ (w.heap.size+1+1) 4 _ _ _ _ Tryz.results16 ((RB.out.jB (i:=0) _).jB (i:=1) _) rfl rfl rfl) rfl ⟨lt,lo,lt',lo',ta,ca',oa,co',c,tx,rfl,?_,?_,SM,.act SO t ht HT P5⟩
     ·exact((K5.out.base S0).set RB (.inl rfl) _).set (RB.out.jB (i:=0) _) (.inl rfl) _
     ·exact(L5.out.setCell qJ _).setCell qJ _
    ·skip;have k1:(s.kind==1)=false:=(by rw[hk];rfl);have d1:decide (s.kind=1)=false:=(by rw[hk];rfl);have k12:(s.kind==12)=true:=(by rw[hk];rfl);have d12:decide (s.kind=12)=true:=(by rw[hk];rfl);have k14:(s.kind==14)=false:=(by rw[hk];rfl);have d14:decide (s.kind=14)=false:=(by rw[hk];rfl);have k2:(s.kind==2)=false:=(by rw[hk];rfl);have d2:decide (s.kind=2)=false:=(by rw[hk];rfl);have k3:(s.kind==3)=false:=(by rw[hk];rfl);have d3:decide (s.kind=3)=false:=(by rw[hk];rfl);have k4:(s.kind==4)=false:=(by rw[hk];rfl);have d4:decide (s.kind=4)=false:=(by rw[hk];rfl);have k5:(s.kind==5)=false:=(by rw[hk];rfl);have d5:decide (s.kind=5)=false:=(by rw[hk];rfl);have k11:(s.kind==11)=false:=(by rw[hk];rfl);have d11:decide (s.kind=11)=false:=(by rw[hk];rfl);clear hk;have AC:=qC (Og lt lo g ca q co V w3 KS3 SZ3 OKL t ht s SA3 SO HKD);go_wp2_with fail
     refine AC.out.mono ?_;rintro e w5 ⟨lt',lo',ta,ca',oa,co',c,tx,rfl,k5,b5,p5⟩;have K5:=qC k5;have B5:=qC b5;have P5:=qC p5;clear k5 b5 p5 AC x0 x1 s0 s1 s2 s3 s4 s5 s6 s7 s8 s9 r0 r1 rf u0 u1;have RB:=qC (RR.out _ B5);have L5:=qC (L3.out.trans (B5.out.mono S0));obtain⟨r0,r1⟩:=RB.out.two;have rf:=RB.out.jC;go_wp2;refine bodyPost_ret (Al _ _ (w.heap.size+1+1) 4 _ _ _ _ Tryz.results16 ((RB.out.jB (i:=0) _).jB (i:=1) _) rfl rfl rfl) rfl ⟨lt,lo,lt',lo',ta,ca',oa,co',c,tx,rfl,?_,?_,SM,.act SO t ht HT P5⟩
     ·exact((K5.out.base S0).set RB (.inl rfl) _).set (RB.out.jB (i:=0) _) (.inl rfl) _
     ·exact(L5.out.setCell qJ _).setCell qJ _
    ·skip;have k1:(s.kind==1)=false:=(by rw[hk];rfl);have d1:decide (s.kind=1)=false:=(by rw[hk];rfl);have k12:(s.kind==12)=false:=(by rw[hk];rfl);have d12:decide (s.kind=12)=false:=(by rw[hk];rfl);have k14:(s.kind==14)=true:=(by rw[hk];rfl);have d14:decide (s.kind=14)=true:=(by rw[hk];rfl);have k2:(s.kind==2)=false:=(by rw[hk];rfl);have d2:decide (s.kind=2)=false:=(by rw[hk];rfl);have k3:(s.kind==3)=false:=(by rw[hk];rfl);have d3:decide (s.kind=3)=false:=(by rw[hk];rfl);have k4:(s.kind==4)=false:=(by rw[hk];rfl);have d4:decide (s.kind=4)=false:=(by rw[hk];rfl);have k5:(s.kind==5)=false:=(by rw[hk];rfl);have d5:decide (s.kind=5)=false:=(by rw[hk];rfl);have k11:(s.kind==11)=false:=(by rw[hk];rfl);have d11:decide (s.kind=11)=false:=(by rw[hk];rfl);clear hk;have AC:=qC (Og lt lo g ca q co V w3 KS3 SZ3 OKL t ht s SA3 SO HKD);go_wp2_with fail
     refine AC.out.mono ?_;rintro e w5 ⟨lt',lo',ta,ca',oa,co',c,tx,rfl,k5,b5,p5⟩;have K5:=qC k5;have B5:=qC b5;have P5:=qC p5;clear k5 b5 p5 AC x0 x1 s0 s1 s2 s3 s4 s5 s6 s7 s8 s9 r0 r1 rf u0 u1;have RB:=qC (RR.out _ B5);have L5:=qC (L3.out.trans (B5.out.mono S0));obtain⟨r0,r1⟩:=RB.out.two;have rf:=RB.out.jC;go_wp2;refine bodyPost_ret (Al _ _ (w.heap.size+1+1) 4 _ _ _ _ Tryz.results16 ((RB.out.jB (i:=0) _).jB (i:=1) _) rfl rfl rfl) rfl ⟨lt,lo,lt',lo',ta,ca',oa,co',c,tx,rfl,?_,?_,SM,.act SO t ht HT P5⟩
     ·exact((K5.out.base S0).set RB (.inl rfl) _).set (RB.out.jB (i:=0) _) (.inl rfl) _
     ·exact(L5.out.setCell qJ _).setCell qJ _
   ·have HKD:=qC hk;rcases hk with hk|hk|hk|hk
    ·skip;have k1:(s.kind==1)=false:=(by rw[hk];rfl);have d1:decide (s.kind=1)=false:=(by rw[hk];rfl);have k12:(s.kind==12)=false:=(by rw[hk];rfl);have d12:decide (s.kind=12)=false:=(by rw[hk];rfl);have k14:(s.kind==14)=false:=(by rw[hk];rfl);have d14:decide (s.kind=14)=false:=(by rw[hk];rfl);have k2:(s.kind==2)=true:=(by rw[hk];rfl);have d2:decide (s.kind=2)=true:=(by rw[hk];rfl);have k3:(s.kind==3)=false:=(by rw[hk];rfl);have d3:decide (s.kind=3)=false:=(by rw[hk];rfl);have k4:(s.kind==4)=false:=(by rw[hk];rfl);have d4:decide (s.kind=4)=false:=(by rw[hk];rfl);have k5:(s.kind==5)=false:=(by rw[hk];rfl);have d5:decide (s.kind=5)=false:=(by rw[hk];rfl);have k11:(s.kind==11)=false:=(by rw[hk];rfl);have d11:decide (s.kind=11)=false:=(by rw[hk];rfl);clear hk;have AC:=qC (Mg lt lo g ca q co V w3 KS3 SZ3 OKL t ht s SA3 SO HKD);go_wp2_with fail
     refine AC.out.mono ?_;rintro e w5 ⟨lt',lo',ta,ca',oa,co',c,tx,rfl,k5,b5,p5⟩;have K5:=qC k5;have B5:=qC b5;have P5:=qC p5;clear k5 b5 p5 AC x0 x1 s0 s1 s2 s3 s4 s5 s6 s7 s8 s9 r0 r1 rf u0 u1;have RB:=qC (RR.out _ B5);have L5:=qC (L3.out.trans (B5.out.mono S0));obtain⟨r0,r1⟩:=RB.out.two;have rf:=RB.out.jC;go_wp2;refine bodyPost_ret (Al _ _ (w.heap.size+1+1) 4 _ _ _ _ Tryz.results16 ((RB.out.jB (i:=0) _).jB (i:=1) _) rfl rfl rfl) rfl ⟨lt,lo,lt',lo',ta,ca',oa,co',c,tx,rfl,?_,?_,SM,.act SO t ht HT P5⟩
     ·exact((K5.out.base S0).set RB (.inl rfl) _).set (RB.out.jB (i:=0) _) (.inl rfl) _
     ·exact(L5.out.setCell qJ _).setCell qJ _
    ·skip;have k1:(s.kind==1)=false:=(by rw[hk];rfl);have d1:decide (s.kind=1)=false:=(by rw[hk];rfl);have k12:(s.kind==12)=false:=(by rw[hk];rfl);have d12:decide (s.kind=12)=false:=(by rw[hk];rfl);have k14:(s.kind==14)=false:=(by rw[hk];rfl);have d14:decide (s.kind=14)=false:=(by rw[hk];rfl);have k2:(s.kind==2)=false:=(by rw[hk];rfl);have d2:decide (s.kind=2)=false:=(by rw[hk];rfl);have k3:(s.kind==3)=true:=(by rw[hk];rfl);have d3:decide (s.kind=3)=true:=(by rw[hk];rfl);have k4:(s.kind==4)=false:=(by rw[hk];rfl);have d4:decide (s.kind=4)=false:=(by rw[hk];rfl);have k5:(s.kind==5)=false:=(by rw[hk];rfl);have d5:decide (s.kind=5)=false:=(by rw[hk];rfl);have k11:(s.kind==11)=false:=(by rw[hk];rfl);have d11:decide (s.kind=11)=false:=(by rw[hk];rfl);clear hk;have AC:=qC (Mg lt lo g ca q co V w3 KS3 SZ3 OKL t ht s SA3 SO HKD);go_wp2_with fail
     refine AC.out.mono ?_;rintro e w5 ⟨lt',lo',ta,ca',oa,co',c,tx,rfl,k5,b5,p5⟩;have K5:=qC k5;have B5:=qC b5;have P5:=qC p5;clear k5 b5 p5 AC x0 x1 s0 s1 s2 s3 s4 s5 s6 s7 s8 s9 r0 r1 rf u0 u1;have RB:=qC (RR.out _ B5);have L5:=qC (L3.out.trans (B5.out.mono S0));obtain⟨r0,r1⟩:=RB.out.two;have rf:=RB.out.jC;go_wp2;refine bodyPost_ret (Al _ _ (w.heap.size+1+1) 4 _ _ _ _ Tryz.results16 ((RB.out.jB (i:=0) _).jB (i:=1) _) rfl rfl rfl) rfl ⟨lt,lo,lt',lo',ta,ca',oa,co',c,tx,rfl,?_,?_,SM,.act SO t ht HT P5⟩
     ·exact((K5.out.base S0).set RB (.inl rfl) _).set (RB.out.jB (i:=0) _) (.inl rfl) _
     ·exact(L5.out.setCell qJ _).setCell qJ _
    ·skip;have k1:(s.kind==1)=false:=(by rw[hk];rfl);have d1:decide (s.kind=1)=false:=(by rw[hk];rfl);have k12:(s.kind==12)=false:=(by rw[hk];rfl);have d12:decide (s.kind=12)=false:=(by rw[hk];rfl);have k14:(s.kind==14)=false:=(by rw[hk];rfl);have d14:decide (s.kind=14)=false:=(by rw[hk];rfl);have k2:(s.kind==2)=false:=(by rw[hk];rfl);have d2:decide (s.kind=2)=false:=(by rw[hk];rfl);have k3:(s.kind==3)=false:=(by rw[hk];rfl);have d3:decide (s.kind=3)=false:=(by rw[hk];rfl);have k4:(s.kind==4)=true:=(by rw[hk];rfl);have d4:decide (s.kind=4)=true:=(by rw[hk];rfl);have k5:(s.kind==5)=false:=(by rw[hk];rfl);have d5:decide (s.kind=5)=false:=(by rw[hk];rfl);have k11:(s.kind==11)=false:=(by rw[hk];rfl);have d11:decide (s.kind=11)=false:=(by rw[hk];rfl);clear hk;have AC:=qC (Mg lt lo g ca q co V w3 KS3 SZ3 OKL t ht s SA3 SO HKD);go_wp2_with fail
     refine AC.out.mono ?_;rintro e w5 ⟨lt',lo',ta,ca',oa,co',c,tx,rfl,k5,b5,p5⟩;have K5:=qC k5;have B5:=qC b5;have P5:=qC p5;clear k5 b5 p5 AC x0 x1 s0 s1 s2 s3 s4 s5 s6 s7 s8 s9 r0 r1 rf u0 u1;have RB:=qC (RR.out _ B5);have L5:=qC (L3.out.trans (B5.out.mono S0));obtain⟨r0,r1⟩:=RB.out.two;have rf:=RB.out.jC;go_wp2;refine bodyPost_ret (Al _ _ (w.heap.size+1+1) 4 _ _ _ _ Tryz.results16 ((RB.out.jB (i:=0) _).jB (i:=1) _) rfl rfl rfl) rfl ⟨lt,lo,lt',lo',ta,ca',oa,co',c,tx,rfl,?_,?_,SM,.act SO t ht HT P5⟩
     ·exact((K5.out.base S0).set RB (.inl rfl) _).set (RB.out.jB (i:=0) _) (.inl rfl) _
     ·exact(L5.out.setCell qJ _).setCell qJ _
    ·skip;have k1:(s.kind==1)=false:=(by rw[hk];rfl);have d1:decide (s.kind=1)=false:=(by rw[hk];rfl);have k12:(s.kind==12)=false:=(by rw[hk];rfl);have d12:decide (s.kind=12)=false:=(by rw[hk];rfl);have k14:(s.kind==14)=false:=(by rw[hk];rfl);have d14:decide (s.kind=14)=false:=(by rw[hk];rfl);have k2:(s.kind==2)=false:=(by rw[hk];rfl);have d2:decide (s.kind=2)=false:=(by rw[hk];rfl);have k3:(s.kind==3)=false:=(by rw[hk];rfl);have d3:decide (s.kind=3)=false:=(by rw[hk];rfl);have k4:(s.kind==4)=false:=(by rw[hk];rfl);have d4:decide (s.kind=4)=false:=(by rw[hk];rfl);have k5:(s.kind==5)=true:=(by rw[hk];rfl);have d5:decide (s.kind=5)=true:=(by rw[hk];rfl);have k11:(s.kind==11)=false:=(by rw[hk];rfl);have d11:decide (s.kind=11)=false:=(by rw[hk];rfl);clear hk;have AC:=qC (Mg lt lo g ca q co V w3 KS3 SZ3 OKL t ht s SA3 SO HKD);go_wp2_with fail
     refine AC.out.mono ?_;rintro e w5 ⟨lt',lo',ta,ca',oa,co',c,tx,rfl,k5,b5,p5⟩;have K5:=qC k5;have B5:=qC b5;have P5:=qC p5;clear k5 b5 p5 AC x0 x1 s0 s1 s2 s3 s4 s5 s6 s7 s8 s9 r0 r1 rf u0 u1;have RB:=qC (RR.out _ B5);have L5:=qC (L3.out.trans (B5.out.mono S0));obtain⟨r0,r1⟩:=RB.out.two;have rf:=RB.out.jC;go_wp2;refine bodyPost_ret (Al _ _ (w.heap.size+1+1) 4 _ _ _ _ Tryz.results16 ((RB.out.jB (i:=0) _).jB (i:=1) _) rfl rfl rfl) rfl ⟨lt,lo,lt',lo',ta,ca',oa,co',c,tx,rfl,?_,?_,SM,.act SO t ht HT P5⟩
     ·exact((K5.out.base S0).set RB (.inl rfl) _).set (RB.out.jB (i:=0) _) (.inl rfl) _
     ·exact(L5.out.setCell qJ _).setCell qJ _
   ·have HKD:=qC hk;have k1:(s.kind==1)=false:=(by rw[hk];rfl);have d1:decide (s.kind=1)=false:=(by rw[hk];rfl);have k12:(s.kind==12)=false:=(by rw[hk];rfl);have d12:decide (s.kind=12)=false:=(by rw[hk];rfl);have k14:(s.kind==14)=false:=(by rw[hk];rfl);have d14:decide (s.kind=14)=false:=(by rw[hk];rfl);have k2:(s.kind==2)=false:=(by rw[hk];rfl);have d2:decide (s.kind=2)=false:=(by rw[hk];rfl);have k3:(s.kind==3)=false:=(by rw[hk];rfl);have d3:decide (s.kind=3)=false:=(by rw[hk];rfl);have k4:(s.kind==4)=false:=(by rw[hk];rfl);have d4:decide (s.kind=4)=false:=(by rw[hk];rfl);have k5:(s.kind==5)=false:=(by rw[hk];rfl);have d5:decide (s.kind=5)=false:=(by rw[hk];rfl);have k11:(s.kind==11)=true:=(by rw[hk];rfl);have d11:decide (s.kind=11)=true:=(by rw[hk];rfl);clear hk;have AC:=qC (Zv lt lo g ca q co V w3 KS3 SZ3 OKL t ht s SA3 SO HKD);go_wp2_with fail
    refine AC.out.mono ?_;rintro e w5 ⟨lt',lo',ta,ca',oa,co',c,tx,rfl,k5,b5,p5⟩;have K5:=qC k5;have B5:=qC b5;have P5:=qC p5;clear k5 b5 p5 AC x0 x1 s0 s1 s2 s3 s4 s5 s6 s7 s8 s9 r0 r1 rf u0 u1;have RB:=qC (RR.out _ B5);have L5:=qC (L3.out.trans (B5.out.mono S0));obtain⟨r0,r1⟩:=RB.out.two;have rf:=RB.out.jC;go_wp2;refine bodyPost_ret (Al _ _ (w.heap.size+1+1) 4 _ _ _ _ Tryz.results16 ((RB.out.jB (i:=0) _).jB (i:=1) _) rfl rfl rfl) rfl ⟨lt,lo,lt',lo',ta,ca',oa,co',c,tx,rfl,?_,?_,SM,.act SO t ht HT P5⟩
    ·exact((K5.out.base S0).set RB (.inl rfl) _).set (RB.out.jB (i:=0) _) (.inl rfl) _
    ·exact(L5.out.setCell qJ _).setCell qJ _
   ·have HKD:=qC hk;have k1:(s.kind==1)=false:=(by simp only[beq_eq_false_iff_ne,ne_eq];omega);have d1:decide (s.kind=1)=false:=decide_eq_false qQ;have k12:(s.kind==12)=false:=(by simp only[beq_eq_false_iff_ne,ne_eq];omega);have d12:decide (s.kind=12)=false:=decide_eq_false qQ;have k14:(s.kind==14)=false:=(by simp only[beq_eq_false_iff_ne,ne_eq];omega);have d14:decide (s.kind=14)=false:=decide_eq_false qQ;have k2:(s.kind==2)=false:=(by simp only[beq_eq_false_iff_ne,ne_eq];omega);have d2:decide (s.kind=2)=false:=decide_eq_false qQ;have k3:(s.kind==3)=false:=(by simp only[beq_eq_false_iff_ne,ne_eq];omega);have d3:decide (s.kind=3)=false:=decide_eq_false qQ;have k4:(s.kind==4)=false:=(by simp only[beq_eq_false_iff_ne,ne_eq];omega);have d4:decide (s.kind=4)=false:=decide_eq_false qQ;have k5:(s.kind==5)=false:=(by simp only[beq_eq_false_iff_ne,ne_eq];omega);have d5:decide (s.kind=5)=false:=decide_eq_false qQ;have k11:(s.kind==11)=false:=(by simp only[beq_eq_false_iff_ne,ne_eq];omega);have d11:decide (s.kind=11)=false:=decide_eq_false qQ;clear hk;have AC:=qC (cw lt lo g ca q co V w3 KS3 SZ3 OKL t ht s SA3 SO HKD);go_wp2_with fail
    refine AC.out.mono ?_;rintro e w5 ⟨lt',lo',ta,ca',oa,co',c,tx,rfl,k5,b5,p5⟩;have K5:=qC k5;have B5:=qC b5;have P5:=qC p5;clear k5 b5 p5 AC x0 x1 s0 s1 s2 s3 s4 s5 s6 s7 s8 s9 r0 r1 rf u0 u1;have RB:=qC (RR.out _ B5);have L5:=qC (L3.out.trans (B5.out.mono S0));obtain⟨r0,r1⟩:=RB.out.two;have rf:=RB.out.jC;go_wp2;refine bodyPost_ret (Al _ _ (w.heap.size+1+1) 4 _ _ _ _ Tryz.results16 ((RB.out.jB (i:=0) _).jB (i:=1) _) rfl rfl rfl) rfl ⟨lt,lo,lt',lo',ta,ca',oa,co',c,tx,rfl,?_,?_,SM,.act SO t ht HT P5⟩
    ·exact((K5.out.base S0).set RB (.inl rfl) _).set (RB.out.jB (i:=0) _) (.inl rfl) _
    ·exact(L5.out.setCell qJ _).setCell qJ _
open _root_.List renaming range→qx,mem_range→jG,getD_eq_getElem?_getD→jN,mem_map→jy
open _root_.Bool renaming or_eq_true→xN,not_eq_true'→zQ
open _root_.Nat renaming not_lt_zero→xM
theorem Tk{n:Nat}{h:Nat->Int}:((qx n).map h).Pairwise (· <·)↔∀i j,i<j->j<n->h i<h j:=by
 rw[List.pairwise_iff_getElem];constructor
 ·intro H i j hij hj;have:=H i j sO sO hij;simpa using this
 ·intro H i j hi hj hij;simp at hi hj;simpa using H i j hij hj
theorem Hw{n:Nat}{h:Nat->Int}:Cf n h=true↔n<=10/\((qx n).map h).Pairwise (· <·)/\∀x∈(qx n).map h,1<=x/\x<=9999:=by
 unfold Cf;simp only[qz,decide_eq_true_eq,List.all_eq_true,jG];constructor
 ·rintro⟨h1,h2⟩;refine⟨h1,?_,?_⟩
  ·rw[Tk];refine Lt (fun i i0 hi=>?_);have:=h2 i hi;unfold Ef at this;simp only[qz,xN,decide_eq_true_eq,beq_iff_eq]at this;rcases this.2 with e|e
   ·omega
   ·exact e
  ·intro x hx;obtain⟨i,hi,rfl⟩:=jy.1 hx;have:=h2 i (jG.1 hi);unfold Ef at this;simp only[qz,CY]at this;exact this.1
 ·rintro⟨h1,h2,h3⟩;refine⟨h1,fun i hi=>?_⟩;rw[Tk]at h2;unfold Ef;simp only[qz,xN,decide_eq_true_eq,beq_iff_eq,CY];refine⟨h3 _ (jy.2 ⟨i,jG.2 hi,rfl⟩),?_⟩;by_cases e:i=0
  ·exact .inl e
  ·exact .inr (h2 (i-1) i qQ hi)
theorem OX{L:List Int}(h1:L.length<=10)(h2:L.Pairwise (· <·))(h3:∀x∈L,1<=x/\x<=9999):Cf L.length (AZ L)=true:=by
 rw[Hw,Ri];exact⟨h1,h2,h3⟩
theorem IW(t:Ae):t.same t:=⟨rfl,rfl,⟨rfl,rfl,rfl⟩,rfl,⟨rfl,rfl,rfl⟩,⟨rfl,rfl⟩,rfl⟩
theorem Wz{α:Type}{l:List α}{t j:Nat}{x z:α}(hj:j<l.length):(l.set t x).getD j z=if j=t then x else l.getD j z:=by
 rw[jN,jN,List.getElem?_set];by_cases e:t=j
 ·subst e;simp[hj]
 ·have e':¬j=t:=fun h=>e h.symm;simp[e,e']
section
variable {lt:List Ae}{lo:List Ab} (ok:okL lt lo=true)
include ok
theorem JP{t:Nat}(ht:t<lt.length){x:Ae}(hx:Pe x)(hi:x.id=lt[t].id)(hm:lt[t].made<=x.made):okL (lt.set t x) lo=true:=by
 have e:(Df none 0 none 0 lt lo).T t=lt[t]:=Ey ht;have k:=(BU.1 ok).setT (t:=t) (IM.2 hx) (by rw[e];exact hi) (by rw[e];exact hm);have h:=BU.2 k;refine(Cc ?_).trans h;refine⟨by simp[Df,Av.setT],fun j hj=>?_,rfl,fun j hj=>Ab.same.refl _⟩;have hj':j<lt.length:=hj;have e2:(Df none 0 none 0 (lt.set t x) lo).T j=((Df none 0 none 0 lt lo).setT t x).T j:=Wz hj';rw[e2];exact IW _
theorem Md{u:Nat}(hu:u<lo.length){x:Ab}(hx:NY x)(h1:x.id=lo[u].id)(h2:x.kind=lo[u].kind)(h3:x.up=lo[u].up):okL lt (lo.set u x)=true:=by
 have e:(Df none 0 none 0 lt lo).O u=lo[u]:=AL hu;have k:=(BU.1 ok).setO (i:=u) (JW.2 hx) (by rw[e];exact h1) (by rw[e];exact h2) (by rw[e];exact h3);have h:=BU.2 k;refine(Cc ?_).trans h;refine⟨rfl,fun j hj=>IW _,by simp[Df,Av.setO],fun j hj=>?_⟩;have hj':j<lo.length:=hj;have e2:(Df none 0 none 0 lt (lo.set u x)).O j=((Df none 0 none 0 lt lo).setO u x).O j:=Wz hj';rw[e2];exact Ab.same.refl _
theorem GU:Aa lo 0=Aa lo 0/\(Aa lo 0).id=1/\(Aa lo 0).up=0:=by
 have r:=(BU.1 ok).root;unfold Gm at r;simp only[qz,beq_iff_eq]at r;exact⟨rfl,r.1.1,r.2⟩
theorem cP{j:Nat}(hj:j<lo.length):1<=(Aa lo j).id:=by
 have r:=(GU ok).2.1;by_cases e:j=0
 ·subst e;omega
 ·have h:=(BU.1 ok).rise 0 j qQ hj;have h':(Aa lo 0).id<(Aa lo j).id:=h;omega
end
theorem Ky(x:Ab):∀lo:List Ab,∃p,p<=lo.length/\Bs x lo=lo.take p++x::lo.drop p/\(∀j,j<p->¬x.id<(Aa lo j).id)/\(p<lo.length->x.id<(Aa lo p).id)
 |[]=>⟨0,Nat.le_refl _,rfl,fun j hj=>absurd hj (xM j),fun h=>absurd h (xM 0)⟩
 |y::r=>by
  by_cases h:x.id<y.id
  ·refine⟨0,Nat.zero_le _,by simp[Bs,h],fun j hj=>absurd hj (xM j),fun _=>?_⟩;simpa[Aa]using h
  ·obtain⟨p,h1,h2,h3,h4⟩:=Ky x r;refine⟨p+1,by simpa using h1,by simp[Bs,h,h2],fun j hj=>?_,fun hp=>?_⟩
   ·cases j with
    |zero=>simpa[Aa]using h
    |succ j=>have:=h3 j qQ;simpa[Aa]using this
   ·have:=h4 (by simpa using hp);simpa[Aa]using this
theorem dE{lo:List Ab}{p j:Nat}{x:Ab}(hp:p<=lo.length):Aa (lo.take p++x::lo.drop p) j=Gq (Aa lo) p x j:=by
 unfold Aa Gq;simp only[jN];have lp:(lo.take p).length=p:=by simp[hp]
 by_cases h1:j<p
 ·rw[if_pos h1,List.getElem?_append_left qQ,List.getElem?_take_of_lt h1]
 ·rw[if_neg h1,List.getElem?_append_right qQ,lp];by_cases h2:j=p
  ·subst h2;simp
  ·rw[if_neg h2];obtain⟨m,rfl⟩:∃m,j=p+m+1:=⟨j-p-1,by omega⟩;have e:p+m+1-p=m+1:=qQ;rw[e,List.getElem?_cons_succ,List.getElem?_drop];congr 2
theorem ct{lt:List Ae}{lo:List Ab}(ok:okL lt lo=true){x:Ab}(hx:NY x)(hn:FZ lt.length (Be lt) x.id=true){u:Nat}(hu:Hq lo x.up=some u)(hk:(Aa lo u).kind=3)(hne:∀j,j<lo.length->(Aa lo j).id≠x.id)(h1:1<x.id):okL lt (Bs x lo)=true:=by
 obtain⟨p,hp,e,lo',hi'⟩:=Ky x lo;have kk:=BU.1 ok;have u1:=AH hu;have p0:0<p:=by
  by_cases h:p=0
  ·subst h;have:=hi' (by have:=Er ok;omega);have:=(GU ok).2.1;omega
  ·omega
 have k:=kk.ins (p:=p) (x:=x) p0 hp (fun j hj=>by
  have h1:=lo' j hj;have h2:=hne j qQ;show(Aa lo j).id<x.id;omega) (fun j hj hjn=>by
  have h0:=hi' (by have:j<lo.length:=hjn;omega);show x.id<(Aa lo j).id;by_cases ej:j=p
  ·subst ej;exact h0
  ·have h2:(Aa lo p).id<(Aa lo j).id:=kk.rise p j qQ hjn;omega) (JW.2 hx) hn ⟨u,u1.1,u1.2,hk⟩
 have h:=BU.2 k;refine(Cc ?_).trans h;have el:(Bs x lo).length=lo.length+1:=LF;refine⟨rfl,fun j hj=>IW _,el,fun j hj=>?_⟩;have e2:(Df none 0 none 0 lt (Bs x lo)).O j=((Df none 0 none 0 lt lo).ins p x).O j:=by
  show Aa (Bs x lo) j=Gq (Aa lo) p x j;rw[e];exact dE hp
 rw[e2];exact Ab.same.refl _
theorem aO{G:List Int}{x:Int}:hasB G.length (AZ G) x=true↔x∈G:=by
 unfold hasB;rw[List.any_eq_true];constructor
 ·rintro⟨i,hi,e⟩;have hi':=jG.1 hi;have:AZ G i=x:=by simpa using e
  rw[<-this];unfold AZ;rw[jN,List.getElem?_eq_getElem hi'];exact List.getElem_mem hi'
 ·intro h;obtain⟨i,hi,e⟩:=List.mem_iff_getElem.1 h;exact⟨i,jG.2 hi,by simp[AZ,hi,e]⟩
theorem dR(lo:List Ab):(qx lo.length).map (Aa lo)=lo:=by
 refine List.ext_getElem sI (fun i h1 h2=>?_);simp[Aa,h2]
theorem bU{lt:List Ae}{lo:List Ab}(ok:okL lt lo=true){x:Int}{u:Nat}(hu:Hq lo x=some u)(u0:0<u):okL lt (Fa (Ci lo u) lo lo.length)=true:=by
 have kk:=BU.1 ok;obtain⟨ul,_⟩:=AH hu;have h0:∀j,j<lo.length->(fun i=>(Aa lo i).id) j≠(fun i=>(Aa lo i).up) 0:=fun j hj=>by
  have:=cP ok hj;have:=(GU ok).2.2;show(Aa lo j).id≠(Aa lo 0).up;omega
 have rise:DK (fun i=>(Aa lo i).id) lo.length:=kk.rise;have hc:Ii (fun i=>(Aa lo i).id) (fun i=>(Aa lo i).up) lo.length u:=Kp ok ul;have gone:∀y,hasB (Ci lo u).length (AZ (Ci lo u)) y=true↔∃i,i<lo.length/\(∃m,m<lo.length/\Bt (fun i=>(Aa lo i).id) (fun i=>(Aa lo i).up) lo.length m i=some u)/\(Aa lo i).id=y:=by
  intro y;rw[aO];unfold Ci;rw[Ms,jy];constructor
  ·rintro⟨i,hi,e⟩;have:=(Fe rise h0 ul).1 hi;exact⟨i,this.1,this.2,e⟩
  ·rintro⟨i,h1,h2,e⟩;exact⟨i,(Fe rise h0 ul).2 ⟨h1,h2⟩,e⟩
 have k:=kk.cut (keep:=fun i=> !hasB (Ci lo u).length (AZ (Ci lo u)) (Aa lo i).id) (by
  simp only[zQ];rw[<-Bool.not_eq_true,gone];rintro⟨i,hi,⟨m,_,hm⟩,e⟩;have e0:i=0:=rise.inj hi qQ e;subst e0;cases m with
  |zero=>simp[Bt]at hm;omega
  |succ m=>simp[Bt,J6]at hm) (fun i p i0 hi hp e hk=>by
  simp only[zQ]at hk ⊢;rw[<-Bool.not_eq_true,gone]at hk ⊢;rintro⟨j,hj,⟨m,_,hm⟩,ej⟩;have e1:j=p:=rise.inj hj hp ej;subst e1;refine hk ⟨i,hi,?_,rfl⟩;have pi:J6 (fun i=>(Aa lo i).id) (fun i=>(Aa lo i).up) lo.length i=some j:=by
   unfold J6;rw[if_neg qQ];have e':(Aa lo i).up=(Aa lo j).id:=e.symm;show Bq (fun i=>(Aa lo i).id) lo.length (Aa lo i).up=some j;rw[e'];exact Eg rise hp
  have pm:Bt (fun i=>(Aa lo i).id) (fun i=>(Aa lo i).up) lo.length (1+m) i=some u:=by
   rw[Fv,Q8,pi];exact hm
  exact⟨1+m,Pn hc hi pm,pm⟩)
 have h:=BU.2 k;refine(Cc ?_).trans h;have es:Fa (Ci lo u) lo lo.length=(Fl lo.length (fun i=> !hasB (Ci lo u).length (AZ (Ci lo u)) (Aa lo i).id)).map (Aa lo):=by
  unfold Fa Fl;rw[List.take_length];generalize Ci lo u=G;have e1:lo.filter (fun o=> !hasB G.length (AZ G) o.id)=((qx lo.length).map (Aa lo)).filter (fun o=> !hasB G.length (AZ G) o.id):=by rw[dR]
  rw[e1,List.filter_map];rfl
 refine⟨rfl,fun j hj=>IW _,by show(Fa _ lo lo.length).length=_;rw[es];simp[Av.cut,Df],fun j hj=>?_⟩;have e2:(Df none 0 none 0 lt (Fa (Ci lo u) lo lo.length)).O j=((Df none 0 none 0 lt lo).cut (fun i=> !hasB (Ci lo u).length (AZ (Ci lo u)) (Aa lo i).id)).O j:=by
  have hj':j<(Fl lo.length (fun i=> !hasB (Ci lo u).length (AZ (Ci lo u)) (Aa lo i).id)).length:=hj;show Aa (Fa (Ci lo u) lo lo.length) j=Aa lo ((Fl lo.length (fun i=> !hasB (Ci lo u).length (AZ (Ci lo u)) (Aa lo i).id)).getD j 0);rw[es];rw[AL (by simpa using hj')];simp[hj']
 rw[e2];exact Ab.same.refl _
open Go.Value renaming agg→qY,tuple→qW,bool→qU
theorem Lq(n:Int)(used:Bool)(w:World):
 Calls prog 139 #[.int .i64 n,qU used] w fun e w'=>e= .returned (qU (NF n used))/\w'=w:=by
 cases used with
 |false=>
  go_enter func139,ntmps139
  go_wp2;go_ret;exact⟨Ah (by simp[NF]),rfl⟩
 |true=>
  go_enter func139,ntmps139
  go_wp2
  ·go_ret;exact⟨Ah (by simp only[NF,if_true];exact(Ll ‹_›).symm),rfl⟩
  ·go_ret;exact⟨Ah (by simp only[NF,if_true];exact(Oe ‹_›).symm),rfl⟩
theorem Vy(kind:Int)(w:World):
 Calls prog 138 #[.int .i64 kind] w fun e w'=>e= .returned (qW #[qY #[qU (fo kind),qU (fx kind),qU (UG kind),qU (QZ kind),qU (Mz kind),qU (Jt kind)],qU (dw kind)])/\Below w w w':=by
 by_cases h1:kind=1
 ·subst h1;go_enter func138,ntmps138
  go_wp2;refine bodyPost_ret (v:= qW #[qY #[qU false,qU false,qU false,qU false,qU false,qU false],qU true]) (by simp[results,Tryz.results138,go_sem]) rfl ⟨by rfl,Bg w _⟩
 by_cases h2:kind=2
 ·subst h2;go_enter func138,ntmps138
  go_wp2;refine bodyPost_ret (v:= qW #[qY #[qU true,qU false,qU false,qU false,qU true,qU false],qU true]) (by simp[results,Tryz.results138,go_sem]) rfl ⟨by rfl,Bg w _⟩
 by_cases h3:kind=3
 ·subst h3;go_enter func138,ntmps138
  go_wp2;refine bodyPost_ret (v:= qW #[qY #[qU true,qU false,qU false,qU false,qU true,qU false],qU true]) (by simp[results,Tryz.results138,go_sem]) rfl ⟨by rfl,Bg w _⟩
 by_cases h4:kind=4
 ·subst h4;go_enter func138,ntmps138
  go_wp2;refine bodyPost_ret (v:= qW #[qY #[qU true,qU false,qU false,qU false,qU true,qU false],qU true]) (by simp[results,Tryz.results138,go_sem]) rfl ⟨by rfl,Bg w _⟩
 by_cases h5:kind=5
 ·subst h5;go_enter func138,ntmps138
  go_wp2;refine bodyPost_ret (v:= qW #[qY #[qU true,qU false,qU true,qU false,qU true,qU true],qU true]) (by simp[results,Tryz.results138,go_sem]) rfl ⟨by rfl,Bg w _⟩
 by_cases h6:kind=6
 ·subst h6;go_enter func138,ntmps138
  go_wp2;refine bodyPost_ret (v:= qW #[qY #[qU true,qU false,qU false,qU true,qU false,qU false],qU true]) (by simp[results,Tryz.results138,go_sem]) rfl ⟨by rfl,Bg w _⟩
 by_cases h7:kind=7
 ·subst h7;go_enter func138,ntmps138
  go_wp2;refine bodyPost_ret (v:= qW #[qY #[qU true,qU false,qU false,qU false,qU false,qU false],qU true]) (by simp[results,Tryz.results138,go_sem]) rfl ⟨by rfl,Bg w _⟩
 by_cases h8:kind=8
 ·subst h8;go_enter func138,ntmps138
  go_wp2;refine bodyPost_ret (v:= qW #[qY #[qU true,qU true,qU false,qU false,qU false,qU false],qU true]) (by simp[results,Tryz.results138,go_sem]) rfl ⟨by rfl,Bg w _⟩
 by_cases h9:kind=9
 ·subst h9;go_enter func138,ntmps138
  go_wp2;refine bodyPost_ret (v:= qW #[qY #[qU true,qU false,qU false,qU true,qU false,qU false],qU true]) (by simp[results,Tryz.results138,go_sem]) rfl ⟨by rfl,Bg w _⟩
 by_cases h10:kind=10
 ·subst h10;go_enter func138,ntmps138
  go_wp2;refine bodyPost_ret (v:= qW #[qY #[qU true,qU false,qU false,qU false,qU false,qU false],qU true]) (by simp[results,Tryz.results138,go_sem]) rfl ⟨by rfl,Bg w _⟩
 by_cases h11:kind=11
 ·subst h11;go_enter func138,ntmps138
  go_wp2;refine bodyPost_ret (v:= qW #[qY #[qU true,qU false,qU false,qU false,qU false,qU false],qU true]) (by simp[results,Tryz.results138,go_sem]) rfl ⟨by rfl,Bg w _⟩
 by_cases h12:kind=12
 ·subst h12;go_enter func138,ntmps138
  go_wp2;refine bodyPost_ret (v:= qW #[qY #[qU false,qU false,qU false,qU false,qU true,qU false],qU true]) (by simp[results,Tryz.results138,go_sem]) rfl ⟨by rfl,Bg w _⟩
 by_cases h13:kind=13
 ·subst h13;go_enter func138,ntmps138
  go_wp2;refine bodyPost_ret (v:= qW #[qY #[qU true,qU false,qU false,qU false,qU false,qU false],qU true]) (by simp[results,Tryz.results138,go_sem]) rfl ⟨by rfl,Bg w _⟩
 by_cases h14:kind=14
 ·subst h14;go_enter func138,ntmps138
  go_wp2;refine bodyPost_ret (v:= qW #[qY #[qU false,qU false,qU true,qU false,qU false,qU false],qU true]) (by simp[results,Tryz.results138,go_sem]) rfl ⟨by rfl,Bg w _⟩
 by_cases h15:kind=15
 ·subst h15;go_enter func138,ntmps138
  go_wp2;refine bodyPost_ret (v:= qW #[qY #[qU true,qU false,qU false,qU false,qU false,qU false],qU true]) (by simp[results,Tryz.results138,go_sem]) rfl ⟨by rfl,Bg w _⟩
 have g1:(kind==1)=false:=by simpa using h1
 have g2:(kind==2)=false:=by simpa using h2
 have g3:(kind==3)=false:=by simpa using h3
 have g4:(kind==4)=false:=by simpa using h4
 have g5:(kind==5)=false:=by simpa using h5
 have g6:(kind==6)=false:=by simpa using h6
 have g7:(kind==7)=false:=by simpa using h7
 have g8:(kind==8)=false:=by simpa using h8
 have g9:(kind==9)=false:=by simpa using h9
 have g10:(kind==10)=false:=by simpa using h10
 have g11:(kind==11)=false:=by simpa using h11
 have g12:(kind==12)=false:=by simpa using h12
 have g13:(kind==13)=false:=by simpa using h13
 have g14:(kind==14)=false:=by simpa using h14
 have g15:(kind==15)=false:=by simpa using h15
 clear h1 h2 h3 h4 h5 h6 h7 h8 h9 h10 h11 h12 h13 h14 h15;go_enter func138,ntmps138
 go_wp2;refine bodyPost_ret (v:= qW #[qY #[qU false,qU false,qU false,qU false,qU false,qU false],qU false]) (by simp[results,Tryz.results138,go_sem]) rfl ⟨by simp[fo,fx,UG,QZ,Mz,Jt,dw,g1,g2,g3,g4,g5,g6,g7,g8,g9,g10,g11,g12,g13,g14,g15],Bg w _⟩
theorem Ag.six{W:World}{P t:Nat}{x0 x1 x2 x3 x4 x5:Value}(h:Ag W P (.cells #[x0,x1,x2,x3,x4,x5] t)):W.cell? ⟨P,0,none⟩=some x0/\W.cell? ⟨P,1,none⟩=some x1/\W.cell? ⟨P,2,none⟩=some x2/\W.cell? ⟨P,3,none⟩=some x3/\W.cell? ⟨P,4,none⟩=some x4/\W.cell? ⟨P,5,none⟩=some x5:=by
 unfold Ag at h;simp[World.cell?,h]
theorem XE(th kind id to' cat:Int)(d:ByteArray)(bl:Int)(al:Option Addr)(nl kl:Nat)(bc:Int)(ac:Option Addr)(nc kc:Nat)(used:Bool)(w:World):
 Calls prog 140 #[qY #[th,.int .i64 kind,.int .i64 id,.int .i64 to',cat,.string d,.int .i64 bl,.slice al nl kl,.int .i64 bc,.slice ac nc kc],qU used] w fun e w'=>e= .returned (qU (Pt kind cat used))/\Below w w w':=by
 have hb0:=Bg w (.cells #[th,.int .i64 kind,.int .i64 id,.int .i64 to',cat,.string d,.int .i64 bl,.slice al nl kl,.int .i64 bc,.slice ac nc kc] 50);cases t:(cat==0)with
 |true=>
  go_enter func140,ntmps140
  go_wp2;go_ret;exact⟨Ah (by simp[Pt,t]),hb0⟩
 |false=>
  cases used with
  |true=>
   go_enter func140,ntmps140
   go_wp2_with(go_at_call 130;refine(IV _ _).mono ?_;rintro e w' ⟨rfl,rfl⟩)
   go_ret;exact⟨Ah (by simp[Pt,t]),hb0⟩
  |false=>
   go_enter func140,ntmps140
   go_wp2;go_ret;exact⟨Ah (by simp[Pt,t]),hb0⟩
open Go.Region renaming wanted→jW
open _root_.Array renaming getElem?_eq_some_iff→jD
section
variable {P:Program}{ops:Array Oper}{Q:Exit->Act->World->Prop}{a:Act}{w:World}
def BI(P:Program)(ops:Array Oper)(Q:Exit->Act->World->Prop)(i:Nat)(a:Act)(w:World):Prop:=wpOps P ops Q (List.range' i (ops.size-i)) a w
theorem BI.region{id:Nat}(h:BI P ops Q 0 a w):(Code.region id ops false).wp P Q a w:=by
 refine wp_region ?_;unfold BI at h;rw[Nat.sub_zero,<-List.range_eq_range']at h;exact h
theorem WJ{i n:Nat}(h:i<n):List.range' i (n-i)=i::List.range' (i+1) (n-(i+1)):=by
 obtain⟨k,hk⟩:∃k,n-i=k+1:=⟨n-i-1,by omega⟩;have:n-(i+1)=k:=by omega
 rw[hk,this,List.range'_succ]
theorem BI.step{i:Nat}{o:Oper}(ho:ops[i]? =some o)(h:∀K':Act->World->Prop,Hid (∀a w,BI P ops Q (i+1) a w->K' a w)->if jW o (yielded ops a.tmps)=true then Oper.wp P o a w K' Q else K' (a.put o.dst undef) w):BI P ops Q i a w:=by
 have hlt:i<ops.size:=(jD.1 ho).1;unfold BI;rw[WJ hlt];unfold wpOps;rw[ho];dsimp only;have:=h (wpOps P ops Q (List.range' (i+1) (ops.size-(i+1)))) (fun a w h=>h);split
 ·rename_i hw;rw[if_pos hw]at this;exact .inl this
 ·rename_i hw;rw[if_neg hw]at this;exact this
theorem BI.take{i d:Nat}{o:Oper}(v:Value)(ho:ops[i]? =some o)(hd:o.dst=some d)(hw:jW o (yielded ops a.tmps)=true)(hv:(execOp a.eval o).run P w= .ok (.value v) w)
 (h:BI P ops Q (i+1) (a.put (some d) v) w):BI P ops Q i a w:=
 BI.step ho fun K' hK=>by
  rw[if_pos hw];unfold Oper.wp;rw[hv];simp only[Oper.upon];rw[hd];exact hK.out _ _ h
theorem BI.done{i:Nat}(hi:ops.size<=i)(h:Q .normal a w):BI P ops Q i a w:=by
 unfold BI;have:ops.size-i=0:=by omega
 rw[this];exact h
def Value.isUndef:Value->Bool
 | .tuple xs=>xs.size==0
 |_=>false
def idle(ops:Array Oper)(tmps:Array Value)(k:Nat):Bool:=match ops[k]? with
 |some o=> !(jW o (yielded ops tmps))&&match o.dst with
  |some d=>match tmps[d]? with
   |some v=>Value.isUndef v
   |none=>false
  |none=>true
 |none=>false
theorem X5{d:Nat}(h:(match a.tmps[d]? with|some v=>Value.isUndef v|none=>false)=true):a.put (some d) undef=a:=by
 cases hv:a.tmps[d]? with
 |none=>rw[hv]at h;simp at h
 |some v=>
  rw[hv]at h;dsimp only at h;have hu:v=undef:=by
   cases v with
   |tuple xs=>
    have hs:xs.size=0:=(by simpa[Value.isUndef]using h);have:xs=#[]:=Array.eq_empty_of_size_eq_zero hs;rw[this];rfl
   |_=>simp[Value.isUndef]at h
  obtain⟨hlt,he⟩:=jD.1 hv;cases a with
  |mk tmps defers=>
   simp only[Act.put];congr;apply Array.ext
   ·simp
   ·intro i h1 h2;by_cases e:d=i
    ·subst e;rw[Array.getElem_setIfInBounds_self];rw[<-hu];exact he.symm
    ·rw[Array.getElem_setIfInBounds_ne _ e]
theorem BI.pass{j:Nat}(m:Nat):∀{i:Nat},i+m=j->(List.range' i m).all (idle ops a.tmps)=true->BI P ops Q j a w->BI P ops Q i a w:=by
 induction m with
 |zero=>intro i hi _ h;have e:i=j:=by omega
        rw[e];exact h
 |succ m ih=>
  intro i hi hall h;rw[List.range'_succ,List.all_cons,qz]at hall;obtain⟨h1,h2⟩:=hall;have hrest:=ih (i:=i+1) qQ h2 h;unfold idle at h1;cases ho:ops[i]? with
  |none=>rw[ho]at h1;simp at h1
  |some o=>
   rw[ho]at h1;dsimp only at h1;rw[qz]at h1;have hw:jW o (yielded ops a.tmps)=false:=(by simpa using h1.1);refine BI.step ho fun K' hK=>?_;rw[if_neg (by rw[hw];simp)];cases hd:o.dst with
   |none=>exact hK.out _ _ hrest
   |some d=>
    have h3:=h1.2;rw[hd]at h3;dsimp only at h3;rw[X5 h3];exact hK.out _ _ hrest
end
section
variable {P:Program}{ops:Array Oper}{Q:Exit->Act->World->Prop}{w:World}
def Ko(ev:Operand->Value):Op->Option Value
 | .move x=>some (ev x)
 | .assign x=>some (ev x)
 | .pick c x y=>match ev c with
  | .bool true=>some (ev x)
  | .bool false=>some (ev y)
  |_=>none
 |_=>none
theorem Vd{a:Act}{o:Oper}{v:Value}(h:Ko a.eval o.op=some v):(execOp a.eval o).run P w= .ok (.value v) w:=by
 cases o with
 |mk dst op type pos after guard=>
  cases op with
  |move x=>cases h;rfl
  |assign x=>cases h;rfl
  |pick c x y=>
   simp only[Ko]at h;generalize hc:a.eval c=vc at h;cases vc with
   |bool b=>
    cases b with
    |true=>cases h;simp only[execOp];rw[hc];rfl
    |false=>cases h;simp only[execOp];rw[hc];rfl
   |_=>simp at h
  |_=>simp[Ko]at h
def carry1(ops:Array Oper)(a:Act)(i:Nat):Option Act:=match ops[i]? with
 |none=>none
 |some o=>match jW o (yielded ops a.tmps)with
  |true=>match Ko a.eval o.op with
   |some v=>some (a.put o.dst v)
   |none=>none
  |false=>match idle ops a.tmps i with
   |true=>some a
   |false=>none
def carry(ops:Array Oper):Nat->Nat->Act->Option Act
 |0,_,a=>some a
 |m+1,i,a=>match carry1 ops a i with
  |some a'=>carry ops m (i+1) a'
  |none=>none
theorem BI.carry1{i:Nat}{a a':Act}(h:carry1 ops a i=some a')(hr:BI P ops Q (i+1) a' w):BI P ops Q i a w:=by
 unfold YtdaccbddcjlkpaaGreatDoor.carry1 at h;cases ho:ops[i]? with
 |none=>rw[ho]at h;simp at h
 |some o=>
  rw[ho]at h;dsimp only at h;cases hw:jW o (yielded ops a.tmps)with
  |true=>
   rw[hw]at h;dsimp only at h;cases hc:Ko a.eval o.op with
   |none=>rw[hc]at h;simp at h
   |some v=>
    rw[hc]at h;dsimp only at h;cases h;refine BI.step ho fun K' hK=>?_;rw[if_pos hw];unfold Oper.wp;rw[Vd hc];simp only[Oper.upon];exact hK.out _ _ hr
  |false=>
   rw[hw]at h;dsimp only at h;cases hi:idle ops a.tmps i with
   |false=>rw[hi]at h;simp at h
   |true=>
    rw[hi]at h;dsimp only at h;cases h;exact BI.pass 1 (i:=i) (j:=i+1) rfl (by simp[hi]) hr
theorem BI.carry(m:Nat):∀{i j:Nat}{a a':Act},i+m=j->carry ops m i a=some a'->BI P ops Q j a' w->BI P ops Q i a w:=by
 induction m with
 |zero=>intro i j a a' hj h hr;cases h;have e:i=j:=by omega
        rw[e];exact hr
 |succ m ih=>
  intro i j a a' hj h hr;unfold YtdaccbddcjlkpaaGreatDoor.carry at h;cases hc:YtdaccbddcjlkpaaGreatDoor.carry1 ops a i with
  |none=>rw[hc]at h;simp at h
  |some a1=>
   rw[hc]at h;dsimp only at h;exact BI.carry1 hc (ih (i:=i+1) qQ h hr)
theorem Qg{i:Nat}{a a':Act}(h:carry1 ops a i=some a'):a'.defers=a.defers:=by
 unfold YtdaccbddcjlkpaaGreatDoor.carry1 at h;cases ho:ops[i]? with
 |none=>rw[ho]at h;simp at h
 |some o=>
  rw[ho]at h;dsimp only at h;cases hw:jW o (yielded ops a.tmps)with
  |true=>
   rw[hw]at h;dsimp only at h;cases hc:Ko a.eval o.op with
   |none=>rw[hc]at h;simp at h
   |some v=>
    rw[hc]at h;dsimp only at h;cases h;unfold Act.put;cases o.dst<;>rfl
  |false=>
   rw[hw]at h;dsimp only at h;cases hi:idle ops a.tmps i with
   |false=>rw[hi]at h;simp at h
   |true=>
    rw[hi]at h;dsimp only at h;cases h;rfl
theorem RY(m:Nat):∀{i:Nat}{a a':Act},carry ops m i a=some a'->a'.defers=a.defers:=by
 induction m with
 |zero=>intro i a a' h;cases h;rfl
 |succ m ih=>
  intro i a a' h;unfold YtdaccbddcjlkpaaGreatDoor.carry at h;cases hc:YtdaccbddcjlkpaaGreatDoor.carry1 ops a i with
  |none=>rw[hc]at h;simp at h
  |some a1=>
   rw[hc]at h;dsimp only at h;exact(ih h).trans (Qg hc)
def Su(t:Nat):Option Act->Bool
 |some a=>match a.tmps[t]? with
  |some (.bool b)=> !b
  |_=>false
 |none=>false
theorem BI.falls(t m:Nat){i:Nat}{a:Act}(hm:i+m=ops.size)(h:Su t (YtdaccbddcjlkpaaGreatDoor.carry ops m i a)=true)
 (hr:∀T:Array Value,T[t]? =some (.bool false)->Q .normal ⟨T,a.defers⟩ w):BI P ops Q i a w:=by
 cases hc:YtdaccbddcjlkpaaGreatDoor.carry ops m i a with
 |none=>rw[hc]at h;simp[Su]at h
 |some a'=>
  rw[hc]at h;have hd:=RY m hc;refine BI.carry m hm hc (BI.done nr ?_);have hT:a'.tmps[t]? =some (.bool false):=by
   unfold Su at h;dsimp only at h;split at h
   ·rename_i b hb;cases b with
    |true=>simp at h
    |false=>exact hb
   ·simp at h
  have:=hr a'.tmps hT;rw[<-hd]at this;exact this
theorem Ee{T:Array Value}{D:List Deferred}{t:Nat}{x:Bool}(hT:T[t]? =some (.bool false))(hx:x=false):Ending.returned (({tmps:=T,defers:=D}:Act).tmps.getD t undef)=Ending.returned (.bool x):=by
 subst hx;simp[Array.getD_eq_getD_getElem?,hT]
end
open Go.Value renaming pointer→pT,int→iT
open Go.IntKind renaming i64→qH
open _root_.List renaming set→qF
open Go.RowKit renaming Below→qN
section
variable {P:Program}{ops:Array Oper}{Q:Exit->Act->World->Prop}{a:Act}{w:World}
theorem BI.tk(i d:Nat){o:Oper}(v:Value)(h:BI P ops Q (i+1) (a.put (some d) v) w)(ho:ops[i]? =some o:=by rfl)(hd:o.dst=some d:=by rfl)
 (hw:Region.wanted o (yielded ops a.tmps)=true:=by kernel_rfl)(hv:(execOp a.eval o).run P w= .ok (.value v) w:=by go_simp):BI P ops Q i a w:=BI.take v ho hd hw hv h
def Rv:List Nat->List Value->Act->Act
 |d::ds,x::xs,a=>Rv ds xs (a.put (some d) x)
 |_,_,a=>a
theorem BI.opt(ds:List Nat)(R:List Value->World->Prop)(j:Nat){i:Nat}(h1:∀xs w',R xs w'->BI P ops Q j (Rv ds xs a) w')
 (h2:(∀xs w',R xs w'->BI P ops Q j (Rv ds xs a) w')->BI P ops Q i a w):BI P ops Q i a w:=h2 h1
end
def YT:Prop:=∀(th kind id to' cat:Int) (d:ByteArray) (bl:Int) (al:Option Addr) (nl kl:Nat) (fl gl:Nat->Int) (bc:Int) (ac:Option Addr) (nc kc:Nat) (fc gc:Nat->Int) (w:World) (_:d.size<=maxLen) (_:nl<=maxLen) (_:nc<=maxLen) (_:Bd w al nl fl gl) (_:Bd w ac nc fc gc),
 Calls prog 116 #[.agg #[th,iT qH kind,iT qH id,iT qH to',cat,.string d,iT qH bl,.slice al nl kl,iT qH bc,.slice ac nc kc]] w fun e w'=>e= .returned (qU (Hi th kind id to' cat d bl nl fl gl bc nc fc gc))/\qN w w w'
theorem Si:YT:=by
 intro th kind id to' cat d bl al nl kl fl gl bc ac nc kc fc gc w hd hnl hnc hcl hcc;have n1:Na #[th,iT qH kind,iT qH id,iT qH to',cat,.string d,iT qH bl,.slice al nl kl,iT qH bc,.slice ac nc kc]:=⟨⟩;have L0:=Bg w (.cells n1 50);have A0:=Ag.new w (.cells n1 50);unfold Hi;have HU:=Vy kind;generalize dw kind=ok at *;generalize fo kind=ui at *;generalize fx kind=ut at *;generalize UG kind=uc at *;generalize QZ kind=ud at *;generalize Mz kind=ul at *;generalize Jt kind=ue at *;go_enter func116,ntmps116
 go_wp2_with fail
 refine(HU _).mono ?_;rintro e w1 ⟨rfl,hb1⟩;have n2:No (.cells #[qU ui,qU ut,qU uc,qU ud,qU ul,qU ue] 200):=⟨⟩;have K1:=(Below.refl _ w1).alloc nr n2;have A:=(A0.below hb1).below K1;have U:=Ag.new w1 n2;have L:qN w w (w1.alloc n2):=L0.trans ((hb1.mono sI).trans (K1.mono (by have:=hb1.size;simp at this;omega)));clear hb1 K1 A0 L0;obtain⟨c0,c1,c2,c3,c4,c5,c6,c7,c8,c9⟩:=A.jE;go_upto_region 2 with fail
 clear c0 c1 c2 c3 c4 c5 c6 c7 c8 c9;generalize w1.alloc n2=W1 at *;generalize w1.heap.size=PU at *;refine BI.region ?_;cases ok
 ·refine BI.falls 2 74 rfl kR (fun T hT=>?_);go_wp2;go_ret;exact⟨Ee hT (by simp[Fj]),L⟩
 by_cases s1:1<=th;rotate_left
 ·have t2:Ev th 1 9=false:=by simp[Ev,s1]
  refine BI.tk 0 11 (qU true) ?_;simp only[ap,qF];refine BI.tk 1 12 (qU true) ?_;simp only[ap,qF];refine BI.tk 2 13 (pT (w)) ?_;simp only[ap,qF];refine BI.tk 3 14 (iT qH th) ?_ (hv:=by obtain⟨c0,c1,c2,c3,c4,c5,c6,c7,c8,c9⟩:=A.jE;obtain⟨v0,v1,v2,v3,v4,v5⟩:=U.six;go_simp);simp only[ap,qF];refine BI.tk 4 15 (qU false) ?_;simp only[ap,qF];refine BI.falls 2 69 rfl kR (fun T hT=>?_);go_wp2;go_ret;exact⟨Ee hT (by simp[Fj,t2]),L⟩
 by_cases s2:th<=9;rotate_left
 ·have t2:Ev th 1 9=false:=by simp[Ev,s2]
  refine BI.tk 0 11 (qU true) ?_;simp only[ap,qF];refine BI.tk 1 12 (qU true) ?_;simp only[ap,qF];have n3:Nv (pT (w)):=⟨⟩;refine BI.tk 2 13 n3 ?_;simp only[ap,qF];refine BI.tk 3 14 (iT qH th) ?_ (hv:=by obtain⟨c0,c1,c2,c3,c4,c5,c6,c7,c8,c9⟩:=A.jE;obtain⟨v0,v1,v2,v3,v4,v5⟩:=U.six;go_simp);simp only[ap,qF];refine BI.tk 4 15 (qU true) ?_;simp only[ap,qF];refine BI.tk 5 16 (qU true) ?_;simp only[ap,qF];refine BI.tk 6 17 (qU true) ?_;simp only[ap,qF];refine BI.tk 7 18 n3 ?_;simp only[ap,qF];refine BI.tk 8 19 (iT qH th) ?_ (hv:=by obtain⟨c0,c1,c2,c3,c4,c5,c6,c7,c8,c9⟩:=A.jE;obtain⟨v0,v1,v2,v3,v4,v5⟩:=U.six;go_simp);simp only[ap,qF];refine BI.tk 9 20 (qU false) ?_;simp only[ap,qF];refine BI.falls 2 64 rfl kR (fun T hT=>?_);go_wp2;go_ret;exact⟨Ee hT (by simp[Fj,t2]),L⟩
 have t2:Ev th 1 9=true:=CY.2 ⟨s1,s2⟩;refine BI.tk 0 11 (qU true) ?_;simp only[ap,qF];refine BI.tk 1 12 (qU true) ?_;simp only[ap,qF];have n4:Nv (pT (w)):=⟨⟩;refine BI.tk 2 13 n4 ?_;simp only[ap,qF];refine BI.tk 3 14 (iT qH th) ?_ (hv:=by obtain⟨c0,c1,c2,c3,c4,c5,c6,c7,c8,c9⟩:=A.jE;obtain⟨v0,v1,v2,v3,v4,v5⟩:=U.six;go_simp);simp only[ap,qF];refine BI.tk 4 15 (qU true) ?_;simp only[ap,qF];refine BI.tk 5 16 (qU true) ?_;simp only[ap,qF];refine BI.tk 6 17 (qU true) ?_;simp only[ap,qF];refine BI.tk 7 18 n4 ?_;simp only[ap,qF];refine BI.tk 8 19 (iT qH th) ?_ (hv:=by obtain⟨c0,c1,c2,c3,c4,c5,c6,c7,c8,c9⟩:=A.jE;obtain⟨v0,v1,v2,v3,v4,v5⟩:=U.six;go_simp);simp only[ap,qF];refine BI.tk 9 20 (qU true) ?_;simp only[ap,qF];refine BI.tk 10 21 (qU true) ?_;simp only[ap,qF];refine BI.tk 11 22 (qU true) ?_;simp only[ap,qF];have n5:Nv (pT (some ⟨w,6,none⟩)):=⟨⟩;refine BI.tk 12 23 n5 ?_;simp only[ap,qF];have n8:Nv (.agg #[iT qH bl,.slice al nl kl]):=⟨⟩;refine BI.tk 13 24 n8 ?_ (hv:=by obtain⟨c0,c1,c2,c3,c4,c5,c6,c7,c8,c9⟩:=A.jE;obtain⟨v0,v1,v2,v3,v4,v5⟩:=U.six;go_simp);simp only[ap,qF];refine BI.step rfl (fun K1 hK1=>?_);go_simp;refine(Eo _ _ _ _ fl gl _ hnl (hcl.below L)).mono ?_;rintro e W2 ⟨rfl,hb⟩;replace A:=A.below hb;replace U:=U.below hb;replace L:qN w w W2:=L.trans (hb.mono L.size);clear hb;cases t3:Bb bl nl fl gl
 ·refine hK1 _ _ ?_;clear hK1 K1;refine BI.falls 2 59 rfl kR (fun T hT=>?_);go_wp2;go_ret;exact⟨Ee hT (by simp[Fj,t2,t3]),L⟩
 refine hK1 _ _ ?_;clear hK1 K1;try simp only[ap,qF]
 refine BI.tk 15 26 (qU true) ?_;simp only[ap,qF];refine BI.tk 16 27 (qU true) ?_;simp only[ap,qF];refine BI.tk 17 28 (pT (some ⟨PU,4,none⟩)) ?_;simp only[ap,qF];refine BI.tk 18 29 (qU ul) ?_ (hv:=by obtain⟨c0,c1,c2,c3,c4,c5,c6,c7,c8,c9⟩:=A.jE;obtain⟨v0,v1,v2,v3,v4,v5⟩:=U.six;go_simp);simp only[ap,qF];refine BI.tk 19 30 (qU ul) ?_;simp only[ap,qF];refine BI.opt [31,32,33,34] (fun xs W=>(∃x y z,xs=[x,y,z,qU (ul||DV bl nl)])/\Ag W w (.cells n1 50)/\Ag W PU n2/\qN w w W) 24 ?_ (fun REST=>?_);rotate_left
 ·cases ul
  ·skip;refine BI.tk 20 31 n5 ?_;simp only[ap,qF];refine BI.tk 21 32 n8 ?_ (hv:=by obtain⟨c0,c1,c2,c3,c4,c5,c6,c7,c8,c9⟩:=A.jE;obtain⟨v0,v1,v2,v3,v4,v5⟩:=U.six;go_simp);simp only[ap,qF];refine BI.step rfl (fun K1 hK1=>?_);go_simp;refine(Kv _ _ _ _ _ hnl).mono ?_;rintro e W2 ⟨rfl,hb⟩;replace A:=A.below hb;replace U:=U.below hb;replace L:qN w w W2:=L.trans (hb.mono L.size);clear hb;refine hK1 _ _ ?_;clear hK1 K1;try simp only[ap,qF]
   refine BI.tk 23 34 (qU (DV bl nl)) ?_;simp only[ap,qF];exact REST _ _ ⟨⟨_,_,_,rfl⟩,A,U,L⟩
  ·refine BI.pass (j:=23) 3 rfl kR ?_;refine BI.tk 23 34 (qU true) ?_;simp only[ap,qF];exact REST _ _ ⟨⟨undef,undef,undef,rfl⟩,A,U,L⟩
 clear A U L;rintro xs W ⟨⟨x,y,z,rfl⟩,A,U,L⟩;simp only[Rv,ap,qF];cases t4:(ul||DV bl nl)
 ·refine BI.falls 2 50 rfl kR (fun T hT=>?_);go_wp2;go_ret;exact⟨Ee hT (by simp[Fj,t2,t3,t4]),L⟩
 refine BI.tk 24 35 (qU true) ?_;simp only[ap,qF];refine BI.tk 25 36 (qU true) ?_;simp only[ap,qF];have n6:Nv (pT (some ⟨w,8,none⟩)):=⟨⟩;refine BI.tk 26 37 n6 ?_;simp only[ap,qF];have n9:Nv (.agg #[iT qH bc,.slice ac nc kc]):=⟨⟩;refine BI.tk 27 38 n9 ?_ (hv:=by obtain⟨c0,c1,c2,c3,c4,c5,c6,c7,c8,c9⟩:=A.jE;obtain⟨v0,v1,v2,v3,v4,v5⟩:=U.six;go_simp);simp only[ap,qF];refine BI.step rfl (fun K1 hK1=>?_);go_simp;refine(Eo _ _ _ _ fc gc _ hnc (hcc.below L)).mono ?_;rintro e W2 ⟨rfl,hb⟩;replace A:=A.below hb;replace U:=U.below hb;replace L:qN w w W2:=L.trans (hb.mono L.size);clear hb;cases t5:Bb bc nc fc gc
 ·refine hK1 _ _ ?_;clear hK1 K1;refine BI.falls 2 45 rfl kR (fun T hT=>?_);go_wp2;go_ret;exact⟨Ee hT (by simp[Fj,t2,t3,t4,t5]),L⟩
 refine hK1 _ _ ?_;clear hK1 K1;try simp only[ap,qF]
 refine BI.tk 29 40 (qU true) ?_;simp only[ap,qF];refine BI.tk 30 41 (qU true) ?_;simp only[ap,qF];refine BI.tk 31 42 (pT (some ⟨PU,5,none⟩)) ?_;simp only[ap,qF];refine BI.tk 32 43 (qU ue) ?_ (hv:=by obtain⟨c0,c1,c2,c3,c4,c5,c6,c7,c8,c9⟩:=A.jE;obtain⟨v0,v1,v2,v3,v4,v5⟩:=U.six;go_simp);simp only[ap,qF];refine BI.tk 33 44 (qU ue) ?_;simp only[ap,qF];refine BI.opt [45,46,47,48] (fun xs W=>(∃x y z,xs=[x,y,z,qU (ue||DV bc nc)])/\Ag W w (.cells n1 50)/\Ag W PU n2/\qN w w W) 38 ?_ (fun REST=>?_);rotate_left
 ·cases ue
  ·skip;refine BI.tk 34 45 n6 ?_;simp only[ap,qF];refine BI.tk 35 46 n9 ?_ (hv:=by obtain⟨c0,c1,c2,c3,c4,c5,c6,c7,c8,c9⟩:=A.jE;obtain⟨v0,v1,v2,v3,v4,v5⟩:=U.six;go_simp);simp only[ap,qF];refine BI.step rfl (fun K1 hK1=>?_);go_simp;refine(Kv _ _ _ _ _ hnc).mono ?_;rintro e W2 ⟨rfl,hb⟩;replace A:=A.below hb;replace U:=U.below hb;replace L:qN w w W2:=L.trans (hb.mono L.size);clear hb;refine hK1 _ _ ?_;clear hK1 K1;try simp only[ap,qF]
   refine BI.tk 37 48 (qU (DV bc nc)) ?_;simp only[ap,qF];exact REST _ _ ⟨⟨_,_,_,rfl⟩,A,U,L⟩
  ·refine BI.pass (j:=37) 3 rfl kR ?_;refine BI.tk 37 48 (qU true) ?_;simp only[ap,qF];exact REST _ _ ⟨⟨undef,undef,undef,rfl⟩,A,U,L⟩
 clear A U L;rintro xs W ⟨⟨x,y,z,rfl⟩,A,U,L⟩;simp only[Rv,ap,qF];cases t6:(ue||DV bc nc)
 ·refine BI.falls 2 36 rfl kR (fun T hT=>?_);go_wp2;go_ret;exact⟨Ee hT (by simp[Fj,t2,t3,t4,t5,t6]),L⟩
 refine BI.tk 38 49 (qU true) ?_;simp only[ap,qF];refine BI.tk 39 50 (qU true) ?_;simp only[ap,qF];have n7:Nv (pT (some ⟨w,5,none⟩)):=⟨⟩;refine BI.tk 40 51 n7 ?_;simp only[ap,qF];refine BI.tk 41 52 (.string d) ?_ (hv:=by obtain⟨c0,c1,c2,c3,c4,c5,c6,c7,c8,c9⟩:=A.jE;obtain⟨v0,v1,v2,v3,v4,v5⟩:=U.six;go_simp);simp only[ap,qF];refine BI.step rfl (fun K1 hK1=>?_);go_simp;refine(KG d _ hd).mono ?_;rintro e W2 ⟨rfl,hb⟩;replace A:=A.below hb;replace U:=U.below hb;replace L:qN w w W2:=L.trans (hb.mono L.size);clear hb;cases t7:By d 40
 ·refine hK1 _ _ ?_;clear hK1 K1;refine BI.falls 2 31 rfl kR (fun T hT=>?_);go_wp2;go_ret;exact⟨Ee hT (by simp[Fj,t2,t3,t4,t5,t6,t7]),L⟩
 refine hK1 _ _ ?_;clear hK1 K1;try simp only[ap,qF]
 refine BI.tk 43 54 (qU true) ?_;simp only[ap,qF];refine BI.tk 44 55 (qU true) ?_;simp only[ap,qF];refine BI.tk 45 56 (pT (some ⟨PU,3,none⟩)) ?_;simp only[ap,qF];refine BI.tk 46 57 (qU ud) ?_ (hv:=by obtain⟨c0,c1,c2,c3,c4,c5,c6,c7,c8,c9⟩:=A.jE;obtain⟨v0,v1,v2,v3,v4,v5⟩:=U.six;go_simp);simp only[ap,qF];refine BI.tk 47 58 (qU ud) ?_;simp only[ap,qF];refine BI.opt [59,60,61,62] (fun xs W=>(∃x y z,xs=[x,y,z,qU (ud||Le d)])/\Ag W w (.cells n1 50)/\Ag W PU n2/\qN w w W) 52 ?_ (fun REST=>?_);rotate_left
 ·cases ud
  ·skip;refine BI.tk 48 59 n7 ?_;simp only[ap,qF];refine BI.tk 49 60 (.string d) ?_ (hv:=by obtain⟨c0,c1,c2,c3,c4,c5,c6,c7,c8,c9⟩:=A.jE;obtain⟨v0,v1,v2,v3,v4,v5⟩:=U.six;go_simp);simp only[ap,qF];refine BI.tk 50 61 (qU (Le d)) ?_ (hv:=by unfold Le;go_simp);simp only[ap,qF];refine BI.tk 51 62 (qU (Le d)) ?_;simp only[ap,qF];exact REST _ _ ⟨⟨_,_,_,rfl⟩,A,U,L⟩
  ·refine BI.pass (j:=51) 3 rfl kR ?_;refine BI.tk 51 62 (qU true) ?_;simp only[ap,qF];exact REST _ _ ⟨⟨undef,undef,undef,rfl⟩,A,U,L⟩
 clear A U L;rintro xs W ⟨⟨x,y,z,rfl⟩,A,U,L⟩;simp only[Rv,ap,qF];cases t8:(ud||Le d)
 ·refine BI.falls 2 22 rfl kR (fun T hT=>?_);go_wp2;go_ret;exact⟨Ee hT (by simp[Fj,t2,t3,t4,t5,t6,t7,t8]),L⟩
 refine BI.tk 52 63 (qU true) ?_;simp only[ap,qF];refine BI.tk 53 64 (qU true) ?_;simp only[ap,qF];refine BI.tk 54 65 (pT (some ⟨w,2,none⟩)) ?_;simp only[ap,qF];refine BI.tk 55 66 (iT qH id) ?_ (hv:=by obtain⟨c0,c1,c2,c3,c4,c5,c6,c7,c8,c9⟩:=A.jE;obtain⟨v0,v1,v2,v3,v4,v5⟩:=U.six;go_simp);simp only[ap,qF];refine BI.tk 56 67 (pT PU) ?_;simp only[ap,qF];refine BI.tk 57 68 (qU ui) ?_ (hv:=by obtain⟨c0,c1,c2,c3,c4,c5,c6,c7,c8,c9⟩:=A.jE;obtain⟨v0,v1,v2,v3,v4,v5⟩:=U.six;go_simp);simp only[ap,qF];refine BI.step rfl (fun K1 hK1=>?_);go_simp;refine(Lq _ _ _).mono ?_;rintro e W2 ⟨rfl,hb⟩;subst hb;cases t9:NF id ui
 ·refine hK1 _ _ ?_;clear hK1 K1;refine BI.falls 2 15 rfl kR (fun T hT=>?_);go_wp2;go_ret;exact⟨Ee hT (by simp[Fj,t2,t3,t4,t5,t6,t7,t8,t9]),L⟩
 refine hK1 _ _ ?_;clear hK1 K1;try simp only[ap,qF]
 refine BI.tk 59 70 (qU true) ?_;simp only[ap,qF];refine BI.tk 60 71 (qU true) ?_;simp only[ap,qF];refine BI.tk 61 72 (pT (some ⟨w,3,none⟩)) ?_;simp only[ap,qF];refine BI.tk 62 73 (iT qH to') ?_ (hv:=by obtain⟨c0,c1,c2,c3,c4,c5,c6,c7,c8,c9⟩:=A.jE;obtain⟨v0,v1,v2,v3,v4,v5⟩:=U.six;go_simp);simp only[ap,qF];refine BI.tk 63 74 (pT (some ⟨PU,1,none⟩)) ?_;simp only[ap,qF];refine BI.tk 64 75 (qU ut) ?_ (hv:=by obtain⟨c0,c1,c2,c3,c4,c5,c6,c7,c8,c9⟩:=A.jE;obtain⟨v0,v1,v2,v3,v4,v5⟩:=U.six;go_simp);simp only[ap,qF];refine BI.step rfl (fun K1 hK1=>?_);go_simp;refine(Lq _ _ _).mono ?_;rintro e W2 ⟨rfl,hb⟩;subst hb;cases t10:NF to' ut
 ·refine hK1 _ _ ?_;clear hK1 K1;refine BI.falls 2 8 rfl kR (fun T hT=>?_);go_wp2;go_ret;exact⟨Ee hT (by simp[Fj,t2,t3,t4,t5,t6,t7,t8,t9,t10]),L⟩
 refine hK1 _ _ ?_;clear hK1 K1;try simp only[ap,qF]
 refine BI.tk 66 77 (qU true) ?_;simp only[ap,qF];refine BI.tk 67 78 (qU true) ?_;simp only[ap,qF];refine BI.tk 68 79 (.agg n1) ?_ (hv:=by obtain⟨c0,c1,c2,c3,c4,c5,c6,c7,c8,c9⟩:=A.jE;obtain⟨v0,v1,v2,v3,v4,v5⟩:=U.six;go_simp);simp only[ap,qF];refine BI.tk 69 80 (pT (some ⟨PU,2,none⟩)) ?_;simp only[ap,qF];refine BI.tk 70 81 (qU uc) ?_ (hv:=by obtain⟨c0,c1,c2,c3,c4,c5,c6,c7,c8,c9⟩:=A.jE;obtain⟨v0,v1,v2,v3,v4,v5⟩:=U.six;go_simp);simp only[ap,qF];refine BI.step rfl (fun K1 hK1=>?_);go_simp;refine(XE _ _ _ _ _ _ _ _ _ _ _ _ _ _ _ _).mono ?_;rintro e W2 ⟨rfl,hb⟩;replace A:=A.below hb;replace U:=U.below hb;replace L:qN w w W2:=L.trans (hb.mono L.size);clear hb;refine hK1 _ _ ?_;clear hK1 K1;try simp only[ap,qF]
 refine BI.tk 72 83 (qU (Pt kind cat uc)) ?_;simp only[ap,qF];refine BI.tk 73 2 (qU (Pt kind cat uc)) ?_;simp only[ap,qF];refine BI.done (Nat.le_of_eq qK) ?_;go_wp2;go_ret;exact⟨Ah (by simp[Fj,t2,t3,t4,t5,t6,t7,t8,t9,t10]),L⟩
theorem Zl(t:Ae)(x:Int)(P:Nat)(w:World)(hP:w.cell? ⟨P,0,none⟩=some (.int .i64 x))(hl:P<w.heap.size):
 Calls prog 142 #[.agg t,.pointer P] w fun e w'=>e= .returned (.bool (t.id==x))/\Below w w w':=by
 have b0:=Bg w (.cells t 53);have h1:=(b0.cell (p:=⟨P,0,none⟩) hl).trans hP;go_enter func142,ntmps142
 go_wp2;go_ret;exact⟨rfl,b0⟩
theorem Qo(a:Option Addr)(n cap:Nat)(T:Nat->Ae)(x:Int)(P:Nat)(w:World)(hn:n<=maxLen)(hT:Jb w a n T)(hP:w.cell? ⟨P,0,none⟩=some (.int .i64 x))(hl:P<w.heap.size):
 Calls prog 141 #[.slice a n cap,.func (.func 142) #[] #[.pointer P]] w fun e w'=>e= .returned (.int .i64 (GX (Bq (fun i=>(T i).id) n x)))/\Below w w w':=by
 unfold maxLen at hn;have HT:=qC hT;clear hT;go_enter func141,ntmps141
 go_wp2;go_loopw [8] (fun i wr=>∃q:Nat,q<=n/\i= .int .i64 q/\Hid (∀j,j<q->(T j).id≠x)/\Below w w wr) (fun i _=>n-(intOf i).toNat)
 case atStart=>exact⟨0,Nat.zero_le _,rfl,qC (fun j hj=>by omega),Below.refl _ _⟩
 case round=>
  obtain⟨q,hq,rfl,HA,hB⟩:=hrel;by_cases hlt:q<n
  ·obtain⟨b,off,rfl,_,hcc⟩:=HT.out.below hB qQ;obtain⟨⟨q0,q1,q2,q3,q4,q5,q6⟩,ht⟩:=hcc q hlt;simp only[As.val,AJ.val]at q2 q4 q5;have i1:(q:Int)<(n:Int):=qQ;have hp:=(hB.cell (p:=⟨P,0,none⟩) hl).trans hP;have C1:=qC (Zl (T q) x P wr hp (Nat.lt_of_lt_of_le hl hB.size));clear hcc ht;by_cases e:(T q).id=x
   ·have HF:=qC (JK (ids:=fun i=>(T i).id) hlt e HA);have e':((T q).id==x)=true:=(by simpa using e);rw[e']at C1;clear e HA e';go_wp2_with(go_at_call 142;refine C1.out.mono ?_;rintro e w1 ⟨rfl,hb1⟩;have B1:=Af hB hb1)
    go_ret;exact⟨Fw (by rw[HF.out];rfl),B1⟩
   ·have e':((T q).id==x)=false:=(by simpa using e);have HA2:Hid (∀j,j<q+1->(T j).id≠x):=qC (fun j hj=>by
     by_cases ej:j=q
     ·subst ej;exact e
     ·exact HA.out j qQ)
    rw[e']at C1;clear e HA e';go_wp2_with(go_at_call 142;refine C1.out.mono ?_;rintro e w1 ⟨rfl,hb1⟩;have B1:=Af hB hb1)
    exact⟨⟨q+1,by omega,by go_num,HA2,B1⟩,by simp[intOf];omega⟩
  ·have i1:¬(q:Int)<(n:Int):=qQ;have HF:=qC (LP (ids:=fun i=>(T i).id) (n:=n) (x:=x) (fun j hj=>HA j qQ));clear HA;go_wp2;go_ret;exact⟨Fw (by rw[HF.out];rfl),hB⟩
theorem NJ(a:Option Addr)(n cap:Nat)(T:Nat->Ae)(x:Int)(w:World)(hn:n<=maxLen)(hT:Jb w a n T):
 Calls prog 117 #[.slice a n cap,.int .i64 x] w fun e w'=>e= .returned (.int .i64 (GX (Bq (fun i=>(T i).id) n x)))/\Below w w w':=by
 have b0:Below w w (w.alloc (.cells #[.int .i64 x] 2)):=Bg w _;have A0:=Ag.new w (.cells #[.int .i64 x] 2);have C1:=qC (Qo a n cap T x w _ hn (hT.below b0) (A0.c0 0 rfl) A0.lt);clear hT;go_enter func117,ntmps117
 go_wp2_with(go_at_call 141;refine C1.out.mono ?_;rintro e w1 ⟨rfl,hb1⟩;have B1:=Af b0 hb1)
 go_ret;exact⟨rfl,B1⟩
end Go.Proofs.YtdaccbddcjlkpaaGreatDoor
