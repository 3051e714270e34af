import Derived.Test.YteoihknaljgocaaGreatDoorNE2m
import Derived.Test.YteoihknaljgocaaGreatDoorHEm
set_option maxRecDepth 100000
set_option maxHeartbeats 16000000
namespace Go.Proofs.YteoihknaljgocaaGreatDoor
open Go Go.RowKit Go.Deep Go.Maps Go.BigFrame Go.Shelf Go.Proofs.Tryz
inductive Hc(lt:List Ae) (lo:List Ab) (s:Al) (c:Int) (tx:ByteArray) (lt':List Ae) (lo':List Ab):Prop
 |form (h:s.ok=false) (hc:c=2) (ht:tx=⟨#[]⟩) (e1:lt'=lt) (e2:lo'=lo)
 |thread (h:s.ok=true) (hn:Qn lt s.th=none) (hc:c=3) (ht:tx=⟨#[]⟩) (e1:lt'=lt) (e2:lo'=lo)
 |act (h:s.ok=true) (t:Nat) (ht:t<lt.length) (hn:Qn lt s.th=some t) (p:FA lt[t] s lt lo t c tx lt' lo')
variable {ca co:Nat}{ta oa:Option Addr}{lt:List Ae}{lo:List Ab}{k:Aw}
theorem BJ.form{w:World}{B n m:Nat}(h:BJ w B (.slice ta n ca) (.slice oa m co) lt lo)(h1:0<lt.length)(h2:0<lo.length):∃g q,ta=some ⟨g,0,none⟩/\oa=some ⟨q,0,none⟩:=by
 obtain⟨rfl,rfl⟩:=h.len;obtain⟨g,_,_,e,_⟩:=Dl h.t h1;obtain⟨q,_,_,e',_⟩:=Dl h.o h2;exact⟨g,q,e,e'⟩
theorem Le(ok:Bj k=true):k.small:=by
 obtain⟨h1,h2,_⟩:=Bm ok;have t:=Dn h1;have o:=BZ h2;refine⟨⟨by omega,fun i hi=>?_⟩,by omega,fun i hi=>?_⟩
 ·have h:=t.2.2 i hi;unfold Et at h;simp only[Bool.and_eq_true]at h;exact(Gw.1 h.1).small
 ·have h:=o.2.2.1 i hi;unfold FY at h;simp only[Bool.and_eq_true]at h;have f:=Jt.1 h.1;have it:=f.jA;unfold Ey at it;simp only[Bool.and_eq_true,decide_eq_true_eq,List.all_eq_true,List.mem_range]at it;refine⟨by have:=(BH f.l1).2;omega,by have:=Gc f.data;omega,⟨by omega,fun j hj=>?_⟩,by have:=Jb f.own;omega,by have:=(BH f.l2).2;omega⟩;have:=Gc (it.2 j hj);omega
theorem M4(h:k.same (Bo ta ca oa co lt lo))(x:Int):Bg (fun i=>(k.T i).id) k.tn x=Qn lt x:=by
 unfold Qn;have e:lt.length=k.tn:=h.1;rw[e];exact(I3 (fun i hi=>(h.2.1 i hi).1) x).symm
theorem Qo(h:k.same (Bo ta ca oa co lt lo)):k.same (Bo none 0 none 0 lt lo):=h
theorem TJ(k:Aw)(w:World)(hk:k.at w)(ok:Bj k=true)(s:Al)(hs:s.at w):
 Calls prog 23 #[.agg #[.slice k.ta k.tn k.tk,.slice k.oa k.on k.ok],.agg s] w fun e w'=>∃(lt:List Ae) (lo:List Ab) (lt':List Ae) (lo':List Ab) (ta:Option Addr) (ca:Nat) (oa:Option Addr) (co:Nat) (c:Int) (tx:ByteArray),e= .returned (.tuple #[.agg #[.slice ta lt'.length ca,.slice oa lo'.length co],.int .i64 c,.string tx])/\BJ w' w (.slice ta lt'.length ca) (.slice oa lo'.length co) lt' lo'/\Below w w w'/\k.same (Bo none 0 none 0 lt lo)/\Hc lt lo s c tx lt' lo':=by
 have n2:Na s:=⟨⟩;have n4:No (.cells #[.slice k.ta k.tn k.tk,.slice k.oa k.on k.ok] 27):=⟨⟩;have n5:No (.cells #[.slice none 0 0,.slice none 0 0] 27):=⟨⟩;have n1:Nw (((w.alloc n4).alloc (.cells n2 32)).alloc n5):=⟨⟩;have b0:Below w w n1:=((Bf w _).alloc (by simp) _).alloc (by simp;omega) _;have A0:Ag n1 w n4:=((Ag.new w _).alloc _).alloc _;have P0:Ag n1 (w.heap.size+1) (.cells n2 32):=by have:=(Ag.new (w.alloc n4) (.cells n2 32)).alloc n5;simpa using this
 have R0:Ag n1 (w.heap.size+1+1) n5:=by have:=Ag.new ((w.alloc n4).alloc (.cells n2 32)) n5;simpa using this
 have HK:=hid hk;have OK:=hid ok;have SA:=hid hs;have HB:=hid b0;have HA:=hid A0;have HP:=hid P0;have HR:=hid R0;have sm:=Le ok;have SMA:=hid sm;clear b0 A0 P0 R0 hk ok hs sm;go_enter func23,ntmps23
 obtain⟨x0,x1⟩:=HA.out.two;obtain⟨s0,s1,s2,s3,s4,s5,s6,s7,s8,s9⟩:=HP.out.jE;go_wp2_with fail
 have BX:Hid (∀W,Below (n1:World).heap.size n1 W->Ag W w n4/\Ag W (w.heap.size+1) (.cells n2 32)/\Ag W (w.heap.size+1+1) n5):=hid (fun W hW=>⟨HA.out.below hW,HP.out.below hW,HR.out.below hW⟩);have LW:Hid (∀W,Below (n1:World).heap.size n1 W->Below w w W):=hid (fun W hW=>Af HB hW);have V0:=hid (Below.refl (n1:World).heap.size n1);have S0:=hid HB.out.size;clear x0 x1 s0 s1 s2 s3 s4 s5 s6 s7 s8 s9 HA HP HR HB;generalize (n1:World)=V at *;refine(UC k V (HK.out.below (LW _ V0)) SMA).mono ?_;rintro e w1 ⟨lt,lo,ta,oa,ca,co,rfl,ks,sm,hb1⟩;have V1:=hid (Af V0 hb1);have SM:=hid (Qo sm);have OKL:Hid (okL lt lo=true):=hid ((Cp sm).trans OK);have TS:Hid (Bg (fun i=>(k.T i).id) k.tn s.th=Qn lt s.th):=hid (M4 sm s.th);obtain⟨g,q,rfl,rfl⟩:=ks.form (by have:=FE OKL.out;omega) (by have:=Ek OKL.out;omega);have KS1:=hid ks;clear hb1 sm ks V0;have n3:No (.cells #[.slice g lt.length ca,.slice q lo.length co] 27):=⟨⟩;have V2:=hid (V1.out.alloc V1.out.size n3);have O2:=hid (Ag.new w1 n3);have KS2:=hid (KS1.out.below ((Below.refl _ w1).alloc nr n3));clear KS1;obtain⟨x0,x1⟩:=(BX _ V2).1.two;obtain⟨s0,s1,s2,s3,s4,s5,s6,s7,s8,s9⟩:=(BX _ V2).2.1.jE;obtain⟨r0,r1⟩:=(BX _ V2).2.2.two;have rf:=(BX _ V2).2.2.jC;go_wp2_with fail
 clear x0 x1 s0 s1 s2 s3 s4 s5 s6 s7 s8 s9 r0 r1 rf;clear V1;generalize w1.alloc n3=W2 at *;generalize w1.heap.size=O at *;have SS:Hid (Calls prog 58 #[.agg n2] W2 fun e w'=>e= .returned (.bool s.ok)/\Below W2 W2 w'):=hid (by
  have h:=SA.out.below (LW _ V2);exact QW s.th s.kind s.id s.to s.cat s.data s.b1 s.c1.a s.c1.n s.c1.k s.c1.f s.c1.g s.b2 s.c2.a s.c2.n s.c2.k s.c2.f s.c2.g W2 h.2.2 h.1.1 h.2.1.1 h.1.2 h.2.1.2)
 refine SS.out.mono ?_;rintro e w3 ⟨rfl,hb3⟩;have V3:=hid (Af V2 hb3);have KS3:=hid (KS2.out.below hb3);have O3:=hid (O2.out.below hb3);clear hb3 SS V2 O2 KS2;have L3:=hid (LW.out _ V3);obtain⟨x0,x1⟩:=(BX _ V3).1.two;obtain⟨s0,s1,s2,s3,s4,s5,s6,s7,s8,s9⟩:=(BX _ V3).2.1.jE;obtain⟨r0,r1⟩:=(BX _ V3).2.2.two;have rf:=(BX _ V3).2.2.jC;obtain⟨u0,u1⟩:=O3.out.two;cases so:s.ok with
 |false=>
  have SO:=hid so;go_wp2;have RB:=hid (BX.out _ V3).2.2;refine bodyPost_ret (Ak _ _ (w.heap.size+1+1) 4 _ _ _ _ Tryz.results23 ((RB.out.jB (i:=0) _).jB (i:=1) _) rfl rfl rfl) rfl ⟨lt,lo,lt,lo,(some ⟨g,0,none⟩),ca,(some ⟨q,0,none⟩),co,2,_,rfl,?_,?_,SM,.form SO rfl rfl rfl rfl⟩
  ·exact((KS3.out.base S0).set RB (.inl rfl) _).set (RB.out.jB (i:=0) _) (.inl rfl) _
  ·exact(L3.out.setCell (by dsimp only;omega) _).setCell (by dsimp only;omega) _
 |true=>
  have SO:=hid so;clear so;go_wp2_with fail
  refine(IF k s.th w3 (HK.out.below L3)).mono ?_;rintro e w4 ⟨rfl,hb4⟩;rw[TS.out];have V4:=hid (Af V3 hb4);have KS4:=hid (KS3.out.below hb4);have O4:=hid (O3.out.below hb4);clear hb4 V3 KS3 O3 x0 x1 s0 s1 s2 s3 s4 s5 s6 s7 s8 s9 r0 r1 rf u0 u1 L3;have L3:=hid (LW.out _ V4);obtain⟨x0,x1⟩:=(BX _ V4).1.two;obtain⟨s0,s1,s2,s3,s4,s5,s6,s7,s8,s9⟩:=(BX _ V4).2.1.jE;obtain⟨r0,r1⟩:=(BX _ V4).2.2.two;have rf:=(BX _ V4).2.2.jC;obtain⟨u0,u1⟩:=O4.out.two;cases hn:Qn lt s.th with
  |none=>
   have HN:=hid hn;simp only[Gf];have j0:decide (((-1:Int))<0)=true:=rfl;go_wp2;have RB:=hid (BX.out _ V4).2.2;refine bodyPost_ret (Ak _ _ (w.heap.size+1+1) 4 _ _ _ _ Tryz.results23 ((RB.out.jB (i:=0) _).jB (i:=1) _) rfl rfl rfl) rfl ⟨lt,lo,lt,lo,(some ⟨g,0,none⟩),ca,(some ⟨q,0,none⟩),co,3,_,rfl,?_,?_,SM,.thread SO HN rfl rfl rfl rfl⟩
   ·exact((KS4.out.base S0).set RB (.inl rfl) _).set (RB.out.jB (i:=0) _) (.inl rfl) _
   ·exact(L3.out.setCell (by dsimp only;omega) _).setCell (by dsimp only;omega) _
  |some t=>
   have HT:=hid hn;have ht:t<lt.length:=(Av hn).1;clear hn;simp only[Gf];have j0:decide (((t:Nat):Int)<0)=false:=decide_eq_false (by omega);have j1:¬((t:Nat):Int)<0:=(by omega);obtain⟨w3,e3⟩:∃W,W=w4:=⟨_,rfl⟩;subst e3;have KS3:=KS4;clear KS4;have SZ3:Hid (V.heap.size<=w3.heap.size):=hid V4.out.size;have SA3:Hid (∀W,Below V w3 W->s.at W):=hid (fun W hW=>SA.out.below (L3.out.trans (hW.mono S0)));have RR:Hid (∀W,Below V w3 W->Ag W (w.heap.size+1+1) (.cells #[.slice none 0 0,.slice none 0 0] 27)):=hid (fun W hW=>(BX _ (V4.out.trans hW)).2.2);have sk:=(GB SO).kind;have cs:(s.kind=1∨s.kind=12∨s.kind=14)∨(s.kind=2∨s.kind=3∨s.kind=4∨s.kind=5)∨s.kind=11∨(s.kind=6∨s.kind=7∨s.kind=8∨s.kind=9∨s.kind=10∨s.kind=13∨s.kind=15):=(by omega);have KIND:=hid cs;clear sk cs;rcases KIND with hk|hk|hk|hk
   ·have HKD:=hid hk;rcases hk with hk|hk|hk
    ·skip;have k1:(s.kind==1)=true:=(by rw[hk];rfl);have d1:decide (s.kind=1)=true:=(by rw[hk];rfl);have k12:(s.kind==12)=false:=(by rw[hk];rfl);have d12:decide (s.kind=12)=false:=(by rw[hk];rfl);have k14:(s.kind==14)=false:=(by rw[hk];rfl);have d14:decide (s.kind=14)=false:=(by rw[hk];rfl);have k2:(s.kind==2)=false:=(by rw[hk];rfl);have d2:decide (s.kind=2)=false:=(by rw[hk];rfl);have k3:(s.kind==3)=false:=(by rw[hk];rfl);have d3:decide (s.kind=3)=false:=(by rw[hk];rfl);have k4:(s.kind==4)=false:=(by rw[hk];rfl);have d4:decide (s.kind=4)=false:=(by rw[hk];rfl);have k5:(s.kind==5)=false:=(by rw[hk];rfl);have d5:decide (s.kind=5)=false:=(by rw[hk];rfl);have k11:(s.kind==11)=false:=(by rw[hk];rfl);have d11:decide (s.kind=11)=false:=(by rw[hk];rfl);clear hk;have AC:=hid (N9 lt lo g ca q co V w3 KS3 SZ3 OKL t ht s SA3 SO HKD);go_wp2_with fail
     refine AC.out.mono ?_;rintro e w5 ⟨lt',lo',ta,ca',oa,co',c,tx,rfl,k5,b5,p5⟩;have K5:=hid k5;have B5:=hid b5;have P5:=hid p5;clear k5 b5 p5 AC x0 x1 s0 s1 s2 s3 s4 s5 s6 s7 s8 s9 r0 r1 rf u0 u1;have RB:=hid (RR.out _ B5);have L5:=hid (L3.out.trans (B5.out.mono S0));obtain⟨r0,r1⟩:=RB.out.two;have rf:=RB.out.jC;go_wp2;refine bodyPost_ret (Ak _ _ (w.heap.size+1+1) 4 _ _ _ _ Tryz.results23 ((RB.out.jB (i:=0) _).jB (i:=1) _) rfl rfl rfl) rfl ⟨lt,lo,lt',lo',ta,ca',oa,co',c,tx,rfl,?_,?_,SM,.act SO t ht HT P5⟩
     ·exact((K5.out.base S0).set RB (.inl rfl) _).set (RB.out.jB (i:=0) _) (.inl rfl) _
     ·exact(L5.out.setCell (by dsimp only;omega) _).setCell (by dsimp only;omega) _
    ·skip;have k1:(s.kind==1)=false:=(by rw[hk];rfl);have d1:decide (s.kind=1)=false:=(by rw[hk];rfl);have k12:(s.kind==12)=true:=(by rw[hk];rfl);have d12:decide (s.kind=12)=true:=(by rw[hk];rfl);have k14:(s.kind==14)=false:=(by rw[hk];rfl);have d14:decide (s.kind=14)=false:=(by rw[hk];rfl);have k2:(s.kind==2)=false:=(by rw[hk];rfl);have d2:decide (s.kind=2)=false:=(by rw[hk];rfl);have k3:(s.kind==3)=false:=(by rw[hk];rfl);have d3:decide (s.kind=3)=false:=(by rw[hk];rfl);have k4:(s.kind==4)=false:=(by rw[hk];rfl);have d4:decide (s.kind=4)=false:=(by rw[hk];rfl);have k5:(s.kind==5)=false:=(by rw[hk];rfl);have d5:decide (s.kind=5)=false:=(by rw[hk];rfl);have k11:(s.kind==11)=false:=(by rw[hk];rfl);have d11:decide (s.kind=11)=false:=(by rw[hk];rfl);clear hk;have AC:=hid (N9 lt lo g ca q co V w3 KS3 SZ3 OKL t ht s SA3 SO HKD);go_wp2_with fail
     refine AC.out.mono ?_;rintro e w5 ⟨lt',lo',ta,ca',oa,co',c,tx,rfl,k5,b5,p5⟩;have K5:=hid k5;have B5:=hid b5;have P5:=hid p5;clear k5 b5 p5 AC x0 x1 s0 s1 s2 s3 s4 s5 s6 s7 s8 s9 r0 r1 rf u0 u1;have RB:=hid (RR.out _ B5);have L5:=hid (L3.out.trans (B5.out.mono S0));obtain⟨r0,r1⟩:=RB.out.two;have rf:=RB.out.jC;go_wp2;refine bodyPost_ret (Ak _ _ (w.heap.size+1+1) 4 _ _ _ _ Tryz.results23 ((RB.out.jB (i:=0) _).jB (i:=1) _) rfl rfl rfl) rfl ⟨lt,lo,lt',lo',ta,ca',oa,co',c,tx,rfl,?_,?_,SM,.act SO t ht HT P5⟩
     ·exact((K5.out.base S0).set RB (.inl rfl) _).set (RB.out.jB (i:=0) _) (.inl rfl) _
     ·exact(L5.out.setCell (by dsimp only;omega) _).setCell (by dsimp only;omega) _
    ·skip;have k1:(s.kind==1)=false:=(by rw[hk];rfl);have d1:decide (s.kind=1)=false:=(by rw[hk];rfl);have k12:(s.kind==12)=false:=(by rw[hk];rfl);have d12:decide (s.kind=12)=false:=(by rw[hk];rfl);have k14:(s.kind==14)=true:=(by rw[hk];rfl);have d14:decide (s.kind=14)=true:=(by rw[hk];rfl);have k2:(s.kind==2)=false:=(by rw[hk];rfl);have d2:decide (s.kind=2)=false:=(by rw[hk];rfl);have k3:(s.kind==3)=false:=(by rw[hk];rfl);have d3:decide (s.kind=3)=false:=(by rw[hk];rfl);have k4:(s.kind==4)=false:=(by rw[hk];rfl);have d4:decide (s.kind=4)=false:=(by rw[hk];rfl);have k5:(s.kind==5)=false:=(by rw[hk];rfl);have d5:decide (s.kind=5)=false:=(by rw[hk];rfl);have k11:(s.kind==11)=false:=(by rw[hk];rfl);have d11:decide (s.kind=11)=false:=(by rw[hk];rfl);clear hk;have AC:=hid (N9 lt lo g ca q co V w3 KS3 SZ3 OKL t ht s SA3 SO HKD);go_wp2_with fail
     refine AC.out.mono ?_;rintro e w5 ⟨lt',lo',ta,ca',oa,co',c,tx,rfl,k5,b5,p5⟩;have K5:=hid k5;have B5:=hid b5;have P5:=hid p5;clear k5 b5 p5 AC x0 x1 s0 s1 s2 s3 s4 s5 s6 s7 s8 s9 r0 r1 rf u0 u1;have RB:=hid (RR.out _ B5);have L5:=hid (L3.out.trans (B5.out.mono S0));obtain⟨r0,r1⟩:=RB.out.two;have rf:=RB.out.jC;go_wp2;refine bodyPost_ret (Ak _ _ (w.heap.size+1+1) 4 _ _ _ _ Tryz.results23 ((RB.out.jB (i:=0) _).jB (i:=1) _) rfl rfl rfl) rfl ⟨lt,lo,lt',lo',ta,ca',oa,co',c,tx,rfl,?_,?_,SM,.act SO t ht HT P5⟩
     ·exact((K5.out.base S0).set RB (.inl rfl) _).set (RB.out.jB (i:=0) _) (.inl rfl) _
     ·exact(L5.out.setCell (by dsimp only;omega) _).setCell (by dsimp only;omega) _
   ·have HKD:=hid hk;rcases hk with hk|hk|hk|hk
    ·skip;have k1:(s.kind==1)=false:=(by rw[hk];rfl);have d1:decide (s.kind=1)=false:=(by rw[hk];rfl);have k12:(s.kind==12)=false:=(by rw[hk];rfl);have d12:decide (s.kind=12)=false:=(by rw[hk];rfl);have k14:(s.kind==14)=false:=(by rw[hk];rfl);have d14:decide (s.kind=14)=false:=(by rw[hk];rfl);have k2:(s.kind==2)=true:=(by rw[hk];rfl);have d2:decide (s.kind=2)=true:=(by rw[hk];rfl);have k3:(s.kind==3)=false:=(by rw[hk];rfl);have d3:decide (s.kind=3)=false:=(by rw[hk];rfl);have k4:(s.kind==4)=false:=(by rw[hk];rfl);have d4:decide (s.kind=4)=false:=(by rw[hk];rfl);have k5:(s.kind==5)=false:=(by rw[hk];rfl);have d5:decide (s.kind=5)=false:=(by rw[hk];rfl);have k11:(s.kind==11)=false:=(by rw[hk];rfl);have d11:decide (s.kind=11)=false:=(by rw[hk];rfl);clear hk;have AC:=hid (KC lt lo g ca q co V w3 KS3 SZ3 OKL t ht s SA3 SO HKD);go_wp2_with fail
     refine AC.out.mono ?_;rintro e w5 ⟨lt',lo',ta,ca',oa,co',c,tx,rfl,k5,b5,p5⟩;have K5:=hid k5;have B5:=hid b5;have P5:=hid p5;clear k5 b5 p5 AC x0 x1 s0 s1 s2 s3 s4 s5 s6 s7 s8 s9 r0 r1 rf u0 u1;have RB:=hid (RR.out _ B5);have L5:=hid (L3.out.trans (B5.out.mono S0));obtain⟨r0,r1⟩:=RB.out.two;have rf:=RB.out.jC;go_wp2;refine bodyPost_ret (Ak _ _ (w.heap.size+1+1) 4 _ _ _ _ Tryz.results23 ((RB.out.jB (i:=0) _).jB (i:=1) _) rfl rfl rfl) rfl ⟨lt,lo,lt',lo',ta,ca',oa,co',c,tx,rfl,?_,?_,SM,.act SO t ht HT P5⟩
     ·exact((K5.out.base S0).set RB (.inl rfl) _).set (RB.out.jB (i:=0) _) (.inl rfl) _
     ·exact(L5.out.setCell (by dsimp only;omega) _).setCell (by dsimp only;omega) _
    ·skip;have k1:(s.kind==1)=false:=(by rw[hk];rfl);have d1:decide (s.kind=1)=false:=(by rw[hk];rfl);have k12:(s.kind==12)=false:=(by rw[hk];rfl);have d12:decide (s.kind=12)=false:=(by rw[hk];rfl);have k14:(s.kind==14)=false:=(by rw[hk];rfl);have d14:decide (s.kind=14)=false:=(by rw[hk];rfl);have k2:(s.kind==2)=false:=(by rw[hk];rfl);have d2:decide (s.kind=2)=false:=(by rw[hk];rfl);have k3:(s.kind==3)=true:=(by rw[hk];rfl);have d3:decide (s.kind=3)=true:=(by rw[hk];rfl);have k4:(s.kind==4)=false:=(by rw[hk];rfl);have d4:decide (s.kind=4)=false:=(by rw[hk];rfl);have k5:(s.kind==5)=false:=(by rw[hk];rfl);have d5:decide (s.kind=5)=false:=(by rw[hk];rfl);have k11:(s.kind==11)=false:=(by rw[hk];rfl);have d11:decide (s.kind=11)=false:=(by rw[hk];rfl);clear hk;have AC:=hid (KC lt lo g ca q co V w3 KS3 SZ3 OKL t ht s SA3 SO HKD);go_wp2_with fail
     refine AC.out.mono ?_;rintro e w5 ⟨lt',lo',ta,ca',oa,co',c,tx,rfl,k5,b5,p5⟩;have K5:=hid k5;have B5:=hid b5;have P5:=hid p5;clear k5 b5 p5 AC x0 x1 s0 s1 s2 s3 s4 s5 s6 s7 s8 s9 r0 r1 rf u0 u1;have RB:=hid (RR.out _ B5);have L5:=hid (L3.out.trans (B5.out.mono S0));obtain⟨r0,r1⟩:=RB.out.two;have rf:=RB.out.jC;go_wp2;refine bodyPost_ret (Ak _ _ (w.heap.size+1+1) 4 _ _ _ _ Tryz.results23 ((RB.out.jB (i:=0) _).jB (i:=1) _) rfl rfl rfl) rfl ⟨lt,lo,lt',lo',ta,ca',oa,co',c,tx,rfl,?_,?_,SM,.act SO t ht HT P5⟩
     ·exact((K5.out.base S0).set RB (.inl rfl) _).set (RB.out.jB (i:=0) _) (.inl rfl) _
     ·exact(L5.out.setCell (by dsimp only;omega) _).setCell (by dsimp only;omega) _
    ·skip;have k1:(s.kind==1)=false:=(by rw[hk];rfl);have d1:decide (s.kind=1)=false:=(by rw[hk];rfl);have k12:(s.kind==12)=false:=(by rw[hk];rfl);have d12:decide (s.kind=12)=false:=(by rw[hk];rfl);have k14:(s.kind==14)=false:=(by rw[hk];rfl);have d14:decide (s.kind=14)=false:=(by rw[hk];rfl);have k2:(s.kind==2)=false:=(by rw[hk];rfl);have d2:decide (s.kind=2)=false:=(by rw[hk];rfl);have k3:(s.kind==3)=false:=(by rw[hk];rfl);have d3:decide (s.kind=3)=false:=(by rw[hk];rfl);have k4:(s.kind==4)=true:=(by rw[hk];rfl);have d4:decide (s.kind=4)=true:=(by rw[hk];rfl);have k5:(s.kind==5)=false:=(by rw[hk];rfl);have d5:decide (s.kind=5)=false:=(by rw[hk];rfl);have k11:(s.kind==11)=false:=(by rw[hk];rfl);have d11:decide (s.kind=11)=false:=(by rw[hk];rfl);clear hk;have AC:=hid (KC lt lo g ca q co V w3 KS3 SZ3 OKL t ht s SA3 SO HKD);go_wp2_with fail
     refine AC.out.mono ?_;rintro e w5 ⟨lt',lo',ta,ca',oa,co',c,tx,rfl,k5,b5,p5⟩;have K5:=hid k5;have B5:=hid b5;have P5:=hid p5;clear k5 b5 p5 AC x0 x1 s0 s1 s2 s3 s4 s5 s6 s7 s8 s9 r0 r1 rf u0 u1;have RB:=hid (RR.out _ B5);have L5:=hid (L3.out.trans (B5.out.mono S0));obtain⟨r0,r1⟩:=RB.out.two;have rf:=RB.out.jC;go_wp2;refine bodyPost_ret (Ak _ _ (w.heap.size+1+1) 4 _ _ _ _ Tryz.results23 ((RB.out.jB (i:=0) _).jB (i:=1) _) rfl rfl rfl) rfl ⟨lt,lo,lt',lo',ta,ca',oa,co',c,tx,rfl,?_,?_,SM,.act SO t ht HT P5⟩
     ·exact((K5.out.base S0).set RB (.inl rfl) _).set (RB.out.jB (i:=0) _) (.inl rfl) _
     ·exact(L5.out.setCell (by dsimp only;omega) _).setCell (by dsimp only;omega) _
    ·skip;have k1:(s.kind==1)=false:=(by rw[hk];rfl);have d1:decide (s.kind=1)=false:=(by rw[hk];rfl);have k12:(s.kind==12)=false:=(by rw[hk];rfl);have d12:decide (s.kind=12)=false:=(by rw[hk];rfl);have k14:(s.kind==14)=false:=(by rw[hk];rfl);have d14:decide (s.kind=14)=false:=(by rw[hk];rfl);have k2:(s.kind==2)=false:=(by rw[hk];rfl);have d2:decide (s.kind=2)=false:=(by rw[hk];rfl);have k3:(s.kind==3)=false:=(by rw[hk];rfl);have d3:decide (s.kind=3)=false:=(by rw[hk];rfl);have k4:(s.kind==4)=false:=(by rw[hk];rfl);have d4:decide (s.kind=4)=false:=(by rw[hk];rfl);have k5:(s.kind==5)=true:=(by rw[hk];rfl);have d5:decide (s.kind=5)=true:=(by rw[hk];rfl);have k11:(s.kind==11)=false:=(by rw[hk];rfl);have d11:decide (s.kind=11)=false:=(by rw[hk];rfl);clear hk;have AC:=hid (KC lt lo g ca q co V w3 KS3 SZ3 OKL t ht s SA3 SO HKD);go_wp2_with fail
     refine AC.out.mono ?_;rintro e w5 ⟨lt',lo',ta,ca',oa,co',c,tx,rfl,k5,b5,p5⟩;have K5:=hid k5;have B5:=hid b5;have P5:=hid p5;clear k5 b5 p5 AC x0 x1 s0 s1 s2 s3 s4 s5 s6 s7 s8 s9 r0 r1 rf u0 u1;have RB:=hid (RR.out _ B5);have L5:=hid (L3.out.trans (B5.out.mono S0));obtain⟨r0,r1⟩:=RB.out.two;have rf:=RB.out.jC;go_wp2;refine bodyPost_ret (Ak _ _ (w.heap.size+1+1) 4 _ _ _ _ Tryz.results23 ((RB.out.jB (i:=0) _).jB (i:=1) _) rfl rfl rfl) rfl ⟨lt,lo,lt',lo',ta,ca',oa,co',c,tx,rfl,?_,?_,SM,.act SO t ht HT P5⟩
     ·exact((K5.out.base S0).set RB (.inl rfl) _).set (RB.out.jB (i:=0) _) (.inl rfl) _
     ·exact(L5.out.setCell (by dsimp only;omega) _).setCell (by dsimp only;omega) _
   ·have HKD:=hid hk;have k1:(s.kind==1)=false:=(by rw[hk];rfl);have d1:decide (s.kind=1)=false:=(by rw[hk];rfl);have k12:(s.kind==12)=false:=(by rw[hk];rfl);have d12:decide (s.kind=12)=false:=(by rw[hk];rfl);have k14:(s.kind==14)=false:=(by rw[hk];rfl);have d14:decide (s.kind=14)=false:=(by rw[hk];rfl);have k2:(s.kind==2)=false:=(by rw[hk];rfl);have d2:decide (s.kind=2)=false:=(by rw[hk];rfl);have k3:(s.kind==3)=false:=(by rw[hk];rfl);have d3:decide (s.kind=3)=false:=(by rw[hk];rfl);have k4:(s.kind==4)=false:=(by rw[hk];rfl);have d4:decide (s.kind=4)=false:=(by rw[hk];rfl);have k5:(s.kind==5)=false:=(by rw[hk];rfl);have d5:decide (s.kind=5)=false:=(by rw[hk];rfl);have k11:(s.kind==11)=true:=(by rw[hk];rfl);have d11:decide (s.kind=11)=true:=(by rw[hk];rfl);clear hk;have AC:=hid (XT lt lo g ca q co V w3 KS3 SZ3 OKL t ht s SA3 SO HKD);go_wp2_with fail
    refine AC.out.mono ?_;rintro e w5 ⟨lt',lo',ta,ca',oa,co',c,tx,rfl,k5,b5,p5⟩;have K5:=hid k5;have B5:=hid b5;have P5:=hid p5;clear k5 b5 p5 AC x0 x1 s0 s1 s2 s3 s4 s5 s6 s7 s8 s9 r0 r1 rf u0 u1;have RB:=hid (RR.out _ B5);have L5:=hid (L3.out.trans (B5.out.mono S0));obtain⟨r0,r1⟩:=RB.out.two;have rf:=RB.out.jC;go_wp2;refine bodyPost_ret (Ak _ _ (w.heap.size+1+1) 4 _ _ _ _ Tryz.results23 ((RB.out.jB (i:=0) _).jB (i:=1) _) rfl rfl rfl) rfl ⟨lt,lo,lt',lo',ta,ca',oa,co',c,tx,rfl,?_,?_,SM,.act SO t ht HT P5⟩
    ·exact((K5.out.base S0).set RB (.inl rfl) _).set (RB.out.jB (i:=0) _) (.inl rfl) _
    ·exact(L5.out.setCell (by dsimp only;omega) _).setCell (by dsimp only;omega) _
   ·have HKD:=hid hk;have k1:(s.kind==1)=false:=(by simp only[beq_eq_false_iff_ne,ne_eq];omega);have d1:decide (s.kind=1)=false:=decide_eq_false (by omega);have k12:(s.kind==12)=false:=(by simp only[beq_eq_false_iff_ne,ne_eq];omega);have d12:decide (s.kind=12)=false:=decide_eq_false (by omega);have k14:(s.kind==14)=false:=(by simp only[beq_eq_false_iff_ne,ne_eq];omega);have d14:decide (s.kind=14)=false:=decide_eq_false (by omega);have k2:(s.kind==2)=false:=(by simp only[beq_eq_false_iff_ne,ne_eq];omega);have d2:decide (s.kind=2)=false:=decide_eq_false (by omega);have k3:(s.kind==3)=false:=(by simp only[beq_eq_false_iff_ne,ne_eq];omega);have d3:decide (s.kind=3)=false:=decide_eq_false (by omega);have k4:(s.kind==4)=false:=(by simp only[beq_eq_false_iff_ne,ne_eq];omega);have d4:decide (s.kind=4)=false:=decide_eq_false (by omega);have k5:(s.kind==5)=false:=(by simp only[beq_eq_false_iff_ne,ne_eq];omega);have d5:decide (s.kind=5)=false:=decide_eq_false (by omega);have k11:(s.kind==11)=false:=(by simp only[beq_eq_false_iff_ne,ne_eq];omega);have d11:decide (s.kind=11)=false:=decide_eq_false (by omega);clear hk;have AC:=hid (YY lt lo g ca q co V w3 KS3 SZ3 OKL t ht s SA3 SO HKD);go_wp2_with fail
    refine AC.out.mono ?_;rintro e w5 ⟨lt',lo',ta,ca',oa,co',c,tx,rfl,k5,b5,p5⟩;have K5:=hid k5;have B5:=hid b5;have P5:=hid p5;clear k5 b5 p5 AC x0 x1 s0 s1 s2 s3 s4 s5 s6 s7 s8 s9 r0 r1 rf u0 u1;have RB:=hid (RR.out _ B5);have L5:=hid (L3.out.trans (B5.out.mono S0));obtain⟨r0,r1⟩:=RB.out.two;have rf:=RB.out.jC;go_wp2;refine bodyPost_ret (Ak _ _ (w.heap.size+1+1) 4 _ _ _ _ Tryz.results23 ((RB.out.jB (i:=0) _).jB (i:=1) _) rfl rfl rfl) rfl ⟨lt,lo,lt',lo',ta,ca',oa,co',c,tx,rfl,?_,?_,SM,.act SO t ht HT P5⟩
    ·exact((K5.out.base S0).set RB (.inl rfl) _).set (RB.out.jB (i:=0) _) (.inl rfl) _
    ·exact(L5.out.setCell (by dsimp only;omega) _).setCell (by dsimp only;omega) _
variable {B:Nat}{w w':World}{t:Ab}
def Hn:Ab:=⟨0,0,0,0,⟨none,0,0,fun _=>0,fun _=>0⟩,ByteArray.mk #[],⟨none,0,0,fun _=>ByteArray.mk #[]⟩,⟨none,0,0,fun _=>0⟩,0,⟨none,0,0,fun _=>0,fun _=>0⟩⟩
theorem We(B:Nat)(w:World):Hn.new B w:=⟨⟨⟨Nat.zero_le _,fun h=>by simp[Hn]at h⟩,fun h=>by simp[Hn]at h⟩,⟨⟨Nat.zero_le _,fun h=>by simp[Hn]at h,fun i h=>by simp[Hn]at h⟩,fun h=>by simp[Hn]at h⟩,⟨⟨Nat.zero_le _,fun h=>by simp[Hn]at h⟩,fun h=>by simp[Hn]at h⟩,⟨⟨Nat.zero_le _,fun h=>by simp[Hn]at h⟩,fun h=>by simp[Hn]at h⟩⟩
theorem SF:Hn.apart:=fun _ _ _ h=>by simp[Hn]at h
theorem Ab.same.refl(t:Ab):t.same t:=⟨rfl,rfl,rfl,rfl,⟨rfl,rfl,rfl⟩,rfl,⟨rfl,rfl⟩,⟨rfl,rfl⟩,rfl,⟨rfl,rfl,rfl⟩⟩
def IU(k:Aw)(x:Int):Option Nat:=if Bj k=true then Bg (fun i=>(k.O i).id) k.on x else none
def JM(k:Aw)(x:Int):Ab:=match IU k x with
 |some i=>k.O i
 |none=>Hn
theorem Ab.new.below(h:t.new B w)(hb:Below w w w'):t.new B w':=⟨h.1.below hb,h.2.1.below hb,h.2.2.1.below hb,h.2.2.2.below hb⟩
theorem GJ(tmps:Array Value)(W:World)(P:Nat)(x0 x1 x2 x3 x4 x5 x6 x7 x8 x9:Value)(b:Bool)(h:Ag W P (.cells #[x0,x1,x2,x3,x4,x5,x6,x7,x8,x9] 44))(h2:tmps[4]? =some (.pointer P))(h3:tmps[5]? =some (.bool b)):
 (results Tryz.f9 tmps).run prog W= .ok (.tuple #[.agg #[x0,x1,x2,x3,x4,x5,x6,x7,x8,x9],.bool b]) W:=by
 obtain⟨z0,z1,z2,z3,z4,z5,z6,z7,z8,z9⟩:=h.jE;simp[results,Tryz.results9,go_sem,h2,h3,z0,z1,z2,z3,z4,z5,z6,z7,z8,z9]
def Ll(k:Aw)(x:Int)(w w':World)(e:Ending):Prop:=∃g:Ab,e= .returned (.tuple #[g.val,.bool (IU k x).isSome])/\(JM k x).same g/\g.new w w'/\g.apart/\Below w w w'
theorem Ll.none{k:Aw}{x:Int}(h:IU k x= .none)(hb:Below w w w'):Ll k x w w' (.returned (.tuple #[.agg #[.int .i64 0,.int .i64 0,.int .i64 0,.int .i64 0,.slice .none 0 0,.string (ByteArray.mk #[]),.slice .none 0 0,.slice .none 0 0,.int .i64 0,.slice .none 0 0],.bool false])):=
 ⟨Hn,by rw[h];rfl,by rw[JM,h];exact Ab.same.refl _,We _ _,SF,hb⟩
theorem Iq(k:Aw)(x:Int)(w:World)(hk:k.at w)(hs:k.small)(hcap:k.on<=k.ok)(hw:∀i,i<k.on->(Lit.int .i64 (k.O i).id).wf=true/\(Lit.int .i64 (k.O i).up).wf=true)(hx:(Lit.int .i64 x).wf=true):
 Calls prog 9 #[k.val,.int .i64 x] w fun e w'=>Ll k x w w' e:=by
 have n1:No (.cells #[.int .i64 0,.int .i64 0,.int .i64 0,.int .i64 0,.slice none 0 0,.string (ByteArray.mk #[]),.slice none 0 0,.slice none 0 0,.int .i64 0,.slice none 0 0] 44):=⟨⟩;have n2:No (.cells #[.slice k.ta k.tn k.tk,.slice k.oa k.on k.ok] 27):=⟨⟩;have b0:Below w w ((w.alloc n2).alloc n1):=(Bf w _).alloc (by simp) _;have A0:=(Ag.new w n2).alloc n1;have R0:Ag ((w.alloc n2).alloc n1) (w.heap.size+1) n1:=by
  have:=Ag.new (w.alloc n2) n1;simpa using this
 have HK:=hid hk;have HS:=hid hs;have HW:=hid hw;have HX:=hid hx;have C1:=hid (Hk k _ (hk.below b0) hcap hw);unfold Aw.val at C1;unfold Aw.val;obtain⟨x0,x1⟩:=A0.two;have ne1:¬w.heap.size=w.heap.size+1:=by omega
 have ne2:¬w.heap.size+1=w.heap.size:=by omega
 clear hk hs hw hx;go_enter func9,ntmps9
 go_wp2_with fail
 refine C1.out.mono ?_;rintro e w1 ⟨rfl,hb1⟩;have A1:=A0.below hb1;have R1:=R0.below hb1;have B1:=Af b0 hb1;clear x0 x1 C1 A0 R0 b0 hb1;obtain⟨x0,x1⟩:=A1.two;obtain⟨r0,r1,r2,r3,r4,r5,r6,r7,r8,r9⟩:=R1.jE;have rf:=R1.jC;cases t:Bj k with
 |false=>
  have N:=hid (show IU k x=none by simp[IU,t]);go_wp2;refine bodyPost_ret (GJ _ _ (w.heap.size+1) _ _ _ _ _ _ _ _ _ _ false (Ag.all10 R1 _ _ _ _ _ _ _ _ _ _) rfl rfl) rfl (Ll.none N ?_);iterate 10 refine Below.setCell ?_ (by dsimp only;omega) _
  exact B1
 |true=>
  have ho:=(Bm t).2.1;obtain⟨on1,on2,_,_⟩:=BZ ho;obtain⟨ob,off,eoa,_,_⟩:=HK.out.2.2.2 (by omega);have TL:Hid (IU k x=Bg (fun i=>(k.O i).id) k.on x):=hid (by rw[IU,if_pos t]);have C2:=hid (Hm ob off k.on k.ok k.O w1 on2 (by rw[<-eoa];exact(HK.out.below B1).2.2.2) (Bu ho) HW);rw[eoa]at x1;have EOA:=hid eoa;clear eoa t ho;go_wp2_with fail
  refine C2.out.mono ?_;rintro e w2 ⟨c,nb,kv,rfl,hN,hb2⟩;have HN:=hid hN;have R2:=R1.below hb2;have B2:=Af B1 hb2;have LK:=hN.map.look HX.out;clear hN C2 x0 x1 r0 r1 r2 r3 r4 r5 r6 r7 r8 r9 rf R1;obtain⟨r0,r1,r2,r3,r4,r5,r6,r7,r8,r9⟩:=R2.jE;have rf:=R2.jC;cases hf:Bg (fun i=>(k.O i).id) k.on x with
  |none=>
   rw[hf]at LK TL;simp only[Option.map_none]at LK;clear hf;go_wp2;refine bodyPost_ret (GJ _ _ (w.heap.size+1) _ _ _ _ _ _ _ _ _ _ false (Ag.all10 R2 _ _ _ _ _ _ _ _ _ _) rfl rfl) rfl (Ll.none TL ?_);iterate 10 refine Below.setCell ?_ (by dsimp only;omega) _
   exact B2
  |some u=>
   have hu:=(Av hf).1;rw[hf]at LK TL;simp only[Option.map_some]at LK;have y0:_=some (Value.pointer (some ⟨ob,off+u*10,none⟩)):=(HN.out.blk u hu).c0 0 rfl;obtain⟨b',off',ea,_,hcc⟩:=(HK.out.below B2).2.2.2 (by omega);have ee:=EOA.out.symm.trans ea;cases ee;obtain⟨⟨q0,q1,q2,q3,q4,q5,q6,q7,q8,q9⟩,ht⟩:=hcc u hu;have C3:=hid (Lu (k.O u) w2 ht (HS.out.2.2 u hu));unfold Ab.val at C3;clear hf hcc ht ea EOA;go_wp2_with fail
   refine C3.out.mono ?_;rintro e w3 ⟨g,rfl,sg,ng,ag,hb3⟩;have R3:=R2.below hb3;have B3:=Af B2 hb3;have NG:=hid (ng.low B2.size);have SG:=hid sg;have AG:=hid ag;clear r0 r1 r2 r3 r4 r5 r6 r7 r8 r9 rf C3 R2 B2 hb3 q0 q1 q2 q3 q4 q5 q6 q7 q8 q9 sg ng ag y0 LK;obtain⟨r0,r1,r2,r3,r4,r5,r6,r7,r8,r9⟩:=R3.jE;have rf:=R3.jC;unfold Ar.val AJ.val AH.val;go_wp2;refine bodyPost_ret (GJ _ _ (w.heap.size+1) _ _ _ _ _ _ _ _ _ _ true (Ag.all10 R3 _ _ _ _ _ _ _ _ _ _) rfl rfl) rfl ⟨g,by rw[TL.out];rfl,by rw[JM,TL.out];exact SG.out,⟨?_,?_,?_,?_⟩,AG,?_⟩
   ·refine NG.out.1.of (by simp) (fun q hq hn'=>?_);have q2:=NG.out.1.ne R3 (by decide) q hq hn';iterate 10 rw[blk_setCell_other _ _ _ _ (by dsimp only;omega)]
   ·refine NG.out.2.1.of (by simp) (fun q hq hn'=>?_);have q2:=NG.out.2.1.ne R3 (by decide) q hq hn';iterate 10 rw[blk_setCell_other _ _ _ _ (by dsimp only;omega)]
   ·refine NG.out.2.2.1.of (by simp) (fun q hq hn'=>?_);have q2:=NG.out.2.2.1.ne R3 (by decide) q hq hn';iterate 10 rw[blk_setCell_other _ _ _ _ (by dsimp only;omega)]
   ·refine NG.out.2.2.2.of (by simp) (fun q hq hn'=>?_);have q2:=NG.out.2.2.2.ne R3 (by decide) q hq hn';iterate 10 rw[blk_setCell_other _ _ _ _ (by dsimp only;omega)]
   ·iterate 10 refine Below.setCell ?_ (by dsimp only;omega) _
    exact B3
theorem Sl{n:Nat}{h:Nat->Int}:((List.range n).map h).Pairwise (· <·)↔∀i j,i<j->j<n->h i<h j:=by
 rw[List.pairwise_iff_getElem];constructor
 ·intro H i j hij hj;have:=H i j (by simp;omega) (by simp;omega) hij;simpa using this
 ·intro H i j hi hj hij;simp at hi hj;simpa using H i j hij hj
theorem Hd{n:Nat}{h:Nat->Int}:Ci n h=true↔n<=10/\((List.range n).map h).Pairwise (· <·)/\∀x∈(List.range n).map h,1<=x/\x<=9999:=by
 unfold Ci;simp only[Bool.and_eq_true,decide_eq_true_eq,List.all_eq_true,List.mem_range];constructor
 ·rintro⟨h1,h2⟩;refine⟨h1,?_,?_⟩
  ·rw[Sl];refine KJ (fun i i0 hi=>?_);have:=h2 i hi;unfold DZ at this;simp only[Bool.and_eq_true,Bool.or_eq_true,decide_eq_true_eq,beq_iff_eq]at this;rcases this.2 with e|e
   ·omega
   ·exact e
  ·intro x hx;obtain⟨i,hi,rfl⟩:=List.mem_map.1 hx;have:=h2 i (List.mem_range.1 hi);unfold DZ at this;simp only[Bool.and_eq_true,Ep]at this;exact this.1
 ·rintro⟨h1,h2,h3⟩;refine⟨h1,fun i hi=>?_⟩;rw[Sl]at h2;unfold DZ;simp only[Bool.and_eq_true,Bool.or_eq_true,decide_eq_true_eq,beq_iff_eq,Ep];refine⟨h3 _ (List.mem_map.2 ⟨i,List.mem_range.2 hi,rfl⟩),?_⟩;by_cases e:i=0
  ·exact .inl e
  ·exact .inr (h2 (i-1) i (by omega) hi)
theorem Nf{L:List Int}(h1:L.length<=10)(h2:L.Pairwise (· <·))(h3:∀x∈L,1<=x/\x<=9999):Ci L.length (AV L)=true:=by
 rw[Hd,Py];exact⟨h1,h2,h3⟩
theorem Gn(t:Ae):t.same t:=⟨rfl,rfl,⟨rfl,rfl,rfl⟩,rfl,⟨rfl,rfl,rfl⟩,⟨rfl,rfl⟩,rfl⟩
theorem QN{α:Type}{l:List α}{t j:Nat}{x z:α}(hj:j<l.length):(l.set t x).getD j z=if j=t then x else l.getD j z:=by
 rw[List.getD_eq_getElem?_getD,List.getD_eq_getElem?_getD,List.getElem?_set];by_cases e:t=j
 ·subst e;simp[hj]
 ·have e':¬j=t:=fun h=>e h.symm;simp[e,e']
section
variable {lt:List Ae}{lo:List Ab} (ok:okL lt lo=true)
include ok
theorem Jp{t:Nat}(ht:t<lt.length){x:Ae}(hx:JO x)(hi:x.id=lt[t].id)(hm:lt[t].made<=x.made):okL (lt.set t x) lo=true:=by
 have e:(Bo none 0 none 0 lt lo).T t=lt[t]:=Cy ht;have k:=(Bt.1 ok).setT (t:=t) (Gw.2 hx) (by rw[e];exact hi) (by rw[e];exact hm);have h:=Bt.2 k;refine(Cp ?_).trans h;refine⟨by simp[Bo,Aw.setT],fun j hj=>?_,rfl,fun j hj=>Ab.same.refl _⟩;have hj':j<lt.length:=hj;have e2:(Bo none 0 none 0 (lt.set t x) lo).T j=((Bo none 0 none 0 lt lo).setT t x).T j:=QN hj';rw[e2];exact Gn _
theorem KQ{u:Nat}(hu:u<lo.length){x:Ab}(hx:MA x)(h1:x.id=lo[u].id)(h2:x.kind=lo[u].kind)(h3:x.up=lo[u].up):okL lt (lo.set u x)=true:=by
 have e:(Bo none 0 none 0 lt lo).O u=lo[u]:=Az hu;have k:=(Bt.1 ok).setO (i:=u) (Jt.2 hx) (by rw[e];exact h1) (by rw[e];exact h2) (by rw[e];exact h3);have h:=Bt.2 k;refine(Cp ?_).trans h;refine⟨rfl,fun j hj=>Gn _,by simp[Bo,Aw.setO],fun j hj=>?_⟩;have hj':j<lo.length:=hj;have e2:(Bo none 0 none 0 lt (lo.set u x)).O j=((Bo none 0 none 0 lt lo).setO u x).O j:=QN hj';rw[e2];exact Ab.same.refl _
theorem FF:Aa lo 0=Aa lo 0/\(Aa lo 0).id=1/\(Aa lo 0).up=0:=by
 have r:=(Bt.1 ok).root;unfold FJ at r;simp only[Bool.and_eq_true,beq_iff_eq]at r;exact⟨rfl,r.1.1,r.2⟩
theorem UY{j:Nat}(hj:j<lo.length):1<=(Aa lo j).id:=by
 have r:=(FF ok).2.1;by_cases e:j=0
 ·subst e;omega
 ·have h:=(Bt.1 ok).rise 0 j (by omega) hj;have h':(Aa lo 0).id<(Aa lo j).id:=h;omega
end
theorem J8(x:Ab):∀lo:List Ab,∃p,p<=lo.length/\Bn x lo=lo.take p++x::lo.drop p/\(∀j,j<p->¬x.id<(Aa lo j).id)/\(p<lo.length->x.id<(Aa lo p).id)
 |[]=>⟨0,Nat.le_refl _,rfl,fun j hj=>absurd hj (Nat.not_lt_zero j),fun h=>absurd h (Nat.not_lt_zero 0)⟩
 |y::r=>by
  by_cases h:x.id<y.id
  ·refine⟨0,Nat.zero_le _,by simp[Bn,h],fun j hj=>absurd hj (Nat.not_lt_zero j),fun _=>?_⟩;simpa[Aa]using h
  ·obtain⟨p,h1,h2,h3,h4⟩:=J8 x r;refine⟨p+1,by simpa using h1,by simp[Bn,h,h2],fun j hj=>?_,fun hp=>?_⟩
   ·cases j with
    |zero=>simpa[Aa]using h
    |succ j=>have:=h3 j (by omega);simpa[Aa]using this
   ·have:=h4 (by simpa using hp);simpa[Aa]using this
theorem aD{lo:List Ab}{p j:Nat}{x:Ab}(hp:p<=lo.length):Aa (lo.take p++x::lo.drop p) j=FX (Aa lo) p x j:=by
 unfold Aa FX;simp only[List.getD_eq_getElem?_getD];have lp:(lo.take p).length=p:=by simp[hp]
 by_cases h1:j<p
 ·rw[if_pos h1,List.getElem?_append_left (by omega),List.getElem?_take_of_lt h1]
 ·rw[if_neg h1,List.getElem?_append_right (by omega),lp];by_cases h2:j=p
  ·subst h2;simp
  ·rw[if_neg h2];obtain⟨m,rfl⟩:∃m,j=p+m+1:=⟨j-p-1,by omega⟩;have e:p+m+1-p=m+1:=(by omega);rw[e,List.getElem?_cons_succ,List.getElem?_drop];congr 2
theorem YK{lt:List Ae}{lo:List Ab}(ok:okL lt lo=true){x:Ab}(hx:MA x)(hn:Fw lt.length (Ao lt) x.id=true){u:Nat}(hu:Gl lo x.up=some u)(hk:(Aa lo u).kind=3)(hne:∀j,j<lo.length->(Aa lo j).id≠x.id)(h1:1<x.id):okL lt (Bn x lo)=true:=by
 obtain⟨p,hp,e,lo',hi'⟩:=J8 x lo;have kk:=Bt.1 ok;have u1:=Av hu;have p0:0<p:=by
  by_cases h:p=0
  ·subst h;have:=hi' (by have:=Ek ok;omega);have:=(FF ok).2.1;omega
  ·omega
 have k:=kk.ins (p:=p) (x:=x) p0 hp (fun j hj=>by
  have h1:=lo' j hj;have h2:=hne j (by omega);show(Aa lo j).id<x.id;omega) (fun j hj hjn=>by
  have h0:=hi' (by have:j<lo.length:=hjn;omega);show x.id<(Aa lo j).id;by_cases ej:j=p
  ·subst ej;exact h0
  ·have h2:(Aa lo p).id<(Aa lo j).id:=kk.rise p j (by omega) hjn;omega) (Jt.2 hx) hn ⟨u,u1.1,u1.2,hk⟩
 have h:=Bt.2 k;refine(Cp ?_).trans h;have el:(Bn x lo).length=lo.length+1:=KT;refine⟨rfl,fun j hj=>Gn _,el,fun j hj=>?_⟩;have e2:(Bo none 0 none 0 lt (Bn x lo)).O j=((Bo none 0 none 0 lt lo).ins p x).O j:=by
  show Aa (Bn x lo) j=FX (Aa lo) p x j;rw[e];exact aD hp
 rw[e2];exact Ab.same.refl _
theorem RY{G:List Int}{x:Int}:hasB G.length (AV G) x=true↔x∈G:=by
 unfold hasB;rw[List.any_eq_true];constructor
 ·rintro⟨i,hi,e⟩;have hi':=List.mem_range.1 hi;have:AV G i=x:=by simpa using e
  rw[<-this];unfold AV;rw[List.getD_eq_getElem?_getD,List.getElem?_eq_getElem hi'];exact List.getElem_mem hi'
 ·intro h;obtain⟨i,hi,e⟩:=List.mem_iff_getElem.1 h;exact⟨i,List.mem_range.2 hi,by simp[AV,hi,e]⟩
theorem ZU(lo:List Ab):(List.range lo.length).map (Aa lo)=lo:=by
 refine List.ext_getElem (by simp) (fun i h1 h2=>?_);simp[Aa,h2]
theorem Yq{lt:List Ae}{lo:List Ab}(ok:okL lt lo=true){x:Int}{u:Nat}(hu:Gl lo x=some u)(u0:0<u):okL lt (Eo (B9 lo u) lo lo.length)=true:=by
 have kk:=Bt.1 ok;obtain⟨ul,_⟩:=Av hu;have h0:∀j,j<lo.length->(fun i=>(Aa lo i).id) j≠(fun i=>(Aa lo i).up) 0:=fun j hj=>by
  have:=UY ok hj;have:=(FF ok).2.2;show(Aa lo j).id≠(Aa lo 0).up;omega
 have rise:Du (fun i=>(Aa lo i).id) lo.length:=kk.rise;have hc:Hh (fun i=>(Aa lo i).id) (fun i=>(Aa lo i).up) lo.length u:=Jy ok ul;have gone:∀y,hasB (B9 lo u).length (AV (B9 lo u)) y=true↔∃i,i<lo.length/\(∃m,m<lo.length/\Bq (fun i=>(Aa lo i).id) (fun i=>(Aa lo i).up) lo.length m i=some u)/\(Aa lo i).id=y:=by
  intro y;rw[RY];unfold B9;rw[LG,List.mem_map];constructor
  ·rintro⟨i,hi,e⟩;have:=(Ev rise h0 ul).1 hi;exact⟨i,this.1,this.2,e⟩
  ·rintro⟨i,h1,h2,e⟩;exact⟨i,(Ev rise h0 ul).2 ⟨h1,h2⟩,e⟩
 have k:=kk.cut (keep:=fun i=> !hasB (B9 lo u).length (AV (B9 lo u)) (Aa lo i).id) (by
  simp only[Bool.not_eq_true'];rw[<-Bool.not_eq_true,gone];rintro⟨i,hi,⟨m,_,hm⟩,e⟩;have e0:i=0:=rise.inj hi (by omega) e;subst e0;cases m with
  |zero=>simp[Bq]at hm;omega
  |succ m=>simp[Bq,Jw]at hm) (fun i p i0 hi hp e hk=>by
  simp only[Bool.not_eq_true']at hk ⊢;rw[<-Bool.not_eq_true,gone]at hk ⊢;rintro⟨j,hj,⟨m,_,hm⟩,ej⟩;have e1:j=p:=rise.inj hj hp ej;subst e1;refine hk ⟨i,hi,?_,rfl⟩;have pi:Jw (fun i=>(Aa lo i).id) (fun i=>(Aa lo i).up) lo.length i=some j:=by
   unfold Jw;rw[if_neg (by omega)];have e':(Aa lo i).up=(Aa lo j).id:=e.symm;show Bg (fun i=>(Aa lo i).id) lo.length (Aa lo i).up=some j;rw[e'];exact Dt rise hp
  have pm:Bq (fun i=>(Aa lo i).id) (fun i=>(Aa lo i).up) lo.length (1+m) i=some u:=by
   rw[Fc,PV,pi];exact hm
  exact⟨1+m,Nz hc hi pm,pm⟩)
 have h:=Bt.2 k;refine(Cp ?_).trans h;have es:Eo (B9 lo u) lo lo.length=(E9 lo.length (fun i=> !hasB (B9 lo u).length (AV (B9 lo u)) (Aa lo i).id)).map (Aa lo):=by
  unfold Eo E9;rw[List.take_length];generalize B9 lo u=G;have e1:lo.filter (fun o=> !hasB G.length (AV G) o.id)=((List.range lo.length).map (Aa lo)).filter (fun o=> !hasB G.length (AV G) o.id):=by rw[ZU]
  rw[e1,List.filter_map];rfl
 refine⟨rfl,fun j hj=>Gn _,by show(Eo _ lo lo.length).length=_;rw[es];simp[Aw.cut,Bo],fun j hj=>?_⟩;have e2:(Bo none 0 none 0 lt (Eo (B9 lo u) lo lo.length)).O j=((Bo none 0 none 0 lt lo).cut (fun i=> !hasB (B9 lo u).length (AV (B9 lo u)) (Aa lo i).id)).O j:=by
  have hj':j<(E9 lo.length (fun i=> !hasB (B9 lo u).length (AV (B9 lo u)) (Aa lo i).id)).length:=hj;show Aa (Eo (B9 lo u) lo lo.length) j=Aa lo ((E9 lo.length (fun i=> !hasB (B9 lo u).length (AV (B9 lo u)) (Aa lo i).id)).getD j 0);rw[es];rw[Az (by simpa using hj')];simp[hj']
 rw[e2];exact Ab.same.refl _
section
variable {k:Aw} (ok:Bj k=true)
include ok
end
end Go.Proofs.YteoihknaljgocaaGreatDoor
