import Derived.Maps.OwnOps
import Derived.Test.YtblapfnglojgjaaGreatDoorNE2k
import Derived.Test.YtblapfnglojgjaaGreatDoorHEk
set_option maxRecDepth 100000
set_option maxHeartbeats 16000000
namespace Go.Proofs.YtblapfnglojgjaaGreatDoor
open Go Go.RowKit Go.Deep Go.Maps Go.BigFrame Go.Shelf Go.Proofs.Tryz
inductive Zr(lt:List Af) (lo:List Ae) (s:Bd) (c:Int) (tx:ByteArray) (lt':List Af) (lo':List Ae):Prop
 |form (h:s.ok=false) (hc:c=2) (ht:tx=⟨#[]⟩) (e1:lt'=lt) (e2:lo'=lo)
 |thread (h:s.ok=true) (hn:aG lt s.th=none) (hc:c=3) (ht:tx=⟨#[]⟩) (e1:lt'=lt) (e2:lo'=lo)
 |act (h:s.ok=true) (t:Nat) (ht:t<lt.length) (hn:aG lt s.th=some t) (p:bu lt[t] s lt lo t c tx lt' lo')
variable {ca co:Nat}{ta oa:Option Addr}{lt:List Af}{lo:List Ae}{k:AJ}
theorem Cf.form{w:World}{B n m:Nat}(h:Cf w B (.slice ta n ca) (.slice oa m co) lt lo)(h1:0<lt.length)(h2:0<lo.length):∃g q,ta=some ⟨g,0,none⟩/\oa=some ⟨q,0,none⟩:=by
 obtain⟨rfl,rfl⟩:=h.len;obtain⟨g,_,_,e,_⟩:=Gu h.t h1;obtain⟨q,_,_,e',_⟩:=Gu h.o h2;exact⟨g,q,e,e'⟩
theorem Xk(ok:AW k=true):k.small:=by
 obtain⟨h1,h2,_⟩:=CG ok;have t:=Cx h1;have o:=BJ h2;refine⟨⟨by omega,fun i hi=>?_⟩,by omega,fun i hi=>?_⟩
 ·have h:=t.2.2 i hi;unfold Dw at h;simp only[Bool.and_eq_true]at h;exact(JL.1 h.1).small
 ·have h:=o.2.2.1 i hi;unfold Ff at h;simp only[Bool.and_eq_true]at h;have f:=J5.1 h.1;have it:=f.jA;unfold De at it;simp only[Bool.and_eq_true,decide_eq_true_eq,List.all_eq_true,List.mem_range]at it;refine⟨by have:=(Cn f.l1).2;omega,by have:=H7 f.data;omega,⟨by omega,fun j hj=>?_⟩,by have:=Nh f.own;omega,by have:=(Cn f.l2).2;omega⟩;have:=H7 (it.2 j hj);omega
theorem ZD(h:k.same (Dm ta ca oa co lt lo))(x:Int):Bv (fun i=>(k.T i).id) k.tn x=aG lt x:=by
 unfold aG;have e:lt.length=k.tn:=h.1;rw[e];exact(JW (fun i hi=>(h.2.1 i hi).1) x).symm
theorem ak(h:k.same (Dm ta ca oa co lt lo)):k.same (Dm none 0 none 0 lt lo):=h
theorem Vv(k:AJ)(w:World)(hk:k.at w)(ok:AW k=true)(s:Bd)(hs:s.at w):
 Calls prog 60 #[.agg #[.slice k.ta k.tn k.tk,.slice k.oa k.on k.ok],.agg s] w fun e w'=>∃(lt:List Af) (lo:List Ae) (lt':List Af) (lo':List Ae) (ta:Option Addr) (ca:Nat) (oa:Option Addr) (co:Nat) (c:Int) (tx:ByteArray),e= .returned (.tuple #[.agg #[.slice ta lt'.length ca,.slice oa lo'.length co],.int .i64 c,.string tx])/\Cf w' w (.slice ta lt'.length ca) (.slice oa lo'.length co) lt' lo'/\Below w w w'/\k.same (Dm none 0 none 0 lt lo)/\Zr lt lo s c tx lt' lo':=by
 have n2:Na s:=⟨⟩;have n4:No (.cells #[.slice k.ta k.tn k.tk,.slice k.oa k.on k.ok] 27):=⟨⟩;have n5:No (.cells #[.slice none 0 0,.slice none 0 0] 27):=⟨⟩;have n1:Nw (((w.alloc n4).alloc (.cells n2 77)).alloc n5):=⟨⟩;have b0:Below w w n1:=((CY w _).alloc (by simp) _).alloc (by simp;omega) _;have A0:Ai n1 w n4:=((Ai.new w _).alloc _).alloc _;have P0:Ai n1 (w.heap.size+1) (.cells n2 77):=by have:=(Ai.new (w.alloc n4) (.cells n2 77)).alloc n5;simpa using this
 have R0:Ai n1 (w.heap.size+1+1) n5:=by have:=Ai.new ((w.alloc n4).alloc (.cells n2 77)) n5;simpa using this
 have HK:=hid hk;have OK:=hid ok;have SA:=hid hs;have HB:=hid b0;have HA:=hid A0;have HP:=hid P0;have HR:=hid R0;have sm:=Xk ok;have SMA:=hid sm;clear b0 A0 P0 R0 hk ok hs sm;go_enter func60,ntmps60
 obtain⟨x0,x1⟩:=HA.out.two;obtain⟨s0,s1,s2,s3,s4,s5,s6,s7,s8,s9⟩:=HP.out.jE;go_wp2_with fail
 have BX:Hid (∀W,Below (n1:World).heap.size n1 W->Ai W w n4/\Ai W (w.heap.size+1) (.cells n2 77)/\Ai W (w.heap.size+1+1) n5):=hid (fun W hW=>⟨HA.out.below hW,HP.out.below hW,HR.out.below hW⟩);have LW:Hid (∀W,Below (n1:World).heap.size n1 W->Below w w W):=hid (fun W hW=>Ac HB hW);have V0:=hid (Below.refl (n1:World).heap.size n1);have S0:=hid HB.out.size;clear x0 x1 s0 s1 s2 s3 s4 s5 s6 s7 s8 s9 HA HP HR HB;generalize (n1:World)=V at *;refine(Wk k V (HK.out.below (LW _ V0)) SMA).mono ?_;rintro e w1 ⟨lt,lo,ta,oa,ca,co,rfl,ks,sm,hb1⟩;have V1:=hid (Ac V0 hb1);have SM:=hid (ak sm);have OKL:Hid (KU lt lo=true):=hid ((Du sm).trans OK);have TS:Hid (Bv (fun i=>(k.T i).id) k.tn s.th=aG lt s.th):=hid (ZD sm s.th);obtain⟨g,q,rfl,rfl⟩:=ks.form (by have:=Gn OKL.out;omega) (by have:=FR OKL.out;omega);have KS1:=hid ks;clear hb1 sm ks V0;have n3:No (.cells #[.slice g lt.length ca,.slice q lo.length co] 27):=⟨⟩;have V2:=hid (V1.out.alloc V1.out.size n3);have O2:=hid (Ai.new w1 n3);have KS2:=hid (KS1.out.below ((Below.refl _ w1).alloc nr n3));clear KS1;obtain⟨x0,x1⟩:=(BX _ V2).1.two;obtain⟨s0,s1,s2,s3,s4,s5,s6,s7,s8,s9⟩:=(BX _ V2).2.1.jE;obtain⟨r0,r1⟩:=(BX _ V2).2.2.two;have rf:=(BX _ V2).2.2.jC;go_wp2_with fail
 clear x0 x1 s0 s1 s2 s3 s4 s5 s6 s7 s8 s9 r0 r1 rf;clear V1;generalize w1.alloc n3=W2 at *;generalize w1.heap.size=O at *;have SS:Hid (Calls prog 87 #[.agg n2] W2 fun e w'=>e= .returned (.bool s.ok)/\Below W2 W2 w'):=hid (by
  have h:=SA.out.below (LW _ V2);exact SK s.th s.kind s.id s.to s.cat s.data s.b1 s.c1.a s.c1.n s.c1.k s.c1.f s.c1.g s.b2 s.c2.a s.c2.n s.c2.k s.c2.f s.c2.g W2 h.2.2 h.1.1 h.2.1.1 h.1.2 h.2.1.2)
 refine SS.out.mono ?_;rintro e w3 ⟨rfl,hb3⟩;have V3:=hid (Ac V2 hb3);have KS3:=hid (KS2.out.below hb3);have O3:=hid (O2.out.below hb3);clear hb3 SS V2 O2 KS2;have L3:=hid (LW.out _ V3);obtain⟨x0,x1⟩:=(BX _ V3).1.two;obtain⟨s0,s1,s2,s3,s4,s5,s6,s7,s8,s9⟩:=(BX _ V3).2.1.jE;obtain⟨r0,r1⟩:=(BX _ V3).2.2.two;have rf:=(BX _ V3).2.2.jC;obtain⟨u0,u1⟩:=O3.out.two;cases so:s.ok with
 |false=>
  have SO:=hid so;go_wp2;have RB:=hid (BX.out _ V3).2.2;refine bodyPost_ret (Am _ _ (w.heap.size+1+1) 4 _ _ _ _ Tryz.results60 ((RB.out.jB (i:=0) _).jB (i:=1) _) rfl rfl rfl) rfl ⟨lt,lo,lt,lo,(some ⟨g,0,none⟩),ca,(some ⟨q,0,none⟩),co,2,_,rfl,?_,?_,SM,.form SO rfl rfl rfl rfl⟩
  ·exact((KS3.out.base S0).set RB (.inl rfl) _).set (RB.out.jB (i:=0) _) (.inl rfl) _
  ·exact(L3.out.setCell (by dsimp only;omega) _).setCell (by dsimp only;omega) _
 |true=>
  have SO:=hid so;clear so;go_wp2_with fail
  refine(Jp k s.th w3 (HK.out.below L3)).mono ?_;rintro e w4 ⟨rfl,hb4⟩;rw[TS.out];have V4:=hid (Ac V3 hb4);have KS4:=hid (KS3.out.below hb4);have O4:=hid (O3.out.below hb4);clear hb4 V3 KS3 O3 x0 x1 s0 s1 s2 s3 s4 s5 s6 s7 s8 s9 r0 r1 rf u0 u1 L3;have L3:=hid (LW.out _ V4);obtain⟨x0,x1⟩:=(BX _ V4).1.two;obtain⟨s0,s1,s2,s3,s4,s5,s6,s7,s8,s9⟩:=(BX _ V4).2.1.jE;obtain⟨r0,r1⟩:=(BX _ V4).2.2.two;have rf:=(BX _ V4).2.2.jC;obtain⟨u0,u1⟩:=O4.out.two;cases hn:aG lt s.th with
  |none=>
   have HN:=hid hn;simp only[IJ];have j0:decide (((-1:Int))<0)=true:=rfl;go_wp2;have RB:=hid (BX.out _ V4).2.2;refine bodyPost_ret (Am _ _ (w.heap.size+1+1) 4 _ _ _ _ Tryz.results60 ((RB.out.jB (i:=0) _).jB (i:=1) _) rfl rfl rfl) rfl ⟨lt,lo,lt,lo,(some ⟨g,0,none⟩),ca,(some ⟨q,0,none⟩),co,3,_,rfl,?_,?_,SM,.thread SO HN rfl rfl rfl rfl⟩
   ·exact((KS4.out.base S0).set RB (.inl rfl) _).set (RB.out.jB (i:=0) _) (.inl rfl) _
   ·exact(L3.out.setCell (by dsimp only;omega) _).setCell (by dsimp only;omega) _
  |some t=>
   have HT:=hid hn;have ht:t<lt.length:=(AZ hn).1;clear hn;simp only[IJ];have j0:decide (((t:Nat):Int)<0)=false:=decide_eq_false (by omega);have j1:¬((t:Nat):Int)<0:=(by omega);obtain⟨w3,e3⟩:∃W,W=w4:=⟨_,rfl⟩;subst e3;have KS3:=KS4;clear KS4;have SZ3:Hid (V.heap.size<=w3.heap.size):=hid V4.out.size;have SA3:Hid (∀W,Below V w3 W->s.at W):=hid (fun W hW=>SA.out.below (L3.out.trans (hW.mono S0)));have RR:Hid (∀W,Below V w3 W->Ai W (w.heap.size+1+1) (.cells #[.slice none 0 0,.slice none 0 0] 27)):=hid (fun W hW=>(BX _ (V4.out.trans hW)).2.2);have sk:=(UO SO).kind;have cs:(s.kind=1∨s.kind=12∨s.kind=14)∨(s.kind=2∨s.kind=3∨s.kind=4∨s.kind=5)∨s.kind=11∨(s.kind=6∨s.kind=7∨s.kind=8∨s.kind=9∨s.kind=10∨s.kind=13∨s.kind=15):=(by omega);have KIND:=hid cs;clear sk cs;rcases KIND with hk|hk|hk|hk
   ·have HKD:=hid hk;rcases hk with hk|hk|hk
    ·skip;have k1:(s.kind==1)=true:=(by rw[hk];rfl);have d1:decide (s.kind=1)=true:=(by rw[hk];rfl);have k12:(s.kind==12)=false:=(by rw[hk];rfl);have d12:decide (s.kind=12)=false:=(by rw[hk];rfl);have k14:(s.kind==14)=false:=(by rw[hk];rfl);have d14:decide (s.kind=14)=false:=(by rw[hk];rfl);have k2:(s.kind==2)=false:=(by rw[hk];rfl);have d2:decide (s.kind=2)=false:=(by rw[hk];rfl);have k3:(s.kind==3)=false:=(by rw[hk];rfl);have d3:decide (s.kind=3)=false:=(by rw[hk];rfl);have k4:(s.kind==4)=false:=(by rw[hk];rfl);have d4:decide (s.kind=4)=false:=(by rw[hk];rfl);have k5:(s.kind==5)=false:=(by rw[hk];rfl);have d5:decide (s.kind=5)=false:=(by rw[hk];rfl);have k11:(s.kind==11)=false:=(by rw[hk];rfl);have d11:decide (s.kind=11)=false:=(by rw[hk];rfl);clear hk;have AC:=hid (Pv lt lo g ca q co V w3 KS3 SZ3 OKL t ht s SA3 SO HKD);go_wp2_with fail
     refine AC.out.mono ?_;rintro e w5 ⟨lt',lo',ta,ca',oa,co',c,tx,rfl,k5,b5,p5⟩;have K5:=hid k5;have B5:=hid b5;have P5:=hid p5;clear k5 b5 p5 AC x0 x1 s0 s1 s2 s3 s4 s5 s6 s7 s8 s9 r0 r1 rf u0 u1;have RB:=hid (RR.out _ B5);have L5:=hid (L3.out.trans (B5.out.mono S0));obtain⟨r0,r1⟩:=RB.out.two;have rf:=RB.out.jC;go_wp2;refine bodyPost_ret (Am _ _ (w.heap.size+1+1) 4 _ _ _ _ Tryz.results60 ((RB.out.jB (i:=0) _).jB (i:=1) _) rfl rfl rfl) rfl ⟨lt,lo,lt',lo',ta,ca',oa,co',c,tx,rfl,?_,?_,SM,.act SO t ht HT P5⟩
     ·exact((K5.out.base S0).set RB (.inl rfl) _).set (RB.out.jB (i:=0) _) (.inl rfl) _
     ·exact(L5.out.setCell (by dsimp only;omega) _).setCell (by dsimp only;omega) _
    ·skip;have k1:(s.kind==1)=false:=(by rw[hk];rfl);have d1:decide (s.kind=1)=false:=(by rw[hk];rfl);have k12:(s.kind==12)=true:=(by rw[hk];rfl);have d12:decide (s.kind=12)=true:=(by rw[hk];rfl);have k14:(s.kind==14)=false:=(by rw[hk];rfl);have d14:decide (s.kind=14)=false:=(by rw[hk];rfl);have k2:(s.kind==2)=false:=(by rw[hk];rfl);have d2:decide (s.kind=2)=false:=(by rw[hk];rfl);have k3:(s.kind==3)=false:=(by rw[hk];rfl);have d3:decide (s.kind=3)=false:=(by rw[hk];rfl);have k4:(s.kind==4)=false:=(by rw[hk];rfl);have d4:decide (s.kind=4)=false:=(by rw[hk];rfl);have k5:(s.kind==5)=false:=(by rw[hk];rfl);have d5:decide (s.kind=5)=false:=(by rw[hk];rfl);have k11:(s.kind==11)=false:=(by rw[hk];rfl);have d11:decide (s.kind=11)=false:=(by rw[hk];rfl);clear hk;have AC:=hid (Pv lt lo g ca q co V w3 KS3 SZ3 OKL t ht s SA3 SO HKD);go_wp2_with fail
     refine AC.out.mono ?_;rintro e w5 ⟨lt',lo',ta,ca',oa,co',c,tx,rfl,k5,b5,p5⟩;have K5:=hid k5;have B5:=hid b5;have P5:=hid p5;clear k5 b5 p5 AC x0 x1 s0 s1 s2 s3 s4 s5 s6 s7 s8 s9 r0 r1 rf u0 u1;have RB:=hid (RR.out _ B5);have L5:=hid (L3.out.trans (B5.out.mono S0));obtain⟨r0,r1⟩:=RB.out.two;have rf:=RB.out.jC;go_wp2;refine bodyPost_ret (Am _ _ (w.heap.size+1+1) 4 _ _ _ _ Tryz.results60 ((RB.out.jB (i:=0) _).jB (i:=1) _) rfl rfl rfl) rfl ⟨lt,lo,lt',lo',ta,ca',oa,co',c,tx,rfl,?_,?_,SM,.act SO t ht HT P5⟩
     ·exact((K5.out.base S0).set RB (.inl rfl) _).set (RB.out.jB (i:=0) _) (.inl rfl) _
     ·exact(L5.out.setCell (by dsimp only;omega) _).setCell (by dsimp only;omega) _
    ·skip;have k1:(s.kind==1)=false:=(by rw[hk];rfl);have d1:decide (s.kind=1)=false:=(by rw[hk];rfl);have k12:(s.kind==12)=false:=(by rw[hk];rfl);have d12:decide (s.kind=12)=false:=(by rw[hk];rfl);have k14:(s.kind==14)=true:=(by rw[hk];rfl);have d14:decide (s.kind=14)=true:=(by rw[hk];rfl);have k2:(s.kind==2)=false:=(by rw[hk];rfl);have d2:decide (s.kind=2)=false:=(by rw[hk];rfl);have k3:(s.kind==3)=false:=(by rw[hk];rfl);have d3:decide (s.kind=3)=false:=(by rw[hk];rfl);have k4:(s.kind==4)=false:=(by rw[hk];rfl);have d4:decide (s.kind=4)=false:=(by rw[hk];rfl);have k5:(s.kind==5)=false:=(by rw[hk];rfl);have d5:decide (s.kind=5)=false:=(by rw[hk];rfl);have k11:(s.kind==11)=false:=(by rw[hk];rfl);have d11:decide (s.kind=11)=false:=(by rw[hk];rfl);clear hk;have AC:=hid (Pv lt lo g ca q co V w3 KS3 SZ3 OKL t ht s SA3 SO HKD);go_wp2_with fail
     refine AC.out.mono ?_;rintro e w5 ⟨lt',lo',ta,ca',oa,co',c,tx,rfl,k5,b5,p5⟩;have K5:=hid k5;have B5:=hid b5;have P5:=hid p5;clear k5 b5 p5 AC x0 x1 s0 s1 s2 s3 s4 s5 s6 s7 s8 s9 r0 r1 rf u0 u1;have RB:=hid (RR.out _ B5);have L5:=hid (L3.out.trans (B5.out.mono S0));obtain⟨r0,r1⟩:=RB.out.two;have rf:=RB.out.jC;go_wp2;refine bodyPost_ret (Am _ _ (w.heap.size+1+1) 4 _ _ _ _ Tryz.results60 ((RB.out.jB (i:=0) _).jB (i:=1) _) rfl rfl rfl) rfl ⟨lt,lo,lt',lo',ta,ca',oa,co',c,tx,rfl,?_,?_,SM,.act SO t ht HT P5⟩
     ·exact((K5.out.base S0).set RB (.inl rfl) _).set (RB.out.jB (i:=0) _) (.inl rfl) _
     ·exact(L5.out.setCell (by dsimp only;omega) _).setCell (by dsimp only;omega) _
   ·have HKD:=hid hk;rcases hk with hk|hk|hk|hk
    ·skip;have k1:(s.kind==1)=false:=(by rw[hk];rfl);have d1:decide (s.kind=1)=false:=(by rw[hk];rfl);have k12:(s.kind==12)=false:=(by rw[hk];rfl);have d12:decide (s.kind=12)=false:=(by rw[hk];rfl);have k14:(s.kind==14)=false:=(by rw[hk];rfl);have d14:decide (s.kind=14)=false:=(by rw[hk];rfl);have k2:(s.kind==2)=true:=(by rw[hk];rfl);have d2:decide (s.kind=2)=true:=(by rw[hk];rfl);have k3:(s.kind==3)=false:=(by rw[hk];rfl);have d3:decide (s.kind=3)=false:=(by rw[hk];rfl);have k4:(s.kind==4)=false:=(by rw[hk];rfl);have d4:decide (s.kind=4)=false:=(by rw[hk];rfl);have k5:(s.kind==5)=false:=(by rw[hk];rfl);have d5:decide (s.kind=5)=false:=(by rw[hk];rfl);have k11:(s.kind==11)=false:=(by rw[hk];rfl);have d11:decide (s.kind=11)=false:=(by rw[hk];rfl);clear hk;have AC:=hid (Lz lt lo g ca q co V w3 KS3 SZ3 OKL t ht s SA3 SO HKD);go_wp2_with fail
     refine AC.out.mono ?_;rintro e w5 ⟨lt',lo',ta,ca',oa,co',c,tx,rfl,k5,b5,p5⟩;have K5:=hid k5;have B5:=hid b5;have P5:=hid p5;clear k5 b5 p5 AC x0 x1 s0 s1 s2 s3 s4 s5 s6 s7 s8 s9 r0 r1 rf u0 u1;have RB:=hid (RR.out _ B5);have L5:=hid (L3.out.trans (B5.out.mono S0));obtain⟨r0,r1⟩:=RB.out.two;have rf:=RB.out.jC;go_wp2;refine bodyPost_ret (Am _ _ (w.heap.size+1+1) 4 _ _ _ _ Tryz.results60 ((RB.out.jB (i:=0) _).jB (i:=1) _) rfl rfl rfl) rfl ⟨lt,lo,lt',lo',ta,ca',oa,co',c,tx,rfl,?_,?_,SM,.act SO t ht HT P5⟩
     ·exact((K5.out.base S0).set RB (.inl rfl) _).set (RB.out.jB (i:=0) _) (.inl rfl) _
     ·exact(L5.out.setCell (by dsimp only;omega) _).setCell (by dsimp only;omega) _
    ·skip;have k1:(s.kind==1)=false:=(by rw[hk];rfl);have d1:decide (s.kind=1)=false:=(by rw[hk];rfl);have k12:(s.kind==12)=false:=(by rw[hk];rfl);have d12:decide (s.kind=12)=false:=(by rw[hk];rfl);have k14:(s.kind==14)=false:=(by rw[hk];rfl);have d14:decide (s.kind=14)=false:=(by rw[hk];rfl);have k2:(s.kind==2)=false:=(by rw[hk];rfl);have d2:decide (s.kind=2)=false:=(by rw[hk];rfl);have k3:(s.kind==3)=true:=(by rw[hk];rfl);have d3:decide (s.kind=3)=true:=(by rw[hk];rfl);have k4:(s.kind==4)=false:=(by rw[hk];rfl);have d4:decide (s.kind=4)=false:=(by rw[hk];rfl);have k5:(s.kind==5)=false:=(by rw[hk];rfl);have d5:decide (s.kind=5)=false:=(by rw[hk];rfl);have k11:(s.kind==11)=false:=(by rw[hk];rfl);have d11:decide (s.kind=11)=false:=(by rw[hk];rfl);clear hk;have AC:=hid (Lz lt lo g ca q co V w3 KS3 SZ3 OKL t ht s SA3 SO HKD);go_wp2_with fail
     refine AC.out.mono ?_;rintro e w5 ⟨lt',lo',ta,ca',oa,co',c,tx,rfl,k5,b5,p5⟩;have K5:=hid k5;have B5:=hid b5;have P5:=hid p5;clear k5 b5 p5 AC x0 x1 s0 s1 s2 s3 s4 s5 s6 s7 s8 s9 r0 r1 rf u0 u1;have RB:=hid (RR.out _ B5);have L5:=hid (L3.out.trans (B5.out.mono S0));obtain⟨r0,r1⟩:=RB.out.two;have rf:=RB.out.jC;go_wp2;refine bodyPost_ret (Am _ _ (w.heap.size+1+1) 4 _ _ _ _ Tryz.results60 ((RB.out.jB (i:=0) _).jB (i:=1) _) rfl rfl rfl) rfl ⟨lt,lo,lt',lo',ta,ca',oa,co',c,tx,rfl,?_,?_,SM,.act SO t ht HT P5⟩
     ·exact((K5.out.base S0).set RB (.inl rfl) _).set (RB.out.jB (i:=0) _) (.inl rfl) _
     ·exact(L5.out.setCell (by dsimp only;omega) _).setCell (by dsimp only;omega) _
    ·skip;have k1:(s.kind==1)=false:=(by rw[hk];rfl);have d1:decide (s.kind=1)=false:=(by rw[hk];rfl);have k12:(s.kind==12)=false:=(by rw[hk];rfl);have d12:decide (s.kind=12)=false:=(by rw[hk];rfl);have k14:(s.kind==14)=false:=(by rw[hk];rfl);have d14:decide (s.kind=14)=false:=(by rw[hk];rfl);have k2:(s.kind==2)=false:=(by rw[hk];rfl);have d2:decide (s.kind=2)=false:=(by rw[hk];rfl);have k3:(s.kind==3)=false:=(by rw[hk];rfl);have d3:decide (s.kind=3)=false:=(by rw[hk];rfl);have k4:(s.kind==4)=true:=(by rw[hk];rfl);have d4:decide (s.kind=4)=true:=(by rw[hk];rfl);have k5:(s.kind==5)=false:=(by rw[hk];rfl);have d5:decide (s.kind=5)=false:=(by rw[hk];rfl);have k11:(s.kind==11)=false:=(by rw[hk];rfl);have d11:decide (s.kind=11)=false:=(by rw[hk];rfl);clear hk;have AC:=hid (Lz lt lo g ca q co V w3 KS3 SZ3 OKL t ht s SA3 SO HKD);go_wp2_with fail
     refine AC.out.mono ?_;rintro e w5 ⟨lt',lo',ta,ca',oa,co',c,tx,rfl,k5,b5,p5⟩;have K5:=hid k5;have B5:=hid b5;have P5:=hid p5;clear k5 b5 p5 AC x0 x1 s0 s1 s2 s3 s4 s5 s6 s7 s8 s9 r0 r1 rf u0 u1;have RB:=hid (RR.out _ B5);have L5:=hid (L3.out.trans (B5.out.mono S0));obtain⟨r0,r1⟩:=RB.out.two;have rf:=RB.out.jC;go_wp2;refine bodyPost_ret (Am _ _ (w.heap.size+1+1) 4 _ _ _ _ Tryz.results60 ((RB.out.jB (i:=0) _).jB (i:=1) _) rfl rfl rfl) rfl ⟨lt,lo,lt',lo',ta,ca',oa,co',c,tx,rfl,?_,?_,SM,.act SO t ht HT P5⟩
     ·exact((K5.out.base S0).set RB (.inl rfl) _).set (RB.out.jB (i:=0) _) (.inl rfl) _
     ·exact(L5.out.setCell (by dsimp only;omega) _).setCell (by dsimp only;omega) _
    ·skip;have k1:(s.kind==1)=false:=(by rw[hk];rfl);have d1:decide (s.kind=1)=false:=(by rw[hk];rfl);have k12:(s.kind==12)=false:=(by rw[hk];rfl);have d12:decide (s.kind=12)=false:=(by rw[hk];rfl);have k14:(s.kind==14)=false:=(by rw[hk];rfl);have d14:decide (s.kind=14)=false:=(by rw[hk];rfl);have k2:(s.kind==2)=false:=(by rw[hk];rfl);have d2:decide (s.kind=2)=false:=(by rw[hk];rfl);have k3:(s.kind==3)=false:=(by rw[hk];rfl);have d3:decide (s.kind=3)=false:=(by rw[hk];rfl);have k4:(s.kind==4)=false:=(by rw[hk];rfl);have d4:decide (s.kind=4)=false:=(by rw[hk];rfl);have k5:(s.kind==5)=true:=(by rw[hk];rfl);have d5:decide (s.kind=5)=true:=(by rw[hk];rfl);have k11:(s.kind==11)=false:=(by rw[hk];rfl);have d11:decide (s.kind=11)=false:=(by rw[hk];rfl);clear hk;have AC:=hid (Lz lt lo g ca q co V w3 KS3 SZ3 OKL t ht s SA3 SO HKD);go_wp2_with fail
     refine AC.out.mono ?_;rintro e w5 ⟨lt',lo',ta,ca',oa,co',c,tx,rfl,k5,b5,p5⟩;have K5:=hid k5;have B5:=hid b5;have P5:=hid p5;clear k5 b5 p5 AC x0 x1 s0 s1 s2 s3 s4 s5 s6 s7 s8 s9 r0 r1 rf u0 u1;have RB:=hid (RR.out _ B5);have L5:=hid (L3.out.trans (B5.out.mono S0));obtain⟨r0,r1⟩:=RB.out.two;have rf:=RB.out.jC;go_wp2;refine bodyPost_ret (Am _ _ (w.heap.size+1+1) 4 _ _ _ _ Tryz.results60 ((RB.out.jB (i:=0) _).jB (i:=1) _) rfl rfl rfl) rfl ⟨lt,lo,lt',lo',ta,ca',oa,co',c,tx,rfl,?_,?_,SM,.act SO t ht HT P5⟩
     ·exact((K5.out.base S0).set RB (.inl rfl) _).set (RB.out.jB (i:=0) _) (.inl rfl) _
     ·exact(L5.out.setCell (by dsimp only;omega) _).setCell (by dsimp only;omega) _
   ·have HKD:=hid hk;have k1:(s.kind==1)=false:=(by rw[hk];rfl);have d1:decide (s.kind=1)=false:=(by rw[hk];rfl);have k12:(s.kind==12)=false:=(by rw[hk];rfl);have d12:decide (s.kind=12)=false:=(by rw[hk];rfl);have k14:(s.kind==14)=false:=(by rw[hk];rfl);have d14:decide (s.kind=14)=false:=(by rw[hk];rfl);have k2:(s.kind==2)=false:=(by rw[hk];rfl);have d2:decide (s.kind=2)=false:=(by rw[hk];rfl);have k3:(s.kind==3)=false:=(by rw[hk];rfl);have d3:decide (s.kind=3)=false:=(by rw[hk];rfl);have k4:(s.kind==4)=false:=(by rw[hk];rfl);have d4:decide (s.kind=4)=false:=(by rw[hk];rfl);have k5:(s.kind==5)=false:=(by rw[hk];rfl);have d5:decide (s.kind=5)=false:=(by rw[hk];rfl);have k11:(s.kind==11)=true:=(by rw[hk];rfl);have d11:decide (s.kind=11)=true:=(by rw[hk];rfl);clear hk;have AC:=hid (YF lt lo g ca q co V w3 KS3 SZ3 OKL t ht s SA3 SO HKD);go_wp2_with fail
    refine AC.out.mono ?_;rintro e w5 ⟨lt',lo',ta,ca',oa,co',c,tx,rfl,k5,b5,p5⟩;have K5:=hid k5;have B5:=hid b5;have P5:=hid p5;clear k5 b5 p5 AC x0 x1 s0 s1 s2 s3 s4 s5 s6 s7 s8 s9 r0 r1 rf u0 u1;have RB:=hid (RR.out _ B5);have L5:=hid (L3.out.trans (B5.out.mono S0));obtain⟨r0,r1⟩:=RB.out.two;have rf:=RB.out.jC;go_wp2;refine bodyPost_ret (Am _ _ (w.heap.size+1+1) 4 _ _ _ _ Tryz.results60 ((RB.out.jB (i:=0) _).jB (i:=1) _) rfl rfl rfl) rfl ⟨lt,lo,lt',lo',ta,ca',oa,co',c,tx,rfl,?_,?_,SM,.act SO t ht HT P5⟩
    ·exact((K5.out.base S0).set RB (.inl rfl) _).set (RB.out.jB (i:=0) _) (.inl rfl) _
    ·exact(L5.out.setCell (by dsimp only;omega) _).setCell (by dsimp only;omega) _
   ·have HKD:=hid hk;have k1:(s.kind==1)=false:=(by simp only[beq_eq_false_iff_ne,ne_eq];omega);have d1:decide (s.kind=1)=false:=decide_eq_false (by omega);have k12:(s.kind==12)=false:=(by simp only[beq_eq_false_iff_ne,ne_eq];omega);have d12:decide (s.kind=12)=false:=decide_eq_false (by omega);have k14:(s.kind==14)=false:=(by simp only[beq_eq_false_iff_ne,ne_eq];omega);have d14:decide (s.kind=14)=false:=decide_eq_false (by omega);have k2:(s.kind==2)=false:=(by simp only[beq_eq_false_iff_ne,ne_eq];omega);have d2:decide (s.kind=2)=false:=decide_eq_false (by omega);have k3:(s.kind==3)=false:=(by simp only[beq_eq_false_iff_ne,ne_eq];omega);have d3:decide (s.kind=3)=false:=decide_eq_false (by omega);have k4:(s.kind==4)=false:=(by simp only[beq_eq_false_iff_ne,ne_eq];omega);have d4:decide (s.kind=4)=false:=decide_eq_false (by omega);have k5:(s.kind==5)=false:=(by simp only[beq_eq_false_iff_ne,ne_eq];omega);have d5:decide (s.kind=5)=false:=decide_eq_false (by omega);have k11:(s.kind==11)=false:=(by simp only[beq_eq_false_iff_ne,ne_eq];omega);have d11:decide (s.kind=11)=false:=decide_eq_false (by omega);clear hk;have AC:=hid (bg lt lo g ca q co V w3 KS3 SZ3 OKL t ht s SA3 SO HKD);go_wp2_with fail
    refine AC.out.mono ?_;rintro e w5 ⟨lt',lo',ta,ca',oa,co',c,tx,rfl,k5,b5,p5⟩;have K5:=hid k5;have B5:=hid b5;have P5:=hid p5;clear k5 b5 p5 AC x0 x1 s0 s1 s2 s3 s4 s5 s6 s7 s8 s9 r0 r1 rf u0 u1;have RB:=hid (RR.out _ B5);have L5:=hid (L3.out.trans (B5.out.mono S0));obtain⟨r0,r1⟩:=RB.out.two;have rf:=RB.out.jC;go_wp2;refine bodyPost_ret (Am _ _ (w.heap.size+1+1) 4 _ _ _ _ Tryz.results60 ((RB.out.jB (i:=0) _).jB (i:=1) _) rfl rfl rfl) rfl ⟨lt,lo,lt',lo',ta,ca',oa,co',c,tx,rfl,?_,?_,SM,.act SO t ht HT P5⟩
    ·exact((K5.out.base S0).set RB (.inl rfl) _).set (RB.out.jB (i:=0) _) (.inl rfl) _
    ·exact(L5.out.setCell (by dsimp only;omega) _).setCell (by dsimp only;omega) _
theorem cx{k:AJ}(ok:AW k=true):∀i,i<k.on->0<=(k.O i).id/\(k.O i).id<=1000000:=fun i hi=>by
 have h:=Cl.1 ok;by_cases h0:i=0
 ·subst h0;have r:=h.root;unfold FJ at r;simp only[Bool.and_eq_true,beq_iff_eq]at r;omega
 ·obtain⟨t,h1,h2,h3,h4⟩:=GV h.thr (h.num i (by omega) hi);have f:=(Cx h.thr).2.2 t h1;unfold Dw at f;simp only[Bool.and_eq_true]at f;have g:=JL.1 f.1;have:=g.id;have:=g.made;omega
theorem Ui{x:Int}(h:0<=x/\x<=1000000):(Lit.int .i64 x).wf=true:=by
 have e1:IntKind.i64.min= -9223372036854775808:=by decide
 have e2:IntKind.i64.max=9223372036854775807:=by decide
 simp[Lit.wf,e1,e2];omega
theorem Tk(k:AJ)(w:World)(hk:k.at w)(ok:AW k=true)(s:Bd)(hs:s.at w):
 Calls prog 34 #[.agg #[.slice k.ta k.tn k.tk,.slice k.oa k.on k.ok],.agg s] w fun e w'=>∃(lt:List Af) (lo:List Ae) (lt':List Af) (lo':List Ae) (ta:Option Addr) (ca:Nat) (oa:Option Addr) (co:Nat) (c:Int) (tx:ByteArray),e= .returned (.tuple #[.agg #[.slice ta lt'.length ca,.slice oa lo'.length co],.int .i64 c,.string tx])/\Cf w' w (.slice ta lt'.length ca) (.slice oa lo'.length co) lt' lo'/\Below w w w'/\k.same (Dm none 0 none 0 lt lo)/\Zr lt lo s c tx lt' lo':=by
 have n1:No (.cells s 77):=⟨⟩;have n3:Na #[.slice k.ta k.tn k.tk,.slice k.oa k.on k.ok]:=⟨⟩;have n4:No (.cells #[.slice none 0 0,.slice none 0 0] 27):=⟨⟩;have n2:Nw (((w.alloc (.cells n3 27)).alloc n1).alloc n4):=⟨⟩;have b0:Below w w n2:=((CY w _).alloc (by simp) _).alloc (by simp;omega) _;have A0:Ai n2 w (.cells n3 27):=((Ai.new w _).alloc _).alloc _;have P0:Ai n2 (w.heap.size+1) n1:=by have:=(Ai.new (w.alloc (.cells n3 27)) n1).alloc n4;simpa using this
 have R0:Ai n2 (w.heap.size+1+1) n4:=by have:=Ai.new ((w.alloc (.cells n3 27)).alloc n1) n4;simpa using this
 have HK:=hid hk;have OK:=hid ok;have SA:=hid hs;have HB:=hid b0;have HA:=hid A0;have HP:=hid P0;have HR:=hid R0;clear b0 A0 P0 R0 hk ok hs;go_enter func34,ntmps34
 obtain⟨x0,x1⟩:=HA.out.two;obtain⟨s0,s1,s2,s3,s4,s5,s6,s7,s8,s9⟩:=HP.out.jE;go_wp2_with fail
 clear x0 x1 s0 s1 s2 s3 s4 s5 s6 s7 s8 s9;have S0:=hid HB.out.size;generalize (n2:World)=V at *;have C1:Hid (Calls prog 19 #[.agg n3] V fun e w'=>e= .returned (.bool true)/\Below V V w'):=hid (by
  have h:=MU k V (HK.out.below HB) (fun i hi=>Ui (cx OK i hi));rw[OK.out]at h;exact h)
 refine C1.out.mono ?_;rintro e w1 ⟨rfl,hb1⟩;have B1:=hid hb1;have L1:=hid (Ac HB hb1);clear hb1;obtain⟨x0,x1⟩:=(HA.out.below B1).two;obtain⟨s0,s1,s2,s3,s4,s5,s6,s7,s8,s9⟩:=(HP.out.below B1).jE;go_wp2_with fail
 refine(Vv k w1 (HK.out.below L1) OK s (SA.out.below L1)).mono ?_;rintro e w2 ⟨lt,lo,lt',lo',ta,ca,oa,co,c,tx,rfl,k2,b2,sm,dp⟩;have K2:=hid (k2.base L1.out.size);have L2:=hid (Ac L1 b2);have SM:=hid sm;have DP:=hid dp;have RB:=hid ((HR.out.below B1).below b2);clear k2 b2 sm dp x0 x1 s0 s1 s2 s3 s4 s5 s6 s7 s8 s9;obtain⟨r0,r1⟩:=RB.out.two;have rf:=RB.out.jC;go_wp2;refine bodyPost_ret (Am _ _ (w.heap.size+1+1) 4 _ _ _ _ Tryz.results34 ((RB.out.jB (i:=0) _).jB (i:=1) _) rfl rfl rfl) rfl ⟨lt,lo,lt',lo',ta,ca,oa,co,c,tx,rfl,?_,?_,SM,DP⟩
 ·exact(K2.out.set RB (.inl rfl) _).set (RB.out.jB (i:=0) _) (.inl rfl) _
 ·exact(L2.out.setCell (by dsimp only;omega) _).setCell (by dsimp only;omega) _
variable {a b c W w:World}{P t B n i B':Nat}{x y v:Value}{f g f' g':Nat->Int}
theorem Da{row:Option Nat}(h:a.grownBy b (some P))(k:b.grownBy c row)(hr:∀j,row=some j->a.heap.size<=j):a.grownBy c (some P):=
 ⟨k.os.trans h.os,k.tape.trans h.tape,k.output.trans h.output,Nat.le_trans h.size k.size,fun j hj hne=>(k.block j (Nat.lt_of_lt_of_le hj h.size) (fun e=>by have:=hr j e.symm;omega)).trans (h.block j hj hne)⟩
theorem Ai.set1(h:Ai W P (.cells #[x,y] t))(v:Value):Ai (W.setCell ⟨P,1,none⟩ v) P (.cells #[x,v] t):=by
 unfold Ai at *;simp[World.setCell,Array.getElem?_modify,h]
theorem Ai.jQ(h:Ai W P (.cells #[x,y] t))(i:Nat):W.frozen? ⟨P,i,none⟩=false:=by
 unfold Ai at h;simp[World.frozen?,h]
theorem As.alloc(h:As w B v n f g)(o:Obj):As (w.alloc o) B v n f g:=World.ownsRow.alloc h o
theorem Kp(w:World)(x y:Int):Bi (w.alloc (.cells #[.int .i64 x,.int .i64 y] 96)) (some ⟨w,0,none⟩) 1 (fun _=>x) (fun _=>y):=fun _=>by
 obtain⟨h1,h2⟩:=Ai.two (Ai.new w (.cells #[.int .i64 x,.int .i64 y] 96));refine⟨w,0,rfl,by simp,fun i hi=>?_⟩;obtain rfl:i=0:=by omega
 exact⟨h1,h2⟩
def Az(l:List (Int×Int))(i:Nat):Int:=(l.getD i (0,0)).1
def Ay(l:List (Int×Int))(i:Nat):Int:=(l.getD i (0,0)).2
theorem Qi{l:List (Int×Int)}{p:Int×Int}(h:i<l.length):Az (l++[p]) i=Az l i:=by
 simp[Az,List.getElem?_append_left h]
theorem Qn{l:List (Int×Int)}{p:Int×Int}(h:i<l.length):Ay (l++[p]) i=Ay l i:=by
 simp[Ay,List.getElem?_append_left h]
theorem Qa(l:List (Int×Int))(p:Int×Int):Az (l++[p]) l.length=p.1:=by simp[Az]
theorem Qp(l:List (Int×Int))(p:Int×Int):Ay (l++[p]) l.length=p.2:=by simp[Ay]
theorem Py(hf:∀i,i<n->f i=f' i)(hg:∀i,i<n->g i=g' i):Cw f g n=Cw f' g' n:=by
 unfold Cw;apply List.map_congr_left;intro j hj;have hj':j<n*2:=List.mem_range.1 hj;have:j/2<n:=by omega
 unfold Dp;rw[hf _ this,hg _ this]
theorem As.congr(h:As w B v n f g)(hf:∀i,i<n->f i=f' i)(hg:∀i,i<n->g i=g' i):As w B v n f' g':=by
 unfold As at *;rw[<-Py hf hg];exact h
def An(w:World)(B:Nat)(v:Value)(l:List (Int×Int)):Prop:=As w B v l.length (Az l) (Ay l)
theorem An.snoc{l:List (Int×Int)}{x y:Int}(h:As w B v (l.length+1) (glue l.length (Az l) (fun _=>x)) (glue l.length (Ay l) (fun _=>y))):An w B v (l++[(x,y)]):=by
 unfold An;rw[List.length_append];refine h.congr (fun i hi=>?_) (fun i hi=>?_)
 ·by_cases e:i<l.length
  ·simp only[glue,e,if_true];rw[Qi e]
  ·obtain rfl:i=l.length:=by have hi':i<l.length+1:=hi;omega
   rw[Qa];simp[glue]
 ·by_cases e:i<l.length
  ·simp only[glue,e,if_true];rw[Qn e]
  ·obtain rfl:i=l.length:=by have hi':i<l.length+1:=hi;omega
   rw[Qp];simp[glue]
theorem An.below{w':World}{l:List (Int×Int)}(h:An w B v l)(hb:Below w w w'):An w' B v l:=by
 refine⟨h.1,?_⟩;rcases h.2 with hn|⟨g,cap,cur,hv,hbg,hg,rest⟩
 ·exact .inl hn
 ·exact .inr ⟨g,cap,cur,hv,hbg,(hb.block g (Array.getElem?_eq_some_iff.1 hg).1).trans hg,rest⟩
theorem An.set{l:List (Int×Int)}(h:An w B v l)(hP:P<B)(i:Nat)(x:Value):An (w.setCell ⟨P,i,none⟩ x) B v l:=
 World.ownsRow.kept h (Ck (Bs w P) i x) (Or.inr (fun e=>by have:=(World.ownsRow.lt h _ e).1;omega))
theorem An.low{l:List (Int×Int)}(h:An w B v l)(hB:B'<=B):An w B' v l:=by
 refine⟨h.1,?_⟩;rcases h.2 with hn|⟨g,cap,cur,hv,hb,rest⟩
 ·exact .inl hn
 ·exact .inr ⟨g,cap,cur,hv,by omega,rest⟩
theorem ownsRow_base_a{e size:Nat}{cs:List Value}(h:w.ownsRow B e size v n cs)(hB:B'<=B):w.ownsRow B' e size v n cs:=by
 refine⟨h.1,?_⟩;rcases h.2 with hn|⟨g,cap,cur,hv,hbg,rest⟩
 ·exact .inl hn
 ·exact .inr ⟨g,cap,cur,hv,Nat.le_trans hB hbg,rest⟩
theorem Kc(h:a.grownBy b (some P))(k:Below b b c):a.grownBy c (some P):=
 ⟨k.os.trans h.os,k.tape.trans h.tape,k.output.trans h.output,Nat.le_trans h.size k.size,fun j hj hne=>(k.block j (Nat.lt_of_lt_of_le hj h.size)).trans (h.block j hj hne)⟩
theorem Ai.set0(h:Ai W P (.cells #[x,y] t))(v:Value):Ai (W.setCell ⟨P,0,none⟩ v) P (.cells #[v,y] t):=by
 unfold Ai at *;simp[World.setCell,Array.getElem?_modify,h]
def FZ(base:Int)(f g:Nat->Int)(cat level:Int):Nat->List (Int×Int)×Bool
 |0=>([],level==base)
 |k+1=>
  let r:=FZ base f g cat level k
  let q:=if !r.2&&decide (cat<=f k)then(r.1++[(cat,level)],true)else r
  (if f k=cat then q.1 else q.1++[(f k,g k)],q.2)
def Et(base:Int)(n:Nat)(f g:Nat->Int)(cat level:Int):List (Int×Int):=
 let r:=FZ base f g cat level n
 if r.2 then r.1 else r.1++[(cat,level)]
theorem XG(base:Int)(f g:Nat->Int)(cat level:Int)(k:Nat):(FZ base f g cat level k).1.length<=2*k:=by
 induction k with
 |zero=>simp[FZ]
 |succ k ih=>
  simp only[FZ];split<;>split<;>(try simp only[List.length_append,List.length_singleton])<;>omega
end Go.Proofs.YtblapfnglojgjaaGreatDoor
